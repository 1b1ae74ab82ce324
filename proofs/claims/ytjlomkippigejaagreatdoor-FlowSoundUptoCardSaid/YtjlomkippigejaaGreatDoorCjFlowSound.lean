import Derived.Test.YtjlomkippigejaaGreatDoorLz
import Derived.Test.YtjlomkippigejaaGreatDoorTie
import Derived.Test.YtjlomkippigejaaGreatDoorCards
import Derived.LaidMore
import Derived.OpenShut
import Derived.Stop.Joined
import Derived.SevenTiedAt
import Derived.ChangeMaps5
import Derived.Deep.DeepHandedRow
import Derived.JoinedCond
namespace Go.Proofs.YtjlomkippigejaaGreatDoor
open Go Go.RowKit Go.Eng Go.ChangeShapes Go.WideShapes Go.ChangeAt Go.Joins Go.Deep Go.WideMaps Go.WideElems
theorem FB{a b:Bool}(ha:a=true)(hb:b=true):(a&&b)=true:=by rw [ha,hb];rfl
theorem aC:(Rows.flowSoundUptoRow.wf (OpenSpec.ofChange (Rows.OpenSpec.upto Rows.flowSoundSpec).bare))=true:=by kernel_rfl
theorem aA:(laidOutB Tryz.prog)=true:=by kernel_rfl
theorem az:(mapsRowed Tryz.prog)=true:=by kernel_rfl
theorem ay:(Tryz.f3.params.all (Tryz.prog.readableRec ·))=true:=by kernel_rfl
theorem ax:(namedTie Tryz.prog Rows.flowSoundUptoRow.named (Rows.OpenSpec.upto Rows.flowSoundSpec).bare.vars)=true:=by kernel_rfl
theorem aw:((Rows.flowSoundUptoRow.stops==[]))=true:=by kernel_rfl
theorem au:((Tryz.prog.stops==[]))=true:=by kernel_rfl
theorem ar:((Rows.flowSoundUptoRow.knobs==[]))=true:=by kernel_rfl
theorem aq:((Tryz.prog.stopKnobs==[]))=true:=by kernel_rfl
theorem ao:((Rows.flowSoundUptoRow.inPlace==Tryz.prog.inPlace 3))=true:=by kernel_rfl
theorem Yn:((Rows.flowSoundUptoRow.unfollowed==Tryz.prog.unfollowed 3))=true:=by kernel_rfl
theorem Ym:((Rows.flowSoundUptoRow.recurses==Tryz.prog.recurses 3))=true:=by kernel_rfl
theorem Yl:((Rows.flowSoundUptoRow.named==Tryz.prog.varsNamed 3))=true:=by kernel_rfl
theorem Yk:((Rows.flowSoundUptoRow.maps==(Tryz.f3.params.toList++(Rows.OpenSpec.upto Rows.flowSoundSpec).bare.plain.varTypes Tryz.prog).any (Tryz.prog.mapsRec ·)))=true:=by kernel_rfl
theorem Yj:((Rows.flowSoundUptoRow.ifaces==(Tryz.f3.params.toList++(Rows.OpenSpec.upto Rows.flowSoundSpec).bare.plain.varTypes Tryz.prog).any (Tryz.prog.ifacesRec ·)))=true:=by kernel_rfl
theorem Yi:((Rows.flowSoundUptoRow.mapsOut==Tryz.prog.mapsAmong Tryz.f3.resultTypes.toList))=true:=by kernel_rfl
theorem Yh:((Rows.flowSoundUptoRow.loops==(Tryz.f3.params.toList++(Rows.OpenSpec.upto Rows.flowSoundSpec).bare.plain.varTypes Tryz.prog).any (Tryz.prog.loopsFrom ·)))=true:=by kernel_rfl
theorem Yg:((Rows.flowSoundUptoRow.wideKeys==(Tryz.f3.params.toList++(Rows.OpenSpec.upto Rows.flowSoundSpec).bare.plain.varTypes Tryz.prog++Tryz.f3.resultTypes.toList).any (Tryz.prog.wideKeysFrom ·)))=true:=by kernel_rfl
theorem Yf:((Rows.OpenSpec.upto Rows.flowSoundSpec).bare.vars.all (Tryz.prog.varReadable ·))=true:=by kernel_rfl
theorem Ye:(Tryz.f3.resultTypes.all (λt=>Tryz.prog.readableRec t&&decide (t<Tryz.prog.types.size)))=true:=by kernel_rfl
theorem Yd:((Rows.flowSoundUptoRow.ifacesOut==Tryz.f3.resultTypes.toList.any (Tryz.prog.ifacesRec ·)))=true:=by kernel_rfl
theorem Yc:((Rows.flowSoundUptoRow.loopsOut==Tryz.f3.resultTypes.toList.any (Tryz.prog.loopsFrom ·)))=true:=by kernel_rfl
theorem Yb:((Rows.flowSoundUptoRow.plainKeys==Tryz.prog.plainKeys))=true:=by kernel_rfl
theorem Ya:(Rows.flowSoundUptoRow.shortTexts.isNone)=true:=by kernel_rfl
theorem XZ:(Tryz.prog.stopsHeard)=true:=by kernel_rfl
theorem XY:(Tryz.prog.mayEnter)=true:=by kernel_rfl
theorem XX:((Rows.flowSoundUptoRow.lifted==Tryz.prog.liftsFinal))=true:=by kernel_rfl
theorem XW:((Tryz.prog.make==some Rows.flowSoundUptoRow.make))=true:=by kernel_rfl
theorem XV:((Rows.flowSoundUptoRow.kinds==(if Rows.flowSoundUptoRow.domain.isEmpty then [] else Tryz.f3.params.toList.map λt=>match Tryz.prog.underlying t with|some (.int k)=>some k|_=>none)))=true:=by kernel_rfl
theorem XU:((Rows.flowSoundUptoRow.pinned==Rows.flowSoundUptoRow.pinnedBy))=true:=by kernel_rfl
theorem XT:((Rows.flowSoundUptoRow.veiled==(Tryz.f3.params.toList++(Rows.OpenSpec.upto Rows.flowSoundSpec).bare.plain.varTypes Tryz.prog++Tryz.f3.resultTypes.toList).any (Tryz.prog.veiledRec ·)))=true:=by kernel_rfl
theorem XS:(Rows.flowSoundUptoRow.veiledFits Tryz.prog Tryz.f3.params.toList (Tryz.f3.params.toList++(Rows.OpenSpec.upto Rows.flowSoundSpec).bare.plain.varTypes Tryz.prog++Tryz.f3.resultTypes.toList))=true:=by kernel_rfl
set_option maxRecDepth 100000 in
theorem flowSound_closed:joinedFacts Tryz.prog 3 Tryz.f3 (Rows.OpenSpec.upto Rows.flowSoundSpec).bare Rows.flowSoundUptoRow=true:=by
 unfold joinedFacts
 exact(FB (FB (FB (FB (FB (FB (FB (FB (FB (FB (FB (FB (FB (FB (FB (FB (FB (FB (FB (FB (FB (FB (FB (FB (FB (FB (FB (FB (FB (FB (FB aC aA) az) ay) ax) aw) au) ar) aq) ao) Yn) Ym) Yl) Yk) Yj) Yi) Yh) Yg) Yf) Ye) Yd) Yc) Yb) Ya) XZ) XY) XX) XW) XV) XU) XT) XS)
end Go.Proofs.YtjlomkippigejaaGreatDoor
