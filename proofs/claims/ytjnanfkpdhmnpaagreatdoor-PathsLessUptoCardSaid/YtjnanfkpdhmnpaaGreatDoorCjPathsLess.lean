import Derived.Test.YtjnanfkpdhmnpaaGreatDoorLz
import Derived.Test.YtjnanfkpdhmnpaaGreatDoorTie
import Derived.Test.YtjnanfkpdhmnpaaGreatDoorCards
import Derived.LaidMore
import Derived.OpenShut
import Derived.Stop.Joined
import Derived.SevenTiedAt
import Derived.ChangeMaps5
import Derived.Deep.DeepHandedRow
import Derived.JoinedCond
namespace Go.Proofs.YtjnanfkpdhmnpaaGreatDoor
open Go Go.RowKit Go.Eng Go.ChangeShapes Go.WideShapes Go.ChangeAt Go.Joins Go.Deep Go.WideMaps Go.WideElems
theorem FR{a b:Bool}(ha:a=true)(hb:b=true):(a&&b)=true:=by rw [ha,hb];rfl
theorem aj:(Rows.pathsLessUptoRow.wf (OpenSpec.ofChange (Rows.OpenSpec.upto Rows.pathsLessSpec).bare))=true:=by kernel_rfl
theorem ai:(laidOutB Tryz.prog)=true:=by kernel_rfl
theorem ah:(mapsRowed Tryz.prog)=true:=by kernel_rfl
theorem ag:(Tryz.f3.params.all (Tryz.prog.readableRec ·))=true:=by kernel_rfl
theorem ae:(namedTie Tryz.prog Rows.pathsLessUptoRow.named (Rows.OpenSpec.upto Rows.pathsLessSpec).bare.vars)=true:=by kernel_rfl
theorem ad:((Rows.pathsLessUptoRow.stops==[]))=true:=by kernel_rfl
theorem ab:((Tryz.prog.stops==[]))=true:=by kernel_rfl
theorem aa:((Rows.pathsLessUptoRow.knobs==[]))=true:=by kernel_rfl
theorem ZZ:((Tryz.prog.stopKnobs==[]))=true:=by kernel_rfl
theorem ZY:((Rows.pathsLessUptoRow.inPlace==Tryz.prog.inPlace 3))=true:=by kernel_rfl
theorem Ym:((Rows.pathsLessUptoRow.unfollowed==Tryz.prog.unfollowed 3))=true:=by kernel_rfl
theorem Yl:((Rows.pathsLessUptoRow.recurses==Tryz.prog.recurses 3))=true:=by kernel_rfl
theorem Yk:((Rows.pathsLessUptoRow.named==Tryz.prog.varsNamed 3))=true:=by kernel_rfl
theorem Yj:((Rows.pathsLessUptoRow.maps==(Tryz.f3.params.toList++(Rows.OpenSpec.upto Rows.pathsLessSpec).bare.plain.varTypes Tryz.prog).any (Tryz.prog.mapsRec ·)))=true:=by kernel_rfl
theorem Yi:((Rows.pathsLessUptoRow.ifaces==(Tryz.f3.params.toList++(Rows.OpenSpec.upto Rows.pathsLessSpec).bare.plain.varTypes Tryz.prog).any (Tryz.prog.ifacesRec ·)))=true:=by kernel_rfl
theorem Yh:((Rows.pathsLessUptoRow.mapsOut==Tryz.prog.mapsAmong Tryz.f3.resultTypes.toList))=true:=by kernel_rfl
theorem Yg:((Rows.pathsLessUptoRow.loops==(Tryz.f3.params.toList++(Rows.OpenSpec.upto Rows.pathsLessSpec).bare.plain.varTypes Tryz.prog).any (Tryz.prog.loopsFrom ·)))=true:=by kernel_rfl
theorem Yf:((Rows.pathsLessUptoRow.wideKeys==(Tryz.f3.params.toList++(Rows.OpenSpec.upto Rows.pathsLessSpec).bare.plain.varTypes Tryz.prog++Tryz.f3.resultTypes.toList).any (Tryz.prog.wideKeysFrom ·)))=true:=by kernel_rfl
theorem Ye:((Rows.OpenSpec.upto Rows.pathsLessSpec).bare.vars.all (Tryz.prog.varReadable ·))=true:=by kernel_rfl
theorem Yd:(Tryz.f3.resultTypes.all (λt=>Tryz.prog.readableRec t&&decide (t<Tryz.prog.types.size)))=true:=by kernel_rfl
theorem Yc:((Rows.pathsLessUptoRow.ifacesOut==Tryz.f3.resultTypes.toList.any (Tryz.prog.ifacesRec ·)))=true:=by kernel_rfl
theorem Yb:((Rows.pathsLessUptoRow.loopsOut==Tryz.f3.resultTypes.toList.any (Tryz.prog.loopsFrom ·)))=true:=by kernel_rfl
theorem Ya:((Rows.pathsLessUptoRow.plainKeys==Tryz.prog.plainKeys))=true:=by kernel_rfl
theorem XZ:(Rows.pathsLessUptoRow.shortTexts.isNone)=true:=by kernel_rfl
theorem XY:(Tryz.prog.stopsHeard)=true:=by kernel_rfl
theorem XX:(Tryz.prog.mayEnter)=true:=by kernel_rfl
theorem XW:((Rows.pathsLessUptoRow.lifted==Tryz.prog.liftsFinal))=true:=by kernel_rfl
theorem XV:((Tryz.prog.make==some Rows.pathsLessUptoRow.make))=true:=by kernel_rfl
theorem XU:((Rows.pathsLessUptoRow.kinds==(if Rows.pathsLessUptoRow.domain.isEmpty then [] else Tryz.f3.params.toList.map λt=>match Tryz.prog.underlying t with|some (.int k)=>some k|_=>none)))=true:=by kernel_rfl
theorem XT:((Rows.pathsLessUptoRow.pinned==Rows.pathsLessUptoRow.pinnedBy))=true:=by kernel_rfl
theorem XS:((Rows.pathsLessUptoRow.veiled==(Tryz.f3.params.toList++(Rows.OpenSpec.upto Rows.pathsLessSpec).bare.plain.varTypes Tryz.prog++Tryz.f3.resultTypes.toList).any (Tryz.prog.veiledRec ·)))=true:=by kernel_rfl
theorem XR:(Rows.pathsLessUptoRow.veiledFits Tryz.prog Tryz.f3.params.toList (Tryz.f3.params.toList++(Rows.OpenSpec.upto Rows.pathsLessSpec).bare.plain.varTypes Tryz.prog++Tryz.f3.resultTypes.toList))=true:=by kernel_rfl
set_option maxRecDepth 100000 in
theorem pathsLess_closed:joinedFacts Tryz.prog 3 Tryz.f3 (Rows.OpenSpec.upto Rows.pathsLessSpec).bare Rows.pathsLessUptoRow=true:=by
 unfold joinedFacts
 exact(FR (FR (FR (FR (FR (FR (FR (FR (FR (FR (FR (FR (FR (FR (FR (FR (FR (FR (FR (FR (FR (FR (FR (FR (FR (FR (FR (FR (FR (FR (FR aj ai) ah) ag) ae) ad) ab) aa) ZZ) ZY) Ym) Yl) Yk) Yj) Yi) Yh) Yg) Yf) Ye) Yd) Yc) Yb) Ya) XZ) XY) XX) XW) XV) XU) XT) XS) XR)
end Go.Proofs.YtjnanfkpdhmnpaaGreatDoor
