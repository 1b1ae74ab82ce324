import Derived.Test.YtoolcgbcfgnipaaGreatDoorLz
import Derived.Test.YtoolcgbcfgnipaaGreatDoorTie
import Derived.Test.YtoolcgbcfgnipaaGreatDoorCards
import Derived.LaidMore
import Derived.OpenShut
import Derived.Stop.Joined
import Derived.SevenTiedAt
import Derived.ChangeMaps5
import Derived.Deep.DeepHandedRow
import Derived.JoinedCond
namespace Go.Proofs.YtoolcgbcfgnipaaGreatDoor
open Go Go.RowKit Go.Eng Go.ChangeShapes Go.WideShapes Go.ChangeAt Go.Joins Go.Deep Go.WideMaps Go.WideElems
theorem EZ{a b:Bool}(ha:a=true)(hb:b=true):(a&&b)=true:=by rw [ha,hb];rfl
theorem bk:(Rows.flowLessUptoRow.wf (OpenSpec.ofChange (Rows.OpenSpec.upto Rows.flowLessSpec).bare))=true:=by kernel_rfl
theorem bj:(laidOutB Tryz.prog)=true:=by kernel_rfl
theorem bi:(mapsRowed Tryz.prog)=true:=by kernel_rfl
theorem bg:(Tryz.f3.params.all (Tryz.prog.readableRec ·))=true:=by kernel_rfl
theorem bf:(namedTie Tryz.prog Rows.flowLessUptoRow.named (Rows.OpenSpec.upto Rows.flowLessSpec).bare.vars)=true:=by kernel_rfl
theorem be:((Rows.flowLessUptoRow.stops==[]))=true:=by kernel_rfl
theorem bc:((Tryz.prog.stops==[]))=true:=by kernel_rfl
theorem ba:((Rows.flowLessUptoRow.knobs==[]))=true:=by kernel_rfl
theorem aZ:((Tryz.prog.stopKnobs==[]))=true:=by kernel_rfl
theorem aY:((Rows.flowLessUptoRow.inPlace==Tryz.prog.inPlace 3))=true:=by kernel_rfl
theorem Zc:((Rows.flowLessUptoRow.unfollowed==Tryz.prog.unfollowed 3))=true:=by kernel_rfl
theorem Zb:((Rows.flowLessUptoRow.recurses==Tryz.prog.recurses 3))=true:=by kernel_rfl
theorem Za:((Rows.flowLessUptoRow.named==Tryz.prog.varsNamed 3))=true:=by kernel_rfl
theorem YZ:((Rows.flowLessUptoRow.maps==(Tryz.f3.params.toList++(Rows.OpenSpec.upto Rows.flowLessSpec).bare.plain.varTypes Tryz.prog).any (Tryz.prog.mapsRec ·)))=true:=by kernel_rfl
theorem YY:((Rows.flowLessUptoRow.ifaces==(Tryz.f3.params.toList++(Rows.OpenSpec.upto Rows.flowLessSpec).bare.plain.varTypes Tryz.prog).any (Tryz.prog.ifacesRec ·)))=true:=by kernel_rfl
theorem YX:((Rows.flowLessUptoRow.mapsOut==Tryz.prog.mapsAmong Tryz.f3.resultTypes.toList))=true:=by kernel_rfl
theorem YW:((Rows.flowLessUptoRow.loops==(Tryz.f3.params.toList++(Rows.OpenSpec.upto Rows.flowLessSpec).bare.plain.varTypes Tryz.prog).any (Tryz.prog.loopsFrom ·)))=true:=by kernel_rfl
theorem YV:((Rows.flowLessUptoRow.wideKeys==(Tryz.f3.params.toList++(Rows.OpenSpec.upto Rows.flowLessSpec).bare.plain.varTypes Tryz.prog++Tryz.f3.resultTypes.toList).any (Tryz.prog.wideKeysFrom ·)))=true:=by kernel_rfl
theorem YU:((Rows.OpenSpec.upto Rows.flowLessSpec).bare.vars.all (Tryz.prog.varReadable ·))=true:=by kernel_rfl
theorem YT:(Tryz.f3.resultTypes.all (fun t=>Tryz.prog.readableRec t&&decide (t<Tryz.prog.types.size)))=true:=by kernel_rfl
theorem YS:((Rows.flowLessUptoRow.ifacesOut==Tryz.f3.resultTypes.toList.any (Tryz.prog.ifacesRec ·)))=true:=by kernel_rfl
theorem YR:((Rows.flowLessUptoRow.loopsOut==Tryz.f3.resultTypes.toList.any (Tryz.prog.loopsFrom ·)))=true:=by kernel_rfl
theorem YQ:((Rows.flowLessUptoRow.plainKeys==Tryz.prog.plainKeys))=true:=by kernel_rfl
theorem YP:(Rows.flowLessUptoRow.shortTexts.isNone)=true:=by kernel_rfl
theorem YO:(Tryz.prog.stopsHeard)=true:=by kernel_rfl
theorem YN:(Tryz.prog.mayEnter)=true:=by kernel_rfl
theorem YM:((Rows.flowLessUptoRow.lifted==Tryz.prog.liftsFinal))=true:=by kernel_rfl
theorem YL:((Tryz.prog.make==some Rows.flowLessUptoRow.make))=true:=by kernel_rfl
theorem YK:((Rows.flowLessUptoRow.kinds==(if Rows.flowLessUptoRow.domain.isEmpty then [] else Tryz.f3.params.toList.map fun t=>match Tryz.prog.underlying t with|some (.int k)=>some k|_=>none)))=true:=by kernel_rfl
theorem YJ:((Rows.flowLessUptoRow.pinned==Rows.flowLessUptoRow.pinnedBy))=true:=by kernel_rfl
theorem YI:((Rows.flowLessUptoRow.veiled==(Tryz.f3.params.toList++(Rows.OpenSpec.upto Rows.flowLessSpec).bare.plain.varTypes Tryz.prog++Tryz.f3.resultTypes.toList).any (Tryz.prog.veiledRec ·)))=true:=by kernel_rfl
theorem YH:(Rows.flowLessUptoRow.veiledFits Tryz.prog Tryz.f3.params.toList (Tryz.f3.params.toList++(Rows.OpenSpec.upto Rows.flowLessSpec).bare.plain.varTypes Tryz.prog++Tryz.f3.resultTypes.toList))=true:=by kernel_rfl
set_option maxRecDepth 100000 in
theorem flowLess_closed:joinedFacts Tryz.prog 3 Tryz.f3 (Rows.OpenSpec.upto Rows.flowLessSpec).bare Rows.flowLessUptoRow=true:=by
 unfold joinedFacts
 exact(EZ (EZ (EZ (EZ (EZ (EZ (EZ (EZ (EZ (EZ (EZ (EZ (EZ (EZ (EZ (EZ (EZ (EZ (EZ (EZ (EZ (EZ (EZ (EZ (EZ (EZ (EZ (EZ (EZ (EZ (EZ bk bj) bi) bg) bf) be) bc) ba) aZ) aY) Zc) Zb) Za) YZ) YY) YX) YW) YV) YU) YT) YS) YR) YQ) YP) YO) YN) YM) YL) YK) YJ) YI) YH)
end Go.Proofs.YtoolcgbcfgnipaaGreatDoor
