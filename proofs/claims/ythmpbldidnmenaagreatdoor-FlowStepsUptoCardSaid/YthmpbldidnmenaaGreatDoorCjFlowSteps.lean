import Derived.Test.YthmpbldidnmenaaGreatDoorLz
import Derived.Test.YthmpbldidnmenaaGreatDoorTie
import Derived.Test.YthmpbldidnmenaaGreatDoorCards
import Derived.LaidMore
import Derived.OpenShut
import Derived.Stop.Joined
import Derived.SevenTiedAt
import Derived.ChangeMaps5
import Derived.Deep.DeepHandedRow
import Derived.JoinedCond
namespace Go.Proofs.YthmpbldidnmenaaGreatDoor
open Go Go.RowKit Go.Eng Go.ChangeShapes Go.WideShapes Go.ChangeAt Go.Joins Go.Deep Go.WideMaps Go.WideElems
theorem EV{a b:Bool}(ha:a=true)(hb:b=true):(a&&b)=true:=by rw [ha,hb];rfl
theorem YZ:(Rows.flowStepsUptoRow.wf (OpenSpec.ofChange (Rows.OpenSpec.upto Rows.flowStepsSpec).bare))=true:=by kernel_rfl
theorem YY:(laidOutB Tryz.prog)=true:=by kernel_rfl
theorem YX:(mapsRowed Tryz.prog)=true:=by kernel_rfl
theorem YW:(Tryz.f3.params.all (Tryz.prog.readableRec ·))=true:=by kernel_rfl
theorem YV:(namedTie Tryz.prog Rows.flowStepsUptoRow.named (Rows.OpenSpec.upto Rows.flowStepsSpec).bare.vars)=true:=by kernel_rfl
theorem YU:((Rows.flowStepsUptoRow.stops==[]))=true:=by kernel_rfl
theorem YT:((Tryz.prog.stops==[]))=true:=by kernel_rfl
theorem YS:((Rows.flowStepsUptoRow.knobs==[]))=true:=by kernel_rfl
theorem YR:((Tryz.prog.stopKnobs==[]))=true:=by kernel_rfl
theorem YQ:((Rows.flowStepsUptoRow.inPlace==Tryz.prog.inPlace 3))=true:=by kernel_rfl
theorem Xc:((Rows.flowStepsUptoRow.unfollowed==Tryz.prog.unfollowed 3))=true:=by kernel_rfl
theorem Xb:((Rows.flowStepsUptoRow.recurses==Tryz.prog.recurses 3))=true:=by kernel_rfl
theorem Xa:((Rows.flowStepsUptoRow.named==Tryz.prog.varsNamed 3))=true:=by kernel_rfl
theorem WZ:((Rows.flowStepsUptoRow.maps==(Tryz.f3.params.toList++(Rows.OpenSpec.upto Rows.flowStepsSpec).bare.plain.varTypes Tryz.prog).any (Tryz.prog.mapsRec ·)))=true:=by kernel_rfl
theorem WY:((Rows.flowStepsUptoRow.ifaces==(Tryz.f3.params.toList++(Rows.OpenSpec.upto Rows.flowStepsSpec).bare.plain.varTypes Tryz.prog).any (Tryz.prog.ifacesRec ·)))=true:=by kernel_rfl
theorem WX:((Rows.flowStepsUptoRow.mapsOut==Tryz.prog.mapsAmong Tryz.f3.resultTypes.toList))=true:=by kernel_rfl
theorem WW:((Rows.flowStepsUptoRow.loops==(Tryz.f3.params.toList++(Rows.OpenSpec.upto Rows.flowStepsSpec).bare.plain.varTypes Tryz.prog).any (Tryz.prog.loopsFrom ·)))=true:=by kernel_rfl
theorem WV:((Rows.flowStepsUptoRow.wideKeys==(Tryz.f3.params.toList++(Rows.OpenSpec.upto Rows.flowStepsSpec).bare.plain.varTypes Tryz.prog++Tryz.f3.resultTypes.toList).any (Tryz.prog.wideKeysFrom ·)))=true:=by kernel_rfl
theorem WU:((Rows.OpenSpec.upto Rows.flowStepsSpec).bare.vars.all (Tryz.prog.varReadable ·))=true:=by kernel_rfl
theorem WT:(Tryz.f3.resultTypes.all (fun t=>Tryz.prog.readableRec t&&decide (t<Tryz.prog.types.size)))=true:=by kernel_rfl
theorem WS:((Rows.flowStepsUptoRow.ifacesOut==Tryz.f3.resultTypes.toList.any (Tryz.prog.ifacesRec ·)))=true:=by kernel_rfl
theorem WR:((Rows.flowStepsUptoRow.loopsOut==Tryz.f3.resultTypes.toList.any (Tryz.prog.loopsFrom ·)))=true:=by kernel_rfl
theorem WQ:((Rows.flowStepsUptoRow.plainKeys==Tryz.prog.plainKeys))=true:=by kernel_rfl
theorem WP:(Rows.flowStepsUptoRow.shortTexts.isNone)=true:=by kernel_rfl
theorem WO:(Tryz.prog.stopsHeard)=true:=by kernel_rfl
theorem WN:(Tryz.prog.mayEnter)=true:=by kernel_rfl
theorem WM:((Rows.flowStepsUptoRow.lifted==Tryz.prog.liftsFinal))=true:=by kernel_rfl
theorem WL:((Tryz.prog.make==some Rows.flowStepsUptoRow.make))=true:=by kernel_rfl
theorem WK:((Rows.flowStepsUptoRow.kinds==(if Rows.flowStepsUptoRow.domain.isEmpty then [] else Tryz.f3.params.toList.map fun t=>match Tryz.prog.underlying t with|some (.int k)=>some k|_=>none)))=true:=by kernel_rfl
theorem WJ:((Rows.flowStepsUptoRow.pinned==Rows.flowStepsUptoRow.pinnedBy))=true:=by kernel_rfl
theorem WI:((Rows.flowStepsUptoRow.veiled==(Tryz.f3.params.toList++(Rows.OpenSpec.upto Rows.flowStepsSpec).bare.plain.varTypes Tryz.prog++Tryz.f3.resultTypes.toList).any (Tryz.prog.veiledRec ·)))=true:=by kernel_rfl
theorem WH:(Rows.flowStepsUptoRow.veiledFits Tryz.prog Tryz.f3.params.toList (Tryz.f3.params.toList++(Rows.OpenSpec.upto Rows.flowStepsSpec).bare.plain.varTypes Tryz.prog++Tryz.f3.resultTypes.toList))=true:=by kernel_rfl
set_option maxRecDepth 100000 in
theorem flowSteps_closed:joinedFacts Tryz.prog 3 Tryz.f3 (Rows.OpenSpec.upto Rows.flowStepsSpec).bare Rows.flowStepsUptoRow=true:=by
 unfold joinedFacts
 exact(EV (EV (EV (EV (EV (EV (EV (EV (EV (EV (EV (EV (EV (EV (EV (EV (EV (EV (EV (EV (EV (EV (EV (EV (EV (EV (EV (EV (EV (EV (EV YZ YY) YX) YW) YV) YU) YT) YS) YR) YQ) Xc) Xb) Xa) WZ) WY) WX) WW) WV) WU) WT) WS) WR) WQ) WP) WO) WN) WM) WL) WK) WJ) WI) WH)
end Go.Proofs.YthmpbldidnmenaaGreatDoor
