import Derived.Test.YtajdpjdejpcgnaaGreatDoorLw
import Derived.Test.YtajdpjdejpcgnaaGreatDoorFm
import Derived.Test.YtajdpjdejpcgnaaGreatDoorTie
import Derived.Test.YtajdpjdejpcgnaaGreatDoorCards
import Derived.LaidMore
import Derived.OpenShut
import Derived.Stop.Joined
import Derived.SevenTiedAt
import Derived.ChangeMaps5
namespace Go.Proofs.YtajdpjdejpcgnaaGreatDoor
open Go Go.RowKit Go.Eng Go.ChangeShapes Go.WideShapes Go.ChangeAt Go.Joins Go.Deep Go.WideMaps Go.WideElems
theorem BJ{a b:Bool}(ha:a=true)(hb:b=true):(a&&b)=true:=by rw [ha,hb];rfl
theorem SD:(Rows.flowSetsRow.wf (OpenSpec.ofChange Rows.flowSetsSpec))=true:=by kernel_rfl
theorem SC:(laidOutB Tryz.prog)=true:=by kernel_rfl
theorem SB:(mapsRowed Tryz.prog)=true:=by kernel_rfl
theorem SA:(Tryz.f3.params.all (Tryz.prog.readableRec ·))=true:=by kernel_rfl
theorem Sz:(namedTie Tryz.prog Rows.flowSetsRow.named Rows.flowSetsSpec.vars)=true:=by kernel_rfl
theorem Sy:((Rows.flowSetsRow.stops==[]))=true:=by kernel_rfl
theorem Sx:((Tryz.prog.stops==[]))=true:=by kernel_rfl
theorem Sw:((Rows.flowSetsRow.knobs==[]))=true:=by kernel_rfl
theorem Sv:((Tryz.prog.stopKnobs==[]))=true:=by kernel_rfl
theorem Su:((Rows.flowSetsRow.inPlace==Tryz.prog.inPlace 3))=true:=by kernel_rfl
theorem Rl:((Rows.flowSetsRow.unfollowed==Tryz.prog.unfollowed 3))=true:=by kernel_rfl
theorem Rk:((Rows.flowSetsRow.recurses==Tryz.prog.recurses 3))=true:=by kernel_rfl
theorem Rj:((Rows.flowSetsRow.named==Tryz.prog.varsNamed 3))=true:=by kernel_rfl
theorem Ri:((Rows.flowSetsRow.maps==(Tryz.f3.params.toList++Rows.flowSetsSpec.plain.varTypes Tryz.prog).any (Tryz.prog.mapsRec ·)))=true:=by kernel_rfl
theorem Rh:((Rows.flowSetsRow.ifaces==(Tryz.f3.params.toList++Rows.flowSetsSpec.plain.varTypes Tryz.prog).any (Tryz.prog.ifacesRec ·)))=true:=by kernel_rfl
theorem Rg:((Rows.flowSetsRow.mapsOut==Tryz.prog.mapsAmong Tryz.f3.resultTypes.toList))=true:=by kernel_rfl
theorem Rf:((Rows.flowSetsRow.loops==(Tryz.f3.params.toList++Rows.flowSetsSpec.plain.varTypes Tryz.prog).any (Tryz.prog.loopsFrom ·)))=true:=by kernel_rfl
theorem Re:((Rows.flowSetsRow.wideKeys==(Tryz.f3.params.toList++Rows.flowSetsSpec.plain.varTypes Tryz.prog++Tryz.f3.resultTypes.toList).any (Tryz.prog.wideKeysFrom ·)))=true:=by kernel_rfl
theorem Rc:(Rows.flowSetsSpec.vars.all (Tryz.prog.varReadable ·))=true:=by kernel_rfl
theorem Rb:(Tryz.f3.resultTypes.all (fun t=>Tryz.prog.readableRec t&&decide (t<Tryz.prog.types.size)))=true:=by kernel_rfl
theorem Ra:((Rows.flowSetsRow.ifacesOut==Tryz.f3.resultTypes.toList.any (Tryz.prog.ifacesRec ·)))=true:=by kernel_rfl
theorem QZ:((Rows.flowSetsRow.loopsOut==Tryz.f3.resultTypes.toList.any (Tryz.prog.loopsFrom ·)))=true:=by kernel_rfl
theorem QY:((Rows.flowSetsRow.plainKeys==Tryz.prog.plainKeys))=true:=by kernel_rfl
theorem QX:(Rows.flowSetsRow.shortTexts.isNone)=true:=by kernel_rfl
theorem QW:(Tryz.prog.stopsHeard)=true:=by kernel_rfl
theorem QV:(Tryz.prog.mayEnter)=true:=by kernel_rfl
theorem QU:((Rows.flowSetsRow.lifted==Tryz.prog.liftsFinal))=true:=by kernel_rfl
theorem QT:((Tryz.prog.make==some Rows.flowSetsRow.make))=true:=by kernel_rfl
theorem QS:((Rows.flowSetsRow.kinds==(if Rows.flowSetsRow.domain.isEmpty then [] else Tryz.f3.params.toList.map fun t=>match Tryz.prog.underlying t with|some (.int k)=>some k|_=>none)))=true:=by kernel_rfl
theorem QR:((Rows.flowSetsRow.pinned==Rows.flowSetsRow.pinnedBy))=true:=by kernel_rfl
theorem QQ:((Rows.flowSetsRow.veiled==(Tryz.f3.params.toList++Rows.flowSetsSpec.plain.varTypes Tryz.prog++Tryz.f3.resultTypes.toList).any (Tryz.prog.veiledRec ·)))=true:=by kernel_rfl
theorem QP:(Rows.flowSetsRow.veiledFits Tryz.prog Tryz.f3.params.toList (Tryz.f3.params.toList++Rows.flowSetsSpec.plain.varTypes Tryz.prog++Tryz.f3.resultTypes.toList))=true:=by kernel_rfl
set_option maxRecDepth 100000 in
theorem flowSets_closed:joinedFacts Tryz.prog 3 Tryz.f3 Rows.flowSetsSpec Rows.flowSetsRow=true:=by
 unfold joinedFacts
 exact(BJ (BJ (BJ (BJ (BJ (BJ (BJ (BJ (BJ (BJ (BJ (BJ (BJ (BJ (BJ (BJ (BJ (BJ (BJ (BJ (BJ (BJ (BJ (BJ (BJ (BJ (BJ (BJ (BJ (BJ (BJ SD SC) SB) SA) Sz) Sy) Sx) Sw) Sv) Su) Rl) Rk) Rj) Ri) Rh) Rg) Rf) Re) Rc) Rb) Ra) QZ) QY) QX) QW) QV) QU) QT) QS) QR) QQ) QP)
end Go.Proofs.YtajdpjdejpcgnaaGreatDoor
