import Derived.Test.YthafnifhhblkbaaGreatDoorLw
import Derived.Test.YthafnifhhblkbaaGreatDoorTie
import Derived.Test.YthafnifhhblkbaaGreatDoorCards
import Derived.LaidMore
import Derived.OpenShut
import Derived.Stop.Joined
import Derived.SevenTiedAt
import Derived.ChangeMaps5
namespace Go.Proofs.YthafnifhhblkbaaGreatDoor
open Go Go.RowKit Go.Eng Go.ChangeShapes Go.WideShapes Go.ChangeAt Go.Joins Go.Deep Go.WideMaps Go.WideElems
theorem CQ {a b : Bool} (ha : a = true) (hb : b = true) : (a && b) = true := by rw [ha, hb]; rfl
theorem Vi : (Rows.packCodesRow.wf (OpenSpec.ofChange Rows.packCodesSpec)) = true := by kernel_rfl
theorem Vh : (laidOutB Tryz.prog) = true := by kernel_rfl
theorem Vg : (mapsRowed Tryz.prog) = true := by kernel_rfl
theorem Vf : (Tryz.f5.params.all (Tryz.prog.readableRec ·)) = true := by kernel_rfl
theorem Ve : (namedTie Tryz.prog Rows.packCodesRow.named Rows.packCodesSpec.vars) = true := by kernel_rfl
theorem Vd : ((Rows.packCodesRow.stops == [])) = true := by kernel_rfl
theorem Vc : ((Tryz.prog.stops == [])) = true := by kernel_rfl
theorem Vb : ((Rows.packCodesRow.knobs == [])) = true := by kernel_rfl
theorem Va : ((Tryz.prog.stopKnobs == [])) = true := by kernel_rfl
theorem UZ : ((Rows.packCodesRow.inPlace == Tryz.prog.inPlace 5)) = true := by kernel_rfl
theorem TD : ((Rows.packCodesRow.unfollowed == Tryz.prog.unfollowed 5)) = true := by kernel_rfl
theorem TC : ((Rows.packCodesRow.recurses == Tryz.prog.recurses 5)) = true := by kernel_rfl
theorem TA : ((Rows.packCodesRow.named == Tryz.prog.varsNamed 5)) = true := by kernel_rfl
theorem Tz : ((Rows.packCodesRow.maps == (Tryz.f5.params.toList ++ Rows.packCodesSpec.plain.varTypes Tryz.prog).any (Tryz.prog.mapsRec ·))) = true := by kernel_rfl
theorem Ty : ((Rows.packCodesRow.ifaces == (Tryz.f5.params.toList ++ Rows.packCodesSpec.plain.varTypes Tryz.prog).any (Tryz.prog.ifacesRec ·))) = true := by kernel_rfl
theorem Tx : ((Rows.packCodesRow.mapsOut == Tryz.prog.mapsAmong Tryz.f5.resultTypes.toList)) = true := by kernel_rfl
theorem Tw : ((Rows.packCodesRow.loops == (Tryz.f5.params.toList ++ Rows.packCodesSpec.plain.varTypes Tryz.prog).any (Tryz.prog.loopsFrom ·))) = true := by kernel_rfl
theorem Tv : ((Rows.packCodesRow.wideKeys == (Tryz.f5.params.toList ++ Rows.packCodesSpec.plain.varTypes Tryz.prog ++ Tryz.f5.resultTypes.toList).any (Tryz.prog.wideKeysFrom ·))) = true := by kernel_rfl
theorem Tu : (Rows.packCodesSpec.vars.all (Tryz.prog.varReadable ·)) = true := by kernel_rfl
theorem Tt : (Tryz.f5.resultTypes.all (fun t => Tryz.prog.readableRec t && decide (t < Tryz.prog.types.size))) = true := by kernel_rfl
theorem Ts : ((Rows.packCodesRow.ifacesOut == Tryz.f5.resultTypes.toList.any (Tryz.prog.ifacesRec ·))) = true := by kernel_rfl
theorem Tr : ((Rows.packCodesRow.loopsOut == Tryz.f5.resultTypes.toList.any (Tryz.prog.loopsFrom ·))) = true := by kernel_rfl
theorem Tq : ((Rows.packCodesRow.plainKeys == Tryz.prog.plainKeys)) = true := by kernel_rfl
theorem Tp : (Rows.packCodesRow.shortTexts.isNone) = true := by kernel_rfl
theorem To : (Tryz.prog.stopsHeard) = true := by kernel_rfl
theorem Tn : (Tryz.prog.mayEnter) = true := by kernel_rfl
theorem Tm : ((Rows.packCodesRow.lifted == Tryz.prog.liftsFinal)) = true := by kernel_rfl
theorem Tl : ((Tryz.prog.make == some Rows.packCodesRow.make)) = true := by kernel_rfl
theorem Tk : ((Rows.packCodesRow.kinds == (if Rows.packCodesRow.domain.isEmpty then [] else Tryz.f5.params.toList.map fun t => match Tryz.prog.underlying t with | some (.int k) => some k | _ => none))) = true := by kernel_rfl
theorem Tj : ((Rows.packCodesRow.pinned == Rows.packCodesRow.pinnedBy)) = true := by kernel_rfl
theorem Ti : ((Rows.packCodesRow.veiled == (Tryz.f5.params.toList ++ Rows.packCodesSpec.plain.varTypes Tryz.prog ++ Tryz.f5.resultTypes.toList).any (Tryz.prog.veiledRec ·))) = true := by kernel_rfl
theorem Th : (Rows.packCodesRow.veiledFits Tryz.prog Tryz.f5.params.toList (Tryz.f5.params.toList ++ Rows.packCodesSpec.plain.varTypes Tryz.prog ++ Tryz.f5.resultTypes.toList)) = true := by kernel_rfl
set_option maxRecDepth 100000 in
theorem packCodes_closed : joinedFacts Tryz.prog 5 Tryz.f5 Rows.packCodesSpec Rows.packCodesRow = true := by
 unfold joinedFacts
 exact (CQ (CQ (CQ (CQ (CQ (CQ (CQ (CQ (CQ (CQ (CQ (CQ (CQ (CQ (CQ (CQ (CQ (CQ (CQ (CQ (CQ (CQ (CQ (CQ (CQ (CQ (CQ (CQ (CQ (CQ (CQ Vi Vh) Vg) Vf) Ve) Vd) Vc) Vb) Va) UZ) TD) TC) TA) Tz) Ty) Tx) Tw) Tv) Tu) Tt) Ts) Tr) Tq) Tp) To) Tn) Tm) Tl) Tk) Tj) Ti) Th)
end Go.Proofs.YthafnifhhblkbaaGreatDoor
