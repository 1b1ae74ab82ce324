import Derived.Test.YtjmdbbnnpmmpiaaGreatDoorLw
import Derived.Test.YtjmdbbnnpmmpiaaGreatDoorTie
import Derived.Test.YtjmdbbnnpmmpiaaGreatDoorCards
import Derived.LaidMore
import Derived.OpenShut
import Derived.Stop.Joined
import Derived.SevenTiedAt
import Derived.ChangeMaps5
namespace Go.Proofs.YtjmdbbnnpmmpiaaGreatDoor
open Go Go.RowKit Go.Eng Go.ChangeShapes Go.WideShapes Go.ChangeAt Go.Joins Go.Deep Go.WideMaps Go.WideElems
theorem BR {a b : Bool} (ha : a = true) (hb : b = true) : (a && b) = true := by rw [ha, hb]; rfl
theorem imageRefers_c0 : (Rows.imageRefersRow.wf (OpenSpec.ofChange Rows.imageRefersSpec)) = true := by kernel_rfl
theorem imageRefers_c1 : (laidOutB Tryz.prog) = true := by kernel_rfl
theorem imageRefers_c2 : (mapsRowed Tryz.prog) = true := by kernel_rfl
theorem imageRefers_c3 : (Tryz.f5.params.all (Tryz.prog.readableRec ·)) = true := by kernel_rfl
theorem imageRefers_c4 : (namedTie Tryz.prog Rows.imageRefersRow.named Rows.imageRefersSpec.vars) = true := by kernel_rfl
theorem imageRefers_c5 : ((Rows.imageRefersRow.stops == [])) = true := by kernel_rfl
theorem imageRefers_c6 : ((Tryz.prog.stops == [])) = true := by kernel_rfl
theorem imageRefers_c7 : ((Rows.imageRefersRow.knobs == [])) = true := by kernel_rfl
theorem imageRefers_c8 : ((Tryz.prog.stopKnobs == [])) = true := by kernel_rfl
theorem imageRefers_c9 : ((Rows.imageRefersRow.inPlace == Tryz.prog.inPlace 5)) = true := by kernel_rfl
theorem imageRefers_c10 : ((Rows.imageRefersRow.unfollowed == Tryz.prog.unfollowed 5)) = true := by kernel_rfl
theorem imageRefers_c11 : ((Rows.imageRefersRow.recurses == Tryz.prog.recurses 5)) = true := by kernel_rfl
theorem imageRefers_c12 : ((Rows.imageRefersRow.named == Tryz.prog.varsNamed 5)) = true := by kernel_rfl
theorem imageRefers_c13 : ((Rows.imageRefersRow.maps == (Tryz.f5.params.toList ++ Rows.imageRefersSpec.plain.varTypes Tryz.prog).any (Tryz.prog.mapsRec ·))) = true := by kernel_rfl
theorem imageRefers_c14 : ((Rows.imageRefersRow.ifaces == (Tryz.f5.params.toList ++ Rows.imageRefersSpec.plain.varTypes Tryz.prog).any (Tryz.prog.ifacesRec ·))) = true := by kernel_rfl
theorem imageRefers_c15 : ((Rows.imageRefersRow.mapsOut == Tryz.prog.mapsAmong Tryz.f5.resultTypes.toList)) = true := by kernel_rfl
theorem imageRefers_c16 : ((Rows.imageRefersRow.loops == (Tryz.f5.params.toList ++ Rows.imageRefersSpec.plain.varTypes Tryz.prog).any (Tryz.prog.loopsFrom ·))) = true := by kernel_rfl
theorem imageRefers_c17 : ((Rows.imageRefersRow.wideKeys == (Tryz.f5.params.toList ++ Rows.imageRefersSpec.plain.varTypes Tryz.prog ++ Tryz.f5.resultTypes.toList).any (Tryz.prog.wideKeysFrom ·))) = true := by kernel_rfl
theorem imageRefers_c18 : (Rows.imageRefersSpec.vars.all (Tryz.prog.varReadable ·)) = true := by kernel_rfl
theorem imageRefers_c19 : (Tryz.f5.resultTypes.all (fun t => Tryz.prog.readableRec t && decide (t < Tryz.prog.types.size))) = true := by kernel_rfl
theorem imageRefers_c20 : ((Rows.imageRefersRow.ifacesOut == Tryz.f5.resultTypes.toList.any (Tryz.prog.ifacesRec ·))) = true := by kernel_rfl
theorem imageRefers_c21 : ((Rows.imageRefersRow.loopsOut == Tryz.f5.resultTypes.toList.any (Tryz.prog.loopsFrom ·))) = true := by kernel_rfl
theorem imageRefers_c22 : ((Rows.imageRefersRow.plainKeys == Tryz.prog.plainKeys)) = true := by kernel_rfl
theorem imageRefers_c23 : (Rows.imageRefersRow.shortTexts.isNone) = true := by kernel_rfl
theorem imageRefers_c24 : (Tryz.prog.stopsHeard) = true := by kernel_rfl
theorem imageRefers_c25 : (Tryz.prog.mayEnter) = true := by kernel_rfl
theorem imageRefers_c26 : ((Rows.imageRefersRow.lifted == Tryz.prog.liftsFinal)) = true := by kernel_rfl
theorem imageRefers_c27 : ((Tryz.prog.make == some Rows.imageRefersRow.make)) = true := by kernel_rfl
theorem imageRefers_c28 : ((Rows.imageRefersRow.kinds == (if Rows.imageRefersRow.domain.isEmpty then [] else Tryz.f5.params.toList.map fun t => match Tryz.prog.underlying t with | some (.int k) => some k | _ => none))) = true := by kernel_rfl
theorem imageRefers_c29 : ((Rows.imageRefersRow.pinned == Rows.imageRefersRow.pinnedBy)) = true := by kernel_rfl
theorem imageRefers_c30 : ((Rows.imageRefersRow.veiled == (Tryz.f5.params.toList ++ Rows.imageRefersSpec.plain.varTypes Tryz.prog ++ Tryz.f5.resultTypes.toList).any (Tryz.prog.veiledRec ·))) = true := by kernel_rfl
theorem imageRefers_c31 : (Rows.imageRefersRow.veiledFits Tryz.prog Tryz.f5.params.toList (Tryz.f5.params.toList ++ Rows.imageRefersSpec.plain.varTypes Tryz.prog ++ Tryz.f5.resultTypes.toList)) = true := by kernel_rfl
set_option maxRecDepth 100000 in
theorem imageRefers_closed : joinedFacts Tryz.prog 5 Tryz.f5 Rows.imageRefersSpec Rows.imageRefersRow = true := by
 unfold joinedFacts
 exact (BR (BR (BR (BR (BR (BR (BR (BR (BR (BR (BR (BR (BR (BR (BR (BR (BR (BR (BR (BR (BR (BR (BR (BR (BR (BR (BR (BR (BR (BR (BR imageRefers_c0 imageRefers_c1) imageRefers_c2) imageRefers_c3) imageRefers_c4) imageRefers_c5) imageRefers_c6) imageRefers_c7) imageRefers_c8) imageRefers_c9) imageRefers_c10) imageRefers_c11) imageRefers_c12) imageRefers_c13) imageRefers_c14) imageRefers_c15) imageRefers_c16) imageRefers_c17) imageRefers_c18) imageRefers_c19) imageRefers_c20) imageRefers_c21) imageRefers_c22) imageRefers_c23) imageRefers_c24) imageRefers_c25) imageRefers_c26) imageRefers_c27) imageRefers_c28) imageRefers_c29) imageRefers_c30) imageRefers_c31)
end Go.Proofs.YtjmdbbnnpmmpiaaGreatDoor
