/- What is proved: the statement LexRemarks: for every input the law returns true, and each argument reads afterwards as before. Conditions: none. -/
import Derived.Test.YtmdjifehblijkaaPr
import Derived.Test.YtmdjifehblijkaaLr
import Derived.LaidMore
import Derived.SizedLaws
namespace Go.Proofs.Ytmdjifehblijkaa
open Go Go.RowKit Go.Eng Go.ChangeShapes Go.WideShapes Go.ChangeAt Go.Joins Go.Deep
theorem own : ownKnob Try.prog.godebug = none := by kernel_rfl
theorem laidOut : laidOutB Try.prog = true := by kernel_rfl
set_option maxRecDepth 100000 in
theorem lexRemarks_lifted (os : Os) (started : os.Started) (H : Type) (enc : TypeId × Value → H) :
    ReturnsInHanded {} Try.checked os 4 .any (Rows.lexRemarksSpec.pre6 enc Try.prog Try.f4 Rows.lexRemarksRow.domain false) (Rows.lexRemarksSpec.post enc Try.prog Try.f4 false true false false) := by
  refine returnsInHanded_of_change_sized (C := Try.checked) own started (by kernel_rfl) Try.func4
    (ChangeSpec.witness6 (enc := enc) (C := Try.checked) false ⟨#[], #[.string ⟨#[]⟩, .string ⟨#[]⟩, .string ⟨#[]⟩], []⟩ 8 (by kernel_rfl) (by kernel_rfl) (by kernel_rfl) (by kernel_rfl)) ?_
  intro W base args ds gs before hval0 hW _ hsz0 _
  have hsz : (DataW.weightsEach Try.prog (Try.f4.params.toList ++ Rows.lexRemarksSpec.plain.varTypes Try.prog) (ds ++ gs)).all (· ≤ reachBytes) = true := hsz0
  have hval : ∀ (j : Nat) t v, Try.f4.params[j]? = some t → args[j]? = some v → Value.okWide Try.prog W .any base t v := hval0
  have hW' := hW
  obtain ⟨p, q, hA0, hV, rfl, _, _⟩ := hW
  have hA : DataW.TrodAll enc Try.prog W 0 (fun _ => true) true Try.f4.params.toList args.toList ds p := hA0
  rw [Try.params4] at hA hval hsz
  obtain ⟨v0, v1, v2, d0, d1, d2, p0, p1, p2, rfl, rfl, rfl, h0, h1, h2⟩ := trodAll_three hA
  obtain ⟨rfl, rfl⟩ := trodVars_none hV
  obtain ⟨x0, rfl, rfl, rfl, ws0⟩ := Go.ChangeMaps.open_string (P := Try.prog) (t := 9) rfl (hval 0 9 v0 rfl rfl) h0
  obtain ⟨x1, rfl, rfl, rfl, ws1⟩ := Go.ChangeMaps.open_string (P := Try.prog) (t := 9) rfl (hval 1 9 v1 rfl rfl) h1
  obtain ⟨x2, rfl, rfl, rfl, ws2⟩ := Go.ChangeMaps.open_string (P := Try.prog) (t := 9) rfl (hval 2 9 v2 rfl rfl) h2
  have sl0 := sized_string hsz (j := 0) (t := 9) rfl rfl
  have sl1 := sized_string hsz (j := 1) (t := 9) rfl rfl
  have sl2 := sized_string hsz (j := 2) (t := 9) rfl rfl
  refine (does_run ((Gives.doesV (shunterlaw06_LexRemarks_g 300000 x0.data.toList x1.data.toList x2.data.toList true (remarks_s 300000 (by decide) x0.data.toList x1.data.toList x2.data.toList (Nat.lt_of_le_of_lt sl0 (by decide)) (Nat.lt_of_le_of_lt sl1 (by decide)) (Nat.lt_of_le_of_lt sl2 (by decide)))) (fun a => W.cell? a)))).mono fun e W' ⟨he, hb⟩ => ?_
  subst he
  exact ⟨_, rfl, law_post (f := Try.f4) laidOut (by kernel_rfl) rfl (by rfl) rfl hW' rfl hb⟩
theorem lexRemarks_holds : Rows.LexRemarksSaid :=
  OpenClaim.holds_of_wide 4 Try.f4 rfl rfl rfl rfl rfl rfl rfl ⟨rfl, rfl, rfl, rfl, rfl⟩ rfl rfl rfl rfl rfl (by kernel_rfl) Try.func4 (by kernel_rfl)
    (of_decide_eq_true (by kernel_rfl)) (by unfold Func.isWrapper; first | (rw [if_pos (by decide +kernel)]; kernel_rfl) | (rw [if_neg (by decide +kernel)]; exact ⟨rfl, rfl⟩))
    (fun os started H enc _ => lexRemarks_lifted os started H enc)
end Go.Proofs.Ytmdjifehblijkaa
