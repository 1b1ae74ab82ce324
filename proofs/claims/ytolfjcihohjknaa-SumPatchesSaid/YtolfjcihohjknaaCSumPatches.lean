/- What is proved: the statement SumPatches: for every input the law returns true, and each argument reads afterwards as before. Conditions: none. -/
import Derived.Test.YtolfjcihohjknaaPatP
import Derived.Test.YtolfjcihohjknaaLr
import Derived.LaidMore
namespace Go.Proofs.Ytolfjcihohjknaa
open Go Go.RowKit Go.Eng Go.ChangeShapes Go.WideShapes Go.ChangeAt Go.Joins Go.Deep
theorem own : ownKnob Try.prog.godebug = none := by kernel_rfl
theorem laidOut : laidOutB Try.prog = true := by kernel_rfl
theorem cells_22 : Try.prog.cellsOf 22 = 1 := by kernel_rfl
theorem cells_5 : Try.prog.cellsOf 5 = 1 := by kernel_rfl
theorem op_5 {H : Type} {enc : TypeId × Value → H} {W : World} {fuel : Nat} {cs : List Value} {y : DataW H × List MemPlace} (h : DataW.trod enc Try.prog W 0 (fun _ => true) true fuel 5 cs = some y) : ∃ x : UInt8, cs = encY.f x := by
  obtain ⟨n, rfl, _, hw⟩ := DataW.trod_int (k := .u8) rfl h
  obtain ⟨x, rfl⟩ := u8_of_wf hw; exact ⟨x, rfl⟩
theorem op_22 {H : Type} {enc : TypeId × Value → H} {W : World} {fuel : Nat} {cs : List Value} {y : DataW H × List MemPlace} (h : DataW.trod enc Try.prog W 0 (fun _ => true) true fuel 22 cs = some y) : ∃ (s : Value) (xs : List UInt8), cs = [s] ∧ Rd encY (fun a => W.cell? a) s xs :=
  rd_of_trod encY rfl cells_5 (fun _ _ _ hy => op_5 hy) h
set_option maxRecDepth 100000 in
theorem sumPatches_lifted (os : Os) (started : os.Started) (H : Type) (enc : TypeId × Value → H) :
    ReturnsInHanded {} Try.checked os 7 .any (Rows.sumPatchesSpec.pre6 enc Try.prog Try.f7 Rows.sumPatchesRow.domain false) (Rows.sumPatchesSpec.post enc Try.prog Try.f7 false true false false) := by
  refine returnsInHanded_of_change (C := Try.checked) own started (by kernel_rfl) Try.func7
    (ChangeSpec.witness6 (enc := enc) (C := Try.checked) false ⟨#[], #[.slice none 0 0, .int .i64 0, .int .u16 0], []⟩ 8 (by kernel_rfl) (by kernel_rfl) (by kernel_rfl) (by kernel_rfl)) ?_
  intro W base args ds gs before hval0 hW _ _
  have hval : ∀ (j : Nat) t v, Try.f7.params[j]? = some t → args[j]? = some v → Value.okWide Try.prog W .any base t v := hval0
  have hW' := hW
  obtain ⟨p, q, hA0, hV, rfl, _, _⟩ := hW
  have hA : DataW.TrodAll enc Try.prog W 0 (fun _ => true) true Try.f7.params.toList args.toList ds p := hA0
  rw [Try.params7] at hA hval
  obtain ⟨v0, v1, v2, d0, d1, d2, p0, p1, p2, rfl, rfl, rfl, h0, h1, h2⟩ := trodAll_three hA
  obtain ⟨rfl, rfl⟩ := trodVars_none hV
  obtain ⟨x0, r0⟩ : ∃ xs : List UInt8, Rd encY (fun a => W.cell? a) v0 xs := arg_slice (Q := fun v => ∃ xs : List UInt8, Rd encY (fun a => W.cell? a) v xs) (P := Try.prog) (t := 22) rfl (hval 0 22 v0 rfl rfl) h0 (fun _ _ _ hh => by obtain ⟨s, xs, h1, h2⟩ := op_22 hh; exact ⟨s, h1, xs, h2⟩)
  obtain ⟨x1, rfl, rfl, rfl, wa1⟩ := open_int (P := Try.prog) (t := 3) rfl (hval 1 3 v1 rfl rfl) h1
  have hx1 := i64_of_wf wa1
  obtain ⟨a2, rfl, rfl, rfl, wa2⟩ := open_int (P := Try.prog) (t := 24) rfl (hval 2 24 v2 rfl rfl) h2
  obtain ⟨x2, rfl⟩ := u16_of_wf wa2
  refine (does_run (shunterlaw04_SumPatches_g 5000 x0 x1 x2 true (patches_s 5000 (by decide) x0 x1 x2) (fun a => W.cell? a) v0 r0)).mono fun e W' ⟨he, hb⟩ => ?_
  subst he
  exact ⟨_, rfl, law_post (f := Try.f7) laidOut (by kernel_rfl) rfl (by rfl) rfl hW' rfl hb⟩

theorem sumPatches_holds : Rows.SumPatchesSaid :=
  OpenClaim.holds_of_wide 7 Try.f7 rfl rfl rfl rfl rfl rfl rfl ⟨rfl, rfl, rfl, rfl, rfl⟩ rfl rfl rfl rfl rfl (by kernel_rfl) Try.func7 (by kernel_rfl)
    (of_decide_eq_true (by kernel_rfl)) (by unfold Func.isWrapper; first | (rw [if_pos (by decide +kernel)]; kernel_rfl) | (rw [if_neg (by decide +kernel)]; exact ⟨rfl, rfl⟩))
    (fun os started H enc _ => sumPatches_lifted os started H enc)

end Go.Proofs.Ytolfjcihohjknaa
