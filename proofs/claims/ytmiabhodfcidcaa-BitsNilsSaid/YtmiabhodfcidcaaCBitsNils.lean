/- What is proved: the statement BitsNils: for every input the law returns true, and each argument reads afterwards as before. Conditions: none. -/
import Derived.Test.YtmiabhodfcidcaaNilsP
import Derived.Test.YtmiabhodfcidcaaLr
import Derived.LaidMore
namespace Go.Proofs.Ytmiabhodfcidcaa
open Go Go.RowKit Go.Eng Go.ChangeShapes Go.WideShapes Go.ChangeAt Go.Joins Go.Deep
theorem own : ownKnob Try.prog.godebug = none := by kernel_rfl
theorem laidOut : laidOutB Try.prog = true := by kernel_rfl
theorem cells_22 : Try.prog.cellsOf 22 = 1 := by kernel_rfl
theorem cells_5 : Try.prog.cellsOf 5 = 1 := by kernel_rfl
theorem op_5 {H : Type} {enc : TypeId × Value → H} {W : World} {fuel : Nat} {cs : List Value} {y : DataW H × List MemPlace} (h : DataW.trod enc Try.prog W 0 (fun _ => true) true fuel 5 cs = some y) : ∃ x : UInt8, cs = encY.f x := by
  obtain ⟨n, rfl, _, hw⟩ := DataW.trod_int (k := .u8) rfl h
  obtain ⟨x, rfl⟩ := u8_of_wf hw; exact ⟨x, rfl⟩
theorem op_22 {H : Type} {enc : TypeId × Value → H} {W : World} {fuel : Nat} {cs : List Value} {y : DataW H × List MemPlace} (h : DataW.trod enc Try.prog W 0 (fun _ => true) true fuel 22 cs = some y) : ∃ (s : Value) (xs : List UInt8), cs = [s] ∧ Rd encY (fun a => W.cell? a) s xs :=
  rd_of_trod encY rfl cells_5 (fun _ _ _ hy => op_5 hy) h
set_option maxRecDepth 100000 in
theorem bitsNils_lifted (os : Os) (started : os.Started) (H : Type) (enc : TypeId × Value → H) :
    ReturnsInHanded {} Try.checked os 8 .any (Rows.bitsNilsSpec.pre6 enc Try.prog Try.f8 Rows.bitsNilsRow.domain false) (Rows.bitsNilsSpec.post enc Try.prog Try.f8 false true false false) := by
  refine returnsInHanded_of_change (C := Try.checked) own started (by kernel_rfl) Try.func8
    (ChangeSpec.witness6 (enc := enc) (C := Try.checked) false ⟨#[], #[.agg #[.int .i64 0, .int .u64 0, .int .u64 0], .slice none 0 0], []⟩ 8 (by kernel_rfl) (by kernel_rfl) (by kernel_rfl) (by kernel_rfl)) ?_
  intro W base args ds gs before hval0 hW _ _
  have hval : ∀ (j : Nat) t v, Try.f8.params[j]? = some t → args[j]? = some v → Value.okWide Try.prog W .any base t v := hval0
  have hW' := hW
  obtain ⟨p, q, hA0, hV, rfl, _, _⟩ := hW
  have hA : DataW.TrodAll enc Try.prog W 0 (fun _ => true) true Try.f8.params.toList args.toList ds p := hA0
  rw [Try.params8] at hA hval
  obtain ⟨v0, v1, d0, d1, p0, p1, rfl, rfl, rfl, h0, h1⟩ := trodAll_two hA
  obtain ⟨rfl, rfl⟩ := trodVars_none hV
  obtain ⟨n0, x0, lo0, hi0, rfl⟩ := open_vec (P := Try.prog) (t := 26) rfl (by kernel_rfl) (by kernel_rfl) rfl rfl rfl (hval 0 26 v0 rfl rfl) h0
  obtain ⟨x1, r1⟩ : ∃ xs : List UInt8, Rd encY (fun a => W.cell? a) v1 xs := arg_slice (Q := fun v => ∃ xs : List UInt8, Rd encY (fun a => W.cell? a) v xs) (P := Try.prog) (t := 22) rfl (hval 1 22 v1 rfl rfl) h1 (fun _ _ _ hh => by obtain ⟨s, xs, h1, h2⟩ := op_22 hh; exact ⟨s, h1, xs, h2⟩)
  refine (does_run (shunterlaw03_BitsNils_g 400 n0 x0 x1 true (nils_s 400 (by decide) n0 x0 x1) (fun a => W.cell? a) v1 r1)).mono fun e W' ⟨he, hb⟩ => ?_
  subst he
  exact ⟨_, rfl, law_post (f := Try.f8) laidOut (by kernel_rfl) rfl (by rfl) rfl hW' rfl hb⟩

theorem bitsNils_holds : Rows.BitsNilsSaid :=
  OpenClaim.holds_of_wide 8 Try.f8 rfl rfl rfl rfl rfl rfl rfl ⟨rfl, rfl, rfl, rfl, rfl⟩ rfl rfl rfl rfl rfl (by kernel_rfl) Try.func8 (by kernel_rfl)
    (of_decide_eq_true (by kernel_rfl)) (by unfold Func.isWrapper; first | (rw [if_pos (by decide +kernel)]; kernel_rfl) | (rw [if_neg (by decide +kernel)]; exact ⟨rfl, rfl⟩))
    (fun os started H enc _ => bitsNils_lifted os started H enc)

end Go.Proofs.Ytmiabhodfcidcaa
