/- What is proved: the statement NameIndex: for every input the law returns true, and each argument reads afterwards as before. Conditions: none. -/
import Derived.Test.YtniakkkjiifelaaRk
import Derived.Test.YtniakkkjiifelaaLr
import Derived.LaidMore
namespace Go.Proofs.Ytniakkkjiifelaa
open Go Go.RowKit Go.Eng Go.ChangeShapes Go.WideShapes Go.ChangeAt Go.Joins Go.Deep
theorem own : ownKnob Try.prog.godebug = none := by kernel_rfl
theorem laidOut : laidOutB Try.prog = true := by kernel_rfl
theorem cells_42 : Try.prog.cellsOf 42 = 1 := by kernel_rfl
theorem cells_9 : Try.prog.cellsOf 9 = 1 := by kernel_rfl
theorem op_9 {H : Type} {enc : TypeId × Value → H} {W : World} {fuel : Nat} {cs : List Value} {y : DataW H × List MemPlace} (h : DataW.trod enc Try.prog W 0 (fun _ => true) true fuel 9 cs = some y) : ∃ x : List UInt8, cs = encS.f x := by
  obtain ⟨s, rfl, _, _⟩ := DataW.trod_string rfl h; exact ⟨s.data.toList, rfl⟩
theorem op_42 {H : Type} {enc : TypeId × Value → H} {W : World} {fuel : Nat} {cs : List Value} {y : DataW H × List MemPlace} (h : DataW.trod enc Try.prog W 0 (fun _ => true) true fuel 42 cs = some y) : ∃ (s : Value) (xs : List (List UInt8)), cs = [s] ∧ Rd encS (fun a => W.cell? a) s xs :=
  rd_of_trod encS rfl cells_9 (fun _ _ _ hy => op_9 hy) h
set_option maxRecDepth 100000 in
theorem nameIndex_lifted (os : Os) (started : os.Started) (H : Type) (enc : TypeId × Value → H) :
    ReturnsInHanded {} Try.checked os 8 .any (Rows.nameIndexSpec.pre6 enc Try.prog Try.f8 Rows.nameIndexRow.domain false) (Rows.nameIndexSpec.post enc Try.prog Try.f8 false true false false) := by
  refine returnsInHanded_of_change (C := Try.checked) own started (by kernel_rfl) Try.func8
    (ChangeSpec.witness6 (enc := enc) (C := Try.checked) false ⟨#[], #[.slice none 0 0, .string ⟨#[]⟩], []⟩ 8 (by kernel_rfl) (by kernel_rfl) (by kernel_rfl) (by kernel_rfl)) ?_
  intro W base args ds gs before hval0 hW _ _
  have hval : ∀ (j : Nat) t v, Try.f8.params[j]? = some t → args[j]? = some v → Value.okWide Try.prog W .any base t v := hval0
  have hW' := hW
  obtain ⟨p, q, hA0, hV, rfl, _, _⟩ := hW
  have hA : DataW.TrodAll enc Try.prog W 0 (fun _ => true) true Try.f8.params.toList args.toList ds p := hA0
  rw [Try.params8] at hA hval
  obtain ⟨v0, v1, d0, d1, p0, p1, rfl, rfl, rfl, h0, h1⟩ := trodAll_two hA
  obtain ⟨rfl, rfl⟩ := trodVars_none hV
  obtain ⟨x0, r0⟩ : ∃ xs : List (List UInt8), Rd encS (fun a => W.cell? a) v0 xs := arg_slice (Q := fun v => ∃ xs : List (List UInt8), Rd encS (fun a => W.cell? a) v xs) (P := Try.prog) (t := 42) rfl (hval 0 42 v0 rfl rfl) h0 (fun _ _ _ hh => by obtain ⟨s, xs, h1, h2⟩ := op_42 hh; exact ⟨s, h1, xs, h2⟩)
  obtain ⟨x1, rfl, rfl, rfl, ws1⟩ := Go.ChangeMaps.open_string (P := Try.prog) (t := 9) rfl (hval 1 9 v1 rfl rfl) h1
  refine (does_run (shunterlaw05_NameIndex_g 4000 x0 x1.data.toList true (names_index 4000 (by decide) (names 4000 (by decide)) x0 x1.data.toList) (fun a => W.cell? a) v0 r0)).mono fun e W' ⟨he, hb⟩ => ?_
  subst he
  exact ⟨_, rfl, law_post (f := Try.f8) laidOut (by kernel_rfl) rfl (by rfl) rfl hW' rfl hb⟩

theorem nameIndex_holds : Rows.NameIndexSaid :=
  OpenClaim.holds_of_wide 8 Try.f8 rfl rfl rfl rfl rfl rfl rfl ⟨rfl, rfl, rfl, rfl, rfl⟩ rfl rfl rfl rfl rfl (by kernel_rfl) Try.func8 (by kernel_rfl)
    (of_decide_eq_true (by kernel_rfl)) (by unfold Func.isWrapper; first | (rw [if_pos (by decide +kernel)]; kernel_rfl) | (rw [if_neg (by decide +kernel)]; exact ⟨rfl, rfl⟩))
    (fun os started H enc _ => nameIndex_lifted os started H enc)

end Go.Proofs.Ytniakkkjiifelaa
