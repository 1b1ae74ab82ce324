/- Layer 9: the law CodeSteps answers true, if the program's functions have the answers that are told. Conditions: the structure Code9, proved elsewhere. -/
import Derived.Test.YtmfedgmmgehmgaaDoorCb
import Derived.Test.YtmfedgmmgehmgaaDoorLCodeSteps
namespace Go.Proofs.YtmfedgmmgehmgaaDoor
open Go Go.RowKit Go.Eng
theorem steps_k3 {N : Nat} (S : Code9 N) (s : Sum31) (o a b w : Int) (x : BitVec 128) (h : ins9 s = (o, a, b, w, x)) : shunterlaw09_CodeSteps_k3 N s o a b w x = some true := by
  have k5 : ∀ right : Bool, right = decide (may9 o a b w x = 0 ∧ typ9 s = (row9 o).2.2.2.2.2.2.2.2) → shunterlaw09_CodeSteps_k5 N o a b w x (plain9 s) right = some true := fun right hr => by
    unfold shunterlaw09_CodeSteps_k5 plain9
    rw [h]
    by_cases c : may9 o a b w x = 0 ∧ typ9 s = (row9 o).2.2.2.2.2.2.2.2
    · rw [hr, decide_eq_true c, if_pos rfl, if_pos c, if_pos rfl, if_pos (by simp)]; exact S.live
    · rw [hr, decide_eq_false c, if_neg (by decide), if_neg c, if_neg (by decide), if_pos (by decide)]; exact S.live
  unfold shunterlaw09_CodeSteps_k3
  rw [S.plain, Option.bind_some, refmay9_s, Option.bind_some]
  by_cases c : may9 o a b w x = 0
  · obtain ⟨h0, h1⟩ := may9_op c
    rw [if_pos c, table_s, Option.bind_some, ck_pos _ (by rw [tab9_len]; omega), typeOf_s, Option.bind_some]
    refine k5 _ ?_
    show ((row9 o).2.2.2.2.2.2.2.2 == typ9 s) = _
    rw [Bool.eq_iff_iff, beq_iff_eq, decide_eq_true_eq]
    exact ⟨fun q => ⟨c, q.symm⟩, fun q => q.2.symm⟩
  · rw [if_neg c]
    exact k5 _ (decide_eq_false (fun q => c q.1)).symm
theorem codeSteps_true {N : Nat} (S : Code9 N) (n0 n1 n2 n3 w : Int) (x : BitVec 128) : shunterlaw09_CodeSteps_m N n0 n1 n2 n3 w x = some true := by
  unfold shunterlaw09_CodeSteps_m
  by_cases c0 : n0 = 0
  · rw [if_pos c0]; exact steps_k3 S _ _ _ _ _ _ rfl
  rw [if_neg c0]
  by_cases c1 : n0 = 1
  · rw [if_pos c1]; exact steps_k3 S _ _ _ _ _ _ rfl
  rw [if_neg c1]
  by_cases c2 : n0 = 2
  · rw [if_pos c2]; exact steps_k3 S _ _ _ _ _ _ rfl
  rw [if_neg c2]
  by_cases c3 : n0 = 3
  · rw [if_pos c3]; exact steps_k3 S _ _ _ _ _ _ rfl
  rw [if_neg c3]
  by_cases c4 : n0 = 4
  · rw [if_pos c4]; exact steps_k3 S _ _ _ _ _ _ rfl
  rw [if_neg c4]
  by_cases c5 : n0 = 5
  · rw [if_pos c5]; exact steps_k3 S _ _ _ _ _ _ rfl
  rw [if_neg c5]
  by_cases c6 : n0 = 6
  · rw [if_pos c6]; exact steps_k3 S _ _ _ _ _ _ rfl
  rw [if_neg c6]; exact steps_k3 S _ _ _ _ _ _ rfl
end Go.Proofs.YtmfedgmmgehmgaaDoor
