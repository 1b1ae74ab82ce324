/- Layer 9: what the program's functions answer: the table's, by definition. Conditions: none but those written; fuel above 300 for lists. -/
import Derived.Test.YtmfedgmmgehmgaaDoorCb
namespace Go.Proofs.YtmfedgmmgehmgaaDoor
open Go Go.RowKit Go.Eng
theorem isOp_s (N : Nat) (o : Int) : code_isOp_m N o = some (decide (0 ≤ o ∧ o ≤ 34)) := by
  unfold code_isOp_m
  by_cases h : o ≥ 0
  · rw [if_pos h]; congr 1; rw [Bool.eq_iff_iff, decide_eq_true_eq, decide_eq_true_eq]; omega
  · rw [if_neg h]; congr 1; symm; rw [decide_eq_false_iff_not]; omega
theorem has_s (N : Nat) (a b n : Int) : code_span_has_m N a b n = some (decide (a ≤ n ∧ n ≤ b)) := by
  unfold code_span_has_m
  by_cases h : n ≥ a
  · rw [if_pos h]; congr 1; rw [Bool.eq_iff_iff, decide_eq_true_eq, decide_eq_true_eq]; omega
  · rw [if_neg h]; congr 1; symm; rw [decide_eq_false_iff_not]; omega
def span9 (r : R9) : Int × Int × Int × Int := (r.2.2.2.2.1, r.2.2.2.2.2.1, r.2.2.2.2.2.2.1, r.2.2.2.2.2.2.2.1)
theorem asks_in (N : Nat) (a b w : Int) (x : BitVec 128) : ∀ k : Nat, k < 35 → code_asks_m N (k : Int) a b w x = some (if k = 10 then (0, 127, 0, a) else span9 (tab9[k]!))
  | 0, _ => rfl
  | 1, _ => rfl
  | 2, _ => rfl
  | 3, _ => rfl
  | 4, _ => rfl
  | 5, _ => rfl
  | 6, _ => rfl
  | 7, _ => rfl
  | 8, _ => rfl
  | 9, _ => rfl
  | 10, _ => rfl
  | 11, _ => rfl
  | 12, _ => rfl
  | 13, _ => rfl
  | 14, _ => rfl
  | 15, _ => rfl
  | 16, _ => rfl
  | 17, _ => rfl
  | 18, _ => rfl
  | 19, _ => rfl
  | 20, _ => rfl
  | 21, _ => rfl
  | 22, _ => rfl
  | 23, _ => rfl
  | 24, _ => rfl
  | 25, _ => rfl
  | 26, _ => rfl
  | 27, _ => rfl
  | 28, _ => rfl
  | 29, _ => rfl
  | 30, _ => rfl
  | 31, _ => rfl
  | 32, _ => rfl
  | 33, _ => rfl
  | 34, _ => rfl
  | k + 35, h => absurd h (by omega)
theorem ne_of {o : Int} (h : ¬ (0 ≤ o ∧ o ≤ 34)) (k : Nat) (hk : k < 35) : o = (k : Int) ↔ False := ⟨fun e => h (by omega), fun e => e.elim⟩
theorem beq_of {o : Int} (h : ¬ (0 ≤ o ∧ o ≤ 34)) (k : Nat) (hk : k < 35) : (o == (k : Int)) = false := beq_eq_false_iff_ne.2 (fun e => h (by omega))
theorem asks_out (N : Nat) {o : Int} (h : ¬ (0 ≤ o ∧ o ≤ 34)) (a b w : Int) (x : BitVec 128) : code_asks_m N o a b w x = some (0, 0, 0, 0) := by
  have e0 : ¬ o = 0 := fun e => h (by omega)
  have e1 : ¬ o = 1 := fun e => h (by omega)
  have e2 : ¬ o = 2 := fun e => h (by omega)
  have e3 : ¬ o = 3 := fun e => h (by omega)
  have e4 : ¬ o = 4 := fun e => h (by omega)
  have e5 : ¬ o = 5 := fun e => h (by omega)
  have e6 : ¬ o = 6 := fun e => h (by omega)
  have e7 : ¬ o = 7 := fun e => h (by omega)
  have e8 : ¬ o = 8 := fun e => h (by omega)
  have e9 : ¬ o = 9 := fun e => h (by omega)
  have e10 : ¬ o = 10 := fun e => h (by omega)
  have e11 : ¬ o = 11 := fun e => h (by omega)
  have e12 : ¬ o = 12 := fun e => h (by omega)
  have e13 : ¬ o = 13 := fun e => h (by omega)
  have e14 : ¬ o = 14 := fun e => h (by omega)
  have e15 : ¬ o = 15 := fun e => h (by omega)
  have e16 : ¬ o = 16 := fun e => h (by omega)
  have e17 : ¬ o = 17 := fun e => h (by omega)
  have e18 : ¬ o = 18 := fun e => h (by omega)
  have e19 : ¬ o = 19 := fun e => h (by omega)
  have e20 : ¬ o = 20 := fun e => h (by omega)
  have e21 : ¬ o = 21 := fun e => h (by omega)
  have e22 : ¬ o = 22 := fun e => h (by omega)
  have e23 : ¬ o = 23 := fun e => h (by omega)
  have e24 : ¬ o = 24 := fun e => h (by omega)
  have e25 : ¬ o = 25 := fun e => h (by omega)
  have e26 : ¬ o = 26 := fun e => h (by omega)
  have e27 : ¬ o = 27 := fun e => h (by omega)
  have e28 : ¬ o = 28 := fun e => h (by omega)
  have e29 : ¬ o = 29 := fun e => h (by omega)
  have e30 : ¬ o = 30 := fun e => h (by omega)
  have e31 : ¬ o = 31 := fun e => h (by omega)
  have e32 : ¬ o = 32 := fun e => h (by omega)
  have e33 : ¬ o = 33 := fun e => h (by omega)
  have e34 : ¬ o = 34 := fun e => h (by omega)
  have f0 : (o == (0 : Int)) = false := beq_eq_false_iff_ne.2 e0
  have f1 : (o == (1 : Int)) = false := beq_eq_false_iff_ne.2 e1
  have f2 : (o == (2 : Int)) = false := beq_eq_false_iff_ne.2 e2
  have f3 : (o == (3 : Int)) = false := beq_eq_false_iff_ne.2 e3
  have f4 : (o == (4 : Int)) = false := beq_eq_false_iff_ne.2 e4
  have f5 : (o == (5 : Int)) = false := beq_eq_false_iff_ne.2 e5
  have f6 : (o == (6 : Int)) = false := beq_eq_false_iff_ne.2 e6
  have f7 : (o == (7 : Int)) = false := beq_eq_false_iff_ne.2 e7
  have f8 : (o == (8 : Int)) = false := beq_eq_false_iff_ne.2 e8
  have f9 : (o == (9 : Int)) = false := beq_eq_false_iff_ne.2 e9
  have f10 : (o == (10 : Int)) = false := beq_eq_false_iff_ne.2 e10
  have f11 : (o == (11 : Int)) = false := beq_eq_false_iff_ne.2 e11
  have f12 : (o == (12 : Int)) = false := beq_eq_false_iff_ne.2 e12
  have f13 : (o == (13 : Int)) = false := beq_eq_false_iff_ne.2 e13
  have f14 : (o == (14 : Int)) = false := beq_eq_false_iff_ne.2 e14
  have f15 : (o == (15 : Int)) = false := beq_eq_false_iff_ne.2 e15
  have f16 : (o == (16 : Int)) = false := beq_eq_false_iff_ne.2 e16
  have f17 : (o == (17 : Int)) = false := beq_eq_false_iff_ne.2 e17
  have f18 : (o == (18 : Int)) = false := beq_eq_false_iff_ne.2 e18
  have f19 : (o == (19 : Int)) = false := beq_eq_false_iff_ne.2 e19
  have f20 : (o == (20 : Int)) = false := beq_eq_false_iff_ne.2 e20
  have f21 : (o == (21 : Int)) = false := beq_eq_false_iff_ne.2 e21
  have f22 : (o == (22 : Int)) = false := beq_eq_false_iff_ne.2 e22
  have f23 : (o == (23 : Int)) = false := beq_eq_false_iff_ne.2 e23
  have f24 : (o == (24 : Int)) = false := beq_eq_false_iff_ne.2 e24
  have f25 : (o == (25 : Int)) = false := beq_eq_false_iff_ne.2 e25
  have f26 : (o == (26 : Int)) = false := beq_eq_false_iff_ne.2 e26
  have f27 : (o == (27 : Int)) = false := beq_eq_false_iff_ne.2 e27
  have f28 : (o == (28 : Int)) = false := beq_eq_false_iff_ne.2 e28
  have f29 : (o == (29 : Int)) = false := beq_eq_false_iff_ne.2 e29
  have f30 : (o == (30 : Int)) = false := beq_eq_false_iff_ne.2 e30
  have f31 : (o == (31 : Int)) = false := beq_eq_false_iff_ne.2 e31
  have f32 : (o == (32 : Int)) = false := beq_eq_false_iff_ne.2 e32
  have f33 : (o == (33 : Int)) = false := beq_eq_false_iff_ne.2 e33
  have f34 : (o == (34 : Int)) = false := beq_eq_false_iff_ne.2 e34
  simp only [code_asks_m, code_asks_k2, code_asks_k4, code_asks_k6, code_asks_k8, code_asks_k10, code_asks_k12, code_asks_k14, e1, e2, e3, e4, e5, e8, e10, e11, e24, e25, e27, e29, e31, e33, f1, f2, f4, f5, f8, f9, f22, f23, f24, f25, f26, f27, f28, f29, f30, f31, f32, if_false, Bool.false_eq_true]
theorem step_in (N : Nat) (a b w : Int) (x : BitVec 128) : ∀ k : Nat, k < 35 → code_step_m N (k : Int) a b w x = some (step9 (k : Int) a b w x)
  | 0, _ => rfl
  | 1, _ => rfl
  | 2, _ => rfl
  | 3, _ => rfl
  | 4, _ => rfl
  | 5, _ => rfl
  | 6, _ => rfl
  | 7, _ => rfl
  | 8, _ => rfl
  | 9, _ => rfl
  | 10, _ => rfl
  | 11, _ => rfl
  | 12, _ => rfl
  | 13, _ => rfl
  | 14, _ => rfl
  | 15, _ => rfl
  | 16, _ => rfl
  | 17, _ => rfl
  | 18, _ => rfl
  | 19, _ => rfl
  | 20, _ => rfl
  | 21, _ => rfl
  | 22, _ => rfl
  | 23, _ => rfl
  | 24, _ => rfl
  | 25, _ => rfl
  | 26, _ => rfl
  | 27, _ => rfl
  | 28, _ => rfl
  | 29, _ => rfl
  | 30, _ => rfl
  | 31, _ => rfl
  | 32, _ => rfl
  | 33, _ => rfl
  | 34, _ => rfl
  | k + 35, h => absurd h (by omega)
theorem effect_in (N : Nat)  : ∀ k : Nat, k < 35 → code_Effect_m N (k : Int) = some ((tab9[k]!).2.1, (tab9[k]!).2.2.1)
  | 0, _ => rfl
  | 1, _ => rfl
  | 2, _ => rfl
  | 3, _ => rfl
  | 4, _ => rfl
  | 5, _ => rfl
  | 6, _ => rfl
  | 7, _ => rfl
  | 8, _ => rfl
  | 9, _ => rfl
  | 10, _ => rfl
  | 11, _ => rfl
  | 12, _ => rfl
  | 13, _ => rfl
  | 14, _ => rfl
  | 15, _ => rfl
  | 16, _ => rfl
  | 17, _ => rfl
  | 18, _ => rfl
  | 19, _ => rfl
  | 20, _ => rfl
  | 21, _ => rfl
  | 22, _ => rfl
  | 23, _ => rfl
  | 24, _ => rfl
  | 25, _ => rfl
  | 26, _ => rfl
  | 27, _ => rfl
  | 28, _ => rfl
  | 29, _ => rfl
  | 30, _ => rfl
  | 31, _ => rfl
  | 32, _ => rfl
  | 33, _ => rfl
  | 34, _ => rfl
  | k + 35, h => absurd h (by omega)
theorem effect_out (N : Nat) {o : Int} (h : ¬ (0 ≤ o ∧ o ≤ 34)) : code_Effect_m N o = some (0, 0) := by
  have e0 : ¬ o = 0 := fun e => h (by omega)
  have e1 : ¬ o = 1 := fun e => h (by omega)
  have e2 : ¬ o = 2 := fun e => h (by omega)
  have e3 : ¬ o = 3 := fun e => h (by omega)
  have e4 : ¬ o = 4 := fun e => h (by omega)
  have e5 : ¬ o = 5 := fun e => h (by omega)
  have e6 : ¬ o = 6 := fun e => h (by omega)
  have e7 : ¬ o = 7 := fun e => h (by omega)
  have e8 : ¬ o = 8 := fun e => h (by omega)
  have e9 : ¬ o = 9 := fun e => h (by omega)
  have e10 : ¬ o = 10 := fun e => h (by omega)
  have e11 : ¬ o = 11 := fun e => h (by omega)
  have e12 : ¬ o = 12 := fun e => h (by omega)
  have e13 : ¬ o = 13 := fun e => h (by omega)
  have e14 : ¬ o = 14 := fun e => h (by omega)
  have e15 : ¬ o = 15 := fun e => h (by omega)
  have e16 : ¬ o = 16 := fun e => h (by omega)
  have e17 : ¬ o = 17 := fun e => h (by omega)
  have e18 : ¬ o = 18 := fun e => h (by omega)
  have e19 : ¬ o = 19 := fun e => h (by omega)
  have e20 : ¬ o = 20 := fun e => h (by omega)
  have e21 : ¬ o = 21 := fun e => h (by omega)
  have e22 : ¬ o = 22 := fun e => h (by omega)
  have e23 : ¬ o = 23 := fun e => h (by omega)
  have e24 : ¬ o = 24 := fun e => h (by omega)
  have e25 : ¬ o = 25 := fun e => h (by omega)
  have e26 : ¬ o = 26 := fun e => h (by omega)
  have e27 : ¬ o = 27 := fun e => h (by omega)
  have e28 : ¬ o = 28 := fun e => h (by omega)
  have e29 : ¬ o = 29 := fun e => h (by omega)
  have e30 : ¬ o = 30 := fun e => h (by omega)
  have e31 : ¬ o = 31 := fun e => h (by omega)
  have e32 : ¬ o = 32 := fun e => h (by omega)
  have e33 : ¬ o = 33 := fun e => h (by omega)
  have e34 : ¬ o = 34 := fun e => h (by omega)
  have f0 : (o == (0 : Int)) = false := beq_eq_false_iff_ne.2 e0
  have f1 : (o == (1 : Int)) = false := beq_eq_false_iff_ne.2 e1
  have f2 : (o == (2 : Int)) = false := beq_eq_false_iff_ne.2 e2
  have f3 : (o == (3 : Int)) = false := beq_eq_false_iff_ne.2 e3
  have f4 : (o == (4 : Int)) = false := beq_eq_false_iff_ne.2 e4
  have f5 : (o == (5 : Int)) = false := beq_eq_false_iff_ne.2 e5
  have f6 : (o == (6 : Int)) = false := beq_eq_false_iff_ne.2 e6
  have f7 : (o == (7 : Int)) = false := beq_eq_false_iff_ne.2 e7
  have f8 : (o == (8 : Int)) = false := beq_eq_false_iff_ne.2 e8
  have f9 : (o == (9 : Int)) = false := beq_eq_false_iff_ne.2 e9
  have f10 : (o == (10 : Int)) = false := beq_eq_false_iff_ne.2 e10
  have f11 : (o == (11 : Int)) = false := beq_eq_false_iff_ne.2 e11
  have f12 : (o == (12 : Int)) = false := beq_eq_false_iff_ne.2 e12
  have f13 : (o == (13 : Int)) = false := beq_eq_false_iff_ne.2 e13
  have f14 : (o == (14 : Int)) = false := beq_eq_false_iff_ne.2 e14
  have f15 : (o == (15 : Int)) = false := beq_eq_false_iff_ne.2 e15
  have f16 : (o == (16 : Int)) = false := beq_eq_false_iff_ne.2 e16
  have f17 : (o == (17 : Int)) = false := beq_eq_false_iff_ne.2 e17
  have f18 : (o == (18 : Int)) = false := beq_eq_false_iff_ne.2 e18
  have f19 : (o == (19 : Int)) = false := beq_eq_false_iff_ne.2 e19
  have f20 : (o == (20 : Int)) = false := beq_eq_false_iff_ne.2 e20
  have f21 : (o == (21 : Int)) = false := beq_eq_false_iff_ne.2 e21
  have f22 : (o == (22 : Int)) = false := beq_eq_false_iff_ne.2 e22
  have f23 : (o == (23 : Int)) = false := beq_eq_false_iff_ne.2 e23
  have f24 : (o == (24 : Int)) = false := beq_eq_false_iff_ne.2 e24
  have f25 : (o == (25 : Int)) = false := beq_eq_false_iff_ne.2 e25
  have f26 : (o == (26 : Int)) = false := beq_eq_false_iff_ne.2 e26
  have f27 : (o == (27 : Int)) = false := beq_eq_false_iff_ne.2 e27
  have f28 : (o == (28 : Int)) = false := beq_eq_false_iff_ne.2 e28
  have f29 : (o == (29 : Int)) = false := beq_eq_false_iff_ne.2 e29
  have f30 : (o == (30 : Int)) = false := beq_eq_false_iff_ne.2 e30
  have f31 : (o == (31 : Int)) = false := beq_eq_false_iff_ne.2 e31
  have f32 : (o == (32 : Int)) = false := beq_eq_false_iff_ne.2 e32
  have f33 : (o == (33 : Int)) = false := beq_eq_false_iff_ne.2 e33
  have f34 : (o == (34 : Int)) = false := beq_eq_false_iff_ne.2 e34
  simp only [code_Effect_m, code_Effect_k2, code_Effect_k4, code_Effect_k6, code_Effect_k8, e0, e1, e2, e3, e5, e6, e7, e8, e9, e10, e11, e12, e13, e14, e15, e16, e17, e18, e19, e20, e22, e23, e24, e29, f0, f1, f2, f3, f4, f5, f6, f7, f8, f9, f10, f11, f12, f13, f14, f15, f16, f17, f18, f19, f20, f21, f22, f23, f29, f30, f32, if_false, Bool.false_eq_true]
theorem nat_of {o : Int} (h : 0 ≤ o ∧ o ≤ 34) : ∃ k : Nat, k < 35 ∧ o = (k : Int) := ⟨o.toNat, by omega, by omega⟩
theorem row9_nat (k : Nat) : row9 (k : Int) = tab9[k]! := by unfold row9; rw [Int.toNat_natCast]
theorem asks_s (N : Nat) (o a b w : Int) (x : BitVec 128) : code_asks_m N o a b w x = some (if 0 ≤ o ∧ o ≤ 34 then (if o = 10 then (0, 127, 0, a) else span9 (row9 o)) else (0, 0, 0, 0)) := by
  by_cases h : 0 ≤ o ∧ o ≤ 34
  · obtain ⟨k, hk, rfl⟩ := nat_of h
    rw [asks_in N a b w x k hk, if_pos h, row9_nat]
    by_cases c : k = 10
    · rw [if_pos c, if_pos (by omega)]
    · rw [if_neg c, if_neg (by omega)]
  · rw [asks_out N h, if_neg h]
theorem step_s (N : Nat) {o : Int} (h : 0 ≤ o ∧ o ≤ 34) (a b w : Int) (x : BitVec 128) : code_step_m N o a b w x = some (step9 o a b w x) := by
  obtain ⟨k, hk, rfl⟩ := nat_of h
  exact step_in N a b w x k hk
theorem effect_s (N : Nat) (o : Int) : code_Effect_m N o = some (eff9 o) := by
  unfold eff9
  by_cases h : 0 ≤ o ∧ o ≤ 34
  · obtain ⟨k, hk, rfl⟩ := nat_of h
    rw [effect_in N k hk, if_pos h, row9_nat]
  · rw [effect_out N h, if_neg h]
theorem mayRow_s (N : Nat) (o a b w : Int) (x : BitVec 128) : code_mayRow_m N o a b w x = some (if o = 0 then mayB w x else decide (w = 0 ∧ x = 0#128)) := by
  unfold code_mayRow_m
  by_cases c : o = 0
  · rw [if_pos c, if_pos c, vmay_s, Option.bind_some]
  · rw [if_neg c, if_neg c, zz9]
    congr 1
    rw [Bool.eq_iff_iff, decide_eq_true_eq, Bool.and_eq_true, beq_iff_eq, beq_iff_eq]
theorem slice9 : row9 10 = tab9[10]! := rfl
theorem may_k2 (N : Nat) {o : Int} (h : 0 ≤ o ∧ o ≤ 34) (a b w : Int) (x : BitVec 128) (bad : Bool)
    (hb : bad = decide (a < (row9 o).2.2.2.2.1 ∨ (row9 o).2.2.2.2.2.1 < a ∨ b < (row9 o).2.2.2.2.2.2.1 ∨ (row9 o).2.2.2.2.2.2.2.1 < b ∨ (o = 10 ∧ a < b))) : code_May_k2 N o a b w x bad = some (may9 o a b w x) := by
  unfold code_May_k2 may9
  rw [if_pos h]
  by_cases c : a < (row9 o).2.2.2.2.1 ∨ (row9 o).2.2.2.2.2.1 < a ∨ b < (row9 o).2.2.2.2.2.2.1 ∨ (row9 o).2.2.2.2.2.2.2.1 < b ∨ (o = 10 ∧ a < b)
  · rw [hb, decide_eq_true c, if_pos rfl, if_pos c]
  · rw [hb, decide_eq_false c, if_neg (by decide), if_neg c, mayRow_s, Option.bind_some]
    by_cases d : o = 0
    · rw [if_pos d, if_pos d]
      by_cases e : mayB w x = true
      · rw [if_pos e, if_pos e]
      · rw [if_neg e, if_neg e]
    · rw [if_neg d, if_neg d]
      by_cases e : w = 0 ∧ x = 0#128
      · rw [decide_eq_true e, if_pos rfl, if_pos e]
      · rw [decide_eq_false e, if_neg (by decide), if_neg e]
theorem may_s (N : Nat) (o a b w : Int) (x : BitVec 128) : code_May_m N o a b w x = some (may9 o a b w x) := by
  unfold code_May_m
  rw [asks_s, Option.bind_some, isOp_s, Option.bind_some]
  by_cases h : 0 ≤ o ∧ o ≤ 34
  rotate_left
  · rw [decide_eq_false h, if_neg (by decide)]
    unfold may9; rw [if_neg h]
  rw [decide_eq_true h, if_pos rfl, if_pos h, has_s, Option.bind_some]
  have key : ∀ (s : Int × Int × Int × Int), (¬ (s.1 ≤ a ∧ a ≤ s.2.1 ∧ s.2.2.1 ≤ b ∧ b ≤ s.2.2.2) ↔ (a < (row9 o).2.2.2.2.1 ∨ (row9 o).2.2.2.2.2.1 < a ∨ b < (row9 o).2.2.2.2.2.2.1 ∨ (row9 o).2.2.2.2.2.2.2.1 < b ∨ (o = 10 ∧ a < b))) →
      (if decide (s.1 ≤ a ∧ a ≤ s.2.1) = true then (code_span_has_m N s.2.2.1 s.2.2.2 b).bind fun r25 => code_May_k2 N o a b w x (!(r25)) else code_May_k2 N o a b w x true) = some (may9 o a b w x) := fun s hs => by
    by_cases c : s.1 ≤ a ∧ a ≤ s.2.1
    · rw [decide_eq_true c, if_pos rfl, has_s, Option.bind_some]
      refine may_k2 N h a b w x _ ?_
      by_cases d : s.2.2.1 ≤ b ∧ b ≤ s.2.2.2
      · rw [decide_eq_true d, decide_eq_false (fun q => hs.2 q ⟨c.1, c.2, d.1, d.2⟩)]; rfl
      · rw [decide_eq_false d, decide_eq_true (hs.1 (fun q => d ⟨q.2.2.1, q.2.2.2⟩))]; rfl
    · rw [decide_eq_false c, if_neg (by decide)]
      exact may_k2 N h a b w x _ (decide_eq_true (hs.1 (fun q => c ⟨q.1, q.2.1⟩))).symm
  by_cases c : o = 10
  · rw [if_pos c]
    refine key (0, 127, 0, a) ?_
    subst c
    show _ ↔ (a < 0 ∨ 127 < a ∨ b < 0 ∨ 127 < b ∨ ((10 : Int) = 10 ∧ a < b))
    show (¬ ((0 : Int) ≤ a ∧ a ≤ 127 ∧ (0 : Int) ≤ b ∧ b ≤ a)) ↔ _
    omega
  · rw [if_neg c]
    refine key (span9 (row9 o)) ?_
    unfold span9
    generalize (row9 o).2.2.2.2.1 = p1
    generalize (row9 o).2.2.2.2.2.1 = p2
    generalize (row9 o).2.2.2.2.2.2.1 = p3
    generalize (row9 o).2.2.2.2.2.2.2.1 = p4
    show (¬ (p1 ≤ a ∧ a ≤ p2 ∧ p3 ≤ b ∧ b ≤ p4)) ↔ _
    omega
theorem make_s (N : Nat) (o a b w : Int) (x : BitVec 128) : code_Make_m N o a b w x = some (if may9 o a b w x = 0 then step9 o a b w x else .nil, may9 o a b w x) := by
  unfold code_Make_m
  rw [may_s, Option.bind_some]
  by_cases c : may9 o a b w x = 0
  · rw [if_neg (fun q => q c), if_pos c, step_s N (may9_op c), Option.bind_some, c]
  · rw [if_pos c, if_neg c]
theorem step_inj : ∀ {s s' : Sum31}, typ9 s = typ9 s' → ins9 s = ins9 s' → s = s' := by
  intro s s' h1 h2
  cases s <;> cases s' <;> first
    | rfl
    | (simp [typ9] at h1; done)
    | (simp only [ins9, Prod.mk.injEq] at h2; simp only [h2])
theorem written_s (N : Nat) (s : Sum31) (h : s ≠ .nil) : code_written_m N s = some (ins9 s) := by
  unfold code_written_m
  rw [zz9]
  cases s <;> first | exact absurd rfl h | rfl
theorem plain_s (N : Nat) (s : Sum31) : code_Plain_m N s = some (plain9 s) := by
  unfold code_Plain_m plain9
  by_cases h : s = .nil
  · subst h
    have hm : may9 35 0 0 0 ((0#64) ++ (0#64)) = 10 := by unfold may9; rw [if_neg (by decide)]
    rw [show code_written_m N .nil = some (35, 0, 0, 0, (0#64) ++ (0#64)) from rfl, Option.bind_some, make_s, Option.bind_some]
    refine (if_pos (show may9 35 0 0 0 ((0#64) ++ (0#64)) ≠ 0 by rw [hm]; decide)).trans ?_
    rw [if_neg (fun q => typ_ne 0 (by decide) q.2.symm), zz9]
  · rw [written_s N s h, Option.bind_some, make_s, Option.bind_some]
    by_cases c : may9 (ins9 s).1 (ins9 s).2.1 (ins9 s).2.2.1 (ins9 s).2.2.2.1 (ins9 s).2.2.2.2 = 0
    rotate_left
    · rw [if_pos c, if_neg (fun q => c q.1), zz9]
    rw [if_neg (fun q => q c), if_pos c]
    obtain ⟨t, i⟩ := step9_ok c
    have hn : Sum31.isNil s = false := by cases s <;> first | exact absurd rfl h | rfl
    rw [ck_pos _ (by rw [hn, Bool.and_false])]
    by_cases d : typ9 s = (row9 (ins9 s).1).2.2.2.2.2.2.2.2
    · rw [if_pos (Sum31.beq_iff.2 (step_inj (t.trans d.symm) i)), if_pos ⟨c, d⟩]
    · rw [if_neg (fun q => d (by have e : step9 (ins9 s).1 (ins9 s).2.1 (ins9 s).2.2.1 (ins9 s).2.2.2.1 (ins9 s).2.2.2.2 = s := Sum31.beq_iff.1 q; rw [e] at t; exact t)), if_neg (fun q => d q.2), zz9]
/-! ### names -/
theorem names_tab : ∀ k : Nat, k < 35 → gtab_code_names[k]! = (tab9[k]!).1 := by decide +kernel
theorem name_s (N : Nat) (o : Int) : code_Name_m N o = some (name9 o) := by
  unfold code_Name_m name9
  rw [isOp_s, Option.bind_some]
  by_cases h : 0 ≤ o ∧ o ≤ 34
  · rw [decide_eq_true h, if_pos rfl, if_pos h, ck_pos _ (by omega), names_tab _ (by omega)]; rfl
  · rw [decide_eq_false h, if_neg (by decide), if_neg h]
theorem find_loop (s : List UInt8) : ∀ (k f i : Nat), i + k = 35 → k < f → code_Find_l2 s f (i : Int) = some (findF s i (tab9.drop i)) := by
  intro k
  induction k with
  | zero =>
    intro f i hi hf
    obtain ⟨f, rfl⟩ : ∃ n, f = n + 1 := ⟨f - 1, by omega⟩
    rw [code_Find_l2, if_neg (by omega), List.drop_of_length_le (by rw [tab9_len]; omega)]; rfl
  | succ k ih =>
    intro f i hi hf
    obtain ⟨f, rfl⟩ : ∃ n, f = n + 1 := ⟨f - 1, by omega⟩
    have hl : i < tab9.length := by rw [tab9_len]; omega
    have e1 : (i : Int) + 1 = ((i + 1 : Nat) : Int) := by omega
    rw [code_Find_l2, if_pos (by omega), ck_pos _ (by omega), Int.toNat_natCast, names_tab i (by omega), List.drop_eq_getElem_cons hl, findF, getElem!_pos tab9 i hl]
    by_cases c : (tab9[i]).1 = s
    · rw [if_pos c, if_pos c]
    · rw [if_neg c, if_neg c, ck_pos _ (by omega), e1, ih f (i + 1) (by omega) (by omega)]
theorem find_s9 {N : Nat} (hN : 300 < N) (s : List UInt8) : code_Find_m N s = some (find9 s) := by
  unfold code_Find_m find9
  exact find_loop s 35 N 0 (by omega) (by omega)
/-! ### lists -/
theorem badF_app (l : List I9) : ∀ (i : Nat) (d : Int × Int), (∀ x ∈ l, may9I x = 0) → badF i l d = d := by
  induction l with
  | nil => intro i d _; rfl
  | cons x r ih =>
    intro i d h
    rw [badF, if_neg (fun q => q (h x (by simp))), ih (i + 1) d (fun y hy => h y (by simp [hy]))]
theorem badF_from (r : List I9) (x : I9) : ∀ (l : List I9) (i : Nat) (d : Int × Int), (∀ y ∈ l, may9I y = 0) → badF i (l ++ x :: r) d = badF (i + l.length) (x :: r) d := by
  intro l
  induction l with
  | nil => intro i d _; rfl
  | cons y l ih =>
    intro i d h
    rw [List.cons_append, badF, if_neg (fun q => q (h y (by simp))), ih (i + 1) d (fun z hz => h z (by simp [hz])), List.length_cons]
    congr 1; omega
theorem all_loop {N : Nat} (l : List I9) (hl : l.length ≤ 200) : ∀ (k f i : Nat), i + k = min l.length 65 → k < f → i ≤ 64 → (∀ x ∈ l.take i, may9I x = 0) → code_All_l3 N l f ((l.take i).map step9I) (i : Int) = some (all9 l) := by
  intro k
  induction k with
  | zero =>
    intro f i hi hf h64 hok
    obtain ⟨f, rfl⟩ : ∃ n, f = n + 1 := ⟨f - 1, by omega⟩
    have hi2 : i = l.length := by omega
    subst hi2
    rw [List.take_length] at hok ⊢
    have hb : bad9 l = (((l.length : Nat) : Int), 0) := by
      unfold bad9
      rw [List.take_of_length_le h64, badF_app l 0 _ hok, if_neg (by omega), Nat.min_eq_left h64]
    rw [code_All_l3, if_neg (by omega)]
    unfold all9
    rw [hb, if_pos rfl, List.length_map]
  | succ k ih =>
    intro f i hi hf h64 hok
    obtain ⟨f, rfl⟩ : ∃ n, f = n + 1 := ⟨f - 1, by omega⟩
    have hil : i < l.length := by omega
    have e1 : (i : Int) + 1 = ((i + 1 : Nat) : Int) := by omega
    rw [code_All_l3, if_pos (by omega), ck_pos _ (by omega)]
    by_cases c : i = 64
    · subst c
      rw [if_pos (by decide)]
      have hb : bad9 l = (64, 2) := by
        unfold bad9
        rw [badF_app _ 0 _ hok, if_pos (by omega), Nat.min_eq_right (by omega)]; rfl
      unfold all9
      rw [hb, if_neg (by decide)]; rfl
    rw [if_neg (by omega), make_s, Option.bind_some, Int.toNat_natCast]
    have hsplit : l.take 64 = l.take i ++ l[i]! :: (l.take 64).drop (i + 1) := by
      have h1 : i < (l.take 64).length := by rw [List.length_take]; omega
      conv => lhs; rw [← List.take_append_drop i (l.take 64)]
      rw [List.take_take, Nat.min_eq_left h64, List.drop_eq_getElem_cons h1, List.getElem_take, getElem!_pos l i hil]
    have hti : (l.take i).length = i := by rw [List.length_take]; omega
    by_cases d : may9I (l[i]!) = 0
    · have d2 : may9 (l[i]!).1 (l[i]!).2.1 (l[i]!).2.2.1 (l[i]!).2.2.2.1 (l[i]!).2.2.2.2 = 0 := d
      have htk : l.take (i + 1) = l.take i ++ [l[i]!] := by rw [List.take_succ_eq_append_getElem hil, getElem!_pos l i hil]
      rw [if_neg (fun q => q d2), if_pos d2, ck_pos _ (by rw [List.length_map, hti]; show i + 1 ≤ _; omega), ck_pos _ (by omega), e1]
      have hm : (l.take i).map step9I ++ [step9 (l[i]!).1 (l[i]!).2.1 (l[i]!).2.2.1 (l[i]!).2.2.2.1 (l[i]!).2.2.2.2] = (l.take (i + 1)).map step9I := by rw [htk, List.map_append]; rfl
      rw [hm]
      refine ih f (i + 1) (by omega) (by omega) (by omega) (fun x hx => ?_)
      rw [htk, List.mem_append, List.mem_singleton] at hx
      rcases hx with hx | rfl
      · exact hok x hx
      · exact d
    · have d2 : may9 (l[i]!).1 (l[i]!).2.1 (l[i]!).2.2.1 (l[i]!).2.2.2.1 (l[i]!).2.2.2.2 ≠ 0 := d
      rw [if_pos d2]
      have hb : bad9 l = ((i : Int), may9I (l[i]!)) := by
        unfold bad9
        rw [hsplit, badF_from _ _ _ 0 _ hok, hti, badF, if_pos d, Nat.zero_add]
      unfold all9
      rw [hb, if_neg d]; rfl
theorem all_s {N : Nat} (hN : 300 < N) (l : List I9) (hl : l.length ≤ 200) : code_All_m N l = some (all9 l) := by
  unfold code_All_m
  exact all_loop l hl (min l.length 65) N 0 (by omega) (by omega) (by omega) (fun x hx => by simp at hx)
theorem target_s (N : Nat) (s : Sum31) : code_Target_m N s = some (target9 s) := by cases s <;> rfl
theorem only_s (N : Nat) (w : Int) (x : BitVec 128) : code_Only_m N (.t47 w x) = some (w, x) := rfl
/-! ### texts -/
def nums9 (o a b w : Int) (x : BitVec 128) : List (List UInt8) := if o = 0 then [textV w x] else if (row9 o).2.2.2.1 = 0 then [] else if (row9 o).2.2.2.1 = 1 then [Lib.itoa a] else [Lib.itoa a, Lib.itoa b]
theorem ck1 {a : Int} (ha : I64 a) : ck (-9223372036854775808 ≤ a ∧ a ≤ 9223372036854775807) (some [Lib.itoa a]) = some [Lib.itoa a] := ck_pos _ ha
theorem ck2 {a b : Int} (ha : I64 a) (hb : I64 b) : ck (-9223372036854775808 ≤ a ∧ a ≤ 9223372036854775807) (ck (-9223372036854775808 ≤ b ∧ b ≤ 9223372036854775807) (some [Lib.itoa a, Lib.itoa b])) = some [Lib.itoa a, Lib.itoa b] := by
  unfold I64 at ha hb
  rw [ck_pos _ ha, ck_pos _ hb]
theorem ck0 (N : Nat) (w : Int) (x : BitVec 128) : ((vec_Text_m N w x).bind fun r31 => some [r31]) = some [textV w x] := by rw [vtext_s]; rfl
theorem words_in (N : Nat) {a b : Int} (ha : I64 a) (hb : I64 b) (w : Int) (x : BitVec 128) : ∀ k : Nat, k < 35 → code_words_m N (k : Int) a b w x = some (nums9 (k : Int) a b w x)
  | 0, _ => by rw [code_words_m, step_in N a b w x 0 (by decide)]; exact ck0 N w x
  | 1, _ => by rw [code_words_m, step_in N a b w x 1 (by decide)]; exact ck2 ha hb
  | 2, _ => by rw [code_words_m, step_in N a b w x 2 (by decide)]; exact ck1 ha
  | 3, _ => by rw [code_words_m, step_in N a b w x 3 (by decide)]; exact ck1 ha
  | 4, _ => by rw [code_words_m, step_in N a b w x 4 (by decide)]; exact ck1 ha
  | 5, _ => by rw [code_words_m, step_in N a b w x 5 (by decide)]; exact ck1 ha
  | 6, _ => by rw [code_words_m, step_in N a b w x 6 (by decide)]; exact rfl
  | 7, _ => by rw [code_words_m, step_in N a b w x 7 (by decide)]; exact rfl
  | 8, _ => by rw [code_words_m, step_in N a b w x 8 (by decide)]; exact ck1 ha
  | 9, _ => by rw [code_words_m, step_in N a b w x 9 (by decide)]; exact ck1 ha
  | 10, _ => by rw [code_words_m, step_in N a b w x 10 (by decide)]; exact ck2 ha hb
  | 11, _ => by rw [code_words_m, step_in N a b w x 11 (by decide)]; exact ck1 ha
  | 12, _ => by rw [code_words_m, step_in N a b w x 12 (by decide)]; exact rfl
  | 13, _ => by rw [code_words_m, step_in N a b w x 13 (by decide)]; exact rfl
  | 14, _ => by rw [code_words_m, step_in N a b w x 14 (by decide)]; exact rfl
  | 15, _ => by rw [code_words_m, step_in N a b w x 15 (by decide)]; exact rfl
  | 16, _ => by rw [code_words_m, step_in N a b w x 16 (by decide)]; exact rfl
  | 17, _ => by rw [code_words_m, step_in N a b w x 17 (by decide)]; exact rfl
  | 18, _ => by rw [code_words_m, step_in N a b w x 18 (by decide)]; exact rfl
  | 19, _ => by rw [code_words_m, step_in N a b w x 19 (by decide)]; exact rfl
  | 20, _ => by rw [code_words_m, step_in N a b w x 20 (by decide)]; exact rfl
  | 21, _ => by rw [code_words_m, step_in N a b w x 21 (by decide)]; exact rfl
  | 22, _ => by rw [code_words_m, step_in N a b w x 22 (by decide)]; exact ck2 ha hb
  | 23, _ => by rw [code_words_m, step_in N a b w x 23 (by decide)]; exact ck1 ha
  | 24, _ => by rw [code_words_m, step_in N a b w x 24 (by decide)]; exact ck1 ha
  | 25, _ => by rw [code_words_m, step_in N a b w x 25 (by decide)]; exact ck1 ha
  | 26, _ => by rw [code_words_m, step_in N a b w x 26 (by decide)]; exact ck1 ha
  | 27, _ => by rw [code_words_m, step_in N a b w x 27 (by decide)]; exact ck2 ha hb
  | 28, _ => by rw [code_words_m, step_in N a b w x 28 (by decide)]; exact ck2 ha hb
  | 29, _ => by rw [code_words_m, step_in N a b w x 29 (by decide)]; exact ck1 ha
  | 30, _ => by rw [code_words_m, step_in N a b w x 30 (by decide)]; exact ck1 ha
  | 31, _ => by rw [code_words_m, step_in N a b w x 31 (by decide)]; exact ck1 ha
  | 32, _ => by rw [code_words_m, step_in N a b w x 32 (by decide)]; exact ck1 ha
  | 33, _ => by rw [code_words_m, step_in N a b w x 33 (by decide)]; exact ck2 ha hb
  | 34, _ => by rw [code_words_m, step_in N a b w x 34 (by decide)]; exact rfl
  | k + 35, h => absurd h (by omega)
theorem words_s (N : Nat) {o : Int} (h : 0 ≤ o ∧ o ≤ 34) {a b : Int} (ha : I64 a) (hb : I64 b) (w : Int) (x : BitVec 128) : code_words_m N o a b w x = some (nums9 o a b w x) := by
  obtain ⟨k, hk, rfl⟩ := nat_of h
  exact words_in N ha hb w x k hk
/-! ### strings.Join of few texts -/
theorem grow_s (N : Nat) {n : Int} (h0 : 0 ≤ n) (h1 : n ≤ 1000) : strings_Builder_Grow_v1_m N n = some [] := by
  unfold strings_Builder_Grow_v1_m strings_Builder_copyCheck_v1_m strings_Builder_Grow_v1_k1 strings_Builder_grow_v1_m
  rw [Option.bind_some, if_neg (by omega), ck_pos _ (by simp)]
  split
  · rw [ck_pos _ (by omega), ck_pos _ (by omega)]; rfl
  · rfl
theorem write_s (N : Nat) (b s : List UInt8) (h : b.length + s.length ≤ 1000) : strings_Builder_WriteString_v2b_m N b s = some ((s.length : Int), b ++ s) := by
  unfold strings_Builder_WriteString_v2b_m strings_Builder_WriteString_v2_m strings_Builder_copyCheck_v3_m
  rw [Option.bind_some, ck_pos _ rfl, ck_pos _ (by omega)]
theorem string_s (N : Nat) (b : List UInt8) (h : b.length ≤ 1000) : strings_Builder_String_v2b_m N b = some b := by
  unfold strings_Builder_String_v2b_m strings_Builder_String_v2_m
  rw [ck_pos _ (by omega)]
def sumL : List (List UInt8) → Nat
  | [] => 0
  | x :: r => x.length + sumL r
def joinR (sep : List UInt8) : List (List UInt8) → List UInt8
  | [] => []
  | x :: r => sep ++ x ++ joinR sep r
theorem sumL_drop (l : List (List UInt8)) (i : Nat) (h : i < l.length) : sumL (l.drop i) = (l[i]!).length + sumL (l.drop (i + 1)) := by rw [List.drop_eq_getElem_cons h, sumL, getElem!_pos l i h]
theorem sumL_le (l : List (List UInt8)) : ∀ i : Nat, sumL (l.drop i) ≤ sumL l := by
  induction l with
  | nil => intro i; rw [List.drop_nil]; exact Nat.le_refl _
  | cons x r ih =>
    intro i
    cases i with
    | zero => exact Nat.le_refl _
    | succ i => rw [List.drop_succ_cons, sumL]; have := ih i; omega
theorem joinR_len (sep : List UInt8) : ∀ l : List (List UInt8), (joinR sep l).length = sep.length * l.length + sumL l
  | [] => rfl
  | x :: r => by rw [joinR, List.length_append, List.length_append, joinR_len sep r, sumL, List.length_cons, Nat.mul_succ]; omega
theorem join_l9 {N : Nat} (l : List (List UInt8)) (sep : List UInt8) (h0 : 0 < l.length) : ∀ (k f i : Nat) (b : List UInt8), i + 1 + k = l.length → k < f → b.length + (joinR sep (l.drop (i + 1))).length ≤ 1000 → l.length ≤ 100 →
    strings_Join_l9 N l sep f b (i : Int) = some (b ++ joinR sep (l.drop (i + 1))) := by
  intro k
  have hd : ((l.take l.length).drop (((1 : Int)).toNat)) = l.drop 1 := by rw [List.take_length]; rfl
  induction k with
  | zero =>
    intro f i b hi hf hb hl
    obtain ⟨f, rfl⟩ : ∃ n, f = n + 1 := ⟨f - 1, by omega⟩
    have e : l.drop (i + 1) = [] := List.drop_of_length_le (by omega)
    rw [e] at hb ⊢
    rw [strings_Join_l9, hd, if_neg (by rw [List.length_drop]; omega), string_s N b (by simp [joinR] at hb; omega), Option.bind_some, joinR, List.append_nil]
  | succ k ih =>
    intro f i b hi hf hb hl
    obtain ⟨f, rfl⟩ : ∃ n, f = n + 1 := ⟨f - 1, by omega⟩
    have e1 : (i : Int) + 1 = ((i + 1 : Nat) : Int) := by omega
    have hlt : i + 1 < l.length := by omega
    have hg : (l.drop 1)[i]! = l[i + 1]! := by rw [getElem!_pos _ i (by rw [List.length_drop]; omega), List.getElem_drop, getElem!_pos l (i + 1) hlt]; congr 1; omega
    have hc : l.drop (i + 1) = l[i + 1]! :: l.drop (i + 1 + 1) := by rw [List.drop_eq_getElem_cons hlt, getElem!_pos l (i + 1) hlt]
    rw [hc, joinR, List.length_append, List.length_append] at hb
    rw [strings_Join_l9, hd, if_pos (by rw [List.length_drop]; omega), ck_pos _ (by rw [List.length_drop]; omega), write_s N _ _ (by omega), Option.bind_some, Int.toNat_natCast, hg, write_s N _ _ (by rw [List.length_append]; omega), Option.bind_some, ck_pos _ (by omega), e1,
      ih f (i + 1) _ (by omega) (by omega) (by rw [List.length_append, List.length_append]; omega) hl, hc, joinR, List.append_assoc, List.append_assoc, List.append_assoc]
theorem join_l5 {N : Nat} (hN : 300 < N) (l : List (List UInt8)) (sep : List UInt8) (h0 : 0 < l.length) (hl : l.length ≤ 100) (hs : sumL l + sep.length * l.length ≤ 900) : ∀ (k f i : Nat) (n : Int), i + k = l.length → k < f → 0 ≤ n → n + sumL (l.drop i) ≤ 1000 →
    strings_Join_l5 N l sep f n (i : Int) = some (l[0]! ++ joinR sep (l.drop 1)) := by
  intro k
  induction k with
  | zero =>
    intro f i n hi hf hn hb
    obtain ⟨f, rfl⟩ : ∃ n, f = n + 1 := ⟨f - 1, by omega⟩
    have hx : (l[0]!).length + sumL (l.drop 1) = sumL l := by have := sumL_drop l 0 h0; rw [List.drop_zero, Nat.zero_add] at this; omega
    have hm : sep.length * (l.drop 1).length ≤ sep.length * l.length := Nat.mul_le_mul_left _ (by rw [List.length_drop]; omega)
    rw [strings_Join_l5, if_neg (by omega), grow_s N hn (by omega), Option.bind_some, ck_pos _ (by omega), write_s N _ _ (by show 0 + _ ≤ _; show 0 + (l[0]!).length ≤ 1000; omega), Option.bind_some, ck_pos _ (by omega)]
    have := join_l9 (N := N) l sep h0 (l.length - 1) N 0 (l[0]!) (by omega) (by omega) (by show _ + (joinR sep (l.drop 1)).length ≤ 1000; rw [joinR_len]; omega) hl
    exact this
  | succ k ih =>
    intro f i n hi hf hn hb
    obtain ⟨f, rfl⟩ : ∃ n, f = n + 1 := ⟨f - 1, by omega⟩
    have e1 : (i : Int) + 1 = ((i + 1 : Nat) : Int) := by omega
    have hd := sumL_drop l i (by omega)
    rw [strings_Join_l5, if_pos (by omega), ck_pos _ (by omega), ck_pos _ (by omega), Int.toNat_natCast, if_neg (by omega), strings_Join_k6, Int.toNat_natCast, ck_pos _ (by omega), ck_pos _ (by omega), e1]
    exact ih f (i + 1) _ (by omega) (by omega) (by omega) (by omega)
theorem join_s9 {N : Nat} (hN : 300 < N) (x : List UInt8) (r : List (List UInt8)) (sep : List UInt8) (hl : r.length ≤ 50) (hs : x.length + sumL r + sep.length * (r.length + 1) ≤ 900) (h0 : 0 < sep.length) (h1 : sep.length ≤ 10) : strings_Join_m N (x :: r) sep = some (x ++ joinR sep r) := by
  have e : (((x :: r).length : Nat) : Int) = (r.length : Int) + 1 := by rw [List.length_cons]; omega
  have hm : (sep.length : Int) * (r.length : Int) = ((sep.length * r.length : Nat) : Int) := by rw [Int.natCast_mul]
  have hm2 : sep.length * (r.length + 1) = sep.length * r.length + sep.length := Nat.mul_succ _ _
  have hm3 : sep.length * r.length ≤ 500 := Nat.le_trans (Nat.mul_le_mul h1 hl) (by decide)
  unfold strings_Join_m
  rw [e, if_neg (by omega)]
  by_cases c : r.length = 0
  · obtain rfl := List.eq_nil_of_length_eq_zero c
    rw [if_pos (show ((([] : List (List UInt8)).length : Nat) : Int) + 1 = 1 from rfl), ck_pos _ (by decide)]
    show some x = _
    rw [joinR, List.append_nil]
  have hq : (9223372036854775807 : Int) / ((r.length : Int) + 1 - 1) ≥ 9223372036854775807 / 50 := by
    rw [show (r.length : Int) + 1 - 1 = (r.length : Int) from by omega]
    exact (Int.le_ediv_iff_mul_le (by omega)).2 (by have : (r.length : Int) ≤ 50 := by omega
                                                    have h := Int.mul_le_mul_of_nonneg_left this (show (0 : Int) ≤ 9223372036854775807 / 50 by decide)
                                                    exact Int.le_trans h (by decide))
  have hq2 : (9223372036854775807 / 50 : Int) = 184467440737095516 := by decide
  rw [if_neg (by omega), if_pos (by omega), ck_pos _ (by omega), ck_pos _ (by omega), if_neg (by omega)]
  unfold strings_Join_k10 strings_Join_k2
  have e2 : (r.length : Int) + 1 - 1 = (r.length : Int) := by omega
  rw [e, e2, hm, ck_pos _ (by omega), ck_pos _ (by omega), ck_pos _ (by omega)]
  have := join_l5 hN (x :: r) sep (by simp) (by rw [List.length_cons]; omega) (by rw [sumL, List.length_cons]; omega) (r.length + 1) N 0 (0 + ((sep.length * r.length : Nat) : Int)) (by rw [List.length_cons]; omega) (by omega) (by omega) (by rw [List.drop_zero, sumL]; omega)
  exact this
theorem text_s {N : Nat} (hN : 300 < N) (o a b w : Int) (x : BitVec 128) (ha : I64 a) (hb : I64 b) : code_Text_m N o a b w x = some (text9 o a b w x) := by
  unfold code_Text_m text9
  rw [isOp_s, Option.bind_some]
  by_cases h : 0 ≤ o ∧ o ≤ 34
  rotate_left
  · rw [decide_eq_false h, if_neg (by decide), if_neg h]
  have la := itoa_len ha
  have lb := itoa_len hb
  have lv := textV_len w x
  have lr := row_len h.1 h.2
  rw [decide_eq_true h, if_pos rfl, if_pos h, name_s, Option.bind_some, words_s N h ha hb, Option.bind_some]
  have hnm : name9 o = (row9 o).1 := if_pos h
  have hnum : ∀ k : Nat, k < 35 → (tab9[k]!).2.2.2.1 = 0 ∨ (tab9[k]!).2.2.2.1 = 1 ∨ (tab9[k]!).2.2.2.1 = 2 := by decide +kernel
  have hn := hnum o.toNat (by omega)
  have hw : (nums9 o a b w x).length ≤ 2 ∧ sumL (nums9 o a b w x) ≤ 300 := by
    unfold nums9
    split
    · exact ⟨Nat.le_succ _, by simp only [sumL]; omega⟩
    · split
      · exact ⟨Nat.zero_le _, Nat.zero_le _⟩
      · split
        · exact ⟨Nat.le_succ _, by simp only [sumL]; omega⟩
        · exact ⟨Nat.le_refl _, by simp only [sumL]; omega⟩
  rw [hnm, ck_pos _ (by show 1 + _ ≤ _; omega), List.singleton_append, join_s9 hN _ _ _ (by omega) (by show _ + 1 * _ ≤ 900; omega) (by decide) (by decide), Option.bind_some]
  congr 1
  unfold nums9 many9
  by_cases c : o = 0
  · rw [if_pos c, if_pos c]; simp only [joinR, List.append_nil, List.append_assoc]
  rw [if_neg c, if_neg c]
  change (row9 o).2.2.2.1 = 0 ∨ (row9 o).2.2.2.1 = 1 ∨ (row9 o).2.2.2.1 = 2 at hn
  rcases hn with hn | hn | hn
  · rw [hn, if_pos rfl, if_neg (by decide), if_neg (by decide)]; rfl
  · rw [hn, if_neg (by decide), if_pos rfl, if_pos (by decide), if_neg (by decide)]; simp only [joinR, List.append_nil]
  · rw [hn, if_neg (by decide), if_neg (by decide), if_pos (by decide), if_pos rfl]; simp only [joinR, List.append_nil, List.append_assoc]
theorem code9_s {N : Nat} (hN : 300 < N) : Code9 N := ⟨may_s N, make_s N, plain_s N, effect_s N, fun o a b w x ha hb => text_s hN o a b w x ha hb⟩
end Go.Proofs.YtmfedgmmgehmgaaDoor
