/- What the models of rows of bits come to. Conditions: none but those written. -/
import Derived.Test.YtdgejbbelmhbdaaBf
namespace Go.Proofs.Ytdgejbbelmhbdaa
open Go Go.RowKit Go.Eng
def mayB (w : Int) (x : BitVec 128) : Bool := decide (1 ≤ w) && (decide (w ≤ 128) && decide (((len128 x : Nat) : Int) ≤ w))
theorem rmay_s (N : Nat) (w : Int) (x : BitVec 128) : shunterref02_May_m N w x = some (mayB w x) := by
  unfold shunterref02_May_m mayB
  rw [hi_lo]
  by_cases h1 : w ≥ 1
  · rw [if_pos h1, decide_eq_true (show 1 ≤ w from h1), Bool.true_and]
    by_cases h2 : w ≤ 128
    · rw [if_pos h2, decide_eq_true h2, Bool.true_and]
    · rw [if_neg h2, decide_eq_false h2, Bool.false_and]
  · rw [if_neg h1, decide_eq_false (show ¬ 1 ≤ w from h1), Bool.false_and]
theorem width_s (N : Nat) (w : Int) : vec_mayWidth_m N w = some (decide (1 ≤ w ∧ w ≤ 128)) := by
  unfold vec_mayWidth_m
  by_cases h1 : w ≥ 1
  · rw [if_pos h1]; congr 1; exact decide_eq_decide.2 ⟨fun h => ⟨h1, h⟩, fun h => h.2⟩
  · rw [if_neg h1]; congr 1; exact (decide_eq_false (fun h => h1 h.1)).symm
theorem vmay_s (N : Nat) (w : Int) (x : BitVec 128) : vec_May_m N w x = some (mayB w x) := by
  unfold vec_May_m vec_Word_m mayB
  rw [width_s, Option.bind_some]
  by_cases h1 : 1 ≤ w
  · rw [decide_eq_true h1, Bool.true_and]
    by_cases h2 : w ≤ 128
    · rw [decide_eq_true (show 1 ≤ w ∧ w ≤ 128 from ⟨h1, h2⟩), if_pos rfl, Option.bind_some, decide_eq_true h2, Bool.true_and]
    · rw [decide_eq_false (fun h : 1 ≤ w ∧ w ≤ 128 => h2 h.2), if_neg (by decide), decide_eq_false h2, Bool.false_and]
  · rw [decide_eq_false (fun h : 1 ≤ w ∧ w ≤ 128 => h1 h.1), if_neg (by decide), decide_eq_false h1, Bool.false_and]
theorem may_w {w : Int} {x : BitVec 128} (h : mayB w x = true) : 1 ≤ w ∧ w ≤ 128 ∧ ((len128 x : Nat) : Int) ≤ w := by
  simpa [mayB] using h
theorem may_bit {w : Int} {x : BitVec 128} (h : mayB w x = true) (j : Nat) (hj : w ≤ (j : Int)) : x.getLsbD j = false := by
  have h1 := (may_w h).2.2
  rw [← BitVec.testBit_toNat]
  refine Nat.testBit_lt_two_pow (Nat.lt_of_lt_of_le (len128_spec x).1 ?_)
  exact Nat.pow_le_pow_right (by decide) (by omega)
theorem may_of {w : Int} {x : BitVec 128} (h1 : 1 ≤ w) (h2 : w ≤ 128) (h : ∀ j : Nat, w ≤ (j : Int) → x.getLsbD j = false) : mayB w x = true := by
  simp only [mayB, Bool.and_eq_true, decide_eq_true_eq]
  refine ⟨h1, h2, ?_⟩
  refine Int.not_lt.1 fun hlt => ?_
  obtain ⟨h3, h4, h5⟩ := len128_spec x
  have h6 := h (len128 x - 1) (by omega)
  rw [← BitVec.testBit_toNat, Nat.testBit_eq_decide_div_mod_eq] at h6
  have h7 := h4 (by omega)
  have h8 : 2 ^ len128 x = 2 ^ (len128 x - 1) * 2 := by rw [← Nat.pow_succ]; congr 1; omega
  have h9 : x.toNat / 2 ^ (len128 x - 1) = 1 := by
    apply Nat.div_eq_of_lt_le <;> omega
  rw [h9] at h6; simp at h6
def bitsL (n : Nat) (x : BitVec 128) : List Bool := (List.range n).map fun j => x.getLsbD j
theorem bitsL_len (n : Nat) (x : BitVec 128) : (bitsL n x).length = n := by simp [bitsL]
theorem bitsL_get (n : Nat) (x : BitVec 128) (j : Nat) : (bitsL n x)[j]! = (decide (j < n) && x.getLsbD j) := by
  rw [List.getElem!_eq_getElem?_getD]
  by_cases h : j < n
  · simp [bitsL, h]
  · simp [bitsL, h]
theorem bits_loop (w : Int) (x : BitVec 128) (hw : 0 ≤ w) (hw2 : w ≤ 128) : ∀ (k f i : Nat), i + k = w.toNat → k < f → shunterref02_Bits_l3 w x f (bitsL i x) (i : Int) = some (bitsL w.toNat x) := by
  intro k
  induction k with
  | zero =>
    intro f i hi hf
    obtain ⟨f, rfl⟩ : ∃ k, f = k + 1 := ⟨f - 1, by omega⟩
    rw [shunterref02_Bits_l3, if_neg (by omega), show i = w.toNat from by omega]
  | succ k ih =>
    intro f i hi hf
    obtain ⟨f, rfl⟩ : ∃ k, f = k + 1 := ⟨f - 1, by omega⟩
    rw [shunterref02_Bits_l3, if_pos (by omega)]
    rw [if_pos (by omega)]
    unfold shunterref02_Bits_k4
    rw [hi_lo, ck_pos _ (by omega), ck_pos _ (by rw [bitsL_len]; simp; omega), ck_pos _ (by omega), Int.toNat_natCast]
    have := ih f (i + 1) (by omega) (by omega)
    rw [← this]
    congr 1
    simp [bitsL, List.range_succ]
theorem bits_s (N : Nat) (w : Int) (x : BitVec 128) (hN : 128 < N) (hw : 0 ≤ w) (hw2 : w ≤ 128) : shunterref02_Bits_m N w x = some (bitsL w.toNat x) := by
  have := bits_loop w x hw hw2 w.toNat N 0 (by omega) (by omega)
  exact this
def ofG (l : List Bool) : Nat → BitVec 128
  | 0 => 0#128
  | i + 1 => setb (ofG l i) i (l[i]!)
def ofL (l : List Bool) : BitVec 128 := ofG l l.length
theorem ofG_bit (l : List Bool) (hl : l.length ≤ 128) : ∀ i, i ≤ l.length → ∀ j, (ofG l i).getLsbD j = (decide (j < i) && l[j]!)
  | 0, _, j => by simp [ofG]
  | i + 1, h, j => by
    rw [ofG, setb_get _ _ _ _ (by omega)]
    by_cases hj : j = i
    · subst hj; rw [if_pos rfl, decide_eq_true (by omega), Bool.true_and]
    · rw [if_neg hj, ofG_bit l hl i (by omega)]
      congr 1
      exact decide_eq_decide.2 (by omega)
theorem ofL_bit (l : List Bool) (hl : l.length ≤ 128) (j : Nat) : (ofL l).getLsbD j = l[j]! := by
  unfold ofL
  rw [ofG_bit l hl _ (Nat.le_refl _)]
  by_cases h : j < l.length
  · rw [decide_eq_true h, Bool.true_and]
  · rw [decide_eq_false h, Bool.false_and, List.getElem!_eq_getElem?_getD, List.getElem?_eq_none (by omega)]; rfl
end Go.Proofs.Ytdgejbbelmhbdaa
