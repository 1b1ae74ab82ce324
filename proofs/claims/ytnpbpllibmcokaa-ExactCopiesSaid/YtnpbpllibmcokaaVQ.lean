/- What the models of rows of bits come to. Conditions: none but those written. -/
import Derived.Test.YtnpbpllibmcokaaBb
namespace Go.Proofs.Ytnpbpllibmcokaa
open Go Go.RowKit Go.Eng
theorem halves_loop (x : BitVec 128) : ∀ (i f : Nat) (h l : BitVec 64), i ≤ 64 → i < f → h.toNat = (hi x).toNat / 2 ^ i → l.toNat = (lo x).toNat / 2 ^ i →
    shunterref01_Halves_l4 x f h l ((i : Int) - 1) = some (hi x, lo x) := by
  intro i
  induction i with
  | zero =>
    intro f h l _ hf hh hl
    obtain ⟨f, rfl⟩ : ∃ k, f = k + 1 := ⟨f - 1, by omega⟩
    rw [shunterref01_Halves_l4, if_neg (by omega)]
    have e1 : h = hi x := BitVec.eq_of_toNat_eq (by simpa using hh)
    have e2 : l = lo x := BitVec.eq_of_toNat_eq (by simpa using hl)
    rw [e1, e2]
  | succ i ih =>
    intro f h l hi64 hf hh hl
    obtain ⟨f, rfl⟩ : ∃ k, f = k + 1 := ⟨f - 1, by omega⟩
    have ei : ((i + 1 : Nat) : Int) - 1 = (i : Int) := by omega
    rw [ei, shunterref01_Halves_l4, if_pos (by omega), ck_pos _ (by omega), ck_pos _ (by omega)]
    have en : ((i : Int) + 64).toNat = 64 + i := by omega
    have bh : x.getLsbD (64 + i) = (hi x).getLsbD i := by unfold hi; rw [BitVec.getLsbD_extractLsb']; simp; intro; omega
    have bl : x.getLsbD i = (lo x).getLsbD i := by unfold lo; rw [BitVec.getLsbD_extractLsb']; simp; intro; omega
    have step : ∀ (y z : BitVec 64), z.toNat = y.toNat / 2 ^ (i + 1) → (2#64 * z + (if y.getLsbD i then 1#64 else 0#64)).toNat = y.toNat / 2 ^ i := by
      intro y z hz
      have h1 : y.getLsbD i = decide (y.toNat / 2 ^ i % 2 = 1) := by rw [← BitVec.testBit_toNat, Nat.testBit_eq_decide_div_mod_eq]
      have h2 : y.toNat / 2 ^ (i + 1) = y.toNat / 2 ^ i / 2 := by rw [Nat.pow_succ, Nat.div_div_eq_div_mul]
      have h3 : y.toNat / 2 ^ i ≤ y.toNat := Nat.div_le_self _ _
      have h4 := y.isLt
      rw [BitVec.toNat_add, BitVec.toNat_mul, hz, h2, h1]
      generalize y.toNat / 2 ^ i = q at *
      by_cases hq : q % 2 = 1
      · simp [hq]; omega
      · simp [hq]; omega
    have sh := step _ _ hh
    have sl := step _ _ hl
    rw [en, bh]
    have fin : ∀ h' : BitVec 64, h'.toNat = (hi x).toNat / 2 ^ i → shunterref01_Halves_k6 x l (i : Int) (shunterref01_Halves_l4 x f) h' = some (hi x, lo x) := by
      intro h' hh'
      unfold shunterref01_Halves_k6
      rw [ck_pos _ (by omega), Int.toNat_natCast, bl]
      cases hb : (lo x).getLsbD i
      · rw [if_neg (by decide), ck_pos _ (by omega)]
        rw [hb] at sl
        exact ih f h' (2#64 * l) (by omega) (by omega) hh' (by simpa using sl)
      · rw [if_pos rfl, ck_pos _ (by omega)]
        rw [hb] at sl
        exact ih f h' (2#64 * l + 1#64) (by omega) (by omega) hh' (by simpa using sl)
    cases hb : (hi x).getLsbD i
    · rw [if_neg (by decide)]; rw [hb] at sh; exact fin _ (by simpa using sh)
    · rw [if_pos rfl]; rw [hb] at sh; exact fin _ (by simpa using sh)
theorem halves_s (N : Nat) (x : BitVec 128) (hN : 64 < N) : shunterref01_Halves_m N x = some (hi x, lo x) := by
  unfold shunterref01_Halves_m
  have := halves_loop x 64 N 0#64 0#64 (by omega) hN (by
    have := (hi x).isLt
    rw [Nat.div_eq_of_lt this]; rfl) (by
    have := (lo x).isLt
    rw [Nat.div_eq_of_lt this]; rfl)
  exact this
/-! ### Rows that may be -/
def mayB (w : Int) (x : BitVec 128) : Bool := decide (1 ≤ w) && (decide (w ≤ 128) && decide (((len128 x : Nat) : Int) ≤ w))
theorem rmay_s (N : Nat) (w : Int) (x : BitVec 128) : shunterref02_May_m N w x = some (mayB w x) := by
  unfold shunterref02_May_m mayB
  rw [hi_lo]
  by_cases h1 : w ≥ 1
  · rw [if_pos h1, decide_eq_true (show 1 ≤ w from h1), Bool.true_and]
    by_cases h2 : w ≤ 128
    · rw [if_pos h2, decide_eq_true h2, Bool.true_and]
    · rw [if_neg h2, decide_eq_false h2, Bool.false_and]
  · rw [if_neg h1, decide_eq_false (show ¬ 1 ≤ w from h1), Bool.false_and]
theorem width_s (N : Nat) (w : Int) : vec_mayWidth_m N w = some (decide (1 ≤ w ∧ w ≤ 128)) := by
  unfold vec_mayWidth_m
  by_cases h1 : w ≥ 1
  · rw [if_pos h1]; congr 1; exact decide_eq_decide.2 ⟨fun h => ⟨h1, h⟩, fun h => h.2⟩
  · rw [if_neg h1]; congr 1; exact (decide_eq_false (fun h => h1 h.1)).symm
theorem vmay_s (N : Nat) (w : Int) (x : BitVec 128) : vec_May_m N w x = some (mayB w x) := by
  unfold vec_May_m vec_Word_m mayB
  rw [width_s, Option.bind_some]
  by_cases h1 : 1 ≤ w
  · rw [decide_eq_true h1, Bool.true_and]
    by_cases h2 : w ≤ 128
    · rw [decide_eq_true (show 1 ≤ w ∧ w ≤ 128 from ⟨h1, h2⟩), if_pos rfl, Option.bind_some, decide_eq_true h2, Bool.true_and]
    · rw [decide_eq_false (fun h : 1 ≤ w ∧ w ≤ 128 => h2 h.2), if_neg (by decide), decide_eq_false h2, Bool.false_and]
  · rw [decide_eq_false (fun h : 1 ≤ w ∧ w ≤ 128 => h1 h.1), if_neg (by decide), decide_eq_false h1, Bool.false_and]
theorem may_w {w : Int} {x : BitVec 128} (h : mayB w x = true) : 1 ≤ w ∧ w ≤ 128 ∧ ((len128 x : Nat) : Int) ≤ w := by
  simpa [mayB] using h
theorem may_bit {w : Int} {x : BitVec 128} (h : mayB w x = true) (j : Nat) (hj : w ≤ (j : Int)) : x.getLsbD j = false := by
  have h1 := (may_w h).2.2
  rw [← BitVec.testBit_toNat]
  refine Nat.testBit_lt_two_pow (Nat.lt_of_lt_of_le (len128_spec x).1 ?_)
  exact Nat.pow_le_pow_right (by decide) (by omega)
theorem may_of {w : Int} {x : BitVec 128} (h1 : 1 ≤ w) (h2 : w ≤ 128) (h : ∀ j : Nat, w ≤ (j : Int) → x.getLsbD j = false) : mayB w x = true := by
  simp only [mayB, Bool.and_eq_true, decide_eq_true_eq]
  refine ⟨h1, h2, ?_⟩
  refine Int.not_lt.1 fun hlt => ?_
  obtain ⟨h3, h4, h5⟩ := len128_spec x
  have h6 := h (len128 x - 1) (by omega)
  rw [← BitVec.testBit_toNat, Nat.testBit_eq_decide_div_mod_eq] at h6
  have h7 := h4 (by omega)
  have h8 : 2 ^ len128 x = 2 ^ (len128 x - 1) * 2 := by rw [← Nat.pow_succ]; congr 1; omega
  have h9 : x.toNat / 2 ^ (len128 x - 1) = 1 := by
    apply Nat.div_eq_of_lt_le <;> omega
  rw [h9] at h6; simp at h6
theorem may_eq {w : Int} {x y : BitVec 128} (hx : mayB w x = true) (hy : mayB w y = true) (h : ∀ j : Nat, (j : Int) < w → x.getLsbD j = y.getLsbD j) : x = y := by
  apply BitVec.eq_of_getLsbD_eq
  intro j hj
  by_cases hw : (j : Int) < w
  · exact h j hw
  · rw [may_bit hx j (by omega), may_bit hy j (by omega)]
theorem low_bit (x : BitVec 128) (w : Int) (j : Nat) (hj : j < 128) : (x &&& onesI w).getLsbD j = (x.getLsbD j && decide ((j : Int) < w)) := by rw [BitVec.getLsbD_and, onesI_bit _ _ hj]
theorem may_low {w : Int} (h1 : 1 ≤ w) (h2 : w ≤ 128) (x : BitVec 128) : mayB w (x &&& onesI w) = true := may_of h1 h2 fun j hj => by
  by_cases h : j < 128
  · rw [low_bit _ _ _ h, decide_eq_false (by omega), Bool.and_false]
  · exact BitVec.getLsbD_of_ge _ _ (by omega)
/-! ### Rows as lists -/
def bitsL (n : Nat) (x : BitVec 128) : List Bool := (List.range n).map fun j => x.getLsbD j
theorem bitsL_len (n : Nat) (x : BitVec 128) : (bitsL n x).length = n := by simp [bitsL]
theorem bitsL_get (n : Nat) (x : BitVec 128) (j : Nat) : (bitsL n x)[j]! = (decide (j < n) && x.getLsbD j) := by
  rw [List.getElem!_eq_getElem?_getD]
  by_cases h : j < n
  · simp [bitsL, h]
  · simp [bitsL, h]
theorem bits_loop (w : Int) (x : BitVec 128) (hw : 0 ≤ w) (hw2 : w ≤ 128) : ∀ (k f i : Nat), i + k = w.toNat → k < f → shunterref02_Bits_l3 w x f (bitsL i x) (i : Int) = some (bitsL w.toNat x) := by
  intro k
  induction k with
  | zero =>
    intro f i hi hf
    obtain ⟨f, rfl⟩ : ∃ k, f = k + 1 := ⟨f - 1, by omega⟩
    rw [shunterref02_Bits_l3, if_neg (by omega), show i = w.toNat from by omega]
  | succ k ih =>
    intro f i hi hf
    obtain ⟨f, rfl⟩ : ∃ k, f = k + 1 := ⟨f - 1, by omega⟩
    rw [shunterref02_Bits_l3, if_pos (by omega)]
    rw [if_pos (by omega)]
    unfold shunterref02_Bits_k4
    rw [hi_lo, ck_pos _ (by omega), ck_pos _ (by rw [bitsL_len]; simp; omega), ck_pos _ (by omega), Int.toNat_natCast]
    have := ih f (i + 1) (by omega) (by omega)
    rw [← this]
    congr 1
    simp [bitsL, List.range_succ]
theorem bits_s (N : Nat) (w : Int) (x : BitVec 128) (hN : 128 < N) (hw : 0 ≤ w) (hw2 : w ≤ 128) : shunterref02_Bits_m N w x = some (bitsL w.toNat x) := by
  have := bits_loop w x hw hw2 w.toNat N 0 (by omega) (by omega)
  exact this
def ofG (l : List Bool) : Nat → BitVec 128
  | 0 => 0#128
  | i + 1 => setb (ofG l i) i (l[i]!)
def ofL (l : List Bool) : BitVec 128 := ofG l l.length
theorem ofG_bit (l : List Bool) (hl : l.length ≤ 128) : ∀ i, i ≤ l.length → ∀ j, (ofG l i).getLsbD j = (decide (j < i) && l[j]!)
  | 0, _, j => by simp [ofG]
  | i + 1, h, j => by
    rw [ofG, setb_get _ _ _ _ (by omega)]
    by_cases hj : j = i
    · subst hj; rw [if_pos rfl, decide_eq_true (by omega), Bool.true_and]
    · rw [if_neg hj, ofG_bit l hl i (by omega)]
      congr 1
      exact decide_eq_decide.2 (by omega)
theorem ofL_bit (l : List Bool) (hl : l.length ≤ 128) (j : Nat) : (ofL l).getLsbD j = l[j]! := by
  unfold ofL
  rw [ofG_bit l hl _ (Nat.le_refl _)]
  by_cases h : j < l.length
  · rw [decide_eq_true h, Bool.true_and]
  · rw [decide_eq_false h, Bool.false_and, List.getElem!_eq_getElem?_getD, List.getElem?_eq_none (by omega)]; rfl
theorem of_loop (N : Nat) (hN : 64 < N) (l : List Bool) (hl : l.length ≤ 128) : ∀ (k f i : Nat), i + k = l.length → k < f → shunterref02_Of_l5 N l f (i : Int) (ofG l i) = some ((l.length : Int), ofL l) := by
  intro k
  induction k with
  | zero =>
    intro f i hi hf
    obtain ⟨f, rfl⟩ : ∃ k, f = k + 1 := ⟨f - 1, by omega⟩
    rw [shunterref02_Of_l5, if_neg (by omega)]
    have hi' : i = l.length := by omega
    subst hi'
    unfold shunterref02_Of_k2
    rw [halves_s _ _ hN, Option.bind_some, hi_lo]
    rfl
  | succ k ih =>
    intro f i hi hf
    obtain ⟨f, rfl⟩ : ∃ k, f = k + 1 := ⟨f - 1, by omega⟩
    rw [shunterref02_Of_l5, if_pos (by omega), if_pos (by omega)]
    unfold shunterref02_Of_k6
    rw [ck_pos _ (by omega), ck_pos _ (by omega), ck_pos _ (by omega), Int.toNat_natCast]
    have := ih f (i + 1) (by omega) (by omega)
    rw [← this]; rfl
theorem of_s (N : Nat) (hN : 128 < N) (l : List Bool) (hl : l.length ≤ 128) : shunterref02_Of_m N l = some ((l.length : Int), ofL l) := of_loop N (by omega) l hl l.length N 0 (by omega) (by omega)
end Go.Proofs.Ytnpbpllibmcokaa
