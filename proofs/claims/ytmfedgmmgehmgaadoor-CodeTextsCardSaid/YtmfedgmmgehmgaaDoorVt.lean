/- Rows of bits: which may be, and their texts (layer 2 and its reference), as the layers from 9 on reach them. Conditions: none but those written. -/
import Derived.Test.YtmfedgmmgehmgaaDoorTeP
import Derived.Test.YtmfedgmmgehmgaaDoorPaQ
import Derived.Test.YtmfedgmmgehmgaaDoorBc
namespace Go.Proofs.YtmfedgmmgehmgaaDoor
open Go Go.RowKit Go.Eng
theorem textL_len (b : Nat) : ∀ (k n : Nat), (textL b k n).length ≤ k
  | 0, _ => Nat.le_refl _
  | k + 1, n => by
    unfold textL
    split
    · simp
    · have := textL_len b k (n / b)
      simp only [List.length_append, List.length_singleton]; omega
def I64 (n : Int) : Prop := -9223372036854775808 ≤ n ∧ n ≤ 9223372036854775807
def mayB (w : Int) (x : BitVec 128) : Bool := decide (1 ≤ w) && (decide (w ≤ 128) && decide (((len128 x : Nat) : Int) ≤ w))
theorem may_w {w : Int} {x : BitVec 128} (h : mayB w x = true) : 1 ≤ w ∧ w ≤ 128 ∧ ((len128 x : Nat) : Int) ≤ w := by
  simpa [mayB] using h
theorem vmay_s (N : Nat) (w : Int) (x : BitVec 128) : vec_May_m N w x = some (mayB w x) := by
  unfold vec_May_m vec_Word_m mayB vec_mayWidth_m
  by_cases h1 : 1 ≤ w
  · rw [if_pos h1, decide_eq_true h1, Bool.true_and, Option.bind_some]
    by_cases h2 : w ≤ 128
    · rw [decide_eq_true h2, if_pos rfl, Option.bind_some, Bool.true_and]
    · rw [decide_eq_false h2, if_neg (by decide), Bool.false_and]
  · rw [if_neg h1, decide_eq_false h1, Bool.false_and, Option.bind_some, if_neg (by decide)]
theorem rmay_s (N : Nat) (w : Int) (x : BitVec 128) : shunterref02_May_m N w x = some (mayB w x) := by
  unfold shunterref02_May_m mayB
  rw [hi_lo]
  by_cases h1 : 1 ≤ w
  · rw [if_pos h1, decide_eq_true h1, Bool.true_and]
    by_cases h2 : w ≤ 128
    · rw [if_pos h2, decide_eq_true h2, Bool.true_and]
    · rw [if_neg h2, decide_eq_false h2, Bool.false_and]
  · rw [if_neg h1, decide_eq_false h1, Bool.false_and]
/-! ### digits -/
theorem dch10 : ∀ d : Nat, d < 10 → dch d = UInt8.ofNat (48 + d) := by decide
theorem dec_text : ∀ (k n : Nat), 1 ≤ k → n < 10 ^ k → textL 10 k n = Lib.decDigits n
  | 0, _, h, _ => absurd h (by decide)
  | k + 1, n, _, h => by
    rw [textL, Lib.decDigits]
    by_cases h10 : n < 10
    · rw [dif_pos h10, if_pos (Nat.div_eq_of_lt h10), Nat.mod_eq_of_lt h10, dch10 n h10]
    · have hk : 1 ≤ k := by
        refine Nat.one_le_iff_ne_zero.2 fun e => ?_
        subst e; exact h10 (by simpa using h)
      have hd : n / 10 < 10 ^ k := Nat.div_lt_of_lt_mul (by rw [Nat.pow_succ] at h; omega)
      rw [dif_neg h10, if_neg (by omega), dec_text k (n / 10) hk hd, dch10 _ (Nat.mod_lt _ (by decide))]
theorem dec_textI (n : Nat) (h : n ≤ 9223372036854775808) : textI 10 (BitVec.ofNat 128 n) = Lib.decDigits n := by
  unfold textI
  rw [if_pos (by decide), BitVec.toNat_ofNat, Nat.mod_eq_of_lt (by omega)]
  exact dec_text 128 n (by decide) (Nat.lt_of_le_of_lt h (by decide))
theorem itoa_nn {n : Int} (h0 : 0 ≤ n) : Lib.itoa n = Lib.decDigits n.toNat := by unfold Lib.itoa; rw [if_neg (by omega)]
theorem itoa_neg {n : Int} (h0 : n < 0) : Lib.itoa n = 45 :: Lib.decDigits (-n).toNat := by unfold Lib.itoa; rw [if_pos h0, show n.natAbs = (-n).toNat from by omega]
theorem textI_pos {n : Int} (h0 : 0 ≤ n) (h1 : n ≤ 9223372036854775807) : textI 10 ((0#64) ++ (BitVec.ofInt 64 n)) = Lib.itoa n := by
  obtain ⟨k, rfl⟩ : ∃ k : Nat, n = (k : Int) := ⟨n.toNat, by omega⟩
  have e : ((0#64) ++ (BitVec.ofInt 64 (k : Int)) : BitVec 128) = BitVec.ofNat 128 k := smalln k (by omega)
  rw [e, dec_textI k (by omega), itoa_nn (by omega)]; rfl
theorem neg_u64 {n : Int} (h0 : n < 0) (h1 : -9223372036854775808 ≤ n) : (0#64 - BitVec.ofInt 64 n : BitVec 64) = BitVec.ofInt 64 (((-n).toNat : Nat) : Int) := by
  have e : (((-n).toNat : Nat) : Int) = -n := by omega
  rw [e, BitVec.ofInt_neg]; simp
theorem textI_neg {n : Int} (h0 : n < 0) (h1 : -9223372036854775808 ≤ n) : [45] ++ textI 10 ((0#64) ++ (0#64 - (BitVec.ofInt 64 n))) = Lib.itoa n := by
  have e : ((0#64) ++ (BitVec.ofInt 64 (((-n).toNat : Nat) : Int)) : BitVec 128) = BitVec.ofNat 128 (-n).toNat := smalln _ (by omega)
  rw [neg_u64 h0 h1, e, dec_textI _ (by omega), itoa_neg h0]; rfl
theorem textI16_s (x : BitVec 128) : textI 16 x = textL 16 128 x.toNat := by
  unfold textI; rw [if_pos (by decide)]; rfl
theorem dec_len : ∀ (k n : Nat), 1 ≤ k → n < 10 ^ k → (Lib.decDigits n).length ≤ k := fun k n hk hn => by rw [← dec_text k n hk hn]; exact textL_len 10 k n
theorem itoa_len {n : Int} (h : I64 n) : (Lib.itoa n).length ≤ 21 := by
  have hd : ∀ m : Nat, m ≤ 9223372036854775808 → (Lib.decDigits m).length ≤ 20 := fun m hm => dec_len 20 m (by decide) (Nat.lt_of_le_of_lt hm (by decide))
  by_cases h0 : n < 0
  · rw [itoa_neg h0, List.length_cons]; have := hd (-n).toNat (by have := h.1; omega); omega
  · rw [itoa_nn (by omega)]; have := hd n.toNat (by have := h.2; omega); omega
/-! ### rows' texts -/
def textV (w : Int) (x : BitVec 128) : List UInt8 := if mayB w x = true then Lib.itoa w ++ [39] ++ textI 16 x else []
theorem textV_len (w : Int) (x : BitVec 128) : (textV w x).length ≤ 200 := by
  unfold textV
  by_cases h : mayB w x = true
  · obtain ⟨h1, h2, _⟩ := may_w h
    have h3 := itoa_len (n := w) ⟨by omega, by omega⟩
    have h4 := textL_len 16 128 x.toNat
    rw [if_pos h, textI16_s, List.length_append, List.length_append, List.length_singleton]; omega
  · rw [if_neg h]; exact Nat.zero_le _
theorem vtext_s (N : Nat) (w : Int) (x : BitVec 128) : vec_Text_m N w x = some (textV w x) := by
  unfold vec_Text_m textV
  rw [vmay_s, Option.bind_some]
  by_cases h : mayB w x = true
  · obtain ⟨h1, h2, _⟩ := may_w h
    have h3 := itoa_len (n := w) ⟨by omega, by omega⟩
    have h4 := textL_len 16 128 x.toNat
    rw [if_pos h, if_pos h, ck_pos _ (by omega), ck_pos _ (by simp only [List.length_singleton]; omega)]
    unfold vec_Word_m
    rw [Option.bind_some, textI16_s, ck_pos _ (by simp only [List.length_append, List.length_singleton]; omega)]
  · rw [if_neg h, if_neg h]
theorem rtextv_s (N : Nat) (w : Int) (x : BitVec 128) : shunterref02_Text_m N w x = some (textV w x) := by
  unfold shunterref02_Text_m textV
  rw [rmay_s, Option.bind_some]
  by_cases h : mayB w x = true
  · obtain ⟨h1, h2, _⟩ := may_w h
    have h3 := itoa_len (n := w) ⟨by omega, by omega⟩
    have h4 := textL_len 16 128 x.toNat
    rw [if_pos h, if_pos h, hi_lo, textI_pos (by omega) (by omega), textI16_s, ck_pos _ (by decide), ck_pos _ (by simp only [List.length_singleton]; omega), ck_pos _ (by decide), ck_pos _ (by simp only [List.length_append, List.length_singleton]; omega)]
  · rw [if_neg h, if_neg h]
theorem digits9_s (N : Nat) (n : Int) (h : I64 n) : shunterref09_Digits_m N n = some (Lib.itoa n) := by
  have hl := itoa_len h
  unfold shunterref09_Digits_m
  by_cases h0 : n < 0
  · have e := textI_neg h0 h.1
    have l : (textI 10 ((0#64) ++ (0#64 - (BitVec.ofInt 64 n)))).length ≤ 21 := by rw [← e] at hl; simp only [List.length_append, List.length_singleton] at hl; omega
    rw [if_pos h0, ck_pos _ (by decide), ck_pos _ (by simp only [List.length_singleton]; omega), e]
  · rw [if_neg h0, ck_pos _ (by decide), textI_pos (by omega) h.2]
end Go.Proofs.YtmfedgmmgehmgaaDoor
