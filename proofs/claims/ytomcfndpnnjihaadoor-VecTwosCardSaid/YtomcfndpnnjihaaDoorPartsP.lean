/- What the model of the law on parts comes to. Conditions: none but those written. -/
import Derived.Test.YtomcfndpnnjihaaDoorMakesP
import Derived.Test.YtomcfndpnnjihaaDoorLVecParts
namespace Go.Proofs.YtomcfndpnnjihaaDoor
open Go Go.RowKit Go.Eng
theorem get_take_drop (l : List Bool) (a b j : Nat) : ((l.take a).drop b)[j]! = (decide (b + j < a) && l[b + j]!) := by
  rw [List.getElem!_eq_getElem?_getD, List.getElem!_eq_getElem?_getD, List.getElem?_drop, List.getElem?_take]
  by_cases h : b + j < a
  · rw [if_pos h, decide_eq_true h, Bool.true_and]
  · rw [if_neg h, decide_eq_false h, Bool.false_and]; rfl
theorem get_app (l k : List Bool) (j : Nat) : (l ++ k)[j]! = if j < l.length then l[j]! else k[j - l.length]! := by
  rw [List.getElem!_eq_getElem?_getD, List.getElem!_eq_getElem?_getD, List.getElem!_eq_getElem?_getD, List.getElem?_append]
  split <;> rfl
theorem slice_bits (w : Int) (x : BitVec 128) (h l : Int) (hm : mayB w x = true) (h0 : 0 ≤ l) (h1 : l ≤ h) (h2 : h < w) : ofL (((bitsL w.toNat x).take (h + 1).toNat).drop l.toNat) = shiftI x (-l) &&& onesI (h - l + 1) := by
  have hw := may_w hm
  apply BitVec.eq_of_getLsbD_eq
  intro j hj
  rw [ofL_bit _ (by simp [bitsL_len]; omega), low_bit _ _ _ hj, get_take_drop, bitsL_get, ← shiftI_down (by omega), BitVec.getLsbD_ushiftRight]
  by_cases hd : (j : Int) < h - l + 1
  · rw [decide_eq_true hd, decide_eq_true (by omega), decide_eq_true (by omega)]; simp
  · rw [decide_eq_false hd, decide_eq_false (by omega)]; simp
theorem slice_eq (N : Nat) (hN : 128 < N) (w : Int) (x : BitVec 128) (h l : Int) (hh : -9223372036854775808 ≤ h ∧ h ≤ 9223372036854775807) (hl : -9223372036854775808 ≤ l ∧ l ≤ 9223372036854775807) :
    ∃ A, vec_Slice_m N w x h l = some A ∧ shunterref02_Slice_m N w x h l = some A := by
  unfold vec_Slice_m shunterref02_Slice_m
  rw [vmay_s, rmay_s, Option.bind_some, Option.bind_some]
  by_cases hm : mayB w x = true
  · rw [if_pos hm, if_pos hm]
    have hw := may_w hm
    by_cases h1 : l < 0
    · exact ⟨_, by rw [if_pos h1], by rw [if_pos h1]⟩
    · rw [if_neg h1, if_neg h1]
      by_cases h2 : l > h
      · exact ⟨_, by rw [if_pos h2], by rw [if_pos h2]⟩
      · rw [if_neg h2, if_neg h2]
        by_cases h3 : h ≥ w
        · exact ⟨_, by rw [if_pos h3], by rw [if_pos h3]⟩
        · rw [if_neg h3, if_neg h3]
          refine ⟨(h - l + 1, shiftI x (-l) &&& onesI (h - l + 1), 0), ?_, ?_⟩
          · unfold vec_Slice_k2 vec_Word_m
            rw [ck_pos _ (by omega), ck_pos _ (by omega), Option.bind_some, ck_pos _ hl, lowest_s _ _ _ (by omega), Option.bind_some]
          · unfold shunterref02_Slice_k2
            rw [bits_s N w x hN (by omega) (by omega), Option.bind_some, ck_pos _ (by omega), ck_pos _ ⟨by omega, by omega, by rw [bitsL_len]; omega⟩, of_s N hN _ (by simp [bitsL_len]; omega), Option.bind_some, slice_bits w x h l hm (by omega) (by omega) (by omega)]
            have : ((((bitsL w.toNat x).take (h + 1).toNat).drop l.toNat).length : Int) = h - l + 1 := by simp [bitsL_len]; omega
            rw [this]
  · exact ⟨_, by rw [if_neg hm], by rw [if_neg hm]⟩
theorem cat_bits (v w : Int) (x y : BitVec 128) (hx : mayB v x = true) (hy : mayB w y = true) (h : v + w ≤ 128) : ofL (([] ++ bitsL w.toNat y) ++ bitsL v.toNat x) = (shiftI x w ||| y) &&& onesI (v + w) := by
  have h1 := may_w hx
  have h2 := may_w hy
  apply BitVec.eq_of_getLsbD_eq
  intro j hj
  rw [List.nil_append, ofL_bit _ (by simp [bitsL_len]; omega), low_bit _ _ _ hj, get_app, bitsL_len, bitsL_get, bitsL_get, BitVec.getLsbD_or, ← shiftI_pos (by omega), BitVec.getLsbD_shiftLeft]
  by_cases hw : j < w.toNat
  · rw [if_pos hw, decide_eq_true hw, decide_eq_true (show (j : Int) < v + w by omega)]; simp
  · rw [if_neg hw, decide_eq_false hw, may_bit hy j (by omega), decide_eq_true hj]
    by_cases hv : (j : Int) < v + w
    · rw [decide_eq_true hv, decide_eq_true (by omega)]; simp
    · rw [decide_eq_false hv, decide_eq_false (by omega)]; simp
theorem cat_eq (N : Nat) (hN : 128 < N) (v w : Int) (x y : BitVec 128) : ∃ A, vec_Cat_m N v x w y = some A ∧ shunterref02_Cat_m N v x w y = some A := by
  unfold vec_Cat_m shunterref02_Cat_m
  rw [vmay_s, rmay_s, Option.bind_some, Option.bind_some]
  by_cases hx : mayB v x = true
  · rw [if_pos hx, if_pos hx, vmay_s, rmay_s, Option.bind_some, Option.bind_some]
    by_cases hy : mayB w y = true
    · rw [if_pos hy, if_pos hy]
      have h1 := may_w hx
      have h2 := may_w hy
      unfold vec_Cat_k2 shunterref02_Cat_k2 vec_Word_m
      rw [ck_pos _ (by omega), ck_pos _ (by omega), Option.bind_some, ck_pos _ (by omega), Option.bind_some, cut_s, Option.bind_some]
      by_cases h : v + w > 128
      · rw [if_pos h, if_neg (by omega)]; exact ⟨_, rfl, rfl⟩
      · rw [if_neg h, if_pos (by omega)]
        refine ⟨_, rfl, ?_⟩
        rw [bits_s N w y hN (by omega) (by omega), Option.bind_some, ck_pos _ (by simp [bitsL_len]; omega), bits_s N v x hN (by omega) (by omega), Option.bind_some, ck_pos _ (by simp [bitsL_len]; omega), of_s N hN _ (by simp [bitsL_len]; omega), Option.bind_some, cat_bits v w x y hx hy (by omega)]
        have : ((([] ++ bitsL w.toNat y) ++ bitsL v.toNat x).length : Int) = v + w := by simp [bitsL_len]; omega
        rw [this]
    · rw [if_neg hy, if_neg hy]; exact ⟨_, rfl, rfl⟩
  · rw [if_neg hx, if_neg hx]; exact ⟨_, rfl, rfl⟩
theorem parts_s (N : Nat) (hN : 128 < N) (v : Int) (x : BitVec 128) (w : Int) (y : BitVec 128) (h l : Int) (hh : -9223372036854775808 ≤ h ∧ h ≤ 9223372036854775807) (hl : -9223372036854775808 ≤ l ∧ l ≤ 9223372036854775807) :
    shunterlaw02_VecParts_m N v x w y h l = some true := by
  unfold shunterlaw02_VecParts_m
  obtain ⟨A, e1, e2⟩ := slice_eq N hN v x h l hh hl
  obtain ⟨B, e3, e4⟩ := cat_eq N hN v w x y
  rw [e1, Option.bind_some, e2, Option.bind_some, e3, Option.bind_some, e4, Option.bind_some]
  refine ifpos (by simp) (ifpos rfl (ifpos (by simp) (ifpos rfl ?_)))
  rw [lives_s]; rfl
end Go.Proofs.YtomcfndpnnjihaaDoor
