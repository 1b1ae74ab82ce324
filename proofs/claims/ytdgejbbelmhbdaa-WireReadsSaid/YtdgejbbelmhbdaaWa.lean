/- The reference of layer 7: numbers, rows and names as bytes; a reader as a value. Conditions: none but those written. -/
import Derived.Test.YtdgejbbelmhbdaaBP
import Derived.Test.YtdgejbbelmhbdaaRh
namespace Go.Proofs.Ytdgejbbelmhbdaa
open Go Go.RowKit Go.Eng
theorem snoc_ind {α : Type} {p : List α → Prop} (h0 : p []) (h1 : ∀ l x, p l → p (l ++ [x])) : ∀ l, p l := by
  have key : ∀ l : List α, p l.reverse := by
    intro l
    induction l with
    | nil => exact h0
    | cons x l ih => rw [List.reverse_cons]; exact h1 _ _ ih
  intro l
  have := key l.reverse
  rwa [List.reverse_reverse] at this
def numU : List UInt8 → Nat := fun l => l.foldl (fun a x => a * 256 + x.toNat) 0
theorem numU_snoc (l : List UInt8) (x : UInt8) : numU (l ++ [x]) = numU l * 256 + x.toNat := by simp [numU]
theorem numU_lt (l : List UInt8) : numU l < 256 ^ l.length := by
  induction l using snoc_ind with
  | h0 => simp [numU]
  | h1 l x ih =>
    rw [numU_snoc, List.length_append, List.length_singleton, Nat.pow_succ]
    have := x.toNat_lt
    omega
theorem numU_bit (l : List UInt8) : ∀ j, j < 8 * l.length → (numU l).testBit j = bitAt l (8 * l.length - 1 - j) := by
  induction l using snoc_ind with
  | h0 => intro j hj; simp at hj
  | h1 l x ih =>
    intro j hj
    rw [List.length_append, List.length_singleton] at hj ⊢
    have hx := x.toNat_lt
    rw [numU_snoc, show numU l * 256 + x.toNat = 2 ^ 8 * numU l + x.toNat from by omega, Nat.testBit_two_pow_mul_add _ hx]
    unfold bitAt
    by_cases h : j < 8
    · rw [if_pos h, show (8 * (l.length + 1) - 1 - j) / 8 = l.length from by omega, show 7 - (8 * (l.length + 1) - 1 - j) % 8 = j from by omega]
      rw [get!_of_lt _ _ (by simp), List.getElem_append_right (Nat.le_refl _)]
      simp
    · rw [if_neg h, ih (j - 8) (by omega)]
      unfold bitAt
      rw [show (8 * (l.length + 1) - 1 - j) / 8 = (8 * l.length - 1 - (j - 8)) / 8 from by omega, show (8 * (l.length + 1) - 1 - j) % 8 = (8 * l.length - 1 - (j - 8)) % 8 from by omega]
      rw [get!_of_lt l _ (by omega), get!_of_lt (l ++ [x]) _ (by rw [List.length_append]; omega), List.getElem_append_left (by omega)]
theorem vec_num (l : List UInt8) (h : l.length ≤ 16) : vecL (bitsB l) = BitVec.ofNat 128 (numU l) := by
  apply BitVec.eq_of_getLsbD_eq
  intro j hj
  rw [vecL_bit _ (by rw [bitsB_len]; omega), bitsB_len, BitVec.getLsbD_ofNat, decide_eq_true hj, Bool.true_and]
  by_cases hjl : j < 8 * l.length
  · rw [decide_eq_true hjl, Bool.true_and, bitsB_get _ _ (by omega), numU_bit l j hjl]
  · rw [decide_eq_false hjl, Bool.false_and]
    symm
    apply Nat.testBit_lt_two_pow
    have h1 := numU_lt l
    have h2 : (256 : Nat) ^ l.length = 2 ^ (8 * l.length) := by rw [show (256 : Nat) = 2 ^ 8 from rfl, ← Nat.pow_mul]
    rw [h2] at h1
    exact Nat.lt_of_lt_of_le h1 (Nat.pow_le_pow_right (by decide) (by omega))
theorem lo_num (l : List UInt8) (h : l.length ≤ 7) : (lo (vecL (bitsB l))).toNat = numU l := by
  rw [vec_num l (by omega)]
  have h1 := numU_lt l
  have h2 : (256 : Nat) ^ l.length ≤ 256 ^ 7 := Nat.pow_le_pow_right (by decide) h
  have h3 : numU l < 72057594037927936 := Nat.lt_of_lt_of_le h1 h2
  unfold lo
  simp only [BitVec.extractLsb'_toNat, BitVec.toNat_ofNat, Nat.shiftRight_zero]
  omega
abbrev RdS := List UInt8 × Int × Int × Int
def failL (r : RdS) (e at' : Int) : RdS := if r.2.2.1 = 0 ∧ e ≠ 0 then (r.1, r.2.1, e, at') else r
theorem wfail_s (N : Nat) (b : List UInt8) (a e w e' at' : Int) : shunterref07_fail_v1_m N b a e w e' at' = some (failL (b, a, e, w) e' at') := by
  unfold shunterref07_fail_v1_m shunterref07_fail_v1_k2 failL
  simp only
  by_cases h : e = 0
  · rw [if_pos h]
    by_cases h2 : e' = 0
    · subst h2; rw [if_neg (by decide), if_neg (fun h3 => h3.2 rfl)]
    · rw [if_pos (by simpa using h2), if_pos ⟨h, h2⟩]
  · rw [if_neg h, if_neg (by decide), if_neg (fun h3 => h h3.1)]
/-- a number of some bytes -/
def takeL (r : RdS) (size : Nat) (most : Int) : RdS × Int :=
  if r.2.2.1 ≠ 0 then (r, 0)
  else if r.1.length < size then ((r.1, r.2.1, 3, r.2.1), 0)
  else if ((numU (r.1.take size) : Nat) : Int) > most then ((r.1, r.2.1, 7, r.2.1), 0)
  else ((r.1.drop size, r.2.1 + size, r.2.2.1, r.2.2.2), (numU (r.1.take size) : Int))
def flat5 (x : RdS × Int) : List UInt8 × Int × Int × Int × Int := (x.1.1, x.1.2.1, x.1.2.2.1, x.1.2.2.2, x.2)
theorem wtake_s (N : Nat) (hN : 128 < N) (b : List UInt8) (a e w : Int) (size : Nat) (most : Int) (hs : size ≤ 7) (ha : 0 ≤ a ∧ a ≤ 1000000000) : shunterref07_Take_v1_m N b a e w (size : Int) most = some (flat5 (takeL (b, a, e, w) size most)) := by
  unfold shunterref07_Take_v1_m takeL flat5
  simp only
  by_cases he : e = 0
  · have he' : ¬ e ≠ 0 := fun h => h he
    rw [if_neg he', if_neg he']
    by_cases hl : b.length < size
    · have hl' : (b.length : Int) < (size : Int) := by omega
      rw [if_pos hl', if_pos hl, wfail_s, Option.bind_some]
      unfold failL
      simp only
      rw [if_pos ⟨he, by decide⟩]
    · have hlen : (b.take size).length = size := by rw [List.length_take]; omega
      have hl' : ¬ (b.length : Int) < (size : Int) := by omega
      rw [if_neg hl', if_neg hl, ck_pos _ (by omega), Int.toNat_natCast, List.drop_zero, rbits_s N _ (by omega) (by rw [hlen]; omega) (by rw [hlen]; omega), Option.bind_some, rvec_s N hN _ (by rw [bitsB_len]; omega), Option.bind_some]
      simp only
      have h1 := lo_num (b.take size) (by omega)
      have h2 : numU (b.take size) < 72057594037927936 := Nat.lt_of_lt_of_le (numU_lt _) (by rw [hlen]; exact Nat.pow_le_pow_right (n := 256) (by decide) hs)
      rw [h1, ck_pos _ (by omega)]
      by_cases hm : ((numU (b.take size) : Nat) : Int) > most
      · rw [if_pos hm, if_pos hm, wfail_s, Option.bind_some]
        unfold failL
        simp only
        rw [if_pos ⟨he, by decide⟩]
      · rw [if_neg hm, if_neg hm, ck_pos _ (by omega), ck_pos _ (by omega), List.take_length]
  · have he' : e ≠ 0 := he
    rw [if_pos he', if_pos he']
theorem flat5_b (r : RdS) (size : Nat) (most : Int) : ((takeL r size most).1.1.length ≤ r.1.length) := by
  unfold takeL
  split
  · exact Nat.le_refl _
  · split
    · exact Nat.le_refl _
    · split
      · exact Nat.le_refl _
      · simp
/-- a list's number of things -/
def countL (r : RdS) (most : Int) : RdS × Int :=
  if r.2.2.1 ≠ 0 then (r, 0)
  else if (takeL r 1 255).1.2.2.1 = 0 ∧ (takeL r 1 255).2 > most then (failL r 2 r.2.1, 0) else takeL r 1 255
theorem wcount_s (N : Nat) (hN : 128 < N) (b : List UInt8) (a e w most : Int) (ha : 0 ≤ a ∧ a ≤ 1000000000) : shunterref07_Count_v1_m N b a e w most = some (flat5 (countL (b, a, e, w) most)) := by
  unfold shunterref07_Count_v1_m countL
  simp only
  by_cases he : e = 0
  · have he' : ¬ e ≠ 0 := fun h => h he
    have := wtake_s N hN b a e w 1 255 (by decide) ha
    rw [if_neg he', if_neg he', show (1 : Int) = ((1 : Nat) : Int) from rfl, this, Option.bind_some]
    generalize takeL (b, a, e, w) 1 255 = x
    unfold flat5 shunterref07_Count_v1_k2
    simp only
    by_cases h1 : x.1.2.2.1 = 0
    · rw [if_pos h1]
      by_cases h2 : x.2 > most
      · rw [if_pos (decide_eq_true h2), if_pos ⟨h1, h2⟩, wfail_s]; rfl
      · rw [if_neg (by simpa using h2), if_neg (fun h => h2 h.2)]
    · rw [if_neg h1, if_neg (by decide), if_neg (fun h => h1 h.1)]
  · have he' : e ≠ 0 := he
    rw [if_pos he', if_pos he']; rfl
/-- the end -/
def endL (r : RdS) : Int × Int := if r.2.2.1 ≠ 0 then (r.2.2.1, r.2.2.2) else if r.1.length > 0 then (2, r.2.1) else (0, 0)
theorem wend_s (N : Nat) (b : List UInt8) (a e w : Int) : shunterref07_End_v1_m N b a e w = some (endL (b, a, e, w)) := by
  unfold shunterref07_End_v1_m endL
  simp only
  by_cases he : e = 0
  · have he' : ¬ e ≠ 0 := fun h => h he
    rw [if_neg he', if_neg he']
    by_cases hl : b.length > 0
    · rw [if_pos (by omega), if_pos hl]
    · rw [if_neg (by omega), if_neg hl]
  · have he' : e ≠ 0 := he
    rw [if_pos he', if_pos he']
/-- a name -/
def nameL (r : RdS) : RdS × List UInt8 :=
  if r.2.2.1 ≠ 0 then (r, [])
  else if (takeL r 1 255).1.2.2.1 ≠ 0 then ((takeL r 1 255).1, [])
  else if (takeL r 1 255).1.1.length < (takeL r 1 255).2.toNat then (failL r 3 r.2.1, [])
  else if mayL (runesL ((takeL r 1 255).1.1.take (takeL r 1 255).2.toNat)) = true then
    (((takeL r 1 255).1.1.drop (takeL r 1 255).2.toNat, (takeL r 1 255).1.2.1 + (takeL r 1 255).2, (takeL r 1 255).1.2.2.1, (takeL r 1 255).1.2.2.2), (takeL r 1 255).1.1.take (takeL r 1 255).2.toNat)
  else (failL r 4 r.2.1, [])
def flat5b (x : RdS × List UInt8) : List UInt8 × Int × Int × Int × List UInt8 := (x.1.1, x.1.2.1, x.1.2.2.1, x.1.2.2.2, x.2)
theorem takeL_n (r : RdS) (size : Nat) (most : Int) : 0 ≤ (takeL r size most).2 ∧ ((takeL r size most).2 ≤ most ∨ (takeL r size most).2 = 0) := by
  unfold takeL
  split
  · exact ⟨Int.le_refl _, .inr rfl⟩
  · split
    · exact ⟨Int.le_refl _, .inr rfl⟩
    · split
      · exact ⟨Int.le_refl _, .inr rfl⟩
      · rename_i h; exact ⟨by simp only; omega, .inl (by simp only; omega)⟩
theorem takeL_at (r : RdS) (size : Nat) (most : Int) : (takeL r size most).1.2.1 = r.2.1 ∨ (takeL r size most).1.2.1 = r.2.1 + size := by
  unfold takeL
  split
  · exact .inl rfl
  · split
    · exact .inl rfl
    · split
      · exact .inl rfl
      · exact .inr rfl
theorem wname_s (N : Nat) (hN : 128 < N) (b : List UInt8) (a e w : Int) (hN2 : b.length + 300 < N) (hb : b.length ≤ 100000) (ha : 0 ≤ a ∧ a ≤ 1000000000) : shunterref07_TakeName_v1_m N b a e w = some (flat5b (nameL (b, a, e, w))) := by
  unfold shunterref07_TakeName_v1_m nameL
  simp only
  by_cases he : e = 0
  · have he' : ¬ e ≠ 0 := fun h => h he
    have h0 := wtake_s N hN b a e w 1 255 (by decide) ha
    have hn := takeL_n (b, a, e, w) 1 255
    have hat := takeL_at (b, a, e, w) 1 255
    have hlen := flat5_b (b, a, e, w) 1 255
    simp only at hlen hat
    rw [if_neg he', if_neg he', show (1 : Int) = ((1 : Nat) : Int) from rfl, h0, Option.bind_some]
    generalize takeL (b, a, e, w) 1 255 = x at hn hat hlen ⊢
    unfold flat5
    simp only
    by_cases h1 : x.1.2.2.1 = 0
    · have h1' : ¬ x.1.2.2.1 ≠ 0 := fun h => h h1
      rw [if_neg h1', if_neg h1']
      by_cases h2 : x.1.1.length < x.2.toNat
      · have h2' : (x.1.1.length : Int) < x.2 := by omega
        rw [if_pos h2', if_pos h2, wfail_s]; rfl
      · have h2' : ¬ (x.1.1.length : Int) < x.2 := by omega
        have htl : (x.1.1.take x.2.toNat).length ≤ x.1.1.length := by rw [List.length_take]; omega
        rw [if_neg h2', if_neg h2, ck_pos _ (by omega), List.drop_zero, refmay_s N _ (by omega) (by omega), Option.bind_some]
        by_cases h3 : mayL (runesL (x.1.1.take x.2.toNat)) = true
        · rw [if_pos h3, if_pos h3, ck_pos _ (by omega), ck_pos _ (by omega), List.take_length]; rfl
        · rw [if_neg h3, if_neg h3, wfail_s]; rfl
    · have h1' : x.1.2.2.1 ≠ 0 := h1
      rw [if_pos h1', if_pos h1']; rfl
  · have he' : e ≠ 0 := he
    rw [if_pos he', if_pos he']; rfl
theorem any_num (l : List UInt8) (w : Nat) (h : w ≤ 8 * l.length) : ((bitsB l).take (8 * l.length - w)).any id = decide (2 ^ w ≤ numU l) := by
  rw [Bool.eq_iff_iff, List.any_eq_true, decide_eq_true_eq]
  constructor
  · rintro ⟨x, hx, h1⟩
    obtain ⟨i, hi, rfl⟩ := List.mem_iff_getElem.mp hx
    rw [List.length_take, bitsB_len] at hi
    rw [List.getElem_take] at h1
    have h2 : bitAt l i = true := by
      have h3 := bitsB_get l i (by omega)
      rw [get!_of_lt _ _ (by rw [bitsB_len]; omega)] at h3
      rw [← h3]; exact h1
    have h4 := numU_bit l (8 * l.length - 1 - i) (by omega)
    rw [show 8 * l.length - 1 - (8 * l.length - 1 - i) = i from by omega, h2] at h4
    have h5 := Nat.ge_two_pow_of_testBit h4
    exact Nat.le_trans (Nat.pow_le_pow_right (by decide) (by omega)) h5
  · intro hge
    obtain ⟨j, hj1, hj2⟩ := Nat.exists_ge_and_testBit_of_ge_two_pow hge
    have hlt : j < 8 * l.length := by
      rcases Nat.lt_or_ge j (8 * l.length) with h3 | h3
      · exact h3
      · have h4 := numU_lt l
        rw [show (256 : Nat) = 2 ^ 8 from rfl, ← Nat.pow_mul] at h4
        have h5 : numU l < 2 ^ j := Nat.lt_of_lt_of_le h4 (Nat.pow_le_pow_right (by decide) h3)
        rw [Nat.testBit_lt_two_pow h5] at hj2; cases hj2
    have h6 := numU_bit l j hlt
    rw [hj2] at h6
    have hb := bitsB_get l (8 * l.length - 1 - j) (by omega)
    rw [get!_of_lt _ _ (by rw [bitsB_len]; omega)] at hb
    refine ⟨_, List.mem_iff_getElem.mpr ⟨8 * l.length - 1 - j, by rw [List.length_take, bitsB_len]; omega, rfl⟩, ?_⟩
    rw [List.getElem_take, hb, ← h6]; rfl
theorem vec_drop (l : List UInt8) (w : Nat) (h : w ≤ 8 * l.length) (hw : w ≤ 128) (hn : numU l < 2 ^ w) : vecL ((bitsB l).drop (8 * l.length - w)) = BitVec.ofNat 128 (numU l) := by
  have hlen : ((bitsB l).drop (8 * l.length - w)).length = w := by rw [List.length_drop, bitsB_len]; omega
  apply BitVec.eq_of_getLsbD_eq
  intro j hj
  rw [vecL_bit _ (by rw [hlen]; exact hw), hlen, BitVec.getLsbD_ofNat, decide_eq_true hj, Bool.true_and]
  by_cases hjw : j < w
  · rw [decide_eq_true hjw, Bool.true_and, get!_of_lt _ _ (by rw [hlen]; omega), List.getElem_drop, numU_bit l j (by omega)]
    have hb := bitsB_get l (8 * l.length - 1 - j) (by omega)
    rw [get!_of_lt _ _ (by rw [bitsB_len]; omega)] at hb
    rw [← hb]
    congr 1; omega
  · rw [decide_eq_false hjw, Bool.false_and]
    symm
    exact Nat.testBit_lt_two_pow (Nat.lt_of_lt_of_le hn (Nat.pow_le_pow_right (by decide) (by omega)))
/-- a row -/
def rowL (r : RdS) : RdS × Int × BitVec 128 :=
  if r.2.2.1 ≠ 0 then (r, 0, 0#128)
  else if (takeL r 1 255).1.2.2.1 ≠ 0 then ((takeL r 1 255).1, 0, 0#128)
  else if (takeL r 1 255).2 < 1 ∨ (takeL r 1 255).2 > 128 then (failL r 9 r.2.1, 0, 0#128)
  else if (takeL r 1 255).1.1.length < ((takeL r 1 255).2.toNat + 7) / 8 then (failL r 3 r.2.1, 0, 0#128)
  else if 2 ^ (takeL r 1 255).2.toNat ≤ numU ((takeL r 1 255).1.1.take (((takeL r 1 255).2.toNat + 7) / 8)) then (failL r 4 r.2.1, 0, 0#128)
  else (((takeL r 1 255).1.1.drop (((takeL r 1 255).2.toNat + 7) / 8), (takeL r 1 255).1.2.1 + (((takeL r 1 255).2.toNat + 7) / 8 : Nat), (takeL r 1 255).1.2.2.1, (takeL r 1 255).1.2.2.2), (takeL r 1 255).2, BitVec.ofNat 128 (numU ((takeL r 1 255).1.1.take (((takeL r 1 255).2.toNat + 7) / 8))))
def flat6 (x : RdS × Int × BitVec 128) : List UInt8 × Int × Int × Int × Int × BitVec 128 := (x.1.1, x.1.2.1, x.1.2.2.1, x.1.2.2.2, x.2.1, x.2.2)
theorem zero128 : (0#64) ++ (0#64) = 0#128 := by decide
theorem wrow_loop (N : Nat) (hN : 128 < N) (b : List UInt8) (a w : Int) (x : List UInt8 × Int × Int × Int × Int) (wd : Nat) (hwd : x.2.2.2.2 = (wd : Int)) (h1 : 1 ≤ wd) (h2 : wd ≤ 128) (hx : (wd + 7) / 8 ≤ x.1.length) (hxl : x.1.length ≤ 100000) (ha : 0 ≤ x.2.1 ∧ x.2.1 ≤ 1000000001) : ∀ (k f i : Nat), i + k = 8 * ((wd + 7) / 8) - wd → k < f →
    shunterref07_TakeVec_v1_l4 N b a 0 w x (bitsB (x.1.take ((wd + 7) / 8))) f (i : Int) = some (if (((bitsB (x.1.take ((wd + 7) / 8))).take (8 * ((wd + 7) / 8) - wd)).drop i).any id = true then (b, a, 4, a, 0, 0#128)
      else (x.1.drop ((wd + 7) / 8), x.2.1 + ((wd + 7) / 8 : Nat), x.2.2.1, x.2.2.2.1, (wd : Int), vecL ((bitsB (x.1.take ((wd + 7) / 8))).drop (8 * ((wd + 7) / 8) - wd)))) := by
  have hl : (x.1.take ((wd + 7) / 8)).length = (wd + 7) / 8 := by rw [List.length_take]; omega
  have hbl : (bitsB (x.1.take ((wd + 7) / 8))).length = 8 * ((wd + 7) / 8) := by rw [bitsB_len, hl]
  have e8 : ((wd : Int) + 7) / 8 = (((wd + 7) / 8 : Nat) : Int) := by omega
  intro k
  induction k with
  | zero =>
    intro f i hi hf
    obtain ⟨f, rfl⟩ : ∃ n, f = n + 1 := ⟨f - 1, by omega⟩
    rw [shunterref07_TakeVec_v1_l4, hwd, hbl, ck_pos _ (by omega), if_neg (by omega), e8, ck_pos _ (by omega), ck_pos _ (by omega), ck_pos _ (by omega), ck_pos _ (by omega)]
    have ed : (((8 * ((wd + 7) / 8) : Nat) : Int) - (wd : Int)).toNat = 8 * ((wd + 7) / 8) - wd := by omega
    rw [ed, show (bitsB (x.1.take ((wd + 7) / 8))).take (8 * ((wd + 7) / 8)) = bitsB (x.1.take ((wd + 7) / 8)) from by rw [← hbl, List.take_length], rvec_s N hN _ (by rw [List.length_drop, hbl]; omega), Option.bind_some, Int.toNat_natCast, List.take_length]
    have hd : ((bitsB (x.1.take ((wd + 7) / 8))).take (8 * ((wd + 7) / 8) - wd)).drop i = [] := List.drop_of_length_le (by rw [List.length_take, hbl]; omega)
    have hw' : 8 * ((wd + 7) / 8) - (8 * ((wd + 7) / 8) - wd) = wd := by omega
    rw [hd, if_neg (by decide), List.length_drop, hbl, hw']
  | succ k ih =>
    intro f i hi hf
    obtain ⟨f, rfl⟩ : ∃ n, f = n + 1 := ⟨f - 1, by omega⟩
    have e1 : (i : Int) + 1 = ((i + 1 : Nat) : Int) := by omega
    have hd : ((bitsB (x.1.take ((wd + 7) / 8))).take (8 * ((wd + 7) / 8) - wd)).drop i = (bitsB (x.1.take ((wd + 7) / 8)))[i]! :: ((bitsB (x.1.take ((wd + 7) / 8))).take (8 * ((wd + 7) / 8) - wd)).drop (i + 1) := by
      rw [List.drop_eq_getElem_cons (by rw [List.length_take, hbl]; omega), List.getElem_take, get!_of_lt _ _ (by rw [hbl]; omega)]
    rw [shunterref07_TakeVec_v1_l4, hwd, hbl, ck_pos _ (by omega), if_pos (by omega), ck_pos _ (by omega), Int.toNat_natCast, hd, List.any_cons]
    by_cases hb : (bitsB (x.1.take ((wd + 7) / 8)))[i]! = true
    · rw [if_pos hb, wfail_s, hb]
      simp [failL]
    · rw [if_neg hb, ck_pos _ (by omega), e1, ih f (i + 1) (by omega) (by omega)]
      have hb' : (bitsB (x.1.take ((wd + 7) / 8)))[i]! = false := by simpa using hb
      rw [hb']; rfl
theorem wrow_s (N : Nat) (hN : 1100 < N) (b : List UInt8) (a e w : Int) (hb : b.length ≤ 100000) (ha : 0 ≤ a ∧ a ≤ 1000000000) : shunterref07_TakeVec_v1_m N b a e w = some (flat6 (rowL (b, a, e, w))) := by
  unfold shunterref07_TakeVec_v1_m rowL
  simp only
  by_cases he : e = 0
  · have he' : ¬ e ≠ 0 := fun h => h he
    subst he
    have h0 := wtake_s N (by omega) b a 0 w 1 255 (by decide) ha
    have hn := takeL_n (b, a, 0, w) 1 255
    have hat := takeL_at (b, a, 0, w) 1 255
    have hlen := flat5_b (b, a, 0, w) 1 255
    simp only at hlen hat
    have h0' : shunterref07_Take_v1_m N b a 0 w 1 255 = some (flat5 (takeL (b, a, 0, w) 1 255)) := h0
    rw [if_neg he', if_neg he', h0', Option.bind_some]
    generalize takeL (b, a, 0, w) 1 255 = x at hn hat hlen ⊢
    by_cases h1 : x.1.2.2.1 = 0
    · have h1' : ¬ x.1.2.2.1 ≠ 0 := fun h => h h1
      have h1'' : ¬ (flat5 x).2.2.1 ≠ 0 := h1'
      rw [if_neg h1'', if_neg h1']
      have f5 : (flat5 x).2.2.2.2 = x.2 := rfl
      by_cases h2 : x.2 < 1 ∨ x.2 > 128
      · rw [if_pos h2]
        have hk : shunterref07_TakeVec_v1_k2 N b a 0 w (flat5 x) true = some (flat6 (failL (b, a, 0, w) 9 a, 0, 0#128)) := by
          unfold shunterref07_TakeVec_v1_k2
          rw [if_pos rfl, wfail_s, zero128]; rfl
        by_cases h3 : x.2 < 1
        · rw [f5, if_pos h3]; exact hk
        · rw [f5, if_neg h3, decide_eq_true (by omega)]; exact hk
      · obtain ⟨wd, hwd⟩ : ∃ n : Nat, x.2 = (n : Int) := ⟨x.2.toNat, by omega⟩
        have e8 : ((wd : Int) + 7) / 8 = (((wd + 7) / 8 : Nat) : Int) := by omega
        rw [if_neg h2, f5, if_neg (by omega), decide_eq_false (by omega)]
        unfold shunterref07_TakeVec_v1_k2
        rw [if_neg (by decide), f5, hwd, ck_pos _ (by omega), ck_pos _ (by omega), e8, Int.toNat_natCast, Int.toNat_natCast]
        have f1 : (flat5 x).1 = x.1.1 := rfl
        rw [f1]
        by_cases h4 : x.1.1.length < (wd + 7) / 8
        · rw [if_pos (by omega), if_pos h4, wfail_s, zero128]; rfl
        · have hl : (x.1.1.take ((wd + 7) / 8)).length = (wd + 7) / 8 := by rw [List.length_take]; omega
          rw [if_neg (by omega), if_neg h4, ck_pos _ (by omega), List.drop_zero, rbits_s N _ (by omega) (by rw [hl]; omega) (by rw [hl]; omega), Option.bind_some]
          have := wrow_loop N (by omega) b a w (flat5 x) wd hwd (by omega) (by omega) (by rw [f1]; omega) (by rw [f1]; omega) (by show 0 ≤ x.1.2.1 ∧ x.1.2.1 ≤ _; omega) (8 * ((wd + 7) / 8) - wd) N 0 (by omega) (by omega)
          rw [f1] at this
          have this' : shunterref07_TakeVec_v1_l4 N b a 0 w (flat5 x) (bitsB (x.1.1.take ((wd + 7) / 8))) N 0 = _ := this
          rw [this', List.drop_zero]
          have ha := any_num (x.1.1.take ((wd + 7) / 8)) wd (by omega)
          rw [hl] at ha
          rw [ha]
          by_cases h5 : 2 ^ wd ≤ numU (x.1.1.take ((wd + 7) / 8))
          · rw [if_pos (decide_eq_true h5), if_pos h5]; rfl
          · have hv := vec_drop (x.1.1.take ((wd + 7) / 8)) wd (by omega) (by omega) (by omega)
            rw [hl] at hv
            rw [if_neg (by simpa using h5), if_neg h5, hv, ← hwd]; rfl
    · have h1' : x.1.2.2.1 ≠ 0 := h1
      have h1'' : (flat5 x).2.2.1 ≠ 0 := h1
      rw [if_pos h1'', if_pos h1', zero128]; rfl
  · have he' : e ≠ 0 := he
    rw [if_pos he', if_pos he', zero128]; rfl
theorem byteI_nat (m : Int) : (byteI m).toNat = (m % 256).toNat := by
  unfold byteI
  rw [UInt8.toNat_ofNat']
  omega
theorem testBit_div (m q t : Nat) (ht : t < 8) : (m / 2 ^ q % 256).testBit t = m.testBit (q + t) := by
  rw [show (256 : Nat) = 2 ^ 8 from rfl, Nat.testBit_mod_two_pow, decide_eq_true ht, Bool.true_and, Nat.testBit_div_two_pow, Nat.add_comm]
theorem ofInt_bit (n : Int) (j : Nat) (hj : j < 64) : ((0#64) ++ (BitVec.ofInt 64 n)).getLsbD j = ((n % 18446744073709551616).toNat).testBit j := by
  rw [BitVec.getLsbD_append, if_pos hj, ← BitVec.testBit_toNat, BitVec.toNat_ofInt]
  rfl
theorem bitI0 (n : Int) (t : Nat) (ht : t < 8) : (byteI n).toNat.testBit t = ((0#64) ++ (BitVec.ofInt 64 n)).getLsbD t := by
  rw [byteI_nat, ofInt_bit n t (by omega)]
  have h := testBit_div ((n % 18446744073709551616).toNat) 0 t ht
  rw [Nat.zero_add] at h
  rw [← h]; congr 1; omega
theorem bitI1 (n : Int) (t : Nat) (ht : t < 8) : (byteI (n / 256)).toNat.testBit t = ((0#64) ++ (BitVec.ofInt 64 n)).getLsbD (8 + t) := by
  rw [byteI_nat, ofInt_bit n _ (by omega), ← testBit_div _ 8 t ht]; congr 1; omega
theorem bitI2 (n : Int) (t : Nat) (ht : t < 8) : (byteI (n / 65536)).toNat.testBit t = ((0#64) ++ (BitVec.ofInt 64 n)).getLsbD (16 + t) := by
  rw [byteI_nat, ofInt_bit n _ (by omega), ← testBit_div _ 16 t ht]; congr 1; omega
theorem bitI3 (n : Int) (t : Nat) (ht : t < 8) : (byteI (n / 16777216)).toNat.testBit t = ((0#64) ++ (BitVec.ofInt 64 n)).getLsbD (24 + t) := by
  rw [byteI_nat, ofInt_bit n _ (by omega), ← testBit_div _ 24 t ht]; congr 1; omega
def numB (n : Int) : Nat → List UInt8
  | 1 => [byteI n]
  | 2 => [byteI (n / 256), byteI n]
  | 4 => [byteI (n / 16777216), byteI (n / 65536), byteI (n / 256), byteI n]
  | _ => []
theorem num_bytes (n : Int) (size : Nat) (hs : size = 1 ∨ size = 2 ∨ size = 4) : bytesL (((bitsL 64 ((0#64) ++ (BitVec.ofInt 64 n))).take (8 * size)).reverse) = numB n size := by
  have hl : (((bitsL 64 ((0#64) ++ (BitVec.ofInt 64 n))).take (8 * size)).reverse).length = 8 * size := by
    rw [List.length_reverse, List.length_take, bitsL_len]; omega
  have hb : (bytesL (((bitsL 64 ((0#64) ++ (BitVec.ofInt 64 n))).take (8 * size)).reverse)).length = size := by rw [bytesL_len, hl]; omega
  have hn : (numB n size).length = size := by rcases hs with rfl | rfl | rfl <;> rfl
  refine bytes_ext (by rw [hb, hn]) (fun k hk => ?_)
  rw [hb] at hk
  rw [bytesL_bit _ _ (by rw [hb]; exact hk)]
  have e1 : (((bitsL 64 ((0#64) ++ (BitVec.ofInt 64 n))).take (8 * size)).reverse)[k]! = ((0#64) ++ (BitVec.ofInt 64 n)).getLsbD (8 * size - 1 - k) := by
    have hlt : (((bitsL 64 ((0#64) ++ (BitVec.ofInt 64 n))).take (8 * size))).length = 8 * size := by rw [List.length_take, bitsL_len]; omega
    rw [rev_get _ _ (by rw [hlt]; exact hk), hlt, get!_of_lt _ _ (by rw [hlt]; omega), List.getElem_take]
    have h2 := bitsL_get 64 ((0#64) ++ (BitVec.ofInt 64 n)) (8 * size - 1 - k)
    rw [get!_of_lt _ _ (by rw [bitsL_len]; omega)] at h2
    rw [h2, decide_eq_true (by omega), Bool.true_and]
  rw [e1]
  unfold bitAt
  have ht : 7 - k % 8 < 8 := by omega
  rcases hs with rfl | rfl | rfl
  · have hq : k / 8 = 0 := by omega
    rw [hq]
    show _ = (byteI n).toNat.testBit (7 - k % 8)
    rw [bitI0 n _ ht]; congr 1; omega
  · rcases (by omega : k / 8 = 0 ∨ k / 8 = 1) with hq | hq <;> rw [hq]
    · show _ = (byteI (n / 256)).toNat.testBit (7 - k % 8)
      rw [bitI1 n _ ht]; congr 1; omega
    · show _ = (byteI n).toNat.testBit (7 - k % 8)
      rw [bitI0 n _ ht]; congr 1; omega
  · rcases (by omega : k / 8 = 0 ∨ k / 8 = 1 ∨ k / 8 = 2 ∨ k / 8 = 3) with hq | hq | hq | hq <;> rw [hq]
    · show _ = (byteI (n / 16777216)).toNat.testBit (7 - k % 8)
      rw [bitI3 n _ ht]; congr 1; omega
    · show _ = (byteI (n / 65536)).toNat.testBit (7 - k % 8)
      rw [bitI2 n _ ht]; congr 1; omega
    · show _ = (byteI (n / 256)).toNat.testBit (7 - k % 8)
      rw [bitI1 n _ ht]; congr 1; omega
    · show _ = (byteI n).toNat.testBit (7 - k % 8)
      rw [bitI0 n _ ht]; congr 1; omega
/-- a row's bytes -/
def vecB (w : Int) (x : BitVec 128) : List UInt8 := byteI w :: bytesL (List.replicate ((8 - w.toNat % 8) % 8) false ++ highB w x)
end Go.Proofs.Ytdgejbbelmhbdaa
