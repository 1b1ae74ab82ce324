/- What the model of VecBack answers. Conditions: none. -/
import Derived.Test.YtomcfndpnnjihaaDoorTextsP
import Derived.Test.YtomcfndpnnjihaaDoorLVecBack
namespace Go.Proofs.YtomcfndpnnjihaaDoor
open Go Go.RowKit Go.Eng
namespace Bk
theorem may_and {w : Int} {x : BitVec 128} (h : mayB w x = true) : x &&& onesI w = x := by
  apply BitVec.eq_of_getLsbD_eq
  intro j hj
  rw [low_bit _ _ _ hj]
  by_cases hw : (j : Int) < w
  · rw [decide_eq_true hw, Bool.and_true]
  · rw [may_bit h j (by omega), Bool.false_and]
theorem zz : ((0#64) ++ (0#64) : BitVec 128) = 0#128 := by decide
theorem unlike_s (N : Nat) (v : Int) (x : BitVec 128) (w : Int) (y : BitVec 128) : vec_unlike_m N v x w y = some (if mayB v x = true ∧ mayB w y = true then (if v = w then 0 else 9) else 1) := by
  unfold vec_unlike_m
  rw [vmay_s, Option.bind_some]
  by_cases hx : mayB v x = true
  · rw [if_pos hx, vmay_s, Option.bind_some]
    by_cases hy : mayB w y = true
    · rw [if_pos hy, if_pos ⟨hx, hy⟩]
      unfold vec_unlike_k1
      by_cases h : v = w
      · rw [if_neg (by simp [h]), if_pos h]
      · rw [if_pos h, if_neg h]
    · rw [if_neg hy, if_neg (fun h => hy h.2)]
  · rw [if_neg hx, if_neg (fun h => hx h.1)]
theorem pair_s (N : Nat) (v : Int) (x : BitVec 128) (w : Int) (y : BitVec 128) (F : BitVec 128 → BitVec 128 → Option (Int × BitVec 128)) (R : Int × BitVec 128) (hF : mayB v x = true → mayB w y = true → v = w → F x y = some R) :
    vec_pair_m N v x w y F = some (if mayB v x = true ∧ mayB w y = true then (if v = w then (R.1, R.2, 0) else (0, 0#128, 9)) else (0, 0#128, 1)) := by
  unfold vec_pair_m vec_Word_m
  rw [unlike_s, Option.bind_some]
  by_cases h : mayB v x = true ∧ mayB w y = true
  · rw [if_pos h, if_pos h]
    by_cases e : v = w
    · rw [if_pos e, if_neg (by decide), if_pos e, Option.bind_some, Option.bind_some, hF h.1 h.2 e, Option.bind_some]
    · rw [if_neg e, if_pos (by decide), if_neg e, zz]
  · rw [if_neg h, if_pos (by decide), if_neg h, zz]
theorem sub_s (N : Nat) (v : Int) (x : BitVec 128) (w : Int) (y : BitVec 128) : vec_Sub_m N v x w y = some (if mayB v x = true ∧ mayB w y = true then (if v = w then (v, (x - y) &&& onesI v, 0) else (0, 0#128, 9)) else (0, 0#128, 1)) := by
  unfold vec_Sub_m
  rw [pair_s N v x w y _ (v, (x - y) &&& onesI v) (fun hx _ _ => by
    have := may_w hx
    unfold vec_Sub_1_m
    rw [lowest_s _ _ _ (by omega), Option.bind_some]), Option.bind_some]
theorem move_s (N : Nat) (w : Int) (x : BitVec 128) (n : Int) (F : BitVec 128 → Int → Option (BitVec 128)) (R : BitVec 128) (hF : F x n = some R) :
    vec_move_m N w x n F = some (if mayB w x = true then (if n < 0 then (0, 0#128, 7) else (w, R &&& onesI w, 0)) else (0, 0#128, 1)) := by
  unfold vec_move_m vec_Word_m
  rw [vmay_s, Option.bind_some]
  by_cases hm : mayB w x = true
  · have hw := may_w hm
    rw [if_pos hm, if_pos hm]
    by_cases h : n < 0
    · rw [if_pos h, if_pos h, zz]
    · rw [if_neg h, if_neg h, Option.bind_some, hF, Option.bind_some, lowest_s _ _ _ (by omega), Option.bind_some]
  · rw [if_neg hm, if_neg hm, zz]
def lowN (x : BitVec 128) (i : Nat) : Nat := x.toNat % 2 ^ i
theorem lowN_may {w : Int} {x : BitVec 128} (h : mayB w x = true) : lowN x w.toNat = x.toNat := by
  have hw := may_w h
  exact Nat.mod_eq_of_lt (Nat.lt_of_lt_of_le (len128_spec x).1 (Nat.pow_le_pow_right (by decide) (by omega)))
theorem cmp_lt (x y : BitVec 128) : decide (cmpI x y < 0) = decide (x < y) := by
  refine decide_eq_decide.2 ?_
  unfold cmpI
  by_cases h : x = y
  · subst h; rw [if_pos rfl]; simp
  · rw [if_neg h]
    by_cases h2 : x < y
    · rw [if_pos h2]; simp [h2]
    · rw [if_neg h2]; simp [h2]
theorem truth_s (N : Nat) (b : Bool) : vec_Truth_m N b = some (1, if b = true then 1#128 else 0#128) := by
  unfold vec_Truth_m
  cases b
  · rw [if_neg (by decide), if_neg (by decide), zz]
  · rw [if_pos rfl, if_pos rfl]; rfl
theorem low_ones (w : Int) : onesI w &&& onesI w = onesI w := BitVec.and_self
theorem len_gt (z : BitVec 128) (w : Int) (h1 : 1 ≤ w) : ((len128 z : Nat) : Int) > w ↔ 2 ^ w.toNat ≤ z.toNat := by
  obtain ⟨h3, h4, _⟩ := len128_spec z
  constructor
  · intro h
    exact Nat.le_trans (Nat.pow_le_pow_right (by decide) (by omega)) (h4 (by omega))
  · intro h
    refine Int.not_le.1 fun hle => ?_
    have : 2 ^ len128 z ≤ 2 ^ w.toNat := Nat.pow_le_pow_right (by decide) (by omega)
    omega
theorem addsat_1 (N : Nat) (v : Int) (x y : BitVec 128) (hx : mayB v x = true) (hy : mayB v y = true) : vec_AddSat_1_m N x y v x = some (v, if BitVec.carry v.toNat x y false = true then onesI v else (x + y) &&& onesI v) := by
  have hw := may_w hx
  have bx : x.toNat < 2 ^ v.toNat := by rw [← lowN_may hx]; exact Nat.mod_lt _ (Nat.two_pow_pos _)
  have by' : y.toNat < 2 ^ v.toNat := by rw [← lowN_may hy]; exact Nat.mod_lt _ (Nat.two_pow_pos _)
  have hc : BitVec.carry v.toNat x y false = decide (2 ^ v.toNat ≤ x.toNat + y.toNat) := by
    unfold BitVec.carry
    rw [Nat.mod_eq_of_lt bx, Nat.mod_eq_of_lt by']
    exact decide_eq_decide.2 (by simp)
  have hpow : 2 ^ v.toNat ≤ 2 ^ 128 := Nat.pow_le_pow_right (by decide) (by omega)
  unfold vec_AddSat_1_m vec_AddSat_1_k2
  rw [carry_iff, hc, Bool.toNat_false, Nat.add_zero]
  by_cases h : 2 ^ 128 ≤ x.toNat + y.toNat
  · rw [decide_eq_true h, if_pos rfl, ck_pos _ (by omega), lowest_s _ _ _ (by omega), Option.bind_some, low_ones, decide_eq_true (Nat.le_trans hpow h), if_pos rfl]
  · rw [decide_eq_false h, if_neg (by decide)]
    have hs : (x + y).toNat = x.toNat + y.toNat := by rw [BitVec.toNat_add, Nat.mod_eq_of_lt (by omega)]
    by_cases h2 : ((len128 (x + y) : Nat) : Int) > v
    · have := (len_gt _ _ hw.1).1 h2
      rw [hs] at this
      rw [if_pos h2, ck_pos _ (by omega), lowest_s _ _ _ (by omega), Option.bind_some, low_ones, decide_eq_true this, if_pos rfl]
    · have : ¬ 2 ^ v.toNat ≤ x.toNat + y.toNat := fun hle => h2 ((len_gt _ _ hw.1).2 (by rw [hs]; exact hle))
      rw [if_neg h2, lowest_s _ _ _ (by omega), Option.bind_some, decide_eq_false this, if_neg (by decide)]
/-! ### Texts and back -/
theorem dch_all : ∀ d : Nat, d < 16 → dig (dch d) = d := by decide +kernel
theorem numL_app (b : Nat) (l k : List UInt8) (n : Nat) : numL b (l ++ k) n = numL b k (numL b l n) := by unfold numL; rw [List.foldl_append]
theorem textL_num (b : Nat) (h1 : 2 ≤ b) (h2 : b ≤ 16) : ∀ (k n : Nat), 1 ≤ k → n < 2 ^ k → numL b (textL b k n) 0 = n ∧ (textL b k n).all (fun c => decide (dig c < b)) = true ∧ textL b k n ≠ []
  | 0, _, h, _ => by omega
  | k + 1, n, _, hn => by
    have hr : n % b < b := Nat.mod_lt _ (by omega)
    have hd := dch_all (n % b) (by omega)
    unfold textL
    by_cases h : n / b = 0
    · rw [if_pos h]
      have h3 := Nat.div_add_mod n b
      rw [h, Nat.mul_zero, Nat.zero_add] at h3
      refine ⟨?_, ?_, by simp⟩
      · show 0 * b + dig (dch (n % b)) = n
        rw [hd]; omega
      · simp only [List.all_cons, List.all_nil, Bool.and_true, decide_eq_true_eq]; omega
    · rw [if_neg h]
      have hlt : n / b < 2 ^ k := by
        rw [Nat.div_lt_iff_lt_mul (by omega)]
        calc n < 2 ^ (k + 1) := hn
          _ = 2 ^ k * 2 := Nat.pow_succ ..
          _ ≤ 2 ^ k * b := Nat.mul_le_mul_left _ h1
      have hk : 1 ≤ k := by
        rcases Nat.eq_zero_or_pos k with h3 | h3
        · rw [h3, Nat.pow_zero] at hlt; exact absurd (Nat.lt_one_iff.1 hlt) h
        · exact h3
      obtain ⟨i1, i2, _⟩ := textL_num b h1 h2 k (n / b) hk hlt
      refine ⟨?_, ?_, by simp⟩
      · rw [numL_app, i1]
        show n / b * b + dig (dch (n % b)) = n
        rw [hd]; exact Nat.div_add_mod' n b
      · rw [List.all_append, i2]
        simp only [List.all_cons, List.all_nil, Bool.and_true, Bool.true_and, decide_eq_true_eq]; omega
theorem parse_text (b : Nat) (h1 : 2 ≤ b) (h2 : b ≤ 16) (x : BitVec 128) : parseR (textI (b : Int) x) (b : Int) = (x, 0) := by
  unfold textI
  rw [if_pos (by omega), Int.toNat_natCast]
  obtain ⟨i1, i2, i3⟩ := textL_num b h1 h2 128 x.toNat (by omega) x.isLt
  unfold parseR
  rw [if_neg (by omega), if_neg i3, Int.toNat_natCast]
  unfold parseS
  have hx := x.isLt
  rw [if_pos i2, i1, if_neg (by omega), BitVec.ofNat_toNat, BitVec.setWidth_eq]
theorem apos_app : ∀ (l r : List UInt8), l.all (fun c => decide (c ≠ 39)) = true → apos (l ++ 39 :: r) = l.length
  | [], _, _ => rfl
  | c :: l, r, h => by
    simp only [List.all_cons, Bool.and_eq_true, decide_eq_true_eq] at h
    show (if c = 39 then 0 else apos (l ++ 39 :: r) + 1) = l.length + 1
    rw [if_neg h.1, apos_app l r h.2]
theorem itoa_mark : ∀ n : Nat, n ≤ 128 → (Lib.itoa (n : Int)).all (fun c => decide (c ≠ 39)) = true ∧ 1 ≤ (Lib.itoa (n : Int)).length := by decide +kernel
theorem parse_textV {w : Int} {x : BitVec 128} (h : mayB w x = true) : parseV (textV w x) = (w, x, 0) := by
  obtain ⟨h1, h2, _⟩ := may_w h
  obtain ⟨n, rfl⟩ : ∃ n : Nat, w = (n : Int) := ⟨w.toNat, by omega⟩
  obtain ⟨e1, e2⟩ := itoa_w h1 h2
  obtain ⟨m1, m2⟩ := itoa_mark n (by omega)
  have et : textV (n : Int) x = Lib.itoa (n : Int) ++ 39 :: textI 16 x := by
    unfold textV; rw [if_pos h, List.append_assoc]; rfl
  have ha := apos_app _ (textI 16 x) m1
  have p10 : parseR (Lib.itoa (n : Int)) 10 = (BitVec.ofNat 128 n, 0) := by
    rw [e1, smalln n (by omega)]; exact parse_text 10 (by decide) (by decide) _
  have p16 : parseR (textI 16 x) 16 = (x, 0) := parse_text 16 (by decide) (by decide) x
  have t1 : (Lib.itoa (n : Int) ++ 39 :: textI 16 x).take (Lib.itoa (n : Int)).length = Lib.itoa (n : Int) := List.take_left
  have t2 : (Lib.itoa (n : Int) ++ 39 :: textI 16 x).drop ((Lib.itoa (n : Int)).length + 1) = textI 16 x := by
    rw [← List.drop_drop, List.drop_left]; rfl
  have hn : (BitVec.ofNat 128 n).toNat = n := by rw [BitVec.toNat_ofNat, Nat.mod_eq_of_lt (by omega)]
  rw [et, parseV_good (by
    rw [ha, t1, t2, p10, p16]
    refine ⟨by simp, m2, e2, rfl, by show (0 : Int) ≠ 3; decide, by show (0 : Int) ≠ 4; decide⟩), ha, t1, t2, p10, p16]
  simp only
  rw [hn, if_pos ⟨h1, h2⟩, if_pos ⟨trivial, h⟩]
/-! ### What the functions answer -/
theorem slice_s (N : Nat) {w : Int} {x : BitVec 128} (hm : mayB w x = true) {h l : Int} (h0 : 0 ≤ l) (h1 : l ≤ h) (h2 : h < w) : vec_Slice_m N w x h l = some (h - l + 1, shiftI x (-l) &&& onesI (h - l + 1), 0) := by
  have hw := may_w hm
  unfold vec_Slice_m
  rw [vmay_s, Option.bind_some, if_pos hm, if_neg (by omega), if_neg (by omega), if_neg (by omega)]
  unfold vec_Slice_k2 vec_Word_m
  rw [ck_pos _ (by omega), ck_pos _ (by omega), Option.bind_some, ck_pos _ (by omega), lowest_s _ _ _ (by omega), Option.bind_some]
theorem cat_s (N : Nat) {v w : Int} {x y : BitVec 128} (hx : mayB v x = true) (hy : mayB w y = true) (h : v + w ≤ 128) : vec_Cat_m N v x w y = some (v + w, (shiftI x w ||| y) &&& onesI (v + w), 0) := by
  have h1 := may_w hx
  have h2 := may_w hy
  unfold vec_Cat_m
  rw [vmay_s, Option.bind_some, if_pos hx, vmay_s, Option.bind_some, if_pos hy]
  unfold vec_Cat_k2 vec_Word_m
  rw [ck_pos _ (by omega), Option.bind_some, ck_pos _ (by omega), Option.bind_some, cut_s, Option.bind_some, if_pos (by omega)]
theorem shr_s (N : Nat) {w : Int} {x : BitVec 128} (hm : mayB w x = true) {n : Int} (h0 : 0 ≤ n) (h1 : n ≤ 128) : vec_Shr_m N w x n = some (w, shiftI x (-n) &&& onesI w, 0) := by
  unfold vec_Shr_m
  rw [move_s N w x n _ (shiftI x (-n)) (by rw [ck_pos _ (by omega)]), Option.bind_some, if_pos hm, if_neg (by omega)]
theorem cast_s (N : Nat) {w n : Int} {x : BitVec 128} (hm : mayB w x = true) (h1 : 1 ≤ n) (h2 : n ≤ 128) : vec_Cast_m N w x n = some (n, x &&& onesI n, 0) := by
  unfold vec_Cast_m vec_Word_m
  rw [vmay_s, Option.bind_some, if_pos hm, Option.bind_some, cut_s, Option.bind_some, if_pos ⟨h1, h2⟩]
theorem add_s (N : Nat) (v : Int) (x : BitVec 128) (w : Int) (y : BitVec 128) : vec_Add_m N v x w y = some (if mayB v x = true ∧ mayB w y = true then (if v = w then (v, (x + y) &&& onesI v, 0) else (0, 0#128, 9)) else (0, 0#128, 1)) := by
  unfold vec_Add_m
  rw [pair_s N v x w y _ (v, (x + y) &&& onesI v) (fun hx _ _ => by
    have := may_w hx
    unfold vec_Add_1_m
    rw [lowest_s _ _ _ (by omega), Option.bind_some]), Option.bind_some]
theorem addsat_s (N : Nat) {v : Int} {x y : BitVec 128} (hx : mayB v x = true) (hy : mayB v y = true) : vec_AddSat_m N v x v y = some (v, (if BitVec.carry v.toNat x y false = true then onesI v else (x + y) &&& onesI v), 0) := by
  unfold vec_AddSat_m
  rw [pair_s N v x v y _ (v, if BitVec.carry v.toNat x y false = true then onesI v else (x + y) &&& onesI v) (fun _ _ _ => addsat_1 N v x y hx hy), Option.bind_some, if_pos ⟨hx, hy⟩, if_pos rfl]
theorem less_s (N : Nat) {v : Int} {x y : BitVec 128} (hx : mayB v x = true) (hy : mayB v y = true) : vec_Less_m N v x v y = some (1, (if decide (x < y) = true then 1#128 else 0#128), 0) := by
  unfold vec_Less_m vec_Less_1_m
  rw [pair_s N v x v y _ (1, if decide (x < y) = true then 1#128 else 0#128) (fun _ _ _ => by
    rw [cmp_lt, truth_s, Option.bind_some]), Option.bind_some, if_pos ⟨hx, hy⟩, if_pos rfl]
/-! ### Sums -/
theorem low_mod (z : BitVec 128) (w : Int) (h1 : 1 ≤ w) (h2 : w ≤ 128) : (z &&& onesI w).toNat = z.toNat % 2 ^ w.toNat := by
  apply Nat.eq_of_testBit_eq
  intro j
  rw [Nat.testBit_mod_two_pow, BitVec.testBit_toNat, BitVec.testBit_toNat]
  by_cases hj : j < 128
  · rw [low_bit _ _ _ hj, Bool.and_comm]
    congr 1
    exact decide_eq_decide.2 (by omega)
  · rw [BitVec.getLsbD_of_ge _ _ (by omega), BitVec.getLsbD_of_ge _ _ (by omega), Bool.and_false]
theorem back_aux {M K x y : Nat} (hK : 1 ≤ K) (hx : x < M) (hy : y < M) : ((M * K - y + (x + y) % (M * K) % M) % (M * K)) % M = x := by
  have hMK : M ≤ M * K := Nat.le_mul_of_pos_right _ hK
  rw [Nat.mod_mul_right_mod, Nat.mod_mul_right_mod]
  by_cases h : x + y < M
  · rw [Nat.mod_eq_of_lt h, show M * K - y + (x + y) = M * K + x by omega, Nat.mul_add_mod, Nat.mod_eq_of_lt hx]
  · have e : (x + y) % M = x + y - M := by rw [Nat.mod_eq_sub_mod (by omega), Nat.mod_eq_of_lt (by omega)]
    obtain ⟨k, rfl⟩ : ∃ k, K = k + 1 := ⟨K - 1, by omega⟩
    rw [e, show M * (k + 1) - y + (x + y - M) = M * k + x by rw [Nat.mul_succ] at *; omega, Nat.mul_add_mod, Nat.mod_eq_of_lt hx]
theorem may_lt {w : Int} {x : BitVec 128} (h : mayB w x = true) : x.toNat < 2 ^ w.toNat := by rw [← lowN_may h]; exact Nat.mod_lt _ (Nat.two_pow_pos _)
theorem add_sub {v : Int} {x y : BitVec 128} (hx : mayB v x = true) (hy : mayB v y = true) : (((x + y) &&& onesI v) - y) &&& onesI v = x := by
  have hw := may_w hx
  apply BitVec.eq_of_toNat_eq
  rw [low_mod _ _ hw.1 hw.2.1, BitVec.toNat_sub, low_mod _ _ hw.1 hw.2.1, BitVec.toNat_add]
  have hp : 2 ^ 128 = 2 ^ v.toNat * 2 ^ (128 - v.toNat) := by rw [← Nat.pow_add]; congr 1; omega
  rw [hp]
  exact back_aux (Nat.two_pow_pos _) (may_lt hx) (may_lt hy)
theorem sat_less {v : Int} {x y : BitVec 128} (hx : mayB v x = true) (hy : mayB v y = true) :
    ((if BitVec.carry v.toNat x y false = true then onesI v else (x + y) &&& onesI v) = (x + y) &&& onesI v) ↔ ¬ ((x + y) &&& onesI v < x) := by
  have hw := may_w hx
  have bx := may_lt hx
  have by' := may_lt hy
  have hpow : 2 ^ v.toNat ≤ 2 ^ 128 := Nat.pow_le_pow_right (by decide) (by omega)
  have hc : BitVec.carry v.toNat x y false = decide (2 ^ v.toNat ≤ x.toNat + y.toNat) := by
    unfold BitVec.carry
    rw [Nat.mod_eq_of_lt bx, Nat.mod_eq_of_lt by']
    exact decide_eq_decide.2 (by simp)
  have hp : 2 ^ 128 = 2 ^ v.toNat * 2 ^ (128 - v.toNat) := by rw [← Nat.pow_add]; congr 1; omega
  have hs : ((x + y) &&& onesI v).toNat = (x.toNat + y.toNat) % 2 ^ v.toNat := by
    rw [low_mod _ _ hw.1 hw.2.1, BitVec.toNat_add, hp, Nat.mod_mul_right_mod]
  rw [hc, BitVec.lt_def, hs]
  by_cases h : 2 ^ v.toNat ≤ x.toNat + y.toNat
  · have e : (x.toNat + y.toNat) % 2 ^ v.toNat = x.toNat + y.toNat - 2 ^ v.toNat := by rw [Nat.mod_eq_sub_mod h, Nat.mod_eq_of_lt (by omega)]
    rw [decide_eq_true h, if_pos rfl, e]
    constructor
    · intro h3
      exfalso
      have h4 : (onesI v).toNat = 2 ^ v.toNat - 1 := by
        rw [← low_ones, low_mod _ _ hw.1 hw.2.1]
        have : (onesI v).toNat % 2 ^ v.toNat = (BitVec.allOnes 128 &&& onesI v).toNat := by rw [BitVec.allOnes_and, ← low_ones, low_mod _ _ hw.1 hw.2.1]; simp
        rw [this, low_mod _ _ hw.1 hw.2.1, BitVec.toNat_allOnes, hp, Nat.mul_comm]
        have hk := Nat.two_pow_pos (128 - v.toNat)
        have hm := Nat.two_pow_pos v.toNat
        generalize 2 ^ (128 - v.toNat) = K at *
        generalize 2 ^ v.toNat = M at *
        obtain ⟨k, rfl⟩ : ∃ k, K = k + 1 := ⟨K - 1, by omega⟩
        rw [show (k + 1) * M - 1 = M * k + (M - 1) by rw [Nat.succ_mul, Nat.mul_comm]; omega, Nat.mul_add_mod, Nat.mod_eq_of_lt (by omega)]
      have h5 := congrArg BitVec.toNat h3
      rw [h4, hs, e] at h5
      omega
    · intro h3; exfalso; omega
  · have e : (x.toNat + y.toNat) % 2 ^ v.toNat = x.toNat + y.toNat := Nat.mod_eq_of_lt (by omega)
    rw [decide_eq_false h, if_neg (by decide), e]
    constructor
    · intro _; omega
    · intro _; rfl
theorem tail_s (N : Nat) (v : Int) (x : BitVec 128) (w : Int) (y : BitVec 128) (hx : mayB v x = true) : shunterlaw02_VecBack_k2 N v x w y = some true := by
  have hw := may_w hx
  have ha := add_s N v x w y
  unfold shunterlaw02_VecBack_k2
  by_cases hy : mayB w y = true
  · rw [if_pos ⟨hx, hy⟩] at ha
    by_cases e : v = w
    · subst e
      have ms := may_low hw.1 hw.2.1 (x + y)
      rw [if_pos rfl] at ha
      rw [ha, Option.bind_some]
      simp only
      rw [if_neg (by decide), sub_s, Option.bind_some, if_pos ⟨ms, hy⟩, if_pos rfl, addsat_s N hx hy, Option.bind_some, less_s N ms hx, Option.bind_some]
      unfold vec_Word_m
      simp only [Option.bind_some]
      rw [add_sub hx hy, if_pos trivial, if_pos (by simp), if_pos trivial, if_pos trivial, vmay_s, Option.bind_some, if_pos ms, vmay_s, Option.bind_some]
      have msat : mayB v (if BitVec.carry v.toNat x y false = true then onesI v else (x + y) &&& onesI v) = true := by
        split
        · rw [← low_ones]; exact may_low hw.1 hw.2.1 _
        · exact ms
      rw [if_pos msat, lives_s]
      have hb := sat_less hx hy
      rw [if_pos ?_]
      · rfl
      · by_cases hl : (x + y) &&& onesI v < x
        · rw [decide_eq_true hl, if_pos (show true = true from rfl)]
          have hne : ¬ ((if BitVec.carry v.toNat x y false = true then onesI v else (x + y) &&& onesI v) = (x + y) &&& onesI v) := fun h => hb.1 h hl
          rw [beq_eq_false_iff_ne.2 hne]
          decide
        · rw [decide_eq_false hl, if_neg (show ¬ false = true by decide)]
          rw [beq_iff_eq.2 (hb.2 hl)]
          decide
    · rw [if_neg e] at ha
      rw [ha, Option.bind_some]
      simp only
      rw [if_pos (by decide), vmay_s, Option.bind_some, hy, if_pos (by decide), lives_s]; rfl
  · have hy' : mayB w y = false := by simpa using hy
    rw [if_neg (fun h => hy h.2)] at ha
    rw [ha, Option.bind_some]
    simp only
    rw [if_pos (by decide), vmay_s, Option.bind_some, hy', if_pos (by decide), lives_s]; rfl
theorem back_s (N : Nat) (v : Int) (x : BitVec 128) (w : Int) (y : BitVec 128) (t : Int) : shunterlaw02_VecBack_m N v x w y t = some true := by
  unfold shunterlaw02_VecBack_m
  rw [vmay_s, Option.bind_some]
  by_cases hx : mayB v x = true
  · have hw := may_w hx
    have hlen : (textV v x).length < 4294967281 := by
      unfold textV; rw [if_pos hx]
      have := (itoa_w hw.1 hw.2.1).2
      have := textI_len 16 x
      simp only [List.length_append, List.length_singleton]; omega
    rw [if_pos hx, vtext_s, Option.bind_some, vparse_s N _ hlen, Option.bind_some, parse_textV hx, hi_lo]
    simp only
    rw [if_pos (by simp), if_neg (by decide), if_neg (by omega)]
    unfold shunterlaw02_VecBack_k1
    have fin := tail_s N v x w y hx
    have k4 : ∀ b : Bool, (b = true → 1 ≤ t ∧ t < v) → shunterlaw02_VecBack_k4 N v x w y t b = some true := by
      intro b hb
      unfold shunterlaw02_VecBack_k4
      cases b
      · rw [if_neg (by decide)]; exact fin
      · obtain ⟨t1, t2⟩ := hb rfl
        rw [if_pos rfl, ck_pos _ (by omega), slice_s N hx (by omega) (by omega) (by omega), Option.bind_some, ck_pos _ (by omega), slice_s N hx (by omega) (by omega) (by omega), Option.bind_some]
        rw [show v - 1 - t + 1 = v - t by omega, show t - 1 - 0 + 1 = t by omega]
        simp only
        have mu := may_low (show 1 ≤ v - t by omega) (show v - t ≤ 128 by omega) (shiftI x (-t))
        have md := may_low (show 1 ≤ t by omega) (show t ≤ 128 by omega) (shiftI x (-0))
        have eu : shiftI x (-t) &&& onesI (v - t) = shiftI x (-t) := by
          apply BitVec.eq_of_getLsbD_eq
          intro j hj
          rw [low_bit _ _ _ hj, ← shiftI_down (by omega), BitVec.getLsbD_ushiftRight]
          by_cases h : (j : Int) < v - t
          · rw [decide_eq_true h, Bool.and_true]
          · rw [may_bit hx (t.toNat + j) (by omega), Bool.false_and]
        have ec : (shiftI (shiftI x (-t) &&& onesI (v - t)) t ||| shiftI x (-0) &&& onesI t) &&& onesI v = x := by
          apply BitVec.eq_of_getLsbD_eq
          intro j hj
          rw [low_bit _ _ _ hj, BitVec.getLsbD_or, low_bit _ _ _ hj, eu, ← shiftI_pos (by omega), ← shiftI_down (by omega), ← shiftI_down (by omega), BitVec.getLsbD_shiftLeft, BitVec.getLsbD_ushiftRight, BitVec.getLsbD_ushiftRight, decide_eq_true hj]
          by_cases h : (j : Int) < v
          · rw [decide_eq_true h, Bool.and_true, Bool.true_and]
            by_cases h3 : (j : Int) < t
            · rw [decide_eq_true h3, decide_eq_true (show j < t.toNat by omega)]; simp
            · rw [decide_eq_false h3, decide_eq_false (show ¬ j < t.toNat by omega), show t.toNat + (j - t.toNat) = j by omega]; simp
          · rw [may_bit hx j (by omega), decide_eq_false h, Bool.and_false]
        have em : shiftI x (-t) &&& onesI v = shiftI x (-t) &&& onesI (v - t) &&& onesI v := by rw [eu]
        rw [cat_s N mu md (by omega), Option.bind_some, shr_s N hx (by omega) (by omega), Option.bind_some, cast_s N mu (by omega) (by omega), Option.bind_some]
        rw [show v - t + t = v by omega, ec]
        simp only
        rw [if_neg (by decide), if_neg (by decide), if_neg (by decide), if_pos (by simp), if_neg (by decide), if_neg (by decide), ← em, if_pos (by simp), vmay_s, Option.bind_some, if_pos mu, vmay_s, Option.bind_some, if_pos md]
        exact fin
    by_cases ht : t ≥ 1
    · rw [if_pos ht]
      exact k4 _ (fun h => ⟨ht, of_decide_eq_true h⟩)
    · rw [if_neg ht]
      exact k4 _ (fun h => absurd h (by decide))
  · have hx' : ¬ mayB v x = true := hx
    rw [if_neg hx', vtext_s, Option.bind_some]
    unfold textV
    rw [if_neg hx', if_pos rfl, lives_s]; rfl
end Bk
end Go.Proofs.YtomcfndpnnjihaaDoor
