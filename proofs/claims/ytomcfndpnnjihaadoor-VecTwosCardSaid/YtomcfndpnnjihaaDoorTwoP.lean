/- What the models of what is done to two rows come to. Conditions: none but those written. -/
import Derived.Test.YtomcfndpnnjihaaDoorOnesP
namespace Go.Proofs.YtomcfndpnnjihaaDoor
open Go Go.RowKit Go.Eng
/-! ### Orders, bit by bit -/
def lowN (x : BitVec 128) (i : Nat) : Nat := x.toNat % 2 ^ i
theorem lowN_succ (x : BitVec 128) (i : Nat) : lowN x (i + 1) = (if x.getLsbD i then 2 ^ i else 0) + lowN x i := by
  unfold lowN
  rw [Nat.mod_pow_succ, ← BitVec.testBit_toNat, Nat.testBit_eq_decide_div_mod_eq]
  rcases Nat.mod_two_eq_zero_or_one (x.toNat / 2 ^ i) with h | h <;> rw [h] <;> simp [Nat.add_comm]
def lessI (x y : BitVec 128) (i : Nat) : Bool := decide (lowN x i < lowN y i)
def sameI (x y : BitVec 128) (i : Nat) : Bool := decide (lowN x i = lowN y i)
theorem step_ne {x y : BitVec 128} {i : Nat} (h : x.getLsbD i ≠ y.getLsbD i) : lessI x y (i + 1) = y.getLsbD i ∧ sameI x y (i + 1) = false := by
  have h1 : lowN x i < 2 ^ i := Nat.mod_lt _ (Nat.two_pow_pos i)
  have h2 : lowN y i < 2 ^ i := Nat.mod_lt _ (Nat.two_pow_pos i)
  unfold lessI sameI
  rw [lowN_succ, lowN_succ]
  cases hx : x.getLsbD i <;> cases hy : y.getLsbD i
  · rw [hx, hy] at h; exact absurd rfl h
  · exact ⟨decide_eq_true (by simp; omega), decide_eq_false (by simp; omega)⟩
  · exact ⟨decide_eq_false (by simp; omega), decide_eq_false (by simp; omega)⟩
  · rw [hx, hy] at h; exact absurd rfl h
theorem step_eq {x y : BitVec 128} {i : Nat} (h : x.getLsbD i = y.getLsbD i) : lessI x y (i + 1) = lessI x y i ∧ sameI x y (i + 1) = sameI x y i := by
  unfold lessI sameI
  rw [lowN_succ, lowN_succ, h]
  exact ⟨decide_eq_decide.2 (by omega), decide_eq_decide.2 (by omega)⟩
theorem lowN_may {w : Int} {x : BitVec 128} (h : mayB w x = true) : lowN x w.toNat = x.toNat := by
  have hw := may_w h
  exact Nat.mod_eq_of_lt (Nat.lt_of_lt_of_le (len128_spec x).1 (Nat.pow_le_pow_right (by decide) (by omega)))
def twoTail (N : Nat) (op : List UInt8) (rx ry : List Bool) (less same : Bool) : Option (Int × BitVec 128 × Int) :=
  if op = [101, 113] then (shunterref02_Of_m N [same]).bind fun r => some (r.1, r.2, 0) else if op = [108, 101, 115, 115] then (shunterref02_Of_m N [less]).bind fun r => some (r.1, r.2, 0)
  else if op = [115, 117, 98] then shunterref02_Two_k8 N op rx ry less true else shunterref02_Two_k8 N op rx ry less (op == [115, 117, 98, 115, 97, 116])
theorem l6_loop (N : Nat) (op : List UInt8) (x y : BitVec 128) (m : Nat) (hm : m ≤ 128) : ∀ (k f i : Nat), i + k = m → k < f →
    shunterref02_Two_l6 N op (bitsL m x) (bitsL m y) f (lessI x y i) (sameI x y i) (i : Int) = twoTail N op (bitsL m x) (bitsL m y) (lessI x y m) (sameI x y m) := by
  intro k
  induction k with
  | zero =>
    intro f i hi hf
    obtain ⟨f, rfl⟩ : ∃ k, f = k + 1 := ⟨f - 1, by omega⟩
    obtain rfl : i = m := by omega
    rw [shunterref02_Two_l6, if_neg (by rw [bitsL_len]; omega)]
    rfl
  | succ k ih =>
    intro f i hi hf
    obtain ⟨f, rfl⟩ : ∃ k, f = k + 1 := ⟨f - 1, by omega⟩
    rw [shunterref02_Two_l6, if_pos (by rw [bitsL_len]; omega), ck_pos _ (by rw [bitsL_len]; omega), ck_pos _ (by rw [bitsL_len]; omega), Int.toNat_natCast, bitsL_get, bitsL_get, decide_eq_true (show i < m by omega), Bool.true_and, Bool.true_and]
    have h2 := ih f (i + 1) (by omega) (by omega)
    by_cases h : x.getLsbD i = y.getLsbD i
    · rw [if_neg (fun hn => hn h), ck_pos _ (by omega)]
      obtain ⟨e1, e2⟩ := step_eq h
      rw [e1, e2] at h2; exact h2
    · rw [if_pos h, ck_pos _ (by rw [bitsL_len]; omega), ck_pos _ (by omega)]
      obtain ⟨e1, e2⟩ := step_ne h
      rw [e1, e2] at h2; exact h2
theorem two_s (N : Nat) (hN : 128 < N) (op : List UInt8) (v : Int) (x : BitVec 128) (w : Int) (y : BitVec 128) : shunterref02_Two_m N op v x w y =
    if mayB v x = true ∧ mayB w y = true then (if v = w then twoTail N op (bitsL v.toNat x) (bitsL v.toNat y) (decide (x < y)) (decide (x = y)) else some (0, 0#128, 9)) else some (0, 0#128, 1) := by
  unfold shunterref02_Two_m
  rw [rmay_s, Option.bind_some]
  by_cases hx : mayB v x = true
  · rw [if_pos hx, rmay_s, Option.bind_some]
    by_cases hy : mayB w y = true
    · have hw := may_w hx
      rw [if_pos hy, if_pos ⟨hx, hy⟩]
      unfold shunterref02_Two_k2
      by_cases e : v = w
      · subst e
        rw [if_neg (fun h => h rfl), if_pos rfl, bits_s N v x hN (by omega) (by omega), Option.bind_some, bits_s N v y hN (by omega) (by omega), Option.bind_some]
        have h := l6_loop N op x y v.toNat (by omega) v.toNat N 0 (by omega) (by omega)
        have h0 : lessI x y 0 = false := by simp [lessI, lowN, Nat.mod_one]
        have h1 : sameI x y 0 = true := by simp [sameI, lowN, Nat.mod_one]
        rw [h0, h1] at h
        have e1 : lessI x y v.toNat = decide (x < y) := by unfold lessI; rw [lowN_may hx, lowN_may hy]; exact decide_eq_decide.2 BitVec.lt_def.symm
        have e2 : sameI x y v.toNat = decide (x = y) := by unfold sameI; rw [lowN_may hx, lowN_may hy]; exact decide_eq_decide.2 BitVec.toNat_inj
        rw [e1, e2] at h
        exact h
      · rw [if_pos e, if_neg e, zz]
    · rw [if_neg hy, if_neg (fun h => hy h.2), zz]
  · rw [if_neg hx, if_neg (fun h => hx h.1), zz]
theorem of_one (N : Nat) (hN : 128 < N) (b : Bool) : shunterref02_Of_m N [b] = some (1, if b = true then 1#128 else 0#128) := by
  rw [of_s N hN [b] (by simp)]
  cases b <;> rfl
theorem truth_s (N : Nat) (b : Bool) : vec_Truth_m N b = some (1, if b = true then 1#128 else 0#128) := by
  unfold vec_Truth_m
  cases b
  · rw [if_neg (by decide), if_neg (by decide), zz]
  · rw [if_pos rfl, if_pos rfl]; rfl
theorem eq_eq (N : Nat) (hN : 128 < N) (v : Int) (x : BitVec 128) (w : Int) (y : BitVec 128) : ∃ A, vec_Eq_m N v x w y = some A ∧ shunterref02_Two_m N [101, 113] v x w y = some A := by
  unfold vec_Eq_m vec_Eq_1_m
  rw [pair_s N v x w y _ (1, if decide (x = y) = true then 1#128 else 0#128) (fun _ _ _ => by
    rw [truth_s, Option.bind_some, show (x == y) = decide (x = y) from rfl]), Option.bind_some, two_s N hN]
  refine ⟨_, rfl, ?_⟩
  split
  · split
    · unfold twoTail; rw [if_pos rfl, of_one N hN, Option.bind_some]
    · rfl
  · rfl
theorem cmp_lt (x y : BitVec 128) : decide (cmpI x y < 0) = decide (x < y) := by
  refine decide_eq_decide.2 ?_
  unfold cmpI
  by_cases h : x = y
  · subst h; rw [if_pos rfl]; simp
  · rw [if_neg h]
    by_cases h2 : x < y
    · rw [if_pos h2]; simp [h2]
    · rw [if_neg h2]; simp [h2]
theorem cmp_le (x y : BitVec 128) : decide (cmpI x y ≤ 0) = !decide (y < x) := by
  rw [← decide_not]
  refine decide_eq_decide.2 ?_
  unfold cmpI
  by_cases h : x = y
  · subst h; rw [if_pos rfl]; simp
  · rw [if_neg h]
    have hne : x.toNat ≠ y.toNat := fun e => h (BitVec.eq_of_toNat_eq e)
    by_cases h2 : x < y
    · rw [if_pos h2]; rw [BitVec.lt_def] at h2 ⊢; omega
    · rw [if_neg h2]; rw [BitVec.lt_def] at h2 ⊢; omega
theorem tail_less (N : Nat) (hN : 128 < N) (rx ry : List Bool) (l s : Bool) : twoTail N [108, 101, 115, 115] rx ry l s = some (1, (if l = true then 1#128 else 0#128), 0) := by
  unfold twoTail; rw [if_neg (by decide), if_pos rfl, of_one N hN, Option.bind_some]
theorem less_eq (N : Nat) (hN : 128 < N) (v : Int) (x : BitVec 128) (w : Int) (y : BitVec 128) : ∃ A, vec_Less_m N v x w y = some A ∧ shunterref02_Two_m N [108, 101, 115, 115] v x w y = some A := by
  unfold vec_Less_m vec_Less_1_m
  rw [pair_s N v x w y _ (1, if decide (x < y) = true then 1#128 else 0#128) (fun _ _ _ => by
    rw [cmp_lt, truth_s, Option.bind_some]), Option.bind_some, two_s N hN]
  refine ⟨_, rfl, ?_⟩
  split
  · split
    · rw [tail_less N hN]
    · rfl
  · rfl
/-! ### Sums and what is done bit by bit -/
def cn (b : Bool) : Int := if b then 1 else 0
theorem cn_b (b : Bool) : 0 ≤ cn b ∧ cn b ≤ 1 := by cases b <;> decide
abbrev Rec2 := List Bool → Bool → Int → Option (Int × BitVec 128 × Int)
def finB (op : List UInt8) (p q : Bool) (b : Bool) : Bool :=
  if op = [120, 111, 114] then p != q else if op = [111, 114] then (if p = true then true else q) else if op = [97, 110, 100] then (if p = true then q else false) else b
section
variable (op : List UInt8) (rx out : List Bool) (i : Nat) (hi : i < 128) (ho : out.length = i) (rec : Rec2) (p q : Bool) (hp : rx[i]! = p)
include hi ho
theorem t26 (n : Int) (b : Bool) : shunterref02_Two_k26 out (i : Int) rec n b = rec (out ++ [b]) (decide (n ≥ 2)) ((i : Int) + 1) := by
  unfold shunterref02_Two_k26
  rw [ck_pos _ (by rw [ho]; simp; omega), ck_pos _ (by omega)]
include hp
theorem t24 (n : Int) (b : Bool) : shunterref02_Two_k24 op rx out (i : Int) rec q n b = rec (out ++ [if op = [120, 111, 114] then p != q else b]) (decide (n ≥ 2)) ((i : Int) + 1) := by
  unfold shunterref02_Two_k24
  rw [Int.toNat_natCast, hp]
  split <;> rw [t26 out i hi ho]
theorem t22 (n : Int) (b : Bool) : shunterref02_Two_k22 op rx out (i : Int) rec q n b = rec (out ++ [if op = [120, 111, 114] then p != q else if op = [111, 114] then (if p = true then true else q) else b]) (decide (n ≥ 2)) ((i : Int) + 1) := by
  unfold shunterref02_Two_k22
  rw [Int.toNat_natCast, hp]
  split
  · split <;> rw [t24 op rx out i hi ho rec p q hp]
  · rw [t24 op rx out i hi ho rec p q hp]
theorem t20 (n : Int) (h0 : 0 ≤ n) (h1 : n ≤ 3) : shunterref02_Two_k20 op rx out (i : Int) rec q n = rec (out ++ [finB op p q (n % 2 == 1)]) (decide (n ≥ 2)) ((i : Int) + 1) := by
  unfold shunterref02_Two_k20 finB
  rw [ck_pos _ (by omega), Int.toNat_natCast, hp]
  split
  · split
    · rename_i h2; rw [t22 op rx out i hi ho rec p q hp]; simp [h2]
    · rename_i h2; rw [t22 op rx out i hi ho rec p q hp]; simp [h2]
  · rw [t22 op rx out i hi ho rec p q hp]
theorem t14 (c : Bool) : shunterref02_Two_k14 op rx out c (i : Int) rec q = rec (out ++ [finB op p q (p ^^ (q ^^ c))]) (if p then (q || c) else (q && c)) ((i : Int) + 1) := by
  unfold shunterref02_Two_k14
  rw [Int.toNat_natCast, hp]
  have h18 : ∀ n : Int, 0 ≤ n → n ≤ 2 → shunterref02_Two_k18 op rx out c (i : Int) rec q n = rec (out ++ [finB op p q ((n + cn c) % 2 == 1)]) (decide (n + cn c ≥ 2)) ((i : Int) + 1) := fun n h0 h1 => by
    unfold shunterref02_Two_k18
    cases c
    · rw [if_neg (by decide), t20 op rx out i hi ho rec p q hp n h0 (by omega)]; simp [cn]
    · rw [if_pos rfl, ck_pos _ (by omega), t20 op rx out i hi ho rec p q hp (n + 1) (by omega) (by omega)]; rfl
  have h16 : ∀ n : Int, 0 ≤ n → n ≤ 1 → shunterref02_Two_k16 op rx out c (i : Int) rec q n = rec (out ++ [finB op p q ((n + cn q + cn c) % 2 == 1)]) (decide (n + cn q + cn c ≥ 2)) ((i : Int) + 1) := fun n h0 h1 => by
    unfold shunterref02_Two_k16
    have := cn_b q
    cases q
    · rw [if_neg (by decide), h18 n h0 (by omega)]; simp [cn]
    · rw [if_pos rfl, ck_pos _ (by omega), h18 (n + 1) (by omega) (by omega)]; rfl
  cases p
  · rw [if_neg (by decide), h16 0 (by decide) (by decide)]
    cases q <;> cases c <;> rfl
  · rw [if_pos rfl, h16 1 (by decide) (by decide)]
    cases q <;> cases c <;> rfl
end
theorem l12_loop (N : Nat) (op : List UInt8) (x y Y : BitVec 128) (c0 less : Bool) (m : Nat) (hm : m ≤ 128) (hY : ∀ i, i < 128 → Y.getLsbD i = (if op = [115, 117, 98] ∨ op = [115, 117, 98, 115, 97, 116] then !(y.getLsbD i) else y.getLsbD i)) : ∀ (k f i : Nat), i + k = m → k < f →
    shunterref02_Two_l12 N op (bitsL m x) (bitsL m y) less f (mapR i fun i => finB op (x.getLsbD i) (Y.getLsbD i) (x.getLsbD i ^^ (Y.getLsbD i ^^ BitVec.carry i x Y c0))) (BitVec.carry i x Y c0) (i : Int) =
    shunterref02_Two_l29 N op less (BitVec.carry m x Y c0) N (mapR m fun i => finB op (x.getLsbD i) (Y.getLsbD i) (x.getLsbD i ^^ (Y.getLsbD i ^^ BitVec.carry i x Y c0))) 0 := by
  intro k
  induction k with
  | zero =>
    intro f i hi hf
    obtain ⟨f, rfl⟩ : ∃ k, f = k + 1 := ⟨f - 1, by omega⟩
    obtain rfl : i = m := by omega
    rw [shunterref02_Two_l12, if_neg (by rw [bitsL_len]; omega)]
  | succ k ih =>
    intro f i hi hf
    obtain ⟨f, rfl⟩ : ∃ k, f = k + 1 := ⟨f - 1, by omega⟩
    rw [shunterref02_Two_l12, if_pos (by rw [bitsL_len]; omega), ck_pos _ (by rw [bitsL_len]; omega), ck_pos _ (by rw [bitsL_len]; omega)]
    have h2 := ih f (i + 1) (by omega) (by omega)
    rw [← mapR_succ, sum_carry] at h2
    rw [← h2]
    have hx : (bitsL m x)[i]! = x.getLsbD i := by rw [bitsL_get, decide_eq_true (show i < m by omega), Bool.true_and]
    have hy : (bitsL m y)[(i : Int).toNat]! = y.getLsbD i := by rw [Int.toNat_natCast, bitsL_get, decide_eq_true (show i < m by omega), Bool.true_and]
    rw [hy]
    have e := hY i (by omega)
    by_cases h1 : op = [115, 117, 98]
    · rw [if_pos h1]; rw [if_pos (.inl h1)] at e; rw [← e]
      exact t14 op _ _ i (by omega) (mapR_len _ _) _ _ _ hx _
    · rw [if_neg h1]
      by_cases h3 : op = [115, 117, 98, 115, 97, 116]
      · rw [if_pos h3]; rw [if_pos (.inr h3)] at e; rw [← e]
        exact t14 op _ _ i (by omega) (mapR_len _ _) _ _ _ hx _
      · rw [if_neg h3]; rw [if_neg (fun h => h.elim h1 h3)] at e; rw [← e]
        exact t14 op _ _ i (by omega) (mapR_len _ _) _ _ _ hx _
theorem l29_id (N : Nat) (hN : 128 < N) (op : List UInt8) (less c : Bool) (h1 : ¬ (op = [97, 100, 100, 115, 97, 116] ∧ c = true)) (h2 : ¬ (op = [115, 117, 98, 115, 97, 116] ∧ less = true)) (out : List Bool) (hl : out.length ≤ 128) : ∀ (k f i : Nat), i + k = out.length → k < f →
    shunterref02_Two_l29 N op less c f out (i : Int) = some ((out.length : Int), ofL out, 0) := by
  intro k
  induction k with
  | zero =>
    intro f i hi hf
    obtain ⟨f, rfl⟩ : ∃ k, f = k + 1 := ⟨f - 1, by omega⟩
    rw [shunterref02_Two_l29, if_neg (by omega), of_s N hN _ hl, Option.bind_some]
  | succ k ih =>
    intro f i hi hf
    obtain ⟨f, rfl⟩ : ∃ k, f = k + 1 := ⟨f - 1, by omega⟩
    have hk : shunterref02_Two_k31 op less (i : Int) (shunterref02_Two_l29 N op less c f) out = some ((out.length : Int), ofL out, 0) := by
      unfold shunterref02_Two_k31
      have := ih f (i + 1) (by omega) (by omega)
      by_cases h3 : op = [115, 117, 98, 115, 97, 116]
      · rw [if_pos h3, if_neg (fun h => h2 ⟨h3, h⟩), ck_pos _ (by omega)]; exact this
      · rw [if_neg h3, ck_pos _ (by omega)]; exact this
    rw [shunterref02_Two_l29, if_pos (by omega)]
    by_cases h3 : op = [97, 100, 100, 115, 97, 116]
    · rw [if_pos h3, if_neg (fun h => h1 ⟨h3, h⟩)]; exact hk
    · rw [if_neg h3]; exact hk
theorem mapR_set (m i : Nat) (D : Nat → Bool) (v : Bool) : (mapR m fun j => if j < i then v else D j).set i v = mapR m fun j => if j < i + 1 then v else D j := by
  apply List.ext_getElem?
  intro j
  rw [List.getElem?_set]
  by_cases hj : j < m
  · by_cases e : i = j
    · subst e; simp [mapR, hj]
    · rw [if_neg e]
      simp only [mapR, List.getElem?_map, List.getElem?_range hj, Option.map_some]
      congr 1
      by_cases h : j < i
      · rw [if_pos h, if_pos (by omega)]
      · rw [if_neg h, if_neg (by omega)]
  · by_cases e : i = j
    · subst e; simp [mapR, hj]
    · rw [if_neg e]; simp [mapR, hj]
theorem l29_all (N : Nat) (hN : 128 < N) (op : List UInt8) (less c v : Bool) (h : (op = [97, 100, 100, 115, 97, 116] ∧ c = true ∧ v = true) ∨ (op = [115, 117, 98, 115, 97, 116] ∧ less = true ∧ v = false)) (m : Nat) (hm : m ≤ 128) (D : Nat → Bool) : ∀ (k f i : Nat), i + k = m → k < f →
    shunterref02_Two_l29 N op less c f (mapR m fun j => if j < i then v else D j) (i : Int) = some ((m : Int), ofL (mapR m fun _ => v), 0) := by
  intro k
  induction k with
  | zero =>
    intro f i hi hf
    obtain ⟨f, rfl⟩ : ∃ k, f = k + 1 := ⟨f - 1, by omega⟩
    obtain rfl : i = m := by omega
    rw [shunterref02_Two_l29, if_neg (by rw [mapR_len]; omega), of_s N hN _ (by rw [mapR_len]; exact hm), Option.bind_some, mapR_len]
    have : (mapR i fun j => if j < i then v else D j) = mapR i fun _ => v := by
      unfold mapR
      refine List.map_congr_left fun j hj => ?_
      rw [if_pos (List.mem_range.1 hj)]
    rw [this]
  | succ k ih =>
    intro f i hi hf
    obtain ⟨f, rfl⟩ : ∃ k, f = k + 1 := ⟨f - 1, by omega⟩
    rw [shunterref02_Two_l29, if_pos (by rw [mapR_len]; omega)]
    have h2 := ih f (i + 1) (by omega) (by omega)
    rw [← mapR_set] at h2
    rcases h with ⟨rfl, rfl, rfl⟩ | ⟨rfl, rfl, rfl⟩
    · rw [if_pos rfl, if_pos rfl, ck_pos _ (by rw [mapR_len]; omega), Int.toNat_natCast]
      unfold shunterref02_Two_k31
      rw [if_neg (by decide), ck_pos _ (by omega)]; exact h2
    · rw [if_neg (by decide)]
      unfold shunterref02_Two_k31
      rw [if_pos rfl, if_pos rfl, ck_pos _ (by rw [mapR_len]; omega), Int.toNat_natCast, ck_pos _ (by omega)]; exact h2
def isArith (op : List UInt8) : Bool := op != [101, 113] && op != [108, 101, 115, 115]
/-- The main loop's answer, where nothing is made the greatest or the least. -/
theorem tail_arith (N : Nat) (hN : 128 < N) (op : List UInt8) (x y Y : BitVec 128) (w : Int) (hw : 1 ≤ w ∧ w ≤ 128) (less same : Bool) (ha : isArith op = true) (c0 : Bool) (hc : c0 = (op == [115, 117, 98] || op == [115, 117, 98, 115, 97, 116]))
    (hY : ∀ i, i < 128 → Y.getLsbD i = (if op = [115, 117, 98] ∨ op = [115, 117, 98, 115, 97, 116] then !(y.getLsbD i) else y.getLsbD i)) :
    twoTail N op (bitsL w.toNat x) (bitsL w.toNat y) less same =
    shunterref02_Two_l29 N op less (BitVec.carry w.toNat x Y c0) N (mapR w.toNat fun i => finB op (x.getLsbD i) (Y.getLsbD i) (x.getLsbD i ^^ (Y.getLsbD i ^^ BitVec.carry i x Y c0))) 0 := by
  simp only [isArith, Bool.and_eq_true, bne_iff_ne, ne_eq] at ha
  unfold twoTail
  rw [if_neg ha.1, if_neg ha.2]
  have h := l12_loop N op x y Y c0 less w.toNat (by omega) hY w.toNat N 0 (by omega) (by omega)
  have e0 : BitVec.carry 0 x Y c0 = c0 := by simp
  rw [e0] at h
  by_cases h1 : op = [115, 117, 98]
  · rw [if_pos h1]
    have : c0 = true := by rw [hc, h1]; rfl
    rw [this] at h ⊢
    exact h
  · rw [if_neg h1]
    have : c0 = (op == [115, 117, 98, 115, 97, 116]) := by rw [hc, beq_false_of_ne h1, Bool.false_or]
    rw [← this]
    exact h
theorem tail_id (N : Nat) (hN : 128 < N) (op : List UInt8) (x y Y z : BitVec 128) (w : Int) (hw : 1 ≤ w ∧ w ≤ 128) (less same : Bool) (ha : isArith op = true) (c0 : Bool) (hc : c0 = (op == [115, 117, 98] || op == [115, 117, 98, 115, 97, 116]))
    (hY : ∀ i, i < 128 → Y.getLsbD i = (if op = [115, 117, 98] ∨ op = [115, 117, 98, 115, 97, 116] then !(y.getLsbD i) else y.getLsbD i))
    (h1 : ¬ (op = [97, 100, 100, 115, 97, 116] ∧ BitVec.carry w.toNat x Y c0 = true)) (h2 : ¬ (op = [115, 117, 98, 115, 97, 116] ∧ less = true))
    (hz : ∀ i : Nat, i < 128 → z.getLsbD i = finB op (x.getLsbD i) (Y.getLsbD i) (x.getLsbD i ^^ (Y.getLsbD i ^^ BitVec.carry i x Y c0))) :
    twoTail N op (bitsL w.toNat x) (bitsL w.toNat y) less same = some (w, z &&& onesI w, 0) := by
  rw [tail_arith N hN op x y Y w hw less same ha c0 hc hY]
  have := l29_id N hN op less (BitVec.carry w.toNat x Y c0) h1 h2 (mapR w.toNat fun i => finB op (x.getLsbD i) (Y.getLsbD i) (x.getLsbD i ^^ (Y.getLsbD i ^^ BitVec.carry i x Y c0))) (by rw [mapR_len]; omega) w.toNat N 0 (by rw [mapR_len]; omega) (by omega)
  rw [mapR_len] at this
  rw [ofR_low w (by omega) (by omega) _ z (fun j hj => hz j (by omega)), show ((w.toNat : Nat) : Int) = w by omega] at this
  exact this
theorem tail_all (N : Nat) (hN : 128 < N) (op : List UInt8) (x y Y : BitVec 128) (w : Int) (hw : 1 ≤ w ∧ w ≤ 128) (less same : Bool) (ha : isArith op = true) (c0 v : Bool) (hc : c0 = (op == [115, 117, 98] || op == [115, 117, 98, 115, 97, 116]))
    (hY : ∀ i, i < 128 → Y.getLsbD i = (if op = [115, 117, 98] ∨ op = [115, 117, 98, 115, 97, 116] then !(y.getLsbD i) else y.getLsbD i))
    (h : (op = [97, 100, 100, 115, 97, 116] ∧ BitVec.carry w.toNat x Y c0 = true ∧ v = true) ∨ (op = [115, 117, 98, 115, 97, 116] ∧ less = true ∧ v = false)) :
    twoTail N op (bitsL w.toNat x) (bitsL w.toNat y) less same = some (w, (if v = true then onesI w else 0#128), 0) := by
  rw [tail_arith N hN op x y Y w hw less same ha c0 hc hY]
  have := l29_all N hN op less (BitVec.carry w.toNat x Y c0) v h w.toNat (by omega) (fun i => finB op (x.getLsbD i) (Y.getLsbD i) (x.getLsbD i ^^ (Y.getLsbD i ^^ BitVec.carry i x Y c0))) w.toNat N 0 (by omega) (by omega)
  rw [show ((w.toNat : Nat) : Int) = w by omega] at this
  have e : (mapR w.toNat fun j => if j < 0 then v else finB op (x.getLsbD j) (Y.getLsbD j) (x.getLsbD j ^^ (Y.getLsbD j ^^ BitVec.carry j x Y c0))) = mapR w.toNat fun i => finB op (x.getLsbD i) (Y.getLsbD i) (x.getLsbD i ^^ (Y.getLsbD i ^^ BitVec.carry i x Y c0)) := by
    unfold mapR; exact List.map_congr_left fun j _ => by rw [if_neg (by omega)]
  rw [e] at this
  refine this.trans ?_
  rw [ofR w.toNat (by omega) (fun _ => v) (if v = true then onesI w else 0#128) (fun j hj => by
    cases v
    · simp
    · rw [if_pos rfl, onesI_bit _ _ hj, Bool.and_true]; exact decide_eq_decide.2 (by omega))]
end Go.Proofs.YtomcfndpnnjihaaDoor
