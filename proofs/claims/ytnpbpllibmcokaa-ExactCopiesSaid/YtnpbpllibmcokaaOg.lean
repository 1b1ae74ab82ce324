/- What the reference says of the order of two rows. Conditions: none but those written. -/
import Derived.Test.YtnpbpllibmcokaaVQ
import Derived.Test.YtnpbpllibmcokaaOc
namespace Go.Proofs.Ytnpbpllibmcokaa
open Go Go.RowKit Go.Eng
theorem zz : ((0#64) ++ (0#64) : BitVec 128) = 0#128 := by decide
/-! ### Orders, bit by bit -/
def lowN (x : BitVec 128) (i : Nat) : Nat := x.toNat % 2 ^ i
theorem lowN_succ (x : BitVec 128) (i : Nat) : lowN x (i + 1) = (if x.getLsbD i then 2 ^ i else 0) + lowN x i := by
  unfold lowN
  rw [Nat.mod_pow_succ, ← BitVec.testBit_toNat, Nat.testBit_eq_decide_div_mod_eq]
  rcases Nat.mod_two_eq_zero_or_one (x.toNat / 2 ^ i) with h | h <;> rw [h] <;> simp [Nat.add_comm]
def lessI (x y : BitVec 128) (i : Nat) : Bool := decide (lowN x i < lowN y i)
def sameI (x y : BitVec 128) (i : Nat) : Bool := decide (lowN x i = lowN y i)
theorem step_ne {x y : BitVec 128} {i : Nat} (h : x.getLsbD i ≠ y.getLsbD i) : lessI x y (i + 1) = y.getLsbD i ∧ sameI x y (i + 1) = false := by
  have h1 : lowN x i < 2 ^ i := Nat.mod_lt _ (Nat.two_pow_pos i)
  have h2 : lowN y i < 2 ^ i := Nat.mod_lt _ (Nat.two_pow_pos i)
  unfold lessI sameI
  rw [lowN_succ, lowN_succ]
  cases hx : x.getLsbD i <;> cases hy : y.getLsbD i
  · rw [hx, hy] at h; exact absurd rfl h
  · exact ⟨decide_eq_true (by simp; omega), decide_eq_false (by simp; omega)⟩
  · exact ⟨decide_eq_false (by simp; omega), decide_eq_false (by simp; omega)⟩
  · rw [hx, hy] at h; exact absurd rfl h
theorem step_eq {x y : BitVec 128} {i : Nat} (h : x.getLsbD i = y.getLsbD i) : lessI x y (i + 1) = lessI x y i ∧ sameI x y (i + 1) = sameI x y i := by
  unfold lessI sameI
  rw [lowN_succ, lowN_succ, h]
  exact ⟨decide_eq_decide.2 (by omega), decide_eq_decide.2 (by omega)⟩
theorem lowN_may {w : Int} {x : BitVec 128} (h : mayB w x = true) : lowN x w.toNat = x.toNat := by
  have hw := may_w h
  exact Nat.mod_eq_of_lt (Nat.lt_of_lt_of_le (len128_spec x).1 (Nat.pow_le_pow_right (by decide) (by omega)))
def twoTail (N : Nat) (op : List UInt8) (rx ry : List Bool) (less same : Bool) : Option (Int × BitVec 128 × Int) :=
  if op = [101, 113] then (shunterref02_Of_m N [same]).bind fun r => some (r.1, r.2, 0) else if op = [108, 101, 115, 115] then (shunterref02_Of_m N [less]).bind fun r => some (r.1, r.2, 0)
  else if op = [115, 117, 98] then shunterref02_Two_k7 N op rx ry less true else shunterref02_Two_k7 N op rx ry less (op == [115, 117, 98, 115, 97, 116])
theorem l6_loop (N : Nat) (op : List UInt8) (x y : BitVec 128) (m : Nat) (hm : m ≤ 128) : ∀ (k f i : Nat), i + k = m → k < f →
    shunterref02_Two_l5 N op (bitsL m x) (bitsL m y) f (lessI x y i) (sameI x y i) (i : Int) = twoTail N op (bitsL m x) (bitsL m y) (lessI x y m) (sameI x y m) := by
  intro k
  induction k with
  | zero =>
    intro f i hi hf
    obtain ⟨f, rfl⟩ : ∃ k, f = k + 1 := ⟨f - 1, by omega⟩
    obtain rfl : i = m := by omega
    rw [shunterref02_Two_l5, if_neg (by rw [bitsL_len]; omega)]
    rfl
  | succ k ih =>
    intro f i hi hf
    obtain ⟨f, rfl⟩ : ∃ k, f = k + 1 := ⟨f - 1, by omega⟩
    rw [shunterref02_Two_l5, if_pos (by rw [bitsL_len]; omega), ck_pos _ (by rw [bitsL_len]; omega), ck_pos _ (by rw [bitsL_len]; omega), Int.toNat_natCast, bitsL_get, bitsL_get, decide_eq_true (show i < m by omega), Bool.true_and, Bool.true_and]
    have h2 := ih f (i + 1) (by omega) (by omega)
    by_cases h : x.getLsbD i = y.getLsbD i
    · rw [if_neg (fun hn => hn h), ck_pos _ (by omega)]
      obtain ⟨e1, e2⟩ := step_eq h
      rw [e1, e2] at h2; exact h2
    · rw [if_pos h, ck_pos _ (by rw [bitsL_len]; omega), ck_pos _ (by omega)]
      obtain ⟨e1, e2⟩ := step_ne h
      rw [e1, e2] at h2; exact h2
theorem two_s (N : Nat) (hN : 128 < N) (op : List UInt8) (v : Int) (x : BitVec 128) (w : Int) (y : BitVec 128) : shunterref02_Two_m N op v x w y =
    if mayB v x = true ∧ mayB w y = true then (if v = w then twoTail N op (bitsL v.toNat x) (bitsL v.toNat y) (decide (x < y)) (decide (x = y)) else some (0, 0#128, 9)) else some (0, 0#128, 1) := by
  unfold shunterref02_Two_m
  rw [rmay_s, Option.bind_some]
  by_cases hx : mayB v x = true
  · rw [if_pos hx, rmay_s, Option.bind_some]
    by_cases hy : mayB w y = true
    · have hw := may_w hx
      rw [if_pos hy, if_pos ⟨hx, hy⟩]
      unfold shunterref02_Two_k1
      by_cases e : v = w
      · subst e
        rw [if_neg (fun h => h rfl), if_pos rfl, bits_s N v x hN (by omega) (by omega), Option.bind_some, bits_s N v y hN (by omega) (by omega), Option.bind_some]
        have h := l6_loop N op x y v.toNat (by omega) v.toNat N 0 (by omega) (by omega)
        have h0 : lessI x y 0 = false := by simp [lessI, lowN, Nat.mod_one]
        have h1 : sameI x y 0 = true := by simp [sameI, lowN, Nat.mod_one]
        rw [h0, h1] at h
        have e1 : lessI x y v.toNat = decide (x < y) := by unfold lessI; rw [lowN_may hx, lowN_may hy]; exact decide_eq_decide.2 BitVec.lt_def.symm
        have e2 : sameI x y v.toNat = decide (x = y) := by unfold sameI; rw [lowN_may hx, lowN_may hy]; exact decide_eq_decide.2 BitVec.toNat_inj
        rw [e1, e2] at h
        exact h
      · rw [if_pos e, if_neg e, zz]
    · rw [if_neg hy, if_neg (fun h => hy h.2), zz]
  · rw [if_neg hx, if_neg (fun h => hx h.1), zz]
theorem of_one (N : Nat) (hN : 128 < N) (b : Bool) : shunterref02_Of_m N [b] = some (1, if b = true then 1#128 else 0#128) := by
  rw [of_s N hN [b] (by simp)]
  cases b <;> rfl
theorem tail_less (N : Nat) (hN : 128 < N) (rx ry : List Bool) (l s : Bool) : twoTail N [108, 101, 115, 115] rx ry l s = some (1, (if l = true then 1#128 else 0#128), 0) := by
  unfold twoTail; rw [if_neg (by decide), if_pos rfl, of_one N hN, Option.bind_some]
instance (x y : It) : Decidable (ltIt x y) := by unfold ltIt; infer_instance
theorem mayI_B (w : Int) (x : BitVec 128) : mayI w x = mayB w x := Option.some.inj ((rmay19_s 0 w x).symm.trans (rmay_s 0 w x))
theorem less19_s {N : Nat} (hN : 128 < N) {a b : It} (ha : mayI a.1 a.2.1 = true) (hb : mayI b.1 b.2.1 = true) : shunterref19_Less_m N a.1 a.2.1 b.1 b.2.1 = some (decide (ltIt a b)) := by
  unfold shunterref19_Less_m
  by_cases h : a.1 = b.1
  · rw [if_neg (by simp [h]), two_s N hN, if_pos ⟨mayI_B _ _ ▸ ha, mayI_B _ _ ▸ hb⟩, if_pos h, tail_less N hN, Option.bind_some]
    congr 1
    by_cases hl : a.2.1 < b.2.1
    · have : ltIt a b := .inr ⟨h, hl⟩
      rw [decide_eq_true this, decide_eq_true hl]; rfl
    · have : ¬ ltIt a b := fun e => by
        rcases e with e | ⟨_, e⟩
        · omega
        · exact hl e
      rw [decide_eq_false this, decide_eq_false hl]; rfl
  · rw [if_pos (by simpa using h)]
    congr 1
    refine decide_eq_decide.2 ⟨fun e => .inl e, fun e => ?_⟩
    rcases e with e | ⟨e, _⟩
    · exact e
    · exact absurd e h
end Go.Proofs.Ytnpbpllibmcokaa
