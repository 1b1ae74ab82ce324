/- What the model of WordBack answers. Conditions: none. -/
import Derived.Test.YtadofkoenljikaaLWordBack
namespace Go.Proofs.Ytadofkoenljikaa
open Go Go.RowKit Go.Eng
theorem textL_len (b : Nat) : ∀ (k n : Nat), (textL b k n).length ≤ k
  | 0, _ => Nat.le_refl _
  | k + 1, n => by
    unfold textL
    split
    · simp
    · have := textL_len b k (n / b)
      simp only [List.length_append, List.length_singleton]; omega
theorem dch_all : ∀ d : Nat, d < 16 → dig (dch d) = d := by decide +kernel
theorem numL_app (b : Nat) (l k : List UInt8) (n : Nat) : numL b (l ++ k) n = numL b k (numL b l n) := by unfold numL; rw [List.foldl_append]
theorem textL_num (b : Nat) (h1 : 2 ≤ b) (h2 : b ≤ 16) : ∀ (k n : Nat), 1 ≤ k → n < 2 ^ k → numL b (textL b k n) 0 = n ∧ (textL b k n).all (fun c => decide (dig c < b)) = true ∧ textL b k n ≠ []
  | 0, _, h, _ => by omega
  | k + 1, n, _, hn => by
    have hr : n % b < b := Nat.mod_lt _ (by omega)
    have hd := dch_all (n % b) (by omega)
    unfold textL
    by_cases h : n / b = 0
    · rw [if_pos h]
      have h3 := Nat.div_add_mod n b
      rw [h, Nat.mul_zero, Nat.zero_add] at h3
      refine ⟨?_, ?_, by simp⟩
      · show 0 * b + dig (dch (n % b)) = n
        rw [hd]; omega
      · simp only [List.all_cons, List.all_nil, Bool.and_true, decide_eq_true_eq]; omega
    · rw [if_neg h]
      have hlt : n / b < 2 ^ k := by
        rw [Nat.div_lt_iff_lt_mul (by omega)]
        calc n < 2 ^ (k + 1) := hn
          _ = 2 ^ k * 2 := Nat.pow_succ ..
          _ ≤ 2 ^ k * b := Nat.mul_le_mul_left _ h1
      have hk : 1 ≤ k := by
        rcases Nat.eq_zero_or_pos k with h3 | h3
        · rw [h3, Nat.pow_zero] at hlt; exact absurd (Nat.lt_one_iff.1 hlt) h
        · exact h3
      obtain ⟨i1, i2, _⟩ := textL_num b h1 h2 k (n / b) hk hlt
      refine ⟨?_, ?_, by simp⟩
      · rw [numL_app, i1]
        show n / b * b + dig (dch (n % b)) = n
        rw [hd]; exact Nat.div_add_mod' n b
      · rw [List.all_append, i2]
        simp only [List.all_cons, List.all_nil, Bool.and_true, Bool.true_and, decide_eq_true_eq]; omega
theorem parse_text (b : Nat) (h1 : 2 ≤ b) (h2 : b ≤ 16) (x : BitVec 128) : parseR (textI (b : Int) x) (b : Int) = (x, 0) := by
  unfold textI
  rw [if_pos (by omega), Int.toNat_natCast]
  obtain ⟨i1, i2, i3⟩ := textL_num b h1 h2 128 x.toNat (by omega) x.isLt
  unfold parseR
  rw [if_neg (by omega), if_neg i3, Int.toNat_natCast]
  unfold parseS
  have hx := x.isLt
  rw [if_pos i2, i1, if_neg (by omega), BitVec.ofNat_toNat, BitVec.setWidth_eq]

def up (c : UInt8) : UInt8 := if ((c.toNat : Nat) : Int) ≥ 97 then c - 32 else c
theorem up_all : ∀ n : Nat, n < 256 → dig (UInt8.ofNat n) < 16 → dig (up (UInt8.ofNat n)) = dig (UInt8.ofNat n) := by decide +kernel
theorem up_dig (c : UInt8) (h : dig c < 16) : dig (up c) = dig c := by
  have := up_all c.toNat c.toNat_lt
  rw [UInt8.ofNat_toNat] at this
  exact this h
theorem numL_up (b : Nat) (hb : b ≤ 16) : ∀ (l : List UInt8) (n : Nat), l.all (fun c => decide (dig c < b)) = true → numL b (l.map up) n = numL b l n ∧ (l.map up).all (fun c => decide (dig c < b)) = true
  | [], _, _ => ⟨rfl, rfl⟩
  | c :: l, n, h => by
    simp only [List.all_cons, Bool.and_eq_true, decide_eq_true_eq] at h
    have hc := up_dig c (by omega)
    obtain ⟨i1, i2⟩ := numL_up b hb l (n * b + dig c) h.2
    constructor
    · show numL b (l.map up) (n * b + dig (up c)) = numL b l (n * b + dig c)
      rw [hc]; exact i1
    · simp only [List.map_cons, List.all_cons, Bool.and_eq_true, decide_eq_true_eq]
      exact ⟨by omega, i2⟩
theorem dch_nz : ∀ d : Nat, d < 16 → d ≠ 0 → dch d ≠ 48 := by decide +kernel
theorem textL_head (b : Nat) (h1 : 2 ≤ b) (h2 : b ≤ 16) : ∀ (k n : Nat), n ≠ 0 → n < 2 ^ k → ∃ c l, textL b k n = c :: l ∧ c ≠ 48
  | 0, n, h, hn => by rw [Nat.pow_zero] at hn; omega
  | k + 1, n, h, hn => by
    have hr : n % b < b := Nat.mod_lt _ (by omega)
    unfold textL
    by_cases hd : n / b = 0
    · rw [if_pos hd]
      have h3 := Nat.div_add_mod n b
      rw [hd, Nat.mul_zero, Nat.zero_add] at h3
      exact ⟨_, _, rfl, dch_nz _ (by omega) (by omega)⟩
    · rw [if_neg hd]
      have hlt : n / b < 2 ^ k := by
        rw [Nat.div_lt_iff_lt_mul (by omega)]
        calc n < 2 ^ (k + 1) := hn
          _ = 2 ^ k * 2 := Nat.pow_succ ..
          _ ≤ 2 ^ k * b := Nat.mul_le_mul_left _ h1
      obtain ⟨c, l, e, hc⟩ := textL_head b h1 h2 k (n / b) hd hlt
      exact ⟨c, l ++ [dch (n % b)], by rw [e]; rfl, hc⟩
theorem textL_first (b : Nat) (h1 : 2 ≤ b) (h2 : b ≤ 16) (n : Nat) (hn : n < 2 ^ 128) : (textL b 128 n).length = 1 ∨ ∃ c l, textL b 128 n = c :: l ∧ c ≠ 48 := by
  by_cases h : n = 0
  · subst h; left; unfold textL; rw [if_pos (Nat.zero_div b)]; rfl
  · exact .inr (textL_head b h1 h2 128 n h hn)
theorem parseR_of {b : Nat} (h1 : 2 ≤ b) (h2 : b ≤ 16) {s : List UInt8} (hne : s ≠ []) (hall : s.all (fun c => decide (dig c < b)) = true) : parseR s (b : Int) = if 2 ^ 128 ≤ numL b s 0 then (0#128, 7) else (BitVec.ofNat 128 (numL b s 0), 0) := by
  unfold parseR
  rw [if_neg (by omega), if_neg hne, Int.toNat_natCast]
  unfold parseS
  rw [if_pos hall]
theorem lives_s (N : Nat) : shunterlaw01_lives_m N = some true := by kernel_rfl
theorem back_loop (N : Nat) (x : BitVec 128) (base : Int) (t : List UInt8) (ht : t.length ≤ 200) : ∀ (k f i : Nat), i + k = t.length → k < f →
    shunterlaw01_WordBack_l5 N x base f ((t.take i).map up ++ t.drop i) (i : Int) = shunterlaw01_WordBack_l5 N x base 1 (t.map up) (t.length : Int) := by
  intro k
  induction k with
  | zero =>
    intro f i hi hf
    obtain rfl : i = t.length := by omega
    obtain ⟨f, rfl⟩ : ∃ g, f = g + 1 := ⟨f - 1, by omega⟩
    rw [List.take_length, List.drop_length, List.append_nil]
    have hz : ¬ ((t.length : Int) < ((t.map up).length : Int)) := by rw [List.length_map]; omega
    rw [shunterlaw01_WordBack_l5, if_neg hz, shunterlaw01_WordBack_l5, if_neg hz]
  | succ k ih =>
    intro f i hi hf
    obtain ⟨f, rfl⟩ : ∃ g, f = g + 1 := ⟨f - 1, by omega⟩
    have hlt : i < t.length := by omega
    have hl : ((t.take i).map up ++ t.drop i).length = t.length := by simp only [List.length_append, List.length_map, List.length_take, List.length_drop]; omega
    have ed : t.drop i = t[i] :: t.drop (i + 1) := List.drop_eq_getElem_cons hlt
    have hm : ((t.take i).map up).length = i := by simp only [List.length_map, List.length_take]; omega
    have eg : ((t.take i).map up ++ t.drop i)[((i : Nat) : Int).toNat]! = t[i] := by
      rw [Int.toNat_natCast, ed, List.getElem!_eq_getElem?_getD, List.getElem?_append_right (by omega), hm, Nat.sub_self]; rfl
    have en : (t.take (i + 1)).map up ++ t.drop (i + 1) = (t.take i).map up ++ up t[i] :: t.drop (i + 1) := by
      rw [List.take_succ_eq_append_getElem hlt, List.map_append, List.append_assoc]; rfl
    have nx := ih f (i + 1) (by omega) (by omega)
    rw [en, show (((i + 1 : Nat)) : Int) = (i : Int) + 1 from by omega] at nx
    rw [shunterlaw01_WordBack_l5, hl, if_pos (by omega), ck_pos _ (by omega), eg]
    by_cases hc : ((t[i].toNat : Nat) : Int) ≥ 97
    · rw [if_pos hc, ck_pos _ (by omega), ck_pos _ (by omega), ck_pos _ (by omega)]
      have eu : up t[i] = t[i] - 32 := if_pos hc
      rw [Int.toNat_natCast, ed, List.set_append_right _ _ (by omega), hm, Nat.sub_self, List.set_cons_zero, ← eu]
      exact nx
    · rw [if_neg hc, ck_pos _ (by omega)]
      have eu : up t[i] = t[i] := if_neg hc
      rw [ed, ← eu]
      rw [eu] at nx ⊢
      exact nx
theorem back_s (N : Nat) (hN : 200 < N) (x : BitVec 128) (base : Int) : shunterlaw01_WordBack_m N x base = some true := by
  unfold shunterlaw01_WordBack_m shunterlaw01_WordBack_k2
  by_cases hb : 2 ≤ base ∧ base ≤ 16
  · obtain ⟨b, rfl⟩ : ∃ b : Nat, base = (b : Int) := ⟨base.toNat, by omega⟩
    have h1 : 2 ≤ b := by omega
    have h2 : b ≤ 16 := by omega
    have et : ∀ y : BitVec 128, textI (b : Int) y = textL b 128 y.toNat := fun y => by unfold textI; rw [if_pos hb, Int.toNat_natCast]
    have hlen : ∀ y : BitVec 128, (textI (b : Int) y).length ≤ 128 := fun y => by rw [et]; exact textL_len _ _ _
    have hl := hlen x
    rw [if_neg (by omega), if_neg (by simp; omega), ck_pos _ (by omega), ck_pos _ (by simp only [List.length_cons, List.length_nil]; omega), ck_pos _ (by simp only [List.length_append, List.length_cons, List.length_nil]; omega)]
    have lp := back_loop N x (b : Int) (textI (b : Int) x) (by omega) (textI (b : Int) x).length N 0 (by omega) (by omega)
    simp only [List.take_zero, List.map_nil, List.nil_append, List.drop_zero] at lp
    refine lp.trans ?_
    obtain ⟨n1, n2, n3⟩ := textL_num b h1 h2 128 x.toNat (by omega) x.isLt
    obtain ⟨o1, o2, o3⟩ := textL_num b h1 h2 128 (~~~((0#64) ++ (0#64)) : BitVec 128).toNat (by omega) (BitVec.isLt _)
    obtain ⟨u1, u2⟩ := numL_up b h2 (textL b 128 x.toNat) 0 n2
    have hx := x.isLt
    have back : BitVec.ofNat 128 x.toNat = x := by rw [BitVec.ofNat_toNat, BitVec.setWidth_eq]
    have p1 : parseR (textI (b : Int) x) (b : Int) = (x, 0) := parse_text b h1 h2 x
    have p2 : parseR (([48, 48] : List UInt8) ++ textI (b : Int) x) (b : Int) = (x, 0) := by
      rw [et, parseR_of h1 h2 (by simp) (by simp only [List.cons_append, List.nil_append, List.all_cons, n2, Bool.and_true, Bool.and_eq_true, decide_eq_true_eq]; exact ⟨Nat.lt_of_lt_of_le (by decide : dig 48 < 2) h1, Nat.lt_of_lt_of_le (by decide : dig 48 < 2) h1⟩)]
      have e : numL b (([48, 48] : List UInt8) ++ textL b 128 x.toNat) 0 = x.toNat := by
        rw [numL_app]
        have : numL b [48, 48] 0 = 0 := by
          show (0 * b + dig 48) * b + dig 48 = 0
          rw [show dig 48 = 0 from by decide]; simp
        rw [this, n1]
      rw [e, if_neg (by omega), back]
    have p3 : parseR ((textI (b : Int) x).map up) (b : Int) = (x, 0) := by
      rw [et, parseR_of h1 h2 (by simpa using n3) u2, u1, n1, if_neg (by omega), back]
    have p4 : parseR (textI (b : Int) (~~~((0#64) ++ (0#64))) ++ ([48] : List UInt8)) (b : Int) = (0#128, 7) := by
      rw [et, parseR_of h1 h2 (by simp) (by rw [List.all_append, o2]; simp only [List.all_cons, List.all_nil, Bool.and_true, Bool.true_and, decide_eq_true_eq]; exact Nat.lt_of_lt_of_le (by decide : dig 48 < 2) h1)]
      rw [numL_app, o1, if_pos ?_]
      show 2 ^ 128 ≤ (~~~((0#64) ++ (0#64)) : BitVec 128).toNat * b + dig 48
      have e1 : (~~~((0#64) ++ (0#64)) : BitVec 128).toNat = 2 ^ 128 - 1 := by decide
      have e2 : (2 ^ 128 - 1) * 2 ≤ (2 ^ 128 - 1) * b := Nat.mul_le_mul_left _ h1
      rw [e1]; omega
    have ho := hlen (~~~((0#64) ++ (0#64)))
    rw [shunterlaw01_WordBack_l5, if_neg (show ¬ (((textI (b : Int) x).length : Int) < (((textI (b : Int) x).map up).length : Int)) by rw [List.length_map]; omega), ck_pos _ (by rw [List.length_map]; omega), ck_pos _ (by simp only [List.length_cons, List.length_nil]; omega), ck_pos _ (by simp only [List.length_append, List.length_cons, List.length_nil]; omega)]
    rw [if_neg (show ¬ textI (b : Int) x = [] by rw [et]; exact n3), p1, p2, p3, p4]
    simp only [if_true, lives_s, Option.bind_some]
    rcases textL_first b h1 h2 x.toNat hx with hf | ⟨c, l, hf, hc⟩
    · rw [if_pos (show ((textI (b : Int) x).length : Int) = 1 by rw [et]; omega)]
    · split
      · rfl
      · rw [et, hf]
        rw [ck_pos _ (by simp only [List.length_cons]; omega), if_pos ?_]
        show ¬ ((c.toNat : Nat) : Int) = 48
        intro h
        exact hc (UInt8.toNat_inj.1 (by show c.toNat = 48; omega))
  · have et : textI base x = [] := if_neg hb
    by_cases h : base < 2
    · rw [if_pos h, if_pos rfl, if_pos et, lives_s]; rfl
    · rw [if_neg h, if_pos (by simp; omega), if_pos et, lives_s]; rfl
end Go.Proofs.Ytadofkoenljikaa
