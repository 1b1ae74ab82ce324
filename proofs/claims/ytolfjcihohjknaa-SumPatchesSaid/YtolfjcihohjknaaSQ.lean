/- The program's layer 4: the models' answers. Conditions: none. -/
import Derived.Test.YtolfjcihohjknaaSR
namespace Go.Proofs.Ytolfjcihohjknaa
open Go Go.RowKit Go.Eng
theorem word_n (h l : UInt8) : ((BitVec.ofNat 64 h.toNat <<< 8) ||| BitVec.ofNat 64 l.toNat).toNat = 256 * h.toNat + l.toNat := by
  have h1 := h.toNat_lt; have h2 := l.toNat_lt
  have e1 : (BitVec.ofNat 64 h.toNat <<< 8).toNat = 2 ^ 8 * h.toNat := by
    rw [BitVec.toNat_shiftLeft, BitVec.toNat_ofNat, Nat.shiftLeft_eq]; omega
  have e2 : (BitVec.ofNat 64 l.toNat).toNat = l.toNat := by rw [BitVec.toNat_ofNat]; omega
  rw [BitVec.toNat_or, e1, e2, ← Nat.two_pow_add_eq_or_of_lt (by omega) h.toNat]
theorem word_s (N : Nat) (h l : UInt8) : ∃ j : BitVec 64, sum_word_m N h l = some j ∧ j.toNat = 256 * h.toNat + l.toNat := ⟨_, rfl, word_n h l⟩
theorem n16 (t : UInt16) : (BitVec.ofNat 64 t.toNat).toNat = t.toNat := by have := t.toNat_lt; rw [BitVec.toNat_ofNat]; omega
theorem fold_loop : ∀ (f : Nat) (n : BitVec 64), n.toNat < 65536 + 65535 * f → ∃ z : UInt16, sum_fold_l2 (f + 1) n = some z ∧ z.toNat = foldN n.toNat := by
  intro f
  induction f with
  | zero =>
    intro n h
    have hn : ¬ (65535#64) < n := by intro h'; have := BitVec.lt_def.mp h'; have e : (65535#64).toNat = 65535 := rfl; omega
    refine ⟨wrd16 n, by rw [sum_fold_l2, if_neg hn], ?_⟩
    unfold wrd16; rw [UInt16.toNat_ofNat', foldN_id (by omega)]; omega
  | succ f ih =>
    intro n h
    have e : (65535#64).toNat = 65535 := rfl
    by_cases hn : (65535#64) < n
    · have hn' := BitVec.lt_def.mp hn
      have hlt := n.isLt
      have e1 : (n >>> 16).toNat = n.toNat / 65536 := by rw [BitVec.toNat_ushiftRight, Nat.shiftRight_eq_div_pow]
      have e2 : (n &&& 65535#64).toNat = n.toNat % 65536 := by
        rw [BitVec.toNat_and, e]
        exact Nat.and_two_pow_sub_one_eq_mod n.toNat 16
      have e3 : (n >>> 16 + (n &&& 65535#64)).toNat = n.toNat / 65536 + n.toNat % 65536 := by rw [BitVec.toNat_add, e1, e2]; omega
      obtain ⟨z, hz, hzn⟩ := ih (n >>> 16 + (n &&& 65535#64)) (by rw [e3]; omega)
      refine ⟨z, by rw [sum_fold_l2, if_pos hn, hz], ?_⟩
      rw [hzn, e3, foldN_step (by omega)]
    · have hn' : n.toNat ≤ 65535 := by
        have := mt BitVec.lt_def.mpr hn; omega
      refine ⟨wrd16 n, by rw [sum_fold_l2, if_neg hn], ?_⟩
      unfold wrd16; rw [UInt16.toNat_ofNat', foldN_id hn']; omega
theorem fold_s (N : Nat) (n : BitVec 64) (h : n.toNat + 65535 < 65536 + 65535 * N) (h0 : 0 < N) : ∃ z : UInt16, sum_fold_m N n = some z ∧ z.toNat = foldN n.toNat := by
  obtain ⟨f, rfl⟩ : ∃ m, N = m + 1 := ⟨N - 1, by omega⟩
  exact fold_loop f n (by omega)
/-- an adder behind some bytes -/
def AdOk (t : UInt16) (h : UInt8) (w : Bool) (c : List UInt8) : Prop := w = decide (c.length % 2 = 1) ∧ foldN (t.toNat + 256 * h.toNat) = foldN (psum true c) ∧ (w = false → h = 0)
theorem adOk_nil : AdOk 0 0 false [] := ⟨rfl, rfl, fun _ => rfl⟩
theorem keep_s (N : Nat) (t : UInt16) (h : UInt8) (w : Bool) (rest : List UInt8) : sum_Adder_keep_v1_m N t h w rest = some (t, (match rest with | [] => 0 | x :: _ => x), decide (0 < rest.length)) := by
  unfold sum_Adder_keep_v1_m
  cases rest with
  | nil => rfl
  | cons x r =>
    have e : ((x :: r).length : Int) > 0 := by rw [List.length_cons]; omega
    rw [if_pos e, ck_pos _ (by omega), decide_eq_true e]
    rfl
theorem psum_last (b : List UInt8) (h : b.length % 2 = 1) (j : Nat) (hj : j = b.length / 2 * 2) : b.drop j = [b[j]!] := by
  subst hj
  rw [drop_cons b _ (by omega), List.drop_of_length_le (by omega)]
theorem add_loop (N : Nat) (b : List UInt8) (hb : b.length ≤ 100000) (h0 : 0 < b.length) (hN : b.length / 2 + 1 < N) (h : UInt8) (w : Bool) : ∀ (k f i : Nat) (n : BitVec 64), i + k = b.length / 2 → k < f → n.toNat ≤ 131070 + 65535 * i →
    ∃ r, sum_Adder_Add_v1_l7 N h w b f n (i : Int) = some r ∧ r.2.2 = decide (b.length % 2 = 1) ∧ (r.2.2 = false → r.2.1 = 0) ∧ foldN (r.1.toNat + 256 * r.2.1.toNat) = foldN (n.toNat + psum true (b.drop (2 * i))) := by
  intro k
  induction k with
  | zero =>
    intro f i n hi hf hn
    obtain ⟨f, rfl⟩ : ∃ n, f = n + 1 := ⟨f - 1, by omega⟩
    obtain ⟨z, hz, hzn⟩ := fold_s N n (by omega) (by omega)
    have ej : ((b.length : Int) / 2 * 2).toNat = b.length / 2 * 2 := by omega
    rw [sum_Adder_Add_v1_l7, if_neg (by omega), hz, Option.bind_some, ck_pos _ (by omega), ck_pos _ (by omega), ck_pos _ (by omega), ej, List.take_length, keep_s, Option.bind_some]
    refine ⟨_, rfl, ?_⟩
    by_cases ho : b.length % 2 = 1
    · have hd := psum_last b ho _ rfl
      have e2 : 2 * i = b.length / 2 * 2 := by omega
      rw [e2, hd]
      refine ⟨by rw [decide_eq_true ho]; rfl, fun h' => (nomatch h'), ?_⟩
      show foldN (z.toNat + 256 * (b[b.length / 2 * 2]!).toNat) = _
      rw [hzn, foldN_addL]; rfl
    · have hd : b.drop (b.length / 2 * 2) = [] := List.drop_of_length_le (by omega)
      have e2 : 2 * i = b.length / 2 * 2 := by omega
      rw [e2, hd]
      refine ⟨by rw [decide_eq_false ho]; rfl, fun _ => rfl, ?_⟩
      show foldN (z.toNat + 0) = _
      rw [hzn, foldN_addL]; rfl
  | succ k ih =>
    intro f i n hi hf hn
    obtain ⟨f, rfl⟩ : ∃ n, f = n + 1 := ⟨f - 1, by omega⟩
    have e1 : (i : Int) + 1 = ((i + 1 : Nat) : Int) := by omega
    have e2 : (2 * (i : Int)).toNat = 2 * i := by omega
    have e3 : (2 * (i : Int) + 1).toNat = 2 * i + 1 := by omega
    obtain ⟨j, hj, hjn⟩ := word_s N (b[2 * i]!) (b[2 * i + 1]!)
    have hx := (b[2 * i]!).toNat_lt; have hy := (b[2 * i + 1]!).toNat_lt
    have e4 : (n + j).toNat = n.toNat + j.toNat := by rw [BitVec.toNat_add]; omega
    rw [sum_Adder_Add_v1_l7, if_pos (by omega), ck_pos _ (by omega), ck_pos _ (by omega), ck_pos _ (by omega), ck_pos _ (by omega), ck_pos _ (by omega), e2, e3, hj, Option.bind_some, ck_pos _ (by omega), e1]
    obtain ⟨r, h1, h2, h3, h4⟩ := ih f (i + 1) (n + j) (by omega) (by omega) (by omega)
    refine ⟨r, h1, h2, h3, ?_⟩
    rw [h4, drop_cons b (2 * i) (by omega), drop_cons b (2 * i + 1) (by omega), psum, psum, e4, hjn]
    simp only [Bool.not_true, Bool.not_false, if_true, Bool.false_eq_true, if_false]
    have e5 : 2 * (i + 1) = 2 * i + 1 + 1 := by omega
    rw [e5]; congr 1; omega
theorem addk_s (N : Nat) (b : List UInt8) (hb : b.length ≤ 100000) (hN : b.length / 2 + 1 < N) (h : UInt8) (w : Bool) (n : BitVec 64) (hn : n.toNat ≤ 131070) :
    ∃ r, sum_Adder_Add_v1_k4 N h w b n = some r ∧ r.2.2 = decide (b.length % 2 = 1) ∧ (r.2.2 = false → r.2.1 = 0) ∧ foldN (r.1.toNat + 256 * r.2.1.toNat) = foldN (n.toNat + psum true b) := by
  unfold sum_Adder_Add_v1_k4
  rw [ck_pos _ (by omega)]
  by_cases h0 : 0 < b.length
  · obtain ⟨r, h1, h2⟩ := add_loop N b hb h0 hN h w (b.length / 2) N 0 n (by omega) (by omega) (by omega)
    exact ⟨r, h1, h2⟩
  · have : b = [] := List.eq_nil_of_length_eq_zero (by omega)
    subst this
    obtain ⟨f, rfl⟩ : ∃ n, N = n + 1 := ⟨N - 1, by omega⟩
    obtain ⟨z, hz, hzn⟩ := fold_s (f + 1) n (by omega) (by omega)
    rw [sum_Adder_Add_v1_l7, if_neg (by decide), hz, Option.bind_some, ck_pos _ (by decide), ck_pos _ (by decide), ck_pos _ (by decide), keep_s, Option.bind_some]
    refine ⟨_, rfl, rfl, fun _ => rfl, ?_⟩
    show foldN (z.toNat + 0) = foldN (n.toNat + 0)
    rw [hzn, foldN_addL]
theorem add_s (N : Nat) (b : List UInt8) (hb : b.length ≤ 100000) (hN : b.length + 2 < N) {t : UInt16} {h : UInt8} {w : Bool} {c : List UInt8} (ho : AdOk t h w c) :
    ∃ r, sum_Adder_Add_v1_m N t h w b = some r ∧ AdOk r.1 r.2.1 r.2.2 (c ++ b) := by
  unfold sum_Adder_Add_v1_m
  have ht := t.toNat_lt; have hh := h.toNat_lt
  by_cases h0 : (b.length : Int) = 0
  · have : b = [] := List.eq_nil_of_length_eq_zero (by omega)
    rw [if_pos h0]; subst this
    exact ⟨_, rfl, by rw [List.append_nil]; exact ho⟩
  rw [if_neg h0, sum_Adder_Add_v1_k1]
  obtain ⟨h1, h2, h3⟩ := ho
  by_cases hw : w = true
  · subst hw
    have hl : c.length % 2 = 1 := of_decide_eq_true h1.symm
    have hd : b = b[0]! :: b.drop 1 := by have := drop_cons b 0 (by omega); rwa [List.drop_zero] at this
    obtain ⟨j, hj, hjn⟩ := word_s N h (b[0]!)
    have hx := (b[0]!).toNat_lt
    have e0 : ((0 : Int)).toNat = 0 := rfl
    have e1 : ((1 : Int)).toNat = 1 := rfl
    have e4 : (BitVec.ofNat 64 t.toNat + j).toNat = t.toNat + j.toNat := by rw [BitVec.toNat_add, n16]; omega
    obtain ⟨r, g1, g2, g3, g4⟩ := addk_s N (b.drop 1) (by rw [List.length_drop]; omega) (by rw [List.length_drop]; omega) h true (BitVec.ofNat 64 t.toNat + j) (by omega)
    rw [if_pos rfl, ck_pos _ (by omega), e0, hj, Option.bind_some, ck_pos _ (by omega), List.take_length, e1]
    refine ⟨r, g1, ?_, ?_, g3⟩
    · rw [g2, List.length_drop, List.length_append]
      apply decide_eq_decide.mpr; omega
    · rw [g4, e4, hjn, psum_app, if_neg (by omega)]
      have e5 : psum (!true) b = (b[0]!).toNat + psum true (b.drop 1) := by
        conv => lhs; rw [hd]
        rw [psum]; rfl
      rw [e5, ← foldN_cong h2]
      congr 1; omega
  · have hw' : w = false := by simpa using hw
    subst hw'
    have hl : ¬ c.length % 2 = 1 := of_decide_eq_false h1.symm
    obtain ⟨r, g1, g2, g3, g4⟩ := addk_s N b hb (by omega) h false (BitVec.ofNat 64 t.toNat) (by rw [n16]; omega)
    have hz := h3 rfl
    subst hz
    rw [if_neg hw]
    refine ⟨r, g1, ?_, ?_, g3⟩
    · rw [g2, List.length_append]
      apply decide_eq_decide.mpr; omega
    · rw [g4, n16, psum_app, if_pos (by omega)]
      exact foldN_cong h2 _
theorem total1_s (N : Nat) {t : UInt16} {h : UInt8} {w : Bool} {c : List UInt8} (ho : AdOk t h w c) (hN : 2 < N := by omega) : ∃ z : UInt16, sum_Adder_Total_v1_m N t h w = some z ∧ z.toNat = foldN (psum true c) := by
  obtain ⟨h1, h2, h3⟩ := ho
  have ht := t.toNat_lt; have hh := h.toNat_lt
  unfold sum_Adder_Total_v1_m
  obtain ⟨j, hj, hjn⟩ := word_s N h 0
  have e0 : (0 : UInt8).toNat = 0 := rfl
  have e4 : (BitVec.ofNat 64 t.toNat + j).toNat = t.toNat + 256 * h.toNat := by rw [BitVec.toNat_add, n16]; omega
  obtain ⟨z, hz, hzn⟩ := fold_s N (BitVec.ofNat 64 t.toNat + j) (by omega) (by omega)
  rw [hj, Option.bind_some, hz]
  exact ⟨z, rfl, by rw [hzn, e4, h2]⟩
theorem asum_s (N : Nat) {t : UInt16} {h : UInt8} {w : Bool} {c : List UInt8} (ho : AdOk t h w c) (hN : 2 < N := by omega) : sum_Adder_Sum_v1_m N t h w = some (csum c) := by
  obtain ⟨z, hz, hn⟩ := total1_s N ho
  rw [sum_Adder_Sum_v1_m, hz, Option.bind_some]
  refine congrArg some ?_
  apply UInt16.toNat_inj.mp
  rw [sub16, csum_n, hn]
theorem of_s (N : Nat) (b : List UInt8) (hb : b.length ≤ 100000) (hN : b.length + 2 < N) : sum_Of_m N b = some (csum b) := by
  obtain ⟨r, hr, ho⟩ := add_s N b hb hN adOk_nil
  rw [sum_Of_m, hr, Option.bind_some, asum_s N ho]; rfl
theorem right_s (N : Nat) (b : List UInt8) (hb : b.length ≤ 100000) (hN : b.length + 2 < N) : sum_Right_m N b = some ((((csum b).toNat : Nat) : Int) == 0) := by
  rw [sum_Right_m, of_s N b hb hN, Option.bind_some]
theorem may_s (N : Nat) (b : List UInt8) (hb : b.length ≤ 100000) (at' : Int) (h63 : at' ≤ 9223372036854775807) : sum_mayPlace_m N b at' = some (placeB b at') := place_s N b hb at' h63
theorem put2_eq (b : List UInt8) (a : Nat) (x y : UInt8) (h : a + 1 < b.length) : put2 b a x y = b.take a ++ x :: y :: b.drop (a + 2) := by
  have e : b.set a x = b.take a ++ x :: b.drop (a + 1) := by rw [List.set_eq_take_append_cons_drop, if_pos (by omega)]
  unfold put2
  rw [e, List.set_append_right _ _ (by rw [List.length_take]; omega)]
  congr 1
  rw [List.length_take, show a + 1 - min a b.length = 1 by omega, drop_cons b (a + 1) (by omega)]
  rfl
theorem without_c (b : List UInt8) (a : Nat) (h : a + 1 < b.length) (he : a % 2 = 0) : csum (b.take a ++ b.drop (a + 2)) = csum (put2 b a 0 0) := by
  unfold csum
  rw [put2_eq b a 0 0 h, psum_app, psum_app, List.length_take, if_pos (by omega), psum, psum]
  congr 2
  have e0 : (0 : UInt8).toNat = 0 := rfl
  rw [e0]
  simp
theorem without_s (N : Nat) (b : List UInt8) (hb : b.length ≤ 100000) (hN : b.length + 2 < N) (at' : Int) (h63 : at' ≤ 9223372036854775807) :
    sum_Without_m N b at' = some (if placeB b at' = true then (csum (put2 b at'.toNat 0 0), true) else (0, false)) := by
  rw [sum_Without_m, may_s N b hb at' h63, Option.bind_some]
  by_cases h : placeB b at' = true
  · obtain ⟨h1, h2, h3⟩ := placeB_t h
    obtain ⟨a, rfl⟩ : ∃ n : Nat, at' = (n : Int) := ⟨at'.toNat, by omega⟩
    have e2 : ((a : Int) + 2).toNat = a + 2 := by omega
    obtain ⟨r, hr, ho⟩ := add_s N (b.take a) (by rw [List.length_take]; omega) (by rw [List.length_take]; omega) adOk_nil
    obtain ⟨q, hq, hp⟩ := add_s N (b.drop (a + 2)) (by rw [List.length_drop]; omega) (by rw [List.length_drop]; omega) ho
    rw [if_pos h, if_pos h, ck_pos _ (by omega), Int.toNat_natCast, List.drop_zero, hr, Option.bind_some, ck_pos _ (by omega), ck_pos _ (by omega), List.take_length, e2, hq, Option.bind_some, asum_s N hp, Option.bind_some, List.nil_append, without_c b a (by omega) (by omega)]
  · rw [if_neg h, if_neg h]
theorem fix_s (N : Nat) (b : List UInt8) (hb : b.length ≤ 100000) (hN : b.length + 2 < N) (at' : Int) (h63 : at' ≤ 9223372036854775807) :
    ∃ x y : UInt8, sum_Fix_m N b at' = some (if placeB b at' = true then (put2 b at'.toNat x y, true) else ([], false)) ∧ (placeB b at' = true → x.toNat = (csum (put2 b at'.toNat 0 0)).toNat / 256 ∧ y.toNat = (csum (put2 b at'.toNat 0 0)).toNat % 256) := by
  rw [sum_Fix_m, without_s N b hb hN at' h63, Option.bind_some]
  by_cases h : placeB b at' = true
  · obtain ⟨h1, h2, h3⟩ := placeB_t h
    refine ⟨_, _, ?_, fun _ => split16 _⟩
    have e : (at' + 1).toNat = at'.toNat + 1 := by omega
    simp only [if_pos h]
    rw [if_pos trivial, ck_pos _ (by simp only [List.length_nil]; omega), List.nil_append, ck_pos _ (by omega), ck_pos _ (by decide), ck_pos _ (by omega), ck_pos _ (by rw [List.length_set]; omega), e]
    rfl
  · refine ⟨0, 0, ?_, fun h' => absurd h' h⟩
    simp only [if_neg h]
    rfl
theorem patch_s (N : Nat) (s o f : UInt16) (hN : 4 < N := by omega) : ∃ z : UInt16, sum_Patch_m N s o f = some z ∧ z.toNat = 65535 - foldN ((65535 - s.toNat) + (65535 - o.toNat) + f.toNat) := by
  have hs := s.toNat_lt; have ho := o.toNat_lt; have hf := f.toNat_lt
  have e : ((BitVec.ofNat 64 ((65535 : UInt16) - s).toNat + BitVec.ofNat 64 ((65535 : UInt16) - o).toNat) + BitVec.ofNat 64 f.toNat).toNat = (65535 - s.toNat) + (65535 - o.toNat) + f.toNat := by
    rw [BitVec.toNat_add, BitVec.toNat_add, n16, n16, n16, sub16, sub16]; omega
  obtain ⟨y, hy, hyn⟩ := fold_s N ((BitVec.ofNat 64 ((65535 : UInt16) - s).toNat + BitVec.ofNat 64 ((65535 : UInt16) - o).toNat) + BitVec.ofNat 64 f.toNat) (by omega) (by omega)
  refine ⟨65535 - y, by rw [sum_Patch_m, hy]; rfl, ?_⟩
  rw [sub16, hyn, e]
theorem lives4_s (N : Nat) (hN : 10 < N) : shunterlaw04_lives_m N = some true := by
  rw [shunterlaw04_lives_m, of_s N _ (by decide) (by simp only [List.length_cons, List.length_nil]; omega), Option.bind_some]
  have : (csum [69, 0, 0, 28]).toNat = 47843 := by rw [csum_n]; decide
  rw [this]; rfl
end Go.Proofs.Ytolfjcihohjknaa
