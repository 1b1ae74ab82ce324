/- What the models of rows' texts come to. Conditions: none but those written. -/
import Derived.Test.YtomcfndpnnjihaaDoorLVecTexts
namespace Go.Proofs.YtomcfndpnnjihaaDoor
open Go Go.RowKit Go.Eng
theorem textL_len (b : Nat) : ∀ (k n : Nat), (textL b k n).length ≤ k
  | 0, _ => Nat.le_refl _
  | k + 1, n => by
    unfold textL
    split
    · simp
    · have := textL_len b k (n / b)
      simp only [List.length_append, List.length_singleton]; omega
theorem textI_len (b : Int) (x : BitVec 128) : (textI b x).length ≤ 128 := by
  unfold textI
  split
  · exact textL_len _ _ _
  · simp
theorem itoa_all : ∀ n : Nat, n ≤ 128 → Lib.itoa (n : Int) = textL 10 128 n ∧ (Lib.itoa (n : Int)).length ≤ 3 := by decide +kernel
theorem itoa_w {w : Int} (h1 : 1 ≤ w) (h2 : w ≤ 128) : Lib.itoa w = textI 10 (zx (BitVec.ofInt 64 w)) ∧ (Lib.itoa w).length ≤ 3 := by
  obtain ⟨n, rfl⟩ : ∃ n : Nat, w = (n : Int) := ⟨w.toNat, by omega⟩
  obtain ⟨h3, h4⟩ := itoa_all n (by omega)
  refine ⟨?_, h4⟩
  rw [h3]
  unfold textI
  rw [if_pos (by decide), smalln n (by omega), BitVec.toNat_ofNat, Nat.mod_eq_of_lt (by omega)]
  rfl
/-- A row's text. -/
def textV (w : Int) (x : BitVec 128) : List UInt8 := if mayB w x = true then Lib.itoa w ++ [39] ++ textI 16 x else []
theorem vtext_s (N : Nat) (w : Int) (x : BitVec 128) : vec_TextI_m N w x = some (textV w x) := by
  unfold vec_TextI_m textV
  rw [vmay_s, Option.bind_some]
  by_cases h : mayB w x = true
  · obtain ⟨h1, h2, _⟩ := may_w h
    have h3 := (itoa_w h1 h2).2
    have h4 := textI_len 16 x
    rw [if_pos h, if_pos h, ck_pos _ (by omega), ck_pos _ (by simp only [List.length_singleton]; omega)]
    unfold vec_Word_m
    rw [Option.bind_some]
    try rw [hi_lo]
    rw [ck_pos _ (by simp only [List.length_append, List.length_singleton]; omega)]
  · rw [if_neg h, if_neg h]
theorem rtextv_s (N : Nat) (w : Int) (x : BitVec 128) : shunterref02_Text_m N w x = some (textV w x) := by
  unfold shunterref02_Text_m textV
  rw [rmay_s, Option.bind_some]
  by_cases h : mayB w x = true
  · obtain ⟨h1, h2, _⟩ := may_w h
    obtain ⟨h5, h3⟩ := itoa_w h1 h2
    have h4 := textI_len 16 x
    have e : (0#64 ++ BitVec.ofInt 64 w : BitVec 128) = zx (BitVec.ofInt 64 w) := rfl
    rw [if_pos h, if_pos h, hi_lo, e, ← h5, ck_pos _ (by decide), ck_pos _ (by simp only [List.length_singleton]; omega), ck_pos _ (by decide), ck_pos _ (by simp only [List.length_append, List.length_singleton]; omega)]
  · rw [if_neg h, if_neg h]
/-! ### The mark's place -/
def apos : List UInt8 → Nat
  | [] => 0
  | c :: l => if c = 39 then 0 else apos l + 1
theorem apos_le : ∀ s : List UInt8, apos s ≤ s.length
  | [] => Nat.le_refl _
  | c :: l => by
    unfold apos
    have := apos_le l
    split
    · omega
    · simp only [List.length_cons]; omega
theorem index_apos : ∀ s : List UInt8, Lib.index s [39] = if apos s < s.length then (apos s : Int) else -1
  | [] => rfl
  | c :: l => by
    unfold Lib.index apos
    have ih := index_apos l
    by_cases h : c = 39
    · subst h; simp
    · have hp : List.isPrefixOf [39] (c :: l) = false := by
        simp only [List.isPrefixOf, Bool.and_true]
        exact beq_eq_false_iff_ne.2 (Ne.symm h)
      rw [hp, if_neg (by decide), ih, if_neg h]
      by_cases h2 : apos l < l.length
      · have e : (((apos l : Nat) : Int) == -1) = false := beq_eq_false_iff_ne.2 (by omega)
        rw [if_pos h2, e, if_neg (by decide), if_pos (show apos l + 1 < (c :: l).length by simp only [List.length_cons]; omega)]
        omega
      · rw [if_neg h2, if_pos (show ((-1 : Int) == -1) = true by decide), if_neg (show ¬ apos l + 1 < (c :: l).length by simp only [List.length_cons]; omega)]
theorem cut_apos (s : List UInt8) : Lib.cut s [39] = if apos s < s.length then (s.take (apos s), s.drop (apos s + 1), true) else (s, [], false) := by
  unfold Lib.cut
  rw [index_apos]
  by_cases h : apos s < s.length
  · rw [if_pos h, if_pos h, if_pos (by omega), Int.toNat_natCast]; rfl
  · rw [if_neg h, if_neg h, if_neg (by decide)]
theorem ref_loop (s : List UInt8) (hs : s.length ≤ 4611686018427387904) : ∀ (f i : Nat), i ≤ s.length → s.length - i < f → shunterref02_Parse_l12 s f (i : Int) = shunterref02_Parse_k2 s ((i + apos (s.drop i) : Nat) : Int) := by
  intro f
  induction f with
  | zero => intro i _ h; omega
  | succ f ih =>
    intro i hi hf
    rw [shunterref02_Parse_l12]
    by_cases hlt : i < s.length
    · have e : s.drop i = s[i] :: s.drop (i + 1) := List.drop_eq_getElem_cons hlt
      rw [if_pos (by omega), ck_pos _ (by omega), byteAt_get hlt, e]
      unfold apos
      by_cases h : s[i] = 39
      · rw [if_neg (by rw [h]; decide), if_pos h]; rfl
      · have h' : ¬ ((s[i].toNat : Nat) : Int) = 39 := fun hh => h (UInt8.toNat_inj.1 (by show s[i].toNat = 39; omega))
        rw [if_pos h', if_neg h, ck_pos _ (by omega)]
        have := ih (i + 1) (by omega) (by omega)
        rw [show (((i + 1 : Nat)) : Int) = (i : Int) + 1 from by omega] at this
        rw [this]
        congr 2
        omega
    · have : s.drop i = [] := List.drop_eq_nil_of_le (by omega)
      rw [if_neg (by omega), this]
      rfl
/-! ### Parsing -/
theorem parseR_err (s : List UInt8) (b : Int) (h : 2 ≤ b ∧ b ≤ 16) : (parseR s b).2 = 0 ∨ (parseR s b = (0#128, 3)) ∨ (parseR s b = (0#128, 4)) ∨ (parseR s b = (0#128, 7)) := by
  unfold parseR
  rw [if_neg (by omega)]
  split
  · exact .inr (.inl rfl)
  · unfold parseS
    split
    · split
      · exact .inr (.inr (.inr rfl))
      · exact .inl rfl
    · exact .inr (.inr (.inl rfl))
theorem numL_lt {b : Nat} : ∀ (l : List UInt8) (n : Nat), l.all (fun c => decide (dig c < b)) = true → numL b l n < (n + 1) * b ^ l.length
  | [], n, _ => by simp [numL]
  | c :: l, n, h => by
    simp only [List.all_cons, Bool.and_eq_true, decide_eq_true_eq] at h
    have ih := numL_lt l (n * b + dig c) h.2
    show numL b l (n * b + dig c) < _
    have h2 : (n * b + dig c + 1) * b ^ l.length ≤ (n * b + b) * b ^ l.length := Nat.mul_le_mul_right _ (by omega)
    have h3 : (n + 1) * b ^ (l.length + 1) = (n * b + b) * b ^ l.length := by
      rw [Nat.pow_succ, Nat.mul_comm (b ^ l.length) b, ← Nat.mul_assoc, Nat.add_mul, Nat.one_mul]
    simp only [List.length_cons]
    omega
theorem parseR_small {s : List UInt8} (h3 : s.length ≤ 3) : (parseR s 10).1.toNat < 1000 := by
  unfold parseR
  rw [if_neg (by decide)]
  split
  · decide
  · unfold parseS
    have e10 : (10 : Int).toNat = 10 := rfl
    rw [e10]
    by_cases ha : s.all (fun c => decide (dig c < 10)) = true
    · rw [if_pos ha]
      have h1 := numL_lt (b := 10) s 0 ha
      have h2 : 10 ^ s.length ≤ 10 ^ 3 := Nat.pow_le_pow_right (by decide) h3
      rw [if_neg (by omega)]
      show (BitVec.ofNat 128 _).toNat < 1000
      rw [BitVec.toNat_ofNat, Nat.mod_eq_of_lt (by omega)]
      omega
    · rw [if_neg ha]; decide
/-- What parsing a row's text answers. -/
def parseV (s : List UInt8) : Int × BitVec 128 × Int :=
  if apos s < s.length ∧ 1 ≤ apos s ∧ apos s ≤ 3 ∧ (parseR (s.take (apos s)) 10).2 = 0 ∧ (parseR (s.drop (apos s + 1)) 16).2 ≠ 3 ∧ (parseR (s.drop (apos s + 1)) 16).2 ≠ 4 then
    let w : Int := ((parseR (s.take (apos s)) 10).1.toNat : Int)
    let x := parseR (s.drop (apos s + 1)) 16
    if 1 ≤ w ∧ w ≤ 128 then (if x.2 = 0 ∧ mayB w x.1 = true then (w, x.1, 0) else (0, 0#128, 7)) else (0, 0#128, 9)
  else (0, 0#128, 4)
theorem parseV_bad {s : List UInt8} (h : ¬ (apos s < s.length ∧ 1 ≤ apos s ∧ apos s ≤ 3 ∧ (parseR (s.take (apos s)) 10).2 = 0 ∧ (parseR (s.drop (apos s + 1)) 16).2 ≠ 3 ∧ (parseR (s.drop (apos s + 1)) 16).2 ≠ 4)) : parseV s = (0, 0#128, 4) := if_neg h
theorem parseV_good {s : List UInt8} (h : apos s < s.length ∧ 1 ≤ apos s ∧ apos s ≤ 3 ∧ (parseR (s.take (apos s)) 10).2 = 0 ∧ (parseR (s.drop (apos s + 1)) 16).2 ≠ 3 ∧ (parseR (s.drop (apos s + 1)) 16).2 ≠ 4) :
    parseV s = if 1 ≤ ((parseR (s.take (apos s)) 10).1.toNat : Int) ∧ ((parseR (s.take (apos s)) 10).1.toNat : Int) ≤ 128 then (if (parseR (s.drop (apos s + 1)) 16).2 = 0 ∧ mayB ((parseR (s.take (apos s)) 10).1.toNat : Int) (parseR (s.drop (apos s + 1)) 16).1 = true then (((parseR (s.take (apos s)) 10).1.toNat : Int), (parseR (s.drop (apos s + 1)) 16).1, 0) else (0, 0#128, 7)) else (0, 0#128, 9) := if_pos h
theorem may_zeroT {w : Int} (h1 : 1 ≤ w) (h2 : w ≤ 128) : mayB w 0#128 = true := may_of h1 h2 fun j _ => by simp
theorem lo_small {x : BitVec 128} (h : x.toNat < 1000) : (lo x).toNat = x.toNat := by rw [lo_toNat, Nat.mod_eq_of_lt (by omega)]
theorem vparse_s (N : Nat) (s : List UInt8) (hs : s.length < 4294967281) : vec_Parse_m N s = some (parseV s) := by
  unfold vec_Parse_m
  rw [ck_pos _ hs, cut_apos]
  by_cases hf : apos s < s.length
  · rw [if_pos hf]
    simp only [if_true]
    have hl : (s.take (apos s)).length = apos s := by rw [List.length_take]; omega
    rw [hl]
    by_cases h3 : apos s > 3
    · rw [if_pos (by omega)]
      rw [parseV_bad (by omega)]; rfl
    · rw [if_neg (by omega)]
      unfold vec_Parse_k2
      rw [cut_apos, if_pos hf]
      simp only
      rw [ck_pos _ (by rw [hl]; omega)]
      by_cases h10 : (parseR (s.take (apos s)) 10).2 = 0
      · rw [if_neg (by simpa using h10), ck_pos _ (by rw [List.length_drop]; omega)]
        have h1 : 1 ≤ apos s := by
          refine Nat.one_le_iff_ne_zero.2 fun h => ?_
          rw [h] at h10
          simp only [List.take_zero] at h10
          revert h10; decide
        by_cases e3 : (parseR (s.drop (apos s + 1)) 16).2 = 3
        · rw [if_pos e3]; rw [parseV_bad (fun h => h.2.2.2.2.1 e3)]; rfl
        · rw [if_neg e3]
          by_cases e4 : (parseR (s.drop (apos s + 1)) 16).2 = 4
          · rw [if_pos e4]; rw [parseV_bad (fun h => h.2.2.2.2.2 e4)]; rfl
          · rw [if_neg e4]
            unfold vec_Parse_k4
            rw [cut_apos, if_pos hf]
            simp only
            have hsm := parseR_small (s := s.take (apos s)) (by omega)
            rw [lo_small hsm, ck_pos _ (by omega), new_s, Option.bind_some, hi_lo, parseV_good ⟨hf, h1, by omega, h10, e3, e4⟩]
            by_cases hw : 1 ≤ ((parseR (s.take (apos s)) 10).1.toNat : Int) ∧ ((parseR (s.take (apos s)) 10).1.toNat : Int) ≤ 128
            · rw [if_pos hw, if_pos hw]
              rcases parseR_err (s.drop (apos s + 1)) 16 (by decide) with h0 | h0 | h0 | h0
              · by_cases hm : mayB ((parseR (s.take (apos s)) 10).1.toNat : Int) (parseR (s.drop (apos s + 1)) 16).1 = true
                · rw [if_pos hm]
                  simp only
                  rw [if_pos trivial, if_neg (show ¬ ((parseR (s.drop (apos s + 1)) 16).2 ≠ 0) from fun h => h h0), if_pos ⟨h0, hm⟩]
                · rw [if_neg hm]
                  simp only
                  rw [if_neg (show ¬ ((parseR (s.drop (apos s + 1)) 16).2 = 0 ∧ mayB ((parseR (s.take (apos s)) 10).1.toNat : Int) (parseR (s.drop (apos s + 1)) 16).1 = true) from fun h => hm h.2)]
                  rfl
              · exact absurd (by rw [h0]) e3
              · exact absurd (by rw [h0]) e4
              · rw [h0]
                simp only
                rw [if_pos (may_zeroT hw.1 hw.2)]
                simp
            · rw [if_neg hw, if_neg hw]
              simp
      · rw [if_pos h10]
        rw [parseV_bad (fun h => h10 h.2.2.2.1)]; rfl
  · rw [if_neg hf]
    simp only [Bool.false_eq_true, if_false]
    rw [parseV_bad (fun h => hf h.1)]; rfl
theorem rparsev_s (N : Nat) (s : List UInt8) (hs : s.length < 4294967281) (hN : s.length < N) : shunterref02_Parse_m N s = some (parseV s) := by
  unfold shunterref02_Parse_m
  have := ref_loop s (by omega) N 0 (by omega) (by omega)
  simp only [List.drop_zero, Nat.zero_add] at this
  refine this.trans ?_
  have hle := apos_le s
  unfold shunterref02_Parse_k2
  by_cases hf : apos s < s.length
  · rw [if_neg (by omega)]
    by_cases h1 : apos s < 1
    · rw [if_pos (by omega)]; rw [parseV_bad (by omega)]; rfl
    · rw [if_neg (by omega)]
      by_cases h3 : apos s > 3
      · rw [if_pos (by omega)]; rw [parseV_bad (by omega)]; rfl
      · rw [if_neg (by omega)]
        unfold shunterref02_Parse_k4
        have et : ((apos s : Nat) : Int).toNat = apos s := Int.toNat_natCast _
        have et1 : (((apos s : Nat) : Int) + 1).toNat = apos s + 1 := by omega
        rw [et, et1, ck_pos _ (by omega), ck_pos _ (by rw [List.length_take]; omega), ck_pos _ (by omega), ck_pos _ (by omega), ck_pos _ (by rw [List.length_drop]; omega)]
        by_cases h10 : (parseR (s.take (apos s)) 10).2 = 0
        · rw [if_neg (by simpa using h10)]
          by_cases e4 : (parseR (s.drop (apos s + 1)) 16).2 = 4
          · rw [if_pos e4]; rw [parseV_bad (fun h => h.2.2.2.2.2 e4)]; rfl
          · rw [if_neg e4]
            by_cases e3 : (parseR (s.drop (apos s + 1)) 16).2 = 3
            · rw [if_pos e3]; rw [parseV_bad (fun h => h.2.2.2.2.1 e3)]; rfl
            · rw [if_neg e3]
              have hsm := parseR_small (s := s.take (apos s)) (by rw [List.length_take]; omega)
              have hlo := lo_small hsm
              unfold shunterref02_Parse_k6 shunterref02_Parse_k8 shunterref02_Parse_k10
              rw [et, et1, hlo, parseV_good ⟨hf, by omega, by omega, h10, e3, e4⟩]
              have c1 : (lo (parseR (s.take (apos s)) 10).1 < 1#64) ↔ (parseR (s.take (apos s)) 10).1.toNat < 1 := by rw [BitVec.lt_def, hlo]; rfl
              have c2 : (128#64 < lo (parseR (s.take (apos s)) 10).1) ↔ 128 < (parseR (s.take (apos s)) 10).1.toNat := by rw [BitVec.lt_def, hlo]; rfl
              generalize hW : (parseR (s.take (apos s)) 10).1.toNat = W at *
              by_cases d1 : W < 1
              · rw [if_pos (c1.2 d1), if_neg (by omega)]; rfl
              · rw [if_neg (fun h => d1 (c1.1 h))]
                by_cases d2 : 128 < W
                · rw [if_pos (c2.2 d2), if_neg (by omega)]; rfl
                · rw [if_neg (fun h => d2 (c2.1 h)), if_pos (show 1 ≤ (W : Int) ∧ (W : Int) ≤ 128 by omega)]
                  by_cases h0 : (parseR (s.drop (apos s + 1)) 16).2 = 0
                  · rw [if_neg (by simpa using h0), ck_pos _ (by omega)]
                    by_cases hm : ((len128 (parseR (s.drop (apos s + 1)) 16).1 : Nat) : Int) > (W : Int)
                    · rw [if_pos hm, if_neg (fun h => by have := (may_w h.2).2.2; omega)]; rfl
                    · rw [if_neg hm, ck_pos _ (by omega), if_pos ⟨h0, by simp only [mayB, Bool.and_eq_true, decide_eq_true_eq]; omega⟩]
                  · rw [if_pos h0, if_neg (fun h => h0 h.1)]; rfl
        · rw [if_pos h10]
          rw [parseV_bad (fun h => h10 h.2.2.2.1)]; rfl
  · rw [if_pos (by omega)]
    rw [parseV_bad (fun h => hf h.1)]; rfl
theorem texts_s (N : Nat) (hN : 301 < N) (w : Int) (x : BitVec 128) (s : List UInt8) : shunterlaw02_VecTexts_m N w x s = some true := by
  unfold shunterlaw02_VecTexts_m
  by_cases h : ((s.length : Nat) : Int) > 300
  · rw [if_pos h, lives_s]; rfl
  · rw [if_neg h, vparse_s N s (by omega), Option.bind_some, rparsev_s N s (by omega) (by omega), Option.bind_some, vtext_s, Option.bind_some, rtextv_s, Option.bind_some, if_pos rfl, if_pos (by simp), if_pos rfl, lives_s]; rfl
end Go.Proofs.YtomcfndpnnjihaaDoor
