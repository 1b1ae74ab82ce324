/- Layer 6: what the program's small functions answer. Conditions: none but those written. Program: Tryd. -/
import Derived.Test.YtmdjifehblijkaaDoorRn
import Derived.Test.YtmdjifehblijkaaDoorLy
import Derived.Test.YtmdjifehblijkaaDoorBa
import Derived.Test.YtmdjifehblijkaaDoorBb
import Derived.Test.YtmdjifehblijkaaDoorBc
namespace Go.Proofs.YtmdjifehblijkaaDoor
open Go Go.RowKit Go.Eng
theorem clone_s (N : Nat) (s : List UInt8) (hs : s.length ≤ 100000) : strings_Clone_m N s = some s := by
  unfold strings_Clone_m internal_stringslite_Clone_m
  by_cases h : (s.length : Int) = 0
  · rw [if_pos h]
    have : s = [] := List.eq_nil_of_length_eq_zero (by omega)
    rw [this]; rfl
  · have e : s.take (List.replicate ((s.length : Int)).toNat (0 : UInt8)).length ++ (List.replicate ((s.length : Int)).toNat (0 : UInt8)).drop s.length = s := by
      rw [Int.toNat_natCast, List.length_replicate, List.take_length, List.drop_replicate, Nat.sub_self]
      exact List.append_nil s
    rw [if_neg h, e, ck_pos _ (by omega), ck_pos _ (by omega), ck_pos _ (by omega)]; rfl
theorem width_s (N : Nat) (w : Int) : vec_mayWidth_m N w = some (decide (1 ≤ w ∧ w ≤ 128)) := by
  unfold vec_mayWidth_m
  by_cases h1 : w ≥ 1
  · rw [if_pos h1]; congr 1; exact decide_eq_decide.2 ⟨fun h => ⟨h1, h⟩, fun h => h.2⟩
  · rw [if_neg h1]; congr 1; exact (decide_eq_false (fun h => h1 h.1)).symm
theorem vmay_s (N : Nat) (w : Int) (x : BitVec 128) : vec_May_m N w x = some (mayB w x) := by
  unfold vec_May_m vec_Word_m mayB
  rw [width_s, Option.bind_some]
  by_cases h1 : 1 ≤ w
  · rw [decide_eq_true h1, Bool.true_and]
    by_cases h2 : w ≤ 128
    · rw [decide_eq_true (show 1 ≤ w ∧ w ≤ 128 from ⟨h1, h2⟩), if_pos rfl, Option.bind_some, decide_eq_true h2, Bool.true_and]
    · rw [decide_eq_false (fun h : 1 ≤ w ∧ w ≤ 128 => h2 h.2), if_neg (by decide), decide_eq_false h2, Bool.false_and]
  · rw [decide_eq_false (fun h : 1 ≤ w ∧ w ≤ 128 => h1 h.1), if_neg (by decide), decide_eq_false h1, Bool.false_and]
theorem may_of {w : Int} {x : BitVec 128} (h1 : 1 ≤ w) (h2 : w ≤ 128) (h : ∀ j : Nat, w ≤ (j : Int) → x.getLsbD j = false) : mayB w x = true := by
  simp only [mayB, Bool.and_eq_true, decide_eq_true_eq]
  refine ⟨h1, h2, ?_⟩
  refine Int.not_lt.1 fun hlt => ?_
  obtain ⟨h3, h4, h5⟩ := len128_spec x
  have h6 := h (len128 x - 1) (by omega)
  rw [← BitVec.testBit_toNat, Nat.testBit_eq_decide_div_mod_eq] at h6
  have h7 := h4 (by omega)
  have h8 : 2 ^ len128 x = 2 ^ (len128 x - 1) * 2 := by rw [← Nat.pow_succ]; congr 1; omega
  have h9 : x.toNat / 2 ^ (len128 x - 1) = 1 := by
    apply Nat.div_eq_of_lt_le <;> omega
  rw [h9] at h6; simp at h6
theorem new_s (N : Nat) (w : Int) (a b : BitVec 64) : vec_New_m N w a b = some (if 1 ≤ w ∧ w ≤ 128 then (if mayB w (a ++ b) = true then (w, a ++ b, 0) else (0, 0#128, 7)) else (0, 0#128, 9)) := by
  unfold vec_New_m
  rw [width_s, Option.bind_some]
  by_cases h : 1 ≤ w ∧ w ≤ 128
  · rw [decide_eq_true h, if_pos rfl, if_pos h, vmay_s, Option.bind_some]
    by_cases h2 : mayB w (a ++ b) = true
    · rw [if_pos h2, if_pos h2]
    · rw [if_neg h2, if_neg h2]; rfl
  · rw [decide_eq_false h, if_neg (by decide), if_neg h]; rfl
theorem index_apos : ∀ s : List UInt8, Lib.index s [39] = if apos s < s.length then (apos s : Int) else -1
  | [] => rfl
  | c :: l => by
    unfold Lib.index apos
    have ih := index_apos l
    by_cases h : c = 39
    · subst h; simp
    · have hp : List.isPrefixOf [39] (c :: l) = false := by
        simp only [List.isPrefixOf, Bool.and_true]
        exact beq_eq_false_iff_ne.2 (Ne.symm h)
      rw [hp, if_neg (by decide), ih, if_neg h]
      by_cases h2 : apos l < l.length
      · have e : (((apos l : Nat) : Int) == -1) = false := beq_eq_false_iff_ne.2 (by omega)
        rw [if_pos h2, e, if_neg (by decide), if_pos (show apos l + 1 < (c :: l).length by simp only [List.length_cons]; omega)]
        omega
      · rw [if_neg h2, if_pos (show ((-1 : Int) == -1) = true by decide), if_neg (show ¬ apos l + 1 < (c :: l).length by simp only [List.length_cons]; omega)]
theorem may_zeroT {w : Int} (h1 : 1 ≤ w) (h2 : w ≤ 128) : mayB w 0#128 = true := may_of h1 h2 fun j _ => by simp
theorem ib_apos (s : List UInt8) : Lib.indexByte s 39 = if apos s < s.length then (apos s : Int) else -1 := by rw [← index_one, index_apos]
theorem ib_not {c : UInt8} : ∀ s : List UInt8, (∀ x ∈ s, x ≠ c) → Lib.indexByte s c = -1
  | [], _ => rfl
  | b :: l, h => by
    have hb : (b == c) = false := beq_eq_false_iff_ne.mpr (h b (by simp))
    rw [Lib.indexByte, hb, if_neg (by decide), ib_not l (fun x hx => h x (by simp [hx]))]; rfl
def marksL : List UInt8 := [123, 125, 40, 41, 91, 93, 59, 58, 44, 61, 47, 38]
theorem marks_low : ∀ x ∈ marksL, x.toNat < 128 := by decide
theorem marks_at (i : Int) : byteAt marksL i < 128 := by
  unfold byteAt
  rw [List.getD_eq_getElem?_getD]
  cases h : marksL[i.toNat]? with
  | none => exact (by decide : ((0 : UInt8).toNat : Int) < 128)
  | some x => have := marks_low x (List.mem_of_getElem? h); show ((x.toNat : Nat) : Int) < 128; omega
theorem marks_ascii : ∀ n : Nat, n < 128 → decide ((Lib.indexByte marksL ((((byteI (n : Int)).toNat : Nat) : Int).toNat.toUInt8) : Int) ≥ 0) = markR (n : Int) := by decide +kernel
theorem marks_run : ∀ q : Nat, q < 12 → (dec (marksL.drop q)).1 ≠ 65533 := by decide +kernel
theorem marks_err : ∀ (m f p : Nat), marksL.length ≤ p + m → m < f → p ≤ marksL.length → strings_IndexRune_l4 marksL f p = some (-1) := by
  intro m
  induction m using Nat.strongRecOn with
  | _ m ih =>
  intro f p hm hf hp
  obtain ⟨f, rfl⟩ : ∃ n, f = n + 1 := ⟨f - 1, by omega⟩
  rw [strings_IndexRune_l4]
  by_cases h : p < marksL.length
  · obtain ⟨n1, n2⟩ := next_lt h
    have h12 : marksL.length = 12 := rfl
    have hne := marks_run p (by omega)
    rw [if_pos h, ck_pos _ h, ck_pos _ h, (at_dec h).1, if_neg (by omega), ih (m - 1) (by omega) f (nextP marksL p) (by omega) (by omega) n2]
  · rw [if_neg h]
theorem last_byte {c : Nat} (h : okR (c : Int)) (hc : 128 ≤ c) : 2 ≤ (runeB (c : Int)).length ∧ (runeB (c : Int)).length ≤ 4 ∧ 128 ≤ byteAt (runeB (c : Int)) (((runeB (c : Int)).length : Int) - 1) ∧ byteAt (runeB (c : Int)) (((runeB (c : Int)).length : Int) - 1) < 256 := by
  rw [runeB_of h]
  unfold okR at h
  have lb : (UInt8.ofNat (128 + c % 64)).toNat = 128 + c % 64 := byteOf (by omega)
  rw [if_neg (by omega)]
  split
  · refine ⟨Nat.le_refl 2, by show 2 ≤ 4; decide, ?_⟩
    show (128 : Int) ≤ (((UInt8.ofNat (128 + c % 64)).toNat : Nat) : Int) ∧ (((UInt8.ofNat (128 + c % 64)).toNat : Nat) : Int) < 256
    rw [lb]; omega
  · split
    · refine ⟨by show 2 ≤ 3; decide, by show 3 ≤ 4; decide, ?_⟩
      show (128 : Int) ≤ (((UInt8.ofNat (128 + c % 64)).toNat : Nat) : Int) ∧ (((UInt8.ofNat (128 + c % 64)).toNat : Nat) : Int) < 256
      rw [lb]; omega
    · refine ⟨by show 2 ≤ 4; decide, by show 4 ≤ 4; decide, ?_⟩
      show (128 : Int) ≤ (((UInt8.ofNat (128 + c % 64)).toNat : Nat) : Int) ∧ (((UInt8.ofNat (128 + c % 64)).toNat : Nat) : Int) < 256
      rw [lb]; omega
theorem contains_s (N : Nat) (hN : 20 < N) (c : Nat) (h : okR (c : Int)) : strings_ContainsRune_m N marksL (c : Int) = some (markR (c : Int)) := by
  unfold strings_ContainsRune_m strings_IndexRune_m
  rw [if_pos (by omega)]
  unfold strings_IndexRune_k2
  by_cases h1 : c < 128
  · rw [if_pos (by rw [decide_eq_true (show (c : Int) < 128 by omega)]), Option.bind_some, marks_ascii c h1]
  have hm : markR (c : Int) = false := by unfold markR; exact decide_eq_false (by omega)
  rw [if_neg (by rw [decide_eq_false (show ¬ (c : Int) < 128 by omega)]; decide), hm]
  by_cases h2 : c = 65533
  · subst h2
    rw [if_pos (by decide), marks_err 12 N 0 (by decide) (by omega) (by decide)]; rfl
  rw [if_neg (by omega)]
  have hv : Lib.validRune (c : Int) = true := by unfold Lib.validRune; unfold okR at h; exact decide_eq_true (by omega)
  obtain ⟨g1, g2, g3, g4⟩ := last_byte h (by omega)
  have h12 : marksL.length = 12 := rfl
  rw [if_pos hv, ck_pos _ (by omega)]
  obtain ⟨f, rfl⟩ : ∃ n, N = n + 1 := ⟨N - 1, by omega⟩
  have hma := marks_at (((runeB (c : Int)).length : Int) - 1)
  rw [strings_IndexRune_l6, if_pos (by omega), ck_pos _ (by omega), ck_pos _ (by omega), if_pos (by omega), ck_pos _ (by omega), ck_pos _ (by omega), ck_pos _ (by omega)]
  rw [if_pos]
  · rfl
  · rw [ib_not _ (fun x hx e => ?_)]
    · decide
    · have hx' := marks_low x (List.mem_of_mem_drop hx)
      rw [e] at hx'
      have : (((byteAt (runeB (c : Int)) (((runeB (c : Int)).length : Int) - 1)).toNat.toUInt8).toNat : Nat) = (byteAt (runeB (c : Int)) (((runeB (c : Int)).length : Int) - 1)).toNat := byteOf (by omega)
      omega
theorem contains39_s (N : Nat) (s : List UInt8) : strings_ContainsRune_m N s 39 = some (decide (apos s < s.length)) := by
  unfold strings_ContainsRune_m strings_IndexRune_m
  rw [if_pos (by decide)]
  unfold strings_IndexRune_k2
  rw [if_pos (by decide), Option.bind_some, show ((((byteI (39 : Int)).toNat : Nat) : Int).toNat.toUInt8) = (39 : UInt8) by decide, ib_apos]
  congr 1
  by_cases h : apos s < s.length
  · rw [if_pos h, decide_eq_true h]; exact decide_eq_true (by omega)
  · rw [if_neg h, decide_eq_false h]; rfl
def nlR (c : Int) : Bool := c != 10
theorem inline_s (N : Nat) (c : Int) : lex_inLine_m N c = some (nlR c) := rfl
theorem inword_s (N : Nat) (c : Int) : lex_inWord_m N c = some (inR c) := by
  unfold lex_inWord_m
  rw [letter_s, Option.bind_some, ndigit_s]
  by_cases hl : letR c = true
  · rw [if_pos hl]; simp [inR, hl]
  · rw [if_neg hl, Option.bind_some]
    simp only [decide_eq_true_eq, or_s]
    congr 1
    unfold inR
    have hl' : letR c = false := by simpa using hl
    rw [hl', Bool.false_or, Bool.eq_iff_iff]
    simp only [Bool.or_eq_true, decide_eq_true_eq, beq_iff_eq]
theorem innum_s (N : Nat) (c : Int) : lex_inNumber_m N c = some (numR c) := by
  unfold lex_inNumber_m
  rw [letter_s, Option.bind_some, ndigit_s]
  by_cases hl : letR c = true
  · rw [if_pos hl]; simp [numR, hl]
  · rw [if_neg hl, Option.bind_some]
    simp only [decide_eq_true_eq, or_s]
    congr 1
    unfold numR digR
    have hl' : letR c = false := by simpa using hl
    rw [hl', Bool.false_or, Bool.eq_iff_iff]
    simp only [Bool.or_eq_true, decide_eq_true_eq, beq_iff_eq]
theorem blank_s (N : Nat) (c : Int) : lex_blank_m N c = some (decide (c = 32 ∨ c = 9 ∨ c = 10 ∨ c = 13)) := by
  unfold lex_blank_m
  simp only [or_s]
  congr 1
  rw [Bool.eq_iff_iff]
  simp only [Bool.or_eq_true, decide_eq_true_eq, beq_iff_eq]
theorem run1_loop (N : Nat) (s : List UInt8) : ∀ (m f p : Nat), s.length ≤ p + m → m < f → p ≤ s.length → lex_run_v1_l2 N s f p = some ((p + spanL nlR (s.drop p) : Nat) : Int) := by
  intro m
  induction m using Nat.strongRecOn with
  | _ m ih =>
  intro f p hm hf hp
  obtain ⟨f, rfl⟩ : ∃ n, f = n + 1 := ⟨f - 1, by omega⟩
  rw [lex_run_v1_l2]
  by_cases h : p < s.length
  · obtain ⟨n1, n2⟩ := next_lt h
    rw [if_pos h, ck_pos _ h, ck_pos _ h, inline_s, Option.bind_some, spanL_cons nlR (drop_ne h), (at_dec h).1]
    by_cases hq : nlR ((dec (s.drop p)).1 : Int) = true
    · rw [if_pos hq, if_pos hq, ih (m - 1) (by omega) f (nextP s p) (by omega) (by omega) n2, (at_dec h).2, List.drop_drop]
      congr 2; omega
    · rw [if_neg hq, if_neg hq]; rfl
  · rw [if_neg h, List.drop_of_length_le (by omega), spanL_nil]
    congr 2; omega
theorem run1_s (N : Nat) (s : List UInt8) (hN : s.length < N) : lex_run_v1_m N s = some ((spanL nlR s : Nat) : Int) := by
  have := run1_loop N s s.length N 0 (by omega) hN (Nat.zero_le _)
  rw [List.drop_zero, Nat.zero_add] at this
  exact this
theorem run2_loop (N : Nat) (s : List UInt8) : ∀ (m f p : Nat), s.length ≤ p + m → m < f → p ≤ s.length → lex_run_v2_l2 N s f p = some ((p + spanL inR (s.drop p) : Nat) : Int) := by
  intro m
  induction m using Nat.strongRecOn with
  | _ m ih =>
  intro f p hm hf hp
  obtain ⟨f, rfl⟩ : ∃ n, f = n + 1 := ⟨f - 1, by omega⟩
  rw [lex_run_v2_l2]
  by_cases h : p < s.length
  · obtain ⟨n1, n2⟩ := next_lt h
    rw [if_pos h, ck_pos _ h, ck_pos _ h, inword_s, Option.bind_some, spanL_cons inR (drop_ne h), (at_dec h).1]
    by_cases hq : inR ((dec (s.drop p)).1 : Int) = true
    · rw [if_pos hq, if_pos hq, ih (m - 1) (by omega) f (nextP s p) (by omega) (by omega) n2, (at_dec h).2, List.drop_drop]
      congr 2; omega
    · rw [if_neg hq, if_neg hq]; rfl
  · rw [if_neg h, List.drop_of_length_le (by omega), spanL_nil]
    congr 2; omega
theorem run2_s (N : Nat) (s : List UInt8) (hN : s.length < N) : lex_run_v2_m N s = some ((spanL inR s : Nat) : Int) := by
  have := run2_loop N s s.length N 0 (by omega) hN (Nat.zero_le _)
  rw [List.drop_zero, Nat.zero_add] at this
  exact this
theorem run3_loop (N : Nat) (s : List UInt8) : ∀ (m f p : Nat), s.length ≤ p + m → m < f → p ≤ s.length → lex_run_v3_l2 N s f p = some ((p + spanL numR (s.drop p) : Nat) : Int) := by
  intro m
  induction m using Nat.strongRecOn with
  | _ m ih =>
  intro f p hm hf hp
  obtain ⟨f, rfl⟩ : ∃ n, f = n + 1 := ⟨f - 1, by omega⟩
  rw [lex_run_v3_l2]
  by_cases h : p < s.length
  · obtain ⟨n1, n2⟩ := next_lt h
    rw [if_pos h, ck_pos _ h, ck_pos _ h, innum_s, Option.bind_some, spanL_cons numR (drop_ne h), (at_dec h).1]
    by_cases hq : numR ((dec (s.drop p)).1 : Int) = true
    · rw [if_pos hq, if_pos hq, ih (m - 1) (by omega) f (nextP s p) (by omega) (by omega) n2, (at_dec h).2, List.drop_drop]
      congr 2; omega
    · rw [if_neg hq, if_neg hq]; rfl
  · rw [if_neg h, List.drop_of_length_le (by omega), spanL_nil]
    congr 2; omega
theorem run3_s (N : Nat) (s : List UInt8) (hN : s.length < N) : lex_run_v3_m N s = some ((spanL numR s : Nat) : Int) := by
  have := run3_loop N s s.length N 0 (by omega) hN (Nat.zero_le _)
  rw [List.drop_zero, Nat.zero_add] at this
  exact this
theorem wordof_s (N : Nat) (s : List UInt8) (hs : s.length ≤ 100000) (hN : s.length + 1 < N) : lex_wordOf_m N s = some (if mayL (runesL s) = true then (1, s, 0, 0, 0#128, 0, 0) else (0, [], 0, 0, 0#128, 0, 2)) := by
  unfold lex_wordOf_m
  rw [may_s N s hN, Option.bind_some, clone_s N s hs, app_zero]
  by_cases h : mayL (runesL s) = true
  · rw [if_pos h, if_pos h]; rfl
  · rw [if_neg h, if_neg h]
theorem cut_s (N : Nat) (s : List UInt8) (hs : s.length ≤ 100000) : strings_Cut_m N s [39] = some (if apos s < s.length then (s.take (apos s), s.drop (apos s + 1), true) else (s, [], false)) := by
  unfold strings_Cut_m internal_stringslite_Cut_m
  rw [ck_pos _ (show ([39] : List UInt8).length = 1 from rfl), index_apos]
  by_cases h : apos s < s.length
  · rw [if_pos h, if_pos (by omega), ck_pos _ (by omega), ck_pos _ (by simp only [List.length_singleton]; omega), ck_pos _ (by simp only [List.length_singleton]; omega), if_pos h, Option.bind_some, Int.toNat_natCast]
    rfl
  · rw [if_neg h, if_neg (by decide), if_neg h]; rfl
theorem vparse_s (N : Nat) (s : List UInt8) (hs : s.length ≤ 100000) : vec_Parse_m N s = some (parseV s) := by
  unfold vec_Parse_m
  rw [cut_s N s hs, Option.bind_some]
  by_cases hf : apos s < s.length
  · rw [if_pos hf, if_pos rfl]
    have hl : (s.take (apos s)).length = apos s := by rw [List.length_take]; omega
    simp only
    rw [hl]
    by_cases h3 : apos s > 3
    · rw [if_pos (by omega)]
      rw [parseV_bad (by omega)]; rfl
    · rw [if_neg (by omega)]
      unfold vec_Parse_k1
      simp only
      rw [ck_pos _ (by rw [hl]; omega)]
      by_cases h10 : (parseR (s.take (apos s)) 10).2 = 0
      · rw [if_neg (by simpa using h10), ck_pos _ (by rw [List.length_drop]; omega)]
        have h1 : 1 ≤ apos s := by
          refine Nat.one_le_iff_ne_zero.2 fun h => ?_
          rw [h] at h10
          simp only [List.take_zero] at h10
          revert h10; decide
        by_cases e3 : (parseR (s.drop (apos s + 1)) 16).2 = 3
        · rw [if_pos e3]; rw [parseV_bad (fun h => h.2.2.2.2.1 e3)]; rfl
        · rw [if_neg e3]
          by_cases e4 : (parseR (s.drop (apos s + 1)) 16).2 = 4
          · rw [if_pos e4]; rw [parseV_bad (fun h => h.2.2.2.2.2 e4)]; rfl
          · rw [if_neg e4]
            unfold vec_Parse_k2
            simp only
            have hsm := parseR_small (s := s.take (apos s)) (by omega)
            rw [lo_small hsm, ck_pos _ (by omega), new_s, Option.bind_some, hi_lo, parseV_good ⟨hf, h1, by omega, h10, e3, e4⟩]
            by_cases hw : 1 ≤ ((parseR (s.take (apos s)) 10).1.toNat : Int) ∧ ((parseR (s.take (apos s)) 10).1.toNat : Int) ≤ 128
            · rw [if_pos hw, if_pos hw]
              rcases parseR_err (s.drop (apos s + 1)) 16 (by decide) with h0 | h0 | h0 | h0
              · by_cases hm : mayB ((parseR (s.take (apos s)) 10).1.toNat : Int) (parseR (s.drop (apos s + 1)) 16).1 = true
                · rw [if_pos hm]
                  simp only
                  rw [if_pos trivial, if_neg (show ¬ ((parseR (s.drop (apos s + 1)) 16).2 ≠ 0) from fun h => h h0), if_pos ⟨h0, hm⟩]
                · rw [if_neg hm]
                  simp only
                  rw [if_neg (show ¬ ((parseR (s.drop (apos s + 1)) 16).2 = 0 ∧ mayB ((parseR (s.take (apos s)) 10).1.toNat : Int) (parseR (s.drop (apos s + 1)) 16).1 = true) from fun h => hm h.2)]
                  rfl
              · exact absurd (by rw [h0]) e3
              · exact absurd (by rw [h0]) e4
              · rw [h0]
                simp only
                rw [if_pos (may_zeroT hw.1 hw.2)]
                simp
            · rw [if_neg hw, if_neg hw]
              simp
      · rw [if_pos h10]
        rw [parseV_bad (fun h => h10 h.2.2.2.1)]; rfl
  · rw [if_neg hf]
    simp only [Bool.false_eq_true, if_false]
    rw [parseV_bad (fun h => hf h.1)]; rfl
theorem rowof_s (N : Nat) (s : List UInt8) (hs : s.length ≤ 100000) : lex_rowOf_m N s = some (if (parseV s).2.2 ≠ 0 then (0, [], 0, 0, 0#128, 0, (parseV s).2.2) else (3, [], 0, (parseV s).1, (parseV s).2.1, 0, 0)) := by
  unfold lex_rowOf_m
  rw [vparse_s N s hs, Option.bind_some, app_zero]
  split <;> rfl
theorem prefix_s (N : Nat) (s : List UInt8) : strings_CutPrefix_m N s [48, 120] = some (if 2 ≤ s.length ∧ s.take 2 = [48, 120] then (s.drop 2, true) else (s, false)) := by
  unfold strings_CutPrefix_m internal_stringslite_CutPrefix_m internal_stringslite_HasPrefix_m
  have e2 : ((([48, 120] : List UInt8).length : Nat) : Int) = 2 := rfl
  rw [e2]
  by_cases h : 2 ≤ s.length
  · rw [if_pos (by omega), ck_pos _ (by omega), Option.bind_some]
    by_cases h2 : s.take 2 = [48, 120]
    · rw [if_pos (by rw [beq_iff_eq]; exact h2), ck_pos _ (by omega), if_pos ⟨h, h2⟩]; rfl
    · rw [if_neg (by rw [beq_iff_eq]; exact h2), if_neg (fun hh => h2 hh.2)]; rfl
  · rw [if_neg (by omega), if_neg (fun hh => h hh.1)]; rfl
theorem tail_s (t : List UInt8) (b : Int) (hb : 2 ≤ b ∧ b ≤ 16) (ht : t.length ≤ 100000) : lex_numberOf_k3 t b = some (if (intS t b).2 = 0 then ((intS t b).1.1, (intS t b).1.2.1, (intS t b).1.2.2.1, (intS t b).1.2.2.2.1, (intS t b).1.2.2.2.2, 0, 0) else (0, [], 0, 0, 0#128, 0, (intS t b).2)) := by
  unfold lex_numberOf_k3
  rw [ck_pos _ (by omega), app_zero]
  rcases parseR_err t b hb with h0 | h0 | h0 | h0
  · by_cases hl : ((len128 (parseR t b).1 : Nat) : Int) > 63
    · have e : intS t b = ((2, [], 0, 0, 0#128), 7) := by unfold intS; rw [if_neg (by rw [h0]; decide), if_pos (.inr hl)]
      rw [if_neg (by rw [h0]; decide), if_neg (by rw [h0]; decide), if_pos hl, e, if_neg (by decide)]
    · have hx := len63 hl
      have e : intS t b = ((2, [], (((parseR t b).1.toNat : Nat) : Int), 0, 0#128), 0) := by unfold intS; rw [if_neg (by rw [h0]; decide), if_neg (by rw [h0]; exact fun hh => hh.elim (fun h => h rfl) hl)]
      have hlo : (lo (parseR t b).1).toNat = (parseR t b).1.toNat := by rw [lo_toNat, Nat.mod_eq_of_lt (by omega)]
      rw [if_neg (by rw [h0]; decide), if_neg (by rw [h0]; decide), if_neg hl, hlo, ck_pos _ (by omega), e, if_pos rfl]
  · have e : intS t b = ((2, [], 0, 0, 0#128), 4) := by unfold intS; rw [if_pos (by rw [h0]; decide)]
    rw [if_pos (by rw [h0]), e, if_neg (by decide)]
  · have e : intS t b = ((2, [], 0, 0, 0#128), 4) := by unfold intS; rw [if_pos (by rw [h0]; decide)]
    rw [if_neg (by rw [h0]; decide), if_pos (by rw [h0]; decide), e, if_neg (by decide), h0]
  · have e : intS t b = ((2, [], 0, 0, 0#128), 7) := by unfold intS; rw [if_neg (by rw [h0]; decide), if_pos (by rw [h0]; decide)]
    rw [if_neg (by rw [h0]; decide), if_pos (by rw [h0]; decide), e, if_neg (by decide), h0]
theorem numberof_s (N : Nat) (s : List UInt8) (hs : s.length ≤ 100000) : lex_numberOf_m N s = some (if (numS6 s).2 = 0 then ((numS6 s).1.1, (numS6 s).1.2.1, (numS6 s).1.2.2.1, (numS6 s).1.2.2.2.1, (numS6 s).1.2.2.2.2, 0, 0) else (0, [], 0, 0, 0#128, 0, (numS6 s).2)) := by
  unfold lex_numberOf_m
  rw [contains39_s, Option.bind_some]
  by_cases h : apos s < s.length
  · have e : numS6 s = ((3, [], 0, (parseV s).1, (parseV s).2.1), (parseV s).2.2) := by unfold numS6; rw [if_pos h]
    rw [if_pos (by rw [decide_eq_true h]), rowof_s N s hs, Option.bind_some, e]
    by_cases h0 : (parseV s).2.2 = 0
    · rw [if_neg (fun hh => hh h0), if_pos h0]
    · rw [if_pos h0, if_neg h0]
  · rw [if_neg (by rw [decide_eq_false h]; decide), prefix_s, Option.bind_some]
    by_cases h2 : 2 ≤ s.length ∧ s.take 2 = [48, 120]
    · have e : numS6 s = intS (s.drop 2) 16 := by unfold numS6; rw [if_neg h, if_pos h2]
      rw [if_pos h2, if_pos rfl, tail_s _ 16 (by decide) (by rw [List.length_drop]; omega), e]
    · have e : numS6 s = intS s 10 := by unfold numS6; rw [if_neg h, if_neg h2]
      rw [if_neg h2, if_neg (by simp), tail_s _ 10 (by decide) hs, e]
end Go.Proofs.YtmdjifehblijkaaDoor
