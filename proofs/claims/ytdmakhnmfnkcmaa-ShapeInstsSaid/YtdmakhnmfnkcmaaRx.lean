/- Package name for the layers that call it: which names may be, keys, places in lists. Conditions: texts of at most 2000 bytes, fuel above 3000. -/
import Derived.Test.YtdmakhnmfnkcmaaRh
namespace Go.Proofs.Ytdmakhnmfnkcmaa
open Go Go.RowKit Go.Eng
def idxF (p : List UInt8 → Bool) : List (List UInt8) → Nat → Int
  | [], _ => -1
  | x :: r, k => if p x = true then (k : Int) else idxF p r (k + 1)
theorem runeB_len (n : Int) (h : okR n) : (runeB n).length ≤ 4 := by
  obtain ⟨c, rfl⟩ : ∃ c : Nat, n = (c : Int) := ⟨n.toNat, by unfold okR at h; omega⟩
  rw [runeB_of h]
  split
  · simp
  · split
    · simp
    · split <;> simp
theorem rstr_len : ∀ l : List Int, (∀ n ∈ l, okR n) → (rstr l).length ≤ 4 * l.length
  | [], _ => by simp [rstr]
  | n :: l, h => by
    have h1 := runeB_len n (h n (by simp))
    have h2 := rstr_len l (fun m hm => h m (by simp [hm]))
    rw [rstr, List.length_append, List.length_cons]; omega
theorem within_s (N : Nat) (c a b : Int) : name_within_m N c a b = some (decide (a ≤ c ∧ c ≤ b)) := by
  unfold name_within_m
  by_cases h : c ≥ a
  · rw [if_pos h]
    by_cases h1 : c ≤ b
    · rw [decide_eq_true h1, decide_eq_true ⟨h, h1⟩]
    · rw [decide_eq_false h1, decide_eq_false (fun h2 => h1 h2.2)]
  · rw [if_neg h, decide_eq_false (fun h2 => h h2.1)]
theorem or_s {p : Prop} [Decidable p] (q : Bool) : (if p then some true else some q) = some (decide p || q) := by
  by_cases h : p <;> simp [h]
theorem letter_k (N : Nat) (c : Int) (h : c ≠ 215 ∧ c ≠ 247 ∧ c ≠ 930) : name_Letter_k1 N c = some (letR c) := by
  unfold name_Letter_k1
  simp only [within_s, Option.bind_some, or_s, decide_eq_true_eq]
  congr 1
  unfold letR
  rw [Bool.eq_iff_iff]
  simp only [Bool.or_eq_true, decide_eq_true_eq]
  omega
theorem letter_s (N : Nat) (c : Int) : name_Letter_m N c = some (letR c) := by
  unfold name_Letter_m
  by_cases h1 : c = 215
  · subst h1; rfl
  by_cases h2 : c = 247
  · subst h2; rfl
  by_cases h3 : c = 930
  · subst h3; rfl
  rw [if_neg h1, if_neg h2, if_neg h3]
  exact letter_k N c ⟨h1, h2, h3⟩
theorem digit_s (N : Nat) (c : Int) : name_Digit_m N c = some (decide (48 ≤ c ∧ c ≤ 57)) := by
  unfold name_Digit_m; rw [within_s]; rfl
theorem wrap32 {x : Int} (h : -2147483648 ≤ x ∧ x ≤ 2147483647) : IntKind.i32.wrap x = x := by
  rw [IntKind.wrap_i32]; omega
theorem foldk_s (N : Nat) (c : Int) (h0 : -2147483648 ≤ c) (h1 : c ≤ 2147483647) (x : Bool) (hl : letR c = true) (hx : x = true ↔ ((65 ≤ c ∧ c ≤ 90) ∨ (192 ≤ c ∧ c ≤ 222) ∨ (913 ≤ c ∧ c ≤ 937) ∨ (1040 ≤ c ∧ c ≤ 1071))) : name_Fold_k2 N c x = some (foldR c) := by
  unfold letR at hl
  rw [decide_eq_true_eq] at hl
  unfold name_Fold_k2 foldR
  simp only [within_s, Option.bind_some, decide_eq_true_eq]
  by_cases h : x = true
  · have h2 := hx.mp h
    rw [if_pos h, if_pos (by omega), wrap32 (by omega)]
  · have h2 : ¬ _ := fun e => h (hx.mpr e)
    rw [if_neg h]
    by_cases h3 : 1024 ≤ c ∧ c ≤ 1039
    · rw [if_pos h3, if_neg (by omega), if_pos h3, wrap32 (by omega)]
    · rw [if_neg h3]
      by_cases h4 : c = 962
      · rw [if_pos h4, if_neg (by omega), if_neg h3, if_pos h4]
      · rw [if_neg h4, if_neg (by omega), if_neg h3, if_neg h4]
theorem fold_s (N : Nat) (c : Int) (h0 : -2147483648 ≤ c) (h1 : c ≤ 2147483647) : name_Fold_m N c = some (foldR c) := by
  unfold name_Fold_m
  rw [letter_s, Option.bind_some]
  by_cases hl : letR c = true
  · rw [if_pos hl]
    simp only [within_s, Option.bind_some, decide_eq_true_eq]
    by_cases g1 : 65 ≤ c ∧ c ≤ 90
    · rw [if_pos g1]; exact foldk_s N c h0 h1 _ hl (by rw [decide_eq_true_eq]; omega)
    rw [if_neg g1]
    by_cases g2 : 192 ≤ c ∧ c ≤ 222
    · rw [if_pos g2]; exact foldk_s N c h0 h1 _ hl (by rw [decide_eq_true_eq]; omega)
    rw [if_neg g2]
    by_cases g3 : 913 ≤ c ∧ c ≤ 937
    · rw [if_pos g3]; exact foldk_s N c h0 h1 _ hl (by rw [decide_eq_true_eq]; omega)
    rw [if_neg g3]
    exact foldk_s N c h0 h1 _ hl (by rw [decide_eq_true_eq]; omega)
  · rw [if_neg hl]
    unfold letR at hl
    rw [decide_eq_true_eq] at hl
    unfold foldR
    rw [if_neg (by omega), if_neg (by omega), if_neg (by omega)]
theorem stand_s (N : Nat) (c k : Int) : name_mayStand_m N c k = some (if k > 0 then inR c else letR c) := by
  unfold name_mayStand_m
  rw [letter_s, Option.bind_some, digit_s]
  by_cases hl : letR c = true
  · rw [if_pos hl]; split <;> simp [inR, hl]
  · rw [if_neg hl]
    by_cases hk : k > 0
    · rw [if_pos hk, if_pos hk, Option.bind_some]
      simp only [decide_eq_true_eq, or_s]
      congr 1
      unfold inR
      have hl' : letR c = false := by simpa using hl
      rw [hl', Bool.false_or, Bool.eq_iff_iff]
      simp only [Bool.or_eq_true, decide_eq_true_eq, beq_iff_eq]
    · rw [if_neg hk, if_neg hk]; simp at hl; rw [hl]
theorem may_loop (N : Nat) (s : List UInt8) : ∀ (m f k p : Nat), s.length ≤ p + m → m < f → p ≤ s.length → 1 ≤ k → k ≤ 24 → name_May_l3 N s f (k : Int) p = some (decide (k + (runesL (s.drop p)).length ≤ 24) && (runesL (s.drop p)).all inR) := by
  intro m
  induction m using Nat.strongRecOn with
  | _ m ih =>
  intro f k p hm hf hp hk1 hk
  obtain ⟨f, rfl⟩ : ∃ n, f = n + 1 := ⟨f - 1, by omega⟩
  rw [name_May_l3]
  by_cases h : p < s.length
  · obtain ⟨n1, n2⟩ := next_lt h
    rw [if_pos h, ck_pos _ h, runesL_at h]
    by_cases h24 : k = 24
    · subst h24
      rw [if_pos (show ((24 : Nat) : Int) = 24 from rfl), List.length_cons, decide_eq_false (by omega)]; rfl
    · rw [if_neg (show ¬ (k : Int) = 24 by omega), stand_s, Option.bind_some, if_pos (show (k : Int) > 0 by omega)]
      by_cases hi : inR (runeAt s p : Int) = true
      · have e : (k : Int) + 1 = ((k + 1 : Nat) : Int) := by omega
        rw [if_pos hi, ck_pos _ (by omega), e, ih (m - 1) (by omega) f (k + 1) (nextP s p) (by omega) (by omega) n2 (by omega) (by omega), List.length_cons, List.all_cons, hi, Bool.true_and]
        congr 2
        exact decide_eq_decide.mpr (by omega)
      · rw [if_neg hi, List.all_cons]
        simp at hi
        rw [hi]; simp
  · rw [if_neg h, runesL_end h]
    have : decide ((k : Int) > 0) = true := decide_eq_true (by omega)
    rw [this]
    simp [hk]
theorem may_s (N : Nat) (s : List UInt8) (hN : s.length + 1 < N) : name_May_m N s = some (mayL (runesL s)) := by
  obtain ⟨f, rfl⟩ : ∃ n, N = n + 1 := ⟨N - 1, by omega⟩
  have e0 : s = s.drop 0 := by simp
  rw [name_May_m, name_May_l3]
  by_cases h : 0 < s.length
  · obtain ⟨n1, n2⟩ := next_lt h
    have er := runesL_at h
    rw [← e0] at er
    rw [if_pos h, ck_pos _ h, if_neg (show ¬ (0 : Int) = 24 by omega), stand_s, Option.bind_some, if_neg (show ¬ (0 : Int) > 0 by omega), er]
    unfold mayL
    rw [List.getElem!_cons_zero]
    by_cases hi : letR (runeAt s 0 : Int) = true
    · have hin : inR (runeAt s 0 : Int) = true := by unfold inR; rw [hi]; rfl
      have := may_loop (f + 1) s s.length f 1 (nextP s 0) (by omega) (by omega) n2 (by omega) (by omega)
      rw [if_pos hi, ck_pos _ (by omega), show (0 : Int) + 1 = ((1 : Nat) : Int) from rfl, this, List.length_cons, List.all_cons, hi, hin, Bool.true_and, Bool.and_true]
      congr 2
      exact decide_eq_decide.mpr (by omega)
    · rw [if_neg hi]
      simp at hi
      rw [hi]; simp
  · rw [if_neg h]
    have : s = [] := List.eq_nil_of_length_eq_zero (by omega)
    subst this; rfl
theorem or192 : ∀ n < 32, (192 : UInt8) ||| UInt8.ofNat n = UInt8.ofNat (192 + n) := by decide
theorem or224 : ∀ n < 16, (224 : UInt8) ||| UInt8.ofNat n = UInt8.ofNat (224 + n) := by decide
theorem or240 : ∀ n < 8, (240 : UInt8) ||| UInt8.ofNat n = UInt8.ofNat (240 + n) := by decide
theorem or128 : ∀ n < 256, (128 : UInt8) ||| (UInt8.ofNat n &&& 63) = UInt8.ofNat (128 + n % 64) := by decide +kernel
theorem byteI_of (c : Nat) : byteI (c : Int) = UInt8.ofNat (c % 256) := by
  unfold byteI
  rw [show (c : Int) % 256 = ((c % 256 : Nat) : Int) from by omega, Int.toNat_natCast]
theorem shr_6 (c : Nat) : shrI (c : Int) 6 = ((c / 64 : Nat) : Int) := by
  show Int.fdiv (c : Int) (64 : Int) = _
  rw [Int.fdiv_eq_ediv_of_nonneg _ (by decide)]; omega
theorem shr_12 (c : Nat) : shrI (c : Int) 12 = ((c / 4096 : Nat) : Int) := by
  show Int.fdiv (c : Int) (4096 : Int) = _
  rw [Int.fdiv_eq_ediv_of_nonneg _ (by decide)]; omega
theorem shr_18 (c : Nat) : shrI (c : Int) 18 = ((c / 262144 : Nat) : Int) := by
  show Int.fdiv (c : Int) (262144 : Int) = _
  rw [Int.fdiv_eq_ediv_of_nonneg _ (by decide)]; omega
theorem app_s (N : Nat) (p : List UInt8) (hp : p.length ≤ 1000000) (c : Nat) (h : okR (c : Int)) : unicode_utf8_AppendRune_v1_m N p (c : Int) = some (p ++ runeB (c : Int)) := by
  have h' := h
  unfold okR at h'
  have hu : (((int32 (c : Int)).toNat : Nat) : Int) = (c : Int) := by
    unfold int32
    rw [show (c : Int) % 4294967296 = (c : Int) from by omega, Int.toNat_natCast, UInt32.toNat_ofNat']; omega
  have e128 : ∀ n, n < 256 → ∀ m, n % 64 = m % 64 → (128 : UInt8) ||| (UInt8.ofNat n &&& 63) = UInt8.ofNat (128 + m % 64) := fun n hn m hm => by rw [or128 n hn, hm]
  unfold unicode_utf8_AppendRune_v1_m unicode_utf8_appendRuneNonASCII_v1_m
  rw [hu, runeB_of h]
  by_cases h1 : c < 128
  · rw [if_pos (show (c : Int) ≤ 127 by omega), ck_pos _ (by simp only [List.length_singleton]; omega), if_pos h1, byteI_of, show c % 256 = c from by omega]
  rw [if_neg (show ¬ (c : Int) ≤ 127 by omega), if_neg h1]
  by_cases h2 : c < 2048
  · rw [if_pos (show (c : Int) ≤ 2047 by omega), ck_pos _ (by decide), ck_pos _ (by simp only [List.length_cons, List.length_nil]; omega), Option.bind_some, if_pos h2, shr_6, byteI_of, byteI_of, show c / 64 % 256 = c / 64 from by omega, or192 _ (by omega), e128 _ (by omega) c (by omega)]
  rw [if_neg (show ¬ (c : Int) ≤ 2047 by omega), if_neg h2]
  have k2 : c < 65536 → unicode_utf8_appendRuneNonASCII_v1_k2 p (c : Int) true = some (p ++ [UInt8.ofNat (224 + c / 4096), UInt8.ofNat (128 + c / 64 % 64), UInt8.ofNat (128 + c % 64)]) := fun h3 => by
    unfold unicode_utf8_appendRuneNonASCII_v1_k2
    rw [if_pos rfl, ck_pos _ (by decide), ck_pos _ (by decide), ck_pos _ (by simp only [List.length_cons, List.length_nil]; omega), shr_6, shr_12, byteI_of, byteI_of, byteI_of, show c / 4096 % 256 = c / 4096 from by omega, or224 _ (by omega), e128 _ (by omega) (c / 64) (by omega), e128 _ (by omega) c (by omega)]
  by_cases h3 : c < 65536
  · rw [if_pos h3]
    by_cases h4 : c < 55296
    · rw [if_pos (show (c : Int) < 55296 by omega), decide_eq_true (show (c : Int) < 55296 by omega), k2 h3]; rfl
    · rw [if_neg (show ¬ (c : Int) < 55296 by omega), if_pos (show (57343 : Int) < c by omega), decide_eq_true (show (c : Int) ≤ 65535 by omega), k2 h3]; rfl
  · rw [if_neg h3, if_neg (show ¬ (c : Int) < 55296 by omega), if_pos (show (57343 : Int) < c by omega), decide_eq_false (show ¬ (c : Int) ≤ 65535 by omega)]
    unfold unicode_utf8_appendRuneNonASCII_v1_k2 unicode_utf8_appendRuneNonASCII_v1_k4
    rw [if_neg (by decide), hu, if_pos (show (c : Int) > 65535 by omega), if_pos (decide_eq_true (show (c : Int) ≤ 1114111 by omega)), ck_pos _ (by decide), ck_pos _ (by decide), ck_pos _ (by decide), ck_pos _ (by simp only [List.length_cons, List.length_nil]; omega), shr_6, shr_12, shr_18, byteI_of, byteI_of, byteI_of, byteI_of, show c / 262144 % 256 = c / 262144 from by omega, or240 _ (by omega), e128 _ (by omega) (c / 4096) (by omega), e128 _ (by omega) (c / 64) (by omega), e128 _ (by omega) c (by omega)]; rfl
theorem write_s (N : Nat) (p : List UInt8) (hp : p.length ≤ 1000000) (c : Int) (h : okR c) : strings_Builder_WriteRune_v2b_m N p c = some (((runeB c).length : Int), p ++ runeB c) := by
  have hc := runeB_len c h
  obtain ⟨n, rfl⟩ : ∃ n : Nat, c = (n : Int) := ⟨c.toNat, by unfold okR at h; omega⟩
  unfold strings_Builder_WriteRune_v2b_m strings_Builder_WriteRune_v2_m strings_Builder_copyCheck_v3_m
  rw [Option.bind_some, ck_pos _ rfl, app_s N p hp n h, Option.bind_some, ck_pos _ (by rw [List.length_append]; omega)]
  congr 2
  rw [List.length_append]; omega
theorem key_loop (N : Nat) (s : List UInt8) (hs : s.length ≤ 10000) : ∀ (m f p : Nat) (acc : List UInt8), s.length ≤ p + m → m < f → p ≤ s.length → acc.length ≤ 4 * p → name_Key_l3 N s f acc p = some (acc ++ rstr ((runesL (s.drop p)).map foldR)) := by
  intro m
  induction m using Nat.strongRecOn with
  | _ m ih =>
  intro f p acc hm hf hp hacc
  obtain ⟨f, rfl⟩ : ∃ n, f = n + 1 := ⟨f - 1, by omega⟩
  rw [name_Key_l3]
  by_cases h : p < s.length
  · obtain ⟨n1, n2⟩ := next_lt h
    have hok : okR (runeAt s p : Int) := by rw [(at_dec h).1]; exact dec_ok _
    have hfo := fold_ok hok
    have hl := runeB_len _ hfo
    have hb : -2147483648 ≤ (runeAt s p : Int) ∧ (runeAt s p : Int) ≤ 2147483647 := by unfold okR at hok; omega
    rw [if_pos h, ck_pos _ h, fold_s N _ hb.1 hb.2, Option.bind_some, write_s N acc (by omega) _ hfo, Option.bind_some, ih (m - 1) (by omega) f (nextP s p) _ (by omega) (by omega) n2 (by rw [List.length_append]; omega), runesL_at h, List.map_cons, rstr, List.append_assoc]
  · rw [if_neg h, runesL_end h]
    unfold strings_Builder_String_v2b_m strings_Builder_String_v2_m
    rw [ck_pos _ (by omega), Option.bind_some]
    simp [rstr]
theorem key_s (N : Nat) (s : List UInt8) (hs : s.length ≤ 10000) (hN : s.length < N) : name_Key_m N s = some (keyB s) := by
  have hg : strings_Builder_Grow_v1_m N (s.length : Int) = some [] := by
    unfold strings_Builder_Grow_v1_m strings_Builder_copyCheck_v1_m strings_Builder_Grow_v1_k1 strings_Builder_grow_v1_m
    rw [Option.bind_some, if_neg (by omega), ck_pos _ (by simp)]
    by_cases h : s = []
    · subst h; rfl
    · have := List.length_pos_iff.mpr h
      rw [if_pos (by simp; omega), ck_pos _ (by omega), ck_pos _ (by omega)]; rfl
  rw [name_Key_m, hg, Option.bind_some, key_loop N s hs s.length N 0 [] (by omega) hN (by omega) (by simp), List.drop_zero]; rfl
theorem idx_loop (N : Nat) (l : List (List UInt8)) (s : List UInt8) (hN : 3000 < N) (hl : l.length ≤ 300) (hall : ∀ j, j < l.length → (l[j]!).length ≤ 300) : ∀ (k f i : Nat), i + k = l.length → k < f → slices_IndexFunc___string_string__v1_l2 N l (keyB s) f (i : Int) = some (idxF (fun x => keyB x == keyB s) (l.drop i) i) := by
  intro k
  induction k with
  | zero =>
    intro f i hi hf
    obtain ⟨f, rfl⟩ : ∃ n, f = n + 1 := ⟨f - 1, by omega⟩
    rw [slices_IndexFunc___string_string__v1_l2, if_neg (by omega), List.drop_of_length_le (by omega)]; rfl
  | succ k ih =>
    intro f i hi hf
    obtain ⟨f, rfl⟩ : ∃ n, f = n + 1 := ⟨f - 1, by omega⟩
    have e1 : (i : Int) + 1 = ((i + 1 : Nat) : Int) := by omega
    have hd : l.drop i = l[i]! :: l.drop (i + 1) := by rw [List.drop_eq_getElem_cons (by omega), getElem!_pos l i (by omega)]
    have hi300 := hall i (by omega)
    rw [slices_IndexFunc___string_string__v1_l2, if_pos (by omega), ck_pos _ (by omega), Int.toNat_natCast, name_Index_1_v1_m, key_s N _ (by omega) (by omega), Option.bind_some, Option.bind_some, hd, idxF]
    by_cases h : (keyB (l[i]!) == keyB s) = true
    · rw [if_pos h, if_pos h]
    · rw [if_neg h, if_neg h, ck_pos _ (by omega), e1]
      exact ih f (i + 1) (by omega) (by omega)
theorem index_s (N : Nat) (l : List (List UInt8)) (s : List UInt8) (hN : 3000 < N) (hl : l.length ≤ 300) (hs : s.length ≤ 300) (hall : ∀ j, j < l.length → (l[j]!).length ≤ 300) : name_Index_m N l s = some (idxF (fun x => keyB x == keyB s) l 0) := by
  have := idx_loop N l s hN hl hall l.length N 0 (by omega) (by omega)
  rw [name_Index_m, key_s N s (by omega) (by omega), Option.bind_some, slices_IndexFunc___string_string__v1_m, show (0 : Int) = ((0 : Nat) : Int) from rfl, this, List.drop_zero]; rfl
end Go.Proofs.Ytdmakhnmfnkcmaa
