/- Layer 5: what the program's functions answer: first runes, keys, orders, places, lists. Conditions: texts of at most 2000 bytes, fuel above 3000. -/
import Derived.Test.YtniakkkjiifelaaRi
namespace Go.Proofs.Ytniakkkjiifelaa
open Go Go.RowKit Go.Eng
/-! ### first runes -/
theorem end_loop (s : List UInt8) (n : Int) (hn : -9223372036854775808 ≤ n ∧ n ≤ 9223372036854775807) : ∀ (m f k : Nat), s.length ≤ posR s k + m → m < f → ((k : Int) ≤ n ∨ k = 0) →
    name_end_l3 s f (n - (k : Int)) (posR s k) = some ((posR s n.toNat : Nat) : Int) := by
  intro m
  induction m using Nat.strongRecOn with
  | _ m ih =>
  intro f k hm hf hk
  obtain ⟨f, rfl⟩ : ∃ n, f = n + 1 := ⟨f - 1, by omega⟩
  have hle := posR_le s k
  rw [name_end_l3]
  by_cases h1 : posR s k < s.length
  · obtain ⟨n1, n2⟩ := next_lt h1
    have hge := posR_ge h1
    rw [if_pos h1, ck_pos _ h1]
    by_cases h2 : n - (k : Int) < 1
    · have e : n.toNat = k := by omega
      rw [if_pos h2, e]
    · have e3 : n - (k : Int) - 1 = n - ((k + 1 : Nat) : Int) := by omega
      have e4 : posR s (k + 1) = nextP s (posR s k) := rfl
      rw [if_neg h2, ck_pos _ (by omega), e3, ← e4]
      exact ih (m - 1) (by omega) f (k + 1) (by omega) (by omega) (.inl (by omega))
  · rw [if_neg h1]
    rcases hk with hk | rfl
    · obtain ⟨j, hj⟩ : ∃ j, n.toNat = k + j := ⟨n.toNat - k, by omega⟩
      rw [hj, posR_end h1]
      congr 2; omega
    · have e : posR s n.toNat = posR s 0 := by have := posR_end h1 n.toNat; rwa [Nat.zero_add] at this
      rw [e]
      congr 2; omega
theorem end_s (N : Nat) (s : List UInt8) (hN : s.length < N) (n : Int) (hn : -9223372036854775808 ≤ n ∧ n ≤ 9223372036854775807) : name_end_m N s n = some ((posR s n.toNat : Nat) : Int) := by
  have := end_loop s n hn s.length N 0 (by omega) hN (.inr rfl)
  have e : n - ((0 : Nat) : Int) = n := by omega
  rw [e] at this
  exact this
theorem clone_s (N : Nat) (s : List UInt8) (hs : s.length ≤ 100000) : strings_Clone_m N s = some s := by
  unfold strings_Clone_m internal_stringslite_Clone_m
  by_cases h : (s.length : Int) = 0
  · rw [if_pos h]
    have : s = [] := List.eq_nil_of_length_eq_zero (by omega)
    rw [this]; rfl
  · have e : s.take (List.replicate ((s.length : Int)).toNat (0 : UInt8)).length ++ (List.replicate ((s.length : Int)).toNat (0 : UInt8)).drop s.length = s := by
      rw [Int.toNat_natCast, List.length_replicate, List.take_length, List.drop_replicate, Nat.sub_self]
      exact List.append_nil s
    rw [if_neg h, e, ck_pos _ (by omega), ck_pos _ (by omega), ck_pos _ (by omega)]; rfl
theorem clip_s (N : Nat) (s : List UInt8) (hs : s.length ≤ 100000) (hN : s.length < N) (n : Int) (hn : -9223372036854775808 ≤ n ∧ n ≤ 9223372036854775807) : name_Clip_m N s n = some (s.take (posR s n.toNat)) := by
  have hle := posR_le s n.toNat
  rw [name_Clip_m, end_s N s hN n hn, Option.bind_some, ck_pos _ (by omega), Int.toNat_natCast, clone_s N _ (by rw [List.length_take]; omega)]; rfl
/-! ### runes put behind bytes -/
theorem or192 : ∀ n < 32, (192 : UInt8) ||| UInt8.ofNat n = UInt8.ofNat (192 + n) := by decide
theorem or224 : ∀ n < 16, (224 : UInt8) ||| UInt8.ofNat n = UInt8.ofNat (224 + n) := by decide
theorem or240 : ∀ n < 8, (240 : UInt8) ||| UInt8.ofNat n = UInt8.ofNat (240 + n) := by decide
theorem or128 : ∀ n < 256, (128 : UInt8) ||| (UInt8.ofNat n &&& 63) = UInt8.ofNat (128 + n % 64) := by decide +kernel
theorem byteI_of (c : Nat) : byteI (c : Int) = UInt8.ofNat (c % 256) := by
  unfold byteI
  rw [show (c : Int) % 256 = ((c % 256 : Nat) : Int) from by omega, Int.toNat_natCast]
theorem shr_6 (c : Nat) : shrI (c : Int) 6 = ((c / 64 : Nat) : Int) := by
  show Int.fdiv (c : Int) (64 : Int) = _
  rw [Int.fdiv_eq_ediv_of_nonneg _ (by decide)]; omega
theorem shr_12 (c : Nat) : shrI (c : Int) 12 = ((c / 4096 : Nat) : Int) := by
  show Int.fdiv (c : Int) (4096 : Int) = _
  rw [Int.fdiv_eq_ediv_of_nonneg _ (by decide)]; omega
theorem shr_18 (c : Nat) : shrI (c : Int) 18 = ((c / 262144 : Nat) : Int) := by
  show Int.fdiv (c : Int) (262144 : Int) = _
  rw [Int.fdiv_eq_ediv_of_nonneg _ (by decide)]; omega
theorem app_s (N : Nat) (p : List UInt8) (hp : p.length ≤ 1000000) (c : Nat) (h : okR (c : Int)) : unicode_utf8_AppendRune_v1_m N p (c : Int) = some (p ++ runeB (c : Int)) := by
  have h' := h
  unfold okR at h'
  have hu : (((int32 (c : Int)).toNat : Nat) : Int) = (c : Int) := by
    unfold int32
    rw [show (c : Int) % 4294967296 = (c : Int) from by omega, Int.toNat_natCast, UInt32.toNat_ofNat']; omega
  have e128 : ∀ n, n < 256 → ∀ m, n % 64 = m % 64 → (128 : UInt8) ||| (UInt8.ofNat n &&& 63) = UInt8.ofNat (128 + m % 64) := fun n hn m hm => by rw [or128 n hn, hm]
  unfold unicode_utf8_AppendRune_v1_m unicode_utf8_appendRuneNonASCII_v1_m
  rw [hu, runeB_of h]
  by_cases h1 : c < 128
  · rw [if_pos (show (c : Int) ≤ 127 by omega), ck_pos _ (by simp only [List.length_singleton]; omega), if_pos h1, byteI_of, show c % 256 = c from by omega]
  rw [if_neg (show ¬ (c : Int) ≤ 127 by omega), if_neg h1]
  by_cases h2 : c < 2048
  · rw [if_pos (show (c : Int) ≤ 2047 by omega), ck_pos _ (by decide), ck_pos _ (by simp only [List.length_cons, List.length_nil]; omega), Option.bind_some, if_pos h2, shr_6, byteI_of, byteI_of, show c / 64 % 256 = c / 64 from by omega, or192 _ (by omega), e128 _ (by omega) c (by omega)]
  rw [if_neg (show ¬ (c : Int) ≤ 2047 by omega), if_neg h2]
  have k2 : c < 65536 → unicode_utf8_appendRuneNonASCII_v1_k2 p (c : Int) true = some (p ++ [UInt8.ofNat (224 + c / 4096), UInt8.ofNat (128 + c / 64 % 64), UInt8.ofNat (128 + c % 64)]) := fun h3 => by
    unfold unicode_utf8_appendRuneNonASCII_v1_k2
    rw [if_pos rfl, ck_pos _ (by decide), ck_pos _ (by decide), ck_pos _ (by simp only [List.length_cons, List.length_nil]; omega), shr_6, shr_12, byteI_of, byteI_of, byteI_of, show c / 4096 % 256 = c / 4096 from by omega, or224 _ (by omega), e128 _ (by omega) (c / 64) (by omega), e128 _ (by omega) c (by omega)]
  by_cases h3 : c < 65536
  · rw [if_pos h3]
    by_cases h4 : c < 55296
    · rw [if_pos (show (c : Int) < 55296 by omega), decide_eq_true (show (c : Int) < 55296 by omega), k2 h3]; rfl
    · rw [if_neg (show ¬ (c : Int) < 55296 by omega), if_pos (show (57343 : Int) < c by omega), decide_eq_true (show (c : Int) ≤ 65535 by omega), k2 h3]; rfl
  · rw [if_neg h3, if_neg (show ¬ (c : Int) < 55296 by omega), if_pos (show (57343 : Int) < c by omega), decide_eq_false (show ¬ (c : Int) ≤ 65535 by omega)]
    unfold unicode_utf8_appendRuneNonASCII_v1_k2 unicode_utf8_appendRuneNonASCII_v1_k4
    rw [if_neg (by decide), hu, if_pos (show (c : Int) > 65535 by omega), if_pos (decide_eq_true (show (c : Int) ≤ 1114111 by omega)), ck_pos _ (by decide), ck_pos _ (by decide), ck_pos _ (by decide), ck_pos _ (by simp only [List.length_cons, List.length_nil]; omega), shr_6, shr_12, shr_18, byteI_of, byteI_of, byteI_of, byteI_of, show c / 262144 % 256 = c / 262144 from by omega, or240 _ (by omega), e128 _ (by omega) (c / 4096) (by omega), e128 _ (by omega) (c / 64) (by omega), e128 _ (by omega) c (by omega)]; rfl
theorem write_s (N : Nat) (p : List UInt8) (hp : p.length ≤ 1000000) (c : Int) (h : okR c) : strings_Builder_WriteRune_v2b_m N p c = some (((runeB c).length : Int), p ++ runeB c) := by
  have hc := runeB_len c h
  obtain ⟨n, rfl⟩ : ∃ n : Nat, c = (n : Int) := ⟨c.toNat, by unfold okR at h; omega⟩
  unfold strings_Builder_WriteRune_v2b_m strings_Builder_WriteRune_v2_m strings_Builder_copyCheck_v3_m
  rw [Option.bind_some, ck_pos _ rfl, app_s N p hp n h, Option.bind_some, ck_pos _ (by rw [List.length_append]; omega)]
  congr 2
  rw [List.length_append]; omega
/-! ### keys -/
theorem key_loop (N : Nat) (s : List UInt8) (hs : s.length ≤ 10000) : ∀ (m f p : Nat) (acc : List UInt8), s.length ≤ p + m → m < f → p ≤ s.length → acc.length ≤ 4 * p → name_Key_l3 N s f acc p = some (acc ++ rstr ((runesL (s.drop p)).map foldR)) := by
  intro m
  induction m using Nat.strongRecOn with
  | _ m ih =>
  intro f p acc hm hf hp hacc
  obtain ⟨f, rfl⟩ : ∃ n, f = n + 1 := ⟨f - 1, by omega⟩
  rw [name_Key_l3]
  by_cases h : p < s.length
  · obtain ⟨n1, n2⟩ := next_lt h
    have hok : okR (runeAt s p : Int) := by rw [(at_dec h).1]; exact dec_ok _
    have hfo := fold_ok hok
    have hl := runeB_len _ hfo
    have hb : -2147483648 ≤ (runeAt s p : Int) ∧ (runeAt s p : Int) ≤ 2147483647 := by unfold okR at hok; omega
    rw [if_pos h, ck_pos _ h, fold_s N _ hb.1 hb.2, Option.bind_some, write_s N acc (by omega) _ hfo, Option.bind_some, ih (m - 1) (by omega) f (nextP s p) _ (by omega) (by omega) n2 (by rw [List.length_append]; omega), runesL_at h, List.map_cons, rstr, List.append_assoc]
  · rw [if_neg h, runesL_end h]
    unfold strings_Builder_String_v2b_m strings_Builder_String_v2_m
    rw [ck_pos _ (by omega), Option.bind_some]
    simp [rstr]
theorem key_s (N : Nat) (s : List UInt8) (hs : s.length ≤ 10000) (hN : s.length < N) : name_Key_m N s = some (keyB s) := by
  have hg : strings_Builder_Grow_v1_m N (s.length : Int) = some [] := by
    unfold strings_Builder_Grow_v1_m strings_Builder_copyCheck_v1_m strings_Builder_Grow_v1_k1 strings_Builder_grow_v1_m
    rw [Option.bind_some, if_neg (by omega), ck_pos _ (by simp)]
    by_cases h : s = []
    · subst h; rfl
    · have := List.length_pos_iff.mpr h
      rw [if_pos (by simp; omega), ck_pos _ (by omega), ck_pos _ (by omega)]; rfl
  rw [name_Key_m, hg, Option.bind_some, key_loop N s hs s.length N 0 [] (by omega) hN (by omega) (by simp), List.drop_zero]; rfl
theorem alike_s (N : Nat) (a b : List UInt8) (ha : a.length ≤ 10000) (hb : b.length ≤ 10000) (hN : a.length < N) (hN' : b.length < N) : name_Alike_m N a b = some (keyB a == keyB b) := by
  rw [name_Alike_m, key_s N a ha hN, Option.bind_some, key_s N b hb hN']; rfl
/-! ### lists -/
theorem idx_loop (N : Nat) (l : List (List UInt8)) (s : List UInt8) (hN : 3000 < N) (hl : l.length ≤ 30) (hall : ∀ j, j < l.length → (l[j]!).length ≤ 300) : ∀ (k f i : Nat), i + k = l.length → k < f → slices_IndexFunc___string_string__v1_l2 N l (keyB s) f (i : Int) = some (idxF (fun x => keyB x == keyB s) (l.drop i) i) := by
  intro k
  induction k with
  | zero =>
    intro f i hi hf
    obtain ⟨f, rfl⟩ : ∃ n, f = n + 1 := ⟨f - 1, by omega⟩
    rw [slices_IndexFunc___string_string__v1_l2, if_neg (by omega), List.drop_of_length_le (by omega)]; rfl
  | succ k ih =>
    intro f i hi hf
    obtain ⟨f, rfl⟩ : ∃ n, f = n + 1 := ⟨f - 1, by omega⟩
    have e1 : (i : Int) + 1 = ((i + 1 : Nat) : Int) := by omega
    have hd : l.drop i = l[i]! :: l.drop (i + 1) := by rw [List.drop_eq_getElem_cons (by omega), getElem!_pos l i (by omega)]
    have hi300 := hall i (by omega)
    rw [slices_IndexFunc___string_string__v1_l2, if_pos (by omega), ck_pos _ (by omega), Int.toNat_natCast, name_Index_1_v1_m, key_s N _ (by omega) (by omega), Option.bind_some, Option.bind_some, hd, idxF]
    by_cases h : (keyB (l[i]!) == keyB s) = true
    · rw [if_pos h, if_pos h]
    · rw [if_neg h, if_neg h, ck_pos _ (by omega), e1]
      exact ih f (i + 1) (by omega) (by omega)
theorem index_s (N : Nat) (l : List (List UInt8)) (s : List UInt8) (hN : 3000 < N) (hl : l.length ≤ 30) (hs : s.length ≤ 300) (hall : ∀ j, j < l.length → (l[j]!).length ≤ 300) : name_Index_m N l s = some (idxF (fun x => keyB x == keyB s) l 0) := by
  have := idx_loop N l s hN hl hall l.length N 0 (by omega) (by omega)
  rw [name_Index_m, key_s N s (by omega) (by omega), Option.bind_some, slices_IndexFunc___string_string__v1_m, show (0 : Int) = ((0 : Nat) : Int) from rfl, this, List.drop_zero]; rfl
end Go.Proofs.Ytniakkkjiifelaa
