/- Layer 5: what the program's functions answer. Conditions: texts of at most 2000 bytes, fuel above 3000. -/
import Derived.Test.YtniakkkjiifelaaRL
namespace Go.Proofs.Ytniakkkjiifelaa
open Go Go.RowKit Go.Eng
/-! ### letters -/
theorem within_s (N : Nat) (c a b : Int) : name_within_m N c a b = some (decide (a ≤ c ∧ c ≤ b)) := by
  unfold name_within_m
  by_cases h : c ≥ a
  · rw [if_pos h]
    by_cases h1 : c ≤ b
    · rw [decide_eq_true h1, decide_eq_true ⟨h, h1⟩]
    · rw [decide_eq_false h1, decide_eq_false (fun h2 => h1 h2.2)]
  · rw [if_neg h, decide_eq_false (fun h2 => h h2.1)]
theorem or_s {p : Prop} [Decidable p] (q : Bool) : (if p then some true else some q) = some (decide p || q) := by
  by_cases h : p <;> simp [h]
theorem letter_k (N : Nat) (c : Int) (h : c ≠ 215 ∧ c ≠ 247 ∧ c ≠ 930) : name_Letter_k1 N c = some (letR c) := by
  unfold name_Letter_k1
  simp only [within_s, Option.bind_some, or_s, decide_eq_true_eq]
  congr 1
  unfold letR
  rw [Bool.eq_iff_iff]
  simp only [Bool.or_eq_true, decide_eq_true_eq]
  omega
theorem letter_s (N : Nat) (c : Int) : name_Letter_m N c = some (letR c) := by
  unfold name_Letter_m
  by_cases h1 : c = 215
  · subst h1; rfl
  by_cases h2 : c = 247
  · subst h2; rfl
  by_cases h3 : c = 930
  · subst h3; rfl
  rw [if_neg h1, if_neg h2, if_neg h3]
  exact letter_k N c ⟨h1, h2, h3⟩
theorem digit_s (N : Nat) (c : Int) : name_Digit_m N c = some (decide (48 ≤ c ∧ c ≤ 57)) := by
  unfold name_Digit_m; rw [within_s]; rfl
theorem wrap32 {x : Int} (h : -2147483648 ≤ x ∧ x ≤ 2147483647) : IntKind.i32.wrap x = x := by
  rw [IntKind.wrap_i32]; omega
theorem foldk_s (N : Nat) (c : Int) (h0 : -2147483648 ≤ c) (h1 : c ≤ 2147483647) (x : Bool) (hl : letR c = true) (hx : x = true ↔ ((65 ≤ c ∧ c ≤ 90) ∨ (192 ≤ c ∧ c ≤ 222) ∨ (913 ≤ c ∧ c ≤ 937) ∨ (1040 ≤ c ∧ c ≤ 1071))) : name_Fold_k2 N c x = some (foldR c) := by
  unfold letR at hl
  rw [decide_eq_true_eq] at hl
  unfold name_Fold_k2 foldR
  simp only [within_s, Option.bind_some, decide_eq_true_eq]
  by_cases h : x = true
  · have h2 := hx.mp h
    rw [if_pos h, if_pos (by omega), wrap32 (by omega)]
  · have h2 : ¬ _ := fun e => h (hx.mpr e)
    rw [if_neg h]
    by_cases h3 : 1024 ≤ c ∧ c ≤ 1039
    · rw [if_pos h3, if_neg (by omega), if_pos h3, wrap32 (by omega)]
    · rw [if_neg h3]
      by_cases h4 : c = 962
      · rw [if_pos h4, if_neg (by omega), if_neg h3, if_pos h4]
      · rw [if_neg h4, if_neg (by omega), if_neg h3, if_neg h4]
theorem fold_s (N : Nat) (c : Int) (h0 : -2147483648 ≤ c) (h1 : c ≤ 2147483647) : name_Fold_m N c = some (foldR c) := by
  unfold name_Fold_m
  rw [letter_s, Option.bind_some]
  by_cases hl : letR c = true
  · rw [if_pos hl]
    simp only [within_s, Option.bind_some, decide_eq_true_eq]
    by_cases g1 : 65 ≤ c ∧ c ≤ 90
    · rw [if_pos g1]; exact foldk_s N c h0 h1 _ hl (by rw [decide_eq_true_eq]; omega)
    rw [if_neg g1]
    by_cases g2 : 192 ≤ c ∧ c ≤ 222
    · rw [if_pos g2]; exact foldk_s N c h0 h1 _ hl (by rw [decide_eq_true_eq]; omega)
    rw [if_neg g2]
    by_cases g3 : 913 ≤ c ∧ c ≤ 937
    · rw [if_pos g3]; exact foldk_s N c h0 h1 _ hl (by rw [decide_eq_true_eq]; omega)
    rw [if_neg g3]
    exact foldk_s N c h0 h1 _ hl (by rw [decide_eq_true_eq]; omega)
  · rw [if_neg hl]
    unfold letR at hl
    rw [decide_eq_true_eq] at hl
    unfold foldR
    rw [if_neg (by omega), if_neg (by omega), if_neg (by omega)]
/-! ### names -/
theorem stand_s (N : Nat) (c k : Int) : name_mayStand_m N c k = some (if k > 0 then inR c else letR c) := by
  unfold name_mayStand_m
  rw [letter_s, Option.bind_some, digit_s]
  by_cases hl : letR c = true
  · rw [if_pos hl]; split <;> simp [inR, hl]
  · rw [if_neg hl]
    by_cases hk : k > 0
    · rw [if_pos hk, if_pos hk, Option.bind_some]
      simp only [decide_eq_true_eq, or_s]
      congr 1
      unfold inR
      have hl' : letR c = false := by simpa using hl
      rw [hl', Bool.false_or, Bool.eq_iff_iff]
      simp only [Bool.or_eq_true, decide_eq_true_eq, beq_iff_eq]
    · rw [if_neg hk, if_neg hk]; simp at hl; rw [hl]
theorem may_loop (N : Nat) (s : List UInt8) : ∀ (m f k p : Nat), s.length ≤ p + m → m < f → p ≤ s.length → 1 ≤ k → k ≤ 24 → name_May_l3 N s f (k : Int) p = some (decide (k + (runesL (s.drop p)).length ≤ 24) && (runesL (s.drop p)).all inR) := by
  intro m
  induction m using Nat.strongRecOn with
  | _ m ih =>
  intro f k p hm hf hp hk1 hk
  obtain ⟨f, rfl⟩ : ∃ n, f = n + 1 := ⟨f - 1, by omega⟩
  rw [name_May_l3]
  by_cases h : p < s.length
  · obtain ⟨n1, n2⟩ := next_lt h
    rw [if_pos h, ck_pos _ h, runesL_at h]
    by_cases h24 : k = 24
    · subst h24
      rw [if_pos (show ((24 : Nat) : Int) = 24 from rfl), List.length_cons, decide_eq_false (by omega)]; rfl
    · rw [if_neg (show ¬ (k : Int) = 24 by omega), stand_s, Option.bind_some, if_pos (show (k : Int) > 0 by omega)]
      by_cases hi : inR (runeAt s p : Int) = true
      · have e : (k : Int) + 1 = ((k + 1 : Nat) : Int) := by omega
        rw [if_pos hi, ck_pos _ (by omega), e, ih (m - 1) (by omega) f (k + 1) (nextP s p) (by omega) (by omega) n2 (by omega) (by omega), List.length_cons, List.all_cons, hi, Bool.true_and]
        congr 2
        exact decide_eq_decide.mpr (by omega)
      · rw [if_neg hi, List.all_cons]
        simp at hi
        rw [hi]; simp
  · rw [if_neg h, runesL_end h]
    have : decide ((k : Int) > 0) = true := decide_eq_true (by omega)
    rw [this]
    simp [hk]
theorem may_s (N : Nat) (s : List UInt8) (hN : s.length + 1 < N) : name_May_m N s = some (mayL (runesL s)) := by
  obtain ⟨f, rfl⟩ : ∃ n, N = n + 1 := ⟨N - 1, by omega⟩
  have e0 : s = s.drop 0 := by simp
  rw [name_May_m, name_May_l3]
  by_cases h : 0 < s.length
  · obtain ⟨n1, n2⟩ := next_lt h
    have er := runesL_at h
    rw [← e0] at er
    rw [if_pos h, ck_pos _ h, if_neg (show ¬ (0 : Int) = 24 by omega), stand_s, Option.bind_some, if_neg (show ¬ (0 : Int) > 0 by omega), er]
    unfold mayL
    rw [List.getElem!_cons_zero]
    by_cases hi : letR (runeAt s 0 : Int) = true
    · have hin : inR (runeAt s 0 : Int) = true := by unfold inR; rw [hi]; rfl
      have := may_loop (f + 1) s s.length f 1 (nextP s 0) (by omega) (by omega) n2 (by omega) (by omega)
      rw [if_pos hi, ck_pos _ (by omega), show (0 : Int) + 1 = ((1 : Nat) : Int) from rfl, this, List.length_cons, List.all_cons, hi, hin, Bool.true_and, Bool.and_true]
      congr 2
      exact decide_eq_decide.mpr (by omega)
    · rw [if_neg hi]
      simp at hi
      rw [hi]; simp
  · rw [if_neg h]
    have : s = [] := List.eq_nil_of_length_eq_zero (by omega)
    subst this; rfl
/-! ### runes -/
theorem len_loop (s : List UInt8) (hs : s.length ≤ 100000) : ∀ (m f k p : Nat), s.length ≤ p + m → m < f → p ≤ s.length → k ≤ p → name_Len_l3 s f (k : Int) p = some (((k + (runesL (s.drop p)).length : Nat)) : Int) := by
  intro m
  induction m using Nat.strongRecOn with
  | _ m ih =>
  intro f k p hm hf hp hk
  obtain ⟨f, rfl⟩ : ∃ n, f = n + 1 := ⟨f - 1, by omega⟩
  rw [name_Len_l3]
  by_cases h : p < s.length
  · obtain ⟨n1, n2⟩ := next_lt h
    have e : (k : Int) + 1 = ((k + 1 : Nat) : Int) := by omega
    rw [if_pos h, ck_pos _ (by omega), e, ih (m - 1) (by omega) f (k + 1) (nextP s p) (by omega) (by omega) n2 (by omega), runesL_at h, List.length_cons]
    congr 2; omega
  · rw [if_neg h, runesL_end h]; rfl
theorem len_s (N : Nat) (s : List UInt8) (hs : s.length ≤ 100000) (hN : s.length < N) : name_Len_m N s = some ((runesL s).length : Int) := by
  have := len_loop s hs s.length N 0 0 (by omega) hN (by omega) (by omega)
  rw [List.drop_zero, Nat.zero_add] at this
  exact this
theorem runes_loop (s : List UInt8) (hs : s.length ≤ 100000) : ∀ (m f p : Nat) (l : List Int), s.length ≤ p + m → m < f → p ≤ s.length → l.length ≤ p → name_Runes_l3 s f l p = some (l ++ runesL (s.drop p)) := by
  intro m
  induction m using Nat.strongRecOn with
  | _ m ih =>
  intro f p l hm hf hp hl
  obtain ⟨f, rfl⟩ : ∃ n, f = n + 1 := ⟨f - 1, by omega⟩
  rw [name_Runes_l3]
  by_cases h : p < s.length
  · obtain ⟨n1, n2⟩ := next_lt h
    rw [if_pos h, ck_pos _ h, ck_pos _ (by simp only [List.length_cons, List.length_nil]; omega), ih (m - 1) (by omega) f (nextP s p) _ (by omega) (by omega) n2 (by rw [List.length_append, List.length_singleton]; omega), runesL_at h, List.append_assoc]; rfl
  · rw [if_neg h, runesL_end h, List.append_nil]
theorem runes_s (N : Nat) (s : List UInt8) (hs : s.length ≤ 100000) (hN : s.length < N) : name_Runes_m N s = some (runesL s) := by
  have hl := runesL_len s
  rw [name_Runes_m, len_s N s hs hN, Option.bind_some, ck_pos _ (by omega), runes_loop s hs s.length N 0 [] (by omega) hN (by omega) (by simp), List.drop_zero]; rfl
end Go.Proofs.Ytniakkkjiifelaa
