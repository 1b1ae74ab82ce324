/- Letters, digits and names: what the program's functions answer. Conditions: none but those written. -/
import Derived.Test.YtdgejbbelmhbdaaRp
import Derived.Test.YtdgejbbelmhbdaaBf
namespace Go.Proofs.Ytdgejbbelmhbdaa
open Go Go.RowKit Go.Eng
theorem within_s (N : Nat) (c a b : Int) : name_within_m N c a b = some (decide (a ≤ c ∧ c ≤ b)) := by
  unfold name_within_m
  by_cases h : c ≥ a
  · rw [if_pos h]
    by_cases h1 : c ≤ b
    · rw [decide_eq_true h1, decide_eq_true ⟨h, h1⟩]
    · rw [decide_eq_false h1, decide_eq_false (fun h2 => h1 h2.2)]
  · rw [if_neg h, decide_eq_false (fun h2 => h h2.1)]
theorem or_s {p : Prop} [Decidable p] (q : Bool) : (if p then some true else some q) = some (decide p || q) := by
  by_cases h : p <;> simp [h]
theorem letter_k (N : Nat) (c : Int) (h : c ≠ 215 ∧ c ≠ 247 ∧ c ≠ 930) : name_Letter_k1 N c = some (letR c) := by
  unfold name_Letter_k1
  simp only [within_s, Option.bind_some, or_s, decide_eq_true_eq]
  congr 1
  unfold letR
  rw [Bool.eq_iff_iff]
  simp only [Bool.or_eq_true, decide_eq_true_eq]
  omega
theorem letter_s (N : Nat) (c : Int) : name_Letter_m N c = some (letR c) := by
  unfold name_Letter_m
  by_cases h1 : c = 215
  · subst h1; rfl
  by_cases h2 : c = 247
  · subst h2; rfl
  by_cases h3 : c = 930
  · subst h3; rfl
  rw [if_neg h1, if_neg h2, if_neg h3]
  exact letter_k N c ⟨h1, h2, h3⟩
theorem ndigit_s (N : Nat) (c : Int) : name_Digit_m N c = some (decide (48 ≤ c ∧ c ≤ 57)) := by
  unfold name_Digit_m; rw [within_s]; rfl
theorem stand_s (N : Nat) (c k : Int) : name_mayStand_m N c k = some (if k > 0 then inR c else letR c) := by
  unfold name_mayStand_m
  rw [letter_s, Option.bind_some, ndigit_s]
  by_cases hl : letR c = true
  · rw [if_pos hl]; split <;> simp [inR, hl]
  · rw [if_neg hl]
    by_cases hk : k > 0
    · rw [if_pos hk, if_pos hk, Option.bind_some]
      simp only [decide_eq_true_eq, or_s]
      congr 1
      unfold inR
      have hl' : letR c = false := by simpa using hl
      rw [hl', Bool.false_or, Bool.eq_iff_iff]
      simp only [Bool.or_eq_true, decide_eq_true_eq, beq_iff_eq]
    · rw [if_neg hk, if_neg hk]; simp at hl; rw [hl]
theorem may_loop (N : Nat) (s : List UInt8) : ∀ (m f k p : Nat), s.length ≤ p + m → m < f → p ≤ s.length → 1 ≤ k → k ≤ 24 → name_May_l3 N s f (k : Int) p = some (decide (k + (runesL (s.drop p)).length ≤ 24) && (runesL (s.drop p)).all inR) := by
  intro m
  induction m using Nat.strongRecOn with
  | _ m ih =>
  intro f k p hm hf hp hk1 hk
  obtain ⟨f, rfl⟩ : ∃ n, f = n + 1 := ⟨f - 1, by omega⟩
  rw [name_May_l3]
  by_cases h : p < s.length
  · obtain ⟨n1, n2⟩ := next_lt h
    rw [if_pos h, ck_pos _ h, runesL_at h]
    by_cases h24 : k = 24
    · subst h24
      rw [if_pos (show ((24 : Nat) : Int) = 24 from rfl), List.length_cons, decide_eq_false (by omega)]; rfl
    · rw [if_neg (show ¬ (k : Int) = 24 by omega), stand_s, Option.bind_some, if_pos (show (k : Int) > 0 by omega)]
      by_cases hi : inR (runeAt s p : Int) = true
      · have e : (k : Int) + 1 = ((k + 1 : Nat) : Int) := by omega
        rw [if_pos hi, ck_pos _ (by omega), e, ih (m - 1) (by omega) f (k + 1) (nextP s p) (by omega) (by omega) n2 (by omega) (by omega), List.length_cons, List.all_cons, hi, Bool.true_and]
        congr 2
        exact decide_eq_decide.mpr (by omega)
      · rw [if_neg hi, List.all_cons]
        simp at hi
        rw [hi]; simp
  · rw [if_neg h, runesL_end h]
    have : decide ((k : Int) > 0) = true := decide_eq_true (by omega)
    rw [this]
    simp [hk]
theorem may_s (N : Nat) (s : List UInt8) (hN : s.length + 1 < N) : name_May_m N s = some (mayL (runesL s)) := by
  obtain ⟨f, rfl⟩ : ∃ n, N = n + 1 := ⟨N - 1, by omega⟩
  have e0 : s = s.drop 0 := by simp
  rw [name_May_m, name_May_l3]
  by_cases h : 0 < s.length
  · obtain ⟨n1, n2⟩ := next_lt h
    have er := runesL_at h
    rw [← e0] at er
    rw [if_pos h, ck_pos _ h, if_neg (show ¬ (0 : Int) = 24 by omega), stand_s, Option.bind_some, if_neg (show ¬ (0 : Int) > 0 by omega), er]
    unfold mayL
    rw [List.getElem!_cons_zero]
    by_cases hi : letR (runeAt s 0 : Int) = true
    · have hin : inR (runeAt s 0 : Int) = true := by unfold inR; rw [hi]; rfl
      have := may_loop (f + 1) s s.length f 1 (nextP s 0) (by omega) (by omega) n2 (by omega) (by omega)
      rw [if_pos hi, ck_pos _ (by omega), show (0 : Int) + 1 = ((1 : Nat) : Int) from rfl, this, List.length_cons, List.all_cons, hi, hin, Bool.true_and, Bool.and_true]
      congr 2
      exact decide_eq_decide.mpr (by omega)
    · rw [if_neg hi]
      simp at hi
      rw [hi]; simp
  · rw [if_neg h]
    have : s = [] := List.eq_nil_of_length_eq_zero (by omega)
    subst this; rfl
end Go.Proofs.Ytdgejbbelmhbdaa
