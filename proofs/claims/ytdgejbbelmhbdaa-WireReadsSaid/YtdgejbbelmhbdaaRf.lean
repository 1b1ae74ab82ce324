/- The reference of layer 5: the models' answers. Conditions: none. -/
import Derived.Test.YtdgejbbelmhbdaaRb
import Derived.Test.YtdgejbbelmhbdaaRp
import Derived.Test.YtdgejbbelmhbdaaBf
namespace Go.Proofs.Ytdgejbbelmhbdaa
open Go Go.RowKit Go.Eng
theorem refrunes_loop (N : Nat) : ∀ (f : Nat) (s : List UInt8) (l : List Int), s.length < f → l.length + s.length ≤ 100000 → shunterref05_Runes_l3 N f s l = some (l ++ runesL s) := by
  intro f
  induction f with
  | zero => intro s l h; omega
  | succ f ih =>
    intro s l h hl
    rw [shunterref05_Runes_l3]
    by_cases hs : s = []
    · subst hs
      rw [if_neg (by simp), runesL_nil, List.append_nil]
    · have hpos := List.length_pos_iff.mpr hs
      have hw := dec_w s hs
      have e : ((dec s).2 : Int).toNat = (dec s).2 := Int.toNat_natCast _
      rw [if_pos (by omega), first_s N s hs, Option.bind_some]
      simp only [e]
      rw [ck_pos _ (by simp only [List.length_singleton]; omega), ck_pos _ (by omega), ih _ _ (by rw [List.length_drop]; omega) (by rw [List.length_append, List.length_singleton, List.length_drop]; omega), runesL_cons hs, List.append_assoc]
      rfl
theorem refrunes_s (N : Nat) (s : List UInt8) (hb : s.length ≤ 100000) (hN : s.length < N) : shunterref05_Runes_m N s = some (runesL s) := by
  rw [shunterref05_Runes_m, refrunes_loop N N s [] hN (by simpa using hb), List.nil_append]
/-- a letter? -/
theorem letT {c : Int} (h : ((65 ≤ c ∧ c ≤ 90) ∨ (97 ≤ c ∧ c ≤ 122) ∨ c = 95 ∨ (192 ≤ c ∧ c ≤ 591) ∨ (913 ≤ c ∧ c ≤ 969) ∨ (1024 ≤ c ∧ c ≤ 1279)) ∧ c ≠ 215 ∧ c ≠ 247 ∧ c ≠ 930) : some true = some (letR c) := congrArg some (decide_eq_true h).symm
theorem letF {c : Int} (h : ¬ (((65 ≤ c ∧ c ≤ 90) ∨ (97 ≤ c ∧ c ≤ 122) ∨ c = 95 ∨ (192 ≤ c ∧ c ≤ 591) ∨ (913 ≤ c ∧ c ≤ 969) ∨ (1024 ≤ c ∧ c ≤ 1279)) ∧ c ≠ 215 ∧ c ≠ 247 ∧ c ≠ 930)) : some false = some (letR c) := congrArg some (decide_eq_false h).symm
theorem letD {c : Int} {p : Prop} [Decidable p] (h : p ↔ (((65 ≤ c ∧ c ≤ 90) ∨ (97 ≤ c ∧ c ≤ 122) ∨ c = 95 ∨ (192 ≤ c ∧ c ≤ 591) ∨ (913 ≤ c ∧ c ≤ 969) ∨ (1024 ≤ c ∧ c ≤ 1279)) ∧ c ≠ 215 ∧ c ≠ 247 ∧ c ≠ 930)) : some (decide p) = some (letR c) := congrArg some (decide_eq_decide.mpr h)
theorem letk2_s (c : Int) (h : ¬ ((65 ≤ c ∧ c ≤ 90) ∨ (97 ≤ c ∧ c ≤ 122) ∨ c = 95)) (h1 : c ≠ 215 ∧ c ≠ 247 ∧ c ≠ 930) : shunterref05_Letter_k2 c = some (letR c) := by
  unfold shunterref05_Letter_k2
  by_cases a1 : c ≥ 192
  · rw [if_pos a1]
    by_cases a2 : c ≤ 591
    · rw [if_pos a2]; exact letT (by omega)
    · rw [if_neg a2]
      by_cases a3 : c ≥ 913
      · rw [if_pos a3]
        by_cases a4 : c ≤ 969
        · rw [if_pos a4]; exact letT (by omega)
        · rw [if_neg a4]
          by_cases a5 : c ≥ 1024
          · rw [if_pos a5]; exact letD (by omega)
          · rw [if_neg a5]; exact letF (by omega)
      · rw [if_neg a3, if_neg (by omega)]; exact letF (by omega)
  · rw [if_neg a1, if_neg (by omega), if_neg (by omega)]; exact letF (by omega)
theorem letk1_s (c : Int) (h : ¬ ((65 ≤ c ∧ c ≤ 90) ∨ (97 ≤ c ∧ c ≤ 122) ∨ c = 95)) : shunterref05_Letter_k1 c = some (letR c) := by
  unfold shunterref05_Letter_k1
  by_cases a1 : c = 215
  · rw [if_pos a1]; exact letF (by omega)
  · rw [if_neg a1]
    by_cases a2 : c = 247
    · rw [if_pos a2]; exact letF (by omega)
    · rw [if_neg a2]
      by_cases a3 : c = 930
      · rw [if_pos a3]; exact letF (by omega)
      · rw [if_neg a3, letk2_s c h ⟨a1, a2, a3⟩]
theorem refletter_s (N : Nat) (c : Int) : shunterref05_Letter_m N c = some (letR c) := by
  unfold shunterref05_Letter_m
  have key : (if c = 95 then some true else shunterref05_Letter_k1 c) = some (letR c) ∨ ((65 ≤ c ∧ c ≤ 90) ∨ (97 ≤ c ∧ c ≤ 122)) := by
    by_cases h : (65 ≤ c ∧ c ≤ 90) ∨ (97 ≤ c ∧ c ≤ 122)
    · exact .inr h
    · left
      by_cases h1 : c = 95
      · rw [if_pos h1]; exact letT (by omega)
      · rw [if_neg h1, letk1_s c (by omega)]
  have fin : ¬ ((65 ≤ c ∧ c ≤ 90) ∨ (97 ≤ c ∧ c ≤ 122)) → (if c = 95 then some true else shunterref05_Letter_k1 c) = some (letR c) := fun h => key.resolve_right h
  by_cases a1 : c ≥ 65
  · rw [if_pos a1]
    by_cases a2 : c ≤ 90
    · rw [if_pos a2]; exact letT (by omega)
    · rw [if_neg a2]
      by_cases a3 : c ≥ 97
      · rw [if_pos a3]
        by_cases a4 : c ≤ 122
        · rw [if_pos a4]; exact letT (by omega)
        · rw [if_neg a4]; exact fin (by omega)
      · rw [if_neg a3]; exact fin (by omega)
  · rw [if_neg a1, if_neg (by omega)]; exact fin (by omega)
end Go.Proofs.Ytdgejbbelmhbdaa
