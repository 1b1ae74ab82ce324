/- The reference of layer 5: names, first runes, places. Conditions: none. -/
import Derived.Test.YtniakkkjiifelaaRg
import Derived.Test.YtniakkkjiifelaaBb
import Derived.Test.YtniakkkjiifelaaBc
namespace Go.Proofs.Ytniakkkjiifelaa
open Go Go.RowKit Go.Eng
theorem dropI (l : List Int) (i : Nat) (h : i < l.length) : l.drop i = l[i]! :: l.drop (i + 1) := by rw [List.drop_eq_getElem_cons h, getElem!_pos l i h]
theorem refmay_loop (N : Nat) (l : List Int) (hl : l.length ≤ 100000) : ∀ (k f i : Nat), i + k = l.length → k < f → shunterref05_May_l3 N l f (i : Int) = some ((l.drop i).all inR) := by
  intro k
  induction k with
  | zero =>
    intro f i hi hf
    obtain ⟨f, rfl⟩ : ∃ n, f = n + 1 := ⟨f - 1, by omega⟩
    rw [shunterref05_May_l3, if_neg (by omega), List.drop_of_length_le (by omega)]; rfl
  | succ k ih =>
    intro f i hi hf
    obtain ⟨f, rfl⟩ : ∃ n, f = n + 1 := ⟨f - 1, by omega⟩
    have e1 : (i : Int) + 1 = ((i + 1 : Nat) : Int) := by omega
    have g : (0 : Int) ≤ (i : Int) ∧ (i : Int) < (l.length : Int) := by omega
    rw [shunterref05_May_l3, if_pos (by omega), ck_pos _ g, refletter_s, Option.bind_some]
    simp only [ck_pos _ g]
    rw [ck_pos _ (by omega), e1, ih f (i + 1) (by omega) (by omega), Int.toNat_natCast, dropI l i (by omega), List.all_cons]
    generalize l[i]! = c
    unfold inR
    by_cases h1 : letR c = true
    · rw [if_pos h1, h1]; rfl
    · have h1' : letR c = false := by simpa using h1
      rw [if_neg h1, h1', Bool.false_or]
      have yes : ((48 ≤ c ∧ c ≤ 57) ∨ c = 45 ∨ c = 46) → some ((l.drop (i + 1)).all inR) = some (decide ((48 ≤ c ∧ c ≤ 57) ∨ c = 45 ∨ c = 46) && (l.drop (i + 1)).all inR) := fun h => by rw [decide_eq_true h]; rfl
      have no : ¬ ((48 ≤ c ∧ c ≤ 57) ∨ c = 45 ∨ c = 46) → some false = some (decide ((48 ≤ c ∧ c ≤ 57) ∨ c = 45 ∨ c = 46) && (l.drop (i + 1)).all inR) := fun h => by rw [decide_eq_false h]; rfl
      have tail : ¬ (48 ≤ c ∧ c ≤ 57) → (if c ≠ 45 then if c ≠ 46 then some false else some ((l.drop (i + 1)).all inR) else some ((l.drop (i + 1)).all inR)) = some (decide ((48 ≤ c ∧ c ≤ 57) ∨ c = 45 ∨ c = 46) && (l.drop (i + 1)).all inR) := fun h => by
        by_cases a : c ≠ 45
        · rw [if_pos a]
          by_cases b : c ≠ 46
          · rw [if_pos b]; exact no (by omega)
          · rw [if_neg b]; exact yes (by omega)
        · rw [if_neg a]; exact yes (by omega)
      by_cases h2 : c ≥ 48
      · rw [if_pos h2]
        by_cases h3 : c ≤ 57
        · rw [if_pos h3]; exact yes (.inl ⟨h2, h3⟩)
        · rw [if_neg h3]; exact tail (by omega)
      · rw [if_neg h2]; exact tail (by omega)
theorem refmay_s (N : Nat) (s : List UInt8) (hb : s.length ≤ 100000) (hN : s.length < N) : shunterref05_May_m N s = some (mayL (runesL s)) := by
  have hl := runesL_len s
  rw [shunterref05_May_m, refrunes_s N s hb hN, Option.bind_some]
  generalize runesL s = l at hl
  unfold mayL
  by_cases h1 : (l.length : Int) < 1
  · rw [if_pos h1, decide_eq_false (by omega)]; rfl
  rw [if_neg h1]
  by_cases h2 : (l.length : Int) > 24
  · rw [if_pos h2, decide_eq_false (by omega)]; rfl
  rw [if_neg h2, decide_eq_true (by omega), ck_pos _ (by omega), refletter_s, Option.bind_some, Bool.true_and]
  show (if letR (l[0]!) = true then _ else _) = _
  by_cases h3 : letR (l[0]!) = true
  · rw [if_pos h3, h3, shunterref05_May_k1]
    exact refmay_loop N l (by omega) l.length N 0 (by omega) (by omega)
  · have h3' : letR (l[0]!) = false := by simpa using h3
    rw [if_neg h3, h3']; rfl
/-! ### first runes -/
/-- how many bytes the first k runes have -/
def posR (s : List UInt8) : Nat → Nat
  | 0 => 0
  | k + 1 => nextP s (posR s k)
theorem nextP_end {s : List UInt8} {p : Nat} (h : ¬ p < s.length) : nextP s p = p := by unfold nextP; rw [if_neg h]
theorem posR_le (s : List UInt8) (k : Nat) : posR s k ≤ s.length := by
  induction k with
  | zero => exact Nat.zero_le _
  | succ k ih =>
    rw [posR]
    by_cases h : posR s k < s.length
    · exact (next_lt h).2
    · rw [nextP_end h]; exact ih
theorem posR_end {s : List UInt8} {k : Nat} (h : ¬ posR s k < s.length) : ∀ j, posR s (k + j) = posR s k
  | 0 => rfl
  | j + 1 => by rw [← Nat.add_assoc, posR, posR_end h j, nextP_end h]
theorem posR_ge {s : List UInt8} {k : Nat} (h : posR s k < s.length) : k ≤ posR s k := by
  induction k with
  | zero => exact Nat.zero_le _
  | succ k ih =>
    by_cases h1 : posR s k < s.length
    · have := (next_lt h1).1
      have := ih h1
      rw [posR]; omega
    · have e : posR s (k + 1) = posR s k := posR_end h1 1
      rw [e] at h; exact absurd h h1
theorem posR_runes (s : List UInt8) (k : Nat) (h : posR s k < s.length ∨ k = 0) : (runesL (s.drop (posR s k))).length + k = (runesL s).length := by
  induction k with
  | zero => rw [posR]; rfl
  | succ k ih =>
    have h1 : posR s k < s.length := by
      by_cases h1 : posR s k < s.length
      · exact h1
      · have e : posR s (k + 1) = posR s k := posR_end h1 1
        rw [e] at h; omega
    have := ih (.inl h1)
    rw [runesL_at h1, List.length_cons] at this
    rw [posR]; omega
/-- all runes are the text -/
theorem posR_all (s : List UInt8) : posR s (runesL s).length = s.length := by
  by_cases h : posR s (runesL s).length < s.length
  · have h1 := posR_runes s _ (.inl h)
    have h2 := runesL_at h
    have h3 := congrArg List.length h2
    rw [List.length_cons] at h3; omega
  · have := posR_le s (runesL s).length; omega
theorem refclip_loop (N : Nat) (s : List UInt8) (hs : s.length ≤ 100000) (n : Int) (hn : -9223372036854775808 ≤ n ∧ n ≤ 9223372036854775807) : ∀ (m f k : Nat), s.length ≤ posR s k + m → m < f → ((k : Int) ≤ n ∨ k = 0) →
    shunterref05_Clip_l3 N s f (n - (k : Int)) (posR s k : Int) = some (s.take (posR s n.toNat)) := by
  intro m
  induction m using Nat.strongRecOn with
  | _ m ih =>
  intro f k hm hf hk
  obtain ⟨f, rfl⟩ : ∃ n, f = n + 1 := ⟨f - 1, by omega⟩
  have hle := posR_le s k
  rw [shunterref05_Clip_l3]
  by_cases h1 : (posR s k : Int) < (s.length : Int)
  · have h1' : posR s k < s.length := by omega
    rw [if_pos h1]
    by_cases h2 : n - (k : Int) > 0
    · obtain ⟨a1, a2⟩ := at_dec h1'
      obtain ⟨n1, n2⟩ := next_lt h1'
      have hge := posR_ge h1'
      have e2 : (posR s k : Int) + ((dec (s.drop (posR s k))).2 : Int) = (posR s (k + 1) : Int) := by rw [posR, a2]; omega
      have e3 : n - (k : Int) - 1 = n - ((k + 1 : Nat) : Int) := by omega
      have e4 : posR s (k + 1) = nextP s (posR s k) := rfl
      rw [if_pos h2, shunterref05_Clip_k4, ck_pos _ (by omega), Int.toNat_natCast, first_s N _ (drop_ne h1'), Option.bind_some]
      simp only [e2, e3]
      rw [ck_pos _ (by omega), ck_pos _ (by omega)]
      exact ih (m - 1) (by omega) f (k + 1) (by omega) (by omega) (.inl (by omega))
    · have e : n.toNat = k := by omega
      rw [if_neg h2, ck_pos _ (by omega), Int.toNat_natCast, e]
  · rw [if_neg h1, ck_pos _ (by omega), Int.toNat_natCast]
    rcases hk with hk | rfl
    · obtain ⟨j, hj⟩ : ∃ j, n.toNat = k + j := ⟨n.toNat - k, by omega⟩
      rw [hj, posR_end (by omega)]
    · have hz : ¬ posR s 0 < s.length := by omega
      have := posR_end hz n.toNat
      rw [Nat.zero_add] at this
      rw [this]
theorem refclip_s (N : Nat) (s : List UInt8) (hs : s.length ≤ 100000) (hN : s.length < N) (n : Int) (hn : -9223372036854775808 ≤ n ∧ n ≤ 9223372036854775807) : shunterref05_Clip_m N s n = some (s.take (posR s n.toNat)) := by
  have := refclip_loop N s hs n hn s.length N 0 (by omega) hN (.inr rfl)
  rw [shunterref05_Clip_m]
  have e : n - ((0 : Nat) : Int) = n := by omega
  rw [e] at this; exact this
/-! ### places -/
/-- the line, and where it begins, behind i bytes -/
def plF (s : List UInt8) : Nat → Nat × Nat
  | 0 => (1, 0)
  | i + 1 => if byteAt s (i : Int) = 10 then ((plF s i).1 + 1, i + 1) else plF s i
theorem plF_le (s : List UInt8) (i : Nat) : (plF s i).2 ≤ i ∧ (plF s i).1 ≤ i + 1 := by
  induction i with
  | zero => exact ⟨Nat.le_refl _, Nat.le_refl _⟩
  | succ i ih =>
    rw [plF]; split
    · exact ⟨Nat.le_refl _, by show (plF s i).1 + 1 ≤ _; omega⟩
    · omega
def clampL (s : List UInt8) (at' : Int) : Nat := (max 0 (min at' (s.length : Int))).toNat
def placeL (s : List UInt8) (at' : Int) : Int × Int := (((plF s (clampL s at')).1 : Int), ((runesL ((s.take (clampL s at')).drop (plF s (clampL s at')).2)).length : Int) + 1)
theorem refplace_loop (N : Nat) (s : List UInt8) (hs : s.length ≤ 100000) (hN : s.length < N) (a : Nat) (ha : a ≤ s.length) : ∀ (k f i : Nat), i + k = a → k < f → shunterref05_Place_l8 N s (a : Int) f ((plF s i).1 : Int) ((plF s i).2 : Int) (i : Int) = some (((plF s a).1 : Int), ((runesL ((s.take a).drop (plF s a).2)).length : Int) + 1) := by
  intro k
  induction k with
  | zero =>
    intro f i hi hf
    obtain ⟨f, rfl⟩ : ∃ n, f = n + 1 := ⟨f - 1, by omega⟩
    obtain rfl : i = a := by omega
    have hp := plF_le s i
    have hl : ((s.take i).drop (plF s i).2).length ≤ s.length := by rw [List.length_drop, List.length_take]; omega
    have hr := runesL_len ((s.take i).drop (plF s i).2)
    rw [shunterref05_Place_l8, if_neg (by omega), ck_pos _ (by omega), Int.toNat_natCast, Int.toNat_natCast, refrunes_s N _ (by omega) (by omega), Option.bind_some, ck_pos _ (by omega)]
  | succ k ih =>
    intro f i hi hf
    obtain ⟨f, rfl⟩ : ∃ n, f = n + 1 := ⟨f - 1, by omega⟩
    have hp := plF_le s i
    have e1 : (i : Int) + 1 = ((i + 1 : Nat) : Int) := by omega
    have go := ih f (i + 1) (by omega) (by omega)
    rw [shunterref05_Place_l8, if_pos (by omega), ck_pos _ (by omega)]
    by_cases h : byteAt s (i : Int) = 10
    · have e2 : ((plF s i).1 : Int) + 1 = (((plF s i).1 + 1 : Nat) : Int) := by omega
      rw [plF, if_pos h] at go
      rw [if_pos h, ck_pos _ (by omega), ck_pos _ (by omega), ck_pos _ (by omega), e1, e2]; exact go
    · rw [plF, if_neg h] at go
      rw [if_neg h, ck_pos _ (by omega), e1]; exact go
theorem refplace_s (N : Nat) (s : List UInt8) (hs : s.length ≤ 100000) (hN : s.length < N) (at' : Int) : shunterref05_Place_m N s at' = some (placeL s at') := by
  have key : ∀ a : Nat, a ≤ s.length → shunterref05_Place_k4 N s (a : Int) = some (((plF s a).1 : Int), ((runesL ((s.take a).drop (plF s a).2)).length : Int) + 1) := fun a ha => by
    rw [shunterref05_Place_k4]; exact refplace_loop N s hs hN a ha a N 0 (by omega) (by omega)
  unfold shunterref05_Place_m shunterref05_Place_k2 placeL
  by_cases h : at' < 0
  · have e : clampL s at' = 0 := by unfold clampL; omega
    rw [if_pos h, if_neg (by omega), e]; exact key 0 (Nat.zero_le _)
  · rw [if_neg h]
    by_cases h1 : at' > (s.length : Int)
    · have e : clampL s at' = s.length := by unfold clampL; omega
      rw [if_pos h1, e]; exact key _ (Nat.le_refl _)
    · have e : (clampL s at' : Int) = at' := by unfold clampL; omega
      have hc : clampL s at' ≤ s.length := by omega
      rw [if_neg h1]
      have := key _ hc
      rw [e] at this; exact this
end Go.Proofs.Ytniakkkjiifelaa
