/- Orders of texts. Conditions: none. -/
import Derived.Test.YtdmakhnmfnkcmaaRf
namespace Go.Proofs.Ytdmakhnmfnkcmaa
open Go Go.RowKit Go.Eng
theorem ordL_cases : ∀ a b : List Int, (ordL a b = 0 ∧ a = b) ∨ (ordL a b = -1 ∧ ordL b a = 1) ∨ (ordL a b = 1 ∧ ordL b a = -1)
  | [], [] => .inl ⟨rfl, rfl⟩
  | [], _ :: _ => .inr (.inl ⟨rfl, rfl⟩)
  | _ :: _, [] => .inr (.inr ⟨rfl, rfl⟩)
  | x :: a, y :: b => by
    rw [ordL, ordL]
    by_cases h1 : x < y
    · rw [if_pos h1, if_neg (by omega), if_pos (by omega)]; exact .inr (.inl ⟨rfl, rfl⟩)
    · rw [if_neg h1]
      by_cases h2 : x > y
      · rw [if_pos h2, if_pos (by omega)]; exact .inr (.inr ⟨rfl, rfl⟩)
      · rw [if_neg h2, if_neg (by omega), if_neg (by omega)]
        have : x = y := by omega
        subst this
        rcases ordL_cases a b with ⟨h3, rfl⟩ | h3 | h3
        · exact .inl ⟨h3, rfl⟩
        · exact .inr (.inl h3)
        · exact .inr (.inr h3)
theorem ordL_trans : ∀ a b c : List Int, ordL a b = -1 → ordL b c = -1 → ordL a c = -1
  | [], [], _, h, _ => absurd h (by decide)
  | [], _ :: _, [], _, h => absurd h (by rw [ordL]; decide)
  | [], _ :: _, _ :: _, _, _ => rfl
  | _ :: _, [], _, h, _ => absurd h (by rw [ordL]; decide)
  | _ :: _, _ :: _, [], _, h => absurd h (by rw [ordL]; decide)
  | x :: a, y :: b, z :: c, h, h' => by
    rw [ordL] at h h' ⊢
    by_cases h1 : x < y
    · by_cases h2 : y < z
      · rw [if_pos (by omega)]
      · rw [if_neg h2] at h'
        by_cases h3 : y > z
        · rw [if_pos h3] at h'; exact absurd h' (by decide)
        · rw [if_pos (by omega)]
    · rw [if_neg h1] at h
      by_cases h2 : x > y
      · rw [if_pos h2] at h; exact absurd h (by decide)
      · rw [if_neg h2] at h
        have : x = y := by omega
        subst this
        by_cases h3 : x < z
        · rw [if_pos h3]
        · rw [if_neg h3] at h' ⊢
          by_cases h4 : x > z
          · rw [if_pos h4] at h'; exact absurd h' (by decide)
          · rw [if_neg h4] at h' ⊢; exact ordL_trans a b c h h'
theorem bl_cases : ∀ a b : List UInt8, (Op.bytesLess a b = false ∧ Op.bytesLess b a = false ∧ a = b) ∨ (Op.bytesLess a b = true ∧ Op.bytesLess b a = false ∧ a ≠ b) ∨ (Op.bytesLess a b = false ∧ Op.bytesLess b a = true ∧ a ≠ b)
  | [], [] => .inl ⟨rfl, rfl, rfl⟩
  | [], _ :: _ => .inr (.inl ⟨rfl, rfl, by simp⟩)
  | _ :: _, [] => .inr (.inr ⟨rfl, rfl, by simp⟩)
  | x :: a, y :: b => by
    rw [Op.bytesLess, Op.bytesLess]
    by_cases h : x = y
    · subst h
      have e : decide (x < x) = false := decide_eq_false (by rw [UInt8.lt_iff_toNat_lt]; omega)
      simp only [e, Bool.false_or, BEq.rfl, Bool.true_and]
      rcases bl_cases a b with ⟨h1, h2, rfl⟩ | ⟨h1, h2, h3⟩ | ⟨h1, h2, h3⟩
      · exact .inl ⟨h1, h2, rfl⟩
      · exact .inr (.inl ⟨h1, h2, by simpa using h3⟩)
      · exact .inr (.inr ⟨h1, h2, by simpa using h3⟩)
    · have hb : (x == y) = false := by simpa using h
      have hb' : (y == x) = false := by simpa using Ne.symm h
      have hn : x.toNat ≠ y.toNat := fun e => h (UInt8.toNat_inj.mp e)
      simp only [hb, hb', Bool.false_and, Bool.or_false]
      by_cases h1 : x < y
      · have h2 : ¬ y < x := by rw [UInt8.lt_iff_toNat_lt] at h1 ⊢; omega
        exact .inr (.inl ⟨decide_eq_true h1, decide_eq_false h2, by simp [h]⟩)
      · have h2 : y < x := by rw [UInt8.lt_iff_toNat_lt] at h1 ⊢; omega
        exact .inr (.inr ⟨decide_eq_false h1, decide_eq_true h2, by simp [h]⟩)
theorem bl_trans : ∀ a b c : List UInt8, Op.bytesLess a b = true → Op.bytesLess b c = true → Op.bytesLess a c = true
  | _, [], _, h, _ => absurd h (by cases ‹List UInt8› <;> simp [Op.bytesLess])
  | _, _ :: _, [], _, h => absurd h (by simp [Op.bytesLess])
  | [], _ :: _, _ :: _, _, _ => rfl
  | x :: a, y :: b, z :: c, h, h' => by
    rw [Op.bytesLess] at h h' ⊢
    simp only [Bool.or_eq_true, Bool.and_eq_true, decide_eq_true_eq, beq_iff_eq, UInt8.lt_iff_toNat_lt] at h h' ⊢
    rcases h with h | ⟨rfl, h⟩
    · rcases h' with h' | ⟨rfl, h'⟩
      · exact .inl (by omega)
      · exact .inl h
    · rcases h' with h' | ⟨rfl, h'⟩
      · exact .inl h'
      · exact .inr ⟨rfl, bl_trans a b c h h'⟩
theorem lessL_lt {a b : List UInt8} (h : ordL (keysL a) (keysL b) = -1) : lessL a b = true := by unfold lessL; rw [h]; rfl
theorem lessL_gt {a b : List UInt8} (h : ordL (keysL a) (keysL b) = 1) : lessL a b = false := by unfold lessL; rw [h]; rfl
theorem lessL_eq {a b : List UInt8} (h : keysL a = keysL b) : lessL a b = Op.bytesLess a b := by unfold lessL; rw [h, ordL_same]; rfl
/-- of two texts that differ just one comes ahead -/
theorem lessL_tri (a b : List UInt8) : (lessL a b = false ∧ lessL b a = false ∧ a = b) ∨ (lessL a b = true ∧ lessL b a = false ∧ a ≠ b) ∨ (lessL a b = false ∧ lessL b a = true ∧ a ≠ b) := by
  rcases ordL_cases (keysL a) (keysL b) with ⟨_, h⟩ | ⟨h1, h2⟩ | ⟨h1, h2⟩
  · rw [lessL_eq h, lessL_eq h.symm]; exact bl_cases a b
  · exact .inr (.inl ⟨lessL_lt h1, lessL_gt h2, fun e => by subst e; rw [ordL_same] at h1; exact absurd h1 (by decide)⟩)
  · exact .inr (.inr ⟨lessL_gt h1, lessL_lt h2, fun e => by subst e; rw [ordL_same] at h1; exact absurd h1 (by decide)⟩)
theorem lessL_key {a b : List UInt8} (h : lessL a b = true) : ordL (keysL a) (keysL b) = -1 ∨ keysL a = keysL b := by
  rcases ordL_cases (keysL a) (keysL b) with ⟨_, h1⟩ | ⟨h1, _⟩ | ⟨h1, _⟩
  · exact .inr h1
  · exact .inl h1
  · rw [lessL_gt h1] at h; cases h
theorem lessL_trans {a b c : List UInt8} (h : lessL a b = true) (h' : lessL b c = true) : lessL a c = true := by
  rcases lessL_key h with h1 | h1 <;> rcases lessL_key h' with h2 | h2
  · exact lessL_lt (ordL_trans _ _ _ h1 h2)
  · exact lessL_lt (by rw [← h2]; exact h1)
  · exact lessL_lt (by rw [h1]; exact h2)
  · rw [lessL_eq h1] at h; rw [lessL_eq h2] at h'
    rw [lessL_eq (h1.trans h2)]; exact bl_trans a b c h h'
/-- alike ones have none between them that isn't -/
theorem lessL_between {a b c : List UInt8} (h : lessL a b = true) (h' : lessL b c = true) (hk : keysL a = keysL c) : keysL a = keysL b := by
  rcases lessL_key h with h1 | h1
  · rcases lessL_key h' with h2 | h2
    · have := ordL_trans _ _ _ h1 h2
      rw [hk, ordL_same] at this; exact absurd this (by decide)
    · exact hk.trans h2.symm
  · exact h1
/-! ### keys -/
theorem fold_ok {c : Int} (h : okR c) : okR (foldR c) := by
  unfold okR foldR at *; split
  · omega
  · split
    · omega
    · split <;> omega
theorem fold_fold (c : Int) : foldR (foldR c) = foldR c := by
  have h : ∀ d, ¬ ((65 ≤ d ∧ d ≤ 90) ∨ (192 ≤ d ∧ d ≤ 222 ∧ d ≠ 215) ∨ (913 ≤ d ∧ d ≤ 937 ∧ d ≠ 930) ∨ (1040 ≤ d ∧ d ≤ 1071)) → ¬ (1024 ≤ d ∧ d ≤ 1039) → d ≠ 962 → foldR d = d := fun d h1 h2 h3 => by unfold foldR; rw [if_neg h1, if_neg h2, if_neg h3]
  refine h _ ?_ ?_ ?_ <;> (unfold foldR; split; omega; split; omega; split <;> omega)
theorem keys_ok (s : List UInt8) : ∀ n ∈ keysL s, okR n := by
  unfold keysL
  intro n hn
  obtain ⟨c, hc, rfl⟩ := List.mem_map.mp hn
  exact fold_ok (runesL_ok s c hc)
def keyB (s : List UInt8) : List UInt8 := rstr (keysL s)
theorem runes_key (s : List UInt8) : runesL (keyB s) = keysL s := runes_rstr _ (keys_ok s)
theorem keys_key (s : List UInt8) : keysL (keyB s) = keysL s := by
  show (runesL (keyB s)).map foldR = _
  rw [runes_key]; unfold keysL; rw [List.map_map]
  exact List.map_congr_left fun c _ => fold_fold c
theorem key_key (s : List UInt8) : keyB (keyB s) = keyB s := by unfold keyB; rw [show keysL (rstr (keysL s)) = keysL s from keys_key s]
theorem key_inj {a b : List UInt8} : keyB a = keyB b ↔ keysL a = keysL b := by
  refine ⟨fun h => ?_, fun h => by unfold keyB; rw [h]⟩
  rw [← runes_key a, h, runes_key]
theorem let_fold (c : Int) : letR (foldR c) = letR c := by
  unfold letR foldR
  apply decide_eq_decide.mpr
  split
  · omega
  · split
    · omega
    · split <;> omega
/-- one that may stand in a name behind its first one -/
theorem in_fold (c : Int) : inR (foldR c) = inR c := by
  unfold inR
  rw [let_fold]
  congr 1
  unfold foldR
  apply decide_eq_decide.mpr
  split
  · omega
  · split
    · omega
    · split <;> omega
theorem may_fold (l : List Int) : mayL (l.map foldR) = mayL l := by
  unfold mayL
  rw [List.length_map]
  cases l with
  | nil => rfl
  | cons x l =>
    have e1 : ((x :: l).map foldR)[0]! = foldR x := rfl
    have e2 : (x :: l)[0]! = x := rfl
    have e3 : ((x :: l).map foldR).all inR = (x :: l).all inR := by
      rw [List.all_map]
      apply List.all_congr rfl
      intro c
      exact in_fold c
    rw [e1, e2, e3, let_fold]
end Go.Proofs.Ytdmakhnmfnkcmaa
