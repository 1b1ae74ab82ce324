/- The order of things by their rows. Pure. Conditions: none. -/
import Derived.Test.YtnpbpllibmcokaaSo
import Derived.Test.YtnpbpllibmcokaaMm
import Derived.Test.YtnpbpllibmcokaaOa
namespace Go.Eng
open Go Go.RowKit
def cfIt (x y : It) : Int := if x.1 < y.1 then -1 else if x.1 > y.1 then 1 else cmpI x.2.1 y.2.1
def ltIt (x y : It) : Prop := x.1 < y.1 ∨ (x.1 = y.1 ∧ x.2.1.toNat < y.2.1.toNat)
theorem cfIt_lt (x y : It) : cfIt x y < 0 ↔ ltIt x y := by
  unfold cfIt ltIt cmpI
  by_cases h1 : x.1 < y.1
  · simp [h1]
  · rw [if_neg h1]
    by_cases h2 : x.1 > y.1
    · rw [if_pos h2]; constructor
      · intro h; exact absurd h (by decide)
      · rintro (h | h)
        · exact absurd h h1
        · omega
    · rw [if_neg h2]
      have he : x.1 = y.1 := by omega
      by_cases h3 : x.2.1 = y.2.1
      · simp [h3, h1]
      · rw [if_neg h3]
        by_cases h4 : x.2.1 < y.2.1
        · rw [if_pos h4]
          have : x.2.1.toNat < y.2.1.toNat := h4
          simp [he, this]
        · rw [if_neg h4]
          have : ¬ x.2.1.toNat < y.2.1.toNat := h4
          constructor
          · intro h; exact absurd h (by decide)
          · rintro (h | h)
            · exact absurd h h1
            · exact absurd h.2 this
theorem ltOfIt (x y : It) : Go.Proofs.ltOf cfIt x y = true ↔ ltIt x y := by
  unfold Go.Proofs.ltOf; rw [decide_eq_true_iff]; exact cfIt_lt x y
theorem ltOfIt_no (x y : It) : Go.Proofs.ltOf cfIt x y = false ↔ ¬ ltIt x y := by
  rw [← ltOfIt]; simp
theorem swoIt : Go.Sort.SWO (Go.Proofs.ltOf cfIt) where
  irrefl x := by rw [ltOfIt_no]; unfold ltIt; omega
  trans x y z h1 h2 := by rw [ltOfIt] at *; unfold ltIt at *; omega
  ntrans x y z h1 h2 := by rw [ltOfIt_no] at *; unfold ltIt at *; omega
end Go.Eng
