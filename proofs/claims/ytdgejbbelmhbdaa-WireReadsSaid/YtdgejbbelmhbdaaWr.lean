/- Layer 7: what is written, and what is read, are the document's. Conditions: fuel. -/
import Derived.Test.YtdgejbbelmhbdaaWq
import Derived.Test.YtdgejbbelmhbdaaBf
import Derived.Test.YtdgejbbelmhbdaaLWireReads
namespace Go.Proofs.Ytdgejbbelmhbdaa
open Go Go.RowKit Go.Eng
abbrev OpL := Int × Int × Int × Int × Int × (BitVec 128) × (List UInt8) × (List (Int × BitVec 128)) × (List Int)
def Light (o : OpL) : Prop := o.2.2.2.2.2.2.2.1.length ≤ 300 ∧ o.2.2.2.2.2.2.2.2.length ≤ 300 ∧ o.2.2.2.2.2.2.1.length ≤ 600
theorem light_loop (ops : List OpL) (hl : ops.length ≤ 30) : ∀ (k f i : Nat), i + k = ops.length → k < f → ∃ v, shunterlaw07_light_l2 ops f (i : Int) = some v ∧ (v = true → ∀ o ∈ ops.drop i, Light o) := by
  intro k
  induction k with
  | zero =>
    intro f i hi hf
    obtain ⟨f, rfl⟩ : ∃ n, f = n + 1 := ⟨f - 1, by omega⟩
    refine ⟨true, by rw [shunterlaw07_light_l2, if_neg (by omega)], fun _ o ho => ?_⟩
    rw [List.drop_of_length_le (by omega)] at ho; cases ho
  | succ k ih =>
    intro f i hi hf
    obtain ⟨f, rfl⟩ : ∃ n, f = n + 1 := ⟨f - 1, by omega⟩
    obtain ⟨v, hv, hv2⟩ := ih f (i + 1) (by omega) (by omega)
    rw [shunterlaw07_light_l2, if_pos (by omega), ck_pos _ (by omega), ck_pos _ (by omega), ck_pos _ (by omega), Int.toNat_natCast]
    by_cases h1 : ((((ops[i]!).2.2.2.2.2.2.2.1).length : Int) : Int) > 300
    · exact ⟨false, by rw [if_pos h1], fun h => nomatch h⟩
    · by_cases h2 : ((((ops[i]!).2.2.2.2.2.2.2.2).length : Int) : Int) > 300
      · exact ⟨false, by rw [if_neg h1, if_pos h2], fun h => nomatch h⟩
      · by_cases h3 : ((((ops[i]!).2.2.2.2.2.2.1).length : Int) : Int) > 600
        · exact ⟨false, by rw [if_neg h1, if_neg h2, if_pos h3], fun h => nomatch h⟩
        · refine ⟨v, by rw [if_neg h1, if_neg h2, if_neg h3, ck_pos _ (by omega), show (i : Int) + 1 = ((i + 1 : Nat) : Int) from by omega, hv], fun h o ho => ?_⟩
          rw [drop_get ops i (by omega)] at ho
          rcases List.mem_cons.1 ho with rfl | ho
          · exact ⟨by omega, by omega, by omega⟩
          · exact hv2 h o ho
theorem light_s (N : Nat) (hN : 400 < N) (ops : List OpL) : ∃ v, shunterlaw07_light_m N ops = some v ∧ (v = true → ops.length ≤ 30 ∧ ∀ o ∈ ops, Light o) := by
  unfold shunterlaw07_light_m
  by_cases h : ((ops.length : Int) : Int) > 30
  · exact ⟨false, by rw [if_pos h], fun h => nomatch h⟩
  · obtain ⟨v, h1, h2⟩ := light_loop ops (by omega) ops.length N 0 (by omega) (by omega)
    exact ⟨v, by rw [if_neg h]; exact h1, fun hv => ⟨by omega, by have := h2 hv; rwa [List.drop_zero] at this⟩⟩
end Go.Proofs.Ytdgejbbelmhbdaa
