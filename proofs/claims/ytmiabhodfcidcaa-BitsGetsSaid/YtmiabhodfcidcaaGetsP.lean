/- BitsGets: the model answers true. Conditions: none. -/
import Derived.Test.YtmiabhodfcidcaaBP
import Derived.Test.YtmiabhodfcidcaaLBitsGets
namespace Go.Proofs.Ytmiabhodfcidcaa
open Go Go.RowKit Go.Eng
theorem gets_s (N : Nat) (hN : 400 < N) (b : List UInt8) (a w : Int) : shunterlaw03_BitsGets_m N b a w = some true := by
  unfold shunterlaw03_BitsGets_m
  by_cases h : (b.length : Int) > 200
  · rw [if_pos h, lives3_s N (by omega)]; rfl
  · rw [if_neg h, get_s N (by omega) _ _ _ (by omega), rget_s N (by omega) _ _ _ (by omega) (by omega), Option.bind_some, Option.bind_some]
    rw [if_pos (by simp), if_pos rfl, lives3_s N (by omega)]; rfl
end Go.Proofs.Ytmiabhodfcidcaa
