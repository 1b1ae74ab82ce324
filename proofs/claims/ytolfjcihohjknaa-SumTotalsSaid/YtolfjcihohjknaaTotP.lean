/- SumTotals: the model answers true. Conditions: none. -/
import Derived.Test.YtolfjcihohjknaaSQ
import Derived.Test.YtolfjcihohjknaaLSumTotals
namespace Go.Proofs.Ytolfjcihohjknaa
open Go Go.RowKit Go.Eng
theorem totals_s (N : Nat) (hN : 30000 < N) (b : List UInt8) : shunterlaw04_SumTotals_m N b = some true := by
  unfold shunterlaw04_SumTotals_m
  by_cases h : (b.length : Int) > 20000
  · rw [if_pos h, lives4_s N (by omega)]; rfl
  · obtain ⟨r, hr, ho⟩ := add_s N b (by omega) (by omega) adOk_nil
    obtain ⟨z, hz, hzn⟩ := total1_s N ho
    have hc := csum_i b
    have hf := foldN_le (psum true b)
    rw [List.nil_append] at hzn
    rw [if_neg h, hr, Option.bind_some, sum_sc N b (by omega) (by omega), Option.bind_some, hz, Option.bind_some, ck_pos _ (by omega), if_pos (by omega),
      asum_s N ho, Option.bind_some, List.nil_append, if_pos rfl, of_s N b (by omega) (by omega), Option.bind_some, if_pos rfl, right_s N b (by omega) (by omega), Option.bind_some, if_pos rfl, lives4_s N (by omega)]
    rfl
end Go.Proofs.Ytolfjcihohjknaa
