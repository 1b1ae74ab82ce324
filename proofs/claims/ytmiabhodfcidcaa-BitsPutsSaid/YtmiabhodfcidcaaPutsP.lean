/- BitsPuts: the model answers true. Conditions: none. -/
import Derived.Test.YtmiabhodfcidcaaBQ
import Derived.Test.YtmiabhodfcidcaaLBitsPuts
namespace Go.Proofs.Ytmiabhodfcidcaa
open Go Go.RowKit Go.Eng
theorem puts_s (N : Nat) (hN : 400 < N) (b : List UInt8) (a w : Int) (x : BitVec 128) : shunterlaw03_BitsPuts_m N b a w x = some true := by
  unfold shunterlaw03_BitsPuts_m
  by_cases h : (b.length : Int) > 200
  · rw [if_pos h, lives3_s N (by omega)]; rfl
  · rw [if_neg h, put_s N (by omega) _ _ _ _ (by omega), rput_s N (by omega) _ _ _ _ (by omega) (by omega), Option.bind_some, Option.bind_some]
    rw [if_neg (by simp), if_neg (by simp), if_neg (by simp)]
    unfold shunterlaw03_BitsPuts_k1
    by_cases hm : mayB w x = true
    · obtain ⟨h1, h2, _⟩ := may_w hm
      rw [if_pos hm]
      by_cases h3 : 0 ≤ a ∧ a ≤ 8 * (b.length : Int) - w
      · have hle : a.toNat + w.toNat ≤ 8 * b.length := by omega
        have hl := putB_len b a.toNat w.toNat x hle
        rw [if_pos h3, if_neg (by simp)]
        simp only
        rw [get_s N (by omega) _ _ _ (by rw [hl]; omega), hl, if_pos ⟨h1, h2⟩, if_pos h3, Option.bind_some, put_cut hm b a.toNat hle]
        simp only
        rw [if_pos (by simp), if_pos trivial, if_pos trivial, lives3_s N (by omega)]; rfl
      · rw [if_neg h3, if_pos (by decide), if_pos (by rfl), lives3_s N (by omega)]; rfl
    · rw [if_neg hm, if_pos (by decide), if_pos (by rfl), lives3_s N (by omega)]; rfl
end Go.Proofs.Ytmiabhodfcidcaa
