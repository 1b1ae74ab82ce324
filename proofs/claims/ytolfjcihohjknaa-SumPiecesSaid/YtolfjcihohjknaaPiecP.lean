/- SumPieces: the model answers true. Conditions: none. -/
import Derived.Test.YtolfjcihohjknaaSQ
import Derived.Test.YtolfjcihohjknaaLSumPieces
namespace Go.Proofs.Ytolfjcihohjknaa
open Go Go.RowKit Go.Eng
theorem none_s (N : Nat) (all : List UInt8) : sum_Adder_Add_v2_m N all = some () ∧ sum_Adder_Total_v2_m N = some 0 ∧ sum_Adder_Sum_v2_m N = some 65535 := ⟨rfl, rfl, rfl⟩
theorem pieces_loop (N : Nat) (hN : 30000 < N) (ps : List (List UInt8)) (hps : ps.length ≤ 40) : ∀ (k f i : Nat) (all : List UInt8) (t : UInt16) (h : UInt8) (w : Bool), i + k = ps.length → k < f → all.length ≤ 200 * i → AdOk t h w all →
    shunterlaw04_SumPieces_l4 N ps f all (i : Int) t h w = some true := by
  have hl := lives4_s N (by omega)
  intro k
  induction k with
  | zero =>
    intro f i all t h w hi hf ha ho
    obtain ⟨f, rfl⟩ : ∃ n, f = n + 1 := ⟨f - 1, by omega⟩
    obtain ⟨n1, n2, n3⟩ := none_s N all
    rw [shunterlaw04_SumPieces_l4, if_neg (by omega), n1, Option.bind_some, n2, Option.bind_some, if_pos (by decide), n3, Option.bind_some, if_pos (by decide), hl]; rfl
  | succ k ih =>
    intro f i all t h w hi hf ha ho
    obtain ⟨f, rfl⟩ : ∃ n, f = n + 1 := ⟨f - 1, by omega⟩
    have e1 : (i : Int) + 1 = ((i + 1 : Nat) : Int) := by omega
    rw [shunterlaw04_SumPieces_l4, if_pos (by omega), ck_pos _ (by omega), Int.toNat_natCast]
    by_cases hg : ((ps[i]!).length : Int) > 200
    · rw [if_pos hg, hl]; rfl
    · obtain ⟨r, hr, ho'⟩ := add_s N (ps[i]!) (by omega) (by omega) ho
      rw [if_neg hg, ck_pos _ (by omega), hr, Option.bind_some, ck_pos _ (by omega), ck_pos _ (by omega), asum_s N ho', Option.bind_some, of_s N _ (by rw [List.length_append]; omega) (by rw [List.length_append]; omega), Option.bind_some, if_neg (by simp), ck_pos _ (by omega), e1]
      exact ih f (i + 1) _ _ _ _ (by omega) (by omega) (by rw [List.length_append]; omega) ho'
theorem pieces_s (N : Nat) (hN : 30000 < N) (ps : List (List UInt8)) : shunterlaw04_SumPieces_m N ps = some true := by
  unfold shunterlaw04_SumPieces_m
  by_cases h : (ps.length : Int) > 40
  · rw [if_pos h, lives4_s N (by omega)]; rfl
  · rw [if_neg h]
    exact pieces_loop N hN ps (by omega) ps.length N 0 [] 0 0 false (by omega) (by omega) (by simp) adOk_nil
end Go.Proofs.Ytolfjcihohjknaa
