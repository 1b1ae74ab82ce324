/- BitsNils: the model answers true. Conditions: none. -/
import Derived.Test.YtmiabhodfcidcaaBQ
import Derived.Test.YtmiabhodfcidcaaLBitsNils
namespace Go.Proofs.Ytmiabhodfcidcaa
open Go Go.RowKit Go.Eng
def nilsB (N : Nat) (b : List UInt8) : Option Bool := ck (0 ≤ (9216 : Int) ∧ (9216 : Int) ≤ 140737488355328) ((bits_Row_Bytes_v1_m N ([]) 0 b).bind fun r27 => ck (0 ≤ (1 : Int) ∧ (1 : Int) ≤ ((b).length : Int)) ((bits_Row_Bytes_v1_m N r27.2.1 r27.2.2 (((b).take (((1 : Int)).toNat)).drop (0))).bind fun r34 => (bits_Row_Add_v1_m N r34.2.1 r34.2.2 1 ((0#64) ++ (0#64))).bind fun r40 => (bits_Take_m N b).bind fun r46 => (bits_Taker_Bytes_v1_m N r46.1 r46.2 (-1)).bind fun r53 => ck ((r53.2.2.1).length = (r46.1).length) (if (r27.1 : Int) = 0 then if (r34.1 : Int) = 2 then if (r40.1 : Int) = 2 then if (r53.2.1 : Int) = 7 then (bits_Row_Len_v1_m N r40.2.1 r40.2.2).bind fun r66 => if (r66 : Int) = 73728 then (bits_Row_Bytes_v1_m N r40.2.1 r40.2.2 ([])).bind fun r69 => if (r69.1 : Int) = 0 then (shunterlaw03_lives_m N ).bind fun r75 => some (r75) else some (false) else some (false) else some (false) else some (false) else some (false) else some (false))))
theorem nils_b (N : Nat) (hN : 300 < N) (b : List UInt8) (hl : b.length = 9216) : nilsB N b = some true := by
  unfold nilsB
  have hB := bitsB_len b
  have h0 : bytesL ([] : List Bool) = [] := rfl
  have a1 := addb_s N [] b (by simp) (by omega)
  rw [h0] at a1
  rw [ck_pos _ (by omega)]
  rw [show (0 : Int) = ((([] : List Bool).length : Nat) : Int) from rfl, a1, Option.bind_some]
  simp only [List.length_nil, Nat.zero_mod, ne_eq, not_true_eq_false, if_false, List.nil_append, Int.natCast_zero]
  rw [if_neg (by omega), ck_pos _ (by omega)]
  simp only
  rw [addb_s N (bitsB b) _ (by omega) (by simp; omega), Option.bind_some]
  have h8 : ¬ (bitsB b).length % 8 ≠ 0 := by omega
  have h1 : ((b.take (1 : Int).toNat).drop 0).length = 1 := by simp; omega
  rw [if_neg h8, if_pos (by rw [h1]; omega)]
  simp only
  have hm : mayB 1 ((0#64) ++ (0#64)) = true := by decide +kernel
  rw [add_s N (by omega) (bitsB b) 1 _ (by omega), if_pos hm, if_pos (by omega), Option.bind_some]
  unfold bits_Take_m
  rw [fresh_s _ _ (by omega), Option.bind_some, Option.bind_some]
  simp only
  rw [tbytes_s _ _ _ _ (by omega) (by omega) (by omega), if_neg (by decide), if_pos (by decide), Option.bind_some, ck_pos _ rfl]
  simp only
  rw [if_pos trivial, if_pos trivial, if_pos trivial, if_pos trivial]
  unfold bits_Row_Len_v1_m
  rw [Option.bind_some, if_pos (by omega), addb_s N (bitsB b) [] (by omega) (by simp), if_neg h8, if_neg (by simp; omega), Option.bind_some, if_pos rfl, lives3_s N (by omega)]
  rfl
theorem nils_k1 (N : Nat) (hN : 300 < N) : shunterlaw03_BitsNils_k1 N = some true := by
  have h := nils_b N hN (List.replicate ((9216 : Int)).toNat (0 : UInt8)) List.length_replicate
  unfold nilsB at h
  unfold shunterlaw03_BitsNils_k1
  exact h
theorem nils_s (N : Nat) (hN : 300 < N) (w : Int) (x : BitVec 128) (b : List UInt8) : shunterlaw03_BitsNils_m N w x b = some true := by
  unfold shunterlaw03_BitsNils_m bits_Taker_Vec_v2_m bits_Taker_Look_v2_m bits_Taker_Bytes_v2_m bits_Row_Add_v2_m bits_Row_Bytes_v2_m bits_Row_Len_v2_m bits_Row_All_v2_m bits_Taker_At_v2_m bits_Taker_Left_v2_m
  simp only [Option.bind_some]
  rw [if_pos (by decide)]
  simp only [Option.bind_some]
  rw [if_neg (by decide), if_neg (by decide), if_neg (by decide), if_neg (by decide), if_neg (by decide), if_neg (by decide), if_neg (by decide), if_neg (by decide), if_neg (by decide)]
  exact nils_k1 N hN
end Go.Proofs.Ytmiabhodfcidcaa
