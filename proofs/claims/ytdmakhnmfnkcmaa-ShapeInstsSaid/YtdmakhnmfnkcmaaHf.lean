/- Layer 8: the law ShapeOffsets answers true, if the program's functions have the answers that are told. Conditions: the structure ShapesH, proved elsewhere; fuel above 3000. -/
import Derived.Test.YtdmakhnmfnkcmaaHs
import Derived.Test.YtdmakhnmfnkcmaaLShapeOffsets
namespace Go.Proofs.Ytdmakhnmfnkcmaa
open Go Go.RowKit Go.Eng
theorem off_loop (N : Nat) (S : ShapesH N) (Most : ∀ h0 h1 h2 h3 h4 h5, Lt h0 h1 → shape_Most_v1_m N h0 h1 h2 h3 h4 h5 = some (mostH h0 h1 h2 h3 h4 h5))
    (h0 : List UInt8) (h1 : List Fd) (h2 h3 h4 h5 : Int) (hl : Lt h0 h1) (hm : mayH h0 h1 h2 h3 h4 h5 = 0) :
    ∀ (k f i : Nat), i + k = h1.length → k < f → shunterlaw08_ShapeOffsets_v1_l4 N h0 h1 h2 h3 h4 h5 f (sumW (h1.take i)) (i : Int) = some true := by
  obtain ⟨hw, h8, h16, _, hv⟩ := mayH_ok hm
  have hsum := okW_sum _ hw
  have hvb := varB_var hv
  intro k
  induction k with
  | zero =>
    intro f i hi hf
    obtain ⟨f, rfl⟩ : ∃ n, f = n + 1 := ⟨f - 1, by omega⟩
    rw [shunterlaw08_ShapeOffsets_v1_l4, if_neg (by omega), S.bits _ _ _ _ _ _ hl, S.bytes _ _ _ _ _ _ hl, Most _ _ _ _ _ _ hl, bitsH, mostH, if_pos hm, if_pos hm, Option.bind_some, List.take_of_length_le (by omega), if_pos rfl, Option.bind_some, ck_pos _ (by omega), if_pos (by omega), Option.bind_some, Option.bind_some, if_pos (by omega), Option.bind_some, if_pos (by omega), S.lives]; rfl
  | succ k ih =>
    intro f i hi hf
    obtain ⟨f, rfl⟩ : ∃ n, f = n + 1 := ⟨f - 1, by omega⟩
    have e1 : (i : Int) + 1 = ((i + 1 : Nat) : Int) := by omega
    have es : sumW (h1.take i) + (h1[i]!).2 = sumW (h1.take (i + 1)) := by rw [takeS h1 i (by omega), sumW_app]; simp [sumW]
    have hs := okW_sum _ (okW_take hw (i + 1))
    have hlt : (h1.take (i + 1)).length ≤ 16 := by rw [List.length_take]; omega
    have ho : offH h0 h1 h2 h3 h4 h5 (i : Int) = (sumW (h1.take i), true) := by unfold offH; rw [if_pos ⟨hm, by omega, by omega⟩, Int.toNat_natCast]
    rw [shunterlaw08_ShapeOffsets_v1_l4, if_pos (by omega), S.offset _ _ _ _ _ _ _ hl hm, Option.bind_some, ho, if_neg (fun h => h rfl), if_pos rfl, shunterlaw08_ShapeOffsets_v1_k5, ck_pos _ (by omega), Int.toNat_natCast, es, ck_pos _ (by omega), ck_pos _ (by omega), e1]
    exact ih f (i + 1) (by omega) (by omega)
theorem shapeOffsets_true (N : Nat) (hN : 3000 < N) (S : ShapesH N) (Most : ∀ h0 h1 h2 h3 h4 h5, Lt h0 h1 → shape_Most_v1_m N h0 h1 h2 h3 h4 h5 = some (mostH h0 h1 h2 h3 h4 h5))
    (h0 : List UInt8) (h1 : List Fd) (h2 h3 h4 h5 : Int) : shunterlaw08_ShapeOffsets_v1_m N h0 h1 h2 h3 h4 h5 = some true := by
  have live : ((shunterlaw08_lives_m N).bind fun r => some r) = some true := by rw [S.lives]; rfl
  unfold shunterlaw08_ShapeOffsets_v1_m
  rw [light_s N hN, Option.bind_some]
  by_cases hB : lightB h0 h1 = true
  rotate_left
  · rw [if_neg hB]; exact live
  have hl := lt_of hB
  rw [if_pos hB, S.may _ _ _ _ _ _ hl, Option.bind_some]
  by_cases hm : mayH h0 h1 h2 h3 h4 h5 = 0
  rotate_left
  · rw [if_pos hm]; exact live
  have := off_loop N S Most h0 h1 h2 h3 h4 h5 hl hm h1.length N 0 (by omega) (by have := hl.1; omega)
  rw [if_neg (fun h => h hm), shunterlaw08_ShapeOffsets_v1_k1]
  exact this
end Go.Proofs.Ytdmakhnmfnkcmaa
