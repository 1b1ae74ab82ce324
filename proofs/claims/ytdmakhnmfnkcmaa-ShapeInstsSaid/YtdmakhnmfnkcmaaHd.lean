/- Layer 8: the law ShapeHeaders answers true, if the program's functions have the answers that are told. Conditions: the structure ShapesH, proved elsewhere; fuel above 3000. -/
import Derived.Test.YtdmakhnmfnkcmaaHs
namespace Go.Proofs.Ytdmakhnmfnkcmaa
open Go Go.RowKit Go.Eng
def wantH (l : List (List UInt8)) (s : List UInt8) (k : Nat) (w : Int) : Int := if idxL (l.take k) s = -1 then w else idxL (l.take k) s
theorem takeM (h1 : List Fd) (k : Nat) (h : k < h1.length) : (h1.map (·.1)).take (k + 1) = (h1.map (·.1)).take k ++ [(h1[k]!).1] := by
  rw [List.take_succ_eq_append_getElem (by rw [List.length_map]; exact h), List.getElem_map, getElem!_pos h1 k h]
theorem wantH_yes {l : List (List UInt8)} {s x : List UInt8} {k : Nat} (hk : k ≤ l.length) (ht : l.take (k + 1) = l.take k ++ [x]) (h : alikeL x s = true) (w : Int) : wantH l s (k + 1) w = wantH l s k (k : Int) := by
  unfold wantH idxL
  rw [ht, idxF_snoc, if_pos h, List.length_take]
  by_cases a : idxF (fun x => alikeL x s) (l.take k) 0 = -1
  · rw [if_pos a, if_pos a, if_neg (by omega), Nat.zero_add, Nat.min_eq_left hk]
  · rw [if_neg a, if_neg a, if_neg a]
theorem wantH_no {l : List (List UInt8)} {s x : List UInt8} {k : Nat} (ht : l.take (k + 1) = l.take k ++ [x]) (h : ¬ alikeL x s = true) (w : Int) : wantH l s (k + 1) w = wantH l s k w := by
  unfold wantH idxL
  rw [ht, idxF_snoc, if_neg h]
  by_cases a : idxF (fun x => alikeL x s) (l.take k) 0 = -1
  · rw [if_pos a, if_pos a, if_pos rfl]
  · rw [if_neg a, if_neg a]
theorem wantH_all {l : List (List UInt8)} {s : List UInt8} {k : Nat} (hk : l.length ≤ k) : wantH l s k (-1) = idxL l s := by
  unfold wantH
  rw [List.take_of_length_le hk]
  by_cases a : idxL l s = -1
  · rw [if_pos a, a]
  · rw [if_neg a]
end Go.Proofs.Ytdmakhnmfnkcmaa
