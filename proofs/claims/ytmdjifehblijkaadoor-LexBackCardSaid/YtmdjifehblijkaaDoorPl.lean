/- Layer 6: the scan's answers, and the chapter's example. Conditions: none but those written. Program: Tryd. -/
import Derived.Test.YtmdjifehblijkaaDoorPb
namespace Go.Proofs.YtmdjifehblijkaaDoor
open Go Go.RowKit Go.Eng
theorem out_ok {r : List (TokD × Int) × Int × Int} (h : r.2.2 = 0) : toS (out6 [] r) = (r.1.map flat6, .nil) := by
  unfold toS out6; rw [if_neg (fun hh => hh h)]; rfl
theorem out_bad {r : List (TokD × Int) × Int × Int} (h : r.2.2 ≠ 0) : toS (out6 [] r) = ([], .t31 r.2.2 r.2.1) := by
  unfold toS out6; rw [if_pos h]
  show ([], if r.2.2 = 0 then _ else _) = _
  rw [if_neg h]
theorem onN {α β : Type} (x : α) (a : β) (f : Int → Int → β) : Sum25.on (x, Sum25.nil).2 a f = a := rfl
theorem onT {α β : Type} (x : α) (y z : Int) (a : β) (f : Int → Int → β) : Sum25.on (x, Sum25.t31 y z).2 a f = f y z := rfl
theorem liveS : out6 [] (scanL numS6 [115, 101, 116, 32, 105, 112, 46, 116, 116, 108, 32, 61, 32, 56, 39, 52, 48, 59]) =
    ([(1, [115, 101, 116], 0, 0, 0#128, 0), (1, [105, 112, 46, 116, 116, 108], 0, 0, 0#128, 4), (0, [61], 0, 0, 0#128, 11), (3, [], 0, 8, 64#128, 13), (0, [59], 0, 0, 0#128, 17)], 0, 0) := by kernel_rfl
theorem lives_s (N : Nat) (hN : 100 < N) : shunterlaw06_lives_m N = some true := by
  unfold shunterlaw06_lives_m
  rw [pscan_s N _ (by decide) (by simp only [List.length_cons, List.length_nil]; omega), Option.bind_some, liveS]
  kernel_rfl
theorem getI {α : Type} [Inhabited α] {l : List α} {i : Nat} (h : i < l.length) : l[((i : Nat) : Int).toNat]! = l[i] := by rw [Int.toNat_natCast, getElem!_pos l i h]
abbrev R6 := List (Int × List UInt8 × Int × Int × BitVec 128 × Int)
theorem scanF_len (n : Nat) : ∀ (f : Nat) (t : List UInt8), (scanF numS6 n f t).1.length ≤ t.length
  | 0, _ => Nat.zero_le _
  | f + 1, t => by
    rw [scanF]
    by_cases ht : t = []
    · rw [if_pos ht]; exact Nat.zero_le _
    rw [if_neg ht]
    by_cases hz : (tokL numS6 t).2.1 ≠ 0
    · rw [if_pos hz]; exact Nat.zero_le _
    rw [if_neg hz]
    have hw := tokL_w ht (by simpa using hz)
    have hl := skipR_len false (t.drop (tokL numS6 t).2.2)
    have ih := scanF_len n f (skipR false (t.drop (tokL numS6 t).2.2))
    rw [List.length_drop] at hl
    split
    · exact Nat.zero_le _
    · rw [List.length_cons]; omega
theorem scanL_len (s : List UInt8) : (scanL numS6 s).1.length ≤ s.length := by
  unfold scanL
  split
  · exact Nat.zero_le _
  · exact Nat.le_trans (scanF_len _ _ _) (skipR_len _ _)
end Go.Proofs.YtmdjifehblijkaaDoor
