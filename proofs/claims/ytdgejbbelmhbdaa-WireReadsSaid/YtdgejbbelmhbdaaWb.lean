/- Layer 7 by definition: what was written is read again. Conditions: none but those written. -/
import Derived.Test.YtdgejbbelmhbdaaWa
namespace Go.Proofs.Ytdgejbbelmhbdaa
open Go Go.RowKit Go.Eng
theorem numB_len (n : Int) (size : Nat) (hs : size = 1 ∨ size = 2 ∨ size = 4) : (numB n size).length = size := by rcases hs with rfl | rfl | rfl <;> rfl
theorem take_short (b : List UInt8) (size : Nat) (most a w : Int) (h : b.length < size) : takeL (b, a, 0, w) size most = ((b, a, 3, a), 0) := by
  unfold takeL
  simp only
  rw [if_neg (by decide), if_pos h]
def padB (w : Int) (x : BitVec 128) : List Bool := List.replicate ((8 - w.toNat % 8) % 8) false ++ highB w x
theorem padB_len (w : Int) (x : BitVec 128) : (padB w x).length = 8 * ((w.toNat + 7) / 8) := by
  unfold padB
  rw [List.length_append, List.length_replicate, highB_len]; omega
end Go.Proofs.Ytdgejbbelmhbdaa
