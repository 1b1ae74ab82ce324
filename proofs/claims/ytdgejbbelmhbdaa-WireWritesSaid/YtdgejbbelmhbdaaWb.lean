/- Layer 7 by definition: what was written is read again. Conditions: none but those written. -/
import Derived.Test.YtdgejbbelmhbdaaWa
namespace Go.Proofs.Ytdgejbbelmhbdaa
open Go Go.RowKit Go.Eng
theorem numB_len (n : Int) (size : Nat) (hs : size = 1 ∨ size = 2 ∨ size = 4) : (numB n size).length = size := by rcases hs with rfl | rfl | rfl <;> rfl
def padB (w : Int) (x : BitVec 128) : List Bool := List.replicate ((8 - w.toNat % 8) % 8) false ++ highB w x
theorem padB_len (w : Int) (x : BitVec 128) : (padB w x).length = 8 * ((w.toNat + 7) / 8) := by
  unfold padB
  rw [List.length_append, List.length_replicate, highB_len]; omega
theorem vecB_len (w : Int) (x : BitVec 128) : (vecB w x).length = 1 + (w.toNat + 7) / 8 := by
  show (byteI w :: bytesL (padB w x)).length = _
  rw [List.length_cons, bytesL_len, padB_len]; omega
def textB (s : List UInt8) : List UInt8 := if s.length > 255 then [0] else UInt8.ofNat s.length :: s
end Go.Proofs.Ytdgejbbelmhbdaa
