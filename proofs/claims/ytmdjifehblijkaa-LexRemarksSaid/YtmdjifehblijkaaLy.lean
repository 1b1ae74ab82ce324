/- Numbers and rows of layer 6 by definition: NumOk. Conditions: none but those written. -/
import Derived.Test.YtmdjifehblijkaaWt
import Derived.Test.YtmdjifehblijkaaLx
namespace Go.Proofs.Ytmdjifehblijkaa
open Go Go.RowKit Go.Eng
/-- a number in a base -/
def intS (t : List UInt8) (b : Int) : TokD × Int :=
  if (parseR t b).2 = 4 ∨ (parseR t b).2 = 3 then ((2, [], 0, 0, 0#128), 4)
  else if (parseR t b).2 ≠ 0 ∨ ((len128 (parseR t b).1 : Nat) : Int) > 63 then ((2, [], 0, 0, 0#128), 7)
  else ((2, [], (((parseR t b).1.toNat : Nat) : Int), 0, 0#128), 0)
/-- a number or a row -/
def numS6 (s : List UInt8) : TokD × Int :=
  if apos s < s.length then ((3, [], 0, (parseV s).1, (parseV s).2.1), (parseV s).2.2)
  else if 2 ≤ s.length ∧ s.take 2 = [48, 120] then intS (s.drop 2) 16 else intS s 10
theorem len63 {x : BitVec 128} (h : ¬ ((len128 x : Nat) : Int) > 63) : x.toNat < 2 ^ 63 :=
  Nat.lt_of_lt_of_le (len128_spec x).1 (Nat.pow_le_pow_right (by decide) (by omega))
end Go.Proofs.Ytmdjifehblijkaa
