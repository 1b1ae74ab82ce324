/- The document's rows of 128 bits as numbers: the loops' plain facts. Conditions: none. -/
import Derived.Test.YtdgejbbelmhbdaaRm
namespace Go.Eng
open Go Go.RowKit
/-- The bits below k. -/
def below (x : BitVec 128) (k j : Nat) : Bool := decide (j < k) && x.getLsbD j
def shiftI (x : BitVec 128) (n : Int) : BitVec 128 := if n ≥ 0 then x <<< n.toNat else x >>> (-n).toNat
end Go.Eng
