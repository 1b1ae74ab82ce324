/- Words by small numbers, and their digits: plain facts. Conditions: none. -/
import Derived.Test.YtmdjifehblijkaaDm
import Derived.Test.YtmdjifehblijkaaRm
namespace Go.Eng
open Go Go.RowKit
def zx (d : BitVec 64) : BitVec 128 := 0#64 ++ d
theorem zx_toNat (d : BitVec 64) : (zx d).toNat = d.toNat := by
  unfold zx; rw [app_toNat]; simp
section
variable {b : Nat}
end
end Go.Eng
