/- Words by small numbers, and their digits: plain facts. Conditions: none. -/
import Derived.Test.YtdgejbbelmhbdaaDm
import Derived.Test.YtdgejbbelmhbdaaRm
namespace Go.Eng
open Go Go.RowKit
theorem ev_convBS {P : Program} {c : Addr → Option Value} {src dst e : TypeId} {v w : Value} (h1 : P.underlying src = some (.slice e)) (h2 : P.underlying dst = some .string) (h3 : P.underlying e = some (.int .u8)) {a : Option Addr} {n k : Nat} (hv : v = .slice a n k)
    (h : ev P c (Conv.bytesToString v) = some w) : ev P c (convert src dst v) = some w := by
  subst hv
  unfold convert
  simp only [ev_bind, ev_underlying h1, ev_underlying h2, ev_underlying h3, Option.bind_some, h]
section
variable {b : Nat}
end
end Go.Eng
