/- Words by small numbers, and their digits: plain facts. Conditions: none. -/
import Derived.Test.YtdgejbbelmhbdaaDoorDm
import Derived.Test.YtdgejbbelmhbdaaDoorRm
namespace Go.Eng
open Go Go.RowKit
def zx (d : BitVec 64) : BitVec 128 := 0#64 ++ d
theorem zx_toNat (d : BitVec 64) : (zx d).toNat = d.toNat := by
  unfold zx; rw [app_toNat]; simp
def dchs : List UInt8 := [48, 49, 50, 51, 52, 53, 54, 55, 56, 57, 97, 98, 99, 100, 101, 102]
def dch (n : Nat) : UInt8 := dchs.getD n 0
/-- The digits of n, at most f of them. -/
def textL (b : Nat) : Nat → Nat → List UInt8
  | 0, _ => []
  | f + 1, n => if n / b = 0 then [dch (n % b)] else textL b f (n / b) ++ [dch (n % b)]
theorem ev_convBS {P : Program} {c : Addr → Option Value} {src dst e : TypeId} {v w : Value} (h1 : P.underlying src = some (.slice e)) (h2 : P.underlying dst = some .string) (h3 : P.underlying e = some (.int .u8)) {a : Option Addr} {n k : Nat} (hv : v = .slice a n k)
    (h : ev P c (Conv.bytesToString v) = some w) : ev P c (convert src dst v) = some w := by
  subst hv
  unfold convert
  simp only [ev_bind, ev_underlying h1, ev_underlying h2, ev_underlying h3, Option.bind_some, h]
section
variable {b : Nat}
end
end Go.Eng
