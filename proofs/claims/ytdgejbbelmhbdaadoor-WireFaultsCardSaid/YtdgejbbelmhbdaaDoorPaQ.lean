/- What the models of parsing and writing digits answer. Conditions: none. -/
import Derived.Test.YtdgejbbelmhbdaaDoorParse
namespace Go.Proofs.YtdgejbbelmhbdaaDoor
open Go Go.RowKit Go.Eng
theorem ofInt_nat {x : Int} (h : 0 ≤ x) (h2 : x < 18446744073709551616) : (BitVec.ofInt 64 x).toNat = x.toNat := by
  rw [BitVec.toNat_ofInt]; omega
theorem small_s (N : Nat) (n : Int) : shunterref01_small_m N n = some (zx (BitVec.ofInt 64 n)) := rfl
theorem smalln (n : Nat) (h : n < 18446744073709551616) : zx (BitVec.ofInt 64 (n : Int)) = BitVec.ofNat 128 n := by
  apply BitVec.eq_of_toNat_eq
  rw [zx_toNat, ofInt_nat (by omega) (by omega), BitVec.toNat_ofNat, Nat.mod_eq_of_lt (by omega), Int.toNat_natCast]
end Go.Proofs.YtdgejbbelmhbdaaDoor
