/- What the models of parsing and writing digits answer. Conditions: none. -/
import Derived.Test.YtnpbpllibmcokaaParse
namespace Go.Proofs.Ytnpbpllibmcokaa
open Go Go.RowKit Go.Eng
theorem u8wrap {x : Int} (h : 0 ≤ x) (h2 : x ≤ 255) : IntKind.u8.wrap x = x := by
  simp only [IntKind.wrap, IntKind.signed, IntKind.bits]; simp; omega
theorem ofInt_nat {x : Int} (h : 0 ≤ x) (h2 : x < 18446744073709551616) : (BitVec.ofInt 64 x).toNat = x.toNat := by
  rw [BitVec.toNat_ofInt]; omega
def digN (n : Nat) : Nat := if 48 ≤ n ∧ n ≤ 57 then n - 48 else if 97 ≤ n ∧ n ≤ 102 then n - 87 else if 65 ≤ n ∧ n ≤ 70 then n - 55 else 16
def dig (c : UInt8) : Nat := digN c.toNat
theorem digs_all : ∀ n : Nat, n < 256 → ∀ k : Nat, k < 16 → ((((n : Int) = byteAt [48, 49, 50, 51, 52, 53, 54, 55, 56, 57, 97, 98, 99, 100, 101, 102] (k : Int)) ∨ ((n : Int) = byteAt [48, 49, 50, 51, 52, 53, 54, 55, 56, 57, 65, 66, 67, 68, 69, 70] (k : Int))) ↔ digN n = k) := by decide +kernel
theorem dig_le (c : UInt8) : dig c ≤ 16 := by unfold dig digN; have := c.toNat_lt; split <;> (try split) <;> (try split) <;> omega
theorem byteAt_get {l : List UInt8} {i : Nat} (h : i < l.length) : byteAt l (i : Int) = ((l[i]).toNat : Int) := by
  unfold byteAt; rw [Int.toNat_natCast, List.getD_eq_getElem?_getD, List.getElem?_eq_getElem h]; rfl

theorem over_aux {K M p q d : Nat} (f : M ≤ p % K * K + q % K + q / K * K) : M ≤ p * K + q + d := by
  have h1 := Nat.mul_le_mul_right K (Nat.mod_le p K)
  have h2 := Nat.div_add_mod' q K
  omega
/-- The number of the digits l behind the number n. -/
def numL (b : Nat) (l : List UInt8) (n : Nat) : Nat := l.foldl (fun n c => n * b + dig c) n
theorem numL_ge {b : Nat} (hb : 1 ≤ b) : ∀ (l : List UInt8) (n : Nat), n ≤ numL b l n
  | [], n => Nat.le_refl _
  | c :: l, n => by
    have h1 := numL_ge hb l (n * b + dig c)
    have h2 : n ≤ n * b := Nat.le_mul_of_pos_right n hb
    show n ≤ numL b l (n * b + dig c)
    omega
/-- What parsing the digits l answers, behind the number n. -/
def parseS (b : Nat) (l : List UInt8) (n : Nat) : BitVec 128 × Int :=
  if l.all (fun c => decide (dig c < b)) then (if 2 ^ 128 ≤ numL b l n then (0#128, 7) else (BitVec.ofNat 128 (numL b l n), 0)) else (0#128, 4)
theorem parseS_bad {b : Nat} {c : UInt8} {l : List UInt8} {n : Nat} (h : b ≤ dig c) : parseS b (c :: l) n = (0#128, 4) := by
  unfold parseS; rw [if_neg]; simp; intro h2; omega
theorem parseS_ok {b : Nat} {c : UInt8} {l : List UInt8} {n : Nat} (h : dig c < b) : parseS b (c :: l) n = parseS b l (n * b + dig c) := by
  unfold parseS; simp only [List.all_cons, h, decide_true, Bool.true_and]; rfl
theorem app_zero : ((0#64) ++ (0#64) : BitVec 128) = 0#128 := rfl
theorem over_next {b : Nat} (hb : 1 ≤ b) {n d : Nat} (m : BitVec 128) (hm : m = BitVec.ofNat 128 n) {v : Bool} (hv : v = decide (2 ^ 128 ≤ n)) : (if v = true then true else decide (2 ^ 128 ≤ m.toNat * b + d)) = decide (2 ^ 128 ≤ n * b + d) := by
  subst hv; subst hm
  have h2 : n ≤ n * b := Nat.le_mul_of_pos_right n hb
  by_cases h : 2 ^ 128 ≤ n
  · rw [if_pos (by simpa using h)]; symm; apply decide_eq_true; omega
  · rw [if_neg (by simpa using h), BitVec.toNat_ofNat, Nat.mod_eq_of_lt (by omega)]
theorem mod_next {b n d : Nat} {m : BitVec 128} (hm : m = BitVec.ofNat 128 n) : BitVec.ofNat 128 (m.toNat * b + d) = BitVec.ofNat 128 (n * b + d) := by
  subst hm
  apply BitVec.eq_of_toNat_eq
  simp only [BitVec.toNat_ofNat]
  rw [Nat.add_mod, Nat.mod_mul_mod, ← Nat.add_mod]
/-- What parsing answers. -/
def parseR (s : List UInt8) (b : Int) : BitVec 128 × Int := if b < 2 ∨ 16 < b then (0#128, 1) else if s = [] then (0#128, 3) else parseS b.toNat s 0
/-! ### The document's -/
theorem smalln (n : Nat) (h : n < 18446744073709551616) : zx (BitVec.ofInt 64 (n : Int)) = BitVec.ofNat 128 n := by
  apply BitVec.eq_of_toNat_eq
  rw [zx_toNat, ofInt_nat (by omega) (by omega), BitVec.toNat_ofNat, Nat.mod_eq_of_lt (by omega), Int.toNat_natCast]
end Go.Proofs.Ytnpbpllibmcokaa
