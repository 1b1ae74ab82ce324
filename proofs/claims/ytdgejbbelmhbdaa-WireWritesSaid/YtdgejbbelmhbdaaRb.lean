/- The reference of layer 5: the first rune. Conditions: none.  Program: Try. -/
import Derived.Test.YtdgejbbelmhbdaaRa
import Derived.Test.YtdgejbbelmhbdaaBf
namespace Go.Proofs.Ytdgejbbelmhbdaa
open Go Go.RowKit Go.Eng
section
variable (N : Nat) (s : List UInt8)
def c4 (s : List UInt8) : Int := 262144 * ((((byteN s 0).toNat : Nat) : Int) - 240) + 4096 * ((((byteN s 1).toNat : Nat) : Int) - 128) + 64 * ((((byteN s 2).toNat : Nat) : Int) - 128) + (((byteN s 3).toNat : Nat) : Int) - 128
def c3 (s : List UInt8) : Int := 4096 * ((((byteN s 0).toNat : Nat) : Int) - 224) + 64 * ((((byteN s 1).toNat : Nat) : Int) - 128) + (((byteN s 2).toNat : Nat) : Int) - 128
def c2 (s : List UInt8) : Int := 64 * ((((byteN s 0).toNat : Nat) : Int) - 192) + (((byteN s 1).toNat : Nat) : Int) - 128
def v4 (s : List UInt8) (x : Bool) : Int × Int := if x = true ∧ 65536 ≤ c4 s ∧ c4 s ≤ 1114111 then (c4 s, 4) else (65533, 1)
def x4 (s : List UInt8) : Bool := decide (240 ≤ (((byteN s 0).toNat : Nat) : Int) ∧ (((byteN s 0).toNat : Nat) : Int) < 245 ∧ 4 ≤ s.length ∧ cont (byteN s 1).toNat ∧ cont (byteN s 2).toNat ∧ cont (byteN s 3).toNat)
def v3 (s : List UInt8) (x : Bool) : Int × Int := if x = true ∧ 2048 ≤ c3 s ∧ (c3 s < 55296 ∨ 57343 < c3 s) then (c3 s, 3) else v4 s (x4 s)
def x3 (s : List UInt8) : Bool := decide (224 ≤ (((byteN s 0).toNat : Nat) : Int) ∧ (((byteN s 0).toNat : Nat) : Int) < 240 ∧ 3 ≤ s.length ∧ cont (byteN s 1).toNat ∧ cont (byteN s 2).toNat)
def v2 (s : List UInt8) (x : Bool) : Int × Int := if x = true then (c2 s, 2) else v3 s (x3 s)
def x2 (s : List UInt8) : Bool := decide (194 ≤ (((byteN s 0).toNat : Nat) : Int) ∧ (((byteN s 0).toNat : Nat) : Int) < 224 ∧ 2 ≤ s.length ∧ cont (byteN s 1).toNat)
end
end Go.Proofs.Ytdgejbbelmhbdaa
