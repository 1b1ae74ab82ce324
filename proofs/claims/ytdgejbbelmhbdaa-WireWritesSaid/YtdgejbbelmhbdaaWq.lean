/- Layer 7: what the program's reader answers, and that it goes with the document's. Conditions: those written (lengths, fuel). -/
import Derived.Test.YtdgejbbelmhbdaaWp
namespace Go.Proofs.Ytdgejbbelmhbdaa
open Go Go.RowKit Go.Eng
section
variable (N : Nat) (hN : 400 < N) (r : List UInt8) (hr : r.length ≤ 100000000) (a e : Int) (ha : 0 ≤ a ∧ a ≤ (r.length : Int))
include hN hr ha
end
structure Goes (r : List UInt8) (a e : Int) (x : RdS) : Prop where
  at0 : 0 ≤ a ∧ a ≤ (r.length : Int)
  rest : x.1 = r.drop a.toNat
  place : x.2.1 = a
  err : x.2.2.1 = e
  wher : e ≠ 0 → x.2.2.2 = a
theorem Goes.len {r : List UInt8} {a e : Int} {x : RdS} (h : Goes r a e x) : (x.1.length : Int) = (r.length : Int) - a := by
  have := h.at0; rw [h.rest, List.length_drop]; omega
theorem Goes.on {r : List UInt8} {a : Int} {x : RdS} (h : Goes r a 0 x) (c : Nat) (hc : c ≤ x.1.length) : Goes r (a + c) 0 (x.1.drop c, x.2.1 + c, 0, x.2.2.2) := by
  have h0 := h.at0; have hl := h.len
  refine ⟨by omega, ?_, by rw [h.place], rfl, fun hne => absurd rfl hne⟩
  show x.1.drop c = r.drop (a + (c : Int)).toNat
  rw [h.rest, List.drop_drop]; congr 1; omega
end Go.Proofs.Ytdgejbbelmhbdaa
