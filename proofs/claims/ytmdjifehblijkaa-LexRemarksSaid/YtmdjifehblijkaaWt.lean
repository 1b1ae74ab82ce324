/- Texts of numbers and of rows of bits, there and back; by definition. Conditions: none but those written. -/
import Derived.Test.YtmdjifehblijkaaPaQ
import Derived.Test.YtmdjifehblijkaaTeP
namespace Go.Proofs.Ytmdjifehblijkaa
open Go Go.RowKit Go.Eng
def mayB (w : Int) (x : BitVec 128) : Bool := decide (1 ≤ w) && (decide (w ≤ 128) && decide (((len128 x : Nat) : Int) ≤ w))
theorem may_w {w : Int} {x : BitVec 128} (h : mayB w x = true) : 1 ≤ w ∧ w ≤ 128 ∧ ((len128 x : Nat) : Int) ≤ w := by
  simpa [mayB] using h
def apos : List UInt8 → Nat
  | [] => 0
  | c :: l => if c = 39 then 0 else apos l + 1
theorem apos_le : ∀ s : List UInt8, apos s ≤ s.length
  | [] => Nat.le_refl _
  | c :: l => by
    unfold apos
    have := apos_le l
    split
    · omega
    · simp only [List.length_cons]; omega
theorem parseR_err (s : List UInt8) (b : Int) (h : 2 ≤ b ∧ b ≤ 16) : (parseR s b).2 = 0 ∨ (parseR s b = (0#128, 3)) ∨ (parseR s b = (0#128, 4)) ∨ (parseR s b = (0#128, 7)) := by
  unfold parseR
  rw [if_neg (by omega)]
  split
  · exact .inr (.inl rfl)
  · unfold parseS
    split
    · split
      · exact .inr (.inr (.inr rfl))
      · exact .inl rfl
    · exact .inr (.inr (.inl rfl))
theorem numL_lt {b : Nat} : ∀ (l : List UInt8) (n : Nat), l.all (fun c => decide (dig c < b)) = true → numL b l n < (n + 1) * b ^ l.length
  | [], n, _ => by simp [numL]
  | c :: l, n, h => by
    simp only [List.all_cons, Bool.and_eq_true, decide_eq_true_eq] at h
    have ih := numL_lt l (n * b + dig c) h.2
    show numL b l (n * b + dig c) < _
    have h2 : (n * b + dig c + 1) * b ^ l.length ≤ (n * b + b) * b ^ l.length := Nat.mul_le_mul_right _ (by omega)
    have h3 : (n + 1) * b ^ (l.length + 1) = (n * b + b) * b ^ l.length := by
      rw [Nat.pow_succ, Nat.mul_comm (b ^ l.length) b, ← Nat.mul_assoc, Nat.add_mul, Nat.one_mul]
    simp only [List.length_cons]
    omega
theorem parseR_small {s : List UInt8} (h3 : s.length ≤ 3) : (parseR s 10).1.toNat < 1000 := by
  unfold parseR
  rw [if_neg (by decide)]
  split
  · decide
  · unfold parseS
    have e10 : (10 : Int).toNat = 10 := rfl
    rw [e10]
    by_cases ha : s.all (fun c => decide (dig c < 10)) = true
    · rw [if_pos ha]
      have h1 := numL_lt (b := 10) s 0 ha
      have h2 : 10 ^ s.length ≤ 10 ^ 3 := Nat.pow_le_pow_right (by decide) h3
      rw [if_neg (by omega)]
      show (BitVec.ofNat 128 _).toNat < 1000
      rw [BitVec.toNat_ofNat, Nat.mod_eq_of_lt (by omega)]
      omega
    · rw [if_neg ha]; decide
/-- What parsing a row's text answers. -/
def parseV (s : List UInt8) : Int × BitVec 128 × Int :=
  if apos s < s.length ∧ 1 ≤ apos s ∧ apos s ≤ 3 ∧ (parseR (s.take (apos s)) 10).2 = 0 ∧ (parseR (s.drop (apos s + 1)) 16).2 ≠ 3 ∧ (parseR (s.drop (apos s + 1)) 16).2 ≠ 4 then
    let w : Int := ((parseR (s.take (apos s)) 10).1.toNat : Int)
    let x := parseR (s.drop (apos s + 1)) 16
    if 1 ≤ w ∧ w ≤ 128 then (if x.2 = 0 ∧ mayB w x.1 = true then (w, x.1, 0) else (0, 0#128, 7)) else (0, 0#128, 9)
  else (0, 0#128, 4)
theorem parseV_bad {s : List UInt8} (h : ¬ (apos s < s.length ∧ 1 ≤ apos s ∧ apos s ≤ 3 ∧ (parseR (s.take (apos s)) 10).2 = 0 ∧ (parseR (s.drop (apos s + 1)) 16).2 ≠ 3 ∧ (parseR (s.drop (apos s + 1)) 16).2 ≠ 4)) : parseV s = (0, 0#128, 4) := if_neg h
theorem parseV_good {s : List UInt8} (h : apos s < s.length ∧ 1 ≤ apos s ∧ apos s ≤ 3 ∧ (parseR (s.take (apos s)) 10).2 = 0 ∧ (parseR (s.drop (apos s + 1)) 16).2 ≠ 3 ∧ (parseR (s.drop (apos s + 1)) 16).2 ≠ 4) :
    parseV s = if 1 ≤ ((parseR (s.take (apos s)) 10).1.toNat : Int) ∧ ((parseR (s.take (apos s)) 10).1.toNat : Int) ≤ 128 then (if (parseR (s.drop (apos s + 1)) 16).2 = 0 ∧ mayB ((parseR (s.take (apos s)) 10).1.toNat : Int) (parseR (s.drop (apos s + 1)) 16).1 = true then (((parseR (s.take (apos s)) 10).1.toNat : Int), (parseR (s.drop (apos s + 1)) 16).1, 0) else (0, 0#128, 7)) else (0, 0#128, 9) := if_pos h
theorem lo_small {x : BitVec 128} (h : x.toNat < 1000) : (lo x).toNat = x.toNat := by rw [lo_toNat, Nat.mod_eq_of_lt (by omega)]
end Go.Proofs.Ytmdjifehblijkaa
