import Derived.Test.YtjmdbbnnpmmpiaaGreatDoorMd
import Derived.Test.YtjmdbbnnpmmpiaaGreatDoorIo
import Derived.Test.YtjmdbbnnpmmpiaaGreatDoorWord
import Derived.Test.YtjmdbbnnpmmpiaaGreatDoorMm
import Derived.Test.YtjmdbbnnpmmpiaaGreatDoorSr
import Derived.Test.YtjmdbbnnpmmpiaaGreatDoorBh
namespace Go.Proofs.YtjmdbbnnpmmpiaaGreatDoor
open Go Go.RowKit Go.Eng
def WN (w : Int) (x : BitVec 128) : Bool := decide (1 ≤ w) && (decide (w ≤ 128) && decide (((len128 x : Nat) : Int) ≤ w))
theorem VM (N : Nat) (w : Int) (x : BitVec 128) : HB N w x = some (WN w x) := by
 unfold HB EM WN Gj
 by_cases h1 : 1 ≤ w
 ·rw [if_pos h1, decide_eq_true h1, Bool.true_and, Option.bind_some]
  by_cases h2 : w ≤ 128
  ·rw [decide_eq_true h2, if_pos rfl, Option.bind_some, Bool.true_and]
  ·rw [decide_eq_false h2, if_neg (by decide), Bool.false_and]
 ·rw [if_neg h1, decide_eq_false h1, Bool.false_and, Option.bind_some, if_neg (by decide)]
end Go.Proofs.YtjmdbbnnpmmpiaaGreatDoor
namespace Go.Proofs.YtjmdbbnnpmmpiaaGreatDoor
open Go Go.RowKit Go.Eng
abbrev R9 := List UInt8 × Int × Int × Int × Int × Int × Int × Int × List UInt8
abbrev I9 := Int × Int × Int × Int × BitVec 128
def dc : List R9 := match Va 0 with | some l => l | none => []
def Hx (o : Int) : R9 := dc[o.toNat]!
def LB (o a b w : Int) (x : BitVec 128) : Int :=
 if 0 ≤ o ∧ o ≤ 34 then
  if a < (Hx o).2.2.2.2.1 ∨ (Hx o).2.2.2.2.2.1 < a ∨ b < (Hx o).2.2.2.2.2.2.1 ∨ (Hx o).2.2.2.2.2.2.2.1 < b ∨ (o = 10 ∧ a < b) then 7
  else if o = 0 then (if WN w x = true then 0 else 1) else if w = 0 ∧ x = 0#128 then 0 else 1
 else 10
theorem zz9 : ((0#64) ++ (0#64) : BitVec 128) = 0#128 := by decide
def MO (o a b w : Int) (x : BitVec 128) : Sum322 :=
 if o = 0 then .t376 w x
 else if o = 1 ∨ o = 22 then .t378 o a b
 else if o = 2 ∨ o = 3 ∨ o = 5 ∨ o = 23 ∨ o = 24 ∨ o = 29 ∨ o = 30 then .t380 o a
 else if o = 4 ∨ o = 25 ∨ o = 26 then .t381 o a
 else if o = 6 ∨ o = 7 ∨ o = 8 ∨ o = 9 ∨ o = 11 then .t382 o a
 else if o = 10 then .t384 a b
 else if o = 27 ∨ o = 28 then .t386 o a b
 else if o = 31 ∨ o = 32 then .t388 o a
 else if o = 33 then .t390 a b
 else if o = 34 then .t392
 else .t394 o
theorem bp {o a b w : Int} {x : BitVec 128} (h : LB o a b w x = 0) : 0 ≤ o ∧ o ≤ 34 := by
 unfold LB at h
 by_cases c : 0 ≤ o ∧ o ≤ 34
 ·exact c
 ·rw [if_neg c] at h; omega
def JE : Sum322 → Int × Bool
 | .t388 _ t => (t, true)
 | .t390 _ t => (t, true)
 | _ => (0, false)
end Go.Proofs.YtjmdbbnnpmmpiaaGreatDoor
namespace Go.Proofs.YtjmdbbnnpmmpiaaGreatDoor
open Go Go.RowKit Go.Eng
def Kk (x : I9) : Int := LB x.1 x.2.1 x.2.2.1 x.2.2.2.1 x.2.2.2.2
def FZ (x : I9) : Sum322 := MO x.1 x.2.1 x.2.2.1 x.2.2.2.1 x.2.2.2.2
def Ph : Nat → List I9 → Int × Int → Int × Int
 | _, [], d => d
 | i, x :: r, d => if Kk x ≠ 0 then ((i : Int), Kk x) else Ph (i + 1) r d
def Om (l : List I9) : Int × Int := Ph 0 (l.take 64) (((min l.length 64 : Nat) : Int), if l.length > 64 then 2 else 0)
def SR (l : List I9) : List Sum322 × Int × Int := (if (Om l).2 = 0 then l.map FZ else [], (Om l).1, (Om l).2)
end Go.Proofs.YtjmdbbnnpmmpiaaGreatDoor
