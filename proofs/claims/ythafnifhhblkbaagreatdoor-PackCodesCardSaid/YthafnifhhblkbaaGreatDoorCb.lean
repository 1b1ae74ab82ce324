import Derived.Test.YthafnifhhblkbaaGreatDoorMd
import Derived.Test.YthafnifhhblkbaaGreatDoorMove
import Derived.Test.YthafnifhhblkbaaGreatDoorGx
import Derived.Test.YthafnifhhblkbaaGreatDoorSr
import Derived.Test.YthafnifhhblkbaaGreatDoorVQ
import Derived.Test.YthafnifhhblkbaaGreatDoorBj
namespace Go.Proofs.YthafnifhhblkbaaGreatDoor
open Go Go.RowKit Go.Eng
abbrev R9 := List UInt8 × Int × Int × Int × Int × Int × Int × Int × List UInt8
abbrev I9 := Int × Int × Int × Int × BitVec 128
def tab9 : List R9 := match Hr 0 with | some l => l | none => []
theorem Zh (N : Nat) : Hr N = some tab9 := rfl
theorem Wm : tab9.length = 35 := rfl
def Fi (o : Int) : R9 := tab9[o.toNat]!
def Of (o a b w : Int) (x : BitVec 128) : Int :=
 if 0 ≤ o ∧ o ≤ 34 then
  if a < (Fi o).2.2.2.2.1 ∨ (Fi o).2.2.2.2.2.1 < a ∨ b < (Fi o).2.2.2.2.2.2.1 ∨ (Fi o).2.2.2.2.2.2.2.1 < b ∨ (o = 10 ∧ a < b) then 7
  else if o = 0 then (if MU w x = true then 0 else 1) else if w = 0 ∧ x = 0#128 then 0 else 1
 else 10
theorem bS : ∀ k : Nat, k < 35 → ((tab9[k]!).1 = [112, 117, 115, 104] ↔ k = 0) ∧ ((tab9[k]!).1 = [115, 108, 105, 99, 101] ↔ k = 10) := by decide +kernel
theorem Rp {o : Int} (h0 : 0 ≤ o) (h1 : o ≤ 34) : (Fi o).1 = [112, 117, 115, 104] ↔ o = 0 := by
 have := (bS o.toNat (by omega)).1
 unfold Fi; rw [this]; omega
theorem aj {o : Int} (h0 : 0 ≤ o) (h1 : o ≤ 34) : (Fi o).1 = [115, 108, 105, 99, 101] ↔ o = 10 := by
 have := (bS o.toNat (by omega)).2
 unfold Fi; rw [this]; omega
theorem zz9 : ((0#64) ++ (0#64) : BitVec 128) = 0#128 := by decide
theorem ak (N : Nat) (o a b w : Int) (x : BitVec 128) : OC N o a b w x = some (Of o a b w x) := by
 have k2 : 0 ≤ o → o ≤ 34 → LE N o w x tab9 = some (if o = 0 then (if MU w x = true then 0 else 1) else if w = 0 ∧ x = 0#128 then 0 else 1) := fun h0 h1 => by
  rw [LE, zz9]
  have e := Rp h0 h1
  unfold Fi at e
  by_cases c : o = 0
  ·rw [if_pos (e.2 c), if_pos c, bz, Option.bind_some]
   by_cases d : MU w x = true
   ·rw [if_pos d, if_pos d]
   ·rw [if_neg d, if_neg d]
  ·rw [if_neg (fun h => c (e.1 h)), if_neg c]
   by_cases d : w = 0 ∧ x = 0#128
   ·rw [if_pos (by rw [d.1, d.2]; decide), if_pos d]
   ·rw [if_neg (fun h => d (by simpa using h)), if_neg d]
 unfold OC Of
 by_cases h0 : o < 0
 ·rw [if_pos h0, if_neg (by omega)]
 rw [if_neg h0]
 by_cases h1 : o > 34
 ·rw [if_pos h1, if_neg (by omega)]
 have e := aj (o := o) (by omega) (by omega)
 have k2' := k2 (by omega) (by omega)
 rw [if_neg h1, if_pos ⟨by omega, by omega⟩, OD, Zh, Option.bind_some, AR _ (by rw [Wm]; omega)]
 unfold Fi at e ⊢
 by_cases a1 : a < (tab9[o.toNat]!).2.2.2.2.1
 ·rw [if_pos a1, if_pos (.inl a1)]
 rw [if_neg a1]
 by_cases a2 : a > (tab9[o.toNat]!).2.2.2.2.2.1
 ·rw [if_pos a2, if_pos (.inr (.inl a2))]
 rw [if_neg a2]
 by_cases a3 : b < (tab9[o.toNat]!).2.2.2.2.2.2.1
 ·rw [if_pos a3, if_pos (.inr (.inr (.inl a3)))]
 rw [if_neg a3]
 by_cases a4 : b > (tab9[o.toNat]!).2.2.2.2.2.2.2.1
 ·rw [if_pos a4, if_pos (.inr (.inr (.inr (.inl a4))))]
 rw [if_neg a4]
 have hn : ¬ (o = 10 ∧ a < b) → ¬ (a < (tab9[o.toNat]!).2.2.2.2.1 ∨ (tab9[o.toNat]!).2.2.2.2.2.1 < a ∨ b < (tab9[o.toNat]!).2.2.2.2.2.2.1 ∨ (tab9[o.toNat]!).2.2.2.2.2.2.2.1 < b ∨ (o = 10 ∧ a < b)) := fun q h => by
  rcases h with h | h | h | h | h
  ·exact a1 h
  ·exact a2 h
  ·exact a3 h
  ·exact a4 h
  ·exact q h
 by_cases c : o = 10
 ·rw [if_pos (e.2 c)]
  by_cases d : a < b
  ·rw [if_pos d, if_pos (.inr (.inr (.inr (.inr ⟨c, d⟩))))]
  ·rw [if_neg d, k2', if_neg (hn (fun h => d h.2))]
 ·rw [if_neg (fun h => c (e.1 h)), k2', if_neg (hn (fun h => c h.1))]
def Ri (o a b w : Int) (x : BitVec 128) : Sum214 :=
 if o = 0 then .t272 w x
 else if o = 1 ∨ o = 22 then .t294 o a b
 else if o = 2 ∨ o = 3 ∨ o = 5 ∨ o = 23 ∨ o = 24 ∨ o = 29 ∨ o = 30 then .t297 o a
 else if o = 4 ∨ o = 25 ∨ o = 26 then .t299 o a
 else if o = 6 ∨ o = 7 ∨ o = 8 ∨ o = 9 ∨ o = 11 then .t301 o a
 else if o = 10 then .t304 a b
 else if o = 27 ∨ o = 28 then .t307 o a b
 else if o = 31 ∨ o = 32 then .t310 o a
 else if o = 33 then .t313 a b
 else if o = 34 then .t366
 else .t368 o
theorem Vm {o a b w : Int} {x : BitVec 128} (h : Of o a b w x = 0) : 0 ≤ o ∧ o ≤ 34 := by
 unfold Of at h
 by_cases c : 0 ≤ o ∧ o ≤ 34
 ·exact c
 ·rw [if_neg c] at h; omega
end Go.Proofs.YthafnifhhblkbaaGreatDoor
namespace Go.Proofs.YthafnifhhblkbaaGreatDoor
open Go Go.RowKit Go.Eng
def Hv (x : I9) : Int := Of x.1 x.2.1 x.2.2.1 x.2.2.2.1 x.2.2.2.2
def Iv (x : I9) : Sum214 := Ri x.1 x.2.1 x.2.2.1 x.2.2.2.1 x.2.2.2.2
def Uh : Nat → List I9 → Int × Int → Int × Int
 | _, [], d => d
 | i, x :: r, d => if Hv x ≠ 0 then ((i : Int), Hv x) else Uh (i + 1) r d
def QS (l : List I9) : Int × Int := Uh 0 (l.take 64) (((min l.length 64 : Nat) : Int), if l.length > 64 then 2 else 0)
def Wc (l : List I9) : List Sum214 × Int × Int := (if (QS l).2 = 0 then l.map Iv else [], (QS l).1, (QS l).2)
end Go.Proofs.YthafnifhhblkbaaGreatDoor
