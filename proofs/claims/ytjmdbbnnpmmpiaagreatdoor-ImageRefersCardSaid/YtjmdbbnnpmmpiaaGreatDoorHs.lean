import Derived.Test.YtjmdbbnnpmmpiaaGreatDoorHa
import Derived.Test.YtjmdbbnnpmmpiaaGreatDoorRx
namespace Go.Proofs.YtjmdbbnnpmmpiaaGreatDoor
open Go Go.RowKit Go.Eng
abbrev Ins := List UInt8 × Int × Int
abbrev Hd := (List UInt8) × (List (List UInt8 × Int)) × Int × Int × Int × Int
theorem WA {l : List Fd} (h : okW l) (i : Nat) : okW (l.take i) := fun x hx => h x (List.mem_of_mem_take hx)
theorem bo {h0 : List UInt8} {h1 : List Fd} {h2 h3 h4 h5 : Int} (h : Rj h0 h1 h2 h3 h4 h5 = 0) : okW h1 ∧ In h1 % 8 = 0 ∧ h1.length ≤ 16 ∧ 1 ≤ h1.length ∧ UP h1 h2 h3 h4 h5 = true := by
 unfold Rj at h
 by_cases c1 : GH h0 = true
 ·rw [if_pos c1] at h
  by_cases c2 : 16 < h1.length
  ·rw [if_pos c2] at h; omega
  rw [if_neg c2] at h
  by_cases c3 : h1.length = 0
  ·rw [if_pos c3] at h; omega
  rw [if_neg c3] at h
  unfold eC at h
  by_cases c4 : goF [] h1 = 0
  ·rw [if_pos c4] at h
   unfold VU at h
   by_cases c5 : In h1 % 8 ≠ 0
   ·rw [if_pos c5] at h; omega
   rw [if_neg c5] at h
   by_cases c6 : UP h1 h2 h3 h4 h5 = true
   ·exact ⟨Tu _ _ c4, by omega, by omega, by omega, c6⟩
   ·rw [if_neg c6] at h; omega
  ·rw [if_neg c4] at h; omega
 ·rw [if_neg c1] at h; omega
def dep (d : Int) : Nat := if 0 ≤ d ∧ d ≤ 4 then (max d 1).toNat else 0
def total (l : List Ins) : Nat := (l.map (fun x => dep x.2.2)).sum
def ofF : Nat → List Ins → Int → Int × Int × Bool
 | _, [], _ => (0, 0, false)
 | i, x :: r, k => if k < (dep x.2.2 : Int) then ((i : Int), k, true) else ofF (i + 1) r (k - (dep x.2.2 : Int))
def ofL (l : List Ins) (k : Int) : Int × Int × Bool := if k < 0 then (0, 0, false) else ofF 0 l k
theorem eJ (d : Int) : dep d ≤ 4 := by unfold dep; split <;> omega
theorem QT : ∀ l : List Ins, total l ≤ 4 * l.length
 | [] => by simp [total]
 | x :: r => by
  have := QT r; have := eJ x.2.2
  have e : total (x :: r) = dep x.2.2 + total r := by simp [total]
  rw [e, List.length_cons]; omega
end Go.Proofs.YtjmdbbnnpmmpiaaGreatDoor
namespace Go.Proofs.YtjmdbbnnpmmpiaaGreatDoor
open Go Go.RowKit Go.Eng
def goI (n : Nat) : List Ins → List Ins → Int
 | _, [] => 0
 | pre, x :: r => if GH x.1 = true then if pre.any (fun y => HX y.1 x.1) = true then 6 else if x.2.1 < 0 ∨ (n : Int) ≤ x.2.1 then 5 else if x.2.2 < 0 ∨ 4 < x.2.2 then 7 else goI n (pre ++ [x]) r else 4
def eB (l : List Ins) (e : Int) : Int := if e = 0 then if 32 < total l then 8 else 0 else e
def WY (n : Nat) (l : List Ins) : Int := if 16 < l.length then 2 else eB l (goI n [] l)
end Go.Proofs.YtjmdbbnnpmmpiaaGreatDoor
namespace Go.Proofs.YtjmdbbnnpmmpiaaGreatDoor
open Go Go.RowKit Go.Eng
def Lt (h0 : List UInt8) (h1 : List Fd) : Prop := h1.length ≤ 40 ∧ h0.length ≤ 200 ∧ ∀ j, j < h1.length → (h1[j]!).1.length ≤ 200
def Ft (n : Nat) (l : List Ins) : Prop := n ≤ 30 ∧ l.length ≤ 40 ∧ ∀ j, j < l.length → (l[j]!).1.length ≤ 200
def Tx (l : List Ins) (i : Int) : Int × Bool := if 0 ≤ i ∧ i < (l.length : Int) ∧ dep (l[i.toNat]!).2.2 ≠ 0 then ((total (l.take i.toNat) : Int), true) else (0, false)
abbrev HdB := (List UInt8) × (List (List UInt8 × Int)) × Int × Int × Int × Int × Bool
def hdL (hs : List Hd) (l : List Ins) (k : Int) : HdB :=
 if (ofL l k).2.2 = true ∧ 0 ≤ (l[(ofL l k).1.toNat]!).2.1 ∧ (l[(ofL l k).1.toNat]!).2.1 < (hs.length : Int) then
  let h := hs[((l[(ofL l k).1.toNat]!).2.1).toNat]!
  (h.1, h.2.1, h.2.2.1, h.2.2.2.1, h.2.2.2.2.1, h.2.2.2.2.2, true)
 else ([], [], 0, 0, 0, 0, false)
theorem Nu (p : List UInt8 → Bool) : ∀ (l : List (List UInt8)) (k : Nat), Qr p l k ≥ 0 ↔ l.any p = true
 | [], _ => ⟨fun h => by rw [Qr] at h; omega, fun h => by cases h⟩
 | y :: l, k => by
  rw [Qr, List.any_cons]
  by_cases h : p y = true
  ·rw [if_pos h, h]; exact ⟨fun _ => rfl, fun _ => by omega⟩
  ·rw [if_neg h, Bool.eq_false_iff.2 h, Bool.false_or]; exact Nu p l (k + 1)
end Go.Proofs.YtjmdbbnnpmmpiaaGreatDoor
