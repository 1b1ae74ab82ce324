import Derived.Test.YtjmdbbnnpmmpiaaGreatDoorRp
import Derived.Test.YtjmdbbnnpmmpiaaGreatDoorBh
namespace Go.Proofs.YtjmdbbnnpmmpiaaGreatDoor
open Go Go.RowKit Go.Eng
section
variable (N : Nat) (s : List UInt8)
def c4 (s : List UInt8) : Int := 262144 * ((((FP s 0).toNat : Nat) : Int) - 240) + 4096 * ((((FP s 1).toNat : Nat) : Int) - 128) + 64 * ((((FP s 2).toNat : Nat) : Int) - 128) + (((FP s 3).toNat : Nat) : Int) - 128
def c3 (s : List UInt8) : Int := 4096 * ((((FP s 0).toNat : Nat) : Int) - 224) + 64 * ((((FP s 1).toNat : Nat) : Int) - 128) + (((FP s 2).toNat : Nat) : Int) - 128
def c2 (s : List UInt8) : Int := 64 * ((((FP s 0).toNat : Nat) : Int) - 192) + (((FP s 1).toNat : Nat) : Int) - 128
def v4 (s : List UInt8) (x : Bool) : Int × Int := if x = true ∧ 65536 ≤ c4 s ∧ c4 s ≤ 1114111 then (c4 s, 4) else (65533, 1)
def x4 (s : List UInt8) : Bool := decide (240 ≤ (((FP s 0).toNat : Nat) : Int) ∧ (((FP s 0).toNat : Nat) : Int) < 245 ∧ 4 ≤ s.length ∧ Jf (FP s 1).toNat ∧ Jf (FP s 2).toNat ∧ Jf (FP s 3).toNat)
def v3 (s : List UInt8) (x : Bool) : Int × Int := if x = true ∧ 2048 ≤ c3 s ∧ (c3 s < 55296 ∨ 57343 < c3 s) then (c3 s, 3) else v4 s (x4 s)
def x3 (s : List UInt8) : Bool := decide (224 ≤ (((FP s 0).toNat : Nat) : Int) ∧ (((FP s 0).toNat : Nat) : Int) < 240 ∧ 3 ≤ s.length ∧ Jf (FP s 1).toNat ∧ Jf (FP s 2).toNat)
def v2 (s : List UInt8) (x : Bool) : Int × Int := if x = true then (c2 s, 2) else v3 s (x3 s)
def x2 (s : List UInt8) : Bool := decide (194 ≤ (((FP s 0).toNat : Nat) : Int) ∧ (((FP s 0).toNat : Nat) : Int) < 224 ∧ 2 ≤ s.length ∧ Jf (FP s 1).toNat)
end
end Go.Proofs.YtjmdbbnnpmmpiaaGreatDoor
namespace Go.Proofs.YtjmdbbnnpmmpiaaGreatDoor
open Go Go.RowKit Go.Eng
def Mg (c : Int) : Int := if (65 ≤ c ∧ c ≤ 90) ∨ (192 ≤ c ∧ c ≤ 222 ∧ c ≠ 215) ∨ (913 ≤ c ∧ c ≤ 937 ∧ c ≠ 930) ∨ (1040 ≤ c ∧ c ≤ 1071) then c + 32 else if 1024 ≤ c ∧ c ≤ 1039 then c + 80 else if c = 962 then 963 else c
def Mb (s : List UInt8) : List Int := (EK s).map Mg
end Go.Proofs.YtjmdbbnnpmmpiaaGreatDoor
namespace Go.Proofs.YtjmdbbnnpmmpiaaGreatDoor
open Go Go.RowKit Go.Eng
theorem UA {c : Int} (h : okR c) : okR (Mg c) := by
 unfold okR Mg at *; split
 ·omega
 ·split
  ·omega
  ·split <;> omega
theorem bz (s : List UInt8) : ∀ n ∈ Mb s, okR n := by
 unfold Mb
 intro n hn
 obtain ⟨c, hc, rfl⟩ := List.mem_map.mp hn
 exact UA (UY s c hc)
def KV (s : List UInt8) : List UInt8 := PY (Mb s)
theorem Pq (s : List UInt8) : EK (KV s) = Mb s := MT _ (bz s)
theorem bA {a b : List UInt8} : KV a = KV b ↔ Mb a = Mb b := by
 refine ⟨fun h => ?_, fun h => by unfold KV; rw [h]⟩
 rw [← Pq a, h, Pq]
end Go.Proofs.YtjmdbbnnpmmpiaaGreatDoor
namespace Go.Proofs.YtjmdbbnnpmmpiaaGreatDoor
open Go Go.RowKit Go.Eng
def GH (s : List UInt8) : Bool := decide ((46 : UInt8) ∉ s) && WM (EK s)
def HX (a b : List UInt8) : Bool := decide (Mb a = Mb b)
abbrev Fd := List UInt8 × Int
def In (l : List Fd) : Int := (l.map (·.2)).sum
def goF : List Fd → List Fd → Int
 | _, [] => 0
 | pre, f :: r => if GH f.1 = true then if pre.any (fun x => HX x.1 f.1) = true then 6 else if f.2 < 1 ∨ 128 < f.2 then 9 else goF (pre ++ [f]) r else 4
def UP (h1 : List Fd) (h2 h3 h4 h5 : Int) : Bool := if h2 = 0 then decide (h3 = 0 ∧ h4 = 0 ∧ h5 = 0) else decide (1 ≤ h2 ∧ h2 ≤ 64 ∧ 0 ≤ h3 ∧ h3 < (h1.length : Int) ∧ (h1[h3.toNat]!).2 ≤ 16 ∧ 1 ≤ h4 ∧ h4 ≤ 64 ∧ 0 ≤ h5 ∧ h5 ≤ 4096)
def VU (h1 : List Fd) (h2 h3 h4 h5 : Int) : Int := if In h1 % 8 ≠ 0 then 9 else if UP h1 h2 h3 h4 h5 = true then 0 else 7
def eC (h1 : List Fd) (h2 h3 h4 h5 e : Int) : Int := if e = 0 then VU h1 h2 h3 h4 h5 else e
def Rj (h0 : List UInt8) (h1 : List Fd) (h2 h3 h4 h5 : Int) : Int :=
 if GH h0 = true then if 16 < h1.length then 2 else if h1.length = 0 then 5 else eC h1 h2 h3 h4 h5 (goF [] h1) else 4
theorem VX (a b : List Fd) : In (a ++ b) = In a + In b := by unfold In; rw [List.map_append, List.sum_append]
def okW (l : List Fd) : Prop := ∀ x ∈ l, 1 ≤ x.2 ∧ x.2 ≤ 128
theorem MA : ∀ l : List Fd, okW l → 0 ≤ In l ∧ In l ≤ 128 * (l.length : Int)
 | [], _ => by simp [In]
 | x :: l, h => by
  have h1 := h x (by simp)
  have h2 := MA l (fun y hy => h y (by simp [hy]))
  have e : In (x :: l) = x.2 + In l := by simp [In]
  rw [e, List.length_cons]; omega
theorem Tu : ∀ (r pre : List Fd), goF pre r = 0 → okW r
 | [], _, _ => fun x hx => by cases hx
 | f :: r, pre, h => by
  rw [goF] at h
  by_cases h1 : GH f.1 = true
  ·rw [if_pos h1] at h
   by_cases h2 : pre.any (fun x => HX x.1 f.1) = true
   ·rw [if_pos h2] at h; omega
   ·rw [if_neg h2] at h
    by_cases h3 : f.2 < 1 ∨ 128 < f.2
    ·rw [if_pos h3] at h; omega
    ·rw [if_neg h3] at h
     intro x hx
     rcases List.mem_cons.1 hx with rfl | hx
     ·omega
     ·exact Tu r _ h x hx
  ·rw [if_neg h1] at h; omega
theorem Xx {α : Type} [Inhabited α] (l : List α) (i : Nat) (h : i < l.length) : l.drop i = l[i]! :: l.drop (i + 1) := by rw [List.drop_eq_getElem_cons h, getElem!_pos l i h]
theorem QU {α : Type} [Inhabited α] (l : List α) (i : Nat) (h : i < l.length) : l.take (i + 1) = l.take i ++ [l[i]!] := by rw [List.take_succ_eq_append_getElem h, getElem!_pos l i h]
end Go.Proofs.YtjmdbbnnpmmpiaaGreatDoor
