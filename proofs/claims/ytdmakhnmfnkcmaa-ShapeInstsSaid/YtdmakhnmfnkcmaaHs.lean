/- Layer 8: what the program's functions answer, as a structure. Conditions: none here. -/
import Derived.Test.YtdmakhnmfnkcmaaHc
namespace Go.Proofs.Ytdmakhnmfnkcmaa
open Go Go.RowKit Go.Eng
def Lt (h0 : List UInt8) (h1 : List Fd) : Prop := h1.length ≤ 40 ∧ h0.length ≤ 200 ∧ ∀ j, j < h1.length → (h1[j]!).1.length ≤ 200
def Ft (n : Nat) (l : List Ins) : Prop := n ≤ 30 ∧ l.length ≤ 40 ∧ ∀ j, j < l.length → (l[j]!).1.length ≤ 200
def bitsH (h0 : List UInt8) (h1 : List Fd) (h2 h3 h4 h5 : Int) : Int := if mayH h0 h1 h2 h3 h4 h5 = 0 then sumW h1 else 0
def mostH (h0 : List UInt8) (h1 : List Fd) (h2 h3 h4 h5 : Int) : Int := if mayH h0 h1 h2 h3 h4 h5 = 0 then sumW h1 / 8 + h2 else 0
def offH (h0 : List UInt8) (h1 : List Fd) (h2 h3 h4 h5 f : Int) : Int × Bool := if mayH h0 h1 h2 h3 h4 h5 = 0 ∧ 0 ≤ f ∧ f < (h1.length : Int) then (sumW (h1.take f.toNat), true) else (0, false)
def varyH (h0 : List UInt8) (h1 : List Fd) (h2 h3 h4 h5 n : Int) : Int × Bool := if mayH h0 h1 h2 h3 h4 h5 = 0 then varyL h2 h4 h5 n else (0, false)
def idxL (l : List (List UInt8)) (s : List UInt8) : Int := idxF (fun x => alikeL x s) l 0
def firstL (l : List Ins) (i : Int) : Int × Bool := if 0 ≤ i ∧ i < (l.length : Int) ∧ dep (l[i.toNat]!).2.2 ≠ 0 then ((total (l.take i.toNat) : Int), true) else (0, false)
abbrev HdB := (List UInt8) × (List (List UInt8 × Int)) × Int × Int × Int × Int × Bool
def hdL (hs : List Hd) (l : List Ins) (k : Int) : HdB :=
  if (ofL l k).2.2 = true ∧ 0 ≤ (l[(ofL l k).1.toNat]!).2.1 ∧ (l[(ofL l k).1.toNat]!).2.1 < (hs.length : Int) then
    let h := hs[((l[(ofL l k).1.toNat]!).2.1).toNat]!
    (h.1, h.2.1, h.2.2.1, h.2.2.2.1, h.2.2.2.2.1, h.2.2.2.2.2, true)
  else ([], [], 0, 0, 0, 0, false)
/-- The functions that speak of headers. -/
structure ShapesH (N : Nat) : Prop where
  may : ∀ h0 h1 h2 h3 h4 h5, Lt h0 h1 → shape_May_v1_m N h0 h1 h2 h3 h4 h5 = some (mayH h0 h1 h2 h3 h4 h5)
  bits : ∀ h0 h1 h2 h3 h4 h5, Lt h0 h1 → shape_Bits_v1_m N h0 h1 h2 h3 h4 h5 = some (bitsH h0 h1 h2 h3 h4 h5)
  bytes : ∀ h0 h1 h2 h3 h4 h5, Lt h0 h1 → shape_Bytes_v1_m N h0 h1 h2 h3 h4 h5 = some (bitsH h0 h1 h2 h3 h4 h5 / 8)
  offset : ∀ h0 h1 h2 h3 h4 h5 f, Lt h0 h1 → mayH h0 h1 h2 h3 h4 h5 = 0 → shape_Offset_v1_m N h0 h1 h2 h3 h4 h5 f = some (offH h0 h1 h2 h3 h4 h5 f)
theorem ShapesH.lives {N : Nat} (S : ShapesH N) : shunterlaw08_lives_m N = some true := by
  have hl : Lt [104] [([97], 4), ([98], 4), ([99], 8)] := ⟨by decide, by decide, by decide⟩
  have hm : mayH [104] [([97], 4), ([98], 4), ([99], 8)] 0 0 0 0 = 0 := by decide +kernel
  unfold shunterlaw08_lives_m
  rw [S.offset _ _ _ _ _ _ _ hl hm, Option.bind_some, S.bytes _ _ _ _ _ _ hl, Option.bind_some, S.may _ _ _ _ _ _ hl, Option.bind_some]
  unfold offH bitsH
  rw [hm]
  decide +kernel
theorem lt_of {h0 : List UInt8} {h1 : List Fd} (h : lightB h0 h1 = true) : Lt h0 h1 := light_of h
theorem ft_of {n : Nat} {l : List Ins} (h : fewB n l = true) : Ft n l := few_of h
theorem idxF_snoc (p : List UInt8 → Bool) : ∀ (l : List (List UInt8)) (x : List UInt8) (k : Nat), idxF p (l ++ [x]) k = if idxF p l k = -1 then (if p x = true then ((k + l.length : Nat) : Int) else -1) else idxF p l k
  | [], x, k => by rw [List.nil_append, idxF, idxF, idxF, if_pos rfl]; rfl
  | y :: l, x, k => by
    rw [List.cons_append, idxF, idxF]
    by_cases h : p y = true
    · rw [if_pos h, if_pos h, if_neg (by omega)]
    · rw [if_neg h, if_neg h, idxF_snoc p l x (k + 1), List.length_cons, show k + 1 + l.length = k + (l.length + 1) from by omega]
theorem idxF_ge (p : List UInt8 → Bool) : ∀ (l : List (List UInt8)) (k : Nat), idxF p l k = -1 ∨ 0 ≤ idxF p l k
  | [], _ => .inl rfl
  | y :: l, k => by
    rw [idxF]
    by_cases h : p y = true
    · rw [if_pos h]; exact .inr (by omega)
    · rw [if_neg h]; exact idxF_ge p l (k + 1)
theorem idxF_any (p : List UInt8 → Bool) : ∀ (l : List (List UInt8)) (k : Nat), idxF p l k ≥ 0 ↔ l.any p = true
  | [], _ => ⟨fun h => by rw [idxF] at h; omega, fun h => by cases h⟩
  | y :: l, k => by
    rw [idxF, List.any_cons]
    by_cases h : p y = true
    · rw [if_pos h, h]; exact ⟨fun _ => rfl, fun _ => by omega⟩
    · rw [if_neg h, Bool.eq_false_iff.2 h, Bool.false_or]; exact idxF_any p l (k + 1)
end Go.Proofs.Ytdmakhnmfnkcmaa
