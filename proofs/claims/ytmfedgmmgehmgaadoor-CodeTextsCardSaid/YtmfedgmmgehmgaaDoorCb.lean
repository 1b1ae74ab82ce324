/- Layer 9: what the program's functions answer, as a structure. Conditions: none here. -/
import Derived.Test.YtmfedgmmgehmgaaDoorCa
namespace Go.Proofs.YtmfedgmmgehmgaaDoor
open Go Go.RowKit Go.Eng
def may9I (x : I9) : Int := may9 x.1 x.2.1 x.2.2.1 x.2.2.2.1 x.2.2.2.2
def step9I (x : I9) : Sum31 := step9 x.1 x.2.1 x.2.2.1 x.2.2.2.1 x.2.2.2.2
/-- The first one that may not be, and why; d: none. -/
def badF : Nat → List I9 → Int × Int → Int × Int
  | _, [], d => d
  | i, x :: r, d => if may9I x ≠ 0 then ((i : Int), may9I x) else badF (i + 1) r d
def bad9 (l : List I9) : Int × Int := badF 0 (l.take 64) (((min l.length 64 : Nat) : Int), if l.length > 64 then 2 else 0)
def all9 (l : List I9) : List Sum31 × Int × Int := (if (bad9 l).2 = 0 then l.map step9I else [], (bad9 l).1, (bad9 l).2)
/-- What the program's functions answer. -/
structure Code9 (N : Nat) : Prop where
  may : ∀ o a b w x, code_May_m N o a b w x = some (may9 o a b w x)
  make : ∀ o a b w x, code_Make_m N o a b w x = some (if may9 o a b w x = 0 then step9 o a b w x else .nil, may9 o a b w x)
  plain : ∀ s, code_Plain_m N s = some (plain9 s)
  effect : ∀ o, code_Effect_m N o = some (eff9 o)
  text : ∀ o a b w x, I64 a → I64 b → code_Text_m N o a b w x = some (text9 o a b w x)
theorem Code9.lives {N : Nat} (S : Code9 N) : shunterlaw09_lives_m N = some true := by
  unfold shunterlaw09_lives_m
  rw [S.effect, Option.bind_some, S.text _ _ _ _ _ ⟨by decide, by decide⟩ ⟨by decide, by decide⟩, Option.bind_some, show text9 10 7 0 0 ((0#64) ++ (0#64)) = ([115, 108, 105, 99, 101, 32, 55, 32, 48] : List UInt8) from by decide +kernel, if_pos rfl, show eff9 10 = (1, 1) from by decide +kernel]
  rfl
theorem Code9.live {N : Nat} (S : Code9 N) : ((shunterlaw09_lives_m N).bind fun r => some r) = some true := by rw [S.lives]; rfl
theorem typ_ne : ∀ k : Nat, k < 35 → (tab9[k]!).2.2.2.2.2.2.2.2 ≠ [] := by decide +kernel
theorem row_typ {o : Int} (h0 : 0 ≤ o) (h1 : o ≤ 34) : (row9 o).2.2.2.2.2.2.2.2 ≠ [] := typ_ne o.toNat (by omega)
end Go.Proofs.YtmfedgmmgehmgaaDoor
