import Derived.Test.YtjmdbbnnpmmpiaaGreatDoorNo
import Derived.Lib.AppendStr
import Derived.Test.YtjmdbbnnpmmpiaaGreatDoorRm
import Derived.Test.YtjmdbbnnpmmpiaaGreatDoorDm
namespace Go.Eng
open Go Go.RowKit
def NW (L : Prop) : Enc UInt8 := { encY with loose := L }
abbrev encYs : Enc UInt8 := NW False
theorem VY {L : Prop} (l : List UInt8) : VZ ⟨l.toArray⟩ = (NW L).all l := by
 unfold VZ Enc.all NW encY
 induction l with
 | nil => rfl
 | cons x l ih => simpa using ih
section
variable {E : Env} {g : Bool} {ops : Array Oper} {K : (Nat → Value) → List Bl → Prop} {r : List Oper} {T : Nat → Value} {m : Nat} {d : Tmp} {ty : TypeId} {pos : String} {af : Array Edge}
end
end Go.Eng
namespace Go.Eng
open Go Go.RowKit
def below (x : BitVec 128) (k j : Nat) : Bool := decide (j < k) && x.getLsbD j
end Go.Eng
namespace Go.Eng
def len128 (x : BitVec 128) : Nat := if hi x = 0#64 then Lib.bitLen (lo x).toNat else 64 + Lib.bitLen (hi x).toNat
section
open Go Go.RowKit
variable {P : Program} {c : Addr → Option Value} {ρ : Operand → Value} {d : Option Tmp} {a b : Operand} {ts : Array TypeId} {ty : TypeId} {pos : String} {af : Array Edge} {g : Option (Nat × Bool)} {k : IntKind} {x y : Int}
theorem eE (hx : ρ a = .int k x) (hy : ρ b = .int k y) : ev P c (execOp ρ ⟨d, .call ⟨.builtin .max, #[a, b], ts⟩, ty, pos, af, g⟩) = some (.value (.int k (max x y))) := by
 have e : max x y = if y > x then y else x := by split <;> omega
 rw [e]
 show ev P c (do let d ← resolve ρ ⟨.builtin .max, #[a, b], ts⟩ ty; invoke d.target d.args) = _
 simp [resolve, invoke, builtin, Builtin.max_, Builtin.max2, hx, hy, Bk]
end
end Go.Eng
