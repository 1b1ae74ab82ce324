/- A text put behind a row of bytes. Conditions: none. -/
import Derived.Test.YtmdjifehblijkaaNo
import Derived.Lib.AppendStr
namespace Go.Eng
open Go Go.RowKit
/-- rows of bytes, strict or not -/
def encYl (L : Prop) : Enc UInt8 := { encY with loose := L }
abbrev encYs : Enc UInt8 := encYl False
theorem strC_all {L : Prop} (l : List UInt8) : strC ⟨l.toArray⟩ = (encYl L).all l := by
  unfold strC Enc.all encYl encY
  induction l with
  | nil => rfl
  | cons x l ih => simpa using ih
section
variable {E : Env} {g : Bool} {ops : Array Oper} {K : (Nat → Value) → List Bl → Prop} {r : List Oper} {T : Nat → Value} {m : Nat} {d : Tmp} {ty : TypeId} {pos : String} {af : Array Edge}
end
end Go.Eng
