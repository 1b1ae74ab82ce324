/- A text put behind a row of bytes. Conditions: none. -/
import Derived.Test.YtdgejbbelmhbdaaDoorNo
import Derived.Lib.AppendStr
namespace Go.Eng
open Go Go.RowKit
/-- rows of bytes, strict or not -/
def encYl (L : Prop) : Enc UInt8 := { encY with loose := L }
abbrev encYs : Enc UInt8 := encYl False
section
variable {E : Env} {g : Bool} {ops : Array Oper} {K : (Nat → Value) → List Bl → Prop} {r : List Oper} {T : Nat → Value} {m : Nat} {d : Tmp} {ty : TypeId} {pos : String} {af : Array Edge}
end
end Go.Eng
