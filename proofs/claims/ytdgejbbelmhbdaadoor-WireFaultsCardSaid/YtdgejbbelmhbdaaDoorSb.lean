/- Bytes of a string, and a string of bytes. Conditions: none. -/
import Derived.Test.YtdgejbbelmhbdaaDoorSr
import Derived.Laws.IdiomStrings
namespace Go.Eng
open Go Go.RowKit
section
variable {E : Env} {g : Bool} {ops : Array Oper} {K : (Nat → Value) → List Bl → Prop} {r : List Oper} {T : Nat → Value} {m : Nat} {d : Tmp} {ty : TypeId} {pos : String} {af : Array Edge}
theorem encY_all (s : List UInt8) : encY.all s = s.map fun b => Value.int .u8 ((b.toNat : Nat) : Int) := by
  induction s with
  | nil => rfl
  | cons b s ih => rw [Enc.all_cons, ih]; rfl
end
end Go.Eng
