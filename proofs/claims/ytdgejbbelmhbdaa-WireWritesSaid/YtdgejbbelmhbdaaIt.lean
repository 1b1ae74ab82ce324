/- Going through texts, rune by rune. Conditions: none. -/
import Derived.Test.YtdgejbbelmhbdaaYt
import Derived.Test.YtdgejbbelmhbdaaMm
import Derived.Test.YtdgejbbelmhbdaaMd
namespace Go.Eng
open Go Go.RowKit
section
variable {E : Env} {g : Bool} {ops : Array Oper} {K : (Nat → Value) → List Bl → Prop} {r : List Oper} {T : Nat → Value} {l : List Bl} {m : Nat} {d : Tmp} {ty : TypeId} {pos : String} {af : Array Edge}
end
def byteN (l : List UInt8) (i : Int) : UInt8 := l.getD i.toNat 0
section
variable {P : Program} {c : Addr → Option Value} {ρ : Operand → Value} {d : Option Tmp} {t t' : TypeId} {x y : Operand} {ty : TypeId} {pos : String} {af : Array Edge} {g : Option (Nat × Bool)} {a b : List UInt8}
end
section
variable {E : Env} {g : Bool} {ops : Array Oper} {K : (Nat → Value) → List Bl → Prop} {r : List Oper} {T : Nat → Value} {l : List Bl} {m : Nat} {d : Tmp} {ty : TypeId} {pos : String} {af : Array Edge}
end
end Go.Eng
