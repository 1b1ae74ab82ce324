import Derived.Test.YtajdpjdejpcgnaaGreatDoorNo
import Derived.Lib.AppendStr
namespace Go.Eng
open Go Go.RowKit
def Ow(L:Prop):Enc UInt8:={encY with loose:=L}
abbrev encYs:Enc UInt8:=Ow False
theorem Vm{L:Prop}(l:List UInt8):Vn ⟨l.toArray⟩=(Ow L).all l:=by
 unfold Vn Enc.all Ow encY
 induction l with
 |nil=>rfl
 |cons x l ih=>simpa using ih
section
variable {E:Env} {g:Bool} {ops:Array Oper} {K:(Nat→Value)→List Bl→Prop} {r:List Oper} {T:Nat→Value} {m:Nat} {d:Tmp} {ty:TypeId} {pos:String} {af:Array Edge}
end
end Go.Eng
