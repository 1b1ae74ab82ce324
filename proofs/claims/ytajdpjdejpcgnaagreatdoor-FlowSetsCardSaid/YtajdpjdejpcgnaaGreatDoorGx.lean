import Derived.Test.YtajdpjdejpcgnaaGreatDoorFr
namespace Go.Eng
open Go
section
variable {E:Env} {g:Bool} {ops:Array Oper} {K:(Nat→Value)→List Bl→Prop} {r:List Oper} {T:Nat→Value} {m:Nat} {d:Tmp} {ty:TypeId} {pos:String} {af:Array Edge}
end
def MixR{α:Type}(E:KH α)(c:Addr→Option Value){n:Nat}:List (Raw n)→List α→Prop
 | [],[]=>True
 |r::rs,x::xs=>E.R c x r.1∧MixR E c rs xs
 |_,_=>False
theorem MixR.len{α:Type}{E:KH α}{c:Addr→Option Value}{n:Nat}: ∀{rs:List (Raw n)} {xs:List α},MixR E c rs xs→rs.length=xs.length
 | [],[],_=>rfl
 |_::_,_::_,h=>congrArg (·+1) (MixR.len h.2)
 | [],_::_,h=>h.elim
 |_::_,[],h=>h.elim
end Go.Eng
