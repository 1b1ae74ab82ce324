import Derived.Test.YtajdpjdejpcgnaaGreatDoorDm
import Derived.Test.YtajdpjdejpcgnaaGreatDoorRm
import Derived.Test.YtajdpjdejpcgnaaGreatDoorSm
namespace Go.Eng
def len128(x:BitVec 128):Nat:=if hi x=0#64 then Lib.bitLen (lo x).toNat else 64+Lib.bitLen (hi x).toNat
section
open Go Go.RowKit
variable {P:Program} {c:Addr→Option Value} {ρ:Operand→Value} {d:Option Tmp} {a b:Operand} {ts:Array TypeId} {ty:TypeId} {pos:String} {af:Array Edge} {g:Option (Nat×Bool)} {k:IntKind} {x y:Int}
theorem VQ(hx:ρ a= .int k x)(hy:ρ b= .int k y):ev P c (execOp ρ ⟨d, .call ⟨.builtin .min, #[a,b],ts⟩,ty,pos,af,g⟩)=some (.value (.int k (min x y))):=by
 have e:min x y=if y<x then y else x:=by split<;>omega
 rw [e]
 show ev P c (do let d←resolve ρ ⟨.builtin .min, #[a,b],ts⟩ ty;invoke d.target d.args)=_
 simp [resolve,invoke,builtin,Builtin.min_,Builtin.min2,hx,hy,AM]
theorem TK(hx:ρ a= .int k x)(hy:ρ b= .int k y):ev P c (execOp ρ ⟨d, .call ⟨.builtin .max, #[a,b],ts⟩,ty,pos,af,g⟩)=some (.value (.int k (max x y))):=by
 have e:max x y=if y>x then y else x:=by split<;>omega
 rw [e]
 show ev P c (do let d←resolve ρ ⟨.builtin .max, #[a,b],ts⟩ ty;invoke d.target d.args)=_
 simp [resolve,invoke,builtin,Builtin.max_,Builtin.max2,hx,hy,AM]
end
end Go.Eng
