import Derived.Test.YtajdpjdejpcgnaaGreatDoorYt
namespace Go.Eng
open Go Go.RowKit
section
variable {P:Program} {c:Addr→Option Value} {ρ:Operand→Value} {d:Option Tmp} {t t':TypeId} {a b:Operand} {ty:TypeId} {pos:String} {af:Array Edge} {g:Option (Nat×Bool)}
end
theorem Ve(x:Int):IntKind.u32.wrap x=x%4294967296:=by simp [IntKind.wrap,IntKind.signed,IntKind.bits]
def Fr(x:Int):UInt32:=UInt32.ofNat (x%4294967296).toNat
theorem Tk(x:Int):Value.int .u32 (IntKind.u32.wrap x)= .int .u32 (((Fr x).toNat:Nat):Int):=by
 rw [Ve];unfold Fr
 rw [UInt32.toNat_ofNat']
 congr 1;omega
section
variable {P:Program} {c:Addr→Option Value} {ρ:Operand→Value} {d:Option Tmp} {t t':TypeId} {a b:Operand} {ty:TypeId} {pos:String} {af:Array Edge} {g:Option (Nat×Bool)}
end
end Go.Eng
