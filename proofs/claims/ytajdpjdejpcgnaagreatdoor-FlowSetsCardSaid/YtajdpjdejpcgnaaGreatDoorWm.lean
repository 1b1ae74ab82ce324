import Derived.Test.YtajdpjdejpcgnaaGreatDoorRun
import Derived.Laws.Externs
namespace Go.Eng
open Go Go.RowKit
def hi(x:BitVec 128):BitVec 64:=x.extractLsb' 64 64
def lo(x:BitVec 128):BitVec 64:=x.extractLsb' 0 64
theorem Sr(x:BitVec 128):(hi x).toNat=x.toNat / 2^64:=by
 have:=x.isLt
 simp [hi,BitVec.extractLsb'_toNat,Nat.shiftRight_eq_div_pow];omega
theorem RT(x:BitVec 128):(lo x).toNat=x.toNat%2^64:=by
 simp [lo,BitVec.extractLsb'_toNat]
theorem Mu(h l:BitVec 64):(h++l:BitVec 128).toNat=h.toNat*2^64+l.toNat:=by
 rw [BitVec.toNat_append,←Nat.shiftLeft_add_eq_or_of_lt l.isLt,Nat.shiftLeft_eq]
theorem aP(h l:BitVec 64):hi (h++l)=h:=by
 apply BitVec.eq_of_toNat_eq;rw [Sr,Mu];have:=l.isLt;omega
theorem aC(h l:BitVec 64):lo (h++l)=l:=by
 apply BitVec.eq_of_toNat_eq;rw [RT,Mu];have:=l.isLt;omega
theorem CC:(∀h l:BitVec 64,hi (h++l)=h)∧ ∀h l:BitVec 64,lo (h++l)=l:=⟨aP,aC⟩
theorem ae(x:BitVec 128):hi x++lo x=x:=by
 apply BitVec.eq_of_toNat_eq;rw [Mu,Sr,RT];omega
theorem aQ{x y:BitVec 128}(h:hi x=hi y)(l:lo x=lo y):x=y:=by rw [←ae x,←ae y,h,l]
section
variable {P:Program} {c:Addr→Option Value} {ρ:Operand→Value} {d:Option Tmp} {t t':TypeId} {a b:Operand} {ty:TypeId} {pos:String} {af:Array Edge} {g:Option (Nat×Bool)} {x y:BitVec 64}
theorem aS{k:IntKind}{n:Nat}(hx:ρ a=U x)(hy:ρ b= .int k (n:Int)):ev P c (execOp ρ ⟨d, .binOp .shl t a b t',ty,pos,af,g⟩)=some (.value (.int .u64 (IntKind.u64.wrap ((x.toNat:Int)*2^(min n 64))))):=by
 refine Cf (s:=do eqGuard .shl t a b (ρ a) (ρ b);binOp .shl t (ρ a) (ρ b)) ?_
 rw [hx,hy]
 have h1: ¬((n:Int)<0):=by omega
 have h2:ev P c (eqGuard .shl t a b (U x) (.int k (n:Int)))=some ():=rfl
 simp only [AB,h2,Option.bind_some,binOp,Op.shift,if_neg h1,Int.toNat_natCast,AM,IntKind.bits]
theorem Ok{k:IntKind}{n:Nat}(hx:ρ a=U x)(hy:ρ b= .int k (n:Int)):ev P c (execOp ρ ⟨d, .binOp .shr t a b t',ty,pos,af,g⟩)=some (.value (.int .u64 ((x.toNat:Int).fdiv (2^(min n 64))))):=by
 refine Cf (s:=do eqGuard .shr t a b (ρ a) (ρ b);binOp .shr t (ρ a) (ρ b)) ?_
 rw [hx,hy]
 have h1: ¬((n:Int)<0):=by omega
 have h2:ev P c (eqGuard .shr t a b (U x) (.int k (n:Int)))=some ():=rfl
 simp only [AB,h2,Option.bind_some,binOp,Op.shift,if_neg h1,Int.toNat_natCast,AM,IntKind.bits]
end
end Go.Eng
