import Derived.Test.YtajdpjdejpcgnaaGreatDoorRm
import Derived.Test.YtajdpjdejpcgnaaGreatDoorDm
namespace Go.Eng
open Go Go.RowKit
def ck{α:Type}(c:Prop)[Decidable c](k:Option α):Option α:=if c then k else none
theorem CG{α:Type}{c:Prop}[Decidable c]{k:Option α}{r:α}(h:ck c k=some r):c∧k=some r:=by
 unfold ck at h;split at h
 ·exact⟨by assumption,h⟩
 ·cases h
theorem CO{α β:Type}{x:Option α}{f:α→Option β}{r:β}(h:x.bind f=some r): ∃y,x=some y∧f y=some r:=by
 cases x with
 |none=>cases h
 |some y=>exact⟨y,rfl,h⟩
theorem ifp{α:Type}{c:Prop}[Decidable c]{a b r:α}(hc:c)(h:(if c then a else b)=r):a=r:=by rwa [if_pos hc] at h
theorem ifn{α:Type}{c:Prop}[Decidable c]{a b r:α}(hc: ¬c)(h:(if c then a else b)=r):b=r:=by rwa [if_neg hc] at h
theorem Cd{b:Bool}(h:(!b)=true):b=false:=by cases b<;>first|rfl|cases h
theorem Ce{b:Bool}(h:(!b)=false):b=true:=by cases b<;>first|rfl|cases h
theorem bD{α:Type}[BEq α][LawfulBEq α]{a b:α}(h:(a !=b)=false): ¬a≠b:=fun hn=>absurd (bne_iff_ne.2 hn) (by rw [h];decide)
section
variable {P:Program} {c:Addr→Option Value} {ρ:Operand→Value} {d:Option Tmp} {ty t t':TypeId} {pos:String} {af:Array Edge} {g:Option (Nat×Bool)} {x y:Operand}
theorem Rp{l:List UInt8}{ts:Array TypeId}(hts:ts= #[t])(ht:P.underlying t=some .string)(hx:ρ x= .string ⟨l.toArray⟩):
  ev P c (execOp ρ ⟨d, .call ⟨.builtin .len, #[x],ts⟩,ty,pos,af,g⟩)=some (.value (.int .i64 ((l.length:Nat):Int))):=by
 subst hts
 have h2:ev P c (Builtin.len_ #[t] ty #[Value.string ⟨l.toArray⟩])=some (.int .i64 ((l.length:Nat):Int)):=by
  have h3:ev P c (do match←underlying t,Value.string ⟨l.toArray⟩with
   | .string, .string s=>pure (goInt s.size)
   |_,_=>stuck "":Sem Value)=some (.int .i64 ((l.length:Nat):Int)):=by
   rw [AB,Bb ht]
   show some (Value.int .i64 ((l.toArray.size:Nat):Int))=_
   simp
  show ev P c (underlying t>>=fun u=>_)=_
  rw [AB,Bb ht]
  show some (Value.int .i64 ((l.toArray.size:Nat):Int))=_
  simp
 show ev P c (do let d←resolve ρ ⟨.builtin .len, #[x], #[t]⟩ ty;invoke d.target d.args)=_
 simp [resolve,invoke,builtin,Lf,h2,hx]
theorem ZR(a b:List UInt8):((⟨a.toArray⟩:ByteArray)==⟨b.toArray⟩)=(a==b):=by
 show(a.toArray==b.toArray)=_
 simp
theorem aT{a b:List UInt8}(hx:ρ x= .string ⟨a.toArray⟩)(hy:ρ y= .string ⟨b.toArray⟩):ev P c (execOp ρ ⟨d, .binOp .eql t x y t',ty,pos,af,g⟩)=some (.value (.bool (a==b))):=by
 rw [Yx hx hy,ZR]
theorem UD(x:Int):Value.int .u64 (IntKind.u64.wrap x)=U (BitVec.ofInt 64 x):=by
 congr 1
 simp only [IntKind.wrap,IntKind.signed,IntKind.bits,BitVec.toNat_ofInt]
 simp
 omega
end
theorem Fi{P:Program}{c:Addr→Option Value}{t:TypeId}{b off n:Nat}{e:TypeId}{i:TypeInfo}{k:IntKind}{j:Int}(hu:P.underlying t=some (.array n e))(hi:P.info? e=some i)(hs:i.size=1)(hj:0≤j∧j<(n:Int)):
  ev P c (Instr.indexAt t (.pointer (some ⟨b,off,none⟩)) (.int k j))=some (.pointer (some ⟨b,off+j.toNat,none⟩)):=by
 unfold Instr.indexAt
 have hadd:(⟨b,off,none⟩:Addr).add j.toNat=⟨b,off+j.toNat,none⟩:=by unfold Addr.add;split<;>simp_all
 simp only [asIntOf,AB,AM,Option.bind_some,Bb hu,Instr.sureAddr]
 rw [if_pos hj]
 simp only [AB,Da hi,hs,Option.bind_some,AM,Nat.mul_one,hadd]
end Go.Eng
