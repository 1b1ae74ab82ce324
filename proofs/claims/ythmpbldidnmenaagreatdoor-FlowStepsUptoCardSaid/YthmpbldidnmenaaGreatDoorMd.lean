import Derived.Test.YthmpbldidnmenaaGreatDoorRm
import Derived.Lib.BitFns
namespace Go.Eng
structure Guess(u d y1 y0 q r:Nat):Prop where
 heq:q*y1+r=u
 hge:(u*4294967296+d) / (y1*4294967296+y0)≤q
 hr:r<4294967296
 hq:q≤4294967297
structure Digits(u d y1 y0:Nat):Prop where
 hy1lo:2147483648≤y1
 hy1hi:y1<4294967296
 hy0:y0<4294967296
 hd:d<4294967296
 hu:u<y1*4294967296+y0
theorem Digits.small{u d y1 y0:Nat}(h:Digits u d y1 y0):(u*4294967296+d) / (y1*4294967296+y0)<4294967296:=by
 have:=h.hu;have:=h.hd;have:=h.hy1lo
 rw [Nat.div_lt_iff_lt_mul (by omega)]
 omega
theorem Digits.start{u d y1 y0:Nat}(h:Digits u d y1 y0):Guess u d y1 y0 (u / y1) (u%y1):=by
 have h1:=h.hy1lo;have h2:=h.hy1hi;have h3:=h.hy0;have h4:=h.hd;have h5:=h.hu
 refine⟨Nat.div_add_mod' u y1, ?_,Nat.lt_trans (Nat.mod_lt _ (by omega)) h2, ?_⟩
 ·-- the quotient by more is less
  apply Nat.le_of_lt_succ
  rw [Nat.div_lt_iff_lt_mul (by omega),Nat.succ_eq_add_one]
  have hm:u<(u / y1+1)*y1:=by
   have:=Nat.div_add_mod' u y1;have:=Nat.mod_lt u (show y1>0 by omega);rw [Nat.add_mul];omega
  generalize u / y1+1=k at*
  have:(u+1)*4294967296≤k*y1*4294967296:=Nat.mul_le_mul_right _ hm
  rw [Nat.mul_add,←Nat.mul_assoc]
  omega
 ·apply Nat.le_of_lt_succ
  rw [Nat.div_lt_iff_lt_mul (by omega)]
  omega
theorem Guess.done{u d y1 y0 q r:Nat}(h:Guess u d y1 y0 q r)(hD:Digits u d y1 y0)(hc:q*y0≤4294967296*r+d):q=(u*4294967296+d) / (y1*4294967296+y0):=by
 have h1:=hD.hy1lo
 apply Nat.le_antisymm _ h.hge
 rw [Nat.le_div_iff_mul_le (by omega),Nat.mul_add,←Nat.mul_assoc]
 have:=h.heq
 omega
theorem Guess.more{u d y1 y0 q r:Nat}(h:Guess u d y1 y0 q r)(hD:Digits u d y1 y0)(hc:4294967296≤q∨4294967296*r+d<q*y0):(u*4294967296+d) / (y1*4294967296+y0)<q:=by
 have h1:=hD.hy1lo
 rcases hc with hc|hc
 ·exact zw hD.small hc
 ·rw [Nat.div_lt_iff_lt_mul (by omega),Nat.mul_add,←Nat.mul_assoc]
  have:=h.heq
  omega
theorem Guess.next{u d y1 y0 q r:Nat}(h:Guess u d y1 y0 q r)(hD:Digits u d y1 y0)(hc:4294967296≤q∨4294967296*r+d<q*y0):
  1≤q∧(q - 1)*y1+(r+y1)=u∧(u*4294967296+d) / (y1*4294967296+y0)≤q - 1∧q - 1≤4294967296:=by
 have h1:=h.more hD hc
 have h2:=h.hq
 have h3:=h.heq
 have h0:=Nat.zero_le ((u*4294967296+d) / (y1*4294967296+y0))
 refine⟨by omega, ?_,by omega,by omega⟩
 obtain⟨k,rfl⟩: ∃k,q=k+1:=⟨q - 1,by omega⟩
 rw [Nat.add_mul] at h3
 simp only [Nat.add_sub_cancel]
 omega
def qd(u d y:BitVec 64):Nat:=(u.toNat*4294967296+d.toNat) / y.toNat
structure DigB(u d y1 y0 y:BitVec 64):Prop where
 hy:y.toNat=y1.toNat*4294967296+y0.toNat
 hD:Digits u.toNat d.toNat y1.toNat y0.toNat
def GuessB(u d a b q r:BitVec 64):Prop:=Guess u.toNat d.toNat a.toNat b.toNat q.toNat r.toNat
section
variable {u d y1 y0 y q r:BitVec 64}
theorem DigB.start(h:DigB u d y1 y0 y):GuessB u d y1 y0 (u / y1) (u - (u / y1)*y1):=by
 have h1:=h.hD.start
 unfold GuessB
 have e:(u - (u / y1)*y1).toNat=u.toNat%y1.toNat:=by
  have hm:=Nat.div_add_mod' u.toNat y1.toNat
  rw [BitVec.toNat_sub,BitVec.toNat_mul,BitVec.toNat_udiv]
  have:=u.isLt
  generalize u.toNat / y1.toNat*y1.toNat=p at*
  generalize u.toNat%y1.toNat=m at*
  omega
 rw [e,BitVec.toNat_udiv]
 exact h1
theorem DigB.qy0(h:DigB u d y1 y0 y)(hq:q.toNat<4294967296):(q*y0).toNat=q.toNat*y0.toNat:=by
 have:=h.hD.hy0
 rw [BitVec.toNat_mul,Nat.mod_eq_of_lt]
 calc q.toNat*y0.toNat≤4294967295*y0.toNat:=Nat.mul_le_mul_right _ (by omega)
  _<2^64:=by omega
theorem DigB.rd(h:DigB u d y1 y0 y)(hr:r.toNat<4294967296):(4294967296#64*r+d).toNat=4294967296*r.toNat+d.toNat:=by
 have:=h.hD.hd
 rw [BitVec.toNat_add,BitVec.toNat_mul,show(4294967296#64).toNat=4294967296 from rfl]
 omega
theorem GuessB.qlt(hq: ¬4294967296#64≤q):q.toNat<4294967296:=by
 simp only [BitVec.le_def,show(4294967296#64).toNat=4294967296 from rfl] at hq;omega
theorem GuessB.done(h:DigB u d y1 y0 y)(g:GuessB u d y1 y0 q r)(hq: ¬4294967296#64≤q)(hc: ¬(4294967296#64*r+d)<q*y0):q.toNat=qd u d y:=by
 have hq':=GuessB.qlt hq
 rw [BitVec.lt_def,h.qy0 hq',h.rd g.hr] at hc
 unfold qd;rw [h.hy]
 exact Guess.done g h.hD (by omega)
theorem GuessB.next(h:DigB u d y1 y0 y)(g:GuessB u d y1 y0 q r)(hc:4294967296#64≤q∨(4294967296#64*r+d)<q*y0):
  (q - 1#64).toNat=q.toNat - 1∧1≤q.toNat∧(r+y1).toNat=r.toNat+y1.toNat∧(q.toNat - 1)*y1.toNat+(r.toNat+y1.toNat)=u.toNat∧(u.toNat*4294967296+d.toNat) / (y1.toNat*4294967296+y0.toNat)≤q.toNat - 1∧q.toNat - 1≤4294967296:=by
 have hc':4294967296≤q.toNat∨4294967296*r.toNat+d.toNat<q.toNat*y0.toNat:=by
  by_cases hq:4294967296#64≤q
  ·left;simpa only [BitVec.le_def,show(4294967296#64).toNat=4294967296 from rfl] using hq
  ·right
   rcases hc with hc|hc
   ·exact absurd hc hq
   ·rwa [BitVec.lt_def,h.qy0 (GuessB.qlt hq),h.rd g.hr] at hc
 obtain⟨n1,n2,n3,n4⟩:=Guess.next g h.hD hc'
 have h1:=h.hD.hy1hi;have h2:=g.hr;have h3:=q.isLt
 refine⟨?_,n1, ?_,n2,n3,n4⟩
 ·rw [BitVec.toNat_sub,show(1#64).toNat=1 from rfl];omega
 ·rw [BitVec.toNat_add];omega
theorem GuessB.again(h:DigB u d y1 y0 y)(g:GuessB u d y1 y0 q r)(hc:4294967296#64≤q∨(4294967296#64*r+d)<q*y0)(hr: ¬4294967296#64≤r+y1):GuessB u d y1 y0 (q - 1#64) (r+y1)∧(q - 1#64).toNat<q.toNat:=by
 obtain⟨e1,n1,e2,n2,n3,n4⟩:=g.next h hc
 have hr':=GuessB.qlt hr
 refine⟨⟨by rw [e1,e2];exact n2,by rw [e1];exact n3,hr',by rw [e1];omega⟩,by omega⟩
theorem iy{a b p m:Nat}(h:p+m=a*4294967296+b)(hm:m<2^64):(2^64 - p%2^64+((a*4294967296%2^64+b)%2^64))%2^64=m:=by omega
theorem DigB.left(h:DigB u d y1 y0 y)(hq:q.toNat=qd u d y):(u*4294967296#64+d - q*y).toNat=(u.toNat*4294967296+d.toNat)%y.toNat:=by
 have h1:=h.hD.hy1lo;have hy:=h.hy
 have hm:=Nat.div_add_mod (u.toNat*4294967296+d.toNat) y.toNat
 have hlt:=Nat.mod_lt (u.toNat*4294967296+d.toNat) (show y.toNat>0 by omega)
 rw [Nat.mul_comm] at hm
 rw [BitVec.toNat_sub,BitVec.toNat_add,BitVec.toNat_mul,BitVec.toNat_mul,hq,show(4294967296#64).toNat=4294967296 from rfl]
 unfold qd
 exact iy hm (Nat.lt_trans hlt y.isLt)
end
theorem TT: ∀(x:Nat),x<2^64→x<2^Lib.bitLen x∧(x≠0→1≤Lib.bitLen x∧2^(Lib.bitLen x - 1)≤x)∧Lib.bitLen x≤64:=by
 have key: ∀(f x:Nat),f≤64→x<2^f→x<2^Lib.bitLen x∧(x≠0→1≤Lib.bitLen x∧2^(Lib.bitLen x - 1)≤x)∧Lib.bitLen x≤f:=by
  intro f
  induction f with
  |zero=>
   intro x _ hx
   have:x=0:=by simpa using hx
   subst this
   have h0:Lib.bitLen 0=0:=by decide+kernel
   rw [h0]
   exact⟨by decide,fun h=>absurd rfl h,by decide⟩
  |succ f ih=>
   intro x hf hx
   by_cases h0:x=0
   ·subst h0
    have h0:Lib.bitLen 0=0:=by decide+kernel
    rw [h0]
    exact⟨by decide,fun h=>absurd rfl h,by omega⟩
   ·have hx64:x<2^64:=zw hx (Nat.pow_le_pow_right (by decide) hf)
    rw [Lib.bitLen_half x h0 hx64]
    obtain⟨i1,i2,i3⟩:=ih (x / 2) (by omega) (by rw [Nat.pow_succ] at hx;omega)
    refine⟨?_,fun _=>⟨by omega, ?_⟩,by omega⟩
    ·rw [Nat.pow_add];omega
    ·rw [Nat.add_sub_cancel_left]
     by_cases h2:x / 2=0
     ·have:x=1:=by omega
      subst this;decide+kernel
     ·obtain⟨j1,j2⟩:=i2 h2
      have:2^Lib.bitLen (x / 2)=2*2^(Lib.bitLen (x / 2) - 1):=by
       rw [←Nat.pow_succ'];congr 1;omega
      omega
 exact fun x hx=>key 64 x (Nat.le_refl _) hx
def lz(y:BitVec 64):Nat:=64 - Lib.bitLen y.toNat
def sh(y:BitVec 64):BitVec 64:=BitVec.ofNat 64 (lz y)
theorem Ub(y:BitVec 64):(sh y).toNat=lz y:=by
 unfold sh;rw [zn,Nat.mod_eq_of_lt];unfold lz;omega
def un(h l y:BitVec 64):BitVec 64:=h<<<(sh y).toNat|||l>>>(64#64 - sh y).toNat
def u10(l y:BitVec 64):BitVec 64:=l<<<(sh y).toNat
def d1(l y:BitVec 64):BitVec 64:=u10 l y>>>32
def d0(l y:BitVec 64):BitVec 64:=u10 l y&&&4294967295#64
theorem ZX{y:BitVec 64}(hy:y≠0#64):lz y≤63∧2^63≤y.toNat*2^lz y∧y.toNat*2^lz y<2^64:=by
 have h0:y.toNat≠0:=fun e=>hy (BitVec.eq_of_toNat_eq (by simpa using e))
 obtain⟨b1,b2,b3⟩:=TT y.toNat y.isLt
 obtain⟨b4,b5⟩:=b2 h0
 unfold lz
 generalize Lib.bitLen y.toNat=b at*
 refine⟨by omega, ?_, ?_⟩
 ·calc 2^63=2^(b - 1)*2^(64 - b):=by rw [←Nat.pow_add];congr 1;omega
   _≤y.toNat*2^(64 - b):=Nat.mul_le_mul_right _ b5
 ·calc y.toNat*2^(64 - b)<2^b*2^(64 - b):=Nat.mul_lt_mul_of_pos_right b1 (Nat.two_pow_pos _)
   _=2^64:=by rw [←Nat.pow_add];congr 1;omega
theorem eU(a:Nat){s:Nat}(hs:s≤64):a*2^s=a / 2^(64 - s)*2^64+(a*2^s)%2^64:=by
 have e:(2:Nat)^64=2^(64 - s)*2^s:=by rw [←Nat.pow_add];congr 1;omega
 have h1:=Nat.div_add_mod (a*2^s) (2^64)
 have h2:a*2^s / 2^64=a / 2^(64 - s):=by rw [e,Nat.mul_div_mul_right _ _ (Nat.two_pow_pos s)]
 rw [h2,Nat.mul_comm] at h1
 exact h1.symm
theorem gc{h l y:BitVec 64}(hy:y≠0#64)(hlt:h<y):(un h l y).toNat=h.toNat*2^lz y+l.toNat / 2^(64 - lz y):=by
 obtain⟨f1,f2,f3⟩:=ZX hy
 have e1:(64#64 - sh y).toNat=64 - lz y:=by
  rw [BitVec.toNat_sub,Ub,show(64#64).toNat=64 from rfl];omega
 have hl:h.toNat*2^lz y<2^64:=Nat.lt_of_le_of_lt (Nat.mul_le_mul_right _ (Nat.le_of_lt (BitVec.lt_def.1 hlt))) f3
 unfold un
 rw [BitVec.toNat_or,BitVec.toNat_shiftLeft,BitVec.toNat_ushiftRight,Ub,e1,Nat.shiftLeft_eq,Nat.mod_eq_of_lt hl,Nat.shiftRight_eq_div_pow]
 rw [←Nat.shiftLeft_eq,Nat.shiftLeft_add_eq_or_of_lt]
 have:=l.isLt
 rw [Nat.div_lt_iff_lt_mul (Nat.two_pow_pos _),←Nat.pow_add]
 rwa [show lz y+(64 - lz y)=64 from by omega]
theorem eR(l y:BitVec 64):(u10 l y).toNat=l.toNat*2^lz y%2^64:=by
 unfold u10;rw [BitVec.toNat_shiftLeft,Ub,Nat.shiftLeft_eq]
theorem te{h l y:BitVec 64}(hy:y≠0#64)(hlt:h<y):(un h l y).toNat*2^64+(u10 l y).toNat=(h.toNat*2^64+l.toNat)*2^lz y:=by
 obtain⟨f1,_,_⟩:=ZX hy
 have h1:=eU l.toNat (show lz y≤64 by omega)
 rw [gc hy hlt,eR,Nat.add_mul,Nat.add_mul,Nat.mul_right_comm h.toNat (2^lz y)]
 omega
end Go.Eng
namespace Go.Eng
open Go Go.RowKit
def ck{α:Type}(c:Prop)[Decidable c](k:Option α):Option α:=if c then k else none
theorem Hq{α:Type}{c:Prop}[Decidable c]{k:Option α}{r:α}(h:ck c k=some r):c∧k=some r:=by
 unfold ck at h;split at h
 ·exact⟨by assumption,h⟩
 ·cases h
theorem Am{α:Type}{c:Prop}[Decidable c](k:Option α)(h:c):ck c k=k:=if_pos h
theorem Zt{α β:Type}{x:Option α}{f:α→Option β}{r:β}(h:x.bind f=some r): ∃y,x=some y∧f y=some r:=by
 cases x with
 |none=>cases h
 |some y=>exact⟨y,rfl,h⟩
theorem ifp{α:Type}{c:Prop}[Decidable c]{a b r:α}(hc:c)(h:(if c then a else b)=r):a=r:=by rwa [if_pos hc] at h
theorem ifn{α:Type}{c:Prop}[Decidable c]{a b r:α}(hc: ¬c)(h:(if c then a else b)=r):b=r:=by rwa [if_neg hc] at h
theorem CM{b:Bool}(h:(!b)=true):b=false:=by cases b<;>first|rfl|cases h
theorem CN{b:Bool}(h:(!b)=false):b=true:=by cases b<;>first|rfl|cases h
theorem sw{α:Type}[BEq α][LawfulBEq α]{a b:α}(h:(a !=b)=false): ¬a≠b:=fun hn=>absurd (bne_iff_ne.2 hn) (by rw [h];decide)
section
variable {P:Program} {c:Addr→Option Value} {ρ:Operand→Value} {d:Option Tmp} {ty t t':TypeId} {pos:String} {af:Array Edge} {g:Option (Nat×Bool)} {x y:Operand}
def HQ(l:List UInt8)(i:Int):Int:=((l.getD i.toNat 0).toNat:Int)
theorem GL{l:List UInt8}{i:Int}{k:IntKind}(ht:P.underlying t=some .string)(hi:0≤i∧i<(l.length:Int)):ev P c (Instr.index t (.string ⟨l.toArray⟩) (.int k i))=some (.int .u8 (HQ l i)):=by
 unfold Instr.index
 have hlt:i.toNat<l.length:=by omega
 have hget:(⟨l.toArray⟩:ByteArray)[i.toNat]? =some (l.getD i.toNat 0):=by
  have h1:i.toNat<(⟨l.toArray⟩:ByteArray).size:=by simpa [ByteArray.size] using hlt
  rw [getElem?_pos (⟨l.toArray⟩:ByteArray) i.toNat h1]
  show some (l.toArray[i.toNat])=_
  simp [zo hlt]
 simp only [AM,asIntOf,Ba,Bk ht,q0,if_pos hi.1,hget,HQ]
theorem LI{l:List UInt8}{ts:Array TypeId}(hts:ts= #[t])(ht:P.underlying t=some .string)(hx:ρ x= .string ⟨l.toArray⟩):
  ev P c (execOp ρ ⟨d, .call ⟨.builtin .len, #[x],ts⟩,ty,pos,af,g⟩)=some (.value (.int .i64 ((l.length:Nat):Int))):=by
 subst hts
 have h2:ev P c (Builtin.len_ #[t] ty #[Value.string ⟨l.toArray⟩])=some (.int .i64 ((l.length:Nat):Int)):=by
  have h3:ev P c (do match←underlying t,Value.string ⟨l.toArray⟩with
   | .string, .string s=>pure (goInt s.size)
   |_,_=>stuck "":Sem Value)=some (.int .i64 ((l.length:Nat):Int)):=by
   rw [AM,Bk ht]
   show some (Value.int .i64 ((l.toArray.size:Nat):Int))=_
   simp
  show ev P c (underlying t>>=fun u=>_)=_
  rw [AM,Bk ht]
  show some (Value.int .i64 ((l.toArray.size:Nat):Int))=_
  simp
 show ev P c (do let d←resolve ρ ⟨.builtin .len, #[x], #[t]⟩ ty;invoke d.target d.args)=_
 simp [resolve,invoke,builtin,Rb,h2,hx]
theorem pE(a b:List UInt8):((⟨a.toArray⟩:ByteArray)==⟨b.toArray⟩)=(a==b):=by
 show(a.toArray==b.toArray)=_
 simp
theorem Df{a b:List UInt8}(hx:ρ x= .string ⟨a.toArray⟩)(hy:ρ y= .string ⟨b.toArray⟩):ev P c (execOp ρ ⟨d, .binOp .eql t x y t',ty,pos,af,g⟩)=some (.value (.bool (a==b))):=by
 rw [oc hx hy,pE]
theorem cU{l:List UInt8}{i:Int}{k:IntKind}(ht:P.underlying t=some .string)(h:0≤i∧i≤(l.length:Int)):ev P c (Instr.slice t (.string ⟨l.toArray⟩) (some (.int k i)) none none)=some (.string ⟨(l.drop i.toNat).toArray⟩):=by
 obtain⟨h0,h2⟩:=h
 have hs:(⟨l.toArray⟩:ByteArray).size=l.length:=by simp [ByteArray.size]
 have e:(⟨l.toArray⟩:ByteArray).extract i.toNat l.length=⟨(l.drop i.toNat).toArray⟩:=by
  apply ByteArray.ext
  rw [ByteArray.data_extract]
  apply Array.ext'
  simp [j6]
 unfold Instr.slice
 simp only [AM,Bk ht,q0,Instr.sliceBounds,Instr.sliceBound,asIntOf,Ba,hs,Option.isSome_none,Bool.false_eq_true,if_false]
 rw [if_pos ⟨h0,h2⟩]
 simp only [Ba,q0,e]
theorem TU(x:Int):Value.int .u64 (IntKind.u64.wrap x)=U (BitVec.ofInt 64 x):=by
 congr 1
 simp only [IntKind.wrap,IntKind.signed,IntKind.bits,BitVec.toNat_ofInt]
 simp
 omega
end
theorem IS{P:Program}{c:Addr→Option Value}{t:TypeId}{b off n:Nat}{e:TypeId}{i:TypeInfo}{k:IntKind}{j:Int}(hu:P.underlying t=some (.array n e))(hi:P.info? e=some i)(hs:i.size=1)(hj:0≤j∧j<(n:Int)):
  ev P c (Instr.indexAt t (.pointer (some ⟨b,off,none⟩)) (.int k j))=some (.pointer (some ⟨b,off+j.toNat,none⟩)):=by
 unfold Instr.indexAt
 have hadd:(⟨b,off,none⟩:Addr).add j.toNat=⟨b,off+j.toNat,none⟩:=by unfold Addr.add;split<;>simp_all
 simp only [asIntOf,AM,Ba,q0,Bk hu,Instr.sureAddr]
 rw [if_pos hj]
 simp only [AM,GK hi,hs,q0,Ba,Nat.mul_one,hadd]
def ZF(x:BitVec 128)(k:Nat)(b:Bool):BitVec 128:=if b then x|||BitVec.twoPow 128 k else x&&&~~~(BitVec.twoPow 128 k)
theorem gm(x:BitVec 128)(k:Nat)(b:Bool)(j:Nat)(hk:k<128):(ZF x k b).getLsbD j=if j=k then b else x.getLsbD j:=by
 unfold ZF
 by_cases hj:j<128
 ·by_cases h:j=k
  ·subst h;cases b<;>simp [hj]
  ·have h': ¬k=j:=fun e=>h e.symm
   cases b<;>simp [h,hj]
 ·rw [BitVec.getLsbD_of_ge _ _ (by omega),if_neg (by omega),BitVec.getLsbD_of_ge _ _ (by omega)]
theorem fd(x:BitVec 128)(k:Nat)(b:Bool)(hk:k<128):CL (upd (BitVec.getLsbD x) k b)=CL (BitVec.getLsbD (ZF x k b)):=Pq fun j _=>by
 rw [gm x k b j hk];rfl
theorem ZM:CL (fun _=>false)=CL (BitVec.getLsbD 0#128):=Pq fun j _=>by simp
end Go.Eng
