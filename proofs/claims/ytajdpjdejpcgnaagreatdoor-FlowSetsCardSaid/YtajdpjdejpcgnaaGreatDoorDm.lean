import Derived.Test.YtajdpjdejpcgnaaGreatDoorWm
import Derived.Lib.BitFns
namespace Go.Eng
structure Guess(u d y1 y0 q r:Nat):Prop where
 heq:q*y1+r=u
 hge:(u*4294967296+d) / (y1*4294967296+y0)≤q
 hr:r<4294967296
 hq:q≤4294967297
structure Digits(u d y1 y0:Nat):Prop where
 hy1lo:2147483648≤y1
 hy1hi:y1<4294967296
 hy0:y0<4294967296
 hd:d<4294967296
 hu:u<y1*4294967296+y0
theorem Digits.small{u d y1 y0:Nat}(h:Digits u d y1 y0):(u*4294967296+d) / (y1*4294967296+y0)<4294967296:=by
 have:=h.hu;have:=h.hd;have:=h.hy1lo
 rw [Nat.div_lt_iff_lt_mul (by omega)]
 omega
theorem Digits.start{u d y1 y0:Nat}(h:Digits u d y1 y0):Guess u d y1 y0 (u / y1) (u%y1):=by
 have h1:=h.hy1lo;have h2:=h.hy1hi;have h3:=h.hy0;have h4:=h.hd;have h5:=h.hu
 refine⟨Nat.div_add_mod' u y1, ?_,Nat.lt_trans (Nat.mod_lt _ (by omega)) h2, ?_⟩
 ·-- the quotient by more is less
  apply Nat.le_of_lt_succ
  rw [Nat.div_lt_iff_lt_mul (by omega),Nat.succ_eq_add_one]
  have hm:u<(u / y1+1)*y1:=by
   have:=Nat.div_add_mod' u y1;have:=Nat.mod_lt u (show y1>0 by omega);rw [Nat.add_mul];omega
  generalize u / y1+1=k at*
  have:(u+1)*4294967296≤k*y1*4294967296:=Nat.mul_le_mul_right _ hm
  rw [Nat.mul_add,←Nat.mul_assoc]
  omega
 ·apply Nat.le_of_lt_succ
  rw [Nat.div_lt_iff_lt_mul (by omega)]
  omega
theorem Guess.done{u d y1 y0 q r:Nat}(h:Guess u d y1 y0 q r)(hD:Digits u d y1 y0)(hc:q*y0≤4294967296*r+d):q=(u*4294967296+d) / (y1*4294967296+y0):=by
 have h1:=hD.hy1lo
 apply Nat.le_antisymm _ h.hge
 rw [Nat.le_div_iff_mul_le (by omega),Nat.mul_add,←Nat.mul_assoc]
 have:=h.heq
 omega
theorem Guess.more{u d y1 y0 q r:Nat}(h:Guess u d y1 y0 q r)(hD:Digits u d y1 y0)(hc:4294967296≤q∨4294967296*r+d<q*y0):(u*4294967296+d) / (y1*4294967296+y0)<q:=by
 have h1:=hD.hy1lo
 rcases hc with hc|hc
 ·exact Nat.lt_of_lt_of_le hD.small hc
 ·rw [Nat.div_lt_iff_lt_mul (by omega),Nat.mul_add,←Nat.mul_assoc]
  have:=h.heq
  omega
theorem Guess.next{u d y1 y0 q r:Nat}(h:Guess u d y1 y0 q r)(hD:Digits u d y1 y0)(hc:4294967296≤q∨4294967296*r+d<q*y0):
  1≤q∧(q - 1)*y1+(r+y1)=u∧(u*4294967296+d) / (y1*4294967296+y0)≤q - 1∧q - 1≤4294967296:=by
 have h1:=h.more hD hc
 have h2:=h.hq
 have h3:=h.heq
 have h0:=Nat.zero_le ((u*4294967296+d) / (y1*4294967296+y0))
 refine⟨by omega, ?_,by omega,by omega⟩
 obtain⟨k,rfl⟩: ∃k,q=k+1:=⟨q - 1,by omega⟩
 rw [Nat.add_mul] at h3
 simp only [Nat.add_sub_cancel]
 omega
def qd(u d y:BitVec 64):Nat:=(u.toNat*4294967296+d.toNat) / y.toNat
structure DigB(u d y1 y0 y:BitVec 64):Prop where
 hy:y.toNat=y1.toNat*4294967296+y0.toNat
 hD:Digits u.toNat d.toNat y1.toNat y0.toNat
def GuessB(u d y1 y0 q r:BitVec 64):Prop:=Guess u.toNat d.toNat y1.toNat y0.toNat q.toNat r.toNat
section
variable {u d y1 y0 y q r:BitVec 64}
theorem DigB.start(h:DigB u d y1 y0 y):GuessB u d y1 y0 (u / y1) (u - (u / y1)*y1):=by
 have h1:=h.hD.start
 unfold GuessB
 have e:(u - (u / y1)*y1).toNat=u.toNat%y1.toNat:=by
  have hm:=Nat.div_add_mod' u.toNat y1.toNat
  rw [BitVec.toNat_sub,BitVec.toNat_mul,BitVec.toNat_udiv]
  have:=u.isLt
  generalize u.toNat / y1.toNat*y1.toNat=p at*
  generalize u.toNat%y1.toNat=m at*
  omega
 rw [e,BitVec.toNat_udiv]
 exact h1
theorem DigB.qy0(h:DigB u d y1 y0 y)(hq:q.toNat<4294967296):(q*y0).toNat=q.toNat*y0.toNat:=by
 have:=h.hD.hy0
 rw [BitVec.toNat_mul,Nat.mod_eq_of_lt]
 calc q.toNat*y0.toNat≤4294967295*y0.toNat:=Nat.mul_le_mul_right _ (by omega)
  _<2^64:=by omega
theorem DigB.rd(h:DigB u d y1 y0 y)(hr:r.toNat<4294967296):(4294967296#64*r+d).toNat=4294967296*r.toNat+d.toNat:=by
 have:=h.hD.hd
 rw [BitVec.toNat_add,BitVec.toNat_mul,show(4294967296#64).toNat=4294967296 from rfl]
 omega
theorem GuessB.qlt(hq: ¬4294967296#64≤q):q.toNat<4294967296:=by
 simp only [BitVec.le_def,show(4294967296#64).toNat=4294967296 from rfl] at hq;omega
theorem GuessB.done(h:DigB u d y1 y0 y)(g:GuessB u d y1 y0 q r)(hq: ¬4294967296#64≤q)(hc: ¬(4294967296#64*r+d)<q*y0):q.toNat=qd u d y:=by
 have hq':=GuessB.qlt hq
 rw [BitVec.lt_def,h.qy0 hq',h.rd g.hr] at hc
 unfold qd;rw [h.hy]
 exact Guess.done g h.hD (by omega)
theorem GuessB.next(h:DigB u d y1 y0 y)(g:GuessB u d y1 y0 q r)(hc:4294967296#64≤q∨(4294967296#64*r+d)<q*y0):
  (q - 1#64).toNat=q.toNat - 1∧1≤q.toNat∧(r+y1).toNat=r.toNat+y1.toNat∧(q.toNat - 1)*y1.toNat+(r.toNat+y1.toNat)=u.toNat∧(u.toNat*4294967296+d.toNat) / (y1.toNat*4294967296+y0.toNat)≤q.toNat - 1∧q.toNat - 1≤4294967296:=by
 have hc':4294967296≤q.toNat∨4294967296*r.toNat+d.toNat<q.toNat*y0.toNat:=by
  by_cases hq:4294967296#64≤q
  ·left;simpa only [BitVec.le_def,show(4294967296#64).toNat=4294967296 from rfl] using hq
  ·right
   rcases hc with hc|hc
   ·exact absurd hc hq
   ·rwa [BitVec.lt_def,h.qy0 (GuessB.qlt hq),h.rd g.hr] at hc
 obtain⟨n1,n2,n3,n4⟩:=Guess.next g h.hD hc'
 have h1:=h.hD.hy1hi;have h2:=g.hr;have h3:=q.isLt
 refine⟨?_,n1, ?_,n2,n3,n4⟩
 ·rw [BitVec.toNat_sub,show(1#64).toNat=1 from rfl];omega
 ·rw [BitVec.toNat_add];omega
theorem GuessB.again(h:DigB u d y1 y0 y)(g:GuessB u d y1 y0 q r)(hc:4294967296#64≤q∨(4294967296#64*r+d)<q*y0)(hr: ¬4294967296#64≤r+y1):GuessB u d y1 y0 (q - 1#64) (r+y1)∧(q - 1#64).toNat<q.toNat:=by
 obtain⟨e1,n1,e2,n2,n3,n4⟩:=g.next h hc
 have hr':=GuessB.qlt hr
 refine⟨⟨by rw [e1,e2];exact n2,by rw [e1];exact n3,hr',by rw [e1];omega⟩,by omega⟩
theorem VG{a b p m:Nat}(h:p+m=a*4294967296+b)(hm:m<2^64):(2^64 - p%2^64+((a*4294967296%2^64+b)%2^64))%2^64=m:=by omega
theorem DigB.left(h:DigB u d y1 y0 y)(hq:q.toNat=qd u d y):(u*4294967296#64+d - q*y).toNat=(u.toNat*4294967296+d.toNat)%y.toNat:=by
 have h1:=h.hD.hy1lo;have hy:=h.hy
 have hm:=Nat.div_add_mod (u.toNat*4294967296+d.toNat) y.toNat
 have hlt:=Nat.mod_lt (u.toNat*4294967296+d.toNat) (show y.toNat>0 by omega)
 rw [Nat.mul_comm] at hm
 rw [BitVec.toNat_sub,BitVec.toNat_add,BitVec.toNat_mul,BitVec.toNat_mul,hq,show(4294967296#64).toNat=4294967296 from rfl]
 unfold qd
 exact VG hm (Nat.lt_trans hlt y.isLt)
end
theorem ZQ: ∀(x:Nat),x<2^64→x<2^Lib.bitLen x∧(x≠0→1≤Lib.bitLen x∧2^(Lib.bitLen x - 1)≤x)∧Lib.bitLen x≤64:=by
 have key: ∀(f x:Nat),f≤64→x<2^f→x<2^Lib.bitLen x∧(x≠0→1≤Lib.bitLen x∧2^(Lib.bitLen x - 1)≤x)∧Lib.bitLen x≤f:=by
  intro f
  induction f with
  |zero=>
   intro x _ hx
   have:x=0:=by simpa using hx
   subst this
   have h0:Lib.bitLen 0=0:=by decide+kernel
   rw [h0]
   exact⟨by decide,fun h=>absurd rfl h,by decide⟩
  |succ f ih=>
   intro x hf hx
   by_cases h0:x=0
   ·subst h0
    have h0:Lib.bitLen 0=0:=by decide+kernel
    rw [h0]
    exact⟨by decide,fun h=>absurd rfl h,by omega⟩
   ·have hx64:x<2^64:=Nat.lt_of_lt_of_le hx (Nat.pow_le_pow_right (by decide) hf)
    rw [Lib.bitLen_half x h0 hx64]
    obtain⟨i1,i2,i3⟩:=ih (x / 2) (by omega) (by rw [Nat.pow_succ] at hx;omega)
    refine⟨?_,fun _=>⟨by omega, ?_⟩,by omega⟩
    ·rw [Nat.pow_add];omega
    ·rw [Nat.add_sub_cancel_left]
     by_cases h2:x / 2=0
     ·have:x=1:=by omega
      subst this;decide+kernel
     ·obtain⟨j1,j2⟩:=i2 h2
      have:2^Lib.bitLen (x / 2)=2*2^(Lib.bitLen (x / 2) - 1):=by
       rw [←Nat.pow_succ'];congr 1;omega
      omega
 exact fun x hx=>key 64 x (Nat.le_refl _) hx
def lz(y:BitVec 64):Nat:=64 - Lib.bitLen y.toNat
def sh(y:BitVec 64):BitVec 64:=BitVec.ofNat 64 (lz y)
def un(h l y:BitVec 64):BitVec 64:=h<<<(sh y).toNat|||l>>>(64#64 - sh y).toNat
def u10(l y:BitVec 64):BitVec 64:=l<<<(sh y).toNat
def d1(l y:BitVec 64):BitVec 64:=u10 l y>>>32
def d0(l y:BitVec 64):BitVec 64:=u10 l y&&&4294967295#64
end Go.Eng
