import Derived.Test.YthmpbldidnmenaaGreatDoorRw
import Derived.Test.YthmpbldidnmenaaGreatDoorIe
import Derived.Test.YthmpbldidnmenaaGreatDoorRu
namespace Go.Proofs.YthmpbldidnmenaaGreatDoor
open Go Go.RowKit Go.Eng
theorem ri{c:Prop}[Decidable c]{α:Type}{x:Option α}(h:c):ck c x=x:=if_pos h
theorem sT(x:BitVec 64):((x%2#64)==(1#64))=x.getLsbD 0:=by
 rw [Bool.eq_iff_iff,beq_iff_eq]
 constructor
 ·intro h
  have:=congrArg BitVec.toNat h
  simp only [BitVec.toNat_umod,zn] at this
  simp only [BitVec.getLsbD,Nat.testBit_zero,decide_eq_true_eq];omega
 ·intro h
  apply BitVec.eq_of_toNat_eq
  simp only [BitVec.toNat_umod,zn]
  simp only [BitVec.getLsbD,Nat.testBit_zero,decide_eq_true_eq] at h;omega
theorem sR(n:BitVec 64)(i:Nat):(n>>>i) / 2#64=n>>>(i+1):=by
 apply BitVec.eq_of_toNat_eq
 simp only [BitVec.toNat_udiv,BitVec.toNat_ushiftRight,zn,Nat.shiftRight_eq_div_pow,Nat.pow_succ]
 rw [Nat.div_div_eq_div_mul]
theorem iY(n:BitVec 64): ∀(j k i:Nat) (m:BitVec 64),j<k→i+j=64→(∀t,t<i→m.getLsbD t=n.getLsbD t)→Ed k (n>>>i) (i:Int) m=some n
 |0,k+1,i,m,_,hi,h=>by
  obtain rfl:i=64:=by omega
  rw [Ed,if_neg (by omega)]
  exact congrArg some (BitVec.eq_of_getLsbD_eq fun t ht=>h t ht)
 |j+1,k+1,i,m,hk,hi,h=>by
  rw [Ed,if_pos (by omega),ri (by omega),ri (by omega),sR,sT,q3]
  refine iY n j k (i+1) _ (by omega) (by omega) (fun t ht=> ?_)
  rw [NL _ _ _ _ (by omega)]
  split
  ·next e=>subst e;simp
  ·exact h t (by omega)
theorem YN{N:Nat}(hN:64<N)(n:BitVec 64):DD N n=some n:=by
 have:=iY n 64 N 0 (0#64) hN rfl (fun t ht=>absurd ht (Nat.not_lt_zero t))
 rwa [BitVec.ushiftRight_zero] at this
def onlyB(x:Int):BitVec 64:=if 0≤x∧x<64 then BitVec.twoPow 64 x.toNat else 0#64
theorem YO(N:Nat)(x:Int):IF N x=some (onlyB x):=by
 unfold IF onlyB
 by_cases h:x<0
 ·rw [if_pos h,if_neg (by omega)];rfl
 ·rw [if_neg h]
  unfold JY
  by_cases h2:x≥64
  ·rw [if_pos (zf h2),if_neg (by omega)]
  ·rw [if_neg (by simpa using h2),ri (by omega),if_pos (by omega),BitVec.twoPow_eq]
theorem Qn(x:Int)(t:Nat)(ht:t<64):(onlyB x).getLsbD t=decide (x=(t:Int)):=by
 unfold onlyB
 split
 ·rw [BitVec.getLsbD_twoPow,Bool.eq_iff_iff]
  simp only [Bool.and_eq_true,decide_eq_true_eq];omega
 ·rw [BitVec.getLsbD_zero,Eq.comm,decide_eq_false_iff_not];omega
theorem SM(s:BitVec 64)(x:Int)(t:Nat)(ht:t<64):(s|||onlyB x).getLsbD t=(s.getLsbD t||decide (x=(t:Int))):=by
 rw [BitVec.getLsbD_or,Qn x t ht]
theorem RM(s:BitVec 64)(x:Int)(t:Nat)(ht:t<64):(s&&&~~~onlyB x).getLsbD t=(s.getLsbD t&& !decide (x=(t:Int))):=by
 rw [BitVec.getLsbD_and,BitVec.getLsbD_not,Qn x t ht];simp [ht]
theorem jc(s:BitVec 64)(x:Int):((s&&&onlyB x) !=(0#64))=(decide (0≤x∧x<64)&&s.getLsbD x.toNat):=by
 by_cases h:0≤x∧x<64
 ·obtain⟨k,rfl⟩:=Int.eq_ofNat_of_zero_le h.1
  have hk:k<64:=by omega
  rw [zf h,Bool.true_and,q3,Bool.eq_iff_iff,bne_iff_ne]
  constructor
  ·intro hne
   cases hb:s.getLsbD k with
   |true=>rfl
   |false=>
    refine absurd (BitVec.eq_of_getLsbD_eq fun t ht=> ?_) hne
    rw [BitVec.getLsbD_and,Qn _ t ht,BitVec.getLsbD_zero]
    by_cases e:t=k
    ·subst e;rw [hb];rfl
    ·rw [ze (by omega),Bool.and_false]
  ·intro hb e
   have:=congrArg (fun z=>BitVec.getLsbD z k) e
   simp only [BitVec.getLsbD_and,Qn _ k hk,hb,BitVec.getLsbD_zero] at this
   simp at this
 ·rw [ze h,Bool.false_and,onlyB,if_neg h];simp
theorem jb(N:Nat)(s:BitVec 64)(x:Int):Gy N s x=some (decide (0≤x∧x<64)&&s.getLsbD x.toNat):=by
 unfold Gy;rw [YO,q0,jc]
theorem TK(N:Nat)(s:BitVec 64)(x:Int):EU N s x=some (s|||onlyB x):=by
 unfold EU;rw [YO];rfl
theorem Vf(N:Nat)(s:BitVec 64)(x:Int):Ej N s x=some (s&&&~~~onlyB x):=by
 unfold Ej;rw [YO];rfl
end Go.Proofs.YthmpbldidnmenaaGreatDoor
set_option linter.unusedSimpArgs false
set_option linter.unusedVariables false
namespace Go.Proofs.YthmpbldidnmenaaGreatDoor
open Go Go.RowKit Go.Eng
section
variable {N:Nat} {m:An}
theorem qB(hN:20000000<N)(hi:m.2.2.1.length≤150)(i:Int):GY N m i=some (Sc m.2.2.1 i):=by
 rw [GY,gK N hN m.2.2.1 i (by omega),q0]
 unfold cR Sc
 by_cases c:0≤i∧i<(m.2.2.1.length:Int)∧dep (m.2.2.1[i.toNat]!).2.2≠0
 ·rw [if_pos c,if_pos rfl,Am _ ⟨c.1,c.2.1⟩]
  have hd:0≤(m.2.2.1[i.toNat]!).2.2∧(m.2.2.1[i.toNat]!).2.2≤4:=by
   have h2:=c.2.2
   unfold dep at h2
   by_cases d:0≤(m.2.2.1[i.toNat]!).2.2∧(m.2.2.1[i.toNat]!).2.2≤4
   ·exact d
   ·rw [if_neg d] at h2;exact absurd rfl h2
  by_cases d0:(m.2.2.1[i.toNat]!).2.2=0
  ·rw [if_pos d0,if_neg (by omega)]
  ·rw [if_neg d0,Jg,Am _ ⟨c.1,c.2.1⟩,if_pos (by omega)]
 ·rw [if_neg c,if_neg (by decide),if_neg (fun h=>c ⟨h.1,h.2.1,by unfold dep;rw [if_pos (by omega)];omega⟩)]
theorem rP(hi:m.2.2.1.length≤150)(i:Int):0≤(Sc m.2.2.1 i).1∧(Sc m.2.2.1 i).1≤1000∧((Sc m.2.2.1 i).2.2=true→1≤(Sc m.2.2.1 i).2.1∧(Sc m.2.2.1 i).2.1≤4):=by
 unfold Sc
 split
 ·rename_i h
  have h1:=Ri (m.2.2.1.take i.toNat)
  rw [q7] at h1
  exact⟨by show(0:Int)≤(total _:Int);omega,by show(total _:Int)≤_;omega,fun _=>⟨h.2.2.1,h.2.2.2⟩⟩
 ·exact⟨by decide,by decide,fun h=>by cases h⟩
def Us(f d n:Int)(s:BitVec 64)(t:Nat):Bool:=decide (0≤(t:Int) - f - n∧(t:Int) - f - n<d∧(t:Int) - n<64)&&s.getLsbD ((t:Int) - n).toNat
def Tj(f d n i:Int)(s:BitVec 64)(t:Nat):Bool:=if f≤(t:Int)∧(t:Int)<f+i then Us f d n s t else s.getLsbD t
theorem ia(f d n:Int)(s:BitVec 64)(t:Nat):Tj f d n 0 s t=s.getLsbD t:=if_neg (by omega)
theorem Yr{f d n i:Int}{s:BitVec 64}{t:Nat}(h:(t:Int)≠f+i):Tj f d n (i+1) s t=Tj f d n i s t:=by
 unfold Tj
 by_cases c:f≤(t:Int)∧(t:Int)<f+i
 ·rw [if_pos c,if_pos (by omega)]
 ·rw [if_neg c,if_neg (by omega)]
theorem dS{f d n i:Int}{s:BitVec 64}{t:Nat}(h:(t:Int)=f+i)(hi:0≤i):Tj f d n (i+1) s t=Us f d n s t:=if_pos (by omega)
theorem na(n:Int)(s:BitVec 64)(r:Int×Int×Bool)(n':Int)(hn':n'=max (-4) (min n 4))(h0:0≤r.1)(h1:r.1≤1000)(hd0:1≤r.2.1)(hd:r.2.1≤4): ∀(k f:Nat) (i:Int) (a:BitVec 64),0≤i→i≤r.2.1→r.2.1 - i≤(k:Int)→k<f→
  (∀t,t<64→a.getLsbD t=Tj r.1 r.2.1 n' i s t)→ ∃x,Cd N n s r f a i=some x∧ ∀t,t<64→x.getLsbD t=Tj r.1 r.2.1 n' r.2.1 s t:=by
 intro k
 induction k with
 |zero=>
  intro f i a hi0 hi1 hk hf ha
  obtain⟨f,rfl⟩: ∃g,f=g+1:=⟨f - 1,by omega⟩
  have e:i=r.2.1:=by omega
  rw [Cd,if_neg (by omega)]
  exact⟨a,rfl,e▸ha⟩
 |succ k ih=>
  intro f i a hi0 hi1 hk hf ha
  obtain⟨f,rfl⟩: ∃g,f=g+1:=⟨f - 1,by omega⟩
  by_cases c:i<r.2.1
  ·have hb: -4≤n'∧n'≤4:=by omega
   have key: ∀b:Bool,(∀t:Nat,t<64→(t:Int)=r.1+i→b=Us r.1 r.2.1 n' s t)→
     ∃x,GM N r i (Cd N n s r f) (a&&&~~~onlyB (r.1+i)) b=some x∧ ∀t,t<64→x.getLsbD t=Tj r.1 r.2.1 n' r.2.1 s t:=by
    intro b hbq
    have hR:R64 (i+1):=⟨by omega,by omega⟩
    have bits: ∀t,t<64→((a&&&~~~onlyB (r.1+i)).getLsbD t||(b&&decide (r.1+i=(t:Int))))=Tj r.1 r.2.1 n' (i+1) s t:=by
     intro t ht
     rw [RM _ _ _ ht,ha t ht]
     by_cases e:r.1+i=(t:Int)
     ·rw [zf e,dS e.symm hi0,←hbq t ht e.symm];simp
     ·rw [ze e,Yr (fun q=>e q.symm)];simp
    cases b with
    |false=>
     rw [GM,if_neg (by decide),Am _ hR]
     exact ih f (i+1) _ (by omega) (by omega) (by omega) (by omega) (fun t ht=>by rw [←bits t ht];simp)
    |true=>
     rw [GM,if_pos rfl,Am _ (show R64 (r.1+i)from⟨by omega,by omega⟩),TK,q0,Am _ hR]
     exact ih f (i+1) _ (by omega) (by omega) (by omega) (by omega) (fun t ht=>by rw [SM _ _ _ ht,←bits t ht];simp)
   have hR1:R64 (r.1+i):=⟨by omega,by omega⟩
   have hR2:R64 (i - n'):=⟨by omega,by omega⟩
   have hR3:R64 (r.1+(i - n')):=⟨by omega,by omega⟩
   rw [Cd,if_pos c,Am _ hR1,Vf,q0,←hn',Am _ hR2]
   by_cases d:i - n'≥0
   ·rw [if_pos d,Hm,←hn']
    by_cases e:i - n'<r.2.1
    ·rw [if_pos (zf e),Am _ hR3,jb,q0]
     refine key _ (fun t ht et=> ?_)
     unfold Us
     have e1:r.1+(i - n')=(t:Int) - n':=by omega
     rw [e1]
     by_cases g:(t:Int) - n'<64
     ·rw [zf (show 0≤(t:Int) - n'∧(t:Int) - n'<64 by omega),zf (show 0≤(t:Int) - r.1 - n'∧(t:Int) - r.1 - n'<r.2.1∧(t:Int) - n'<64 by omega)]
     ·rw [ze (show¬(0≤(t:Int) - n'∧(t:Int) - n'<64)by omega),ze (show¬(0≤(t:Int) - r.1 - n'∧(t:Int) - r.1 - n'<r.2.1∧(t:Int) - n'<64)by omega)]
    ·rw [if_neg (by simpa using e)]
     refine key false (fun t ht et=> ?_)
     unfold Us
     rw [ze (show¬(0≤(t:Int) - r.1 - n'∧(t:Int) - r.1 - n'<r.2.1∧(t:Int) - n'<64)by omega)];rfl
   ·rw [if_neg d,Hm,if_neg (by decide)]
    refine key false (fun t ht et=> ?_)
    unfold Us
    rw [ze (show¬(0≤(t:Int) - r.1 - n'∧(t:Int) - r.1 - n'<r.2.1∧(t:Int) - n'<64)by omega)];rfl
  ·have e:i=r.2.1:=by omega
   rw [Cd,if_neg c]
   exact⟨a,rfl,e▸ha⟩
theorem mU(n:Int)(s:BitVec 64)(r:Int×Int×Bool)(hb: -1000≤n∧n≤1000)(h0:0≤r.1)(h1:r.1≤1000)(hd0:1≤r.2.1)(hd:r.2.1≤4): ∀(k f:Nat) (i:Int) (a:BitVec 64),0≤i→i≤r.2.1→r.2.1 - i≤(k:Int)→k<f→
  (∀t,t<64→a.getLsbD t=Tj r.1 r.2.1 n i s t)→ ∃x,AJ n s r f i a=some x∧ ∀t,t<64→x.getLsbD t=Tj r.1 r.2.1 n r.2.1 s t:=by
 intro k
 induction k with
 |zero=>
  intro f i a hi0 hi1 hk hf ha
  obtain⟨f,rfl⟩: ∃g,f=g+1:=⟨f - 1,by omega⟩
  have e:i=r.2.1:=by omega
  rw [AJ,if_neg (by omega)]
  exact⟨a,rfl,e▸ha⟩
 |succ k ih=>
  intro f i a hi0 hi1 hk hf ha
  obtain⟨f,rfl⟩: ∃g,f=g+1:=⟨f - 1,by omega⟩
  by_cases c:i<r.2.1
  ·have hR:R64 (i+1):=⟨by omega,by omega⟩
   have hR1:R64 (r.1+i):=⟨by omega,by omega⟩
   have hR2:R64 (i - n):=⟨by omega,by omega⟩
   have hR3:R64 (r.1+i - n):=⟨by omega,by omega⟩
   by_cases g:r.1+i<64
   ·have key: ∀b:Bool,(∀t:Nat,t<64→(t:Int)=r.1+i→b=Us r.1 r.2.1 n s t)→
      ∃x,DF r i a (AJ n s r f) b=some x∧ ∀t,t<64→x.getLsbD t=Tj r.1 r.2.1 n r.2.1 s t:=by
     intro b hbq
     rw [DF,Am _ (show 0≤r.1+i∧r.1+i<64 from⟨by omega,g⟩),Am _ hR]
     refine ih f (i+1) _ (by omega) (by omega) (by omega) (by omega) (fun t ht=> ?_)
     rw [NL _ _ _ _ (by omega)]
     by_cases e:t=(r.1+i).toNat
     ·rw [if_pos e,dS (by omega) hi0];exact hbq t ht (by omega)
     ·rw [if_neg e,ha t ht,Yr (by omega)]
    rw [AJ,if_pos c,Am _ hR1,if_pos g,Am _ hR1,Am _ hR2]
    by_cases d:i - n≥0
    ·rw [if_pos d,Am _ hR2,DG]
     by_cases e:i - n<r.2.1
     ·rw [if_pos (zf e),Am _ hR1,Am _ hR3,Cx]
      by_cases q:r.1+i - n<64
      ·rw [if_pos (zf q),Am _ hR1,Am _ hR3,Am _ (show 0≤r.1+i - n∧r.1+i - n<64 from⟨by omega,q⟩)]
       refine key _ (fun t ht et=> ?_)
       unfold Us
       rw [←et,zf (show 0≤(t:Int) - r.1 - n∧(t:Int) - r.1 - n<r.2.1∧(t:Int) - n<64 by omega)];rfl
      ·rw [if_neg (by simpa using q)]
       refine key false (fun t ht et=> ?_)
       unfold Us
       rw [ze (show¬(0≤(t:Int) - r.1 - n∧(t:Int) - r.1 - n<r.2.1∧(t:Int) - n<64)by omega)];rfl
     ·rw [if_neg (by simpa using e),Cx,if_neg (by decide)]
      refine key false (fun t ht et=> ?_)
      unfold Us
      rw [ze (show¬(0≤(t:Int) - r.1 - n∧(t:Int) - r.1 - n<r.2.1∧(t:Int) - n<64)by omega)];rfl
    ·rw [if_neg d,DG,if_neg (by decide),Cx,if_neg (by decide)]
     refine key false (fun t ht et=> ?_)
     unfold Us
     rw [ze (show¬(0≤(t:Int) - r.1 - n∧(t:Int) - r.1 - n<r.2.1∧(t:Int) - n<64)by omega)];rfl
   ·rw [AJ,if_pos c,Am _ hR1,if_neg g,Am _ hR]
    exact ih f (i+1) _ (by omega) (by omega) (by omega) (by omega) (fun t ht=>by rw [ha t ht,Yr (by omega)])
  ·have e:i=r.2.1:=by omega
   rw [AJ,if_neg c]
   exact⟨a,rfl,e▸ha⟩
theorem cE(hN:20000000<N)(hi:m.2.2.1.length≤150)(i n:Int)(s:BitVec 64): ∃x,Gz N m i n s=some x∧Ce N m i (max (-4) (min n 4)) s=some x:=by
 obtain⟨h0,h1,h2⟩:=rP hi i
 rw [Gz,Ce,qB hN hi,QQ hN (by omega),q0,q0]
 by_cases c:(Sc m.2.2.1 i).2.2=true
 ·obtain⟨h3,h4⟩:=h2 c
  rw [if_pos c,if_pos c]
  obtain⟨x,e1,g1⟩:=na (N:=N) n s (Sc m.2.2.1 i) _ rfl h0 h1 h3 h4 4 N 0 s (by omega) (by omega) (by omega) (by omega) (fun t _=>(ia _ _ _ _ _).symm)
  obtain⟨y,e2,g2⟩:=mU (max (-4) (min n 4)) s (Sc m.2.2.1 i) (by omega) h0 h1 h3 h4 4 N 0 s (by omega) (by omega) (by omega) (by omega) (fun t _=>(ia _ _ _ _ _).symm)
  have:x=y:=BitVec.eq_of_getLsbD_eq fun t ht=>by rw [g1 t ht,g2 t ht]
  exact⟨x,e1,this▸e2⟩
 ·rw [if_neg c,if_neg c];exact⟨s,rfl,rfl⟩
end
end Go.Proofs.YthmpbldidnmenaaGreatDoor
