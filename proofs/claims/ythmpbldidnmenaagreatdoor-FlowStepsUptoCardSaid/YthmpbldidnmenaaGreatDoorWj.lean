import Derived.Test.YthmpbldidnmenaaGreatDoorWs
import Derived.Test.YthmpbldidnmenaaGreatDoorHc
import Derived.Test.YthmpbldidnmenaaGreatDoorLFlowSteps
set_option linter.unusedSimpArgs false
set_option linter.unusedVariables false
namespace Go.Proofs.YthmpbldidnmenaaGreatDoor
open Go Go.RowKit Go.Eng
section
variable {N:Nat} {m:An}
theorem sM: ∀k:Nat,k<35→((tab9[k]!).1=[102,105,101,108,100]↔k=1)∧((tab9[k]!).1=[112,117,116,45,102,105,101,108,100]↔k=22)∧((tab9[k]!).1=[115,104,111,119]↔k=25)∧((tab9[k]!).1=[104,105,100,101]↔k=26)∧((tab9[k]!).1=[112,117,115,104,45,104,101,97,100]↔k=27)∧((tab9[k]!).1=[112,111,112,45,104,101,97,100]↔k=28)∧((tab9[k]!).1=[106,117,109,112,45,103,111,110,101]↔k=33):=by decide+kernel
theorem sK: ∀k∈ [1,22,25,26,33],(tab9[k]!).2.2.2.2.1=0∧(tab9[k]!).2.2.2.2.2.1=31:=by decide+kernel
theorem sJ: ∀k∈ [27,28],(tab9[k]!).2.2.2.2.2.2.1=1∧(tab9[k]!).2.2.2.2.2.2.2.1=4:=by decide+kernel
theorem ZU(s:BitVec 64)(a:Int)(h:0≤a∧a<64):put64 s a.toNat true=s|||onlyB a:=by
 refine BitVec.eq_of_getLsbD_eq fun t ht=> ?_
 rw [NL _ _ _ _ (by omega),SM _ _ _ ht]
 by_cases e:t=a.toNat
 ·rw [if_pos e,zf (show a=(t:Int)by omega)];simp
 ·rw [if_neg e,ze (show¬a=(t:Int)by omega)];simp
theorem ZT(s:BitVec 64)(a:Int)(h:0≤a∧a<64):put64 s a.toNat false=s&&&~~~onlyB a:=by
 refine BitVec.eq_of_getLsbD_eq fun t ht=> ?_
 rw [NL _ _ _ _ (by omega),RM _ _ _ ht]
 by_cases e:t=a.toNat
 ·rw [if_pos e,zf (show a=(t:Int)by omega)];simp
 ·rw [if_neg e,ze (show¬a=(t:Int)by omega)];simp
theorem mw(o a b w:Int)(x:BitVec 128)(s:BitVec 64)(h: ¬(o=1∨o=22∨o=25∨o=26∨o=27∨o=28∨o=33)):Gk N m (KH o a b w x) s=some (s,0):=by
 unfold KH
 repeat' split
 all_goals first
  |rfl
  |(exfalso;omega)
  |(show(Gn N o a s).bind _=_;unfold Gn;rw [if_neg (by omega),if_neg (by omega)];rfl)
theorem rq(hN:20000000<N)(hi:m.2.2.1.length≤150){o a b w:Int}{x:BitVec 128}(h9:OX o a b w x=0)(s:BitVec 64):
  ∃t u q,El N m o a b w x s=some (t,u,q)∧Gk N m (KH o a b w x) s=some (if q=true then(t,0)else(0#64,11)):=by
 have ho:=Ys h9
 have hr:=nN h9
 unfold Hs at hr
 obtain⟨n1,n2,n3,n4,n5,n6,n7⟩:=sM o.toNat (by omega)
 have hk: ∀y t' u',BF t' u'=some y→y=(u',t',true):=fun y t' u' h=>(q1 h).symm
 unfold El
 rw [TE,q0,Am _ ⟨ho.1,by rw [Rj];omega⟩]
 have hR: ∀k:Nat,k∈ [1,22,25,26,33]→o=(k:Int)→0≤a∧a<64:=fun k hk e=>by
  obtain⟨r1,r2⟩:=sK k hk
  rw [show o.toNat=k by omega,r1,r2] at hr;omega
 have hB: ∀k:Nat,k∈ [27,28]→o=(k:Int)→1≤b∧b≤4:=fun k hk e=>by
  obtain⟨r1,r2⟩:=sJ k hk
  rw [show o.toNat=k by omega,r1,r2] at hr;omega
 have place: ∀k5,k5=Cy N m o a b s tab9 true→(0≤a∧a<64)→(o=1∨o=22)→ ∃t u q,k5=some (t,u,q)∧Gk N m (KH o a b w x) s=some (if q=true then(t,0)else(0#64,11)):=by
  intro k5 e ha h
  rw [e,Cy,if_pos rfl,Am _ ha]
  refine⟨s,s,s.getLsbD a.toNat,rfl, ?_⟩
  have hs:KH o a b w x= .t114 o a b:=by unfold KH;rw [if_neg (by omega),if_pos h]
  rw [hs]
  show(Gy N s a).bind _=_
  rw [jb,q0,zf ha,Bool.true_and]
  cases s.getLsbD a.toNat<;>rfl
 by_cases e1:o=1
 ·rw [if_pos (n1.2 (by omega))]
  exact place _ (by rw [beq_iff_eq.2 (n1.2 (show o.toNat=1 by omega))]) (hR 1 (by simp) e1) (.inl e1)
 rw [if_neg (fun h=>e1 (by have:=n1.1 h;omega))]
 by_cases e2:o=22
 ·exact place _ (by rw [beq_iff_eq.2 (n2.2 (show o.toNat=22 by omega))]) (hR 22 (by simp) e2) (.inr e2)
 have hne:((tab9[o.toNat]!).1==[112,117,116,45,102,105,101,108,100])=false:=by
  rw [beq_eq_false_iff_ne];exact fun h=>e2 (by have:=n2.1 h;omega)
 rw [hne,Cy,if_neg (by decide)]
 by_cases e3:o=25
 ·have ha:=hR 25 (by simp) e3
  rw [if_pos (n3.2 (by omega)),Am _ ha]
  refine⟨_,_,_,rfl, ?_⟩
  have hs:KH o a b w x= .t116 o a:=by unfold KH;rw [if_neg (by omega),if_neg (by omega),if_neg (by omega),if_pos (by omega)]
  rw [hs]
  show(Gn N o a s).bind _=_
  unfold Gn
  rw [if_pos e3,TK,q0,q0,ZU s a ha];rfl
 rw [if_neg (fun h=>e3 (by have:=n3.1 h;omega))]
 by_cases e4:o=26
 ·have ha:=hR 26 (by simp) e4
  rw [if_pos (n4.2 (by omega)),Am _ ha]
  refine⟨_,_,_,rfl, ?_⟩
  have hs:KH o a b w x= .t116 o a:=by unfold KH;rw [if_neg (by omega),if_neg (by omega),if_neg (by omega),if_pos (by omega)]
  rw [hs]
  show(Gn N o a s).bind _=_
  unfold Gn
  rw [if_neg (by omega),if_pos e4,Vf,q0,q0,ZT s a ha];rfl
 rw [if_neg (fun h=>e4 (by have:=n4.1 h;omega))]
 have heads:o=27∨o=28→KH o a b w x= .t119 o a b:=fun h=>by
  unfold KH;rw [if_neg (by omega),if_neg (by omega),if_neg (by omega),if_neg (by omega),if_neg (by omega),if_neg (by omega),if_pos h]
 by_cases e5:o=27
 ·have hb:=hB 27 (by simp) e5
  obtain⟨y,m1,m2⟩:=cE hN hi a b s
  rw [show max (-4) (min b 4)=b by omega] at m2
  rw [if_pos (n5.2 (by omega)),m2,q0,heads (.inl e5)]
  refine⟨_,_,_,rfl, ?_⟩
  show(IG N o a b).bind _=_
  unfold IG
  rw [if_neg (by omega),q0,m1,q0];rfl
 rw [if_neg (fun h=>e5 (by have:=n5.1 h;omega))]
 by_cases e6:o=28
 ·have hb:=hB 28 (by simp) e6
  obtain⟨y,m1,m2⟩:=cE hN hi a (0 - b) s
  rw [show max (-4) (min (0 - b) 4)=0 - b by omega] at m2
  have hR6:R64 (0 - b):=⟨by omega,by omega⟩
  rw [if_pos (n6.2 (by omega)),Am _ hR6,m2,q0,heads (.inr e6)]
  refine⟨_,_,_,rfl, ?_⟩
  show(IG N o a b).bind _=_
  unfold IG
  rw [if_pos e6,Am _ hR6,q0,m1,q0];rfl
 rw [if_neg (fun h=>e6 (by have:=n6.1 h;omega))]
 by_cases e7:o=33
 ·have ha:=hR 33 (by simp) e7
  rw [if_pos (n7.2 (by omega)),Am _ ha,Am _ ha]
  refine⟨_,_,_,rfl, ?_⟩
  have hs:KH o a b w x= .t122 a b:=by
   unfold KH;rw [if_neg (by omega),if_neg (by omega),if_neg (by omega),if_neg (by omega),if_neg (by omega),if_neg (by omega),if_neg (by omega),if_neg (by omega),if_pos e7]
  rw [hs]
  show(EU N s a).bind _=_
  rw [TK,q0,ZU s a ha];rfl
 rw [if_neg (fun h=>e7 (by have:=n7.1 h;omega))]
 exact⟨s,s,true,rfl,mw o a b w x s (by omega)⟩
theorem sy(r:Int)(h0:0≤r): ∀(k f i:Nat) (a:BitVec 64),(i:Int)≤min r 64→min r 64 - (i:Int)≤(k:Int)→k<f→(∀t,t<64→a.getLsbD t=decide (t<i))→
  ∃x,GA N r f a (i:Int)=some x∧ ∀t:Nat,t<64→x.getLsbD t=decide ((t:Int)<r):=by
 intro k
 induction k with
 |zero=>
  intro f i a hi hk hf ha
  obtain⟨f,rfl⟩: ∃g,f=g+1:=⟨f - 1,by omega⟩
  rw [GA,if_neg (by omega)]
  exact⟨a,rfl,fun t ht=>by rw [ha t ht];exact decide_eq_decide.2 (by omega)⟩
 |succ k ih=>
  intro f i a hi hk hf ha
  obtain⟨f,rfl⟩: ∃g,f=g+1:=⟨f - 1,by omega⟩
  rw [GA]
  by_cases c:(i:Int)<min r 64
  ·rw [if_pos c,TK,q0,Am _ (show R64 ((i:Int)+1)from⟨by omega,by omega⟩)]
   refine ih f (i+1) _ (by omega) (by omega) (by omega) (fun t ht=> ?_)
   rw [SM _ _ _ ht,ha t ht,←Bool.decide_or]
   exact decide_eq_decide.2 (by omega)
  ·rw [if_neg c]
   exact⟨a,rfl,fun t ht=>by rw [ha t ht];exact decide_eq_decide.2 (by omega)⟩
theorem qQ(k:Nat)(t:Nat)(ht:t<64):((1#64<<<k) - 1#64).getLsbD t=decide (t<k):=by
 by_cases h:k<64
 ·have e:((1#64<<<k) - 1#64).toNat=2^k - 1:=by
   have h2:2^k<2^64:=Nat.pow_lt_pow_right (by decide) h
   have h3:0<2^k:=Nat.two_pow_pos k
   rw [BitVec.toNat_sub,BitVec.toNat_shiftLeft]
   simp only [zn,Nat.one_shiftLeft,Nat.mod_eq_of_lt (show 1<2^64 by decide),Nat.mod_eq_of_lt h2]
   omega
  rw [←BitVec.testBit_toNat,e,Nat.testBit_two_pow_sub_one]
 ·have:(1#64<<<k)=0#64:=by
   apply BitVec.eq_of_toNat_eq
   rw [BitVec.toNat_shiftLeft]
   simp only [zn,Nat.one_shiftLeft,Nat.mod_eq_of_lt (show 1<2^64 by decide)]
   exact Nat.mod_eq_zero_of_dvd (Nat.pow_dvd_pow 2 (by omega))
  rw [this,zf (by omega)]
  have e:(0#64 - 1#64)=BitVec.allOnes 64:=by decide
  rw [e,BitVec.getLsbD_allOnes,zf ht]
theorem rj(hN:20000000<N)(hi:m.2.2.1.length≤150):Jd N m=some ((1#64<<<total m.2.2.1) - 1#64):=by
 rw [Jd,dz N hN m.2.2.1 (by omega),q0]
 obtain⟨x,e,h⟩:=sy (N:=N) (total m.2.2.1:Int) (by omega) 64 N 0 (0#64) (by omega) (by omega) (by omega) (fun t _=>by simp)
 have:x=(1#64<<<total m.2.2.1) - 1#64:=BitVec.eq_of_getLsbD_eq fun t ht=>by
  rw [h t ht,qQ _ t ht];exact decide_eq_decide.2 (by omega)
 rw [←this];exact e
theorem mV(hN:20000000<N)(hL:Lit m)(hR:Rg m):Tot (CK N m):=by
 have h1:m.2.1.length≤1048576:=by have:=(hL.ti 1 (by omega)).2;simpa [BA] using this
 have h4:m.2.2.2.2.1.length≤1048576:=by have:=(hL.ti 4 (by omega)).2;simpa [BA] using this
 have h5:m.2.2.2.2.2.1.length≤1048576:=by have:=(hL.ti 5 (by omega)).2;simpa [BA] using this
 have h6:m.2.2.2.2.2.2.1.length≤1048576:=by have:=(hL.ti 6 (by omega)).2;simpa [BA] using this
 have il:=hL.il
 unfold CK
 refine Tot.ck (by omega) (Tot.ck (by omega) (Tot.ck (by omega) (Tot.ck (by omega) (Tot.ck (by omega) (Tot.ck (by omega) (Tot.ite (fun _=>Tot.it _) (fun _=>(gE hN hL hR).bind fun _ _=>Tot.it _)))))))
theorem fe(h:CK N m=some true):m.2.2.1.length≤150:=by
 unfold CK at h
 obtain⟨_,h⟩:=Hq h
 obtain⟨_,h⟩:=Hq h
 obtain⟨_,h⟩:=Hq h
 obtain⟨_,h⟩:=Hq h
 obtain⟨_,h⟩:=Hq h
 obtain⟨_,h⟩:=Hq h
 split at h
 ·cases h
 ·omega
end
set_option maxRecDepth 100000 in
theorem dV:Gw 20000001=some true:=by decide+kernel
theorem Vh{m:An}(hL:Lit m)(hR:Rg m)(o a b w:Int)(x:BitVec 128)(n0 n1 n2:Int):Fs 20000001 m o a b w x n0 n1 n2=some true:=by
 have hN:20000000<20000001:=by decide
 obtain⟨q,e⟩:=mV hN hL hR
 rw [Fs,e,q0]
 cases q with
 |false=>rw [if_neg (by decide),dV];rfl
 |true=>
  have hi:=fe e
  rw [if_pos rfl]
  have k4:Dd 20000001 m n0 n1 n2=some true:=by
   obtain⟨y,m1,m2⟩:=cE hN hi n1 n2 (BitVec.ofInt 64 n0)
   have hsl:=Oc m.2.2.1 0
   have htl:=Ri m.2.2.1
   have hto:(BitVec.ofInt 64 ((DE 0 m.2.2.1).length:Int):BitVec 64).toNat=total m.2.2.1:=by
    rw [hsl,BitVec.ofInt_natCast,zn];exact Nat.mod_eq_of_lt (by omega)
   rw [Dd,m1,q0,YN (by omega),q0,YN (by omega),q0,m2,q0,if_pos rfl,LX _ hN _ (by omega),q0,rj hN hi,q0,hto,if_pos rfl,dV];rfl
  have k3: ∀(z:BitVec 64) (f:Int),BI 20000001 m n0 n1 n2 (z,f) f z=some true:=fun z f=>by
   rw [BI,if_neg (fun h=>h rfl),YN (by omega),q0,if_pos rfl,k4]
  rw [JZ,qS,q0,Xq]
  by_cases c:OX o a b w x=0
  ·obtain⟨t,u,p,d1,d2⟩:=rq hN hi c (BitVec.ofInt 64 n0)
   rw [if_neg (fun h=>h c),if_pos c,d2,q0,q0,q0,if_neg (fun h=>h c),YN (by omega),q0,d1,q0]
   cases p with
   |true=>exact k3 t 0
   |false=>exact k3 (0#64) 11
  ·rw [if_pos c,q0,q0,if_pos c]
   exact k3 (0#64) 1
end Go.Proofs.YthmpbldidnmenaaGreatDoor
