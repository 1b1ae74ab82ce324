import Derived.Test.YtjlomkippigejaaGreatDoorFs
import Derived.Test.YtjlomkippigejaaGreatDoorCp
import Derived.Test.YtjlomkippigejaaGreatDoorRu
import Derived.Test.YtjlomkippigejaaGreatDoorHp
set_option linter.unusedSimpArgs false
set_option linter.unusedVariables false
namespace Go.Proofs.YtjlomkippigejaaGreatDoor
open Go Go.RowKit Go.Eng
section
variable {N:Nat} {m:Ao}
theorem uB(hN:20000000<N)(hi:m.2.2.1.length<=150)(i:Int):ED N m i=some (Tn m.2.2.1 i):=by
 rw [ED,Vy N hN m.2.2.1 i (by omega),q0]
 unfold Wy Tn
 by_cases c:0<=i/\i<(m.2.2.1.length:Int)/\dep (m.2.2.1[i.toNat]!).2.2≠0
 ·rw [if_pos c,if_pos Z,Af _ ⟨c.1,c.2.1⟩]
  have hd:0<=(m.2.2.1[i.toNat]!).2.2/\(m.2.2.1[i.toNat]!).2.2<=4:=by
   have h2:=c.2.2
   unfold dep at h2
   by_cases d:0<=(m.2.2.1[i.toNat]!).2.2/\(m.2.2.1[i.toNat]!).2.2<=4
   ·exact d
   ·rw [if_neg d] at h2;exact absurd Z h2
  by_cases d0:(m.2.2.1[i.toNat]!).2.2=0
  ·rw [if_pos d0,if_neg (by omega)]
  ·rw [if_neg d0,Ic,Af _ ⟨c.1,c.2.1⟩,if_pos (by omega)]
 ·rw [if_neg c,if_neg (by decide),if_neg (λh=>c ⟨h.1,h.2.1,by unfold dep;rw [if_pos (by omega)];omega⟩)]
theorem wq(hi:m.2.2.1.length<=150)(i:Int):0<=(Tn m.2.2.1 i).1/\(Tn m.2.2.1 i).1<=1000/\((Tn m.2.2.1 i).2.2=true->1<=(Tn m.2.2.1 i).2.1/\(Tn m.2.2.1 i).2.1<=4):=by
 unfold Tn
 split
 ·rename_i h
  have h1:=Sq (m.2.2.1.take i.toNat)
  rw [q7] at h1
  exact⟨by show(0:Int)<=(total _:Int);omega,by show(total _:Int)<=_;omega,λ_=>⟨h.2.2.1,h.2.2.2⟩⟩
 ·exact⟨by decide,by decide,λh=>by cases h⟩
def VF(f d n:Int)(s:W4)(t:Nat):Bool:=decide (0<=(t:Int) - f - n/\(t:Int) - f - n<d/\(t:Int) - n<64)&&s.getLsbD ((t:Int) - n).toNat
def Uv(f d n i:Int)(s:W4)(t:Nat):Bool:=if f<=(t:Int)/\(t:Int)<f+i then VF f d n s t else s.getLsbD t
theorem lf(f d n:Int)(s:W4)(t:Nat):Uv f d n 0 s t=s.getLsbD t:=if_neg (by omega)
theorem ZH{f d n i:Int}{s:W4}{t:Nat}(h:(t:Int)≠f+i):Uv f d n (i+1) s t=Uv f d n i s t:=by
 unfold Uv
 by_cases c:f<=(t:Int)/\(t:Int)<f+i
 ·rw [if_pos c,if_pos (by omega)]
 ·rw [if_neg c,if_neg (by omega)]
theorem gz{f d n i:Int}{s:W4}{t:Nat}(h:(t:Int)=f+i)(hi:0<=i):Uv f d n (i+1) s t=VF f d n s t:=if_pos (by omega)
theorem qz(n:Int)(s:W4)(r:Int×Int×Bool)(n':Int)(hn':n'=max (-4) (min n 4))(h0:0<=r.1)(h1:r.1<=1000)(hd0:1<=r.2.1)(hd:r.2.1<=4): ∀(k f:Nat) (i:Int) (a:W4),0<=i->i<=r.2.1->r.2.1 - i<=(k:Int)->k<f->
  (∀t,t<64->a.getLsbD t=Uv r.1 r.2.1 n' i s t)-> ∃x,AL N n s r f a i=some x/\ ∀t,t<64->x.getLsbD t=Uv r.1 r.2.1 n' r.2.1 s t:=by
 intro k
 induction k with
 |zero=>
  intro f i a hi0 hi1 hk hf ha
  obtain⟨f,rfl⟩: ∃g,f=g+1:=⟨f - 1,by omega⟩
  have e:i=r.2.1:=by omega
  rw [AL,if_neg (by omega)]
  exact⟨a,Z,e▸ha⟩
 |succ k ih=>
  intro f i a hi0 hi1 hk hf ha
  obtain⟨f,rfl⟩: ∃g,f=g+1:=⟨f - 1,by omega⟩
  by_cases c:i<r.2.1
  ·have hb: -4<=n'/\n'<=4:=by omega
   have key: ∀b:Bool,(∀t:Nat,t<64->(t:Int)=r.1+i->b=VF r.1 r.2.1 n' s t)->
     ∃x,EF N r i (AL N n s r f) (a&&&~~~onlyB (r.1+i)) b=some x/\ ∀t,t<64->x.getLsbD t=Uv r.1 r.2.1 n' r.2.1 s t:=by
    intro b hbq
    have hR:R64 (i+1):=⟨by omega,by omega⟩
    have bits: ∀t,t<64->((a&&&~~~onlyB (r.1+i)).getLsbD t||(b&&decide (r.1+i=(t:Int))))=Uv r.1 r.2.1 n' (i+1) s t:=by
     intro t ht
     rw [SU _ _ _ ht,ha t ht]
     by_cases e:r.1+i=(t:Int)
     ·rw [zf e,gz e.symm hi0,<-hbq t ht e.symm];simp
     ·rw [ze e,ZH (λq=>e q.symm)];simp
    cases b with
    |false=>
     rw [EF,if_neg (by decide),Af _ hR]
     exact ih f (i+1) _ (by omega) (by omega) (by omega) (by omega) (λt ht=>by rw [<-bits t ht];simp)
    |true=>
     rw [EF,if_pos Z,Af _ (show R64 (r.1+i)from⟨by omega,by omega⟩),SV,q0,Af _ hR]
     exact ih f (i+1) _ (by omega) (by omega) (by omega) (by omega) (λt ht=>by rw [TU _ _ _ ht,<-bits t ht];simp)
   have hR1:R64 (r.1+i):=⟨by omega,by omega⟩
   have hR2:R64 (i - n'):=⟨by omega,by omega⟩
   have hR3:R64 (r.1+(i - n')):=⟨by omega,by omega⟩
   rw [AL,if_pos c,Af _ hR1,Se,q0,<-hn',Af _ hR2]
   by_cases d:i - n'>=0
   ·rw [if_pos d,Fy,<-hn']
    by_cases e:i - n'<r.2.1
    ·rw [if_pos (zf e),Af _ hR3,fw,q0]
     refine key _ (λt ht et=> ?_)
     unfold VF
     have e1:r.1+(i - n')=(t:Int) - n':=by omega
     rw [e1]
     by_cases g:(t:Int) - n'<64
     ·rw [zf (show 0<=(t:Int) - n'/\(t:Int) - n'<64 by omega),zf (show 0<=(t:Int) - r.1 - n'/\(t:Int) - r.1 - n'<r.2.1/\(t:Int) - n'<64 by omega)]
     ·rw [ze (show¬(0<=(t:Int) - n'/\(t:Int) - n'<64)by omega),ze (show¬(0<=(t:Int) - r.1 - n'/\(t:Int) - r.1 - n'<r.2.1/\(t:Int) - n'<64)by omega)]
    ·rw [if_neg (by simpa using e)]
     refine key false (λt ht et=> ?_)
     unfold VF
     rw [ze (show¬(0<=(t:Int) - r.1 - n'/\(t:Int) - r.1 - n'<r.2.1/\(t:Int) - n'<64)by omega)];rfl
   ·rw [if_neg d,Fy,if_neg (by decide)]
    refine key false (λt ht et=> ?_)
    unfold VF
    rw [ze (show¬(0<=(t:Int) - r.1 - n'/\(t:Int) - r.1 - n'<r.2.1/\(t:Int) - n'<64)by omega)];rfl
  ·have e:i=r.2.1:=by omega
   rw [AL,if_neg c]
   exact⟨a,Z,e▸ha⟩
theorem qt(n:Int)(s:W4)(r:Int×Int×Bool)(hb: -1000<=n/\n<=1000)(h0:0<=r.1)(h1:r.1<=1000)(hd0:1<=r.2.1)(hd:r.2.1<=4): ∀(k f:Nat) (i:Int) (a:W4),0<=i->i<=r.2.1->r.2.1 - i<=(k:Int)->k<f->
  (∀t,t<64->a.getLsbD t=Uv r.1 r.2.1 n i s t)-> ∃x,AN n s r f i a=some x/\ ∀t,t<64->x.getLsbD t=Uv r.1 r.2.1 n r.2.1 s t:=by
 intro k
 induction k with
 |zero=>
  intro f i a hi0 hi1 hk hf ha
  obtain⟨f,rfl⟩: ∃g,f=g+1:=⟨f - 1,by omega⟩
  have e:i=r.2.1:=by omega
  rw [AN,if_neg (by omega)]
  exact⟨a,Z,e▸ha⟩
 |succ k ih=>
  intro f i a hi0 hi1 hk hf ha
  obtain⟨f,rfl⟩: ∃g,f=g+1:=⟨f - 1,by omega⟩
  by_cases c:i<r.2.1
  ·have hR:R64 (i+1):=⟨by omega,by omega⟩
   have hR1:R64 (r.1+i):=⟨by omega,by omega⟩
   have hR2:R64 (i - n):=⟨by omega,by omega⟩
   have hR3:R64 (r.1+i - n):=⟨by omega,by omega⟩
   by_cases g:r.1+i<64
   ·have key: ∀b:Bool,(∀t:Nat,t<64->(t:Int)=r.1+i->b=VF r.1 r.2.1 n s t)->
      ∃x,DV r i a (AN n s r f) b=some x/\ ∀t,t<64->x.getLsbD t=Uv r.1 r.2.1 n r.2.1 s t:=by
     intro b hbq
     rw [DV,Af _ (show 0<=r.1+i/\r.1+i<64 from⟨by omega,g⟩),Af _ hR]
     refine ih f (i+1) _ (by omega) (by omega) (by omega) (by omega) (λt ht=> ?_)
     rw [Pm _ _ _ _ (by omega)]
     by_cases e:t=(r.1+i).toNat
     ·rw [if_pos e,gz (by omega) hi0];exact hbq t ht (by omega)
     ·rw [if_neg e,ha t ht,ZH (by omega)]
    rw [AN,if_pos c,Af _ hR1,if_pos g,Af _ hR1,Af _ hR2]
    by_cases d:i - n>=0
    ·rw [if_pos d,Af _ hR2,DW]
     by_cases e:i - n<r.2.1
     ·rw [if_pos (zf e),Af _ hR1,Af _ hR3,CO]
      by_cases q:r.1+i - n<64
      ·rw [if_pos (zf q),Af _ hR1,Af _ hR3,Af _ (show 0<=r.1+i - n/\r.1+i - n<64 from⟨by omega,q⟩)]
       refine key _ (λt ht et=> ?_)
       unfold VF
       rw [<-et,zf (show 0<=(t:Int) - r.1 - n/\(t:Int) - r.1 - n<r.2.1/\(t:Int) - n<64 by omega)];rfl
      ·rw [if_neg (by simpa using q)]
       refine key false (λt ht et=> ?_)
       unfold VF
       rw [ze (show¬(0<=(t:Int) - r.1 - n/\(t:Int) - r.1 - n<r.2.1/\(t:Int) - n<64)by omega)];rfl
     ·rw [if_neg (by simpa using e),CO,if_neg (by decide)]
      refine key false (λt ht et=> ?_)
      unfold VF
      rw [ze (show¬(0<=(t:Int) - r.1 - n/\(t:Int) - r.1 - n<r.2.1/\(t:Int) - n<64)by omega)];rfl
    ·rw [if_neg d,DW,if_neg (by decide),CO,if_neg (by decide)]
     refine key false (λt ht et=> ?_)
     unfold VF
     rw [ze (show¬(0<=(t:Int) - r.1 - n/\(t:Int) - r.1 - n<r.2.1/\(t:Int) - n<64)by omega)];rfl
   ·rw [AN,if_pos c,Af _ hR1,if_neg g,Af _ hR]
    exact ih f (i+1) _ (by omega) (by omega) (by omega) (by omega) (λt ht=>by rw [ha t ht,ZH (by omega)])
  ·have e:i=r.2.1:=by omega
   rw [AN,if_neg c]
   exact⟨a,Z,e▸ha⟩
theorem ld(hN:20000000<N)(hi:m.2.2.1.length<=150)(i n:Int)(s:W4): ∃x,Fs N m i n s=some x/\EG N m i (max (-4) (min n 4)) s=some x:=by
 obtain⟨h0,h1,h2⟩:=wq hi i
 rw [Fs,EG,uB hN hi,RR hN (by omega),q0,q0]
 by_cases c:(Tn m.2.2.1 i).2.2=true
 ·obtain⟨h3,h4⟩:=h2 c
  rw [if_pos c,if_pos c]
  obtain⟨x,e1,g1⟩:=qz (N:=N) n s (Tn m.2.2.1 i) _ Z h0 h1 h3 h4 4 N 0 s (by omega) (by omega) (by omega) (by omega) (λt _=>(lf _ _ _ _ _).symm)
  obtain⟨y,e2,g2⟩:=qt (max (-4) (min n 4)) s (Tn m.2.2.1 i) (by omega) h0 h1 h3 h4 4 N 0 s (by omega) (by omega) (by omega) (by omega) (λt _=>(lf _ _ _ _ _).symm)
  have:x=y:=BitVec.eq_of_getLsbD_eq λt ht=>by rw [g1 t ht,g2 t ht]
  exact⟨x,e1,this▸e2⟩
 ·rw [if_neg c,if_neg c];exact⟨s,Z,Z⟩
end
end Go.Proofs.YtjlomkippigejaaGreatDoor
set_option linter.unusedSimpArgs false
set_option linter.unusedVariables false
namespace Go.Proofs.YtjlomkippigejaaGreatDoor
open Go Go.RowKit Go.Eng
section
variable {N:Nat} {m:Ao}
theorem wU: ∀k:Nat,k<35->((tab9[k]!).1=[102,105,101,108,100]↔k=1)/\((tab9[k]!).1=[112,117,116,45,102,105,101,108,100]↔k=22)/\((tab9[k]!).1=[115,104,111,119]↔k=25)/\((tab9[k]!).1=[104,105,100,101]↔k=26)/\((tab9[k]!).1=[112,117,115,104,45,104,101,97,100]↔k=27)/\((tab9[k]!).1=[112,111,112,45,104,101,97,100]↔k=28)/\((tab9[k]!).1=[106,117,109,112,45,103,111,110,101]↔k=33):=by decide+kernel
theorem wt: ∀k∈ [1,22,25,26,33],(tab9[k]!).2.2.2.2.1=0/\(tab9[k]!).2.2.2.2.2.1=31:=by decide+kernel
theorem xJ: ∀k∈ [27,28],(tab9[k]!).2.2.2.2.2.2.1=1/\(tab9[k]!).2.2.2.2.2.2.2.1=4:=by decide+kernel
theorem bO(s:W4)(a:Int)(h:0<=a/\a<64):put64 s a.toNat true=s|||onlyB a:=by
 refine BitVec.eq_of_getLsbD_eq λt ht=> ?_
 rw [Pm _ _ _ _ (by omega),TU _ _ _ ht]
 by_cases e:t=a.toNat
 ·rw [if_pos e,zf (show a=(t:Int)by omega)];simp
 ·rw [if_neg e,ze (show¬a=(t:Int)by omega)];simp
theorem bN(s:W4)(a:Int)(h:0<=a/\a<64):put64 s a.toNat false=s&&&~~~onlyB a:=by
 refine BitVec.eq_of_getLsbD_eq λt ht=> ?_
 rw [Pm _ _ _ _ (by omega),SU _ _ _ ht]
 by_cases e:t=a.toNat
 ·rw [if_pos e,zf (show a=(t:Int)by omega)];simp
 ·rw [if_neg e,ze (show¬a=(t:Int)by omega)];simp
theorem pN(o a b w:Int)(x:W3)(s:W4)(h: ¬(o=1\/o=22\/o=25\/o=26\/o=27\/o=28\/o=33)):BD N m (Hq o a b w x) s=some (s,0):=by
 unfold Hq
 repeat' split
 all_goals first
  |rfl
  |(exfalso;omega)
  |(show(Gb N o a s).bind _=_;unfold Gb;rw [if_neg (by omega),if_neg (by omega)];rfl)
theorem vQ(hN:20000000<N)(hi:m.2.2.1.length<=150){o a b w:Int}{x:W3}(h9:OL o a b w x=0)(s:W4):
  ∃t u q,Ge N m o a b w x s=some (t,u,q)/\BD N m (Hq o a b w x) s=some (if q=true then(t,0)else(0#64,11)):=by
 have ho:=SG h9
 have hr:=ZI h9
 unfold HZ at hr
 obtain⟨n1,n2,n3,n4,n5,n6,n7⟩:=wU o.toNat (by omega)
 have hk: ∀y t' u',BN t' u'=some y->y=(u',t',true):=λy t' u' h=>(q1 h).symm
 unfold Ge
 rw [Re,q0,Af _ ⟨ho.1,by rw [Qp];omega⟩]
 have hR: ∀k:Nat,k∈ [1,22,25,26,33]->o=(k:Int)->0<=a/\a<64:=λk hk e=>by
  obtain⟨r1,r2⟩:=wt k hk
  rw [show o.toNat=k by omega,r1,r2] at hr;omega
 have hB: ∀k:Nat,k∈ [27,28]->o=(k:Int)->1<=b/\b<=4:=λk hk e=>by
  obtain⟨r1,r2⟩:=xJ k hk
  rw [show o.toNat=k by omega,r1,r2] at hr;omega
 have place: ∀k5,k5=CP N m o a b s tab9 true->(0<=a/\a<64)->(o=1\/o=22)-> ∃t u q,k5=some (t,u,q)/\BD N m (Hq o a b w x) s=some (if q=true then(t,0)else(0#64,11)):=by
  intro k5 e ha h
  rw [e,CP,if_pos Z,Af _ ha]
  refine⟨s,s,s.getLsbD a.toNat,Z, ?_⟩
  have hs:Hq o a b w x= .t164 o a b:=by unfold Hq;rw [if_neg (by omega),if_pos h]
  rw [hs]
  show(Ce N s a).bind _=_
  rw [fw,q0,zf ha,Bool.true_and]
  cases s.getLsbD a.toNat<;>rfl
 by_cases e1:o=1
 ·rw [if_pos (n1.2 (by omega))]
  exact place _ (by rw [beq_iff_eq.2 (n1.2 (show o.toNat=1 by omega))]) (hR 1 (by simp) e1) (.inl e1)
 rw [if_neg (λh=>e1 (by have:=n1.1 h;omega))]
 by_cases e2:o=22
 ·exact place _ (by rw [beq_iff_eq.2 (n2.2 (show o.toNat=22 by omega))]) (hR 22 (by simp) e2) (.inr e2)
 have hne:((tab9[o.toNat]!).1==[112,117,116,45,102,105,101,108,100])=false:=by
  rw [beq_eq_false_iff_ne];exact λh=>e2 (by have:=n2.1 h;omega)
 rw [hne,CP,if_neg (by decide)]
 by_cases e3:o=25
 ·have ha:=hR 25 (by simp) e3
  rw [if_pos (n3.2 (by omega)),Af _ ha]
  refine⟨_,_,_,Z, ?_⟩
  have hs:Hq o a b w x= .t166 o a:=by unfold Hq;rw [if_neg (by omega),if_neg (by omega),if_neg (by omega),if_pos (by omega)]
  rw [hs]
  show(Gb N o a s).bind _=_
  unfold Gb
  rw [if_pos e3,SV,q0,q0,bO s a ha];rfl
 rw [if_neg (λh=>e3 (by have:=n3.1 h;omega))]
 by_cases e4:o=26
 ·have ha:=hR 26 (by simp) e4
  rw [if_pos (n4.2 (by omega)),Af _ ha]
  refine⟨_,_,_,Z, ?_⟩
  have hs:Hq o a b w x= .t166 o a:=by unfold Hq;rw [if_neg (by omega),if_neg (by omega),if_neg (by omega),if_pos (by omega)]
  rw [hs]
  show(Gb N o a s).bind _=_
  unfold Gb
  rw [if_neg (by omega),if_pos e4,Se,q0,q0,bN s a ha];rfl
 rw [if_neg (λh=>e4 (by have:=n4.1 h;omega))]
 have heads:o=27\/o=28->Hq o a b w x= .t169 o a b:=λh=>by
  unfold Hq;rw [if_neg (by omega),if_neg (by omega),if_neg (by omega),if_neg (by omega),if_neg (by omega),if_neg (by omega),if_pos h]
 by_cases e5:o=27
 ·have hb:=hB 27 (by simp) e5
  obtain⟨y,m1,m2⟩:=ld hN hi a b s
  rw [show max (-4) (min b 4)=b by omega] at m2
  rw [if_pos (n5.2 (by omega)),m2,q0,heads (.inl e5)]
  refine⟨_,_,_,Z, ?_⟩
  show(Hx N o a b).bind _=_
  unfold Hx
  rw [if_neg (by omega),q0,m1,q0];rfl
 rw [if_neg (λh=>e5 (by have:=n5.1 h;omega))]
 by_cases e6:o=28
 ·have hb:=hB 28 (by simp) e6
  obtain⟨y,m1,m2⟩:=ld hN hi a (0 - b) s
  rw [show max (-4) (min (0 - b) 4)=0 - b by omega] at m2
  have hR6:R64 (0 - b):=⟨by omega,by omega⟩
  rw [if_pos (n6.2 (by omega)),Af _ hR6,m2,q0,heads (.inr e6)]
  refine⟨_,_,_,Z, ?_⟩
  show(Hx N o a b).bind _=_
  unfold Hx
  rw [if_pos e6,Af _ hR6,q0,m1,q0];rfl
 rw [if_neg (λh=>e6 (by have:=n6.1 h;omega))]
 by_cases e7:o=33
 ·have ha:=hR 33 (by simp) e7
  rw [if_pos (n7.2 (by omega)),Af _ ha,Af _ ha]
  refine⟨_,_,_,Z, ?_⟩
  have hs:Hq o a b w x= .t123 a b:=by
   unfold Hq;rw [if_neg (by omega),if_neg (by omega),if_neg (by omega),if_neg (by omega),if_neg (by omega),if_neg (by omega),if_neg (by omega),if_neg (by omega),if_pos e7]
  rw [hs]
  show(BF N s a).bind _=_
  rw [SV,q0,bO s a ha];rfl
 rw [if_neg (λh=>e7 (by have:=n7.1 h;omega))]
 exact⟨s,s,true,Z,pN o a b w x s (by omega)⟩
end
end Go.Proofs.YtjlomkippigejaaGreatDoor
