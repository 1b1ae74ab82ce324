import Derived.Test.YtjlomkippigejaaGreatDoorFs
import Derived.Test.YtjlomkippigejaaGreatDoorWi
import Derived.Test.YtjlomkippigejaaGreatDoorLFlowSound
import Derived.Test.YtjlomkippigejaaGreatDoorLz
import Derived.Test.YtjlomkippigejaaGreatDoorRows
import Derived.SizedLaws
set_option linter.unusedSimpArgs false
set_option linter.unusedVariables false
namespace Go.Proofs.YtjlomkippigejaaGreatDoor
open Go Go.RowKit Go.Eng
section
variable {N:Nat} {m:Ao}
theorem dbl(s:W4)(j:Nat):2#64*(s>>>(j+1))+(if s.getLsbD j=true then 1#64 else 0#64)=s>>>j:=by
 have h:=s.isLt
 have hd:s.toNat / 2^(j+1)=s.toNat / 2^j / 2:=by rw [Nat.pow_succ,Nat.div_div_eq_div_mul]
 have hb:(s.getLsbD j=true)↔s.toNat / 2^j%2=1:=by
  rw [BitVec.getLsbD,Nat.testBit_eq_decide_div_mod_eq,decide_eq_true_eq]
 have hle:s.toNat / 2^j<=s.toNat:=Nat.div_le_self _ _
 apply BitVec.eq_of_toNat_eq
 by_cases c:s.getLsbD j=true
 ·rw [if_pos c]
  have:=hb.1 c
  simp only [BitVec.toNat_add,BitVec.toNat_mul,zn,BitVec.toNat_ushiftRight,Nat.shiftRight_eq_div_pow,hd]
  omega
 ·rw [if_neg c]
  have: ¬s.toNat / 2^j%2=1:=λq=>c (hb.2 q)
  simp only [BitVec.toNat_add,BitVec.toNat_mul,zn,BitVec.toNat_ushiftRight,Nat.shiftRight_eq_div_pow,hd]
  omega
theorem VB(s:W4): ∀j k:Nat,j<=64->j<k->BV s k (s>>>j) ((j:Int) - 1)=some s
 |0,k+1,_,_=>by rw [BV,if_neg (by omega),BitVec.ushiftRight_zero]
 |j+1,k+1,hj,hk=>by
  have e:(((j+1:Nat):Int) - 1)=(j:Int):=by omega
  have d:=dbl s j
  rw [e,BV,if_pos (by omega),Af _ (by omega),q3]
  by_cases c:s.getLsbD j=true
  ·rw [if_pos c] at d ⊢
   rw [Af _ (show R64 ((j:Int) - 1)from⟨by omega,by omega⟩),d]
   exact VB s j k (by omega) (by omega)
  ·rw [if_neg c,BitVec.add_zero] at d
   rw [if_neg c,Af _ (show R64 ((j:Int) - 1)from⟨by omega,by omega⟩),d]
   exact VB s j k (by omega) (by omega)
theorem kV(hN:64<N)(s:W4):HU N s=some s:=by
 have:=VB s 64 N (by omega) hN
 have z:s>>>64=0#64:=BitVec.eq_of_toNat_eq (by rw [BitVec.toNat_ushiftRight,Nat.shiftRight_eq_div_pow,Nat.div_eq_of_lt s.isLt];rfl)
 rw [z] at this;exact this
theorem xl(l:List Int)(hl:l.length<=1048576): ∀(k f i:Nat) (s:W4),i+k=l.length->k<f-> ∃r,Km N l f s (i:Int)=some r:=by
 intro k
 induction k with
 |zero=>
  intro f i s hi hf
  obtain⟨f,rfl⟩: ∃g,f=g+1:=⟨f - 1,by omega⟩
  rw [Km,if_neg (by omega)];exact⟨_,Z⟩
 |succ k ih=>
  intro f i s hi hf
  obtain⟨f,rfl⟩: ∃g,f=g+1:=⟨f - 1,by omega⟩
  rw [Km,if_pos (by omega),Af _ (by omega),SV,q0,Af _ (show R64 ((i:Int)+1)from⟨by omega,by omega⟩),show((i:Int)+1)=((i+1:Nat):Int)by omega]
  exact ih f (i+1) _ (by omega) (by omega)
theorem ub(l:List Int)(hl:l.length<=70)(hN:100<N): ∃r,Mt N l=some r:=xl l (by omega) l.length N 0 _ (q6 _) (by omega)
structure xw(N:Nat)(m:Ao)(l:List I9)(s:W4)(v:List (Bool×W4)):Prop where
 cx:Ctx N m
 n:l.length<=64
 may: ∀i,i<l.length->NI (l[i]!)=0
 ah: ∀i,i<l.length->Ut (Ev (l[i]!)) l.length i
 p0:Post v 0 s
 ed: ∀j,j<l.length->(v[j]!).1=true-> ∃b,BD N m (Ev (l[j]!)) (v[j]!).2=some (b,0)/\Edges N l.length j (Ev (l[j]!)) (v[j]!).2 b v
theorem coe(hN:20000000<N)(hL:Lit m)(hR:Rg m)(l:List I9)(hl:l.length<=1048576)(hr:CoR l)(s:W4): ∃r,Hn N m l s=some r/\(r.2.2=0-> ∃v,xw N m l s v/\r.1=(v[l.length]!).2):=by
 obtain⟨q,e,hq⟩:=rW hN hL hR
 rw [Hn,e,q0]
 cases q with
 |nil=>
  have hC:=(hq Z).cx
  show∃r,(GX N).bind _=some r/\_
  rw [xu N hN,q0]
  obtain⟨r,e2,hr2⟩:=rT hC [1,1,1,1,1,1,1,1] (by decide) l hl hr
  rw [e2,q0]
  by_cases c:r=0
  ·obtain⟨ha,hx⟩:=hr2 c
   obtain⟨h1,h2,h3⟩:=Vc ha
   have hA:R64 ((l.length:Int)+1):=by omega
   have hB:0<=(l.length:Int)+1/\(l.length:Int)+1<=8796093022208:=by omega
   rw [if_neg (λq=>q c),Lg,pR hN l hl,wa ha,q0]
   show∃r,ck (R64 ((l.length:Int)+1)) (ck (0<=(l.length:Int)+1/\(l.length:Int)+1<=8796093022208) _)=some r/\_
   rw [Af _ hA,Af _ hB]
   show∃r,(AV N m (List.replicate ((l.length:Int)+1).toNat (false,0#64)) 0 s).bind _=some r/\_
   have hw:(List.replicate ((l.length:Int)+1).toNat (false,0#64)).length=l.length+1:=by rw [zi];omega
   have hf:((List.replicate ((l.length:Int)+1).toNat (false,0#64))[0]!).1=false:=by
    rw [zg _ 0 (by omega),List.getElem_replicate]
   generalize List.replicate ((l.length:Int)+1).toNat (false,0#64)=w at hw hf ⊢
   have h0:0<=(0:Int)/\(0:Int)<(w.length:Int):=by omega
   have f1:AV N m w 0 s=some (w.set 0 (true,s)):=by
    rw [AV,Af _ h0,if_neg (show¬(w[(0:Int).toNat]!).1=true by show¬(w[0]!).1=true;rw [hf];decide),Dd,Af _ h0];rfl
   rw [f1,q0,Af _ (zl ..)]
   have gt: ∀i,i<l.length->(l.map Ev)[i]! =Ev (l[i]!):=λi hi=>by rw [zg _ i (by rw [q8];exact hi),zg l i hi,zm]
   obtain⟨z,ez,hz⟩:=ui hC (l.map Ev) l.length 0 (q8 ..) h2 (λi hi=>by rw [gt i hi];exact⟨hx i hi,uc _ (h3 _ (Fa hi))⟩) l.length N 0 (w.set 0 (true,s)) (q6 _) (by omega) (by rw [zl];exact hw)
   refine⟨z,ez,λq=> ?_⟩
   obtain⟨v,kv,ev,pv⟩:=hz q
   refine⟨v,⟨hC,h2,λi hi=>h3 _ (Fa hi),hx, ?_,λj hj hv=> ?_⟩,ev⟩
   ·have e0:=kv.2.1 0 (Nat.le_refl 0)
    rw [UN w 0 0 (by omega),if_pos Z] at e0
    show(v[0]!).1=true/\Sub (v[0]!).2 s
    rw [e0];exact⟨Z,Sub.same _⟩
   ·have:=pv j (Nat.zero_le _) hj hv
    rwa [gt j hj] at this
  ·rw [if_pos c];exact⟨_,Z,λq=>absurd q (by decide)⟩
 |_=>exact⟨_,Z,λq=>absurd q (by decide)⟩
theorem xL: ∀k:Nat,k<35->((tab9[k]!).1=[115,116,111,112]↔k=34)/\((tab9[k]!).1=[106,117,109,112]↔k=31)/\((tab9[k]!).1=[106,117,109,112,45,122,101,114,111]↔k=32)/\((tab9[k]!).1=[106,117,109,112,45,103,111,110,101]↔k=33):=by decide+kernel
theorem rN{n i:Nat}{o a b w:Int}{x:W3}{S t:W4}{v:List (Bool×W4)}(h0:0<=o/\o<=30)(h:Edges N n i (Hq o a b w x) S t v):Post v ((i:Int)+1) t:=by
 unfold Hq at h
 repeat' split at h
 all_goals first
  |exact h
  |(exfalso;omega)
theorem Ys{o a b w:Int}{x:W3}(h:o=31\/o=32):Hq o a b w x= .t121 o a:=by
 unfold Hq;rw [if_neg (by omega),if_neg (by omega),if_neg (by omega),if_neg (by omega),if_neg (by omega),if_neg (by omega),if_neg (by omega),if_pos h]
theorem Post.le{v:List (Bool×W4)}{q:Int}{s t:W4}(h:Post v q s)(g:Sub s t):Post v q t:=⟨h.1,h.2.trans g⟩
theorem vj(hN:20000000<N)(hi:m.2.2.1.length<=150)(lv:EC N=some true){l:List I9}{s0:W4}{v:List (Bool×W4)}(H:xw N m l s0 v)(ways:List Int)(c:W4×Int×Int)(hc:c.1=(v[l.length]!).2):
  ∀(k f:Nat) (p:Int) (turns:Nat) (s:W4),0<=p->p<=(l.length:Int)->(l.length:Int) - p<=(k:Int)->k<f->turns+k<=100->Post v p s->shunterlaw15_FlowSound_v1_l7 N m l ways c f p (turns:Int) s=some true:=by
 intro k
 induction k with
 |zero=>
  intro f p turns s h0 h1 hk hf ht hp
  obtain⟨f,rfl⟩: ∃g,f=g+1:=⟨f - 1,by omega⟩
  obtain rfl:p=(l.length:Int):=by omega
  have hs:Sub c.1 s:=by rw [hc];have:=hp.2;rwa [q3] at this
  rw [shunterlaw15_FlowSound_v1_l7,if_neg (by omega),kV (by omega),q0,JR,Ik,q0,q0,hs.within,if_pos Z,lv];rfl
 |succ k ih=>
  intro f p turns s h0 h1 hk hf ht hp
  obtain⟨f,rfl⟩: ∃g,f=g+1:=⟨f - 1,by omega⟩
  by_cases cn:p=(l.length:Int)
  ·exact ih (f+1) p turns s h0 h1 (by omega) (by omega) (by omega) hp
  obtain⟨i,rfl⟩:=Int.eq_ofNat_of_zero_le h0
  have hil:i<l.length:=by omega
  have h9:=H.may i hil
  have hn:=H.n
  obtain⟨b0,eb,hE⟩:=H.ed i hil hp.1
  obtain⟨r,r',e1,e2,hb⟩:=uf H.cx (Ev (l[i]!)) (uc _ h9) hp.2
  have er:r=(b0,0):=q1 (e1.symm.trans eb)
  subst er
  obtain⟨hr2,hsub⟩:=hb Z
  have hA:=H.ah i hil
  have go1: ∀(q:Int) (s':W4),(i:Int)+1<=q->q<=(l.length:Int)->Post v q s'->shunterlaw15_FlowSound_v1_l7 N m l ways c f q ((turns:Int)+1) s'=some true:=λq s' g1 g2 g3=>by
   have:=ih f q (turns+1) s' (by omega) g2 (by omega) (by omega) (by omega) g3
   rwa [show((turns+1:Nat):Int)=(turns:Int)+1 by omega] at this
  have go0: ∀(s':W4),Post v (l.length:Int) s'->shunterlaw15_FlowSound_v1_l7 N m l ways c f (l.length:Int) (turns:Int) s'=some true:=λs' g3=>
   ih f _ turns s' (by omega) (by omega) (by omega) (by omega) (by omega) g3
  rw [shunterlaw15_FlowSound_v1_l7,if_pos (by omega),Af _ (by omega),Re,q0,q3]
  generalize shunterlaw15_FlowSound_v1_l7 N m l ways c f=R at go1 go0 ⊢
  generalize ex:l[i]! =y at h9 e2 hE hA ⊢
  obtain⟨o,a,b,w,x⟩:=y
  have h9':OL o a b w x=0:=h9
  have ho:=SG h9'
  have e2':BD N m (Hq o a b w x) s=some r':=e2
  have hE':Edges N l.length i (Hq o a b w x) (v[i]!).2 b0 v:=hE
  have hA':Ut (Hq o a b w x) l.length i:=hA
  obtain⟨t,u,q,d1,d2⟩:=vQ hN hi h9' s
  have er':=q1 (e2'.symm.trans d2)
  have hq:q=true:=by
   cases q with
   |true=>rfl
   |false=>rw [er'] at hr2;exact absurd hr2 (show¬(11:Int)=0 by decide)
  subst hq
  rw [if_pos Z] at er'
  subst er'
  obtain⟨n1,n2,n3,n4,n5,n6,n7⟩:=wU o.toNat (by omega)
  obtain⟨p1,p2,p3,p4⟩:=xL o.toNat (by omega)
  have hR1:R64 ((turns:Int)+1):=⟨by omega,by omega⟩
  have hRi:R64 ((i:Int)+1):=⟨by omega,by omega⟩
  have ho2:0<=o/\o<(tab9.length:Int):=⟨ho.1,by rw [Qp];omega⟩
  rw [Af _ ho2]
  -- where an instruction leads
  have k14: ∀(L:List Int) (way:Int) (s':W4) (q:Int),0<=way/\way<(L.length:Int)->L[way.toNat]! =q->R q ((turns:Int)+1) s'=some true->BM (turns:Int) R L way s'=some true:=λL way s' q g1 g2 g3=>by
   rw [BM,Af _ hR1,Af _ g1,g2,g3]
  have k15: ∀(L:List Int) (b80:Bool),(b80=true->(turns:Int)<(ways.length:Int))->(∀way,way=0\/way=1/\b80=true->Bw N m l (i:Int) (turns:Int) s R tab9 L way=some true)->Cn N m l ways (i:Int) (turns:Int) s R tab9 L b80=some true:=λL b80 g1 g2=>by
   rw [Cn]
   cases b80 with
   |false=>rw [if_neg (by decide),Cm,if_neg (by decide)];exact g2 0 (.inl Z)
   |true=>
    rw [if_pos Z,Af _ ⟨by omega,g1 Z⟩,Cm]
    split
    ·exact g2 1 (.inr ⟨Z,Z⟩)
    ·exact g2 0 (.inl Z)
  have k11: ∀(L:List Int) (way:Int),o≠33->0<=way/\way<(L.length:Int)->(i:Int)+1<=L[way.toNat]!->L[way.toNat]!<=(l.length:Int)->Post v (L[way.toNat]!) b0->Bw N m l (i:Int) (turns:Int) s R tab9 L way=some true:=λL way g0 g1 g2 g3 g4=>by
   rw [Bw,q3,ex,if_neg (λh=>g0 (by have:=p4.1 h;omega)),d1,q0]
   exact k14 L way _ _ g1 Z (go1 _ _ g2 g3 (g4.le hsub))
  have k9:Cs N m l ways (i:Int) (turns:Int) s R tab9 false=some true:=by
   rw [Cs,if_neg (by decide),q3,ex,Im,Re,q0,Af _ ho2]
   by_cases c4:o=34
   ·subst c4
    rw [if_pos (p1.2 Z),q0,if_pos (show(([]:List Int).length:Int)=0 from Z)]
    have hs:t=s:=by
     have h:BD N m (Hq 34 a b w x) s=some (s,0):=Z
     have:=q1 (h.symm.trans d2)
     exact(congrArg Prod.fst this).symm
    exact go0 s (Post.le hE' (hs▸hsub))
   rw [if_neg (λh=>c4 (by have:=p1.1 h;omega))]
   by_cases c1:o=31
   ·have hj:=Ys (a:=a) (b:=b) (w:=w) (x:=x) (Or.inl c1)
    rw [hj] at hE' hA'
    have ha:=hA' a Z
    rw [if_pos (p2.2 (by omega)),q0,if_neg (by show¬((1:Nat):Int)=0;decide),if_neg (by show¬((1:Nat):Int)=2;decide)]
    refine k15 _ false (λh=>by cases h) (λway hw=> ?_)
    rcases hw with rfl|⟨_,h⟩
    ·exact k11 _ 0 (by omega) ⟨by decide,by show(0:Int)<((1:Nat):Int);decide⟩ ha.1 ha.2 hE'.1
    ·cases h
   rw [if_neg (λh=>c1 (by have:=p2.1 h;omega))]
   by_cases c2:o=32
   ·have hj:=Ys (a:=a) (b:=b) (w:=w) (x:=x) (Or.inr c2)
    rw [hj] at hE' hA'
    have ha:=hA' a Z
    rw [if_pos (p3.2 (by omega)),Af _ hRi,q0,if_neg (by show¬((2:Nat):Int)=0;decide),if_pos (by show((2:Nat):Int)=2;decide)]
    refine k15 _ _ (λh=>zd h) (λway hw=> ?_)
    rcases hw with rfl|⟨rfl,_⟩
    ·exact k11 _ 0 (by omega) ⟨by decide,by show(0:Int)<((2:Nat):Int);decide⟩ (Int.le_refl _) (by show(i:Int)+1<=_;omega) (hE'.2 (by omega))
    ·exact k11 _ 1 (by omega) ⟨by decide,by show(1:Int)<((2:Nat):Int);decide⟩ ha.1 ha.2 hE'.1
   rw [if_neg (λh=>c2 (by have:=p3.1 h;omega))]
   by_cases c3:o=33
   ·subst c3
    have ha:=hA' b Z
    have hr9:=ZI h9'
    have hra:=wt 33 (by decide)
    have ha64:0<=a/\a<64:=by
     have e:HZ 33=tab9[33]!:=Z
     rw [e,hra.1,hra.2] at hr9;omega
    rw [if_pos (p4.2 Z),Af _ hRi,q0,if_neg (by show¬((2:Nat):Int)=0;decide),if_pos (by show((2:Nat):Int)=2;decide)]
    refine k15 _ _ (λh=>zd h) (λway _=> ?_)
    rw [Bw,q3,ex,if_pos (p4.2 Z),Af _ ha64]
    by_cases hg:s.getLsbD a.toNat=true
    ·rw [if_pos hg]
     have hts:Sub t s:=by
      have h:BD N m (Hq 33 a b w x) s=some (s|||onlyB a,0):=by
       show(BF N s a).bind _=_
       rw [SV];rfl
      have:=congrArg Prod.fst (q1 (h.symm.trans d2))
      have this:s|||onlyB a=t:=this
      rw [<-this]
      intro j hj
      by_cases h64:j<64
      ·rw [TU s a j h64,Bool.or_eq_true] at hj
       rcases hj with hj|hj
       ·exact hj
       ·have:=zd hj
        rwa [show j=a.toNat by omega]
      ·rw [BitVec.getLsbD_of_ge _ _ (by omega)] at hj;cases hj
     exact k14 _ 0 _ ((i:Int)+1) ⟨by decide,by show(0:Int)<((2:Nat):Int);decide⟩ Z (go1 _ _ (Int.le_refl _) (by omega) (hE'.2.le (hsub.trans hts)))
    ·rw [if_neg hg]
     have hpu:=hE'.1 _ (Se N (v[i]!).2 a)
     refine k14 _ 1 _ b ⟨by decide,by show(1:Int)<((2:Nat):Int);decide⟩ Z (go1 _ _ ha.1 ha.2 (hpu.le (λj hj=> ?_)))
     rw [BitVec.getLsbD_and,Bool.and_eq_true] at hj
     have:=hp.2;rw [q3] at this
     exact this j hj.1
   rw [if_neg (λh=>c3 (by have:=p4.1 h;omega)),Af _ hRi,q0,if_neg (by show¬((1:Nat):Int)=0;decide),if_neg (by show¬((1:Nat):Int)=2;decide)]
   refine k15 _ false (λh=>by cases h) (λway hw=> ?_)
   rcases hw with rfl|⟨_,h⟩
   ·exact k11 _ 0 c3 ⟨by decide,by show(0:Int)<((1:Nat):Int);decide⟩ (Int.le_refl _) (by show(i:Int)+1<=_;omega) (rN (by omega) hE')
   ·cases h
  have k8: ∀b52:Bool,(b52=true->o=1\/o=22)->Ct N m l ways (i:Int) (turns:Int) s R tab9 b52=some true:=λb52 g=>by
   rw [Ct]
   cases b52 with
   |false=>rw [if_neg (by decide)];exact k9
   |true=>
    have hs:Hq o a b w x= .t164 o a b:=by unfold Hq;rw [if_neg (by have:=g Z;omega),if_pos (g Z)]
    have hh:(decide (0<=a/\a<64)&&s.getLsbD a.toNat)=true:=by
     have h:=d2
     rw [hs] at h
     have h:(Ce N s a).bind _=_:=h
     rw [fw,q0] at h
     cases e:(decide (0<=a/\a<64)&&s.getLsbD a.toNat)with
     |true=>rfl
     |false=>rw [e] at h;exact absurd (congrArg Prod.snd (q1 h)) (show¬(11:Int)=0 by decide)
    rw [Bool.and_eq_true] at hh
    have ha:=zd hh.1
    rw [if_pos Z,q3,ex,Af _ ha,hh.2]
    exact k9
  by_cases f1:(tab9[o.toNat]!).1=[102,105,101,108,100]
  ·rw [if_pos f1];exact k8 true (λ_=> .inl (by have:=n1.1 f1;omega))
  ·rw [if_neg f1];exact k8 _ (λh=> .inr (by have:=n2.1 (beq_iff_eq.1 h);omega))
end
theorem iT{m:Ao}{N:Nat}(h:Db N m=some true):m.2.2.1.length<=150:=by
 unfold Db at h
 obtain⟨_,h⟩:=Iz h
 obtain⟨_,h⟩:=Iz h
 obtain⟨_,h⟩:=Iz h
 obtain⟨_,h⟩:=Iz h
 obtain⟨_,h⟩:=Iz h
 obtain⟨_,h⟩:=Iz h
 split at h
 ·cases h
 ·omega
theorem Ww{m:Ao}(hL:Lit m)(hR:Rg m)(l:List I9)(hl:l.length<=1048576)(hr:CoR l)(n0 n1 n2:List Int):FX 20000001 m l n0 n1 n2=some true:=by
 have hN:20000000<20000001:=by decide
 have k3t:BQ 20000001 m l n0 n1 n2 true=some true:=by
  rw [BQ,if_pos Z,ZK];rfl
 obtain⟨q,e⟩:=qu hN hL hR
 rw [FX,e,q0]
 have k2t:BR 20000001 m l n0 n1 n2 true=some true:=by
  rw [BR,if_pos Z];exact k3t
 have k1t:BS 20000001 m l n0 n1 n2 true=some true:=by
  rw [BS,if_pos Z];exact k2t
 cases q with
 |false=>rw [if_neg (by decide)];exact k1t
 |true=>
  have hi:=iT e
  rw [if_pos Z]
  have sw: ∀b,b=true\/b=false:=λb=>by cases b<;>simp
  rcases sw (decide (((l.length:Int):Int)>100))with hb|hb
  ·rw [hb];exact k1t
  rw [hb,BS,if_neg (by decide)]
  rcases sw (decide (((n0.length:Int):Int)>70))with h0|h0
  ·rw [h0];exact k2t
  rw [h0,BR,if_neg (by decide)]
  rcases sw (decide (((n1.length:Int):Int)>70))with h1|h1
  ·rw [h1];exact k3t
  have g0:=of_decide_eq_false h0
  have g1:=of_decide_eq_false h1
  obtain⟨s,es⟩:=ub (N:=20000001) n0 (by omega) (by decide)
  obtain⟨u,eu⟩:=ub (N:=20000001) n1 (by omega) (by decide)
  obtain⟨r,er,hr2⟩:=coe hN hL hR l hl hr s
  rw [h1,BQ,if_neg (by decide),es,q0,eu,q0,er,q0]
  by_cases c:r.2.2=0
  ·obtain⟨v,H,ev⟩:=hr2 c
   rw [if_neg (λq=>q c),vE (by decide),q0]
   have hn:=H.n
   exact vj hN hi ZK H n2 r ev l.length 20000001 0 0 _ (by decide) (by omega) (by omega) (by omega) (by omega) (H.p0.le (Sub.orl _ _))
  ·rw [if_pos c,ZK];rfl
end Go.Proofs.YtjlomkippigejaaGreatDoor
namespace Go.Eng
open Go Go.RowKit Go.ChangeShapes Go.WideShapes Go.ChangeAt Go.Joins Go.Deep Go.Proofs.YtjlomkippigejaaGreatDoor
section
variable {H:Type} {enc:TypeId×Value->H} {P:Program} {W:World} {base:Nat} {held:Bool} {r:Reach} {b0:Nat} {t e:TypeId} {v:Value} {d:DataW H} {p:List MemPlace}
theorem pK(d:DataW H):1<=Rows.uptoBulk d:=by
 cases d with
 |lit l=>cases l<;>simp [Rows.uptoBulk]
 |nil=>simp [Rows.uptoBulk]
 |ptr d=>simp [Rows.uptoBulk]
 |slice elems spare=>simp [Rows.uptoBulk]
 |agg parts=>simp [Rows.uptoBulk]
 |iface t d=>simp [Rows.uptoBulk]
 |map entries=>simp [Rows.uptoBulk]
 |held h=>simp [Rows.uptoBulk]
theorem Ti{l:List (DataW H)}(h:d∈l):Rows.uptoBulk d<=Rows.uptoBulkAll l:=by
 induction l with
 |nil=>cases h
 |cons x r ih=>
  simp only [Rows.uptoBulkAll]
  rcases List.mem_cons.1 h with e|e
  ·subst e;omega
  ·have:=ih e;omega
theorem ec: ∀l:List (DataW H),l.length<=Rows.uptoBulkAll l
 | []=>Nat.zero_le _
 |x::l=>by have:=ec l;have:=pK x;simp only [Rows.uptoBulkAll,za];omega
theorem pL(l r:List (DataW H)):Rows.uptoBulkAll (l++r)=Rows.uptoBulkAll l+Rows.uptoBulkAll r:=by
 induction l with
 |nil=>simp [Rows.uptoBulkAll]
 |cons x l ih=>simp only [List.cons_append,Rows.uptoBulkAll,ih];omega
def SdU(d:DataW H):Prop:=Rows.uptoBulk d<=1048576
theorem Zq{ds gs:List (DataW H)}(h:Rows.uptoBulkAll (ds++gs)<=1048576){j:Nat}(hd:ds[j]? =some d):SdU d:=by
 have h1:=Ti (List.mem_of_getElem? hd)
 rw [pL] at h
 unfold SdU;omega
theorem qo{b:W2}(h:SdU (.lit (.string b):DataW H)):b.length<=1048576:=by
 unfold SdU at h;rw [Rows.uptoBulk] at h;omega
theorem UO{parts:List (DataW H)}(h:SdU (.agg parts))(hm:d∈parts):SdU d:=by
 have h1:=Ti hm
 unfold SdU at h ⊢;rw [Rows.uptoBulk] at h;omega
theorem fzU{enc:TypeId×Value->H}{W:World}{fs:Array Field}{f:Field}{R:Prop}{n:Nat}{cs:List Value}{xs:List (DataW H×List MemPlace)}(hz:SdU (.agg (xs.map (·.1))))(hlen:xs.length=fs.size)
  (hf: ∀(i:Nat) (f:Field),fs[i]? =some f->DataW.trod enc P W 0 (λ_=>true) true n f.type ((cs.drop f.offset).take (P.cellsOf f.type))=xs[i]?) (i:Nat) (cs':List Value) {m:Nat} (hi:fs[i]? =some f) (hc:P.cellsOf f.type=m) (hcs:(cs.drop f.offset).take m=cs')
  (O: ∀{y:DataW H×List MemPlace},DataW.trod enc P W 0 (λ_=>true) true n f.type cs'=some y->SdU y.1->R):R:=by
 have h1:i<xs.length:=by rw [hlen];exact(Array.getElem?_eq_some_iff.1 hi).1
 have h2:=hf i f hi
 rw [hc,hcs,zo h1] at h2
 exact O h2 (UO hz (List.mem_map.2 ⟨_,List.getElem_mem h1,Z⟩))
theorem RE{α:Type}[Inhabited α]{sz:Nat}(hsz:0<sz)(R:α->List Value->Prop)(ht:P.underlying t=some (.slice e))(hc:P.cellsOf e=sz)
  (hO: ∀n cs y,DataW.trod enc P W base (λ_=>true) held n e cs=some y->SdU y.1-> ∃x,R x cs) {fuel:Nat} {cs:List Value} {x:DataW H×List MemPlace} (h:DataW.trod enc P W base (λ_=>true) held fuel t cs=some x) (hz:SdU x.1):
  ∃(s:Value) (xs:List α),cs=[s]/\xs.length<=1048576/\((s= .slice none 0 0/\xs=[])\/ ∃a cap,s= .slice (some a) xs.length cap/\(0<cap->a.spot=none)/\xs.length<=cap/\
   ∀i y,xs[i]? =some y-> ∃vs,R y vs/\vs.length=sz/\ ∀j u,vs[j]? =some u->W.cell? ⟨a.block,a.off+(i*sz+j),none⟩=some u):=by
 rcases open_slice ht h with⟨rfl,_⟩|⟨a,len,cap,m,n,D,Pl,rfl,hb,hl,hm,hmm,hxx,hx⟩
 ·exact⟨_,[],Z,Nat.zero_le _, .inl ⟨Z,Z⟩⟩
 ·have hmm':m=cap:=by simpa using hmm
  subst hmm'
  have hlm:len<=m:=by simpa using hl
  have hzz:Rows.uptoBulkAll ((List.range len).map D)+Rows.uptoBulkAll ((List.range (m - len)).map λj=>D (len+j))+1<=1048576:=by
   have h0:=hz
   unfold SdU at h0
   rw [hxx,Rows.uptoBulk] at h0
   exact h0
  have hel: ∀i,i<m->SdU (D i):=λi hi=>by
   unfold SdU
   by_cases h1:i<len
   ·have:=Ti (List.mem_map.2 ⟨i,List.mem_range.2 h1,Z⟩:D i∈(List.range len).map D)
    omega
   ·have:=Ti (List.mem_map.2 ⟨i - len,List.mem_range.2 (by omega),by rw [Nat.add_sub_cancel' (by omega)]⟩:D i∈(List.range (m - len)).map λj=>D (len+j))
    omega
  have hsp:0<m->a.spot=none:=λh0=>by
   obtain⟨cs',h1,_⟩:=hx 0 h0
   obtain⟨_,h2,h3⟩:=World.cells?_some h1
   rw [hc] at h2 h3
   have:=h3 0 hsz
   rw [Nat.zero_mul] at this
   have e1:(a.add 0).add 0=a:=by simp [Addr.add]
   rw [e1,zo (by omega)] at this
   exact jE this
  obtain⟨F,hF⟩:=choose_lt (α:=α) (n:=m) (p:=λi y=> ∃vs,R y vs/\vs.length=sz/\ ∀j u,vs[j]? =some u->W.cell? ⟨a.block,a.off+(i*sz+j),none⟩=some u) (λi hi=>by
   obtain⟨cs',h1,h2⟩:=hx i hi
   obtain⟨y,hy⟩:=hO n cs' _ h2 (hel i hi)
   obtain⟨_,h4,h3⟩:=World.cells?_some h1
   rw [hc] at h3 h4
   refine⟨y,cs',hy,h4,λj u hj=> ?_⟩
   have hj':j<sz:=by rw [<-h4];exact(List.getElem?_eq_some_iff.1 hj).1
   have h5:=h3 j hj'
   rw [add_add,GR (hsp (by omega)),hj] at h5
   exact h5)
  refine⟨_,(List.range len).map F,Z, ?_, .inr ⟨a,m,by simp,hsp,by simpa using hl,λi y hy=> ?_⟩⟩
  ·rw [q8,List.length_range]
   have:=ec ((List.range len).map D)
   rw [q8,List.length_range] at this
   omega
  have hi:i<len:=by
   have:=(List.getElem?_eq_some_iff.1 hy).1
   simpa using this
  have:y=F i:=by
   simp [hi] at hy
   exact hy.symm
  subst this
  exact hF i (by omega)
theorem Gz{α:Type}[Inhabited α](E:Enc α)(q:α->Prop)(ht:P.underlying t=some (.slice e))(hc:P.cellsOf e=E.sz) 
  (hO: ∀n cs y,DataW.trod enc P W base (λ_=>true) held n e cs=some y->SdU y.1-> ∃x,q x/\cs=E.f x) {fuel:Nat} {cs:List Value} {x:DataW H×List MemPlace} (h:DataW.trod enc P W base (λ_=>true) held fuel t cs=some x) (hz:SdU x.1):
  ∃(s:Value) (xs:List α),cs=[s]/\(xs.length<=1048576/\ ∀x∈xs,q x)/\Rd E (λa=>W.cell? a) s xs:=by
 obtain⟨s,xs,h1,hl,h2⟩:=RE (sz:=E.sz) E.pos (λx cs=>q x/\cs=E.f x) ht hc hO h hz
 refine⟨s,xs,h1,⟨hl, ?_⟩, ?_⟩
 ·rcases h2 with h2|⟨a,cap,h2,h3,h4,h5⟩
  ·rw [h2.2];intro x hx;cases hx
  ·intro x hx
   obtain⟨i,hi⟩:=List.getElem?_of_mem hx
   obtain⟨_,h6,_⟩:=h5 i x hi
   exact h6.1
 rcases h2 with h2|⟨a,cap,h2,h3,h4,h5⟩
 ·exact .inl h2
 ·refine .inr ⟨a,cap,h2,h3,h4,λk u hk=> ?_⟩
  have hk2:k<xs.length*E.sz:=by rw [<-E.all_len];exact(List.getElem?_eq_some_iff.1 hk).1
  have hi:k / E.sz<xs.length:=Nat.div_lt_of_lt_mul (by rw [Nat.mul_comm];exact hk2)
  obtain⟨vs,⟨_,h6⟩,_,h7⟩:=h5 (k / E.sz) _ (zo hi)
  subst h6
  have hj:k%E.sz<(E.f xs[k / E.sz]).length:=by rw [E.len];exact Nat.mod_lt _ E.pos
  have h8:=E.all_get (zo hi) (k%E.sz) _ (zo hj)
  have e1:k / E.sz*E.sz+k%E.sz=k:=by rw [Nat.mul_comm];exact Nat.div_add_mod k E.sz
  have h9:=h7 (k%E.sz) _ (zo hj)
  rw [e1] at h8 h9
  rw [h8] at hk
  cases hk
  exact h9
theorem LJ{α:Type}[Inhabited α](E:Sn α)(q:α->Prop)(ht:P.underlying t=some (.slice e))(hc:P.cellsOf e=E.sz) 
  (hO: ∀n cs y,DataW.trod enc P W base (λ_=>true) held n e cs=some y->SdU y.1-> ∃x,q x/\E.R (λa=>W.cell? a) x cs) {fuel:Nat} {cs:List Value} {x:DataW H×List MemPlace} (h:DataW.trod enc P W base (λ_=>true) held fuel t cs=some x) (hz:SdU x.1):
  ∃(s:Value) (xs:List α),cs=[s]/\(xs.length<=1048576/\ ∀x∈xs,q x)/\RdN E (λa=>W.cell? a) s xs:=by
 obtain⟨s,xs,h1,hl,h2⟩:=RE (sz:=E.sz) E.pos (λx cs=>q x/\E.R (λa=>W.cell? a) x cs) ht hc hO h hz
 refine⟨s,xs,h1,⟨hl, ?_⟩, ?_⟩
 ·rcases h2 with h2|⟨a,cap,h2,h3,h4,h5⟩
  ·rw [h2.2];intro x hx;cases hx
  ·intro x hx
   obtain⟨i,hi⟩:=List.getElem?_of_mem hx
   obtain⟨_,h6,_⟩:=h5 i x hi
   exact h6.1
 rcases h2 with h2|⟨a,cap,h2,h3,h4,h5⟩
 ·exact .inl h2
 ·exact .inr ⟨a,cap,h2,h3,h4,λi y hy=>by obtain⟨vs,h6,_,h7⟩:=h5 i y hy;exact⟨vs,h6.2,h7⟩⟩
theorem fN{Q:Value->Prop}(ht:P.underlying t=some (.slice e))(hv:Value.okWide P W r b0 t v)(h:DataW.Trod enc P W base (λ_=>true) held t v d p)(hz:SdU d)
  (hq: ∀fuel cs y,DataW.trod enc P W base (λ_=>true) held fuel t cs=some y->SdU y.1-> ∃s,cs=[s]/\Q s):Q v:=by
 obtain⟨a,len,cap,rfl⟩:=okWide_slice ht hv
 obtain⟨fuel,hf⟩:=h
 obtain⟨s,h1,h2⟩:=hq fuel _ _ hf hz
 simp [Value.cells] at h1
 rw [h1];exact h2
theorem ef{fs:Array Field}{Q:List Value->Prop}(ht:P.underlying t=some (.struct fs))(hv:Value.okWide P W r b0 t v)(h:DataW.Trod enc P W base (λ_=>true) held t v d p)(hz:SdU d)
  (hq: ∀fuel cs y,DataW.trod enc P W base (λ_=>true) held fuel t cs=some y->SdU y.1->Q cs): ∃cs:List Value,v= .agg ⟨cs⟩/\Q cs:=by
 have hv':=hv
 simp only [Value.okWide,ht] at hv'
 obtain⟨cs,rfl,_,_⟩:=hv'
 obtain⟨fuel,hf⟩:=h
 exact⟨cs.toList,Z,hq fuel _ _ hf hz⟩
theorem fO{n:Nat}{Q:List Value->Prop}(ht:P.underlying t=some (.array n e))(hv:Value.okWide P W r b0 t v)(h:DataW.Trod enc P W base (λ_=>true) held t v d p)(hz:SdU d)
  (hq: ∀fuel cs y,DataW.trod enc P W base (λ_=>true) held fuel t cs=some y->SdU y.1->Q cs): ∃cs:List Value,v= .agg ⟨cs⟩/\Q cs:=by
 have hv':=hv
 simp only [Value.okWide,ht] at hv'
 obtain⟨cs,rfl,_,_⟩:=hv'
 obtain⟨fuel,hf⟩:=h
 exact⟨cs.toList,Z,hq fuel _ _ hf hz⟩
end
end Go.Eng
