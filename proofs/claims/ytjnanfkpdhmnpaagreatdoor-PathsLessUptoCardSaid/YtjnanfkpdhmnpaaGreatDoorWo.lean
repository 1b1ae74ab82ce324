import Derived.Test.YtjnanfkpdhmnpaaGreatDoorRw
set_option linter.unusedSimpArgs false
set_option linter.unusedVariables false
namespace Go.Proofs.YtjnanfkpdhmnpaaGreatDoor
open Go Go.RowKit Go.Eng
def Sub(a b:W4):Prop:= ∀i,a.getLsbD i=true->b.getLsbD i=true
theorem Sub.same(a:W4):Sub a a:=λ_ h=>h
theorem Sub.trans{a b c:W4}(h:Sub a b)(g:Sub b c):Sub a c:=λi q=>g i (h i q)
theorem Sub.or{a b:W4}(c:W4)(h:Sub a b):Sub (a|||c) (b|||c):=λi q=>by
 rw [BitVec.getLsbD_or,Bool.or_eq_true] at q ⊢;exact q.imp (h i) id
theorem Sub.orl(a b:W4):Sub a (a|||b):=λi q=>by
 rw [BitVec.getLsbD_or,q];rfl
theorem Sub.and{a b c d:W4}(h:Sub a b)(g:Sub c d):Sub (a&&&c) (b&&&d):=λi q=>by
 rw [BitVec.getLsbD_and,Bool.and_eq_true] at q ⊢;exact⟨h i q.1,g i q.2⟩
theorem Sub.within{a b:W4}(h:Sub a b):((a&&&b)==a)=true:=by
 rw [beq_iff_eq];refine BitVec.eq_of_getLsbD_eq λi hi=> ?_
 rw [BitVec.getLsbD_and]
 cases e:a.getLsbD i with
 |true=>rw [h i e];rfl
 |false=>rfl
theorem Sub.ne{a b c:W4}(h:Sub a b)(q:((a&&&c) !=0#64)=true):((b&&&c) !=0#64)=true:=by
 rw [bne_iff_ne] at q ⊢
 intro e;apply q;refine BitVec.eq_of_getLsbD_eq λi hi=> ?_
 rw [BitVec.getLsbD_zero]
 cases d:(a&&&c).getLsbD i with
 |false=>rfl
 |true=>have:=(Sub.and h (Sub.same c)) i d;rw [e,BitVec.getLsbD_zero] at this;exact absurd this (by decide)
theorem ak(N:Nat)(k:Int): ∃o,KG N k=some o:=by
 unfold KG
 have h1: ∀b,¬k<0\/b=true-> ∃o,Lh k b=some o:=λb h=>by
  unfold Lh
  cases b with
  |true=>exact⟨_,V8 Z⟩
  |false=>rw [V9 (by decide),Af _ (by rcases h with h|h;omega;cases h)];exact⟨_,Z⟩
 by_cases c:k<0
 ·rw [V8 c];exact h1 _ (.inr Z)
 ·rw [V9 c];exact h1 _ (.inl c)
def Pr(x y:Y1 (W4)):Prop:= ∃r r',x=some r/\y=some r'/\Sub r r'
theorem ZJ(N:Nat)(k:Int){s s':W4}(h:Sub s s'):Pr (Cq N s k) (Cq N s' k):=by
 obtain⟨o,e⟩:=ak N k
 exact⟨_,_,by rw [Cq,e];rfl,by rw [Cq,e];rfl,h.or o⟩
theorem rv(N:Nat)(k:Int){s s':W4}(h:Sub s s'):Pr (some s) (Cq N s' k):=by
 obtain⟨o,e⟩:=ak N k
 exact⟨_,_,Z,by rw [Cq,e];rfl,h.trans (Sub.orl _ _)⟩
theorem RG(N:Nat)(k:Int){s s':W4}(h:Sub s s'):Pr (BA N s k) (BA N s' k):=by
 obtain⟨o,e⟩:=ak N k
 exact⟨_,_,by rw [BA,e];rfl,by rw [BA,e];rfl,h.and (Sub.same _)⟩
theorem nb(N:Nat)(k:Int){s s':W4}(h:Sub s s'): ∃b b',EQ N s k=some b/\EQ N s' k=some b'/\(b=true->b'=true):=by
 obtain⟨o,e⟩:=ak N k
 exact⟨_,_,by rw [EQ,e];rfl,by rw [EQ,e];rfl,λq=>h.ne q⟩
section
variable {N:Nat} {m:Ao}
theorem wz(n:Int){s s':W4}(hs:Sub s s')(r4:Int×Int×Y3)(h0:0<=r4.1)(h1:r4.1<=1000000)(h2:r4.2.1<=4): ∀(k f:Nat) (i:Int) (a a':W4),Sub a a'->0<=i->i<=4->r4.2.1 - i<=(k:Int)->k<f->
  Pr (Br N n s r4 f a i) (Br N n s' r4 f a' i):=by
 intro k
 induction k with
 |zero=>
  intro f i a a' ha hi hi4 hk hf
  obtain⟨f,rfl⟩: ∃n,f=n+1:=⟨f - 1,by omega⟩
  rw [Br,Br,V9 (by omega),V9 (by omega)]
  exact⟨_,_,Z,Z,ha⟩
 |succ k ih=>
  intro f i a a' ha hi hi4 hk hf
  obtain⟨f,rfl⟩: ∃n,f=n+1:=⟨f - 1,by omega⟩
  by_cases c:i<r4.2.1
  ·obtain⟨w,w',e1,e2,hw⟩:=RG N (r4.1+i) ha
   have go: ∀b b',Sub b b'->Pr (Br N n s r4 f b (i+1)) (Br N n s' r4 f b' (i+1)):=λb b' hb=>ih f (i+1) b b' hb (by omega) (by omega) (by omega) (by omega)
   have k5: ∀b b':Y3,(b=true->b'=true)->Pr (HQ N r4 i (Br N n s r4 f) w b) (HQ N r4 i (Br N n s' r4 f) w' b'):=λb b' hb=>by
    unfold HQ
    cases b' with
    |false=>
     have:b=false:=by cases b with|false=>rfl|true=>exact absurd (hb Z) (by decide)
     subst this
     rw [V9 (by decide),V9 (by decide),Af _ (by omega),Af _ (by omega)];exact go _ _ hw
    |true=>
     rw [V8 Z,Af (Cq N w' (r4.1+i)|>.bind _) (by omega)]
     cases b with
     |false=>
      obtain⟨u,u',f1,f2,hu⟩:=rv N (r4.1+i) hw
      cases f1
      rw [V9 (by decide),Af _ (by omega),f2,q0,Af _ (by omega)];exact go _ _ hu
     |true=>
      obtain⟨u,u',f1,f2,hu⟩:=ZJ N (r4.1+i) hw
      rw [V8 Z,Af _ (by omega),f1,f2,q0,q0,Af _ (by omega),Af _ (by omega)];exact go _ _ hu
   have k4: ∀b:Y3,Pr (HR N n s r4 i (Br N n s r4 f) w b) (HR N n s' r4 i (Br N n s' r4 f) w' b):=λb=>by
    unfold HR
    cases b with
    |false=>rw [V9 (by decide),V9 (by decide)];exact k5 _ _ id
    |true=>
     obtain⟨b,b',f1,f2,hb⟩:=nb N (r4.1+(i - max (-4) (min n 4))) hs
     rw [V8 Z,V8 Z,Af _ (by omega),Af _ (by omega),f1,f2,q0,q0];exact k5 _ _ hb
   rw [Br,Br,V8 c,V8 c,Af _ (by omega),Af _ (by omega),e1,e2,q0,q0,Af _ (by omega),Af _ (by omega)]
   by_cases d:i - max (-4) (min n 4)>=0
   ·rw [V8 d,V8 d];exact k4 _
   ·rw [V9 d,V9 d];exact k4 _
  ·rw [Br,Br,V9 c,V9 c]
   exact⟨_,_,Z,Z,ha⟩
theorem fp(h:Ctx N m)(i:Int): ∃r,GL N m i=some r/\0<=r.1/\r.1<=1000000/\r.2.1<=4:=by
 have hil:=h.il
 rw [GL,cr N (by have:=h.hN;omega) m.2.2.1 i h.ft.2.1,q0]
 unfold bf
 by_cases c:0<=i/\i<(m.2.2.1.length:Int)/\dep (m.2.2.1[i.toNat]!).2.2≠0
 ·rw [V8 c,V8 Z,ckp (by omega)]
  split
  ·exact⟨_,Z,by decide,by decide,by decide⟩
  ·rw [JQ,ckp (by omega)]
   have h1:=VC (m.2.2.1.take i.toNat)
   rw [q8] at h1
   refine⟨_,Z,by show(0:Int)<=(total _:Int);omega,by show(total _:Int)<=_;omega, ?_⟩
   have h2:=c.2.2
   unfold dep at h2
   by_cases d:0<=(m.2.2.1[i.toNat]!).2.2/\(m.2.2.1[i.toNat]!).2.2<=4
   ·exact d.2
   ·rw [V9 d] at h2;exact absurd Z h2
 ·rw [V9 c,V9 (by decide)];exact⟨_,Z,by decide,by decide,by decide⟩
theorem wy(h:Ctx N m)(i n:Int){s s':W4}(hs:Sub s s'):Pr (HE N m i n s) (HE N m i n s'):=by
 obtain⟨r,e,h0,h1,h2⟩:=fp h i
 have hN:=h.hN
 rw [HE,HE,e,q0,q0]
 by_cases c:r.2.2=true
 ·rw [V8 c,V8 c];exact wz n hs r h0 h1 h2 4 N 0 s s' hs (by omega) (by omega) (by omega) (by omega)
 ·rw [V9 c,V9 c];exact⟨_,_,Z,Z,hs⟩
def fb:Aa1->Prop
 | .t356 _ _ n=> -1000<=n/\n<=1000
 |_=>True
def PrE(x y:Y1 (W4×Int)):Prop:= ∃r r',x=some r/\y=some r'/\(r.2=0->r'.2=0/\Sub r.1 r'.1)
theorem PrE.of{x y:Y1 (W4)}(h:Pr x y):PrE (x.bind λr=>some (r,0)) (y.bind λr=>some (r,0)):=by
 obtain⟨r,r',e1,e2,hs⟩:=h
 rw [e1,e2];exact⟨_,_,Z,Z,λ_=>⟨Z,hs⟩⟩
theorem yy(h:Ctx N m)(x:Aa1)(hx:fb x){s s':W4}(hs:Sub s s'):PrE (Hp N m x s) (Hp N m x s'):=by
 have same:PrE (some (s,0)) (some (s',0)):=⟨_,_,Z,Z,λ_=>⟨Z,hs⟩⟩
 unfold Hp
 cases x with
 |nil=>exact same
 |t322 _ _=>exact same
 |t324 a _=>exact PrE.of (ZJ N a hs)
 |t326=>exact same
 |t351 _ a _=>
  obtain⟨b,b',e1,e2,hb⟩:=nb N a hs
  show PrE ((EQ N s a).bind _) ((EQ N s' a).bind _)
  rw [e1,e2,q0,q0]
  cases b with
  |true=>rw [hb Z];exact same
  |false=>rw [V9 (by decide)];cases b'<;>exact⟨_,_,Z,Z,λq=>absurd q (by decide)⟩
 |t353 o a=>
  refine PrE.of ?_
  unfold Nc
  by_cases c:o=25
  ·rw [V8 c,V8 c];obtain⟨r,r',e1,e2,hh⟩:=ZJ N a hs;rw [e1,e2];exact⟨_,_,Z,Z,hh⟩
  rw [V9 c,V9 c]
  by_cases c:o=26
  ·rw [V8 c,V8 c];obtain⟨r,r',e1,e2,hh⟩:=RG N a hs;rw [e1,e2];exact⟨_,_,Z,Z,hh⟩
  rw [V9 c,V9 c];exact⟨_,_,Z,Z,hs⟩
 |t356 o a n=>
  have hn: -1000<=n/\n<=1000:=hx
  have hf: ∃k,KH N o a n=some k:=by
   unfold KH
   by_cases c:o=28
   ·rw [V8 c,Af _ (by omega)];exact⟨_,Z⟩
   ·rw [V9 c];exact⟨_,Z⟩
  obtain⟨k,e⟩:=hf
  show PrE ((KH N o a n).bind _) ((KH N o a n).bind _)
  rw [e,q0,q0]
  exact PrE.of (wy h a k hs)
 |t374 _ _=>exact same
 |t375 _ _=>exact same
 |t376 _ _=>exact same
 |t378 _ _=>exact same
 |t380 _=>exact same
end
end Go.Proofs.YtjnanfkpdhmnpaaGreatDoor
set_option linter.unusedSimpArgs false
set_option linter.unusedVariables false
namespace Go.Proofs.YtjnanfkpdhmnpaaGreatDoor
open Go Go.RowKit Go.Eng
section
variable {N:Nat} {m:Ao}
def Le(w a:Y0 (Y3×W4)):Prop:=w.length=a.length/\ ∀j:Nat,(w[j]!).1=(a[j]!).1/\Sub (w[j]!).2 (a[j]!).2
theorem Le.same(w:Y0 (Y3×W4)):Le w w:=⟨Z,λj=>⟨Z,Sub.same _⟩⟩
theorem gT(w:Y0 (Y3×W4))(k j:Nat)(hk:k<w.length)(v:Y3×W4):(w.set k v)[j]! =if j=k then v else w[j]!:=by
 by_cases c:j=k
 ·subst c;rw [V8 Z,zm _ j (by rw [zr];exact hk)];simp
 ·rw [V9 c]
  by_cases d:j<w.length
  ·rw [zm _ j (by rw [zr];exact d),zm _ j d,List.getElem_set_ne (λe=>c e.symm)]
  ·rw [getElem!_neg _ j (by rw [zr];exact d),getElem!_neg _ j d]
theorem Le.set{w w':Y0 (Y3×W4)}(h:Le w w')(k:Nat)(hk:k<w.length){s s':W4}(hs:Sub s s'):Le (w.set k (true,s)) (w'.set k (true,s')):=
 ⟨by rw [zr,zr];exact h.1,λj=>by
  rw [gT w k j hk,gT w' k j (by rw [<-h.1];exact hk)]
  split
  ·exact⟨Z,hs⟩
  ·exact h.2 j⟩
theorem Vg{w w':Y0 (Y3×W4)}(h:Le w w'){s s':W4}(hs:Sub s s')(a:Int)(h0:0<=a/\a<(w.length:Int)):
  ∃r r',AT N m w a s=some r/\AT N m w' a s'=some r'/\Le r r'/\r.length=w.length/\r'.length=w.length:=by
 have h0':0<=a/\a<(w'.length:Int):=by rw [<-h.1];exact h0
 have hk:a.toNat<w.length:=by omega
 obtain⟨e1,e2⟩:=h.2 a.toNat
 rw [AT,AT,Af _ h0,Af _ h0',<-e1]
 by_cases c:(w[a.toNat]!).1=true
 ·rw [V8 c,V8 c,Af _ h0,Af _ h0',Cr,Cr,q0,q0,CA,CA,Af _ h0,Af _ h0']
  exact⟨_,_,Z,Z,h.set _ hk (hs.and e2),zr ..,by rw [zr];exact h.1.symm⟩
 ·rw [V9 c,V9 c,CA,CA,Af _ h0,Af _ h0']
  exact⟨_,_,Z,Z,h.set _ hk hs,zr ..,by rw [zr];exact h.1.symm⟩
def PrP(n:Nat)(x y:Y1 (Int×Y0 (Y3×W4))):Prop:= ∃r r',x=some r/\y=some r'/\r.2.length=n/\r'.2.length=n/\(r.1=0->r'.1=0/\Le r.2 r'.2)
theorem sP{w w':Y0 (Y3×W4)}(h:Le w w'){b b':W4×Int}(hs:Sub b.1 b'.1)(a:Int)(h0:0<=a/\a<(w.length:Int)):PrP w.length (Aq N m b a w) (Aq N m b' a w'):=by
 obtain⟨r,r',e1,e2,hl,l1,l2⟩:=Vg (N:=N) (m:=m) h hs a h0
 rw [Aq,Aq,e1,e2,q0,q0,Af _ l1,Af _ (by rw [l2];exact h.1)]
 exact⟨_,_,Z,Z,l1,l2,λ_=>⟨Z,hl⟩⟩
def ZI(x:Aa1)(n i:Nat):Prop:= ∀t,OD x=(t,true)->(i:Int)+1<=t/\t<=(n:Int)
def Sw(N:Nat)(m:Ao)(w:Y0 (Y3×W4))(i:Nat)(x:Aa1)(a:W4×Int):Y1 (Int×Y0 (Y3×W4)):=
 if(a.2:Int)≠0 then some (a.2,w)else ck (R64 ((i:Int)+1)) (Aa1.on x (Aq N m a ((i:Int)+1) w) (λc e=>(AT N m w e a.1).bind λb=>ck ((b).length=(w).length) (if c=31 then some (0,b)else Aq N m a ((i:Int)+1) b)) (λf d=>(BA N ((w[(i:Int).toNat]!).2) f).bind λb=>(AT N m w d b).bind λg=>ck ((g).length=(w).length) (Aq N m a ((i:Int)+1) g)) (ck ((R64 ((w.length:Int) - 1))) (Aq N m a ((w.length:Int) - 1) w)) (λ_ _ _=>Aq N m a ((i:Int)+1) w) (λ_ _=>Aq N m a ((i:Int)+1) w) (λ_ _ _=>Aq N m a ((i:Int)+1) w) (λ_ _=>Aq N m a ((i:Int)+1) w) (λ_ _=>Aq N m a ((i:Int)+1) w) (λ_ _=>Aq N m a ((i:Int)+1) w) (λ_ _=>Aq N m a ((i:Int)+1) w) (λ_=>Aq N m a ((i:Int)+1) w))
theorem ic(w:Y0 (Y3×W4))(i:Nat)(x:Aa1)(hi:i<w.length):Ce N m w (i:Int) x=if(w[i]!).1=true then(Hp N m x (w[i]!).2).bind (Sw N m w i x)else some (0,w):=by
 rw [Ce,Af _ (by omega)];rfl
theorem lI{w w':Y0 (Y3×W4)}(h:Le w w')(n i:Nat)(hw:w.length=n+1)(hn:n<=64)(hi:i<n)(x:Aa1)(hx:ZI x n i){b b':W4×Int}(h1:b.2=0)(h2:b'.2=0)(hs:Sub b.1 b'.1):PrP w.length (Sw N m w i x b) (Sw N m w' i x b'):=by
 have l':=h.1
 have next:PrP w.length (Aq N m b ((i:Int)+1) w) (Aq N m b' ((i:Int)+1) w'):=sP h hs _ (by omega)
 unfold Sw
 have hck:R64 ((i:Int)+1):=by omega
 rw [V9 (λq=>q h1),V9 (λq=>q h2),Af _ hck,Af _ hck]
 cases x with
 |nil=>exact next
 |t322 o t=>
  have ht:=hx t Z
  obtain⟨r,r',e1,e2,hl,l1,l2⟩:=Vg (N:=N) (m:=m) h hs t (by omega)
  show PrP _ ((AT N m w t b.1).bind _) ((AT N m w' t b'.1).bind _)
  rw [e1,e2,q0,q0,Af _ l1,Af _ (by rw [l2];exact h.1)]
  by_cases c:o=31
  ·rw [V8 c,V8 c];exact⟨_,_,Z,Z,l1,l2,λ_=>⟨Z,hl⟩⟩
  ·rw [V9 c,V9 c,<-l1];exact sP hl hs _ (by omega)
 |t324 a t=>
  have ht:=hx t Z
  obtain⟨u,u',f1,f2,hu⟩:=RG N a (h.2 i).2
  obtain⟨r,r',e1,e2,hl,l1,l2⟩:=Vg (N:=N) (m:=m) h hu t (by omega)
  show PrP _ ((BA N (w[i]!).2 a).bind _) ((BA N (w'[i]!).2 a).bind _)
  rw [f1,f2,q0,q0,e1,e2,q0,q0,Af _ l1,Af _ (by rw [l2];exact h.1),<-l1]
  exact sP hl hs _ (by omega)
 |t326=>
  have hc1:R64 ((w.length:Int) - 1):=by omega
  have hc2:R64 ((w'.length:Int) - 1):=by omega
  show PrP _ (ck (R64 ((w.length:Int) - 1)) _) (ck (R64 ((w'.length:Int) - 1)) _)
  rw [Af _ hc1,Af _ hc2,<-l']
  exact sP h hs _ (by omega)
 |t351 _ _ _=>exact next
 |t353 _ _=>exact next
 |t356 _ _ _=>exact next
 |t374 _ _=>exact next
 |t375 _ _=>exact next
 |t376 _ _=>exact next
 |t378 _ _=>exact next
 |t380 _=>exact next
theorem wa(hC:Ctx N m){w w':Y0 (Y3×W4)}(h:Le w w')(n i:Nat)(hw:w.length=n+1)(hn:n<=64)(hi:i<n)(x:Aa1)(hx:ZI x n i)(hf:fb x):PrP w.length (Ce N m w (i:Int) x) (Ce N m w' (i:Int) x):=by
 have l':=h.1
 obtain⟨g1,g2⟩:=h.2 i
 rw [ic w i x (by omega),ic w' i x (by omega),<-g1]
 by_cases c:(w[i]!).1=true
 ·rw [V8 c,V8 c]
  obtain⟨b,b',e1,e2,hb⟩:=yy hC x hf g2
  rw [e1,e2,q0,q0]
  by_cases d:b.2=0
  ·obtain⟨d',hs⟩:=hb d
   exact lI h n i hw hn hi x hx d d' hs
  ·have t1:Sw N m w i x b=some (b.2,w):=by unfold Sw;rw [V8 d]
   have t2: ∃r',Sw N m w' i x b'=some r'/\r'.2.length=w.length:=by
    by_cases d':b'.2=0
    ·obtain⟨r,_,e,_,hl,_⟩:=lI (N:=N) (m:=m) (Le.same w') n i (by omega) hn hi x hx d' d' (Sub.same b'.1)
     exact⟨r,e,by rw [hl,l']⟩
    ·exact⟨(b'.2,w'),by unfold Sw;rw [V8 d'],l'.symm⟩
   obtain⟨r',e',hr⟩:=t2
   exact⟨_,_,t1,e',Z,hr,λq=>absurd q d⟩
 ·rw [V9 c,V9 c];exact⟨_,_,Z,Z,Z,l'.symm,λ_=>⟨Z,h⟩⟩
def PrC(x y:Y1 (W4×Int×Int)):Prop:= ∃r r',x=some r/\y=some r'/\(r.2.2=0->r'.2.2=0/\Sub r.1 r'.1)
theorem vt(hC:Ctx N m)(st:Y0 Aa1)(n:Nat)(e:Int)(hst:st.length=n)(hn:n<=64)(hx: ∀i,i<n->ZI (st[i]!) n i/\fb (st[i]!)): ∀(k f i:Nat) (w w':Y0 (Y3×W4)),i+k=n->k<f->w.length=n+1->Le w w'->
  PrC (DI N m (st,(n:Int),e) f (i:Int) w) (DI N m (st,(n:Int),e) f (i:Int) w'):=by
 intro k
 induction k with
 |zero=>
  intro f i w w' hi hf hw h
  obtain⟨f,rfl⟩: ∃n,f=n+1:=⟨f - 1,by omega⟩
  have l':=h.1
  obtain rfl:i=n:=by omega
  rw [DI,DI,V9 (show¬((i:Int)<(i:Int))by omega),V9 (show¬((i:Int)<(i:Int))by omega),Af _ (show 0<=(i:Int)/\(i:Int)<(w.length:Int)by omega),Af _ (show 0<=(i:Int)/\(i:Int)<(w'.length:Int)by omega)]
  exact⟨_,_,Z,Z,λ_=>⟨Z,(h.2 _).2⟩⟩
 |succ k ih=>
  intro f i w w' hi hf hw h
  obtain⟨f,rfl⟩: ∃n,f=n+1:=⟨f - 1,by omega⟩
  have l':=h.1
  have hi':i<n:=by omega
  obtain⟨r,r',e1,e2,l1,l2,hr⟩:=wa hC h n i hw hn hi' (st[i]!) (hx i hi').1 (hx i hi').2
  have c1:((i:Int)+1)=((i+1:Nat):Int):=by omega
  rw [DI,DI,V8 (show(i:Int)<(n:Int)by omega),V8 (show(i:Int)<(n:Int)by omega),Af _ (show 0<=(i:Int)/\(i:Int)<(st.length:Int)by omega),Af _ (show 0<=(i:Int)/\(i:Int)<(st.length:Int)by omega),q4]
  show PrC ((Ce N m w (i:Int) (st[i]!)).bind _) ((Ce N m w' (i:Int) (st[i]!)).bind _)
  have hck:R64 ((i:Int)+1):=by omega
  rw [e1,e2,q0,q0,Af _ l1,Af _ (show r'.2.length=w'.length by omega)]
  by_cases d:r.1=0
  ·obtain⟨d',hl⟩:=hr d
   rw [V9 (λq=>q d),V9 (λq=>q d'),Af _ hck,Af _ hck,c1]
   exact ih f (i+1) r.2 r'.2 (by omega) (by omega) (by omega) hl
  ·rw [V8 d]
   by_cases d':r'.1=0
   ·rw [V9 (λq=>q d'),Af _ hck,c1]
    obtain⟨a,a',f1,_,_⟩:=ih f (i+1) r'.2 r'.2 (by omega) (by omega) (by omega) (Le.same _)
    exact⟨_,_,Z,f1,λq=>absurd q d⟩
   ·rw [V8 d'];exact⟨_,_,Z,Z,λq=>absurd q d⟩
theorem wO: ∀k:Nat,k<35->(k=27\/k=28)-> -1000<=(tab9[k]!).2.2.2.2.2.2.1/\(tab9[k]!).2.2.2.2.2.2.2.1<=1000:=by decide+kernel
theorem yq(x:I9)(h:OL x=0):fb (FM x):=by
 obtain⟨o,a,b,w,v⟩:=x
 have h':Qt o a b w v=0:=h
 have ho:=ar h'
 have hi:=sA h'
 show fb (SQ o a b w v)
 unfold SQ
 repeat' split
 all_goals first
  |exact trivial
  |(rename_i c;have h1:=wO o.toNat (by omega) (by omega);rw [show IS o=tab9[o.toNat]! from Z] at hi;exact⟨by have:=hi.2.2.1;omega,by have:=hi.2.2.2.1;omega⟩)
theorem tp(h:Ctx N m)(pl:Y0 Int)(hp:pl.length<=1048576)(l:Y0 I9)(hl:l.length<=1048576)(hr:CoR l):Ans (HY N m pl l) ((Uy l).2.2=0/\ ∀i,i<l.length->ZI (FM (l[i]!)) l.length i):=by
 have hN:=h.hN
 rw [HY]
 split
 ·exact⟨2,Z,λe=>absurd e (by decide)⟩
 rw [qY (by omega:20000000<N) l (by omega),q0]
 by_cases c:(Uy l).2.2=0
 ·obtain⟨h1,h2,h3⟩:=Vz c
  rw [V9 (λq=>q c),h1]
  refine((Ju (by omega:20000000<N) (l.map FM) (λi x=>Hu N i x m pl l) (λi=>ZI (FM (l[i]!)) l.length i) (FP N (l.map FM) m pl l) 64 (by decide) (λ_ _=>Z) (λ_ i hi=> ?_):Ans2 (IP N (l.map FM) 64 m pl l) _).imp λz=>⟨c,λi hi=>z.2 i (by rw [q9];exact hi)⟩).snd
  rw [q9] at hi
  rw [show(l.map FM)[i]! =FM (l[i]!)from by rw [zm _ i (by rw [q9];exact hi),zm l i hi,zt]]
  show Ans (Hu N (i:Int) (FM (l[i]!)) m pl l) _
  obtain⟨b,e,p⟩:=gK h pl hp (l[i]!) (hr i hi)
  have lead: ∃q,HD N (FM (l[i]!)) (i:Int) ((l.length:Nat):Int)=some q/\(q=true->ZI (FM (l[i]!)) l.length i):=by
   rw [HD,bP,q0]
   by_cases c:(OD (FM (l[i]!))).2=true
   ·rw [V8 c,ckp (by omega),FF,q0]
    exact⟨_,Z,λq t ht=>by rw [ht] at q;exact zj q⟩
   ·rw [V9 c];exact⟨_,Z,λ_ t ht=>absurd (by rw [ht]) c⟩
  obtain⟨q,e2,p2⟩:=lead
  rw [Hu,ckp (by omega),q4,e,q0,e2]
  obtain⟨r1,u1,v1⟩:=Ans.un N b 5 (by decide)
  obtain⟨r2,u2,v2⟩:=Ans.un N q 12 (by decide)
  rw [u1,q0,q0,u2,q0]
  exact((LR (by omega) r1 r2).imp λz=>p2 (v2 z.2)).pure
 ·rw [V8 c];exact⟨_,Z,λq=>absurd q c⟩
theorem xf{l:Y0 I9}(h:(Uy l).2.2=0):Uy l=(l.map FM,(l.length:Int),0):=by
 obtain⟨h1,h2,h3⟩:=Vz h
 have e:Uw l=((l.length:Int),0):=by
  unfold Uw
  rw [Xx _ _ _ (λx hx=>h3 x (List.mem_of_mem_take hx)),Nat.min_eq_left h2,V9 (by omega)]
 unfold Uy at h1 ⊢
 rw [e] at h1 ⊢
 rfl
theorem yB(N:Nat)(hN:20000000<N):Gq N=some [1,1,1,1,1,1,1,1]:=by
 obtain⟨n,rfl⟩: ∃n,N=n+8:=⟨N - 8,by omega⟩
 rfl
theorem cop(hN:20000000<N)(hL:Lit m)(hR:Rg m)(l:Y0 I9)(hl:l.length<=1048576)(hr:CoR l){s s':W4}(hs:Sub s s'):PrC (HF N m l s) (HF N m l s'):=by
 obtain⟨q,e,hq⟩:=jc hN hL hR
 rw [HF,HF,e,q0,q0]
 cases q with
 |nil=>
  have hC:=(hq Z).cx
  show PrC ((Gq N).bind _) ((Gq N).bind _)
  rw [yB N hN,q0,q0]
  obtain⟨r,e2,hr2⟩:=tp hC [1,1,1,1,1,1,1,1] (by decide) l hl hr
  rw [e2,q0,q0]
  by_cases c:r=0
  ·obtain⟨ha,hx⟩:=hr2 c
   obtain⟨h1,h2,h3⟩:=Vz ha
   have hA:R64 ((l.length:Int)+1):=by omega
   have hB:0<=(l.length:Int)+1/\(l.length:Int)+1<=8796093022208:=by omega
   rw [V9 (λq=>q c),V9 (λq=>q c),JT,JT,qY hN l hl,xf ha,q0,q0]
   show PrC (ck (R64 ((l.length:Int)+1)) (ck (0<=(l.length:Int)+1/\(l.length:Int)+1<=8796093022208) _)) (ck (R64 ((l.length:Int)+1)) (ck (0<=(l.length:Int)+1/\(l.length:Int)+1<=8796093022208) _))
   rw [Af _ hA,Af _ hB,Af _ hA,Af _ hB]
   show PrC ((AT N m (List.replicate ((l.length:Int)+1).toNat (false,0#64)) 0 s).bind _) ((AT N m (List.replicate ((l.length:Int)+1).toNat (false,0#64)) 0 s').bind _)
   have hw:(List.replicate ((l.length:Int)+1).toNat (false,0#64)).length=l.length+1:=by rw [zo];omega
   generalize List.replicate ((l.length:Int)+1).toNat (false,0#64)=w at hw ⊢
   obtain⟨u,u',f1,f2,hu,l1,l2⟩:=Vg (N:=N) (m:=m) (Le.same w) hs 0 (by omega)
   rw [f1,f2,q0,q0,Af _ l1,Af _ l2]
   refine vt hC (l.map FM) l.length 0 (q9 ..) h2 (λi hi=> ?_) l.length N 0 u u' (q7 _) (by omega) (by omega) hu
   rw [show(l.map FM)[i]! =FM (l[i]!)from by rw [zm _ i (by rw [q9];exact hi),zm l i hi,zt]]
   exact⟨hx i hi,yq _ (h3 _ (Fm hi))⟩
  ·rw [V8 c,V8 c];exact⟨_,_,Z,Z,λq=>absurd q (by decide)⟩
 |_=>exact⟨_,_,Z,Z,λq=>absurd q (by decide)⟩
end
set_option maxRecDepth 100000
end Go.Proofs.YtjnanfkpdhmnpaaGreatDoor
