import Derived.Test.YtoolcgbcfgnipaaGreatDoorRw
set_option linter.unusedSimpArgs false
set_option linter.unusedVariables false
namespace Go.Proofs.YtoolcgbcfgnipaaGreatDoor
open Go Go.RowKit Go.Eng
def Sub(a b:BitVec 64):Prop:= ∀i,a.getLsbD i=true→b.getLsbD i=true
theorem Sub.same(a:BitVec 64):Sub a a:=fun _ h=>h
theorem Sub.trans{a b c:BitVec 64}(h:Sub a b)(g:Sub b c):Sub a c:=fun i q=>g i (h i q)
theorem Sub.or{a b:BitVec 64}(c:BitVec 64)(h:Sub a b):Sub (a|||c) (b|||c):=fun i q=>by
 rw [BitVec.getLsbD_or,Bool.or_eq_true] at q ⊢;exact q.imp (h i) id
theorem Sub.orl(a b:BitVec 64):Sub a (a|||b):=fun i q=>by
 rw [BitVec.getLsbD_or,q];rfl
theorem Sub.and{a b c d:BitVec 64}(h:Sub a b)(g:Sub c d):Sub (a&&&c) (b&&&d):=fun i q=>by
 rw [BitVec.getLsbD_and,Bool.and_eq_true] at q ⊢;exact⟨h i q.1,g i q.2⟩
theorem Sub.within{a b:BitVec 64}(h:Sub a b):((a&&&b)==a)=true:=by
 rw [beq_iff_eq];refine BitVec.eq_of_getLsbD_eq fun i hi=> ?_
 rw [BitVec.getLsbD_and]
 cases e:a.getLsbD i with
 |true=>rw [h i e];rfl
 |false=>rfl
theorem Sub.ne{a b c:BitVec 64}(h:Sub a b)(q:((a&&&c) !=0#64)=true):((b&&&c) !=0#64)=true:=by
 rw [bne_iff_ne] at q ⊢
 intro e;apply q;refine BitVec.eq_of_getLsbD_eq fun i hi=> ?_
 rw [BitVec.getLsbD_zero]
 cases d:(a&&&c).getLsbD i with
 |false=>rfl
 |true=>have:=(Sub.and h (Sub.same c)) i d;rw [e,BitVec.getLsbD_zero] at this;exact absurd this (by decide)
theorem XZ(N:Nat)(k:Int): ∃o,JK N k=some o:=by
 unfold JK
 have h1: ∀b,¬k<0∨b=true→ ∃o,Km k b=some o:=fun b h=>by
  unfold Km
  cases b with
  |true=>exact⟨_,if_pos rfl⟩
  |false=>rw [if_neg (by decide),Aj _ (by rcases h with h|h;omega;cases h)];exact⟨_,rfl⟩
 by_cases c:k<0
 ·rw [if_pos c];exact h1 _ (.inr rfl)
 ·rw [if_neg c];exact h1 _ (.inl c)
def Pr(x y:Option (BitVec 64)):Prop:= ∃r r',x=some r∧y=some r'∧Sub r r'
theorem cS(N:Nat)(k:Int){s s':BitVec 64}(h:Sub s s'):Pr (Cx N s k) (Cx N s' k):=by
 obtain⟨o,e⟩:=XZ N k
 exact⟨_,_,by rw [Cx,e];rfl,by rw [Cx,e];rfl,h.or o⟩
theorem oq(N:Nat)(k:Int){s s':BitVec 64}(h:Sub s s'):Pr (some s) (Cx N s' k):=by
 obtain⟨o,e⟩:=XZ N k
 exact⟨_,_,rfl,by rw [Cx,e];rfl,h.trans (Sub.orl _ _)⟩
theorem Sn(N:Nat)(k:Int){s s':BitVec 64}(h:Sub s s'):Pr (BA N s k) (BA N s' k):=by
 obtain⟨o,e⟩:=XZ N k
 exact⟨_,_,by rw [BA,e];rfl,by rw [BA,e];rfl,h.and (Sub.same _)⟩
theorem sj(N:Nat)(k:Int){s s':BitVec 64}(h:Sub s s'): ∃b b',Ed N s k=some b∧Ed N s' k=some b'∧(b=true→b'=true):=by
 obtain⟨o,e⟩:=XZ N k
 exact⟨_,_,by rw [Ed,e];rfl,by rw [Ed,e];rfl,fun q=>h.ne q⟩
section
variable {N:Nat} {m:Ao}
theorem tz(n:Int){s s':BitVec 64}(hs:Sub s s')(r4:Int×Int×Bool)(h0:0≤r4.1)(h1:r4.1≤1000000)(h2:r4.2.1≤4): ∀(k f:Nat) (i:Int) (a a':BitVec 64),Sub a a'→0≤i→i≤4→r4.2.1 - i≤(k:Int)→k<f→
  Pr (Ba N n s r4 f a i) (Ba N n s' r4 f a' i):=by
 intro k
 induction k with
 |zero=>
  intro f i a a' ha hi hi4 hk hf
  obtain⟨f,rfl⟩: ∃n,f=n+1:=⟨f - 1,by omega⟩
  rw [Ba,Ba,if_neg (by omega),if_neg (by omega)]
  exact⟨_,_,rfl,rfl,ha⟩
 |succ k ih=>
  intro f i a a' ha hi hi4 hk hf
  obtain⟨f,rfl⟩: ∃n,f=n+1:=⟨f - 1,by omega⟩
  by_cases c:i<r4.2.1
  ·obtain⟨w,w',e1,e2,hw⟩:=Sn N (r4.1+i) ha
   have go: ∀b b',Sub b b'→Pr (Ba N n s r4 f b (i+1)) (Ba N n s' r4 f b' (i+1)):=fun b b' hb=>ih f (i+1) b b' hb (by omega) (by omega) (by omega) (by omega)
   have k5: ∀b b':Bool,(b=true→b'=true)→Pr (GY N r4 i (Ba N n s r4 f) w b) (GY N r4 i (Ba N n s' r4 f) w' b'):=fun b b' hb=>by
    unfold GY
    cases b' with
    |false=>
     have:b=false:=by cases b with|false=>rfl|true=>exact absurd (hb rfl) (by decide)
     subst this
     rw [if_neg (by decide),if_neg (by decide),Aj _ (by omega),Aj _ (by omega)];exact go _ _ hw
    |true=>
     rw [if_pos rfl,Aj (Cx N w' (r4.1+i)|>.bind _) (by omega)]
     cases b with
     |false=>
      obtain⟨u,u',f1,f2,hu⟩:=oq N (r4.1+i) hw
      cases f1
      rw [if_neg (by decide),Aj _ (by omega),f2,q0,Aj _ (by omega)];exact go _ _ hu
     |true=>
      obtain⟨u,u',f1,f2,hu⟩:=cS N (r4.1+i) hw
      rw [if_pos rfl,Aj _ (by omega),f1,f2,q0,q0,Aj _ (by omega),Aj _ (by omega)];exact go _ _ hu
   have k4: ∀b:Bool,Pr (GZ N n s r4 i (Ba N n s r4 f) w b) (GZ N n s' r4 i (Ba N n s' r4 f) w' b):=fun b=>by
    unfold GZ
    cases b with
    |false=>rw [if_neg (by decide),if_neg (by decide)];exact k5 _ _ id
    |true=>
     obtain⟨b,b',f1,f2,hb⟩:=sj N (r4.1+(i - max (-4) (min n 4))) hs
     rw [if_pos rfl,if_pos rfl,Aj _ (by omega),Aj _ (by omega),f1,f2,q0,q0];exact k5 _ _ hb
   rw [Ba,Ba,if_pos c,if_pos c,Aj _ (by omega),Aj _ (by omega),e1,e2,q0,q0,Aj _ (by omega),Aj _ (by omega)]
   by_cases d:i - max (-4) (min n 4)≥0
   ·rw [if_pos d,if_pos d];exact k4 _
   ·rw [if_neg d,if_neg d];exact k4 _
  ·rw [Ba,Ba,if_neg c,if_neg c]
   exact⟨_,_,rfl,rfl,ha⟩
theorem da(h:Ctx N m)(i:Int): ∃r,FY N m i=some r∧0≤r.1∧r.1≤1000000∧r.2.1≤4:=by
 have hil:=h.il
 rw [FY,ad N (by have:=h.hN;omega) m.2.2.1 i h.ft.2.1,q0]
 unfold Zd
 by_cases c:0≤i∧i<(m.2.2.1.length:Int)∧dep (m.2.2.1[i.toNat]!).2.2≠0
 ·rw [if_pos c,if_pos rfl,ckp (by omega)]
  split
  ·exact⟨_,rfl,by decide,by decide,by decide⟩
  ·rw [IZ,ckp (by omega)]
   have h1:=Ub (m.2.2.1.take i.toNat)
   rw [q7] at h1
   refine⟨_,rfl,by show(0:Int)≤(total _:Int);omega,by show(total _:Int)≤_;omega, ?_⟩
   have h2:=c.2.2
   unfold dep at h2
   by_cases d:0≤(m.2.2.1[i.toNat]!).2.2∧(m.2.2.1[i.toNat]!).2.2≤4
   ·exact d.2
   ·rw [if_neg d] at h2;exact absurd rfl h2
 ·rw [if_neg c,if_neg (by decide)];exact⟨_,rfl,by decide,by decide,by decide⟩
theorem tx(h:Ctx N m)(i n:Int){s s':BitVec 64}(hs:Sub s s'):Pr (GO N m i n s) (GO N m i n s'):=by
 obtain⟨r,e,h0,h1,h2⟩:=da h i
 have hN:=h.hN
 rw [GO,GO,e,q0,q0]
 by_cases c:r.2.2=true
 ·rw [if_pos c,if_pos c];exact tz n hs r h0 h1 h2 4 N 0 s s' hs (by omega) (by omega) (by omega) (by omega)
 ·rw [if_neg c,if_neg c];exact⟨_,_,rfl,rfl,hs⟩
def cP:Aa0→Prop
 | .t155 _ _ n=> -1000≤n∧n≤1000
 |_=>True
def PrE(x y:Option (BitVec 64×Int)):Prop:= ∃r r',x=some r∧y=some r'∧(r.2=0→r'.2=0∧Sub r.1 r'.1)
theorem PrE.of{x y:Option (BitVec 64)}(h:Pr x y):PrE (x.bind fun r=>some (r,0)) (y.bind fun r=>some (r,0)):=by
 obtain⟨r,r',e1,e2,hs⟩:=h
 rw [e1,e2];exact⟨_,_,rfl,rfl,fun _=>⟨rfl,hs⟩⟩
theorem vp(h:Ctx N m)(x:Aa0)(hx:cP x){s s':BitVec 64}(hs:Sub s s'):PrE (GA N m x s) (GA N m x s'):=by
 have same:PrE (some (s,0)) (some (s',0)):=⟨_,_,rfl,rfl,fun _=>⟨rfl,hs⟩⟩
 unfold GA
 cases x with
 |nil=>exact same
 |t107 _ _=>exact same
 |t109 a _=>exact PrE.of (cS N a hs)
 |t111=>exact same
 |t150 _ a _=>
  obtain⟨b,b',e1,e2,hb⟩:=sj N a hs
  show PrE ((Ed N s a).bind _) ((Ed N s' a).bind _)
  rw [e1,e2,q0,q0]
  cases b with
  |true=>rw [hb rfl];exact same
  |false=>rw [if_neg (by decide)];cases b'<;>exact⟨_,_,rfl,rfl,fun q=>absurd q (by decide)⟩
 |t152 o a=>
  refine PrE.of ?_
  unfold Mh
  by_cases c:o=25
  ·rw [if_pos c,if_pos c];obtain⟨r,r',e1,e2,hh⟩:=cS N a hs;rw [e1,e2];exact⟨_,_,rfl,rfl,hh⟩
  rw [if_neg c,if_neg c]
  by_cases c:o=26
  ·rw [if_pos c,if_pos c];obtain⟨r,r',e1,e2,hh⟩:=Sn N a hs;rw [e1,e2];exact⟨_,_,rfl,rfl,hh⟩
  rw [if_neg c,if_neg c];exact⟨_,_,rfl,rfl,hs⟩
 |t155 o a n=>
  have hn: -1000≤n∧n≤1000:=hx
  have hf: ∃k,JL N o a n=some k:=by
   unfold JL
   by_cases c:o=28
   ·rw [if_pos c,Aj _ (by omega)];exact⟨_,rfl⟩
   ·rw [if_neg c];exact⟨_,rfl⟩
  obtain⟨k,e⟩:=hf
  show PrE ((JL N o a n).bind _) ((JL N o a n).bind _)
  rw [e,q0,q0]
  exact PrE.of (tx h a k hs)
 |t228 _ _=>exact same
 |t229 _ _=>exact same
 |t230 _ _=>exact same
 |t232 _ _=>exact same
 |t234 _=>exact same
end
end Go.Proofs.YtoolcgbcfgnipaaGreatDoor
set_option linter.unusedSimpArgs false
set_option linter.unusedVariables false
namespace Go.Proofs.YtoolcgbcfgnipaaGreatDoor
open Go Go.RowKit Go.Eng
section
variable {N:Nat} {m:Ao}
def Le(w a:List (Bool×BitVec 64)):Prop:=w.length=a.length∧ ∀j:Nat,(w[j]!).1=(a[j]!).1∧Sub (w[j]!).2 (a[j]!).2
theorem Le.same(w:List (Bool×BitVec 64)):Le w w:=⟨rfl,fun j=>⟨rfl,Sub.same _⟩⟩
theorem eI(w:List (Bool×BitVec 64))(k j:Nat)(hk:k<w.length)(v:Bool×BitVec 64):(w.set k v)[j]! =if j=k then v else w[j]!:=by
  by_cases c:j=k
  · subst c;rw [if_pos rfl,zg _ j (by rw [zl];exact hk)];simp
  · rw [if_neg c]
    by_cases d:j<w.length
    · rw [zg _ j (by rw [zl];exact d),zg _ j d,List.getElem_set_ne (fun e=>c e.symm)]
    · rw [getElem!_neg _ j (by rw [zl];exact d),getElem!_neg _ j d]
theorem Le.set{w w':List (Bool×BitVec 64)}(h:Le w w')(k:Nat)(hk:k<w.length){s s':BitVec 64}(hs:Sub s s'):Le (w.set k (true,s)) (w'.set k (true,s')):=
  ⟨by rw [zl,zl];exact h.1,fun j=>by
    rw [eI w k j hk,eI w' k j (by rw [←h.1];exact hk)]
    split
    · exact⟨rfl,hs⟩
    · exact h.2 j⟩
theorem TK{w w':List (Bool×BitVec 64)}(h:Le w w'){s s':BitVec 64}(hs:Sub s s')(a:Int)(h0:0≤a∧a<(w.length:Int)):
    ∃r r',AK N m w a s=some r∧AK N m w' a s'=some r'∧Le r r'∧r.length=w.length∧r'.length=w.length:=by
  have h0':0≤a∧a<(w'.length:Int):=by rw [←h.1];exact h0
  have hk:a.toNat<w.length:=by omega
  obtain⟨e1,e2⟩:=h.2 a.toNat
  rw [AK,AK,Aj _ h0,Aj _ h0',←e1]
  by_cases c:(w[a.toNat]!).1=true
  · rw [if_pos c,if_pos c,Aj _ h0,Aj _ h0',GX,GX,q0,q0,BY,BY,Aj _ h0,Aj _ h0']
    exact⟨_,_,rfl,rfl,h.set _ hk (hs.and e2),zl ..,by rw [zl];exact h.1.symm⟩
  · rw [if_neg c,if_neg c,BY,BY,Aj _ h0,Aj _ h0']
    exact⟨_,_,rfl,rfl,h.set _ hk hs,zl ..,by rw [zl];exact h.1.symm⟩
def PrP(n:Nat)(x y:Option (Int×List (Bool×BitVec 64))):Prop:= ∃r r',x=some r∧y=some r'∧r.2.length=n∧r'.2.length=n∧(r.1=0→r'.1=0∧Le r.2 r'.2)
theorem pI{w w':List (Bool×BitVec 64)}(h:Le w w'){b b':BitVec 64×Int}(hs:Sub b.1 b'.1)(a:Int)(h0:0≤a∧a<(w.length:Int)):PrP w.length (Ar N m b a w) (Ar N m b' a w'):=by
  obtain⟨r,r',e1,e2,hl,l1,l2⟩:=TK (N:=N) (m:=m) h hs a h0
  rw [Ar,Ar,e1,e2,q0,q0,Aj _ l1,Aj _ (by rw [l2];exact h.1)]
  exact⟨_,_,rfl,rfl,l1,l2,fun _=>⟨rfl,hl⟩⟩
def XM(x:Aa0)(n i:Nat):Prop:= ∀t,ND x=(t,true)→(i:Int)+1≤t∧t≤(n:Int)
def QZ(N:Nat)(m:Ao)(w:List (Bool×BitVec 64))(i:Nat)(x:Aa0)(a:BitVec 64×Int):Option (Int×List (Bool×BitVec 64)):=
  if(a.2:Int)≠0 then some (a.2,w)else ck (R64 ((i:Int)+1)) (Aa0.on x (Ar N m a ((i:Int)+1) w) (fun c d=>(AK N m w d a.1).bind fun b=>ck ((b).length=(w).length) (if c=31 then some (0,b)else Ar N m a ((i:Int)+1) b)) (fun f e=>(BA N ((w[(i:Int).toNat]!).2) f).bind fun b=>(AK N m w e b).bind fun g=>ck ((g).length=(w).length) (Ar N m a ((i:Int)+1) g)) (ck ((R64 ((w.length:Int) - 1))) (Ar N m a ((w.length:Int) - 1) w)) (fun _ _ _=>Ar N m a ((i:Int)+1) w) (fun _ _=>Ar N m a ((i:Int)+1) w) (fun _ _ _=>Ar N m a ((i:Int)+1) w) (fun _ _=>Ar N m a ((i:Int)+1) w) (fun _ _=>Ar N m a ((i:Int)+1) w) (fun _ _=>Ar N m a ((i:Int)+1) w) (fun _ _=>Ar N m a ((i:Int)+1) w) (fun _=>Ar N m a ((i:Int)+1) w))
theorem eS(w:List (Bool×BitVec 64))(i:Nat)(x:Aa0)(hi:i<w.length):BH N m w (i:Int) x=if(w[i]!).1=true then(GA N m x (w[i]!).2).bind (QZ N m w i x)else some (0,w):=by
  rw [BH,Aj _ (by omega)];rfl
theorem je{w w':List (Bool×BitVec 64)}(h:Le w w')(n i:Nat)(hw:w.length=n+1)(hn:n≤64)(hi:i<n)(x:Aa0)(hx:XM x n i){b b':BitVec 64×Int}(h1:b.2=0)(h2:b'.2=0)(hs:Sub b.1 b'.1):PrP w.length (QZ N m w i x b) (QZ N m w' i x b'):=by
  have l':=h.1
  have next:PrP w.length (Ar N m b ((i:Int)+1) w) (Ar N m b' ((i:Int)+1) w'):=pI h hs _ (by omega)
  unfold QZ
  have hck:R64 ((i:Int)+1):=by omega
  rw [if_neg (fun q=>q h1),if_neg (fun q=>q h2),Aj _ hck,Aj _ hck]
  cases x with
  |nil=>exact next
  |t107 o t=>
    have ht:=hx t rfl
    obtain⟨r,r',e1,e2,hl,l1,l2⟩:=TK (N:=N) (m:=m) h hs t (by omega)
    show PrP _ ((AK N m w t b.1).bind _) ((AK N m w' t b'.1).bind _)
    rw [e1,e2,q0,q0,Aj _ l1,Aj _ (by rw [l2];exact h.1)]
    by_cases c:o=31
    · rw [if_pos c,if_pos c];exact⟨_,_,rfl,rfl,l1,l2,fun _=>⟨rfl,hl⟩⟩
    · rw [if_neg c,if_neg c,←l1];exact pI hl hs _ (by omega)
  |t109 a t=>
    have ht:=hx t rfl
    obtain⟨u,u',f1,f2,hu⟩:=Sn N a (h.2 i).2
    obtain⟨r,r',e1,e2,hl,l1,l2⟩:=TK (N:=N) (m:=m) h hu t (by omega)
    show PrP _ ((BA N (w[i]!).2 a).bind _) ((BA N (w'[i]!).2 a).bind _)
    rw [f1,f2,q0,q0,e1,e2,q0,q0,Aj _ l1,Aj _ (by rw [l2];exact h.1),←l1]
    exact pI hl hs _ (by omega)
  |t111=>
    have hc1:R64 ((w.length:Int) - 1):=by omega
    have hc2:R64 ((w'.length:Int) - 1):=by omega
    show PrP _ (ck (R64 ((w.length:Int) - 1)) _) (ck (R64 ((w'.length:Int) - 1)) _)
    rw [Aj _ hc1,Aj _ hc2,←l']
    exact pI h hs _ (by omega)
  |t150 _ _ _=>exact next
  |t152 _ _=>exact next
  |t155 _ _ _=>exact next
  |t228 _ _=>exact next
  |t229 _ _=>exact next
  |t230 _ _=>exact next
  |t232 _ _=>exact next
  |t234 _=>exact next
theorem sS(hC:Ctx N m){w w':List (Bool×BitVec 64)}(h:Le w w')(n i:Nat)(hw:w.length=n+1)(hn:n≤64)(hi:i<n)(x:Aa0)(hx:XM x n i)(hf:cP x):PrP w.length (BH N m w (i:Int) x) (BH N m w' (i:Int) x):=by
  have l':=h.1
  obtain⟨g1,g2⟩:=h.2 i
  rw [eS w i x (by omega),eS w' i x (by omega),←g1]
  by_cases c:(w[i]!).1=true
  · rw [if_pos c,if_pos c]
    obtain⟨b,b',e1,e2,hb⟩:=vp hC x hf g2
    rw [e1,e2,q0,q0]
    by_cases d:b.2=0
    · obtain⟨d',hs⟩:=hb d
      exact je h n i hw hn hi x hx d d' hs
    · have t1:QZ N m w i x b=some (b.2,w):=by unfold QZ;rw [if_pos d]
      have t2: ∃r',QZ N m w' i x b'=some r'∧r'.2.length=w.length:=by
        by_cases d':b'.2=0
        · obtain⟨r,_,e,_,hl,_⟩:=je (N:=N) (m:=m) (Le.same w') n i (by omega) hn hi x hx d' d' (Sub.same b'.1)
          exact⟨r,e,by rw [hl,l']⟩
        · exact⟨(b'.2,w'),by unfold QZ;rw [if_pos d'],l'.symm⟩
      obtain⟨r',e',hr⟩:=t2
      exact⟨_,_,t1,e',rfl,hr,fun q=>absurd q d⟩
  · rw [if_neg c,if_neg c];exact⟨_,_,rfl,rfl,rfl,l'.symm,fun _=>⟨rfl,h⟩⟩
def PrC(x y:Option (BitVec 64×Int×Int)):Prop:= ∃r r',x=some r∧y=some r'∧(r.2.2=0→r'.2.2=0∧Sub r.1 r'.1)
theorem sx(hC:Ctx N m)(st:List Aa0)(n:Nat)(e:Int)(hst:st.length=n)(hn:n≤64)(hx: ∀i,i<n→XM (st[i]!) n i∧cP (st[i]!)): ∀(k f i:Nat) (w w':List (Bool×BitVec 64)),i+k=n→k<f→w.length=n+1→Le w w'→
    PrC (Dd N m (st,(n:Int),e) f (i:Int) w) (Dd N m (st,(n:Int),e) f (i:Int) w'):=by
  intro k
  induction k with
  |zero=>
    intro f i w w' hi hf hw h
    obtain⟨f,rfl⟩: ∃n,f=n+1:=⟨f - 1,by omega⟩
    have l':=h.1
    obtain rfl:i=n:=by omega
    rw [Dd,Dd,if_neg (show¬((i:Int)<(i:Int))by omega),if_neg (show¬((i:Int)<(i:Int))by omega),Aj _ (show 0≤(i:Int)∧(i:Int)<(w.length:Int)by omega),Aj _ (show 0≤(i:Int)∧(i:Int)<(w'.length:Int)by omega)]
    exact⟨_,_,rfl,rfl,fun _=>⟨rfl,(h.2 _).2⟩⟩
  |succ k ih=>
    intro f i w w' hi hf hw h
    obtain⟨f,rfl⟩: ∃n,f=n+1:=⟨f - 1,by omega⟩
    have l':=h.1
    have hi':i<n:=by omega
    obtain⟨r,r',e1,e2,l1,l2,hr⟩:=sS hC h n i hw hn hi' (st[i]!) (hx i hi').1 (hx i hi').2
    have c1:((i:Int)+1)=((i+1:Nat):Int):=by omega
    rw [Dd,Dd,if_pos (show(i:Int)<(n:Int)by omega),if_pos (show(i:Int)<(n:Int)by omega),Aj _ (show 0≤(i:Int)∧(i:Int)<(st.length:Int)by omega),Aj _ (show 0≤(i:Int)∧(i:Int)<(st.length:Int)by omega),q3]
    show PrC ((BH N m w (i:Int) (st[i]!)).bind _) ((BH N m w' (i:Int) (st[i]!)).bind _)
    have hck:R64 ((i:Int)+1):=by omega
    rw [e1,e2,q0,q0,Aj _ l1,Aj _ (show r'.2.length=w'.length by omega)]
    by_cases d:r.1=0
    · obtain⟨d',hl⟩:=hr d
      rw [if_neg (fun q=>q d),if_neg (fun q=>q d'),Aj _ hck,Aj _ hck,c1]
      exact ih f (i+1) r.2 r'.2 (by omega) (by omega) (by omega) hl
    · rw [if_pos d]
      by_cases d':r'.1=0
      · rw [if_neg (fun q=>q d'),Aj _ hck,c1]
        obtain⟨a,a',f1,_,_⟩:=ih f (i+1) r'.2 r'.2 (by omega) (by omega) (by omega) (Le.same _)
        exact⟨_,_,rfl,f1,fun q=>absurd q d⟩
      · rw [if_pos d'];exact⟨_,_,rfl,rfl,fun q=>absurd q d⟩
theorem tO: ∀k:Nat,k<35→(k=27∨k=28)→ -1000≤(tab9[k]!).2.2.2.2.2.2.1∧(tab9[k]!).2.2.2.2.2.2.2.1≤1000:=by decide+kernel
theorem vk(x:I9)(h:NJ x=0):cP (EW x):=by
  obtain⟨o,a,b,w,v⟩:=x
  have h':Pi o a b w v=0:=h
  have ho:=Yf h'
  have hi:=px h'
  show cP (Rs o a b w v)
  unfold Rs
  repeat' split
  all_goals first
    |exact trivial
    |(rename_i c; have h1:=tO o.toNat (by omega) (by omega); rw [show HW o=tab9[o.toNat]! from rfl] at hi; exact⟨by have:=hi.2.2.1;omega,by have:=hi.2.2.2.1;omega⟩)
theorem qa(h:Ctx N m)(pl:List Int)(hp:pl.length≤1048576)(l:List I9)(hl:l.length≤1048576)(hr:CoR l):Ans (Hi N m pl l) ((Tc l).2.2=0∧ ∀i,i<l.length→XM (EW (l[i]!)) l.length i):=by
  have hN:=h.hN
  rw [Hi]
  split
  · exact⟨2,rfl,fun e=>absurd e (by decide)⟩
  rw [nV (by omega:20000000<N) l (by omega),q0]
  by_cases c:(Tc l).2.2=0
  · obtain⟨h1,h2,h3⟩:=TZ c
    rw [if_neg (fun q=>q c),h1]
    refine((IB (by omega:20000000<N) (l.map EW) (fun i x=>GE N i x m pl l) (fun i=>XM (EW (l[i]!)) l.length i) (EX N (l.map EW) m pl l) 64 (by decide) (fun _ _=>rfl) (fun _ i hi=> ?_):Ans2 (HT N (l.map EW) 64 m pl l) _).imp fun z=>⟨c,fun i hi=>z.2 i (by rw [q8];exact hi)⟩).snd
    rw [q8] at hi
    rw [show(l.map EW)[i]! =EW (l[i]!)from by rw [zg _ i (by rw [q8];exact hi),zg l i hi,zm]]
    show Ans (GE N (i:Int) (EW (l[i]!)) m pl l) _
    obtain⟨b,e,p⟩:=eB h pl hp (l[i]!) (hr i hi)
    have lead: ∃q,GN N (EW (l[i]!)) (i:Int) ((l.length:Nat):Int)=some q∧(q=true→XM (EW (l[i]!)) l.length i):=by
      rw [GN,ZJ,q0]
      by_cases c:(ND (EW (l[i]!))).2=true
      · rw [if_pos c,ckp (by omega),EQ,q0]
        exact⟨_,rfl,fun q t ht=>by rw [ht] at q;exact zd q⟩
      · rw [if_neg c];exact⟨_,rfl,fun _ t ht=>absurd (by rw [ht]) c⟩
    obtain⟨q,e2,p2⟩:=lead
    rw [GE,ckp (by omega),q3,e,q0,e2]
    obtain⟨r1,u1,v1⟩:=Ans.un N b 5 (by decide)
    obtain⟨r2,u2,v2⟩:=Ans.un N q 12 (by decide)
    rw [u1,q0,q0,u2,q0]
    exact((KL (by omega) r1 r2).imp fun z=>p2 (v2 z.2)).pure
  · rw [if_pos c];exact⟨_,rfl,fun q=>absurd q c⟩
theorem uc{l:List I9}(h:(Tc l).2.2=0):Tc l=(l.map EW,(l.length:Int),0):=by
  obtain⟨h1,h2,h3⟩:=TZ h
  have e:Ta l=((l.length:Int),0):=by
    unfold Ta
    rw [VS _ _ _ (fun x hx=>h3 x (List.mem_of_mem_take hx)),Nat.min_eq_left h2,if_neg (by omega)]
  unfold Tc at h1 ⊢
  rw [e] at h1 ⊢
  rfl
theorem vv(N:Nat)(hN:20000000<N):FC N=some [1,1,1,1,1,1,1,1]:=by
  obtain⟨n,rfl⟩: ∃n,N=n+8:=⟨N - 8,by omega⟩
  rfl
theorem cop(hN:20000000<N)(hL:Lit m)(hR:Rg m)(l:List I9)(hl:l.length≤1048576)(hr:CoR l){s s':BitVec 64}(hs:Sub s s'):PrC (Ee N m l s) (Ee N m l s'):=by
  obtain⟨q,e,hq⟩:=qe hN hL hR
  rw [Ee,Ee,e,q0,q0]
  cases q with
  |nil=>
    have hC:=(hq rfl).cx
    show PrC ((FC N).bind _) ((FC N).bind _)
    rw [vv N hN,q0,q0]
    obtain⟨r,e2,hr2⟩:=qa hC [1,1,1,1,1,1,1,1] (by decide) l hl hr
    rw [e2,q0,q0]
    by_cases c:r=0
    · obtain⟨ha,hx⟩:=hr2 c
      obtain⟨h1,h2,h3⟩:=TZ ha
      have hA:R64 ((l.length:Int)+1):=by omega
      have hB:0≤(l.length:Int)+1∧(l.length:Int)+1≤8796093022208:=by omega
      rw [if_neg (fun q=>q c),if_neg (fun q=>q c),Jc,Jc,nV hN l hl,uc ha,q0,q0]
      show PrC (ck (R64 ((l.length:Int)+1)) (ck (0≤(l.length:Int)+1∧(l.length:Int)+1≤8796093022208) _)) (ck (R64 ((l.length:Int)+1)) (ck (0≤(l.length:Int)+1∧(l.length:Int)+1≤8796093022208) _))
      rw [Aj _ hA,Aj _ hB,Aj _ hA,Aj _ hB]
      show PrC ((AK N m (List.replicate ((l.length:Int)+1).toNat (false,0#64)) 0 s).bind _) ((AK N m (List.replicate ((l.length:Int)+1).toNat (false,0#64)) 0 s').bind _)
      have hw:(List.replicate ((l.length:Int)+1).toNat (false,0#64)).length=l.length+1:=by rw [zi];omega
      generalize List.replicate ((l.length:Int)+1).toNat (false,0#64)=w at hw ⊢
      obtain⟨u,u',f1,f2,hu,l1,l2⟩:=TK (N:=N) (m:=m) (Le.same w) hs 0 (by omega)
      rw [f1,f2,q0,q0,Aj _ l1,Aj _ l2]
      refine sx hC (l.map EW) l.length 0 (q8 ..) h2 (fun i hi=> ?_) l.length N 0 u u' (q6 _) (by omega) (by omega) hu
      rw [show(l.map EW)[i]! =EW (l[i]!)from by rw [zg _ i (by rw [q8];exact hi),zg l i hi,zm]]
      exact⟨hx i hi,vk _ (h3 _ (EI hi))⟩
    · rw [if_pos c,if_pos c];exact⟨_,_,rfl,rfl,fun q=>absurd q (by decide)⟩
  |_=>exact⟨_,_,rfl,rfl,fun q=>absurd q (by decide)⟩
theorem oK(hN:20000000<N)(hL:Lit m)(hR:Rg m):Tot (Fy N m):=by
  have h1:m.2.1.length≤1048576:=by have:=(hL.ti 1 (by omega)).2;simpa [Bt] using this
  have h4:m.2.2.2.2.1.length≤1048576:=by have:=(hL.ti 4 (by omega)).2;simpa [Bt] using this
  have h5:m.2.2.2.2.2.1.length≤1048576:=by have:=(hL.ti 5 (by omega)).2;simpa [Bt] using this
  have h6:m.2.2.2.2.2.2.1.length≤1048576:=by have:=(hL.ti 6 (by omega)).2;simpa [Bt] using this
  have il:=hL.il
  unfold Fy
  refine Tot.ck (by omega) (Tot.ck (by omega) (Tot.ck (by omega) (Tot.ck (by omega) (Tot.ck (by omega) (Tot.ck (by omega) (Tot.ite (fun _=>Tot.it _) (fun _=>(jf hN hL hR).bind fun _ _=>Tot.it _)))))))
end
set_option maxRecDepth 100000 in
theorem Yh:Fz 20000001=some true:=by decide+kernel
end Go.Proofs.YtoolcgbcfgnipaaGreatDoor
