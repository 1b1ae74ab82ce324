import Derived.Test.YtjlomkippigejaaGreatDoorRw
set_option linter.unusedSimpArgs false
set_option linter.unusedVariables false
namespace Go.Proofs.YtjlomkippigejaaGreatDoor
open Go Go.RowKit Go.Eng
def Sub(a b:W4):Prop:= ∀i,a.getLsbD i=true->b.getLsbD i=true
theorem Sub.same(a:W4):Sub a a:=λ_ h=>h
theorem Sub.trans{a b c:W4}(h:Sub a b)(g:Sub b c):Sub a c:=λi q=>g i (h i q)
theorem Sub.or{a b:W4}(c:W4)(h:Sub a b):Sub (a|||c) (b|||c):=λi q=>by
 rw [BitVec.getLsbD_or,Bool.or_eq_true] at q ⊢;exact q.imp (h i) id
theorem Sub.orl(a b:W4):Sub a (a|||b):=λi q=>by
 rw [BitVec.getLsbD_or,q];rfl
theorem Sub.and{a b c d:W4}(h:Sub a b)(g:Sub c d):Sub (a&&&c) (b&&&d):=λi q=>by
 rw [BitVec.getLsbD_and,Bool.and_eq_true] at q ⊢;exact⟨h i q.1,g i q.2⟩
theorem Sub.within{a b:W4}(h:Sub a b):((a&&&b)==a)=true:=by
 rw [beq_iff_eq];refine BitVec.eq_of_getLsbD_eq λi hi=> ?_
 rw [BitVec.getLsbD_and]
 cases e:a.getLsbD i with
 |true=>rw [h i e];rfl
 |false=>rfl
theorem Sub.ne{a b c:W4}(h:Sub a b)(q:((a&&&c) !=0#64)=true):((b&&&c) !=0#64)=true:=by
 rw [bne_iff_ne] at q ⊢
 intro e;apply q;refine BitVec.eq_of_getLsbD_eq λi hi=> ?_
 rw [BitVec.getLsbD_zero]
 cases d:(a&&&c).getLsbD i with
 |false=>rfl
 |true=>have:=(Sub.and h (Sub.same c)) i d;rw [e,BitVec.getLsbD_zero] at this;exact absurd this (by decide)
theorem ZB(N:Nat)(k:Int): ∃o,Iy N k=some o:=by
 unfold Iy
 have h1: ∀b,¬k<0\/b=true-> ∃o,Ju k b=some o:=λb h=>by
  unfold Ju
  cases b with
  |true=>exact⟨_,if_pos Z⟩
  |false=>rw [if_neg (by decide),Af _ (by rcases h with h|h;omega;cases h)];exact⟨_,Z⟩
 by_cases c:k<0
 ·rw [if_pos c];exact h1 _ (.inr Z)
 ·rw [if_neg c];exact h1 _ (.inl c)
def Pr(x y:Option (W4)):Prop:= ∃r r',x=some r/\y=some r'/\Sub r r'
theorem eE(N:Nat)(k:Int){s s':W4}(h:Sub s s'):Pr (BF N s k) (BF N s' k):=by
 obtain⟨o,e⟩:=ZB N k
 exact⟨_,_,by rw [BF,e];rfl,by rw [BF,e];rfl,h.or o⟩
theorem qi(N:Nat)(k:Int){s s':W4}(h:Sub s s'):Pr (some s) (BF N s' k):=by
 obtain⟨o,e⟩:=ZB N k
 exact⟨_,_,Z,by rw [BF,e];rfl,h.trans (Sub.orl _ _)⟩
theorem Tk(N:Nat)(k:Int){s s':W4}(h:Sub s s'):Pr (Bo N s k) (Bo N s' k):=by
 obtain⟨o,e⟩:=ZB N k
 exact⟨_,_,by rw [Bo,e];rfl,by rw [Bo,e];rfl,h.and (Sub.same _)⟩
theorem tZ(N:Nat)(k:Int){s s':W4}(h:Sub s s'): ∃b b',Ce N s k=some b/\Ce N s' k=some b'/\(b=true->b'=true):=by
 obtain⟨o,e⟩:=ZB N k
 exact⟨_,_,by rw [Ce,e];rfl,by rw [Ce,e];rfl,λq=>h.ne q⟩
section
variable {N:Nat} {m:Ao}
theorem vh(n:Int){s s':W4}(hs:Sub s s')(r4:Int×Int×Bool)(h0:0<=r4.1)(h1:r4.1<=1000000)(h2:r4.2.1<=4): ∀(k f:Nat) (i:Int) (a a':W4),Sub a a'->0<=i->i<=4->r4.2.1 - i<=(k:Int)->k<f->
  Pr (AL N n s r4 f a i) (AL N n s' r4 f a' i):=by
 intro k
 induction k with
 |zero=>
  intro f i a a' ha hi hi4 hk hf
  obtain⟨f,rfl⟩: ∃n,f=n+1:=⟨f - 1,by omega⟩
  rw [AL,AL,if_neg (by omega),if_neg (by omega)]
  exact⟨_,_,Z,Z,ha⟩
 |succ k ih=>
  intro f i a a' ha hi hi4 hk hf
  obtain⟨f,rfl⟩: ∃n,f=n+1:=⟨f - 1,by omega⟩
  by_cases c:i<r4.2.1
  ·obtain⟨w,w',e1,e2,hw⟩:=Tk N (r4.1+i) ha
   have go: ∀b b',Sub b b'->Pr (AL N n s r4 f b (i+1)) (AL N n s' r4 f b' (i+1)):=λb b' hb=>ih f (i+1) b b' hb (by omega) (by omega) (by omega) (by omega)
   have k5: ∀b b':Bool,(b=true->b'=true)->Pr (EF N r4 i (AL N n s r4 f) w b) (EF N r4 i (AL N n s' r4 f) w' b'):=λb b' hb=>by
    unfold EF
    cases b' with
    |false=>
     have:b=false:=by cases b with|false=>rfl|true=>exact absurd (hb Z) (by decide)
     subst this
     rw [if_neg (by decide),if_neg (by decide),Af _ (by omega),Af _ (by omega)];exact go _ _ hw
    |true=>
     rw [if_pos Z,Af (BF N w' (r4.1+i)|>.bind _) (by omega)]
     cases b with
     |false=>
      obtain⟨u,u',f1,f2,hu⟩:=qi N (r4.1+i) hw
      cases f1
      rw [if_neg (by decide),Af _ (by omega),f2,q0,Af _ (by omega)];exact go _ _ hu
     |true=>
      obtain⟨u,u',f1,f2,hu⟩:=eE N (r4.1+i) hw
      rw [if_pos Z,Af _ (by omega),f1,f2,q0,q0,Af _ (by omega),Af _ (by omega)];exact go _ _ hu
   have k4: ∀b:Bool,Pr (Fy N n s r4 i (AL N n s r4 f) w b) (Fy N n s' r4 i (AL N n s' r4 f) w' b):=λb=>by
    unfold Fy
    cases b with
    |false=>rw [if_neg (by decide),if_neg (by decide)];exact k5 _ _ id
    |true=>
     obtain⟨b,b',f1,f2,hb⟩:=tZ N (r4.1+(i - max (-4) (min n 4))) hs
     rw [if_pos Z,if_pos Z,Af _ (by omega),Af _ (by omega),f1,f2,q0,q0];exact k5 _ _ hb
   rw [AL,AL,if_pos c,if_pos c,Af _ (by omega),Af _ (by omega),e1,e2,q0,q0,Af _ (by omega),Af _ (by omega)]
   by_cases d:i - max (-4) (min n 4)>=0
   ·rw [if_pos d,if_pos d];exact k4 _
   ·rw [if_neg d,if_neg d];exact k4 _
  ·rw [AL,AL,if_neg c,if_neg c]
   exact⟨_,_,Z,Z,ha⟩
theorem eM(h:Ctx N m)(i:Int): ∃r,ED N m i=some r/\0<=r.1/\r.1<=1000000/\r.2.1<=4:=by
 have hil:=h.il
 rw [ED,Vy N (by have:=h.hN;omega) m.2.2.1 i h.ft.2.1,q0]
 unfold Wy
 by_cases c:0<=i/\i<(m.2.2.1.length:Int)/\dep (m.2.2.1[i.toNat]!).2.2≠0
 ·rw [if_pos c,if_pos Z,ckp (by omega)]
  split
  ·exact⟨_,Z,by decide,by decide,by decide⟩
  ·rw [Ic,ckp (by omega)]
   have h1:=Sq (m.2.2.1.take i.toNat)
   rw [q7] at h1
   refine⟨_,Z,by show(0:Int)<=(total _:Int);omega,by show(total _:Int)<=_;omega, ?_⟩
   have h2:=c.2.2
   unfold dep at h2
   by_cases d:0<=(m.2.2.1[i.toNat]!).2.2/\(m.2.2.1[i.toNat]!).2.2<=4
   ·exact d.2
   ·rw [if_neg d] at h2;exact absurd Z h2
 ·rw [if_neg c,if_neg (by decide)];exact⟨_,Z,by decide,by decide,by decide⟩
theorem vg(h:Ctx N m)(i n:Int){s s':W4}(hs:Sub s s'):Pr (Fs N m i n s) (Fs N m i n s'):=by
 obtain⟨r,e,h0,h1,h2⟩:=eM h i
 have hN:=h.hN
 rw [Fs,Fs,e,q0,q0]
 by_cases c:r.2.2=true
 ·rw [if_pos c,if_pos c];exact vh n hs r h0 h1 h2 4 N 0 s s' hs (by omega) (by omega) (by omega) (by omega)
 ·rw [if_neg c,if_neg c];exact⟨_,_,Z,Z,hs⟩
def eB:Aa0->Prop
 | .t169 _ _ n=> -1000<=n/\n<=1000
 |_=>True
def PrE(x y:Option (W4×Int)):Prop:= ∃r r',x=some r/\y=some r'/\(r.2=0->r'.2=0/\Sub r.1 r'.1)
theorem PrE.of{x y:Option (W4)}(h:Pr x y):PrE (x.bind λr=>some (r,0)) (y.bind λr=>some (r,0)):=by
 obtain⟨r,r',e1,e2,hs⟩:=h
 rw [e1,e2];exact⟨_,_,Z,Z,λ_=>⟨Z,hs⟩⟩
theorem uf(h:Ctx N m)(x:Aa0)(hx:eB x){s s':W4}(hs:Sub s s'):PrE (BD N m x s) (BD N m x s'):=by
 have same:PrE (some (s,0)) (some (s',0)):=⟨_,_,Z,Z,λ_=>⟨Z,hs⟩⟩
 unfold BD
 cases x with
 |nil=>exact same
 |t121 _ _=>exact same
 |t123 a _=>exact PrE.of (eE N a hs)
 |t125=>exact same
 |t164 _ a _=>
  obtain⟨b,b',e1,e2,hb⟩:=tZ N a hs
  show PrE ((Ce N s a).bind _) ((Ce N s' a).bind _)
  rw [e1,e2,q0,q0]
  cases b with
  |true=>rw [hb Z];exact same
  |false=>rw [if_neg (by decide)];cases b'<;>exact⟨_,_,Z,Z,λq=>absurd q (by decide)⟩
 |t166 o a=>
  refine PrE.of ?_
  unfold Gb
  by_cases c:o=25
  ·rw [if_pos c,if_pos c];obtain⟨r,r',e1,e2,hh⟩:=eE N a hs;rw [e1,e2];exact⟨_,_,Z,Z,hh⟩
  rw [if_neg c,if_neg c]
  by_cases c:o=26
  ·rw [if_pos c,if_pos c];obtain⟨r,r',e1,e2,hh⟩:=Tk N a hs;rw [e1,e2];exact⟨_,_,Z,Z,hh⟩
  rw [if_neg c,if_neg c];exact⟨_,_,Z,Z,hs⟩
 |t169 o a n=>
  have hn: -1000<=n/\n<=1000:=hx
  have hf: ∃k,Hx N o a n=some k:=by
   unfold Hx
   by_cases c:o=28
   ·rw [if_pos c,Af _ (by omega)];exact⟨_,Z⟩
   ·rw [if_neg c];exact⟨_,Z⟩
  obtain⟨k,e⟩:=hf
  show PrE ((Hx N o a n).bind _) ((Hx N o a n).bind _)
  rw [e,q0,q0]
  exact PrE.of (vg h a k hs)
 |t241 _ _=>exact same
 |t242 _ _=>exact same
 |t243 _ _=>exact same
 |t245 _ _=>exact same
 |t247 _=>exact same
end
end Go.Proofs.YtjlomkippigejaaGreatDoor
set_option linter.unusedSimpArgs false
set_option linter.unusedVariables false
namespace Go.Proofs.YtjlomkippigejaaGreatDoor
open Go Go.RowKit Go.Eng
section
variable {N:Nat} {m:Ao}
def Le(w a:List (Bool×W4)):Prop:=w.length=a.length/\ ∀j:Nat,(w[j]!).1=(a[j]!).1/\Sub (w[j]!).2 (a[j]!).2
theorem UN(w:List (Bool×W4))(k j:Nat)(hk:k<w.length)(v:Bool×W4):(w.set k v)[j]! =if j=k then v else w[j]!:=by
 by_cases c:j=k
 ·subst c;rw [if_pos Z,zg _ j (by rw [zl];exact hk)];simp
 ·rw [if_neg c]
  by_cases d:j<w.length
  ·rw [zg _ j (by rw [zl];exact d),zg _ j d,List.getElem_set_ne (λe=>c e.symm)]
  ·rw [getElem!_neg _ j (by rw [zl];exact d),getElem!_neg _ j d]
def Ut(x:Aa0)(n i:Nat):Prop:= ∀t,Og x=(t,true)->(i:Int)+1<=t/\t<=(n:Int)
def Vp(N:Nat)(m:Ao)(w:List (Bool×W4))(i:Nat)(x:Aa0)(a:W4×Int):Option (Int×List (Bool×W4)):=
 if(a.2:Int)≠0 then some (a.2,w)else ck (R64 ((i:Int)+1)) (Aa0.on x (Av N m a ((i:Int)+1) w) (λd c=>(AV N m w c a.1).bind λb=>ck ((b).length=(w).length) (if d=31 then some (0,b)else Av N m a ((i:Int)+1) b)) (λe f=>(Bo N ((w[(i:Int).toNat]!).2) e).bind λb=>(AV N m w f b).bind λg=>ck ((g).length=(w).length) (Av N m a ((i:Int)+1) g)) (ck ((R64 ((w.length:Int) - 1))) (Av N m a ((w.length:Int) - 1) w)) (λ_ _ _=>Av N m a ((i:Int)+1) w) (λ_ _=>Av N m a ((i:Int)+1) w) (λ_ _ _=>Av N m a ((i:Int)+1) w) (λ_ _=>Av N m a ((i:Int)+1) w) (λ_ _=>Av N m a ((i:Int)+1) w) (λ_ _=>Av N m a ((i:Int)+1) w) (λ_ _=>Av N m a ((i:Int)+1) w) (λ_=>Av N m a ((i:Int)+1) w))
theorem qA(w:List (Bool×W4))(i:Nat)(x:Aa0)(hi:i<w.length):CM N m w (i:Int) x=if(w[i]!).1=true then(BD N m x (w[i]!).2).bind (Vp N m w i x)else some (0,w):=by
 rw [CM,Af _ (by omega)];rfl
theorem vJ: ∀k:Nat,k<35->(k=27\/k=28)-> -1000<=(tab9[k]!).2.2.2.2.2.2.1/\(tab9[k]!).2.2.2.2.2.2.2.1<=1000:=by decide+kernel
theorem uc(x:I9)(h:NI x=0):eB (Ev x):=by
 obtain⟨o,a,b,w,v⟩:=x
 have h':OL o a b w v=0:=h
 have ho:=SG h'
 have hi:=ZI h'
 show eB (Hq o a b w v)
 unfold Hq
 repeat' split
 all_goals first
  |exact trivial
  |(rename_i c;have h1:=vJ o.toNat (by omega) (by omega);rw [show HZ o=tab9[o.toNat]! from Z] at hi;exact⟨by have:=hi.2.2.1;omega,by have:=hi.2.2.2.1;omega⟩)
theorem rT(h:Ctx N m)(pl:List Int)(hp:pl.length<=1048576)(l:List I9)(hl:l.length<=1048576)(hr:CoR l):Ans (HD N m pl l) ((Ub l).2.2=0/\ ∀i,i<l.length->Ut (Ev (l[i]!)) l.length i):=by
 have hN:=h.hN
 rw [HD]
 split
 ·exact⟨2,Z,λe=>absurd e (by decide)⟩
 rw [pR (by omega:20000000<N) l (by omega),q0]
 by_cases c:(Ub l).2.2=0
 ·obtain⟨h1,h2,h3⟩:=Vc c
  rw [if_neg (λq=>q c),h1]
  refine((Jd (by omega:20000000<N) (l.map Ev) (λi x=>Hc N i x m pl l) (λi=>Ut (Ev (l[i]!)) l.length i) (FA N (l.map Ev) m pl l) 64 (by decide) (λ_ _=>Z) (λ_ i hi=> ?_):Ans2 (Ix N (l.map Ev) 64 m pl l) _).imp λz=>⟨c,λi hi=>z.2 i (by rw [q8];exact hi)⟩).snd
  rw [q8] at hi
  rw [show(l.map Ev)[i]! =Ev (l[i]!)from by rw [zg _ i (by rw [q8];exact hi),zg l i hi,zm]]
  show Ans (Hc N (i:Int) (Ev (l[i]!)) m pl l) _
  obtain⟨b,e,p⟩:=fY h pl hp (l[i]!) (hr i hi)
  have lead: ∃q,Hm N (Ev (l[i]!)) (i:Int) ((l.length:Nat):Int)=some q/\(q=true->Ut (Ev (l[i]!)) l.length i):=by
   rw [Hm,bq,q0]
   by_cases c:(Og (Ev (l[i]!))).2=true
   ·rw [if_pos c,ckp (by omega),Fp,q0]
    exact⟨_,Z,λq t ht=>by rw [ht] at q;exact zd q⟩
   ·rw [if_neg c];exact⟨_,Z,λ_ t ht=>absurd (by rw [ht]) c⟩
  obtain⟨q,e2,p2⟩:=lead
  rw [Hc,ckp (by omega),q3,e,q0,e2]
  obtain⟨r1,u1,v1⟩:=Ans.un N b 5 (by decide)
  obtain⟨r2,u2,v2⟩:=Ans.un N q 12 (by decide)
  rw [u1,q0,q0,u2,q0]
  exact((Lk (by omega) r1 r2).imp λz=>p2 (v2 z.2)).pure
 ·rw [if_pos c];exact⟨_,Z,λq=>absurd q c⟩
theorem wa{l:List I9}(h:(Ub l).2.2=0):Ub l=(l.map Ev,(l.length:Int),0):=by
 obtain⟨h1,h2,h3⟩:=Vc h
 have e:TZ l=((l.length:Int),0):=by
  unfold TZ
  rw [WY _ _ _ (λx hx=>h3 x (List.mem_of_mem_take hx)),Nat.min_eq_left h2,if_neg (by omega)]
 unfold Ub at h1 ⊢
 rw [e] at h1 ⊢
 rfl
theorem xu(N:Nat)(hN:20000000<N):GX N=some [1,1,1,1,1,1,1,1]:=by
 obtain⟨n,rfl⟩: ∃n,N=n+8:=⟨N - 8,by omega⟩
 rfl
theorem qu(hN:20000000<N)(hL:Lit m)(hR:Rg m):Tot (Db N m):=by
 have h1:m.2.1.length<=1048576:=by have:=(hL.ti 1 (by omega)).2;simpa [By] using this
 have h4:m.2.2.2.2.1.length<=1048576:=by have:=(hL.ti 4 (by omega)).2;simpa [By] using this
 have h5:m.2.2.2.2.2.1.length<=1048576:=by have:=(hL.ti 5 (by omega)).2;simpa [By] using this
 have h6:m.2.2.2.2.2.2.1.length<=1048576:=by have:=(hL.ti 6 (by omega)).2;simpa [By] using this
 have il:=hL.il
 unfold Db
 refine Tot.ck (by omega) (Tot.ck (by omega) (Tot.ck (by omega) (Tot.ck (by omega) (Tot.ck (by omega) (Tot.ck (by omega) (Tot.ite (λ_=>Tot.it _) (λ_=>(kD hN hL hR).bind λ_ _=>Tot.it _)))))))
end
set_option maxRecDepth 100000 in
theorem ZK:EC 20000001=some true:=by decide+kernel
end Go.Proofs.YtjlomkippigejaaGreatDoor
set_option linter.unusedSimpArgs false
set_option linter.unusedVariables false
namespace Go.Proofs.YtjlomkippigejaaGreatDoor
open Go Go.RowKit Go.Eng
section
variable {N:Nat} {m:Ao}
def Post(w:List (Bool×W4))(q:Int)(o:W4):Prop:=(w[q.toNat]!).1=true/\Sub (w[q.toNat]!).2 o
def Keep(i:Nat)(w a:List (Bool×W4)):Prop:=a.length=w.length/\(∀j,j<=i->a[j]! =w[j]!)/\ ∀j:Nat,(w[j]!).1=true->(a[j]!).1=true/\Sub (a[j]!).2 (w[j]!).2
theorem Keep.same(i:Nat)(w:List (Bool×W4)):Keep i w w:=⟨Z,λ_ _=>Z,λj h=>⟨h,Sub.same _⟩⟩
theorem Keep.trans{i:Nat}{a b c:List (Bool×W4)}(h:Keep i a b)(g:Keep i b c):Keep i a c:=
 ⟨g.1.trans h.1,λj hj=>(g.2.1 j hj).trans (h.2.1 j hj),λj hj=>by obtain⟨p,q⟩:=h.2.2 j hj;obtain⟨p2,q2⟩:=g.2.2 j p;exact⟨p2,q2.trans q⟩⟩
theorem Keep.le{i k:Nat}{a b:List (Bool×W4)}(h:Keep i a b)(hk:k<=i):Keep k a b:=⟨h.1,λj hj=>h.2.1 j (by omega),h.2.2⟩
theorem Post.keep{i:Nat}{a b:List (Bool×W4)}{q:Int}{o:W4}(h:Post a q o)(g:Keep i a b):Post b q o:=by
 obtain⟨p,s⟩:=g.2.2 _ h.1;exact⟨p,s.trans h.2⟩
theorem Zy(w:List (Bool×W4))(i:Nat)(a:Int)(h0:(i:Int)<a/\a<(w.length:Int))(s:W4): ∃r,AV N m w a s=some r/\Keep i w r/\Post r a s:=by
 have ha:0<=a/\a<(w.length:Int):=by omega
 have hk:a.toNat<w.length:=by omega
 have key: ∀s',Sub s' s->((w[a.toNat]!).1=true->Sub s' (w[a.toNat]!).2)->Keep i w (w.set a.toNat (true,s'))/\Post (w.set a.toNat (true,s')) a s:=λs' h1 h2=>by
  refine⟨⟨zl ..,λj hj=> ?_,λj hj=> ?_⟩, ?_⟩
  ·rw [UN w _ j hk,if_neg (by omega)]
  ·rw [UN w _ j hk]
   by_cases c:j=a.toNat
   ·subst c;rw [if_pos Z];exact⟨Z,h2 hj⟩
   ·rw [if_neg c];exact⟨hj,Sub.same _⟩
  ·unfold Post;rw [UN w _ _ hk,if_pos Z];exact⟨Z,h1⟩
 have and1: ∀x y:W4,Sub (x&&&y) x/\Sub (x&&&y) y:=λx y=>⟨λi q=>by rw [BitVec.getLsbD_and,Bool.and_eq_true] at q;exact q.1,λi q=>by rw [BitVec.getLsbD_and,Bool.and_eq_true] at q;exact q.2⟩
 rw [AV,Af _ ha]
 by_cases c:(w[a.toNat]!).1=true
 ·rw [if_pos c,Af _ ha,Ik,q0,Dd,Af _ ha]
  exact⟨_,Z,key _ (and1 _ _).1 λ_=>(and1 _ _).2⟩
 ·rw [if_neg c,Dd,Af _ ha]
  exact⟨_,Z,key _ (Sub.same _) λq=>absurd q c⟩
theorem ru(w:List (Bool×W4))(i:Nat)(a:Int)(h0:(i:Int)<a/\a<(w.length:Int))(b:W4×Int): ∃r,Av N m b a w=some (0,r)/\Keep i w r/\Post r a b.1:=by
 obtain⟨r,e,k,p⟩:=Zy (N:=N) (m:=m) w i a h0 b.1
 exact⟨r,by rw [Av,e,q0,Af _ k.1],k,p⟩
def Edges(N n i:Nat)(x:Aa0)(S b:W4)(w:List (Bool×W4)):Prop:=
 match x with
 | .t121 o t=>Post w t b/\(o≠31->Post w ((i:Int)+1) b)
 | .t123 a t=>(∀u,Bo N S a=some u->Post w t u)/\Post w ((i:Int)+1) b
 | .t125=>Post w (n:Int) b
 |_=>Post w ((i:Int)+1) b
theorem Edges.keep{n i k:Nat}{x:Aa0}{S b:W4}{w w':List (Bool×W4)}(h:Edges N n i x S b w)(g:Keep k w w'):Edges N n i x S b w':=by
 cases x with
 |t121 o t=>exact⟨h.1.keep g,λc=>(h.2 c).keep g⟩
 |t123 a t=>exact⟨λu e=>(h.1 u e).keep g,h.2.keep g⟩
 |_=>exact Post.keep h g
theorem uu(w:List (Bool×W4))(n i:Nat)(hw:w.length=n+1)(hn:n<=64)(hi:i<n)(x:Aa0)(hx:Ut x n i)(b:W4×Int)(h1:b.2=0):
  ∃r,Vp N m w i x b=some (0,r)/\Keep i w r/\Edges N n i x (w[i]!).2 b.1 r:=by
 have hck:R64 ((i:Int)+1):=by omega
 have next:=ru (N:=N) (m:=m) w i ((i:Int)+1) (by omega) b
 unfold Vp
 rw [if_neg (λq=>q h1),Af _ hck]
 cases x with
 |nil=>exact next
 |t121 o t=>
  have ht:=hx t Z
  obtain⟨r,e1,k,p⟩:=Zy (N:=N) (m:=m) w i t (by omega) b.1
  show∃z,((AV N m w t b.1).bind _)=some (0,z)/\_
  rw [e1,q0,Af _ k.1]
  by_cases c:o=31
  ·rw [if_pos c];exact⟨_,Z,k,p,λq=>absurd c q⟩
  ·rw [if_neg c]
   obtain⟨r2,e2,k2,p2⟩:=ru (N:=N) (m:=m) r i ((i:Int)+1) (by have:=k.1;omega) b
   exact⟨_,e2,k.trans k2,p.keep k2,λ_=>p2⟩
 |t123 a t=>
  have ht:=hx t Z
  obtain⟨u,_,f1,_,_⟩:=Tk N a (Sub.same (w[i]!).2)
  obtain⟨r,e1,k,p⟩:=Zy (N:=N) (m:=m) w i t (by omega) u
  obtain⟨r2,e2,k2,p2⟩:=ru (N:=N) (m:=m) r i ((i:Int)+1) (by have:=k.1;omega) b
  show∃z,((Bo N (w[i]!).2 a).bind _)=some (0,z)/\_
  rw [f1,q0,e1,q0,Af _ k.1]
  exact⟨_,e2,k.trans k2,λu' h'=>by rw [f1] at h';cases h';exact p.keep k2,p2⟩
 |t125=>
  have hc1:R64 ((w.length:Int) - 1):=by omega
  show∃z,ck (R64 ((w.length:Int) - 1)) _=some (0,z)/\_
  rw [Af _ hc1,show(w.length:Int) - 1=(n:Int)by omega]
  exact ru w i (n:Int) (by omega) b
 |t164 _ _ _=>exact next
 |t166 _ _=>exact next
 |t169 _ _ _=>exact next
 |t241 _ _=>exact next
 |t242 _ _=>exact next
 |t243 _ _=>exact next
 |t245 _ _=>exact next
 |t247 _=>exact next
theorem uI(hC:Ctx N m)(w:List (Bool×W4))(n i:Nat)(hw:w.length=n+1)(hn:n<=64)(hi:i<n)(x:Aa0)(hx:Ut x n i)(hf:eB x):
  ∃r,CM N m w (i:Int) x=some r/\r.2.length=n+1/\(r.1=0->Keep i w r.2/\((w[i]!).1=true-> ∃b,BD N m x (w[i]!).2=some (b,0)/\Edges N n i x (w[i]!).2 b r.2)):=by
 rw [qA w i x (by omega)]
 by_cases c:(w[i]!).1=true
 ·rw [if_pos c]
  obtain⟨b,_,e,_,_⟩:=uf hC x hf (Sub.same (w[i]!).2)
  rw [e,q0]
  by_cases d:b.2=0
  ·obtain⟨r,e2,k,p⟩:=uu (N:=N) (m:=m) w n i hw hn hi x hx b d
   exact⟨_,e2,by rw [k.1];exact hw,λ_=>⟨k,λ_=>⟨b.1,by rw [<-d],p⟩⟩⟩
  ·exact⟨(b.2,w),by unfold Vp;rw [if_pos d],hw,λq=>absurd q d⟩
 ·rw [if_neg c];exact⟨_,Z,hw,λ_=>⟨Keep.same i w,λq=>absurd q c⟩⟩
theorem ui(hC:Ctx N m)(st:List Aa0)(n:Nat)(e:Int)(hst:st.length=n)(hn:n<=64)(hx: ∀i,i<n->Ut (st[i]!) n i/\eB (st[i]!)): ∀(k f i:Nat) (w:List (Bool×W4)),i+k=n->k<f->w.length=n+1->
  ∃r,GD N m (st,(n:Int),e) f (i:Int) w=some r/\(r.2.2=0-> ∃v,Keep i w v/\r.1=(v[n]!).2/\ ∀j,i<=j->j<n->(v[j]!).1=true-> ∃b,BD N m (st[j]!) (v[j]!).2=some (b,0)/\Edges N n j (st[j]!) (v[j]!).2 b v):=by
 intro k
 induction k with
 |zero=>
  intro f i w hi hf hw
  obtain⟨f,rfl⟩: ∃n,f=n+1:=⟨f - 1,by omega⟩
  obtain rfl:i=n:=by omega
  rw [GD,if_neg (show¬((i:Int)<(i:Int))by omega),Af _ (show 0<=(i:Int)/\(i:Int)<(w.length:Int)by omega)]
  exact⟨_,Z,λ_=>⟨w,Keep.same _ _,by rw [q3],λj h1 h2=>absurd h2 (by omega)⟩⟩
 |succ k ih=>
  intro f i w hi hf hw
  obtain⟨f,rfl⟩: ∃n,f=n+1:=⟨f - 1,by omega⟩
  have hi':i<n:=by omega
  obtain⟨r,e1,l1,hr⟩:=uI hC w n i hw hn hi' (st[i]!) (hx i hi').1 (hx i hi').2
  have hck:R64 ((i:Int)+1):=by omega
  rw [GD,if_pos (show(i:Int)<(n:Int)by omega),Af _ (show 0<=(i:Int)/\(i:Int)<(st.length:Int)by omega),q3]
  show∃z,((CM N m w (i:Int) (st[i]!)).bind _)=some z/\_
  rw [e1,q0,Af _ (show r.2.length=w.length by omega)]
  by_cases d:r.1=0
  ·obtain⟨kp,hp⟩:=hr d
   rw [if_neg (λq=>q d),Af _ hck,show((i:Int)+1)=((i+1:Nat):Int)by omega]
   obtain⟨z,ez,hz⟩:=ih f (i+1) r.2 (by omega) (by omega) l1
   refine⟨z,ez,λq=> ?_⟩
   obtain⟨v,kv,ev,pv⟩:=hz q
   refine⟨v,kp.trans (kv.le (by omega)),ev,λj h1 h2 h3=> ?_⟩
   by_cases c:j=i
   ·subst c
    have e3:v[j]! =w[j]!:=(kv.2.1 j (by omega)).trans (kp.2.1 j (by omega))
    rw [e3] at h3 ⊢
    obtain⟨b,eb,hb⟩:=hp h3
    exact⟨b,eb,hb.keep kv⟩
   ·exact pv j (by omega) h2 h3
  ·rw [if_pos d];exact⟨_,Z,λq=>absurd q d⟩
end
end Go.Proofs.YtjlomkippigejaaGreatDoor
namespace Go.Proofs.YtjlomkippigejaaGreatDoor
open Go Go.RowKit Go.Eng
theorem vH{c:Prop}[Decidable c]{α:Type}{x:Option α}(h:c):ck c x=x:=if_pos h
theorem xS(x:W4):((x%2#64)==(1#64))=x.getLsbD 0:=by
 rw [Bool.eq_iff_iff,beq_iff_eq]
 constructor
 ·intro h
  have:=congrArg BitVec.toNat h
  simp only [BitVec.toNat_umod,zn] at this
  simp only [BitVec.getLsbD,Nat.testBit_zero,decide_eq_true_eq];omega
 ·intro h
  apply BitVec.eq_of_toNat_eq
  simp only [BitVec.toNat_umod,zn]
  simp only [BitVec.getLsbD,Nat.testBit_zero,decide_eq_true_eq] at h;omega
theorem xQ(n:W4)(i:Nat):(n>>>i) / 2#64=n>>>(i+1):=by
 apply BitVec.eq_of_toNat_eq
 simp only [BitVec.toNat_udiv,BitVec.toNat_ushiftRight,zn,Nat.shiftRight_eq_div_pow,Nat.pow_succ]
 rw [Nat.div_div_eq_div_mul]
theorem lU(n:W4): ∀(j k i:Nat) (m:W4),j<k->i+j=64->(∀t,t<i->m.getLsbD t=n.getLsbD t)->Ex k (n>>>i) (i:Int) m=some n
 |0,k+1,i,m,_,hi,h=>by
  obtain rfl:i=64:=by omega
  rw [Ex,if_neg (by omega)]
  exact congrArg some (BitVec.eq_of_getLsbD_eq λt ht=>h t ht)
 |j+1,k+1,i,m,hk,hi,h=>by
  rw [Ex,if_pos (by omega),vH (by omega),vH (by omega),xQ,xS,q3]
  refine lU n j k (i+1) _ (by omega) (by omega) (λt ht=> ?_)
  rw [Pm _ _ _ _ (by omega)]
  split
  ·next e=>subst e;simp
  ·exact h t (by omega)
theorem vE{N:Nat}(hN:64<N)(n:W4):JN N n=some n:=by
 have:=lU n 64 N 0 (0#64) hN Z (λt ht=>absurd ht (Nat.not_lt_zero t))
 rwa [BitVec.ushiftRight_zero] at this
def onlyB(x:Int):W4:=if 0<=x/\x<64 then BitVec.twoPow 64 x.toNat else 0#64
theorem al(N:Nat)(x:Int):Iy N x=some (onlyB x):=by
 unfold Iy onlyB
 by_cases h:x<0
 ·rw [if_pos h,if_neg (by omega)];rfl
 ·rw [if_neg h]
  unfold Ju
  by_cases h2:x>=64
  ·rw [if_pos (zf h2),if_neg (by omega)]
  ·rw [if_neg (by simpa using h2),vH (by omega),if_pos (by omega),BitVec.twoPow_eq]
theorem Rn(x:Int)(t:Nat)(ht:t<64):(onlyB x).getLsbD t=decide (x=(t:Int)):=by
 unfold onlyB
 split
 ·rw [BitVec.getLsbD_twoPow,Bool.eq_iff_iff]
  simp only [Bool.and_eq_true,decide_eq_true_eq];omega
 ·rw [BitVec.getLsbD_zero,Eq.comm,decide_eq_false_iff_not];omega
theorem TU(s:W4)(x:Int)(t:Nat)(ht:t<64):(s|||onlyB x).getLsbD t=(s.getLsbD t||decide (x=(t:Int))):=by
 rw [BitVec.getLsbD_or,Rn x t ht]
theorem SU(s:W4)(x:Int)(t:Nat)(ht:t<64):(s&&&~~~onlyB x).getLsbD t=(s.getLsbD t&& !decide (x=(t:Int))):=by
 rw [BitVec.getLsbD_and,BitVec.getLsbD_not,Rn x t ht];simp [ht]
theorem ma(s:W4)(x:Int):((s&&&onlyB x) !=(0#64))=(decide (0<=x/\x<64)&&s.getLsbD x.toNat):=by
 by_cases h:0<=x/\x<64
 ·obtain⟨k,rfl⟩:=Int.eq_ofNat_of_zero_le h.1
  have hk:k<64:=by omega
  rw [zf h,Bool.true_and,q3,Bool.eq_iff_iff,bne_iff_ne]
  constructor
  ·intro hne
   cases hb:s.getLsbD k with
   |true=>rfl
   |false=>
    refine absurd (BitVec.eq_of_getLsbD_eq λt ht=> ?_) hne
    rw [BitVec.getLsbD_and,Rn _ t ht,BitVec.getLsbD_zero]
    by_cases e:t=k
    ·subst e;rw [hb];rfl
    ·rw [ze (by omega),Bool.and_false]
  ·intro hb e
   have:=congrArg (λz=>BitVec.getLsbD z k) e
   simp only [BitVec.getLsbD_and,Rn _ k hk,hb,BitVec.getLsbD_zero] at this
   simp at this
 ·rw [ze h,Bool.false_and,onlyB,if_neg h];simp
theorem fw(N:Nat)(s:W4)(x:Int):Ce N s x=some (decide (0<=x/\x<64)&&s.getLsbD x.toNat):=by
 unfold Ce;rw [al,q0,ma]
theorem SV(N:Nat)(s:W4)(x:Int):BF N s x=some (s|||onlyB x):=by
 unfold BF;rw [al];rfl
theorem Se(N:Nat)(s:W4)(x:Int):Bo N s x=some (s&&&~~~onlyB x):=by
 unfold Bo;rw [al];rfl
end Go.Proofs.YtjlomkippigejaaGreatDoor
