import Derived.Test.YtjlomkippigejaaGreatDoorIc
namespace Go.Proofs.YtjlomkippigejaaGreatDoor
open Go Go.RowKit Go.Eng
section
variable {N:Nat} {m:Ao}
theorem Vc{l:List I9}(h:(Ub l).2.2=0):(Ub l).1=l.map Ev/\l.length<=64/\ ∀x∈l,NI x=0:=by
 have hb:(TZ l).2=0:=h
 refine⟨by show(if(TZ l).2=0 then _ else _)=_;rw [if_pos hb], ?_⟩
 have key: ∀(r:List I9) (i:Nat) (d:Int×Int),(Yp i r d).2=0->d.2=0/\ ∀x∈r,NI x=0:=by
  intro r
  induction r with
  |nil=>exact λi d q=>⟨q,λx hx=>by cases hx⟩
  |cons y r ih=>
   intro i d q
   rw [Yp] at q
   by_cases c:NI y≠0
   ·rw [if_pos c] at q;exact absurd q c
   ·rw [if_neg c] at q
    obtain⟨h1,h2⟩:=ih (i+1) d q
    exact⟨h1,λx hx=>by rcases List.mem_cons.1 hx with rfl|hx;exact Decidable.not_not.1 c;exact h2 x hx⟩
 obtain⟨h1,h2⟩:=key _ _ _ hb
 have h3:l.length<=64:=by
  by_cases c:l.length>64
  ·rw [if_pos c] at h1;exact absurd (show(2:Int)=0 from h1) (by decide)
  ·omega
 exact⟨h3,by rw [j6 h3] at h2;exact h2⟩
theorem Ud(a b w:Int)(v:W3):Og (Hq 31 a b w v)=(a,true)/\Og (Hq 32 a b w v)=(a,true):=⟨Z,Z⟩
def CoR(l:List I9):Prop:= ∀i,i<l.length->Top (l[i]!).2.1
theorem rU(h:Ctx N m)(pl:List Int)(hp:pl.length<=1048576)(l:List I9)(hl:l.length<=1048576)(hr:CoR l)(i:Nat)(hi:i<l.length):Ans (Hc N (i:Int) (Ev (l[i]!)) m pl l) (iu N m pl l.length i (l[i]!)):=by
 have hN:=h.hN
 obtain⟨b,e,p⟩:=fY h pl hp (l[i]!) (hr i hi)
 have lead: ∃q,Hm N (Ev (l[i]!)) (i:Int) ((l.length:Nat):Int)=some q/\(q=true-> ∀t,Og (Ev (l[i]!))=(t,true)->(i:Int)+1<=t/\t<=(l.length:Int)):=by
  rw [Hm,bq,q0]
  by_cases c:(Og (Ev (l[i]!))).2=true
  ·rw [if_pos c,ckp (by omega),Fp,q0]
   exact⟨_,Z,λq t ht=>by rw [ht] at q;exact zd q⟩
  ·rw [if_neg c];exact⟨_,Z,λ_ t ht=>absurd (by rw [ht]) c⟩
 obtain⟨q,e2,p2⟩:=lead
 rw [Hc,ckp (by omega),q3,e,q0,e2]
 obtain⟨r1,u1,v1⟩:=Ans.un N b 5 (by decide)
 obtain⟨r2,u2,v2⟩:=Ans.un N q 12 (by decide)
 rw [u1,q0,q0,u2,q0]
 refine((Lk (by omega) r1 r2).imp λz=> ?_).pure
 obtain⟨g1,g2,g3,g4⟩:=p (v1 z.1)
 refine⟨g1,g2,g3,g4,λd=> ?_⟩
 have t:Og (Ev (l[i]!))=((l[i]!).2.1,true):=by
  generalize l[i]! =x at d
  obtain⟨o,a,b',w,v⟩:=x
  rcases d with d|d<;>(have d':o=_:=d;subst d')
  ·exact(Ud a b' w v).1
  ·exact(Ud a b' w v).2
 have:=p2 (v2 z.2) _ t
 omega
theorem cot(h:Ctx N m)(pl:List Int)(hp:pl.length<=1048576)(l:List I9)(hl:l.length<=1048576)(hr:CoR l):Ans (HD N m pl l) (∀i,i<l.length->iu N m pl l.length i (l[i]!)):=by
 have hN:=h.hN
 rw [HD]
 split
 ·exact⟨2,Z,λe=>absurd e (by decide)⟩
 rw [pR (by omega:20000000<N) l (by omega),q0]
 by_cases c:(Ub l).2.2=0
 ·obtain⟨h1,h2,h3⟩:=Vc c
  rw [if_neg (λq=>q c),h1]
  refine((Jd (by omega:20000000<N) (l.map Ev) (λi x=>Hc N i x m pl l) (λi=>iu N m pl l.length i (l[i]!)) (FA N (l.map Ev) m pl l) 64 (by decide) (λ_ _=>Z) (λ_ i hi=> ?_):Ans2 (Ix N (l.map Ev) 64 m pl l) _).imp λz i hi=>z.2 i (by rw [q8];exact hi)).snd
  rw [q8] at hi
  have:=rU h pl hp l hl hr i hi
  rwa [show(l.map Ev)[i]! =Ev (l[i]!)from by rw [zg _ i (by rw [q8];exact hi),zg l i hi,zm]]
 ·rw [if_pos c];exact⟨_,Z,λq=>absurd q c⟩
def tI(N:Nat)(m:Ao)(x:Act):Prop:= ∀i,i<x.2.2.length->iu N m x.2.1 x.2.2.length i (x.2.2[i]!)
theorem pT(h:Ctx N m)(x:Act)(hl:x.2.1.length<=1048576/\x.2.2.length<=1048576)(hr:CoR x.2.2):Ans (IG N m x.1 x.2.1 x.2.2) (tI N m x):=by
 have hN:=h.hN
 have he1:Ans2 (Ou N x.2.1 8) _:=Jd (by omega:20000000<N) x.2.1 (λi x=>Nr N i x) (λ_=>True) (Kz N x.2.1) 8 (by decide) (λ_ _=>Z) (λ_ i hi=>(RW N _).pure)
 obtain⟨r1,e1,_⟩:=he1
 obtain⟨r2,e2,p2⟩:=cot h x.2.1 (by omega) x.2.2 (by omega) hr
 rw [IG,e1,q0,e2,q0]
 exact((Lk (by omega) _ _).imp λz=>p2 z.2).pure
theorem fI{N:Nat}(hN:20000000<N)(l:List Int)(hl:l.length<=1048576)(v:Int): ∃b,Bp N l v=some b:=by
 have: ∀(k f i:Nat),i+k=l.length->k<f-> ∃r,CE l v f (i:Int)=some r:=by
  intro k
  induction k with
  |zero=>
   intro f i hi hf
   obtain⟨f,rfl⟩: ∃n,f=n+1:=⟨f - 1,by omega⟩
   rw [CE,if_neg (by omega)];exact⟨_,Z⟩
  |succ k ih=>
   intro f i hi hf
   obtain⟨f,rfl⟩: ∃n,f=n+1:=⟨f - 1,by omega⟩
   rw [CE,if_pos (by omega),ckp (by omega)]
   split
   ·exact⟨_,Z⟩
   ·rw [ckp (by omega),show(i:Int)+1=((i+1:Nat):Int)from by omega];exact ih f (i+1) (by omega) (by omega)
 obtain⟨r,e⟩:=this l.length N 0 (by omega) (by omega)
 rw [Bp,Il,show(0:Int)=((0:Nat):Int)from Z,e];exact⟨_,Z⟩
theorem mF(h:Ctx N m)(l:List Int)(hl:l.length<=1048576):Ans (IE N m l) True:=by
 have hN:=h.hN
 have he2:Ans2 (Ot N l 8 m) _:=Jd (by omega:20000000<N) l (λi x=>JC N i x m) (λ_=>True) (Ky N l m) 8 (by decide) (λ_ _=>Z) (λ_ i hi=>by
  rw [JC,show GA N m.2.2.2.2.2.1 (l[i]!)=_ from MB N m.2.2.2.2.2.1.length (by have:=h.ac;omega) (l[i]!),q0]
  exact((Ans.un N _ 5 (by decide)).imp λ_=>trivial).pure)
 obtain⟨r1,e1,_⟩:=he2
 have he3:Ans2 (Oq N l 8 l) _:=Jd (by omega:20000000<N) l (λi x=>JB N i x l) (λ_=>True) (Kx N l l) 8 (by decide) (λ_ _=>Z) (λ_ i hi=>by
  obtain⟨b,e⟩:=fI (N:=N) (by omega) ((l.take ((i:Int)).toNat).drop 0) (by rw [zk,q7];omega) (l[i]!)
  rw [JB,ckp (by omega),e,q0]
  exact((Ans.un N _ 6 (by decide)).imp λ_=>trivial).pure)
 obtain⟨r2,e2,_⟩:=he3
 rw [IE,e1,q0,e2,q0,DT,q0]
 exact((lX (by omega) _ _ _).imp λ_=>trivial).pure
theorem pQ(h:Ctx N m)(a:Int)(l:List (Int×W3))(hl:l.length<=1048576):Ans (Ji N m a l) True:=by
 have hN:=h.hN
 rw [Ji,show GA N m.2.2.2.2.2.1 a=_ from MB N m.2.2.2.2.2.1.length (by have:=h.ac;omega) a,q0]
 by_cases c:0<=a/\a<(m.2.2.2.2.2.1.length:Int)
 ·rw [zf c,if_pos Z,ckp c]
  by_cases d:(l.length:Int)=((m.2.2.2.2.2.1[a.toNat]!).2.1.length:Int)
  ·rw [if_neg (λq=>q d)]
   exact((Jd (by omega:20000000<N) l (λi x=>KT N i x.1 x.2 (m.2.2.2.2.2.1[a.toNat]!).2.1) (λ_=>True) (KD N l (m.2.2.2.2.2.1[a.toNat]!).2.1) (l.length:Int) (by omega) (λ_ _=>Z) (λ_ i hi=>by
    obtain⟨b,e⟩:=ZR N (l[i]!).1 (l[i]!).2 ((m.2.2.2.2.2.1[a.toNat]!).2.1[((i:Int)).toNat]!)
    rw [KT,ckp (by omega),e,q0]
    exact((Ans.un N _ 9 (by decide)).imp λ_=>trivial).pure):Ans2 (Oz N l (l.length:Int) (m.2.2.2.2.2.1[a.toNat]!).2.1) _).imp λ_=>trivial).snd
  ·rw [if_pos d];exact⟨2,Z,λq=>absurd q (by decide)⟩
 ·rw [ze c,if_neg (by decide)];exact⟨5,Z,λq=>absurd q (by decide)⟩
def TbR(x:Tab):Prop:= ∀i,i<x.2.2.1.length->Top (x.2.2.1[i]!).2.1
theorem qj(h:Ctx N m)(x:Tab)(hl:x.2.2.1.length<=1048576/\x.2.2.2.1.length<=1048576/\x.2.2.2.2.2.1.length<=1048576)(hr:TbR x):Ans (Jq N m x.1 x.2.1 x.2.2.1 x.2.2.2.1 x.2.2.2.2.1 x.2.2.2.2.2.1 x.2.2.2.2.2.2) True:=by
 have hN:=h.hN
 obtain⟨r1,e1,_⟩:=mE h x.2.2.1 (by omega) hr 2 (by decide)
 obtain⟨r2,e2,_⟩:=mF h x.2.2.2.1 (by omega)
 obtain⟨r3,e3⟩:=fI (N:=N) (by omega) x.2.2.2.1 (by omega) x.2.2.2.2.1
 obtain⟨r4,e4,_⟩:=pQ h x.2.2.2.2.1 x.2.2.2.2.2.1 (by omega)
 rw [Jq,iy,q0,DT,q0,DT,q0,e1,q0,e2,q0,e3,q0,DT,q0,e4,q0,Fp,q0,DT,q0]
 exact((UW (by omega) _ (by simp)).imp λ_=>trivial).pure
def wc(m:Ao)(n i:Nat)(x:Nod):Prop:=((i:Int)<x.2.2.2.2.1/\x.2.2.2.2.1<=(n:Int))/\(x.1=0->0<=x.2.1/\x.2.1<(m.2.2.2.2.2.2.1.length:Int))
theorem bS(h:Ctx N m)(x:Nod)(hx:Top x.2.1):Ans (GW N m x.1 x.2.1 x.2.2.1 x.2.2.2.1 x.2.2.2.2.1 x.2.2.2.2.2) (x.1=0->0<=x.2.1/\x.2.1<(m.2.2.2.2.2.2.1.length:Int)):=by
 rw [GW]
 by_cases c0:x.1=0
 ·rw [if_pos c0,show LT N m.2.2.2.2.2.2.1 x.2.1=_ from MB N m.2.2.2.2.2.2.1.length (by have:=h.tb;omega) x.2.1,q0]
  exact((Ans.un N _ 5 (by decide)).imp λq _=>zd q).pure
 rw [if_neg c0]
 by_cases c1:x.1=1
 ·rw [if_pos c1];exact((Ans.un N _ 5 (by decide)).imp λ_ q=>absurd q c0).pure
 rw [if_neg c1]
 by_cases c2:x.1=2
 ·rw [if_pos c2,show GA N m.2.2.2.2.2.1 x.2.1=_ from MB N m.2.2.2.2.2.1.length (by have:=h.ac;omega) x.2.1,q0]
  exact((Ans.un N _ 5 (by decide)).imp λ_ q=>absurd q c0).pure
 rw [if_neg c2]
 by_cases c3:x.1=3
 ·obtain⟨b,e⟩:=VX h x.2.1 hx
  rw [if_pos c3,e,q0];exact((Ans.un N _ 5 (by decide)).imp λ_ q=>absurd q c0).pure
 ·rw [if_neg c3];exact⟨10,Z,λq=>absurd q (by decide)⟩
theorem bT(h:Ctx N m)(x:Nod)(i n:Nat)(hi:i<=1048576):Ans (GV N x.1 x.2.1 x.2.2.1 x.2.2.2.1 x.2.2.2.2.1 x.2.2.2.2.2 (i:Int) (n:Int)) ((i:Int)<x.2.2.2.2.1/\x.2.2.2.2.1<=(n:Int)):=by
 have hN:=h.hN
 obtain⟨r1,u1,v1⟩:=Ans.un N (decide ((i:Int)+1<=x.2.2.2.2.1/\x.2.2.2.2.1<=(n:Int))) 12 (by decide)
 rw [GV,ckp (by omega),Fp,q0,u1,q0]
 split
 ·rw [DT,q0]
  exact((Lk (by omega) _ _).imp λz=>by have:=zd (v1 z.2);omega).pure
 ·rw [ckp (by omega),Fp,q0,DT,q0]
  exact((Lk (by omega) _ _).imp λz=>by have:=zd (v1 z.1);omega).pure
def NdR(x:Nod):Prop:=Top x.2.1/\CoR x.2.2.1
theorem ve(h:Ctx N m)(l:List Nod)(i:Nat)(hi:i<l.length)(hl:l.length<=1048576)(hx:(l[i]!).2.2.1.length<=1048576/\(l[i]!).2.2.2.1.length<=1048576)(hr:NdR (l[i]!)):
  Ans (IY N (i:Int) (l[i]!).1 (l[i]!).2.1 (l[i]!).2.2.1 (l[i]!).2.2.2.1 (l[i]!).2.2.2.2.1 (l[i]!).2.2.2.2.2 m l) (wc m l.length i (l[i]!)):=by
 have hN:=h.hN
 obtain⟨r1,e1,p1⟩:=bS h (l[i]!) hr.1
 have c:Ans (Hv N m (l[i]!).1 (l[i]!).2.1 (l[i]!).2.2.1 (l[i]!).2.2.2.1 (l[i]!).2.2.2.2.1 (l[i]!).2.2.2.2.2) True:=by
  rw [Hv]
  split
  ·exact((cot h [] (by decide) _ (by omega) hr.2).imp λ_=>trivial).pure
  ·exact((Ans.un N _ 4 (by decide)).imp λ_=>trivial).pure
 have a:Ans (Hw N m (l[i]!).1 (l[i]!).2.1 (l[i]!).2.2.1 (l[i]!).2.2.2.1 (l[i]!).2.2.2.2.1 (l[i]!).2.2.2.2.2) True:=by
  rw [Hw]
  split
  ·exact(pQ h _ _ (by omega)).pure
  ·exact((Ans.un N _ 4 (by decide)).imp λ_=>trivial).pure
 obtain⟨r2,e2,_⟩:=c
 obtain⟨r3,e3,_⟩:=a
 obtain⟨r4,e4,p4⟩:=bT h (l[i]!) i l.length (by omega)
 rw [IY,e1,q0,e2,q0,e3,q0,e4,q0]
 exact((aF (by omega) _ _ _ _).imp λz=>⟨p4 z.2.2.2,p1 z.1⟩).pure
theorem gu(h:Ctx N m)(l:List Nod)(hl:l.length<=1048576)(hx: ∀i,i<l.length->(l[i]!).2.2.1.length<=1048576/\(l[i]!).2.2.2.1.length<=1048576)(hr: ∀i,i<l.length->NdR (l[i]!)):
  Ans2 (KI N m l) (∀i,i<l.length->wc m l.length i (l[i]!)):=by
 have hN:=h.hN
 rw [KI]
 exact((Jd (by omega:20000000<N) l (λi x=>IY N i x.1 x.2.1 x.2.2.1 x.2.2.2.1 x.2.2.2.2.1 x.2.2.2.2.2 m l) _ (JF N l m l) 32 (by decide) (λ_ _=>Z) (λhm i hi=>ve h l i hi (by omega) (hx i hi) (hr i hi)):Ans2 (Np N l 32 m l) _).imp λz=>z.2).pure
theorem jw(h:Ctx N m)(hl:m.2.2.2.2.2.2.2.2.2.1.length<=1048576)(hr: ∀i,i<m.2.2.2.2.2.2.2.2.2.1.length->Top (m.2.2.2.2.2.2.2.2.2.1[i]!)):Ans2 (HS N m) True:=by
 have hN:=h.hN
 rw [HS]
 exact((Jd (by omega:20000000<N) m.2.2.2.2.2.2.2.2.2.1 (λi x=>IZ N i x m) (λ_=>True) (Kw N m.2.2.2.2.2.2.2.2.2.1 m) 32 (by decide) (λ_ _=>Z) (λ_ i hi=>by
  obtain⟨b,e⟩:=VX h (m.2.2.2.2.2.2.2.2.2.1[i]!) (hr i hi)
  obtain⟨b2,e2⟩:=fI (N:=N) (by omega) ((m.2.2.2.2.2.2.2.2.2.1.take ((i:Int)).toNat).drop 0) (by rw [zk,q7];omega) (m.2.2.2.2.2.2.2.2.2.1[i]!)
  rw [IZ,e,q0,DT,q0,ckp (by omega),e2,q0,DT,q0]
  exact((Lk (by omega) _ _).imp λ_=>trivial).pure):Ans2 (Oo N m.2.2.2.2.2.2.2.2.2.1 32 m) _).imp λ_=>trivial).pure
theorem wS(h:Ctx N m)(k f:Int): ∃r,JD N (hdL m.2.1 m.2.2.1 k).1 (hdL m.2.1 m.2.2.1 k).2.1 (hdL m.2.1 m.2.2.1 k).2.2.1 (hdL m.2.1 m.2.2.1 k).2.2.2.1 (hdL m.2.1 m.2.2.1 k).2.2.2.2.1 (hdL m.2.1 m.2.2.1 k).2.2.2.2.2.1 f=some r/\0<=r.1/\r.1<=9223372036854775807:=by
 have hN:=h.hN
 have key: ∀l:List Fd,okW l->l.length<=1048576-> ∀(a:W2) (b c d e:Int),∃r,JD N a l b c d e f=some r/\0<=r.1/\r.1<=9223372036854775807:=by
  intro l hw hl a b c d e
  rw [JD,ckp (by omega),IK,q0]
  by_cases q:0<=f/\f<=(l.length:Int) - 1
  ·have hw2:okW (l.take f.toNat):=λx hx=>hw x (List.mem_of_mem_take hx)
   have h40:(l.take f.toNat).length<=1048576:=by rw [q7];omega
   have:=Ol _ hw2
   rw [zf q,if_pos Z,ckp (by omega),j0,fW N (by omega) _ hw2 h40,q0]
   exact⟨_,Z,this.1,by show JK _<=_;omega⟩
  ·rw [ze q,if_neg (by decide)];exact⟨_,Z,by decide,by decide⟩
 rcases fo m.2.1 m.2.2.1 k with⟨x,hx,e⟩|e
 ·have hl:=(h.hh x hx)
  rw [e];exact key x.2.1 (gA hl.2).1 (by have:=hl.1.1;omega) _ _ _ _ _
 ·rw [e];exact key [] (λx hx=>by cases hx) (by decide) _ _ _ _ _
theorem jX(h:Ctx N m)(l:List (Int×Int))(hl:l.length<=1048576)(hr: ∀i,i<l.length->Top (l[i]!).1):Ans2 (Lq N m l) True:=by
 have hN:=h.hN
 rw [Lq]
 exact((Jd (by omega:20000000<N) l (λi x=>KQ N i x.1 x.2 m) (λ_=>True) (KE N l m) 4 (by decide) (λ_ _=>Z) (λ_ i hi=>by
  obtain⟨r,e,o1,o2⟩:=wS h (l[i]!).1 (l[i]!).2
  obtain⟨q,e2⟩:=aG h (l[i]!).1 (l[i]!).2 (hr i hi)
  rw [KQ,kf h _ (hr i hi),q0,e,q0,e2,q0,DT,q0]
  split
  ·rw [ckp ⟨o1,o2⟩,DT,q0];exact((Lk (by omega) _ _).imp λ_=>trivial).pure
  ·rw [DT,q0];exact((Lk (by omega) _ _).imp λ_=>trivial).pure):Ans2 (OA N l 4 m) _).imp λ_=>trivial).pure
end
abbrev Mtr:=W2×Int×Int×Int
theorem PS{α:Type}[Inhabited α]{N:Nat}(hN:20000000<N)(l:List α)(g:α->W2)(hb:brf (l.map g))(gat:Option (List (W2)))(hg:gat=some (l.map g))(eac:List (W2)->Option (Int×Int))(P:Prop)
  (he:Ans2 (eac (l.map g)) P):Ans2 ((gat.bind λr4=>(eac r4).bind λr11=>some (r11.1,r11.2)).bind λr4=>some (r4.1,r4.2)) P:=by
 obtain⟨r,e,p⟩:=he
 exact⟨r,by rw [hg,q0,e];rfl,p⟩
section
variable {N:Nat} {m:Ao}
theorem nm1{α:Type}[Inhabited α]{N:Nat}(hN:20000000<N)(l:List α)(g:α->W2)(hb:brf (l.map g)){A:Option Int}{P:Prop}(i:Nat)(hi:i<l.length)(hA:Ans A P):
  Ans (ck (0<=(i:Int)/\(i:Int)<(((l.map g)).length:Int)) ((EZ N ((l.map g)[((i:Int)).toNat]!)).bind λr5=>(Ap N r5 4).bind λr7=>(Ba N (l.map g) (i:Int)).bind λr9=>A.bind λr11=>(AI N ([r7,r9,r11])).bind λr16=>some r16)) P:=
 lc hN (l.map g) hb i (by rw [q8];exact hi) hA
theorem qY(hN:20000000<N)(hL:Lit m):Ans2 (KK N m) True:=by
 have hb:brf (m.2.2.2.1.map (λx:Fd=>x.1)):=hL.ti 3 (by omega)
 have hl:m.2.2.2.1.length<=1048576:=by have:=hb.2;rwa [q8] at this
 exact PS hN m.2.2.2.1 (λx:Fd=>x.1) hb _ (QS (N:=N) (by omega) m.2.2.2.1 (λx:Fd=>x.1) (IT N m.2.2.2.1) (by omega) (λ_ _ _=>Z)) (MI N m.2.2.2.1 16) True
  ((Jd (by omega:20000000<N) m.2.2.2.1 (λ(i:Int) (x:Fd)=>Lc N i x.1 x.2 (m.2.2.2.1.map (λx:Fd=>x.1))) (λ_=>True) (IX N m.2.2.2.1 (m.2.2.2.1.map (λx:Fd=>x.1))) 16 (by decide) (λ_ _=>Z)
   (λ_ i hi=>nm1 hN m.2.2.2.1 (λx:Fd=>x.1) hb i hi (RW N _).pure)).imp λ_=>trivial)
theorem uv(hN:20000000<N)(hL:Lit m):Ans2 (Lr N m) True:=by
 have hb:brf (m.2.2.2.2.2.2.2.2.2.2.2.2.1.map (λx:Ins=>x.1)):=hL.ti 12 (by omega)
 have hl:m.2.2.2.2.2.2.2.2.2.2.2.2.1.length<=1048576:=by have:=hb.2;rwa [q8] at this
 exact PS hN m.2.2.2.2.2.2.2.2.2.2.2.2.1 (λx:Ins=>x.1) hb _ (QS (N:=N) (by omega) m.2.2.2.2.2.2.2.2.2.2.2.2.1 (λx:Ins=>x.1) (KC N m.2.2.2.2.2.2.2.2.2.2.2.2.1) (by omega) (λ_ _ _=>Z)) (OB N m.2.2.2.2.2.2.2.2.2.2.2.2.1 8) True
  ((Jd (by omega:20000000<N) m.2.2.2.2.2.2.2.2.2.2.2.2.1 (λ(i:Int) (x:Ins)=>ME N i x.1 x.2.1 x.2.2 (m.2.2.2.2.2.2.2.2.2.2.2.2.1.map (λx:Ins=>x.1))) (λ_=>True) (KF N m.2.2.2.2.2.2.2.2.2.2.2.2.1 (m.2.2.2.2.2.2.2.2.2.2.2.2.1.map (λx:Ins=>x.1))) 8 (by decide) (λ_ _=>Z)
   (λ_ i hi=>nm1 hN m.2.2.2.2.2.2.2.2.2.2.2.2.1 (λx:Ins=>x.1) hb i hi (by
    obtain⟨a,e1,_⟩:=RW N (m.2.2.2.2.2.2.2.2.2.2.2.2.1[i]!).2.1
    obtain⟨b,e2,_⟩:=VG N (m.2.2.2.2.2.2.2.2.2.2.2.2.1[i]!).2.2
    show Ans (Mp N _ _ _) True
    rw [Mp,e1,q0,e2,q0]
    exact((Lk (by omega) _ _).imp λ_=>trivial).pure))).imp λ_=>trivial)
theorem fG(hN:20000000<N)(hL:Lit m):Ans2 (Ii N m) True:=by
 have hb:brf (m.2.2.2.2.2.2.2.2.2.2.2.2.2.1.map (λx:Fd=>x.1)):=hL.ti 13 (by omega)
 have hl:m.2.2.2.2.2.2.2.2.2.2.2.2.2.1.length<=1048576:=by have:=hb.2;rwa [q8] at this
 exact PS hN m.2.2.2.2.2.2.2.2.2.2.2.2.2.1 (λx:Fd=>x.1) hb _ (QS (N:=N) (by omega) m.2.2.2.2.2.2.2.2.2.2.2.2.2.1 (λx:Fd=>x.1) (HF N m.2.2.2.2.2.2.2.2.2.2.2.2.2.1) (by omega) (λ_ _ _=>Z)) (Ld N m.2.2.2.2.2.2.2.2.2.2.2.2.2.1 8) True
  ((Jd (by omega:20000000<N) m.2.2.2.2.2.2.2.2.2.2.2.2.2.1 (λ(i:Int) (x:Fd)=>JQ N i x.1 x.2 (m.2.2.2.2.2.2.2.2.2.2.2.2.2.1.map (λx:Fd=>x.1))) (λ_=>True) (HG N m.2.2.2.2.2.2.2.2.2.2.2.2.2.1 (m.2.2.2.2.2.2.2.2.2.2.2.2.2.1.map (λx:Fd=>x.1))) 8 (by decide) (λ_ _=>Z)
   (λ_ i hi=>nm1 hN m.2.2.2.2.2.2.2.2.2.2.2.2.2.1 (λx:Fd=>x.1) hb i hi (VG N _).pure)).imp λ_=>trivial)
theorem lg(hN:20000000<N)(hL:Lit m):Ans2 (JI N m) True:=by
 have hb:brf (m.2.2.2.2.2.2.2.2.2.2.2.2.2.2.1.map (λx:Mtr=>x.1)):=hL.ti 14 (by omega)
 have hl:m.2.2.2.2.2.2.2.2.2.2.2.2.2.2.1.length<=1048576:=by have:=hb.2;rwa [q8] at this
 exact PS hN m.2.2.2.2.2.2.2.2.2.2.2.2.2.2.1 (λx:Mtr=>x.1) hb _ (QS (N:=N) (by omega) m.2.2.2.2.2.2.2.2.2.2.2.2.2.2.1 (λx:Mtr=>x.1) (IS N m.2.2.2.2.2.2.2.2.2.2.2.2.2.2.1) (by omega) (λ_ _ _=>Z)) (MH N m.2.2.2.2.2.2.2.2.2.2.2.2.2.2.1 8) True
  ((Jd (by omega:20000000<N) m.2.2.2.2.2.2.2.2.2.2.2.2.2.2.1 (λ(i:Int) (x:Mtr)=>Lb N i x.1 x.2.1 x.2.2.1 x.2.2.2 (m.2.2.2.2.2.2.2.2.2.2.2.2.2.2.1.map (λx:Mtr=>x.1))) (λ_=>True) (IW N m.2.2.2.2.2.2.2.2.2.2.2.2.2.2.1 (m.2.2.2.2.2.2.2.2.2.2.2.2.2.2.1.map (λx:Mtr=>x.1))) 8 (by decide) (λ_ _=>Z)
   (λ_ i hi=>nm1 hN m.2.2.2.2.2.2.2.2.2.2.2.2.2.2.1 (λx:Mtr=>x.1) hb i hi (by
    obtain⟨a,e1,_⟩:=VG N (m.2.2.2.2.2.2.2.2.2.2.2.2.2.2.1[i]!).2.1
    have k2: ∀b:Bool,Ans (JJ N (m.2.2.2.2.2.2.2.2.2.2.2.2.2.2.1[i]!).2.1 b) True:=λb=>by
     rw [JJ,e1,q0,DT,q0]
     exact((Lk (by omega) _ _).imp λ_=>trivial).pure
    show Ans (KJ N _ _ _ _) True
    rw [KJ,Fp,q0]
    split
    ·rw [Fp,q0];exact k2 _
    ·exact k2 _))).imp λ_=>trivial)
theorem ka(h:Ctx N m)(hr: ∀s∈m.2.2.2.2.1,StR s):Ans2 (IB N m) (∀i,i<m.2.2.2.2.1.length->StOk m (m.2.2.2.2.1[i]!)):=by
 have hN:=h.hN
 have hb:brf (m.2.2.2.2.1.map (λx:Stt=>x.1)):=h.hL.ti 4 (by omega)
 have hl:=h.st
 rw [IB]
 split
 ·exact⟨(0,5),Z,λq=>absurd q (by decide)⟩
 exact PS hN m.2.2.2.2.1 (λx:Stt=>x.1) hb _ (QS (N:=N) (by omega) m.2.2.2.2.1 (λx:Stt=>x.1) (IR N m.2.2.2.2.1) (by omega) (λ_ _ _=>Z)) (λr=>MG N m.2.2.2.2.1 16 r m) _
  ((Jd (by omega:20000000<N) m.2.2.2.2.1 (λ(i:Int) (x:Stt)=>La N i x.1 x.2.1 x.2.2.1 x.2.2.2.1 x.2.2.2.2 (m.2.2.2.2.1.map (λx:Stt=>x.1)) m) (λi=>StOk m (m.2.2.2.2.1[i]!)) (IV N m.2.2.2.2.1 (m.2.2.2.2.1.map (λx:Stt=>x.1)) m) 16 (by decide) (λ_ _=>Z)
   (λ_ i hi=>nm1 hN m.2.2.2.2.1 (λx:Stt=>x.1) hb i hi (ql h _ (by have:=h.hL.st i hi;omega) (hr _ (Fa hi))))).imp λz=>z.2)
theorem jH(h:Ctx N m)(hr: ∀s∈m.2.2.2.2.2.1,CoR s.2.2):Ans2 (Ja N m) (∀i,i<m.2.2.2.2.2.1.length->tI N m (m.2.2.2.2.2.1[i]!)):=by
 have hN:=h.hN
 have hb:brf (m.2.2.2.2.2.1.map (λx:Act=>x.1)):=h.hL.ti 5 (by omega)
 have hl:=h.ac
 exact PS hN m.2.2.2.2.2.1 (λx:Act=>x.1) hb _ (QS (N:=N) (by omega) m.2.2.2.2.2.1 (λx:Act=>x.1) (If N m.2.2.2.2.2.1) (by omega) (λ_ _ _=>Z)) (λr=>Ma N m.2.2.2.2.2.1 32 r m) _
  ((Jd (by omega:20000000<N) m.2.2.2.2.2.1 (λ(i:Int) (x:Act)=>KB N i x.1 x.2.1 x.2.2 (m.2.2.2.2.2.1.map (λx:Act=>x.1)) m) (λi=>tI N m (m.2.2.2.2.2.1[i]!)) (Ih N m.2.2.2.2.2.1 (m.2.2.2.2.2.1.map (λx:Act=>x.1)) m) 32 (by decide) (λ_ _=>Z)
   (λ_ i hi=>nm1 hN m.2.2.2.2.2.1 (λx:Act=>x.1) hb i hi (pT h _ (by have:=h.hL.ac i hi;omega) (hr _ (Fa hi))))).imp λz=>z.2)
theorem jW(h:Ctx N m)(hr: ∀s∈m.2.2.2.2.2.2.1,TbR s):Ans2 (JH N m) True:=by
 have hN:=h.hN
 have hb:brf (m.2.2.2.2.2.2.1.map (λx:Tab=>x.1)):=h.hL.ti 6 (by omega)
 have hl:=h.tb
 exact PS hN m.2.2.2.2.2.2.1 (λx:Tab=>x.1) hb _ (QS (N:=N) (by omega) m.2.2.2.2.2.2.1 (λx:Tab=>x.1) (IQ N m.2.2.2.2.2.2.1) (by omega) (λ_ _ _=>Z)) (λr=>MF N m.2.2.2.2.2.2.1 8 r m) _
  ((Jd (by omega:20000000<N) m.2.2.2.2.2.2.1 (λ(i:Int) (x:Tab)=>KZ N i x.1 x.2.1 x.2.2.1 x.2.2.2.1 x.2.2.2.2.1 x.2.2.2.2.2.1 x.2.2.2.2.2.2 (m.2.2.2.2.2.2.1.map (λx:Tab=>x.1)) m) (λ_=>True) (IU N m.2.2.2.2.2.2.1 (m.2.2.2.2.2.2.1.map (λx:Tab=>x.1)) m) 8 (by decide) (λ_ _=>Z)
   (λ_ i hi=>nm1 hN m.2.2.2.2.2.2.1 (λx:Tab=>x.1) hb i hi (qj h _ (by have:=h.hL.tb i hi;omega) (hr _ (Fa hi))))).imp λ_=>trivial)
theorem imt(hN:20000000<N)(hL:Lit m):Ans2 (Jt N m) (0<m.1.length/\1<=m.2.2.2.2.2.2.2.2.2.2.2.2.2.2.2.1):=by
 have h1:=hL.nm
 have k2: ∀b:Bool,∃r,ID N m b=some r/\(r.2=0->0<m.1.length/\b=true):=λb=>by
  obtain⟨r1,u1,v1⟩:=Ans.un N (bV (Ac5 m.1)) 4 (by decide)
  obtain⟨r2,u2,v2⟩:=Ans.un N b 7 (by decide)
  obtain⟨r3,u3,v3⟩:=Lk (N:=N) (by omega) r1 r2
  rw [ID,tS N m.1 (by omega),q0,u1,q0,u2,q0,u3,q0]
  refine⟨_,Z,λq=>⟨?_,v2 (v3 q).2⟩⟩
  have:=v1 (v3 q).1
  rcases Nat.eq_zero_or_pos m.1.length with c|c
  ·rw [List.length_eq_zero_iff.1 c] at this;exact absurd this (by decide+kernel)
  ·exact c
 rw [Jt,Fp,q0]
 by_cases c:1<=m.2.2.2.2.2.2.2.2.2.2.2.2.2.2.2.1/\m.2.2.2.2.2.2.2.2.2.2.2.2.2.2.2.1<=64
 ·rw [zf c,if_pos Z,Fp,q0]
  split
  ·rw [Fp,q0]
   obtain⟨r,e,p⟩:=k2 (decide (0<=m.2.2.2.2.2.2.2.2.2.2.2.2.2.2.2.2.2/\m.2.2.2.2.2.2.2.2.2.2.2.2.2.2.2.2.2<=4))
   exact⟨r,e,λq=>⟨(p q).1,c.1⟩⟩
  ·obtain⟨r,e,p⟩:=k2 false
   exact⟨r,e,λq=>⟨(p q).1,c.1⟩⟩
 ·rw [ze c,if_neg (by decide)]
  obtain⟨r,e,p⟩:=k2 false
  exact⟨r,e,λq=>absurd (p q).2 (by decide)⟩
theorem qn(hN:20000000<N)(x:Hd)(h0:x.1.length<=1048576)(h1:x.2.1.length<=1048576)(h2: ∀j,j<x.2.1.length->(x.2.1[j]!).1.length<=1048576):Ans (Jn N x.1 x.2.1 x.2.2.1 x.2.2.2.1 x.2.2.2.2.1 x.2.2.2.2.2) (Lt x.1 x.2.1/\RX x.1 x.2.1 x.2.2.1 x.2.2.2.1 x.2.2.2.2.1 x.2.2.2.2.2=0):=by
 by_cases c:x.2.1.length<=1048576
 ·have hl:Lt x.1 x.2.1:=⟨c,by omega,λj hj=>by have:=h2 j hj;omega⟩
  exact⟨_,uH N (by omega) _ _ _ _ _ _ hl,λq=>⟨hl,q⟩⟩
 ·rw [Jn,UP N (by omega) x.1 (by omega),q0]
  split
  ·rw [if_pos (by omega)];exact⟨2,Z,λq=>absurd q (by decide)⟩
  ·exact⟨4,Z,λq=>absurd q (by decide)⟩
theorem jo(hN:20000000<N)(hL:Lit m):Ans2 (HR N m) (m.2.1.length<=16/\ ∀x∈m.2.1,Lt x.1 x.2.1/\RX x.1 x.2.1 x.2.2.1 x.2.2.2.1 x.2.2.2.2.1 x.2.2.2.2.2=0):=by
 have hb:brf (m.2.1.map (λx:Hd=>x.1)):=hL.ti 1 (by omega)
 have hl:m.2.1.length<=1048576:=by have:=hb.2;rwa [q8] at this
 have he:Ans2 (LY N m.2.1 16 (m.2.1.map (λx:Hd=>x.1))) _:=Jd (by omega:20000000<N) m.2.1 (λ(i:Int) (x:Hd)=>HH N i x.1 x.2.1 x.2.2.1 x.2.2.2.1 x.2.2.2.2.1 x.2.2.2.2.2 (m.2.1.map (λx:Hd=>x.1))) (λi=>Lt (m.2.1[i]!).1 (m.2.1[i]!).2.1/\RX (m.2.1[i]!).1 (m.2.1[i]!).2.1 (m.2.1[i]!).2.2.1 (m.2.1[i]!).2.2.2.1 (m.2.1[i]!).2.2.2.2.1 (m.2.1[i]!).2.2.2.2.2=0)
  (Ig N m.2.1 (m.2.1.map (λx:Hd=>x.1))) 16 (by decide) (λ_ _=>Z) (λ_ i hi=>by
   have hn:(m.2.1[i]!).1.length<=1048576:=by have:=hb.1 i (by rw [q8];exact hi);rwa [Nz (λx:Hd=>x.1) m.2.1 i hi] at this
   obtain⟨r1,e1,p1⟩:=qn hN (m.2.1[i]!) hn (hL.hd i hi).1 (hL.hd i hi).2
   obtain⟨r2,e2,_⟩:=VC hN (m.2.1.map (λx:Hd=>x.1)) hb i (by rw [q8];exact hi)
   show Ans (HH N (i:Int) _ _ _ _ _ _ _) _
   rw [HH,e1,q0,e2,q0]
   exact((Lk (by omega) _ _).imp λz=>p1 z.1).pure)
 obtain⟨r,e,p⟩:=he
 rw [HR,show LX N m.2.1=_ from QS (N:=N) (by omega) m.2.1 (λx:Hd=>x.1) (Ie N m.2.1) (by omega) (λ_ _ _=>Z),q0,e]
 exact⟨_,Z,λq=>⟨by have:=(p q).1;omega,kR (p q).2⟩⟩
theorem rx(hN:20000000<N)(hL:Lit m)(hs:m.2.1.length<=16):Ans2 (Js N m) (m.2.2.1.length<=16):=by
 rw [Js]
 by_cases c:m.2.2.1.length<=16
 ·rw [kI N (by omega) m.2.1 m.2.2.1 ⟨by omega,by omega,λj hj=>by have:=hL.ins j hj;omega⟩];exact⟨_,Z,λ_=>c⟩
 ·rw [Nw,if_pos (by omega)];exact⟨_,Z,λq=>absurd q (by decide)⟩
end
end Go.Proofs.YtjlomkippigejaaGreatDoor
