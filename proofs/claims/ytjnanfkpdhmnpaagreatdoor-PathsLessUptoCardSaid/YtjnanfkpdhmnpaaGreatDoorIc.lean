import Derived.Test.YtjnanfkpdhmnpaaGreatDoorIb
namespace Go.Proofs.YtjnanfkpdhmnpaaGreatDoor
open Go Go.RowKit Go.Eng
abbrev Stt:=W2×Y0 (Int×Int)×Y0 (Int×Int×Int)×Y0 (Int×W3×Int×W3×Int)×Int
abbrev Act:=W2×Y0 Int×Y0 I9
abbrev Tab:=W2×Int×Y0 (Int×Int×Int)×Y0 Int×Int×Y0 (Int×W3)×Int
abbrev Nod:=Int×Int×Y0 I9×Y0 (Int×W3)×Int×Int
def Top(n:Int):Prop:=n<=9223372036854775807
structure Ctx(N:Nat)(m:Ao):Prop where
 hN:20000000<N
 hL:Lit m
 hs:m.2.1.length<=16
 hh: ∀h∈m.2.1,Lt h.1 h.2.1/\SD h.1 h.2.1 h.2.2.1 h.2.2.2.1 h.2.2.2.2.1 h.2.2.2.2.2=0
 il:m.2.2.1.length<=16
theorem Ctx.ft{N:Nat}{m:Ao}(h:Ctx N m):Ft m.2.1.length m.2.2.1:=⟨by have:=h.hs;omega,by have:=h.il;omega,λj hj=>by have:=h.il;have:=h.hL.ins j hj;omega⟩
theorem Ctx.cls{N:Nat}{m:Ao}(h:Ctx N m):Cls N m.2.1:=λx hx=>by
 have h1:=(h.hh x hx).1
 refine⟨by have:=h1.2.1;omega,⟨by have:=h1.1;omega,λy hy=> ?_⟩,by have:=h1.1;have:=h.hN;omega⟩
 exact mg (P:=λy:Fd=>y.1.length<=140737488355328) (λi hi=>by have:=h1.2.2 i hi;omega) y hy
theorem fX(hs:Y0 Hd)(l:Y0 Ins)(k:Int):(∃h∈hs,hdL hs l k=(h.1,h.2.1,h.2.2.1,h.2.2.2.1,h.2.2.2.2.1,h.2.2.2.2.2,true))\/hdL hs l k=([],[],0,0,0,0,false):=by
 unfold hdL
 split
 ·rename_i c
  exact .inl ⟨_,Fm (i:=((l[(ofL l k).1.toNat]!).2.1).toNat) (by omega),Z⟩
 ·exact .inr Z
section
variable {N:Nat} {m:Ao}
theorem fv(h:Ctx N m)(k:Int)(hk:Top k):KC N m k=some (hdL m.2.1 m.2.2.1 k):=by
 rw [KC,na N (by have:=h.hN;omega) m.2.1 h.cls m.2.2.1 k h.ft hk,q0]
theorem MU(N n:Nat)(hn:n<=1000000000000000000)(i:Int):ck ((-9223372036854775808<=((n:Int) - 1)/\((n:Int) - 1)<=9223372036854775807)) ((AG N i 0 ((n:Int) - 1)).bind λr4=>some r4)=some (decide (0<=i/\i<(n:Int))):=by
 rw [ckp (by omega),FF,q0];congr 1;exact decide_eq_decide.2 (by omega)
theorem bj(h:Ctx N m)(s f:Int)(hs:Top s): ∃r,Ht N m s f=some r:=by
 rw [Ht,fv h s hs,q0]
 rcases fX m.2.1 m.2.2.1 s with⟨x,hx,e⟩|e
 ·have hl:=(h.hh x hx).1.1
  rw [e,V8 Z,show Mt N x.2.1 f=_ from MU N x.2.1.length (by omega) f,q0]
  by_cases c:0<=f/\f<(x.2.1.length:Int)
  ·rw [zl c,V8 Z,MW,ckp c];exact⟨_,Z⟩
  ·rw [zk c,V9 (by decide)];exact⟨_,Z⟩
 ·rw [e,V9 (by decide)];exact⟨_,Z⟩
theorem my(hm:m.2.2.2.1.length<=1048576)(i:Int): ∃r,IN N m i=some r:=by
 rw [IN,FF,q0]
 by_cases c:0<=i/\i<=7
 ·rw [zl c,V8 Z,ckp (by omega)];exact⟨_,Z⟩
 ·rw [zk c,V9 (by decide),ckp (by omega),ckp (by omega),FF,q0]
  by_cases d:8<=i/\i<=8+(m.2.2.2.1.length:Int) - 1
  ·rw [zl d,V8 Z,ckp (by omega),ckp (by omega)];exact⟨_,Z⟩
  ·rw [zk d,V9 (by decide)];exact⟨_,Z⟩
theorem YQ(h:Ctx N m)(i:Int): ∃r,GL N m i=some r:=by
 rw [GL,cr N (by have:=h.hN;omega) m.2.2.1 i h.ft.2.1,q0]
 unfold bf
 by_cases c:0<=i/\i<(m.2.2.1.length:Int)/\dep (m.2.2.1[i.toNat]!).2.2≠0
 ·rw [V8 c,V8 Z,ckp (by omega)]
  split
  ·exact⟨_,Z⟩
  ·rw [JQ,ckp (by omega)];exact⟨_,Z⟩
 ·rw [V9 c,V9 (by decide)];exact⟨_,Z⟩
theorem Wu(h:Ctx N m)(k:Int)(hk:Top k): ∃r,Hs N m k=some r:=by
 rw [Hs,wu N (by have:=h.hN;omega) m.2.2.1 k h.ft.2.1 hk,q0];exact⟨_,Z⟩
theorem Ctx.me(h:Ctx N m):m.2.2.2.1.length<=1048576:=by have:=(h.hL.ti 3 (by omega)).2;simpa [BJ] using this
theorem Ctx.st(h:Ctx N m):m.2.2.2.2.1.length<=1048576:=by have:=(h.hL.ti 4 (by omega)).2;simpa [BJ] using this
theorem Ctx.ac(h:Ctx N m):m.2.2.2.2.2.1.length<=1048576:=by have:=(h.hL.ti 5 (by omega)).2;simpa [BJ] using this
theorem Ctx.tb(h:Ctx N m):m.2.2.2.2.2.2.1.length<=1048576:=by have:=(h.hL.ti 6 (by omega)).2;simpa [BJ] using this
theorem Ctx.rg(h:Ctx N m):m.2.2.2.2.2.2.2.2.2.2.2.2.1.length<=1048576:=by have:=(h.hL.ti 12 (by omega)).2;simpa [BJ] using this
theorem Ctx.co(h:Ctx N m):m.2.2.2.2.2.2.2.2.2.2.2.2.2.1.length<=1048576:=by have:=(h.hL.ti 13 (by omega)).2;simpa [BJ] using this
theorem Ctx.mt(h:Ctx N m):m.2.2.2.2.2.2.2.2.2.2.2.2.2.2.1.length<=1048576:=by have:=(h.hL.ti 14 (by omega)).2;simpa [BJ] using this
theorem lR(h:Ctx N m)(k a b:Int)(ha:Top a): ∃r,HZ N m k a b=some r:=by
 rw [HZ]
 split
 ·obtain⟨r,e⟩:=bj h a b ha;rw [e];exact⟨_,Z⟩
 split
 ·obtain⟨r,e⟩:=my (N:=N) (m:=m) (by have:=h.me;omega) a;rw [e];exact⟨_,Z⟩
 split<;>exact⟨_,Z⟩
theorem fS(h:Ctx N m)(l:Y0 (Int×Int×Int))(hl:l.length<=1048576)(hr: ∀i,i<l.length->Top (l[i]!).2.1): ∀(k f i:Nat) (t:Int),i+k=l.length->k<f->0<=t->t<=128-> ∃r,Jy N m l f t (i:Int)=some r:=by
 intro k
 induction k with
 |zero=>
  intro f i t hi hf h0 h1
  obtain⟨f,rfl⟩: ∃n,f=n+1:=⟨f - 1,by omega⟩
  rw [Jy,V9 (by omega)];exact⟨_,Z⟩
 |succ k ih=>
  intro f i t hi hf h0 h1
  obtain⟨f,rfl⟩: ∃n,f=n+1:=⟨f - 1,by omega⟩
  obtain⟨r,e⟩:=lR h (l[i]!).1 (l[i]!).2.1 (l[i]!).2.2 (hr i (by omega))
  rw [Jy,V8 (by omega),ckp (by omega),q4,e,q0]
  split
  ·rw [ckp (by omega),FF,q0]
   by_cases c:1<=r.1/\r.1<=128 - t
   ·rw [zl c,V8 Z,ckp (by omega),ckp (by omega),show(i:Int)+1=((i+1:Nat):Int)from by omega]
    exact ih f (i+1) _ (by omega) (by omega) (by omega) (by omega)
   ·rw [zk c,V9 (by decide)];exact⟨_,Z⟩
  ·exact⟨_,Z⟩
theorem ve(h:Ctx N m)(l:Y0 (Int×Int×Int))(hl:l.length<=1048576)(hr: ∀i,i<l.length->Top (l[i]!).2.1): ∃r,Oj N m l=some r:=fS h l hl hr l.length N 0 0 (by omega) (by have:=h.hN;omega) (by omega) (by omega)
theorem SC(N:Nat)(w:Int):Ans (IM N w) True:=by
 rw [IM,FF,q0];exact((Ans.un N _ 9 (by decide)).imp λ_=>trivial).pure
theorem Wf(N:Nat)(w:Int):Ans (KB N w) True:=by
 rw [KB,FF,q0];exact((Ans.un N _ 7 (by decide)).imp λ_=>trivial).pure
theorem kb(h:Ctx N m)(k a b:Int)(ha:Top a):Ans (Im N m k a b) True:=by
 obtain⟨r,e⟩:=lR h k a b ha
 have k2: ∀q:Y3,Ans (GU N r q) True:=λq=>by
  rw [GU,EI,q0,EI,q0]
  exact((LR (by have:=h.hN;omega) _ _).imp λ_=>trivial).pure
 rw [Im,e,q0]
 split
 ·exact k2 _
 split
 ·rw [FF,q0]
  split
  ·rw [FF,q0];exact k2 _
  ·exact k2 _
 ·exact k2 _
theorem wF(h:Ctx N m)(i k a b n:Int)(ha:Top a)(hn:0<=n/\n<=10):Ans (Lg N i k a b n m) True:=by
 obtain⟨q,e,_⟩:=kb h k a b ha
 rw [Lg,ckp (by omega),kU,q0,EI,q0,e,q0]
 exact((LR (by have:=h.hN;omega) _ _).imp λ_=>trivial).pure
theorem nO(h:Ctx N m)(l:Y0 (Int×Int×Int))(hl:l.length<=1048576)(hr: ∀i,i<l.length->Top (l[i]!).2.1)(n:Int)(hn:0<=n/\n<=10):Ans (IU N m l n) True:=by
 have hN:=h.hN
 have he1:Ans2 (OY N l 4 n m) _:=Ju (by omega:20000000<N) l (λi x=>Lg N i x.1 x.2.1 x.2.2 n m) (λ_=>True) (La N l n m) 4 (by decide) (λ_ _=>Z) (λ_ i hi=>wF h _ _ _ _ n (hr i hi) hn)
 obtain⟨r,e,_⟩:=he1
 obtain⟨q,e2⟩:=ve h l hl hr
 rw [IU,e,q0,e2,q0,EI,q0]
 exact((LR (by omega) _ _).imp λ_=>trivial).pure
theorem yt(h:Ctx N m)(i k n:Int)(hn:Top n):Ans (MK N m i k n) True:=by
 rw [MK]
 split
 ·rw [wu N (by have:=h.hN;omega) m.2.2.1 n h.ft.2.1 hn,q0]
  split
  ·rename_i _ a
   have hr:0<=(ofL m.2.2.1 n).1/\(ofL m.2.2.1 n).1<(m.2.2.1.length:Int):=by
    unfold ofL at a ⊢
    by_cases b:n<0
    ·rw [V8 b] at a;cases a
    ·rw [V9 b] at a ⊢;have:=am m.2.2.1 0 n a;omega
   rw [ckp hr];exact((Ans.un N _ 5 (by decide)).imp λ_=>trivial).pure
  ·exact((Ans.un N _ 5 (by decide)).imp λ_=>trivial).pure
 split
 ·obtain⟨r,e⟩:=YQ h n
  rw [e,q0];exact((Ans.un N _ 5 (by decide)).imp λ_=>trivial).pure
 split
 ·rw [FF,q0];exact((Ans.un N _ 7 (by decide)).imp λ_=>trivial).pure
 ·exact⟨10,Z,λe=>absurd e (by decide)⟩
theorem aK(N:Nat)(w:Int)(x:W3)(n:Int): ∃r,Gu N w x n=some r:=by
 rw [Gu]
 split
 ·rw [kY];exact⟨_,Z⟩
 ·exact⟨_,Z⟩
theorem mo(h:Ctx N m)(n:Int):Ans (GT N m n) (-2<=n/\n<(m.2.2.2.2.1.length:Int)):=by
 rw [GT,show Mr N m.2.2.2.2.1 n=_ from MU N m.2.2.2.2.1.length (by have:=h.st;omega) n,q0]
 by_cases c:0<=n/\n<(m.2.2.2.2.1.length:Int)
 ·rw [zl c,V8 Z];exact((Ans.un N _ 5 (by decide)).imp λ_=>by omega).pure
 rw [zk c,V9 (by decide)]
 by_cases d:n= -1
 ·rw [V8 d];exact((Ans.un N _ 5 (by decide)).imp λ_=>by omega).pure
 ·rw [V9 d];exact((Ans.un N _ 5 (by decide)).imp λe=>by have:=eq_of_beq e;omega).pure
theorem wZ(h:Ctx N m)(i w:Int)(x:W3)(w2:Int)(x2:W3)(n:Int)(l:Y0 (Int×Int×Int))(q:Int):Ans (IC N i w x w2 x2 n l q m) (-2<=n/\n<(m.2.2.2.2.1.length:Int)):=by
 have hN:=h.hN
 obtain⟨b1,e1⟩:=aK N w x q
 obtain⟨b2,e2⟩:=aK N w2 x2 q
 obtain⟨b3,e3,p3⟩:=mo h n
 rw [IC,Kp,q0,Kp,q0,Qd,q0,Qe,q0,EI,q0,e1,q0]
 split
 ·rw [e2,q0,EI,q0,EI,q0,e3,q0]
  exact((bg (by omega) _ _ _ _).imp λz=>p3 z.2.2.2).pure
 ·rw [EI,q0,EI,q0,e3,q0]
  exact((bg (by omega) _ _ _ _).imp λz=>p3 z.2.2.2).pure
def StOk(m:Ao)(s:Stt):Prop:= ∀k,k<s.2.2.2.1.length-> -2<=(s.2.2.2.1[k]!).2.2.2.2/\(s.2.2.2.1[k]!).2.2.2.2<(m.2.2.2.2.1.length:Int)
def StR(s:Stt):Prop:=(∀i,i<s.2.1.length->Top (s.2.1[i]!).2)/\ ∀i,i<s.2.2.1.length->Top (s.2.2.1[i]!).2.1
theorem rC(h:Ctx N m)(s:Stt)(hl:s.2.2.1.length<=1048576)(hr:StR s):Ans (JH N m s.1 s.2.1 s.2.2.1 s.2.2.2.1 s.2.2.2.2) (StOk m s):=by
 have hN:=h.hN
 have he2:Ans2 (OZ N s.2.1 4 m) _:=Ju (by omega:20000000<N) s.2.1 (λi x=>MK N m i x.1 x.2) (λ_=>True) (Lb N s.2.1 m) 4 (by decide) (λ_ _=>Z) (λ_ i hi=>yt h _ _ _ (hr.1 i hi))
 obtain⟨r1,e1,_⟩:=he2
 obtain⟨r2,e2⟩:=ve h s.2.2.1 (by omega) hr.2
 have he3:Ans2 (Mw N s.2.2.2.1 8 s.2.2.1 r2.1 m) _:=Ju (by omega:20000000<N) s.2.2.2.1 (λi x=>IC N i x.1 x.2.1 x.2.2.1 x.2.2.2.1 x.2.2.2.2 s.2.2.1 r2.1 m) _ (JZ N s.2.2.2.1 s.2.2.1 r2.1 m) 8 (by decide) (λ_ _=>Z) (λ_ i hi=>wZ h _ _ _ _ _ _ _ _)
 obtain⟨r3,e3,p3⟩:=he3
 obtain⟨r4,e4,_⟩:=nO h s.2.2.1 (by omega) hr.2 3 (by decide)
 obtain⟨r5,e5,_⟩:=mo h s.2.2.2.2
 rw [JH,e1,q0,IX,e2,q0,q0,e3,q0,e4,q0,e5,q0]
 exact((bg (by omega) _ _ _ _).imp λz k hk=>(p3 z.2.2.1).2 k hk).pure
def ju(N:Nat)(m:Ao)(a:Y0 Int)(n i:Nat)(x:I9):Prop:=
 ((x.1=1\/x.1=22)-> ∀r,Ht N m x.2.1 x.2.2.1=some r->r.2=true)/\((x.1=2\/x.1=23)-> ∀r,IN N m x.2.1=some r->r.2=true)/\
 (x.1=3->0<=x.2.1/\x.2.1<(a.length:Int))/\((x.1=5\/x.1=24)->0<=x.2.1/\x.2.1<(m.2.2.2.2.2.2.2.2.2.2.2.2.1.length:Int))/\((x.1=31\/x.1=32)->(i:Int)<x.2.1/\x.2.1<=(n:Int))
theorem gK(h:Ctx N m)(pl:Y0 Int)(hp:pl.length<=1048576)(x:I9)(hx:Top x.2.1): ∃b,SH N m pl x.1 x.2.1 x.2.2.1 x.2.2.2.1 x.2.2.2.2=some b/\(b=true->
  ((x.1=1\/x.1=22)-> ∀r,Ht N m x.2.1 x.2.2.1=some r->r.2=true)/\((x.1=2\/x.1=23)-> ∀r,IN N m x.2.1=some r->r.2=true)/\
  (x.1=3->0<=x.2.1/\x.2.1<(pl.length:Int))/\((x.1=5\/x.1=24)->0<=x.2.1/\x.2.1<(m.2.2.2.2.2.2.2.2.2.2.2.2.1.length:Int))):=by
 obtain⟨o,a,b,w,v⟩:=x
 unfold SH
 have f1:(if o=1 then OU N m pl o a b (o==1)else OU N m pl o a b (o==22))=OU N m pl o a b (decide (o=1\/o=22)):=by
  by_cases c:o=1
  ·subst c;rfl
  ·rw [V9 c];congr 1;rw [Bool.eq_iff_iff,beq_iff_eq,decide_eq_true_eq];omega
 show∃b',(if o=1 then _ else _)=some b'/\_
 rw [f1]
 unfold OU
 by_cases c1:o=1\/o=22
 ·rw [zl c1,V8 Z]
  obtain⟨r,e⟩:=bj h a b hx
  rw [e,q0]
  exact⟨_,Z,λhr=>⟨λ_ r2 e2=>by rw [<-q3 e2];exact hr,λd=>by rcases c1 with rfl|rfl<;>simp at d,λd=>by rcases c1 with rfl|rfl<;>simp at d,λd=>by rcases c1 with rfl|rfl<;>simp at d⟩⟩
 rw [zk c1,V9 (by decide)]
 have f2:(if o=2 then OT N m pl o a (o==2)else OT N m pl o a (o==23))=OT N m pl o a (decide (o=2\/o=23)):=by
  by_cases c:o=2
  ·subst c;rfl
  ·rw [V9 c];congr 1;rw [Bool.eq_iff_iff,beq_iff_eq,decide_eq_true_eq];omega
 rw [f2]
 unfold OT
 by_cases c2:o=2\/o=23
 ·rw [zl c2,V8 Z]
  obtain⟨r,e⟩:=my (N:=N) (m:=m) (by have:=h.me;omega) a
  rw [e,q0]
  exact⟨_,Z,λhr=>⟨λd=>absurd d c1,λ_ r2 e2=>by rw [<-q3 e2];exact hr,λd=>by rcases c2 with rfl|rfl<;>simp at d,λd=>by rcases c2 with rfl|rfl<;>simp at d⟩⟩
 rw [zk c2,V9 (by decide)]
 by_cases c3:o=3
 ·rw [V8 c3,show Tr N pl a=_ from MU N pl.length (by omega) a,q0]
  exact⟨_,Z,λhr=>⟨λd=>absurd d c1,λd=>absurd d c2,λ_=>zj hr,λd=>by subst c3;simp at d⟩⟩
 rw [V9 c3]
 have f3:(if o=5 then OS N m o a (o==5)else OS N m o a (o==24))=OS N m o a (decide (o=5\/o=24)):=by
  by_cases c:o=5
  ·subst c;rfl
  ·rw [V9 c];congr 1;rw [Bool.eq_iff_iff,beq_iff_eq,decide_eq_true_eq];omega
 rw [f3]
 unfold OS
 by_cases c4:o=5\/o=24
 ·rw [zl c4,V8 Z,show NJ N m.2.2.2.2.2.2.2.2.2.2.2.2.1 a=_ from MU N m.2.2.2.2.2.2.2.2.2.2.2.2.1.length (by have:=h.rg;omega) a,q0]
  exact⟨_,Z,λhr=>⟨λd=>absurd d c1,λd=>absurd d c2,λd=>absurd d c3,λ_=>zj hr⟩⟩
 rw [zk c4,V9 (by decide)]
 have fin: ∀y:Y1 Y3,(∃r,y=some r)-> ∃b',y=some b'/\(b'=true->((o=1\/o=22)-> ∀r,Ht N m a b=some r->r.2=true)/\((o=2\/o=23)-> ∀r,IN N m a=some r->r.2=true)/\(o=3->0<=a/\a<(pl.length:Int))/\((o=5\/o=24)->0<=a/\a<(m.2.2.2.2.2.2.2.2.2.2.2.2.1.length:Int))):=
  λy ⟨r,e⟩=>⟨r,e,λ_=>⟨λd=>absurd d c1,λd=>absurd d c2,λd=>absurd d c3,λd=>absurd d c4⟩⟩
 refine fin _ ?_
 have k10: ∀q:Y3,∃r,PT N m a q=some r:=λq=>by
  unfold PT
  split
  ·obtain⟨r,e⟩:=YQ h a;rw [e];exact⟨_,Z⟩
  ·exact⟨_,Z⟩
 have k8: ∀q:Y3,∃r,OR N m o a q=some r:=λq=>by
  unfold OR
  split
  ·obtain⟨r,e⟩:=Wu h a hx;rw [e];exact⟨_,Z⟩
  split<;>exact k10 _
 split
 ·rw [show KU N m.2.2.2.2.2.2.2.2.2.2.2.2.2.1 a=_ from MU N m.2.2.2.2.2.2.2.2.2.2.2.2.2.1.length (by have:=h.co;omega) a];exact⟨_,Z⟩
 split
 ·rw [show Ms N m.2.2.2.2.2.2.2.2.2.2.2.2.2.2.1 a=_ from MU N m.2.2.2.2.2.2.2.2.2.2.2.2.2.2.1.length (by have:=h.mt;omega) a];exact⟨_,Z⟩
 split
 ·exact k8 _
 split
 ·exact k8 _
 split<;>exact k8 _
end
end Go.Proofs.YtjnanfkpdhmnpaaGreatDoor
