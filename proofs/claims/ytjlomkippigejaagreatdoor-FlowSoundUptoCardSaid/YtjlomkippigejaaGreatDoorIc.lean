import Derived.Test.YtjlomkippigejaaGreatDoorIb
namespace Go.Proofs.YtjlomkippigejaaGreatDoor
open Go Go.RowKit Go.Eng
abbrev Stt:=W2×List (Int×Int)×List (Int×Int×Int)×List (Int×W3×Int×W3×Int)×Int
abbrev Act:=W2×List Int×List I9
abbrev Tab:=W2×Int×List (Int×Int×Int)×List Int×Int×List (Int×W3)×Int
abbrev Nod:=Int×Int×List I9×List (Int×W3)×Int×Int
def Top(n:Int):Prop:=n<=9223372036854775807
structure Ctx(N:Nat)(m:Ao):Prop where
 hN:20000000<N
 hL:Lit m
 hs:m.2.1.length<=16
 hh: ∀h∈m.2.1,Lt h.1 h.2.1/\RX h.1 h.2.1 h.2.2.1 h.2.2.2.1 h.2.2.2.2.1 h.2.2.2.2.2=0
 il:m.2.2.1.length<=16
theorem Ctx.ft{N:Nat}{m:Ao}(h:Ctx N m):Ft m.2.1.length m.2.2.1:=⟨by have:=h.hs;omega,by have:=h.il;omega,λj hj=>by have:=h.il;have:=h.hL.ins j hj;omega⟩
theorem Ctx.cls{N:Nat}{m:Ao}(h:Ctx N m):Cls N m.2.1:=λx hx=>by
 have h1:=(h.hh x hx).1
 refine⟨by have:=h1.2.1;omega,⟨by have:=h1.1;omega,λy hy=> ?_⟩,by have:=h1.1;have:=h.hN;omega⟩
 exact kR (P:=λy:Fd=>y.1.length<=140737488355328) (λi hi=>by have:=h1.2.2 i hi;omega) y hy
theorem fo(hs:List Hd)(l:List Ins)(k:Int):(∃h∈hs,hdL hs l k=(h.1,h.2.1,h.2.2.1,h.2.2.2.1,h.2.2.2.2.1,h.2.2.2.2.2,true))\/hdL hs l k=([],[],0,0,0,0,false):=by
 unfold hdL
 split
 ·rename_i c
  exact .inl ⟨_,Fa (i:=((l[(ofL l k).1.toNat]!).2.1).toNat) (by omega),Z⟩
 ·exact .inr Z
section
variable {N:Nat} {m:Ao}
theorem kf(h:Ctx N m)(k:Int)(hk:Top k):Lp N m k=some (hdL m.2.1 m.2.2.1 k):=by
 rw [Lp,lQ N (by have:=h.hN;omega) m.2.1 h.cls m.2.2.1 k h.ft hk,q0]
theorem MB(N:Nat)(n:Nat)(hn:n<=1000000000000000000)(i:Int):ck ((-9223372036854775808<=((n:Int) - 1)/\((n:Int) - 1)<=9223372036854775807)) ((AA N i 0 ((n:Int) - 1)).bind λr4=>some r4)=some (decide (0<=i/\i<(n:Int))):=by
 rw [ckp (by omega),Fp,q0];congr 1;exact decide_eq_decide.2 (by omega)
theorem aG(h:Ctx N m)(s f:Int)(hs:Top s): ∃r,Hb N m s f=some r:=by
 rw [Hb,kf h s hs,q0]
 rcases fo m.2.1 m.2.2.1 s with⟨x,hx,e⟩|e
 ·have hl:=(h.hh x hx).1.1
  rw [e,if_pos Z,show LW N x.2.1 f=_ from MB N x.2.1.length (by omega) f,q0]
  by_cases c:0<=f/\f<(x.2.1.length:Int)
  ·rw [zf c,if_pos Z,MD,ckp c];exact⟨_,Z⟩
  ·rw [ze c,if_neg (by decide)];exact⟨_,Z⟩
 ·rw [e,if_neg (by decide)];exact⟨_,Z⟩
theorem lh(hm:m.2.2.2.1.length<=1048576)(i:Int): ∃r,Iw N m i=some r:=by
 rw [Iw,Fp,q0]
 by_cases c:0<=i/\i<=7
 ·rw [zf c,if_pos Z,ckp (by omega)];exact⟨_,Z⟩
 ·rw [ze c,if_neg (by decide),ckp (by omega),ckp (by omega),Fp,q0]
  by_cases d:8<=i/\i<=8+(m.2.2.2.1.length:Int) - 1
  ·rw [zf d,if_pos Z,ckp (by omega),ckp (by omega)];exact⟨_,Z⟩
  ·rw [ze d,if_neg (by decide)];exact⟨_,Z⟩
theorem Yt(h:Ctx N m)(i:Int): ∃r,ED N m i=some r:=by
 rw [ED,Vy N (by have:=h.hN;omega) m.2.2.1 i h.ft.2.1,q0]
 unfold Wy
 by_cases c:0<=i/\i<(m.2.2.1.length:Int)/\dep (m.2.2.1[i.toNat]!).2.2≠0
 ·rw [if_pos c,if_pos Z,ckp (by omega)]
  split
  ·exact⟨_,Z⟩
  ·rw [Ic,ckp (by omega)];exact⟨_,Z⟩
 ·rw [if_neg c,if_neg (by decide)];exact⟨_,Z⟩
theorem VX(h:Ctx N m)(k:Int)(hk:Top k): ∃r,Ha N m k=some r:=by
 rw [Ha,vc N (by have:=h.hN;omega) m.2.2.1 k h.ft.2.1 hk,q0];exact⟨_,Z⟩
theorem Ctx.me(h:Ctx N m):m.2.2.2.1.length<=1048576:=by have:=(h.hL.ti 3 (by omega)).2;simpa [By] using this
theorem Ctx.st(h:Ctx N m):m.2.2.2.2.1.length<=1048576:=by have:=(h.hL.ti 4 (by omega)).2;simpa [By] using this
theorem Ctx.ac(h:Ctx N m):m.2.2.2.2.2.1.length<=1048576:=by have:=(h.hL.ti 5 (by omega)).2;simpa [By] using this
theorem Ctx.tb(h:Ctx N m):m.2.2.2.2.2.2.1.length<=1048576:=by have:=(h.hL.ti 6 (by omega)).2;simpa [By] using this
theorem Ctx.rg(h:Ctx N m):m.2.2.2.2.2.2.2.2.2.2.2.2.1.length<=1048576:=by have:=(h.hL.ti 12 (by omega)).2;simpa [By] using this
theorem Ctx.co(h:Ctx N m):m.2.2.2.2.2.2.2.2.2.2.2.2.2.1.length<=1048576:=by have:=(h.hL.ti 13 (by omega)).2;simpa [By] using this
theorem Ctx.mt(h:Ctx N m):m.2.2.2.2.2.2.2.2.2.2.2.2.2.2.1.length<=1048576:=by have:=(h.hL.ti 14 (by omega)).2;simpa [By] using this
theorem kK(h:Ctx N m)(k a b:Int)(ha:Top a): ∃r,HE N m k a b=some r:=by
 rw [HE]
 split
 ·obtain⟨r,e⟩:=aG h a b ha;rw [e];exact⟨_,Z⟩
 split
 ·obtain⟨r,e⟩:=lh (N:=N) (m:=m) (by have:=h.me;omega) a;rw [e];exact⟨_,Z⟩
 split<;>exact⟨_,Z⟩
theorem fj(h:Ctx N m)(l:List (Int×Int×Int))(hl:l.length<=1048576)(hr: ∀i,i<l.length->Top (l[i]!).2.1): ∀(k f i:Nat) (t:Int),i+k=l.length->k<f->0<=t->t<=128-> ∃r,Jh N m l f t (i:Int)=some r:=by
 intro k
 induction k with
 |zero=>
  intro f i t hi hf h0 h1
  obtain⟨f,rfl⟩: ∃n,f=n+1:=⟨f - 1,by omega⟩
  rw [Jh,if_neg (by omega)];exact⟨_,Z⟩
 |succ k ih=>
  intro f i t hi hf h0 h1
  obtain⟨f,rfl⟩: ∃n,f=n+1:=⟨f - 1,by omega⟩
  obtain⟨r,e⟩:=kK h (l[i]!).1 (l[i]!).2.1 (l[i]!).2.2 (hr i (by omega))
  rw [Jh,if_pos (by omega),ckp (by omega),q3,e,q0]
  split
  ·rw [ckp (by omega),Fp,q0]
   by_cases c:1<=r.1/\r.1<=128 - t
   ·rw [zf c,if_pos Z,ckp (by omega),ckp (by omega),show(i:Int)+1=((i+1:Nat):Int)from by omega]
    exact ih f (i+1) _ (by omega) (by omega) (by omega) (by omega)
   ·rw [ze c,if_neg (by decide)];exact⟨_,Z⟩
  ·exact⟨_,Z⟩
theorem tU(h:Ctx N m)(l:List (Int×Int×Int))(hl:l.length<=1048576)(hr: ∀i,i<l.length->Top (l[i]!).2.1): ∃r,NO N m l=some r:=fj h l hl hr l.length N 0 0 (by omega) (by have:=h.hN;omega) (by omega) (by omega)
theorem RW(N:Nat)(w:Int):Ans (Iv N w) True:=by
 rw [Iv,Fp,q0];exact((Ans.un N _ 9 (by decide)).imp λ_=>trivial).pure
theorem VG(N:Nat)(w:Int):Ans (Ki N w) True:=by
 rw [Ki,Fp,q0];exact((Ans.un N _ 7 (by decide)).imp λ_=>trivial).pure
theorem jk(h:Ctx N m)(k a b:Int)(ha:Top a):Ans (HQ N m k a b) True:=by
 obtain⟨r,e⟩:=kK h k a b ha
 have k2: ∀q:Bool,Ans (GC N r q) True:=λq=>by
  rw [GC,DT,q0,DT,q0]
  exact((Lk (by have:=h.hN;omega) _ _).imp λ_=>trivial).pure
 rw [HQ,e,q0]
 split
 ·exact k2 _
 split
 ·rw [Fp,q0]
  split
  ·rw [Fp,q0];exact k2 _
  ·exact k2 _
 ·exact k2 _
theorem vo(h:Ctx N m)(i k a b n:Int)(ha:Top a)(hn:0<=n/\n<=10):Ans (KL N i k a b n m) True:=by
 obtain⟨q,e,_⟩:=jk h k a b ha
 rw [KL,ckp (by omega),jL,q0,DT,q0,e,q0]
 exact((Lk (by have:=h.hN;omega) _ _).imp λ_=>trivial).pure
theorem mE(h:Ctx N m)(l:List (Int×Int×Int))(hl:l.length<=1048576)(hr: ∀i,i<l.length->Top (l[i]!).2.1)(n:Int)(hn:0<=n/\n<=10):Ans (IC N m l n) True:=by
 have hN:=h.hN
 have he1:Ans2 (OC N l 4 n m) _:=Jd (by omega:20000000<N) l (λi x=>KL N i x.1 x.2.1 x.2.2 n m) (λ_=>True) (KG N l n m) 4 (by decide) (λ_ _=>Z) (λ_ i hi=>vo h _ _ _ _ n (hr i hi) hn)
 obtain⟨r,e,_⟩:=he1
 obtain⟨q,e2⟩:=tU h l hl hr
 rw [IC,e,q0,e2,q0,DT,q0]
 exact((Lk (by omega) _ _).imp λ_=>trivial).pure
theorem xm(h:Ctx N m)(i k n:Int)(hn:Top n):Ans (Mr N m i k n) True:=by
 rw [Mr]
 split
 ·rw [vc N (by have:=h.hN;omega) m.2.2.1 n h.ft.2.1 hn,q0]
  split
  ·rename_i _ a
   have hr:0<=(ofL m.2.2.1 n).1/\(ofL m.2.2.1 n).1<(m.2.2.1.length:Int):=by
    unfold ofL at a ⊢
    by_cases b:n<0
    ·rw [if_pos b] at a;cases a
    ·rw [if_neg b] at a ⊢;have:=ZD m.2.2.1 0 n a;omega
   rw [ckp hr];exact((Ans.un N _ 5 (by decide)).imp λ_=>trivial).pure
  ·exact((Ans.un N _ 5 (by decide)).imp λ_=>trivial).pure
 split
 ·obtain⟨r,e⟩:=Yt h n
  rw [e,q0];exact((Ans.un N _ 5 (by decide)).imp λ_=>trivial).pure
 split
 ·rw [Fp,q0];exact((Ans.un N _ 7 (by decide)).imp λ_=>trivial).pure
 ·exact⟨10,Z,λe=>absurd e (by decide)⟩
theorem ZR(N:Nat)(w:Int)(x:W3)(n:Int): ∃r,Ga N w x n=some r:=by
 rw [Ga]
 split
 ·rw [jP];exact⟨_,Z⟩
 ·exact⟨_,Z⟩
theorem kY(h:Ctx N m)(n:Int):Ans (GB N m n) (-2<=n/\n<(m.2.2.2.2.1.length:Int)):=by
 rw [GB,show LU N m.2.2.2.2.1 n=_ from MB N m.2.2.2.2.1.length (by have:=h.st;omega) n,q0]
 by_cases c:0<=n/\n<(m.2.2.2.2.1.length:Int)
 ·rw [zf c,if_pos Z];exact((Ans.un N _ 5 (by decide)).imp λ_=>by omega).pure
 rw [ze c,if_neg (by decide)]
 by_cases d:n= -1
 ·rw [if_pos d];exact((Ans.un N _ 5 (by decide)).imp λ_=>by omega).pure
 ·rw [if_neg d];exact((Ans.un N _ 5 (by decide)).imp λe=>by have:=eq_of_beq e;omega).pure
theorem vW(h:Ctx N m)(i w:Int)(x:W3)(w2:Int)(x2:W3)(n:Int)(l:List (Int×Int×Int))(q:Int):Ans (Ij N i w x w2 x2 n l q m) (-2<=n/\n<(m.2.2.2.2.1.length:Int)):=by
 have hN:=h.hN
 obtain⟨b1,e1⟩:=ZR N w x q
 obtain⟨b2,e2⟩:=ZR N w2 x2 q
 obtain⟨b3,e3,p3⟩:=kY h n
 rw [Ij,JU,q0,JU,q0,PC,q0,PD,q0,DT,q0,e1,q0]
 split
 ·rw [e2,q0,DT,q0,DT,q0,e3,q0]
  exact((aF (by omega) _ _ _ _).imp λz=>p3 z.2.2.2).pure
 ·rw [DT,q0,DT,q0,e3,q0]
  exact((aF (by omega) _ _ _ _).imp λz=>p3 z.2.2.2).pure
def StOk(m:Ao)(s:Stt):Prop:= ∀k,k<s.2.2.2.1.length-> -2<=(s.2.2.2.1[k]!).2.2.2.2/\(s.2.2.2.1[k]!).2.2.2.2<(m.2.2.2.2.1.length:Int)
def StR(s:Stt):Prop:=(∀i,i<s.2.1.length->Top (s.2.1[i]!).2)/\ ∀i,i<s.2.2.1.length->Top (s.2.2.1[i]!).2.1
theorem ql(h:Ctx N m)(s:Stt)(hl:s.2.2.1.length<=1048576)(hr:StR s):Ans (Jr N m s.1 s.2.1 s.2.2.1 s.2.2.2.1 s.2.2.2.2) (StOk m s):=by
 have hN:=h.hN
 have he2:Ans2 (OD N s.2.1 4 m) _:=Jd (by omega:20000000<N) s.2.1 (λi x=>Mr N m i x.1 x.2) (λ_=>True) (KH N s.2.1 m) 4 (by decide) (λ_ _=>Z) (λ_ i hi=>xm h _ _ _ (hr.1 i hi))
 obtain⟨r1,e1,_⟩:=he2
 obtain⟨r2,e2⟩:=tU h s.2.2.1 (by omega) hr.2
 have he3:Ans2 (LZ N s.2.2.2.1 8 s.2.2.1 r2.1 m) _:=Jd (by omega:20000000<N) s.2.2.2.1 (λi x=>Ij N i x.1 x.2.1 x.2.2.1 x.2.2.2.1 x.2.2.2.2 s.2.2.1 r2.1 m) _ (JG N s.2.2.2.1 s.2.2.1 r2.1 m) 8 (by decide) (λ_ _=>Z) (λ_ i hi=>vW h _ _ _ _ _ _ _ _)
 obtain⟨r3,e3,p3⟩:=he3
 obtain⟨r4,e4,_⟩:=mE h s.2.2.1 (by omega) hr.2 3 (by decide)
 obtain⟨r5,e5,_⟩:=kY h s.2.2.2.2
 rw [Jr,e1,q0,IF,e2,q0,q0,e3,q0,e4,q0,e5,q0]
 exact((aF (by omega) _ _ _ _).imp λz k hk=>(p3 z.2.2.1).2 k hk).pure
def iu(N:Nat)(m:Ao)(a:List Int)(n i:Nat)(x:I9):Prop:=
 ((x.1=1\/x.1=22)-> ∀r,Hb N m x.2.1 x.2.2.1=some r->r.2=true)/\((x.1=2\/x.1=23)-> ∀r,Iw N m x.2.1=some r->r.2=true)/\
 (x.1=3->0<=x.2.1/\x.2.1<(a.length:Int))/\((x.1=5\/x.1=24)->0<=x.2.1/\x.2.1<(m.2.2.2.2.2.2.2.2.2.2.2.2.1.length:Int))/\((x.1=31\/x.1=32)->(i:Int)<x.2.1/\x.2.1<=(n:Int))
theorem fY(h:Ctx N m)(pl:List Int)(hp:pl.length<=1048576)(x:I9)(hx:Top x.2.1): ∃b,Sa N m pl x.1 x.2.1 x.2.2.1 x.2.2.2.1 x.2.2.2.2=some b/\(b=true->
  ((x.1=1\/x.1=22)-> ∀r,Hb N m x.2.1 x.2.2.1=some r->r.2=true)/\((x.1=2\/x.1=23)-> ∀r,Iw N m x.2.1=some r->r.2=true)/\
  (x.1=3->0<=x.2.1/\x.2.1<(pl.length:Int))/\((x.1=5\/x.1=24)->0<=x.2.1/\x.2.1<(m.2.2.2.2.2.2.2.2.2.2.2.2.1.length:Int))):=by
 obtain⟨o,a,b,w,v⟩:=x
 unfold Sa
 have f1:(if o=1 then Oy N m pl o a b (o==1)else Oy N m pl o a b (o==22))=Oy N m pl o a b (decide (o=1\/o=22)):=by
  by_cases c:o=1
  ·subst c;rfl
  ·rw [if_neg c];congr 1;rw [Bool.eq_iff_iff,beq_iff_eq,decide_eq_true_eq];omega
 show∃b',(if o=1 then _ else _)=some b'/\_
 rw [f1]
 unfold Oy
 by_cases c1:o=1\/o=22
 ·rw [zf c1,if_pos Z]
  obtain⟨r,e⟩:=aG h a b hx
  rw [e,q0]
  exact⟨_,Z,λhr=>⟨λ_ r2 e2=>by rw [<-q1 e2];exact hr,λd=>by rcases c1 with rfl|rfl<;>simp at d,λd=>by rcases c1 with rfl|rfl<;>simp at d,λd=>by rcases c1 with rfl|rfl<;>simp at d⟩⟩
 rw [ze c1,if_neg (by decide)]
 have f2:(if o=2 then Ox N m pl o a (o==2)else Ox N m pl o a (o==23))=Ox N m pl o a (decide (o=2\/o=23)):=by
  by_cases c:o=2
  ·subst c;rfl
  ·rw [if_neg c];congr 1;rw [Bool.eq_iff_iff,beq_iff_eq,decide_eq_true_eq];omega
 rw [f2]
 unfold Ox
 by_cases c2:o=2\/o=23
 ·rw [zf c2,if_pos Z]
  obtain⟨r,e⟩:=lh (N:=N) (m:=m) (by have:=h.me;omega) a
  rw [e,q0]
  exact⟨_,Z,λhr=>⟨λd=>absurd d c1,λ_ r2 e2=>by rw [<-q1 e2];exact hr,λd=>by rcases c2 with rfl|rfl<;>simp at d,λd=>by rcases c2 with rfl|rfl<;>simp at d⟩⟩
 rw [ze c2,if_neg (by decide)]
 by_cases c3:o=3
 ·rw [if_pos c3,show SQ N pl a=_ from MB N pl.length (by omega) a,q0]
  exact⟨_,Z,λhr=>⟨λd=>absurd d c1,λd=>absurd d c2,λ_=>zd hr,λd=>by subst c3;simp at d⟩⟩
 rw [if_neg c3]
 have f3:(if o=5 then Ow N m o a (o==5)else Ow N m o a (o==24))=Ow N m o a (decide (o=5\/o=24)):=by
  by_cases c:o=5
  ·subst c;rfl
  ·rw [if_neg c];congr 1;rw [Bool.eq_iff_iff,beq_iff_eq,decide_eq_true_eq];omega
 rw [f3]
 unfold Ow
 by_cases c4:o=5\/o=24
 ·rw [zf c4,if_pos Z,show No N m.2.2.2.2.2.2.2.2.2.2.2.2.1 a=_ from MB N m.2.2.2.2.2.2.2.2.2.2.2.2.1.length (by have:=h.rg;omega) a,q0]
  exact⟨_,Z,λhr=>⟨λd=>absurd d c1,λd=>absurd d c2,λd=>absurd d c3,λ_=>zd hr⟩⟩
 rw [ze c4,if_neg (by decide)]
 have fin: ∀y:Option Bool,(∃r,y=some r)-> ∃b',y=some b'/\(b'=true->((o=1\/o=22)-> ∀r,Hb N m a b=some r->r.2=true)/\((o=2\/o=23)-> ∀r,Iw N m a=some r->r.2=true)/\(o=3->0<=a/\a<(pl.length:Int))/\((o=5\/o=24)->0<=a/\a<(m.2.2.2.2.2.2.2.2.2.2.2.2.1.length:Int))):=
  λy ⟨r,e⟩=>⟨r,e,λ_=>⟨λd=>absurd d c1,λd=>absurd d c2,λd=>absurd d c3,λd=>absurd d c4⟩⟩
 refine fin _ ?_
 have k10: ∀q:Bool,∃r,Pv N m a q=some r:=λq=>by
  unfold Pv
  split
  ·obtain⟨r,e⟩:=Yt h a;rw [e];exact⟨_,Z⟩
  ·exact⟨_,Z⟩
 have k8: ∀q:Bool,∃r,Ov N m o a q=some r:=λq=>by
  unfold Ov
  split
  ·obtain⟨r,e⟩:=VX h a hx;rw [e];exact⟨_,Z⟩
  split<;>exact k10 _
 split
 ·rw [show KA N m.2.2.2.2.2.2.2.2.2.2.2.2.2.1 a=_ from MB N m.2.2.2.2.2.2.2.2.2.2.2.2.2.1.length (by have:=h.co;omega) a];exact⟨_,Z⟩
 split
 ·rw [show LV N m.2.2.2.2.2.2.2.2.2.2.2.2.2.2.1 a=_ from MB N m.2.2.2.2.2.2.2.2.2.2.2.2.2.2.1.length (by have:=h.mt;omega) a];exact⟨_,Z⟩
 split
 ·exact k8 _
 split
 ·exact k8 _
 split<;>exact k8 _
end
end Go.Proofs.YtjlomkippigejaaGreatDoor
