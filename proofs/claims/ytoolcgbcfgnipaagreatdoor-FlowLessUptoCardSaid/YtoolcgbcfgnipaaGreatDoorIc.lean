import Derived.Test.YtoolcgbcfgnipaaGreatDoorIb
namespace Go.Proofs.YtoolcgbcfgnipaaGreatDoor
open Go Go.RowKit Go.Eng
abbrev Stt:=List UInt8×List (Int×Int)×List (Int×Int×Int)×List (Int×BitVec 128×Int×BitVec 128×Int)×Int
abbrev Act:=List UInt8×List Int×List I9
abbrev Tab:=List UInt8×Int×List (Int×Int×Int)×List Int×Int×List (Int×BitVec 128)×Int
abbrev Nod:=Int×Int×List I9×List (Int×BitVec 128)×Int×Int
def Top(n:Int):Prop:=n≤9223372036854775807
structure Ctx(N:Nat)(m:Ao):Prop where
 hN:20000000<N
 hL:Lit m
 hs:m.2.1.length≤16
 hh: ∀h∈m.2.1,Lt h.1 h.2.1∧Rh h.1 h.2.1 h.2.2.1 h.2.2.2.1 h.2.2.2.2.1 h.2.2.2.2.2=0
 il:m.2.2.1.length≤16
theorem Ctx.ft{N:Nat}{m:Ao}(h:Ctx N m):Ft m.2.1.length m.2.2.1:=⟨by have:=h.hs;omega,by have:=h.il;omega,fun j hj=>by have:=h.il;have:=h.hL.ins j hj;omega⟩
theorem Ctx.cls{N:Nat}{m:Ao}(h:Ctx N m):Cls N m.2.1:=fun x hx=>by
 have h1:=(h.hh x hx).1
 refine⟨by have:=h1.2.1;omega,⟨by have:=h1.1;omega,fun y hy=> ?_⟩,by have:=h1.1;have:=h.hN;omega⟩
 exact jv (P:=fun y:Fd=>y.1.length≤140737488355328) (fun i hi=>by have:=h1.2.2 i hi;omega) y hy
theorem dK(hs:List Hd)(l:List Ins)(k:Int):(∃h∈hs,hdL hs l k=(h.1,h.2.1,h.2.2.1,h.2.2.2.1,h.2.2.2.2.1,h.2.2.2.2.2,true))∨hdL hs l k=([],[],0,0,0,0,false):=by
 unfold hdL
 split
 ·rename_i c
  exact .inl ⟨_,EI (i:=((l[(ofL l k).1.toNat]!).2.1).toNat) (by omega),rfl⟩
 ·exact .inr rfl
section
variable {N:Nat} {m:Ao}
theorem iO(h:Ctx N m)(k:Int)(hk:Top k):KP N m k=some (hdL m.2.1 m.2.2.1 k):=by
 rw [KP,km N (by have:=h.hN;omega) m.2.1 h.cls m.2.2.1 k h.ft hk,q0]
theorem LZ(N:Nat)(n:Nat)(hn:n≤1000000000000000000)(i:Int):ck ((-9223372036854775808≤((n:Int) - 1)∧((n:Int) - 1)≤9223372036854775807)) ((Az N i 0 ((n:Int) - 1)).bind fun r4=>some r4)=some (decide (0≤i∧i<(n:Int))):=by
 rw [ckp (by omega),EQ,q0];congr 1;exact decide_eq_decide.2 (by omega)
theorem Zf(h:Ctx N m)(s f:Int)(hs:Top s): ∃r,GD N m s f=some r:=by
 rw [GD,iO h s hs,q0]
 rcases dK m.2.1 m.2.2.1 s with⟨x,hx,e⟩|e
 ·have hl:=(h.hh x hx).1.1
  rw [e,if_pos rfl,show Lu N x.2.1 f=_ from LZ N x.2.1.length (by omega) f,q0]
  by_cases c:0≤f∧f<(x.2.1.length:Int)
  ·rw [zf c,if_pos rfl,Mb,ckp c];exact⟨_,rfl⟩
  ·rw [ze c,if_neg (by decide)];exact⟨_,rfl⟩
 ·rw [e,if_neg (by decide)];exact⟨_,rfl⟩
theorem jG(hm:m.2.2.2.1.length≤1048576)(i:Int): ∃r,HS N m i=some r:=by
 rw [HS,EQ,q0]
 by_cases c:0≤i∧i≤7
 ·rw [zf c,if_pos rfl,ckp (by omega)];exact⟨_,rfl⟩
 ·rw [ze c,if_neg (by decide),ckp (by omega),ckp (by omega),EQ,q0]
  by_cases d:8≤i∧i≤8+(m.2.2.2.1.length:Int) - 1
  ·rw [zf d,if_pos rfl,ckp (by omega),ckp (by omega)];exact⟨_,rfl⟩
  ·rw [ze d,if_neg (by decide)];exact⟨_,rfl⟩
theorem WR(h:Ctx N m)(i:Int): ∃r,FY N m i=some r:=by
 rw [FY,ad N (by have:=h.hN;omega) m.2.2.1 i h.ft.2.1,q0]
 unfold Zd
 by_cases c:0≤i∧i<(m.2.2.1.length:Int)∧dep (m.2.2.1[i.toNat]!).2.2≠0
 ·rw [if_pos c,if_pos rfl,ckp (by omega)]
  split
  ·exact⟨_,rfl⟩
  ·rw [IZ,ckp (by omega)];exact⟨_,rfl⟩
 ·rw [if_neg c,if_neg (by decide)];exact⟨_,rfl⟩
theorem US(h:Ctx N m)(k:Int)(hk:Top k): ∃r,GC N m k=some r:=by
 rw [GC,tu N (by have:=h.hN;omega) m.2.2.1 k h.ft.2.1 hk,q0];exact⟨_,rfl⟩
theorem Ctx.me(h:Ctx N m):m.2.2.2.1.length≤1048576:=by have:=(h.hL.ti 3 (by omega)).2;simpa [Bt] using this
theorem Ctx.st(h:Ctx N m):m.2.2.2.2.1.length≤1048576:=by have:=(h.hL.ti 4 (by omega)).2;simpa [Bt] using this
theorem Ctx.ac(h:Ctx N m):m.2.2.2.2.2.1.length≤1048576:=by have:=(h.hL.ti 5 (by omega)).2;simpa [Bt] using this
theorem Ctx.tb(h:Ctx N m):m.2.2.2.2.2.2.1.length≤1048576:=by have:=(h.hL.ti 6 (by omega)).2;simpa [Bt] using this
theorem Ctx.rg(h:Ctx N m):m.2.2.2.2.2.2.2.2.2.2.2.2.1.length≤1048576:=by have:=(h.hL.ti 12 (by omega)).2;simpa [Bt] using this
theorem Ctx.co(h:Ctx N m):m.2.2.2.2.2.2.2.2.2.2.2.2.2.1.length≤1048576:=by have:=(h.hL.ti 13 (by omega)).2;simpa [Bt] using this
theorem Ctx.mt(h:Ctx N m):m.2.2.2.2.2.2.2.2.2.2.2.2.2.2.1.length≤1048576:=by have:=(h.hL.ti 14 (by omega)).2;simpa [Bt] using this
theorem jn(h:Ctx N m)(k a b:Int)(ha:Top a): ∃r,Hj N m k a b=some r:=by
 rw [Hj]
 split
 ·obtain⟨r,e⟩:=Zf h a b ha;rw [e];exact⟨_,rfl⟩
 split
 ·obtain⟨r,e⟩:=jG (N:=N) (m:=m) (by have:=h.me;omega) a;rw [e];exact⟨_,rfl⟩
 split<;>exact⟨_,rfl⟩
theorem dE(h:Ctx N m)(l:List (Int×Int×Int))(hl:l.length≤1048576)(hr: ∀i,i<l.length→Top (l[i]!).2.1): ∀(k f i:Nat) (t:Int),i+k=l.length→k<f→0≤t→t≤128→ ∃r,IG N m l f t (i:Int)=some r:=by
 intro k
 induction k with
 |zero=>
  intro f i t hi hf h0 h1
  obtain⟨f,rfl⟩: ∃n,f=n+1:=⟨f - 1,by omega⟩
  rw [IG,if_neg (by omega)];exact⟨_,rfl⟩
 |succ k ih=>
  intro f i t hi hf h0 h1
  obtain⟨f,rfl⟩: ∃n,f=n+1:=⟨f - 1,by omega⟩
  obtain⟨r,e⟩:=jn h (l[i]!).1 (l[i]!).2.1 (l[i]!).2.2 (hr i (by omega))
  rw [IG,if_pos (by omega),ckp (by omega),q3,e,q0]
  split
  ·rw [ckp (by omega),EQ,q0]
   by_cases c:1≤r.1∧r.1≤128 - t
   ·rw [zf c,if_pos rfl,ckp (by omega),ckp (by omega),show(i:Int)+1=((i+1:Nat):Int)from by omega]
    exact ih f (i+1) _ (by omega) (by omega) (by omega) (by omega)
   ·rw [ze c,if_neg (by decide)];exact⟨_,rfl⟩
  ·exact⟨_,rfl⟩
theorem sd(h:Ctx N m)(l:List (Int×Int×Int))(hl:l.length≤1048576)(hr: ∀i,i<l.length→Top (l[i]!).2.1): ∃r,Nl N m l=some r:=dE h l hl hr l.length N 0 0 (by omega) (by have:=h.hN;omega) (by omega) (by omega)
theorem Rf(N:Nat)(w:Int):Ans (HR N w) True:=by
 rw [HR,EQ,q0];exact((Ans.un N _ 9 (by decide)).imp fun _=>trivial).pure
theorem UC(N:Nat)(w:Int):Ans (JG N w) True:=by
 rw [JG,EQ,q0];exact((Ans.un N _ 7 (by decide)).imp fun _=>trivial).pure
theorem gF(h:Ctx N m)(k a b:Int)(ha:Top a):Ans (Ht N m k a b) True:=by
 obtain⟨r,e⟩:=jn h k a b ha
 have k2: ∀q:Bool,Ans (Gj N r q) True:=fun q=>by
  rw [Gj,DA,q0,DA,q0]
  exact((KL (by have:=h.hN;omega) _ _).imp fun _=>trivial).pure
 rw [Ht,e,q0]
 split
 ·exact k2 _
 split
 ·rw [EQ,q0]
  split
  ·rw [EQ,q0];exact k2 _
  ·exact k2 _
 ·exact k2 _
theorem tF(h:Ctx N m)(i k a b n:Int)(ha:Top a)(hn:0≤n∧n≤10):Ans (Kl N i k a b n m) True:=by
 obtain⟨q,e,_⟩:=gF h k a b ha
 rw [Kl,ckp (by omega),ig,q0,DA,q0,e,q0]
 exact((KL (by have:=h.hN;omega) _ _).imp fun _=>trivial).pure
theorem kX(h:Ctx N m)(l:List (Int×Int×Int))(hl:l.length≤1048576)(hr: ∀i,i<l.length→Top (l[i]!).2.1)(n:Int)(hn:0≤n∧n≤10):Ans (HY N m l n) True:=by
 have hN:=h.hN
 have he1:Ans2 (NW N l 4 n m) _:=IB (by omega:20000000<N) l (fun i x=>Kl N i x.1 x.2.1 x.2.2 n m) (fun _=>True) (Kg N l n m) 4 (by decide) (fun _ _=>rfl) (fun _ i hi=>tF h _ _ _ _ n (hr i hi) hn)
 obtain⟨r,e,_⟩:=he1
 obtain⟨q,e2⟩:=sd h l hl hr
 rw [HY,e,q0,e2,q0,DA,q0]
 exact((KL (by omega) _ _).imp fun _=>trivial).pure
theorem vl(h:Ctx N m)(i k n:Int)(hn:Top n):Ans (LP N m i k n) True:=by
 rw [LP]
 split
 ·rw [tu N (by have:=h.hN;omega) m.2.2.1 n h.ft.2.1 hn,q0]
  split
  ·rename_i _ a
   have hr:0≤(ofL m.2.2.1 n).1∧(ofL m.2.2.1 n).1<(m.2.2.1.length:Int):=by
    unfold ofL at a ⊢
    by_cases b:n<0
    ·rw [if_pos b] at a;cases a
    ·rw [if_neg b] at a ⊢;have:=Yb m.2.2.1 0 n a;omega
   rw [ckp hr];exact((Ans.un N _ 5 (by decide)).imp fun _=>trivial).pure
  ·exact((Ans.un N _ 5 (by decide)).imp fun _=>trivial).pure
 split
 ·obtain⟨r,e⟩:=WR h n
  rw [e,q0];exact((Ans.un N _ 5 (by decide)).imp fun _=>trivial).pure
 split
 ·rw [EQ,q0];exact((Ans.un N _ 7 (by decide)).imp fun _=>trivial).pure
 ·exact⟨10,rfl,fun e=>absurd e (by decide)⟩
theorem Yp(N:Nat)(w:Int)(x:BitVec 128)(n:Int): ∃r,FF N w x n=some r:=by
 rw [FF]
 split
 ·rw [io];exact⟨_,rfl⟩
 ·exact⟨_,rfl⟩
theorem jB(h:Ctx N m)(n:Int):Ans (Gi N m n) (-2≤n∧n<(m.2.2.2.2.1.length:Int)):=by
 rw [Gi,show Lq N m.2.2.2.2.1 n=_ from LZ N m.2.2.2.2.1.length (by have:=h.st;omega) n,q0]
 by_cases c:0≤n∧n<(m.2.2.2.2.1.length:Int)
 ·rw [zf c,if_pos rfl];exact((Ans.un N _ 5 (by decide)).imp fun _=>by omega).pure
 rw [ze c,if_neg (by decide)]
 by_cases d:n= -1
 ·rw [if_pos d];exact((Ans.un N _ 5 (by decide)).imp fun _=>by omega).pure
 ·rw [if_neg d];exact((Ans.un N _ 5 (by decide)).imp fun e=>by have:=eq_of_beq e;omega).pure
theorem tX(h:Ctx N m)(i w:Int)(x:BitVec 128)(w2:Int)(x2:BitVec 128)(n:Int)(l:List (Int×Int×Int))(q:Int):Ans (HH N i w x w2 x2 n l q m) (-2≤n∧n<(m.2.2.2.2.1.length:Int)):=by
 have hN:=h.hN
 obtain⟨b1,e1⟩:=Yp N w x q
 obtain⟨b2,e2⟩:=Yp N w2 x2 q
 obtain⟨b3,e3,p3⟩:=jB h n
 rw [HH,Ju,q0,Ju,q0,OU,q0,OV,q0,DA,q0,e1,q0]
 split
 ·rw [e2,q0,DA,q0,DA,q0,e3,q0]
  exact((Ze (by omega) _ _ _ _).imp fun z=>p3 z.2.2.2).pure
 ·rw [DA,q0,DA,q0,e3,q0]
  exact((Ze (by omega) _ _ _ _).imp fun z=>p3 z.2.2.2).pure
def StOk(m:Ao)(s:Stt):Prop:= ∀k,k<s.2.2.2.1.length→ -2≤(s.2.2.2.1[k]!).2.2.2.2∧(s.2.2.2.1[k]!).2.2.2.2<(m.2.2.2.2.1.length:Int)
def StR(s:Stt):Prop:=(∀i,i<s.2.1.length→Top (s.2.1[i]!).2)∧ ∀i,i<s.2.2.1.length→Top (s.2.2.1[i]!).2.1
theorem ow(h:Ctx N m)(s:Stt)(hl:s.2.2.1.length≤1048576)(hr:StR s):Ans (IR N m s.1 s.2.1 s.2.2.1 s.2.2.2.1 s.2.2.2.2) (StOk m s):=by
 have hN:=h.hN
 have he2:Ans2 (NX N s.2.1 4 m) _:=IB (by omega:20000000<N) s.2.1 (fun i x=>LP N m i x.1 x.2) (fun _=>True) (Kh N s.2.1 m) 4 (by decide) (fun _ _=>rfl) (fun _ i hi=>vl h _ _ _ (hr.1 i hi))
 obtain⟨r1,e1,_⟩:=he2
 obtain⟨r2,e2⟩:=sd h s.2.2.1 (by omega) hr.2
 have he3:Ans2 (Lx N s.2.2.2.1 8 s.2.2.1 r2.1 m) _:=IB (by omega:20000000<N) s.2.2.2.1 (fun i x=>HH N i x.1 x.2.1 x.2.2.1 x.2.2.2.1 x.2.2.2.2 s.2.2.1 r2.1 m) _ (Jh N s.2.2.2.1 s.2.2.1 r2.1 m) 8 (by decide) (fun _ _=>rfl) (fun _ i hi=>tX h _ _ _ _ _ _ _ _)
 obtain⟨r3,e3,p3⟩:=he3
 obtain⟨r4,e4,_⟩:=kX h s.2.2.1 (by omega) hr.2 3 (by decide)
 obtain⟨r5,e5,_⟩:=jB h s.2.2.2.2
 rw [IR,e1,q0,Ib,e2,q0,q0,e3,q0,e4,q0,e5,q0]
 exact((Ze (by omega) _ _ _ _).imp fun z k hk=>(p3 z.2.2.1).2 k hk).pure
def fR(N:Nat)(m:Ao)(a:List Int)(n i:Nat)(x:I9):Prop:=
 ((x.1=1∨x.1=22)→ ∀r,GD N m x.2.1 x.2.2.1=some r→r.2=true)∧((x.1=2∨x.1=23)→ ∀r,HS N m x.2.1=some r→r.2=true)∧
 (x.1=3→0≤x.2.1∧x.2.1<(a.length:Int))∧((x.1=5∨x.1=24)→0≤x.2.1∧x.2.1<(m.2.2.2.2.2.2.2.2.2.2.2.2.1.length:Int))∧((x.1=31∨x.1=32)→(i:Int)<x.2.1∧x.2.1≤(n:Int))
theorem eB(h:Ctx N m)(pl:List Int)(hp:pl.length≤1048576)(x:I9)(hx:Top x.2.1): ∃b,Rk N m pl x.1 x.2.1 x.2.2.1 x.2.2.2.1 x.2.2.2.2=some b∧(b=true→
  ((x.1=1∨x.1=22)→ ∀r,GD N m x.2.1 x.2.2.1=some r→r.2=true)∧((x.1=2∨x.1=23)→ ∀r,HS N m x.2.1=some r→r.2=true)∧
  (x.1=3→0≤x.2.1∧x.2.1<(pl.length:Int))∧((x.1=5∨x.1=24)→0≤x.2.1∧x.2.1<(m.2.2.2.2.2.2.2.2.2.2.2.2.1.length:Int))):=by
 obtain⟨o,a,b,w,v⟩:=x
 unfold Rk
 have f1:(if o=1 then NS N m pl o a b (o==1)else NS N m pl o a b (o==22))=NS N m pl o a b (decide (o=1∨o=22)):=by
  by_cases c:o=1
  ·subst c;rfl
  ·rw [if_neg c];congr 1;rw [Bool.eq_iff_iff,beq_iff_eq,decide_eq_true_eq];omega
 show∃b',(if o=1 then _ else _)=some b'∧_
 rw [f1]
 unfold NS
 by_cases c1:o=1∨o=22
 ·rw [zf c1,if_pos rfl]
  obtain⟨r,e⟩:=Zf h a b hx
  rw [e,q0]
  exact⟨_,rfl,fun hr=>⟨fun _ r2 e2=>by rw [←q1 e2];exact hr,fun d=>by rcases c1 with rfl|rfl<;>simp at d,fun d=>by rcases c1 with rfl|rfl<;>simp at d,fun d=>by rcases c1 with rfl|rfl<;>simp at d⟩⟩
 rw [ze c1,if_neg (by decide)]
 have f2:(if o=2 then NR N m pl o a (o==2)else NR N m pl o a (o==23))=NR N m pl o a (decide (o=2∨o=23)):=by
  by_cases c:o=2
  ·subst c;rfl
  ·rw [if_neg c];congr 1;rw [Bool.eq_iff_iff,beq_iff_eq,decide_eq_true_eq];omega
 rw [f2]
 unfold NR
 by_cases c2:o=2∨o=23
 ·rw [zf c2,if_pos rfl]
  obtain⟨r,e⟩:=jG (N:=N) (m:=m) (by have:=h.me;omega) a
  rw [e,q0]
  exact⟨_,rfl,fun hr=>⟨fun d=>absurd d c1,fun _ r2 e2=>by rw [←q1 e2];exact hr,fun d=>by rcases c2 with rfl|rfl<;>simp at d,fun d=>by rcases c2 with rfl|rfl<;>simp at d⟩⟩
 rw [ze c2,if_neg (by decide)]
 by_cases c3:o=3
 ·rw [if_pos c3,show RP N pl a=_ from LZ N pl.length (by omega) a,q0]
  exact⟨_,rfl,fun hr=>⟨fun d=>absurd d c1,fun d=>absurd d c2,fun _=>zd hr,fun d=>by subst c3;simp at d⟩⟩
 rw [if_neg c3]
 have f3:(if o=5 then NQ N m o a (o==5)else NQ N m o a (o==24))=NQ N m o a (decide (o=5∨o=24)):=by
  by_cases c:o=5
  ·subst c;rfl
  ·rw [if_neg c];congr 1;rw [Bool.eq_iff_iff,beq_iff_eq,decide_eq_true_eq];omega
 rw [f3]
 unfold NQ
 by_cases c4:o=5∨o=24
 ·rw [zf c4,if_pos rfl,show MK N m.2.2.2.2.2.2.2.2.2.2.2.2.1 a=_ from LZ N m.2.2.2.2.2.2.2.2.2.2.2.2.1.length (by have:=h.rg;omega) a,q0]
  exact⟨_,rfl,fun hr=>⟨fun d=>absurd d c1,fun d=>absurd d c2,fun d=>absurd d c3,fun _=>zd hr⟩⟩
 rw [ze c4,if_neg (by decide)]
 have fin: ∀y:Option Bool,(∃r,y=some r)→ ∃b',y=some b'∧(b'=true→((o=1∨o=22)→ ∀r,GD N m a b=some r→r.2=true)∧((o=2∨o=23)→ ∀r,HS N m a=some r→r.2=true)∧(o=3→0≤a∧a<(pl.length:Int))∧((o=5∨o=24)→0≤a∧a<(m.2.2.2.2.2.2.2.2.2.2.2.2.1.length:Int))):=
  fun y ⟨r,e⟩=>⟨r,e,fun _=>⟨fun d=>absurd d c1,fun d=>absurd d c2,fun d=>absurd d c3,fun d=>absurd d c4⟩⟩
 refine fin _ ?_
 have k10: ∀q:Bool,∃r,ON N m a q=some r:=fun q=>by
  unfold ON
  split
  ·obtain⟨r,e⟩:=WR h a;rw [e];exact⟨_,rfl⟩
  ·exact⟨_,rfl⟩
 have k8: ∀q:Bool,∃r,NP N m o a q=some r:=fun q=>by
  unfold NP
  split
  ·obtain⟨r,e⟩:=US h a hx;rw [e];exact⟨_,rfl⟩
  split<;>exact k10 _
 split
 ·rw [show JZ N m.2.2.2.2.2.2.2.2.2.2.2.2.2.1 a=_ from LZ N m.2.2.2.2.2.2.2.2.2.2.2.2.2.1.length (by have:=h.co;omega) a];exact⟨_,rfl⟩
 split
 ·rw [show Lr N m.2.2.2.2.2.2.2.2.2.2.2.2.2.2.1 a=_ from LZ N m.2.2.2.2.2.2.2.2.2.2.2.2.2.2.1.length (by have:=h.mt;omega) a];exact⟨_,rfl⟩
 split
 ·exact k8 _
 split
 ·exact k8 _
 split<;>exact k8 _
end
end Go.Proofs.YtoolcgbcfgnipaaGreatDoor
