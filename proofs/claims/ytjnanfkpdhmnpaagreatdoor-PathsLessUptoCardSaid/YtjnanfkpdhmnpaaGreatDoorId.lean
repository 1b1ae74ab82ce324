import Derived.Test.YtjnanfkpdhmnpaaGreatDoorIc
namespace Go.Proofs.YtjnanfkpdhmnpaaGreatDoor
open Go Go.RowKit Go.Eng
section
variable {N:Nat} {m:Ao}
theorem Vz{l:Y0 I9}(h:(Uy l).2.2=0):(Uy l).1=l.map FM/\l.length<=64/\ ∀x∈l,OL x=0:=by
 have hb:(Uw l).2=0:=h
 refine⟨by show(if(Uw l).2=0 then _ else _)=_;rw [V8 hb], ?_⟩
 have key: ∀(r:Y0 I9) (i:Nat) (d:Int×Int),(YN i r d).2=0->d.2=0/\ ∀x∈r,OL x=0:=by
  intro r
  induction r with
  |nil=>exact λi d q=>⟨q,λx hx=>by cases hx⟩
  |cons y r ih=>
   intro i d q
   rw [YN] at q
   by_cases c:OL y≠0
   ·rw [V8 c] at q;exact absurd q c
   ·rw [V9 c] at q
    obtain⟨h1,h2⟩:=ih (i+1) d q
    exact⟨h1,λx hx=>by rcases List.mem_cons.1 hx with rfl|hx;exact Decidable.not_not.1 c;exact h2 x hx⟩
 obtain⟨h1,h2⟩:=key _ _ _ hb
 have h3:l.length<=64:=by
  by_cases c:l.length>64
  ·rw [V8 c] at h1;exact absurd (show(2:Int)=0 from h1) (by decide)
  ·omega
 exact⟨h3,by rw [y4 h3] at h2;exact h2⟩
theorem UA(a b w:Int)(v:W3):OD (SQ 31 a b w v)=(a,true)/\OD (SQ 32 a b w v)=(a,true):=⟨Z,Z⟩
def CoR(l:Y0 I9):Prop:= ∀i,i<l.length->Top (l[i]!).2.1
theorem tq(h:Ctx N m)(pl:Y0 Int)(hp:pl.length<=1048576)(l:Y0 I9)(hl:l.length<=1048576)(hr:CoR l)(i:Nat)(hi:i<l.length):Ans (Hu N (i:Int) (FM (l[i]!)) m pl l) (ju N m pl l.length i (l[i]!)):=by
 have hN:=h.hN
 obtain⟨b,e,p⟩:=gK h pl hp (l[i]!) (hr i hi)
 have lead: ∃q,HD N (FM (l[i]!)) (i:Int) ((l.length:Nat):Int)=some q/\(q=true-> ∀t,OD (FM (l[i]!))=(t,true)->(i:Int)+1<=t/\t<=(l.length:Int)):=by
  rw [HD,bP,q0]
  by_cases c:(OD (FM (l[i]!))).2=true
  ·rw [V8 c,ckp (by omega),FF,q0]
   exact⟨_,Z,λq t ht=>by rw [ht] at q;exact zj q⟩
  ·rw [V9 c];exact⟨_,Z,λ_ t ht=>absurd (by rw [ht]) c⟩
 obtain⟨q,e2,p2⟩:=lead
 rw [Hu,ckp (by omega),q4,e,q0,e2]
 obtain⟨r1,u1,v1⟩:=Ans.un N b 5 (by decide)
 obtain⟨r2,u2,v2⟩:=Ans.un N q 12 (by decide)
 rw [u1,q0,q0,u2,q0]
 refine((LR (by omega) r1 r2).imp λz=> ?_).pure
 obtain⟨g1,g2,g3,g4⟩:=p (v1 z.1)
 refine⟨g1,g2,g3,g4,λd=> ?_⟩
 have t:OD (FM (l[i]!))=((l[i]!).2.1,true):=by
  generalize l[i]! =x at d
  obtain⟨o,a,b',w,v⟩:=x
  rcases d with d|d<;>(have d':o=_:=d;subst d')
  ·exact(UA a b' w v).1
  ·exact(UA a b' w v).2
 have:=p2 (v2 z.2) _ t
 omega
theorem cot(h:Ctx N m)(pl:Y0 Int)(hp:pl.length<=1048576)(l:Y0 I9)(hl:l.length<=1048576)(hr:CoR l):Ans (HY N m pl l) (∀i,i<l.length->ju N m pl l.length i (l[i]!)):=by
 have hN:=h.hN
 rw [HY]
 split
 ·exact⟨2,Z,λe=>absurd e (by decide)⟩
 rw [qY (by omega:20000000<N) l (by omega),q0]
 by_cases c:(Uy l).2.2=0
 ·obtain⟨h1,h2,h3⟩:=Vz c
  rw [V9 (λq=>q c),h1]
  refine((Ju (by omega:20000000<N) (l.map FM) (λi x=>Hu N i x m pl l) (λi=>ju N m pl l.length i (l[i]!)) (FP N (l.map FM) m pl l) 64 (by decide) (λ_ _=>Z) (λ_ i hi=> ?_):Ans2 (IP N (l.map FM) 64 m pl l) _).imp λz i hi=>z.2 i (by rw [q9];exact hi)).snd
  rw [q9] at hi
  have:=tq h pl hp l hl hr i hi
  rwa [show(l.map FM)[i]! =FM (l[i]!)from by rw [zm _ i (by rw [q9];exact hi),zm l i hi,zt]]
 ·rw [V8 c];exact⟨_,Z,λq=>absurd q c⟩
def uU(N:Nat)(m:Ao)(x:Act):Prop:= ∀i,i<x.2.2.length->ju N m x.2.1 x.2.2.length i (x.2.2[i]!)
theorem ra(h:Ctx N m)(x:Act)(hl:x.2.1.length<=1048576/\x.2.2.length<=1048576)(hr:CoR x.2.2):Ans (IY N m x.1 x.2.1 x.2.2) (uU N m x):=by
 have hN:=h.hN
 have he1:Ans2 (OQ N x.2.1 8) _:=Ju (by omega:20000000<N) x.2.1 (λi x=>NM N i x) (λ_=>True) (KT N x.2.1) 8 (by decide) (λ_ _=>Z) (λ_ i hi=>(SC N _).pure)
 obtain⟨r1,e1,_⟩:=he1
 obtain⟨r2,e2,p2⟩:=cot h x.2.1 (by omega) x.2.2 (by omega) hr
 rw [IY,e1,q0,e2,q0]
 exact((LR (by omega) _ _).imp λz=>p2 z.2).pure
theorem gq{N:Nat}(hN:20000000<N)(l:Y0 Int)(hl:l.length<=1048576)(v:Int): ∃b,BC N l v=some b:=by
 have: ∀(k f i:Nat),i+k=l.length->k<f-> ∃r,CS l v f (i:Int)=some r:=by
  intro k
  induction k with
  |zero=>
   intro f i hi hf
   obtain⟨f,rfl⟩: ∃n,f=n+1:=⟨f - 1,by omega⟩
   rw [CS,V9 (by omega)];exact⟨_,Z⟩
  |succ k ih=>
   intro f i hi hf
   obtain⟨f,rfl⟩: ∃n,f=n+1:=⟨f - 1,by omega⟩
   rw [CS,V8 (by omega),ckp (by omega)]
   split
   ·exact⟨_,Z⟩
   ·rw [ckp (by omega),show(i:Int)+1=((i+1:Nat):Int)from by omega];exact ih f (i+1) (by omega) (by omega)
 obtain⟨r,e⟩:=this l.length N 0 (by omega) (by omega)
 rw [BC,IE,show(0:Int)=((0:Nat):Int)from Z,e];exact⟨_,Z⟩
theorem nP(h:Ctx N m)(l:Y0 Int)(hl:l.length<=1048576):Ans (IW N m l) (∀i,i<l.length->0<=l[i]!/\l[i]!<(m.2.2.2.2.2.1.length:Int)):=by
 have hN:=h.hN
 have he2:Ans2 (OP N l 8 m) _:=Ju (by omega:20000000<N) l (λi x=>JS N i x m) (λi=>0<=l[i]!/\l[i]!<(m.2.2.2.2.2.1.length:Int)) (KS N l m) 8 (by decide) (λ_ _=>Z) (λ_ i hi=>by
  rw [JS,show GS N m.2.2.2.2.2.1 (l[i]!)=_ from MU N m.2.2.2.2.2.1.length (by have:=h.ac;omega) (l[i]!),q0]
  exact((Ans.un N _ 5 (by decide)).imp λq=>zj q).pure)
 obtain⟨r1,e1,p1⟩:=he2
 have he3:Ans2 (OO N l 8 l) _:=Ju (by omega:20000000<N) l (λi x=>JR N i x l) (λ_=>True) (KR N l l) 8 (by decide) (λ_ _=>Z) (λ_ i hi=>by
  obtain⟨b,e⟩:=gq (N:=N) (by omega) ((l.take ((i:Int)).toNat).drop 0) (by rw [zq,q8];omega) (l[i]!)
  rw [JR,ckp (by omega),e,q0]
  exact((Ans.un N _ 6 (by decide)).imp λ_=>trivial).pure)
 obtain⟨r2,e2,_⟩:=he3
 rw [IW,e1,q0,e2,q0,EI,q0]
 exact((nj (by omega) _ _ _).imp λz=>(p1 z.2.1).2).pure
theorem qX(h:Ctx N m)(a:Int)(l:Y0 (Int×W3))(hl:l.length<=1048576):Ans (Jz N m a l) True:=by
 have hN:=h.hN
 rw [Jz,show GS N m.2.2.2.2.2.1 a=_ from MU N m.2.2.2.2.2.1.length (by have:=h.ac;omega) a,q0]
 by_cases c:0<=a/\a<(m.2.2.2.2.2.1.length:Int)
 ·rw [zl c,V8 Z,ckp c]
  by_cases d:(l.length:Int)=((m.2.2.2.2.2.1[a.toNat]!).2.1.length:Int)
  ·rw [V9 (λq=>q d)]
   exact((Ju (by omega:20000000<N) l (λi x=>Lv N i x.1 x.2 (m.2.2.2.2.2.1[a.toNat]!).2.1) (λ_=>True) (KX N l (m.2.2.2.2.2.1[a.toNat]!).2.1) (l.length:Int) (by omega) (λ_ _=>Z) (λ_ i hi=>by
    obtain⟨b,e⟩:=aK N (l[i]!).1 (l[i]!).2 ((m.2.2.2.2.2.1[a.toNat]!).2.1[((i:Int)).toNat]!)
    rw [Lv,ckp (by omega),e,q0]
    exact((Ans.un N _ 9 (by decide)).imp λ_=>trivial).pure):Ans2 (OV N l (l.length:Int) (m.2.2.2.2.2.1[a.toNat]!).2.1) _).imp λ_=>trivial).snd
  ·rw [V8 d];exact⟨2,Z,λq=>absurd q (by decide)⟩
 ·rw [zk c,V9 (by decide)];exact⟨5,Z,λq=>absurd q (by decide)⟩
def TbR(x:Tab):Prop:= ∀i,i<x.2.2.1.length->Top (x.2.2.1[i]!).2.1
def ri(m:Ao)(x:Tab):Prop:= ∀i,i<x.2.2.2.1.length->0<=x.2.2.2.1[i]!/\x.2.2.2.1[i]!<(m.2.2.2.2.2.1.length:Int)
theorem rx(h:Ctx N m)(x:Tab)(hl:x.2.2.1.length<=1048576/\x.2.2.2.1.length<=1048576/\x.2.2.2.2.2.1.length<=1048576)(hr:TbR x):Ans (JG N m x.1 x.2.1 x.2.2.1 x.2.2.2.1 x.2.2.2.2.1 x.2.2.2.2.2.1 x.2.2.2.2.2.2) (ri m x):=by
 have hN:=h.hN
 obtain⟨r1,e1,_⟩:=nO h x.2.2.1 (by omega) hr 2 (by decide)
 obtain⟨r2,e2,p2⟩:=nP h x.2.2.2.1 (by omega)
 obtain⟨r3,e3⟩:=gq (N:=N) (by omega) x.2.2.2.1 (by omega) x.2.2.2.2.1
 obtain⟨r4,e4,_⟩:=qX h x.2.2.2.2.1 x.2.2.2.2.2.1 (by omega)
 rw [JG,jx,q0,EI,q0,EI,q0,e1,q0,e2,q0,e3,q0,EI,q0,e4,q0,FF,q0,EI,q0]
 exact Ans.pure (Ans.imp (Vr (by omega) _ (by simp)) λz=>p2 (z 3 (by simp)))
def bK(m:Ao)(n i:Nat)(x:Nod):Prop:=((i:Int)<x.2.2.2.2.1/\x.2.2.2.2.1<=(n:Int))/\(x.1=0->0<=x.2.1/\x.2.1<(m.2.2.2.2.2.2.1.length:Int))/\(x.1=2->0<=x.2.1/\x.2.1<(m.2.2.2.2.2.1.length:Int))/\(x.1≠2->(i:Int)<x.2.2.2.2.2/\x.2.2.2.2.2<=(n:Int))
theorem cw(h:Ctx N m)(x:Nod)(hx:Top x.2.1):Ans (Ho N m x.1 x.2.1 x.2.2.1 x.2.2.2.1 x.2.2.2.2.1 x.2.2.2.2.2) ((x.1=0->0<=x.2.1/\x.2.1<(m.2.2.2.2.2.2.1.length:Int))/\(x.1=2->0<=x.2.1/\x.2.1<(m.2.2.2.2.2.1.length:Int))):=by
 rw [Ho]
 by_cases c0:x.1=0
 ·rw [V8 c0,show Mq N m.2.2.2.2.2.2.1 x.2.1=_ from MU N m.2.2.2.2.2.2.1.length (by have:=h.tb;omega) x.2.1,q0]
  exact((Ans.un N _ 5 (by decide)).imp λq=>⟨λ_=>zj q,λe=>by omega⟩).pure
 rw [V9 c0]
 by_cases c1:x.1=1
 ·rw [V8 c1];exact((Ans.un N _ 5 (by decide)).imp λ_=>⟨λq=>absurd q c0,λe=>by omega⟩).pure
 rw [V9 c1]
 by_cases c2:x.1=2
 ·rw [V8 c2,show GS N m.2.2.2.2.2.1 x.2.1=_ from MU N m.2.2.2.2.2.1.length (by have:=h.ac;omega) x.2.1,q0]
  exact((Ans.un N _ 5 (by decide)).imp λq=>⟨λz=>absurd z c0,λ_=>zj q⟩).pure
 rw [V9 c2]
 by_cases c3:x.1=3
 ·obtain⟨b,e⟩:=Wu h x.2.1 hx
  rw [V8 c3,e,q0];exact((Ans.un N _ 5 (by decide)).imp λ_=>⟨λq=>absurd q c0,λq=>absurd q c2⟩).pure
 ·rw [V9 c3];exact⟨10,Z,λq=>absurd q (by decide)⟩
theorem cy(h:Ctx N m)(x:Nod)(i n:Nat)(hi:i<=1048576):Ans (Hn N x.1 x.2.1 x.2.2.1 x.2.2.2.1 x.2.2.2.2.1 x.2.2.2.2.2 (i:Int) (n:Int)) (((i:Int)<x.2.2.2.2.1/\x.2.2.2.2.1<=(n:Int))/\(x.1≠2->(i:Int)<x.2.2.2.2.2/\x.2.2.2.2.2<=(n:Int))):=by
 have hN:=h.hN
 obtain⟨r1,u1,v1⟩:=Ans.un N (decide ((i:Int)+1<=x.2.2.2.2.1/\x.2.2.2.2.1<=(n:Int))) 12 (by decide)
 rw [Hn,ckp (by omega),FF,q0,u1,q0]
 split
 ·rename_i c
  rw [EI,q0]
  exact((LR (by omega) _ _).imp λz=>⟨by have:=zj (v1 z.2);omega,λq=>absurd c q⟩).pure
 ·rw [ckp (by omega),FF,q0]
  obtain⟨r2,u2,v2⟩:=Ans.un N (decide ((i:Int)+1<=x.2.2.2.2.2/\x.2.2.2.2.2<=(n:Int))) 12 (by decide)
  rw [u2,q0]
  exact((LR (by omega) _ _).imp λz=>⟨by have:=zj (v1 z.1);omega,λ_=>by have:=zj (v2 z.2);omega⟩).pure
def NdR(x:Nod):Prop:=Top x.2.1/\CoR x.2.2.1
theorem ww(h:Ctx N m)(l:Y0 Nod)(i:Nat)(hi:i<l.length)(hl:l.length<=1048576)(hx:(l[i]!).2.2.1.length<=1048576/\(l[i]!).2.2.2.1.length<=1048576)(hr:NdR (l[i]!)):
  Ans (Jq N (i:Int) (l[i]!).1 (l[i]!).2.1 (l[i]!).2.2.1 (l[i]!).2.2.2.1 (l[i]!).2.2.2.2.1 (l[i]!).2.2.2.2.2 m l) (bK m l.length i (l[i]!)):=by
 have hN:=h.hN
 obtain⟨r1,e1,p1⟩:=cw h (l[i]!) hr.1
 have c:Ans (HO N m (l[i]!).1 (l[i]!).2.1 (l[i]!).2.2.1 (l[i]!).2.2.2.1 (l[i]!).2.2.2.2.1 (l[i]!).2.2.2.2.2) True:=by
  rw [HO]
  split
  ·exact((cot h [] (by decide) _ (by omega) hr.2).imp λ_=>trivial).pure
  ·exact((Ans.un N _ 4 (by decide)).imp λ_=>trivial).pure
 have a:Ans (HP N m (l[i]!).1 (l[i]!).2.1 (l[i]!).2.2.1 (l[i]!).2.2.2.1 (l[i]!).2.2.2.2.1 (l[i]!).2.2.2.2.2) True:=by
  rw [HP]
  split
  ·exact(qX h _ _ (by omega)).pure
  ·exact((Ans.un N _ 4 (by decide)).imp λ_=>trivial).pure
 obtain⟨r2,e2,_⟩:=c
 obtain⟨r3,e3,_⟩:=a
 obtain⟨r4,e4,p4⟩:=cy h (l[i]!) i l.length (by omega)
 rw [Jq,e1,q0,e2,q0,e3,q0,e4,q0]
 exact((bg (by omega) _ _ _ _).imp λz=>⟨(p4 z.2.2.2).1,(p1 z.1).1,(p1 z.1).2,(p4 z.2.2.2).2⟩).pure
theorem ij(h:Ctx N m)(l:Y0 Nod)(hl:l.length<=1048576)(hx: ∀i,i<l.length->(l[i]!).2.2.1.length<=1048576/\(l[i]!).2.2.2.1.length<=1048576)(hr: ∀i,i<l.length->NdR (l[i]!)):
  Ans2 (Lc N m l) (∀i,i<l.length->bK m l.length i (l[i]!)):=by
 have hN:=h.hN
 rw [Lc]
 exact((Ju (by omega:20000000<N) l (λi x=>Jq N i x.1 x.2.1 x.2.2.1 x.2.2.2.1 x.2.2.2.2.1 x.2.2.2.2.2 m l) _ (JY N l m l) 32 (by decide) (λ_ _=>Z) (λhm i hi=>ww h l i hi (by omega) (hx i hi) (hr i hi)):Ans2 (NK N l 32 m l) _).imp λz=>z.2).pure
theorem kA(h:Ctx N m)(hl:m.2.2.2.2.2.2.2.2.2.1.length<=1048576)(hr: ∀i,i<m.2.2.2.2.2.2.2.2.2.1.length->Top (m.2.2.2.2.2.2.2.2.2.1[i]!)):Ans2 (Ip N m) True:=by
 have hN:=h.hN
 rw [Ip]
 exact((Ju (by omega:20000000<N) m.2.2.2.2.2.2.2.2.2.1 (λi x=>Jr N i x m) (λ_=>True) (KQ N m.2.2.2.2.2.2.2.2.2.1 m) 32 (by decide) (λ_ _=>Z) (λ_ i hi=>by
  obtain⟨b,e⟩:=Wu h (m.2.2.2.2.2.2.2.2.2.1[i]!) (hr i hi)
  obtain⟨b2,e2⟩:=gq (N:=N) (by omega) ((m.2.2.2.2.2.2.2.2.2.1.take ((i:Int)).toNat).drop 0) (by rw [zq,q8];omega) (m.2.2.2.2.2.2.2.2.2.1[i]!)
  rw [Jr,e,q0,EI,q0,ckp (by omega),e2,q0,EI,q0]
  exact((LR (by omega) _ _).imp λ_=>trivial).pure):Ans2 (ON N m.2.2.2.2.2.2.2.2.2.1 32 m) _).imp λ_=>trivial).pure
theorem xX(h:Ctx N m)(k f:Int): ∃r,JV N (hdL m.2.1 m.2.2.1 k).1 (hdL m.2.1 m.2.2.1 k).2.1 (hdL m.2.1 m.2.2.1 k).2.2.1 (hdL m.2.1 m.2.2.1 k).2.2.2.1 (hdL m.2.1 m.2.2.1 k).2.2.2.2.1 (hdL m.2.1 m.2.2.1 k).2.2.2.2.2.1 f=some r/\0<=r.1/\r.1<=9223372036854775807:=by
 have hN:=h.hN
 have key: ∀l:Y0 Fd,okW l->l.length<=1048576-> ∀(a:W2) (b c d e:Int),∃r,JV N a l b c d e f=some r/\0<=r.1/\r.1<=9223372036854775807:=by
  intro l hw hl a b c d e
  rw [JV,ckp (by omega),Jb,q0]
  by_cases q:0<=f/\f<=(l.length:Int) - 1
  ·have hw2:okW (l.take f.toNat):=λx hx=>hw x (List.mem_of_mem_take hx)
   have h40:(l.take f.toNat).length<=1048576:=by rw [q8];omega
   have:=OK _ hw2
   rw [zl q,V8 Z,ckp (by omega),j8,gI N (by omega) _ hw2 h40,q0]
   exact⟨_,Z,this.1,by show Ke _<=_;omega⟩
  ·rw [zk q,V9 (by decide)];exact⟨_,Z,by decide,by decide⟩
 rcases fX m.2.1 m.2.2.1 k with⟨x,hx,e⟩|e
 ·have hl:=(h.hh x hx)
  rw [e];exact key x.2.1 (ik hl.2).1 (by have:=hl.1.1;omega) _ _ _ _ _
 ·rw [e];exact key [] (λx hx=>by cases hx) (by decide) _ _ _ _ _
theorem li(h:Ctx N m)(l:Y0 (Int×Int))(hl:l.length<=1048576)(hr: ∀i,i<l.length->Top (l[i]!).1):Ans2 (LW N m l) True:=by
 have hN:=h.hN
 rw [LW]
 exact((Ju (by omega:20000000<N) l (λi x=>Lq N i x.1 x.2 m) (λ_=>True) (KY N l m) 4 (by decide) (λ_ _=>Z) (λ_ i hi=>by
  obtain⟨r,e,o1,o2⟩:=xX h (l[i]!).1 (l[i]!).2
  obtain⟨q,e2⟩:=bj h (l[i]!).1 (l[i]!).2 (hr i hi)
  rw [Lq,fv h _ (hr i hi),q0,e,q0,e2,q0,EI,q0]
  split
  ·rw [ckp ⟨o1,o2⟩,EI,q0];exact((LR (by omega) _ _).imp λ_=>trivial).pure
  ·rw [EI,q0];exact((LR (by omega) _ _).imp λ_=>trivial).pure):Ans2 (OW N l 4 m) _).imp λ_=>trivial).pure
end
abbrev Mtr:=W2×Int×Int×Int
theorem Qs{α:Type}[Inhabited α]{N:Nat}(hN:20000000<N)(l:Y0 α)(g:α->W2)(hb:brf (l.map g))(gat:Y1 (Y0 (W2)))(hg:gat=some (l.map g))(eac:Y0 (W2)->Y1 (Int×Int))(P:Prop)
  (he:Ans2 (eac (l.map g)) P):Ans2 ((gat.bind λr4=>(eac r4).bind λr11=>some (r11.1,r11.2)).bind λr4=>some (r4.1,r4.2)) P:=by
 obtain⟨r,e,p⟩:=he
 exact⟨r,by rw [hg,q0,e];rfl,p⟩
section
variable {N:Nat} {m:Ao}
theorem nm1{α:Type}[Inhabited α]{N:Nat}(hN:20000000<N)(l:Y0 α)(g:α->W2)(hb:brf (l.map g)){A:Y1 Int}{P:Prop}(i:Nat)(hi:i<l.length)(hA:Ans A P):
  Ans (ck (0<=(i:Int)/\(i:Int)<(((l.map g)).length:Int)) ((Fl N ((l.map g)[((i:Int)).toNat]!)).bind λr5=>(Ap N r5 4).bind λr7=>(Bk N (l.map g) (i:Int)).bind λr9=>A.bind λr11=>(AO N ([r7,r9,r11])).bind λr16=>some r16)) P:=
 mw hN (l.map g) hb i (by rw [q9];exact hi) hA
theorem sw(hN:20000000<N)(hL:Lit m):Ans2 (Lf N m) True:=by
 have hb:brf (m.2.2.2.1.map (λx:Fd=>x.1)):=hL.ti 3 (by omega)
 have hl:m.2.2.2.1.length<=1048576:=by have:=hb.2;rwa [q9] at this
 exact Qs hN m.2.2.2.1 (λx:Fd=>x.1) hb _ (Rx (N:=N) (by omega) m.2.2.2.1 (λx:Fd=>x.1) (Jl N m.2.2.2.1) (by omega) (λ_ _ _=>Z)) (Nb N m.2.2.2.1 16) True
  ((Ju (by omega:20000000<N) m.2.2.2.1 (λ(i:Int) (x:Fd)=>LI N i x.1 x.2 (m.2.2.2.1.map (λx:Fd=>x.1))) (λ_=>True) (Jp N m.2.2.2.1 (m.2.2.2.1.map (λx:Fd=>x.1))) 16 (by decide) (λ_ _=>Z)
   (λ_ i hi=>nm1 hN m.2.2.2.1 (λx:Fd=>x.1) hb i hi (SC N _).pure)).imp λ_=>trivial)
theorem vL(hN:20000000<N)(hL:Lit m):Ans2 (LX N m) True:=by
 have hb:brf (m.2.2.2.2.2.2.2.2.2.2.2.2.1.map (λx:Ins=>x.1)):=hL.ti 12 (by omega)
 have hl:m.2.2.2.2.2.2.2.2.2.2.2.2.1.length<=1048576:=by have:=hb.2;rwa [q9] at this
 exact Qs hN m.2.2.2.2.2.2.2.2.2.2.2.2.1 (λx:Ins=>x.1) hb _ (Rx (N:=N) (by omega) m.2.2.2.2.2.2.2.2.2.2.2.2.1 (λx:Ins=>x.1) (KW N m.2.2.2.2.2.2.2.2.2.2.2.2.1) (by omega) (λ_ _ _=>Z)) (OX N m.2.2.2.2.2.2.2.2.2.2.2.2.1 8) True
  ((Ju (by omega:20000000<N) m.2.2.2.2.2.2.2.2.2.2.2.2.1 (λ(i:Int) (x:Ins)=>MX N i x.1 x.2.1 x.2.2 (m.2.2.2.2.2.2.2.2.2.2.2.2.1.map (λx:Ins=>x.1))) (λ_=>True) (KZ N m.2.2.2.2.2.2.2.2.2.2.2.2.1 (m.2.2.2.2.2.2.2.2.2.2.2.2.1.map (λx:Ins=>x.1))) 8 (by decide) (λ_ _=>Z)
   (λ_ i hi=>nm1 hN m.2.2.2.2.2.2.2.2.2.2.2.2.1 (λx:Ins=>x.1) hb i hi (by
    obtain⟨a,e1,_⟩:=SC N (m.2.2.2.2.2.2.2.2.2.2.2.2.1[i]!).2.1
    obtain⟨b,e2,_⟩:=Wf N (m.2.2.2.2.2.2.2.2.2.2.2.2.1[i]!).2.2
    show Ans (MI N _ _ _) True
    rw [MI,e1,q0,e2,q0]
    exact((LR (by omega) _ _).imp λ_=>trivial).pure))).imp λ_=>trivial)
theorem gn(hN:20000000<N)(hL:Lit m):Ans2 (IB N m) True:=by
 have hb:brf (m.2.2.2.2.2.2.2.2.2.2.2.2.2.1.map (λx:Fd=>x.1)):=hL.ti 13 (by omega)
 have hl:m.2.2.2.2.2.2.2.2.2.2.2.2.2.1.length<=1048576:=by have:=hb.2;rwa [q9] at this
 exact Qs hN m.2.2.2.2.2.2.2.2.2.2.2.2.2.1 (λx:Fd=>x.1) hb _ (Rx (N:=N) (by omega) m.2.2.2.2.2.2.2.2.2.2.2.2.2.1 (λx:Fd=>x.1) (Ia N m.2.2.2.2.2.2.2.2.2.2.2.2.2.1) (by omega) (λ_ _ _=>Z)) (LJ N m.2.2.2.2.2.2.2.2.2.2.2.2.2.1 8) True
  ((Ju (by omega:20000000<N) m.2.2.2.2.2.2.2.2.2.2.2.2.2.1 (λ(i:Int) (x:Fd)=>Kl N i x.1 x.2 (m.2.2.2.2.2.2.2.2.2.2.2.2.2.1.map (λx:Fd=>x.1))) (λ_=>True) (Ib N m.2.2.2.2.2.2.2.2.2.2.2.2.2.1 (m.2.2.2.2.2.2.2.2.2.2.2.2.2.1.map (λx:Fd=>x.1))) 8 (by decide) (λ_ _=>Z)
   (λ_ i hi=>nm1 hN m.2.2.2.2.2.2.2.2.2.2.2.2.2.1 (λx:Fd=>x.1) hb i hi (Wf N _).pure)).imp λ_=>trivial)
theorem mx(hN:20000000<N)(hL:Lit m):Ans2 (Kb N m) True:=by
 have hb:brf (m.2.2.2.2.2.2.2.2.2.2.2.2.2.2.1.map (λx:Mtr=>x.1)):=hL.ti 14 (by omega)
 have hl:m.2.2.2.2.2.2.2.2.2.2.2.2.2.2.1.length<=1048576:=by have:=hb.2;rwa [q9] at this
 exact Qs hN m.2.2.2.2.2.2.2.2.2.2.2.2.2.2.1 (λx:Mtr=>x.1) hb _ (Rx (N:=N) (by omega) m.2.2.2.2.2.2.2.2.2.2.2.2.2.2.1 (λx:Mtr=>x.1) (Jk N m.2.2.2.2.2.2.2.2.2.2.2.2.2.2.1) (by omega) (λ_ _ _=>Z)) (Na N m.2.2.2.2.2.2.2.2.2.2.2.2.2.2.1 8) True
  ((Ju (by omega:20000000<N) m.2.2.2.2.2.2.2.2.2.2.2.2.2.2.1 (λ(i:Int) (x:Mtr)=>LH N i x.1 x.2.1 x.2.2.1 x.2.2.2 (m.2.2.2.2.2.2.2.2.2.2.2.2.2.2.1.map (λx:Mtr=>x.1))) (λ_=>True) (Jo N m.2.2.2.2.2.2.2.2.2.2.2.2.2.2.1 (m.2.2.2.2.2.2.2.2.2.2.2.2.2.2.1.map (λx:Mtr=>x.1))) 8 (by decide) (λ_ _=>Z)
   (λ_ i hi=>nm1 hN m.2.2.2.2.2.2.2.2.2.2.2.2.2.2.1 (λx:Mtr=>x.1) hb i hi (by
    obtain⟨a,e1,_⟩:=Wf N (m.2.2.2.2.2.2.2.2.2.2.2.2.2.2.1[i]!).2.1
    have k2: ∀b:Y3,Ans (Kc N (m.2.2.2.2.2.2.2.2.2.2.2.2.2.2.1[i]!).2.1 b) True:=λb=>by
     rw [Kc,e1,q0,EI,q0]
     exact((LR (by omega) _ _).imp λ_=>trivial).pure
    show Ans (Ld N _ _ _ _) True
    rw [Ld,FF,q0]
    split
    ·rw [FF,q0];exact k2 _
    ·exact k2 _))).imp λ_=>trivial)
theorem lm(h:Ctx N m)(hr: ∀s∈m.2.2.2.2.1,StR s):Ans2 (IT N m) (∀i,i<m.2.2.2.2.1.length->StOk m (m.2.2.2.2.1[i]!)):=by
 have hN:=h.hN
 have hb:brf (m.2.2.2.2.1.map (λx:Stt=>x.1)):=h.hL.ti 4 (by omega)
 have hl:=h.st
 rw [IT]
 split
 ·exact⟨(0,5),Z,λq=>absurd q (by decide)⟩
 exact Qs hN m.2.2.2.2.1 (λx:Stt=>x.1) hb _ (Rx (N:=N) (by omega) m.2.2.2.2.1 (λx:Stt=>x.1) (Jj N m.2.2.2.2.1) (by omega) (λ_ _ _=>Z)) (λr=>MZ N m.2.2.2.2.1 16 r m) _
  ((Ju (by omega:20000000<N) m.2.2.2.2.1 (λ(i:Int) (x:Stt)=>LG N i x.1 x.2.1 x.2.2.1 x.2.2.2.1 x.2.2.2.2 (m.2.2.2.2.1.map (λx:Stt=>x.1)) m) (λi=>StOk m (m.2.2.2.2.1[i]!)) (Jn N m.2.2.2.2.1 (m.2.2.2.2.1.map (λx:Stt=>x.1)) m) 16 (by decide) (λ_ _=>Z)
   (λ_ i hi=>nm1 hN m.2.2.2.2.1 (λx:Stt=>x.1) hb i hi (rC h _ (by have:=h.hL.st i hi;omega) (hr _ (Fm hi))))).imp λz=>z.2)
theorem kO(h:Ctx N m)(hr: ∀s∈m.2.2.2.2.2.1,CoR s.2.2):Ans2 (Js N m) (∀i,i<m.2.2.2.2.2.1.length->uU N m (m.2.2.2.2.2.1[i]!)):=by
 have hN:=h.hN
 have hb:brf (m.2.2.2.2.2.1.map (λx:Act=>x.1)):=h.hL.ti 5 (by omega)
 have hl:=h.ac
 exact Qs hN m.2.2.2.2.2.1 (λx:Act=>x.1) hb _ (Rx (N:=N) (by omega) m.2.2.2.2.2.1 (λx:Act=>x.1) (Iy N m.2.2.2.2.2.1) (by omega) (λ_ _ _=>Z)) (λr=>Mx N m.2.2.2.2.2.1 32 r m) _
  ((Ju (by omega:20000000<N) m.2.2.2.2.2.1 (λ(i:Int) (x:Act)=>KV N i x.1 x.2.1 x.2.2 (m.2.2.2.2.2.1.map (λx:Act=>x.1)) m) (λi=>uU N m (m.2.2.2.2.2.1[i]!)) (IA N m.2.2.2.2.2.1 (m.2.2.2.2.2.1.map (λx:Act=>x.1)) m) 32 (by decide) (λ_ _=>Z)
   (λ_ i hi=>nm1 hN m.2.2.2.2.2.1 (λx:Act=>x.1) hb i hi (ra h _ (by have:=h.hL.ac i hi;omega) (hr _ (Fm hi))))).imp λz=>z.2)
theorem lh(h:Ctx N m)(hr: ∀s∈m.2.2.2.2.2.2.1,TbR s):Ans2 (Ka N m) (∀i,i<m.2.2.2.2.2.2.1.length->ri m (m.2.2.2.2.2.2.1[i]!)):=by
 have hN:=h.hN
 have hb:brf (m.2.2.2.2.2.2.1.map (λx:Tab=>x.1)):=h.hL.ti 6 (by omega)
 have hl:=h.tb
 exact Qs hN m.2.2.2.2.2.2.1 (λx:Tab=>x.1) hb _ (Rx (N:=N) (by omega) m.2.2.2.2.2.2.1 (λx:Tab=>x.1) (Ji N m.2.2.2.2.2.2.1) (by omega) (λ_ _ _=>Z)) (λr=>MY N m.2.2.2.2.2.2.1 8 r m) _
  ((Ju (by omega:20000000<N) m.2.2.2.2.2.2.1 (λ(i:Int) (x:Tab)=>LF N i x.1 x.2.1 x.2.2.1 x.2.2.2.1 x.2.2.2.2.1 x.2.2.2.2.2.1 x.2.2.2.2.2.2 (m.2.2.2.2.2.2.1.map (λx:Tab=>x.1)) m) (λi=>ri m (m.2.2.2.2.2.2.1[i]!)) (Jm N m.2.2.2.2.2.2.1 (m.2.2.2.2.2.2.1.map (λx:Tab=>x.1)) m) 8 (by decide) (λ_ _=>Z)
   (λ_ i hi=>nm1 hN m.2.2.2.2.2.2.1 (λx:Tab=>x.1) hb i hi (rx h _ (by have:=h.hL.tb i hi;omega) (hr _ (Fm hi))))).imp λz=>z.2)
theorem imt(hN:20000000<N)(hL:Lit m):Ans2 (JJ N m) (0<m.1.length/\1<=m.2.2.2.2.2.2.2.2.2.2.2.2.2.2.2.1):=by
 have h1:=hL.nm
 have k2: ∀b:Y3,∃r,IV N m b=some r/\(r.2=0->0<m.1.length/\b=true):=λb=>by
  obtain⟨r1,u1,v1⟩:=Ans.un N (cG (Ac4 m.1)) 4 (by decide)
  obtain⟨r2,u2,v2⟩:=Ans.un N b 7 (by decide)
  obtain⟨r3,u3,v3⟩:=LR (N:=N) (by omega) r1 r2
  rw [IV,vd N m.1 (by omega),q0,u1,q0,u2,q0,u3,q0]
  refine⟨_,Z,λq=>⟨?_,v2 (v3 q).2⟩⟩
  have:=v1 (v3 q).1
  rcases Nat.eq_zero_or_pos m.1.length with c|c
  ·rw [List.length_eq_zero_iff.1 c] at this;exact absurd this (by decide+kernel)
  ·exact c
 rw [JJ,FF,q0]
 by_cases c:1<=m.2.2.2.2.2.2.2.2.2.2.2.2.2.2.2.1/\m.2.2.2.2.2.2.2.2.2.2.2.2.2.2.2.1<=64
 ·rw [zl c,V8 Z,FF,q0]
  split
  ·rw [FF,q0]
   obtain⟨r,e,p⟩:=k2 (decide (0<=m.2.2.2.2.2.2.2.2.2.2.2.2.2.2.2.2.2/\m.2.2.2.2.2.2.2.2.2.2.2.2.2.2.2.2.2<=4))
   exact⟨r,e,λq=>⟨(p q).1,c.1⟩⟩
  ·obtain⟨r,e,p⟩:=k2 false
   exact⟨r,e,λq=>⟨(p q).1,c.1⟩⟩
 ·rw [zk c,V9 (by decide)]
  obtain⟨r,e,p⟩:=k2 false
  exact⟨r,e,λq=>absurd (p q).2 (by decide)⟩
theorem rD(hN:20000000<N)(x:Hd)(h0:x.1.length<=1048576)(h1:x.2.1.length<=1048576)(h2: ∀j,j<x.2.1.length->(x.2.1[j]!).1.length<=1048576):Ans (JE N x.1 x.2.1 x.2.2.1 x.2.2.2.1 x.2.2.2.2.1 x.2.2.2.2.2) (Lt x.1 x.2.1/\SD x.1 x.2.1 x.2.2.1 x.2.2.2.1 x.2.2.2.2.1 x.2.2.2.2.2=0):=by
 by_cases c:x.2.1.length<=1048576
 ·have hl:Lt x.1 x.2.1:=⟨c,by omega,λj hj=>by have:=h2 j hj;omega⟩
  exact⟨_,vZ N (by omega) _ _ _ _ _ _ hl,λq=>⟨hl,q⟩⟩
 ·rw [JE,Vh N (by omega) x.1 (by omega),q0]
  split
  ·rw [V8 (by omega)];exact⟨2,Z,λq=>absurd q (by decide)⟩
  ·exact⟨4,Z,λq=>absurd q (by decide)⟩
theorem km(hN:20000000<N)(hL:Lit m):Ans2 (In N m) (m.2.1.length<=16/\ ∀x∈m.2.1,Lt x.1 x.2.1/\SD x.1 x.2.1 x.2.2.1 x.2.2.2.1 x.2.2.2.2.1 x.2.2.2.2.2=0):=by
 have hb:brf (m.2.1.map (λx:Hd=>x.1)):=hL.ti 1 (by omega)
 have hl:m.2.1.length<=1048576:=by have:=hb.2;rwa [q9] at this
 have he:Ans2 (Mv N m.2.1 16 (m.2.1.map (λx:Hd=>x.1))) _:=Ju (by omega:20000000<N) m.2.1 (λ(i:Int) (x:Hd)=>Ic N i x.1 x.2.1 x.2.2.1 x.2.2.2.1 x.2.2.2.2.1 x.2.2.2.2.2 (m.2.1.map (λx:Hd=>x.1))) (λi=>Lt (m.2.1[i]!).1 (m.2.1[i]!).2.1/\SD (m.2.1[i]!).1 (m.2.1[i]!).2.1 (m.2.1[i]!).2.2.1 (m.2.1[i]!).2.2.2.1 (m.2.1[i]!).2.2.2.2.1 (m.2.1[i]!).2.2.2.2.2=0)
  (Iz N m.2.1 (m.2.1.map (λx:Hd=>x.1))) 16 (by decide) (λ_ _=>Z) (λ_ i hi=>by
   have hn:(m.2.1[i]!).1.length<=1048576:=by have:=hb.1 i (by rw [q9];exact hi);rwa [NT (λx:Hd=>x.1) m.2.1 i hi] at this
   obtain⟨r1,e1,p1⟩:=rD hN (m.2.1[i]!) hn (hL.hd i hi).1 (hL.hd i hi).2
   obtain⟨r2,e2,_⟩:=Wa hN (m.2.1.map (λx:Hd=>x.1)) hb i (by rw [q9];exact hi)
   show Ans (Ic N (i:Int) _ _ _ _ _ _ _) _
   rw [Ic,e1,q0,e2,q0]
   exact((LR (by omega) _ _).imp λz=>p1 z.1).pure)
 obtain⟨r,e,p⟩:=he
 rw [In,show Mu N m.2.1=_ from Rx (N:=N) (by omega) m.2.1 (λx:Hd=>x.1) (Ix N m.2.1) (by omega) (λ_ _ _=>Z),q0,e]
 exact⟨_,Z,λq=>⟨by have:=(p q).1;omega,mg (p q).2⟩⟩
theorem sV(hN:20000000<N)(hL:Lit m)(hs:m.2.1.length<=16):Ans2 (JI N m) (m.2.2.1.length<=16):=by
 rw [JI]
 by_cases c:m.2.2.1.length<=16
 ·rw [lP N (by omega) m.2.1 m.2.2.1 ⟨by omega,by omega,λj hj=>by have:=hL.ins j hj;omega⟩];exact⟨_,Z,λ_=>c⟩
 ·rw [NQ,V8 (by omega)];exact⟨_,Z,λq=>absurd q (by decide)⟩
end
end Go.Proofs.YtjnanfkpdhmnpaaGreatDoor
