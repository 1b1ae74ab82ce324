import Derived.Test.YtoolcgbcfgnipaaGreatDoorIc
namespace Go.Proofs.YtoolcgbcfgnipaaGreatDoor
open Go Go.RowKit Go.Eng
section
variable {N:Nat} {m:Ao}
theorem TZ{l:List I9}(h:(Tc l).2.2=0):(Tc l).1=l.map EW∧l.length≤64∧ ∀x∈l,NJ x=0:=by
 have hb:(Ta l).2=0:=h
 refine⟨by show(if(Ta l).2=0 then _ else _)=_;rw [if_pos hb], ?_⟩
 have key: ∀(r:List I9) (i:Nat) (d:Int×Int),(WO i r d).2=0→d.2=0∧ ∀x∈r,NJ x=0:=by
  intro r
  induction r with
  |nil=>exact fun i d q=>⟨q,fun x hx=>by cases hx⟩
  |cons y r ih=>
   intro i d q
   rw [WO] at q
   by_cases c:NJ y≠0
   ·rw [if_pos c] at q;exact absurd q c
   ·rw [if_neg c] at q
    obtain⟨h1,h2⟩:=ih (i+1) d q
    exact⟨h1,fun x hx=>by rcases List.mem_cons.1 hx with rfl|hx;exact Decidable.not_not.1 c;exact h2 x hx⟩
 obtain⟨h1,h2⟩:=key _ _ _ hb
 have h3:l.length≤64:=by
  by_cases c:l.length>64
  ·rw [if_pos c] at h1;exact absurd (show(2:Int)=0 from h1) (by decide)
  ·omega
 exact⟨h3,by rw [j6 h3] at h2;exact h2⟩
theorem Te(a b w:Int)(v:BitVec 128):ND (Rs 31 a b w v)=(a,true)∧ND (Rs 32 a b w v)=(a,true):=⟨rfl,rfl⟩
def CoR(l:List I9):Prop:= ∀i,i<l.length→Top (l[i]!).2.1
theorem qb(h:Ctx N m)(pl:List Int)(hp:pl.length≤1048576)(l:List I9)(hl:l.length≤1048576)(hr:CoR l)(i:Nat)(hi:i<l.length):Ans (GE N (i:Int) (EW (l[i]!)) m pl l) (fR N m pl l.length i (l[i]!)):=by
 have hN:=h.hN
 obtain⟨b,e,p⟩:=eB h pl hp (l[i]!) (hr i hi)
 have lead: ∃q,GN N (EW (l[i]!)) (i:Int) ((l.length:Nat):Int)=some q∧(q=true→ ∀t,ND (EW (l[i]!))=(t,true)→(i:Int)+1≤t∧t≤(l.length:Int)):=by
  rw [GN,ZJ,q0]
  by_cases c:(ND (EW (l[i]!))).2=true
  ·rw [if_pos c,ckp (by omega),EQ,q0]
   exact⟨_,rfl,fun q t ht=>by rw [ht] at q;exact zd q⟩
  ·rw [if_neg c];exact⟨_,rfl,fun _ t ht=>absurd (by rw [ht]) c⟩
 obtain⟨q,e2,p2⟩:=lead
 rw [GE,ckp (by omega),q3,e,q0,e2]
 obtain⟨r1,u1,v1⟩:=Ans.un N b 5 (by decide)
 obtain⟨r2,u2,v2⟩:=Ans.un N q 12 (by decide)
 rw [u1,q0,q0,u2,q0]
 refine((KL (by omega) r1 r2).imp fun z=> ?_).pure
 obtain⟨g1,g2,g3,g4⟩:=p (v1 z.1)
 refine⟨g1,g2,g3,g4,fun d=> ?_⟩
 have t:ND (EW (l[i]!))=((l[i]!).2.1,true):=by
  generalize l[i]! =x at d
  obtain⟨o,a,b',w,v⟩:=x
  rcases d with d|d<;>(have d':o=_:=d;subst d')
  ·exact(Te a b' w v).1
  ·exact(Te a b' w v).2
 have:=p2 (v2 z.2) _ t
 omega
theorem cot(h:Ctx N m)(pl:List Int)(hp:pl.length≤1048576)(l:List I9)(hl:l.length≤1048576)(hr:CoR l):Ans (Hi N m pl l) (∀i,i<l.length→fR N m pl l.length i (l[i]!)):=by
 have hN:=h.hN
 rw [Hi]
 split
 ·exact⟨2,rfl,fun e=>absurd e (by decide)⟩
 rw [nV (by omega:20000000<N) l (by omega),q0]
 by_cases c:(Tc l).2.2=0
 ·obtain⟨h1,h2,h3⟩:=TZ c
  rw [if_neg (fun q=>q c),h1]
  refine((IB (by omega:20000000<N) (l.map EW) (fun i x=>GE N i x m pl l) (fun i=>fR N m pl l.length i (l[i]!)) (EX N (l.map EW) m pl l) 64 (by decide) (fun _ _=>rfl) (fun _ i hi=> ?_):Ans2 (HT N (l.map EW) 64 m pl l) _).imp fun z i hi=>z.2 i (by rw [q8];exact hi)).snd
  rw [q8] at hi
  have:=qb h pl hp l hl hr i hi
  rwa [show(l.map EW)[i]! =EW (l[i]!)from by rw [zg _ i (by rw [q8];exact hi),zg l i hi,zm]]
 ·rw [if_pos c];exact⟨_,rfl,fun q=>absurd q c⟩
def rQ(N:Nat)(m:Ao)(x:Act):Prop:= ∀i,i<x.2.2.length→fR N m x.2.1 x.2.2.length i (x.2.2[i]!)
theorem nX(h:Ctx N m)(x:Act)(hl:x.2.1.length≤1048576∧x.2.2.length≤1048576)(hr:CoR x.2.2):Ans (Ic N m x.1 x.2.1 x.2.2) (rQ N m x):=by
 have hN:=h.hN
 have he1:Ans2 (NO N x.2.1 8) _:=IB (by omega:20000000<N) x.2.1 (fun i x=>MN N i x) (fun _=>True) (JY N x.2.1) 8 (by decide) (fun _ _=>rfl) (fun _ i hi=>(Rf N _).pure)
 obtain⟨r1,e1,_⟩:=he1
 obtain⟨r2,e2,p2⟩:=cot h x.2.1 (by omega) x.2.2 (by omega) hr
 rw [Ic,e1,q0,e2,q0]
 exact((KL (by omega) _ _).imp fun z=>p2 z.2).pure
theorem ec{N:Nat}(hN:20000000<N)(l:List Int)(hl:l.length≤1048576)(v:Int): ∃b,Bm N l v=some b:=by
 have: ∀(k f i:Nat),i+k=l.length→k<f→ ∃r,Co l v f (i:Int)=some r:=by
  intro k
  induction k with
  |zero=>
   intro f i hi hf
   obtain⟨f,rfl⟩: ∃n,f=n+1:=⟨f - 1,by omega⟩
   rw [Co,if_neg (by omega)];exact⟨_,rfl⟩
  |succ k ih=>
   intro f i hi hf
   obtain⟨f,rfl⟩: ∃n,f=n+1:=⟨f - 1,by omega⟩
   rw [Co,if_pos (by omega),ckp (by omega)]
   split
   ·exact⟨_,rfl⟩
   ·rw [ckp (by omega),show(i:Int)+1=((i+1:Nat):Int)from by omega];exact ih f (i+1) (by omega) (by omega)
 obtain⟨r,e⟩:=this l.length N 0 (by omega) (by omega)
 rw [Bm,HI,show(0:Int)=((0:Nat):Int)from rfl,e];exact⟨_,rfl⟩
theorem kY(h:Ctx N m)(l:List Int)(hl:l.length≤1048576):Ans (Ia N m l) True:=by
 have hN:=h.hN
 have he2:Ans2 (NN N l 8 m) _:=IB (by omega:20000000<N) l (fun i x=>Jb N i x m) (fun _=>True) (JX N l m) 8 (by decide) (fun _ _=>rfl) (fun _ i hi=>by
  rw [Jb,show Gh N m.2.2.2.2.2.1 (l[i]!)=_ from LZ N m.2.2.2.2.2.1.length (by have:=h.ac;omega) (l[i]!),q0]
  exact((Ans.un N _ 5 (by decide)).imp fun _=>trivial).pure)
 obtain⟨r1,e1,_⟩:=he2
 have he3:Ans2 (NM N l 8 l) _:=IB (by omega:20000000<N) l (fun i x=>Ja N i x l) (fun _=>True) (JW N l l) 8 (by decide) (fun _ _=>rfl) (fun _ i hi=>by
  obtain⟨b,e⟩:=ec (N:=N) (by omega) ((l.take ((i:Int)).toNat).drop 0) (by rw [zk,q7];omega) (l[i]!)
  rw [Ja,ckp (by omega),e,q0]
  exact((Ans.un N _ 6 (by decide)).imp fun _=>trivial).pure)
 obtain⟨r2,e2,_⟩:=he3
 rw [Ia,e1,q0,e2,q0,DA,q0]
 exact((kt (by omega) _ _ _).imp fun _=>trivial).pure
theorem nU(h:Ctx N m)(a:Int)(l:List (Int×BitVec 128))(hl:l.length≤1048576):Ans (IH N m a l) True:=by
 have hN:=h.hN
 rw [IH,show Gh N m.2.2.2.2.2.1 a=_ from LZ N m.2.2.2.2.2.1.length (by have:=h.ac;omega) a,q0]
 by_cases c:0≤a∧a<(m.2.2.2.2.2.1.length:Int)
 ·rw [zf c,if_pos rfl,ckp c]
  by_cases d:(l.length:Int)=((m.2.2.2.2.2.1[a.toNat]!).2.1.length:Int)
  ·rw [if_neg (fun q=>q d)]
   exact((IB (by omega:20000000<N) l (fun i x=>Kw N i x.1 x.2 (m.2.2.2.2.2.1[a.toNat]!).2.1) (fun _=>True) (Kc N l (m.2.2.2.2.2.1[a.toNat]!).2.1) (l.length:Int) (by omega) (fun _ _=>rfl) (fun _ i hi=>by
    obtain⟨b,e⟩:=Yp N (l[i]!).1 (l[i]!).2 ((m.2.2.2.2.2.1[a.toNat]!).2.1[((i:Int)).toNat]!)
    rw [Kw,ckp (by omega),e,q0]
    exact((Ans.un N _ 9 (by decide)).imp fun _=>trivial).pure):Ans2 (NT N l (l.length:Int) (m.2.2.2.2.2.1[a.toNat]!).2.1) _).imp fun _=>trivial).snd
  ·rw [if_pos d];exact⟨2,rfl,fun q=>absurd q (by decide)⟩
 ·rw [ze c,if_neg (by decide)];exact⟨5,rfl,fun q=>absurd q (by decide)⟩
def TbR(x:Tab):Prop:= ∀i,i<x.2.2.1.length→Top (x.2.2.1[i]!).2.1
theorem ot(h:Ctx N m)(x:Tab)(hl:x.2.2.1.length≤1048576∧x.2.2.2.1.length≤1048576∧x.2.2.2.2.2.1.length≤1048576)(hr:TbR x):Ans (IQ N m x.1 x.2.1 x.2.2.1 x.2.2.2.1 x.2.2.2.2.1 x.2.2.2.2.2.1 x.2.2.2.2.2.2) True:=by
 have hN:=h.hN
 obtain⟨r1,e1,_⟩:=kX h x.2.2.1 (by omega) hr 2 (by decide)
 obtain⟨r2,e2,_⟩:=kY h x.2.2.2.1 (by omega)
 obtain⟨r3,e3⟩:=ec (N:=N) (by omega) x.2.2.2.1 (by omega) x.2.2.2.2.1
 obtain⟨r4,e4,_⟩:=nU h x.2.2.2.2.1 x.2.2.2.2.2.1 (by omega)
 rw [IQ,fU,q0,DA,q0,DA,q0,e1,q0,e2,q0,e3,q0,DA,q0,e4,q0,EQ,q0,DA,q0]
 exact((TT (by omega) _ (by simp)).imp fun _=>trivial).pure
def ue(m:Ao)(n i:Nat)(x:Nod):Prop:=((i:Int)<x.2.2.2.2.1∧x.2.2.2.2.1≤(n:Int))∧(x.1=0→0≤x.2.1∧x.2.1<(m.2.2.2.2.2.2.1.length:Int))
theorem ag(h:Ctx N m)(x:Nod)(hx:Top x.2.1):Ans (Gz N m x.1 x.2.1 x.2.2.1 x.2.2.2.1 x.2.2.2.2.1 x.2.2.2.2.2) (x.1=0→0≤x.2.1∧x.2.1<(m.2.2.2.2.2.2.1.length:Int)):=by
 rw [Gz]
 by_cases c0:x.1=0
 ·rw [if_pos c0,show Lp N m.2.2.2.2.2.2.1 x.2.1=_ from LZ N m.2.2.2.2.2.2.1.length (by have:=h.tb;omega) x.2.1,q0]
  exact((Ans.un N _ 5 (by decide)).imp fun q _=>zd q).pure
 rw [if_neg c0]
 by_cases c1:x.1=1
 ·rw [if_pos c1];exact((Ans.un N _ 5 (by decide)).imp fun _ q=>absurd q c0).pure
 rw [if_neg c1]
 by_cases c2:x.1=2
 ·rw [if_pos c2,show Gh N m.2.2.2.2.2.1 x.2.1=_ from LZ N m.2.2.2.2.2.1.length (by have:=h.ac;omega) x.2.1,q0]
  exact((Ans.un N _ 5 (by decide)).imp fun _ q=>absurd q c0).pure
 rw [if_neg c2]
 by_cases c3:x.1=3
 ·obtain⟨b,e⟩:=US h x.2.1 hx
  rw [if_pos c3,e,q0];exact((Ans.un N _ 5 (by decide)).imp fun _ q=>absurd q c0).pure
 ·rw [if_neg c3];exact⟨10,rfl,fun q=>absurd q (by decide)⟩
theorem ah(h:Ctx N m)(x:Nod)(i n:Nat)(hi:i≤1048576):Ans (Gy N x.1 x.2.1 x.2.2.1 x.2.2.2.1 x.2.2.2.2.1 x.2.2.2.2.2 (i:Int) (n:Int)) ((i:Int)<x.2.2.2.2.1∧x.2.2.2.2.1≤(n:Int)):=by
 have hN:=h.hN
 obtain⟨r1,u1,v1⟩:=Ans.un N (decide ((i:Int)+1≤x.2.2.2.2.1∧x.2.2.2.2.1≤(n:Int))) 12 (by decide)
 rw [Gy,ckp (by omega),EQ,q0,u1,q0]
 split
 ·rw [DA,q0]
  exact((KL (by omega) _ _).imp fun z=>by have:=zd (v1 z.2);omega).pure
 ·rw [ckp (by omega),EQ,q0,DA,q0]
  exact((KL (by omega) _ _).imp fun z=>by have:=zd (v1 z.1);omega).pure
def NdR(x:Nod):Prop:=Top x.2.1∧CoR x.2.2.1
theorem tw(h:Ctx N m)(l:List Nod)(i:Nat)(hi:i<l.length)(hl:l.length≤1048576)(hx:(l[i]!).2.2.1.length≤1048576∧(l[i]!).2.2.2.1.length≤1048576)(hr:NdR (l[i]!)):
  Ans (Iw N (i:Int) (l[i]!).1 (l[i]!).2.1 (l[i]!).2.2.1 (l[i]!).2.2.2.1 (l[i]!).2.2.2.2.1 (l[i]!).2.2.2.2.2 m l) (ue m l.length i (l[i]!)):=by
 have hN:=h.hN
 obtain⟨r1,e1,p1⟩:=ag h (l[i]!) hr.1
 have c:Ans (GV N m (l[i]!).1 (l[i]!).2.1 (l[i]!).2.2.1 (l[i]!).2.2.2.1 (l[i]!).2.2.2.2.1 (l[i]!).2.2.2.2.2) True:=by
  rw [GV]
  split
  ·exact((cot h [] (by decide) _ (by omega) hr.2).imp fun _=>trivial).pure
  ·exact((Ans.un N _ 4 (by decide)).imp fun _=>trivial).pure
 have a:Ans (GW N m (l[i]!).1 (l[i]!).2.1 (l[i]!).2.2.1 (l[i]!).2.2.2.1 (l[i]!).2.2.2.2.1 (l[i]!).2.2.2.2.2) True:=by
  rw [GW]
  split
  ·exact(nU h _ _ (by omega)).pure
  ·exact((Ans.un N _ 4 (by decide)).imp fun _=>trivial).pure
 obtain⟨r2,e2,_⟩:=c
 obtain⟨r3,e3,_⟩:=a
 obtain⟨r4,e4,p4⟩:=ah h (l[i]!) i l.length (by omega)
 rw [Iw,e1,q0,e2,q0,e3,q0,e4,q0]
 exact((Ze (by omega) _ _ _ _).imp fun z=>⟨p4 z.2.2.2,p1 z.1⟩).pure
theorem eW(h:Ctx N m)(l:List Nod)(hl:l.length≤1048576)(hx: ∀i,i<l.length→(l[i]!).2.2.1.length≤1048576∧(l[i]!).2.2.2.1.length≤1048576)(hr: ∀i,i<l.length→NdR (l[i]!)):
  Ans2 (Ki N m l) (∀i,i<l.length→ue m l.length i (l[i]!)):=by
 have hN:=h.hN
 rw [Ki]
 exact((IB (by omega:20000000<N) l (fun i x=>Iw N i x.1 x.2.1 x.2.2.1 x.2.2.2.1 x.2.2.2.2.1 x.2.2.2.2.2 m l) _ (Jg N l m l) 32 (by decide) (fun _ _=>rfl) (fun hm i hi=>tw h l i hi (by omega) (hx i hi) (hr i hi)):Ans2 (ML N l 32 m l) _).imp fun z=>z.2).pure
theorem gR(h:Ctx N m)(hl:m.2.2.2.2.2.2.2.2.2.1.length≤1048576)(hr: ∀i,i<m.2.2.2.2.2.2.2.2.2.1.length→Top (m.2.2.2.2.2.2.2.2.2.1[i]!)):Ans2 (Hv N m) True:=by
 have hN:=h.hN
 rw [Hv]
 exact((IB (by omega:20000000<N) m.2.2.2.2.2.2.2.2.2.1 (fun i x=>Ix N i x m) (fun _=>True) (JV N m.2.2.2.2.2.2.2.2.2.1 m) 32 (by decide) (fun _ _=>rfl) (fun _ i hi=>by
  obtain⟨b,e⟩:=US h (m.2.2.2.2.2.2.2.2.2.1[i]!) (hr i hi)
  obtain⟨b2,e2⟩:=ec (N:=N) (by omega) ((m.2.2.2.2.2.2.2.2.2.1.take ((i:Int)).toNat).drop 0) (by rw [zk,q7];omega) (m.2.2.2.2.2.2.2.2.2.1[i]!)
  rw [Ix,e,q0,DA,q0,ckp (by omega),e2,q0,DA,q0]
  exact((KL (by omega) _ _).imp fun _=>trivial).pure):Ans2 (NL N m.2.2.2.2.2.2.2.2.2.1 32 m) _).imp fun _=>trivial).pure
theorem uS(h:Ctx N m)(k f:Int): ∃r,Jd N (hdL m.2.1 m.2.2.1 k).1 (hdL m.2.1 m.2.2.1 k).2.1 (hdL m.2.1 m.2.2.1 k).2.2.1 (hdL m.2.1 m.2.2.1 k).2.2.2.1 (hdL m.2.1 m.2.2.1 k).2.2.2.2.1 (hdL m.2.1 m.2.2.1 k).2.2.2.2.2.1 f=some r∧0≤r.1∧r.1≤9223372036854775807:=by
 have hN:=h.hN
 have key: ∀l:List Fd,okW l→l.length≤1048576→ ∀(a:List UInt8) (b c d e:Int),∃r,Jd N a l b c d e f=some r∧0≤r.1∧r.1≤9223372036854775807:=by
  intro l hw hl a b c d e
  rw [Jd,ckp (by omega),Ig,q0]
  by_cases q:0≤f∧f≤(l.length:Int) - 1
  ·have hw2:okW (l.take f.toNat):=fun x hx=>hw x (List.mem_of_mem_take hx)
   have h40:(l.take f.toNat).length≤1048576:=by rw [q7];omega
   have:=NI _ hw2
   rw [zf q,if_pos rfl,ckp (by omega),j0,ez N (by omega) _ hw2 h40,q0]
   exact⟨_,rfl,this.1,by show Jl _≤_;omega⟩
  ·rw [ze q,if_neg (by decide)];exact⟨_,rfl,by decide,by decide⟩
 rcases dK m.2.1 m.2.2.1 k with⟨x,hx,e⟩|e
 ·have hl:=(h.hh x hx)
  rw [e];exact key x.2.1 (eY hl.2).1 (by have:=hl.1.1;omega) _ _ _ _ _
 ·rw [e];exact key [] (fun x hx=>by cases hx) (by decide) _ _ _ _ _
theorem iC(h:Ctx N m)(l:List (Int×Int))(hl:l.length≤1048576)(hr: ∀i,i<l.length→Top (l[i]!).1):Ans2 (KQ N m l) True:=by
 have hN:=h.hN
 rw [KQ]
 exact((IB (by omega:20000000<N) l (fun i x=>Kt N i x.1 x.2 m) (fun _=>True) (Ke N l m) 4 (by decide) (fun _ _=>rfl) (fun _ i hi=>by
  obtain⟨r,e,o1,o2⟩:=uS h (l[i]!).1 (l[i]!).2
  obtain⟨q,e2⟩:=Zf h (l[i]!).1 (l[i]!).2 (hr i hi)
  rw [Kt,iO h _ (hr i hi),q0,e,q0,e2,q0,DA,q0]
  split
  ·rw [ckp ⟨o1,o2⟩,DA,q0];exact((KL (by omega) _ _).imp fun _=>trivial).pure
  ·rw [DA,q0];exact((KL (by omega) _ _).imp fun _=>trivial).pure):Ans2 (NU N l 4 m) _).imp fun _=>trivial).pure
end
abbrev Mtr:=List UInt8×Int×Int×Int
theorem Ph{α:Type}[Inhabited α]{N:Nat}(hN:20000000<N)(l:List α)(g:α→List UInt8)(hb:brf (l.map g))(gat:Option (List (List UInt8)))(hg:gat=some (l.map g))(eac:List (List UInt8)→Option (Int×Int))(P:Prop)
  (he:Ans2 (eac (l.map g)) P):Ans2 ((gat.bind fun r4=>(eac r4).bind fun r11=>some (r11.1,r11.2)).bind fun r4=>some (r4.1,r4.2)) P:=by
 obtain⟨r,e,p⟩:=he
 exact⟨r,by rw [hg,q0,e];rfl,p⟩
section
variable {N:Nat} {m:Ao}
theorem nm1{α:Type}[Inhabited α]{N:Nat}(hN:20000000<N)(l:List α)(g:α→List UInt8)(hb:brf (l.map g)){A:Option Int}{P:Prop}(i:Nat)(hi:i<l.length)(hA:Ans A P):
  Ans (ck (0≤(i:Int)∧(i:Int)<(((l.map g)).length:Int)) ((EB N ((l.map g)[((i:Int)).toNat]!)).bind fun r5=>(Aq N r5 4).bind fun r7=>(AU N (l.map g) (i:Int)).bind fun r9=>A.bind fun r11=>(AE N ([r7,r9,r11])).bind fun r16=>some r16)) P:=
 jE hN (l.map g) hb i (by rw [q8];exact hi) hA
theorem pr(hN:20000000<N)(hL:Lit m):Ans2 (Kk N m) True:=by
 have hb:brf (m.2.2.2.1.map (fun x:Fd=>x.1)):=hL.ti 3 (by omega)
 have hl:m.2.2.2.1.length≤1048576:=by have:=hb.2;rwa [q8] at this
 exact Ph hN m.2.2.2.1 (fun x:Fd=>x.1) hb _ (Qi (N:=N) (by omega) m.2.2.2.1 (fun x:Fd=>x.1) (Iq N m.2.2.2.1) (by omega) (fun _ _ _=>rfl)) (Mg N m.2.2.2.1 16) True
  ((IB (by omega:20000000<N) m.2.2.2.1 (fun(i:Int) (x:Fd)=>KG N i x.1 x.2 (m.2.2.2.1.map (fun x:Fd=>x.1))) (fun _=>True) (Iv N m.2.2.2.1 (m.2.2.2.1.map (fun x:Fd=>x.1))) 16 (by decide) (fun _ _=>rfl)
   (fun _ i hi=>nm1 hN m.2.2.2.1 (fun x:Fd=>x.1) hb i hi (Rf N _).pure)).imp fun _=>trivial)
theorem sG(hN:20000000<N)(hL:Lit m):Ans2 (KR N m) True:=by
 have hb:brf (m.2.2.2.2.2.2.2.2.2.2.2.2.1.map (fun x:Ins=>x.1)):=hL.ti 12 (by omega)
 have hl:m.2.2.2.2.2.2.2.2.2.2.2.2.1.length≤1048576:=by have:=hb.2;rwa [q8] at this
 exact Ph hN m.2.2.2.2.2.2.2.2.2.2.2.2.1 (fun x:Ins=>x.1) hb _ (Qi (N:=N) (by omega) m.2.2.2.2.2.2.2.2.2.2.2.2.1 (fun x:Ins=>x.1) (Kb N m.2.2.2.2.2.2.2.2.2.2.2.2.1) (by omega) (fun _ _ _=>rfl)) (NV N m.2.2.2.2.2.2.2.2.2.2.2.2.1 8) True
  ((IB (by omega:20000000<N) m.2.2.2.2.2.2.2.2.2.2.2.2.1 (fun(i:Int) (x:Ins)=>Mc N i x.1 x.2.1 x.2.2 (m.2.2.2.2.2.2.2.2.2.2.2.2.1.map (fun x:Ins=>x.1))) (fun _=>True) (Kf N m.2.2.2.2.2.2.2.2.2.2.2.2.1 (m.2.2.2.2.2.2.2.2.2.2.2.2.1.map (fun x:Ins=>x.1))) 8 (by decide) (fun _ _=>rfl)
   (fun _ i hi=>nm1 hN m.2.2.2.2.2.2.2.2.2.2.2.2.1 (fun x:Ins=>x.1) hb i hi (by
    obtain⟨a,e1,_⟩:=Rf N (m.2.2.2.2.2.2.2.2.2.2.2.2.1[i]!).2.1
    obtain⟨b,e2,_⟩:=UC N (m.2.2.2.2.2.2.2.2.2.2.2.2.1[i]!).2.2
    show Ans (LN N _ _ _) True
    rw [LN,e1,q0,e2,q0]
    exact((KL (by omega) _ _).imp fun _=>trivial).pure))).imp fun _=>trivial)
theorem dY(hN:20000000<N)(hL:Lit m):Ans2 (HG N m) True:=by
 have hb:brf (m.2.2.2.2.2.2.2.2.2.2.2.2.2.1.map (fun x:Fd=>x.1)):=hL.ti 13 (by omega)
 have hl:m.2.2.2.2.2.2.2.2.2.2.2.2.2.1.length≤1048576:=by have:=hb.2;rwa [q8] at this
 exact Ph hN m.2.2.2.2.2.2.2.2.2.2.2.2.2.1 (fun x:Fd=>x.1) hb _ (Qi (N:=N) (by omega) m.2.2.2.2.2.2.2.2.2.2.2.2.2.1 (fun x:Fd=>x.1) (Hk N m.2.2.2.2.2.2.2.2.2.2.2.2.2.1) (by omega) (fun _ _ _=>rfl)) (KH N m.2.2.2.2.2.2.2.2.2.2.2.2.2.1 8) True
  ((IB (by omega:20000000<N) m.2.2.2.2.2.2.2.2.2.2.2.2.2.1 (fun(i:Int) (x:Fd)=>Jq N i x.1 x.2 (m.2.2.2.2.2.2.2.2.2.2.2.2.2.1.map (fun x:Fd=>x.1))) (fun _=>True) (Hl N m.2.2.2.2.2.2.2.2.2.2.2.2.2.1 (m.2.2.2.2.2.2.2.2.2.2.2.2.2.1.map (fun x:Fd=>x.1))) 8 (by decide) (fun _ _=>rfl)
   (fun _ i hi=>nm1 hN m.2.2.2.2.2.2.2.2.2.2.2.2.2.1 (fun x:Fd=>x.1) hb i hi (UC N _).pure)).imp fun _=>trivial)
theorem jF(hN:20000000<N)(hL:Lit m):Ans2 (Jj N m) True:=by
 have hb:brf (m.2.2.2.2.2.2.2.2.2.2.2.2.2.2.1.map (fun x:Mtr=>x.1)):=hL.ti 14 (by omega)
 have hl:m.2.2.2.2.2.2.2.2.2.2.2.2.2.2.1.length≤1048576:=by have:=hb.2;rwa [q8] at this
 exact Ph hN m.2.2.2.2.2.2.2.2.2.2.2.2.2.2.1 (fun x:Mtr=>x.1) hb _ (Qi (N:=N) (by omega) m.2.2.2.2.2.2.2.2.2.2.2.2.2.2.1 (fun x:Mtr=>x.1) (Ip N m.2.2.2.2.2.2.2.2.2.2.2.2.2.2.1) (by omega) (fun _ _ _=>rfl)) (Mf N m.2.2.2.2.2.2.2.2.2.2.2.2.2.2.1 8) True
  ((IB (by omega:20000000<N) m.2.2.2.2.2.2.2.2.2.2.2.2.2.2.1 (fun(i:Int) (x:Mtr)=>KF N i x.1 x.2.1 x.2.2.1 x.2.2.2 (m.2.2.2.2.2.2.2.2.2.2.2.2.2.2.1.map (fun x:Mtr=>x.1))) (fun _=>True) (Iu N m.2.2.2.2.2.2.2.2.2.2.2.2.2.2.1 (m.2.2.2.2.2.2.2.2.2.2.2.2.2.2.1.map (fun x:Mtr=>x.1))) 8 (by decide) (fun _ _=>rfl)
   (fun _ i hi=>nm1 hN m.2.2.2.2.2.2.2.2.2.2.2.2.2.2.1 (fun x:Mtr=>x.1) hb i hi (by
    obtain⟨a,e1,_⟩:=UC N (m.2.2.2.2.2.2.2.2.2.2.2.2.2.2.1[i]!).2.1
    have k2: ∀b:Bool,Ans (Jk N (m.2.2.2.2.2.2.2.2.2.2.2.2.2.2.1[i]!).2.1 b) True:=fun b=>by
     rw [Jk,e1,q0,DA,q0]
     exact((KL (by omega) _ _).imp fun _=>trivial).pure
    show Ans (Kj N _ _ _ _) True
    rw [Kj,EQ,q0]
    split
    ·rw [EQ,q0];exact k2 _
    ·exact k2 _))).imp fun _=>trivial)
theorem iJ(h:Ctx N m)(hr: ∀s∈m.2.2.2.2.1,StR s):Ans2 (HX N m) (∀i,i<m.2.2.2.2.1.length→StOk m (m.2.2.2.2.1[i]!)):=by
 have hN:=h.hN
 have hb:brf (m.2.2.2.2.1.map (fun x:Stt=>x.1)):=h.hL.ti 4 (by omega)
 have hl:=h.st
 rw [HX]
 split
 ·exact⟨(0,5),rfl,fun q=>absurd q (by decide)⟩
 exact Ph hN m.2.2.2.2.1 (fun x:Stt=>x.1) hb _ (Qi (N:=N) (by omega) m.2.2.2.2.1 (fun x:Stt=>x.1) (In N m.2.2.2.2.1) (by omega) (fun _ _ _=>rfl)) (fun r=>Me N m.2.2.2.2.1 16 r m) _
  ((IB (by omega:20000000<N) m.2.2.2.2.1 (fun(i:Int) (x:Stt)=>KE N i x.1 x.2.1 x.2.2.1 x.2.2.2.1 x.2.2.2.2 (m.2.2.2.2.1.map (fun x:Stt=>x.1)) m) (fun i=>StOk m (m.2.2.2.2.1[i]!)) (It N m.2.2.2.2.1 (m.2.2.2.2.1.map (fun x:Stt=>x.1)) m) 16 (by decide) (fun _ _=>rfl)
   (fun _ i hi=>nm1 hN m.2.2.2.2.1 (fun x:Stt=>x.1) hb i hi (ow h _ (by have:=h.hL.st i hi;omega) (hr _ (EI hi))))).imp fun z=>z.2)
theorem ib(h:Ctx N m)(hr: ∀s∈m.2.2.2.2.2.1,CoR s.2.2):Ans2 (Iy N m) (∀i,i<m.2.2.2.2.2.1.length→rQ N m (m.2.2.2.2.2.1[i]!)):=by
 have hN:=h.hN
 have hb:brf (m.2.2.2.2.2.1.map (fun x:Act=>x.1)):=h.hL.ti 5 (by omega)
 have hl:=h.ac
 exact Ph hN m.2.2.2.2.2.1 (fun x:Act=>x.1) hb _ (Qi (N:=N) (by omega) m.2.2.2.2.2.1 (fun x:Act=>x.1) (HD N m.2.2.2.2.2.1) (by omega) (fun _ _ _=>rfl)) (fun r=>Ly N m.2.2.2.2.2.1 32 r m) _
  ((IB (by omega:20000000<N) m.2.2.2.2.2.1 (fun(i:Int) (x:Act)=>Ka N i x.1 x.2.1 x.2.2 (m.2.2.2.2.2.1.map (fun x:Act=>x.1)) m) (fun i=>rQ N m (m.2.2.2.2.2.1[i]!)) (HF N m.2.2.2.2.2.1 (m.2.2.2.2.2.1.map (fun x:Act=>x.1)) m) 32 (by decide) (fun _ _=>rfl)
   (fun _ i hi=>nm1 hN m.2.2.2.2.2.1 (fun x:Act=>x.1) hb i hi (nX h _ (by have:=h.hL.ac i hi;omega) (hr _ (EI hi))))).imp fun z=>z.2)
theorem iA(h:Ctx N m)(hr: ∀s∈m.2.2.2.2.2.2.1,TbR s):Ans2 (Ji N m) True:=by
 have hN:=h.hN
 have hb:brf (m.2.2.2.2.2.2.1.map (fun x:Tab=>x.1)):=h.hL.ti 6 (by omega)
 have hl:=h.tb
 exact Ph hN m.2.2.2.2.2.2.1 (fun x:Tab=>x.1) hb _ (Qi (N:=N) (by omega) m.2.2.2.2.2.2.1 (fun x:Tab=>x.1) (Im N m.2.2.2.2.2.2.1) (by omega) (fun _ _ _=>rfl)) (fun r=>Md N m.2.2.2.2.2.2.1 8 r m) _
  ((IB (by omega:20000000<N) m.2.2.2.2.2.2.1 (fun(i:Int) (x:Tab)=>KD N i x.1 x.2.1 x.2.2.1 x.2.2.2.1 x.2.2.2.2.1 x.2.2.2.2.2.1 x.2.2.2.2.2.2 (m.2.2.2.2.2.2.1.map (fun x:Tab=>x.1)) m) (fun _=>True) (Ir N m.2.2.2.2.2.2.1 (m.2.2.2.2.2.2.1.map (fun x:Tab=>x.1)) m) 8 (by decide) (fun _ _=>rfl)
   (fun _ i hi=>nm1 hN m.2.2.2.2.2.2.1 (fun x:Tab=>x.1) hb i hi (ot h _ (by have:=h.hL.tb i hi;omega) (hr _ (EI hi))))).imp fun _=>trivial)
theorem imt(hN:20000000<N)(hL:Lit m):Ans2 (IT N m) (0<m.1.length∧1≤m.2.2.2.2.2.2.2.2.2.2.2.2.2.2.2.1):=by
 have h1:=hL.nm
 have k2: ∀b:Bool,∃r,HZ N m b=some r∧(r.2=0→0<m.1.length∧b=true):=fun b=>by
  obtain⟨r1,u1,v1⟩:=Ans.un N (aj (Ac4 m.1)) 4 (by decide)
  obtain⟨r2,u2,v2⟩:=Ans.un N b 7 (by decide)
  obtain⟨r3,u3,v3⟩:=KL (N:=N) (by omega) r1 r2
  rw [HZ,sb N m.1 (by omega),q0,u1,q0,u2,q0,u3,q0]
  refine⟨_,rfl,fun q=>⟨?_,v2 (v3 q).2⟩⟩
  have:=v1 (v3 q).1
  rcases Nat.eq_zero_or_pos m.1.length with c|c
  ·rw [List.length_eq_zero_iff.1 c] at this;exact absurd this (by decide+kernel)
  ·exact c
 rw [IT,EQ,q0]
 by_cases c:1≤m.2.2.2.2.2.2.2.2.2.2.2.2.2.2.2.1∧m.2.2.2.2.2.2.2.2.2.2.2.2.2.2.2.1≤64
 ·rw [zf c,if_pos rfl,EQ,q0]
  split
  ·rw [EQ,q0]
   obtain⟨r,e,p⟩:=k2 (decide (0≤m.2.2.2.2.2.2.2.2.2.2.2.2.2.2.2.2.2∧m.2.2.2.2.2.2.2.2.2.2.2.2.2.2.2.2.2≤4))
   exact⟨r,e,fun q=>⟨(p q).1,c.1⟩⟩
  ·obtain⟨r,e,p⟩:=k2 false
   exact⟨r,e,fun q=>⟨(p q).1,c.1⟩⟩
 ·rw [ze c,if_neg (by decide)]
  obtain⟨r,e,p⟩:=k2 false
  exact⟨r,e,fun q=>absurd (p q).2 (by decide)⟩
theorem oA(hN:20000000<N)(x:Hd)(h0:x.1.length≤1048576)(h1:x.2.1.length≤1048576)(h2: ∀j,j<x.2.1.length→(x.2.1[j]!).1.length≤1048576):Ans (IM N x.1 x.2.1 x.2.2.1 x.2.2.2.1 x.2.2.2.2.1 x.2.2.2.2.2) (Lt x.1 x.2.1∧Rh x.1 x.2.1 x.2.2.1 x.2.2.2.1 x.2.2.2.2.1 x.2.2.2.2.2=0):=by
 by_cases c:x.2.1.length≤1048576
 ·have hl:Lt x.1 x.2.1:=⟨c,by omega,fun j hj=>by have:=h2 j hj;omega⟩
  exact⟨_,sR N (by omega) _ _ _ _ _ _ hl,fun q=>⟨hl,q⟩⟩
 ·rw [IM,TL N (by omega) x.1 (by omega),q0]
  split
  ·rw [if_pos (by omega)];exact⟨2,rfl,fun q=>absurd q (by decide)⟩
  ·exact⟨4,rfl,fun q=>absurd q (by decide)⟩
theorem gJ(hN:20000000<N)(hL:Lit m):Ans2 (Hu N m) (m.2.1.length≤16∧ ∀x∈m.2.1,Lt x.1 x.2.1∧Rh x.1 x.2.1 x.2.2.1 x.2.2.2.1 x.2.2.2.2.1 x.2.2.2.2.2=0):=by
 have hb:brf (m.2.1.map (fun x:Hd=>x.1)):=hL.ti 1 (by omega)
 have hl:m.2.1.length≤1048576:=by have:=hb.2;rwa [q8] at this
 have he:Ans2 (Lw N m.2.1 16 (m.2.1.map (fun x:Hd=>x.1))) _:=IB (by omega:20000000<N) m.2.1 (fun(i:Int) (x:Hd)=>Hm N i x.1 x.2.1 x.2.2.1 x.2.2.2.1 x.2.2.2.2.1 x.2.2.2.2.2 (m.2.1.map (fun x:Hd=>x.1))) (fun i=>Lt (m.2.1[i]!).1 (m.2.1[i]!).2.1∧Rh (m.2.1[i]!).1 (m.2.1[i]!).2.1 (m.2.1[i]!).2.2.1 (m.2.1[i]!).2.2.2.1 (m.2.1[i]!).2.2.2.2.1 (m.2.1[i]!).2.2.2.2.2=0)
  (HE N m.2.1 (m.2.1.map (fun x:Hd=>x.1))) 16 (by decide) (fun _ _=>rfl) (fun _ i hi=>by
   have hn:(m.2.1[i]!).1.length≤1048576:=by have:=hb.1 i (by rw [q8];exact hi);rwa [MV (fun x:Hd=>x.1) m.2.1 i hi] at this
   obtain⟨r1,e1,p1⟩:=oA hN (m.2.1[i]!) hn (hL.hd i hi).1 (hL.hd i hi).2
   obtain⟨r2,e2,_⟩:=Uz hN (m.2.1.map (fun x:Hd=>x.1)) hb i (by rw [q8];exact hi)
   show Ans (Hm N (i:Int) _ _ _ _ _ _ _) _
   rw [Hm,e1,q0,e2,q0]
   exact((KL (by omega) _ _).imp fun z=>p1 z.1).pure)
 obtain⟨r,e,p⟩:=he
 rw [Hu,show Lv N m.2.1=_ from Qi (N:=N) (by omega) m.2.1 (fun x:Hd=>x.1) (HC N m.2.1) (by omega) (fun _ _ _=>rfl),q0,e]
 exact⟨_,rfl,fun q=>⟨by have:=(p q).1;omega,jv (p q).2⟩⟩
theorem pK(hN:20000000<N)(hL:Lit m)(hs:m.2.1.length≤16):Ans2 (IS N m) (m.2.2.1.length≤16):=by
 rw [IS]
 by_cases c:m.2.2.1.length≤16
 ·rw [jl N (by omega) m.2.1 m.2.2.1 ⟨by omega,by omega,fun j hj=>by have:=hL.ins j hj;omega⟩];exact⟨_,rfl,fun _=>c⟩
 ·rw [MT,if_pos (by omega)];exact⟨_,rfl,fun q=>absurd q (by decide)⟩
end
end Go.Proofs.YtoolcgbcfgnipaaGreatDoor
