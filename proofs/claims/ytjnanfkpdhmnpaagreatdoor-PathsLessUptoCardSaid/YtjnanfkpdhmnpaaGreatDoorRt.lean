import Derived.Test.YtjnanfkpdhmnpaaGreatDoorId
namespace Go.Proofs.YtjnanfkpdhmnpaaGreatDoor
open Go Go.RowKit Go.Eng
def prt(N:Nat)(m:Ao):Nat->Y1 (Int×Int)
 |0=>JJ N m
 |1=>In N m
 |2=>JI N m
 |3=>Lf N m
 |4=>IT N m
 |5=>Js N m
 |6=>Ka N m
 |7=>KE N m
 |8=>Lr N m
 |9=>Ip N m
 |10=>Lu N m
 |11=>KD N m
 |12=>LX N m
 |13=>IB N m
 |14=>Kb N m
 |_=>none
theorem xO(N:Nat)(m:Ao)(f:Nat):An N m (f+1) 0=(JJ N m).bind λr=>if(r.2:Int)≠0 then some (.t78 0 r.1 r.2)else An N m f 1:=by
 rw [An,V8 (by decide),ckp (by decide),V8 Z]
 congr 1
theorem xN(N:Nat)(m:Ao)(f:Nat):An N m (f+1) 1=(In N m).bind λr=>if(r.2:Int)≠0 then some (.t78 1 r.1 r.2)else An N m f 2:=by
 rw [An,V8 (by decide),ckp (by decide),V9 (by decide),V8 Z]
 congr 1
theorem xM(N:Nat)(m:Ao)(f:Nat):An N m (f+1) 2=(JI N m).bind λr=>if(r.2:Int)≠0 then some (.t78 2 r.1 r.2)else An N m f 3:=by
 rw [An,V8 (by decide),ckp (by decide),V9 (by decide),V9 (by decide),V8 Z]
 congr 1
theorem xL(N:Nat)(m:Ao)(f:Nat):An N m (f+1) 3=(Lf N m).bind λr=>if(r.2:Int)≠0 then some (.t78 3 r.1 r.2)else An N m f 4:=by
 rw [An,V8 (by decide),ckp (by decide),V9 (by decide),V9 (by decide),V9 (by decide),V8 Z]
 congr 1
theorem xK(N:Nat)(m:Ao)(f:Nat):An N m (f+1) 4=(IT N m).bind λr=>if(r.2:Int)≠0 then some (.t78 4 r.1 r.2)else An N m f 5:=by
 rw [An,V8 (by decide),ckp (by decide),V9 (by decide),V9 (by decide),V9 (by decide),V9 (by decide),V8 Z]
 congr 1
theorem xJ(N:Nat)(m:Ao)(f:Nat):An N m (f+1) 5=(Js N m).bind λr=>if(r.2:Int)≠0 then some (.t78 5 r.1 r.2)else An N m f 6:=by
 rw [An,V8 (by decide),ckp (by decide),V9 (by decide),V9 (by decide),V9 (by decide),V9 (by decide),V9 (by decide),V8 Z]
 congr 1
theorem xI(N:Nat)(m:Ao)(f:Nat):An N m (f+1) 6=(Ka N m).bind λr=>if(r.2:Int)≠0 then some (.t78 6 r.1 r.2)else An N m f 7:=by
 rw [An,V8 (by decide),ckp (by decide),V9 (by decide),V9 (by decide),V9 (by decide),V9 (by decide),V9 (by decide),V9 (by decide),V8 Z]
 congr 1
theorem xH(N:Nat)(m:Ao)(f:Nat):An N m (f+1) 7=(KE N m).bind λr=>if(r.2:Int)≠0 then some (.t78 7 r.1 r.2)else An N m f 8:=by
 rw [An,V8 (by decide),ckp (by decide),V9 (by decide),V9 (by decide),V9 (by decide),V9 (by decide),V9 (by decide),V9 (by decide),V9 (by decide),V8 Z]
 congr 1
theorem xG(N:Nat)(m:Ao)(f:Nat):An N m (f+1) 8=(Lr N m).bind λr=>if(r.2:Int)≠0 then some (.t78 8 r.1 r.2)else An N m f 9:=by
 rw [An,V8 (by decide),ckp (by decide),V9 (by decide),V9 (by decide),V9 (by decide),V9 (by decide),V9 (by decide),V9 (by decide),V9 (by decide),V9 (by decide),V8 Z]
 congr 1
theorem xF(N:Nat)(m:Ao)(f:Nat):An N m (f+1) 9=(Ip N m).bind λr=>if(r.2:Int)≠0 then some (.t78 9 r.1 r.2)else An N m f 10:=by
 rw [An,V8 (by decide),ckp (by decide),V9 (by decide),V9 (by decide),V9 (by decide),V9 (by decide),V9 (by decide),V9 (by decide),V9 (by decide),V9 (by decide),V9 (by decide),V8 Z]
 congr 1
theorem vY(N:Nat)(m:Ao)(f:Nat):An N m (f+1) 10=(Lu N m).bind λr=>if(r.2:Int)≠0 then some (.t78 10 r.1 r.2)else An N m f 11:=by
 rw [An,V8 (by decide),ckp (by decide),V9 (by decide),V9 (by decide),V9 (by decide),V9 (by decide),V9 (by decide),V9 (by decide),V9 (by decide),V9 (by decide),V9 (by decide),V9 (by decide),V8 Z]
 congr 1
theorem vX(N:Nat)(m:Ao)(f:Nat):An N m (f+1) 11=(KD N m).bind λr=>if(r.2:Int)≠0 then some (.t78 11 r.1 r.2)else An N m f 12:=by
 rw [An,V8 (by decide),ckp (by decide),V9 (by decide),V9 (by decide),V9 (by decide),V9 (by decide),V9 (by decide),V9 (by decide),V9 (by decide),V9 (by decide),V9 (by decide),V9 (by decide),V9 (by decide),V8 Z]
 congr 1
theorem vW(N:Nat)(m:Ao)(f:Nat):An N m (f+1) 12=(LX N m).bind λr=>if(r.2:Int)≠0 then some (.t78 12 r.1 r.2)else An N m f 13:=by
 rw [An,V8 (by decide),ckp (by decide),V9 (by decide),V9 (by decide),V9 (by decide),V9 (by decide),V9 (by decide),V9 (by decide),V9 (by decide),V9 (by decide),V9 (by decide),V9 (by decide),V9 (by decide),V9 (by decide),V8 Z]
 congr 1
theorem vV(N:Nat)(m:Ao)(f:Nat):An N m (f+1) 13=(IB N m).bind λr=>if(r.2:Int)≠0 then some (.t78 13 r.1 r.2)else An N m f 14:=by
 rw [An,V8 (by decide),ckp (by decide),V9 (by decide),V9 (by decide),V9 (by decide),V9 (by decide),V9 (by decide),V9 (by decide),V9 (by decide),V9 (by decide),V9 (by decide),V9 (by decide),V9 (by decide),V9 (by decide),V9 (by decide),V8 Z]
 congr 1
theorem vU(N:Nat)(m:Ao)(f:Nat):An N m (f+1) 14=(Kb N m).bind λr=>if(r.2:Int)≠0 then some (.t78 14 r.1 r.2)else An N m f 15:=by
 rw [An,V8 (by decide),ckp (by decide),V9 (by decide),V9 (by decide),V9 (by decide),V9 (by decide),V9 (by decide),V9 (by decide),V9 (by decide),V9 (by decide),V9 (by decide),V9 (by decide),V9 (by decide),V9 (by decide),V9 (by decide),V9 (by decide)]
 congr 1
theorem xE(N:Nat)(m:Ao)(f:Nat): ∀i:Nat,i<15->An N m (f+1) (i:Int)=(prt N m i).bind λr=>if(r.2:Int)≠0 then some (.t78 (i:Int) r.1 r.2)else An N m f ((i+1:Nat):Int)
 |0,_=>xO N m f
 |1,_=>xN N m f
 |2,_=>xM N m f
 |3,_=>xL N m f
 |4,_=>xK N m f
 |5,_=>xJ N m f
 |6,_=>xI N m f
 |7,_=>xH N m f
 |8,_=>xG N m f
 |9,_=>xF N m f
 |10,_=>vY N m f
 |11,_=>vX N m f
 |12,_=>vW N m f
 |13,_=>vV N m f
 |14,_=>vU N m f
 |i+15,h=>absurd h (by omega)
theorem LO{N:Nat}{m:Ao}{P G:Prop}(i:Nat)(hi:i<15)(f:Nat)(h:Ans2 (prt N m i) P)(k:P-> ∃s,An N m f ((i+1:Nat):Int)=some s/\(s= .nil->G)):
  ∃s,An N m (f+1) (i:Int)=some s/\(s= .nil->G):=by
 obtain⟨r,e,p⟩:=h
 rw [xE N m f i hi,e,q0]
 by_cases c:r.2=0
 ·rw [V9 (λq=>q c)];exact k (p c)
 ·rw [V8 c];exact⟨_,Z,λq=>by cases q⟩
structure Rg(m:Ao):Prop where
 st: ∀s∈m.2.2.2.2.1,StR s
 ac: ∀s∈m.2.2.2.2.2.1,CoR s.2.2
 tb: ∀s∈m.2.2.2.2.2.2.1,TbR s
 ni: ∀i,i<m.2.2.2.2.2.2.2.1.length->NdR (m.2.2.2.2.2.2.2.1[i]!)
 ne: ∀i,i<m.2.2.2.2.2.2.2.2.1.length->NdR (m.2.2.2.2.2.2.2.2.1[i]!)
 dp: ∀i,i<m.2.2.2.2.2.2.2.2.2.1.length->Top (m.2.2.2.2.2.2.2.2.2.1[i]!)
 ch: ∀i,i<m.2.2.2.2.2.2.2.2.2.2.1.length->Top (m.2.2.2.2.2.2.2.2.2.2.1[i]!).1
 up: ∀i,i<m.2.2.2.2.2.2.2.2.2.2.2.1.length->Top (m.2.2.2.2.2.2.2.2.2.2.2.1[i]!).1
structure rk(N:Nat)(m:Ao):Prop where
 cx:Ctx N m
 nm:0<m.1.length/\1<=m.2.2.2.2.2.2.2.2.2.2.2.2.2.2.2.1
 st: ∀i,i<m.2.2.2.2.1.length->StOk m (m.2.2.2.2.1[i]!)
 ac: ∀i,i<m.2.2.2.2.2.1.length->uU N m (m.2.2.2.2.2.1[i]!)
 ni: ∀i,i<m.2.2.2.2.2.2.2.1.length->bK m m.2.2.2.2.2.2.2.1.length i (m.2.2.2.2.2.2.2.1[i]!)
 tb: ∀i,i<m.2.2.2.2.2.2.1.length->ri m (m.2.2.2.2.2.2.1[i]!)
 ne: ∀i,i<m.2.2.2.2.2.2.2.2.1.length->bK m m.2.2.2.2.2.2.2.2.1.length i (m.2.2.2.2.2.2.2.2.1[i]!)
theorem jc{N:Nat}{m:Ao}(hN:20000000<N)(hL:Lit m)(hR:Rg m): ∃s,JF N m=some s/\(s= .nil->rk N m):=by
 have hil:=hL.il
 obtain⟨n,e⟩: ∃n,N=n+16:=⟨N - 16,by omega⟩
 rw [JF,NL,q0,congrArg (λx=>An N m x 0) e]
 refine LO 0 (by decide) _ (imt hN hL) λp0=>LO 1 (by decide) _ (km hN hL) λp1=>LO 2 (by decide) _ (sV hN hL p1.1) λp2=> ?_
 have hC:Ctx N m:=⟨hN,hL,p1.1,p1.2,p2⟩
 refine LO 3 (by decide) _ (sw hN hL) λ_=>LO 4 (by decide) _ (lm hC hR.st) λp4=>LO 5 (by decide) _ (kO hC hR.ac) λp5=>LO 6 (by decide) _ (lh hC hR.tb) λp6=> ?_
 refine LO 7 (by decide) _ (ij hC m.2.2.2.2.2.2.2.1 (by omega) (λi h1=>by have:=hL.ni i h1;omega) hR.ni).pure λp7=> ?_
 refine LO 8 (by decide) _ (ij hC m.2.2.2.2.2.2.2.2.1 (by omega) (λi h1=>by have:=hL.ne i h1;omega) hR.ne).pure λp8=> ?_
 refine LO 9 (by decide) _ (kA hC (by omega) hR.dp) λ_=>LO 10 (by decide) _ (li hC _ (by omega) hR.ch).pure λ_=>LO 11 (by decide) _ (li hC _ (by omega) hR.up).pure λ_=> ?_
 refine LO 12 (by decide) _ (vL hN hL) λ_=>LO 13 (by decide) _ (gn hN hL) λ_=>LO 14 (by decide) _ (mx hN hL) λ_=> ?_
 exact⟨.nil,by rw [An,V9 (by decide)],λ_=>⟨hC,p0,p4,p5,p7,p6,p8⟩⟩
section
variable {N:Nat} {m:Ao}
end
end Go.Proofs.YtjnanfkpdhmnpaaGreatDoor
set_option linter.unusedSimpArgs false
set_option linter.unusedVariables false
namespace Go.Proofs.YtjnanfkpdhmnpaaGreatDoor
open Go Go.RowKit Go.Eng
def Tot{α:Type}(x:Y1 α):Prop:= ∃r,x=some r
theorem Tot.it{α:Type}(a:α):Tot (some a):=⟨a,Z⟩
theorem Tot.bind{α β:Type}{x:Y1 α}{f:α->Y1 β}(h:Tot x)(g: ∀r,x=some r->Tot (f r)):Tot (x.bind f):=by
 obtain⟨r,e⟩:=h;rw [e,q0];exact g r e
theorem Tot.ck{α:Type}{p:Prop}[Decidable p]{x:Y1 α}(h:p)(t:Tot x):Tot (ck p x):=by rw [Af _ h];exact t
theorem Tot.ite{α:Type}{p:Prop}[Decidable p]{x y:Y1 α}(a:p->Tot x)(b: ¬p->Tot y):Tot (if p then x else y):=by
 by_cases h:p
 ·rw [V8 h];exact a h
 ·rw [V9 h];exact b h
theorem T1{p:Prop}(h:p:=by repeat' first|with_reducible exact Tot.it _|with_reducible assumption|(with_reducible refine Tot.ck (by omega) ?_)|(with_reducible refine Tot.ite (λ_=> ?_) (λ_=> ?_))):p:=h
theorem VD{α:Type}{P:Nat->Prop}(top:Nat)(loop:Nat->Int->Y1 α)(step: ∀f i:Nat,i<top->P i->(P (i+1)->Tot (loop f ((i:Int)+1)))->Tot (loop (f+1) (i:Int)))(stop: ∀f,P top->Tot (loop (f+1) (top:Int))): ∀(k f i:Nat),i+k=top->k<f->P i->Tot (loop f (i:Int)):=by
 intro k
 induction k with
 |zero=>
  intro f i hi hf hp
  obtain⟨f,rfl⟩: ∃n,f=n+1:=⟨f - 1,by omega⟩
  obtain rfl:i=top:=by omega
  exact stop f hp
 |succ k ih=>
  intro f i hi hf hp
  obtain⟨f,rfl⟩: ∃n,f=n+1:=⟨f - 1,by omega⟩
  exact step f i (by omega) hp λh=>by
   have:=ih f (i+1) (by omega) (by omega) h
   rwa [show((i+1:Nat):Int)=(i:Int)+1 by omega] at this
theorem QJ{α:Type}(top:Nat)(loop:Nat->Int->Y1 α)(step: ∀f i:Nat,i<top->Tot (loop f ((i:Int)+1))->Tot (loop (f+1) (i:Int)))(stop: ∀f,Tot (loop (f+1) (top:Int))){N:Nat}(hN:top<N):Tot (loop N 0):=
 VD (P:=λ_=>True) top loop (λf i hi _ h=>step f i hi (h trivial)) (λf _=>stop f) top N 0 (q7 _) hN trivial
theorem bN{α σ:Type}{P:Nat->σ->Prop}(top:Nat)(loop:Nat->σ->Int->Y1 α)(step: ∀(f i:Nat) (s:σ),i<top->P i s->(∀s',P (i+1) s'->Tot (loop f s' ((i:Int)+1)))->Tot (loop (f+1) s (i:Int)))(stop: ∀f s,P top s->Tot (loop (f+1) s (top:Int))): ∀(k f i:Nat) (s:σ),i+k=top->k<f->P i s->Tot (loop f s (i:Int)):=by
 intro k
 induction k with
 |zero=>
  intro f i s hi hf hp
  obtain⟨f,rfl⟩: ∃n,f=n+1:=⟨f - 1,by omega⟩
  obtain rfl:i=top:=by omega
  exact stop f s hp
 |succ k ih=>
  intro f i s hi hf hp
  obtain⟨f,rfl⟩: ∃n,f=n+1:=⟨f - 1,by omega⟩
  exact step f i s (by omega) hp λs' h=>by
   have:=ih f (i+1) s' (by omega) (by omega) h
   rwa [show((i+1:Nat):Int)=(i:Int)+1 by omega] at this
theorem VG: ∀(l:Y0 Ins) (i:Nat),∀p∈EJ i l,(i:Int)<=p.1/\p.1<((i+l.length:Nat):Int)
 | [],_,p,h=>by cases h
 |x::r,i,p,h=>by
  rw [EJ,List.mem_append] at h
  rcases h with h|h
  ·obtain⟨k,_,rfl⟩:=List.mem_map.1 h
   rw [zg];exact⟨Int.le_refl _,by show(i:Int)<_;omega⟩
  ·have:=VG r (i+1) p h
   rw [zg];omega
theorem gR(l:Y0 Ins)(k:Int)(h0:0<=k)(h1:k<((EJ 0 l).length:Int)):0<=((EJ 0 l)[k.toNat]!).1/\((EJ 0 l)[k.toNat]!).1<(l.length:Int):=by
 have h:=VG l 0 _ (Fm (l:=EJ 0 l) (i:=k.toNat) (by omega))
 omega
theorem wv(l:Y0 Ins)(k:Int)(h0:0<=k)(h1:k<((EJ 0 l).length:Int)):ofL l k=(((EJ 0 l)[k.toNat]!).1,((EJ 0 l)[k.toNat]!).2,true):=by
 obtain⟨n,rfl⟩:=Int.eq_ofNat_of_zero_le h0
 have hn:n<(EJ 0 l).length:=by omega
 rw [ofL,V9 (by omega),Ub,dif_pos hn,q4,zm _ n hn]
theorem ig(l:Y0 Ins)(k:Int)(h:k<0\/((EJ 0 l).length:Int)<=k):ofL l k=(0,0,false):=by
 by_cases h0:k<0
 ·rw [ofL,V8 h0]
 ·obtain⟨n,rfl⟩:=Int.eq_ofNat_of_zero_le (show 0<=k by omega)
  rw [ofL,V9 h0,Ub,dif_neg (by omega)]
section
variable {N:Nat} {m:Ao}
theorem SW(hN:20000000<N)(hi:m.2.2.1.length<=1048576)(k:Int):Bt N m k=some (hdL m.2.1 m.2.2.1 k):=by
 have k1:Ey m k (EJ 0 m.2.2.1) true=some ([],[],0,0,0,0,false):=Z
 rw [Bt,Qj N hN _ hi,q0]
 unfold hdL
 by_cases c0:k<0
 ·rw [V8 c0,k1,ig _ _ (.inl c0)];rfl
 rw [V9 c0]
 by_cases c1:k>=((EJ 0 m.2.2.1).length:Int)
 ·rw [zl c1,k1,ig _ _ (.inr c1)];rfl
 have hs:=gR m.2.2.1 k (by omega) (by omega)
 rw [zk c1,Ey,V9 (by decide),Af _ (by omega),Af _ hs,wv _ _ (by omega) (by omega)]
 dsimp only
 have k2:Ex m k (EJ 0 m.2.2.1) true=some ([],[],0,0,0,0,false):=Z
 by_cases c2:((m.2.2.1)[((EJ 0 m.2.2.1)[k.toNat]!).1.toNat]!).2.1<0
 ·rw [V8 c2,k2,V9 (λh=>by have:=h.2.1;omega)]
 rw [V9 c2]
 by_cases c3:((m.2.2.1)[((EJ 0 m.2.2.1)[k.toNat]!).1.toNat]!).2.1>=(m.2.1.length:Int)
 ·rw [zl c3,k2,V9 (λh=>by have:=h.2.2;omega)]
 rw [zk c3,Ex,V9 (by decide),Af _ (by omega),V8 ⟨Z,by omega,by omega⟩]
theorem VP(hN:20000000<N)(hi:m.2.2.1.length<=1048576)(k f:Int):Cy N m k f=some (if(hdL m.2.1 m.2.2.1 k).2.2.2.2.2.2=true/\0<=f/\f<((hdL m.2.1 m.2.2.1 k).2.1.length:Int)then(((hdL m.2.1 m.2.2.1 k).2.1[f.toNat]!).2,true)else(0,false)):=by
 rw [Cy,SW hN hi,q0]
 generalize hdL m.2.1 m.2.2.1 k=h
 have k1:Eb f h true=some (0,false):=Z
 have k2:Ea f h true=some (0,false):=Z
 by_cases c:h.2.2.2.2.2.2=true
 ·rw [V8 c]
  by_cases d:f<0
  ·rw [zl d,k1,V9 (by omega)]
  rw [zk d,Eb,V9 (by decide)]
  by_cases e:f>=(h.2.1.length:Int)
  ·rw [zl e,k2,V9 (by omega)]
  rw [zk e,Ea,V9 (by decide),Af _ (by omega),V8 ⟨c,by omega,by omega⟩]
 ·rw [V9 c,k1,V9 (λh=>c h.1)]
theorem hY(i:Int)(hi:i<=9223372036854775807):Tot (EY N m i):=by
 have k2: ∀b:Y3,(b=true->0<=i - 8/\i - 8<(m.2.2.2.1.length:Int))->Tot (Ez m i b):=λb h=>by
  unfold Ez
  exact Tot.ite (λc=>by have:=h c;exact T1) (λ_=>T1)
 have k1: ∀b:Y3,(b=true->0<=i/\i<8)->Tot (EA m i b):=λb h=>by
  unfold EA
  refine Tot.ite (λc=>Tot.ck (by have:=h c;simp only [zg,zp];omega) T1) (λ_=>Tot.ite (λc=>Tot.ck (by omega) (k2 _ λd=> ?_)) (λ_=>k2 _ (λd=>by cases d)))
  have:=zj d;omega
 unfold EY
 exact Tot.ite (λc=>k1 _ λd=>by have:=zj d;omega) (λ_=>k1 _ (λd=>by cases d))
def xw(l:Y0 Ins)(i:Int):Int×Int×Y3:=if 0<=i/\i<(l.length:Int)/\1<=(l[i.toNat]!).2.2/\(l[i.toNat]!).2.2<=4 then((total (l.take i.toNat):Int),(l[i.toNat]!).2.2,true)else(0,0,false)
theorem VN(hN:20000000<N)(hi:m.2.2.1.length<=1048576)(i:Int):Dz N m i=some (xw m.2.2.1 i):=by
 have k3:Df N m i true=some (0,0,false):=Z
 have k2:Dg N m i true=some (0,0,false):=Z
 have k1:Dh N m i true=some (0,0,false):=Z
 unfold xw
 rw [Dz]
 by_cases c0:i<0
 ·rw [V8 c0,k1,V9 (by omega)]
 rw [V9 c0]
 by_cases c1:i>=(m.2.2.1.length:Int)
 ·rw [zl c1,k1,V9 (by omega)]
 rw [zk c1,Dh,V9 (by decide),Af _ (by omega)]
 by_cases c2:((m.2.2.1)[i.toNat]!).2.2<1
 ·rw [zl c2,k2,V9 (by omega)]
 rw [zk c2,Dg,V9 (by decide),Af _ (by omega)]
 by_cases c3:((m.2.2.1)[i.toNat]!).2.2>4
 ·rw [zl c3,k3,V9 (by omega)]
 rw [zk c3,Df,V9 (by decide),Af _ (by omega),j8,Qj N hN _ (by rw [q8];omega),q0,Af _ (by omega),Sq,V8 ⟨by omega,by omega,by omega,by omega⟩]
theorem gZ(hN:20000000<N)(hi:m.2.2.1.length<=1048576)(a b c:Int)(hb:b<=9223372036854775807):Tot (DC N m a b c):=by
 unfold DC FX FW FV FU
 rw [VP hN hi,q0]
 exact Tot.ite (λ_=>T1) (λ_=>Tot.ite (λ_=>(hY b hb).bind λ_ _=>T1) (λ_=>T1))
theorem lO(hN:20000000<N)(hi:m.2.2.1.length<=1048576)(l:Y0 (Int×Int×Int))(hl:l.length<=1048576)(hr: ∀i,i<l.length->(l[i]!).2.1<=9223372036854775807):Tot (GY N m l):=by
 refine bN (P:=λ_ n=>0<=n/\n<=128) l.length (λf n i=>Bh N m l f n i) (λf i n h hp hk=> ?_) (λf n hp=> ?_) l.length N 0 0 (q7 _) (by omega) ⟨by omega,by omega⟩
 ·show Tot (Bh N m l (f+1) n (i:Int))
  rw [Bh,V8 (by omega),Af _ (by omega),q4]
  refine(gZ hN hi _ _ _ (hr i h)).bind λr _=> ?_
  have k5: ∀b:Y3,(b=false->1<=r.1/\r.1<=128 - n)->Tot (EZ n (i:Int) (Bh N m l f) r b):=λb q=>by
   unfold EZ
   exact Tot.ite (λ_=>T1) (λc=>by have:=q (by simpa using c);exact Tot.ck (by omega) (Tot.ck (by omega) (hk _ ⟨by omega,by omega⟩)))
  have k4: ∀b:Y3,(b=false->1<=r.1)->Tot (Fa n (i:Int) (Bh N m l f) r b):=λb q=>by
   unfold Fa
   exact Tot.ite (λ_=>k5 _ (λh=>by cases h)) (λc=>Tot.ck (by omega) (k5 _ λd=>by have:=of_decide_eq_false d;have:=q (by simpa using c);omega))
  exact Tot.ite (λ_=>k4 _ λd=>by have:=of_decide_eq_false d;omega) (λ_=>k4 _ (λh=>by cases h))
 ·show Tot (Bh N m l (f+1) n (l.length:Int))
  rw [Bh,V9 (by omega)];exact T1
theorem lH(hN:20000000<N)(hi:m.2.2.1.length<=1048576)(l:Y0 (Int×Int×Int))(hl:l.length<=1048576)(hr: ∀i,i<l.length->(l[i]!).2.1<=9223372036854775807)(q:Y3):Tot (Fz N m l q):=by
 unfold Fz
 refine Tot.ite (λ_=>T1) (λ_=>QJ l.length (AR N m l q) (λf i h hk=> ?_) (λf=> ?_) (by omega))
 ·rw [AR,V8 (by omega),Af _ (by omega)]
  have k6: ∀b:Y3,Tot (EU (i:Int) (AR N m l q f) b):=λb=>by unfold EU;exact T1
  have k4: ∀b:Y3,Tot (DA N m l (i:Int) (AR N m l q f) b):=λb=>by
   unfold DA
   rw [q4]
   refine Tot.ite (λ_=>T1) (λ_=>(gZ hN hi _ _ _ (hr i h)).bind λr _=> ?_)
   have k5: ∀b:Y3,Tot (EV l (i:Int) (AR N m l q f) r b):=λb=>by
    unfold EV
    exact Tot.ite (λ_=>T1) (λ_=>Tot.ite (λ_=>Tot.ite (λ_=>k6 _) (λ_=>k6 _)) (λ_=>T1))
   exact Tot.ite (λ_=>k5 _) (λ_=>k5 _)
  have k3: ∀b:Y3,Tot (EW N m l q (i:Int) (AR N m l q f) b):=λb=>by
   unfold EW
   exact Tot.ite (λ_=>Tot.ite (λ_=>k4 _) (λ_=>k4 _)) (λ_=>k4 _)
  exact Tot.ite (λ_=>k3 _) (λ_=>k3 _)
 ·rw [AR,V9 (by omega)]
  exact(lO hN hi l hl hr).bind λ_ _=>T1
theorem vK(hN:20000000<N)(hi:m.2.2.1.length<=1048576)(a b:Int):Tot (FA N m a b):=by
 unfold FA Gy
 rw [Qj N hN _ hi,q0,VN hN hi,q0]
 refine Tot.ite (λ_=>Tot.ite (λ_=>T1) (λc=>Tot.ite (λ_=>T1) (λd=> ?_))) (λ_=>T1)
 have hs:=gR m.2.2.1 b (by omega) (by omega)
 exact Tot.ck (by omega) (Tot.ck hs T1)
theorem ia(hN:20000000<N)(a:Int)(h0:0<=a)(h1:a<(m.2.2.2.2.2.1.length:Int))(l:Y0 (Int×W3))(hl:l.length<=1048576):Tot (EX N m a l):=by
 unfold EX
 refine Tot.ck ⟨h0,h1⟩ (Tot.ite (λ_=>T1) (λc=>QJ l.length (Cx N m a l) (λf i h hk=> ?_) (λf=> ?_) (by omega)))
 ·rw [Cx,V8 (by omega),Af _ (by omega),TX,q0]
  exact T1
 ·rw [Cx,V9 (by omega)];exact T1
theorem lA(hN:20000000<N)(l:Y0 (W2))(h0:0<l.length)(hl:l.length<=1048576)(hall: ∀j,j<l.length->(l[j]!).length<=1048576):Tot (Hv N l):=by
 have e:(((l.length:Int) - 1)).toNat=l.length - 1:=by omega
 unfold Hv
 rw [Af _ (by omega),Af _ (by omega),e,Qk N _ (hall _ (by omega)) hN,q0]
 refine Tot.ite (λ_=>QJ (l.length - 1) (CT N l) (λf i h hk=> ?_) (λf=> ?_) (by omega)) (λ_=>T1)
 ·rw [CT,Af _ (by omega),V8 (by omega),Af _ (by omega),e,q4,Sx N _ _ (hall _ (by omega)) (hall _ (by omega)) hN,q0]
  exact T1
 ·rw [CT,Af _ (by omega),V9 (by omega)];exact T1
end
end Go.Proofs.YtjnanfkpdhmnpaaGreatDoor
