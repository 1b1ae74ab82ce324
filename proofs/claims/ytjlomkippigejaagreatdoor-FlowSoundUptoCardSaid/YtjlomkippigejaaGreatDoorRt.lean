import Derived.Test.YtjlomkippigejaaGreatDoorId
namespace Go.Proofs.YtjlomkippigejaaGreatDoor
open Go Go.RowKit Go.Eng
def prt(N:Nat)(m:Ao):Nat->Option (Int×Int)
 |0=>Jt N m
 |1=>HR N m
 |2=>Js N m
 |3=>KK N m
 |4=>IB N m
 |5=>Ja N m
 |6=>JH N m
 |7=>Kk N m
 |8=>KR N m
 |9=>HS N m
 |10=>KS N m
 |11=>Kj N m
 |12=>Lr N m
 |13=>Ii N m
 |14=>JI N m
 |_=>none
theorem wK(N:Nat)(m:Ao)(f:Nat):An N m (f+1) 0=(Jt N m).bind λr=>if(r.2:Int)≠0 then some (.t107 0 r.1 r.2)else An N m f 1:=by
 rw [An,if_pos (by decide),ckp (by decide),if_pos Z]
 congr 1
theorem wJ(N:Nat)(m:Ao)(f:Nat):An N m (f+1) 1=(HR N m).bind λr=>if(r.2:Int)≠0 then some (.t107 1 r.1 r.2)else An N m f 2:=by
 rw [An,if_pos (by decide),ckp (by decide),if_neg (by decide),if_pos Z]
 congr 1
theorem wI(N:Nat)(m:Ao)(f:Nat):An N m (f+1) 2=(Js N m).bind λr=>if(r.2:Int)≠0 then some (.t107 2 r.1 r.2)else An N m f 3:=by
 rw [An,if_pos (by decide),ckp (by decide),if_neg (by decide),if_neg (by decide),if_pos Z]
 congr 1
theorem wH(N:Nat)(m:Ao)(f:Nat):An N m (f+1) 3=(KK N m).bind λr=>if(r.2:Int)≠0 then some (.t107 3 r.1 r.2)else An N m f 4:=by
 rw [An,if_pos (by decide),ckp (by decide),if_neg (by decide),if_neg (by decide),if_neg (by decide),if_pos Z]
 congr 1
theorem wG(N:Nat)(m:Ao)(f:Nat):An N m (f+1) 4=(IB N m).bind λr=>if(r.2:Int)≠0 then some (.t107 4 r.1 r.2)else An N m f 5:=by
 rw [An,if_pos (by decide),ckp (by decide),if_neg (by decide),if_neg (by decide),if_neg (by decide),if_neg (by decide),if_pos Z]
 congr 1
theorem wF(N:Nat)(m:Ao)(f:Nat):An N m (f+1) 5=(Ja N m).bind λr=>if(r.2:Int)≠0 then some (.t107 5 r.1 r.2)else An N m f 6:=by
 rw [An,if_pos (by decide),ckp (by decide),if_neg (by decide),if_neg (by decide),if_neg (by decide),if_neg (by decide),if_neg (by decide),if_pos Z]
 congr 1
theorem wE(N:Nat)(m:Ao)(f:Nat):An N m (f+1) 6=(JH N m).bind λr=>if(r.2:Int)≠0 then some (.t107 6 r.1 r.2)else An N m f 7:=by
 rw [An,if_pos (by decide),ckp (by decide),if_neg (by decide),if_neg (by decide),if_neg (by decide),if_neg (by decide),if_neg (by decide),if_neg (by decide),if_pos Z]
 congr 1
theorem wD(N:Nat)(m:Ao)(f:Nat):An N m (f+1) 7=(Kk N m).bind λr=>if(r.2:Int)≠0 then some (.t107 7 r.1 r.2)else An N m f 8:=by
 rw [An,if_pos (by decide),ckp (by decide),if_neg (by decide),if_neg (by decide),if_neg (by decide),if_neg (by decide),if_neg (by decide),if_neg (by decide),if_neg (by decide),if_pos Z]
 congr 1
theorem wC(N:Nat)(m:Ao)(f:Nat):An N m (f+1) 8=(KR N m).bind λr=>if(r.2:Int)≠0 then some (.t107 8 r.1 r.2)else An N m f 9:=by
 rw [An,if_pos (by decide),ckp (by decide),if_neg (by decide),if_neg (by decide),if_neg (by decide),if_neg (by decide),if_neg (by decide),if_neg (by decide),if_neg (by decide),if_neg (by decide),if_pos Z]
 congr 1
theorem wB(N:Nat)(m:Ao)(f:Nat):An N m (f+1) 9=(HS N m).bind λr=>if(r.2:Int)≠0 then some (.t107 9 r.1 r.2)else An N m f 10:=by
 rw [An,if_pos (by decide),ckp (by decide),if_neg (by decide),if_neg (by decide),if_neg (by decide),if_neg (by decide),if_neg (by decide),if_neg (by decide),if_neg (by decide),if_neg (by decide),if_neg (by decide),if_pos Z]
 congr 1
theorem uG(N:Nat)(m:Ao)(f:Nat):An N m (f+1) 10=(KS N m).bind λr=>if(r.2:Int)≠0 then some (.t107 10 r.1 r.2)else An N m f 11:=by
 rw [An,if_pos (by decide),ckp (by decide),if_neg (by decide),if_neg (by decide),if_neg (by decide),if_neg (by decide),if_neg (by decide),if_neg (by decide),if_neg (by decide),if_neg (by decide),if_neg (by decide),if_neg (by decide),if_pos Z]
 congr 1
theorem uF(N:Nat)(m:Ao)(f:Nat):An N m (f+1) 11=(Kj N m).bind λr=>if(r.2:Int)≠0 then some (.t107 11 r.1 r.2)else An N m f 12:=by
 rw [An,if_pos (by decide),ckp (by decide),if_neg (by decide),if_neg (by decide),if_neg (by decide),if_neg (by decide),if_neg (by decide),if_neg (by decide),if_neg (by decide),if_neg (by decide),if_neg (by decide),if_neg (by decide),if_neg (by decide),if_pos Z]
 congr 1
theorem uE(N:Nat)(m:Ao)(f:Nat):An N m (f+1) 12=(Lr N m).bind λr=>if(r.2:Int)≠0 then some (.t107 12 r.1 r.2)else An N m f 13:=by
 rw [An,if_pos (by decide),ckp (by decide),if_neg (by decide),if_neg (by decide),if_neg (by decide),if_neg (by decide),if_neg (by decide),if_neg (by decide),if_neg (by decide),if_neg (by decide),if_neg (by decide),if_neg (by decide),if_neg (by decide),if_neg (by decide),if_pos Z]
 congr 1
theorem uD(N:Nat)(m:Ao)(f:Nat):An N m (f+1) 13=(Ii N m).bind λr=>if(r.2:Int)≠0 then some (.t107 13 r.1 r.2)else An N m f 14:=by
 rw [An,if_pos (by decide),ckp (by decide),if_neg (by decide),if_neg (by decide),if_neg (by decide),if_neg (by decide),if_neg (by decide),if_neg (by decide),if_neg (by decide),if_neg (by decide),if_neg (by decide),if_neg (by decide),if_neg (by decide),if_neg (by decide),if_neg (by decide),if_pos Z]
 congr 1
theorem uC(N:Nat)(m:Ao)(f:Nat):An N m (f+1) 14=(JI N m).bind λr=>if(r.2:Int)≠0 then some (.t107 14 r.1 r.2)else An N m f 15:=by
 rw [An,if_pos (by decide),ckp (by decide),if_neg (by decide),if_neg (by decide),if_neg (by decide),if_neg (by decide),if_neg (by decide),if_neg (by decide),if_neg (by decide),if_neg (by decide),if_neg (by decide),if_neg (by decide),if_neg (by decide),if_neg (by decide),if_neg (by decide),if_neg (by decide)]
 congr 1
theorem wA(N:Nat)(m:Ao)(f:Nat): ∀i:Nat,i<15->An N m (f+1) (i:Int)=(prt N m i).bind λr=>if(r.2:Int)≠0 then some (.t107 (i:Int) r.1 r.2)else An N m f ((i+1:Nat):Int)
 |0,_=>wK N m f
 |1,_=>wJ N m f
 |2,_=>wI N m f
 |3,_=>wH N m f
 |4,_=>wG N m f
 |5,_=>wF N m f
 |6,_=>wE N m f
 |7,_=>wD N m f
 |8,_=>wC N m f
 |9,_=>wB N m f
 |10,_=>uG N m f
 |11,_=>uF N m f
 |12,_=>uE N m f
 |13,_=>uD N m f
 |14,_=>uC N m f
 |i+15,h=>absurd h (by omega)
theorem Lh{N:Nat}{m:Ao}{P G:Prop}(i:Nat)(hi:i<15)(f:Nat)(h:Ans2 (prt N m i) P)(k:P-> ∃s,An N m f ((i+1:Nat):Int)=some s/\(s= .nil->G)):
  ∃s,An N m (f+1) (i:Int)=some s/\(s= .nil->G):=by
 obtain⟨r,e,p⟩:=h
 rw [wA N m f i hi,e,q0]
 by_cases c:r.2=0
 ·rw [if_neg (λq=>q c)];exact k (p c)
 ·rw [if_pos c];exact⟨_,Z,λq=>by cases q⟩
structure Rg(m:Ao):Prop where
 st: ∀s∈m.2.2.2.2.1,StR s
 ac: ∀s∈m.2.2.2.2.2.1,CoR s.2.2
 tb: ∀s∈m.2.2.2.2.2.2.1,TbR s
 ni: ∀i,i<m.2.2.2.2.2.2.2.1.length->NdR (m.2.2.2.2.2.2.2.1[i]!)
 ne: ∀i,i<m.2.2.2.2.2.2.2.2.1.length->NdR (m.2.2.2.2.2.2.2.2.1[i]!)
 dp: ∀i,i<m.2.2.2.2.2.2.2.2.2.1.length->Top (m.2.2.2.2.2.2.2.2.2.1[i]!)
 ch: ∀i,i<m.2.2.2.2.2.2.2.2.2.2.1.length->Top (m.2.2.2.2.2.2.2.2.2.2.1[i]!).1
 up: ∀i,i<m.2.2.2.2.2.2.2.2.2.2.2.1.length->Top (m.2.2.2.2.2.2.2.2.2.2.2.1[i]!).1
structure yc(N:Nat)(m:Ao):Prop where
 cx:Ctx N m
 nm:0<m.1.length/\1<=m.2.2.2.2.2.2.2.2.2.2.2.2.2.2.2.1
 st: ∀i,i<m.2.2.2.2.1.length->StOk m (m.2.2.2.2.1[i]!)
 ac: ∀i,i<m.2.2.2.2.2.1.length->tI N m (m.2.2.2.2.2.1[i]!)
 ni: ∀i,i<m.2.2.2.2.2.2.2.1.length->wc m m.2.2.2.2.2.2.2.1.length i (m.2.2.2.2.2.2.2.1[i]!)
theorem rW{N:Nat}{m:Ao}(hN:20000000<N)(hL:Lit m)(hR:Rg m): ∃s,Kv N m=some s/\(s= .nil->yc N m):=by
 have hil:=hL.il
 obtain⟨n,e⟩: ∃n,N=n+16:=⟨N - 16,by omega⟩
 rw [Kv,Nq,q0,congrArg (λx=>An N m x 0) e]
 refine Lh 0 (by decide) _ (imt hN hL) λp0=>Lh 1 (by decide) _ (jo hN hL) λp1=>Lh 2 (by decide) _ (rx hN hL p1.1) λp2=> ?_
 have hC:Ctx N m:=⟨hN,hL,p1.1,p1.2,p2⟩
 refine Lh 3 (by decide) _ (qY hN hL) λ_=>Lh 4 (by decide) _ (ka hC hR.st) λp4=>Lh 5 (by decide) _ (jH hC hR.ac) λp5=>Lh 6 (by decide) _ (jW hC hR.tb) λ_=> ?_
 refine Lh 7 (by decide) _ (gu hC m.2.2.2.2.2.2.2.1 (by omega) (λi h1=>by have:=hL.ni i h1;omega) hR.ni).pure λp7=> ?_
 refine Lh 8 (by decide) _ (gu hC m.2.2.2.2.2.2.2.2.1 (by omega) (λi h1=>by have:=hL.ne i h1;omega) hR.ne).pure λ_=> ?_
 refine Lh 9 (by decide) _ (jw hC (by omega) hR.dp) λ_=>Lh 10 (by decide) _ (jX hC _ (by omega) hR.ch).pure λ_=>Lh 11 (by decide) _ (jX hC _ (by omega) hR.up).pure λ_=> ?_
 refine Lh 12 (by decide) _ (uv hN hL) λ_=>Lh 13 (by decide) _ (fG hN hL) λ_=>Lh 14 (by decide) _ (lg hN hL) λ_=> ?_
 exact⟨.nil,by rw [An,if_neg (by decide)],λ_=>⟨hC,p0,p4,p5,p7⟩⟩
section
variable {N:Nat} {m:Ao}
end
end Go.Proofs.YtjlomkippigejaaGreatDoor
set_option linter.unusedSimpArgs false
set_option linter.unusedVariables false
namespace Go.Proofs.YtjlomkippigejaaGreatDoor
open Go Go.RowKit Go.Eng
def Tot{α:Type}(x:Option α):Prop:= ∃r,x=some r
theorem Tot.it{α:Type}(a:α):Tot (some a):=⟨a,Z⟩
theorem Tot.bind{α β:Type}{x:Option α}{f:α->Option β}(h:Tot x)(g: ∀r,x=some r->Tot (f r)):Tot (x.bind f):=by
 obtain⟨r,e⟩:=h;rw [e,q0];exact g r e
theorem Tot.ck{α:Type}{p:Prop}[Decidable p]{x:Option α}(h:p)(t:Tot x):Tot (ck p x):=by rw [Af _ h];exact t
theorem Tot.ite{α:Type}{p:Prop}[Decidable p]{x y:Option α}(a:p->Tot x)(b: ¬p->Tot y):Tot (if p then x else y):=by
 by_cases h:p
 ·rw [if_pos h];exact a h
 ·rw [if_neg h];exact b h
theorem T1{p:Prop}(h:p:=by repeat' first|with_reducible exact Tot.it _|with_reducible assumption|(with_reducible refine Tot.ck (by omega) ?_)|(with_reducible refine Tot.ite (λ_=> ?_) (λ_=> ?_))):p:=h
theorem Ve{α:Type}{P:Nat->Prop}(top:Nat)(loop:Nat->Int->Option α)(step: ∀f i:Nat,i<top->P i->(P (i+1)->Tot (loop f ((i:Int)+1)))->Tot (loop (f+1) (i:Int)))
  (stop: ∀f,P top->Tot (loop (f+1) (top:Int))): ∀(k f i:Nat),i+k=top->k<f->P i->Tot (loop f (i:Int)):=by
 intro k
 induction k with
 |zero=>
  intro f i hi hf hp
  obtain⟨f,rfl⟩: ∃n,f=n+1:=⟨f - 1,by omega⟩
  obtain rfl:i=top:=by omega
  exact stop f hp
 |succ k ih=>
  intro f i hi hf hp
  obtain⟨f,rfl⟩: ∃n,f=n+1:=⟨f - 1,by omega⟩
  exact step f i (by omega) hp λh=>by
   have:=ih f (i+1) (by omega) (by omega) h
   rwa [show((i+1:Nat):Int)=(i:Int)+1 by omega] at this
theorem Qe{α:Type}(top:Nat)(loop:Nat->Int->Option α)(step: ∀f i:Nat,i<top->Tot (loop f ((i:Int)+1))->Tot (loop (f+1) (i:Int)))(stop: ∀f,Tot (loop (f+1) (top:Int))){N:Nat}(hN:top<N):Tot (loop N 0):=
 Ve (P:=λ_=>True) top loop (λf i hi _ h=>step f i hi (h trivial)) (λf _=>stop f) top N 0 (q6 _) hN trivial
theorem bo{α σ:Type}{P:Nat->σ->Prop}(top:Nat)(loop:Nat->σ->Int->Option α)(step: ∀(f i:Nat) (s:σ),i<top->P i s->(∀s',P (i+1) s'->Tot (loop f s' ((i:Int)+1)))->Tot (loop (f+1) s (i:Int)))
  (stop: ∀f s,P top s->Tot (loop (f+1) s (top:Int))): ∀(k f i:Nat) (s:σ),i+k=top->k<f->P i s->Tot (loop f s (i:Int)):=by
 intro k
 induction k with
 |zero=>
  intro f i s hi hf hp
  obtain⟨f,rfl⟩: ∃n,f=n+1:=⟨f - 1,by omega⟩
  obtain rfl:i=top:=by omega
  exact stop f s hp
 |succ k ih=>
  intro f i s hi hf hp
  obtain⟨f,rfl⟩: ∃n,f=n+1:=⟨f - 1,by omega⟩
  exact step f i s (by omega) hp λs' h=>by
   have:=ih f (i+1) s' (by omega) (by omega) h
   rwa [show((i+1:Nat):Int)=(i:Int)+1 by omega] at this
theorem Vg: ∀(l:List Ins) (i:Nat),∀p∈Ew i l,(i:Int)<=p.1/\p.1<((i+l.length:Nat):Int)
 | [],_,p,h=>by cases h
 |x::r,i,p,h=>by
  rw [Ew,List.mem_append] at h
  rcases h with h|h
  ·obtain⟨k,_,rfl⟩:=List.mem_map.1 h
   rw [za];exact⟨Int.le_refl _,by show(i:Int)<_;omega⟩
  ·have:=Vg r (i+1) p h
   rw [za];omega
theorem gf(l:List Ins)(k:Int)(h0:0<=k)(h1:k<((Ew 0 l).length:Int)):0<=((Ew 0 l)[k.toNat]!).1/\((Ew 0 l)[k.toNat]!).1<(l.length:Int):=by
 have h:=Vg l 0 _ (Fa (l:=Ew 0 l) (i:=k.toNat) (by omega))
 omega
theorem vd(l:List Ins)(k:Int)(h0:0<=k)(h1:k<((Ew 0 l).length:Int)):ofL l k=(((Ew 0 l)[k.toNat]!).1,((Ew 0 l)[k.toNat]!).2,true):=by
 obtain⟨n,rfl⟩:=Int.eq_ofNat_of_zero_le h0
 have hn:n<(Ew 0 l).length:=by omega
 rw [ofL,if_neg (by omega),TC,dif_pos hn,q3,zg _ n hn]
theorem gr(l:List Ins)(k:Int)(h:k<0\/((Ew 0 l).length:Int)<=k):ofL l k=(0,0,false):=by
 by_cases h0:k<0
 ·rw [ofL,if_pos h0]
 ·obtain⟨n,rfl⟩:=Int.eq_ofNat_of_zero_le (show 0<=k by omega)
  rw [ofL,if_neg h0,TC,dif_neg (by omega)]
section
variable {N:Nat} {m:Ao}
theorem Sy(hN:20000000<N)(hi:m.2.2.1.length<=1048576)(k:Int):Bg N m k=some (hdL m.2.1 m.2.2.1 k):=by
 have k1:Ek m k (Ew 0 m.2.2.1) true=some ([],[],0,0,0,0,false):=Z
 rw [Bg,PJ N hN _ hi,q0]
 unfold hdL
 by_cases c0:k<0
 ·rw [if_pos c0,k1,gr _ _ (.inl c0)];rfl
 rw [if_neg c0]
 by_cases c1:k>=((Ew 0 m.2.2.1).length:Int)
 ·rw [zf c1,k1,gr _ _ (.inr c1)];rfl
 have hs:=gf m.2.2.1 k (by omega) (by omega)
 rw [ze c1,Ek,if_neg (by decide),Af _ (by omega),Af _ hs,vd _ _ (by omega) (by omega)]
 dsimp only
 have k2:Ej m k (Ew 0 m.2.2.1) true=some ([],[],0,0,0,0,false):=Z
 by_cases c2:((m.2.2.1)[((Ew 0 m.2.2.1)[k.toNat]!).1.toNat]!).2.1<0
 ·rw [if_pos c2,k2,if_neg (λh=>by have:=h.2.1;omega)]
 rw [if_neg c2]
 by_cases c3:((m.2.2.1)[((Ew 0 m.2.2.1)[k.toNat]!).1.toNat]!).2.1>=(m.2.1.length:Int)
 ·rw [zf c3,k2,if_neg (λh=>by have:=h.2.2;omega)]
 rw [ze c3,Ej,if_neg (by decide),Af _ (by omega),if_pos ⟨Z,by omega,by omega⟩]
theorem Vo(hN:20000000<N)(hi:m.2.2.1.length<=1048576)(k f:Int):Cj N m k f=some (if(hdL m.2.1 m.2.2.1 k).2.2.2.2.2.2=true/\0<=f/\f<((hdL m.2.1 m.2.2.1 k).2.1.length:Int)then(((hdL m.2.1 m.2.2.1 k).2.1[f.toNat]!).2,true)else(0,false)):=by
 rw [Cj,Sy hN hi,q0]
 generalize hdL m.2.1 m.2.2.1 k=h
 have k1:DP f h true=some (0,false):=Z
 have k2:DO f h true=some (0,false):=Z
 by_cases c:h.2.2.2.2.2.2=true
 ·rw [if_pos c]
  by_cases d:f<0
  ·rw [zf d,k1,if_neg (by omega)]
  rw [ze d,DP,if_neg (by decide)]
  by_cases e:f>=(h.2.1.length:Int)
  ·rw [zf e,k2,if_neg (by omega)]
  rw [ze e,DO,if_neg (by decide),Af _ (by omega),if_pos ⟨c,by omega,by omega⟩]
 ·rw [if_neg c,k1,if_neg (λh=>c h.1)]
theorem gk(i:Int)(hi:i<=9223372036854775807):Tot (EO N m i):=by
 have k2: ∀b:Bool,(b=true->0<=i - 8/\i - 8<(m.2.2.2.1.length:Int))->Tot (El m i b):=λb h=>by
  unfold El
  exact Tot.ite (λc=>by have:=h c;exact T1) (λ_=>T1)
 have k1: ∀b:Bool,(b=true->0<=i/\i<8)->Tot (Em m i b):=λb h=>by
  unfold Em
  refine Tot.ite (λc=>Tot.ck (by have:=h c;simp only [za,zj];omega) T1) (λ_=>Tot.ite (λc=>Tot.ck (by omega) (k2 _ λd=> ?_)) (λ_=>k2 _ (λd=>by cases d)))
  have:=zd d;omega
 unfold EO
 exact Tot.ite (λc=>k1 _ λd=>by have:=zd d;omega) (λ_=>k1 _ (λd=>by cases d))
def Tn(l:List Ins)(i:Int):Int×Int×Bool:=if 0<=i/\i<(l.length:Int)/\1<=(l[i.toNat]!).2.2/\(l[i.toNat]!).2.2<=4 then((total (l.take i.toNat):Int),(l[i.toNat]!).2.2,true)else(0,0,false)
theorem RR(hN:20000000<N)(hi:m.2.2.1.length<=1048576)(i:Int):Cq N m i=some (Tn m.2.2.1 i):=by
 have k3:CU N m i true=some (0,0,false):=Z
 have k2:CV N m i true=some (0,0,false):=Z
 have k1:CW N m i true=some (0,0,false):=Z
 unfold Tn
 rw [Cq]
 by_cases c0:i<0
 ·rw [if_pos c0,k1,if_neg (by omega)]
 rw [if_neg c0]
 by_cases c1:i>=(m.2.2.1.length:Int)
 ·rw [zf c1,k1,if_neg (by omega)]
 rw [ze c1,CW,if_neg (by decide),Af _ (by omega)]
 by_cases c2:((m.2.2.1)[i.toNat]!).2.2<1
 ·rw [zf c2,k2,if_neg (by omega)]
 rw [ze c2,CV,if_neg (by decide),Af _ (by omega)]
 by_cases c3:((m.2.2.1)[i.toNat]!).2.2>4
 ·rw [zf c3,k3,if_neg (by omega)]
 rw [ze c3,CU,if_neg (by decide),Af _ (by omega),j0,PJ N hN _ (by rw [q7];omega),q0,Af _ (by omega),RM,if_pos ⟨by omega,by omega,by omega,by omega⟩]
theorem gj(hN:20000000<N)(hi:m.2.2.1.length<=1048576)(a b c:Int)(hb:b<=9223372036854775807):Tot (Ds N m a b c):=by
 unfold Ds FH FG FF FE
 rw [Vo hN hi,q0]
 exact Tot.ite (λ_=>T1) (λ_=>Tot.ite (λ_=>(gk b hb).bind λ_ _=>T1) (λ_=>T1))
theorem kH(hN:20000000<N)(hi:m.2.2.1.length<=1048576)(l:List (Int×Int×Int))(hl:l.length<=1048576)(hr: ∀i,i<l.length->(l[i]!).2.1<=9223372036854775807):Tot (GF N m l):=by
 refine bo (P:=λ_ n=>0<=n/\n<=128) l.length (λf n i=>AU N m l f n i) (λf i n h hp hk=> ?_) (λf n hp=> ?_) l.length N 0 0 (q6 _) (by omega) ⟨by omega,by omega⟩
 ·show Tot (AU N m l (f+1) n (i:Int))
  rw [AU,if_pos (by omega),Af _ (by omega),q3]
  refine(gj hN hi _ _ _ (hr i h)).bind λr _=> ?_
  have k5: ∀b:Bool,(b=false->1<=r.1/\r.1<=128 - n)->Tot (EP n (i:Int) (AU N m l f) r b):=λb q=>by
   unfold EP
   exact Tot.ite (λ_=>T1) (λc=>by have:=q (by simpa using c);exact Tot.ck (by omega) (Tot.ck (by omega) (hk _ ⟨by omega,by omega⟩)))
  have k4: ∀b:Bool,(b=false->1<=r.1)->Tot (EQ n (i:Int) (AU N m l f) r b):=λb q=>by
   unfold EQ
   exact Tot.ite (λ_=>k5 _ (λh=>by cases h)) (λc=>Tot.ck (by omega) (k5 _ λd=>by have:=of_decide_eq_false d;have:=q (by simpa using c);omega))
  exact Tot.ite (λ_=>k4 _ λd=>by have:=of_decide_eq_false d;omega) (λ_=>k4 _ (λh=>by cases h))
 ·show Tot (AU N m l (f+1) n (l.length:Int))
  rw [AU,if_neg (by omega)];exact T1
theorem kA(hN:20000000<N)(hi:m.2.2.1.length<=1048576)(l:List (Int×Int×Int))(hl:l.length<=1048576)(hr: ∀i,i<l.length->(l[i]!).2.1<=9223372036854775807)(q:Bool):Tot (Fi N m l q):=by
 unfold Fi
 refine Tot.ite (λ_=>T1) (λ_=>Qe l.length (AM N m l q) (λf i h hk=> ?_) (λf=> ?_) (by omega))
 ·rw [AM,if_pos (by omega),Af _ (by omega)]
  have k6: ∀b:Bool,Tot (EK (i:Int) (AM N m l q f) b):=λb=>by unfold EK;exact T1
  have k4: ∀b:Bool,Tot (Dq N m l (i:Int) (AM N m l q f) b):=λb=>by
   unfold Dq
   rw [q3]
   refine Tot.ite (λ_=>T1) (λ_=>(gj hN hi _ _ _ (hr i h)).bind λr _=> ?_)
   have k5: ∀b:Bool,Tot (EL l (i:Int) (AM N m l q f) r b):=λb=>by
    unfold EL
    exact Tot.ite (λ_=>T1) (λ_=>Tot.ite (λ_=>Tot.ite (λ_=>k6 _) (λ_=>k6 _)) (λ_=>T1))
   exact Tot.ite (λ_=>k5 _) (λ_=>k5 _)
  have k3: ∀b:Bool,Tot (EM N m l q (i:Int) (AM N m l q f) b):=λb=>by
   unfold EM
   exact Tot.ite (λ_=>Tot.ite (λ_=>k4 _) (λ_=>k4 _)) (λ_=>k4 _)
  exact Tot.ite (λ_=>k3 _) (λ_=>k3 _)
 ·rw [AM,if_neg (by omega)]
  exact(kH hN hi l hl hr).bind λ_ _=>T1
theorem ut(hN:20000000<N)(hi:m.2.2.1.length<=1048576)(a b:Int):Tot (Fj N m a b):=by
 unfold Fj Gg
 rw [PJ N hN _ hi,q0,RR hN hi,q0]
 refine Tot.ite (λ_=>Tot.ite (λ_=>T1) (λc=>Tot.ite (λ_=>T1) (λd=> ?_))) (λ_=>T1)
 have hs:=gf m.2.2.1 b (by omega) (by omega)
 exact Tot.ck (by omega) (Tot.ck hs T1)
theorem gm(hN:20000000<N)(a:Int)(h0:0<=a)(h1:a<(m.2.2.2.2.2.1.length:Int))(l:List (Int×W3))(hl:l.length<=1048576):Tot (EN N m a l):=by
 unfold EN
 refine Tot.ck ⟨h0,h1⟩ (Tot.ite (λ_=>T1) (λc=>Qe l.length (Ci N m a l) (λf i h hk=> ?_) (λf=> ?_) (by omega)))
 ·rw [Ci,if_pos (by omega),Af _ (by omega),Tw,q0]
  exact T1
 ·rw [Ci,if_neg (by omega)];exact T1
theorem ko(hN:20000000<N)(l:List (W2))(h0:0<l.length)(hl:l.length<=1048576)(hall: ∀j,j<l.length->(l[j]!).length<=1048576):Tot (He N l):=by
 have e:(((l.length:Int) - 1)).toNat=l.length - 1:=by omega
 unfold He
 rw [Af _ (by omega),Af _ (by omega),e,PK N _ (hall _ (by omega)) hN,q0]
 refine Tot.ite (λ_=>Qe (l.length - 1) (CF N l) (λf i h hk=> ?_) (λf=> ?_) (by omega)) (λ_=>T1)
 ·rw [CF,Af _ (by omega),if_pos (by omega),Af _ (by omega),e,q3,RS N _ _ (hall _ (by omega)) (hall _ (by omega)) hN,q0]
  exact T1
 ·rw [CF,Af _ (by omega),if_neg (by omega)];exact T1
end
end Go.Proofs.YtjlomkippigejaaGreatDoor
