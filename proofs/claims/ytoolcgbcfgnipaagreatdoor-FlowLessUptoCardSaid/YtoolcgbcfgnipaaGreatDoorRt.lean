import Derived.Test.YtoolcgbcfgnipaaGreatDoorId
namespace Go.Proofs.YtoolcgbcfgnipaaGreatDoor
open Go Go.RowKit Go.Eng
def prt(N:Nat)(m:Ao):Nat→Option (Int×Int)
 |0=>IT N m
 |1=>Hu N m
 |2=>IS N m
 |3=>Kk N m
 |4=>HX N m
 |5=>Iy N m
 |6=>Ji N m
 |7=>JI N m
 |8=>Ku N m
 |9=>Hv N m
 |10=>Kv N m
 |11=>JH N m
 |12=>KR N m
 |13=>HG N m
 |14=>Jj N m
 |_=>none
theorem uK(N:Nat)(m:Ao)(f:Nat):An N m (f+1) 0=(IT N m).bind fun r=>if(r.2:Int)≠0 then some (.t93 0 r.1 r.2)else An N m f 1:=by
 rw [An,if_pos (by decide),ckp (by decide),if_pos rfl]
 congr 1
theorem uJ(N:Nat)(m:Ao)(f:Nat):An N m (f+1) 1=(Hu N m).bind fun r=>if(r.2:Int)≠0 then some (.t93 1 r.1 r.2)else An N m f 2:=by
 rw [An,if_pos (by decide),ckp (by decide),if_neg (by decide),if_pos rfl]
 congr 1
theorem uI(N:Nat)(m:Ao)(f:Nat):An N m (f+1) 2=(IS N m).bind fun r=>if(r.2:Int)≠0 then some (.t93 2 r.1 r.2)else An N m f 3:=by
 rw [An,if_pos (by decide),ckp (by decide),if_neg (by decide),if_neg (by decide),if_pos rfl]
 congr 1
theorem uH(N:Nat)(m:Ao)(f:Nat):An N m (f+1) 3=(Kk N m).bind fun r=>if(r.2:Int)≠0 then some (.t93 3 r.1 r.2)else An N m f 4:=by
 rw [An,if_pos (by decide),ckp (by decide),if_neg (by decide),if_neg (by decide),if_neg (by decide),if_pos rfl]
 congr 1
theorem uG(N:Nat)(m:Ao)(f:Nat):An N m (f+1) 4=(HX N m).bind fun r=>if(r.2:Int)≠0 then some (.t93 4 r.1 r.2)else An N m f 5:=by
 rw [An,if_pos (by decide),ckp (by decide),if_neg (by decide),if_neg (by decide),if_neg (by decide),if_neg (by decide),if_pos rfl]
 congr 1
theorem uF(N:Nat)(m:Ao)(f:Nat):An N m (f+1) 5=(Iy N m).bind fun r=>if(r.2:Int)≠0 then some (.t93 5 r.1 r.2)else An N m f 6:=by
 rw [An,if_pos (by decide),ckp (by decide),if_neg (by decide),if_neg (by decide),if_neg (by decide),if_neg (by decide),if_neg (by decide),if_pos rfl]
 congr 1
theorem uE(N:Nat)(m:Ao)(f:Nat):An N m (f+1) 6=(Ji N m).bind fun r=>if(r.2:Int)≠0 then some (.t93 6 r.1 r.2)else An N m f 7:=by
 rw [An,if_pos (by decide),ckp (by decide),if_neg (by decide),if_neg (by decide),if_neg (by decide),if_neg (by decide),if_neg (by decide),if_neg (by decide),if_pos rfl]
 congr 1
theorem uD(N:Nat)(m:Ao)(f:Nat):An N m (f+1) 7=(JI N m).bind fun r=>if(r.2:Int)≠0 then some (.t93 7 r.1 r.2)else An N m f 8:=by
 rw [An,if_pos (by decide),ckp (by decide),if_neg (by decide),if_neg (by decide),if_neg (by decide),if_neg (by decide),if_neg (by decide),if_neg (by decide),if_neg (by decide),if_pos rfl]
 congr 1
theorem uC(N:Nat)(m:Ao)(f:Nat):An N m (f+1) 8=(Ku N m).bind fun r=>if(r.2:Int)≠0 then some (.t93 8 r.1 r.2)else An N m f 9:=by
 rw [An,if_pos (by decide),ckp (by decide),if_neg (by decide),if_neg (by decide),if_neg (by decide),if_neg (by decide),if_neg (by decide),if_neg (by decide),if_neg (by decide),if_neg (by decide),if_pos rfl]
 congr 1
theorem uB(N:Nat)(m:Ao)(f:Nat):An N m (f+1) 9=(Hv N m).bind fun r=>if(r.2:Int)≠0 then some (.t93 9 r.1 r.2)else An N m f 10:=by
 rw [An,if_pos (by decide),ckp (by decide),if_neg (by decide),if_neg (by decide),if_neg (by decide),if_neg (by decide),if_neg (by decide),if_neg (by decide),if_neg (by decide),if_neg (by decide),if_neg (by decide),if_pos rfl]
 congr 1
theorem sQ(N:Nat)(m:Ao)(f:Nat):An N m (f+1) 10=(Kv N m).bind fun r=>if(r.2:Int)≠0 then some (.t93 10 r.1 r.2)else An N m f 11:=by
 rw [An,if_pos (by decide),ckp (by decide),if_neg (by decide),if_neg (by decide),if_neg (by decide),if_neg (by decide),if_neg (by decide),if_neg (by decide),if_neg (by decide),if_neg (by decide),if_neg (by decide),if_neg (by decide),if_pos rfl]
 congr 1
theorem sP(N:Nat)(m:Ao)(f:Nat):An N m (f+1) 11=(JH N m).bind fun r=>if(r.2:Int)≠0 then some (.t93 11 r.1 r.2)else An N m f 12:=by
 rw [An,if_pos (by decide),ckp (by decide),if_neg (by decide),if_neg (by decide),if_neg (by decide),if_neg (by decide),if_neg (by decide),if_neg (by decide),if_neg (by decide),if_neg (by decide),if_neg (by decide),if_neg (by decide),if_neg (by decide),if_pos rfl]
 congr 1
theorem sO(N:Nat)(m:Ao)(f:Nat):An N m (f+1) 12=(KR N m).bind fun r=>if(r.2:Int)≠0 then some (.t93 12 r.1 r.2)else An N m f 13:=by
 rw [An,if_pos (by decide),ckp (by decide),if_neg (by decide),if_neg (by decide),if_neg (by decide),if_neg (by decide),if_neg (by decide),if_neg (by decide),if_neg (by decide),if_neg (by decide),if_neg (by decide),if_neg (by decide),if_neg (by decide),if_neg (by decide),if_pos rfl]
 congr 1
theorem sN(N:Nat)(m:Ao)(f:Nat):An N m (f+1) 13=(HG N m).bind fun r=>if(r.2:Int)≠0 then some (.t93 13 r.1 r.2)else An N m f 14:=by
 rw [An,if_pos (by decide),ckp (by decide),if_neg (by decide),if_neg (by decide),if_neg (by decide),if_neg (by decide),if_neg (by decide),if_neg (by decide),if_neg (by decide),if_neg (by decide),if_neg (by decide),if_neg (by decide),if_neg (by decide),if_neg (by decide),if_neg (by decide),if_pos rfl]
 congr 1
theorem sM(N:Nat)(m:Ao)(f:Nat):An N m (f+1) 14=(Jj N m).bind fun r=>if(r.2:Int)≠0 then some (.t93 14 r.1 r.2)else An N m f 15:=by
 rw [An,if_pos (by decide),ckp (by decide),if_neg (by decide),if_neg (by decide),if_neg (by decide),if_neg (by decide),if_neg (by decide),if_neg (by decide),if_neg (by decide),if_neg (by decide),if_neg (by decide),if_neg (by decide),if_neg (by decide),if_neg (by decide),if_neg (by decide),if_neg (by decide)]
 congr 1
theorem uA(N:Nat)(m:Ao)(f:Nat): ∀i:Nat,i<15→An N m (f+1) (i:Int)=(prt N m i).bind fun r=>if(r.2:Int)≠0 then some (.t93 (i:Int) r.1 r.2)else An N m f ((i+1:Nat):Int)
 |0,_=>uK N m f
 |1,_=>uJ N m f
 |2,_=>uI N m f
 |3,_=>uH N m f
 |4,_=>uG N m f
 |5,_=>uF N m f
 |6,_=>uE N m f
 |7,_=>uD N m f
 |8,_=>uC N m f
 |9,_=>uB N m f
 |10,_=>sQ N m f
 |11,_=>sP N m f
 |12,_=>sO N m f
 |13,_=>sN N m f
 |14,_=>sM N m f
 |i+15,h=>absurd h (by omega)
theorem KI{N:Nat}{m:Ao}{P G:Prop}(i:Nat)(hi:i<15)(f:Nat)(h:Ans2 (prt N m i) P)(k:P→ ∃s,An N m f ((i+1:Nat):Int)=some s∧(s= .nil→G)):
  ∃s,An N m (f+1) (i:Int)=some s∧(s= .nil→G):=by
 obtain⟨r,e,p⟩:=h
 rw [uA N m f i hi,e,q0]
 by_cases c:r.2=0
 ·rw [if_neg (fun q=>q c)];exact k (p c)
 ·rw [if_pos c];exact⟨_,rfl,fun q=>by cases q⟩
structure Rg(m:Ao):Prop where
 st: ∀s∈m.2.2.2.2.1,StR s
 ac: ∀s∈m.2.2.2.2.2.1,CoR s.2.2
 tb: ∀s∈m.2.2.2.2.2.2.1,TbR s
 ni: ∀i,i<m.2.2.2.2.2.2.2.1.length→NdR (m.2.2.2.2.2.2.2.1[i]!)
 ne: ∀i,i<m.2.2.2.2.2.2.2.2.1.length→NdR (m.2.2.2.2.2.2.2.2.1[i]!)
 dp: ∀i,i<m.2.2.2.2.2.2.2.2.2.1.length→Top (m.2.2.2.2.2.2.2.2.2.1[i]!)
 ch: ∀i,i<m.2.2.2.2.2.2.2.2.2.2.1.length→Top (m.2.2.2.2.2.2.2.2.2.2.1[i]!).1
 up: ∀i,i<m.2.2.2.2.2.2.2.2.2.2.2.1.length→Top (m.2.2.2.2.2.2.2.2.2.2.2.1[i]!).1
structure wc(N:Nat)(m:Ao):Prop where
 cx:Ctx N m
 nm:0<m.1.length∧1≤m.2.2.2.2.2.2.2.2.2.2.2.2.2.2.2.1
 st: ∀i,i<m.2.2.2.2.1.length→StOk m (m.2.2.2.2.1[i]!)
 ac: ∀i,i<m.2.2.2.2.2.1.length→rQ N m (m.2.2.2.2.2.1[i]!)
 ni: ∀i,i<m.2.2.2.2.2.2.2.1.length→ue m m.2.2.2.2.2.2.2.1.length i (m.2.2.2.2.2.2.2.1[i]!)
theorem qe{N:Nat}{m:Ao}(hN:20000000<N)(hL:Lit m)(hR:Rg m): ∃s,JU N m=some s∧(s= .nil→wc N m):=by
 have hil:=hL.il
 obtain⟨n,e⟩: ∃n,N=n+16:=⟨N - 16,by omega⟩
 rw [JU,MM,q0,congrArg (fun x=>An N m x 0) e]
 refine KI 0 (by decide) _ (imt hN hL) fun p0=>KI 1 (by decide) _ (gJ hN hL) fun p1=>KI 2 (by decide) _ (pK hN hL p1.1) fun p2=> ?_
 have hC:Ctx N m:=⟨hN,hL,p1.1,p1.2,p2⟩
 refine KI 3 (by decide) _ (pr hN hL) fun _=>KI 4 (by decide) _ (iJ hC hR.st) fun p4=>KI 5 (by decide) _ (ib hC hR.ac) fun p5=>KI 6 (by decide) _ (iA hC hR.tb) fun _=> ?_
 refine KI 7 (by decide) _ (eW hC m.2.2.2.2.2.2.2.1 (by omega) (fun i h1=>by have:=hL.ni i h1;omega) hR.ni).pure fun p7=> ?_
 refine KI 8 (by decide) _ (eW hC m.2.2.2.2.2.2.2.2.1 (by omega) (fun i h1=>by have:=hL.ne i h1;omega) hR.ne).pure fun _=> ?_
 refine KI 9 (by decide) _ (gR hC (by omega) hR.dp) fun _=>KI 10 (by decide) _ (iC hC _ (by omega) hR.ch).pure fun _=>KI 11 (by decide) _ (iC hC _ (by omega) hR.up).pure fun _=> ?_
 refine KI 12 (by decide) _ (sG hN hL) fun _=>KI 13 (by decide) _ (dY hN hL) fun _=>KI 14 (by decide) _ (jF hN hL) fun _=> ?_
 exact⟨.nil,by rw [An,if_neg (by decide)],fun _=>⟨hC,p0,p4,p5,p7⟩⟩
section
variable {N:Nat} {m:Ao}
end
end Go.Proofs.YtoolcgbcfgnipaaGreatDoor
set_option linter.unusedSimpArgs false
set_option linter.unusedVariables false
namespace Go.Proofs.YtoolcgbcfgnipaaGreatDoor
open Go Go.RowKit Go.Eng
def Tot{α:Type}(x:Option α):Prop:= ∃r,x=some r
theorem Tot.it{α:Type}(a:α):Tot (some a):=⟨a,rfl⟩
theorem Tot.bind{α β:Type}{x:Option α}{f:α→Option β}(h:Tot x)(g: ∀r,x=some r→Tot (f r)):Tot (x.bind f):=by
 obtain⟨r,e⟩:=h;rw [e,q0];exact g r e
theorem Tot.ck{α:Type}{p:Prop}[Decidable p]{x:Option α}(h:p)(t:Tot x):Tot (ck p x):=by rw [Aj _ h];exact t
theorem Tot.ite{α:Type}{p:Prop}[Decidable p]{x y:Option α}(a:p→Tot x)(b: ¬p→Tot y):Tot (if p then x else y):=by
 by_cases h:p
 ·rw [if_pos h];exact a h
 ·rw [if_neg h];exact b h
theorem T1{p:Prop}(h:p:=by repeat' first|with_reducible exact Tot.it _|with_reducible assumption|(with_reducible refine Tot.ck (by omega) ?_)|(with_reducible refine Tot.ite (fun _=> ?_) (fun _=> ?_))):p:=h
theorem Uc{α:Type}{P:Nat→Prop}(top:Nat)(loop:Nat→Int→Option α)(step: ∀f i:Nat,i<top→P i→(P (i+1)→Tot (loop f ((i:Int)+1)))→Tot (loop (f+1) (i:Int)))
  (stop: ∀f,P top→Tot (loop (f+1) (top:Int))): ∀(k f i:Nat),i+k=top→k<f→P i→Tot (loop f (i:Int)):=by
 intro k
 induction k with
 |zero=>
  intro f i hi hf hp
  obtain⟨f,rfl⟩: ∃n,f=n+1:=⟨f - 1,by omega⟩
  obtain rfl:i=top:=by omega
  exact stop f hp
 |succ k ih=>
  intro f i hi hf hp
  obtain⟨f,rfl⟩: ∃n,f=n+1:=⟨f - 1,by omega⟩
  exact step f i (by omega) hp fun h=>by
   have:=ih f (i+1) (by omega) (by omega) h
   rwa [show((i+1:Nat):Int)=(i:Int)+1 by omega] at this
theorem Pw{α:Type}(top:Nat)(loop:Nat→Int→Option α)(step: ∀f i:Nat,i<top→Tot (loop f ((i:Int)+1))→Tot (loop (f+1) (i:Int)))(stop: ∀f,Tot (loop (f+1) (top:Int))){N:Nat}(hN:top<N):Tot (loop N 0):=
 Uc (P:=fun _=>True) top loop (fun f i hi _ h=>step f i hi (h trivial)) (fun f _=>stop f) top N 0 (q6 _) hN trivial
theorem ZH{α σ:Type}{P:Nat→σ→Prop}(top:Nat)(loop:Nat→σ→Int→Option α)(step: ∀(f i:Nat) (s:σ),i<top→P i s→(∀s',P (i+1) s'→Tot (loop f s' ((i:Int)+1)))→Tot (loop (f+1) s (i:Int)))
  (stop: ∀f s,P top s→Tot (loop (f+1) s (top:Int))): ∀(k f i:Nat) (s:σ),i+k=top→k<f→P i s→Tot (loop f s (i:Int)):=by
 intro k
 induction k with
 |zero=>
  intro f i s hi hf hp
  obtain⟨f,rfl⟩: ∃n,f=n+1:=⟨f - 1,by omega⟩
  obtain rfl:i=top:=by omega
  exact stop f s hp
 |succ k ih=>
  intro f i s hi hf hp
  obtain⟨f,rfl⟩: ∃n,f=n+1:=⟨f - 1,by omega⟩
  exact step f i s (by omega) hp fun s' h=>by
   have:=ih f (i+1) s' (by omega) (by omega) h
   rwa [show((i+1:Nat):Int)=(i:Int)+1 by omega] at this
theorem Uf: ∀(l:List Ins) (i:Nat),∀p∈DY i l,(i:Int)≤p.1∧p.1<((i+l.length:Nat):Int)
 | [],_,p,h=>by cases h
 |x::r,i,p,h=>by
  rw [DY,List.mem_append] at h
  rcases h with h|h
  ·obtain⟨k,_,rfl⟩:=List.mem_map.1 h
   rw [za];exact⟨Int.le_refl _,by show(i:Int)<_;omega⟩
  ·have:=Uf r (i+1) p h
   rw [za];omega
theorem eH(l:List Ins)(k:Int)(h0:0≤k)(h1:k<((DY 0 l).length:Int)):0≤((DY 0 l)[k.toNat]!).1∧((DY 0 l)[k.toNat]!).1<(l.length:Int):=by
 have h:=Uf l 0 _ (EI (l:=DY 0 l) (i:=k.toNat) (by omega))
 omega
theorem tv(l:List Ins)(k:Int)(h0:0≤k)(h1:k<((DY 0 l).length:Int)):ofL l k=(((DY 0 l)[k.toNat]!).1,((DY 0 l)[k.toNat]!).2,true):=by
 obtain⟨n,rfl⟩:=Int.eq_ofNat_of_zero_le h0
 have hn:n<(DY 0 l).length:=by omega
 rw [ofL,if_neg (by omega),SF,dif_pos hn,q3,zg _ n hn]
theorem eV(l:List Ins)(k:Int)(h:k<0∨((DY 0 l).length:Int)≤k):ofL l k=(0,0,false):=by
 by_cases h0:k<0
 ·rw [ofL,if_pos h0]
 ·obtain⟨n,rfl⟩:=Int.eq_ofNat_of_zero_le (show 0≤k by omega)
  rw [ofL,if_neg h0,SF,dif_neg (by omega)]
section
variable {N:Nat} {m:Ao}
theorem Ry(hN:20000000<N)(hi:m.2.2.1.length≤1048576)(k:Int):Bc N m k=some (hdL m.2.1 m.2.2.1 k):=by
 have k1:DQ m k (DY 0 m.2.2.1) true=some ([],[],0,0,0,0,false):=rfl
 rw [Bc,Pa N hN _ hi,q0]
 unfold hdL
 by_cases c0:k<0
 ·rw [if_pos c0,k1,eV _ _ (.inl c0)];rfl
 rw [if_neg c0]
 by_cases c1:k≥((DY 0 m.2.2.1).length:Int)
 ·rw [zf c1,k1,eV _ _ (.inr c1)];rfl
 have hs:=eH m.2.2.1 k (by omega) (by omega)
 rw [ze c1,DQ,if_neg (by decide),Aj _ (by omega),Aj _ hs,tv _ _ (by omega) (by omega)]
 dsimp only
 have k2:DP m k (DY 0 m.2.2.1) true=some ([],[],0,0,0,0,false):=rfl
 by_cases c2:((m.2.2.1)[((DY 0 m.2.2.1)[k.toNat]!).1.toNat]!).2.1<0
 ·rw [if_pos c2,k2,if_neg (fun h=>by have:=h.2.1;omega)]
 rw [if_neg c2]
 by_cases c3:((m.2.2.1)[((DY 0 m.2.2.1)[k.toNat]!).1.toNat]!).2.1≥(m.2.1.length:Int)
 ·rw [zf c3,k2,if_neg (fun h=>by have:=h.2.2;omega)]
 rw [ze c3,DP,if_neg (by decide),Aj _ (by omega),if_pos ⟨rfl,by omega,by omega⟩]
theorem Up(hN:20000000<N)(hi:m.2.2.1.length≤1048576)(k f:Int):BW N m k f=some (if(hdL m.2.1 m.2.2.1 k).2.2.2.2.2.2=true∧0≤f∧f<((hdL m.2.1 m.2.2.1 k).2.1.length:Int)then(((hdL m.2.1 m.2.2.1 k).2.1[f.toNat]!).2,true)else(0,false)):=by
 rw [BW,Ry hN hi,q0]
 generalize hdL m.2.1 m.2.2.1 k=h
 have k1:Dw f h true=some (0,false):=rfl
 have k2:Dv f h true=some (0,false):=rfl
 by_cases c:h.2.2.2.2.2.2=true
 ·rw [if_pos c]
  by_cases d:f<0
  ·rw [zf d,k1,if_neg (by omega)]
  rw [ze d,Dw,if_neg (by decide)]
  by_cases e:f≥(h.2.1.length:Int)
  ·rw [zf e,k2,if_neg (by omega)]
  rw [ze e,Dv,if_neg (by decide),Aj _ (by omega),if_pos ⟨c,by omega,by omega⟩]
 ·rw [if_neg c,k1,if_neg (fun h=>c h.1)]
theorem eO(i:Int)(hi:i≤9223372036854775807):Tot (Ep N m i):=by
 have k2: ∀b:Bool,(b=true→0≤i - 8∧i - 8<(m.2.2.2.1.length:Int))→Tot (DR m i b):=fun b h=>by
  unfold DR
  exact Tot.ite (fun c=>by have:=h c;exact T1) (fun _=>T1)
 have k1: ∀b:Bool,(b=true→0≤i∧i<8)→Tot (DS m i b):=fun b h=>by
  unfold DS
  refine Tot.ite (fun c=>Tot.ck (by have:=h c;simp only [za,zj];omega) T1) (fun _=>Tot.ite (fun c=>Tot.ck (by omega) (k2 _ fun d=> ?_)) (fun _=>k2 _ (fun d=>by cases d)))
  have:=zd d;omega
 unfold Ep
 exact Tot.ite (fun c=>k1 _ fun d=>by have:=zd d;omega) (fun _=>k1 _ (fun d=>by cases d))
def uo(l:List Ins)(i:Int):Int×Int×Bool:=if 0≤i∧i<(l.length:Int)∧1≤(l[i.toNat]!).2.2∧(l[i.toNat]!).2.2≤4 then((total (l.take i.toNat):Int),(l[i.toNat]!).2.2,true)else(0,0,false)
theorem Un(hN:20000000<N)(hi:m.2.2.1.length≤1048576)(i:Int):CT N m i=some (uo m.2.2.1 i):=by
 have k3:CC N m i true=some (0,0,false):=rfl
 have k2:CD N m i true=some (0,0,false):=rfl
 have k1:CE N m i true=some (0,0,false):=rfl
 unfold uo
 rw [CT]
 by_cases c0:i<0
 ·rw [if_pos c0,k1,if_neg (by omega)]
 rw [if_neg c0]
 by_cases c1:i≥(m.2.2.1.length:Int)
 ·rw [zf c1,k1,if_neg (by omega)]
 rw [ze c1,CE,if_neg (by decide),Aj _ (by omega)]
 by_cases c2:((m.2.2.1)[i.toNat]!).2.2<1
 ·rw [zf c2,k2,if_neg (by omega)]
 rw [ze c2,CD,if_neg (by decide),Aj _ (by omega)]
 by_cases c3:((m.2.2.1)[i.toNat]!).2.2>4
 ·rw [zf c3,k3,if_neg (by omega)]
 rw [ze c3,CC,if_neg (by decide),Aj _ (by omega),j0,Pa N hN _ (by rw [q7];omega),q0,Aj _ (by omega),QU,if_pos ⟨by omega,by omega,by omega,by omega⟩]
theorem eM(hN:20000000<N)(hi:m.2.2.1.length≤1048576)(a b c:Int)(hb:b≤9223372036854775807):Tot (CW N m a b c):=by
 unfold CW Fh Ff Fe Fc
 rw [Up hN hi,q0]
 exact Tot.ite (fun _=>T1) (fun _=>Tot.ite (fun _=>(eO b hb).bind fun _ _=>T1) (fun _=>T1))
theorem jk(hN:20000000<N)(hi:m.2.2.1.length≤1048576)(l:List (Int×Int×Int))(hl:l.length≤1048576)(hr: ∀i,i<l.length→(l[i]!).2.1≤9223372036854775807):Tot (Gk N m l):=by
 refine ZH (P:=fun _ n=>0≤n∧n≤128) l.length (fun f n i=>AT N m l f n i) (fun f i n h hp hk=> ?_) (fun f n hp=> ?_) l.length N 0 0 (q6 _) (by omega) ⟨by omega,by omega⟩
 ·show Tot (AT N m l (f+1) n (i:Int))
  rw [AT,if_pos (by omega),Aj _ (by omega),q3]
  refine(eM hN hi _ _ _ (hr i h)).bind fun r _=> ?_
  have k5: ∀b:Bool,(b=false→1≤r.1∧r.1≤128 - n)→Tot (Er n (i:Int) (AT N m l f) r b):=fun b q=>by
   unfold Er
   exact Tot.ite (fun _=>T1) (fun c=>by have:=q (by simpa using c);exact Tot.ck (by omega) (Tot.ck (by omega) (hk _ ⟨by omega,by omega⟩)))
  have k4: ∀b:Bool,(b=false→1≤r.1)→Tot (Es n (i:Int) (AT N m l f) r b):=fun b q=>by
   unfold Es
   exact Tot.ite (fun _=>k5 _ (fun h=>by cases h)) (fun c=>Tot.ck (by omega) (k5 _ fun d=>by have:=of_decide_eq_false d;have:=q (by simpa using c);omega))
  exact Tot.ite (fun _=>k4 _ fun d=>by have:=of_decide_eq_false d;omega) (fun _=>k4 _ (fun h=>by cases h))
 ·show Tot (AT N m l (f+1) n (l.length:Int))
  rw [AT,if_neg (by omega)];exact T1
theorem jd(hN:20000000<N)(hi:m.2.2.1.length≤1048576)(l:List (Int×Int×Int))(hl:l.length≤1048576)(hr: ∀i,i<l.length→(l[i]!).2.1≤9223372036854775807)(q:Bool):Tot (EK N m l q):=by
 unfold EK
 refine Tot.ite (fun _=>T1) (fun _=>Pw l.length (AJ N m l q) (fun f i h hk=> ?_) (fun f=> ?_) (by omega))
 ·rw [AJ,if_pos (by omega),Aj _ (by omega)]
  have k6: ∀b:Bool,Tot (Ek (i:Int) (AJ N m l q f) b):=fun b=>by unfold Ek;exact T1
  have k4: ∀b:Bool,Tot (CU N m l (i:Int) (AJ N m l q f) b):=fun b=>by
   unfold CU
   rw [q3]
   refine Tot.ite (fun _=>T1) (fun _=>(eM hN hi _ _ _ (hr i h)).bind fun r _=> ?_)
   have k5: ∀b:Bool,Tot (El l (i:Int) (AJ N m l q f) r b):=fun b=>by
    unfold El
    exact Tot.ite (fun _=>T1) (fun _=>Tot.ite (fun _=>Tot.ite (fun _=>k6 _) (fun _=>k6 _)) (fun _=>T1))
   exact Tot.ite (fun _=>k5 _) (fun _=>k5 _)
  have k3: ∀b:Bool,Tot (Em N m l q (i:Int) (AJ N m l q f) b):=fun b=>by
   unfold Em
   exact Tot.ite (fun _=>Tot.ite (fun _=>k4 _) (fun _=>k4 _)) (fun _=>k4 _)
  exact Tot.ite (fun _=>k3 _) (fun _=>k3 _)
 ·rw [AJ,if_neg (by omega)]
  exact(jk hN hi l hl hr).bind fun _ _=>T1
theorem sF(hN:20000000<N)(hi:m.2.2.1.length≤1048576)(a b:Int):Tot (EL N m a b):=by
 unfold EL FK
 rw [Pa N hN _ hi,q0,Un hN hi,q0]
 refine Tot.ite (fun _=>Tot.ite (fun _=>T1) (fun c=>Tot.ite (fun _=>T1) (fun d=> ?_))) (fun _=>T1)
 have hs:=eH m.2.2.1 b (by omega) (by omega)
 exact Tot.ck (by omega) (Tot.ck hs T1)
theorem eQ(hN:20000000<N)(a:Int)(h0:0≤a)(h1:a<(m.2.2.2.2.2.1.length:Int))(l:List (Int×BitVec 128))(hl:l.length≤1048576):Tot (Eo N m a l):=by
 unfold Eo
 refine Tot.ck ⟨h0,h1⟩ (Tot.ite (fun _=>T1) (fun c=>Pw l.length (BV N m a l) (fun f i h hk=> ?_) (fun f=> ?_) (by omega)))
 ·rw [BV,if_pos (by omega),Aj _ (by omega),SB,q0]
  exact T1
 ·rw [BV,if_neg (by omega)];exact T1
theorem iV(hN:20000000<N)(l:List (List UInt8))(h0:0<l.length)(hl:l.length≤1048576)(hall: ∀j,j<l.length→(l[j]!).length≤1048576):Tot (GF N l):=by
 have e:(((l.length:Int) - 1)).toNat=l.length - 1:=by omega
 unfold GF
 rw [Aj _ (by omega),Aj _ (by omega),e,Pb N _ (hall _ (by omega)) hN,q0]
 refine Tot.ite (fun _=>Pw (l.length - 1) (Cp N l) (fun f i h hk=> ?_) (fun f=> ?_) (by omega)) (fun _=>T1)
 ·rw [Cp,Aj _ (by omega),if_pos (by omega),Aj _ (by omega),e,q3,Ra N _ _ (hall _ (by omega)) (hall _ (by omega)) hN,q0]
  exact T1
 ·rw [Cp,Aj _ (by omega),if_neg (by omega)];exact T1
end
end Go.Proofs.YtoolcgbcfgnipaaGreatDoor
