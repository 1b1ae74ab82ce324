import Derived.Test.YthmpbldidnmenaaGreatDoorIe
set_option linter.unusedSimpArgs false
set_option linter.unusedVariables false
namespace Go.Proofs.YthmpbldidnmenaaGreatDoor
open Go Go.RowKit Go.Eng
def Tot{α:Type}(x:Option α):Prop:= ∃r,x=some r
theorem Tot.it{α:Type}(a:α):Tot (some a):=⟨a,rfl⟩
theorem Tot.bind{α β:Type}{x:Option α}{f:α→Option β}(h:Tot x)(g: ∀r,x=some r→Tot (f r)):Tot (x.bind f):=by
 obtain⟨r,e⟩:=h;rw [e,q0];exact g r e
theorem Tot.ck{α:Type}{p:Prop}[Decidable p]{x:Option α}(h:p)(t:Tot x):Tot (ck p x):=by rw [Am _ h];exact t
theorem Tot.ite{α:Type}{p:Prop}[Decidable p]{x y:Option α}(a:p→Tot x)(b: ¬p→Tot y):Tot (if p then x else y):=by
 by_cases h:p
 ·rw [if_pos h];exact a h
 ·rw [if_neg h];exact b h
theorem T1{p:Prop}(h:p:=by repeat' first|with_reducible exact Tot.it _|with_reducible assumption|(with_reducible refine Tot.ck (by omega) ?_)|(with_reducible refine Tot.ite (fun _=> ?_) (fun _=> ?_))):p:=h
theorem TW{α:Type}{P:Nat→Prop}(top:Nat)(loop:Nat→Int→Option α)(step: ∀f i:Nat,i<top→P i→(P (i+1)→Tot (loop f ((i:Int)+1)))→Tot (loop (f+1) (i:Int)))
  (stop: ∀f,P top→Tot (loop (f+1) (top:Int))): ∀(k f i:Nat),i+k=top→k<f→P i→Tot (loop f (i:Int)):=by
 intro k
 induction k with
 |zero=>
  intro f i hi hf hp
  obtain⟨f,rfl⟩: ∃n,f=n+1:=⟨f - 1,by omega⟩
  obtain rfl:i=top:=by omega
  exact stop f hp
 |succ k ih=>
  intro f i hi hf hp
  obtain⟨f,rfl⟩: ∃n,f=n+1:=⟨f - 1,by omega⟩
  exact step f i (by omega) hp fun h=>by
   have:=ih f (i+1) (by omega) (by omega) h
   rwa [show((i+1:Nat):Int)=(i:Int)+1 by omega] at this
theorem OR{α:Type}(top:Nat)(loop:Nat→Int→Option α)(step: ∀f i:Nat,i<top→Tot (loop f ((i:Int)+1))→Tot (loop (f+1) (i:Int)))(stop: ∀f,Tot (loop (f+1) (top:Int))){N:Nat}(hN:top<N):Tot (loop N 0):=
 TW (P:=fun _=>True) top loop (fun f i hi _ h=>step f i hi (h trivial)) (fun f _=>stop f) top N 0 (q6 _) hN trivial
theorem ZA{α σ:Type}{P:Nat→σ→Prop}(top:Nat)(loop:Nat→σ→Int→Option α)(step: ∀(f i:Nat) (s:σ),i<top→P i s→(∀s',P (i+1) s'→Tot (loop f s' ((i:Int)+1)))→Tot (loop (f+1) s (i:Int)))
  (stop: ∀f s,P top s→Tot (loop (f+1) s (top:Int))): ∀(k f i:Nat) (s:σ),i+k=top→k<f→P i s→Tot (loop f s (i:Int)):=by
 intro k
 induction k with
 |zero=>
  intro f i s hi hf hp
  obtain⟨f,rfl⟩: ∃n,f=n+1:=⟨f - 1,by omega⟩
  obtain rfl:i=top:=by omega
  exact stop f s hp
 |succ k ih=>
  intro f i s hi hf hp
  obtain⟨f,rfl⟩: ∃n,f=n+1:=⟨f - 1,by omega⟩
  exact step f i s (by omega) hp fun s' h=>by
   have:=ih f (i+1) s' (by omega) (by omega) h
   rwa [show((i+1:Nat):Int)=(i:Int)+1 by omega] at this
theorem TX: ∀(l:List Ins) (i:Nat),∀p∈DE i l,(i:Int)≤p.1∧p.1<((i+l.length:Nat):Int)
 | [],_,p,h=>by cases h
 |x::r,i,p,h=>by
  rw [DE,List.mem_append] at h
  rcases h with h|h
  ·obtain⟨k,_,rfl⟩:=List.mem_map.1 h
   rw [za];exact⟨Int.le_refl _,by show(i:Int)<_;omega⟩
  ·have:=TX r (i+1) p h
   rw [za];omega
theorem dB(l:List Ins)(k:Int)(h0:0≤k)(h1:k<((DE 0 l).length:Int)):0≤((DE 0 l)[k.toNat]!).1∧((DE 0 l)[k.toNat]!).1<(l.length:Int):=by
 have h:=TX l 0 _ (FU (l:=DE 0 l) (i:=k.toNat) (by omega))
 omega
theorem qR(l:List Ins)(k:Int)(h0:0≤k)(h1:k<((DE 0 l).length:Int)):ofL l k=(((DE 0 l)[k.toNat]!).1,((DE 0 l)[k.toNat]!).2,true):=by
 obtain⟨n,rfl⟩:=Int.eq_ofNat_of_zero_le h0
 have hn:n<(DE 0 l).length:=by omega
 rw [ofL,if_neg (by omega),Su,dif_pos hn,q3,zg _ n hn]
theorem dQ(l:List Ins)(k:Int)(h:k<0∨((DE 0 l).length:Int)≤k):ofL l k=(0,0,false):=by
 by_cases h0:k<0
 ·rw [ofL,if_pos h0]
 ·obtain⟨n,rfl⟩:=Int.eq_ofNat_of_zero_le (show 0≤k by omega)
  rw [ofL,if_neg h0,Su,dif_neg (by omega)]
section
variable {N:Nat} {m:An}
theorem Rq(hN:20000000<N)(hi:m.2.2.1.length≤1048576)(k:Int):Bc N m k=some (hdL m.2.1 m.2.2.1 k):=by
 have k1:DU m k (DE 0 m.2.2.1) true=some ([],[],0,0,0,0,false):=rfl
 rw [Bc,LX N hN _ hi,q0]
 unfold hdL
 by_cases c0:k<0
 ·rw [if_pos c0,k1,dQ _ _ (.inl c0)];rfl
 rw [if_neg c0]
 by_cases c1:k≥((DE 0 m.2.2.1).length:Int)
 ·rw [zf c1,k1,dQ _ _ (.inr c1)];rfl
 have hs:=dB m.2.2.1 k (by omega) (by omega)
 rw [ze c1,DU,if_neg (by decide),Am _ (by omega),Am _ hs,qR _ _ (by omega) (by omega)]
 dsimp only
 have k2:DT m k (DE 0 m.2.2.1) true=some ([],[],0,0,0,0,false):=rfl
 by_cases c2:((m.2.2.1)[((DE 0 m.2.2.1)[k.toNat]!).1.toNat]!).2.1<0
 ·rw [if_pos c2,k2,if_neg (fun h=>by have:=h.2.1;omega)]
 rw [if_neg c2]
 by_cases c3:((m.2.2.1)[((DE 0 m.2.2.1)[k.toNat]!).1.toNat]!).2.1≥(m.2.1.length:Int)
 ·rw [zf c3,k2,if_neg (fun h=>by have:=h.2.2;omega)]
 rw [ze c3,DT,if_neg (by decide),Am _ (by omega),if_pos ⟨rfl,by omega,by omega⟩]
theorem Ug(hN:20000000<N)(hi:m.2.2.1.length≤1048576)(k f:Int):BY N m k f=some (if(hdL m.2.1 m.2.2.1 k).2.2.2.2.2.2=true∧0≤f∧f<((hdL m.2.1 m.2.2.1 k).2.1.length:Int)then(((hdL m.2.1 m.2.2.1 k).2.1[f.toNat]!).2,true)else(0,false)):=by
 rw [BY,Rq hN hi,q0]
 generalize hdL m.2.1 m.2.2.1 k=h
 have k1:Dy f h true=some (0,false):=rfl
 have k2:Dx f h true=some (0,false):=rfl
 by_cases c:h.2.2.2.2.2.2=true
 ·rw [if_pos c]
  by_cases d:f<0
  ·rw [zf d,k1,if_neg (by omega)]
  rw [ze d,Dy,if_neg (by decide)]
  by_cases e:f≥(h.2.1.length:Int)
  ·rw [zf e,k2,if_neg (by omega)]
  rw [ze e,Dx,if_neg (by decide),Am _ (by omega),if_pos ⟨c,by omega,by omega⟩]
 ·rw [if_neg c,k1,if_neg (fun h=>c h.1)]
theorem dJ(i:Int)(hi:i≤9223372036854775807):Tot (Ev N m i):=by
 have k2: ∀b:Bool,(b=true→0≤i - 8∧i - 8<(m.2.2.2.1.length:Int))→Tot (DV m i b):=fun b h=>by
  unfold DV
  exact Tot.ite (fun c=>by have:=h c;exact T1) (fun _=>T1)
 have k1: ∀b:Bool,(b=true→0≤i∧i<8)→Tot (DW m i b):=fun b h=>by
  unfold DW
  refine Tot.ite (fun c=>Tot.ck (by have:=h c;simp only [za,zj];omega) T1) (fun _=>Tot.ite (fun c=>Tot.ck (by omega) (k2 _ fun d=> ?_)) (fun _=>k2 _ (fun d=>by cases d)))
  have:=zd d;omega
 unfold Ev
 exact Tot.ite (fun c=>k1 _ fun d=>by have:=zd d;omega) (fun _=>k1 _ (fun d=>by cases d))
def Sc(l:List Ins)(i:Int):Int×Int×Bool:=if 0≤i∧i<(l.length:Int)∧1≤(l[i.toNat]!).2.2∧(l[i.toNat]!).2.2≤4 then((total (l.take i.toNat):Int),(l[i.toNat]!).2.2,true)else(0,0,false)
theorem QQ(hN:20000000<N)(hi:m.2.2.1.length≤1048576)(i:Int):Cc N m i=some (Sc m.2.2.1 i):=by
 have k3:CD N m i true=some (0,0,false):=rfl
 have k2:CE N m i true=some (0,0,false):=rfl
 have k1:CF N m i true=some (0,0,false):=rfl
 unfold Sc
 rw [Cc]
 by_cases c0:i<0
 ·rw [if_pos c0,k1,if_neg (by omega)]
 rw [if_neg c0]
 by_cases c1:i≥(m.2.2.1.length:Int)
 ·rw [zf c1,k1,if_neg (by omega)]
 rw [ze c1,CF,if_neg (by decide),Am _ (by omega)]
 by_cases c2:((m.2.2.1)[i.toNat]!).2.2<1
 ·rw [zf c2,k2,if_neg (by omega)]
 rw [ze c2,CE,if_neg (by decide),Am _ (by omega)]
 by_cases c3:((m.2.2.1)[i.toNat]!).2.2>4
 ·rw [zf c3,k3,if_neg (by omega)]
 rw [ze c3,CD,if_neg (by decide),Am _ (by omega),j0,LX N hN _ (by rw [q7];omega),q0,Am _ (by omega),Oc,if_pos ⟨by omega,by omega,by omega,by omega⟩]
theorem dG(hN:20000000<N)(hi:m.2.2.1.length≤1048576)(a b c:Int)(hb:b≤9223372036854775807):Tot (CY N m a b c):=by
 unfold CY Fb Fa EZ EY
 rw [Ug hN hi,q0]
 exact Tot.ite (fun _=>T1) (fun _=>Tot.ite (fun _=>(dJ b hb).bind fun _ _=>T1) (fun _=>T1))
theorem gI(hN:20000000<N)(hi:m.2.2.1.length≤1048576)(l:List (Int×Int×Int))(hl:l.length≤1048576)(hr: ∀i,i<l.length→(l[i]!).2.1≤9223372036854775807):Tot (FW N m l):=by
 refine ZA (P:=fun _ n=>0≤n∧n≤128) l.length (fun f n i=>AR N m l f n i) (fun f i n h hp hk=> ?_) (fun f n hp=> ?_) l.length N 0 0 (q6 _) (by omega) ⟨by omega,by omega⟩
 ·show Tot (AR N m l (f+1) n (i:Int))
  rw [AR,if_pos (by omega),Am _ (by omega),q3]
  refine(dG hN hi _ _ _ (hr i h)).bind fun r _=> ?_
  have k5: ∀b:Bool,(b=false→1≤r.1∧r.1≤128 - n)→Tot (Ew n (i:Int) (AR N m l f) r b):=fun b q=>by
   unfold Ew
   exact Tot.ite (fun _=>T1) (fun c=>by have:=q (by simpa using c);exact Tot.ck (by omega) (Tot.ck (by omega) (hk _ ⟨by omega,by omega⟩)))
  have k4: ∀b:Bool,(b=false→1≤r.1)→Tot (Ex n (i:Int) (AR N m l f) r b):=fun b q=>by
   unfold Ex
   exact Tot.ite (fun _=>k5 _ (fun h=>by cases h)) (fun c=>Tot.ck (by omega) (k5 _ fun d=>by have:=of_decide_eq_false d;have:=q (by simpa using c);omega))
  exact Tot.ite (fun _=>k4 _ fun d=>by have:=of_decide_eq_false d;omega) (fun _=>k4 _ (fun h=>by cases h))
 ·show Tot (AR N m l (f+1) n (l.length:Int))
  rw [AR,if_neg (by omega)];exact T1
theorem gD(hN:20000000<N)(hi:m.2.2.1.length≤1048576)(l:List (Int×Int×Int))(hl:l.length≤1048576)(hr: ∀i,i<l.length→(l[i]!).2.1≤9223372036854775807)(q:Bool):Tot (EL N m l q):=by
 unfold EL
 refine Tot.ite (fun _=>T1) (fun _=>OR l.length (AI N m l q) (fun f i h hk=> ?_) (fun f=> ?_) (by omega))
 ·rw [AI,if_pos (by omega),Am _ (by omega)]
  have k6: ∀b:Bool,Tot (Er (i:Int) (AI N m l q f) b):=fun b=>by unfold Er;exact T1
  have k4: ∀b:Bool,Tot (CW N m l (i:Int) (AI N m l q f) b):=fun b=>by
   unfold CW
   rw [q3]
   refine Tot.ite (fun _=>T1) (fun _=>(dG hN hi _ _ _ (hr i h)).bind fun r _=> ?_)
   have k5: ∀b:Bool,Tot (Es l (i:Int) (AI N m l q f) r b):=fun b=>by
    unfold Es
    exact Tot.ite (fun _=>T1) (fun _=>Tot.ite (fun _=>Tot.ite (fun _=>k6 _) (fun _=>k6 _)) (fun _=>T1))
   exact Tot.ite (fun _=>k5 _) (fun _=>k5 _)
  have k3: ∀b:Bool,Tot (Et N m l q (i:Int) (AI N m l q f) b):=fun b=>by
   unfold Et
   exact Tot.ite (fun _=>Tot.ite (fun _=>k4 _) (fun _=>k4 _)) (fun _=>k4 _)
  exact Tot.ite (fun _=>k3 _) (fun _=>k3 _)
 ·rw [AI,if_neg (by omega)]
  exact(gI hN hi l hl hr).bind fun _ _=>T1
theorem qv(hN:20000000<N)(hi:m.2.2.1.length≤1048576)(a b:Int):Tot (EM N m a b):=by
 unfold EM FD
 rw [LX N hN _ hi,q0,QQ hN hi,q0]
 refine Tot.ite (fun _=>Tot.ite (fun _=>T1) (fun c=>Tot.ite (fun _=>T1) (fun d=> ?_))) (fun _=>T1)
 have hs:=dB m.2.2.1 b (by omega) (by omega)
 exact Tot.ck (by omega) (Tot.ck hs T1)
theorem dL(hN:20000000<N)(a:Int)(h0:0≤a)(h1:a<(m.2.2.2.2.2.1.length:Int))(l:List (Int×BitVec 128))(hl:l.length≤1048576):Tot (Eu N m a l):=by
 unfold Eu
 refine Tot.ck ⟨h0,h1⟩ (Tot.ite (fun _=>T1) (fun c=>OR l.length (BX N m a l) (fun f i h hk=> ?_) (fun f=> ?_) (by omega)))
 ·rw [BX,if_pos (by omega),Am _ (by omega),So,q0]
  exact T1
 ·rw [BX,if_neg (by omega)];exact T1
theorem gq(hN:20000000<N)(l:List (List UInt8))(h0:0<l.length)(hl:l.length≤1048576)(hall: ∀j,j<l.length→(l[j]!).length≤1048576):Tot (Gp N l):=by
 have e:(((l.length:Int) - 1)).toNat=l.length - 1:=by omega
 unfold Gp
 rw [Am _ (by omega),Am _ (by omega),e,Ok N _ (hall _ (by omega)) hN,q0]
 refine Tot.ite (fun _=>OR (l.length - 1) (Cp N l) (fun f i h hk=> ?_) (fun f=> ?_) (by omega)) (fun _=>T1)
 ·rw [Cp,Am _ (by omega),if_pos (by omega),Am _ (by omega),e,q3,QR N _ _ (hall _ (by omega)) (hall _ (by omega)) hN,q0]
  exact T1
 ·rw [Cp,Am _ (by omega),if_neg (by omega)];exact T1
end
end Go.Proofs.YthmpbldidnmenaaGreatDoor
