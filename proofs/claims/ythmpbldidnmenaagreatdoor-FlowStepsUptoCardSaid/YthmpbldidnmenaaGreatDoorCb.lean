import Derived.Test.YthmpbldidnmenaaGreatDoorHc
import Derived.Test.YthmpbldidnmenaaGreatDoorBl
import Derived.Test.YthmpbldidnmenaaGreatDoorIo
namespace Go.Proofs.YthmpbldidnmenaaGreatDoor
open Go Go.RowKit Go.Eng
def Ft(n:Nat)(l:List Ins):Prop:=n≤1048576∧l.length≤1048576∧ ∀j,j<l.length→(l[j]!).1.length≤1048576
def cR(l:List Ins)(i:Int):Int×Bool:=if 0≤i∧i<(l.length:Int)∧dep (l[i.toNat]!).2.2≠0 then((total (l.take i.toNat):Int),true)else(0,false)
abbrev HdB:=(List UInt8)×(List (List UInt8×Int))×Int×Int×Int×Int×Bool
def hdL(a:List Hd)(l:List Ins)(k:Int):HdB:=
 if(ofL l k).2.2=true∧0≤(l[(ofL l k).1.toNat]!).2.1∧(l[(ofL l k).1.toNat]!).2.1<(a.length:Int)then
  let h:=a[((l[(ofL l k).1.toNat]!).2.1).toNat]!
  (h.1,h.2.1,h.2.2.1,h.2.2.2.1,h.2.2.2.2.1,h.2.2.2.2.2,true)
 else([],[],0,0,0,0,false)
end Go.Proofs.YthmpbldidnmenaaGreatDoor
namespace Go.Proofs.YthmpbldidnmenaaGreatDoor
open Go Go.RowKit Go.Eng
theorem fx{α:Type}[Inhabited α](g:α→List UInt8)(l:List α)(i:Nat)(h:i<l.length):(l.map g)[i]! =g (l[i]!):=by
 rw [zg _ i (by rw [q8];exact h),List.getElem_map,zg l i h]
theorem Xe(N:Nat)(n a b:Int):FB N n a b=some (decide (a≤n∧n≤b)):=by
 unfold FB
 by_cases h:a≤n
 ·rw [if_pos h]
  by_cases h1:n≤b
  ·rw [zf h1,zf ⟨h,h1⟩]
  ·rw [ze h1,ze (fun h2=>h1 h2.2)]
 ·rw [if_neg h,ze (fun h2=>h h2.1)]
end Go.Proofs.YthmpbldidnmenaaGreatDoor
namespace Go.Proofs.YthmpbldidnmenaaGreatDoor
open Go Go.RowKit Go.Eng
theorem eS(a b:List Ins):total (a++b)=total a+total b:=by unfold total;rw [List.map_append,List.sum_append]
theorem cd(x:Ins)(b:List Ins):total (x::b)=dep x.2.2+total b:=by simp [total]
theorem cc(l:List Ins)(j:Nat)(h:j<l.length):total (l.take (j+1))=total (l.take j)+dep (l[j]!).2.2:=by rw [Xg l j h,eS,cd];rfl
theorem Xi(N:Nat)(x0:List UInt8)(x1 x2:Int):Il N x0 x1 x2=some (dep x2:Int):=by
 unfold Il dep Jx
 rw [Xe,q0,q0]
 by_cases h:0≤x2∧x2≤4
 ·rw [zf h,if_pos rfl,if_pos h];congr 1;omega
 ·rw [ze h,if_neg (by decide),if_neg h];rfl
theorem cg(N:Nat)(l:List Ins)(hl:l.length≤1048576): ∀(k f i:Nat),i+k=l.length→k<f→Iq N l f (total (l.take i):Int) (i:Int)=some (total l:Int):=by
 intro k
 induction k with
 |zero=>
  intro f i hi hf
  obtain⟨f,rfl⟩: ∃n,f=n+1:=⟨f - 1,by omega⟩
  rw [Iq,if_neg (by omega),j6 (by omega)]
 |succ k ih=>
  intro f i hi hf
  obtain⟨f,rfl⟩: ∃n,f=n+1:=⟨f - 1,by omega⟩
  have e1:(i:Int)+1=((i+1:Nat):Int):=by omega
  have ht:=cc l i (by omega)
  have h4:=Ri (l.take (i+1))
  have hlt:(l.take (i+1)).length≤1048576:=by rw [q7];omega
  rw [Iq,if_pos (by omega),Am _ (by omega),Xi,q0,q3,show(total (l.take i):Int)+(dep (l[i]!).2.2:Int)=((total (l.take (i+1)):Nat):Int)from by omega,Am _ (by omega),Am _ (by omega),e1]
  exact ih f (i+1) (by omega) (by omega)
theorem dz(N:Nat)(hN:20000000<N)(l:List Ins)(hl:l.length≤1048576):LL N l=some (total l:Int):=cg N l hl l.length N 0 (by omega) (by omega)
theorem gK(N:Nat)(hN:20000000<N)(l:List Ins)(i:Int)(hl:l.length≤1048576):NH N l i=some (cR l i):=by
 unfold NH cR
 rw [Am _ (by omega),Xe,q0]
 by_cases a:0≤i∧i≤(l.length:Int) - 1
 rotate_left
 ·rw [ze a,if_neg (by decide),if_neg (by omega)]
 rw [zf a,if_pos rfl,Am _ (by omega),Xi,q0]
 by_cases c:dep (l[i.toNat]!).2.2=0
 ·rw [if_pos (by omega),if_neg (fun h=>h.2.2 c)]
 rw [if_neg (by omega),if_pos ⟨by omega,by omega,c⟩,Oi,Am _ (by omega),j0,dz N hN _ (by rw [q7];omega),q0]
end Go.Proofs.YthmpbldidnmenaaGreatDoor
namespace Go.Proofs.YthmpbldidnmenaaGreatDoor
open Go Go.RowKit Go.Eng
def QV(w:Int)(x:BitVec 128):Bool:=decide (1≤w)&&(decide (w≤128)&&decide (((len128 x:Nat):Int)≤w))
theorem So(N:Nat)(w:Int)(x:BitVec 128):Co N w x=some (QV w x):=by
 unfold Co QV
 rw [eg]
 by_cases h1:w≥1
 ·rw [if_pos h1,zf (show 1≤w from h1),Bool.true_and]
  by_cases h2:w≤128
  ·rw [if_pos h2,zf h2,Bool.true_and]
  ·rw [if_neg h2,ze h2,Bool.false_and]
 ·rw [if_neg h1,ze (show¬1≤w from h1),Bool.false_and]
theorem fW(N:Nat)(w:Int):Ii N w=some (decide (1≤w∧w≤128)):=by
 unfold Ii
 by_cases h1:w≥1
 ·rw [if_pos h1];congr 1;exact decide_eq_decide.2 ⟨fun h=>⟨h1,h⟩,fun h=>h.2⟩
 ·rw [if_neg h1];congr 1;exact(ze (fun h=>h1 h.1)).symm
theorem qp(N:Nat)(w:Int)(x:BitVec 128):LJ N w x=some (QV w x):=by
 unfold LJ Kl QV
 rw [fW,q0]
 by_cases h1:1≤w
 ·rw [zf h1,Bool.true_and]
  by_cases h2:w≤128
  ·rw [zf (show 1≤w∧w≤128 from⟨h1,h2⟩),if_pos rfl,q0,zf h2,Bool.true_and]
  ·rw [ze (fun h:1≤w∧w≤128=>h2 h.2),if_neg (by decide),ze h2,Bool.false_and]
 ·rw [ze (fun h:1≤w∧w≤128=>h1 h.1),if_neg (by decide),ze h1,Bool.false_and]
def XX(n:Nat)(x:BitVec 128):List Bool:=(List.range n).map fun j=>x.getLsbD j
theorem Qt(n:Nat)(x:BitVec 128):(XX n x).length=n:=by simp [XX]
theorem cb(w:Int)(x:BitVec 128)(hw:0≤w)(hw2:w≤128): ∀(k f i:Nat),i+k=w.toNat→k<f→BQ w x f (XX i x) (i:Int)=some (XX w.toNat x):=by
 intro k
 induction k with
 |zero=>
  intro f i hi hf
  obtain⟨f,rfl⟩: ∃k,f=k+1:=⟨f - 1,by omega⟩
  rw [BQ,if_neg (by omega),show i=w.toNat from by omega];rfl
 |succ k ih=>
  intro f i hi hf
  obtain⟨f,rfl⟩: ∃k,f=k+1:=⟨f - 1,by omega⟩
  rw [BQ,if_pos (by omega),Gv,zf (by omega),if_pos rfl]
  rw [eg,Am _ (by omega),Am _ (by rw [Qt];simp;omega),Am _ (by omega),q3]
  have:=ih f (i+1) (by omega) (by omega)
  rw [←this]
  congr 1
  simp [XX,List.range_succ]
theorem du(N:Nat)(w:Int)(x:BitVec 128)(hN:128<N)(hw:0≤w)(hw2:w≤128):EJ N w x=some (XX w.toNat x):=by
 have:=cb w x hw hw2 w.toNat N 0 (by omega) (by omega)
 exact this
def ofG(l:List Bool):Nat→BitVec 128
 |0=>0#128
 |i+1=>ZF (ofG l i) i (l[i]!)
def rK(l:List Bool):BitVec 128:=ofG l l.length
theorem fY(l:List Bool)(hl:l.length≤128): ∀(k f i:Nat),i+k=l.length→k<f→Cn l f (i:Int) (ofG l i)=some ((l.length:Int),rK l):=by
 intro k
 induction k with
 |zero=>
  intro f i hi hf
  obtain⟨f,rfl⟩: ∃k,f=k+1:=⟨f - 1,by omega⟩
  rw [Cn,if_neg (by omega)]
  have hi':i=l.length:=by omega
  subst hi'
  rfl
 |succ k ih=>
  intro f i hi hf
  obtain⟨f,rfl⟩: ∃k,f=k+1:=⟨f - 1,by omega⟩
  rw [Cn,if_pos (by omega),GV,zf (by omega),if_pos rfl]
  rw [Am _ (by omega),Am _ (by omega),Am _ (by omega),q3]
  have:=ih f (i+1) (by omega) (by omega)
  rw [←this];rfl
theorem fX(N:Nat)(hN:128<N)(l:List Bool)(hl:l.length≤128):GF N l=some ((l.length:Int),rK l):=fY l hl l.length N 0 (by omega) (by omega)
end Go.Proofs.YthmpbldidnmenaaGreatDoor
namespace Go.Proofs.YthmpbldidnmenaaGreatDoor
open Go Go.RowKit Go.Eng
abbrev R9:=List UInt8×Int×Int×Int×Int×Int×Int×Int×List UInt8
abbrev I9:=Int×Int×Int×Int×BitVec 128
def tab9:List R9:=match Hk 0 with|some l=>l|none=> []
theorem TE(N:Nat):Hk N=some tab9:=rfl
theorem Rj:tab9.length=35:=rfl
def Hs(o:Int):R9:=tab9[o.toNat]!
def OX(o a b w:Int)(x:BitVec 128):Int:=
 if 0≤o∧o≤34 then
  if a<(Hs o).2.2.2.2.1∨(Hs o).2.2.2.2.2.1<a∨b<(Hs o).2.2.2.2.2.2.1∨(Hs o).2.2.2.2.2.2.2.1<b∨(o=10∧a<b)then 7
  else if o=0 then(if QV w x=true then 0 else 1)else if w=0∧x=0#128 then 0 else 1
 else 10
theorem hZ: ∀k:Nat,k<35→((tab9[k]!).1=[112,117,115,104]↔k=0)∧((tab9[k]!).1=[115,108,105,99,101]↔k=10):=by decide+kernel
theorem gv{o:Int}(h0:0≤o)(h1:o≤34):(Hs o).1=[112,117,115,104]↔o=0:=by
 have:=(hZ o.toNat (by omega)).1
 unfold Hs;rw [this];omega
theorem fc{o:Int}(h0:0≤o)(h1:o≤34):(Hs o).1=[115,108,105,99,101]↔o=10:=by
 have:=(hZ o.toNat (by omega)).2
 unfold Hs;rw [this];omega
theorem zz9:((0#64)++(0#64):BitVec 128)=0#128:=by decide
theorem Xq(N:Nat)(o a b w:Int)(x:BitVec 128):Qk N o a b w x=some (OX o a b w x):=by
 have k2:0≤o→o≤34→LW N o w x tab9 false=some (if o=0 then(if QV w x=true then 0 else 1)else if w=0∧x=0#128 then 0 else 1):=fun h0 h1=>by
  rw [LW,if_neg (by decide),zz9]
  have e:=gv h0 h1
  unfold Hs at e
  by_cases c:o=0
  ·rw [if_pos (e.2 c),if_pos c,So,q0]
   by_cases d:QV w x=true
   ·rw [if_pos d,if_pos d]
   ·rw [if_neg d,if_neg d]
  ·rw [if_neg (fun h=>c (e.1 h)),if_neg c]
   by_cases d:w=0∧x=0#128
   ·rw [if_pos (by rw [d.1,d.2];decide),if_pos d]
   ·rw [if_neg (fun h=>d (by simpa using h)),if_neg d]
 unfold Qk OX
 by_cases h0:o<0
 ·rw [if_pos h0,if_neg (by omega)];rfl
 rw [if_neg h0]
 by_cases h1:o>34
 ·rw [zf h1,if_neg (by omega)];rfl
 have e:=fc (o:=o) (by omega) (by omega)
 have k2':=k2 (by omega) (by omega)
 rw [ze h1,if_pos ⟨by omega,by omega⟩,Pu,if_neg (by decide),TE,q0,Am _ (by rw [Rj];omega)]
 unfold Hs at e ⊢
 by_cases a1:a<(tab9[o.toNat]!).2.2.2.2.1
 ·rw [if_pos a1,if_pos (.inl a1)];rfl
 rw [if_neg a1]
 by_cases a2:a>(tab9[o.toNat]!).2.2.2.2.2.1
 ·rw [zf a2,if_pos (.inr (.inl a2))];rfl
 rw [ze a2,Pt,if_neg (by decide)]
 by_cases a3:b<(tab9[o.toNat]!).2.2.2.2.2.2.1
 ·rw [zf a3,if_pos (.inr (.inr (.inl a3)))];rfl
 rw [ze a3,Ps,if_neg (by decide)]
 by_cases a4:b>(tab9[o.toNat]!).2.2.2.2.2.2.2.1
 ·rw [zf a4,if_pos (.inr (.inr (.inr (.inl a4))))];rfl
 rw [ze a4,Pr,if_neg (by decide)]
 have hn: ¬(o=10∧a<b)→ ¬(a<(tab9[o.toNat]!).2.2.2.2.1∨(tab9[o.toNat]!).2.2.2.2.2.1<a∨b<(tab9[o.toNat]!).2.2.2.2.2.2.1∨(tab9[o.toNat]!).2.2.2.2.2.2.2.1<b∨(o=10∧a<b)):=fun q h=>by
  rcases h with h|h|h|h|h
  ·exact a1 h
  ·exact a2 h
  ·exact a3 h
  ·exact a4 h
  ·exact q h
 by_cases c:o=10
 ·rw [if_pos (e.2 c)]
  by_cases d:a<b
  ·rw [zf d,if_pos (.inr (.inr (.inr (.inr ⟨c,d⟩))))];rfl
  ·rw [ze d,k2',if_neg (hn (fun h=>d h.2))]
 ·rw [if_neg (fun h=>c (e.1 h)),k2',if_neg (hn (fun h=>c h.1))]
def KH(o a b w:Int)(x:BitVec 128):Aa0:=
 if o=0 then .t167 w x
 else if o=1∨o=22 then .t114 o a b
 else if o=2∨o=3∨o=5∨o=23∨o=24∨o=29∨o=30 then .t168 o a
 else if o=4∨o=25∨o=26 then .t116 o a
 else if o=6∨o=7∨o=8∨o=9∨o=11 then .t169 o a
 else if o=10 then .t171 a b
 else if o=27∨o=28 then .t119 o a b
 else if o=31∨o=32 then .t157 o a
 else if o=33 then .t122 a b
 else if o=34 then .t159
 else .t173 o
theorem Ys{o a b w:Int}{x:BitVec 128}(h:OX o a b w x=0):0≤o∧o≤34:=by
 unfold OX at h
 by_cases c:0≤o∧o≤34
 ·exact c
 ·rw [if_neg c] at h;omega
theorem nN{o a b w:Int}{x:BitVec 128}(h:OX o a b w x=0):(Hs o).2.2.2.2.1≤a∧a≤(Hs o).2.2.2.2.2.1∧(Hs o).2.2.2.2.2.2.1≤b∧b≤(Hs o).2.2.2.2.2.2.2.1∧(o≠0→w=0∧x=0#128)∧(o=0→QV w x=true)∧(o=10→b≤a):=by
 have c:=Ys h
 unfold OX at h
 rw [if_pos c] at h
 by_cases d:a<(Hs o).2.2.2.2.1∨(Hs o).2.2.2.2.2.1<a∨b<(Hs o).2.2.2.2.2.2.1∨(Hs o).2.2.2.2.2.2.2.1<b∨(o=10∧a<b)
 ·rw [if_pos d] at h;omega
 rw [if_neg d] at h
 have d1: ¬a<(Hs o).2.2.2.2.1:=fun q=>d (.inl q)
 have d2: ¬(Hs o).2.2.2.2.2.1<a:=fun q=>d (.inr (.inl q))
 have d3: ¬b<(Hs o).2.2.2.2.2.2.1:=fun q=>d (.inr (.inr (.inl q)))
 have d4: ¬(Hs o).2.2.2.2.2.2.2.1<b:=fun q=>d (.inr (.inr (.inr (.inl q))))
 refine⟨by omega,by omega,by omega,by omega,fun q=> ?_,fun q=> ?_,fun q=> ?_⟩
 ·rw [if_neg q] at h
  by_cases e:w=0∧x=0#128
  ·exact e
  ·rw [if_neg e] at h;omega
 ·rw [if_pos q] at h
  by_cases e:QV w x=true
  ·exact e
  ·rw [if_neg e] at h;omega
 ·exact Int.not_lt.1 fun q2=>d (.inr (.inr (.inr (.inr ⟨q,q2⟩))))
end Go.Proofs.YthmpbldidnmenaaGreatDoor
namespace Go.Proofs.YthmpbldidnmenaaGreatDoor
open Go Go.RowKit Go.Eng
def ig(x:I9):Int:=OX x.1 x.2.1 x.2.2.1 x.2.2.2.1 x.2.2.2.2
end Go.Proofs.YthmpbldidnmenaaGreatDoor
