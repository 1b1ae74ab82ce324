import Derived.Test.YtoolcgbcfgnipaaGreatDoorHp
import Derived.Test.YtoolcgbcfgnipaaGreatDoorBk
import Derived.Test.YtoolcgbcfgnipaaGreatDoorIo
namespace Go.Proofs.YtoolcgbcfgnipaaGreatDoor
open Go Go.RowKit Go.Eng
theorem fW(a b:List Ins):total (a++b)=total a+total b:=by unfold total;rw [List.map_append,List.sum_append]
theorem cY(x:Ins)(b:List Ins):total (x::b)=dep x.2.2+total b:=by simp [total]
theorem cX(l:List Ins)(j:Nat)(h:j<l.length):total (l.take (j+1))=total (l.take j)+dep (l[j]!).2.2:=by rw [QK l j h,fW,cY];rfl
theorem Ss(N:Nat)(x0:List UInt8)(x1 x2:Int):Jy N x0 x1 x2=some (dep x2:Int):=by
 unfold Jy dep JP
 rw [Ig,q0,q0]
 by_cases h:0≤x2∧x2≤4
 ·rw [zf h,if_pos rfl,if_pos h];congr 1;omega
 ·rw [ze h,if_neg (by decide),if_neg h];rfl
theorem dc(N:Nat)(l:List Ins)(hl:l.length≤1048576): ∀(k f i:Nat),i+k=l.length→k<f→JB N l f (total (l.take i):Int) (i:Int)=some (total l:Int):=by
 intro k
 induction k with
 |zero=>
  intro f i hi hf
  obtain⟨f,rfl⟩: ∃n,f=n+1:=⟨f - 1,by omega⟩
  rw [JB,if_neg (by omega),j6 (by omega)]
 |succ k ih=>
  intro f i hi hf
  obtain⟨f,rfl⟩: ∃n,f=n+1:=⟨f - 1,by omega⟩
  have e1:(i:Int)+1=((i+1:Nat):Int):=by omega
  have ht:=cX l i (by omega)
  have h4:=Ub (l.take (i+1))
  have hlt:(l.take (i+1)).length≤1048576:=by rw [q7];omega
  rw [JB,if_pos (by omega),Aj _ (by omega),Ss,q0,q3,show(total (l.take i):Int)+(dep (l[i]!).2.2:Int)=((total (l.take (i+1)):Nat):Int)from by omega,Aj _ (by omega),Aj _ (by omega),e1]
  exact ih f (i+1) (by omega) (by omega)
theorem eF(N:Nat)(hN:20000000<N)(l:List Ins)(hl:l.length≤1048576):OB N l=some (total l:Int):=dc N l hl l.length N 0 (by omega) (by omega)
theorem ad(N:Nat)(hN:20000000<N)(l:List Ins)(i:Int)(hl:l.length≤1048576):OC N l i=some (Zd l i):=by
 unfold OC Zd
 rw [Aj _ (by omega),Ig,q0]
 by_cases a:0≤i∧i≤(l.length:Int) - 1
 rotate_left
 ·rw [ze a,if_neg (by decide),if_neg (by omega)]
 rw [zf a,if_pos rfl,Aj _ (by omega),Ss,q0]
 by_cases c:dep (l[i.toNat]!).2.2=0
 ·rw [if_pos (by omega),if_neg (fun h=>h.2.2 c)]
 rw [if_neg (by omega),if_pos ⟨by omega,by omega,c⟩,OZ,Aj _ (by omega),j0,eF N hN _ (by rw [q7];omega),q0]
theorem pk(N:Nat)(l:List Ins)(hl:l.length≤1048576): ∀(k f i:Nat) (s:Int),i+k=l.length→k<f→0≤s→s≤9223372036854775807→NE N l f s (i:Int)=some (ofF i (l.drop i) s):=by
 intro k
 induction k with
 |zero=>
  intro f i s hi hf h0 h1
  obtain⟨f,rfl⟩: ∃n,f=n+1:=⟨f - 1,by omega⟩
  rw [NE,if_neg (by omega),List.drop_of_length_le (by omega)];rfl
 |succ k ih=>
  intro f i s hi hf h0 h1
  obtain⟨f,rfl⟩: ∃n,f=n+1:=⟨f - 1,by omega⟩
  have e1:(i:Int)+1=((i+1:Nat):Int):=by omega
  rw [NE,if_pos (by omega),Aj _ (by omega),Ss,q0,q3,bz l i (by omega),ofF]
  by_cases a:s<(dep (l[i]!).2.2:Int)
  ·rw [if_pos a,if_pos a]
  ·rw [if_neg a,if_neg a,Aj _ (by omega),Aj _ (by omega),e1]
   exact ih f (i+1) _ (by omega) (by omega) (by omega) (by omega)
theorem tu(N:Nat)(hN:20000000<N)(l:List Ins)(k:Int)(hl:l.length≤1048576)(h1:k≤9223372036854775807):QX N l k=some (ofL l k):=by
 unfold QX ofL
 by_cases a:k<0
 ·rw [if_pos a,if_pos a]
 rw [if_neg a,if_neg a]
 exact pk N l hl l.length N 0 k (by omega) (by omega) (by omega) h1
theorem Yb: ∀(l:List Ins) (i:Nat) (k:Int),(ofF i l k).2.2=true→(i:Int)≤(ofF i l k).1∧(ofF i l k).1<((i+l.length:Nat):Int)
 | [],_,_,h=>by cases h
 |x::r,i,k,h=>by
  rw [ofF] at h ⊢
  by_cases a:k<(dep x.2.2:Int)
  ·rw [if_pos a];rw [za];exact⟨Int.le_refl _,by show(i:Int)<_;omega⟩
  ·rw [if_neg a] at h ⊢
   have:=Yb r (i+1) _ h
   rw [za];omega
theorem fF(N:Nat)(s:List UInt8)(hs:s.length≤140737488355328):MU N s=some s:=by
 rw [MU,Qx]
 by_cases c:s.length=0
 ·rw [if_pos (by omega),List.length_eq_zero_iff.1 c];rfl
 have e:s.take (List.replicate ((s.length:Int)).toNat (0:UInt8)).length++(List.replicate ((s.length:Int)).toNat (0:UInt8)).drop s.length=s:=by
  rw [q3,zi,List.take_length,List.drop_of_length_le (by rw [zi];exact Nat.le_refl _),List.append_nil]
 rw [if_neg (by omega),Aj _ (by omega),e,Aj _ (by omega),Aj _ hs];rfl
def Cl(a:List Fd):Prop:=a.length≤5864062014805∧ ∀x∈a,x.1.length≤140737488355328
theorem dM(N:Nat)(h0:List UInt8)(h1:List Fd)(h2 h3 h4 h5:Int)(hc:Cl h1):
  ∀(k f i:Nat),i+k=h1.length→k<f→Hh N h2 h3 h4 h5 h0 h1 f (i:Int) h1=some (h0,h1,h2,h3,h4,h5):=by
 have hl:=hc.1
 intro k
 induction k with
 |zero=>
  intro f i hi hf
  obtain⟨f,rfl⟩: ∃n,f=n+1:=⟨f - 1,by omega⟩
  rw [Hh,if_neg (by omega)]
 |succ k ih=>
  intro f i hi hf
  obtain⟨f,rfl⟩: ∃n,f=n+1:=⟨f - 1,by omega⟩
  have e1:(i:Int)+1=((i+1:Nat):Int):=by omega
  have hx:=hc.2 (h1[i]!) (by rw [zg h1 i (by omega)];exact List.getElem_mem _)
  have es:h1.set i ((h1[i]!).1,(h1[i]!).2)=h1:=by
   rw [zg h1 i (by omega)]
   exact List.set_getElem_self (by omega)
  rw [Hh,if_pos (by omega),Aj _ (by omega),q3,fF N _ hx,q0,Aj _ (by omega),Aj _ (by omega),e1,es]
  exact ih f (i+1) (by omega) (by omega)
theorem pM(N:Nat)(h0:List UInt8)(h1:List Fd)(h2 h3 h4 h5:Int)(h0l:h0.length≤140737488355328)(hc:Cl h1)(hN:h1.length<N):Lc N h0 h1 h2 h3 h4 h5=some (h0,h1,h2,h3,h4,h5):=by
 have hl:=hc.1
 rw [Lc,fF N _ h0l,q0,DB,j7,Aj _ (by rw [zj];omega),q0]
 exact dM N h0 h1 h2 h3 h4 h5 hc h1.length N 0 (by omega) hN
def Cls(N:Nat)(a:List Hd):Prop:= ∀h∈a,h.1.length≤140737488355328∧Cl h.2.1∧h.2.1.length<N
theorem km(N:Nat)(hN:20000000<N)(hs:List Hd)(hC:Cls N hs)(l:List Ins)(k:Int)(hl:Ft hs.length l)(h1:k≤9223372036854775807):Na N hs l k=some (hdL hs l k):=by
 have h30:=hl.1
 unfold Na hdL
 rw [tu N hN l k hl.2.1 h1,q0]
 by_cases a:(ofL l k).2.2=true
 rotate_left
 ·rw [if_neg a,if_neg (fun h=>a h.1)]
 have hr:0≤(ofL l k).1∧(ofL l k).1<(l.length:Int):=by
  unfold ofL at a ⊢
  by_cases b:k<0
  ·rw [if_pos b] at a;cases a
  ·rw [if_neg b] at a ⊢;have:=Yb l 0 k a;omega
 rw [if_pos a,Aj _ hr,Aj _ (by omega),Ig,q0]
 by_cases b:0≤(l[(ofL l k).1.toNat]!).2.1∧(l[(ofL l k).1.toNat]!).2.1≤(hs.length:Int) - 1
 ·have hm:=hC (hs[((l[(ofL l k).1.toNat]!).2.1).toNat]!) (by rw [zg hs _ (by omega)];exact List.getElem_mem _)
  rw [zf b,if_pos rfl,if_pos ⟨a,by omega,by omega⟩,NF,Aj _ hr,Aj _ (by omega),pM N _ _ _ _ _ _ hm.1 hm.2.1 hm.2.2,q0]
 ·rw [ze b,if_neg (by decide),if_neg (fun h=>b (by omega))]
theorem vi(N:Nat)(l:List Ins)(hl:l.length≤1048576): ∀(k f i:Nat),i+k=l.length→k<f→
  FU N (l.length:Int) l f ((l.take i).map (·.1)++List.replicate (l.length - i) []) (i:Int)=some (l.map (·.1)):=by
 intro k
 induction k with
 |zero=>
  intro f i hi hf
  obtain⟨f,rfl⟩: ∃n,f=n+1:=⟨f - 1,by omega⟩
  rw [FU,if_neg (by omega),j6 (by omega),show l.length - i=0 from by omega,List.replicate_zero,List.append_nil]
 |succ k ih=>
  intro f i hi hf
  obtain⟨f,rfl⟩: ∃n,f=n+1:=⟨f - 1,by omega⟩
  have e1:(i:Int)+1=((i+1:Nat):Int):=by omega
  rw [FU,if_pos (by omega),IL,Aj _ (by omega),q0,Aj _ (by rw [Vp _ _ _ (by omega)];omega),Aj _ (by omega),e1,q3,PQ _ l i (by omega)]
  exact ih f (i+1) (by omega) (by omega)
theorem aC(N:Nat)(l:List Ins)(hl:l.length≤1048576)(hN:l.length<N):Ks N l=some (l.map (·.1)):=by
 have:=vi N l hl l.length N 0 (by omega) hN
 rw [Ks,LW,Aj _ (by omega),q3]
 have e:FU N (l.length:Int) l N (List.replicate l.length []) 0=some (l.map (·.1)):=this
 rw [e];rfl
theorem ab(N:Nat)(hN:20000000<N)(hs:List Hd)(l:List Ins)(hl:Ft hs.length l):
  ∀(k f i:Nat),i+k=l.length→k<f→JC N hs l (l.map (·.1)) f (i:Int)=some (ku l (goI hs.length (l.take i) (l.drop i))):=by
 have h40:=hl.2.1
 have h30:=hl.1
 intro k
 induction k with
 |zero=>
  intro f i hi hf
  obtain⟨f,rfl⟩: ∃n,f=n+1:=⟨f - 1,by omega⟩
  rw [JC,if_neg (by omega),List.drop_of_length_le (by omega),goI,ku,if_pos rfl,eF N hN l h40,q0]
  by_cases c:32<total l
  ·rw [if_pos c,if_pos (by omega)]
  ·rw [if_neg c,if_neg (by omega)]
 |succ k ih=>
  intro f i hi hf
  obtain⟨f,rfl⟩: ∃n,f=n+1:=⟨f - 1,by omega⟩
  have e1:(i:Int)+1=((i+1:Nat):Int):=by omega
  have en:=MV (fun x:Ins=>x.1) l i (by omega)
  rw [JC,if_pos (by omega),Aj _ (by omega),q3,Xf N hN _ i (by rw [q8];omega) (by rw [q8];omega) (fun j hj=>by
    rw [q8] at hj
    have:=hl.2.2 j hj
    rw [MV (fun x:Ins=>x.1) l j hj];omega),q0,en,XI,bz l i (by omega),goI]
  by_cases c1:JD (l[i]!).1=true
  rotate_left
  ·rw [if_neg c1,if_neg c1];rfl
  rw [if_pos c1,if_pos c1]
  by_cases c2:(l.take i).any (fun x=>Jn x.1 (l[i]!).1)=true
  ·rw [if_pos c2,if_pos c2];rfl
  rw [if_neg c2,if_neg c2,if_neg (fun h=>h rfl),Aj _ (by omega),Ig,q0]
  by_cases c3:(l[i]!).2.1<0∨(hs.length:Int)≤(l[i]!).2.1
  ·rw [ze (by omega),if_neg (by decide),if_pos c3];rfl
  rw [zf (by omega),if_pos rfl,if_neg c3,JP,Ig,q0,q0]
  by_cases c4:(l[i]!).2.2<0∨4<(l[i]!).2.2
  ·rw [ze (by omega),if_neg (by decide),if_pos c4];rfl
  rw [zf (by omega),if_pos rfl,if_neg c4,Aj _ (by omega),e1,ih f (i+1) (by omega) (by omega),QK l i (by omega)]
theorem jl(N:Nat)(hN:20000000<N)(hs:List Hd)(l:List Ins)(hl:Ft hs.length l):MT N hs l=some (Yq hs.length l):=by
 have:=ab N hN hs l hl l.length N 0 (by omega) (by have:=hl.2.1;omega)
 have h40:=hl.2.1
 unfold MT Yq
 by_cases c:16<l.length
 ·rw [if_pos c,if_pos (by omega)]
 ·rw [if_neg c,if_neg (by omega),aC N l (by omega) (by omega),q0]
  exact this
end Go.Proofs.YtoolcgbcfgnipaaGreatDoor
namespace Go.Proofs.YtoolcgbcfgnipaaGreatDoor
open Go Go.RowKit Go.Eng
def Ri(w:Int)(x:BitVec 128):Bool:=decide (1≤w)&&(decide (w≤128)&&decide (((len128 x:Nat):Int)≤w))
theorem SB(N:Nat)(w:Int)(x:BitVec 128):Ck N w x=some (Ri w x):=by
 unfold Ck Ri
 rw [fo]
 by_cases h1:w≥1
 ·rw [if_pos h1,zf (show 1≤w from h1),Bool.true_and]
  by_cases h2:w≤128
  ·rw [if_pos h2,zf h2,Bool.true_and]
  ·rw [if_neg h2,ze h2,Bool.false_and]
 ·rw [if_neg h1,ze (show¬1≤w from h1),Bool.false_and]
theorem ij(N:Nat)(w:Int):Jt N w=some (decide (1≤w∧w≤128)):=by
 unfold Jt
 by_cases h1:w≥1
 ·rw [if_pos h1];congr 1;exact decide_eq_decide.2 ⟨fun h=>⟨h1,h⟩,fun h=>h.2⟩
 ·rw [if_neg h1];congr 1;exact(ze (fun h=>h1 h.1)).symm
theorem io(N:Nat)(w:Int)(x:BitVec 128):MQ N w x=some (Ri w x):=by
 unfold MQ Ju Ri
 rw [ij,q0]
 by_cases h1:1≤w
 ·rw [zf h1,Bool.true_and]
  by_cases h2:w≤128
  ·rw [zf (show 1≤w∧w≤128 from⟨h1,h2⟩),if_pos rfl,q0,zf h2,Bool.true_and]
  ·rw [ze (fun h:1≤w∧w≤128=>h2 h.2),if_neg (by decide),ze h2,Bool.false_and]
 ·rw [ze (fun h:1≤w∧w≤128=>h1 h.1),if_neg (by decide),ze h1,Bool.false_and]
def XH(n:Nat)(x:BitVec 128):List Bool:=(List.range n).map fun j=>x.getLsbD j
theorem QD(n:Nat)(x:BitVec 128):(XH n x).length=n:=by simp [XH]
theorem cU(w:Int)(x:BitVec 128)(hw:0≤w)(hw2:w≤128): ∀(k f i:Nat),i+k=w.toNat→k<f→BP w x f (XH i x) (i:Int)=some (XH w.toNat x):=by
 intro k
 induction k with
 |zero=>
  intro f i hi hf
  obtain⟨f,rfl⟩: ∃k,f=k+1:=⟨f - 1,by omega⟩
  rw [BP,if_neg (by omega),show i=w.toNat from by omega];rfl
 |succ k ih=>
  intro f i hi hf
  obtain⟨f,rfl⟩: ∃k,f=k+1:=⟨f - 1,by omega⟩
  rw [BP,if_pos (by omega),GK,zf (by omega),if_pos rfl]
  rw [fo,Aj _ (by omega),Aj _ (by rw [QD];simp;omega),Aj _ (by omega),q3]
  have:=ih f (i+1) (by omega) (by omega)
  rw [←this]
  congr 1
  simp [XH,List.range_succ]
theorem eA(N:Nat)(w:Int)(x:BitVec 128)(hN:128<N)(hw:0≤w)(hw2:w≤128):EG N w x=some (XH w.toNat x):=by
 have:=cU w x hw hw2 w.toNat N 0 (by omega) (by omega)
 exact this
def ofG(l:List Bool):Nat→BitVec 128
 |0=>0#128
 |i+1=>ZO (ofG l i) i (l[i]!)
def uj(l:List Bool):BitVec 128:=ofG l l.length
theorem im(l:List Bool)(hl:l.length≤128): ∀(k f i:Nat),i+k=l.length→k<f→Cj l f (i:Int) (ofG l i)=some ((l.length:Int),uj l):=by
 intro k
 induction k with
 |zero=>
  intro f i hi hf
  obtain⟨f,rfl⟩: ∃k,f=k+1:=⟨f - 1,by omega⟩
  rw [Cj,if_neg (by omega)]
  have hi':i=l.length:=by omega
  subst hi'
  rfl
 |succ k ih=>
  intro f i hi hf
  obtain⟨f,rfl⟩: ∃k,f=k+1:=⟨f - 1,by omega⟩
  rw [Cj,if_pos (by omega),Hp,zf (by omega),if_pos rfl]
  rw [Aj _ (by omega),Aj _ (by omega),Aj _ (by omega),q3]
  have:=ih f (i+1) (by omega) (by omega)
  rw [←this];rfl
theorem ik(N:Nat)(hN:128<N)(l:List Bool)(hl:l.length≤128):GT N l=some ((l.length:Int),uj l):=im l hl l.length N 0 (by omega) (by omega)
end Go.Proofs.YtoolcgbcfgnipaaGreatDoor
namespace Go.Proofs.YtoolcgbcfgnipaaGreatDoor
open Go Go.RowKit Go.Eng
abbrev R9:=List UInt8×Int×Int×Int×Int×Int×Int×Int×List UInt8
abbrev I9:=Int×Int×Int×Int×BitVec 128
def tab9:List R9:=match Je 0 with|some l=>l|none=> []
theorem XO(N:Nat):Je N=some tab9:=rfl
theorem Ud:tab9.length=35:=rfl
def HW(o:Int):R9:=tab9[o.toNat]!
def Pi(o a b w:Int)(x:BitVec 128):Int:=
 if 0≤o∧o≤34 then
  if a<(HW o).2.2.2.2.1∨(HW o).2.2.2.2.2.1<a∨b<(HW o).2.2.2.2.2.2.1∨(HW o).2.2.2.2.2.2.2.1<b∨(o=10∧a<b)then 7
  else if o=0 then(if Ri w x=true then 0 else 1)else if w=0∧x=0#128 then 0 else 1
 else 10
theorem jD: ∀k:Nat,k<35→((tab9[k]!).1=[112,117,115,104]↔k=0)∧((tab9[k]!).1=[115,108,105,99,101]↔k=10):=by decide+kernel
theorem iZ{o:Int}(h0:0≤o)(h1:o≤34):(HW o).1=[112,117,115,104]↔o=0:=by
 have:=(jD o.toNat (by omega)).1
 unfold HW;rw [this];omega
theorem gi{o:Int}(h0:0≤o)(h1:o≤34):(HW o).1=[115,108,105,99,101]↔o=10:=by
 have:=(jD o.toNat (by omega)).2
 unfold HW;rw [this];omega
theorem zz9:((0#64)++(0#64):BitVec 128)=0#128:=by decide
theorem gm(N:Nat)(o a b w:Int)(x:BitVec 128):Rz N o a b w x=some (Pi o a b w x):=by
 have k2:0≤o→o≤34→Nf N o w x tab9 false=some (if o=0 then(if Ri w x=true then 0 else 1)else if w=0∧x=0#128 then 0 else 1):=fun h0 h1=>by
  rw [Nf,if_neg (by decide),zz9]
  have e:=iZ h0 h1
  unfold HW at e
  by_cases c:o=0
  ·rw [if_pos (e.2 c),if_pos c,SB,q0]
   by_cases d:Ri w x=true
   ·rw [if_pos d,if_pos d]
   ·rw [if_neg d,if_neg d]
  ·rw [if_neg (fun h=>c (e.1 h)),if_neg c]
   by_cases d:w=0∧x=0#128
   ·rw [if_pos (by rw [d.1,d.2];decide),if_pos d]
   ·rw [if_neg (fun h=>d (by simpa using h)),if_neg d]
 unfold Rz Pi
 by_cases h0:o<0
 ·rw [if_pos h0,if_neg (by omega)];rfl
 rw [if_neg h0]
 by_cases h1:o>34
 ·rw [zf h1,if_neg (by omega)];rfl
 have e:=gi (o:=o) (by omega) (by omega)
 have k2':=k2 (by omega) (by omega)
 rw [ze h1,if_pos ⟨by omega,by omega⟩,PX,if_neg (by decide),XO,q0,Aj _ (by rw [Ud];omega)]
 unfold HW at e ⊢
 by_cases a1:a<(tab9[o.toNat]!).2.2.2.2.1
 ·rw [if_pos a1,if_pos (.inl a1)];rfl
 rw [if_neg a1]
 by_cases a2:a>(tab9[o.toNat]!).2.2.2.2.2.1
 ·rw [zf a2,if_pos (.inr (.inl a2))];rfl
 rw [ze a2,PW,if_neg (by decide)]
 by_cases a3:b<(tab9[o.toNat]!).2.2.2.2.2.2.1
 ·rw [zf a3,if_pos (.inr (.inr (.inl a3)))];rfl
 rw [ze a3,PV,if_neg (by decide)]
 by_cases a4:b>(tab9[o.toNat]!).2.2.2.2.2.2.2.1
 ·rw [zf a4,if_pos (.inr (.inr (.inr (.inl a4))))];rfl
 rw [ze a4,PU,if_neg (by decide)]
 have hn: ¬(o=10∧a<b)→ ¬(a<(tab9[o.toNat]!).2.2.2.2.1∨(tab9[o.toNat]!).2.2.2.2.2.1<a∨b<(tab9[o.toNat]!).2.2.2.2.2.2.1∨(tab9[o.toNat]!).2.2.2.2.2.2.2.1<b∨(o=10∧a<b)):=fun q h=>by
  rcases h with h|h|h|h|h
  ·exact a1 h
  ·exact a2 h
  ·exact a3 h
  ·exact a4 h
  ·exact q h
 by_cases c:o=10
 ·rw [if_pos (e.2 c)]
  by_cases d:a<b
  ·rw [zf d,if_pos (.inr (.inr (.inr (.inr ⟨c,d⟩))))];rfl
  ·rw [ze d,k2',if_neg (hn (fun h=>d h.2))]
 ·rw [if_neg (fun h=>c (e.1 h)),k2',if_neg (hn (fun h=>c h.1))]
def Rs(o a b w:Int)(x:BitVec 128):Aa0:=
 if o=0 then .t228 w x
 else if o=1∨o=22 then .t150 o a b
 else if o=2∨o=3∨o=5∨o=23∨o=24∨o=29∨o=30 then .t229 o a
 else if o=4∨o=25∨o=26 then .t152 o a
 else if o=6∨o=7∨o=8∨o=9∨o=11 then .t230 o a
 else if o=10 then .t232 a b
 else if o=27∨o=28 then .t155 o a b
 else if o=31∨o=32 then .t107 o a
 else if o=33 then .t109 a b
 else if o=34 then .t111
 else .t234 o
theorem Yf{o a b w:Int}{x:BitVec 128}(h:Pi o a b w x=0):0≤o∧o≤34:=by
 unfold Pi at h
 by_cases c:0≤o∧o≤34
 ·exact c
 ·rw [if_neg c] at h;omega
theorem px{o a b w:Int}{x:BitVec 128}(h:Pi o a b w x=0):(HW o).2.2.2.2.1≤a∧a≤(HW o).2.2.2.2.2.1∧(HW o).2.2.2.2.2.2.1≤b∧b≤(HW o).2.2.2.2.2.2.2.1∧(o≠0→w=0∧x=0#128)∧(o=0→Ri w x=true)∧(o=10→b≤a):=by
 have c:=Yf h
 unfold Pi at h
 rw [if_pos c] at h
 by_cases d:a<(HW o).2.2.2.2.1∨(HW o).2.2.2.2.2.1<a∨b<(HW o).2.2.2.2.2.2.1∨(HW o).2.2.2.2.2.2.2.1<b∨(o=10∧a<b)
 ·rw [if_pos d] at h;omega
 rw [if_neg d] at h
 have d1: ¬a<(HW o).2.2.2.2.1:=fun q=>d (.inl q)
 have d2: ¬(HW o).2.2.2.2.2.1<a:=fun q=>d (.inr (.inl q))
 have d3: ¬b<(HW o).2.2.2.2.2.2.1:=fun q=>d (.inr (.inr (.inl q)))
 have d4: ¬(HW o).2.2.2.2.2.2.2.1<b:=fun q=>d (.inr (.inr (.inr (.inl q))))
 refine⟨by omega,by omega,by omega,by omega,fun q=> ?_,fun q=> ?_,fun q=> ?_⟩
 ·rw [if_neg q] at h
  by_cases e:w=0∧x=0#128
  ·exact e
  ·rw [if_neg e] at h;omega
 ·rw [if_pos q] at h
  by_cases e:Ri w x=true
  ·exact e
  ·rw [if_neg e] at h;omega
 ·exact Int.not_lt.1 fun q2=>d (.inr (.inr (.inr (.inr ⟨q,q2⟩))))
def ND:Aa0→Int×Bool
 | .t107 _ t=>(t,true)
 | .t109 _ t=>(t,true)
 |_=>(0,false)
end Go.Proofs.YtoolcgbcfgnipaaGreatDoor
namespace Go.Proofs.YtoolcgbcfgnipaaGreatDoor
open Go Go.RowKit Go.Eng
def NJ(x:I9):Int:=Pi x.1 x.2.1 x.2.2.1 x.2.2.2.1 x.2.2.2.2
def EW(x:I9):Aa0:=Rs x.1 x.2.1 x.2.2.1 x.2.2.2.1 x.2.2.2.2
def WO:Nat→List I9→Int×Int→Int×Int
 |_,[],d=>d
 |i,x::r,d=>if NJ x≠0 then((i:Int),NJ x)else WO (i+1) r d
def Ta(l:List I9):Int×Int:=WO 0 (l.take 64) (((min l.length 64:Nat):Int),if l.length>64 then 2 else 0)
def Tc(l:List I9):List Aa0×Int×Int:=(if(Ta l).2=0 then l.map EW else [],(Ta l).1,(Ta l).2)
end Go.Proofs.YtoolcgbcfgnipaaGreatDoor
