import Derived.Test.YtjnanfkpdhmnpaaGreatDoorHp
import Derived.Test.YtjnanfkpdhmnpaaGreatDoorLz
import Derived.Test.YtjnanfkpdhmnpaaGreatDoorIo
namespace Go.Proofs.YtjnanfkpdhmnpaaGreatDoor
open Go Go.RowKit Go.Eng
theorem jy(a b:Y0 Ins):total (a++b)=total a+total b:=by unfold total;rw [List.map_append,List.sum_append]
theorem fm(x:Ins)(b:Y0 Ins):total (x::b)=dep x.2.2+total b:=by simp [total]
theorem fl(l:Y0 Ins)(j:Nat)(h:j<l.length):total (l.take (j+1))=total (l.take j)+dep (l[j]!).2.2:=by rw [Sc l j h,jy,fm];rfl
theorem TP(N:Nat)(x0:W2)(x1 x2:Int):Ks N x0 x1 x2=some (dep x2:Int):=by
 unfold Ks dep KL
 rw [Jb,q0,q0]
 by_cases h:0<=x2/\x2<=4
 ·rw [zl h,V8 Z,V8 h];congr 1;omega
 ·rw [zk h,V9 (by decide),V9 h];rfl
theorem fu(N:Nat)(l:Y0 Ins)(hl:l.length<=1048576): ∀(k f i:Nat),i+k=l.length->k<f->Kv N l f (total (l.take i):Int) (i:Int)=some (total l:Int):=by
 intro k
 induction k with
 |zero=>
  intro f i hi hf
  obtain⟨f,rfl⟩: ∃n,f=n+1:=⟨f - 1,by omega⟩
  rw [Kv,V9 (by omega),y4 (by omega)]
 |succ k ih=>
  intro f i hi hf
  obtain⟨f,rfl⟩: ∃n,f=n+1:=⟨f - 1,by omega⟩
  have e1:(i:Int)+1=((i+1:Nat):Int):=by omega
  have ht:=fl l i (by omega)
  have h4:=VC (l.take (i+1))
  have hlt:(l.take (i+1)).length<=1048576:=by rw [q8];omega
  rw [Kv,V8 (by omega),Af _ (by omega),TP,q0,q4,show(total (l.take i):Int)+(dep (l[i]!).2.2:Int)=((total (l.take (i+1)):Nat):Int)from by omega,Af _ (by omega),Af _ (by omega),e1]
  exact ih f (i+1) (by omega) (by omega)
theorem gP(N:Nat)(hN:20000000<N)(l:Y0 Ins)(hl:l.length<=1048576):PB N l=some (total l:Int):=fu N l hl l.length N 0 (by omega) (by omega)
theorem cr(N:Nat)(hN:20000000<N)(l:Y0 Ins)(i:Int)(hl:l.length<=1048576):PC N l i=some (bf l i):=by
 unfold PC bf
 rw [Af _ (by omega),Jb,q0]
 by_cases a:0<=i/\i<=(l.length:Int) - 1
 rotate_left
 ·rw [zk a,V9 (by decide),V9 (by omega)]
 rw [zl a,V8 Z,Af _ (by omega),TP,q0]
 by_cases c:dep (l[i.toNat]!).2.2=0
 ·rw [V8 (by omega),V9 (λh=>h.2.2 c)]
 rw [V9 (by omega),V8 ⟨by omega,by omega,c⟩,Qi,Af _ (by omega),j8,gP N hN _ (by rw [q8];omega),q0]
theorem sn(N:Nat)(l:Y0 Ins)(hl:l.length<=1048576): ∀(k f i:Nat) (s:Int),i+k=l.length->k<f->0<=s->s<=9223372036854775807->OE N l f s (i:Int)=some (ofF i (l.drop i) s):=by
 intro k
 induction k with
 |zero=>
  intro f i s hi hf h0 h1
  obtain⟨f,rfl⟩: ∃n,f=n+1:=⟨f - 1,by omega⟩
  rw [OE,V9 (by omega),List.drop_of_length_le (by omega)];rfl
 |succ k ih=>
  intro f i s hi hf h0 h1
  obtain⟨f,rfl⟩: ∃n,f=n+1:=⟨f - 1,by omega⟩
  have e1:(i:Int)+1=((i+1:Nat):Int):=by omega
  rw [OE,V8 (by omega),Af _ (by omega),TP,q0,q4,dH l i (by omega),ofF]
  by_cases a:s<(dep (l[i]!).2.2:Int)
  ·rw [V8 a,V8 a]
  ·rw [V9 a,V9 a,Af _ (by omega),Af _ (by omega),e1]
   exact ih f (i+1) _ (by omega) (by omega) (by omega) (by omega)
theorem wu(N:Nat)(hN:20000000<N)(l:Y0 Ins)(k:Int)(hl:l.length<=1048576)(h1:k<=9223372036854775807):Su N l k=some (ofL l k):=by
 unfold Su ofL
 by_cases a:k<0
 ·rw [V8 a,V8 a]
 rw [V9 a,V9 a]
 exact sn N l hl l.length N 0 k (by omega) (by omega) (by omega) h1
theorem am: ∀(l:Y0 Ins) (i:Nat) (k:Int),(ofF i l k).2.2=true->(i:Int)<=(ofF i l k).1/\(ofF i l k).1<((i+l.length:Nat):Int)
 | [],_,_,h=>by cases h
 |x::r,i,k,h=>by
  rw [ofF] at h ⊢
  by_cases a:k<(dep x.2.2:Int)
  ·rw [V8 a];rw [zg];exact⟨Int.le_refl _,by show(i:Int)<_;omega⟩
  ·rw [V9 a] at h ⊢
   have:=am r (i+1) _ h
   rw [zg];omega
theorem jb(N:Nat)(s:W2)(hs:s.length<=140737488355328):NR N s=some s:=by
 rw [NR,RO]
 by_cases c:s.length=0
 ·rw [V8 (by omega),List.length_eq_zero_iff.1 c];rfl
 have e:s.take (List.replicate ((s.length:Int)).toNat (0:UInt8)).length++(List.replicate ((s.length:Int)).toNat (0:UInt8)).drop s.length=s:=by
  rw [q4,zo,List.take_length,List.drop_of_length_le (by rw [zo];exact Nat.le_refl _),List.append_nil]
 rw [V9 (by omega),Af _ (by omega),e,Af _ (by omega),Af _ hs];rfl
def Cl(a:Y0 Fd):Prop:=a.length<=5864062014805/\ ∀x∈a,x.1.length<=140737488355328
theorem fZ(N:Nat)(h0:W2)(h1:Y0 Fd)(h2 h3 h4 h5:Int)(hc:Cl h1):
  ∀(k f i:Nat),i+k=h1.length->k<f->HX N h2 h3 h4 h5 h0 h1 f (i:Int) h1=some (h0,h1,h2,h3,h4,h5):=by
 have hl:=hc.1
 intro k
 induction k with
 |zero=>
  intro f i hi hf
  obtain⟨f,rfl⟩: ∃n,f=n+1:=⟨f - 1,by omega⟩
  rw [HX,V9 (by omega)]
 |succ k ih=>
  intro f i hi hf
  obtain⟨f,rfl⟩: ∃n,f=n+1:=⟨f - 1,by omega⟩
  have e1:(i:Int)+1=((i+1:Nat):Int):=by omega
  have hx:=hc.2 (h1[i]!) (by rw [zm h1 i (by omega)];exact List.getElem_mem _)
  have es:h1.set i ((h1[i]!).1,(h1[i]!).2)=h1:=by
   rw [zm h1 i (by omega)]
   exact List.set_getElem_self (by omega)
  rw [HX,V8 (by omega),Af _ (by omega),q4,jb N _ hx,q0,Af _ (by omega),Af _ (by omega),e1,es]
  exact ih f (i+1) (by omega) (by omega)
theorem sX(N:Nat)(h0:W2)(h1:Y0 Fd)(h2 h3 h4 h5:Int)(h0l:h0.length<=140737488355328)(hc:Cl h1)(hN:h1.length<N):Mh N h0 h1 h2 h3 h4 h5=some (h0,h1,h2,h3,h4,h5):=by
 have hl:=hc.1
 rw [Mh,jb N _ h0l,q0,Eg,y5,Af _ (by rw [zp];omega),q0]
 exact fZ N h0 h1 h2 h3 h4 h5 hc h1.length N 0 (by omega) hN
def Cls(N:Nat)(a:Y0 Hd):Prop:= ∀h∈a,h.1.length<=140737488355328/\Cl h.2.1/\h.2.1.length<N
theorem na(N:Nat)(hN:20000000<N)(hs:Y0 Hd)(hC:Cls N hs)(l:Y0 Ins)(k:Int)(hl:Ft hs.length l)(h1:k<=9223372036854775807):NY N hs l k=some (hdL hs l k):=by
 have h30:=hl.1
 unfold NY hdL
 rw [wu N hN l k hl.2.1 h1,q0]
 by_cases a:(ofL l k).2.2=true
 rotate_left
 ·rw [V9 a,V9 (λh=>a h.1)]
 have hr:0<=(ofL l k).1/\(ofL l k).1<(l.length:Int):=by
  unfold ofL at a ⊢
  by_cases b:k<0
  ·rw [V8 b] at a;cases a
  ·rw [V9 b] at a ⊢;have:=am l 0 k a;omega
 rw [V8 a,Af _ hr,Af _ (by omega),Jb,q0]
 by_cases b:0<=(l[(ofL l k).1.toNat]!).2.1/\(l[(ofL l k).1.toNat]!).2.1<=(hs.length:Int) - 1
 ·have hm:=hC (hs[((l[(ofL l k).1.toNat]!).2.1).toNat]!) (by rw [zm hs _ (by omega)];exact List.getElem_mem _)
  rw [zl b,V8 Z,V8 ⟨a,by omega,by omega⟩,OG,Af _ hr,Af _ (by omega),sX N _ _ _ _ _ _ hm.1 hm.2.1 hm.2.2,q0]
 ·rw [zk b,V9 (by decide),V9 (λh=>b (by omega))]
theorem yn(N:Nat)(l:Y0 Ins)(hl:l.length<=1048576): ∀(k f i:Nat),i+k=l.length->k<f->
  GG N (l.length:Int) l f ((l.take i).map (·.1)++List.replicate (l.length - i) []) (i:Int)=some (l.map (·.1)):=by
 intro k
 induction k with
 |zero=>
  intro f i hi hf
  obtain⟨f,rfl⟩: ∃n,f=n+1:=⟨f - 1,by omega⟩
  rw [GG,V9 (by omega),y4 (by omega),show l.length - i=0 from by omega,List.replicate_zero,List.append_nil]
 |succ k ih=>
  intro f i hi hf
  obtain⟨f,rfl⟩: ∃n,f=n+1:=⟨f - 1,by omega⟩
  have e1:(i:Int)+1=((i+1:Nat):Int):=by omega
  rw [GG,V8 (by omega),JD,Af _ (by omega),q0,Af _ (by rw [WR _ _ _ (by omega)];omega),Af _ (by omega),e1,q4,Re _ l i (by omega)]
  exact ih f (i+1) (by omega) (by omega)
theorem cU(N:Nat)(l:Y0 Ins)(hl:l.length<=1048576)(hN:l.length<N):Lm N l=some (l.map (·.1)):=by
 have:=yn N l hl l.length N 0 (by omega) hN
 rw [Lm,MR,Af _ (by omega),q4]
 have e:GG N (l.length:Int) l N (List.replicate l.length []) 0=some (l.map (·.1)):=this
 rw [e];rfl
theorem cp(N:Nat)(hN:20000000<N)(hs:Y0 Hd)(l:Y0 Ins)(hl:Ft hs.length l):
  ∀(k f i:Nat),i+k=l.length->k<f->Kw N hs l (l.map (·.1)) f (i:Int)=some (nk l (goI hs.length (l.take i) (l.drop i))):=by
 have h40:=hl.2.1
 have h30:=hl.1
 intro k
 induction k with
 |zero=>
  intro f i hi hf
  obtain⟨f,rfl⟩: ∃n,f=n+1:=⟨f - 1,by omega⟩
  rw [Kw,V9 (by omega),List.drop_of_length_le (by omega),goI,nk,V8 Z,gP N hN l h40,q0]
  by_cases c:32<total l
  ·rw [V8 c,V8 (by omega)]
  ·rw [V9 c,V9 (by omega)]
 |succ k ih=>
  intro f i hi hf
  obtain⟨f,rfl⟩: ∃n,f=n+1:=⟨f - 1,by omega⟩
  have e1:(i:Int)+1=((i+1:Nat):Int):=by omega
  have en:=NT (λx:Ins=>x.1) l i (by omega)
  rw [Kw,V8 (by omega),Af _ (by omega),q4,Zd N hN _ i (by rw [q9];omega) (by rw [q9];omega) (λj hj=>by
    rw [q9] at hj
    have:=hl.2.2 j hj
    rw [NT (λx:Ins=>x.1) l j hj];omega),q0,en,ZE,dH l i (by omega),goI]
  by_cases c1:Kx (l[i]!).1=true
  rotate_left
  ·rw [V9 c1,V9 c1];rfl
  rw [V8 c1,V8 c1]
  by_cases c2:(l.take i).any (λx=>Kh x.1 (l[i]!).1)=true
  ·rw [V8 c2,V8 c2];rfl
  rw [V9 c2,V9 c2,V9 (λh=>h Z),Af _ (by omega),Jb,q0]
  by_cases c3:(l[i]!).2.1<0\/(hs.length:Int)<=(l[i]!).2.1
  ·rw [zk (by omega),V9 (by decide),V8 c3];rfl
  rw [zl (by omega),V8 Z,V9 c3,KL,Jb,q0,q0]
  by_cases c4:(l[i]!).2.2<0\/4<(l[i]!).2.2
  ·rw [zk (by omega),V9 (by decide),V8 c4];rfl
  rw [zl (by omega),V8 Z,V9 c4,Af _ (by omega),e1,ih f (i+1) (by omega) (by omega),Sc l i (by omega)]
theorem lP(N:Nat)(hN:20000000<N)(hs:Y0 Hd)(l:Y0 Ins)(hl:Ft hs.length l):NQ N hs l=some (aL hs.length l):=by
 have:=cp N hN hs l hl l.length N 0 (by omega) (by have:=hl.2.1;omega)
 have h40:=hl.2.1
 unfold NQ aL
 by_cases c:16<l.length
 ·rw [V8 c,V8 (by omega)]
 ·rw [V9 c,V9 (by omega),cU N l (by omega) (by omega),q0]
  exact this
end Go.Proofs.YtjnanfkpdhmnpaaGreatDoor
namespace Go.Proofs.YtjnanfkpdhmnpaaGreatDoor
open Go Go.RowKit Go.Eng
def SE(w:Int)(x:W3):Y3:=decide (1<=w)&&(decide (w<=128)&&decide (((len128 x:Nat):Int)<=w))
theorem TX(N:Nat)(w:Int)(x:W3):CO N w x=some (SE w x):=by
 unfold CO SE
 rw [iJ]
 by_cases h1:w>=1
 ·rw [V8 h1,zl (show 1<=w from h1),Bool.true_and]
  by_cases h2:w<=128
  ·rw [V8 h2,zl h2,Bool.true_and]
  ·rw [V9 h2,zk h2,Bool.false_and]
 ·rw [V9 h1,zk (show¬1<=w from h1),Bool.false_and]
theorem kV(N:Nat)(w:Int):Ko N w=some (decide (1<=w/\w<=128)):=by
 unfold Ko
 by_cases h1:w>=1
 ·rw [V8 h1];congr 1;exact decide_eq_decide.2 ⟨λh=>⟨h1,h⟩,λh=>h.2⟩
 ·rw [V9 h1];congr 1;exact(zk (λh=>h1 h.1)).symm
theorem kY(N:Nat)(w:Int)(x:W3):NO N w x=some (SE w x):=by
 unfold NO Kp SE
 rw [kV,q0]
 by_cases h1:1<=w
 ·rw [zl h1,Bool.true_and]
  by_cases h2:w<=128
  ·rw [zl (show 1<=w/\w<=128 from⟨h1,h2⟩),V8 Z,q0,zl h2,Bool.true_and]
  ·rw [zk (λh:1<=w/\w<=128=>h2 h.2),V9 (by decide),zk h2,Bool.false_and]
 ·rw [zk (λh:1<=w/\w<=128=>h1 h.1),V9 (by decide),zk h1,Bool.false_and]
def ZD(n:Nat)(x:W3):Y0 Y3:=(List.range n).map λj=>x.getLsbD j
theorem RT(n:Nat)(x:W3):(ZD n x).length=n:=by simp [ZD]
theorem fh(w:Int)(x:W3)(hw:0<=w)(hw2:w<=128): ∀(k f i:Nat),i+k=w.toNat->k<f->Cn w x f (ZD i x) (i:Int)=some (ZD w.toNat x):=by
 intro k
 induction k with
 |zero=>
  intro f i hi hf
  obtain⟨f,rfl⟩: ∃k,f=k+1:=⟨f - 1,by omega⟩
  rw [Cn,V9 (by omega),show i=w.toNat from by omega];rfl
 |succ k ih=>
  intro f i hi hf
  obtain⟨f,rfl⟩: ∃k,f=k+1:=⟨f - 1,by omega⟩
  rw [Cn,V8 (by omega),HA,zl (by omega),V8 Z]
  rw [iJ,Af _ (by omega),Af _ (by rw [RT];simp;omega),Af _ (by omega),q4]
  have:=ih f (i+1) (by omega) (by omega)
  rw [<-this]
  congr 1
  simp [ZD,List.range_succ]
theorem gJ(N:Nat)(w:Int)(x:W3)(hN:128<N)(hw:0<=w)(hw2:w<=128):Fr N w x=some (ZD w.toNat x):=by
 have:=fh w x hw hw2 w.toNat N 0 (by omega) (by omega)
 exact this
def ofG(l:Y0 Y3):Nat->W3
 |0=>0#128
 |i+1=>bU (ofG l i) i (l[i]!)
def xp(l:Y0 Y3):W3:=ofG l l.length
theorem kX(l:Y0 Y3)(hl:l.length<=128): ∀(k f i:Nat),i+k=l.length->k<f->CN l f (i:Int) (ofG l i)=some ((l.length:Int),xp l):=by
 intro k
 induction k with
 |zero=>
  intro f i hi hf
  obtain⟨f,rfl⟩: ∃k,f=k+1:=⟨f - 1,by omega⟩
  rw [CN,V9 (by omega)]
  have hi':i=l.length:=by omega
  subst hi'
  rfl
 |succ k ih=>
  intro f i hi hf
  obtain⟨f,rfl⟩: ∃k,f=k+1:=⟨f - 1,by omega⟩
  rw [CN,V8 (by omega),Ig,zl (by omega),V8 Z]
  rw [Af _ (by omega),Af _ (by omega),Af _ (by omega),q4]
  have:=ih f (i+1) (by omega) (by omega)
  rw [<-this];rfl
theorem kW(N:Nat)(hN:128<N)(l:Y0 Y3)(hl:l.length<=128):HH N l=some ((l.length:Int),xp l):=kX l hl l.length N 0 (by omega) (by omega)
end Go.Proofs.YtjnanfkpdhmnpaaGreatDoor
namespace Go.Proofs.YtjnanfkpdhmnpaaGreatDoor
open Go Go.RowKit Go.Eng
abbrev R9:=W0
abbrev I9:=W1
def tab9:Y0 R9:=match JW 0 with|some l=>l|none=> []
theorem ZL(N:Nat):JW N=some tab9:=Z
theorem VE:tab9.length=35:=Z
def IS(o:Int):R9:=tab9[o.toNat]!
def Qt(o a b w:Int)(x:W3):Int:=
 if 0<=o/\o<=34 then
  if a<(IS o).2.2.2.2.1\/(IS o).2.2.2.2.2.1<a\/b<(IS o).2.2.2.2.2.2.1\/(IS o).2.2.2.2.2.2.2.1<b\/(o=10/\a<b)then 7
  else if o=0 then(if SE w x=true then 0 else 1)else if w=0/\x=0#128 then 0 else 1
 else 10
theorem ms: ∀k:Nat,k<35->((tab9[k]!).1=[112,117,115,104]↔k=0)/\((tab9[k]!).1=[115,108,105,99,101]↔k=10):=by decide+kernel
theorem lE{o:Int}(h0:0<=o)(h1:o<=34):(IS o).1=[112,117,115,104]↔o=0:=by
 have:=(ms o.toNat (by omega)).1
 unfold IS;rw [this];omega
theorem jI{o:Int}(h0:0<=o)(h1:o<=34):(IS o).1=[115,108,105,99,101]↔o=10:=by
 have:=(ms o.toNat (by omega)).2
 unfold IS;rw [this];omega
theorem zz9:((0#64)++(0#64):W3)=0#128:=by decide
theorem jN(N:Nat)(o a b w:Int)(x:W3):SX N o a b w x=some (Qt o a b w x):=by
 have k2:0<=o->o<=34->Oc N o w x tab9 false=some (if o=0 then(if SE w x=true then 0 else 1)else if w=0/\x=0#128 then 0 else 1):=λh0 h1=>by
  rw [Oc,V9 (by decide),zz9]
  have e:=lE h0 h1
  unfold IS at e
  by_cases c:o=0
  ·rw [V8 (e.2 c),V8 c,TX,q0]
   by_cases d:SE w x=true
   ·rw [V8 d,V8 d]
   ·rw [V9 d,V9 d]
  ·rw [V9 (λh=>c (e.1 h)),V9 c]
   by_cases d:w=0/\x=0#128
   ·rw [V8 (by rw [d.1,d.2];decide),V8 d]
   ·rw [V9 (λh=>d (by simpa using h)),V9 d]
 unfold SX Qt
 by_cases h0:o<0
 ·rw [V8 h0,V9 (by omega)];rfl
 rw [V9 h0]
 by_cases h1:o>34
 ·rw [zl h1,V9 (by omega)];rfl
 have e:=jI (o:=o) (by omega) (by omega)
 have k2':=k2 (by omega) (by omega)
 rw [zk h1,V8 ⟨by omega,by omega⟩,Rm,V9 (by decide),ZL,q0,Af _ (by rw [VE];omega)]
 unfold IS at e ⊢
 by_cases a1:a<(tab9[o.toNat]!).2.2.2.2.1
 ·rw [V8 a1,V8 (.inl a1)];rfl
 rw [V9 a1]
 by_cases a2:a>(tab9[o.toNat]!).2.2.2.2.2.1
 ·rw [zl a2,V8 (.inr (.inl a2))];rfl
 rw [zk a2,Rl,V9 (by decide)]
 by_cases a3:b<(tab9[o.toNat]!).2.2.2.2.2.2.1
 ·rw [zl a3,V8 (.inr (.inr (.inl a3)))];rfl
 rw [zk a3,Rk,V9 (by decide)]
 by_cases a4:b>(tab9[o.toNat]!).2.2.2.2.2.2.2.1
 ·rw [zl a4,V8 (.inr (.inr (.inr (.inl a4))))];rfl
 rw [zk a4,Rj,V9 (by decide)]
 have hn: ¬(o=10/\a<b)-> ¬(a<(tab9[o.toNat]!).2.2.2.2.1\/(tab9[o.toNat]!).2.2.2.2.2.1<a\/b<(tab9[o.toNat]!).2.2.2.2.2.2.1\/(tab9[o.toNat]!).2.2.2.2.2.2.2.1<b\/(o=10/\a<b)):=λq h=>by
  rcases h with h|h|h|h|h
  ·exact a1 h
  ·exact a2 h
  ·exact a3 h
  ·exact a4 h
  ·exact q h
 by_cases c:o=10
 ·rw [V8 (e.2 c)]
  by_cases d:a<b
  ·rw [zl d,V8 (.inr (.inr (.inr (.inr ⟨c,d⟩))))];rfl
  ·rw [zk d,k2',V9 (hn (λh=>d h.2))]
 ·rw [V9 (λh=>c (e.1 h)),k2',V9 (hn (λh=>c h.1))]
def SQ(o a b w:Int)(x:W3):Aa1:=
 if o=0 then .t374 w x
 else if o=1\/o=22 then .t351 o a b
 else if o=2\/o=3\/o=5\/o=23\/o=24\/o=29\/o=30 then .t375 o a
 else if o=4\/o=25\/o=26 then .t353 o a
 else if o=6\/o=7\/o=8\/o=9\/o=11 then .t376 o a
 else if o=10 then .t378 a b
 else if o=27\/o=28 then .t356 o a b
 else if o=31\/o=32 then .t322 o a
 else if o=33 then .t324 a b
 else if o=34 then .t326
 else .t380 o
theorem ar{o a b w:Int}{x:W3}(h:Qt o a b w x=0):0<=o/\o<=34:=by
 unfold Qt at h
 by_cases c:0<=o/\o<=34
 ·exact c
 ·rw [V9 c] at h;omega
theorem sA{o a b w:Int}{x:W3}(h:Qt o a b w x=0):(IS o).2.2.2.2.1<=a/\a<=(IS o).2.2.2.2.2.1/\(IS o).2.2.2.2.2.2.1<=b/\b<=(IS o).2.2.2.2.2.2.2.1/\(o≠0->w=0/\x=0#128)/\(o=0->SE w x=true)/\(o=10->b<=a):=by
 have c:=ar h
 unfold Qt at h
 rw [V8 c] at h
 by_cases d:a<(IS o).2.2.2.2.1\/(IS o).2.2.2.2.2.1<a\/b<(IS o).2.2.2.2.2.2.1\/(IS o).2.2.2.2.2.2.2.1<b\/(o=10/\a<b)
 ·rw [V8 d] at h;omega
 rw [V9 d] at h
 have d1: ¬a<(IS o).2.2.2.2.1:=λq=>d (.inl q)
 have d2: ¬(IS o).2.2.2.2.2.1<a:=λq=>d (.inr (.inl q))
 have d3: ¬b<(IS o).2.2.2.2.2.2.1:=λq=>d (.inr (.inr (.inl q)))
 have d4: ¬(IS o).2.2.2.2.2.2.2.1<b:=λq=>d (.inr (.inr (.inr (.inl q))))
 refine⟨by omega,by omega,by omega,by omega,λq=> ?_,λq=> ?_,λq=> ?_⟩
 ·rw [V9 q] at h
  by_cases e:w=0/\x=0#128
  ·exact e
  ·rw [V9 e] at h;omega
 ·rw [V8 q] at h
  by_cases e:SE w x=true
  ·exact e
  ·rw [V9 e] at h;omega
 ·exact Int.not_lt.1 λq2=>d (.inr (.inr (.inr (.inr ⟨q,q2⟩))))
def OD:Aa1->Int×Y3
 | .t322 _ t=>(t,true)
 | .t324 _ t=>(t,true)
 |_=>(0,false)
end Go.Proofs.YtjnanfkpdhmnpaaGreatDoor
namespace Go.Proofs.YtjnanfkpdhmnpaaGreatDoor
open Go Go.RowKit Go.Eng
def OL(x:I9):Int:=Qt x.1 x.2.1 x.2.2.1 x.2.2.2.1 x.2.2.2.2
def FM(x:I9):Aa1:=SQ x.1 x.2.1 x.2.2.1 x.2.2.2.1 x.2.2.2.2
def YN:Nat->Y0 I9->Int×Int->Int×Int
 |_,[],d=>d
 |i,x::r,d=>if OL x≠0 then((i:Int),OL x)else YN (i+1) r d
def Uw(l:Y0 I9):Int×Int:=YN 0 (l.take 64) (((min l.length 64:Nat):Int),if l.length>64 then 2 else 0)
def Uy(l:Y0 I9):Y0 Aa1×Int×Int:=(if(Uw l).2=0 then l.map FM else [],(Uw l).1,(Uw l).2)
end Go.Proofs.YtjnanfkpdhmnpaaGreatDoor
