import Derived.Test.YtjlomkippigejaaGreatDoorHp
import Derived.Test.YtjlomkippigejaaGreatDoorBl
import Derived.Test.YtjlomkippigejaaGreatDoorIo
namespace Go.Proofs.YtjlomkippigejaaGreatDoor
open Go Go.RowKit Go.Eng
theorem iA(a b:List Ins):total (a++b)=total a+total b:=by unfold total;rw [List.map_append,List.sum_append]
theorem eK(x:Ins)(b:List Ins):total (x::b)=dep x.2.2+total b:=by simp [total]
theorem eJ(l:List Ins)(j:Nat)(h:j<l.length):total (l.take (j+1))=total (l.take j)+dep (l[j]!).2.2:=by rw [RC l j h,iA,eK];rfl
theorem To(N:Nat)(x0:W2)(x1 x2:Int):JY N x0 x1 x2=some (dep x2:Int):=by
 unfold JY dep Kq
 rw [IK,q0,q0]
 by_cases h:0<=x2/\x2<=4
 ·rw [zf h,if_pos Z,if_pos h];congr 1;omega
 ·rw [ze h,if_neg (by decide),if_neg h];rfl
theorem eO(N:Nat)(l:List Ins)(hl:l.length<=1048576): ∀(k f i:Nat),i+k=l.length->k<f->Kb N l f (total (l.take i):Int) (i:Int)=some (total l:Int):=by
 intro k
 induction k with
 |zero=>
  intro f i hi hf
  obtain⟨f,rfl⟩: ∃n,f=n+1:=⟨f - 1,by omega⟩
  rw [Kb,if_neg (by omega),j6 (by omega)]
 |succ k ih=>
  intro f i hi hf
  obtain⟨f,rfl⟩: ∃n,f=n+1:=⟨f - 1,by omega⟩
  have e1:(i:Int)+1=((i+1:Nat):Int):=by omega
  have ht:=eJ l i (by omega)
  have h4:=Sq (l.take (i+1))
  have hlt:(l.take (i+1)).length<=1048576:=by rw [q7];omega
  rw [Kb,if_pos (by omega),Af _ (by omega),To,q0,q3,show(total (l.take i):Int)+(dep (l[i]!).2.2:Int)=((total (l.take (i+1)):Nat):Int)from by omega,Af _ (by omega),Af _ (by omega),e1]
  exact ih f (i+1) (by omega) (by omega)
theorem gc(N:Nat)(hN:20000000<N)(l:List Ins)(hl:l.length<=1048576):Pg N l=some (total l:Int):=eO N l hl l.length N 0 (by omega) (by omega)
theorem Vy(N:Nat)(hN:20000000<N)(l:List Ins)(i:Int)(hl:l.length<=1048576):Ph N l i=some (Wy l i):=by
 unfold Ph Wy
 rw [Af _ (by omega),IK,q0]
 by_cases a:0<=i/\i<=(l.length:Int) - 1
 rotate_left
 ·rw [ze a,if_neg (by decide),if_neg (by omega)]
 rw [zf a,if_pos Z,Af _ (by omega),To,q0]
 by_cases c:dep (l[i.toNat]!).2.2=0
 ·rw [if_pos (by omega),if_neg (λh=>h.2.2 c)]
 rw [if_neg (by omega),if_pos ⟨by omega,by omega,c⟩,PI,Af _ (by omega),j0,gc N hN _ (by rw [q7];omega),q0]
theorem qT(N:Nat)(l:List Ins)(hl:l.length<=1048576): ∀(k f i:Nat) (s:Int),i+k=l.length->k<f->0<=s->s<=9223372036854775807->Oh N l f s (i:Int)=some (ofF i (l.drop i) s):=by
 intro k
 induction k with
 |zero=>
  intro f i s hi hf h0 h1
  obtain⟨f,rfl⟩: ∃n,f=n+1:=⟨f - 1,by omega⟩
  rw [Oh,if_neg (by omega),List.drop_of_length_le (by omega)];rfl
 |succ k ih=>
  intro f i s hi hf h0 h1
  obtain⟨f,rfl⟩: ∃n,f=n+1:=⟨f - 1,by omega⟩
  have e1:(i:Int)+1=((i+1:Nat):Int):=by omega
  rw [Oh,if_pos (by omega),Af _ (by omega),To,q0,q3,da l i (by omega),ofF]
  by_cases a:s<(dep (l[i]!).2.2:Int)
  ·rw [if_pos a,if_pos a]
  ·rw [if_neg a,if_neg a,Af _ (by omega),Af _ (by omega),e1]
   exact ih f (i+1) _ (by omega) (by omega) (by omega) (by omega)
theorem vc(N:Nat)(hN:20000000<N)(l:List Ins)(k:Int)(hl:l.length<=1048576)(h1:k<=9223372036854775807):RP N l k=some (ofL l k):=by
 unfold RP ofL
 by_cases a:k<0
 ·rw [if_pos a,if_pos a]
 rw [if_neg a,if_neg a]
 exact qT N l hl l.length N 0 k (by omega) (by omega) (by omega) h1
theorem ZD: ∀(l:List Ins) (i:Nat) (k:Int),(ofF i l k).2.2=true->(i:Int)<=(ofF i l k).1/\(ofF i l k).1<((i+l.length:Nat):Int)
 | [],_,_,h=>by cases h
 |x::r,i,k,h=>by
  rw [ofF] at h ⊢
  by_cases a:k<(dep x.2.2:Int)
  ·rw [if_pos a];rw [za];exact⟨Int.le_refl _,by show(i:Int)<_;omega⟩
  ·rw [if_neg a] at h ⊢
   have:=ZD r (i+1) _ h
   rw [za];omega
theorem hY(N:Nat)(s:W2)(hs:s.length<=140737488355328):Nx N s=some s:=by
 rw [Nx,Rm]
 by_cases c:s.length=0
 ·rw [if_pos (by omega),List.length_eq_zero_iff.1 c];rfl
 have e:s.take (List.replicate ((s.length:Int)).toNat (0:UInt8)).length++(List.replicate ((s.length:Int)).toNat (0:UInt8)).drop s.length=s:=by
  rw [q3,zi,List.take_length,List.drop_of_length_le (by rw [zi];exact Nat.le_refl _),List.append_nil]
 rw [if_neg (by omega),Af _ (by omega),e,Af _ (by omega),Af _ hs];rfl
def Cl(a:List Fd):Prop:=a.length<=5864062014805/\ ∀x∈a,x.1.length<=140737488355328
theorem fq(N:Nat)(h0:W2)(h1:List Fd)(h2 h3 h4 h5:Int)(hc:Cl h1):
  ∀(k f i:Nat),i+k=h1.length->k<f->HC N h2 h3 h4 h5 h0 h1 f (i:Int) h1=some (h0,h1,h2,h3,h4,h5):=by
 have hl:=hc.1
 intro k
 induction k with
 |zero=>
  intro f i hi hf
  obtain⟨f,rfl⟩: ∃n,f=n+1:=⟨f - 1,by omega⟩
  rw [HC,if_neg (by omega)]
 |succ k ih=>
  intro f i hi hf
  obtain⟨f,rfl⟩: ∃n,f=n+1:=⟨f - 1,by omega⟩
  have e1:(i:Int)+1=((i+1:Nat):Int):=by omega
  have hx:=hc.2 (h1[i]!) (by rw [zg h1 i (by omega)];exact List.getElem_mem _)
  have es:h1.set i ((h1[i]!).1,(h1[i]!).2)=h1:=by
   rw [zg h1 i (by omega)]
   exact List.set_getElem_self (by omega)
  rw [HC,if_pos (by omega),Af _ (by omega),q3,hY N _ hx,q0,Af _ (by omega),Af _ (by omega),e1,es]
  exact ih f (i+1) (by omega) (by omega)
theorem rC(N:Nat)(h0:W2)(h1:List Fd)(h2 h3 h4 h5:Int)(h0l:h0.length<=140737488355328)(hc:Cl h1)(hN:h1.length<N):LF N h0 h1 h2 h3 h4 h5=some (h0,h1,h2,h3,h4,h5):=by
 have hl:=hc.1
 rw [LF,hY N _ h0l,q0,DU,j7,Af _ (by rw [zj];omega),q0]
 exact fq N h0 h1 h2 h3 h4 h5 hc h1.length N 0 (by omega) hN
def Cls(N:Nat)(a:List Hd):Prop:= ∀h∈a,h.1.length<=140737488355328/\Cl h.2.1/\h.2.1.length<N
theorem lQ(N:Nat)(hN:20000000<N)(hs:List Hd)(hC:Cls N hs)(l:List Ins)(k:Int)(hl:Ft hs.length l)(h1:k<=9223372036854775807):ND N hs l k=some (hdL hs l k):=by
 have h30:=hl.1
 unfold ND hdL
 rw [vc N hN l k hl.2.1 h1,q0]
 by_cases a:(ofL l k).2.2=true
 rotate_left
 ·rw [if_neg a,if_neg (λh=>a h.1)]
 have hr:0<=(ofL l k).1/\(ofL l k).1<(l.length:Int):=by
  unfold ofL at a ⊢
  by_cases b:k<0
  ·rw [if_pos b] at a;cases a
  ·rw [if_neg b] at a ⊢;have:=ZD l 0 k a;omega
 rw [if_pos a,Af _ hr,Af _ (by omega),IK,q0]
 by_cases b:0<=(l[(ofL l k).1.toNat]!).2.1/\(l[(ofL l k).1.toNat]!).2.1<=(hs.length:Int) - 1
 ·have hm:=hC (hs[((l[(ofL l k).1.toNat]!).2.1).toNat]!) (by rw [zg hs _ (by omega)];exact List.getElem_mem _)
  rw [zf b,if_pos Z,if_pos ⟨a,by omega,by omega⟩,Oi,Af _ hr,Af _ (by omega),rC N _ _ _ _ _ _ hm.1 hm.2.1 hm.2.2,q0]
 ·rw [ze b,if_neg (by decide),if_neg (λh=>b (by omega))]
theorem xi(N:Nat)(l:List Ins)(hl:l.length<=1048576): ∀(k f i:Nat),i+k=l.length->k<f->
  Gp N (l.length:Int) l f ((l.take i).map (·.1)++List.replicate (l.length - i) []) (i:Int)=some (l.map (·.1)):=by
 intro k
 induction k with
 |zero=>
  intro f i hi hf
  obtain⟨f,rfl⟩: ∃n,f=n+1:=⟨f - 1,by omega⟩
  rw [Gp,if_neg (by omega),j6 (by omega),show l.length - i=0 from by omega,List.replicate_zero,List.append_nil]
 |succ k ih=>
  intro f i hi hf
  obtain⟨f,rfl⟩: ∃n,f=n+1:=⟨f - 1,by omega⟩
  have e1:(i:Int)+1=((i+1:Nat):Int):=by omega
  rw [Gp,if_pos (by omega),Jm,Af _ (by omega),q0,Af _ (by rw [Wu _ _ _ (by omega)];omega),Af _ (by omega),e1,q3,Qz _ l i (by omega)]
  exact ih f (i+1) (by omega) (by omega)
theorem cm(N:Nat)(l:List Ins)(hl:l.length<=1048576)(hN:l.length<N):KP N l=some (l.map (·.1)):=by
 have:=xi N l hl l.length N 0 (by omega) hN
 rw [KP,My,Af _ (by omega),q3]
 have e:Gp N (l.length:Int) l N (List.replicate l.length []) 0=some (l.map (·.1)):=this
 rw [e];rfl
theorem bQ(N:Nat)(hN:20000000<N)(hs:List Hd)(l:List Ins)(hl:Ft hs.length l):
  ∀(k f i:Nat),i+k=l.length->k<f->Kc N hs l (l.map (·.1)) f (i:Int)=some (lY l (goI hs.length (l.take i) (l.drop i))):=by
 have h40:=hl.2.1
 have h30:=hl.1
 intro k
 induction k with
 |zero=>
  intro f i hi hf
  obtain⟨f,rfl⟩: ∃n,f=n+1:=⟨f - 1,by omega⟩
  rw [Kc,if_neg (by omega),List.drop_of_length_le (by omega),goI,lY,if_pos Z,gc N hN l h40,q0]
  by_cases c:32<total l
  ·rw [if_pos c,if_pos (by omega)]
  ·rw [if_neg c,if_neg (by omega)]
 |succ k ih=>
  intro f i hi hf
  obtain⟨f,rfl⟩: ∃n,f=n+1:=⟨f - 1,by omega⟩
  have e1:(i:Int)+1=((i+1:Nat):Int):=by omega
  have en:=Nz (λx:Ins=>x.1) l i (by omega)
  rw [Kc,if_pos (by omega),Af _ (by omega),q3,YG N hN _ i (by rw [q8];omega) (by rw [q8];omega) (λj hj=>by
    rw [q8] at hj
    have:=hl.2.2 j hj
    rw [Nz (λx:Ins=>x.1) l j hj];omega),q0,en,Zl,da l i (by omega),goI]
  by_cases c1:Kf (l[i]!).1=true
  rotate_left
  ·rw [if_neg c1,if_neg c1];rfl
  rw [if_pos c1,if_pos c1]
  by_cases c2:(l.take i).any (λx=>JM x.1 (l[i]!).1)=true
  ·rw [if_pos c2,if_pos c2];rfl
  rw [if_neg c2,if_neg c2,if_neg (λh=>h Z),Af _ (by omega),IK,q0]
  by_cases c3:(l[i]!).2.1<0\/(hs.length:Int)<=(l[i]!).2.1
  ·rw [ze (by omega),if_neg (by decide),if_pos c3];rfl
  rw [zf (by omega),if_pos Z,if_neg c3,Kq,IK,q0,q0]
  by_cases c4:(l[i]!).2.2<0\/4<(l[i]!).2.2
  ·rw [ze (by omega),if_neg (by decide),if_pos c4];rfl
  rw [zf (by omega),if_pos Z,if_neg c4,Af _ (by omega),e1,ih f (i+1) (by omega) (by omega),RC l i (by omega)]
theorem kI(N:Nat)(hN:20000000<N)(hs:List Hd)(l:List Ins)(hl:Ft hs.length l):Nw N hs l=some (ZS hs.length l):=by
 have:=bQ N hN hs l hl l.length N 0 (by omega) (by have:=hl.2.1;omega)
 have h40:=hl.2.1
 unfold Nw ZS
 by_cases c:16<l.length
 ·rw [if_pos c,if_pos (by omega)]
 ·rw [if_neg c,if_neg (by omega),cm N l (by omega) (by omega),q0]
  exact this
end Go.Proofs.YtjlomkippigejaaGreatDoor
namespace Go.Proofs.YtjlomkippigejaaGreatDoor
open Go Go.RowKit Go.Eng
def RY(w:Int)(x:W3):Bool:=decide (1<=w)&&(decide (w<=128)&&decide (((len128 x:Nat):Int)<=w))
theorem Tw(N:Nat)(w:Int)(x:W3):CC N w x=some (RY w x):=by
 unfold CC RY
 rw [gN]
 by_cases h1:w>=1
 ·rw [if_pos h1,zf (show 1<=w from h1),Bool.true_and]
  by_cases h2:w<=128
  ·rw [if_pos h2,zf h2,Bool.true_and]
  ·rw [if_neg h2,ze h2,Bool.false_and]
 ·rw [if_neg h1,ze (show¬1<=w from h1),Bool.false_and]
theorem jM(N:Nat)(w:Int):JT N w=some (decide (1<=w/\w<=128)):=by
 unfold JT
 by_cases h1:w>=1
 ·rw [if_pos h1];congr 1;exact decide_eq_decide.2 ⟨λh=>⟨h1,h⟩,λh=>h.2⟩
 ·rw [if_neg h1];congr 1;exact(ze (λh=>h1 h.1)).symm
theorem jP(N:Nat)(w:Int)(x:W3):Nu N w x=some (RY w x):=by
 unfold Nu JU RY
 rw [jM,q0]
 by_cases h1:1<=w
 ·rw [zf h1,Bool.true_and]
  by_cases h2:w<=128
  ·rw [zf (show 1<=w/\w<=128 from⟨h1,h2⟩),if_pos Z,q0,zf h2,Bool.true_and]
  ·rw [ze (λh:1<=w/\w<=128=>h2 h.2),if_neg (by decide),ze h2,Bool.false_and]
 ·rw [ze (λh:1<=w/\w<=128=>h1 h.1),if_neg (by decide),ze h1,Bool.false_and]
def Zk(n:Nat)(x:W3):List Bool:=(List.range n).map λj=>x.getLsbD j
theorem Ru(n:Nat)(x:W3):(Zk n x).length=n:=by simp [Zk]
theorem eG(w:Int)(x:W3)(hw:0<=w)(hw2:w<=128): ∀(k f i:Nat),i+k=w.toNat->k<f->Ca w x f (Zk i x) (i:Int)=some (Zk w.toNat x):=by
 intro k
 induction k with
 |zero=>
  intro f i hi hf
  obtain⟨f,rfl⟩: ∃k,f=k+1:=⟨f - 1,by omega⟩
  rw [Ca,if_neg (by omega),show i=w.toNat from by omega];rfl
 |succ k ih=>
  intro f i hi hf
  obtain⟨f,rfl⟩: ∃k,f=k+1:=⟨f - 1,by omega⟩
  rw [Ca,if_pos (by omega),Hj,zf (by omega),if_pos Z]
  rw [gN,Af _ (by omega),Af _ (by rw [Ru];simp;omega),Af _ (by omega),q3]
  have:=ih f (i+1) (by omega) (by omega)
  rw [<-this]
  congr 1
  simp [Zk,List.range_succ]
theorem fX(N:Nat)(w:Int)(x:W3)(hN:128<N)(hw:0<=w)(hw2:w<=128):Fh N w x=some (Zk w.toNat x):=by
 have:=eG w x hw hw2 w.toNat N 0 (by omega) (by omega)
 exact this
def ofG(l:List Bool):Nat->W3
 |0=>0#128
 |i+1=>bx (ofG l i) i (l[i]!)
def wl(l:List Bool):W3:=ofG l l.length
theorem jO(l:List Bool)(hl:l.length<=128): ∀(k f i:Nat),i+k=l.length->k<f->CB l f (i:Int) (ofG l i)=some ((l.length:Int),wl l):=by
 intro k
 induction k with
 |zero=>
  intro f i hi hf
  obtain⟨f,rfl⟩: ∃k,f=k+1:=⟨f - 1,by omega⟩
  rw [CB,if_neg (by omega)]
  have hi':i=l.length:=by omega
  subst hi'
  rfl
 |succ k ih=>
  intro f i hi hf
  obtain⟨f,rfl⟩: ∃k,f=k+1:=⟨f - 1,by omega⟩
  rw [CB,if_pos (by omega),HL,zf (by omega),if_pos Z]
  rw [Af _ (by omega),Af _ (by omega),Af _ (by omega),q3]
  have:=ih f (i+1) (by omega) (by omega)
  rw [<-this];rfl
theorem jN(N:Nat)(hN:128<N)(l:List Bool)(hl:l.length<=128):Hs N l=some ((l.length:Int),wl l):=jO l hl l.length N 0 (by omega) (by omega)
end Go.Proofs.YtjlomkippigejaaGreatDoor
namespace Go.Proofs.YtjlomkippigejaaGreatDoor
open Go Go.RowKit Go.Eng
abbrev R9:=W0
abbrev I9:=W1
def tab9:List R9:=match Gy 0 with|some l=>l|none=> []
theorem Re(N:Nat):Gy N=some tab9:=Z
theorem Qp:tab9.length=35:=Z
def HZ(o:Int):R9:=tab9[o.toNat]!
def OL(o a b w:Int)(x:W3):Int:=
 if 0<=o/\o<=34 then
  if a<(HZ o).2.2.2.2.1\/(HZ o).2.2.2.2.2.1<a\/b<(HZ o).2.2.2.2.2.2.1\/(HZ o).2.2.2.2.2.2.2.1<b\/(o=10/\a<b)then 7
  else if o=0 then(if RY w x=true then 0 else 1)else if w=0/\x=0#128 then 0 else 1
 else 10
theorem la: ∀k:Nat,k<35->((tab9[k]!).1=[112,117,115,104]↔k=0)/\((tab9[k]!).1=[115,108,105,99,101]↔k=10):=by decide+kernel
theorem ku{o:Int}(h0:0<=o)(h1:o<=34):(HZ o).1=[112,117,115,104]↔o=0:=by
 have:=(la o.toNat (by omega)).1
 unfold HZ;rw [this];omega
theorem iR{o:Int}(h0:0<=o)(h1:o<=34):(HZ o).1=[115,108,105,99,101]↔o=10:=by
 have:=(la o.toNat (by omega)).2
 unfold HZ;rw [this];omega
theorem zz9:((0#64)++(0#64):W3)=0#128:=by decide
theorem iX(N:Nat)(o a b w:Int)(x:W3):Sz N o a b w x=some (OL o a b w x):=by
 have k2:0<=o->o<=34->NH N o w x tab9 false=some (if o=0 then(if RY w x=true then 0 else 1)else if w=0/\x=0#128 then 0 else 1):=λh0 h1=>by
  rw [NH,if_neg (by decide),zz9]
  have e:=ku h0 h1
  unfold HZ at e
  by_cases c:o=0
  ·rw [if_pos (e.2 c),if_pos c,Tw,q0]
   by_cases d:RY w x=true
   ·rw [if_pos d,if_pos d]
   ·rw [if_neg d,if_neg d]
  ·rw [if_neg (λh=>c (e.1 h)),if_neg c]
   by_cases d:w=0/\x=0#128
   ·rw [if_pos (by rw [d.1,d.2];decide),if_pos d]
   ·rw [if_neg (λh=>d (by simpa using h)),if_neg d]
 unfold Sz OL
 by_cases h0:o<0
 ·rw [if_pos h0,if_neg (by omega)];rfl
 rw [if_neg h0]
 by_cases h1:o>34
 ·rw [zf h1,if_neg (by omega)];rfl
 have e:=iR (o:=o) (by omega) (by omega)
 have k2':=k2 (by omega) (by omega)
 rw [ze h1,if_pos ⟨by omega,by omega⟩,QG,if_neg (by decide),Re,q0,Af _ (by rw [Qp];omega)]
 unfold HZ at e ⊢
 by_cases a1:a<(tab9[o.toNat]!).2.2.2.2.1
 ·rw [if_pos a1,if_pos (.inl a1)];rfl
 rw [if_neg a1]
 by_cases a2:a>(tab9[o.toNat]!).2.2.2.2.2.1
 ·rw [zf a2,if_pos (.inr (.inl a2))];rfl
 rw [ze a2,QF,if_neg (by decide)]
 by_cases a3:b<(tab9[o.toNat]!).2.2.2.2.2.2.1
 ·rw [zf a3,if_pos (.inr (.inr (.inl a3)))];rfl
 rw [ze a3,QE,if_neg (by decide)]
 by_cases a4:b>(tab9[o.toNat]!).2.2.2.2.2.2.2.1
 ·rw [zf a4,if_pos (.inr (.inr (.inr (.inl a4))))];rfl
 rw [ze a4,QD,if_neg (by decide)]
 have hn: ¬(o=10/\a<b)-> ¬(a<(tab9[o.toNat]!).2.2.2.2.1\/(tab9[o.toNat]!).2.2.2.2.2.1<a\/b<(tab9[o.toNat]!).2.2.2.2.2.2.1\/(tab9[o.toNat]!).2.2.2.2.2.2.2.1<b\/(o=10/\a<b)):=λq h=>by
  rcases h with h|h|h|h|h
  ·exact a1 h
  ·exact a2 h
  ·exact a3 h
  ·exact a4 h
  ·exact q h
 by_cases c:o=10
 ·rw [if_pos (e.2 c)]
  by_cases d:a<b
  ·rw [zf d,if_pos (.inr (.inr (.inr (.inr ⟨c,d⟩))))];rfl
  ·rw [ze d,k2',if_neg (hn (λh=>d h.2))]
 ·rw [if_neg (λh=>c (e.1 h)),k2',if_neg (hn (λh=>c h.1))]
def Hq(o a b w:Int)(x:W3):Aa0:=
 if o=0 then .t241 w x
 else if o=1\/o=22 then .t164 o a b
 else if o=2\/o=3\/o=5\/o=23\/o=24\/o=29\/o=30 then .t242 o a
 else if o=4\/o=25\/o=26 then .t166 o a
 else if o=6\/o=7\/o=8\/o=9\/o=11 then .t243 o a
 else if o=10 then .t245 a b
 else if o=27\/o=28 then .t169 o a b
 else if o=31\/o=32 then .t121 o a
 else if o=33 then .t123 a b
 else if o=34 then .t125
 else .t247 o
theorem SG{o a b w:Int}{x:W3}(h:OL o a b w x=0):0<=o/\o<=34:=by
 unfold OL at h
 by_cases c:0<=o/\o<=34
 ·exact c
 ·rw [if_neg c] at h;omega
theorem ZI{o a b w:Int}{x:W3}(h:OL o a b w x=0):(HZ o).2.2.2.2.1<=a/\a<=(HZ o).2.2.2.2.2.1/\(HZ o).2.2.2.2.2.2.1<=b/\b<=(HZ o).2.2.2.2.2.2.2.1/\(o≠0->w=0/\x=0#128)/\(o=0->RY w x=true)/\(o=10->b<=a):=by
 have c:=SG h
 unfold OL at h
 rw [if_pos c] at h
 by_cases d:a<(HZ o).2.2.2.2.1\/(HZ o).2.2.2.2.2.1<a\/b<(HZ o).2.2.2.2.2.2.1\/(HZ o).2.2.2.2.2.2.2.1<b\/(o=10/\a<b)
 ·rw [if_pos d] at h;omega
 rw [if_neg d] at h
 have d1: ¬a<(HZ o).2.2.2.2.1:=λq=>d (.inl q)
 have d2: ¬(HZ o).2.2.2.2.2.1<a:=λq=>d (.inr (.inl q))
 have d3: ¬b<(HZ o).2.2.2.2.2.2.1:=λq=>d (.inr (.inr (.inl q)))
 have d4: ¬(HZ o).2.2.2.2.2.2.2.1<b:=λq=>d (.inr (.inr (.inr (.inl q))))
 refine⟨by omega,by omega,by omega,by omega,λq=> ?_,λq=> ?_,λq=> ?_⟩
 ·rw [if_neg q] at h
  by_cases e:w=0/\x=0#128
  ·exact e
  ·rw [if_neg e] at h;omega
 ·rw [if_pos q] at h
  by_cases e:RY w x=true
  ·exact e
  ·rw [if_neg e] at h;omega
 ·exact Int.not_lt.1 λq2=>d (.inr (.inr (.inr (.inr ⟨q,q2⟩))))
def Og:Aa0->Int×Bool
 | .t121 _ t=>(t,true)
 | .t123 _ t=>(t,true)
 |_=>(0,false)
end Go.Proofs.YtjlomkippigejaaGreatDoor
namespace Go.Proofs.YtjlomkippigejaaGreatDoor
open Go Go.RowKit Go.Eng
def NI(x:I9):Int:=OL x.1 x.2.1 x.2.2.1 x.2.2.2.1 x.2.2.2.2
def Ev(x:I9):Aa0:=Hq x.1 x.2.1 x.2.2.1 x.2.2.2.1 x.2.2.2.2
def Yp:Nat->List I9->Int×Int->Int×Int
 |_,[],d=>d
 |i,x::r,d=>if NI x≠0 then((i:Int),NI x)else Yp (i+1) r d
def TZ(l:List I9):Int×Int:=Yp 0 (l.take 64) (((min l.length 64:Nat):Int),if l.length>64 then 2 else 0)
def Ub(l:List I9):List Aa0×Int×Int:=(if(TZ l).2=0 then l.map Ev else [],(TZ l).1,(TZ l).2)
end Go.Proofs.YtjlomkippigejaaGreatDoor
