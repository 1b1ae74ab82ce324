import Derived.Test.YtjnanfkpdhmnpaaGreatDoorRb
import Derived.Test.YtjnanfkpdhmnpaaGreatDoorLz
namespace Go.Proofs.YtjnanfkpdhmnpaaGreatDoor
open Go Go.RowKit Go.Eng
theorem XO(N:Nat): ∀(f:Nat) (s:W2) (l:Y0 Int),s.length<f->l.length+s.length<=1048576->Ed N f s l=some (l++Ac4 s):=by
 intro f
 induction f with
 |zero=>intro s l h;omega
 |succ f ih=>
  intro s l h hl
  rw [Ed]
  by_cases hs:s=[]
  ·subst hs
   rw [V9 (by simp),fA,List.append_nil]
  ·have hpos:=List.length_pos_iff.mpr hs
   have hw:=Zm s hs
   have e:((dec s).2:Int).toNat=(dec s).2:=q4 _
   rw [V8 (by omega),sZ N s hs,q0]
   simp only [e]
   rw [Af _ (by simp only [List.length_singleton];omega),Af _ (by omega),ih _ _ (by rw [zq];omega) (by rw [zf,List.length_singleton,zq];omega),Ng hs,j0]
   rfl
theorem VQ(N:Nat)(s:W2)(hb:s.length<=1048576)(hN:s.length<N):FZ N s=some (Ac4 s):=by
 rw [FZ,XO N N s [] hN (by simpa using hb),y5]
def KF(c:Int):Int:=if(65<=c/\c<=90)\/(192<=c/\c<=222/\c≠215)\/(913<=c/\c<=937/\c≠930)\/(1040<=c/\c<=1071)then c+32 else if 1024<=c/\c<=1039 then c+80 else if c=962 then 963 else c
theorem dT{p:Prop}[Decidable p](h:p):true=decide p:=(zl h).symm
theorem dF{p:Prop}[Decidable p](h: ¬p):false=decide p:=(zk h).symm
theorem be(c:Int)(b:Y3)(hb:b=decide ((65<=c/\c<=90)\/(192<=c/\c<=222/\c≠215)\/(913<=c/\c<=937/\c≠930)\/(1040<=c/\c<=1071))):EL c b=some (KF c):=by
 unfold EL Hy KF
 cases b with
 |true=>have h:=zj hb.symm;rw [V8 Z,V8 h,Af _ (by omega)]
 |false=>
  have h:=of_decide_eq_false hb.symm
  rw [V9 (by decide),V9 h]
  by_cases h1:c>=1024
  ·rw [V8 h1]
   by_cases h2:c<=1039
   ·rw [zl h2,V8 Z,V8 ⟨h1,h2⟩,Af _ (by omega)]
   ·rw [zk h2,V9 (by decide),V9 (show¬(1024<=c/\c<=1039)from λh'=>h2 h'.2)];split<;>rfl
  ·rw [V9 h1,V9 (by decide),V9 (show¬(1024<=c/\c<=1039)from λh'=>h1 h'.1)];split<;>rfl
theorem Vp(c:Int)(b:Y3)(hb:b=decide ((65<=c/\c<=90)\/(192<=c/\c<=222/\c≠215)\/(913<=c/\c<=937/\c≠930))):Ds c b=some (KF c):=by
 unfold Ds
 cases b with
 |true=>have h:=zj hb.symm;exact be c true (dT (by omega))
 |false=>
  have h:=of_decide_eq_false hb.symm
  rw [V9 (by decide)]
  split
  ·exact be c _ (decide_eq_decide.2 (by omega))
  ·exact be c false (dF (by omega))
theorem jW(c k:Int):(c !=k)=decide (c≠k):=by rw [Bool.eq_iff_iff];simp
theorem Vq(c:Int)(b:Y3)(hb:b=decide ((65<=c/\c<=90)\/(192<=c/\c<=222/\c≠215))):Dt c b=some (KF c):=by
 unfold Dt
 cases b with
 |true=>have h:=zj hb.symm;exact Vp c true (dT (by omega))
 |false=>
  have h:=of_decide_eq_false hb.symm
  rw [V9 (by decide)]
  split
  ·split
   ·exact Vp c _ ((jW c 930).trans (decide_eq_decide.2 (by omega)))
   ·exact Vp c false (dF (by omega))
  ·exact Vp c false (dF (by omega))
theorem iL(c:Int)(b:Y3)(hb:b=decide (65<=c/\c<=90)):Ga c b=some (KF c):=by
 unfold Ga
 cases b with
 |true=>have h:=zj hb.symm;exact Vq c true (dT (by omega))
 |false=>
  have h:=of_decide_eq_false hb.symm
  rw [V9 (by decide)]
  split
  ·split
   ·exact Vq c _ ((jW c 215).trans (decide_eq_decide.2 (by omega)))
   ·exact Vq c false (dF (by omega))
  ·exact Vq c false (dF (by omega))
theorem jO(N:Nat)(c:Int):HU N c=some (KF c):=by
 unfold HU
 split
 ·exact iL c _ (decide_eq_decide.2 (by omega))
 ·exact iL c false (dF (by omega))
theorem yb{c:Int}(h:((65<=c/\c<=90)\/(97<=c/\c<=122)\/c=95\/(192<=c/\c<=591)\/(913<=c/\c<=969)\/(1024<=c/\c<=1279))/\c≠215/\c≠247/\c≠930):some true=some (Mp c):=congrArg some (zl h).symm
theorem yc{c:Int}(h: ¬(((65<=c/\c<=90)\/(97<=c/\c<=122)\/c=95\/(192<=c/\c<=591)\/(913<=c/\c<=969)\/(1024<=c/\c<=1279))/\c≠215/\c≠247/\c≠930)):some false=some (Mp c):=congrArg some (zk h).symm
theorem yP{c:Int}{p:Prop}[Decidable p](h:p↔(((65<=c/\c<=90)\/(97<=c/\c<=122)\/c=95\/(192<=c/\c<=591)\/(913<=c/\c<=969)\/(1024<=c/\c<=1279))/\c≠215/\c≠247/\c≠930)):some (decide p)=some (Mp c):=congrArg some (decide_eq_decide.mpr h)
theorem Qz(c k:Int):(c==k)=decide (c=k):=by rw [Bool.eq_iff_iff];simp
section
variable (c:Int) (hn: ¬((65<=c/\c<=90)\/(97<=c/\c<=122)\/c=95))
include hn
theorem fP(h2:c≠215/\c≠247/\c≠930)(b:Y3)(hb:b=decide ((192<=c/\c<=591)\/(913<=c/\c<=969))):DD c b=some (Mp c):=by
 unfold DD
 cases b with
 |true=>have h:=zj hb.symm;exact yb (by omega)
 |false=>
  have h:=of_decide_eq_false hb.symm
  rw [V9 (by decide)]
  split
  ·exact yP (by omega)
  ·exact yc (by omega)
theorem mI(h2:c≠215/\c≠247/\c≠930)(b:Y3)(hb:b=decide (192<=c/\c<=591)):Fc c b=some (Mp c):=by
 unfold Fc
 cases b with
 |true=>have h:=zj hb.symm;exact fP c hn h2 true (dT (by omega))
 |false=>
  have h:=of_decide_eq_false hb.symm
  rw [V9 (by decide)]
  split
  ·exact fP c hn h2 _ (decide_eq_decide.2 (by omega))
  ·exact fP c hn h2 false (dF (by omega))
theorem mJ(b:Y3)(hb:b=decide (c=215\/c=247\/c=930)):Fe c b=some (Mp c):=by
 unfold Fe
 cases b with
 |true=>have h:=zj hb.symm;exact yc (by omega)
 |false=>
  have h:=of_decide_eq_false hb.symm
  rw [V9 (by decide)]
  split
  ·exact mI c hn (by omega) _ (decide_eq_decide.2 (by omega))
  ·exact mI c hn (by omega) false (dF (by omega))
theorem mK(b:Y3)(hb:b=decide (c=215\/c=247)):Ff c b=some (Mp c):=by
 unfold Ff
 cases b with
 |true=>have h:=zj hb.symm;exact mJ c hn true (dT (by omega))
 |false=>have h:=of_decide_eq_false hb.symm;exact mJ c hn _ ((Qz c 930).trans (decide_eq_decide.2 (by omega)))
end
theorem mL(c:Int)(b:Y3)(hb:b=decide ((65<=c/\c<=90)\/(97<=c/\c<=122)\/c=95)):Fh c b=some (Mp c):=by
 unfold Fh
 cases b with
 |true=>have h:=zj hb.symm;exact yb (by omega)
 |false=>
  have h:=of_decide_eq_false hb.symm
  rw [V9 (by decide)]
  split
  ·exact mK c h true (dT (by omega))
  ·exact mK c h _ ((Qz c 247).trans (decide_eq_decide.2 (by omega)))
theorem fQ(c:Int)(b:Y3)(hb:b=decide ((65<=c/\c<=90)\/(97<=c/\c<=122))):DE c b=some (Mp c):=by
 unfold DE
 cases b with
 |true=>have h:=zj hb.symm;exact mL c true (dT (by omega))
 |false=>have h:=of_decide_eq_false hb.symm;exact mL c _ ((Qz c 95).trans (decide_eq_decide.2 (by omega)))
theorem mM(c:Int)(b:Y3)(hb:b=decide (65<=c/\c<=90)):Fi c b=some (Mp c):=by
 unfold Fi
 cases b with
 |true=>have h:=zj hb.symm;exact fQ c true (dT (by omega))
 |false=>
  have h:=of_decide_eq_false hb.symm
  rw [V9 (by decide)]
  split
  ·exact fQ c _ (decide_eq_decide.2 (by omega))
  ·exact fQ c false (dF (by omega))
theorem UF(N:Nat)(c:Int):FC N c=some (Mp c):=by
 unfold FC
 split
 ·exact mM c _ (decide_eq_decide.2 (by omega))
 ·exact mM c false (dF (by omega))
def Rn(s:W2):Y0 Int:=(Ac4 s).map KF
theorem mE(l:Y0 Int)(i:Nat)(h:i<l.length):((l.take i).map KF++l.drop i)[i]! =l[i]!/\((l.take i).map KF++l.drop i).set i (KF (l[i]!))=(l.take (i+1)).map KF++l.drop (i+1):=by
 have hl:((l.take i).map KF).length=i:=by rw [q9,q8];omega
 have hd:l.drop i=l[i]!::l.drop (i+1):=by rw [y3 h,zm l i h]
 have ht:l.take (i+1)=l.take i++ [l[i]!]:=by rw [List.take_add_one,zv h,zm l i h];rfl
 refine⟨?_, ?_⟩
 ·rw [List.getElem!_eq_getElem?_getD,List.getElem?_append_right (by omega),hl,Nat.sub_self,hd];rfl
 ·rw [List.set_append_right _ _ (by omega),hl,Nat.sub_self,hd,List.set_cons_zero,ht,List.map_append,j0];rfl
theorem ZV(N:Nat)(l:Y0 Int)(hl:l.length<=1048576): ∀(k f i:Nat),i+k=l.length->k<f->Dr N f ((l.take i).map KF++l.drop i) (i:Int)=some (l.map KF):=by
 intro k
 induction k with
 |zero=>
  intro f i hi hf
  obtain⟨f,rfl⟩: ∃n,f=n+1:=⟨f - 1,by omega⟩
  have hlen:((l.take i).map KF++l.drop i).length=l.length:=by rw [zf,q9,q8,zq];omega
  rw [Dr,hlen,V9 (by omega),y4 (by omega),List.drop_of_length_le (by omega),List.append_nil]
 |succ k ih=>
  intro f i hi hf
  obtain⟨f,rfl⟩: ∃n,f=n+1:=⟨f - 1,by omega⟩
  have hlen:((l.take i).map KF++l.drop i).length=l.length:=by rw [zf,q9,q8,zq];omega
  obtain⟨h1,h2⟩:=mE l i (by omega)
  have e1:(i:Int)+1=((i+1:Nat):Int):=by omega
  rw [Dr,hlen,V8 (by omega),Af _ (by omega),q4,h1,jO,q0,Af _ (by omega),Af _ (by omega),h2,e1]
  exact ih f (i+1) (by omega) (by omega)
theorem Zb(N:Nat)(s:W2)(hb:s.length<=1048576)(hN:s.length<N):GP N s=some (Rn s):=by
 have hl:=Sv s
 rw [GP,VQ N s hb hN,q0]
 have:=ZV N (Ac4 s) (by omega) (Ac4 s).length N 0 (by omega) (by omega)
 exact this
def Tc:Y0 Int->Y0 Int->Int
 | [],[]=>0
 | [],_::_=> -1
 |_::_,[]=>1
 |x::a,y::b=>if x<y then -1 else if x>y then 1 else Tc a b
theorem Ua: ∀a:Y0 Int,Tc a a=0
 | []=>rfl
 |x::a=>by rw [Tc,V9 (by omega),V9 (by omega),Ua a]
theorem XP(a b:Y0 Int)(ha:a.length<=1048576): ∀(k f i:Nat),a.length<=i+k->k<f->i<=a.length->i<=b.length->Cd a b f (i:Int)=some (Tc (a.drop i) (b.drop i)):=by
 intro k
 induction k with
 |zero=>
  intro f i hi hf h1 h2
  obtain⟨f,rfl⟩: ∃n,f=n+1:=⟨f - 1,by omega⟩
  have ea:a.drop i=[]:=List.drop_of_length_le (by omega)
  rw [Cd,V9 (by omega),CX,V9 (by decide),ea]
  by_cases hb1:i<b.length
  ·rw [V8 (by omega),y3 hb1];rfl
  ·rw [V9 (by omega),V9 (by omega),List.drop_of_length_le (by omega:b.length<=i)];rfl
 |succ k ih=>
  intro f i hi hf h1 h2
  obtain⟨f,rfl⟩: ∃n,f=n+1:=⟨f - 1,by omega⟩
  have e1:(i:Int)+1=((i+1:Nat):Int):=by omega
  rw [Cd]
  by_cases ha1:i<a.length
  ·have ea:a.drop i=a[i]!::a.drop (i+1):=by rw [y3 ha1,zm a i ha1]
   rw [V8 (by omega),ea]
   by_cases hb1:i<b.length
   ·have eb:b.drop i=b[i]!::b.drop (i+1):=by rw [y3 hb1,zm b i hb1]
    rw [zl (by omega),eb,Tc,CX,V8 Z,Af _ (by omega),Af _ (by omega),q4]
    by_cases hlt:a[i]!<b[i]!
    ·rw [V8 hlt,V8 hlt]
    ·rw [V9 hlt,V9 hlt,Af _ (by omega),Af _ (by omega)]
     by_cases hgt:a[i]!>b[i]!
     ·rw [V8 hgt,V8 hgt]
     ·rw [V9 hgt,V9 hgt,Af _ (by omega),e1,ih f (i+1) (by omega) (by omega) (by omega) (by omega)]
   ·rw [zk (by omega),CX,V9 (by decide),V9 (by omega),V8 (by omega),List.drop_of_length_le (by omega:b.length<=i)];rfl
  ·have ea:a.drop i=[]:=List.drop_of_length_le (by omega)
   rw [V9 (by omega),CX,V9 (by decide),ea]
   by_cases hb1:i<b.length
   ·rw [V8 (by omega),y3 hb1];rfl
   ·rw [V9 (by omega),V9 (by omega),List.drop_of_length_le (by omega:b.length<=i)];rfl
theorem fD(N:Nat)(a b:Y0 Int)(ha:a.length<=1048576)(hN:a.length<N):Hx N a b=some (Tc a b):=by
 have:=XP a b ha a.length N 0 (by omega) hN (by omega) (by omega)
 rw [Hx];exact this
theorem ka(s:W2):(Rn s).length<=s.length:=by unfold Rn;rw [q9];exact Sv s
end Go.Proofs.YtjnanfkpdhmnpaaGreatDoor
namespace Go.Proofs.YtjnanfkpdhmnpaaGreatDoor
open Go Go.RowKit Go.Eng
theorem VZ: ∀a b:Y0 Int,(Tc a b=0/\a=b)\/(Tc a b= -1/\Tc b a=1)\/(Tc a b=1/\Tc b a= -1)
 | [],[]=> .inl ⟨Z,Z⟩
 | [],_::_=> .inr (.inl ⟨Z,Z⟩)
 |_::_,[]=> .inr (.inr ⟨Z,Z⟩)
 |x::a,y::b=>by
  rw [Tc,Tc]
  by_cases h1:x<y
  ·rw [V8 h1,V9 (by omega),V8 (by omega)];exact .inr (.inl ⟨Z,Z⟩)
  ·rw [V9 h1]
   by_cases h2:x>y
   ·rw [V8 h2,V8 (by omega)];exact .inr (.inr ⟨Z,Z⟩)
   ·rw [V9 h2,V9 (by omega),V9 (by omega)]
    have:x=y:=by omega
    subst this
    rcases VZ a b with⟨h3,rfl⟩|h3|h3
    ·exact .inl ⟨h3,Z⟩
    ·exact .inr (.inl h3)
    ·exact .inr (.inr h3)
theorem iK{c:Int}(h:okR c):okR (KF c):=by
 unfold okR KF at*;split
 ·omega
 ·split
  ·omega
  ·split<;>omega
theorem sF(s:W2): ∀n∈Rn s,okR n:=by
 unfold Rn
 intro n hn
 obtain⟨c,hc,rfl⟩:=List.mem_map.mp hn
 exact iK (jD s c hc)
def Ti(s:W2):W2:=ZR (Rn s)
theorem YW(s:W2):Ac4 (Ti s)=Rn s:=VL _ (sF s)
theorem sG{a b:W2}:Ti a=Ti b↔Rn a=Rn b:=by
 refine⟨λh=> ?_,λh=>by unfold Ti;rw [h]⟩
 rw [<-YW a,h,YW]
end Go.Proofs.YtjnanfkpdhmnpaaGreatDoor
namespace Go.Proofs.YtjnanfkpdhmnpaaGreatDoor
open Go Go.RowKit Go.Eng
theorem yu(l:Y0 Int)(i:Nat)(h:i<l.length):l.drop i=l[i]!::l.drop (i+1):=by rw [y3 h,zm l i h]
theorem sy(l:Y0 Int)(i:Nat)(hi:i<l.length)(hl:l.length<=1048576)(rec:Int->Y1 Y3)(b:Y3):
  Fq l (i:Int) rec b=if b=true/\l[i]!≠45/\l[i]!≠46 then some false else rec ((i:Int)+1):=by
 have f7:GN (i:Int) rec false=rec ((i:Int)+1):=by rw [GN,V9 (by decide),Af _ (by omega)]
 have f6:Fp l (i:Int) rec false=rec ((i:Int)+1):=by rw [Fp,V9 (by decide),f7]
 unfold Fq
 cases b with
 |false=>rw [V9 (by decide),f6,V9 (λh=>by simp at h)]
 |true=>
  rw [V8 Z,Af _ (by omega),q4]
  by_cases a:l[i]! =45
  ·rw [jW,zk (by omega),f6,V9 (by omega)]
  ·rw [jW,zl a,Fp,V8 Z,Af _ (by omega),q4]
   by_cases c:l[i]! =46
   ·rw [jW,zk (by omega),f7,V9 (by omega)]
   ·rw [jW,zl c,V8 ⟨Z,a,c⟩];rfl
theorem ce(N:Nat)(l:Y0 Int)(hl:l.length<=1048576): ∀(k f i:Nat),i+k=l.length->k<f->BN N l f (i:Int)=some ((l.drop i).all inR):=by
 intro k
 induction k with
 |zero=>
  intro f i hi hf
  obtain⟨f,rfl⟩: ∃n,f=n+1:=⟨f - 1,by omega⟩
  rw [BN,V9 (by omega),List.drop_of_length_le (by omega)];rfl
 |succ k ih=>
  intro f i hi hf
  obtain⟨f,rfl⟩: ∃n,f=n+1:=⟨f - 1,by omega⟩
  have e1:(i:Int)+1=((i+1:Nat):Int):=by omega
  have g:(0:Int)<=(i:Int)/\(i:Int)<(l.length:Int):=by omega
  rw [BN,V8 (by omega),Af _ g,UF,q0]
  simp only [Af _ g,sy l i (by omega) hl]
  rw [e1,ih f (i+1) (by omega) (by omega),q4,yu l i (by omega),List.all_cons]
  generalize l[i]! =c
  unfold inR
  by_cases h1:Mp c=true
  ·rw [V8 h1,h1,V9 (λh=>by simp at h)];rfl
  ·have h1':Mp c=false:=by simpa using h1
   rw [V9 h1,h1',Bool.false_or]
   by_cases h2:(48<=c/\c<=57)\/c=45\/c=46
   ·rw [zl h2,Bool.true_and]
    by_cases h3:c>=48
    ·rw [V8 h3,V9 (λ⟨p,q,r⟩=>by simp only [Bool.not_eq_true',decide_eq_false_iff_not] at p;omega)]
    ·rw [V9 h3,V9 (λ⟨_,p,q⟩=>by omega)]
   ·rw [zk h2,Bool.false_and]
    by_cases h3:c>=48
    ·rw [V8 h3,V8 ⟨by simp only [Bool.not_eq_true',decide_eq_false_iff_not];omega,by omega,by omega⟩]
    ·rw [V9 h3,V8 ⟨trivial,by omega,by omega⟩]
theorem cc(N:Nat)(s:W2)(hb:s.length<=1048576)(hN:s.length<N):Hk N s=some (cG (Ac4 s)):=by
 have hl:=Sv s
 rw [Hk,VQ N s hb hN,q0]
 generalize Ac4 s=l at hl
 unfold cG
 by_cases h1:(l.length:Int)<1
 ·rw [V8 h1,zk (by omega)];rfl
 rw [V9 h1]
 by_cases h2:(l.length:Int)>24
 ·rw [zl h2,zk (by omega)];rfl
 rw [zk h2,HT,V9 (by decide),zl (by omega),Af _ (by omega),UF,q0,Bool.true_and]
 show GO N l (!Mp (l[0]!))=_
 by_cases h3:Mp (l[0]!)=true
 ·rw [h3,GO,V9 (by decide)]
  exact ce N l (by omega) l.length N 0 (by omega) (by omega)
 ·have h3':Mp (l[0]!)=false:=by simpa using h3
  rw [h3'];rfl
end Go.Proofs.YtjnanfkpdhmnpaaGreatDoor
