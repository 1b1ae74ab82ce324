import Derived.Test.YtjlomkippigejaaGreatDoorRb
import Derived.Test.YtjlomkippigejaaGreatDoorBl
namespace Go.Proofs.YtjlomkippigejaaGreatDoor
open Go Go.RowKit Go.Eng
theorem Xq(N:Nat): ∀(f:Nat) (s:W2) (l:List Int),s.length<f->l.length+s.length<=1048576->DQ N f s l=some (l++Ac5 s):=by
 intro f
 induction f with
 |zero=>intro s l h;omega
 |succ f ih=>
  intro s l h hl
  rw [DQ]
  by_cases hs:s=[]
  ·subst hs
   rw [if_neg (by simp),eS,List.append_nil]
  ·have hpos:=List.length_pos_iff.mpr hs
   have hw:=YT s hs
   have e:((dec s).2:Int).toNat=(dec s).2:=q3 _
   rw [if_pos (by omega),rG N s hs,q0]
   simp only [e]
   rw [Af _ (by simp only [List.length_singleton];omega),Af _ (by omega),ih _ _ (by rw [zk];omega) (by rw [q9,List.length_singleton,zk];omega),ML hs,zu]
   rfl
theorem Vq(N:Nat)(s:W2)(hb:s.length<=1048576)(hN:s.length<N):FJ N s=some (Ac5 s):=by
 rw [FJ,Xq N N s [] hN (by simpa using hb),j7]
def Kl(c:Int):Int:=if(65<=c/\c<=90)\/(192<=c/\c<=222/\c≠215)\/(913<=c/\c<=937/\c≠930)\/(1040<=c/\c<=1071)then c+32 else if 1024<=c/\c<=1039 then c+80 else if c=962 then 963 else c
theorem dT{p:Prop}[Decidable p](h:p):true=decide p:=(zf h).symm
theorem dF{p:Prop}[Decidable p](h: ¬p):false=decide p:=(ze h).symm
theorem am(c:Int)(b:Bool)(hb:b=decide ((65<=c/\c<=90)\/(192<=c/\c<=222/\c≠215)\/(913<=c/\c<=937/\c≠930)\/(1040<=c/\c<=1071))):Ez c b=some (Kl c):=by
 unfold Ez Hh Kl
 cases b with
 |true=>have h:=zd hb.symm;rw [if_pos Z,if_pos h,Af _ (by omega)]
 |false=>
  have h:=of_decide_eq_false hb.symm
  rw [if_neg (by decide),if_neg h]
  by_cases h1:c>=1024
  ·rw [if_pos h1]
   by_cases h2:c<=1039
   ·rw [zf h2,if_pos Z,if_pos ⟨h1,h2⟩,Af _ (by omega)]
   ·rw [ze h2,if_neg (by decide),if_neg (show¬(1024<=c/\c<=1039)from λh'=>h2 h'.2)];split<;>rfl
  ·rw [if_neg h1,if_neg (by decide),if_neg (show¬(1024<=c/\c<=1039)from λh'=>h1 h'.1)];split<;>rfl
theorem UU(c:Int)(b:Bool)(hb:b=decide ((65<=c/\c<=90)\/(192<=c/\c<=222/\c≠215)\/(913<=c/\c<=937/\c≠930))):Dh c b=some (Kl c):=by
 unfold Dh
 cases b with
 |true=>have h:=zd hb.symm;exact am c true (dT (by omega))
 |false=>
  have h:=of_decide_eq_false hb.symm
  rw [if_neg (by decide)]
  split
  ·exact am c _ (decide_eq_decide.2 (by omega))
  ·exact am c false (dF (by omega))
theorem jg(c k:Int):(c !=k)=decide (c≠k):=by rw [Bool.eq_iff_iff];simp
theorem UV(c:Int)(b:Bool)(hb:b=decide ((65<=c/\c<=90)\/(192<=c/\c<=222/\c≠215))):Di c b=some (Kl c):=by
 unfold Di
 cases b with
 |true=>have h:=zd hb.symm;exact UU c true (dT (by omega))
 |false=>
  have h:=of_decide_eq_false hb.symm
  rw [if_neg (by decide)]
  split
  ·split
   ·exact UU c _ ((jg c 930).trans (decide_eq_decide.2 (by omega)))
   ·exact UU c false (dF (by omega))
  ·exact UU c false (dF (by omega))
theorem gP(c:Int)(b:Bool)(hb:b=decide (65<=c/\c<=90)):FK c b=some (Kl c):=by
 unfold FK
 cases b with
 |true=>have h:=zd hb.symm;exact UV c true (dT (by omega))
 |false=>
  have h:=of_decide_eq_false hb.symm
  rw [if_neg (by decide)]
  split
  ·split
   ·exact UV c _ ((jg c 215).trans (decide_eq_decide.2 (by omega)))
   ·exact UV c false (dF (by omega))
  ·exact UV c false (dF (by omega))
theorem iY(N:Nat)(c:Int):Hz N c=some (Kl c):=by
 unfold Hz
 split
 ·exact gP c _ (decide_eq_decide.2 (by omega))
 ·exact gP c false (dF (by omega))
theorem wW{c:Int}(h:((65<=c/\c<=90)\/(97<=c/\c<=122)\/c=95\/(192<=c/\c<=591)\/(913<=c/\c<=969)\/(1024<=c/\c<=1279))/\c≠215/\c≠247/\c≠930):some true=some (LO c):=congrArg some (zf h).symm
theorem wX{c:Int}(h: ¬(((65<=c/\c<=90)\/(97<=c/\c<=122)\/c=95\/(192<=c/\c<=591)\/(913<=c/\c<=969)\/(1024<=c/\c<=1279))/\c≠215/\c≠247/\c≠930)):some false=some (LO c):=congrArg some (ze h).symm
theorem xM{c:Int}{p:Prop}[Decidable p](h:p↔(((65<=c/\c<=90)\/(97<=c/\c<=122)\/c=95\/(192<=c/\c<=591)\/(913<=c/\c<=969)\/(1024<=c/\c<=1279))/\c≠215/\c≠247/\c≠930)):some (decide p)=some (LO c):=congrArg some (decide_eq_decide.mpr h)
theorem PX(c k:Int):(c==k)=decide (c=k):=by rw [Bool.eq_iff_iff];simp
section
variable (c:Int) (hn: ¬((65<=c/\c<=90)\/(97<=c/\c<=122)\/c=95))
include hn
theorem ff(h2:c≠215/\c≠247/\c≠930)(b:Bool)(hb:b=decide ((192<=c/\c<=591)\/(913<=c/\c<=969))):Dt c b=some (LO c):=by
 unfold Dt
 cases b with
 |true=>have h:=zd hb.symm;exact wW (by omega)
 |false=>
  have h:=of_decide_eq_false hb.symm
  rw [if_neg (by decide)]
  split
  ·exact xM (by omega)
  ·exact wX (by omega)
theorem lw(h2:c≠215/\c≠247/\c≠930)(b:Bool)(hb:b=decide (192<=c/\c<=591)):ES c b=some (LO c):=by
 unfold ES
 cases b with
 |true=>have h:=zd hb.symm;exact ff c hn h2 true (dT (by omega))
 |false=>
  have h:=of_decide_eq_false hb.symm
  rw [if_neg (by decide)]
  split
  ·exact ff c hn h2 _ (decide_eq_decide.2 (by omega))
  ·exact ff c hn h2 false (dF (by omega))
theorem ly(b:Bool)(hb:b=decide (c=215\/c=247\/c=930)):ET c b=some (LO c):=by
 unfold ET
 cases b with
 |true=>have h:=zd hb.symm;exact wX (by omega)
 |false=>
  have h:=of_decide_eq_false hb.symm
  rw [if_neg (by decide)]
  split
  ·exact lw c hn (by omega) _ (decide_eq_decide.2 (by omega))
  ·exact lw c hn (by omega) false (dF (by omega))
theorem lA(b:Bool)(hb:b=decide (c=215\/c=247)):EU c b=some (LO c):=by
 unfold EU
 cases b with
 |true=>have h:=zd hb.symm;exact ly c hn true (dT (by omega))
 |false=>have h:=of_decide_eq_false hb.symm;exact ly c hn _ ((PX c 930).trans (decide_eq_decide.2 (by omega)))
end
theorem lB(c:Int)(b:Bool)(hb:b=decide ((65<=c/\c<=90)\/(97<=c/\c<=122)\/c=95)):EV c b=some (LO c):=by
 unfold EV
 cases b with
 |true=>have h:=zd hb.symm;exact wW (by omega)
 |false=>
  have h:=of_decide_eq_false hb.symm
  rw [if_neg (by decide)]
  split
  ·exact lA c h true (dT (by omega))
  ·exact lA c h _ ((PX c 247).trans (decide_eq_decide.2 (by omega)))
theorem fh(c:Int)(b:Bool)(hb:b=decide ((65<=c/\c<=90)\/(97<=c/\c<=122))):Du c b=some (LO c):=by
 unfold Du
 cases b with
 |true=>have h:=zd hb.symm;exact lB c true (dT (by omega))
 |false=>have h:=of_decide_eq_false hb.symm;exact lB c _ ((PX c 95).trans (decide_eq_decide.2 (by omega)))
theorem lC(c:Int)(b:Bool)(hb:b=decide (65<=c/\c<=90)):EW c b=some (LO c):=by
 unfold EW
 cases b with
 |true=>have h:=zd hb.symm;exact fh c true (dT (by omega))
 |false=>
  have h:=of_decide_eq_false hb.symm
  rw [if_neg (by decide)]
  split
  ·exact fh c _ (decide_eq_decide.2 (by omega))
  ·exact fh c false (dF (by omega))
theorem Ui(N:Nat)(c:Int):Fl N c=some (LO c):=by
 unfold Fl
 split
 ·exact lC c _ (decide_eq_decide.2 (by omega))
 ·exact lC c false (dF (by omega))
def QJ(s:W2):List Int:=(Ac5 s).map Kl
theorem ln(l:List Int)(i:Nat)(h:i<l.length):((l.take i).map Kl++l.drop i)[i]! =l[i]!/\((l.take i).map Kl++l.drop i).set i (Kl (l[i]!))=(l.take (i+1)).map Kl++l.drop (i+1):=by
 have hl:((l.take i).map Kl).length=i:=by rw [q8,q7];omega
 have hd:l.drop i=l[i]!::l.drop (i+1):=by rw [j5 h,zg l i h]
 have ht:l.take (i+1)=l.take i++ [l[i]!]:=by rw [List.take_add_one,zo h,zg l i h];rfl
 refine⟨?_, ?_⟩
 ·rw [List.getElem!_eq_getElem?_getD,List.getElem?_append_right (by omega),hl,Nat.sub_self,hd];rfl
 ·rw [List.set_append_right _ _ (by omega),hl,Nat.sub_self,hd,List.set_cons_zero,ht,List.map_append,zu];rfl
theorem Zw(N:Nat)(l:List Int)(hl:l.length<=1048576): ∀(k f i:Nat),i+k=l.length->k<f->Dg N f ((l.take i).map Kl++l.drop i) (i:Int)=some (l.map Kl):=by
 intro k
 induction k with
 |zero=>
  intro f i hi hf
  obtain⟨f,rfl⟩: ∃n,f=n+1:=⟨f - 1,by omega⟩
  have hlen:((l.take i).map Kl++l.drop i).length=l.length:=by rw [q9,q8,q7,zk];omega
  rw [Dg,hlen,if_neg (by omega),j6 (by omega),List.drop_of_length_le (by omega),List.append_nil]
 |succ k ih=>
  intro f i hi hf
  obtain⟨f,rfl⟩: ∃n,f=n+1:=⟨f - 1,by omega⟩
  have hlen:((l.take i).map Kl++l.drop i).length=l.length:=by rw [q9,q8,q7,zk];omega
  obtain⟨h1,h2⟩:=ln l i (by omega)
  have e1:(i:Int)+1=((i+1:Nat):Int):=by omega
  rw [Dg,hlen,if_pos (by omega),Af _ (by omega),q3,h1,iY,q0,Af _ (by omega),Af _ (by omega),h2,e1]
  exact ih f (i+1) (by omega) (by omega)
theorem YE(N:Nat)(s:W2)(hb:s.length<=1048576)(hN:s.length<N):Gw N s=some (QJ s):=by
 have hl:=RQ s
 rw [Gw,Vq N s hb hN,q0]
 have:=Zw N (Ac5 s) (by omega) (Ac5 s).length N 0 (by omega) (by omega)
 exact this
def SC:List Int->List Int->Int
 | [],[]=>0
 | [],_::_=> -1
 |_::_,[]=>1
 |x::a,y::b=>if x<y then -1 else if x>y then 1 else SC a b
theorem Tz: ∀a:List Int,SC a a=0
 | []=>rfl
 |x::a=>by rw [SC,if_neg (by omega),if_neg (by omega),Tz a]
theorem Xr(a b:List Int)(ha:a.length<=1048576): ∀(k f i:Nat),a.length<=i+k->k<f->i<=a.length->i<=b.length->BP a b f (i:Int)=some (SC (a.drop i) (b.drop i)):=by
 intro k
 induction k with
 |zero=>
  intro f i hi hf h1 h2
  obtain⟨f,rfl⟩: ∃n,f=n+1:=⟨f - 1,by omega⟩
  have ea:a.drop i=[]:=List.drop_of_length_le (by omega)
  rw [BP,if_neg (by omega),CJ,if_neg (by decide),ea]
  by_cases hb1:i<b.length
  ·rw [if_pos (by omega),j5 hb1];rfl
  ·rw [if_neg (by omega),if_neg (by omega),List.drop_of_length_le (by omega:b.length<=i)];rfl
 |succ k ih=>
  intro f i hi hf h1 h2
  obtain⟨f,rfl⟩: ∃n,f=n+1:=⟨f - 1,by omega⟩
  have e1:(i:Int)+1=((i+1:Nat):Int):=by omega
  rw [BP]
  by_cases ha1:i<a.length
  ·have ea:a.drop i=a[i]!::a.drop (i+1):=by rw [j5 ha1,zg a i ha1]
   rw [if_pos (by omega),ea]
   by_cases hb1:i<b.length
   ·have eb:b.drop i=b[i]!::b.drop (i+1):=by rw [j5 hb1,zg b i hb1]
    rw [zf (by omega),eb,SC,CJ,if_pos Z,Af _ (by omega),Af _ (by omega),q3]
    by_cases hlt:a[i]!<b[i]!
    ·rw [if_pos hlt,if_pos hlt]
    ·rw [if_neg hlt,if_neg hlt,Af _ (by omega),Af _ (by omega)]
     by_cases hgt:a[i]!>b[i]!
     ·rw [if_pos hgt,if_pos hgt]
     ·rw [if_neg hgt,if_neg hgt,Af _ (by omega),e1,ih f (i+1) (by omega) (by omega) (by omega) (by omega)]
   ·rw [ze (by omega),CJ,if_neg (by decide),if_neg (by omega),if_pos (by omega),List.drop_of_length_le (by omega:b.length<=i)];rfl
  ·have ea:a.drop i=[]:=List.drop_of_length_le (by omega)
   rw [if_neg (by omega),CJ,if_neg (by decide),ea]
   by_cases hb1:i<b.length
   ·rw [if_pos (by omega),j5 hb1];rfl
   ·rw [if_neg (by omega),if_neg (by omega),List.drop_of_length_le (by omega:b.length<=i)];rfl
theorem eV(N:Nat)(a b:List Int)(ha:a.length<=1048576)(hN:a.length<N):Hg N a b=some (SC a b):=by
 have:=Xr a b ha a.length N 0 (by omega) hN (by omega) (by omega)
 rw [Hg];exact this
theorem jj(s:W2):(QJ s).length<=s.length:=by unfold QJ;rw [q8];exact RQ s
end Go.Proofs.YtjlomkippigejaaGreatDoor
namespace Go.Proofs.YtjlomkippigejaaGreatDoor
open Go Go.RowKit Go.Eng
theorem VA: ∀a b:List Int,(SC a b=0/\a=b)\/(SC a b= -1/\SC b a=1)\/(SC a b=1/\SC b a= -1)
 | [],[]=> .inl ⟨Z,Z⟩
 | [],_::_=> .inr (.inl ⟨Z,Z⟩)
 |_::_,[]=> .inr (.inr ⟨Z,Z⟩)
 |x::a,y::b=>by
  rw [SC,SC]
  by_cases h1:x<y
  ·rw [if_pos h1,if_neg (by omega),if_pos (by omega)];exact .inr (.inl ⟨Z,Z⟩)
  ·rw [if_neg h1]
   by_cases h2:x>y
   ·rw [if_pos h2,if_pos (by omega)];exact .inr (.inr ⟨Z,Z⟩)
   ·rw [if_neg h2,if_neg (by omega),if_neg (by omega)]
    have:x=y:=by omega
    subst this
    rcases VA a b with⟨h3,rfl⟩|h3|h3
    ·exact .inl ⟨h3,Z⟩
    ·exact .inr (.inl h3)
    ·exact .inr (.inr h3)
theorem gO{c:Int}(h:okR c):okR (Kl c):=by
 unfold okR Kl at*;split
 ·omega
 ·split
  ·omega
  ·split<;>omega
theorem rh(s:W2): ∀n∈QJ s,okR n:=by
 unfold QJ
 intro n hn
 obtain⟨c,hc,rfl⟩:=List.mem_map.mp hn
 exact gO (iK s c hc)
def SI(s:W2):W2:=Zt (QJ s)
theorem Yz(s:W2):Ac5 (SI s)=QJ s:=Vl _ (rh s)
theorem ri{a b:W2}:SI a=SI b↔QJ a=QJ b:=by
 refine⟨λh=> ?_,λh=>by unfold SI;rw [h]⟩
 rw [<-Yz a,h,Yz]
end Go.Proofs.YtjlomkippigejaaGreatDoor
namespace Go.Proofs.YtjlomkippigejaaGreatDoor
open Go Go.RowKit Go.Eng
theorem xn(l:List Int)(i:Nat)(h:i<l.length):l.drop i=l[i]!::l.drop (i+1):=by rw [j5 h,zg l i h]
theorem ra(l:List Int)(i:Nat)(hi:i<l.length)(hl:l.length<=1048576)(rec:Int->Option Bool)(b:Bool):
  Ff l (i:Int) rec b=if b=true/\l[i]!≠45/\l[i]!≠46 then some false else rec ((i:Int)+1):=by
 have f7:Gu (i:Int) rec false=rec ((i:Int)+1):=by rw [Gu,if_neg (by decide),Af _ (by omega)]
 have f6:Fe l (i:Int) rec false=rec ((i:Int)+1):=by rw [Fe,if_neg (by decide),f7]
 unfold Ff
 cases b with
 |false=>rw [if_neg (by decide),f6,if_neg (λh=>by simp at h)]
 |true=>
  rw [if_pos Z,Af _ (by omega),q3]
  by_cases a:l[i]! =45
  ·rw [jg,ze (by omega),f6,if_neg (by omega)]
  ·rw [jg,zf a,Fe,if_pos Z,Af _ (by omega),q3]
   by_cases c:l[i]! =46
   ·rw [jg,ze (by omega),f7,if_neg (by omega)]
   ·rw [jg,zf c,if_pos ⟨Z,a,c⟩];rfl
theorem bK(N:Nat)(l:List Int)(hl:l.length<=1048576): ∀(k f i:Nat),i+k=l.length->k<f->BC N l f (i:Int)=some ((l.drop i).all inR):=by
 intro k
 induction k with
 |zero=>
  intro f i hi hf
  obtain⟨f,rfl⟩: ∃n,f=n+1:=⟨f - 1,by omega⟩
  rw [BC,if_neg (by omega),List.drop_of_length_le (by omega)];rfl
 |succ k ih=>
  intro f i hi hf
  obtain⟨f,rfl⟩: ∃n,f=n+1:=⟨f - 1,by omega⟩
  have e1:(i:Int)+1=((i+1:Nat):Int):=by omega
  have g:(0:Int)<=(i:Int)/\(i:Int)<(l.length:Int):=by omega
  rw [BC,if_pos (by omega),Af _ g,Ui,q0]
  simp only [Af _ g,ra l i (by omega) hl]
  rw [e1,ih f (i+1) (by omega) (by omega),q3,xn l i (by omega),List.all_cons]
  generalize l[i]! =c
  unfold inR
  by_cases h1:LO c=true
  ·rw [if_pos h1,h1,if_neg (λh=>by simp at h)];rfl
  ·have h1':LO c=false:=by simpa using h1
   rw [if_neg h1,h1',Bool.false_or]
   by_cases h2:(48<=c/\c<=57)\/c=45\/c=46
   ·rw [zf h2,Bool.true_and]
    by_cases h3:c>=48
    ·rw [if_pos h3,if_neg (λ⟨p,q,r⟩=>by simp only [Bool.not_eq_true',decide_eq_false_iff_not] at p;omega)]
    ·rw [if_neg h3,if_neg (λ⟨_,p,q⟩=>by omega)]
   ·rw [ze h2,Bool.false_and]
    by_cases h3:c>=48
    ·rw [if_pos h3,if_pos ⟨by simp only [Bool.not_eq_true',decide_eq_false_iff_not];omega,by omega,by omega⟩]
    ·rw [if_neg h3,if_pos ⟨trivial,by omega,by omega⟩]
theorem bJ(N:Nat)(s:W2)(hb:s.length<=1048576)(hN:s.length<N):GT N s=some (bV (Ac5 s)):=by
 have hl:=RQ s
 rw [GT,Vq N s hb hN,q0]
 generalize Ac5 s=l at hl
 unfold bV
 by_cases h1:(l.length:Int)<1
 ·rw [if_pos h1,ze (by omega)];rfl
 rw [if_neg h1]
 by_cases h2:(l.length:Int)>24
 ·rw [zf h2,ze (by omega)];rfl
 rw [ze h2,Hy,if_neg (by decide),zf (by omega),Af _ (by omega),Ui,q0,Bool.true_and]
 show Gv N l (!LO (l[0]!))=_
 by_cases h3:LO (l[0]!)=true
 ·rw [h3,Gv,if_neg (by decide)]
  exact bK N l (by omega) l.length N 0 (by omega) (by omega)
 ·have h3':LO (l[0]!)=false:=by simpa using h3
  rw [h3'];rfl
end Go.Proofs.YtjlomkippigejaaGreatDoor
