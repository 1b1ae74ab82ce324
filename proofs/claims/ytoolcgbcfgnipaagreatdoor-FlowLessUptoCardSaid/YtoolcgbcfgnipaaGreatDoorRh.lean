import Derived.Test.YtoolcgbcfgnipaaGreatDoorRb
import Derived.Test.YtoolcgbcfgnipaaGreatDoorRp
import Derived.Test.YtoolcgbcfgnipaaGreatDoorBk
namespace Go.Proofs.YtoolcgbcfgnipaaGreatDoor
open Go Go.RowKit Go.Eng
theorem Wk(N:Nat): ∀(f:Nat) (s:List UInt8) (l:List Int),s.length<f→l.length+s.length≤1048576→Dx N f s l=some (l++Ac4 s):=by
 intro f
 induction f with
 |zero=>intro s l h;omega
 |succ f ih=>
  intro s l h hl
  rw [Dx]
  by_cases hs:s=[]
  ·subst hs
   rw [if_neg (by simp),di,List.append_nil]
  ·have hpos:=List.length_pos_iff.mpr hs
   have hw:=Xr s hs
   have e:((dec s).2:Int).toNat=(dec s).2:=q3 _
   rw [if_pos (by omega),pP N s hs,q0]
   simp only [e]
   rw [Aj _ (by simp only [List.length_singleton];omega),Aj _ (by omega),ih _ _ (by rw [zk];omega) (by rw [q9,List.length_singleton,zk];omega),Mk hs,zu]
   rfl
theorem Uq(N:Nat)(s:List UInt8)(hb:s.length≤1048576)(hN:s.length<N):Fj N s=some (Ac4 s):=by
 rw [Fj,Wk N N s [] hN (by simpa using hb),j7]
def JJ(c:Int):Int:=if(65≤c∧c≤90)∨(192≤c∧c≤222∧c≠215)∨(913≤c∧c≤937∧c≠930)∨(1040≤c∧c≤1071)then c+32 else if 1024≤c∧c≤1039 then c+80 else if c=962 then 963 else c
theorem dT{p:Prop}[Decidable p](h:p):true=decide p:=(zf h).symm
theorem dF{p:Prop}[Decidable p](h: ¬p):false=decide p:=(ze h).symm
theorem YG(c:Int)(b:Bool)(hb:b=decide ((65≤c∧c≤90)∨(192≤c∧c≤222∧c≠215)∨(913≤c∧c≤937∧c≠930)∨(1040≤c∧c≤1071))):Ea c b=some (JJ c):=by
 unfold Ea GI JJ
 cases b with
 |true=>have h:=zd hb.symm;rw [if_pos rfl,if_pos h,Aj _ (by omega)]
 |false=>
  have h:=of_decide_eq_false hb.symm
  rw [if_neg (by decide),if_neg h]
  by_cases h1:c≥1024
  ·rw [if_pos h1]
   by_cases h2:c≤1039
   ·rw [zf h2,if_pos rfl,if_pos ⟨h1,h2⟩,Aj _ (by omega)]
   ·rw [ze h2,if_neg (by decide),if_neg (show¬(1024≤c∧c≤1039)from fun h'=>h2 h'.2)];split<;>rfl
  ·rw [if_neg h1,if_neg (by decide),if_neg (show¬(1024≤c∧c≤1039)from fun h'=>h1 h'.1)];split<;>rfl
theorem TR(c:Int)(b:Bool)(hb:b=decide ((65≤c∧c≤90)∨(192≤c∧c≤222∧c≠215)∨(913≤c∧c≤937∧c≠930))):CN c b=some (JJ c):=by
 unfold CN
 cases b with
 |true=>have h:=zd hb.symm;exact YG c true (dT (by omega))
 |false=>
  have h:=of_decide_eq_false hb.symm
  rw [if_neg (by decide)]
  split
  ·exact YG c _ (decide_eq_decide.2 (by omega))
  ·exact YG c false (dF (by omega))
theorem gA(c k:Int):(c !=k)=decide (c≠k):=by rw [Bool.eq_iff_iff];simp
theorem TS(c:Int)(b:Bool)(hb:b=decide ((65≤c∧c≤90)∨(192≤c∧c≤222∧c≠215))):CO c b=some (JJ c):=by
 unfold CO
 cases b with
 |true=>have h:=zd hb.symm;exact TR c true (dT (by omega))
 |false=>
  have h:=of_decide_eq_false hb.symm
  rw [if_neg (by decide)]
  split
  ·split
   ·exact TR c _ ((gA c 930).trans (decide_eq_decide.2 (by omega)))
   ·exact TR c false (dF (by omega))
  ·exact TR c false (dF (by omega))
theorem fq(c:Int)(b:Bool)(hb:b=decide (65≤c∧c≤90)):Fk c b=some (JJ c):=by
 unfold Fk
 cases b with
 |true=>have h:=zd hb.symm;exact TS c true (dT (by omega))
 |false=>
  have h:=of_decide_eq_false hb.symm
  rw [if_neg (by decide)]
  split
  ·split
   ·exact TS c _ ((gA c 215).trans (decide_eq_decide.2 (by omega)))
   ·exact TS c false (dF (by omega))
  ·exact TS c false (dF (by omega))
theorem gn(N:Nat)(c:Int):Hc N c=some (JJ c):=by
 unfold Hc
 split
 ·exact fq c _ (decide_eq_decide.2 (by omega))
 ·exact fq c false (dF (by omega))
theorem uV{c:Int}(h:((65≤c∧c≤90)∨(97≤c∧c≤122)∨c=95∨(192≤c∧c≤591)∨(913≤c∧c≤969)∨(1024≤c∧c≤1279))∧c≠215∧c≠247∧c≠930):some true=some (Lm c):=congrArg some (zf h).symm
theorem uW{c:Int}(h: ¬(((65≤c∧c≤90)∨(97≤c∧c≤122)∨c=95∨(192≤c∧c≤591)∨(913≤c∧c≤969)∨(1024≤c∧c≤1279))∧c≠215∧c≠247∧c≠930)):some false=some (Lm c):=congrArg some (ze h).symm
theorem vO{c:Int}{p:Prop}[Decidable p](h:p↔(((65≤c∧c≤90)∨(97≤c∧c≤122)∨c=95∨(192≤c∧c≤591)∨(913≤c∧c≤969)∨(1024≤c∧c≤1279))∧c≠215∧c≠247∧c≠930)):some (decide p)=some (Lm c):=congrArg some (decide_eq_decide.mpr h)
theorem Pn(c k:Int):(c==k)=decide (c=k):=by rw [Bool.eq_iff_iff];simp
section
variable (c:Int) (hn: ¬((65≤c∧c≤90)∨(97≤c∧c≤122)∨c=95))
include hn
theorem dC(h2:c≠215∧c≠247∧c≠930)(b:Bool)(hb:b=decide ((192≤c∧c≤591)∨(913≤c∧c≤969))):CX c b=some (Lm c):=by
 unfold CX
 cases b with
 |true=>have h:=zd hb.symm;exact uV (by omega)
 |false=>
  have h:=of_decide_eq_false hb.symm
  rw [if_neg (by decide)]
  split
  ·exact vO (by omega)
  ·exact uW (by omega)
theorem jP(h2:c≠215∧c≠247∧c≠930)(b:Bool)(hb:b=decide (192≤c∧c≤591)):Eu c b=some (Lm c):=by
 unfold Eu
 cases b with
 |true=>have h:=zd hb.symm;exact dC c hn h2 true (dT (by omega))
 |false=>
  have h:=of_decide_eq_false hb.symm
  rw [if_neg (by decide)]
  split
  ·exact dC c hn h2 _ (decide_eq_decide.2 (by omega))
  ·exact dC c hn h2 false (dF (by omega))
theorem jQ(b:Bool)(hb:b=decide (c=215∨c=247∨c=930)):Ev c b=some (Lm c):=by
 unfold Ev
 cases b with
 |true=>have h:=zd hb.symm;exact uW (by omega)
 |false=>
  have h:=of_decide_eq_false hb.symm
  rw [if_neg (by decide)]
  split
  ·exact jP c hn (by omega) _ (decide_eq_decide.2 (by omega))
  ·exact jP c hn (by omega) false (dF (by omega))
theorem jR(b:Bool)(hb:b=decide (c=215∨c=247)):Ew c b=some (Lm c):=by
 unfold Ew
 cases b with
 |true=>have h:=zd hb.symm;exact jQ c hn true (dT (by omega))
 |false=>have h:=of_decide_eq_false hb.symm;exact jQ c hn _ ((Pn c 930).trans (decide_eq_decide.2 (by omega)))
end
theorem jS(c:Int)(b:Bool)(hb:b=decide ((65≤c∧c≤90)∨(97≤c∧c≤122)∨c=95)):Ex c b=some (Lm c):=by
 unfold Ex
 cases b with
 |true=>have h:=zd hb.symm;exact uV (by omega)
 |false=>
  have h:=of_decide_eq_false hb.symm
  rw [if_neg (by decide)]
  split
  ·exact jR c h true (dT (by omega))
  ·exact jR c h _ ((Pn c 247).trans (decide_eq_decide.2 (by omega)))
theorem dD(c:Int)(b:Bool)(hb:b=decide ((65≤c∧c≤90)∨(97≤c∧c≤122))):CY c b=some (Lm c):=by
 unfold CY
 cases b with
 |true=>have h:=zd hb.symm;exact jS c true (dT (by omega))
 |false=>have h:=of_decide_eq_false hb.symm;exact jS c _ ((Pn c 95).trans (decide_eq_decide.2 (by omega)))
theorem jT(c:Int)(b:Bool)(hb:b=decide (65≤c∧c≤90)):Ey c b=some (Lm c):=by
 unfold Ey
 cases b with
 |true=>have h:=zd hb.symm;exact dD c true (dT (by omega))
 |false=>
  have h:=of_decide_eq_false hb.symm
  rw [if_neg (by decide)]
  split
  ·exact dD c _ (decide_eq_decide.2 (by omega))
  ·exact dD c false (dF (by omega))
theorem Tj(N:Nat)(c:Int):EN N c=some (Lm c):=by
 unfold EN
 split
 ·exact jT c _ (decide_eq_decide.2 (by omega))
 ·exact jT c false (dF (by omega))
def Qa(s:List UInt8):List Int:=(Ac4 s).map JJ
theorem jL(l:List Int)(i:Nat)(h:i<l.length):((l.take i).map JJ++l.drop i)[i]! =l[i]!∧((l.take i).map JJ++l.drop i).set i (JJ (l[i]!))=(l.take (i+1)).map JJ++l.drop (i+1):=by
 have hl:((l.take i).map JJ).length=i:=by rw [q8,q7];omega
 have hd:l.drop i=l[i]!::l.drop (i+1):=by rw [j5 h,zg l i h]
 have ht:l.take (i+1)=l.take i++ [l[i]!]:=by rw [List.take_add_one,zo h,zg l i h];rfl
 refine⟨?_, ?_⟩
 ·rw [List.getElem!_eq_getElem?_getD,List.getElem?_append_right (by omega),hl,Nat.sub_self,hd];rfl
 ·rw [List.set_append_right _ _ (by omega),hl,Nat.sub_self,hd,List.set_cons_zero,ht,List.map_append,zu];rfl
theorem XW(N:Nat)(l:List Int)(hl:l.length≤1048576): ∀(k f i:Nat),i+k=l.length→k<f→CM N f ((l.take i).map JJ++l.drop i) (i:Int)=some (l.map JJ):=by
 intro k
 induction k with
 |zero=>
  intro f i hi hf
  obtain⟨f,rfl⟩: ∃n,f=n+1:=⟨f - 1,by omega⟩
  have hlen:((l.take i).map JJ++l.drop i).length=l.length:=by rw [q9,q8,q7,zk];omega
  rw [CM,hlen,if_neg (by omega),j6 (by omega),List.drop_of_length_le (by omega),List.append_nil]
 |succ k ih=>
  intro f i hi hf
  obtain⟨f,rfl⟩: ∃n,f=n+1:=⟨f - 1,by omega⟩
  have hlen:((l.take i).map JJ++l.drop i).length=l.length:=by rw [q9,q8,q7,zk];omega
  obtain⟨h1,h2⟩:=jL l i (by omega)
  have e1:(i:Int)+1=((i+1:Nat):Int):=by omega
  rw [CM,hlen,if_pos (by omega),Aj _ (by omega),q3,h1,gn,q0,Aj _ (by omega),Aj _ (by omega),h2,e1]
  exact ih f (i+1) (by omega) (by omega)
theorem Xd(N:Nat)(s:List UInt8)(hb:s.length≤1048576)(hN:s.length<N):Ge N s=some (Qa s):=by
 have hl:=QY s
 rw [Ge,Uq N s hb hN,q0]
 have:=XW N (Ac4 s) (by omega) (Ac4 s).length N 0 (by omega) (by omega)
 exact this
def RC:List Int→List Int→Int
 | [],[]=>0
 | [],_::_=> -1
 |_::_,[]=>1
 |x::a,y::b=>if x<y then -1 else if x>y then 1 else RC a b
theorem SE: ∀a:List Int,RC a a=0
 | []=>rfl
 |x::a=>by rw [RC,if_neg (by omega),if_neg (by omega),SE a]
theorem Wl(a b:List Int)(ha:a.length≤1048576): ∀(k f i:Nat),a.length≤i+k→k<f→i≤a.length→i≤b.length→BG a b f (i:Int)=some (RC (a.drop i) (b.drop i)):=by
 intro k
 induction k with
 |zero=>
  intro f i hi hf h1 h2
  obtain⟨f,rfl⟩: ∃n,f=n+1:=⟨f - 1,by omega⟩
  have ea:a.drop i=[]:=List.drop_of_length_le (by omega)
  rw [BG,if_neg (by omega),Ct,if_neg (by decide),ea]
  by_cases hb1:i<b.length
  ·rw [if_pos (by omega),j5 hb1];rfl
  ·rw [if_neg (by omega),if_neg (by omega),List.drop_of_length_le (by omega:b.length≤i)];rfl
 |succ k ih=>
  intro f i hi hf h1 h2
  obtain⟨f,rfl⟩: ∃n,f=n+1:=⟨f - 1,by omega⟩
  have e1:(i:Int)+1=((i+1:Nat):Int):=by omega
  rw [BG]
  by_cases ha1:i<a.length
  ·have ea:a.drop i=a[i]!::a.drop (i+1):=by rw [j5 ha1,zg a i ha1]
   rw [if_pos (by omega),ea]
   by_cases hb1:i<b.length
   ·have eb:b.drop i=b[i]!::b.drop (i+1):=by rw [j5 hb1,zg b i hb1]
    rw [zf (by omega),eb,RC,Ct,if_pos rfl,Aj _ (by omega),Aj _ (by omega),q3]
    by_cases hlt:a[i]!<b[i]!
    ·rw [if_pos hlt,if_pos hlt]
    ·rw [if_neg hlt,if_neg hlt,Aj _ (by omega),Aj _ (by omega)]
     by_cases hgt:a[i]!>b[i]!
     ·rw [if_pos hgt,if_pos hgt]
     ·rw [if_neg hgt,if_neg hgt,Aj _ (by omega),e1,ih f (i+1) (by omega) (by omega) (by omega) (by omega)]
   ·rw [ze (by omega),Ct,if_neg (by decide),if_neg (by omega),if_pos (by omega),List.drop_of_length_le (by omega:b.length≤i)];rfl
  ·have ea:a.drop i=[]:=List.drop_of_length_le (by omega)
   rw [if_neg (by omega),Ct,if_neg (by decide),ea]
   by_cases hb1:i<b.length
   ·rw [if_pos (by omega),j5 hb1];rfl
   ·rw [if_neg (by omega),if_neg (by omega),List.drop_of_length_le (by omega:b.length≤i)];rfl
theorem dl(N:Nat)(a b:List Int)(ha:a.length≤1048576)(hN:a.length<N):GH N a b=some (RC a b):=by
 have:=Wl a b ha a.length N 0 (by omega) hN (by omega) (by omega)
 rw [GH];exact this
theorem gE(s:List UInt8):(Qa s).length≤s.length:=by unfold Qa;rw [q8];exact QY s
end Go.Proofs.YtoolcgbcfgnipaaGreatDoor
namespace Go.Proofs.YtoolcgbcfgnipaaGreatDoor
open Go Go.RowKit Go.Eng
theorem Uy: ∀a b:List Int,(RC a b=0∧a=b)∨(RC a b= -1∧RC b a=1)∨(RC a b=1∧RC b a= -1)
 | [],[]=> .inl ⟨rfl,rfl⟩
 | [],_::_=> .inr (.inl ⟨rfl,rfl⟩)
 |_::_,[]=> .inr (.inr ⟨rfl,rfl⟩)
 |x::a,y::b=>by
  rw [RC,RC]
  by_cases h1:x<y
  ·rw [if_pos h1,if_neg (by omega),if_pos (by omega)];exact .inr (.inl ⟨rfl,rfl⟩)
  ·rw [if_neg h1]
   by_cases h2:x>y
   ·rw [if_pos h2,if_pos (by omega)];exact .inr (.inr ⟨rfl,rfl⟩)
   ·rw [if_neg h2,if_neg (by omega),if_neg (by omega)]
    have:x=y:=by omega
    subst this
    rcases Uy a b with⟨h3,rfl⟩|h3|h3
    ·exact .inl ⟨h3,rfl⟩
    ·exact .inr (.inl h3)
    ·exact .inr (.inr h3)
theorem fp{c:Int}(h:okR c):okR (JJ c):=by
 unfold okR JJ at*;split
 ·omega
 ·split
  ·omega
  ·split<;>omega
theorem pB(s:List UInt8): ∀n∈Qa s,okR n:=by
 unfold Qa
 intro n hn
 obtain⟨c,hc,rfl⟩:=List.mem_map.mp hn
 exact fp (gc s c hc)
def RH(s:List UInt8):List UInt8:=XT (Qa s)
theorem WY(s:List UInt8):Ac4 (RH s)=Qa s:=Ul _ (pB s)
theorem pC{a b:List UInt8}:RH a=RH b↔Qa a=Qa b:=by
 refine⟨fun h=> ?_,fun h=>by unfold RH;rw [h]⟩
 rw [←WY a,h,WY]
end Go.Proofs.YtoolcgbcfgnipaaGreatDoor
namespace Go.Proofs.YtoolcgbcfgnipaaGreatDoor
open Go Go.RowKit Go.Eng
theorem vm(l:List Int)(i:Nat)(h:i<l.length):l.drop i=l[i]!::l.drop (i+1):=by rw [j5 h,zg l i h]
theorem pw(l:List Int)(i:Nat)(hi:i<l.length)(hl:l.length≤1048576)(rec:Int→Option Bool)(b:Bool):
  EF l (i:Int) rec b=if b=true∧l[i]!≠45∧l[i]!≠46 then some false else rec ((i:Int)+1):=by
 have f7:Gc (i:Int) rec false=rec ((i:Int)+1):=by rw [Gc,if_neg (by decide),Aj _ (by omega)]
 have f6:EE l (i:Int) rec false=rec ((i:Int)+1):=by rw [EE,if_neg (by decide),f7]
 unfold EF
 cases b with
 |false=>rw [if_neg (by decide),f6,if_neg (fun h=>by simp at h)]
 |true=>
  rw [if_pos rfl,Aj _ (by omega),q3]
  by_cases a:l[i]! =45
  ·rw [gA,ze (by omega),f6,if_neg (by omega)]
  ·rw [gA,zf a,EE,if_pos rfl,Aj _ (by omega),q3]
   by_cases c:l[i]! =46
   ·rw [gA,ze (by omega),f7,if_neg (by omega)]
   ·rw [gA,zf c,if_pos ⟨rfl,a,c⟩];rfl
theorem ZX(N:Nat)(l:List Int)(hl:l.length≤1048576): ∀(k f i:Nat),i+k=l.length→k<f→Bx N l f (i:Int)=some ((l.drop i).all inR):=by
 intro k
 induction k with
 |zero=>
  intro f i hi hf
  obtain⟨f,rfl⟩: ∃n,f=n+1:=⟨f - 1,by omega⟩
  rw [Bx,if_neg (by omega),List.drop_of_length_le (by omega)];rfl
 |succ k ih=>
  intro f i hi hf
  obtain⟨f,rfl⟩: ∃n,f=n+1:=⟨f - 1,by omega⟩
  have e1:(i:Int)+1=((i+1:Nat):Int):=by omega
  have g:(0:Int)≤(i:Int)∧(i:Int)<(l.length:Int):=by omega
  rw [Bx,if_pos (by omega),Aj _ g,Tj,q0]
  simp only [Aj _ g,pw l i (by omega) hl]
  rw [e1,ih f (i+1) (by omega) (by omega),q3,vm l i (by omega),List.all_cons]
  generalize l[i]! =c
  unfold inR
  by_cases h1:Lm c=true
  ·rw [if_pos h1,h1,if_neg (fun h=>by simp at h)];rfl
  ·have h1':Lm c=false:=by simpa using h1
   rw [if_neg h1,h1',Bool.false_or]
   by_cases h2:(48≤c∧c≤57)∨c=45∨c=46
   ·rw [zf h2,Bool.true_and]
    by_cases h3:c≥48
    ·rw [if_pos h3,if_neg (fun⟨p,q,r⟩=>by simp only [Bool.not_eq_true',decide_eq_false_iff_not] at p;omega)]
    ·rw [if_neg h3,if_neg (fun⟨_,p,q⟩=>by omega)]
   ·rw [ze h2,Bool.false_and]
    by_cases h3:c≥48
    ·rw [if_pos h3,if_pos ⟨by simp only [Bool.not_eq_true',decide_eq_false_iff_not];omega,by omega,by omega⟩]
    ·rw [if_neg h3,if_pos ⟨trivial,by omega,by omega⟩]
theorem ZW(N:Nat)(s:List UInt8)(hb:s.length≤1048576)(hN:s.length<N):Gw N s=some (aj (Ac4 s)):=by
 have hl:=QY s
 rw [Gw,Uq N s hb hN,q0]
 generalize Ac4 s=l at hl
 unfold aj
 by_cases h1:(l.length:Int)<1
 ·rw [if_pos h1,ze (by omega)];rfl
 rw [if_neg h1]
 by_cases h2:(l.length:Int)>24
 ·rw [zf h2,ze (by omega)];rfl
 rw [ze h2,Hb,if_neg (by decide),zf (by omega),Aj _ (by omega),Tj,q0,Bool.true_and]
 show Gd N l (!Lm (l[0]!))=_
 by_cases h3:Lm (l[0]!)=true
 ·rw [h3,Gd,if_neg (by decide)]
  exact ZX N l (by omega) l.length N 0 (by omega) (by omega)
 ·have h3':Lm (l[0]!)=false:=by simpa using h3
  rw [h3'];rfl
end Go.Proofs.YtoolcgbcfgnipaaGreatDoor
