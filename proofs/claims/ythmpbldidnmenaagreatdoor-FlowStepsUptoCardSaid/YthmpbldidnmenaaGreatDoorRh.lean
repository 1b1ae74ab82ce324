import Derived.Test.YthmpbldidnmenaaGreatDoorRb
import Derived.Test.YthmpbldidnmenaaGreatDoorBl
namespace Go.Proofs.YthmpbldidnmenaaGreatDoor
open Go Go.RowKit Go.Eng
theorem Wd(N:Nat): ∀(f:Nat) (s:List UInt8) (l:List Int),s.length<f→l.length+s.length≤1048576→DA N f s l=some (l++Ae5 s):=by
 intro f
 induction f with
 |zero=>intro s l h;omega
 |succ f ih=>
  intro s l h hl
  rw [DA]
  by_cases hs:s=[]
  ·subst hs
   rw [if_neg (by simp),co,List.append_nil]
  ·have hpos:=List.length_pos_iff.mpr hs
   have hw:=aW s hs
   have e:((dec s).2:Int).toNat=(dec s).2:=q3 _
   rw [if_pos (by omega),nX N s hs,q0]
   simp only [e]
   rw [Am _ (by simp only [List.length_singleton];omega),Am _ (by omega),ih _ _ (by rw [zk];omega) (by rw [q9,List.length_singleton,zk];omega),SV hs,zu]
   rfl
theorem Uh(N:Nat)(s:List UInt8)(hb:s.length≤1048576)(hN:s.length<N):Fe N s=some (Ae5 s):=by
 rw [Fe,Wd N N s [] hN (by simpa using hb),j7]
def LB(c:Int):Int:=if(65≤c∧c≤90)∨(192≤c∧c≤222∧c≠215)∨(913≤c∧c≤937∧c≠930)∨(1040≤c∧c≤1071)then c+32 else if 1024≤c∧c≤1039 then c+80 else if c=962 then 963 else c
theorem dT{p:Prop}[Decidable p](h:p):true=decide p:=(zf h).symm
theorem dF{p:Prop}[Decidable p](h: ¬p):false=decide p:=(ze h).symm
theorem YP(c:Int)(b:Bool)(hb:b=decide ((65≤c∧c≤90)∨(192≤c∧c≤222∧c≠215)∨(913≤c∧c≤937∧c≠930)∨(1040≤c∧c≤1071))):Ef c b=some (LB c):=by
 unfold Ef Gt LB
 cases b with
 |true=>have h:=zd hb.symm;rw [if_pos rfl,if_pos h,Am _ (by omega)]
 |false=>
  have h:=of_decide_eq_false hb.symm
  rw [if_neg (by decide),if_neg h]
  by_cases h1:c≥1024
  ·rw [if_pos h1]
   by_cases h2:c≤1039
   ·rw [zf h2,if_pos rfl,if_pos ⟨h1,h2⟩,Am _ (by omega)]
   ·rw [ze h2,if_neg (by decide),if_neg (show¬(1024≤c∧c≤1039)from fun h'=>h2 h'.2)];split<;>rfl
  ·rw [if_neg h1,if_neg (by decide),if_neg (show¬(1024≤c∧c≤1039)from fun h'=>h1 h'.1)];split<;>rfl
theorem TL(c:Int)(b:Bool)(hb:b=decide ((65≤c∧c≤90)∨(192≤c∧c≤222∧c≠215)∨(913≤c∧c≤937∧c≠930))):CQ c b=some (LB c):=by
 unfold CQ
 cases b with
 |true=>have h:=zd hb.symm;exact YP c true (dT (by omega))
 |false=>
  have h:=of_decide_eq_false hb.symm
  rw [if_neg (by decide)]
  split
  ·exact YP c _ (decide_eq_decide.2 (by omega))
  ·exact YP c false (dF (by omega))
theorem fw(c k:Int):(c !=k)=decide (c≠k):=by rw [Bool.eq_iff_iff];simp
theorem TM(c:Int)(b:Bool)(hb:b=decide ((65≤c∧c≤90)∨(192≤c∧c≤222∧c≠215))):CR c b=some (LB c):=by
 unfold CR
 cases b with
 |true=>have h:=zd hb.symm;exact TL c true (dT (by omega))
 |false=>
  have h:=of_decide_eq_false hb.symm
  rw [if_neg (by decide)]
  split
  ·split
   ·exact TL c _ ((fw c 930).trans (decide_eq_decide.2 (by omega)))
   ·exact TL c false (dF (by omega))
  ·exact TL c false (dF (by omega))
theorem eh(c:Int)(b:Bool)(hb:b=decide (65≤c∧c≤90)):Ff c b=some (LB c):=by
 unfold Ff
 cases b with
 |true=>have h:=zd hb.symm;exact TM c true (dT (by omega))
 |false=>
  have h:=of_decide_eq_false hb.symm
  rw [if_neg (by decide)]
  split
  ·split
   ·exact TM c _ ((fw c 215).trans (decide_eq_decide.2 (by omega)))
   ·exact TM c false (dF (by omega))
  ·exact TM c false (dF (by omega))
theorem fk(N:Nat)(c:Int):GO N c=some (LB c):=by
 unfold GO
 split
 ·exact eh c _ (decide_eq_decide.2 (by omega))
 ·exact eh c false (dF (by omega))
theorem sc{c:Int}(h:((65≤c∧c≤90)∨(97≤c∧c≤122)∨c=95∨(192≤c∧c≤591)∨(913≤c∧c≤969)∨(1024≤c∧c≤1279))∧c≠215∧c≠247∧c≠930):some true=some (OY c):=congrArg some (zf h).symm
theorem sd{c:Int}(h: ¬(((65≤c∧c≤90)∨(97≤c∧c≤122)∨c=95∨(192≤c∧c≤591)∨(913≤c∧c≤969)∨(1024≤c∧c≤1279))∧c≠215∧c≠247∧c≠930)):some false=some (OY c):=congrArg some (ze h).symm
theorem sN{c:Int}{p:Prop}[Decidable p](h:p↔(((65≤c∧c≤90)∨(97≤c∧c≤122)∨c=95∨(192≤c∧c≤591)∨(913≤c∧c≤969)∨(1024≤c∧c≤1279))∧c≠215∧c≠247∧c≠930)):some (decide p)=some (OY c):=congrArg some (decide_eq_decide.mpr h)
theorem OK(c k:Int):(c==k)=decide (c=k):=by rw [Bool.eq_iff_iff];simp
section
variable (c:Int) (hn: ¬((65≤c∧c≤90)∨(97≤c∧c≤122)∨c=95))
include hn
theorem cK(h2:c≠215∧c≠247∧c≠930)(b:Bool)(hb:b=decide ((192≤c∧c≤591)∨(913≤c∧c≤969))):CZ c b=some (OY c):=by
 unfold CZ
 cases b with
 |true=>have h:=zd hb.symm;exact sc (by omega)
 |false=>
  have h:=of_decide_eq_false hb.symm
  rw [if_neg (by decide)]
  split
  ·exact sN (by omega)
  ·exact sd (by omega)
theorem ip(h2:c≠215∧c≠247∧c≠930)(b:Bool)(hb:b=decide (192≤c∧c≤591)):Ez c b=some (OY c):=by
 unfold Ez
 cases b with
 |true=>have h:=zd hb.symm;exact cK c hn h2 true (dT (by omega))
 |false=>
  have h:=of_decide_eq_false hb.symm
  rw [if_neg (by decide)]
  split
  ·exact cK c hn h2 _ (decide_eq_decide.2 (by omega))
  ·exact cK c hn h2 false (dF (by omega))
theorem iq(b:Bool)(hb:b=decide (c=215∨c=247∨c=930)):EA c b=some (OY c):=by
 unfold EA
 cases b with
 |true=>have h:=zd hb.symm;exact sd (by omega)
 |false=>
  have h:=of_decide_eq_false hb.symm
  rw [if_neg (by decide)]
  split
  ·exact ip c hn (by omega) _ (decide_eq_decide.2 (by omega))
  ·exact ip c hn (by omega) false (dF (by omega))
theorem ir(b:Bool)(hb:b=decide (c=215∨c=247)):EB c b=some (OY c):=by
 unfold EB
 cases b with
 |true=>have h:=zd hb.symm;exact iq c hn true (dT (by omega))
 |false=>have h:=of_decide_eq_false hb.symm;exact iq c hn _ ((OK c 930).trans (decide_eq_decide.2 (by omega)))
end
theorem iu(c:Int)(b:Bool)(hb:b=decide ((65≤c∧c≤90)∨(97≤c∧c≤122)∨c=95)):EC c b=some (OY c):=by
 unfold EC
 cases b with
 |true=>have h:=zd hb.symm;exact sc (by omega)
 |false=>
  have h:=of_decide_eq_false hb.symm
  rw [if_neg (by decide)]
  split
  ·exact ir c h true (dT (by omega))
  ·exact ir c h _ ((OK c 247).trans (decide_eq_decide.2 (by omega)))
theorem cL(c:Int)(b:Bool)(hb:b=decide ((65≤c∧c≤90)∨(97≤c∧c≤122))):Da c b=some (OY c):=by
 unfold Da
 cases b with
 |true=>have h:=zd hb.symm;exact iu c true (dT (by omega))
 |false=>have h:=of_decide_eq_false hb.symm;exact iu c _ ((OK c 95).trans (decide_eq_decide.2 (by omega)))
theorem iw(c:Int)(b:Bool)(hb:b=decide (65≤c∧c≤90)):ED c b=some (OY c):=by
 unfold ED
 cases b with
 |true=>have h:=zd hb.symm;exact cL c true (dT (by omega))
 |false=>
  have h:=of_decide_eq_false hb.symm
  rw [if_neg (by decide)]
  split
  ·exact cL c _ (decide_eq_decide.2 (by omega))
  ·exact cL c false (dF (by omega))
theorem SW(N:Nat)(c:Int):EO N c=some (OY c):=by
 unfold EO
 split
 ·exact iw c _ (decide_eq_decide.2 (by omega))
 ·exact iw c false (dF (by omega))
def ad(s:List UInt8):List Int:=(Ae5 s).map LB
theorem ij(l:List Int)(i:Nat)(h:i<l.length):((l.take i).map LB++l.drop i)[i]! =l[i]!∧((l.take i).map LB++l.drop i).set i (LB (l[i]!))=(l.take (i+1)).map LB++l.drop (i+1):=by
 have hl:((l.take i).map LB).length=i:=by rw [q8,q7];omega
 have hd:l.drop i=l[i]!::l.drop (i+1):=by rw [j5 h,zg l i h]
 have ht:l.take (i+1)=l.take i++ [l[i]!]:=by rw [List.take_add_one,zo h,zg l i h];rfl
 refine⟨?_, ?_⟩
 ·rw [List.getElem!_eq_getElem?_getD,List.getElem?_append_right (by omega),hl,Nat.sub_self,hd];rfl
 ·rw [List.set_append_right _ _ (by omega),hl,Nat.sub_self,hd,List.set_cons_zero,ht,List.map_append,zu];rfl
theorem Yj(N:Nat)(l:List Int)(hl:l.length≤1048576): ∀(k f i:Nat),i+k=l.length→k<f→CP N f ((l.take i).map LB++l.drop i) (i:Int)=some (l.map LB):=by
 intro k
 induction k with
 |zero=>
  intro f i hi hf
  obtain⟨f,rfl⟩: ∃n,f=n+1:=⟨f - 1,by omega⟩
  have hlen:((l.take i).map LB++l.drop i).length=l.length:=by rw [q9,q8,q7,zk];omega
  rw [CP,hlen,if_neg (by omega),j6 (by omega),List.drop_of_length_le (by omega),List.append_nil]
 |succ k ih=>
  intro f i hi hf
  obtain⟨f,rfl⟩: ∃n,f=n+1:=⟨f - 1,by omega⟩
  have hlen:((l.take i).map LB++l.drop i).length=l.length:=by rw [q9,q8,q7,zk];omega
  obtain⟨h1,h2⟩:=ij l i (by omega)
  have e1:(i:Int)+1=((i+1:Nat):Int):=by omega
  rw [CP,hlen,if_pos (by omega),Am _ (by omega),q3,h1,fk,q0,Am _ (by omega),Am _ (by omega),h2,e1]
  exact ih f (i+1) (by omega) (by omega)
theorem Xr(N:Nat)(s:List UInt8)(hb:s.length≤1048576)(hN:s.length<N):FQ N s=some (ad s):=by
 have hl:=QP s
 rw [FQ,Uh N s hb hN,q0]
 have:=Yj N (Ae5 s) (by omega) (Ae5 s).length N 0 (by omega) (by omega)
 exact this
def Rt:List Int→List Int→Int
 | [],[]=>0
 | [],_::_=> -1
 |_::_,[]=>1
 |x::a,y::b=>if x<y then -1 else if x>y then 1 else Rt a b
theorem Ss: ∀a:List Int,Rt a a=0
 | []=>rfl
 |x::a=>by rw [Rt,if_neg (by omega),if_neg (by omega),Ss a]
theorem We(a b:List Int)(ha:a.length≤1048576): ∀(k f i:Nat),a.length≤i+k→k<f→i≤a.length→i≤b.length→BH a b f (i:Int)=some (Rt (a.drop i) (b.drop i)):=by
 intro k
 induction k with
 |zero=>
  intro f i hi hf h1 h2
  obtain⟨f,rfl⟩: ∃n,f=n+1:=⟨f - 1,by omega⟩
  have ea:a.drop i=[]:=List.drop_of_length_le (by omega)
  rw [BH,if_neg (by omega),Ct,if_neg (by decide),ea]
  by_cases hb1:i<b.length
  ·rw [if_pos (by omega),j5 hb1];rfl
  ·rw [if_neg (by omega),if_neg (by omega),List.drop_of_length_le (by omega:b.length≤i)];rfl
 |succ k ih=>
  intro f i hi hf h1 h2
  obtain⟨f,rfl⟩: ∃n,f=n+1:=⟨f - 1,by omega⟩
  have e1:(i:Int)+1=((i+1:Nat):Int):=by omega
  rw [BH]
  by_cases ha1:i<a.length
  ·have ea:a.drop i=a[i]!::a.drop (i+1):=by rw [j5 ha1,zg a i ha1]
   rw [if_pos (by omega),ea]
   by_cases hb1:i<b.length
   ·have eb:b.drop i=b[i]!::b.drop (i+1):=by rw [j5 hb1,zg b i hb1]
    rw [zf (by omega),eb,Rt,Ct,if_pos rfl,Am _ (by omega),Am _ (by omega),q3]
    by_cases hlt:a[i]!<b[i]!
    ·rw [if_pos hlt,if_pos hlt]
    ·rw [if_neg hlt,if_neg hlt,Am _ (by omega),Am _ (by omega)]
     by_cases hgt:a[i]!>b[i]!
     ·rw [if_pos hgt,if_pos hgt]
     ·rw [if_neg hgt,if_neg hgt,Am _ (by omega),e1,ih f (i+1) (by omega) (by omega) (by omega) (by omega)]
   ·rw [ze (by omega),Ct,if_neg (by decide),if_neg (by omega),if_pos (by omega),List.drop_of_length_le (by omega:b.length≤i)];rfl
  ·have ea:a.drop i=[]:=List.drop_of_length_le (by omega)
   rw [if_neg (by omega),Ct,if_neg (by decide),ea]
   by_cases hb1:i<b.length
   ·rw [if_pos (by omega),j5 hb1];rfl
   ·rw [if_neg (by omega),if_neg (by omega),List.drop_of_length_le (by omega:b.length≤i)];rfl
theorem cr(N:Nat)(a b:List Int)(ha:a.length≤1048576)(hN:a.length<N):Gs N a b=some (Rt a b):=by
 have:=We a b ha a.length N 0 (by omega) hN (by omega) (by omega)
 rw [Gs];exact this
theorem fA(s:List UInt8):(ad s).length≤s.length:=by unfold ad;rw [q8];exact QP s
end Go.Proofs.YthmpbldidnmenaaGreatDoor
namespace Go.Proofs.YthmpbldidnmenaaGreatDoor
open Go Go.RowKit Go.Eng
theorem Up: ∀a b:List Int,(Rt a b=0∧a=b)∨(Rt a b= -1∧Rt b a=1)∨(Rt a b=1∧Rt b a= -1)
 | [],[]=> .inl ⟨rfl,rfl⟩
 | [],_::_=> .inr (.inl ⟨rfl,rfl⟩)
 |_::_,[]=> .inr (.inr ⟨rfl,rfl⟩)
 |x::a,y::b=>by
  rw [Rt,Rt]
  by_cases h1:x<y
  ·rw [if_pos h1,if_neg (by omega),if_pos (by omega)];exact .inr (.inl ⟨rfl,rfl⟩)
  ·rw [if_neg h1]
   by_cases h2:x>y
   ·rw [if_pos h2,if_pos (by omega)];exact .inr (.inr ⟨rfl,rfl⟩)
   ·rw [if_neg h2,if_neg (by omega),if_neg (by omega)]
    have:x=y:=by omega
    subst this
    rcases Up a b with⟨h3,rfl⟩|h3|h3
    ·exact .inl ⟨h3,rfl⟩
    ·exact .inr (.inl h3)
    ·exact .inr (.inr h3)
end Go.Proofs.YthmpbldidnmenaaGreatDoor
namespace Go.Proofs.YthmpbldidnmenaaGreatDoor
open Go Go.RowKit Go.Eng
theorem ss(l:List Int)(i:Nat)(h:i<l.length):l.drop i=l[i]!::l.drop (i+1):=by rw [j5 h,zg l i h]
theorem nK(l:List Int)(i:Nat)(hi:i<l.length)(hl:l.length≤1048576)(rec:Int→Option Bool)(b:Bool):
  EI l (i:Int) rec b=if b=true∧l[i]!≠45∧l[i]!≠46 then some false else rec ((i:Int)+1):=by
 have f7:FO (i:Int) rec false=rec ((i:Int)+1):=by rw [FO,if_neg (by decide),Am _ (by omega)]
 have f6:EH l (i:Int) rec false=rec ((i:Int)+1):=by rw [EH,if_neg (by decide),f7]
 unfold EI
 cases b with
 |false=>rw [if_neg (by decide),f6,if_neg (fun h=>by simp at h)]
 |true=>
  rw [if_pos rfl,Am _ (by omega),q3]
  by_cases a:l[i]! =45
  ·rw [fw,ze (by omega),f6,if_neg (by omega)]
  ·rw [fw,zf a,EH,if_pos rfl,Am _ (by omega),q3]
   by_cases c:l[i]! =46
   ·rw [fw,ze (by omega),f7,if_neg (by omega)]
   ·rw [fw,zf c,if_pos ⟨rfl,a,c⟩];rfl
theorem ZQ(N:Nat)(l:List Int)(hl:l.length≤1048576): ∀(k f i:Nat),i+k=l.length→k<f→Bu N l f (i:Int)=some ((l.drop i).all inR):=by
 intro k
 induction k with
 |zero=>
  intro f i hi hf
  obtain⟨f,rfl⟩: ∃n,f=n+1:=⟨f - 1,by omega⟩
  rw [Bu,if_neg (by omega),List.drop_of_length_le (by omega)];rfl
 |succ k ih=>
  intro f i hi hf
  obtain⟨f,rfl⟩: ∃n,f=n+1:=⟨f - 1,by omega⟩
  have e1:(i:Int)+1=((i+1:Nat):Int):=by omega
  have g:(0:Int)≤(i:Int)∧(i:Int)<(l.length:Int):=by omega
  rw [Bu,if_pos (by omega),Am _ g,SW,q0]
  simp only [Am _ g,nK l i (by omega) hl]
  rw [e1,ih f (i+1) (by omega) (by omega),q3,ss l i (by omega),List.all_cons]
  generalize l[i]! =c
  unfold inR
  by_cases h1:OY c=true
  ·rw [if_pos h1,h1,if_neg (fun h=>by simp at h)];rfl
  ·have h1':OY c=false:=by simpa using h1
   rw [if_neg h1,h1',Bool.false_or]
   by_cases h2:(48≤c∧c≤57)∨c=45∨c=46
   ·rw [zf h2,Bool.true_and]
    by_cases h3:c≥48
    ·rw [if_pos h3,if_neg (fun⟨p,q,r⟩=>by simp only [Bool.not_eq_true',decide_eq_false_iff_not] at p;omega)]
    ·rw [if_neg h3,if_neg (fun⟨_,p,q⟩=>by omega)]
   ·rw [ze h2,Bool.false_and]
    by_cases h3:c≥48
    ·rw [if_pos h3,if_pos ⟨by simp only [Bool.not_eq_true',decide_eq_false_iff_not];omega,by omega,by omega⟩]
    ·rw [if_neg h3,if_pos ⟨trivial,by omega,by omega⟩]
theorem ZP(N:Nat)(s:List UInt8)(hb:s.length≤1048576)(hN:s.length<N):Gh N s=some (nL (Ae5 s)):=by
 have hl:=QP s
 rw [Gh,Uh N s hb hN,q0]
 generalize Ae5 s=l at hl
 unfold nL
 by_cases h1:(l.length:Int)<1
 ·rw [if_pos h1,ze (by omega)];rfl
 rw [if_neg h1]
 by_cases h2:(l.length:Int)>24
 ·rw [zf h2,ze (by omega)];rfl
 rw [ze h2,GN,if_neg (by decide),zf (by omega),Am _ (by omega),SW,q0,Bool.true_and]
 show FP N l (!OY (l[0]!))=_
 by_cases h3:OY (l[0]!)=true
 ·rw [h3,FP,if_neg (by decide)]
  exact ZQ N l (by omega) l.length N 0 (by omega) (by omega)
 ·have h3':OY (l[0]!)=false:=by simpa using h3
  rw [h3'];rfl
end Go.Proofs.YthmpbldidnmenaaGreatDoor
