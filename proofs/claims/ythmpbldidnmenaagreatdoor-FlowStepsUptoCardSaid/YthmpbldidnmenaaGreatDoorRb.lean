import Derived.Test.YthmpbldidnmenaaGreatDoorIt
import Derived.Test.YthmpbldidnmenaaGreatDoorBl
set_option linter.unusedVariables false
namespace Go.Proofs.YthmpbldidnmenaaGreatDoor
open Go Go.RowKit Go.Eng
def Lp(n:Nat):Prop:=128≤n∧n<192
instance (n:Nat):Decidable (Lp n):=inferInstanceAs (Decidable (_∧_))
def fH(a b c d n:Nat):Nat×Nat:=
 if a<128 then(a,1)
 else if 194≤a∧a<224∧2≤n∧Lp b then(64*(a - 192)+(b - 128),2)
 else if 224≤a∧a<240∧3≤n∧Lp b∧Lp c∧2048≤4096*(a - 224)+64*(b - 128)+(c - 128)∧(4096*(a - 224)+64*(b - 128)+(c - 128)<55296∨57343<4096*(a - 224)+64*(b - 128)+(c - 128))then(4096*(a - 224)+64*(b - 128)+(c - 128),3)
 else if 240≤a∧a<245∧4≤n∧Lp b∧Lp c∧Lp d∧65536≤262144*(a - 240)+4096*(b - 128)+64*(c - 128)+(d - 128)∧262144*(a - 240)+4096*(b - 128)+64*(c - 128)+(d - 128)≤1114111 then(262144*(a - 240)+4096*(b - 128)+64*(c - 128)+(d - 128),4)
 else(65533,1)
def dec(s:List UInt8):Nat×Nat:=fH (s.getD 0 0).toNat (s.getD 1 0).toNat (s.getD 2 0).toNat (s.getD 3 0).toNat s.length
end Go.Proofs.YthmpbldidnmenaaGreatDoor
namespace Go.Proofs.YthmpbldidnmenaaGreatDoor
open Go Go.RowKit Go.Eng
theorem rr(b0 b1 b2 b3 n:Nat)(h:1≤n):1≤(fH b0 b1 b2 b3 n).2∧(fH b0 b1 b2 b3 n).2≤n∧(fH b0 b1 b2 b3 n).2≤4:=by
 unfold fH
 split
 ·show 1≤1∧1≤n∧1≤4;omega
 ·split
  ·show 1≤2∧2≤n∧2≤4;omega
  ·split
   ·show 1≤3∧3≤n∧3≤4;omega
   ·split
    ·show 1≤4∧4≤n∧4≤4;omega
    ·show 1≤1∧1≤n∧1≤4;omega
theorem aW(s:List UInt8)(h:s≠ []):1≤(dec s).2∧(dec s).2≤s.length∧(dec s).2≤4:=rr _ _ _ _ _ (List.length_pos_iff.mpr h)
def LU:Nat→List UInt8→List Int
 |0,_=> []
 |f+1,s=>if s=[] then [] else((dec s).1:Int)::LU f (s.drop (dec s).2)
theorem Xo: ∀(f g:Nat) (s:List UInt8),s.length≤f→s.length≤g→LU f s=LU g s
 |0,0,_,_,_=>rfl
 |0,g+1,s,h,_=>by
  have:s=[]:=List.eq_nil_of_length_eq_zero (by omega)
  rw [LU,LU,if_pos this]
 |f+1,0,s,_,h=>by
  have:s=[]:=List.eq_nil_of_length_eq_zero (by omega)
  rw [LU,LU,if_pos this]
 |f+1,g+1,s,h,h'=>by
  rw [LU,LU]
  by_cases hs:s=[]
  ·rw [if_pos hs,if_pos hs]
  ·have:=aW s hs
   rw [if_neg hs,if_neg hs,Xo f g _ (by rw [zk];omega) (by rw [zk];omega)]
def Ae5(s:List UInt8):List Int:=LU s.length s
theorem co:Ae5 []=[]:=rfl
theorem SV{s:List UInt8}(h:s≠ []):Ae5 s=((dec s).1:Int)::Ae5 (s.drop (dec s).2):=by
 have hw:=aW s h
 unfold Ae5
 obtain⟨k,hk⟩: ∃k,s.length=k+1:=⟨s.length - 1,by omega⟩
 rw [hk,LU,if_neg h,Xo k _ _ (by rw [zk];omega) (Nat.le_refl _)]
theorem eY{p:List UInt8→Prop}(h0:p [])(h1: ∀s,s≠ []→p (s.drop (dec s).2)→p s): ∀s,p s:=by
 have: ∀n s,s.length≤n→p s:=by
  intro n
  induction n with
  |zero=>intro s h;rw [List.eq_nil_of_length_eq_zero (by omega:s.length=0)];exact h0
  |succ n ih=>
   intro s h
   by_cases hs:s=[]
   ·rw [hs];exact h0
   ·have:=aW s hs
    exact h1 s hs (ih _ (by rw [zk];omega))
 exact fun s=>this s.length s (Nat.le_refl _)
theorem QP(s:List UInt8):(Ae5 s).length≤s.length:=by
 refine eY (p:=fun s=>(Ae5 s).length≤s.length) (Nat.le_refl _) (fun s hs ih=> ?_) s
 have:=aW s hs
 rw [SV hs,za];rw [zk] at ih;omega
end Go.Proofs.YthmpbldidnmenaaGreatDoor
namespace Go.Proofs.YthmpbldidnmenaaGreatDoor
open Go Go.RowKit Go.Eng
def OY(c:Int):Bool:=decide (((65≤c∧c≤90)∨(97≤c∧c≤122)∨c=95∨(192≤c∧c≤591)∨(913≤c∧c≤969)∨(1024≤c∧c≤1279))∧c≠215∧c≠247∧c≠930)
def inR(c:Int):Bool:=OY c||decide ((48≤c∧c≤57)∨c=45∨c=46)
def nL(l:List Int):Bool:=decide (1≤l.length∧l.length≤24)&&OY (l[0]!)&&l.all inR
end Go.Proofs.YthmpbldidnmenaaGreatDoor
namespace Go.Proofs.YthmpbldidnmenaaGreatDoor
open Go Go.RowKit Go.Eng
theorem Sx(N:Nat)(c:UInt8):Cb N c=some (decide (Lp c.toNat)):=by
 unfold Cb Lp
 by_cases h:((c.toNat:Nat):Int)≥128
 ·rw [if_pos h];refine congrArg some (decide_eq_decide.mpr ?_);omega
 ·rw [if_neg h];exact congrArg some (ze (by omega)).symm
section
variable (N:Nat) (s:List UInt8)
def c4(s:List UInt8):Int:=262144*((((Ar s 0).toNat:Nat):Int) - 240)+4096*((((Ar s 1).toNat:Nat):Int) - 128)+64*((((Ar s 2).toNat:Nat):Int) - 128)+(((Ar s 3).toNat:Nat):Int) - 128
def c3(s:List UInt8):Int:=4096*((((Ar s 0).toNat:Nat):Int) - 224)+64*((((Ar s 1).toNat:Nat):Int) - 128)+(((Ar s 2).toNat:Nat):Int) - 128
def c2(s:List UInt8):Int:=64*((((Ar s 0).toNat:Nat):Int) - 192)+(((Ar s 1).toNat:Nat):Int) - 128
def v4(s:List UInt8)(x:Bool):Int×Int:=if x=true∧65536≤c4 s∧c4 s≤1114111 then(c4 s,4)else(65533,1)
theorem sO(x:Bool)(hx:x=true→4≤s.length):Cu s x=some (v4 s x):=by
 have h0:=(Ar s 0).toNat_lt;have h1:=(Ar s 1).toNat_lt;have h2:=(Ar s 2).toNat_lt;have h3:=(Ar s 3).toNat_lt
 unfold Cu v4 c4
 by_cases h:x=true
 ·have:=hx h
  rw [if_pos h]
  repeat rw [Am _ (by omega)]
  unfold FK
  split
  ·split
   ·rename_i d;have:=zd d;rw [if_pos (by refine⟨h, ?_, ?_⟩<;>omega)]
   ·rename_i d;simp only [decide_eq_true_eq] at d;rw [if_neg (by intro h';omega)]
  ·rw [if_neg (by decide),if_neg (by intro h';omega)]
 ·rw [if_neg h,if_neg (fun h'=>h h'.1)]
def x4(s:List UInt8):Bool:=decide (240≤(((Ar s 0).toNat:Nat):Int)∧(((Ar s 0).toNat:Nat):Int)<245∧4≤s.length∧Lp (Ar s 1).toNat∧Lp (Ar s 2).toNat∧Lp (Ar s 3).toNat)
theorem sj:EP N s=some (v4 s (x4 s)):=by
 have key: ∀x,(x=true→4≤s.length)→x=x4 s→Cu s x=some (v4 s (x4 s)):=fun x h e=>by rw [sO s x h,e]
 have no: ¬(240≤(((Ar s 0).toNat:Nat):Int)∧(((Ar s 0).toNat:Nat):Int)<245∧4≤s.length∧Lp (Ar s 1).toNat∧Lp (Ar s 2).toNat∧Lp (Ar s 3).toNat)→Cu s false=some (v4 s (x4 s)):=fun h=>key false (fun h=>(nomatch h)) (by unfold x4;exact(ze h).symm)
 unfold EP
 by_cases h0:(((Ar s 0).toNat:Nat):Int)≥240
 ·rw [if_pos h0]
  by_cases h1:(((Ar s 0).toNat:Nat):Int)<245
  ·rw [zf h1,Gd,if_pos rfl]
   by_cases h2:(s.length:Int)≥4
   ·rw [zf h2,Gc,if_pos rfl,Am _ (by omega),Sx,q0]
    by_cases g1:Lp (Ar s 1).toNat
    ·rw [zf g1,Gb,if_pos rfl,Am _ (by omega),Sx,q0]
     by_cases g2:Lp (Ar s 2).toNat
     ·rw [zf g2,Ga,if_pos rfl,Am _ (by omega),Sx,q0]
      refine key _ (fun _=>by omega) ?_
      unfold x4
      exact decide_eq_decide.mpr ⟨fun h=>⟨by omega,h1,by omega,g1,g2,h⟩,fun h=>h.2.2.2.2.2⟩
     ·rw [ze g2];exact no (fun h=>g2 h.2.2.2.2.1)
    ·rw [ze g1];exact no (fun h=>g1 h.2.2.2.1)
   ·rw [ze h2];exact no (fun h=>h2 (by omega))
  ·rw [ze h1];exact no (fun h=>h1 h.2.1)
 ·rw [if_neg h0];exact no (fun h=>h0 h.1)
def v3(s:List UInt8)(x:Bool):Int×Int:=if x=true∧2048≤c3 s∧(c3 s<55296∨57343<c3 s)then(c3 s,3)else v4 s (x4 s)
theorem sk(x:Bool)(hx:x=true→3≤s.length):Cj N s x=some (v3 s x):=by
 have h0:=(Ar s 0).toNat_lt;have h1:=(Ar s 1).toNat_lt;have h2:=(Ar s 2).toNat_lt
 unfold Cj v3 c3
 rw [sj]
 by_cases h:x=true
 ·have:=hx h
  rw [if_pos h]
  repeat rw [Am _ (by omega)]
  unfold EE
  rw [sj]
  split
  ·split
   ·rw [if_pos rfl,if_pos (by refine⟨h, ?_, ?_⟩<;>omega)]
   ·split
    ·rename_i d;have:=zd d;rw [if_pos (by refine⟨h, ?_, ?_⟩<;>omega)]
    ·rename_i d;simp only [decide_eq_true_eq] at d;rw [if_neg (by intro h';omega)]
  ·rw [if_neg (by decide),if_neg (by intro h';omega)]
 ·rw [if_neg h,if_neg (fun h'=>h h'.1)]
def x3(s:List UInt8):Bool:=decide (224≤(((Ar s 0).toNat:Nat):Int)∧(((Ar s 0).toNat:Nat):Int)<240∧3≤s.length∧Lp (Ar s 1).toNat∧Lp (Ar s 2).toNat)
def v2(s:List UInt8)(x:Bool):Int×Int:=if x=true then(c2 s,2)else v3 s (x3 s)
theorem sP(x:Bool)(hx:x=true→2≤s.length):Cv N s x=some (v2 s x):=by
 have g0:=(Ar s 0).toNat_lt;have g1:=(Ar s 1).toNat_lt
 unfold Cv v2 c2
 by_cases h:x=true
 ·have:=hx h
  rw [if_pos h,if_pos h]
  repeat rw [Am _ (by omega)]
 ·rw [if_neg h,if_neg h]
  have key: ∀x,(x=true→3≤s.length)→x=x3 s→Cj N s x=some (v3 s (x3 s)):=fun x h e=>by rw [sk N s x h,e]
  have no: ¬(224≤(((Ar s 0).toNat:Nat):Int)∧(((Ar s 0).toNat:Nat):Int)<240∧3≤s.length∧Lp (Ar s 1).toNat∧Lp (Ar s 2).toNat)→Cj N s false=some (v3 s (x3 s)):=fun h=>key false (fun h=>(nomatch h)) (by unfold x3;exact(ze h).symm)
  by_cases h0:(((Ar s 0).toNat:Nat):Int)≥224
  ·rw [if_pos h0]
   by_cases h1:(((Ar s 0).toNat:Nat):Int)<240
   ·rw [zf h1,FJ,if_pos rfl]
    by_cases h2:(s.length:Int)≥3
    ·rw [zf h2,FI,if_pos rfl,Am _ (by omega),Sx,q0]
     by_cases g1:Lp (Ar s 1).toNat
     ·rw [zf g1,FH,if_pos rfl,Am _ (by omega),Sx,q0]
      refine key _ (fun _=>by omega) ?_
      unfold x3
      exact decide_eq_decide.mpr ⟨fun h=>⟨by omega,h1,by omega,g1,h⟩,fun h=>h.2.2.2.2⟩
     ·rw [ze g1];exact no (fun h=>g1 h.2.2.2.1)
    ·rw [ze h2];exact no (fun h=>h2 (by omega))
   ·rw [ze h1];exact no (fun h=>h1 h.2.1)
  ·rw [if_neg h0];exact no (fun h=>h0 h.1)
def x2(s:List UInt8):Bool:=decide (194≤(((Ar s 0).toNat:Nat):Int)∧(((Ar s 0).toNat:Nat):Int)<224∧2≤s.length∧Lp (Ar s 1).toNat)
theorem su(h:s≠ []):(if(((Ar s 0).toNat:Nat):Int)<128 then((((Ar s 0).toNat:Nat):Int),1)else v2 s (x2 s))=(((dec s).1:Int),((dec s).2:Int)):=by
 have e0:s.getD 0 0=Ar s 0:=rfl
 have e1:s.getD 1 0=Ar s 1:=rfl
 have e2:s.getD 2 0=Ar s 2:=rfl
 have e3:s.getD 3 0=Ar s 3:=rfl
 unfold dec fH v2 v3 v4 x2 x3 x4 c2 c3 c4 Lp
 rw [e0,e1,e2,e3]
 have h0:=(Ar s 0).toNat_lt;have h1:=(Ar s 1).toNat_lt;have h2:=(Ar s 2).toNat_lt;have h3:=(Ar s 3).toNat_lt
 generalize (Ar s 0).toNat=b0 at*
 generalize (Ar s 1).toNat=b1 at*
 generalize (Ar s 2).toNat=b2 at*
 generalize (Ar s 3).toNat=b3 at*
 simp only [decide_eq_true_eq]
 by_cases g0:b0<128
 ·rw [if_pos (by omega),if_pos g0];rfl
 rw [if_neg (by omega),if_neg g0]
 by_cases g1:194≤b0∧b0<224∧2≤s.length∧128≤b1∧b1<192
 ·rw [if_pos (by omega),if_pos g1]
  exact Prod.ext (by show(64*((b0:Int) - 192)+(b1:Int) - 128)=((64*(b0 - 192)+(b1 - 128):Nat):Int);omega) rfl
 rw [if_neg (by omega),if_neg g1]
 by_cases g2:224≤b0∧b0<240∧3≤s.length∧(128≤b1∧b1<192)∧(128≤b2∧b2<192)∧2048≤4096*(b0 - 224)+64*(b1 - 128)+(b2 - 128)∧(4096*(b0 - 224)+64*(b1 - 128)+(b2 - 128)<55296∨57343<4096*(b0 - 224)+64*(b1 - 128)+(b2 - 128))
 ·rw [if_pos (by omega),if_pos g2]
  exact Prod.ext (by show(4096*((b0:Int) - 224)+64*((b1:Int) - 128)+(b2:Int) - 128)=((4096*(b0 - 224)+64*(b1 - 128)+(b2 - 128):Nat):Int);omega) rfl
 rw [if_neg (by omega),if_neg g2]
 by_cases g3:240≤b0∧b0<245∧4≤s.length∧(128≤b1∧b1<192)∧(128≤b2∧b2<192)∧(128≤b3∧b3<192)∧65536≤262144*(b0 - 240)+4096*(b1 - 128)+64*(b2 - 128)+(b3 - 128)∧262144*(b0 - 240)+4096*(b1 - 128)+64*(b2 - 128)+(b3 - 128)≤1114111
 ·rw [if_pos (by omega),if_pos g3]
  exact Prod.ext (by show(262144*((b0:Int) - 240)+4096*((b1:Int) - 128)+64*((b2:Int) - 128)+(b3:Int) - 128)=((262144*(b0 - 240)+4096*(b1 - 128)+64*(b2 - 128)+(b3 - 128):Nat):Int);omega) rfl
 rw [if_neg (by omega),if_neg g3];rfl
theorem nX(h:s≠ []):Gu N s=some (((dec s).1:Int),((dec s).2:Int)):=by
 have hl:=List.length_pos_iff.mpr h
 rw [←su s h]
 unfold Gu
 have key: ∀x,(x=true→2≤s.length)→x=x2 s→Cv N s x=some (v2 s (x2 s)):=fun x h e=>by rw [sP N s x h,e]
 have no: ¬(194≤(((Ar s 0).toNat:Nat):Int)∧(((Ar s 0).toNat:Nat):Int)<224∧2≤s.length∧Lp (Ar s 1).toNat)→Cv N s false=some (v2 s (x2 s)):=fun h=>key false (fun h=>(nomatch h)) (by unfold x2;exact(ze h).symm)
 rw [if_neg (by omega),Am _ (by omega)]
 by_cases g:(((Ar s 0).toNat:Nat):Int)<128
 ·rw [if_pos g,if_pos g]
 rw [if_neg g,if_neg g]
 by_cases h0:(((Ar s 0).toNat:Nat):Int)≥194
 ·rw [if_pos h0]
  by_cases h1:(((Ar s 0).toNat:Nat):Int)<224
  ·rw [zf h1,Gf,if_pos rfl]
   by_cases h2:(s.length:Int)≥2
   ·rw [zf h2,Ge,if_pos rfl,Am _ (by omega),Sx,q0]
    refine key _ (fun _=>by omega) ?_
    unfold x2
    exact decide_eq_decide.mpr ⟨fun h=>⟨by omega,h1,by omega,h⟩,fun h=>h.2.2.2⟩
   ·rw [ze h2];exact no (fun h=>h2 (by omega))
  ·rw [ze h1];exact no (fun h=>h1 h.2.1)
 ·rw [if_neg h0];exact no (fun h=>h0 h.1)
end
end Go.Proofs.YthmpbldidnmenaaGreatDoor
