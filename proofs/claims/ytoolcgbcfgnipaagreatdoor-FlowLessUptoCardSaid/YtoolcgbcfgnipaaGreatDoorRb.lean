import Derived.Test.YtoolcgbcfgnipaaGreatDoorRp
import Derived.Test.YtoolcgbcfgnipaaGreatDoorBk
namespace Go.Proofs.YtoolcgbcfgnipaaGreatDoor
open Go Go.RowKit Go.Eng
theorem SI(N:Nat)(c:UInt8):Ca N c=some (decide (KT c.toNat)):=by
 unfold Ca KT
 by_cases h:((c.toNat:Nat):Int)≥128
 ·rw [if_pos h];refine congrArg some (decide_eq_decide.mpr ?_);omega
 ·rw [if_neg h];exact congrArg some (ze (by omega)).symm
section
variable (N:Nat) (s:List UInt8)
def c4(s:List UInt8):Int:=262144*((((Au s 0).toNat:Nat):Int) - 240)+4096*((((Au s 1).toNat:Nat):Int) - 128)+64*((((Au s 2).toNat:Nat):Int) - 128)+(((Au s 3).toNat:Nat):Int) - 128
def c3(s:List UInt8):Int:=4096*((((Au s 0).toNat:Nat):Int) - 224)+64*((((Au s 1).toNat:Nat):Int) - 128)+(((Au s 2).toNat:Nat):Int) - 128
def c2(s:List UInt8):Int:=64*((((Au s 0).toNat:Nat):Int) - 192)+(((Au s 1).toNat:Nat):Int) - 128
def v4(s:List UInt8)(x:Bool):Int×Int:=if x=true∧65536≤c4 s∧c4 s≤1114111 then(c4 s,4)else(65533,1)
theorem vQ(x:Bool)(hx:x=true→4≤s.length):Cu s x=some (v4 s x):=by
 have h0:=(Au s 0).toNat_lt;have h1:=(Au s 1).toNat_lt;have h2:=(Au s 2).toNat_lt;have h3:=(Au s 3).toNat_lt
 unfold Cu v4 c4
 by_cases h:x=true
 ·have:=hx h
  rw [if_pos h]
  repeat rw [Aj _ (by omega)]
  unfold FS
  split
  ·split
   ·rename_i d;have:=zd d;rw [if_pos (by refine⟨h, ?_, ?_⟩<;>omega)]
   ·rename_i d;simp only [decide_eq_true_eq] at d;rw [if_neg (by intro h';omega)]
  ·rw [if_neg (by decide),if_neg (by intro h';omega)]
 ·rw [if_neg h,if_neg (fun h'=>h h'.1)]
def x4(s:List UInt8):Bool:=decide (240≤(((Au s 0).toNat:Nat):Int)∧(((Au s 0).toNat:Nat):Int)<245∧4≤s.length∧KT (Au s 1).toNat∧KT (Au s 2).toNat∧KT (Au s 3).toNat)
theorem vb:EO N s=some (v4 s (x4 s)):=by
 have key: ∀x,(x=true→4≤s.length)→x=x4 s→Cu s x=some (v4 s (x4 s)):=fun x h e=>by rw [vQ s x h,e]
 have no: ¬(240≤(((Au s 0).toNat:Nat):Int)∧(((Au s 0).toNat:Nat):Int)<245∧4≤s.length∧KT (Au s 1).toNat∧KT (Au s 2).toNat∧KT (Au s 3).toNat)→Cu s false=some (v4 s (x4 s)):=fun h=>key false (fun h=>(nomatch h)) (by unfold x4;exact(ze h).symm)
 unfold EO
 by_cases h0:(((Au s 0).toNat:Nat):Int)≥240
 ·rw [if_pos h0]
  by_cases h1:(((Au s 0).toNat:Nat):Int)<245
  ·rw [zf h1,Gs,if_pos rfl]
   by_cases h2:(s.length:Int)≥4
   ·rw [zf h2,Gr,if_pos rfl,Aj _ (by omega),SI,q0]
    by_cases g1:KT (Au s 1).toNat
    ·rw [zf g1,Gq,if_pos rfl,Aj _ (by omega),SI,q0]
     by_cases g2:KT (Au s 2).toNat
     ·rw [zf g2,Gp,if_pos rfl,Aj _ (by omega),SI,q0]
      refine key _ (fun _=>by omega) ?_
      unfold x4
      exact decide_eq_decide.mpr ⟨fun h=>⟨by omega,h1,by omega,g1,g2,h⟩,fun h=>h.2.2.2.2.2⟩
     ·rw [ze g2];exact no (fun h=>g2 h.2.2.2.2.1)
    ·rw [ze g1];exact no (fun h=>g1 h.2.2.2.1)
   ·rw [ze h2];exact no (fun h=>h2 (by omega))
  ·rw [ze h1];exact no (fun h=>h1 h.2.1)
 ·rw [if_neg h0];exact no (fun h=>h0 h.1)
def v3(s:List UInt8)(x:Bool):Int×Int:=if x=true∧2048≤c3 s∧(c3 s<55296∨57343<c3 s)then(c3 s,3)else v4 s (x4 s)
theorem vc(x:Bool)(hx:x=true→3≤s.length):Cf N s x=some (v3 s x):=by
 have h0:=(Au s 0).toNat_lt;have h1:=(Au s 1).toNat_lt;have h2:=(Au s 2).toNat_lt
 unfold Cf v3 c3
 rw [vb]
 by_cases h:x=true
 ·have:=hx h
  rw [if_pos h]
  repeat rw [Aj _ (by omega)]
  unfold Ez
  rw [vb]
  split
  ·split
   ·rw [if_pos rfl,if_pos (by refine⟨h, ?_, ?_⟩<;>omega)]
   ·split
    ·rename_i d;have:=zd d;rw [if_pos (by refine⟨h, ?_, ?_⟩<;>omega)]
    ·rename_i d;simp only [decide_eq_true_eq] at d;rw [if_neg (by intro h';omega)]
  ·rw [if_neg (by decide),if_neg (by intro h';omega)]
 ·rw [if_neg h,if_neg (fun h'=>h h'.1)]
def x3(s:List UInt8):Bool:=decide (224≤(((Au s 0).toNat:Nat):Int)∧(((Au s 0).toNat:Nat):Int)<240∧3≤s.length∧KT (Au s 1).toNat∧KT (Au s 2).toNat)
def v2(s:List UInt8)(x:Bool):Int×Int:=if x=true then(c2 s,2)else v3 s (x3 s)
theorem vR(x:Bool)(hx:x=true→2≤s.length):Cv N s x=some (v2 s x):=by
 have g0:=(Au s 0).toNat_lt;have g1:=(Au s 1).toNat_lt
 unfold Cv v2 c2
 by_cases h:x=true
 ·have:=hx h
  rw [if_pos h,if_pos h]
  repeat rw [Aj _ (by omega)]
 ·rw [if_neg h,if_neg h]
  have key: ∀x,(x=true→3≤s.length)→x=x3 s→Cf N s x=some (v3 s (x3 s)):=fun x h e=>by rw [vc N s x h,e]
  have no: ¬(224≤(((Au s 0).toNat:Nat):Int)∧(((Au s 0).toNat:Nat):Int)<240∧3≤s.length∧KT (Au s 1).toNat∧KT (Au s 2).toNat)→Cf N s false=some (v3 s (x3 s)):=fun h=>key false (fun h=>(nomatch h)) (by unfold x3;exact(ze h).symm)
  by_cases h0:(((Au s 0).toNat:Nat):Int)≥224
  ·rw [if_pos h0]
   by_cases h1:(((Au s 0).toNat:Nat):Int)<240
   ·rw [zf h1,FR,if_pos rfl]
    by_cases h2:(s.length:Int)≥3
    ·rw [zf h2,FQ,if_pos rfl,Aj _ (by omega),SI,q0]
     by_cases g1:KT (Au s 1).toNat
     ·rw [zf g1,FP,if_pos rfl,Aj _ (by omega),SI,q0]
      refine key _ (fun _=>by omega) ?_
      unfold x3
      exact decide_eq_decide.mpr ⟨fun h=>⟨by omega,h1,by omega,g1,h⟩,fun h=>h.2.2.2.2⟩
     ·rw [ze g1];exact no (fun h=>g1 h.2.2.2.1)
    ·rw [ze h2];exact no (fun h=>h2 (by omega))
   ·rw [ze h1];exact no (fun h=>h1 h.2.1)
  ·rw [if_neg h0];exact no (fun h=>h0 h.1)
def x2(s:List UInt8):Bool:=decide (194≤(((Au s 0).toNat:Nat):Int)∧(((Au s 0).toNat:Nat):Int)<224∧2≤s.length∧KT (Au s 1).toNat)
theorem vn(h:s≠ []):(if(((Au s 0).toNat:Nat):Int)<128 then((((Au s 0).toNat:Nat):Int),1)else v2 s (x2 s))=(((dec s).1:Int),((dec s).2:Int)):=by
 have e0:s.getD 0 0=Au s 0:=rfl
 have e1:s.getD 1 0=Au s 1:=rfl
 have e2:s.getD 2 0=Au s 2:=rfl
 have e3:s.getD 3 0=Au s 3:=rfl
 unfold dec RX v2 v3 v4 x2 x3 x4 c2 c3 c4 KT
 rw [e0,e1,e2,e3]
 have h0:=(Au s 0).toNat_lt;have h1:=(Au s 1).toNat_lt;have h2:=(Au s 2).toNat_lt;have h3:=(Au s 3).toNat_lt
 generalize (Au s 0).toNat=b0 at*
 generalize (Au s 1).toNat=b1 at*
 generalize (Au s 2).toNat=b2 at*
 generalize (Au s 3).toNat=b3 at*
 simp only [decide_eq_true_eq]
 by_cases g0:b0<128
 ·rw [if_pos (by omega),if_pos g0];rfl
 rw [if_neg (by omega),if_neg g0]
 by_cases g1:194≤b0∧b0<224∧2≤s.length∧128≤b1∧b1<192
 ·rw [if_pos (by omega),if_pos g1]
  exact Prod.ext (by show(64*((b0:Int) - 192)+(b1:Int) - 128)=((64*(b0 - 192)+(b1 - 128):Nat):Int);omega) rfl
 rw [if_neg (by omega),if_neg g1]
 by_cases g2:224≤b0∧b0<240∧3≤s.length∧(128≤b1∧b1<192)∧(128≤b2∧b2<192)∧2048≤4096*(b0 - 224)+64*(b1 - 128)+(b2 - 128)∧(4096*(b0 - 224)+64*(b1 - 128)+(b2 - 128)<55296∨57343<4096*(b0 - 224)+64*(b1 - 128)+(b2 - 128))
 ·rw [if_pos (by omega),if_pos g2]
  exact Prod.ext (by show(4096*((b0:Int) - 224)+64*((b1:Int) - 128)+(b2:Int) - 128)=((4096*(b0 - 224)+64*(b1 - 128)+(b2 - 128):Nat):Int);omega) rfl
 rw [if_neg (by omega),if_neg g2]
 by_cases g3:240≤b0∧b0<245∧4≤s.length∧(128≤b1∧b1<192)∧(128≤b2∧b2<192)∧(128≤b3∧b3<192)∧65536≤262144*(b0 - 240)+4096*(b1 - 128)+64*(b2 - 128)+(b3 - 128)∧262144*(b0 - 240)+4096*(b1 - 128)+64*(b2 - 128)+(b3 - 128)≤1114111
 ·rw [if_pos (by omega),if_pos g3]
  exact Prod.ext (by show(262144*((b0:Int) - 240)+4096*((b1:Int) - 128)+64*((b2:Int) - 128)+(b3:Int) - 128)=((262144*(b0 - 240)+4096*(b1 - 128)+64*(b2 - 128)+(b3 - 128):Nat):Int);omega) rfl
 rw [if_neg (by omega),if_neg g3];rfl
theorem pP(h:s≠ []):GJ N s=some (((dec s).1:Int),((dec s).2:Int)):=by
 have hl:=List.length_pos_iff.mpr h
 rw [←vn s h]
 unfold GJ
 have key: ∀x,(x=true→2≤s.length)→x=x2 s→Cv N s x=some (v2 s (x2 s)):=fun x h e=>by rw [vR N s x h,e]
 have no: ¬(194≤(((Au s 0).toNat:Nat):Int)∧(((Au s 0).toNat:Nat):Int)<224∧2≤s.length∧KT (Au s 1).toNat)→Cv N s false=some (v2 s (x2 s)):=fun h=>key false (fun h=>(nomatch h)) (by unfold x2;exact(ze h).symm)
 rw [if_neg (by omega),Aj _ (by omega)]
 by_cases g:(((Au s 0).toNat:Nat):Int)<128
 ·rw [if_pos g,if_pos g]
 rw [if_neg g,if_neg g]
 by_cases h0:(((Au s 0).toNat:Nat):Int)≥194
 ·rw [if_pos h0]
  by_cases h1:(((Au s 0).toNat:Nat):Int)<224
  ·rw [zf h1,Gu,if_pos rfl]
   by_cases h2:(s.length:Int)≥2
   ·rw [zf h2,Gt,if_pos rfl,Aj _ (by omega),SI,q0]
    refine key _ (fun _=>by omega) ?_
    unfold x2
    exact decide_eq_decide.mpr ⟨fun h=>⟨by omega,h1,by omega,h⟩,fun h=>h.2.2.2⟩
   ·rw [ze h2];exact no (fun h=>h2 (by omega))
  ·rw [ze h1];exact no (fun h=>h1 h.2.1)
 ·rw [if_neg h0];exact no (fun h=>h0 h.1)
end
end Go.Proofs.YtoolcgbcfgnipaaGreatDoor
