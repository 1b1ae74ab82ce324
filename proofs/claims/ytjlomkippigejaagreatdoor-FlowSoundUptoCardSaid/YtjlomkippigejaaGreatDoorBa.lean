import Derived.Test.YtjlomkippigejaaGreatDoorIt
import Derived.Test.YtjlomkippigejaaGreatDoorUt
import Derived.Test.YtjlomkippigejaaGreatDoorBu
import Derived.Test.YtjlomkippigejaaGreatDoorRef
import Derived.Test.YtjlomkippigejaaGreatDoorIo
import Derived.Test.YtjlomkippigejaaGreatDoorRv
namespace Go.Proofs.YtjlomkippigejaaGreatDoor
open Go Go.RowKit Go.Eng _root_.Go.Proofs.Tryz
set_option linter.unusedSimpArgs false
set_option linter.unusedVariables false
set_option maxRecDepth 100000
set_option maxHeartbeats 80000000
abbrev US(b:Nat)(x0:Value)(x1:Value)(x2:Int)(x3:Int)(x4:Int)(x5:Int):List Bl:=[(b,94, #[x0,x1,vI x2,vI x3,vI x4,vI x5])]
abbrev rt(b:Nat)(x0:W2)(x1:Value)(x2:Int)(x3:Int)(x4:Int)(x5:Int):List Bl:=[(b,94, #[vS x0,x1,vI x2,vI x3,vI x4,vI x5])]
theorem YN(c:UInt8): ∀s:W2,Lib.index s [c]=Lib.indexByte s c
  | []=>rfl
  |b::l=>by
    rw [Lib.index,Lib.indexByte,YN c l]
    by_cases h:c=b
    · subst h;simp [List.isPrefixOf]
    · have a: ¬b=c:=λe=>h e.symm
      simp [List.isPrefixOf,h,a]
theorem lK(s a:W2)(h:a.length=1):Gives prog 258 #[.string ⟨s.toArray⟩, .string ⟨a.toArray⟩] (.int .i64 (Lib.index s a)):=by
 obtain⟨c,rfl⟩:=List.length_eq_one_iff.mp h
 rw [YN]
 exact Gives.of_same (λw=>Tryz.stringslite_Index_one ⟨s.toArray⟩ c w)
def Ab3:Enc (W2×Int):=⟨λx=> [vS x.1,vI x.2],2,by decide,λ_=>Z,λx v h=>by simp only [zr,List.not_mem_nil,or_false] at h;rcases h with rfl|rfl<;>rfl,True⟩
def Ad8:Enc (W2×Int×Int):=⟨λx=> [vS x.1,vI x.2.1,vI x.2.2],3,by decide,λ_=>Z,λx v h=>by simp only [zr,List.not_mem_nil,or_false] at h;rcases h with rfl|rfl|rfl<;>rfl,True⟩
def Af3:Enc (Int×Int):=⟨λx=> [vI x.1,vI x.2],2,by decide,λ_=>Z,λx v h=>by simp only [zr,List.not_mem_nil,or_false] at h;rcases h with rfl|rfl<;>rfl,True⟩
def Ad1:Enc (Int×Int×Int):=⟨λx=> [vI x.1,vI x.2.1,vI x.2.2],3,by decide,λ_=>Z,λx v h=>by simp only [zr,List.not_mem_nil,or_false] at h;rcases h with rfl|rfl|rfl<;>rfl,True⟩
def Af4:Enc (Int×W3×Int×W3×Int):=⟨λx=> [vI x.1,U (hi x.2.1),U (lo x.2.1),vI x.2.2.1,U (hi x.2.2.2.1),U (lo x.2.2.2.1),vI x.2.2.2.2],7,by decide,λ_=>Z,λx v h=>by simp only [zr,List.not_mem_nil,or_false] at h;rcases h with rfl|rfl|rfl|rfl|rfl|rfl|rfl<;>rfl,True⟩
def Ac8:Enc (W1):=⟨λx=> [vI x.1,vI x.2.1,vI x.2.2.1,vI x.2.2.2.1,U (hi x.2.2.2.2),U (lo x.2.2.2.2)],6,by decide,λ_=>Z,λx v h=>by simp only [zr,List.not_mem_nil,or_false] at h;rcases h with rfl|rfl|rfl|rfl|rfl|rfl<;>rfl,True⟩
def Ad0:Enc (Int×W3):=⟨λx=> [vI x.1,U (hi x.2),U (lo x.2)],3,by decide,λ_=>Z,λx v h=>by simp only [zr,List.not_mem_nil,or_false] at h;rcases h with rfl|rfl|rfl<;>rfl,True⟩
def Ae6:Enc (Int×Int):=⟨λx=> [vI x.1,vI x.2],2,by decide,λ_=>Z,λx v h=>by simp only [zr,List.not_mem_nil,or_false] at h;rcases h with rfl|rfl<;>rfl,True⟩
def Af0:Enc (W2×Int×Int):=⟨λx=> [vS x.1,vI x.2.1,vI x.2.2],3,by decide,λ_=>Z,λx v h=>by simp only [zr,List.not_mem_nil,or_false] at h;rcases h with rfl|rfl|rfl<;>rfl,True⟩
def Af1:Enc (W2×Int):=⟨λx=> [vS x.1,vI x.2],2,by decide,λ_=>Z,λx v h=>by simp only [zr,List.not_mem_nil,or_false] at h;rcases h with rfl|rfl<;>rfl,True⟩
def Af2:Enc (W2×Int×Int×Int):=⟨λx=> [vS x.1,vI x.2.1,vI x.2.2.1,vI x.2.2.2],4,by decide,λ_=>Z,λx v h=>by simp only [zr,List.not_mem_nil,or_false] at h;rcases h with rfl|rfl|rfl|rfl<;>rfl,True⟩
def Sj:Enc (Int×Int):=⟨λx=> [vI x.1,vI x.2],2,by decide,λ_=>Z,λx v h=>by simp only [zr,List.not_mem_nil,or_false] at h;rcases h with rfl|rfl<;>rfl,True⟩
def Ae9:Enc (W0):=⟨λx=> [vS x.1,vI x.2.1,vI x.2.2.1,vI x.2.2.2.1,vI x.2.2.2.2.1,vI x.2.2.2.2.2.1,vI x.2.2.2.2.2.2.1,vI x.2.2.2.2.2.2.2.1,vS x.2.2.2.2.2.2.2.2],9,by decide,λ_=>Z,λx v h=>by simp only [zr,List.not_mem_nil,or_false] at h;rcases h with rfl|rfl|rfl|rfl|rfl|rfl|rfl|rfl|rfl<;>rfl,True⟩
def Nb:Enc (Bool×W4):=⟨λx=> [vB x.1,U x.2],2,by decide,λ_=>Z,λx v h=>by simp only [zr,List.not_mem_nil,or_false] at h;rcases h with rfl|rfl<;>rfl,True⟩
def Ad5:Sn ((W2)×(List (W2×Int))×Int×Int×Int×Int):=⟨λc x a=> ∃(s0:Value),Rd Ab3 c s0 x.2.1/\a=[vS x.1,s0,vI x.2.2.1,vI x.2.2.2.1,vI x.2.2.2.2.1,vI x.2.2.2.2.2],6,by decide,λhc ⟨s0,h0,hv⟩=>⟨s0,h0.mono hc,hv⟩⟩
def Ae1:Sn ((W2)×(List (Int×Int))×(List (Int×Int×Int))×(List (Int×W3×Int×W3×Int))×Int):=⟨λc x a=> ∃(s0:Value) (s1:Value) (s2:Value),Rd Af3 c s0 x.2.1/\Rd Ad1 c s1 x.2.2.1/\Rd Af4 c s2 x.2.2.2.1/\a=[vS x.1,s0,s1,s2,vI x.2.2.2.2],5,by decide,λhc ⟨s0,s1,s2,h0,h1,h2,hv⟩=>⟨s0,s1,s2,h0.mono hc,h1.mono hc,h2.mono hc,hv⟩⟩
def Ad7:Sn ((W2)×(List Int)×(List (W1))):=⟨λc x a=> ∃(s0:Value) (s1:Value),Rd BE c s0 x.2.1/\Rd Ac8 c s1 x.2.2/\a=[vS x.1,s0,s1],3,by decide,λhc ⟨s0,s1,h0,h1,hv⟩=>⟨s0,s1,h0.mono hc,h1.mono hc,hv⟩⟩
def Ae2:Sn ((W2)×Int×(List (Int×Int×Int))×(List Int)×Int×(List (Int×W3))×Int):=⟨λc x a=> ∃(s0:Value) (s1:Value) (s2:Value),Rd Ad1 c s0 x.2.2.1/\Rd BE c s1 x.2.2.2.1/\Rd Ad0 c s2 x.2.2.2.2.2.1/\a=[vS x.1,vI x.2.1,s0,s1,vI x.2.2.2.2.1,s2,vI x.2.2.2.2.2.2],7,by decide,λhc ⟨s0,s1,s2,h0,h1,h2,hv⟩=>⟨s0,s1,s2,h0.mono hc,h1.mono hc,h2.mono hc,hv⟩⟩
def Ad3:Sn (Int×Int×(List (W1))×(List (Int×W3))×Int×Int):=⟨λc x a=> ∃(s0:Value) (s1:Value),Rd Ac8 c s0 x.2.2.1/\Rd Ad0 c s1 x.2.2.2.1/\a=[vI x.1,vI x.2.1,s0,s1,vI x.2.2.2.2.1,vI x.2.2.2.2.2],6,by decide,λhc ⟨s0,s1,h0,h1,hv⟩=>⟨s0,s1,h0.mono hc,h1.mono hc,hv⟩⟩
abbrev Ao:Type:=(W2)×(List ((W2)×(List (W2×Int))×Int×Int×Int×Int))×(List (W2×Int×Int))×(List (W2×Int))×(List ((W2)×(List (Int×Int))×(List (Int×Int×Int))×(List (Int×W3×Int×W3×Int))×Int))×(List ((W2)×(List Int)×(List (W1))))×(List ((W2)×Int×(List (Int×Int×Int))×(List Int)×Int×(List (Int×W3))×Int))×(List (Int×Int×(List (W1))×(List (Int×W3))×Int×Int))×(List (Int×Int×(List (W1))×(List (Int×W3))×Int×Int))×(List Int)×(List (Int×Int))×(List (Int×Int))×(List (W2×Int×Int))×(List (W2×Int))×(List (W2×Int×Int×Int))×Int×Int×Int
abbrev AB:Type:=Value×Value×Value×Value×Value×Value×Value×Value×Value×Value×Value×Value×Value×Value
abbrev GY(m:Ao)(v:AB):List Value:=[vS m.1,v.1,v.2.1,v.2.2.1,v.2.2.2.1,v.2.2.2.2.1,v.2.2.2.2.2.1,v.2.2.2.2.2.2.1,v.2.2.2.2.2.2.2.1,v.2.2.2.2.2.2.2.2.1,v.2.2.2.2.2.2.2.2.2.1,v.2.2.2.2.2.2.2.2.2.2.1,v.2.2.2.2.2.2.2.2.2.2.2.1,v.2.2.2.2.2.2.2.2.2.2.2.2.1,v.2.2.2.2.2.2.2.2.2.2.2.2.2,vI m.2.2.2.2.2.2.2.2.2.2.2.2.2.2.2.1,vI m.2.2.2.2.2.2.2.2.2.2.2.2.2.2.2.2.1,vI m.2.2.2.2.2.2.2.2.2.2.2.2.2.2.2.2.2]
abbrev Ac(m:Ao)(v:AB):Array Value:=(GY m v).toArray
abbrev Aa1(ro:Ro)(v:AB)(m:Ao):Prop:=RdN Ad5 ro v.1 m.2.1/\Rd Ad8 ro v.2.1 m.2.2.1/\Rd Ab3 ro v.2.2.1 m.2.2.2.1/\RdN Ae1 ro v.2.2.2.1 m.2.2.2.2.1/\RdN Ad7 ro v.2.2.2.2.1 m.2.2.2.2.2.1/\RdN Ae2 ro v.2.2.2.2.2.1 m.2.2.2.2.2.2.1/\RdN Ad3 ro v.2.2.2.2.2.2.1 m.2.2.2.2.2.2.2.1/\RdN Ad3 ro v.2.2.2.2.2.2.2.1 m.2.2.2.2.2.2.2.2.1/\Rd BE ro v.2.2.2.2.2.2.2.2.1 m.2.2.2.2.2.2.2.2.2.1/\Rd Ae6 ro v.2.2.2.2.2.2.2.2.2.1 m.2.2.2.2.2.2.2.2.2.2.1/\Rd Ae6 ro v.2.2.2.2.2.2.2.2.2.2.1 m.2.2.2.2.2.2.2.2.2.2.2.1/\Rd Af0 ro v.2.2.2.2.2.2.2.2.2.2.2.1 m.2.2.2.2.2.2.2.2.2.2.2.2.1/\Rd Af1 ro v.2.2.2.2.2.2.2.2.2.2.2.2.1 m.2.2.2.2.2.2.2.2.2.2.2.2.2.1/\Rd Af2 ro v.2.2.2.2.2.2.2.2.2.2.2.2.2 m.2.2.2.2.2.2.2.2.2.2.2.2.2.2.1
theorem Aa1.mono {c d:Addr->Option Value}{v:AB}{m:Ao}(b: ∀a v,c a=some v->d a=some v)(h:Aa1 c v m):Aa1 d v m:=⟨RdN.mono b h.1,Rd.mono b h.2.1,Rd.mono b h.2.2.1,RdN.mono b h.2.2.2.1,RdN.mono b h.2.2.2.2.1,RdN.mono b h.2.2.2.2.2.1,RdN.mono b h.2.2.2.2.2.2.1,RdN.mono b h.2.2.2.2.2.2.2.1,Rd.mono b h.2.2.2.2.2.2.2.2.1,Rd.mono b h.2.2.2.2.2.2.2.2.2.1,Rd.mono b h.2.2.2.2.2.2.2.2.2.2.1,Rd.mono b h.2.2.2.2.2.2.2.2.2.2.2.1,Rd.mono b h.2.2.2.2.2.2.2.2.2.2.2.2.1,Rd.mono b h.2.2.2.2.2.2.2.2.2.2.2.2.2⟩
abbrev xC:Type:=(W2)×(List ((W2)×(List (W2×Int))×Int×Int×Int×Int))×(List (W2×Int×Int))×(List (W2×Int))×(List ((W2)×(List (Int×Int))×(List (Int×Int×Int))×(List (Int×W3×Int×W3×Int))×Int))×(List ((W2)×(List Int)×(List (W1))))×(List ((W2)×Int×(List (Int×Int×Int))×(List Int)×Int×(List (Int×W3))×Int))×(List (Int×Int×(List (W1))×(List (Int×W3))×Int×Int))×(List (Int×Int×(List (W1))×(List (Int×W3))×Int×Int))×(List Int)×(List (Int×Int))×(List (Int×Int))×(List (W2×Int×Int))×(List (W2×Int))×(List (W2×Int×Int×Int))×Int×Int×Int×(List (Bool×W4))
abbrev wg:Type:=Value×Value×Value×Value×Value×Value×Value×Value×Value×Value×Value×Value×Value×Value×Value
abbrev ye(ro:Ro)(v:wg)(m:xC):Prop:=RdN Ad5 ro v.1 m.2.1/\Rd Ad8 ro v.2.1 m.2.2.1/\Rd Ab3 ro v.2.2.1 m.2.2.2.1/\RdN Ae1 ro v.2.2.2.1 m.2.2.2.2.1/\RdN Ad7 ro v.2.2.2.2.1 m.2.2.2.2.2.1/\RdN Ae2 ro v.2.2.2.2.2.1 m.2.2.2.2.2.2.1/\RdN Ad3 ro v.2.2.2.2.2.2.1 m.2.2.2.2.2.2.2.1/\RdN Ad3 ro v.2.2.2.2.2.2.2.1 m.2.2.2.2.2.2.2.2.1/\Rd BE ro v.2.2.2.2.2.2.2.2.1 m.2.2.2.2.2.2.2.2.2.1/\Rd Ae6 ro v.2.2.2.2.2.2.2.2.2.1 m.2.2.2.2.2.2.2.2.2.2.1/\Rd Ae6 ro v.2.2.2.2.2.2.2.2.2.2.1 m.2.2.2.2.2.2.2.2.2.2.2.1/\Rd Af0 ro v.2.2.2.2.2.2.2.2.2.2.2.1 m.2.2.2.2.2.2.2.2.2.2.2.2.1/\Rd Af1 ro v.2.2.2.2.2.2.2.2.2.2.2.2.1 m.2.2.2.2.2.2.2.2.2.2.2.2.2.1/\Rd Af2 ro v.2.2.2.2.2.2.2.2.2.2.2.2.2.1 m.2.2.2.2.2.2.2.2.2.2.2.2.2.2.1/\Rd Nb ro v.2.2.2.2.2.2.2.2.2.2.2.2.2.2 m.2.2.2.2.2.2.2.2.2.2.2.2.2.2.2.2.2.2
def Cp(_:Nat)(c:UInt8):Option Bool:=if(((c.toNat:Nat):Int):Int)>=128 then some (decide ((((c.toNat:Nat):Int):Int)<192))else some false
theorem Gt(N c r)(a:Cp N c=some r):Gives prog 209 #[Value.int .u8 ((c.toNat:Nat):Int)] (vB r):=by
 unfold Cp at a
 refine Aq follows func209 Z 9 Z _ fz1 (λe=> ?_)
 refine AZ Z<|Aa λf b=>Ah<|rn 3 Z ?_
 rcases d:(decide ((((c.toNat:Nat):Int):Int)>=128))with _|_
 ·replace a:=iF d a
  refine rz Z<|b _ _ ?_
  cases a
  exact aR eE1
 replace a:=iD d a
 refine rz Z<|b _ _ ?_
 cases a
 exact aR eE1
def Gn(s:W2)(a:Bool):Option (Int×Int):=if a=true then some ((((((262144*((((Au s 0).toNat:Nat):Int) - 240))+(4096*((((Au s 1).toNat:Nat):Int) - 128)))+(64*((((Au s 2).toNat:Nat):Int) - 128)))+(((Au s 3).toNat:Nat):Int)) - 128),4)else some (65533,1)
def CK(s:W2)(a:Bool):Option (Int×Int):=if a=true then ck ((R64 ((((Au s 0).toNat:Nat):Int) - 240))) (ck ((R64 (262144*((((Au s 0).toNat:Nat):Int) - 240)))) (ck ((0:Int)<=1/\1<(s.length:Int)) (ck ((R64 ((((Au s 1).toNat:Nat):Int) - 128))) (ck ((R64 (4096*((((Au s 1).toNat:Nat):Int) - 128)))) (ck ((R64 ((262144*((((Au s 0).toNat:Nat):Int) - 240))+(4096*((((Au s 1).toNat:Nat):Int) - 128))))) (ck ((0:Int)<=2/\2<(s.length:Int)) (ck ((R64 ((((Au s 2).toNat:Nat):Int) - 128))) (ck ((R64 (64*((((Au s 2).toNat:Nat):Int) - 128)))) (ck ((R64 (((262144*((((Au s 0).toNat:Nat):Int) - 240))+(4096*((((Au s 1).toNat:Nat):Int) - 128)))+(64*((((Au s 2).toNat:Nat):Int) - 128))))) (ck ((0:Int)<=3/\3<(s.length:Int)) (ck ((R64 ((((262144*((((Au s 0).toNat:Nat):Int) - 240))+(4096*((((Au s 1).toNat:Nat):Int) - 128)))+(64*((((Au s 2).toNat:Nat):Int) - 128)))+(((Au s 3).toNat:Nat):Int)))) (ck ((R64 (((((262144*((((Au s 0).toNat:Nat):Int) - 240))+(4096*((((Au s 1).toNat:Nat):Int) - 128)))+(64*((((Au s 2).toNat:Nat):Int) - 128)))+(((Au s 3).toNat:Nat):Int)) - 128))) (if((((((262144*((((Au s 0).toNat:Nat):Int) - 240))+(4096*((((Au s 1).toNat:Nat):Int) - 128)))+(64*((((Au s 2).toNat:Nat):Int) - 128)))+(((Au s 3).toNat:Nat):Int)) - 128):Int)>=65536 then Gn s (decide (((((((262144*((((Au s 0).toNat:Nat):Int) - 240))+(4096*((((Au s 1).toNat:Nat):Int) - 128)))+(64*((((Au s 2).toNat:Nat):Int) - 128)))+(((Au s 3).toNat:Nat):Int)) - 128):Int)<=1114111))else Gn s false)))))))))))))else some (65533,1)
def GJ(N:Nat)(s:W2)(b:Bool):Option (Int×Int):=if b=true then ck ((0:Int)<=3/\3<(s.length:Int)) ((Cp N (Au s 3)).bind λa=>CK s a)else CK s false
def GK(N:Nat)(s:W2)(b:Bool):Option (Int×Int):=if b=true then ck ((0:Int)<=2/\2<(s.length:Int)) ((Cp N (Au s 2)).bind λa=>GJ N s a)else GJ N s false
def GL(N:Nat)(s:W2)(b:Bool):Option (Int×Int):=if b=true then ck ((0:Int)<=1/\1<(s.length:Int)) ((Cp N (Au s 1)).bind λa=>GK N s a)else GK N s false
def GM(N:Nat)(s:W2)(a:Bool):Option (Int×Int):=if a=true then GL N s (decide ((s.length:Int)>=4))else GL N s false
def Fm(N:Nat)(s:W2):Option (Int×Int):=if((((Au s 0).toNat:Nat):Int):Int)>=240 then GM N s (decide (((((Au s 0).toNat:Nat):Int):Int)<245))else GM N s false
def EX(N:Nat)(s:W2)(a:Bool):Option (Int×Int):=if a=true then some (((((4096*((((Au s 0).toNat:Nat):Int) - 224))+(64*((((Au s 1).toNat:Nat):Int) - 128)))+(((Au s 2).toNat:Nat):Int)) - 128),3)else Fm N s 
def Cx(N:Nat)(s:W2)(a:Bool):Option (Int×Int):=if a=true then ck ((R64 ((((Au s 0).toNat:Nat):Int) - 224))) (ck ((R64 (4096*((((Au s 0).toNat:Nat):Int) - 224)))) (ck ((0:Int)<=1/\1<(s.length:Int)) (ck ((R64 ((((Au s 1).toNat:Nat):Int) - 128))) (ck ((R64 (64*((((Au s 1).toNat:Nat):Int) - 128)))) (ck ((R64 ((4096*((((Au s 0).toNat:Nat):Int) - 224))+(64*((((Au s 1).toNat:Nat):Int) - 128))))) (ck ((0:Int)<=2/\2<(s.length:Int)) (ck ((R64 (((4096*((((Au s 0).toNat:Nat):Int) - 224))+(64*((((Au s 1).toNat:Nat):Int) - 128)))+(((Au s 2).toNat:Nat):Int)))) (ck ((R64 ((((4096*((((Au s 0).toNat:Nat):Int) - 224))+(64*((((Au s 1).toNat:Nat):Int) - 128)))+(((Au s 2).toNat:Nat):Int)) - 128))) (if(((((4096*((((Au s 0).toNat:Nat):Int) - 224))+(64*((((Au s 1).toNat:Nat):Int) - 128)))+(((Au s 2).toNat:Nat):Int)) - 128):Int)>=2048 then if(((((4096*((((Au s 0).toNat:Nat):Int) - 224))+(64*((((Au s 1).toNat:Nat):Int) - 128)))+(((Au s 2).toNat:Nat):Int)) - 128):Int)<55296 then EX N s true else EX N s (decide ((((((4096*((((Au s 0).toNat:Nat):Int) - 224))+(64*((((Au s 1).toNat:Nat):Int) - 128)))+(((Au s 2).toNat:Nat):Int)) - 128):Int)>57343))else EX N s false)))))))))else Fm N s 
def Gk(N:Nat)(s:W2)(b:Bool):Option (Int×Int):=if b=true then ck ((0:Int)<=2/\2<(s.length:Int)) ((Cp N (Au s 2)).bind λa=>Cx N s a)else Cx N s false
def Gl(N:Nat)(s:W2)(a:Bool):Option (Int×Int):=if a=true then ck ((0:Int)<=1/\1<(s.length:Int)) ((Cp N (Au s 1)).bind λb=>Gk N s b)else Gk N s false
def Gm(N:Nat)(s:W2)(a:Bool):Option (Int×Int):=if a=true then Gl N s (decide ((s.length:Int)>=3))else Gl N s false
def CL(N:Nat)(s:W2)(a:Bool):Option (Int×Int):=if a=true then ck ((R64 ((((Au s 0).toNat:Nat):Int) - 192))) (ck ((R64 (64*((((Au s 0).toNat:Nat):Int) - 192)))) (ck ((0:Int)<=1/\1<(s.length:Int)) (ck ((R64 ((64*((((Au s 0).toNat:Nat):Int) - 192))+(((Au s 1).toNat:Nat):Int)))) (ck ((R64 (((64*((((Au s 0).toNat:Nat):Int) - 192))+(((Au s 1).toNat:Nat):Int)) - 128))) (some ((((64*((((Au s 0).toNat:Nat):Int) - 192))+(((Au s 1).toNat:Nat):Int)) - 128),2))))))else if((((Au s 0).toNat:Nat):Int):Int)>=224 then Gm N s (decide (((((Au s 0).toNat:Nat):Int):Int)<240))else Gm N s false
def GN(N:Nat)(s:W2)(b:Bool):Option (Int×Int):=if b=true then ck ((0:Int)<=1/\1<(s.length:Int)) ((Cp N (Au s 1)).bind λa=>CL N s a)else CL N s false
def GO(N:Nat)(s:W2)(a:Bool):Option (Int×Int):=if a=true then GN N s (decide ((s.length:Int)>=2))else GN N s false
def Hi(N:Nat)(s:W2):Option (Int×Int):=if(s.length:Int)=0 then some (65533,0)else ck ((0:Int)<=0/\0<(s.length:Int)) (if((((Au s 0).toNat:Nat):Int):Int)<128 then some ((((Au s 0).toNat:Nat):Int),1)else if((((Au s 0).toNat:Nat):Int):Int)>=194 then GO N s (decide (((((Au s 0).toNat:Nat):Int):Int)<224))else GO N s false)
theorem Qx(N s r)(a:Hi N s=some r):Gives prog 140 #[vS s] (vT #[vI r.1,vI r.2]):=by
 unfold Hi at a
 refine Aq follows func140 Z 139 Z _ fz1 (λbc=> ?_)
 refine AZ Z<|Aa λK2 bd=>Ad<|rn 1 Z<|r_W (vI (s.length:Int)) Z (Ns Z Z Z)<|rz Z<|aE a Z (λbe a=> ?_) (λbe a=> ?_)
 ·refine AZ Z ?_
  cases a
  exact aR eE2
 refine Ab<|bd _ _ ?_
 refine Ad<|rn 1 Z<|kC a λbf a=>r_W (Value.int .u8 (Jx s 0)) Z (Fc (Hu Z bf))<|r_w (vI (((Au s 0).toNat:Nat):Int)) Z Z (RK (Au s 0)) (λ_=>Z)<|rz Z<|Aa λK8 bg=>AZ Z<|aD a Z (λy a=> ?_) (λy a=> ?_)
 ·refine AZ Z ?_
  cases a
  exact aR eE2
 refine Ab<|bg _ _ ?_
 refine Aa λbr z=>Aa λbs A=>Ah<|rn 3 Z<|AF 3 21 [(0,vS s),(4,vI (((Au s 0).toNat:Nat):Int))] vB (λb_=>GO N s b_=some r) (λbh a T=> ?_) (λb=> ?_)
 ·unfold GO at a
  refine rn 1 Z<|AF 4 26 [(0,vS s),(4,vI (((Au s 0).toNat:Nat):Int))] vB (λb_=>GN N s b_=some r) (λbi a T=> ?_) (λb=> ?_)
  ·unfold GN at a
   refine rn 1 Z<|AF 4 31 [(0,vS s),(4,vI (((Au s 0).toNat:Nat):Int))] vB (λb_=>CL N s b_=some r) (λbt a T=> ?_) (λb=> ?_)
   ·unfold CL at a
    refine Ak<|A _ _ ?_
    refine aB a Z (λB a=> ?_) (λB a=> ?_)
    ·refine Ad<|rn 1 Z<|kC a λC a=>rX C Z<|kC a λD a=>rX D Z<|rn 1 Z<|kC a λE a=>r_W (Value.int .u8 (Jx s 1)) Z (Fc (Hu Z E))<|r_w (vI (((Au s 1).toNat:Nat):Int)) Z Z (RK (Au s 1)) (λ_=>Z)<|kC a λF a=>rX F Z<|kC a λG a=>rX G Z<|rz Z ?_
     cases a
     exact aR eE2
    refine Ab<|z _ _ ?_
    refine Cb (λtt ll=>(Fm N s  =some r)/\Is [(0,vS s),(4,vI (((Au s 0).toNat:Nat):Int))] [] tt ll) ?_ ?_
    ·refine Aa λbu H=>Ah<|rn 3 Z<|AF 3 45 [(0,vS s),(4,vI (((Au s 0).toNat:Nat):Int))] vB (λb_=>Gm N s b_=some r) (λbj a T=> ?_) (λb=> ?_)
     ·unfold Gm at a
      refine rn 1 Z<|AF 4 50 [(0,vS s),(4,vI (((Au s 0).toNat:Nat):Int))] vB (λb_=>Gl N s b_=some r) (λbk a T=> ?_) (λb=> ?_)
      ·unfold Gl at a
       refine rn 1 Z<|AF 4 55 [(0,vS s),(4,vI (((Au s 0).toNat:Nat):Int))] vB (λb_=>Gk N s b_=some r) (λbl a T=> ?_) (λb=> ?_)
       ·unfold Gk at a
        refine rn 1 Z<|AF 4 60 [(0,vS s),(4,vI (((Au s 0).toNat:Nat):Int))] vB (λb_=>Cx N s b_=some r) (λbv a T=> ?_) (λb=> ?_)
        ·unfold Cx at a
         refine Ak<|H _ _ ?_
         refine aB a Z (λI a=> ?_) (λI a=> ?_)
         ·refine Aa λbw J=>Ia [] (by decide+kernel) (λhn=>AK)<|rn 1 Z<|kC a λK a=>rX K Z<|kC a λL a=>rX L Z<|rn 1 Z<|kC a λM a=>r_W (Value.int .u8 (Jx s 1)) Z (Fc (Hu Z M))<|r_w (vI (((Au s 1).toNat:Nat):Int)) Z Z (RK (Au s 1)) (λ_=>Z)<|kC a λO a=>rX O Z<|kC a λP a=>rX P Z<|kC a λQ a=>rX Q Z<|rn 1 Z<|kC a λR a=>r_W (Value.int .u8 (Jx s 2)) Z (Fc (Hu Z R))<|r_w (vI (((Au s 2).toNat:Nat):Int)) Z Z (RK (Au s 2)) (λ_=>Z)<|kC a λS a=>rX S Z<|kC a λU a=>rX U Z<|rz Z<|J _ _ ?_
          refine Aa λbz V=>Ah<|rn 3 Z ?_
          refine AF 7 84 [(0,vS s),(4,vI (((Au s 0).toNat:Nat):Int)),(5,vI (((((4096*((((Au s 0).toNat:Nat):Int) - 224))+(64*((((Au s 1).toNat:Nat):Int) - 128)))+(((Au s 2).toNat:Nat):Int)) - 128)))] vB (λb_=>EX N s b_=some r) (λca a T=> ?_) (λb=> ?_)
          ·unfold EX at a
           refine Ak<|V _ _ ?_
           refine aB a Z (λW a=> ?_) (λW a=> ?_)
           ·refine AZ Z ?_
            cases a
            exact aR eE2
           refine Ab<|fg _ (Sub.of suN) ?_
           exact⟨a,Ag Z Z⟩
          rcases e:(decide ((((((4096*((((Au s 0).toNat:Nat):Int) - 224))+(64*((((Au s 1).toNat:Nat):Int) - 128)))+(((Au s 2).toNat:Nat):Int)) - 128):Int)>=2048))with _|_
          ·replace a:=iF e a
           refine rn 3 Z<|Cd Z Z<|Cd Z Z<|rn 2 Z ?_
           exact b _ _ a Z Z
          replace a:=iD e a
          refine rn 3 Z ?_
          rcases f:(decide ((((((4096*((((Au s 0).toNat:Nat):Int) - 224))+(64*((((Au s 1).toNat:Nat):Int) - 128)))+(((Au s 2).toNat:Nat):Int)) - 128):Int)<55296))with _|_
          ·replace a:=iF f a
           refine rn 4 Z ?_
           exact b _ _ a Z Z
          replace a:=iD f a
          refine rn 4 Z ?_
          exact b _ _ a Z Z
         refine Ab<|fg _ (Sub.of suN) ?_
         exact⟨a,Ag Z Z⟩
        rcases g:bl with _|_
        ·replace a:=iB g a
         refine rn 4 Z ?_
         exact b _ _ a Z Z
        replace a:=ifp g a
        refine rn 1 Z<|r_y Z<|kC a λX a=>r_W (Value.int .u8 (Jx s 2)) Z (Fc (Hu Z X))<|r_y Z<|kB a λcb Y a=>rc _ (cF PA) (Gt N (Au s 2) _ Y)<|rn 1 Z ?_
        exact b _ _ a Z Z
       rcases h:bk with _|_
       ·replace a:=iB h a
        refine rn 4 Z ?_
        exact b _ _ a Z Z
       replace a:=ifp h a
       refine rn 1 Z<|r_y Z<|kC a λaa a=>r_W (Value.int .u8 (Jx s 1)) Z (Fc (Hu Z aa))<|r_y Z<|kB a λcc ab a=>rc _ (cF PA) (Gt N (Au s 1) _ ab)<|rn 1 Z ?_
       exact b _ _ a Z Z
      rcases i:bj with _|_
      ·replace a:=iB i a
       refine rn 4 Z ?_
       exact b _ _ a Z Z
      replace a:=ifp i a
      refine rn 1 Z<|r_y Z<|r_W (vI (s.length:Int)) Z (Ns Z Z Z)<|rn 2 Z ?_
      exact b _ _ a Z Z
     rcases j:(decide (((((Au s 0).toNat:Nat):Int):Int)>=224))with _|_
     ·replace a:=iF j a
      refine rn 3 Z ?_
      exact b _ _ a Z Z
     replace a:=iD j a
     refine rn 3 Z ?_
     exact b _ _ a Z Z
    clear a;rintro t l ⟨a,⟨T,rfl⟩,rfl⟩
    unfold Fm at a
    refine Aa λcd k=>Aa λce ac=>Ah<|rn 3 Z<|AF 3 91 [(0,vS s),(4,vI (((Au s 0).toNat:Nat):Int))] vB (λb_=>GM N s b_=some r) (λbm a T=> ?_) (λb=> ?_)
    ·unfold GM at a
     refine rn 1 Z<|AF 4 96 [(0,vS s),(4,vI (((Au s 0).toNat:Nat):Int))] vB (λb_=>GL N s b_=some r) (λbn a T=> ?_) (λb=> ?_)
     ·unfold GL at a
      refine rn 1 Z<|AF 4 101 [(0,vS s),(4,vI (((Au s 0).toNat:Nat):Int))] vB (λb_=>GK N s b_=some r) (λbo a T=> ?_) (λb=> ?_)
      ·unfold GK at a
       refine rn 1 Z<|AF 4 106 [(0,vS s),(4,vI (((Au s 0).toNat:Nat):Int))] vB (λb_=>GJ N s b_=some r) (λbp a T=> ?_) (λb=> ?_)
       ·unfold GJ at a
        refine rn 1 Z<|AF 4 111 [(0,vS s),(4,vI (((Au s 0).toNat:Nat):Int))] vB (λb_=>CK s b_=some r) (λcf a T=> ?_) (λb=> ?_)
        ·unfold CK at a
         refine Ak<|ac _ _ ?_
         refine aB a Z (λad a=> ?_) (λad a=> ?_)
         ·refine Aa λcg ae=>Ia [] (by decide+kernel) (λhn=>AK)<|rn 1 Z<|kC a λaf a=>rX af Z<|kC a λag a=>rX ag Z<|rn 1 Z<|kC a λah a=>r_W (Value.int .u8 (Jx s 1)) Z (Fc (Hu Z ah))<|r_w (vI (((Au s 1).toNat:Nat):Int)) Z Z (RK (Au s 1)) (λ_=>Z)<|kC a λai a=>rX ai Z<|kC a λaj a=>rX aj Z<|kC a λak a=>rX ak Z<|rn 1 Z<|kC a λal a=>r_W (Value.int .u8 (Jx s 2)) Z (Fc (Hu Z al))<|r_w (vI (((Au s 2).toNat:Nat):Int)) Z Z (RK (Au s 2)) (λ_=>Z)<|kC a λam a=>rX am Z<|kC a λan a=>rX an Z<|kC a λao a=>rX ao Z<|rn 1 Z<|kC a λap a=>r_W (Value.int .u8 (Jx s 3)) Z (Fc (Hu Z ap))<|r_w (vI (((Au s 3).toNat:Nat):Int)) Z Z (RK (Au s 3)) (λ_=>Z)<|kC a λaq a=>rX aq Z<|kC a λar a=>rX ar Z<|rz Z<|ae _ _ ?_
          refine Aa λch au=>Ah ?_
          refine rn 3 Z ?_
          refine AF 3 137 [(6,vI ((((((262144*((((Au s 0).toNat:Nat):Int) - 240))+(4096*((((Au s 1).toNat:Nat):Int) - 128)))+(64*((((Au s 2).toNat:Nat):Int) - 128)))+(((Au s 3).toNat:Nat):Int)) - 128)))] vB (λb_=>Gn s b_=some r) (λci a T=> ?_) (λb=> ?_)
          ·unfold Gn at a
           refine Ak<|au _ _ ?_
           refine aB a Z (λav a=> ?_) (λav a=> ?_)
           ·refine AZ Z ?_
            cases a
            exact aR eE2
           refine Ab<|k _ _ ?_
           refine AZ Z ?_
           cases a
           exact aR eE2
          rcases m:(decide (((((((262144*((((Au s 0).toNat:Nat):Int) - 240))+(4096*((((Au s 1).toNat:Nat):Int) - 128)))+(64*((((Au s 2).toNat:Nat):Int) - 128)))+(((Au s 3).toNat:Nat):Int)) - 128):Int)>=65536))with _|_
          ·replace a:=iF m a
           refine rn 3 Z ?_
           exact b _ _ a Z Z
          replace a:=iD m a
          refine rn 3 Z ?_
          exact b _ _ a Z Z
         refine Ab<|k _ _ ?_
         refine AZ Z ?_
         cases a
         exact aR eE2
        rcases n:bp with _|_
        ·replace a:=iB n a
         refine rn 4 Z ?_
         exact b _ _ a Z Z
        replace a:=ifp n a
        refine rn 1 Z<|r_y Z<|kC a λaw a=>r_W (Value.int .u8 (Jx s 3)) Z (Fc (Hu Z aw))<|r_y Z<|kB a λcj ax a=>rc _ (cF PA) (Gt N (Au s 3) _ ax)<|rn 1 Z ?_
        exact b _ _ a Z Z
       rcases o:bo with _|_
       ·replace a:=iB o a
        refine rn 4 Z ?_
        exact b _ _ a Z Z
       replace a:=ifp o a
       refine rn 1 Z<|r_y Z<|kC a λay a=>r_W (Value.int .u8 (Jx s 2)) Z (Fc (Hu Z ay))<|r_y Z<|kB a λck az a=>rc _ (cF PA) (Gt N (Au s 2) _ az)<|rn 1 Z ?_
       exact b _ _ a Z Z
      rcases p:bn with _|_
      ·replace a:=iB p a
       refine rn 4 Z ?_
       exact b _ _ a Z Z
      replace a:=ifp p a
      refine rn 1 Z<|r_y Z<|kC a λba a=>r_W (Value.int .u8 (Jx s 1)) Z (Fc (Hu Z ba))<|r_y Z<|kB a λcl bb a=>rc _ (cF PA) (Gt N (Au s 1) _ bb)<|rn 1 Z ?_
      exact b _ _ a Z Z
     rcases q:bm with _|_
     ·replace a:=iB q a
      refine rn 4 Z ?_
      exact b _ _ a Z Z
     replace a:=ifp q a
     refine rn 1 Z<|r_y Z<|r_W (vI (s.length:Int)) Z (Ns Z Z Z)<|rn 2 Z ?_
     exact b _ _ a Z Z
    rcases u:(decide (((((Au s 0).toNat:Nat):Int):Int)>=240))with _|_
    ·replace a:=iF u a
     refine rn 3 Z ?_
     exact b _ _ a Z Z
    replace a:=iD u a
    refine rn 3 Z ?_
    exact b _ _ a Z Z
   rcases v:bi with _|_
   ·replace a:=iB v a
    refine rn 4 Z ?_
    exact b _ _ a Z Z
   replace a:=ifp v a
   refine rn 1 Z<|r_y Z<|kC a λw a=>r_W (Value.int .u8 (Jx s 1)) Z (Fc (Hu Z w))<|r_y Z<|kB a λbq x a=>rc _ (cF PA) (Gt N (Au s 1) _ x)<|rn 1 Z ?_
   exact b _ _ a Z Z
  rcases c:bh with _|_
  ·replace a:=iB c a
   refine rn 4 Z ?_
   exact b _ _ a Z Z
  replace a:=ifp c a
  refine rn 1 Z<|r_y Z<|r_W (vI (s.length:Int)) Z (Ns Z Z Z)<|rn 2 Z ?_
  exact b _ _ a Z Z
 rcases d:(decide (((((Au s 0).toNat:Nat):Int):Int)>=194))with _|_
 ·replace a:=iF d a
  refine rn 3 Z ?_
  exact b _ _ a Z Z
 replace a:=iD d a
 refine rn 3 Z ?_
 exact b _ _ a Z Z
def DQ(N:Nat):Nat->W2->List Int->Option (List Int)
  |0,_,_=>none
  |d+1,a,c=>if(a.length:Int)>0 then(Hi N a).bind λb=>ck ((c).length+([b.1]).length<=17592186044416) (ck (0<=b.2/\b.2<=(a.length:Int)) ((DQ N d) ((a).drop (b.2).toNat) (c++([b.1]))))else some c
def FJ(N:Nat)(s:W2):Option (List Int):=DQ N N s ([])
theorem MJ(N s r)(b:FJ N s=some r)(A:Ro):Does prog 83 #[vS s] A [] (p1 (λs_=>s_) 3 BE r):=by
 unfold FJ at b
 refine Al follows func83 Z 22 Z _ fz1 (λo=> ?_)
 refine AZ Z<|AZ Z<|Aa λB q=>Ai<|Bs _ (Sub.pickE (Ls:=[[]]) (Ls0:=[]) Z [0] Z)<|AH (λtt ll nn=> ∃(h:Nat) (c:W2) (e:List Int),(DQ N h c e=some r)/\ ∃(d:Value) (a:List Bl),Sl 3 BE d e a/\Is [(0,vS c),(3,d)] (List.flatten [a]) tt ll/\nn=h+1) (N+1) ?_ ?_
 ·exact⟨N,s,[],b,nS,[],Sl.nil,Ag Z Z,Z⟩
 clear b;rintro t l _ ⟨h,c,e,b,d,a,f,⟨⟨T,rfl⟩,rfl⟩,rfl⟩
 rcases h with _|h
 ·exact absurd b (by simp [DQ])
 rw [DQ] at b
 refine Aa λC u=>Ad<|rn 1 Z<|r_W (vI (c.length:Int)) Z (Ns Z Z Z)<|rz Z<|aD b Z (λv b=> ?_) (λv b=> ?_)
 ·refine Ab<|u _ _ ?_
  refine Ai<|Ad<|rn 1 Z<|kB b λp j b=>rc _ (cF oY) (Qx N c _ j)<|rz Z<|Ad<|rn 2 Z<|gB (Ls:=[a]) 3 BE [p.1] (λz i w=> ?_)
  refine kC b λg b=>cC 17<|LK (cs0:=[]) (Ls:=[a,i]) 0 (En:=BE) Z Z Z Z Z f Z (Ax w (Aj (Ls:=[a,i]) (k:=1) Z Z)) Z Z Z Z Z (Mf g Z) (Me g Z) Z (λx m y=> ?_)
  refine rz Z<|Ah<|rn 2 Z<|kC b λn b=>r_W (vS ((c).drop (p.2).toNat)) Z (Fc (fA Z n))<|rz Z<|fg _ (Sub.pick [m,i] [0] Z) ?_
  exact⟨h+1,by omega,h,(c).drop (p.2).toNat,(e++([p.1])),b,x,m,y,Ag Z Z,Z⟩
 refine AG<|q _ _ ?_
 refine AZ Z ?_
 cases b
 refine Bh (λD=>GZ (v0:=d) f (Dy (Sub.pick [a] [0] Z)) Z (FZ Z))
def Dt(c:Int)(a:Bool):Option Bool:=if a=true then some true else if c>=1024 then some (decide (c<=1279))else some false
def ES(c:Int)(a:Bool):Option Bool:=if a=true then Dt c true else if c>=913 then Dt c (decide (c<=969))else Dt c false
def ET(c:Int)(a:Bool):Option Bool:=if a=true then some false else if c>=192 then ES c (decide (c<=591))else ES c false
def EU(c:Int)(a:Bool):Option Bool:=if a=true then ET c true else ET c (c==930)
def EV(c:Int)(a:Bool):Option Bool:=if a=true then some true else if c=215 then EU c true else EU c (c==247)
def Du(c:Int)(a:Bool):Option Bool:=if a=true then EV c true else EV c (c==95)
def EW(c:Int)(a:Bool):Option Bool:=if a=true then Du c true else if c>=97 then Du c (decide (c<=122))else Du c false
def Fl(_:Nat)(c:Int):Option Bool:=if c>=65 then EW c (decide (c<=90))else EW c false
theorem Mi(N c r)(a:Fl N c=some r):Gives prog 84 #[vI c] (vB r):=by
 unfold Fl at a
 refine Aq follows func84 Z 53 Z _ fz1 (λs=> ?_)
 refine AZ Z<|Aa λF t=>Aa λG u=>Ah<|rn 3 Z<|AF 3 8 [(0,vI c)] vB (λb_=>EW c b_=some r) (λA a T=> ?_) (λb=> ?_)
 ·unfold EW at a
  refine rn 1 Z<|AF 7 16 [(0,vI c)] vB (λb_=>Du c b_=some r) (λB a T=> ?_) (λb=> ?_)
  ·unfold Du at a
   refine rn 1 Z<|AF 3 20 [(0,vI c)] vB (λb_=>EV c b_=some r) (λH a T=> ?_) (λb=> ?_)
   ·unfold EV at a
    refine Ak<|u _ _ ?_
    refine aB a Z (λv a=> ?_) (λv a=> ?_)
    ·refine AZ Z ?_
     cases a
     exact aR eE1
    refine Ab<|t _ _ ?_
    refine Aa λI w=>Aa λC p=>Ah<|rn 3 Z<|AF 3 26 [(0,vI c)] vB (λb_=>EU c b_=some r) (λx a T=> ?_) (λb=> ?_)
    ·unfold EU at a
     refine rn 1 Z<|AF 3 30 [(0,vI c)] vB (λb_=>ET c b_=some r) (λD a T=> ?_) (λb=> ?_)
     ·unfold ET at a
      refine Ak<|p _ _ ?_
      refine aB a Z (λq a=> ?_) (λq a=> ?_)
      ·refine AZ Z ?_
       cases a
       exact aR eE1
      refine Ab<|w _ _ ?_
      refine Aa λE d=>Ah<|rn 3 Z<|AF 3 36 [(0,vI c)] vB (λb_=>ES c b_=some r) (λy a T=> ?_) (λb=> ?_)
      ·unfold ES at a
       refine rn 1 Z<|AF 7 44 [(0,vI c)] vB (λb_=>Dt c b_=some r) (λz a T=> ?_) (λb=> ?_)
       ·unfold Dt at a
        refine rn 1 Z ?_
        rcases e:z with _|_
        ·replace a:=iB e a
         refine rn 3 Z ?_
         rcases f:(decide (c>=1024))with _|_
         ·replace a:=iF f a
          refine rz Z<|d _ _ ?_
          cases a
          exact aR eE1
         replace a:=iD f a
         refine rz Z<|d _ _ ?_
         cases a
         exact aR eE1
        replace a:=ifp e a
        refine rn 3 Z<|Cd Z Z<|Cd Z Z<|rz Z<|d _ _ ?_
        cases a
        exact aR eE1
       rcases g:y with _|_
       ·replace a:=iB g a
        refine rn 3 Z ?_
        rcases h:(decide (c>=913))with _|_
        ·replace a:=iF h a
         refine rn 4 Z ?_
         exact b _ _ a Z Z
        replace a:=iD h a
        refine rn 4 Z ?_
        exact b _ _ a Z Z
       replace a:=ifp g a
       refine rn 3 Z<|Cd Z Z<|Cd Z Z<|rn 2 Z ?_
       exact b _ _ a Z Z
      rcases i:(decide (c>=192))with _|_
      ·replace a:=iF i a
       refine rn 3 Z ?_
       exact b _ _ a Z Z
      replace a:=iD i a
      refine rn 3 Z ?_
      exact b _ _ a Z Z
     rcases j:x with _|_
     ·replace a:=iB j a
      refine rn 3 Z ?_
      exact b _ _ a Z Z
     replace a:=ifp j a
     refine rn 3 Z ?_
     exact b _ _ a Z Z
    rcases k:(c==215)with _|_
    ·replace a:=iG k a
     refine rn 3 Z ?_
     exact b _ _ a Z Z
    replace a:=iE k a
    refine rn 3 Z ?_
    exact b _ _ a Z Z
   rcases l:B with _|_
   ·replace a:=iB l a
    refine rn 3 Z ?_
    exact b _ _ a Z Z
   replace a:=ifp l a
   refine rn 3 Z ?_
   exact b _ _ a Z Z
  rcases m:A with _|_
  ·replace a:=iB m a
   refine rn 3 Z ?_
   rcases n:(decide (c>=97))with _|_
   ·replace a:=iF n a
    refine rn 4 Z ?_
    exact b _ _ a Z Z
   replace a:=iD n a
   refine rn 4 Z ?_
   exact b _ _ a Z Z
  replace a:=ifp m a
  refine rn 3 Z<|Cd Z Z<|Cd Z Z<|rn 2 Z ?_
  exact b _ _ a Z Z
 rcases o:(decide (c>=65))with _|_
 ·replace a:=iF o a
  refine rn 3 Z ?_
  exact b _ _ a Z Z
 replace a:=iD o a
 refine rn 3 Z ?_
 exact b _ _ a Z Z
def Gu(b:Int)(a:Int->Option Bool)(c:Bool):Option Bool:=if c=true then some false else ck (R64 (b+1)) (a (b+1))
def Fe(d:List Int)(b:Int)(a:Int->Option Bool)(c:Bool):Option Bool:=if c=true then ck (0<=b/\b<(d.length:Int)) (Gu b a ((d[b.toNat]!:Int) !=46))else Gu b a false
def Ff(c:List Int)(b:Int)(a:Int->Option Bool)(d:Bool):Option Bool:=if d=true then ck (0<=b/\b<(c.length:Int)) (Fe c b a ((c[b.toNat]!:Int) !=45))else Fe c b a false
def BC(N:Nat)(b:List Int):Nat->Int->Option Bool
  |0,_=>none
  |c+1,a=>if a<(b.length:Int)then ck (0<=a/\a<(b.length:Int)) ((Fl N (b[a.toNat]!)).bind λd=>if d=true then Ff b a (BC N b c) false else ck (0<=a/\a<(b.length:Int)) (if(b[a.toNat]!:Int)>=48 then ck (0<=a/\a<(b.length:Int)) (Ff b a (BC N b c) (!(decide ((b[a.toNat]!:Int)<=57))))else Ff b a (BC N b c) true))else some true
def Gv(N:Nat)(b:List Int)(a:Bool):Option Bool:=if a=true then some false else BC N b N 0
def Hy(N:Nat)(a:List Int)(b:Bool):Option Bool:=if b=true then Gv N a true else ck (0<=(0:Int)/\(0:Int)<(a.length:Int)) ((Fl N (a[((0:Int)).toNat]!)).bind λc=>Gv N a (!(c)))
def GT(N:Nat)(s:W2):Option Bool:=(FJ N s).bind λa=>if(a.length:Int)<1 then Hy N a true else Hy N a (decide ((a.length:Int)>24))
theorem NC(N s r)(a:GT N s=some r):Gives prog 40 #[vS s] (vB r):=by
 unfold GT at a
 refine Aq follows func40 Z 63 Z _ fz1 (λL=> ?_)
 refine AZ Z<|Ad<|rn 1 Z<|kB a λf M a=>gS (Ls:=[]) (cF ic) (λo w z_=>MJ N s _ M z_.view) (λA g d=> ?_)
 refine rz Z<|Aa λK8 O=>Aa λK9 P=>Ah<|rn 1 Z<|rL (Sl.shp d) Z<|rn 2 Z<|AF 4 14 [(3,A)] vB (λb_=>Hy N f b_=some r) (λQ a T=> ?_) (λe=> ?_)
 ·unfold Hy at a
  refine rn 1 Z<|AF 6 21 [(3,A)] vB (λb_=>Gv N f b_=some r) (λV a T=> ?_) (λe=> ?_)
  ·unfold Gv at a
   refine Ak<|P _ _ ?_
   refine aB a Z (λB a=> ?_) (λB a=> ?_)
   ·refine AZ Z ?_
    cases a
    exact aR eE1
   refine Ab<|O _ _ ?_
   refine Aa λW C=>AZ Z<|Ai<|Bs _ (Sub.pick [g] [0] Z)<|AH (λtt ll nn=> ∃(c:Nat) (b:Int),(BC N f c b=some r)/\Is [(3,A),(4,vI b)] (List.flatten [g]) tt ll/\nn=c+1) (N+1) ?_ ?_
   ·exact⟨N,0,a,Ag Z Z,Z⟩
   clear a;rintro t l _ ⟨c,b,a,⟨⟨T,rfl⟩,rfl⟩,rfl⟩
   rcases c with _|c
   ·exact absurd a (by simp [BC])
   rw [BC] at a
   refine Aa λX D=>Ad<|rn 2 Z<|rL (Sl.shp d) Z<|rz Z<|aD a Z (λE a=> ?_) (λE a=> ?_)
   ·refine Ab<|D _ _ ?_
    refine Aa λY F=>Ai<|Aa λaa G=>Ah<|rn 2 Z<|kC a λh a=>rI (Sl.shp d) h Z<|rE (Ax d (Aj (Ls:=[g]) (k:=0) Z Z)) h 0 Z<|kB a λR H a=>rc _ (cF ib) (Mi N (f[b.toNat]!) _ H)<|rn 2 Z<|AF 14 48 [(3,A),(4,vI b)] vB (λb_=>Ff f b (BC N f c) b_=some r) (λS a T=> ?_) (λe=> ?_)
    ·unfold Ff at a
     refine rn 1 Z<|AF 6 55 [(3,A),(4,vI b)] vB (λb_=>Fe f b (BC N f c) b_=some r) (λU a T=> ?_) (λe=> ?_)
     ·unfold Fe at a
      refine rn 1 Z<|AF 6 62 [(3,A),(4,vI b)] vB (λb_=>Gu b (BC N f c) b_=some r) (λab a T=> ?_) (λe=> ?_)
      ·unfold Gu at a
       refine Ak<|G _ _ ?_
       refine aB a Z (λI a=> ?_) (λI a=> ?_)
       ·refine AZ Z ?_
        cases a
        exact aR eE1
       refine Ab<|F _ _ ?_
       refine Ah<|rn 1 Z<|kC a λJ a=>rX J Z<|rz Z<|fg _ (Sub.pick [g] [0] Z) ?_
       exact⟨c+1,by omega,c,(b+1),a,Ag Z Z,Z⟩
      rcases i:U with _|_
      ·replace a:=iB i a
       refine rn 6 Z ?_
       exact e _ _ a Z Z
      replace a:=ifp i a
      refine rn 2 Z<|r_y Z<|kC a λj a=>rI (Sl.shp d) j Z<|r_y Z<|rE (Ax d (Aj (Ls:=[g]) (k:=0) Z Z)) j 0 Z<|rn 2 Z ?_
      exact e _ _ a Z Z
     rcases m:S with _|_
     ·replace a:=iB m a
      refine rn 6 Z ?_
      exact e _ _ a Z Z
     replace a:=ifp m a
     refine rn 2 Z<|r_y Z<|kC a λn a=>rI (Sl.shp d) n Z<|r_y Z<|rE (Ax d (Aj (Ls:=[g]) (k:=0) Z Z)) n 0 Z<|rn 2 Z ?_
     exact e _ _ a Z Z
    rcases p:(!(R))with _|_
    ·replace a:=ifp (Dl p) a
     refine rn 6 Z<|Cd Z Z<|Cd Z Z<|Cd Z Z<|Cd Z Z<|Cd Z Z<|rn 3 Z ?_
     exact e _ _ a Z Z
    replace a:=ifn (Bool.eq_false_iff.1 (Dk p)) a
    refine rn 2 Z<|r_y Z<|kC a λq a=>rI (Sl.shp d) q Z<|r_y Z<|rE (Ax d (Aj (Ls:=[g]) (k:=0) Z Z)) q 0 Z<|rn 2 Z ?_
    rcases u:(decide ((f[b.toNat]!:Int)>=48))with _|_
    ·replace a:=iF u a
     refine rn 8 Z ?_
     exact e _ _ a Z Z
    replace a:=iD u a
    refine rn 2 Z<|r_y Z<|kC a λv a=>rI (Sl.shp d) v Z<|r_y Z<|rE (Ax d (Aj (Ls:=[g]) (k:=0) Z Z)) v 0 Z<|rn 4 Z ?_
    exact e _ _ a Z Z
   refine AG<|C _ _ ?_
   refine AZ Z ?_
   cases a
   exact aR eE1
  rcases x:Q with _|_
  ·replace a:=iB x a
   refine rn 1 Z<|r_y Z<|kC a λy a=>rI (Sl.shp d) y Z<|r_y Z<|rE (Ax d (Aj (Ls:=[g]) (k:=0) Z Z)) y 0 Z<|r_y Z<|kB a λac K a=>rc _ (cF ib) (Mi N (f[((0:Int)).toNat]!) _ K)<|rn 2 Z ?_
   exact e _ _ a Z Z
  replace a:=ifp x a
  refine rn 6 Z ?_
  exact e _ _ a Z Z
 rcases z:(decide ((f.length:Int)<1))with _|_
 ·replace a:=iF z a
  refine rn 1 Z<|r_y Z<|rL (Sl.shp d) Z<|rn 2 Z ?_
  exact e _ _ a Z Z
 replace a:=iD z a
 refine rn 4 Z ?_
 exact e _ _ a Z Z
def CH(N:Nat)(s:W2):Nat->Int->Option Bool
  |0,_=>none
  |c+1,a=>if a<(s.length:Int)then ck ((0:Int)<=a/\a<(s.length:Int)) (if((Jx s a):Int)=46 then some false else ck (R64 (a+1)) ((CH N s c) (a+1)))else(GT N s).bind λb=>some b
def Df(N:Nat)(s:W2):Option Bool:=CH N s N 0
theorem Ip(N s r)(a:Df N s=some r):Gives prog 85 #[vS s] (vB r):=by
 unfold Df at a
 refine Aq follows func85 Z 16 Z _ fz1 (λh=> ?_)
 refine AZ Z<|Aa λo i=>AZ Z<|Ai<|AH (λtt ll nn=> ∃(c:Nat) (b:Int),(CH N s c b=some r)/\Is [(0,vS s),(3,vI b)] [] tt ll/\nn=c+1) (N+1) ?_ ?_
 ·exact⟨N,0,a,Ag Z Z,Z⟩
 clear a;rintro t l _ ⟨c,b,a,⟨⟨T,rfl⟩,rfl⟩,rfl⟩
 rcases c with _|c
 ·exact absurd a (by simp [CH])
 rw [CH] at a
 refine Aa λp j=>Ad<|rn 2 Z<|r_W (vI (s.length:Int)) Z (Ns Z Z Z)<|rz Z<|aD a Z (λk a=> ?_) (λk a=> ?_)
 ·refine Ab<|j _ _ ?_
  refine Aa λq m=>Ai<|Ad<|rn 2 Z<|kC a λd a=>r_W (Value.int .u8 (Jx s b)) Z (Fc (Hu Z d))<|rz Z<|aE a Z (λe a=> ?_) (λe a=> ?_)
  ·refine AZ Z ?_
   cases a
   exact aR eE1
  refine Ab<|m _ _ ?_
  refine Ah<|rn 1 Z<|kC a λf a=>rX f Z<|rz Z<|fg _ (Sub.of suN) ?_
  exact⟨c+1,by omega,c,(b+1),a,Ag Z Z,Z⟩
 refine AG<|i _ _ ?_
 refine Ad<|rn 1 Z<|kB a λn g a=>rc _ (cF ik) (NC N s _ g)<|rz Z ?_
 cases a
 exact aR eE1
def Hh(c:Int)(a:Bool):Option Int:=if a=true then ck (R64 (c+80)) (some (c+80))else if c=962 then some 963 else some c
def Ez(c:Int)(a:Bool):Option Int:=if a=true then ck (R64 (c+32)) (some (c+32))else if c>=1024 then Hh c (decide (c<=1039))else Hh c false
def Dh(c:Int)(a:Bool):Option Int:=if a=true then Ez c true else if c>=1040 then Ez c (decide (c<=1071))else Ez c false
def Di(c:Int)(a:Bool):Option Int:=if a=true then Dh c true else if c>=913 then if c<=937 then Dh c (c !=930)else Dh c false else Dh c false
def FK(c:Int)(a:Bool):Option Int:=if a=true then Di c true else if c>=192 then if c<=222 then Di c (c !=215)else Di c false else Di c false
def Hz(_:Nat)(c:Int):Option Int:=if c>=65 then FK c (decide (c<=90))else FK c false
theorem Rw(N c r)(a:Hz N c=some r):Gives prog 210 #[vI c] (vI r):=by
 unfold Hz at a
 refine Aq follows func210 Z 54 Z _ fz1 (λw=> ?_)
 refine Ad<|r_V (vI 0) Z<|Ak<|Aa λG x=>Aa λH y=>Ah<|r_R [vI c,vB (decide (c>=65)),vB (decide (c>=65))] Z<|AF 3 8 [(0,vI c)] vB (λb_=>FK c b_=some r) (λz a T=> ?_) (λb=> ?_)
 ·unfold FK at a
  refine r_V (vB z) Z<|AF 11 20 [(0,vI c)] vB (λb_=>Di c b_=some r) (λA a T=> ?_) (λb=> ?_)
  ·unfold Di at a
   refine r_V (vB A) Z<|AF 11 32 [(0,vI c)] vB (λb_=>Dh c b_=some r) (λB a T=> ?_) (λb=> ?_)
   ·unfold Dh at a
    refine r_V (vB B) Z<|AF 7 40 [(0,vI c)] vB (λb_=>Ez c b_=some r) (λI a T=> ?_) (λb=> ?_)
    ·unfold Ez at a
     refine Ak<|y _ _ ?_
     refine BI _ Z (λs=> ?_) (λs=> ?_)
     ·replace a:=ifp s a
      refine Ad<|r_V (vI c) Z ?_
      obtain⟨f,a⟩:=Iz a
      refine r_X (vI (c+32)) Z (Rv Z f.1 f.2) Z<|r_V (vI (c+32)) Z<|Ak ?_
      cases a
      exact aR eE1
     replace a:=iB s a
     refine Ab<|x _ _ ?_
     refine Aa λC t=>Aa λD u=>Ah<|r_R [vI c,vB (decide (c>=1024)),vB (decide (c>=1024))] Z<|AF 3 48 [(0,vI c)] vB (λb_=>Hh c b_=some r) (λE a T=> ?_) (λb=> ?_)
     ·unfold Hh at a
      refine Ak<|u _ _ ?_
      refine BI _ Z (λd=> ?_) (λd=> ?_)
      ·replace a:=ifp d a
       refine Ad<|r_V (vI c) Z ?_
       obtain⟨g,a⟩:=Iz a
       refine r_X (vI (c+80)) Z (Rv Z g.1 g.2) Z<|r_V (vI (c+80)) Z<|Ak ?_
       cases a
       exact aR eE1
      replace a:=iB d a
      refine Ab<|t _ _ ?_
      refine Aa λF v=>Ad<|r_R [vI c,vB (c==962)] Z<|Ak<|BI _ Z (λe=> ?_) (λe=> ?_)
      ·replace a:=iE e a
       refine Ad<|r_V (vI 963) Z<|Ak ?_
       cases a
       exact aR eE1
      replace a:=iG e a
      refine Ab<|v _ _ ?_
      refine Ad<|r_R [vI c,vI c] Z<|Ak ?_
      cases a
      exact aR eE1
     rcases h:(decide (c>=1024))with _|_
     ·replace a:=iF h a
      refine r_R [none,none,vB false] Z ?_
      exact b _ _ a Z Z
     replace a:=iD h a
     refine r_R [vI c,vB (decide (c<=1039)),vB (decide (c<=1039))] Z ?_
     exact b _ _ a Z Z
    rcases i:B with _|_
    ·replace a:=iB i a
     refine r_R [vI c,vB (decide (c>=1040)),vB (decide (c>=1040))] Z ?_
     rcases j:(decide (c>=1040))with _|_
     ·replace a:=iF j a
      refine r_R [none,none,vB false,vB false] Z ?_
      exact b _ _ a Z Z
     replace a:=iD j a
     refine r_R [vI c,vB (decide (c<=1071)),vB (decide (c<=1071)),vB (decide (c<=1071))] Z ?_
     exact b _ _ a Z Z
    replace a:=ifp i a
    refine r_R [none,none,none] Z<|Cd Z Z<|Cd Z Z<|r_R [none,vB true] Z ?_
    exact b _ _ a Z Z
   rcases k:A with _|_
   ·replace a:=iB k a
    refine r_R [vI c,vB (decide (c>=913)),vB (decide (c>=913))] Z ?_
    rcases l:(decide (c>=913))with _|_
    ·replace a:=iF l a
     refine r_R [none,none,vB false,vB false,none,none,vB false,vB false] Z ?_
     exact b _ _ a Z Z
    replace a:=iD l a
    refine r_R [vI c,vB (decide (c<=937)),vB (decide (c<=937)),vB (decide (c<=937))] Z ?_
    rcases m:(decide (c<=937))with _|_
    ·replace a:=iF m a
     refine r_R [none,none,vB false,vB false] Z ?_
     exact b _ _ a Z Z
    replace a:=iD m a
    refine r_R [vI c,vB (c !=930),vB (c !=930),vB (c !=930)] Z ?_
    exact b _ _ a Z Z
   replace a:=ifp k a
   refine r_R [none,none,none] Z<|Cd Z Z<|Cd Z Z<|r_R [none,none] Z<|Cd Z Z<|Cd Z Z<|r_R [none,vB true] Z ?_
   exact b _ _ a Z Z
  rcases n:z with _|_
  ·replace a:=iB n a
   refine r_R [vI c,vB (decide (c>=192)),vB (decide (c>=192))] Z ?_
   rcases o:(decide (c>=192))with _|_
   ·replace a:=iF o a
    refine r_R [none,none,vB false,vB false,none,none,vB false,vB false] Z ?_
    exact b _ _ a Z Z
   replace a:=iD o a
   refine r_R [vI c,vB (decide (c<=222)),vB (decide (c<=222)),vB (decide (c<=222))] Z ?_
   rcases p:(decide (c<=222))with _|_
   ·replace a:=iF p a
    refine r_R [none,none,vB false,vB false] Z ?_
    exact b _ _ a Z Z
   replace a:=iD p a
   refine r_R [vI c,vB (c !=215),vB (c !=215),vB (c !=215)] Z ?_
   exact b _ _ a Z Z
  replace a:=ifp n a
  refine r_R [none,none,none] Z<|Cd Z Z<|Cd Z Z<|r_R [none,none] Z<|Cd Z Z<|Cd Z Z<|r_R [none,vB true] Z ?_
  exact b _ _ a Z Z
 rcases q:(decide (c>=65))with _|_
 ·replace a:=iF q a
  refine r_R [none,none,vB false] Z ?_
  exact b _ _ a Z Z
 replace a:=iD q a
 refine r_R [vI c,vB (decide (c<=90)),vB (decide (c<=90))] Z ?_
 exact b _ _ a Z Z
def Dg(N:Nat):Nat->List Int->Int->Option (List Int)
  |0,_,_=>none
  |d+1,b,a=>if a<(b.length:Int)then ck (0<=a/\a<(b.length:Int)) ((Hz N (b[a.toNat]!)).bind λc=>ck (0<=a/\a<(b.length:Int)) (ck (R64 (a+1)) ((Dg N d) ((b).set (a.toNat) c) (a+1))))else some b
def Gw(N:Nat)(s:W2):Option (List Int):=(FJ N s).bind λa=>Dg N N a 0
theorem Nc(N s r)(a:Gw N s=some r)(G:Ro):Does prog 142 #[vS s] G [] (p1 (λs_=>s_) 3 BE r):=by
 unfold Gw at a
 refine Al follows func142 Z 22 Z _ fz1 (λv=> ?_)
 refine AZ Z<|Ad<|rn 1 Z<|kB a λC x a=>gS (Ls:=[]) (cF ic) (λo w z_=>MJ N s _ x z_.view) (λy B D=> ?_)
 refine rz Z<|Aa λH z=>AZ Z<|Ai<|Bs _ (Sub.pick [B] [0] Z)<|AH (λtt ll nn=> ∃(e:Nat) (f:List Int) (d:Int),(Dg N e f d=some r)/\ ∃(b:List Bl),Sl 3 BE y f b/\Is [(3,y),(4,vI d)] (List.flatten [b]) tt ll/\nn=e+1) (N+1) ?_ ?_
 ·exact⟨N,C,0,a,B,D,Ag Z Z,Z⟩
 clear a;rintro t l _ ⟨e,f,d,a,b,c,⟨⟨T,rfl⟩,rfl⟩,rfl⟩
 rcases e with _|e
 ·exact absurd a (by simp [Dg])
 rw [Dg] at a
 refine Aa λE i=>Ad<|rn 2 Z<|rL (Sl.shp c) Z<|rz Z<|aD a Z (λj a=> ?_) (λj a=> ?_)
 ·refine Ab<|i _ _ ?_
  refine Aa λF m=>Ai<|Ah<|rn 4 Z<|kC a λg a=>rI (Sl.shp c) g Z<|rE (Ax c (Aj (Ls:=[b]) (k:=0) Z Z)) g 0 Z<|kB a λn p a=>rc _ (cF nK) (Rw N (f[d.toNat]!) _ p)<|kC a λh a=>rI (Sl.shp c) h Z<|RT (Ls:=[b]) 0 (En:=BE) (f[d.toNat]!) n (d.toNat) 0 Z Z Z c (Dx h) Z Z Z (Jp Z) Z (λq A=> ?_)
  refine Ak<|m _ _ ?_
  refine Ah<|rn 1 Z<|kC a λu a=>rX u Z<|rz Z<|fg _ (Sub.pick [q] [0] Z) ?_
  exact⟨e+1,by omega,e,(f).set (d.toNat) n,(d+1),a,q,A,Ag Z Z,Z⟩
 refine AG<|z _ _ ?_
 refine AZ Z ?_
 cases a
 refine Bh (λI=>GZ (v0:=y) c (Dy (Sub.pick [b] [0] Z)) Z (FZ Z))
def CJ(a:List Int)(b:List Int)(d:Int)(c:Int->Option Int)(e:Bool):Option Int:=if e=true then ck (0<=d/\d<(a.length:Int)) (ck (0<=d/\d<(b.length:Int)) (if(a[d.toNat]!:Int)<b[d.toNat]! then some (-1)else ck (0<=d/\d<(a.length:Int)) (ck (0<=d/\d<(b.length:Int)) (if(a[d.toNat]!:Int)>b[d.toNat]! then some 1 else ck (R64 (d+1)) (c (d+1))))))else if(a.length:Int)<(b.length:Int)then some (-1)else if(a.length:Int)>(b.length:Int)then some 1 else some 0
def BP(a:List Int)(b:List Int):Nat->Int->Option Int
  |0,_=>none
  |d+1,c=>if c<(a.length:Int)then CJ a b c (BP a b d) (decide (c<(b.length:Int)))else CJ a b c (BP a b d) false
def Hg(N:Nat)(a:List Int)(b:List Int):Option Int:=BP a b N 0
theorem Qw(N a b r)(c:Hg N a b=some r)(H A)(k:Rd BE H A a)(B)(m:Rd BE H B b):Does prog 141 #[A,B] H [] (pV (vI r)):=by
 unfold Hg at c
 refine Al follows func141 Z 46 Z _ fz2 (λz=> ?_)
 refine AZ Z<|Aa λQ C=>AZ Z<|Ai<|AH (λtt ll nn=> ∃(e:Nat) (d:Int),(BP a b e d=some r)/\Is [(0,A),(1,B),(5,vI d)] [] tt ll/\nn=e+1) (N+1) ?_ ?_
 ·exact⟨N,0,c,Ag Z Z,Z⟩
 clear c;rintro t l _ ⟨e,d,c,⟨⟨T,rfl⟩,rfl⟩,rfl⟩
 rcases e with _|e
 ·exact absurd c (by simp [BP])
 rw [BP] at c
 refine Aa λR D=>Aa λS E=>Ah<|rn 2 Z<|rL (Rd.shp k) Z<|rn 2 Z<|AF 5 15 [(0,A),(1,B),(5,vI d)] vB (λb_=>CJ a b d (BP a b e) b_=some r) (λU c T=> ?_) (λI=> ?_)
 ·unfold CJ at c
  refine Ak<|E _ _ ?_
  refine aB c Z (λF c=> ?_) (λF c=> ?_)
  ·refine Ab<|D _ _ ?_
   refine Aa λV G=>Ai<|Aa λJ n=>Aa λK o=>Ia [] (by decide+kernel) (λL=>AK)<|rn 2 Z<|kC c λf c=>rI (Rd.shp k) f Z<|rE (Aw k) f 0 Z<|rn 2 Z<|kC c λg c=>rI (Rd.shp m) g Z<|rE (Aw m) g 0 Z<|rz Z<|o _ _ ?_
   refine aD c Z (λp c=> ?_) (λp c=> ?_)
   ·refine AZ Z ?_
    cases c
    exact aR eV1
   refine Ab<|n _ _ ?_
   refine Aa λM q=>Ia [] (by decide+kernel) (λL=>AK)<|rn 2 Z<|kC c λh c=>rI (Rd.shp k) h Z<|rE (Aw k) h 0 Z<|rn 2 Z<|kC c λi c=>rI (Rd.shp m) i Z<|rE (Aw m) i 0 Z<|rz Z<|q _ _ ?_
   refine aD c Z (λs c=> ?_) (λs c=> ?_)
   ·refine AZ Z ?_
    cases c
    exact aR eV1
   refine Ab<|G _ _ ?_
   refine Ah<|rn 1 Z<|kC c λu c=>rX u Z<|rz Z<|fg _ (Sub.of suN) ?_
   exact⟨e+1,by omega,e,(d+1),c,Ag Z Z,Z⟩
  refine AG<|C _ _ ?_
  refine Aa λO v=>Ad<|rn 1 Z<|rL (Rd.shp k) Z<|rn 1 Z<|rL (Rd.shp m) Z<|rz Z<|aD c Z (λw c=> ?_) (λw c=> ?_)
  ·refine AZ Z ?_
   cases c
   exact aR eV1
  refine Ab<|v _ _ ?_
  refine Aa λP x=>Ad<|rn 1 Z<|rL (Rd.shp k) Z<|rn 1 Z<|rL (Rd.shp m) Z<|rz Z<|aD c Z (λy c=> ?_) (λy c=> ?_)
  ·refine AZ Z ?_
   cases c
   exact aR eV1
  refine Ab<|x _ _ ?_
  refine AZ Z ?_
  cases c
  exact aR eV1
 rcases j:(decide (d<(a.length:Int)))with _|_
 ·replace c:=iF j c
  refine rn 5 Z ?_
  exact I _ _ c Z Z
 replace c:=iD j c
 refine rn 2 Z<|r_y Z<|rL (Rd.shp m) Z<|rn 2 Z ?_
 exact I _ _ c Z Z
def Ey(N:Nat)(a:W2)(b:W2):Option Bool:=(Gw N a).bind λe=>(Gw N b).bind λd=>(Hg N e d).bind λc=>some (c==0)
theorem JW(N a b r)(c:Ey N a b=some r):Gives prog 86 #[vS a,vS b] (vB r):=by
 unfold Ey at c
 refine Aq follows func86 Z 11 Z _ fz2 (λf=> ?_)
 refine AZ Z<|Ad<|rn 1 Z<|kB c λm g c=>gS (Ls:=[]) (cF dV) (λo w z_=>Nc N a _ g z_.view) (λn h p=> ?_)
 refine rn 1 Z<|kB c λq i c=>gS (Ls:=[h]) (cF dV) (λo w z_=>Nc N b _ i z_.view) (λj d l=> ?_)
 refine kB c λs e c=>gV _ (cF oX) (λo w z_=>Qw N m q _ e z_.view n ((Ax p (Aj (Ls:=[h,d]) (k:=0) Z Z)) o w z_) j ((Ax l (Aj (Ls:=[h,d]) (k:=1) Z Z)) o w z_))<|rz Z ?_
 cases c
 exact aR eE1
def CG(e:Int)(b:List (Int×Int)->Int->Option (List (Int×Int)))(c:List (Int×Int))(d:Int)(a:List (Int×Int)->Int->Option (List (Int×Int)))(f:Bool):Option (List (Int×Int)):=if f=true then ck ((c).length+([(e,d)]).length<=8796093022208) (ck (R64 (d+1)) (a (c++([(e,d)])) (d+1)))else ck (R64 (e+1)) (b c (e+1))
def Bt(b:Int)(a:List (Int×Int)->Int->Option (List (Int×Int)))(c:Int):Nat->List (Int×Int)->Int->Option (List (Int×Int))
  |0,_,_=>none
  |f+1,d,e=>if e<c then CG b a d e (Bt b a c f) (decide (c<=4))else CG b a d e (Bt b a c f) false
def Fk(N:Nat)(b:List (Int×Int))(d:Int)(a:List (Int×Int)->Int->Option (List (Int×Int)))(c:Int):Option (List (Int×Int)):=Bt d a c N b 0
def Bc(N:Nat)(c:List (W2×Int×Int)):Nat->List (Int×Int)->Int->Option (List (Int×Int))
  |0,_,_=>none
  |d+1,b,a=>if a<(c.length:Int)then ck (0<=a/\a<(c.length:Int)) (if((c[a.toNat]!).2.2:Int)=0 then Fk N b a (Bc N c d) 1 else Fk N b a (Bc N c d) ((c[a.toNat]!).2.2))else some b
def De(N:Nat)(a:List (W2×Int×Int)):Option (List (Int×Int)):=Bc N a N ([]) 0
theorem In(N x r)(b:De N x=some r)(R p)(u:Rd Ad8 R p x):Does prog 82 #[p] R [] (p1 (λs_=>s_) 54 Sj r):=by
 unfold De at b
 refine Al follows func82 Z 36 Z _ fz1 (λH=> ?_)
 refine AZ Z<|AZ Z<|Aa λY I=>AZ Z<|Ai<|Bs _ (Sub.pickE (Ls:=[[]]) (Ls0:=[]) Z [0] Z)<|AH (λtt ll nn=> ∃(q:Nat) (h:List (Int×Int)) (f:Int),(Bc N x q h f=some r)/\ ∃(d:Value) (a:List Bl),Sl 54 Sj d h a/\Is [(0,p),(3,d),(4,vI f)] (List.flatten [a]) tt ll/\nn=q+1) (N+1) ?_ ?_
 ·exact⟨N,[],0,b,nS,[],Sl.nil,Ag Z Z,Z⟩
 clear b;rintro t l _ ⟨q,h,f,b,d,a,n,⟨⟨T,rfl⟩,rfl⟩,rfl⟩
 rcases q with _|q
 ·exact absurd b (by simp [Bc])
 rw [Bc] at b
 refine Aa λK6 J=>Ad<|rn 2 Z<|rL (Rd.shp u) Z<|rz Z<|aD b Z (λK b=> ?_) (λK b=> ?_)
 ·refine Ab<|J _ _ ?_
  refine Aa λK9 L=>Ai<|Ad<|rn 2 Z<|kC b λs b=>rI (Rd.shp u) s Z<|rF (Rd.shp u) (Bf s) Z<|rE (Aw u) s 2 Z<|rz Z<|Cb (λtt ll=> ∃(j:Int),(Fk N h f (Bc N x q) j=some r)/\Is [(0,p),(3,d),(4,vI f),(5,vI j)] (List.flatten [a]) tt ll) ?_ ?_
  ·refine AZ Z<|aE b Z (λz b=> ?_) (λz b=> ?_)
   ·refine Ah<|rz Z<|fg _ (Sub.pick [a] [0] Z) ?_
    exact⟨1,b,Ag Z Z⟩
   refine Ab<|fg _ (Sub.pick [a] [0] Z) ?_
   exact⟨(x[f.toNat]!).2.2,b,Ag Z Z⟩
  clear b;rintro t l ⟨j,b,⟨T,rfl⟩,rfl⟩
  unfold Fk at b
  refine AZ Z<|Ai<|Bs _ (Sub.pick [a] [0] Z)<|AH (λtt ll nn=> ∃(m:Nat) (g:List (Int×Int)) (i:Int),(Bt f (Bc N x q) j m g i=some r)/\ ∃(e:Value) (c:List Bl),Sl 54 Sj e g c/\Is [(0,p),(3,e),(4,vI f),(5,vI j),(6,vI i)] (List.flatten [c]) tt ll/\nn=m+1) (N+1) ?_ ?_
  ·exact⟨N,h,0,b,d,a,n,Ag Z Z,Z⟩
  clear b;rintro t l _ ⟨m,g,i,b,e,c,o,⟨⟨T,rfl⟩,rfl⟩,rfl⟩
  rcases m with _|m
  ·exact absurd b (by simp [Bt])
  rw [Bt] at b
  refine Aa λS A=>Aa λU B=>Ah<|rn 4 Z<|AF 3 26 [(0,p),(3,e),(4,vI f),(5,vI j),(6,vI i)] vB (λb_=>CG f (Bc N x q) g i (Bt f (Bc N x q) j m) b_=some r) (λV b T=> ?_) (λQ=> ?_)
  ·unfold CG at b
   refine Ak<|B _ _ ?_
   refine aB b Z (λC b=> ?_) (λC b=> ?_)
   ·refine Ab<|A _ _ ?_
    refine Aa λW D=>Ai<|Ah<|r_R [e,vI f,vI i] Z<|r_W (vA #[vI f,vI i]) Z (Bb Z Z Z Z)<|gB (Ls:=[c]) 54 Sj [(f,i)] (λX y M=> ?_)
    refine kC b λv b=>cC 34<|LK (cs0:=[]) (Ls:=[c,y]) 0 (En:=Sj) Z Z Z Z Z o Z (Ax M (Aj (Ls:=[c,y]) (k:=1) Z Z)) Z Z Z Z Z (Mf v Z) (Me v Z) Z (λO E P=> ?_)
    refine rz Z<|D _ _ ?_
    refine Ah<|rn 1 Z<|kC b λF b=>rX F Z<|rz Z<|fg _ (Sub.pick [E,y] [0] Z) ?_
    exact⟨m+1,by omega,m,(g++([(f,i)])),(i+1),b,O,E,P,Ag Z Z,Z⟩
   refine AG<|L _ _ ?_
   refine Ah<|rn 1 Z<|kC b λG b=>rX G Z<|rz Z<|fg _ (Sub.pick [c] [0] Z) ?_
   exact⟨q+1,by omega,q,g,(f+1),b,e,c,o,Ag Z Z,Z⟩
  rcases w:(decide (i<j))with _|_
  ·replace b:=iF w b
   refine rn 3 Z ?_
   exact Q _ _ b Z Z
  replace b:=iD w b
  refine rn 3 Z ?_
  exact Q _ _ b Z Z
 refine AG<|I _ _ ?_
 refine AZ Z ?_
 cases b
 refine Bh (λhn=>GZ (v0:=d) n (Dy (Sub.pick [a] [0] Z)) Z (FZ Z))
def GH(b:Int)(a:Int->Option Int)(c:Bool):Option Int:=if c=true then some 7 else ck (R64 (b+1)) (a (b+1))
def GI(c:List (W2×Int×Int))(b:Int)(a:Int->Option Int)(d:Bool):Option Int:=if d=true then some 5 else ck (0<=b/\b<(c.length:Int)) (if((c[b.toNat]!).2.2:Int)<0 then GH b a true else ck (0<=b/\b<(c.length:Int)) (GH b a (decide (((c[b.toNat]!).2.2:Int)>4))))
def CI(N:Nat)(e:List ((W2)×(List (W2×Int))×Int×Int×Int×Int))(c:List (W2×Int×Int))(b:Int)(a:Int->Option Int):Nat->Int->Option Int
  |0,_=>none
  |f+1,d=>if d<b then ck (0<=d/\d<(c.length:Int)) (ck (0<=b/\b<(c.length:Int)) ((Ey N ((c[d.toNat]!).1) ((c[b.toNat]!).1)).bind λg=>if g=true then some 6 else ck (R64 (d+1)) ((CI N e c b a f) (d+1))))else ck (0<=b/\b<(c.length:Int)) (if((c[b.toNat]!).2.1:Int)<0 then GI c b a true else ck (0<=b/\b<(c.length:Int)) (GI c b a (decide (((c[b.toNat]!).2.1:Int)>=(e.length:Int)))))
def Bu(N:Nat)(a:List ((W2)×(List (W2×Int))×Int×Int×Int×Int))(c:List (W2×Int×Int)):Nat->Int->Option Int
  |0,_=>none
  |f+1,b=>if b<(c.length:Int)then ck (0<=b/\b<(c.length:Int)) ((Df N ((c[b.toNat]!).1)).bind λe=>if e=true then CI N a c b (Bu N a c f) N 0 else some 4)else(De N c).bind λd=>if(d.length:Int)>32 then some 8 else some 0
def Hf(N:Nat)(a:List ((W2)×(List (W2×Int))×Int×Int×Int×Int))(b:List (W2×Int×Int)):Option Int:=if(b.length:Int)>16 then some 2 else Bu N a b N 0
theorem Qv(N d h r)(a:Hf N d h=some r)(ro c)(i:RdN Ad5 ro c d)(g)(b:Rd Ad8 ro g h):Does prog 41 #[c,g] ro [] (pV (vI r)):=by
 unfold Hf at a
 refine Al follows func41 Z 73 Z _ fz2 (λY=> ?_)
 refine AZ Z<|Aa λK2 aa=>Ad<|rn 1 Z<|rL (Rd.shp b) Z<|rz Z<|aD a Z (λab a=> ?_) (λab a=> ?_)
 ·refine AZ Z ?_
  cases a
  exact aR eV1
 refine Ab<|aa _ _ ?_
 refine Aa λK6 ac=>AZ Z<|Ai<|AH (λtt ll nn=> ∃(x:Nat) (e:Int),(Bu N d h x e=some r)/\Is [(0,c),(1,g),(5,vI e)] [] tt ll/\nn=x+1) (N+1) ?_ ?_
 ·exact⟨N,0,a,Ag Z Z,Z⟩
 clear a;rintro t l _ ⟨x,e,a,⟨⟨T,rfl⟩,rfl⟩,rfl⟩
 rcases x with _|x
 ·exact absurd a (by simp [Bu])
 rw [Bu] at a
 refine Aa λK9 ad=>Ad<|rn 2 Z<|rL (Rd.shp b) Z<|rz Z<|aD a Z (λA a=> ?_) (λA a=> ?_)
 ·refine Ab<|ad _ _ ?_
  refine Aa λag B=>Ai<|Aa λah C=>Ad<|rn 2 Z<|kC a λj a=>rI (Rd.shp b) j Z<|rF (Rd.shp b) (Bf j) Z<|rE (Aw b) j 0 Z<|kB a λai D a=>rc _ (cF UY) (Ip N ((h[e.toNat]!).1) _ D)<|rz Z<|BI _ Z (λk=> ?_) (λk=> ?_)
  ·replace a:=ifn (Bool.eq_false_iff.1 (Dk k)) a
   refine AZ Z ?_
   cases a
   exact aR eV1
  replace a:=ifp (Dl k) a
  refine Ab<|C _ _ ?_
  refine Aa λaj E=>AZ Z<|Ai<|AH (λtt ll nn=> ∃(f:Nat) (m:Int),(CI N d h e (Bu N d h x) f m=some r)/\Is [(0,c),(1,g),(5,vI e),(6,vI m)] [] tt ll/\nn=f+1) (N+1) ?_ ?_
  ·exact⟨N,0,a,Ag Z Z,Z⟩
  clear a;rintro t l _ ⟨f,m,a,⟨⟨T,rfl⟩,rfl⟩,rfl⟩
  rcases f with _|f
  ·exact absurd a (by simp [CI])
  rw [CI] at a
  refine Aa λak F=>AZ Z<|aD a Z (λG a=> ?_) (λG a=> ?_)
  ·refine Ab<|F _ _ ?_
   refine Aa λal H=>Ai<|Aa λam I=>Ia [] (by decide+kernel) (λhn=>AK)<|rn 2 Z<|kC a λn a=>rI (Rd.shp b) n Z<|rF (Rd.shp b) (Bf n) Z<|rE (Aw b) n 0 Z<|rn 2 Z<|kC a λp a=>rI (Rd.shp b) p Z<|rF (Rd.shp b) (Bf p) Z<|rE (Aw b) p 0 Z<|kB a λan J a=>rc _ (cF aQ) (JW N ((h[m.toNat]!).1) ((h[e.toNat]!).1) _ J)<|Ak<|I _ _ ?_
   refine aB a Z (λK a=> ?_) (λK a=> ?_)
   ·refine AZ Z ?_
    cases a
    exact aR eV1
   refine Ab<|H _ _ ?_
   refine Ah<|rn 1 Z<|kC a λL a=>rX L Z<|rz Z<|fg _ (Sub.of suN) ?_
   exact⟨f+1,by omega,f,(m+1),a,Ag Z Z,Z⟩
  refine AG<|E _ _ ?_
  refine Aa λao M=>Aa λap O=>Ah<|rn 2 Z<|kC a λq a=>rI (Rd.shp b) q Z<|rF (Rd.shp b) (Bf q) Z<|rE (Aw b) q 1 Z<|rn 2 Z<|AF 9 54 [(0,c),(1,g),(5,vI e)] vB (λb_=>GI h e (Bu N d h x) b_=some r) (λaq a T=> ?_) (λP=> ?_)
  ·unfold GI at a
   refine Ak<|O _ _ ?_
   refine aB a Z (λQ a=> ?_) (λQ a=> ?_)
   ·refine AZ Z ?_
    cases a
    exact aR eV1
   refine Ab<|M _ _ ?_
   refine Aa λar R=>Ah<|rn 2 Z<|kC a λs a=>rI (Rd.shp b) s Z<|rF (Rd.shp b) (Bf s) Z<|rE (Aw b) s 2 Z<|rn 2 Z<|AF 7 68 [(0,c),(1,g),(5,vI e)] vB (λb_=>GH e (Bu N d h x) b_=some r) (λau a T=> ?_) (λP=> ?_)
   ·unfold GH at a
    refine Ak<|R _ _ ?_
    refine aB a Z (λS a=> ?_) (λS a=> ?_)
    ·refine AZ Z ?_
     cases a
     exact aR eV1
    refine Ab<|B _ _ ?_
    refine Ah<|rn 1 Z<|kC a λU a=>rX U Z<|rz Z<|fg _ (Sub.of suN) ?_
    exact⟨x+1,by omega,x,(e+1),a,Ag Z Z,Z⟩
   rcases y:(decide (((h[e.toNat]!).2.2:Int)<0))with _|_
   ·replace a:=iF y a
    refine rn 2 Z<|r_y Z<|kC a λu a=>rI (Rd.shp b) u Z<|r_y Z<|rF (Rd.shp b) (Bf u) Z<|r_y Z<|rE (Aw b) u 2 Z<|rn 2 Z ?_
    exact P _ _ a Z Z
   replace a:=iD y a
   refine rn 7 Z ?_
   exact P _ _ a Z Z
  rcases z:(decide (((h[e.toNat]!).2.1:Int)<0))with _|_
  ·replace a:=iF z a
   refine rn 2 Z<|r_y Z<|kC a λv a=>rI (Rd.shp b) v Z<|r_y Z<|rF (Rd.shp b) (Bf v) Z<|r_y Z<|rE (Aw b) v 1 Z<|rn 1 Z<|r_y Z<|rL (RdN.shp i) Z<|rn 2 Z ?_
   exact P _ _ a Z Z
  replace a:=iD z a
  refine rn 9 Z ?_
  exact P _ _ a Z Z
 refine AG<|ac _ _ ?_
 refine Aa λav V=>Ad<|rn 1 Z<|kB a λaw W a=>gS (Ls:=[]) (cF UZ) (λo w z_=>In N h _ W z_.view g ((Aw b) o w z_)) (λax ay ae=> ?_)
 refine rL (Sl.shp ae) Z<|rz Z<|aD a Z (λX a=> ?_) (λX a=> ?_)
 ·refine AZ Z ?_
  cases a
  exact aR eV1
 refine Ab<|V _ _ ?_
 refine AZ Z ?_
 cases a
 exact aR eV1
def Ej(m:Ao)(a:Int)(b:List (Int×Int))(c:Bool):Option ((W2)×(List (W2×Int))×Int×Int×Int×Int×Bool):=if c=true then some ([],[],0,0,0,0,false)else ck (0<=((m.2.2.1)[((b[a.toNat]!).1).toNat]!).2.1/\((m.2.2.1)[((b[a.toNat]!).1).toNat]!).2.1<(m.2.1.length:Int)) (some ((m.2.1)[(((m.2.2.1)[((b[a.toNat]!).1).toNat]!).2.1).toNat]!.1,(m.2.1)[(((m.2.2.1)[((b[a.toNat]!).1).toNat]!).2.1).toNat]!.2.1,(m.2.1)[(((m.2.2.1)[((b[a.toNat]!).1).toNat]!).2.1).toNat]!.2.2.1,(m.2.1)[(((m.2.2.1)[((b[a.toNat]!).1).toNat]!).2.1).toNat]!.2.2.2.1,(m.2.1)[(((m.2.2.1)[((b[a.toNat]!).1).toNat]!).2.1).toNat]!.2.2.2.2.1,(m.2.1)[(((m.2.2.1)[((b[a.toNat]!).1).toNat]!).2.1).toNat]!.2.2.2.2.2,true))
def Ek(m:Ao)(a:Int)(b:List (Int×Int))(c:Bool):Option ((W2)×(List (W2×Int))×Int×Int×Int×Int×Bool):=if c=true then some ([],[],0,0,0,0,false)else ck (0<=a/\a<(b.length:Int)) (ck (0<=(b[a.toNat]!).1/\(b[a.toNat]!).1<(m.2.2.1.length:Int)) (if(((m.2.2.1)[((b[a.toNat]!).1).toNat]!).2.1:Int)<0 then Ej m a b true else Ej m a b (decide ((((m.2.2.1)[((b[a.toNat]!).1).toNat]!).2.1:Int)>=(m.2.1.length:Int)))))
def Bg(N:Nat)(m:Ao)(a:Int):Option ((W2)×(List (W2×Int))×Int×Int×Int×Int×Bool):=(De N m.2.2.1).bind λb=>if a<0 then Ek m a b true else Ek m a b (decide (a>=(b.length:Int)))
theorem Dr(N m a r)(b:Bg N m a=some r)(H)(l:AB)(q:Aa1 H l m):Does prog 43 #[vA (Ac m l),vI a] H [] (pO [] (oR Ab3 H r.2.1 λs_0=>(oE (vT #[vA #[vS r.1,s_0,vI r.2.2.1,vI r.2.2.2.1,vI r.2.2.2.2.1,vI r.2.2.2.2.2.1],vB r.2.2.2.2.2.2]) []))):=by
 unfold Bg at b
 refine EE follows func43 Z 45 Z _ fz2 (λ_ _ h_ _=>h_) (λC=> ?_)
 refine Ad<|rA Z λn=>rA Z λp=>rz Z<|Ad<|rm 2 [1] Z<|kB b λc G b=>gS (Ls:=[(US p (Value.string (⟨#[]⟩)) nS 0 0 0 0),[(n,35,(Ac m l))]]) (cF UZ) (λo w z_=>In N m.2.2.1 _ G z_.view l.2.1 ((Aw q.2.1) o w z_)) (λI D F=> ?_)
 refine rz Z<|Aa λJ t=>Aa λK u=>Ah<|rn 3 Z<|AF 5 18 [(1,vI a),(2,vP n 0),(4,vP p 0),(6,I)] vB (λb_=>Ek m a c b_=some r) (λL b T=> ?_) (λv=> ?_)
 ·unfold Ek at b
  refine Ak<|u _ _ ?_
  refine aB b Z (λx b=> ?_) (λx b=> ?_)
  ·refine Ad<|r_W (vA #[Value.string (⟨#[]⟩),nS,vI 0,vI 0,vI 0,vI 0]) Z (Ar Z Z Z Z)<|r_s (List.flatten [(US p (Value.string (⟨#[]⟩)) nS 0 0 0 0),[(n,35,(Ac m l))],D]) 0 _ _ _ _ _ (#[Value.string (⟨#[]⟩),nS,vI 0,vI 0,vI 0,vI 0]) Z Z Z Z (.ofS Z Z (Ae Z (Ae (Shp.one (.inl ⟨Z,Z⟩)) (Ae Z (Ae Z (Ae Z (Ae Z BA))))))) Z Z<|rz Z ?_
   cases b
   refine Bh (λs=>KV (v0:=vT #[vA #[Value.string (⟨#[]⟩),nS,vI 0,vI 0,vI 0,vI 0],vB false]) (O:=[]) (LI (AW s 0 Z Z Z) Z) (Sub.nil _) ⟨nS,(.inl ⟨Z,Z⟩),⟨Z,Z⟩⟩)
  refine Ab<|t _ _ ?_
  refine Aa λM y=>Ia [] (by decide+kernel) (λs=>AK)<|rm 4 [1] Z<|kC b λe b=>rI (Sl.shp F) e Z<|r_W (elA I (a.toNat*2+0)) Z (Fc (gU 0 Z Z Z Z (Sl.shp F) (Bf e) (by decide)))<|rE (Ax F (Aj (Ls:=[(US p (Value.string (⟨#[]⟩)) nS 0 0 0 0),[(n,35,(Ac m l))],D]) (k:=2) Z Z)) e 0 Z<|kC b λf b=>rI (Rd.shp q.2.1) f Z<|rF (Rd.shp q.2.1) (Bf f) Z<|rE (Aw q.2.1) f 1 Z<|rz Z<|y _ _ ?_
  refine Aa λP z=>Aa λQ A=>Ah<|rn 3 Z<|AF 6 38 [(2,vP n 0),(4,vP p 0),(7,vI (((m.2.2.1)[((c[a.toNat]!).1).toNat]!).2.1))] vB (λb_=>Ej m a c b_=some r) (λR b T=> ?_) (λv=> ?_)
  ·unfold Ej at b
   refine Ak<|A _ _ ?_
   refine aB b Z (λB b=> ?_) (λB b=> ?_)
   ·refine Ad<|r_W (vA #[Value.string (⟨#[]⟩),nS,vI 0,vI 0,vI 0,vI 0]) Z (Ar Z Z Z Z)<|r_s (List.flatten [(US p (Value.string (⟨#[]⟩)) nS 0 0 0 0),[(n,35,(Ac m l))],D]) 0 _ _ _ _ _ (#[Value.string (⟨#[]⟩),nS,vI 0,vI 0,vI 0,vI 0]) Z Z Z Z (.ofS Z Z (Ae Z (Ae (Shp.one (.inl ⟨Z,Z⟩)) (Ae Z (Ae Z (Ae Z (Ae Z BA))))))) Z Z<|rz Z ?_
    cases b
    refine Bh (λs=>KV (v0:=vT #[vA #[Value.string (⟨#[]⟩),nS,vI 0,vI 0,vI 0,vI 0],vB false]) (O:=[]) (LI (AW s 0 Z Z Z) Z) (Sub.nil _) ⟨nS,(.inl ⟨Z,Z⟩),⟨Z,Z⟩⟩)
   refine Ab<|z _ _ ?_
   refine Ad<|rm 3 [1] Z<|kC b λg b=> ?_
   obtain⟨_,⟨d,h,rfl⟩,hat27⟩:=RdN.at (E:=Ad5) q.1 (Dx g)
   refine rI (RdN.shp q.1) g Z ?_
   refine Oe (vA #[vS ((m.2.1)[(((m.2.2.1)[((c[a.toNat]!).1).toNat]!).2.1).toNat]!.1),d,vI ((m.2.1)[(((m.2.2.1)[((c[a.toNat]!).1).toNat]!).2.1).toNat]!.2.2.1),vI ((m.2.1)[(((m.2.2.1)[((c[a.toNat]!).1).toNat]!).2.1).toNat]!.2.2.2.1),vI ((m.2.1)[(((m.2.2.1)[((c[a.toNat]!).1).toNat]!).2.1).toNat]!.2.2.2.2.1),vI ((m.2.1)[(((m.2.2.1)[((c[a.toNat]!).1).toNat]!).2.1).toNat]!.2.2.2.2.2)]) (vs:=[vS ((m.2.1)[(((m.2.2.1)[((c[a.toNat]!).1).toNat]!).2.1).toNat]!.1),d,vI ((m.2.1)[(((m.2.2.1)[((c[a.toNat]!).1).toNat]!).2.1).toNat]!.2.2.1),vI ((m.2.1)[(((m.2.2.1)[((c[a.toNat]!).1).toNat]!).2.1).toNat]!.2.2.2.1),vI ((m.2.1)[(((m.2.2.1)[((c[a.toNat]!).1).toNat]!).2.1).toNat]!.2.2.2.2.1),vI ((m.2.1)[(((m.2.2.1)[((c[a.toNat]!).1).toNat]!).2.1).toNat]!.2.2.2.2.2)]) ((((m.2.2.1)[((c[a.toNat]!).1).toNat]!).2.1).toNat*6) 0 Z Z (λo w z_=>At.mono z_.ro_cell hat27) Z ?_
   refine r_s (List.flatten [(rt p ((m.2.1)[(((m.2.2.1)[((c[a.toNat]!).1).toNat]!).2.1).toNat]!.1) d ((m.2.1)[(((m.2.2.1)[((c[a.toNat]!).1).toNat]!).2.1).toNat]!.2.2.1) ((m.2.1)[(((m.2.2.1)[((c[a.toNat]!).1).toNat]!).2.1).toNat]!.2.2.2.1) ((m.2.1)[(((m.2.2.1)[((c[a.toNat]!).1).toNat]!).2.1).toNat]!.2.2.2.2.1) ((m.2.1)[(((m.2.2.1)[((c[a.toNat]!).1).toNat]!).2.1).toNat]!.2.2.2.2.2)),[(n,35,(Ac m l))],D]) 0 _ _ _ _ _ (#[vS ((m.2.1)[(((m.2.2.1)[((c[a.toNat]!).1).toNat]!).2.1).toNat]!.1),d,vI ((m.2.1)[(((m.2.2.1)[((c[a.toNat]!).1).toNat]!).2.1).toNat]!.2.2.1),vI ((m.2.1)[(((m.2.2.1)[((c[a.toNat]!).1).toNat]!).2.1).toNat]!.2.2.2.1),vI ((m.2.1)[(((m.2.2.1)[((c[a.toNat]!).1).toNat]!).2.1).toNat]!.2.2.2.2.1),vI ((m.2.1)[(((m.2.2.1)[((c[a.toNat]!).1).toNat]!).2.1).toNat]!.2.2.2.2.2)]) Z Z Z Z (.ofS Z Z (Ae Z (Ae (Shp.one (Rd.shp h)) (Ae Z (Ae Z (Ae Z (Ae Z BA))))))) Z Z ?_
   refine rz Z ?_
   cases b
   refine Bh (λs=>KV (v0:=vT #[vA #[vS ((m.2.1)[(((m.2.2.1)[((c[a.toNat]!).1).toNat]!).2.1).toNat]!.1),d,vI ((m.2.1)[(((m.2.2.1)[((c[a.toNat]!).1).toNat]!).2.1).toNat]!.2.2.1),vI ((m.2.1)[(((m.2.2.1)[((c[a.toNat]!).1).toNat]!).2.1).toNat]!.2.2.2.1),vI ((m.2.1)[(((m.2.2.1)[((c[a.toNat]!).1).toNat]!).2.1).toNat]!.2.2.2.2.1),vI ((m.2.1)[(((m.2.2.1)[((c[a.toNat]!).1).toNat]!).2.1).toNat]!.2.2.2.2.2)],vB true]) (O:=[]) (LI (AW s 0 Z Z Z) Z) (Sub.nil _) ⟨d,h,⟨Z,Z⟩⟩)
  rcases i:(decide ((((m.2.2.1)[((c[a.toNat]!).1).toNat]!).2.1:Int)<0))with _|_
  ·replace b:=iF i b
   refine rn 2 Z<|r_y Z<|rm 1 [1] Z<|r_y Z<|rL (RdN.shp q.1) Z<|rn 2 Z ?_
   exact v _ _ b Z Z
  replace b:=iD i b
  refine rn 6 Z ?_
  exact v _ _ b Z Z
 rcases j:(decide (a<0))with _|_
 ·replace b:=iF j b
  refine rn 2 Z<|r_y Z<|rL (Sl.shp F) Z<|rn 2 Z ?_
  exact v _ _ b Z Z
 replace b:=iD j b
 refine rn 5 Z ?_
 exact v _ _ b Z Z
abbrev uk:List (W0):=[(([112,117,115,104]:W2),0,1,0,0,0,0,0,([80,117,115,104]:W2)),(([102,105,101,108,100]:W2),0,1,2,0,31,0,15,([80,108,97,99,101]:W2)),(([109,101,116,97]:W2),0,1,1,0,23,0,0,([67,101,108,108]:W2)),(([112,97,114,97,109]:W2),0,1,1,0,7,0,0,([67,101,108,108]:W2)),(([118,97,108,105,100]:W2),0,1,1,0,31,0,0,([83,108,111,116]:W2)),(([114,101,103]:W2),1,1,1,0,7,0,0,([67,101,108,108]:W2)),(([110,111,116]:W2),1,1,0,0,0,0,0,([79,110,101]:W2)),(([110,101,103]:W2),1,1,0,0,0,0,0,([79,110,101]:W2)),(([115,104,108]:W2),1,1,1,0,128,0,0,([79,110,101]:W2)),(([115,104,114]:W2),1,1,1,0,128,0,0,([79,110,101]:W2)),(([115,108,105,99,101]:W2),1,1,2,0,127,0,127,([80,97,114,116]:W2)),(([99,97,115,116]:W2),1,1,1,1,128,0,0,([79,110,101]:W2)),(([97,100,100]:W2),2,1,0,0,0,0,0,([84,119,111]:W2)),(([115,117,98]:W2),2,1,0,0,0,0,0,([84,119,111]:W2)),(([97,100,100,45,115,97,116]:W2),2,1,0,0,0,0,0,([84,119,111]:W2)),(([115,117,98,45,115,97,116]:W2),2,1,0,0,0,0,0,([84,119,111]:W2)),(([97,110,100]:W2),2,1,0,0,0,0,0,([84,119,111]:W2)),(([111,114]:W2),2,1,0,0,0,0,0,([84,119,111]:W2)),(([120,111,114]:W2),2,1,0,0,0,0,0,([84,119,111]:W2)),(([99,97,116]:W2),2,1,0,0,0,0,0,([84,119,111]:W2)),(([101,113]:W2),2,1,0,0,0,0,0,([84,119,111]:W2)),(([108,101,115,115]:W2),2,1,0,0,0,0,0,([84,119,111]:W2)),(([112,117,116,45,102,105,101,108,100]:W2),1,0,2,0,31,0,15,([80,108,97,99,101]:W2)),(([112,117,116,45,109,101,116,97]:W2),1,0,1,0,23,0,0,([67,101,108,108]:W2)),(([112,117,116,45,114,101,103]:W2),2,0,1,0,7,0,0,([67,101,108,108]:W2)),(([115,104,111,119]:W2),0,0,1,0,31,0,0,([83,108,111,116]:W2)),(([104,105,100,101]:W2),0,0,1,0,31,0,0,([83,108,111,116]:W2)),(([112,117,115,104,45,104,101,97,100]:W2),0,0,2,0,15,1,4,([72,101,97,100,115]:W2)),(([112,111,112,45,104,101,97,100]:W2),0,0,2,0,15,1,4,([72,101,97,100,115]:W2)),(([99,111,117,110,116]:W2),1,0,1,0,7,0,0,([67,101,108,108]:W2)),(([109,101,116,101,114]:W2),1,1,1,0,7,0,0,([67,101,108,108]:W2)),(([106,117,109,112]:W2),0,0,1,0,64,0,0,([74,117,109,112]:W2)),(([106,117,109,112,45,122,101,114,111]:W2),1,0,1,0,64,0,0,([74,117,109,112]:W2)),(([106,117,109,112,45,103,111,110,101]:W2),0,0,2,0,31,0,64,([71,111,110,101]:W2)),(([115,116,111,112]:W2),0,0,0,0,0,0,0,([83,116,111,112]:W2))]
def Gy(_:Nat):Option (List (W0)):=some uk
theorem Ny(N r)(b:Gy N=some r)(f:Ro):Does prog 9 #[] f [] (p1 (λs_=>s_) 56 Ae9 r):=by
 unfold Gy at b
 refine Al follows func9 Z 79 Z _ fz0 (λa=> ?_)
 refine AZ Z<|Ad<|r_W (vA #[Value.string (⟨#[112,117,115,104]⟩),vI 0,vI 1,vI 0,vI 0,vI 0,vI 0,vI 0,Value.string (⟨#[80,117,115,104]⟩)]) Z (Ar Z Z Z Z)<|r_W (vA #[vI 0,vI 31]) Z (Bb Z Z Z Z)<|r_W (vA #[vI 0,vI 15]) Z (Bb Z Z Z Z)<|r_W (vA #[Value.string (⟨#[102,105,101,108,100]⟩),vI 0,vI 1,vI 2,vI 0,vI 31,vI 0,vI 15,Value.string (⟨#[80,108,97,99,101]⟩)]) Z (Ar Z Z Z (by kernel_rfl))<|r_W (vA #[vI 0,vI 23]) Z (Bb Z Z Z Z)<|r_W (vA #[vI 0,vI 0]) Z (Bb Z Z Z Z) ?_
 refine r_W (vA #[Value.string (⟨#[109,101,116,97]⟩),vI 0,vI 1,vI 1,vI 0,vI 23,vI 0,vI 0,Value.string (⟨#[67,101,108,108]⟩)]) Z (Ar Z Z Z (by kernel_rfl))<|r_W (vA #[vI 0,vI 7]) Z (Bb Z Z Z Z)<|r_W (vA #[vI 0,vI 0]) Z (Bb Z Z Z Z)<|r_W (vA #[Value.string (⟨#[112,97,114,97,109]⟩),vI 0,vI 1,vI 1,vI 0,vI 7,vI 0,vI 0,Value.string (⟨#[67,101,108,108]⟩)]) Z (Ar Z Z Z (by kernel_rfl))<|r_W (vA #[vI 0,vI 31]) Z (Bb Z Z Z Z)<|r_W (vA #[vI 0,vI 0]) Z (Bb Z Z Z Z) ?_
 refine r_W (vA #[Value.string (⟨#[118,97,108,105,100]⟩),vI 0,vI 1,vI 1,vI 0,vI 31,vI 0,vI 0,Value.string (⟨#[83,108,111,116]⟩)]) Z (Ar Z Z Z (by kernel_rfl))<|r_W (vA #[vI 0,vI 7]) Z (Bb Z Z Z Z)<|r_W (vA #[vI 0,vI 0]) Z (Bb Z Z Z Z)<|r_W (vA #[Value.string (⟨#[114,101,103]⟩),vI 1,vI 1,vI 1,vI 0,vI 7,vI 0,vI 0,Value.string (⟨#[67,101,108,108]⟩)]) Z (Ar Z Z Z (by kernel_rfl))<|r_W (vA #[Value.string (⟨#[110,111,116]⟩),vI 1,vI 1,vI 0,vI 0,vI 0,vI 0,vI 0,Value.string (⟨#[79,110,101]⟩)]) Z (Ar Z Z Z Z) ?_
 refine r_W (vA #[Value.string (⟨#[110,101,103]⟩),vI 1,vI 1,vI 0,vI 0,vI 0,vI 0,vI 0,Value.string (⟨#[79,110,101]⟩)]) Z (Ar Z Z Z Z)<|r_W (vA #[vI 0,vI 128]) Z (Bb Z Z Z Z)<|r_W (vA #[vI 0,vI 0]) Z (Bb Z Z Z Z)<|r_W (vA #[Value.string (⟨#[115,104,108]⟩),vI 1,vI 1,vI 1,vI 0,vI 128,vI 0,vI 0,Value.string (⟨#[79,110,101]⟩)]) Z (Ar Z Z Z (by kernel_rfl))<|r_W (vA #[vI 0,vI 128]) Z (Bb Z Z Z Z)<|r_W (vA #[vI 0,vI 0]) Z (Bb Z Z Z Z) ?_
 refine r_W (vA #[Value.string (⟨#[115,104,114]⟩),vI 1,vI 1,vI 1,vI 0,vI 128,vI 0,vI 0,Value.string (⟨#[79,110,101]⟩)]) Z (Ar Z Z Z (by kernel_rfl))<|r_W (vA #[vI 0,vI 127]) Z (Bb Z Z Z Z)<|r_W (vA #[vI 0,vI 127]) Z (Bb Z Z Z Z)<|r_W (vA #[Value.string (⟨#[115,108,105,99,101]⟩),vI 1,vI 1,vI 2,vI 0,vI 127,vI 0,vI 127,Value.string (⟨#[80,97,114,116]⟩)]) Z (Ar Z Z Z (by kernel_rfl))<|r_W (vA #[vI 1,vI 128]) Z (Bb Z Z Z Z)<|r_W (vA #[vI 0,vI 0]) Z (Bb Z Z Z Z) ?_
 refine r_W (vA #[Value.string (⟨#[99,97,115,116]⟩),vI 1,vI 1,vI 1,vI 1,vI 128,vI 0,vI 0,Value.string (⟨#[79,110,101]⟩)]) Z (Ar Z Z Z (by kernel_rfl))<|r_W (vA #[Value.string (⟨#[97,100,100]⟩),vI 2,vI 1,vI 0,vI 0,vI 0,vI 0,vI 0,Value.string (⟨#[84,119,111]⟩)]) Z (Ar Z Z Z Z)<|r_W (vA #[Value.string (⟨#[115,117,98]⟩),vI 2,vI 1,vI 0,vI 0,vI 0,vI 0,vI 0,Value.string (⟨#[84,119,111]⟩)]) Z (Ar Z Z Z Z)<|r_W (vA #[Value.string (⟨#[97,100,100,45,115,97,116]⟩),vI 2,vI 1,vI 0,vI 0,vI 0,vI 0,vI 0,Value.string (⟨#[84,119,111]⟩)]) Z (Ar Z Z Z Z) ?_
 refine r_W (vA #[Value.string (⟨#[115,117,98,45,115,97,116]⟩),vI 2,vI 1,vI 0,vI 0,vI 0,vI 0,vI 0,Value.string (⟨#[84,119,111]⟩)]) Z (Ar Z Z Z Z)<|r_W (vA #[Value.string (⟨#[97,110,100]⟩),vI 2,vI 1,vI 0,vI 0,vI 0,vI 0,vI 0,Value.string (⟨#[84,119,111]⟩)]) Z (Ar Z Z Z Z)<|r_W (vA #[Value.string (⟨#[111,114]⟩),vI 2,vI 1,vI 0,vI 0,vI 0,vI 0,vI 0,Value.string (⟨#[84,119,111]⟩)]) Z (Ar Z Z Z Z)<|r_W (vA #[Value.string (⟨#[120,111,114]⟩),vI 2,vI 1,vI 0,vI 0,vI 0,vI 0,vI 0,Value.string (⟨#[84,119,111]⟩)]) Z (Ar Z Z Z Z) ?_
 refine r_W (vA #[Value.string (⟨#[99,97,116]⟩),vI 2,vI 1,vI 0,vI 0,vI 0,vI 0,vI 0,Value.string (⟨#[84,119,111]⟩)]) Z (Ar Z Z Z Z)<|r_W (vA #[Value.string (⟨#[101,113]⟩),vI 2,vI 1,vI 0,vI 0,vI 0,vI 0,vI 0,Value.string (⟨#[84,119,111]⟩)]) Z (Ar Z Z Z Z)<|r_W (vA #[Value.string (⟨#[108,101,115,115]⟩),vI 2,vI 1,vI 0,vI 0,vI 0,vI 0,vI 0,Value.string (⟨#[84,119,111]⟩)]) Z (Ar Z Z Z Z)<|r_W (vA #[vI 0,vI 31]) Z (Bb Z Z Z Z)<|r_W (vA #[vI 0,vI 15]) Z (Bb Z Z Z Z) ?_
 refine r_W (vA #[Value.string (⟨#[112,117,116,45,102,105,101,108,100]⟩),vI 1,vI 0,vI 2,vI 0,vI 31,vI 0,vI 15,Value.string (⟨#[80,108,97,99,101]⟩)]) Z (Ar Z Z Z (by kernel_rfl))<|r_W (vA #[vI 0,vI 23]) Z (Bb Z Z Z Z)<|r_W (vA #[vI 0,vI 0]) Z (Bb Z Z Z Z)<|r_W (vA #[Value.string (⟨#[112,117,116,45,109,101,116,97]⟩),vI 1,vI 0,vI 1,vI 0,vI 23,vI 0,vI 0,Value.string (⟨#[67,101,108,108]⟩)]) Z (Ar Z Z Z (by kernel_rfl))<|r_W (vA #[vI 0,vI 7]) Z (Bb Z Z Z Z)<|r_W (vA #[vI 0,vI 0]) Z (Bb Z Z Z Z) ?_
 refine r_W (vA #[Value.string (⟨#[112,117,116,45,114,101,103]⟩),vI 2,vI 0,vI 1,vI 0,vI 7,vI 0,vI 0,Value.string (⟨#[67,101,108,108]⟩)]) Z (Ar Z Z Z (by kernel_rfl))<|r_W (vA #[vI 0,vI 31]) Z (Bb Z Z Z Z)<|r_W (vA #[vI 0,vI 0]) Z (Bb Z Z Z Z)<|r_W (vA #[Value.string (⟨#[115,104,111,119]⟩),vI 0,vI 0,vI 1,vI 0,vI 31,vI 0,vI 0,Value.string (⟨#[83,108,111,116]⟩)]) Z (Ar Z Z Z (by kernel_rfl))<|r_W (vA #[vI 0,vI 31]) Z (Bb Z Z Z Z)<|r_W (vA #[vI 0,vI 0]) Z (Bb Z Z Z Z) ?_
 refine r_W (vA #[Value.string (⟨#[104,105,100,101]⟩),vI 0,vI 0,vI 1,vI 0,vI 31,vI 0,vI 0,Value.string (⟨#[83,108,111,116]⟩)]) Z (Ar Z Z Z (by kernel_rfl))<|r_W (vA #[vI 0,vI 15]) Z (Bb Z Z Z Z)<|r_W (vA #[vI 1,vI 4]) Z (Bb Z Z Z Z)<|r_W (vA #[Value.string (⟨#[112,117,115,104,45,104,101,97,100]⟩),vI 0,vI 0,vI 2,vI 0,vI 15,vI 1,vI 4,Value.string (⟨#[72,101,97,100,115]⟩)]) Z (Ar Z Z Z (by kernel_rfl))<|r_W (vA #[vI 0,vI 15]) Z (Bb Z Z Z Z)<|r_W (vA #[vI 1,vI 4]) Z (Bb Z Z Z Z) ?_
 refine r_W (vA #[Value.string (⟨#[112,111,112,45,104,101,97,100]⟩),vI 0,vI 0,vI 2,vI 0,vI 15,vI 1,vI 4,Value.string (⟨#[72,101,97,100,115]⟩)]) Z (Ar Z Z Z (by kernel_rfl))<|r_W (vA #[vI 0,vI 7]) Z (Bb Z Z Z Z)<|r_W (vA #[vI 0,vI 0]) Z (Bb Z Z Z Z)<|r_W (vA #[Value.string (⟨#[99,111,117,110,116]⟩),vI 1,vI 0,vI 1,vI 0,vI 7,vI 0,vI 0,Value.string (⟨#[67,101,108,108]⟩)]) Z (Ar Z Z Z (by kernel_rfl))<|r_W (vA #[vI 0,vI 7]) Z (Bb Z Z Z Z)<|r_W (vA #[vI 0,vI 0]) Z (Bb Z Z Z Z) ?_
 refine r_W (vA #[Value.string (⟨#[109,101,116,101,114]⟩),vI 1,vI 1,vI 1,vI 0,vI 7,vI 0,vI 0,Value.string (⟨#[67,101,108,108]⟩)]) Z (Ar Z Z Z (by kernel_rfl))<|r_W (vA #[vI 0,vI 64]) Z (Bb Z Z Z Z)<|r_W (vA #[vI 0,vI 0]) Z (Bb Z Z Z Z)<|r_W (vA #[Value.string (⟨#[106,117,109,112]⟩),vI 0,vI 0,vI 1,vI 0,vI 64,vI 0,vI 0,Value.string (⟨#[74,117,109,112]⟩)]) Z (Ar Z Z Z (by kernel_rfl))<|r_W (vA #[vI 0,vI 64]) Z (Bb Z Z Z Z)<|r_W (vA #[vI 0,vI 0]) Z (Bb Z Z Z Z) ?_
 refine r_W (vA #[Value.string (⟨#[106,117,109,112,45,122,101,114,111]⟩),vI 1,vI 0,vI 1,vI 0,vI 64,vI 0,vI 0,Value.string (⟨#[74,117,109,112]⟩)]) Z (Ar Z Z Z (by kernel_rfl))<|r_W (vA #[vI 0,vI 31]) Z (Bb Z Z Z Z)<|r_W (vA #[vI 0,vI 64]) Z (Bb Z Z Z Z)<|r_W (vA #[Value.string (⟨#[106,117,109,112,45,103,111,110,101]⟩),vI 0,vI 0,vI 2,vI 0,vI 31,vI 0,vI 64,Value.string (⟨#[71,111,110,101]⟩)]) Z (Ar Z Z Z (by kernel_rfl)) ?_
 refine r_W (vA #[Value.string (⟨#[115,116,111,112]⟩),vI 0,vI 0,vI 0,vI 0,vI 0,vI 0,vI 0,Value.string (⟨#[83,116,111,112]⟩)]) Z (Ar Z Z Z Z)<|cD 78 ?_
 refine Ke (cs0:=[]) (Ls:=[]) 56 Ae9 uk (Ae9.all uk) (List.replicate 35 [Value.string (⟨#[]⟩),vI 0,vI 0,vI 0,vI 0,vI 0,vI 0,vI 0,Value.string (⟨#[]⟩)]).flatten Z Z Z Z Z Z Z (by kernel_rfl) (by kernel_rfl) Z Z Z (λc d e=> ?_)
 refine rz Z<|GS [(0,c)] Z (λT=> ?_)
 cases b
 refine Bh (λg=>GZ (v0:=c) e (Dy (Sub.pick [d] [0] Z)) Z (FZ Z))
end Go.Proofs.YtjlomkippigejaaGreatDoor
