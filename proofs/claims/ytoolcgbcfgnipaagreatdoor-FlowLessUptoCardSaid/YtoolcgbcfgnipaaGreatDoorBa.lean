import Derived.Test.YtoolcgbcfgnipaaGreatDoorIt
import Derived.Test.YtoolcgbcfgnipaaGreatDoorUt
import Derived.Test.YtoolcgbcfgnipaaGreatDoorBu
import Derived.Test.YtoolcgbcfgnipaaGreatDoorRef
import Derived.Test.YtoolcgbcfgnipaaGreatDoorIo
import Derived.Test.YtoolcgbcfgnipaaGreatDoorRv
import Derived.Test.YtoolcgbcfgnipaaGreatDoorMd
import Derived.Test.YtoolcgbcfgnipaaGreatDoorSl
namespace Go.Proofs.YtoolcgbcfgnipaaGreatDoor
open Go Go.RowKit Go.Eng _root_.Go.Proofs.Tryz
set_option linter.unusedSimpArgs false
set_option linter.unusedVariables false
set_option maxRecDepth 100000
set_option maxHeartbeats 80000000
abbrev TP(b:Nat)(x0:Value)(x1:Value)(x2:Int)(x3:Int)(x4:Int)(x5:Int):List Bl:=[(b,79, #[x0,x1,vI x2,vI x3,vI x4,vI x5])]
abbrev pG(b:Nat)(x0:List UInt8)(x1:Value)(x2:Int)(x3:Int)(x4:Int)(x5:Int):List Bl:=[(b,79, #[vS x0,x1,vI x2,vI x3,vI x4,vI x5])]
theorem Xl(c:UInt8): ∀s:List UInt8,Lib.index s [c]=Lib.indexByte s c
  | []=>rfl
  |b::l=>by
    rw [Lib.index,Lib.indexByte,Xl c l]
    by_cases h:c=b
    · subst h;simp [List.isPrefixOf]
    · have a: ¬b=c:=fun e=>h e.symm
      simp [List.isPrefixOf,h,a]
theorem kf(s sep:List UInt8)(h:sep.length=1):Gives prog 252 #[.string ⟨s.toArray⟩, .string ⟨sep.toArray⟩] (.int .i64 (Lib.index s sep)):=by
 obtain⟨c,rfl⟩:=List.length_eq_one_iff.mp h
 rw [Xl]
 exact Gives.of_same (fun w=>Tryz.stringslite_Index_one ⟨s.toArray⟩ c w)
def Ab2:Enc (List UInt8×Int):=⟨fun x=> [vS x.1,vI x.2],2,by decide,fun _=>rfl,fun x v h=>by simp only [zr,List.not_mem_nil,or_false] at h;rcases h with rfl|rfl<;>rfl,True⟩
def Ad6:Enc (List UInt8×Int×Int):=⟨fun x=> [vS x.1,vI x.2.1,vI x.2.2],3,by decide,fun _=>rfl,fun x v h=>by simp only [zr,List.not_mem_nil,or_false] at h;rcases h with rfl|rfl|rfl<;>rfl,True⟩
def Ae9:Enc (Int×Int):=⟨fun x=> [vI x.1,vI x.2],2,by decide,fun _=>rfl,fun x v h=>by simp only [zr,List.not_mem_nil,or_false] at h;rcases h with rfl|rfl<;>rfl,True⟩
def Ac9:Enc (Int×Int×Int):=⟨fun x=> [vI x.1,vI x.2.1,vI x.2.2],3,by decide,fun _=>rfl,fun x v h=>by simp only [zr,List.not_mem_nil,or_false] at h;rcases h with rfl|rfl|rfl<;>rfl,True⟩
def Af0:Enc (Int×BitVec 128×Int×BitVec 128×Int):=⟨fun x=> [vI x.1,U (hi x.2.1),U (lo x.2.1),vI x.2.2.1,U (hi x.2.2.2.1),U (lo x.2.2.2.1),vI x.2.2.2.2],7,by decide,fun _=>rfl,fun x v h=>by simp only [zr,List.not_mem_nil,or_false] at h;rcases h with rfl|rfl|rfl|rfl|rfl|rfl|rfl<;>rfl,True⟩
def Ac7:Enc (Int×Int×Int×Int×BitVec 128):=⟨fun x=> [vI x.1,vI x.2.1,vI x.2.2.1,vI x.2.2.2.1,U (hi x.2.2.2.2),U (lo x.2.2.2.2)],6,by decide,fun _=>rfl,fun x v h=>by simp only [zr,List.not_mem_nil,or_false] at h;rcases h with rfl|rfl|rfl|rfl|rfl|rfl<;>rfl,True⟩
def Ac8:Enc (Int×BitVec 128):=⟨fun x=> [vI x.1,U (hi x.2),U (lo x.2)],3,by decide,fun _=>rfl,fun x v h=>by simp only [zr,List.not_mem_nil,or_false] at h;rcases h with rfl|rfl|rfl<;>rfl,True⟩
def Ae3:Enc (Int×Int):=⟨fun x=> [vI x.1,vI x.2],2,by decide,fun _=>rfl,fun x v h=>by simp only [zr,List.not_mem_nil,or_false] at h;rcases h with rfl|rfl<;>rfl,True⟩
def Ae6:Enc (List UInt8×Int×Int):=⟨fun x=> [vS x.1,vI x.2.1,vI x.2.2],3,by decide,fun _=>rfl,fun x v h=>by simp only [zr,List.not_mem_nil,or_false] at h;rcases h with rfl|rfl|rfl<;>rfl,True⟩
def Ae7:Enc (List UInt8×Int):=⟨fun x=> [vS x.1,vI x.2],2,by decide,fun _=>rfl,fun x v h=>by simp only [zr,List.not_mem_nil,or_false] at h;rcases h with rfl|rfl<;>rfl,True⟩
def Ae8:Enc (List UInt8×Int×Int×Int):=⟨fun x=> [vS x.1,vI x.2.1,vI x.2.2.1,vI x.2.2.2],4,by decide,fun _=>rfl,fun x v h=>by simp only [zr,List.not_mem_nil,or_false] at h;rcases h with rfl|rfl|rfl|rfl<;>rfl,True⟩
def Pp:Enc (Int×Int):=⟨fun x=> [vI x.1,vI x.2],2,by decide,fun _=>rfl,fun x v h=>by simp only [zr,List.not_mem_nil,or_false] at h;rcases h with rfl|rfl<;>rfl,True⟩
def Ob:Enc (List UInt8×Int×Int×Int×Int×Int×Int×Int×List UInt8):=⟨fun x=> [vS x.1,vI x.2.1,vI x.2.2.1,vI x.2.2.2.1,vI x.2.2.2.2.1,vI x.2.2.2.2.2.1,vI x.2.2.2.2.2.2.1,vI x.2.2.2.2.2.2.2.1,vS x.2.2.2.2.2.2.2.2],9,by decide,fun _=>rfl,fun x v h=>by simp only [zr,List.not_mem_nil,or_false] at h;rcases h with rfl|rfl|rfl|rfl|rfl|rfl|rfl|rfl|rfl<;>rfl,True⟩
def MA:Enc (Bool×BitVec 64):=⟨fun x=> [vB x.1,U x.2],2,by decide,fun _=>rfl,fun x v h=>by simp only [zr,List.not_mem_nil,or_false] at h;rcases h with rfl|rfl<;>rfl,True⟩
def Ad4:OT ((List UInt8)×(List (List UInt8×Int))×Int×Int×Int×Int):=⟨fun c x a=> ∃(s0:Value),Rd Ab2 c s0 x.2.1∧a=[vS x.1,s0,vI x.2.2.1,vI x.2.2.2.1,vI x.2.2.2.2.1,vI x.2.2.2.2.2],6,by decide,fun hc ⟨s0,h0,hv⟩=>⟨s0,h0.mono hc,hv⟩⟩
def Ad8:OT ((List UInt8)×(List (Int×Int))×(List (Int×Int×Int))×(List (Int×BitVec 128×Int×BitVec 128×Int))×Int):=⟨fun c x a=> ∃(s0:Value) (s1:Value) (s2:Value),Rd Ae9 c s0 x.2.1∧Rd Ac9 c s1 x.2.2.1∧Rd Af0 c s2 x.2.2.2.1∧a=[vS x.1,s0,s1,s2,vI x.2.2.2.2],5,by decide,fun hc ⟨s0,s1,s2,h0,h1,h2,hv⟩=>⟨s0,s1,s2,h0.mono hc,h1.mono hc,h2.mono hc,hv⟩⟩
def Ad5:OT ((List UInt8)×(List Int)×(List (Int×Int×Int×Int×BitVec 128))):=⟨fun c x a=> ∃(s0:Value) (s1:Value),Rd BI c s0 x.2.1∧Rd Ac7 c s1 x.2.2∧a=[vS x.1,s0,s1],3,by decide,fun hc ⟨s0,s1,h0,h1,hv⟩=>⟨s0,s1,h0.mono hc,h1.mono hc,hv⟩⟩
def Ad9:OT ((List UInt8)×Int×(List (Int×Int×Int))×(List Int)×Int×(List (Int×BitVec 128))×Int):=⟨fun c x a=> ∃(s0:Value) (s1:Value) (s2:Value),Rd Ac9 c s0 x.2.2.1∧Rd BI c s1 x.2.2.2.1∧Rd Ac8 c s2 x.2.2.2.2.2.1∧a=[vS x.1,vI x.2.1,s0,s1,vI x.2.2.2.2.1,s2,vI x.2.2.2.2.2.2],7,by decide,fun hc ⟨s0,s1,s2,h0,h1,h2,hv⟩=>⟨s0,s1,s2,h0.mono hc,h1.mono hc,h2.mono hc,hv⟩⟩
def Ad1:OT (Int×Int×(List (Int×Int×Int×Int×BitVec 128))×(List (Int×BitVec 128))×Int×Int):=⟨fun c x a=> ∃(s0:Value) (s1:Value),Rd Ac7 c s0 x.2.2.1∧Rd Ac8 c s1 x.2.2.2.1∧a=[vI x.1,vI x.2.1,s0,s1,vI x.2.2.2.2.1,vI x.2.2.2.2.2],6,by decide,fun hc ⟨s0,s1,h0,h1,hv⟩=>⟨s0,s1,h0.mono hc,h1.mono hc,hv⟩⟩
abbrev Ao:Type:=(List UInt8)×(List ((List UInt8)×(List (List UInt8×Int))×Int×Int×Int×Int))×(List (List UInt8×Int×Int))×(List (List UInt8×Int))×(List ((List UInt8)×(List (Int×Int))×(List (Int×Int×Int))×(List (Int×BitVec 128×Int×BitVec 128×Int))×Int))×(List ((List UInt8)×(List Int)×(List (Int×Int×Int×Int×BitVec 128))))×(List ((List UInt8)×Int×(List (Int×Int×Int))×(List Int)×Int×(List (Int×BitVec 128))×Int))×(List (Int×Int×(List (Int×Int×Int×Int×BitVec 128))×(List (Int×BitVec 128))×Int×Int))×(List (Int×Int×(List (Int×Int×Int×Int×BitVec 128))×(List (Int×BitVec 128))×Int×Int))×(List Int)×(List (Int×Int))×(List (Int×Int))×(List (List UInt8×Int×Int))×(List (List UInt8×Int))×(List (List UInt8×Int×Int×Int))×Int×Int×Int
abbrev AD:Type:=Value×Value×Value×Value×Value×Value×Value×Value×Value×Value×Value×Value×Value×Value
abbrev GB(m:Ao)(v:AD):List Value:=[vS m.1,v.1,v.2.1,v.2.2.1,v.2.2.2.1,v.2.2.2.2.1,v.2.2.2.2.2.1,v.2.2.2.2.2.2.1,v.2.2.2.2.2.2.2.1,v.2.2.2.2.2.2.2.2.1,v.2.2.2.2.2.2.2.2.2.1,v.2.2.2.2.2.2.2.2.2.2.1,v.2.2.2.2.2.2.2.2.2.2.2.1,v.2.2.2.2.2.2.2.2.2.2.2.2.1,v.2.2.2.2.2.2.2.2.2.2.2.2.2,vI m.2.2.2.2.2.2.2.2.2.2.2.2.2.2.2.1,vI m.2.2.2.2.2.2.2.2.2.2.2.2.2.2.2.2.1,vI m.2.2.2.2.2.2.2.2.2.2.2.2.2.2.2.2.2]
abbrev Ac(m:Ao)(v:AD):Array Value:=(GB m v).toArray
abbrev Aa1(ro:Ro)(v:AD)(m:Ao):Prop:=RdN Ad4 ro v.1 m.2.1∧Rd Ad6 ro v.2.1 m.2.2.1∧Rd Ab2 ro v.2.2.1 m.2.2.2.1∧RdN Ad8 ro v.2.2.2.1 m.2.2.2.2.1∧RdN Ad5 ro v.2.2.2.2.1 m.2.2.2.2.2.1∧RdN Ad9 ro v.2.2.2.2.2.1 m.2.2.2.2.2.2.1∧RdN Ad1 ro v.2.2.2.2.2.2.1 m.2.2.2.2.2.2.2.1∧RdN Ad1 ro v.2.2.2.2.2.2.2.1 m.2.2.2.2.2.2.2.2.1∧Rd BI ro v.2.2.2.2.2.2.2.2.1 m.2.2.2.2.2.2.2.2.2.1∧Rd Ae3 ro v.2.2.2.2.2.2.2.2.2.1 m.2.2.2.2.2.2.2.2.2.2.1∧Rd Ae3 ro v.2.2.2.2.2.2.2.2.2.2.1 m.2.2.2.2.2.2.2.2.2.2.2.1∧Rd Ae6 ro v.2.2.2.2.2.2.2.2.2.2.2.1 m.2.2.2.2.2.2.2.2.2.2.2.2.1∧Rd Ae7 ro v.2.2.2.2.2.2.2.2.2.2.2.2.1 m.2.2.2.2.2.2.2.2.2.2.2.2.2.1∧Rd Ae8 ro v.2.2.2.2.2.2.2.2.2.2.2.2.2 m.2.2.2.2.2.2.2.2.2.2.2.2.2.2.1
theorem Aa1.mono {c c':Addr→Option Value}{v:AD}{m:Ao}(hc: ∀a v,c a=some v→c' a=some v)(h:Aa1 c v m):Aa1 c' v m:=⟨RdN.mono hc h.1,Rd.mono hc h.2.1,Rd.mono hc h.2.2.1,RdN.mono hc h.2.2.2.1,RdN.mono hc h.2.2.2.2.1,RdN.mono hc h.2.2.2.2.2.1,RdN.mono hc h.2.2.2.2.2.2.1,RdN.mono hc h.2.2.2.2.2.2.2.1,Rd.mono hc h.2.2.2.2.2.2.2.2.1,Rd.mono hc h.2.2.2.2.2.2.2.2.2.1,Rd.mono hc h.2.2.2.2.2.2.2.2.2.2.1,Rd.mono hc h.2.2.2.2.2.2.2.2.2.2.2.1,Rd.mono hc h.2.2.2.2.2.2.2.2.2.2.2.2.1,Rd.mono hc h.2.2.2.2.2.2.2.2.2.2.2.2.2⟩
abbrev sw:Type:=(List UInt8)×(List ((List UInt8)×(List (List UInt8×Int))×Int×Int×Int×Int))×(List (List UInt8×Int×Int))×(List (List UInt8×Int))×(List ((List UInt8)×(List (Int×Int))×(List (Int×Int×Int))×(List (Int×BitVec 128×Int×BitVec 128×Int))×Int))×(List ((List UInt8)×(List Int)×(List (Int×Int×Int×Int×BitVec 128))))×(List ((List UInt8)×Int×(List (Int×Int×Int))×(List Int)×Int×(List (Int×BitVec 128))×Int))×(List (Int×Int×(List (Int×Int×Int×Int×BitVec 128))×(List (Int×BitVec 128))×Int×Int))×(List (Int×Int×(List (Int×Int×Int×Int×BitVec 128))×(List (Int×BitVec 128))×Int×Int))×(List Int)×(List (Int×Int))×(List (Int×Int))×(List (List UInt8×Int×Int))×(List (List UInt8×Int))×(List (List UInt8×Int×Int×Int))×Int×Int×Int×(List (Bool×BitVec 64))
abbrev oe:Type:=Value×Value×Value×Value×Value×Value×Value×Value×Value×Value×Value×Value×Value×Value×Value
abbrev Bun66R(ro:Ro)(v:oe)(m:sw):Prop:=RdN Ad4 ro v.1 m.2.1∧Rd Ad6 ro v.2.1 m.2.2.1∧Rd Ab2 ro v.2.2.1 m.2.2.2.1∧RdN Ad8 ro v.2.2.2.1 m.2.2.2.2.1∧RdN Ad5 ro v.2.2.2.2.1 m.2.2.2.2.2.1∧RdN Ad9 ro v.2.2.2.2.2.1 m.2.2.2.2.2.2.1∧RdN Ad1 ro v.2.2.2.2.2.2.1 m.2.2.2.2.2.2.2.1∧RdN Ad1 ro v.2.2.2.2.2.2.2.1 m.2.2.2.2.2.2.2.2.1∧Rd BI ro v.2.2.2.2.2.2.2.2.1 m.2.2.2.2.2.2.2.2.2.1∧Rd Ae3 ro v.2.2.2.2.2.2.2.2.2.1 m.2.2.2.2.2.2.2.2.2.2.1∧Rd Ae3 ro v.2.2.2.2.2.2.2.2.2.2.1 m.2.2.2.2.2.2.2.2.2.2.2.1∧Rd Ae6 ro v.2.2.2.2.2.2.2.2.2.2.2.1 m.2.2.2.2.2.2.2.2.2.2.2.2.1∧Rd Ae7 ro v.2.2.2.2.2.2.2.2.2.2.2.2.1 m.2.2.2.2.2.2.2.2.2.2.2.2.2.1∧Rd Ae8 ro v.2.2.2.2.2.2.2.2.2.2.2.2.2.1 m.2.2.2.2.2.2.2.2.2.2.2.2.2.2.1∧Rd MA ro v.2.2.2.2.2.2.2.2.2.2.2.2.2.2 m.2.2.2.2.2.2.2.2.2.2.2.2.2.2.2.2.2.2
theorem Bun66R.mono {c c':Addr→Option Value}{v:oe}{m:sw}(hc: ∀a v,c a=some v→c' a=some v)(h:Bun66R c v m):Bun66R c' v m:=⟨RdN.mono hc h.1,Rd.mono hc h.2.1,Rd.mono hc h.2.2.1,RdN.mono hc h.2.2.2.1,RdN.mono hc h.2.2.2.2.1,RdN.mono hc h.2.2.2.2.2.1,RdN.mono hc h.2.2.2.2.2.2.1,RdN.mono hc h.2.2.2.2.2.2.2.1,Rd.mono hc h.2.2.2.2.2.2.2.2.1,Rd.mono hc h.2.2.2.2.2.2.2.2.2.1,Rd.mono hc h.2.2.2.2.2.2.2.2.2.2.1,Rd.mono hc h.2.2.2.2.2.2.2.2.2.2.2.1,Rd.mono hc h.2.2.2.2.2.2.2.2.2.2.2.2.1,Rd.mono hc h.2.2.2.2.2.2.2.2.2.2.2.2.2.1,Rd.mono hc h.2.2.2.2.2.2.2.2.2.2.2.2.2.2⟩
def Ca(_:Nat)(c:UInt8):Option Bool:=if(((c.toNat:Nat):Int):Int)≥128 then some (decide ((((c.toNat:Nat):Int):Int)<192))else some false
theorem Gb(N c r)(a:Ca N c=some r):Gives prog 202 #[Value.int .u8 ((c.toNat:Nat):Int)] (vB r):=by
 unfold Ca at a
 refine Av follows func202 rfl 9 rfl _ fz1 (fun e=> ?_)
 refine AZ rfl<|Aa fun f b=>Ag<|rn 3 rfl ?_
 rcases d:(decide ((((c.toNat:Nat):Int):Int)≥128))with _|_
 ·replace a:=iF d a
  refine rz rfl<|b _ _ ?_
  cases a
  exact aR eE1
 replace a:=iD d a
 refine rz rfl<|b _ _ ?_
 cases a
 exact aR eE1
def FS(s:List UInt8)(a:Bool):Option (Int×Int):=if a=true then some ((((((262144*((((Au s 0).toNat:Nat):Int) - 240))+(4096*((((Au s 1).toNat:Nat):Int) - 128)))+(64*((((Au s 2).toNat:Nat):Int) - 128)))+(((Au s 3).toNat:Nat):Int)) - 128),4)else some (65533,1)
def Cu(s:List UInt8)(a:Bool):Option (Int×Int):=if a=true then ck ((R64 ((((Au s 0).toNat:Nat):Int) - 240))) (ck ((R64 (262144*((((Au s 0).toNat:Nat):Int) - 240)))) (ck ((0:Int)≤1∧1<(s.length:Int)) (ck ((R64 ((((Au s 1).toNat:Nat):Int) - 128))) (ck ((R64 (4096*((((Au s 1).toNat:Nat):Int) - 128)))) (ck ((R64 ((262144*((((Au s 0).toNat:Nat):Int) - 240))+(4096*((((Au s 1).toNat:Nat):Int) - 128))))) (ck ((0:Int)≤2∧2<(s.length:Int)) (ck ((R64 ((((Au s 2).toNat:Nat):Int) - 128))) (ck ((R64 (64*((((Au s 2).toNat:Nat):Int) - 128)))) (ck ((R64 (((262144*((((Au s 0).toNat:Nat):Int) - 240))+(4096*((((Au s 1).toNat:Nat):Int) - 128)))+(64*((((Au s 2).toNat:Nat):Int) - 128))))) (ck ((0:Int)≤3∧3<(s.length:Int)) (ck ((R64 ((((262144*((((Au s 0).toNat:Nat):Int) - 240))+(4096*((((Au s 1).toNat:Nat):Int) - 128)))+(64*((((Au s 2).toNat:Nat):Int) - 128)))+(((Au s 3).toNat:Nat):Int)))) (ck ((R64 (((((262144*((((Au s 0).toNat:Nat):Int) - 240))+(4096*((((Au s 1).toNat:Nat):Int) - 128)))+(64*((((Au s 2).toNat:Nat):Int) - 128)))+(((Au s 3).toNat:Nat):Int)) - 128))) (if((((((262144*((((Au s 0).toNat:Nat):Int) - 240))+(4096*((((Au s 1).toNat:Nat):Int) - 128)))+(64*((((Au s 2).toNat:Nat):Int) - 128)))+(((Au s 3).toNat:Nat):Int)) - 128):Int)≥65536 then FS s (decide (((((((262144*((((Au s 0).toNat:Nat):Int) - 240))+(4096*((((Au s 1).toNat:Nat):Int) - 128)))+(64*((((Au s 2).toNat:Nat):Int) - 128)))+(((Au s 3).toNat:Nat):Int)) - 128):Int)≤1114111))else FS s false)))))))))))))else some (65533,1)
def Gp(N:Nat)(s:List UInt8)(b:Bool):Option (Int×Int):=if b=true then ck ((0:Int)≤3∧3<(s.length:Int)) ((Ca N (Au s 3)).bind fun a=>Cu s a)else Cu s false
def Gq(N:Nat)(s:List UInt8)(b:Bool):Option (Int×Int):=if b=true then ck ((0:Int)≤2∧2<(s.length:Int)) ((Ca N (Au s 2)).bind fun a=>Gp N s a)else Gp N s false
def Gr(N:Nat)(s:List UInt8)(a:Bool):Option (Int×Int):=if a=true then ck ((0:Int)≤1∧1<(s.length:Int)) ((Ca N (Au s 1)).bind fun b=>Gq N s b)else Gq N s false
def Gs(N:Nat)(s:List UInt8)(a:Bool):Option (Int×Int):=if a=true then Gr N s (decide ((s.length:Int)≥4))else Gr N s false
def EO(N:Nat)(s:List UInt8):Option (Int×Int):=if((((Au s 0).toNat:Nat):Int):Int)≥240 then Gs N s (decide (((((Au s 0).toNat:Nat):Int):Int)<245))else Gs N s false
def Ez(N:Nat)(s:List UInt8)(a:Bool):Option (Int×Int):=if a=true then some (((((4096*((((Au s 0).toNat:Nat):Int) - 224))+(64*((((Au s 1).toNat:Nat):Int) - 128)))+(((Au s 2).toNat:Nat):Int)) - 128),3)else EO N s 
def Cf(N:Nat)(s:List UInt8)(a:Bool):Option (Int×Int):=if a=true then ck ((R64 ((((Au s 0).toNat:Nat):Int) - 224))) (ck ((R64 (4096*((((Au s 0).toNat:Nat):Int) - 224)))) (ck ((0:Int)≤1∧1<(s.length:Int)) (ck ((R64 ((((Au s 1).toNat:Nat):Int) - 128))) (ck ((R64 (64*((((Au s 1).toNat:Nat):Int) - 128)))) (ck ((R64 ((4096*((((Au s 0).toNat:Nat):Int) - 224))+(64*((((Au s 1).toNat:Nat):Int) - 128))))) (ck ((0:Int)≤2∧2<(s.length:Int)) (ck ((R64 (((4096*((((Au s 0).toNat:Nat):Int) - 224))+(64*((((Au s 1).toNat:Nat):Int) - 128)))+(((Au s 2).toNat:Nat):Int)))) (ck ((R64 ((((4096*((((Au s 0).toNat:Nat):Int) - 224))+(64*((((Au s 1).toNat:Nat):Int) - 128)))+(((Au s 2).toNat:Nat):Int)) - 128))) (if(((((4096*((((Au s 0).toNat:Nat):Int) - 224))+(64*((((Au s 1).toNat:Nat):Int) - 128)))+(((Au s 2).toNat:Nat):Int)) - 128):Int)≥2048 then if(((((4096*((((Au s 0).toNat:Nat):Int) - 224))+(64*((((Au s 1).toNat:Nat):Int) - 128)))+(((Au s 2).toNat:Nat):Int)) - 128):Int)<55296 then Ez N s true else Ez N s (decide ((((((4096*((((Au s 0).toNat:Nat):Int) - 224))+(64*((((Au s 1).toNat:Nat):Int) - 128)))+(((Au s 2).toNat:Nat):Int)) - 128):Int)>57343))else Ez N s false)))))))))else EO N s 
def FP(N:Nat)(s:List UInt8)(a:Bool):Option (Int×Int):=if a=true then ck ((0:Int)≤2∧2<(s.length:Int)) ((Ca N (Au s 2)).bind fun b=>Cf N s b)else Cf N s false
def FQ(N:Nat)(s:List UInt8)(a:Bool):Option (Int×Int):=if a=true then ck ((0:Int)≤1∧1<(s.length:Int)) ((Ca N (Au s 1)).bind fun b=>FP N s b)else FP N s false
def FR(N:Nat)(s:List UInt8)(a:Bool):Option (Int×Int):=if a=true then FQ N s (decide ((s.length:Int)≥3))else FQ N s false
def Cv(N:Nat)(s:List UInt8)(a:Bool):Option (Int×Int):=if a=true then ck ((R64 ((((Au s 0).toNat:Nat):Int) - 192))) (ck ((R64 (64*((((Au s 0).toNat:Nat):Int) - 192)))) (ck ((0:Int)≤1∧1<(s.length:Int)) (ck ((R64 ((64*((((Au s 0).toNat:Nat):Int) - 192))+(((Au s 1).toNat:Nat):Int)))) (ck ((R64 (((64*((((Au s 0).toNat:Nat):Int) - 192))+(((Au s 1).toNat:Nat):Int)) - 128))) (some ((((64*((((Au s 0).toNat:Nat):Int) - 192))+(((Au s 1).toNat:Nat):Int)) - 128),2))))))else if((((Au s 0).toNat:Nat):Int):Int)≥224 then FR N s (decide (((((Au s 0).toNat:Nat):Int):Int)<240))else FR N s false
def Gt(N:Nat)(s:List UInt8)(b:Bool):Option (Int×Int):=if b=true then ck ((0:Int)≤1∧1<(s.length:Int)) ((Ca N (Au s 1)).bind fun a=>Cv N s a)else Cv N s false
def Gu(N:Nat)(s:List UInt8)(a:Bool):Option (Int×Int):=if a=true then Gt N s (decide ((s.length:Int)≥2))else Gt N s false
def GJ(N:Nat)(s:List UInt8):Option (Int×Int):=if(s.length:Int)=0 then some (65533,0)else ck ((0:Int)≤0∧0<(s.length:Int)) (if((((Au s 0).toNat:Nat):Int):Int)<128 then some ((((Au s 0).toNat:Nat):Int),1)else if((((Au s 0).toNat:Nat):Int):Int)≥194 then Gu N s (decide (((((Au s 0).toNat:Nat):Int):Int)<224))else Gu N s false)
theorem PM(N s r)(a:GJ N s=some r):Gives prog 132 #[vS s] (vT #[vI r.1,vI r.2]):=by
 unfold GJ at a
 refine Av follows func132 rfl 139 rfl _ fz1 (fun bb=> ?_)
 refine AZ rfl<|Aa fun K2 bc=>Ad<|rn 1 rfl<|r_W (vI (s.length:Int)) rfl (MO rfl rfl rfl)<|rz rfl<|aE a rfl (fun bd a=> ?_) (fun bd a=> ?_)
 ·refine AZ rfl ?_
  cases a
  exact aR eE2
 refine Ab<|bc _ _ ?_
 refine Ad<|rn 1 rfl<|kC a fun be a=>r_W (Value.int .u8 (IW s 0)) rfl (Ef (GU rfl be))<|r_w (vI (((Au s 0).toNat:Nat):Int)) rfl rfl (QT (Au s 0)) (fun _=>rfl)<|rz rfl<|Aa fun K8 bf=>AZ rfl<|aD a rfl (fun y a=> ?_) (fun y a=> ?_)
 ·refine AZ rfl ?_
  cases a
  exact aR eE2
 refine Ab<|bf _ _ ?_
 refine Aa fun bq z=>Aa fun br A=>Ag<|rn 3 rfl<|AG 3 21 [(0,vS s),(4,vI (((Au s 0).toNat:Nat):Int))] vB (fun b_=>Gu N s b_=some r) (fun bg a T=> ?_) (fun b=> ?_)
 ·unfold Gu at a
  refine rn 1 rfl<|AG 4 26 [(0,vS s),(4,vI (((Au s 0).toNat:Nat):Int))] vB (fun b_=>Gt N s b_=some r) (fun bh a T=> ?_) (fun b=> ?_)
  ·unfold Gt at a
   refine rn 1 rfl<|AG 4 31 [(0,vS s),(4,vI (((Au s 0).toNat:Nat):Int))] vB (fun b_=>Cv N s b_=some r) (fun bs a T=> ?_) (fun b=> ?_)
   ·unfold Cv at a
    refine Af<|A _ _ ?_
    refine aB a rfl (fun B a=> ?_) (fun B a=> ?_)
    ·refine Ad<|rn 1 rfl<|kC a fun C a=>rX C rfl<|kC a fun D a=>rX D rfl<|rn 1 rfl<|kC a fun E a=>r_W (Value.int .u8 (IW s 1)) rfl (Ef (GU rfl E))<|r_w (vI (((Au s 1).toNat:Nat):Int)) rfl rfl (QT (Au s 1)) (fun _=>rfl)<|kC a fun F a=>rX F rfl<|kC a fun G a=>rX G rfl<|rz rfl ?_
     cases a
     exact aR eE2
    refine Ab<|z _ _ ?_
    refine Cb (fun tt ll=>(EO N s  =some r)∧Is [(0,vS s),(4,vI (((Au s 0).toNat:Nat):Int))] [] tt ll) ?_ ?_
    ·refine Aa fun bt H=>Ag<|rn 3 rfl<|AG 3 45 [(0,vS s),(4,vI (((Au s 0).toNat:Nat):Int))] vB (fun b_=>FR N s b_=some r) (fun bi a T=> ?_) (fun b=> ?_)
     ·unfold FR at a
      refine rn 1 rfl<|AG 4 50 [(0,vS s),(4,vI (((Au s 0).toNat:Nat):Int))] vB (fun b_=>FQ N s b_=some r) (fun bj a T=> ?_) (fun b=> ?_)
      ·unfold FQ at a
       refine rn 1 rfl<|AG 4 55 [(0,vS s),(4,vI (((Au s 0).toNat:Nat):Int))] vB (fun b_=>FP N s b_=some r) (fun bk a T=> ?_) (fun b=> ?_)
       ·unfold FP at a
        refine rn 1 rfl<|AG 4 60 [(0,vS s),(4,vI (((Au s 0).toNat:Nat):Int))] vB (fun b_=>Cf N s b_=some r) (fun bu a T=> ?_) (fun b=> ?_)
        ·unfold Cf at a
         refine Af<|H _ _ ?_
         refine aB a rfl (fun I a=> ?_) (fun I a=> ?_)
         ·refine Aa fun bv J=>IE [] (by decide+kernel) (fun hn=>AQ)<|rn 1 rfl<|kC a fun K a=>rX K rfl<|kC a fun L a=>rX L rfl<|rn 1 rfl<|kC a fun M a=>r_W (Value.int .u8 (IW s 1)) rfl (Ef (GU rfl M))<|r_w (vI (((Au s 1).toNat:Nat):Int)) rfl rfl (QT (Au s 1)) (fun _=>rfl)<|kC a fun O a=>rX O rfl<|kC a fun P a=>rX P rfl<|kC a fun Q a=>rX Q rfl<|rn 1 rfl<|kC a fun R a=>r_W (Value.int .u8 (IW s 2)) rfl (Ef (GU rfl R))<|r_w (vI (((Au s 2).toNat:Nat):Int)) rfl rfl (QT (Au s 2)) (fun _=>rfl)<|kC a fun S a=>rX S rfl<|kC a fun U a=>rX U rfl<|rz rfl<|J _ _ ?_
          refine Aa fun bx V=>Ag<|rn 3 rfl ?_
          refine AG 7 84 [(0,vS s),(4,vI (((Au s 0).toNat:Nat):Int)),(5,vI (((((4096*((((Au s 0).toNat:Nat):Int) - 224))+(64*((((Au s 1).toNat:Nat):Int) - 128)))+(((Au s 2).toNat:Nat):Int)) - 128)))] vB (fun b_=>Ez N s b_=some r) (fun bz a T=> ?_) (fun b=> ?_)
          ·unfold Ez at a
           refine Af<|V _ _ ?_
           refine aB a rfl (fun W a=> ?_) (fun W a=> ?_)
           ·refine AZ rfl ?_
            cases a
            exact aR eE2
           refine Ab<|fg _ (Sub.of suN) ?_
           exact⟨a,Ah rfl rfl⟩
          rcases e:(decide ((((((4096*((((Au s 0).toNat:Nat):Int) - 224))+(64*((((Au s 1).toNat:Nat):Int) - 128)))+(((Au s 2).toNat:Nat):Int)) - 128):Int)≥2048))with _|_
          ·replace a:=iF e a
           refine rn 3 rfl<|BR rfl rfl<|BR rfl rfl<|rn 2 rfl ?_
           exact b _ _ a rfl rfl
          replace a:=iD e a
          refine rn 3 rfl ?_
          rcases f:(decide ((((((4096*((((Au s 0).toNat:Nat):Int) - 224))+(64*((((Au s 1).toNat:Nat):Int) - 128)))+(((Au s 2).toNat:Nat):Int)) - 128):Int)<55296))with _|_
          ·replace a:=iF f a
           refine rn 4 rfl ?_
           exact b _ _ a rfl rfl
          replace a:=iD f a
          refine rn 4 rfl ?_
          exact b _ _ a rfl rfl
         refine Ab<|fg _ (Sub.of suN) ?_
         exact⟨a,Ah rfl rfl⟩
        rcases g:bk with _|_
        ·replace a:=iB g a
         refine rn 4 rfl ?_
         exact b _ _ a rfl rfl
        replace a:=ifp g a
        refine rn 1 rfl<|r_y rfl<|kC a fun X a=>r_W (Value.int .u8 (IW s 2)) rfl (Ef (GU rfl X))<|r_y rfl<|kB a fun ca Y a=>rc _ (cF OR) (Gb N (Au s 2) _ Y)<|rn 1 rfl ?_
        exact b _ _ a rfl rfl
       rcases h:bj with _|_
       ·replace a:=iB h a
        refine rn 4 rfl ?_
        exact b _ _ a rfl rfl
       replace a:=ifp h a
       refine rn 1 rfl<|r_y rfl<|kC a fun Z a=>r_W (Value.int .u8 (IW s 1)) rfl (Ef (GU rfl Z))<|r_y rfl<|kB a fun cb aa a=>rc _ (cF OR) (Gb N (Au s 1) _ aa)<|rn 1 rfl ?_
       exact b _ _ a rfl rfl
      rcases i:bi with _|_
      ·replace a:=iB i a
       refine rn 4 rfl ?_
       exact b _ _ a rfl rfl
      replace a:=ifp i a
      refine rn 1 rfl<|r_y rfl<|r_W (vI (s.length:Int)) rfl (MO rfl rfl rfl)<|rn 2 rfl ?_
      exact b _ _ a rfl rfl
     rcases j:(decide (((((Au s 0).toNat:Nat):Int):Int)≥224))with _|_
     ·replace a:=iF j a
      refine rn 3 rfl ?_
      exact b _ _ a rfl rfl
     replace a:=iD j a
     refine rn 3 rfl ?_
     exact b _ _ a rfl rfl
    clear a;rintro t l ⟨a,⟨T,rfl⟩,rfl⟩
    unfold EO at a
    refine Aa fun cc k=>Aa fun cd ab=>Ag<|rn 3 rfl<|AG 3 91 [(0,vS s),(4,vI (((Au s 0).toNat:Nat):Int))] vB (fun b_=>Gs N s b_=some r) (fun bl a T=> ?_) (fun b=> ?_)
    ·unfold Gs at a
     refine rn 1 rfl<|AG 4 96 [(0,vS s),(4,vI (((Au s 0).toNat:Nat):Int))] vB (fun b_=>Gr N s b_=some r) (fun bm a T=> ?_) (fun b=> ?_)
     ·unfold Gr at a
      refine rn 1 rfl<|AG 4 101 [(0,vS s),(4,vI (((Au s 0).toNat:Nat):Int))] vB (fun b_=>Gq N s b_=some r) (fun bn a T=> ?_) (fun b=> ?_)
      ·unfold Gq at a
       refine rn 1 rfl<|AG 4 106 [(0,vS s),(4,vI (((Au s 0).toNat:Nat):Int))] vB (fun b_=>Gp N s b_=some r) (fun bo a T=> ?_) (fun b=> ?_)
       ·unfold Gp at a
        refine rn 1 rfl<|AG 4 111 [(0,vS s),(4,vI (((Au s 0).toNat:Nat):Int))] vB (fun b_=>Cu s b_=some r) (fun ce a T=> ?_) (fun b=> ?_)
        ·unfold Cu at a
         refine Af<|ab _ _ ?_
         refine aB a rfl (fun ac a=> ?_) (fun ac a=> ?_)
         ·refine Aa fun cf ad=>IE [] (by decide+kernel) (fun hn=>AQ)<|rn 1 rfl<|kC a fun ae a=>rX ae rfl<|kC a fun af a=>rX af rfl<|rn 1 rfl<|kC a fun ag a=>r_W (Value.int .u8 (IW s 1)) rfl (Ef (GU rfl ag))<|r_w (vI (((Au s 1).toNat:Nat):Int)) rfl rfl (QT (Au s 1)) (fun _=>rfl)<|kC a fun ah a=>rX ah rfl<|kC a fun ai a=>rX ai rfl<|kC a fun aj a=>rX aj rfl<|rn 1 rfl<|kC a fun ak a=>r_W (Value.int .u8 (IW s 2)) rfl (Ef (GU rfl ak))<|r_w (vI (((Au s 2).toNat:Nat):Int)) rfl rfl (QT (Au s 2)) (fun _=>rfl)<|kC a fun al a=>rX al rfl<|kC a fun am a=>rX am rfl<|kC a fun an a=>rX an rfl<|rn 1 rfl<|kC a fun ao a=>r_W (Value.int .u8 (IW s 3)) rfl (Ef (GU rfl ao))<|r_w (vI (((Au s 3).toNat:Nat):Int)) rfl rfl (QT (Au s 3)) (fun _=>rfl)<|kC a fun ap a=>rX ap rfl<|kC a fun aq a=>rX aq rfl<|rz rfl<|ad _ _ ?_
          refine Aa fun cg ar=>Ag ?_
          refine rn 3 rfl ?_
          refine AG 3 137 [(6,vI ((((((262144*((((Au s 0).toNat:Nat):Int) - 240))+(4096*((((Au s 1).toNat:Nat):Int) - 128)))+(64*((((Au s 2).toNat:Nat):Int) - 128)))+(((Au s 3).toNat:Nat):Int)) - 128)))] vB (fun b_=>FS s b_=some r) (fun ch a T=> ?_) (fun b=> ?_)
          ·unfold FS at a
           refine Af<|ar _ _ ?_
           refine aB a rfl (fun au a=> ?_) (fun au a=> ?_)
           ·refine AZ rfl ?_
            cases a
            exact aR eE2
           refine Ab<|k _ _ ?_
           refine AZ rfl ?_
           cases a
           exact aR eE2
          rcases m:(decide (((((((262144*((((Au s 0).toNat:Nat):Int) - 240))+(4096*((((Au s 1).toNat:Nat):Int) - 128)))+(64*((((Au s 2).toNat:Nat):Int) - 128)))+(((Au s 3).toNat:Nat):Int)) - 128):Int)≥65536))with _|_
          ·replace a:=iF m a
           refine rn 3 rfl ?_
           exact b _ _ a rfl rfl
          replace a:=iD m a
          refine rn 3 rfl ?_
          exact b _ _ a rfl rfl
         refine Ab<|k _ _ ?_
         refine AZ rfl ?_
         cases a
         exact aR eE2
        rcases n:bo with _|_
        ·replace a:=iB n a
         refine rn 4 rfl ?_
         exact b _ _ a rfl rfl
        replace a:=ifp n a
        refine rn 1 rfl<|r_y rfl<|kC a fun av a=>r_W (Value.int .u8 (IW s 3)) rfl (Ef (GU rfl av))<|r_y rfl<|kB a fun ci aw a=>rc _ (cF OR) (Gb N (Au s 3) _ aw)<|rn 1 rfl ?_
        exact b _ _ a rfl rfl
       rcases o:bn with _|_
       ·replace a:=iB o a
        refine rn 4 rfl ?_
        exact b _ _ a rfl rfl
       replace a:=ifp o a
       refine rn 1 rfl<|r_y rfl<|kC a fun ax a=>r_W (Value.int .u8 (IW s 2)) rfl (Ef (GU rfl ax))<|r_y rfl<|kB a fun cj ay a=>rc _ (cF OR) (Gb N (Au s 2) _ ay)<|rn 1 rfl ?_
       exact b _ _ a rfl rfl
      rcases p:bm with _|_
      ·replace a:=iB p a
       refine rn 4 rfl ?_
       exact b _ _ a rfl rfl
      replace a:=ifp p a
      refine rn 1 rfl<|r_y rfl<|kC a fun az a=>r_W (Value.int .u8 (IW s 1)) rfl (Ef (GU rfl az))<|r_y rfl<|kB a fun ck ba a=>rc _ (cF OR) (Gb N (Au s 1) _ ba)<|rn 1 rfl ?_
      exact b _ _ a rfl rfl
     rcases q:bl with _|_
     ·replace a:=iB q a
      refine rn 4 rfl ?_
      exact b _ _ a rfl rfl
     replace a:=ifp q a
     refine rn 1 rfl<|r_y rfl<|r_W (vI (s.length:Int)) rfl (MO rfl rfl rfl)<|rn 2 rfl ?_
     exact b _ _ a rfl rfl
    rcases u:(decide (((((Au s 0).toNat:Nat):Int):Int)≥240))with _|_
    ·replace a:=iF u a
     refine rn 3 rfl ?_
     exact b _ _ a rfl rfl
    replace a:=iD u a
    refine rn 3 rfl ?_
    exact b _ _ a rfl rfl
   rcases v:bh with _|_
   ·replace a:=iB v a
    refine rn 4 rfl ?_
    exact b _ _ a rfl rfl
   replace a:=ifp v a
   refine rn 1 rfl<|r_y rfl<|kC a fun w a=>r_W (Value.int .u8 (IW s 1)) rfl (Ef (GU rfl w))<|r_y rfl<|kB a fun bp x a=>rc _ (cF OR) (Gb N (Au s 1) _ x)<|rn 1 rfl ?_
   exact b _ _ a rfl rfl
  rcases c:bg with _|_
  ·replace a:=iB c a
   refine rn 4 rfl ?_
   exact b _ _ a rfl rfl
  replace a:=ifp c a
  refine rn 1 rfl<|r_y rfl<|r_W (vI (s.length:Int)) rfl (MO rfl rfl rfl)<|rn 2 rfl ?_
  exact b _ _ a rfl rfl
 rcases d:(decide (((((Au s 0).toNat:Nat):Int):Int)≥194))with _|_
 ·replace a:=iF d a
  refine rn 3 rfl ?_
  exact b _ _ a rfl rfl
 replace a:=iD d a
 refine rn 3 rfl ?_
 exact b _ _ a rfl rfl
def Dx(N:Nat):Nat→List UInt8→List Int→Option (List Int)
  |0,_,_=>none
  |d+1,a,b=>if(a.length:Int)>0 then(GJ N a).bind fun c=>ck ((b).length+([c.1]).length≤17592186044416) (ck (0≤c.2∧c.2≤(a.length:Int)) ((Dx N d) ((a).drop (c.2).toNat) (b++([c.1]))))else some b
def Fj(N:Nat)(s:List UInt8):Option (List Int):=Dx N N s ([])
theorem Mi(N s r)(b:Fj N s=some r)(ro:Ro):Does prog 74 #[vS s] ro [] (p1 (fun s_=>s_) 3 BI r):=by
 unfold Fj at b
 refine Al follows func74 rfl 22 rfl _ fz1 (fun o=> ?_)
 refine AZ rfl<|AZ rfl<|Aa fun A q=>Ai<|Bw _ (Sub.pickE (Ls:=[[]]) (Ls0:=[]) rfl [0] rfl)<|AH (fun tt ll nn=> ∃(h:Nat) (c:List UInt8) (e:List Int),(Dx N h c e=some r)∧ ∃(d:Value) (a:List Bl),Sl 3 BI d e a∧Is [(0,vS c),(3,d)] (List.flatten [a]) tt ll∧nn=h+1) (N+1) ?_ ?_
 ·exact⟨N,s,[],b,nS,[],Sl.nil,Ah rfl rfl,rfl⟩
 clear b;rintro t l _ ⟨h,c,e,b,d,a,f,⟨⟨T,rfl⟩,rfl⟩,rfl⟩
 rcases h with _|h
 ·exact absurd b (by simp [Dx])
 rw [Dx] at b
 refine Aa fun B u=>Ad<|rn 1 rfl<|r_W (vI (c.length:Int)) rfl (MO rfl rfl rfl)<|rz rfl<|aD b rfl (fun v b=> ?_) (fun v b=> ?_)
 ·refine Ab<|u _ _ ?_
  refine Ai<|Ad<|rn 1 rfl<|kB b fun p j b=>rc _ (cF nl) (PM N c _ j)<|rz rfl<|Ad<|rn 2 rfl<|gB (Ls:=[a]) 3 BI [p.1] (fun z i w=> ?_)
  refine kC b fun g b=>cC 17<|Li (cs0:=[]) (Ls:=[a,i]) 0 (En:=BI) rfl rfl rfl rfl rfl f rfl (Ax w (Ak (Ls:=[a,i]) (k:=1) rfl rfl)) rfl rfl rfl rfl rfl (LE g rfl) (LD g rfl) rfl (fun x m y=> ?_)
  refine rz rfl<|Ag<|rn 2 rfl<|kC b fun n b=>r_W (vS ((c).drop (p.2).toNat)) rfl (Ef (dR rfl n))<|rz rfl<|fg _ (Sub.pick [m,i] [0] rfl) ?_
  exact⟨h+1,by omega,h,(c).drop (p.2).toNat,(e++([p.1])),b,x,m,y,Ah rfl rfl,rfl⟩
 refine AI<|q _ _ ?_
 refine AZ rfl ?_
 cases b
 refine Bb (fun C=>Hw (v0:=d) f (EH (Sub.pick [a] [0] rfl)) rfl (EJ rfl))
def CX(c:Int)(a:Bool):Option Bool:=if a=true then some true else if c≥1024 then some (decide (c≤1279))else some false
def Eu(c:Int)(a:Bool):Option Bool:=if a=true then CX c true else if c≥913 then CX c (decide (c≤969))else CX c false
def Ev(c:Int)(a:Bool):Option Bool:=if a=true then some false else if c≥192 then Eu c (decide (c≤591))else Eu c false
def Ew(c:Int)(a:Bool):Option Bool:=if a=true then Ev c true else Ev c (c==930)
def Ex(c:Int)(a:Bool):Option Bool:=if a=true then some true else if c=215 then Ew c true else Ew c (c==247)
def CY(c:Int)(a:Bool):Option Bool:=if a=true then Ex c true else Ex c (c==95)
def Ey(c:Int)(a:Bool):Option Bool:=if a=true then CY c true else if c≥97 then CY c (decide (c≤122))else CY c false
def EN(_:Nat)(c:Int):Option Bool:=if c≥65 then Ey c (decide (c≤90))else Ey c false
theorem LH(N c r)(a:EN N c=some r):Gives prog 75 #[vI c] (vB r):=by
 unfold EN at a
 refine Av follows func75 rfl 53 rfl _ fz1 (fun s=> ?_)
 refine AZ rfl<|Aa fun F t=>Aa fun G u=>Ag<|rn 3 rfl<|AG 3 8 [(0,vI c)] vB (fun b_=>Ey c b_=some r) (fun A a T=> ?_) (fun b=> ?_)
 ·unfold Ey at a
  refine rn 1 rfl<|AG 7 16 [(0,vI c)] vB (fun b_=>CY c b_=some r) (fun B a T=> ?_) (fun b=> ?_)
  ·unfold CY at a
   refine rn 1 rfl<|AG 3 20 [(0,vI c)] vB (fun b_=>Ex c b_=some r) (fun H a T=> ?_) (fun b=> ?_)
   ·unfold Ex at a
    refine Af<|u _ _ ?_
    refine aB a rfl (fun v a=> ?_) (fun v a=> ?_)
    ·refine AZ rfl ?_
     cases a
     exact aR eE1
    refine Ab<|t _ _ ?_
    refine Aa fun I w=>Aa fun C p=>Ag<|rn 3 rfl<|AG 3 26 [(0,vI c)] vB (fun b_=>Ew c b_=some r) (fun x a T=> ?_) (fun b=> ?_)
    ·unfold Ew at a
     refine rn 1 rfl<|AG 3 30 [(0,vI c)] vB (fun b_=>Ev c b_=some r) (fun D a T=> ?_) (fun b=> ?_)
     ·unfold Ev at a
      refine Af<|p _ _ ?_
      refine aB a rfl (fun q a=> ?_) (fun q a=> ?_)
      ·refine AZ rfl ?_
       cases a
       exact aR eE1
      refine Ab<|w _ _ ?_
      refine Aa fun E d=>Ag<|rn 3 rfl<|AG 3 36 [(0,vI c)] vB (fun b_=>Eu c b_=some r) (fun y a T=> ?_) (fun b=> ?_)
      ·unfold Eu at a
       refine rn 1 rfl<|AG 7 44 [(0,vI c)] vB (fun b_=>CX c b_=some r) (fun z a T=> ?_) (fun b=> ?_)
       ·unfold CX at a
        refine rn 1 rfl ?_
        rcases e:z with _|_
        ·replace a:=iB e a
         refine rn 3 rfl ?_
         rcases f:(decide (c≥1024))with _|_
         ·replace a:=iF f a
          refine rz rfl<|d _ _ ?_
          cases a
          exact aR eE1
         replace a:=iD f a
         refine rz rfl<|d _ _ ?_
         cases a
         exact aR eE1
        replace a:=ifp e a
        refine rn 3 rfl<|BR rfl rfl<|BR rfl rfl<|rz rfl<|d _ _ ?_
        cases a
        exact aR eE1
       rcases g:y with _|_
       ·replace a:=iB g a
        refine rn 3 rfl ?_
        rcases h:(decide (c≥913))with _|_
        ·replace a:=iF h a
         refine rn 4 rfl ?_
         exact b _ _ a rfl rfl
        replace a:=iD h a
        refine rn 4 rfl ?_
        exact b _ _ a rfl rfl
       replace a:=ifp g a
       refine rn 3 rfl<|BR rfl rfl<|BR rfl rfl<|rn 2 rfl ?_
       exact b _ _ a rfl rfl
      rcases i:(decide (c≥192))with _|_
      ·replace a:=iF i a
       refine rn 3 rfl ?_
       exact b _ _ a rfl rfl
      replace a:=iD i a
      refine rn 3 rfl ?_
      exact b _ _ a rfl rfl
     rcases j:x with _|_
     ·replace a:=iB j a
      refine rn 3 rfl ?_
      exact b _ _ a rfl rfl
     replace a:=ifp j a
     refine rn 3 rfl ?_
     exact b _ _ a rfl rfl
    rcases k:(c==215)with _|_
    ·replace a:=iG k a
     refine rn 3 rfl ?_
     exact b _ _ a rfl rfl
    replace a:=iE k a
    refine rn 3 rfl ?_
    exact b _ _ a rfl rfl
   rcases l:B with _|_
   ·replace a:=iB l a
    refine rn 3 rfl ?_
    exact b _ _ a rfl rfl
   replace a:=ifp l a
   refine rn 3 rfl ?_
   exact b _ _ a rfl rfl
  rcases m:A with _|_
  ·replace a:=iB m a
   refine rn 3 rfl ?_
   rcases n:(decide (c≥97))with _|_
   ·replace a:=iF n a
    refine rn 4 rfl ?_
    exact b _ _ a rfl rfl
   replace a:=iD n a
   refine rn 4 rfl ?_
   exact b _ _ a rfl rfl
  replace a:=ifp m a
  refine rn 3 rfl<|BR rfl rfl<|BR rfl rfl<|rn 2 rfl ?_
  exact b _ _ a rfl rfl
 rcases o:(decide (c≥65))with _|_
 ·replace a:=iF o a
  refine rn 3 rfl ?_
  exact b _ _ a rfl rfl
 replace a:=iD o a
 refine rn 3 rfl ?_
 exact b _ _ a rfl rfl
def Gc(b:Int)(a:Int→Option Bool)(c:Bool):Option Bool:=if c=true then some false else ck (R64 (b+1)) (a (b+1))
def EE(c:List Int)(b:Int)(a:Int→Option Bool)(d:Bool):Option Bool:=if d=true then ck (0≤b∧b<(c.length:Int)) (Gc b a ((c[b.toNat]!:Int) !=46))else Gc b a false
def EF(c:List Int)(b:Int)(a:Int→Option Bool)(d:Bool):Option Bool:=if d=true then ck (0≤b∧b<(c.length:Int)) (EE c b a ((c[b.toNat]!:Int) !=45))else EE c b a false
def Bx(N:Nat)(b:List Int):Nat→Int→Option Bool
  |0,_=>none
  |c+1,a=>if a<(b.length:Int)then ck (0≤a∧a<(b.length:Int)) ((EN N (b[a.toNat]!)).bind fun d=>if d=true then EF b a (Bx N b c) false else ck (0≤a∧a<(b.length:Int)) (if(b[a.toNat]!:Int)≥48 then ck (0≤a∧a<(b.length:Int)) (EF b a (Bx N b c) (!(decide ((b[a.toNat]!:Int)≤57))))else EF b a (Bx N b c) true))else some true
def Gd(N:Nat)(b:List Int)(a:Bool):Option Bool:=if a=true then some false else Bx N b N 0
def Hb(N:Nat)(a:List Int)(c:Bool):Option Bool:=if c=true then Gd N a true else ck (0≤(0:Int)∧(0:Int)<(a.length:Int)) ((EN N (a[((0:Int)).toNat]!)).bind fun b=>Gd N a (!(b)))
def Gw(N:Nat)(s:List UInt8):Option Bool:=(Fj N s).bind fun a=>if(a.length:Int)<1 then Hb N a true else Hb N a (decide ((a.length:Int)>24))
theorem MY(N s r)(a:Gw N s=some r):Gives prog 31 #[vS s] (vB r):=by
 unfold Gw at a
 refine Av follows func31 rfl 63 rfl _ fz1 (fun L=> ?_)
 refine AZ rfl<|Ad<|rn 1 rfl<|kB a fun f M a=>gS (Ls:=[]) (cF fJ) (fun o w z_=>Mi N s _ M z_.view) (fun A g d=> ?_)
 refine rz rfl<|Aa fun K8 O=>Aa fun K9 P=>Ag<|rn 1 rfl<|rL (Sl.shp d) rfl<|rn 2 rfl<|AG 4 14 [(3,A)] vB (fun b_=>Hb N f b_=some r) (fun Q a T=> ?_) (fun e=> ?_)
 ·unfold Hb at a
  refine rn 1 rfl<|AG 6 21 [(3,A)] vB (fun b_=>Gd N f b_=some r) (fun V a T=> ?_) (fun e=> ?_)
  ·unfold Gd at a
   refine Af<|P _ _ ?_
   refine aB a rfl (fun B a=> ?_) (fun B a=> ?_)
   ·refine AZ rfl ?_
    cases a
    exact aR eE1
   refine Ab<|O _ _ ?_
   refine Aa fun W C=>AZ rfl<|Ai<|Bw _ (Sub.pick [g] [0] rfl)<|AH (fun tt ll nn=> ∃(c:Nat) (b:Int),(Bx N f c b=some r)∧Is [(3,A),(4,vI b)] (List.flatten [g]) tt ll∧nn=c+1) (N+1) ?_ ?_
   ·exact⟨N,0,a,Ah rfl rfl,rfl⟩
   clear a;rintro t l _ ⟨c,b,a,⟨⟨T,rfl⟩,rfl⟩,rfl⟩
   rcases c with _|c
   ·exact absurd a (by simp [Bx])
   rw [Bx] at a
   refine Aa fun X D=>Ad<|rn 2 rfl<|rL (Sl.shp d) rfl<|rz rfl<|aD a rfl (fun E a=> ?_) (fun E a=> ?_)
   ·refine Ab<|D _ _ ?_
    refine Aa fun Y F=>Ai<|Aa fun Z G=>Ag<|rn 2 rfl<|kC a fun h a=>rI (Sl.shp d) h rfl<|rE (Ax d (Ak (Ls:=[g]) (k:=0) rfl rfl)) h 0 rfl<|kB a fun R H a=>rc _ (cF fI) (LH N (f[b.toNat]!) _ H)<|rn 2 rfl<|AG 14 48 [(3,A),(4,vI b)] vB (fun b_=>EF f b (Bx N f c) b_=some r) (fun S a T=> ?_) (fun e=> ?_)
    ·unfold EF at a
     refine rn 1 rfl<|AG 6 55 [(3,A),(4,vI b)] vB (fun b_=>EE f b (Bx N f c) b_=some r) (fun U a T=> ?_) (fun e=> ?_)
     ·unfold EE at a
      refine rn 1 rfl<|AG 6 62 [(3,A),(4,vI b)] vB (fun b_=>Gc b (Bx N f c) b_=some r) (fun aa a T=> ?_) (fun e=> ?_)
      ·unfold Gc at a
       refine Af<|G _ _ ?_
       refine aB a rfl (fun I a=> ?_) (fun I a=> ?_)
       ·refine AZ rfl ?_
        cases a
        exact aR eE1
       refine Ab<|F _ _ ?_
       refine Ag<|rn 1 rfl<|kC a fun J a=>rX J rfl<|rz rfl<|fg _ (Sub.pick [g] [0] rfl) ?_
       exact⟨c+1,by omega,c,(b+1),a,Ah rfl rfl,rfl⟩
      rcases i:U with _|_
      ·replace a:=iB i a
       refine rn 6 rfl ?_
       exact e _ _ a rfl rfl
      replace a:=ifp i a
      refine rn 2 rfl<|r_y rfl<|kC a fun j a=>rI (Sl.shp d) j rfl<|r_y rfl<|rE (Ax d (Ak (Ls:=[g]) (k:=0) rfl rfl)) j 0 rfl<|rn 2 rfl ?_
      exact e _ _ a rfl rfl
     rcases m:S with _|_
     ·replace a:=iB m a
      refine rn 6 rfl ?_
      exact e _ _ a rfl rfl
     replace a:=ifp m a
     refine rn 2 rfl<|r_y rfl<|kC a fun n a=>rI (Sl.shp d) n rfl<|r_y rfl<|rE (Ax d (Ak (Ls:=[g]) (k:=0) rfl rfl)) n 0 rfl<|rn 2 rfl ?_
     exact e _ _ a rfl rfl
    rcases p:(!(R))with _|_
    ·replace a:=ifp (Db p) a
     refine rn 6 rfl<|BR rfl rfl<|BR rfl rfl<|BR rfl rfl<|BR rfl rfl<|BR rfl rfl<|rn 3 rfl ?_
     exact e _ _ a rfl rfl
    replace a:=ifn (Bool.eq_false_iff.1 (Da p)) a
    refine rn 2 rfl<|r_y rfl<|kC a fun q a=>rI (Sl.shp d) q rfl<|r_y rfl<|rE (Ax d (Ak (Ls:=[g]) (k:=0) rfl rfl)) q 0 rfl<|rn 2 rfl ?_
    rcases u:(decide ((f[b.toNat]!:Int)≥48))with _|_
    ·replace a:=iF u a
     refine rn 8 rfl ?_
     exact e _ _ a rfl rfl
    replace a:=iD u a
    refine rn 2 rfl<|r_y rfl<|kC a fun v a=>rI (Sl.shp d) v rfl<|r_y rfl<|rE (Ax d (Ak (Ls:=[g]) (k:=0) rfl rfl)) v 0 rfl<|rn 4 rfl ?_
    exact e _ _ a rfl rfl
   refine AI<|C _ _ ?_
   refine AZ rfl ?_
   cases a
   exact aR eE1
  rcases x:Q with _|_
  ·replace a:=iB x a
   refine rn 1 rfl<|r_y rfl<|kC a fun y a=>rI (Sl.shp d) y rfl<|r_y rfl<|rE (Ax d (Ak (Ls:=[g]) (k:=0) rfl rfl)) y 0 rfl<|r_y rfl<|kB a fun ab K a=>rc _ (cF fI) (LH N (f[((0:Int)).toNat]!) _ K)<|rn 2 rfl ?_
   exact e _ _ a rfl rfl
  replace a:=ifp x a
  refine rn 6 rfl ?_
  exact e _ _ a rfl rfl
 rcases z:(decide ((f.length:Int)<1))with _|_
 ·replace a:=iF z a
  refine rn 1 rfl<|r_y rfl<|rL (Sl.shp d) rfl<|rn 2 rfl ?_
  exact e _ _ a rfl rfl
 replace a:=iD z a
 refine rn 4 rfl ?_
 exact e _ _ a rfl rfl
def Cr(N:Nat)(s:List UInt8):Nat→Int→Option Bool
  |0,_=>none
  |c+1,a=>if a<(s.length:Int)then ck ((0:Int)≤a∧a<(s.length:Int)) (if((IW s a):Int)=46 then some false else ck (R64 (a+1)) ((Cr N s c) (a+1)))else(Gw N s).bind fun b=>some b
def CL(N:Nat)(s:List UInt8):Option Bool:=Cr N s N 0
theorem HL(N s r)(a:CL N s=some r):Gives prog 76 #[vS s] (vB r):=by
 unfold CL at a
 refine Av follows func76 rfl 16 rfl _ fz1 (fun h=> ?_)
 refine AZ rfl<|Aa fun o i=>AZ rfl<|Ai<|AH (fun tt ll nn=> ∃(c:Nat) (b:Int),(Cr N s c b=some r)∧Is [(0,vS s),(3,vI b)] [] tt ll∧nn=c+1) (N+1) ?_ ?_
 ·exact⟨N,0,a,Ah rfl rfl,rfl⟩
 clear a;rintro t l _ ⟨c,b,a,⟨⟨T,rfl⟩,rfl⟩,rfl⟩
 rcases c with _|c
 ·exact absurd a (by simp [Cr])
 rw [Cr] at a
 refine Aa fun p j=>Ad<|rn 2 rfl<|r_W (vI (s.length:Int)) rfl (MO rfl rfl rfl)<|rz rfl<|aD a rfl (fun k a=> ?_) (fun k a=> ?_)
 ·refine Ab<|j _ _ ?_
  refine Aa fun q m=>Ai<|Ad<|rn 2 rfl<|kC a fun d a=>r_W (Value.int .u8 (IW s b)) rfl (Ef (GU rfl d))<|rz rfl<|aE a rfl (fun e a=> ?_) (fun e a=> ?_)
  ·refine AZ rfl ?_
   cases a
   exact aR eE1
  refine Ab<|m _ _ ?_
  refine Ag<|rn 1 rfl<|kC a fun f a=>rX f rfl<|rz rfl<|fg _ (Sub.of suN) ?_
  exact⟨c+1,by omega,c,(b+1),a,Ah rfl rfl,rfl⟩
 refine AI<|i _ _ ?_
 refine Ad<|rn 1 rfl<|kB a fun n g a=>rc _ (cF fN) (MY N s _ g)<|rz rfl ?_
 cases a
 exact aR eE1
def GI(c:Int)(a:Bool):Option Int:=if a=true then ck (R64 (c+80)) (some (c+80))else if c=962 then some 963 else some c
def Ea(c:Int)(a:Bool):Option Int:=if a=true then ck (R64 (c+32)) (some (c+32))else if c≥1024 then GI c (decide (c≤1039))else GI c false
def CN(c:Int)(a:Bool):Option Int:=if a=true then Ea c true else if c≥1040 then Ea c (decide (c≤1071))else Ea c false
def CO(c:Int)(a:Bool):Option Int:=if a=true then CN c true else if c≥913 then if c≤937 then CN c (c !=930)else CN c false else CN c false
def Fk(c:Int)(a:Bool):Option Int:=if a=true then CO c true else if c≥192 then if c≤222 then CO c (c !=215)else CO c false else CO c false
def Hc(_:Nat)(c:Int):Option Int:=if c≥65 then Fk c (decide (c≤90))else Fk c false
theorem QE(N c r)(a:Hc N c=some r):Gives prog 203 #[vI c] (vI r):=by
 unfold Hc at a
 refine Av follows func203 rfl 54 rfl _ fz1 (fun w=> ?_)
 refine Ad<|r_V (vI 0) rfl<|Af<|Aa fun G x=>Aa fun H y=>Ag<|r_R [vI c,vB (decide (c≥65)),vB (decide (c≥65))] rfl<|AG 3 8 [(0,vI c)] vB (fun b_=>Fk c b_=some r) (fun z a T=> ?_) (fun b=> ?_)
 ·unfold Fk at a
  refine r_V (vB z) rfl<|AG 11 20 [(0,vI c)] vB (fun b_=>CO c b_=some r) (fun A a T=> ?_) (fun b=> ?_)
  ·unfold CO at a
   refine r_V (vB A) rfl<|AG 11 32 [(0,vI c)] vB (fun b_=>CN c b_=some r) (fun B a T=> ?_) (fun b=> ?_)
   ·unfold CN at a
    refine r_V (vB B) rfl<|AG 7 40 [(0,vI c)] vB (fun b_=>Ea c b_=some r) (fun I a T=> ?_) (fun b=> ?_)
    ·unfold Ea at a
     refine Af<|y _ _ ?_
     refine Bf _ rfl (fun s=> ?_) (fun s=> ?_)
     ·replace a:=ifp s a
      refine Ad<|r_V (vI c) rfl ?_
      obtain⟨f,a⟩:=EU a
      refine r_X (vI (c+32)) rfl (KS rfl f.1 f.2) rfl<|r_V (vI (c+32)) rfl<|Af ?_
      cases a
      exact aR eE1
     replace a:=iB s a
     refine Ab<|x _ _ ?_
     refine Aa fun C t=>Aa fun D u=>Ag<|r_R [vI c,vB (decide (c≥1024)),vB (decide (c≥1024))] rfl<|AG 3 48 [(0,vI c)] vB (fun b_=>GI c b_=some r) (fun E a T=> ?_) (fun b=> ?_)
     ·unfold GI at a
      refine Af<|u _ _ ?_
      refine Bf _ rfl (fun d=> ?_) (fun d=> ?_)
      ·replace a:=ifp d a
       refine Ad<|r_V (vI c) rfl ?_
       obtain⟨g,a⟩:=EU a
       refine r_X (vI (c+80)) rfl (KS rfl g.1 g.2) rfl<|r_V (vI (c+80)) rfl<|Af ?_
       cases a
       exact aR eE1
      replace a:=iB d a
      refine Ab<|t _ _ ?_
      refine Aa fun F v=>Ad<|r_R [vI c,vB (c==962)] rfl<|Af<|Bf _ rfl (fun e=> ?_) (fun e=> ?_)
      ·replace a:=iE e a
       refine Ad<|r_V (vI 963) rfl<|Af ?_
       cases a
       exact aR eE1
      replace a:=iG e a
      refine Ab<|v _ _ ?_
      refine Ad<|r_R [vI c,vI c] rfl<|Af ?_
      cases a
      exact aR eE1
     rcases h:(decide (c≥1024))with _|_
     ·replace a:=iF h a
      refine r_R [none,none,vB false] rfl ?_
      exact b _ _ a rfl rfl
     replace a:=iD h a
     refine r_R [vI c,vB (decide (c≤1039)),vB (decide (c≤1039))] rfl ?_
     exact b _ _ a rfl rfl
    rcases i:B with _|_
    ·replace a:=iB i a
     refine r_R [vI c,vB (decide (c≥1040)),vB (decide (c≥1040))] rfl ?_
     rcases j:(decide (c≥1040))with _|_
     ·replace a:=iF j a
      refine r_R [none,none,vB false,vB false] rfl ?_
      exact b _ _ a rfl rfl
     replace a:=iD j a
     refine r_R [vI c,vB (decide (c≤1071)),vB (decide (c≤1071)),vB (decide (c≤1071))] rfl ?_
     exact b _ _ a rfl rfl
    replace a:=ifp i a
    refine r_R [none,none,none] rfl<|BR rfl rfl<|BR rfl rfl<|r_R [none,vB true] rfl ?_
    exact b _ _ a rfl rfl
   rcases k:A with _|_
   ·replace a:=iB k a
    refine r_R [vI c,vB (decide (c≥913)),vB (decide (c≥913))] rfl ?_
    rcases l:(decide (c≥913))with _|_
    ·replace a:=iF l a
     refine r_R [none,none,vB false,vB false,none,none,vB false,vB false] rfl ?_
     exact b _ _ a rfl rfl
    replace a:=iD l a
    refine r_R [vI c,vB (decide (c≤937)),vB (decide (c≤937)),vB (decide (c≤937))] rfl ?_
    rcases m:(decide (c≤937))with _|_
    ·replace a:=iF m a
     refine r_R [none,none,vB false,vB false] rfl ?_
     exact b _ _ a rfl rfl
    replace a:=iD m a
    refine r_R [vI c,vB (c !=930),vB (c !=930),vB (c !=930)] rfl ?_
    exact b _ _ a rfl rfl
   replace a:=ifp k a
   refine r_R [none,none,none] rfl<|BR rfl rfl<|BR rfl rfl<|r_R [none,none] rfl<|BR rfl rfl<|BR rfl rfl<|r_R [none,vB true] rfl ?_
   exact b _ _ a rfl rfl
  rcases n:z with _|_
  ·replace a:=iB n a
   refine r_R [vI c,vB (decide (c≥192)),vB (decide (c≥192))] rfl ?_
   rcases o:(decide (c≥192))with _|_
   ·replace a:=iF o a
    refine r_R [none,none,vB false,vB false,none,none,vB false,vB false] rfl ?_
    exact b _ _ a rfl rfl
   replace a:=iD o a
   refine r_R [vI c,vB (decide (c≤222)),vB (decide (c≤222)),vB (decide (c≤222))] rfl ?_
   rcases p:(decide (c≤222))with _|_
   ·replace a:=iF p a
    refine r_R [none,none,vB false,vB false] rfl ?_
    exact b _ _ a rfl rfl
   replace a:=iD p a
   refine r_R [vI c,vB (c !=215),vB (c !=215),vB (c !=215)] rfl ?_
   exact b _ _ a rfl rfl
  replace a:=ifp n a
  refine r_R [none,none,none] rfl<|BR rfl rfl<|BR rfl rfl<|r_R [none,none] rfl<|BR rfl rfl<|BR rfl rfl<|r_R [none,vB true] rfl ?_
  exact b _ _ a rfl rfl
 rcases q:(decide (c≥65))with _|_
 ·replace a:=iF q a
  refine r_R [none,none,vB false] rfl ?_
  exact b _ _ a rfl rfl
 replace a:=iD q a
 refine r_R [vI c,vB (decide (c≤90)),vB (decide (c≤90))] rfl ?_
 exact b _ _ a rfl rfl
def CM(N:Nat):Nat→List Int→Int→Option (List Int)
  |0,_,_=>none
  |c+1,b,a=>if a<(b.length:Int)then ck (0≤a∧a<(b.length:Int)) ((Hc N (b[a.toNat]!)).bind fun d=>ck (0≤a∧a<(b.length:Int)) (ck (R64 (a+1)) ((CM N c) ((b).set (a.toNat) d) (a+1))))else some b
def Ge(N:Nat)(s:List UInt8):Option (List Int):=(Fj N s).bind fun a=>CM N N a 0
theorem MB(N s r)(a:Ge N s=some r)(ro:Ro):Does prog 134 #[vS s] ro [] (p1 (fun s_=>s_) 3 BI r):=by
 unfold Ge at a
 refine Al follows func134 rfl 22 rfl _ fz1 (fun v=> ?_)
 refine AZ rfl<|Ad<|rn 1 rfl<|kB a fun C x a=>gS (Ls:=[]) (cF fJ) (fun o w z_=>Mi N s _ x z_.view) (fun y B D=> ?_)
 refine rz rfl<|Aa fun G z=>AZ rfl<|Ai<|Bw _ (Sub.pick [B] [0] rfl)<|AH (fun tt ll nn=> ∃(e:Nat) (f:List Int) (d:Int),(CM N e f d=some r)∧ ∃(b:List Bl),Sl 3 BI y f b∧Is [(3,y),(4,vI d)] (List.flatten [b]) tt ll∧nn=e+1) (N+1) ?_ ?_
 ·exact⟨N,C,0,a,B,D,Ah rfl rfl,rfl⟩
 clear a;rintro t l _ ⟨e,f,d,a,b,c,⟨⟨T,rfl⟩,rfl⟩,rfl⟩
 rcases e with _|e
 ·exact absurd a (by simp [CM])
 rw [CM] at a
 refine Aa fun E i=>Ad<|rn 2 rfl<|rL (Sl.shp c) rfl<|rz rfl<|aD a rfl (fun j a=> ?_) (fun j a=> ?_)
 ·refine Ab<|i _ _ ?_
  refine Aa fun F m=>Ai<|Ag<|rn 4 rfl<|kC a fun g a=>rI (Sl.shp c) g rfl<|rE (Ax c (Ak (Ls:=[b]) (k:=0) rfl rfl)) g 0 rfl<|kB a fun n p a=>rc _ (cF mg) (QE N (f[d.toNat]!) _ p)<|kC a fun h a=>rI (Sl.shp c) h rfl<|Rb (Ls:=[b]) 0 (En:=BI) (f[d.toNat]!) n (d.toNat) 0 rfl rfl rfl c (Dc h) rfl rfl rfl (IP rfl) rfl (fun q A=> ?_)
  refine Af<|m _ _ ?_
  refine Ag<|rn 1 rfl<|kC a fun u a=>rX u rfl<|rz rfl<|fg _ (Sub.pick [q] [0] rfl) ?_
  exact⟨e+1,by omega,e,(f).set (d.toNat) n,(d+1),a,q,A,Ah rfl rfl,rfl⟩
 refine AI<|z _ _ ?_
 refine AZ rfl ?_
 cases a
 refine Bb (fun H=>Hw (v0:=y) c (EH (Sub.pick [b] [0] rfl)) rfl (EJ rfl))
def Ct(a:List Int)(b:List Int)(d:Int)(c:Int→Option Int)(e:Bool):Option Int:=if e=true then ck (0≤d∧d<(a.length:Int)) (ck (0≤d∧d<(b.length:Int)) (if(a[d.toNat]!:Int)<b[d.toNat]! then some (-1)else ck (0≤d∧d<(a.length:Int)) (ck (0≤d∧d<(b.length:Int)) (if(a[d.toNat]!:Int)>b[d.toNat]! then some 1 else ck (R64 (d+1)) (c (d+1))))))else if(a.length:Int)<(b.length:Int)then some (-1)else if(a.length:Int)>(b.length:Int)then some 1 else some 0
def BG(a:List Int)(b:List Int):Nat→Int→Option Int
  |0,_=>none
  |d+1,c=>if c<(a.length:Int)then Ct a b c (BG a b d) (decide (c<(b.length:Int)))else Ct a b c (BG a b d) false
def GH(N:Nat)(a:List Int)(b:List Int):Option Int:=BG a b N 0
theorem PL(N a b r)(c:GH N a b=some r)(ro av)(ha:Rd BI ro av a)(bv)(hb:Rd BI ro bv b):Does prog 133 #[av,bv] ro [] (pV (vI r)):=by
 unfold GH at c
 refine Al follows func133 rfl 46 rfl _ fz2 (fun x=> ?_)
 refine AZ rfl<|Aa fun K y=>AZ rfl<|Ai<|AH (fun tt ll nn=> ∃(e:Nat) (d:Int),(BG a b e d=some r)∧Is [(0,av),(1,bv),(5,vI d)] [] tt ll∧nn=e+1) (N+1) ?_ ?_
 ·exact⟨N,0,c,Ah rfl rfl,rfl⟩
 clear c;rintro t l _ ⟨e,d,c,⟨⟨T,rfl⟩,rfl⟩,rfl⟩
 rcases e with _|e
 ·exact absurd c (by simp [BG])
 rw [BG] at c
 refine Aa fun L z=>Aa fun M A=>Ag<|rn 2 rfl<|rL (Rd.shp ha) rfl<|rn 2 rfl<|AG 5 15 [(0,av),(1,bv),(5,vI d)] vB (fun b_=>Ct a b d (BG a b e) b_=some r) (fun O c T=> ?_) (fun D=> ?_)
 ·unfold Ct at c
  refine Af<|A _ _ ?_
  refine aB c rfl (fun B c=> ?_) (fun B c=> ?_)
  ·refine Ab<|z _ _ ?_
   refine Aa fun P C=>Ai<|Aa fun E k=>Aa fun F m=>IE [] (by decide+kernel) (fun G=>AQ)<|rn 2 rfl<|kC c fun f c=>rI (Rd.shp ha) f rfl<|rE (Aw ha) f 0 rfl<|rn 2 rfl<|kC c fun g c=>rI (Rd.shp hb) g rfl<|rE (Aw hb) g 0 rfl<|rz rfl<|m _ _ ?_
   refine aD c rfl (fun n c=> ?_) (fun n c=> ?_)
   ·refine AZ rfl ?_
    cases c
    exact aR eV1
   refine Ab<|k _ _ ?_
   refine Aa fun H o=>IE [] (by decide+kernel) (fun G=>AQ)<|rn 2 rfl<|kC c fun h c=>rI (Rd.shp ha) h rfl<|rE (Aw ha) h 0 rfl<|rn 2 rfl<|kC c fun i c=>rI (Rd.shp hb) i rfl<|rE (Aw hb) i 0 rfl<|rz rfl<|o _ _ ?_
   refine aD c rfl (fun p c=> ?_) (fun p c=> ?_)
   ·refine AZ rfl ?_
    cases c
    exact aR eV1
   refine Ab<|C _ _ ?_
   refine Ag<|rn 1 rfl<|kC c fun q c=>rX q rfl<|rz rfl<|fg _ (Sub.of suN) ?_
   exact⟨e+1,by omega,e,(d+1),c,Ah rfl rfl,rfl⟩
  refine AI<|y _ _ ?_
  refine Aa fun I s=>Ad<|rn 1 rfl<|rL (Rd.shp ha) rfl<|rn 1 rfl<|rL (Rd.shp hb) rfl<|rz rfl<|aD c rfl (fun u c=> ?_) (fun u c=> ?_)
  ·refine AZ rfl ?_
   cases c
   exact aR eV1
  refine Ab<|s _ _ ?_
  refine Aa fun J v=>Ad<|rn 1 rfl<|rL (Rd.shp ha) rfl<|rn 1 rfl<|rL (Rd.shp hb) rfl<|rz rfl<|aD c rfl (fun w c=> ?_) (fun w c=> ?_)
  ·refine AZ rfl ?_
   cases c
   exact aR eV1
  refine Ab<|v _ _ ?_
  refine AZ rfl ?_
  cases c
  exact aR eV1
 rcases j:(decide (d<(a.length:Int)))with _|_
 ·replace c:=iF j c
  refine rn 5 rfl ?_
  exact D _ _ c rfl rfl
 replace c:=iD j c
 refine rn 2 rfl<|r_y rfl<|rL (Rd.shp hb) rfl<|rn 2 rfl ?_
 exact D _ _ c rfl rfl
def DZ(N:Nat)(a:List UInt8)(b:List UInt8):Option Bool:=(Ge N a).bind fun d=>(Ge N b).bind fun e=>(GH N d e).bind fun c=>some (c==0)
theorem Jw(N a b r)(c:DZ N a b=some r):Gives prog 77 #[vS a,vS b] (vB r):=by
 unfold DZ at c
 refine Av follows func77 rfl 11 rfl _ fz2 (fun f=> ?_)
 refine AZ rfl<|Ad<|rn 1 rfl<|kB c fun m g c=>gS (Ls:=[]) (cF cr) (fun o w z_=>MB N a _ g z_.view) (fun n h p=> ?_)
 refine rn 1 rfl<|kB c fun q i c=>gS (Ls:=[h]) (cF cr) (fun o w z_=>MB N b _ i z_.view) (fun j d l=> ?_)
 refine kB c fun s e c=>gV _ (cF nk) (fun o w z_=>PL N m q _ e z_.view n ((Ax p (Ak (Ls:=[h,d]) (k:=0) rfl rfl)) o w z_) j ((Ax l (Ak (Ls:=[h,d]) (k:=1) rfl rfl)) o w z_))<|rz rfl ?_
 cases c
 exact aR eE1
def Cq(e:Int)(b:List (Int×Int)→Int→Option (List (Int×Int)))(c:List (Int×Int))(d:Int)(a:List (Int×Int)→Int→Option (List (Int×Int)))(f:Bool):Option (List (Int×Int)):=if f=true then ck ((c).length+([(e,d)]).length≤8796093022208) (ck (R64 (d+1)) (a (c++([(e,d)])) (d+1)))else ck (R64 (e+1)) (b c (e+1))
def Bp(d:Int)(a:List (Int×Int)→Int→Option (List (Int×Int)))(c:Int):Nat→List (Int×Int)→Int→Option (List (Int×Int))
  |0,_,_=>none
  |f+1,b,e=>if e<c then Cq d a b e (Bp d a c f) (decide (c≤4))else Cq d a b e (Bp d a c f) false
def EM(N:Nat)(b:List (Int×Int))(c:Int)(a:List (Int×Int)→Int→Option (List (Int×Int)))(d:Int):Option (List (Int×Int)):=Bp c a d N b 0
def AW(N:Nat)(c:List (List UInt8×Int×Int)):Nat→List (Int×Int)→Int→Option (List (Int×Int))
  |0,_,_=>none
  |d+1,b,a=>if a<(c.length:Int)then ck (0≤a∧a<(c.length:Int)) (if((c[a.toNat]!).2.2:Int)=0 then EM N b a (AW N c d) 1 else EM N b a (AW N c d) ((c[a.toNat]!).2.2))else some b
def CK(N:Nat)(a:List (List UInt8×Int×Int)):Option (List (Int×Int)):=AW N a N ([]) 0
theorem HK(N l' r)(b:CK N l'=some r)(ro l'v)(hl':Rd Ad6 ro l'v l'):Does prog 78 #[l'v] ro [] (p1 (fun s_=>s_) 167 Pp r):=by
 unfold CK at b
 refine Al follows func78 rfl 36 rfl _ fz1 (fun E=> ?_)
 refine AZ rfl<|AZ rfl<|Aa fun U F=>AZ rfl<|Ai<|Bw _ (Sub.pickE (Ls:=[[]]) (Ls0:=[]) rfl [0] rfl)<|AH (fun tt ll nn=> ∃(p:Nat) (h:List (Int×Int)) (f:Int),(AW N l' p h f=some r)∧ ∃(d:Value) (a:List Bl),Sl 167 Pp d h a∧Is [(0,l'v),(3,d),(4,vI f)] (List.flatten [a]) tt ll∧nn=p+1) (N+1) ?_ ?_
 ·exact⟨N,[],0,b,nS,[],Sl.nil,Ah rfl rfl,rfl⟩
 clear b;rintro t l _ ⟨p,h,f,b,d,a,n,⟨⟨T,rfl⟩,rfl⟩,rfl⟩
 rcases p with _|p
 ·exact absurd b (by simp [AW])
 rw [AW] at b
 refine Aa fun V G=>Ad<|rn 2 rfl<|rL (Rd.shp hl') rfl<|rz rfl<|aD b rfl (fun H b=> ?_) (fun H b=> ?_)
 ·refine Ab<|G _ _ ?_
  refine Aa fun W I=>Ai<|Ad<|rn 2 rfl<|kC b fun q b=>rI (Rd.shp hl') q rfl<|rF (Rd.shp hl') (Be q) rfl<|rE (Aw hl') q 2 rfl<|rz rfl<|Cb (fun tt ll=> ∃(j:Int),(EM N h f (AW N l' p) j=some r)∧Is [(0,l'v),(3,d),(4,vI f),(5,vI j)] (List.flatten [a]) tt ll) ?_ ?_
  ·refine AZ rfl<|aE b rfl (fun w b=> ?_) (fun w b=> ?_)
   ·refine Ag<|rz rfl<|fg _ (Sub.pick [a] [0] rfl) ?_
    exact⟨1,b,Ah rfl rfl⟩
   refine Ab<|fg _ (Sub.pick [a] [0] rfl) ?_
   exact⟨(l'[f.toNat]!).2.2,b,Ah rfl rfl⟩
  clear b;rintro t l ⟨j,b,⟨T,rfl⟩,rfl⟩
  unfold EM at b
  refine AZ rfl<|Ai<|Bw _ (Sub.pick [a] [0] rfl)<|AH (fun tt ll nn=> ∃(m:Nat) (g:List (Int×Int)) (i:Int),(Bp f (AW N l' p) j m g i=some r)∧ ∃(e:Value) (c:List Bl),Sl 167 Pp e g c∧Is [(0,l'v),(3,e),(4,vI f),(5,vI j),(6,vI i)] (List.flatten [c]) tt ll∧nn=m+1) (N+1) ?_ ?_
  ·exact⟨N,h,0,b,d,a,n,Ah rfl rfl,rfl⟩
  clear b;rintro t l _ ⟨m,g,i,b,e,c,o,⟨⟨T,rfl⟩,rfl⟩,rfl⟩
  rcases m with _|m
  ·exact absurd b (by simp [Bp])
  rw [Bp] at b
  refine Aa fun O x=>Aa fun P y=>Ag<|rn 4 rfl<|AG 3 26 [(0,l'v),(3,e),(4,vI f),(5,vI j),(6,vI i)] vB (fun b_=>Cq f (AW N l' p) g i (Bp f (AW N l' p) j m) b_=some r) (fun Q b T=> ?_) (fun M=> ?_)
  ·unfold Cq at b
   refine Af<|y _ _ ?_
   refine aB b rfl (fun z b=> ?_) (fun z b=> ?_)
   ·refine Ab<|x _ _ ?_
    refine Aa fun R A=>Ai<|Ag<|r_R [e,vI f,vI i] rfl<|r_W (vA #[vI f,vI i]) rfl (AV rfl rfl rfl rfl)<|gB (Ls:=[c]) 167 Pp [(f,i)] (fun S v J=> ?_)
    refine kC b fun s b=>cC 34<|Li (cs0:=[]) (Ls:=[c,v]) 0 (En:=Pp) rfl rfl rfl rfl rfl o rfl (Ax J (Ak (Ls:=[c,v]) (k:=1) rfl rfl)) rfl rfl rfl rfl rfl (LE s rfl) (LD s rfl) rfl (fun K B L=> ?_)
    refine rz rfl<|A _ _ ?_
    refine Ag<|rn 1 rfl<|kC b fun C b=>rX C rfl<|rz rfl<|fg _ (Sub.pick [B,v] [0] rfl) ?_
    exact⟨m+1,by omega,m,(g++([(f,i)])),(i+1),b,K,B,L,Ah rfl rfl,rfl⟩
   refine AI<|I _ _ ?_
   refine Ag<|rn 1 rfl<|kC b fun D b=>rX D rfl<|rz rfl<|fg _ (Sub.pick [c] [0] rfl) ?_
   exact⟨p+1,by omega,p,g,(f+1),b,e,c,o,Ah rfl rfl,rfl⟩
  rcases u:(decide (i<j))with _|_
  ·replace b:=iF u b
   refine rn 3 rfl ?_
   exact M _ _ b rfl rfl
  replace b:=iD u b
  refine rn 3 rfl ?_
  exact M _ _ b rfl rfl
 refine AI<|F _ _ ?_
 refine AZ rfl ?_
 cases b
 refine Bb (fun X=>Hw (v0:=d) n (EH (Sub.pick [a] [0] rfl)) rfl (EJ rfl))
def Gm(b:Int)(a:Int→Option Int)(c:Bool):Option Int:=if c=true then some 7 else ck (R64 (b+1)) (a (b+1))
def Gn(c:List (List UInt8×Int×Int))(b:Int)(a:Int→Option Int)(d:Bool):Option Int:=if d=true then some 5 else ck (0≤b∧b<(c.length:Int)) (if((c[b.toNat]!).2.2:Int)<0 then Gm b a true else ck (0≤b∧b<(c.length:Int)) (Gm b a (decide (((c[b.toNat]!).2.2:Int)>4))))
def Cs(N:Nat)(e:List ((List UInt8)×(List (List UInt8×Int))×Int×Int×Int×Int))(c:List (List UInt8×Int×Int))(b:Int)(a:Int→Option Int):Nat→Int→Option Int
  |0,_=>none
  |g+1,d=>if d<b then ck (0≤d∧d<(c.length:Int)) (ck (0≤b∧b<(c.length:Int)) ((DZ N ((c[d.toNat]!).1) ((c[b.toNat]!).1)).bind fun f=>if f=true then some 6 else ck (R64 (d+1)) ((Cs N e c b a g) (d+1))))else ck (0≤b∧b<(c.length:Int)) (if((c[b.toNat]!).2.1:Int)<0 then Gn c b a true else ck (0≤b∧b<(c.length:Int)) (Gn c b a (decide (((c[b.toNat]!).2.1:Int)≥(e.length:Int)))))
def Bq(N:Nat)(a:List ((List UInt8)×(List (List UInt8×Int))×Int×Int×Int×Int))(c:List (List UInt8×Int×Int)):Nat→Int→Option Int
  |0,_=>none
  |f+1,b=>if b<(c.length:Int)then ck (0≤b∧b<(c.length:Int)) ((CL N ((c[b.toNat]!).1)).bind fun d=>if d=true then Cs N a c b (Bq N a c f) N 0 else some 4)else(CK N c).bind fun e=>if(e.length:Int)>32 then some 8 else some 0
def GG(N:Nat)(a:List ((List UInt8)×(List (List UInt8×Int))×Int×Int×Int×Int))(b:List (List UInt8×Int×Int)):Option Int:=if(b.length:Int)>16 then some 2 else Bq N a b N 0
theorem PK(N headers l' r)(a:GG N headers l'=some r)(ro headersv)(hheaders:RdN Ad4 ro headersv headers)(l'v)(hl':Rd Ad6 ro l'v l'):Does prog 32 #[headersv,l'v] ro [] (pV (vI r)):=by
 unfold GG at a
 refine Al follows func32 rfl 73 rfl _ fz2 (fun R=> ?_)
 refine AZ rfl<|Aa fun K2 S=>Ad<|rn 1 rfl<|rL (Rd.shp hl') rfl<|rz rfl<|aD a rfl (fun U a=> ?_) (fun U a=> ?_)
 ·refine AZ rfl ?_
  cases a
  exact aR eV1
 refine Ab<|S _ _ ?_
 refine Aa fun K6 V=>AZ rfl<|Ai<|AH (fun tt ll nn=> ∃(n:Nat) (b:Int),(Bq N headers l' n b=some r)∧Is [(0,headersv),(1,l'v),(5,vI b)] [] tt ll∧nn=n+1) (N+1) ?_ ?_
 ·exact⟨N,0,a,Ah rfl rfl,rfl⟩
 clear a;rintro t l _ ⟨n,b,a,⟨⟨T,rfl⟩,rfl⟩,rfl⟩
 rcases n with _|n
 ·exact absurd a (by simp [Bq])
 rw [Bq] at a
 refine Aa fun K9 W=>Ad<|rn 2 rfl<|rL (Rd.shp hl') rfl<|rz rfl<|aD a rfl (fun s a=> ?_) (fun s a=> ?_)
 ·refine Ab<|W _ _ ?_
  refine Aa fun Y u=>Ai<|Aa fun Z v=>Ad<|rn 2 rfl<|kC a fun d a=>rI (Rd.shp hl') d rfl<|rF (Rd.shp hl') (Be d) rfl<|rE (Aw hl') d 0 rfl<|kB a fun aa x a=>rc _ (cF TW) (HL N ((l'[b.toNat]!).1) _ x)<|rz rfl<|Bf _ rfl (fun e=> ?_) (fun e=> ?_)
  ·replace a:=ifn (Bool.eq_false_iff.1 (Da e)) a
   refine AZ rfl ?_
   cases a
   exact aR eV1
  replace a:=ifp (Db e) a
  refine Ab<|v _ _ ?_
  refine Aa fun ab y=>AZ rfl<|Ai<|AH (fun tt ll nn=> ∃(c:Nat) (f:Int),(Cs N headers l' b (Bq N headers l' n) c f=some r)∧Is [(0,headersv),(1,l'v),(5,vI b),(6,vI f)] [] tt ll∧nn=c+1) (N+1) ?_ ?_
  ·exact⟨N,0,a,Ah rfl rfl,rfl⟩
  clear a;rintro t l _ ⟨c,f,a,⟨⟨T,rfl⟩,rfl⟩,rfl⟩
  rcases c with _|c
  ·exact absurd a (by simp [Cs])
  rw [Cs] at a
  refine Aa fun ac z=>AZ rfl<|aD a rfl (fun A a=> ?_) (fun A a=> ?_)
  ·refine Ab<|z _ _ ?_
   refine Aa fun ad B=>Ai<|Aa fun ae C=>IE [] (by decide+kernel) (fun hn=>AQ)<|rn 2 rfl<|kC a fun g a=>rI (Rd.shp hl') g rfl<|rF (Rd.shp hl') (Be g) rfl<|rE (Aw hl') g 0 rfl<|rn 2 rfl<|kC a fun h a=>rI (Rd.shp hl') h rfl<|rF (Rd.shp hl') (Be h) rfl<|rE (Aw hl') h 0 rfl<|kB a fun af D a=>rc _ (cF Zp) (Jw N ((l'[f.toNat]!).1) ((l'[b.toNat]!).1) _ D)<|Af<|C _ _ ?_
   refine aB a rfl (fun E a=> ?_) (fun E a=> ?_)
   ·refine AZ rfl ?_
    cases a
    exact aR eV1
   refine Ab<|B _ _ ?_
   refine Ag<|rn 1 rfl<|kC a fun F a=>rX F rfl<|rz rfl<|fg _ (Sub.of suN) ?_
   exact⟨c+1,by omega,c,(f+1),a,Ah rfl rfl,rfl⟩
  refine AI<|y _ _ ?_
  refine Aa fun ag G=>Aa fun ah H=>Ag<|rn 2 rfl<|kC a fun i a=>rI (Rd.shp hl') i rfl<|rF (Rd.shp hl') (Be i) rfl<|rE (Aw hl') i 1 rfl<|rn 2 rfl<|AG 9 54 [(0,headersv),(1,l'v),(5,vI b)] vB (fun b_=>Gn l' b (Bq N headers l' n) b_=some r) (fun ai a T=> ?_) (fun I=> ?_)
  ·unfold Gn at a
   refine Af<|H _ _ ?_
   refine aB a rfl (fun J a=> ?_) (fun J a=> ?_)
   ·refine AZ rfl ?_
    cases a
    exact aR eV1
   refine Ab<|G _ _ ?_
   refine Aa fun aj K=>Ag<|rn 2 rfl<|kC a fun j a=>rI (Rd.shp hl') j rfl<|rF (Rd.shp hl') (Be j) rfl<|rE (Aw hl') j 2 rfl<|rn 2 rfl<|AG 7 68 [(0,headersv),(1,l'v),(5,vI b)] vB (fun b_=>Gm b (Bq N headers l' n) b_=some r) (fun ak a T=> ?_) (fun I=> ?_)
   ·unfold Gm at a
    refine Af<|K _ _ ?_
    refine aB a rfl (fun L a=> ?_) (fun L a=> ?_)
    ·refine AZ rfl ?_
     cases a
     exact aR eV1
    refine Ab<|u _ _ ?_
    refine Ag<|rn 1 rfl<|kC a fun M a=>rX M rfl<|rz rfl<|fg _ (Sub.of suN) ?_
    exact⟨n+1,by omega,n,(b+1),a,Ah rfl rfl,rfl⟩
   rcases p:(decide (((l'[b.toNat]!).2.2:Int)<0))with _|_
   ·replace a:=iF p a
    refine rn 2 rfl<|r_y rfl<|kC a fun k a=>rI (Rd.shp hl') k rfl<|r_y rfl<|rF (Rd.shp hl') (Be k) rfl<|r_y rfl<|rE (Aw hl') k 2 rfl<|rn 2 rfl ?_
    exact I _ _ a rfl rfl
   replace a:=iD p a
   refine rn 7 rfl ?_
   exact I _ _ a rfl rfl
  rcases q:(decide (((l'[b.toNat]!).2.1:Int)<0))with _|_
  ·replace a:=iF q a
   refine rn 2 rfl<|r_y rfl<|kC a fun m a=>rI (Rd.shp hl') m rfl<|r_y rfl<|rF (Rd.shp hl') (Be m) rfl<|r_y rfl<|rE (Aw hl') m 1 rfl<|rn 1 rfl<|r_y rfl<|rL (RdN.shp hheaders) rfl<|rn 2 rfl ?_
   exact I _ _ a rfl rfl
  replace a:=iD q a
  refine rn 9 rfl ?_
  exact I _ _ a rfl rfl
 refine AI<|V _ _ ?_
 refine Aa fun al O=>Ad<|rn 1 rfl<|kB a fun am P a=>gS (Ls:=[]) (cF TV) (fun o w z_=>HK N l' _ P z_.view l'v ((Aw hl') o w z_)) (fun an ao X=> ?_)
 refine rL (Sl.shp X) rfl<|rz rfl<|aD a rfl (fun Q a=> ?_) (fun Q a=> ?_)
 ·refine AZ rfl ?_
  cases a
  exact aR eV1
 refine Ab<|O _ _ ?_
 refine AZ rfl ?_
 cases a
 exact aR eV1
def DP(m:Ao)(a:Int)(b:List (Int×Int))(c:Bool):Option ((List UInt8)×(List (List UInt8×Int))×Int×Int×Int×Int×Bool):=if c=true then some ([],[],0,0,0,0,false)else ck (0≤((m.2.2.1)[((b[a.toNat]!).1).toNat]!).2.1∧((m.2.2.1)[((b[a.toNat]!).1).toNat]!).2.1<(m.2.1.length:Int)) (some ((m.2.1)[(((m.2.2.1)[((b[a.toNat]!).1).toNat]!).2.1).toNat]!.1,(m.2.1)[(((m.2.2.1)[((b[a.toNat]!).1).toNat]!).2.1).toNat]!.2.1,(m.2.1)[(((m.2.2.1)[((b[a.toNat]!).1).toNat]!).2.1).toNat]!.2.2.1,(m.2.1)[(((m.2.2.1)[((b[a.toNat]!).1).toNat]!).2.1).toNat]!.2.2.2.1,(m.2.1)[(((m.2.2.1)[((b[a.toNat]!).1).toNat]!).2.1).toNat]!.2.2.2.2.1,(m.2.1)[(((m.2.2.1)[((b[a.toNat]!).1).toNat]!).2.1).toNat]!.2.2.2.2.2,true))
def DQ(m:Ao)(a:Int)(b:List (Int×Int))(c:Bool):Option ((List UInt8)×(List (List UInt8×Int))×Int×Int×Int×Int×Bool):=if c=true then some ([],[],0,0,0,0,false)else ck (0≤a∧a<(b.length:Int)) (ck (0≤(b[a.toNat]!).1∧(b[a.toNat]!).1<(m.2.2.1.length:Int)) (if(((m.2.2.1)[((b[a.toNat]!).1).toNat]!).2.1:Int)<0 then DP m a b true else DP m a b (decide ((((m.2.2.1)[((b[a.toNat]!).1).toNat]!).2.1:Int)≥(m.2.1.length:Int)))))
def Bc(N:Nat)(m:Ao)(a:Int):Option ((List UInt8)×(List (List UInt8×Int))×Int×Int×Int×Int×Bool):=(CK N m.2.2.1).bind fun b=>if a<0 then DQ m a b true else DQ m a b (decide (a≥(b.length:Int)))
theorem CV(N m slot r)(a:Bc N m slot=some r)(ro)(mv:AD)(hm:Aa1 ro mv m):Does prog 34 #[vA (Ac m mv),vI slot] ro [] (pO [] (oR Ab2 ro r.2.1 fun s_0=>(oE (vT #[vA #[vS r.1,s_0,vI r.2.2.1,vI r.2.2.2.1,vI r.2.2.2.2.1,vI r.2.2.2.2.2.1],vB r.2.2.2.2.2.2]) []))):=by
 unfold Bc at a
 refine Eg follows func34 rfl 45 rfl _ fz2 (fun _ _ h_ _=>h_) (fun z=> ?_)
 refine Ad<|rA rfl fun j=>rA rfl fun l=>rz rfl<|Ad<|rm 2 [1] rfl<|kB a fun b C a=>gS (Ls:=[(TP l (Value.string (⟨#[]⟩)) nS 0 0 0 0),[(j,35,(Ac m mv))]]) (cF TV) (fun o w z_=>HK N m.2.2.1 _ C z_.view mv.2.1 ((Aw hm.2.1) o w z_)) (fun D A B=> ?_)
 refine rz rfl<|Aa fun F p=>Aa fun G q=>Ag<|rn 3 rfl<|AG 5 18 [(1,vI slot),(2,vP j 0),(4,vP l 0),(6,D)] vB (fun b_=>DQ m slot b b_=some r) (fun H a T=> ?_) (fun s=> ?_)
 ·unfold DQ at a
  refine Af<|q _ _ ?_
  refine aB a rfl (fun t a=> ?_) (fun t a=> ?_)
  ·refine Ad<|r_W (vA #[Value.string (⟨#[]⟩),nS,vI 0,vI 0,vI 0,vI 0]) rfl (Ap rfl rfl rfl rfl)<|r_s (List.flatten [(TP l (Value.string (⟨#[]⟩)) nS 0 0 0 0),[(j,35,(Ac m mv))],A]) 0 _ _ _ _ _ (#[Value.string (⟨#[]⟩),nS,vI 0,vI 0,vI 0,vI 0]) rfl rfl rfl rfl (.ofS rfl rfl (Ae rfl (Ae (Shp.one (.inl ⟨rfl,rfl⟩)) (Ae rfl (Ae rfl (Ae rfl (Ae rfl Bv))))))) rfl rfl<|rz rfl ?_
   cases a
   refine Bb (fun n=>GP (v0:=vT #[vA #[Value.string (⟨#[]⟩),nS,vI 0,vI 0,vI 0,vI 0],vB false]) (O:=[]) (Lg (Bh n 0 rfl rfl rfl) rfl) (Sub.nil _) ⟨nS,(.inl ⟨rfl,rfl⟩),⟨rfl,rfl⟩⟩)
  refine Ab<|p _ _ ?_
  refine Aa fun I u=>IE [] (by decide+kernel) (fun n=>AQ)<|rm 4 [1] rfl<|kC a fun d a=>rI (Sl.shp B) d rfl<|r_W (elA D (slot.toNat*2+0)) rfl (Ef (fy 0 rfl rfl rfl rfl (Sl.shp B) (Be d) (by decide)))<|rE (Ax B (Ak (Ls:=[(TP l (Value.string (⟨#[]⟩)) nS 0 0 0 0),[(j,35,(Ac m mv))],A]) (k:=2) rfl rfl)) d 0 rfl<|kC a fun e a=>rI (Rd.shp hm.2.1) e rfl<|rF (Rd.shp hm.2.1) (Be e) rfl<|rE (Aw hm.2.1) e 1 rfl<|rz rfl<|u _ _ ?_
  refine Aa fun J v=>Aa fun K x=>Ag<|rn 3 rfl<|AG 6 38 [(2,vP j 0),(4,vP l 0),(7,vI (((m.2.2.1)[((b[slot.toNat]!).1).toNat]!).2.1))] vB (fun b_=>DP m slot b b_=some r) (fun L a T=> ?_) (fun s=> ?_)
  ·unfold DP at a
   refine Af<|x _ _ ?_
   refine aB a rfl (fun y a=> ?_) (fun y a=> ?_)
   ·refine Ad<|r_W (vA #[Value.string (⟨#[]⟩),nS,vI 0,vI 0,vI 0,vI 0]) rfl (Ap rfl rfl rfl rfl)<|r_s (List.flatten [(TP l (Value.string (⟨#[]⟩)) nS 0 0 0 0),[(j,35,(Ac m mv))],A]) 0 _ _ _ _ _ (#[Value.string (⟨#[]⟩),nS,vI 0,vI 0,vI 0,vI 0]) rfl rfl rfl rfl (.ofS rfl rfl (Ae rfl (Ae (Shp.one (.inl ⟨rfl,rfl⟩)) (Ae rfl (Ae rfl (Ae rfl (Ae rfl Bv))))))) rfl rfl<|rz rfl ?_
    cases a
    refine Bb (fun n=>GP (v0:=vT #[vA #[Value.string (⟨#[]⟩),nS,vI 0,vI 0,vI 0,vI 0],vB false]) (O:=[]) (Lg (Bh n 0 rfl rfl rfl) rfl) (Sub.nil _) ⟨nS,(.inl ⟨rfl,rfl⟩),⟨rfl,rfl⟩⟩)
   refine Ab<|v _ _ ?_
   refine Ad<|rm 3 [1] rfl<|kC a fun f a=> ?_
   obtain⟨_,⟨c,g,rfl⟩,hat27⟩:=RdN.at (E:=Ad4) hm.1 (Dc f)
   refine rI (RdN.shp hm.1) f rfl ?_
   refine NB (vA #[vS ((m.2.1)[(((m.2.2.1)[((b[slot.toNat]!).1).toNat]!).2.1).toNat]!.1),c,vI ((m.2.1)[(((m.2.2.1)[((b[slot.toNat]!).1).toNat]!).2.1).toNat]!.2.2.1),vI ((m.2.1)[(((m.2.2.1)[((b[slot.toNat]!).1).toNat]!).2.1).toNat]!.2.2.2.1),vI ((m.2.1)[(((m.2.2.1)[((b[slot.toNat]!).1).toNat]!).2.1).toNat]!.2.2.2.2.1),vI ((m.2.1)[(((m.2.2.1)[((b[slot.toNat]!).1).toNat]!).2.1).toNat]!.2.2.2.2.2)]) (vs:=[vS ((m.2.1)[(((m.2.2.1)[((b[slot.toNat]!).1).toNat]!).2.1).toNat]!.1),c,vI ((m.2.1)[(((m.2.2.1)[((b[slot.toNat]!).1).toNat]!).2.1).toNat]!.2.2.1),vI ((m.2.1)[(((m.2.2.1)[((b[slot.toNat]!).1).toNat]!).2.1).toNat]!.2.2.2.1),vI ((m.2.1)[(((m.2.2.1)[((b[slot.toNat]!).1).toNat]!).2.1).toNat]!.2.2.2.2.1),vI ((m.2.1)[(((m.2.2.1)[((b[slot.toNat]!).1).toNat]!).2.1).toNat]!.2.2.2.2.2)]) ((((m.2.2.1)[((b[slot.toNat]!).1).toNat]!).2.1).toNat*6) 0 rfl rfl (fun o w z_=>At.mono z_.ro_cell hat27) rfl ?_
   refine r_s (List.flatten [(pG l ((m.2.1)[(((m.2.2.1)[((b[slot.toNat]!).1).toNat]!).2.1).toNat]!.1) c ((m.2.1)[(((m.2.2.1)[((b[slot.toNat]!).1).toNat]!).2.1).toNat]!.2.2.1) ((m.2.1)[(((m.2.2.1)[((b[slot.toNat]!).1).toNat]!).2.1).toNat]!.2.2.2.1) ((m.2.1)[(((m.2.2.1)[((b[slot.toNat]!).1).toNat]!).2.1).toNat]!.2.2.2.2.1) ((m.2.1)[(((m.2.2.1)[((b[slot.toNat]!).1).toNat]!).2.1).toNat]!.2.2.2.2.2)),[(j,35,(Ac m mv))],A]) 0 _ _ _ _ _ (#[vS ((m.2.1)[(((m.2.2.1)[((b[slot.toNat]!).1).toNat]!).2.1).toNat]!.1),c,vI ((m.2.1)[(((m.2.2.1)[((b[slot.toNat]!).1).toNat]!).2.1).toNat]!.2.2.1),vI ((m.2.1)[(((m.2.2.1)[((b[slot.toNat]!).1).toNat]!).2.1).toNat]!.2.2.2.1),vI ((m.2.1)[(((m.2.2.1)[((b[slot.toNat]!).1).toNat]!).2.1).toNat]!.2.2.2.2.1),vI ((m.2.1)[(((m.2.2.1)[((b[slot.toNat]!).1).toNat]!).2.1).toNat]!.2.2.2.2.2)]) rfl rfl rfl rfl (.ofS rfl rfl (Ae rfl (Ae (Shp.one (Rd.shp g)) (Ae rfl (Ae rfl (Ae rfl (Ae rfl Bv))))))) rfl rfl ?_
   refine rz rfl ?_
   cases a
   refine Bb (fun n=>GP (v0:=vT #[vA #[vS ((m.2.1)[(((m.2.2.1)[((b[slot.toNat]!).1).toNat]!).2.1).toNat]!.1),c,vI ((m.2.1)[(((m.2.2.1)[((b[slot.toNat]!).1).toNat]!).2.1).toNat]!.2.2.1),vI ((m.2.1)[(((m.2.2.1)[((b[slot.toNat]!).1).toNat]!).2.1).toNat]!.2.2.2.1),vI ((m.2.1)[(((m.2.2.1)[((b[slot.toNat]!).1).toNat]!).2.1).toNat]!.2.2.2.2.1),vI ((m.2.1)[(((m.2.2.1)[((b[slot.toNat]!).1).toNat]!).2.1).toNat]!.2.2.2.2.2)],vB true]) (O:=[]) (Lg (Bh n 0 rfl rfl rfl) rfl) (Sub.nil _) ⟨c,g,⟨rfl,rfl⟩⟩)
  rcases h:(decide ((((m.2.2.1)[((b[slot.toNat]!).1).toNat]!).2.1:Int)<0))with _|_
  ·replace a:=iF h a
   refine rn 2 rfl<|r_y rfl<|rm 1 [1] rfl<|r_y rfl<|rL (RdN.shp hm.1) rfl<|rn 2 rfl ?_
   exact s _ _ a rfl rfl
  replace a:=iD h a
  refine rn 6 rfl ?_
  exact s _ _ a rfl rfl
 rcases i:(decide (slot<0))with _|_
 ·replace a:=iF i a
  refine rn 2 rfl<|r_y rfl<|rL (Sl.shp B) rfl<|rn 2 rfl ?_
  exact s _ _ a rfl rfl
 replace a:=iD i a
 refine rn 5 rfl ?_
 exact s _ _ a rfl rfl
def Je(_:Nat):Option (List (List UInt8×Int×Int×Int×Int×Int×Int×Int×List UInt8)):=some ([(([112,117,115,104]:List UInt8),0,1,0,0,0,0,0,([80,117,115,104]:List UInt8)),(([102,105,101,108,100]:List UInt8),0,1,2,0,31,0,15,([80,108,97,99,101]:List UInt8)),(([109,101,116,97]:List UInt8),0,1,1,0,23,0,0,([67,101,108,108]:List UInt8)),(([112,97,114,97,109]:List UInt8),0,1,1,0,7,0,0,([67,101,108,108]:List UInt8)),(([118,97,108,105,100]:List UInt8),0,1,1,0,31,0,0,([83,108,111,116]:List UInt8)),(([114,101,103]:List UInt8),1,1,1,0,7,0,0,([67,101,108,108]:List UInt8)),(([110,111,116]:List UInt8),1,1,0,0,0,0,0,([79,110,101]:List UInt8)),(([110,101,103]:List UInt8),1,1,0,0,0,0,0,([79,110,101]:List UInt8)),(([115,104,108]:List UInt8),1,1,1,0,128,0,0,([79,110,101]:List UInt8)),(([115,104,114]:List UInt8),1,1,1,0,128,0,0,([79,110,101]:List UInt8)),(([115,108,105,99,101]:List UInt8),1,1,2,0,127,0,127,([80,97,114,116]:List UInt8)),(([99,97,115,116]:List UInt8),1,1,1,1,128,0,0,([79,110,101]:List UInt8)),(([97,100,100]:List UInt8),2,1,0,0,0,0,0,([84,119,111]:List UInt8)),(([115,117,98]:List UInt8),2,1,0,0,0,0,0,([84,119,111]:List UInt8)),(([97,100,100,45,115,97,116]:List UInt8),2,1,0,0,0,0,0,([84,119,111]:List UInt8)),(([115,117,98,45,115,97,116]:List UInt8),2,1,0,0,0,0,0,([84,119,111]:List UInt8)),(([97,110,100]:List UInt8),2,1,0,0,0,0,0,([84,119,111]:List UInt8)),(([111,114]:List UInt8),2,1,0,0,0,0,0,([84,119,111]:List UInt8)),(([120,111,114]:List UInt8),2,1,0,0,0,0,0,([84,119,111]:List UInt8)),(([99,97,116]:List UInt8),2,1,0,0,0,0,0,([84,119,111]:List UInt8)),(([101,113]:List UInt8),2,1,0,0,0,0,0,([84,119,111]:List UInt8)),(([108,101,115,115]:List UInt8),2,1,0,0,0,0,0,([84,119,111]:List UInt8)),(([112,117,116,45,102,105,101,108,100]:List UInt8),1,0,2,0,31,0,15,([80,108,97,99,101]:List UInt8)),(([112,117,116,45,109,101,116,97]:List UInt8),1,0,1,0,23,0,0,([67,101,108,108]:List UInt8)),(([112,117,116,45,114,101,103]:List UInt8),2,0,1,0,7,0,0,([67,101,108,108]:List UInt8)),(([115,104,111,119]:List UInt8),0,0,1,0,31,0,0,([83,108,111,116]:List UInt8)),(([104,105,100,101]:List UInt8),0,0,1,0,31,0,0,([83,108,111,116]:List UInt8)),(([112,117,115,104,45,104,101,97,100]:List UInt8),0,0,2,0,15,1,4,([72,101,97,100,115]:List UInt8)),(([112,111,112,45,104,101,97,100]:List UInt8),0,0,2,0,15,1,4,([72,101,97,100,115]:List UInt8)),(([99,111,117,110,116]:List UInt8),1,0,1,0,7,0,0,([67,101,108,108]:List UInt8)),(([109,101,116,101,114]:List UInt8),1,1,1,0,7,0,0,([67,101,108,108]:List UInt8)),(([106,117,109,112]:List UInt8),0,0,1,0,64,0,0,([74,117,109,112]:List UInt8)),(([106,117,109,112,45,122,101,114,111]:List UInt8),1,0,1,0,64,0,0,([74,117,109,112]:List UInt8)),(([106,117,109,112,45,103,111,110,101]:List UInt8),0,0,2,0,31,0,64,([71,111,110,101]:List UInt8)),(([115,116,111,112]:List UInt8),0,0,0,0,0,0,0,([83,116,111,112]:List UInt8))])
theorem SA(N r)(b:Je N=some r)(ro:Ro):Does prog 144 #[] ro [] (p1 (fun s_=>s_) 252 Ob r):=by
 unfold Je at b
 refine Al follows func144 rfl 79 rfl _ fz0 (fun a=> ?_)
 refine AZ rfl<|Ad<|r_W (vA #[Value.string (⟨#[112,117,115,104]⟩),vI 0,vI 1,vI 0,vI 0,vI 0,vI 0,vI 0,Value.string (⟨#[80,117,115,104]⟩)]) rfl (Ap rfl rfl rfl rfl)<|r_W (vA #[vI 0,vI 31]) rfl (AV rfl rfl rfl rfl)<|r_W (vA #[vI 0,vI 15]) rfl (AV rfl rfl rfl rfl)<|r_W (vA #[Value.string (⟨#[102,105,101,108,100]⟩),vI 0,vI 1,vI 2,vI 0,vI 31,vI 0,vI 15,Value.string (⟨#[80,108,97,99,101]⟩)]) rfl (Ap rfl rfl rfl (by kernel_rfl))<|r_W (vA #[vI 0,vI 23]) rfl (AV rfl rfl rfl rfl)<|r_W (vA #[vI 0,vI 0]) rfl (AV rfl rfl rfl rfl) ?_
 refine r_W (vA #[Value.string (⟨#[109,101,116,97]⟩),vI 0,vI 1,vI 1,vI 0,vI 23,vI 0,vI 0,Value.string (⟨#[67,101,108,108]⟩)]) rfl (Ap rfl rfl rfl (by kernel_rfl))<|r_W (vA #[vI 0,vI 7]) rfl (AV rfl rfl rfl rfl)<|r_W (vA #[vI 0,vI 0]) rfl (AV rfl rfl rfl rfl)<|r_W (vA #[Value.string (⟨#[112,97,114,97,109]⟩),vI 0,vI 1,vI 1,vI 0,vI 7,vI 0,vI 0,Value.string (⟨#[67,101,108,108]⟩)]) rfl (Ap rfl rfl rfl (by kernel_rfl))<|r_W (vA #[vI 0,vI 31]) rfl (AV rfl rfl rfl rfl)<|r_W (vA #[vI 0,vI 0]) rfl (AV rfl rfl rfl rfl) ?_
 refine r_W (vA #[Value.string (⟨#[118,97,108,105,100]⟩),vI 0,vI 1,vI 1,vI 0,vI 31,vI 0,vI 0,Value.string (⟨#[83,108,111,116]⟩)]) rfl (Ap rfl rfl rfl (by kernel_rfl))<|r_W (vA #[vI 0,vI 7]) rfl (AV rfl rfl rfl rfl)<|r_W (vA #[vI 0,vI 0]) rfl (AV rfl rfl rfl rfl)<|r_W (vA #[Value.string (⟨#[114,101,103]⟩),vI 1,vI 1,vI 1,vI 0,vI 7,vI 0,vI 0,Value.string (⟨#[67,101,108,108]⟩)]) rfl (Ap rfl rfl rfl (by kernel_rfl))<|r_W (vA #[Value.string (⟨#[110,111,116]⟩),vI 1,vI 1,vI 0,vI 0,vI 0,vI 0,vI 0,Value.string (⟨#[79,110,101]⟩)]) rfl (Ap rfl rfl rfl rfl) ?_
 refine r_W (vA #[Value.string (⟨#[110,101,103]⟩),vI 1,vI 1,vI 0,vI 0,vI 0,vI 0,vI 0,Value.string (⟨#[79,110,101]⟩)]) rfl (Ap rfl rfl rfl rfl)<|r_W (vA #[vI 0,vI 128]) rfl (AV rfl rfl rfl rfl)<|r_W (vA #[vI 0,vI 0]) rfl (AV rfl rfl rfl rfl)<|r_W (vA #[Value.string (⟨#[115,104,108]⟩),vI 1,vI 1,vI 1,vI 0,vI 128,vI 0,vI 0,Value.string (⟨#[79,110,101]⟩)]) rfl (Ap rfl rfl rfl (by kernel_rfl))<|r_W (vA #[vI 0,vI 128]) rfl (AV rfl rfl rfl rfl)<|r_W (vA #[vI 0,vI 0]) rfl (AV rfl rfl rfl rfl) ?_
 refine r_W (vA #[Value.string (⟨#[115,104,114]⟩),vI 1,vI 1,vI 1,vI 0,vI 128,vI 0,vI 0,Value.string (⟨#[79,110,101]⟩)]) rfl (Ap rfl rfl rfl (by kernel_rfl))<|r_W (vA #[vI 0,vI 127]) rfl (AV rfl rfl rfl rfl)<|r_W (vA #[vI 0,vI 127]) rfl (AV rfl rfl rfl rfl)<|r_W (vA #[Value.string (⟨#[115,108,105,99,101]⟩),vI 1,vI 1,vI 2,vI 0,vI 127,vI 0,vI 127,Value.string (⟨#[80,97,114,116]⟩)]) rfl (Ap rfl rfl rfl (by kernel_rfl))<|r_W (vA #[vI 1,vI 128]) rfl (AV rfl rfl rfl rfl)<|r_W (vA #[vI 0,vI 0]) rfl (AV rfl rfl rfl rfl) ?_
 refine r_W (vA #[Value.string (⟨#[99,97,115,116]⟩),vI 1,vI 1,vI 1,vI 1,vI 128,vI 0,vI 0,Value.string (⟨#[79,110,101]⟩)]) rfl (Ap rfl rfl rfl (by kernel_rfl))<|r_W (vA #[Value.string (⟨#[97,100,100]⟩),vI 2,vI 1,vI 0,vI 0,vI 0,vI 0,vI 0,Value.string (⟨#[84,119,111]⟩)]) rfl (Ap rfl rfl rfl rfl)<|r_W (vA #[Value.string (⟨#[115,117,98]⟩),vI 2,vI 1,vI 0,vI 0,vI 0,vI 0,vI 0,Value.string (⟨#[84,119,111]⟩)]) rfl (Ap rfl rfl rfl rfl)<|r_W (vA #[Value.string (⟨#[97,100,100,45,115,97,116]⟩),vI 2,vI 1,vI 0,vI 0,vI 0,vI 0,vI 0,Value.string (⟨#[84,119,111]⟩)]) rfl (Ap rfl rfl rfl rfl) ?_
 refine r_W (vA #[Value.string (⟨#[115,117,98,45,115,97,116]⟩),vI 2,vI 1,vI 0,vI 0,vI 0,vI 0,vI 0,Value.string (⟨#[84,119,111]⟩)]) rfl (Ap rfl rfl rfl rfl)<|r_W (vA #[Value.string (⟨#[97,110,100]⟩),vI 2,vI 1,vI 0,vI 0,vI 0,vI 0,vI 0,Value.string (⟨#[84,119,111]⟩)]) rfl (Ap rfl rfl rfl rfl)<|r_W (vA #[Value.string (⟨#[111,114]⟩),vI 2,vI 1,vI 0,vI 0,vI 0,vI 0,vI 0,Value.string (⟨#[84,119,111]⟩)]) rfl (Ap rfl rfl rfl rfl)<|r_W (vA #[Value.string (⟨#[120,111,114]⟩),vI 2,vI 1,vI 0,vI 0,vI 0,vI 0,vI 0,Value.string (⟨#[84,119,111]⟩)]) rfl (Ap rfl rfl rfl rfl) ?_
 refine r_W (vA #[Value.string (⟨#[99,97,116]⟩),vI 2,vI 1,vI 0,vI 0,vI 0,vI 0,vI 0,Value.string (⟨#[84,119,111]⟩)]) rfl (Ap rfl rfl rfl rfl)<|r_W (vA #[Value.string (⟨#[101,113]⟩),vI 2,vI 1,vI 0,vI 0,vI 0,vI 0,vI 0,Value.string (⟨#[84,119,111]⟩)]) rfl (Ap rfl rfl rfl rfl)<|r_W (vA #[Value.string (⟨#[108,101,115,115]⟩),vI 2,vI 1,vI 0,vI 0,vI 0,vI 0,vI 0,Value.string (⟨#[84,119,111]⟩)]) rfl (Ap rfl rfl rfl rfl)<|r_W (vA #[vI 0,vI 31]) rfl (AV rfl rfl rfl rfl)<|r_W (vA #[vI 0,vI 15]) rfl (AV rfl rfl rfl rfl) ?_
 refine r_W (vA #[Value.string (⟨#[112,117,116,45,102,105,101,108,100]⟩),vI 1,vI 0,vI 2,vI 0,vI 31,vI 0,vI 15,Value.string (⟨#[80,108,97,99,101]⟩)]) rfl (Ap rfl rfl rfl (by kernel_rfl))<|r_W (vA #[vI 0,vI 23]) rfl (AV rfl rfl rfl rfl)<|r_W (vA #[vI 0,vI 0]) rfl (AV rfl rfl rfl rfl)<|r_W (vA #[Value.string (⟨#[112,117,116,45,109,101,116,97]⟩),vI 1,vI 0,vI 1,vI 0,vI 23,vI 0,vI 0,Value.string (⟨#[67,101,108,108]⟩)]) rfl (Ap rfl rfl rfl (by kernel_rfl))<|r_W (vA #[vI 0,vI 7]) rfl (AV rfl rfl rfl rfl)<|r_W (vA #[vI 0,vI 0]) rfl (AV rfl rfl rfl rfl) ?_
 refine r_W (vA #[Value.string (⟨#[112,117,116,45,114,101,103]⟩),vI 2,vI 0,vI 1,vI 0,vI 7,vI 0,vI 0,Value.string (⟨#[67,101,108,108]⟩)]) rfl (Ap rfl rfl rfl (by kernel_rfl))<|r_W (vA #[vI 0,vI 31]) rfl (AV rfl rfl rfl rfl)<|r_W (vA #[vI 0,vI 0]) rfl (AV rfl rfl rfl rfl)<|r_W (vA #[Value.string (⟨#[115,104,111,119]⟩),vI 0,vI 0,vI 1,vI 0,vI 31,vI 0,vI 0,Value.string (⟨#[83,108,111,116]⟩)]) rfl (Ap rfl rfl rfl (by kernel_rfl))<|r_W (vA #[vI 0,vI 31]) rfl (AV rfl rfl rfl rfl)<|r_W (vA #[vI 0,vI 0]) rfl (AV rfl rfl rfl rfl) ?_
 refine r_W (vA #[Value.string (⟨#[104,105,100,101]⟩),vI 0,vI 0,vI 1,vI 0,vI 31,vI 0,vI 0,Value.string (⟨#[83,108,111,116]⟩)]) rfl (Ap rfl rfl rfl (by kernel_rfl))<|r_W (vA #[vI 0,vI 15]) rfl (AV rfl rfl rfl rfl)<|r_W (vA #[vI 1,vI 4]) rfl (AV rfl rfl rfl rfl)<|r_W (vA #[Value.string (⟨#[112,117,115,104,45,104,101,97,100]⟩),vI 0,vI 0,vI 2,vI 0,vI 15,vI 1,vI 4,Value.string (⟨#[72,101,97,100,115]⟩)]) rfl (Ap rfl rfl rfl (by kernel_rfl))<|r_W (vA #[vI 0,vI 15]) rfl (AV rfl rfl rfl rfl)<|r_W (vA #[vI 1,vI 4]) rfl (AV rfl rfl rfl rfl) ?_
 refine r_W (vA #[Value.string (⟨#[112,111,112,45,104,101,97,100]⟩),vI 0,vI 0,vI 2,vI 0,vI 15,vI 1,vI 4,Value.string (⟨#[72,101,97,100,115]⟩)]) rfl (Ap rfl rfl rfl (by kernel_rfl))<|r_W (vA #[vI 0,vI 7]) rfl (AV rfl rfl rfl rfl)<|r_W (vA #[vI 0,vI 0]) rfl (AV rfl rfl rfl rfl)<|r_W (vA #[Value.string (⟨#[99,111,117,110,116]⟩),vI 1,vI 0,vI 1,vI 0,vI 7,vI 0,vI 0,Value.string (⟨#[67,101,108,108]⟩)]) rfl (Ap rfl rfl rfl (by kernel_rfl))<|r_W (vA #[vI 0,vI 7]) rfl (AV rfl rfl rfl rfl)<|r_W (vA #[vI 0,vI 0]) rfl (AV rfl rfl rfl rfl) ?_
 refine r_W (vA #[Value.string (⟨#[109,101,116,101,114]⟩),vI 1,vI 1,vI 1,vI 0,vI 7,vI 0,vI 0,Value.string (⟨#[67,101,108,108]⟩)]) rfl (Ap rfl rfl rfl (by kernel_rfl))<|r_W (vA #[vI 0,vI 64]) rfl (AV rfl rfl rfl rfl)<|r_W (vA #[vI 0,vI 0]) rfl (AV rfl rfl rfl rfl)<|r_W (vA #[Value.string (⟨#[106,117,109,112]⟩),vI 0,vI 0,vI 1,vI 0,vI 64,vI 0,vI 0,Value.string (⟨#[74,117,109,112]⟩)]) rfl (Ap rfl rfl rfl (by kernel_rfl))<|r_W (vA #[vI 0,vI 64]) rfl (AV rfl rfl rfl rfl)<|r_W (vA #[vI 0,vI 0]) rfl (AV rfl rfl rfl rfl) ?_
 refine r_W (vA #[Value.string (⟨#[106,117,109,112,45,122,101,114,111]⟩),vI 1,vI 0,vI 1,vI 0,vI 64,vI 0,vI 0,Value.string (⟨#[74,117,109,112]⟩)]) rfl (Ap rfl rfl rfl (by kernel_rfl))<|r_W (vA #[vI 0,vI 31]) rfl (AV rfl rfl rfl rfl)<|r_W (vA #[vI 0,vI 64]) rfl (AV rfl rfl rfl rfl)<|r_W (vA #[Value.string (⟨#[106,117,109,112,45,103,111,110,101]⟩),vI 0,vI 0,vI 2,vI 0,vI 31,vI 0,vI 64,Value.string (⟨#[71,111,110,101]⟩)]) rfl (Ap rfl rfl rfl (by kernel_rfl)) ?_
 refine r_W (vA #[Value.string (⟨#[115,116,111,112]⟩),vI 0,vI 0,vI 0,vI 0,vI 0,vI 0,vI 0,Value.string (⟨#[83,116,111,112]⟩)]) rfl (Ap rfl rfl rfl rfl)<|cD 78 ?_
 refine Kq (cs0:=[]) (Ls:=[]) 252 Ob [(([112,117,115,104]:List UInt8),0,1,0,0,0,0,0,([80,117,115,104]:List UInt8)),(([102,105,101,108,100]:List UInt8),0,1,2,0,31,0,15,([80,108,97,99,101]:List UInt8)),(([109,101,116,97]:List UInt8),0,1,1,0,23,0,0,([67,101,108,108]:List UInt8)),(([112,97,114,97,109]:List UInt8),0,1,1,0,7,0,0,([67,101,108,108]:List UInt8)),(([118,97,108,105,100]:List UInt8),0,1,1,0,31,0,0,([83,108,111,116]:List UInt8)),(([114,101,103]:List UInt8),1,1,1,0,7,0,0,([67,101,108,108]:List UInt8)),(([110,111,116]:List UInt8),1,1,0,0,0,0,0,([79,110,101]:List UInt8)),(([110,101,103]:List UInt8),1,1,0,0,0,0,0,([79,110,101]:List UInt8)),(([115,104,108]:List UInt8),1,1,1,0,128,0,0,([79,110,101]:List UInt8)),(([115,104,114]:List UInt8),1,1,1,0,128,0,0,([79,110,101]:List UInt8)),(([115,108,105,99,101]:List UInt8),1,1,2,0,127,0,127,([80,97,114,116]:List UInt8)),(([99,97,115,116]:List UInt8),1,1,1,1,128,0,0,([79,110,101]:List UInt8)),(([97,100,100]:List UInt8),2,1,0,0,0,0,0,([84,119,111]:List UInt8)),(([115,117,98]:List UInt8),2,1,0,0,0,0,0,([84,119,111]:List UInt8)),(([97,100,100,45,115,97,116]:List UInt8),2,1,0,0,0,0,0,([84,119,111]:List UInt8)),(([115,117,98,45,115,97,116]:List UInt8),2,1,0,0,0,0,0,([84,119,111]:List UInt8)),(([97,110,100]:List UInt8),2,1,0,0,0,0,0,([84,119,111]:List UInt8)),(([111,114]:List UInt8),2,1,0,0,0,0,0,([84,119,111]:List UInt8)),(([120,111,114]:List UInt8),2,1,0,0,0,0,0,([84,119,111]:List UInt8)),(([99,97,116]:List UInt8),2,1,0,0,0,0,0,([84,119,111]:List UInt8)),(([101,113]:List UInt8),2,1,0,0,0,0,0,([84,119,111]:List UInt8)),(([108,101,115,115]:List UInt8),2,1,0,0,0,0,0,([84,119,111]:List UInt8)),(([112,117,116,45,102,105,101,108,100]:List UInt8),1,0,2,0,31,0,15,([80,108,97,99,101]:List UInt8)),(([112,117,116,45,109,101,116,97]:List UInt8),1,0,1,0,23,0,0,([67,101,108,108]:List UInt8)),(([112,117,116,45,114,101,103]:List UInt8),2,0,1,0,7,0,0,([67,101,108,108]:List UInt8)),(([115,104,111,119]:List UInt8),0,0,1,0,31,0,0,([83,108,111,116]:List UInt8)),(([104,105,100,101]:List UInt8),0,0,1,0,31,0,0,([83,108,111,116]:List UInt8)),(([112,117,115,104,45,104,101,97,100]:List UInt8),0,0,2,0,15,1,4,([72,101,97,100,115]:List UInt8)),(([112,111,112,45,104,101,97,100]:List UInt8),0,0,2,0,15,1,4,([72,101,97,100,115]:List UInt8)),(([99,111,117,110,116]:List UInt8),1,0,1,0,7,0,0,([67,101,108,108]:List UInt8)),(([109,101,116,101,114]:List UInt8),1,1,1,0,7,0,0,([67,101,108,108]:List UInt8)),(([106,117,109,112]:List UInt8),0,0,1,0,64,0,0,([74,117,109,112]:List UInt8)),(([106,117,109,112,45,122,101,114,111]:List UInt8),1,0,1,0,64,0,0,([74,117,109,112]:List UInt8)),(([106,117,109,112,45,103,111,110,101]:List UInt8),0,0,2,0,31,0,64,([71,111,110,101]:List UInt8)),(([115,116,111,112]:List UInt8),0,0,0,0,0,0,0,([83,116,111,112]:List UInt8))] [Value.string (⟨#[112,117,115,104]⟩),vI 0,vI 1,vI 0,vI 0,vI 0,vI 0,vI 0,Value.string (⟨#[80,117,115,104]⟩),Value.string (⟨#[102,105,101,108,100]⟩),vI 0,vI 1,vI 2,vI 0,vI 31,vI 0,vI 15,Value.string (⟨#[80,108,97,99,101]⟩),Value.string (⟨#[109,101,116,97]⟩),vI 0,vI 1,vI 1,vI 0,vI 23,vI 0,vI 0,Value.string (⟨#[67,101,108,108]⟩),Value.string (⟨#[112,97,114,97,109]⟩),vI 0,vI 1,vI 1,vI 0,vI 7,vI 0,vI 0,Value.string (⟨#[67,101,108,108]⟩),Value.string (⟨#[118,97,108,105,100]⟩),vI 0,vI 1,vI 1,vI 0,vI 31,vI 0,vI 0,Value.string (⟨#[83,108,111,116]⟩),Value.string (⟨#[114,101,103]⟩),vI 1,vI 1,vI 1,vI 0,vI 7,vI 0,vI 0,Value.string (⟨#[67,101,108,108]⟩),Value.string (⟨#[110,111,116]⟩),vI 1,vI 1,vI 0,vI 0,vI 0,vI 0,vI 0,Value.string (⟨#[79,110,101]⟩),Value.string (⟨#[110,101,103]⟩),vI 1,vI 1,vI 0,vI 0,vI 0,vI 0,vI 0,Value.string (⟨#[79,110,101]⟩),Value.string (⟨#[115,104,108]⟩),vI 1,vI 1,vI 1,vI 0,vI 128,vI 0,vI 0,Value.string (⟨#[79,110,101]⟩),Value.string (⟨#[115,104,114]⟩),vI 1,vI 1,vI 1,vI 0,vI 128,vI 0,vI 0,Value.string (⟨#[79,110,101]⟩),Value.string (⟨#[115,108,105,99,101]⟩),vI 1,vI 1,vI 2,vI 0,vI 127,vI 0,vI 127,Value.string (⟨#[80,97,114,116]⟩),Value.string (⟨#[99,97,115,116]⟩),vI 1,vI 1,vI 1,vI 1,vI 128,vI 0,vI 0,Value.string (⟨#[79,110,101]⟩),Value.string (⟨#[97,100,100]⟩),vI 2,vI 1,vI 0,vI 0,vI 0,vI 0,vI 0,Value.string (⟨#[84,119,111]⟩),Value.string (⟨#[115,117,98]⟩),vI 2,vI 1,vI 0,vI 0,vI 0,vI 0,vI 0,Value.string (⟨#[84,119,111]⟩),Value.string (⟨#[97,100,100,45,115,97,116]⟩),vI 2,vI 1,vI 0,vI 0,vI 0,vI 0,vI 0,Value.string (⟨#[84,119,111]⟩),Value.string (⟨#[115,117,98,45,115,97,116]⟩),vI 2,vI 1,vI 0,vI 0,vI 0,vI 0,vI 0,Value.string (⟨#[84,119,111]⟩),Value.string (⟨#[97,110,100]⟩),vI 2,vI 1,vI 0,vI 0,vI 0,vI 0,vI 0,Value.string (⟨#[84,119,111]⟩),Value.string (⟨#[111,114]⟩),vI 2,vI 1,vI 0,vI 0,vI 0,vI 0,vI 0,Value.string (⟨#[84,119,111]⟩),Value.string (⟨#[120,111,114]⟩),vI 2,vI 1,vI 0,vI 0,vI 0,vI 0,vI 0,Value.string (⟨#[84,119,111]⟩),Value.string (⟨#[99,97,116]⟩),vI 2,vI 1,vI 0,vI 0,vI 0,vI 0,vI 0,Value.string (⟨#[84,119,111]⟩),Value.string (⟨#[101,113]⟩),vI 2,vI 1,vI 0,vI 0,vI 0,vI 0,vI 0,Value.string (⟨#[84,119,111]⟩),Value.string (⟨#[108,101,115,115]⟩),vI 2,vI 1,vI 0,vI 0,vI 0,vI 0,vI 0,Value.string (⟨#[84,119,111]⟩),Value.string (⟨#[112,117,116,45,102,105,101,108,100]⟩),vI 1,vI 0,vI 2,vI 0,vI 31,vI 0,vI 15,Value.string (⟨#[80,108,97,99,101]⟩),Value.string (⟨#[112,117,116,45,109,101,116,97]⟩),vI 1,vI 0,vI 1,vI 0,vI 23,vI 0,vI 0,Value.string (⟨#[67,101,108,108]⟩),Value.string (⟨#[112,117,116,45,114,101,103]⟩),vI 2,vI 0,vI 1,vI 0,vI 7,vI 0,vI 0,Value.string (⟨#[67,101,108,108]⟩),Value.string (⟨#[115,104,111,119]⟩),vI 0,vI 0,vI 1,vI 0,vI 31,vI 0,vI 0,Value.string (⟨#[83,108,111,116]⟩),Value.string (⟨#[104,105,100,101]⟩),vI 0,vI 0,vI 1,vI 0,vI 31,vI 0,vI 0,Value.string (⟨#[83,108,111,116]⟩),Value.string (⟨#[112,117,115,104,45,104,101,97,100]⟩),vI 0,vI 0,vI 2,vI 0,vI 15,vI 1,vI 4,Value.string (⟨#[72,101,97,100,115]⟩),Value.string (⟨#[112,111,112,45,104,101,97,100]⟩),vI 0,vI 0,vI 2,vI 0,vI 15,vI 1,vI 4,Value.string (⟨#[72,101,97,100,115]⟩),Value.string (⟨#[99,111,117,110,116]⟩),vI 1,vI 0,vI 1,vI 0,vI 7,vI 0,vI 0,Value.string (⟨#[67,101,108,108]⟩),Value.string (⟨#[109,101,116,101,114]⟩),vI 1,vI 1,vI 1,vI 0,vI 7,vI 0,vI 0,Value.string (⟨#[67,101,108,108]⟩),Value.string (⟨#[106,117,109,112]⟩),vI 0,vI 0,vI 1,vI 0,vI 64,vI 0,vI 0,Value.string (⟨#[74,117,109,112]⟩),Value.string (⟨#[106,117,109,112,45,122,101,114,111]⟩),vI 1,vI 0,vI 1,vI 0,vI 64,vI 0,vI 0,Value.string (⟨#[74,117,109,112]⟩),Value.string (⟨#[106,117,109,112,45,103,111,110,101]⟩),vI 0,vI 0,vI 2,vI 0,vI 31,vI 0,vI 64,Value.string (⟨#[71,111,110,101]⟩),Value.string (⟨#[115,116,111,112]⟩),vI 0,vI 0,vI 0,vI 0,vI 0,vI 0,vI 0,Value.string (⟨#[83,116,111,112]⟩)] [Value.string (⟨#[]⟩),vI 0,vI 0,vI 0,vI 0,vI 0,vI 0,vI 0,Value.string (⟨#[]⟩),Value.string (⟨#[]⟩),vI 0,vI 0,vI 0,vI 0,vI 0,vI 0,vI 0,Value.string (⟨#[]⟩),Value.string (⟨#[]⟩),vI 0,vI 0,vI 0,vI 0,vI 0,vI 0,vI 0,Value.string (⟨#[]⟩),Value.string (⟨#[]⟩),vI 0,vI 0,vI 0,vI 0,vI 0,vI 0,vI 0,Value.string (⟨#[]⟩),Value.string (⟨#[]⟩),vI 0,vI 0,vI 0,vI 0,vI 0,vI 0,vI 0,Value.string (⟨#[]⟩),Value.string (⟨#[]⟩),vI 0,vI 0,vI 0,vI 0,vI 0,vI 0,vI 0,Value.string (⟨#[]⟩),Value.string (⟨#[]⟩),vI 0,vI 0,vI 0,vI 0,vI 0,vI 0,vI 0,Value.string (⟨#[]⟩),Value.string (⟨#[]⟩),vI 0,vI 0,vI 0,vI 0,vI 0,vI 0,vI 0,Value.string (⟨#[]⟩),Value.string (⟨#[]⟩),vI 0,vI 0,vI 0,vI 0,vI 0,vI 0,vI 0,Value.string (⟨#[]⟩),Value.string (⟨#[]⟩),vI 0,vI 0,vI 0,vI 0,vI 0,vI 0,vI 0,Value.string (⟨#[]⟩),Value.string (⟨#[]⟩),vI 0,vI 0,vI 0,vI 0,vI 0,vI 0,vI 0,Value.string (⟨#[]⟩),Value.string (⟨#[]⟩),vI 0,vI 0,vI 0,vI 0,vI 0,vI 0,vI 0,Value.string (⟨#[]⟩),Value.string (⟨#[]⟩),vI 0,vI 0,vI 0,vI 0,vI 0,vI 0,vI 0,Value.string (⟨#[]⟩),Value.string (⟨#[]⟩),vI 0,vI 0,vI 0,vI 0,vI 0,vI 0,vI 0,Value.string (⟨#[]⟩),Value.string (⟨#[]⟩),vI 0,vI 0,vI 0,vI 0,vI 0,vI 0,vI 0,Value.string (⟨#[]⟩),Value.string (⟨#[]⟩),vI 0,vI 0,vI 0,vI 0,vI 0,vI 0,vI 0,Value.string (⟨#[]⟩),Value.string (⟨#[]⟩),vI 0,vI 0,vI 0,vI 0,vI 0,vI 0,vI 0,Value.string (⟨#[]⟩),Value.string (⟨#[]⟩),vI 0,vI 0,vI 0,vI 0,vI 0,vI 0,vI 0,Value.string (⟨#[]⟩),Value.string (⟨#[]⟩),vI 0,vI 0,vI 0,vI 0,vI 0,vI 0,vI 0,Value.string (⟨#[]⟩),Value.string (⟨#[]⟩),vI 0,vI 0,vI 0,vI 0,vI 0,vI 0,vI 0,Value.string (⟨#[]⟩),Value.string (⟨#[]⟩),vI 0,vI 0,vI 0,vI 0,vI 0,vI 0,vI 0,Value.string (⟨#[]⟩),Value.string (⟨#[]⟩),vI 0,vI 0,vI 0,vI 0,vI 0,vI 0,vI 0,Value.string (⟨#[]⟩),Value.string (⟨#[]⟩),vI 0,vI 0,vI 0,vI 0,vI 0,vI 0,vI 0,Value.string (⟨#[]⟩),Value.string (⟨#[]⟩),vI 0,vI 0,vI 0,vI 0,vI 0,vI 0,vI 0,Value.string (⟨#[]⟩),Value.string (⟨#[]⟩),vI 0,vI 0,vI 0,vI 0,vI 0,vI 0,vI 0,Value.string (⟨#[]⟩),Value.string (⟨#[]⟩),vI 0,vI 0,vI 0,vI 0,vI 0,vI 0,vI 0,Value.string (⟨#[]⟩),Value.string (⟨#[]⟩),vI 0,vI 0,vI 0,vI 0,vI 0,vI 0,vI 0,Value.string (⟨#[]⟩),Value.string (⟨#[]⟩),vI 0,vI 0,vI 0,vI 0,vI 0,vI 0,vI 0,Value.string (⟨#[]⟩),Value.string (⟨#[]⟩),vI 0,vI 0,vI 0,vI 0,vI 0,vI 0,vI 0,Value.string (⟨#[]⟩),Value.string (⟨#[]⟩),vI 0,vI 0,vI 0,vI 0,vI 0,vI 0,vI 0,Value.string (⟨#[]⟩),Value.string (⟨#[]⟩),vI 0,vI 0,vI 0,vI 0,vI 0,vI 0,vI 0,Value.string (⟨#[]⟩),Value.string (⟨#[]⟩),vI 0,vI 0,vI 0,vI 0,vI 0,vI 0,vI 0,Value.string (⟨#[]⟩),Value.string (⟨#[]⟩),vI 0,vI 0,vI 0,vI 0,vI 0,vI 0,vI 0,Value.string (⟨#[]⟩),Value.string (⟨#[]⟩),vI 0,vI 0,vI 0,vI 0,vI 0,vI 0,vI 0,Value.string (⟨#[]⟩),Value.string (⟨#[]⟩),vI 0,vI 0,vI 0,vI 0,vI 0,vI 0,vI 0,Value.string (⟨#[]⟩)] rfl rfl rfl rfl rfl rfl rfl (by kernel_rfl) (by kernel_rfl) rfl rfl rfl (fun c d e=> ?_)
 refine rz rfl<|GQ [(0,c)] rfl (fun T=> ?_)
 cases b
 refine Bb (fun f=>Hw (v0:=c) e (EH (Sub.pick [d] [0] rfl)) rfl (EJ rfl))
end Go.Proofs.YtoolcgbcfgnipaaGreatDoor
