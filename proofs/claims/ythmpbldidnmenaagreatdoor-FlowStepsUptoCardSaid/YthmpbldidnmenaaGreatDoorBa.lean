import Derived.Test.YthmpbldidnmenaaGreatDoorIt
import Derived.Test.YthmpbldidnmenaaGreatDoorUt
import Derived.Test.YthmpbldidnmenaaGreatDoorBu
import Derived.Test.YthmpbldidnmenaaGreatDoorRef
import Derived.Test.YthmpbldidnmenaaGreatDoorIo
import Derived.Test.YthmpbldidnmenaaGreatDoorRs
import Derived.Test.YthmpbldidnmenaaGreatDoorRv
namespace Go.Proofs.YthmpbldidnmenaaGreatDoor
open Go Go.RowKit Go.Eng _root_.Go.Proofs.Tryz
set_option linter.unusedSimpArgs false
set_option linter.unusedVariables false
set_option maxRecDepth 100000
set_option maxHeartbeats 80000000
abbrev RF(b:Nat)(x0:Value)(x1:Value)(x2:Int)(x3:Int)(x4:Int)(x5:Int):List Bl:=[(b,106, #[x0,x1,vI x2,vI x3,vI x4,vI x5])]
abbrev iL(b:Nat)(x0:List UInt8)(x1:Value)(x2:Int)(x3:Int)(x4:Int)(x5:Int):List Bl:=[(b,106, #[vS x0,x1,vI x2,vI x3,vI x4,vI x5])]
theorem Xz(c:UInt8): ∀s:List UInt8,Lib.index s [c]=Lib.indexByte s c
  | []=>rfl
  |b::l=>by
    rw [Lib.index,Lib.indexByte,Xz c l]
    by_cases h:c=b
    · subst h;simp [List.isPrefixOf]
    · have a: ¬b=c:=fun e=>h e.symm
      simp [List.isPrefixOf,h,a]
theorem iR(s sep:List UInt8)(h:sep.length=1):Gives prog 256 #[.string ⟨s.toArray⟩, .string ⟨sep.toArray⟩] (.int .i64 (Lib.index s sep)):=by
 obtain⟨c,rfl⟩:=List.length_eq_one_iff.mp h
 rw [Xz]
 exact Gives.of_same (fun w=>Tryz.stringslite_Index_one ⟨s.toArray⟩ c w)
def Ab4:Enc (List UInt8×Int):=⟨fun x=> [vS x.1,vI x.2],2,by decide,fun _=>rfl,fun x v h=>by simp only [zr,List.not_mem_nil,or_false] at h;rcases h with rfl|rfl<;>rfl,True⟩
def Ad5:Enc (List UInt8×Int×Int):=⟨fun x=> [vS x.1,vI x.2.1,vI x.2.2],3,by decide,fun _=>rfl,fun x v h=>by simp only [zr,List.not_mem_nil,or_false] at h;rcases h with rfl|rfl|rfl<;>rfl,True⟩
def Af2:Enc (Int×Int):=⟨fun x=> [vI x.1,vI x.2],2,by decide,fun _=>rfl,fun x v h=>by simp only [zr,List.not_mem_nil,or_false] at h;rcases h with rfl|rfl<;>rfl,True⟩
def Ad0:Enc (Int×Int×Int):=⟨fun x=> [vI x.1,vI x.2.1,vI x.2.2],3,by decide,fun _=>rfl,fun x v h=>by simp only [zr,List.not_mem_nil,or_false] at h;rcases h with rfl|rfl|rfl<;>rfl,True⟩
def Af3:Enc (Int×BitVec 128×Int×BitVec 128×Int):=⟨fun x=> [vI x.1,U (hi x.2.1),U (lo x.2.1),vI x.2.2.1,U (hi x.2.2.2.1),U (lo x.2.2.2.1),vI x.2.2.2.2],7,by decide,fun _=>rfl,fun x v h=>by simp only [zr,List.not_mem_nil,or_false] at h;rcases h with rfl|rfl|rfl|rfl|rfl|rfl|rfl<;>rfl,True⟩
def Ac9:Enc (Int×Int×Int×Int×BitVec 128):=⟨fun x=> [vI x.1,vI x.2.1,vI x.2.2.1,vI x.2.2.2.1,U (hi x.2.2.2.2),U (lo x.2.2.2.2)],6,by decide,fun _=>rfl,fun x v h=>by simp only [zr,List.not_mem_nil,or_false] at h;rcases h with rfl|rfl|rfl|rfl|rfl|rfl<;>rfl,True⟩
def Ac8:Enc (Int×BitVec 128):=⟨fun x=> [vI x.1,U (hi x.2),U (lo x.2)],3,by decide,fun _=>rfl,fun x v h=>by simp only [zr,List.not_mem_nil,or_false] at h;rcases h with rfl|rfl|rfl<;>rfl,True⟩
def Ae3:Enc (Int×Int):=⟨fun x=> [vI x.1,vI x.2],2,by decide,fun _=>rfl,fun x v h=>by simp only [zr,List.not_mem_nil,or_false] at h;rcases h with rfl|rfl<;>rfl,True⟩
def Ae8:Enc (List UInt8×Int×Int):=⟨fun x=> [vS x.1,vI x.2.1,vI x.2.2],3,by decide,fun _=>rfl,fun x v h=>by simp only [zr,List.not_mem_nil,or_false] at h;rcases h with rfl|rfl|rfl<;>rfl,True⟩
def Ae9:Enc (List UInt8×Int):=⟨fun x=> [vS x.1,vI x.2],2,by decide,fun _=>rfl,fun x v h=>by simp only [zr,List.not_mem_nil,or_false] at h;rcases h with rfl|rfl<;>rfl,True⟩
def Af0:Enc (List UInt8×Int×Int×Int):=⟨fun x=> [vS x.1,vI x.2.1,vI x.2.2.1,vI x.2.2.2],4,by decide,fun _=>rfl,fun x v h=>by simp only [zr,List.not_mem_nil,or_false] at h;rcases h with rfl|rfl|rfl|rfl<;>rfl,True⟩
def Rc:Enc (Int×Int):=⟨fun x=> [vI x.1,vI x.2],2,by decide,fun _=>rfl,fun x v h=>by simp only [zr,List.not_mem_nil,or_false] at h;rcases h with rfl|rfl<;>rfl,True⟩
def Ny:Enc (List UInt8×Int×Int×Int×Int×Int×Int×Int×List UInt8):=⟨fun x=> [vS x.1,vI x.2.1,vI x.2.2.1,vI x.2.2.2.1,vI x.2.2.2.2.1,vI x.2.2.2.2.2.1,vI x.2.2.2.2.2.2.1,vI x.2.2.2.2.2.2.2.1,vS x.2.2.2.2.2.2.2.2],9,by decide,fun _=>rfl,fun x v h=>by simp only [zr,List.not_mem_nil,or_false] at h;rcases h with rfl|rfl|rfl|rfl|rfl|rfl|rfl|rfl|rfl<;>rfl,True⟩
def Ji:Enc (Bool×BitVec 64):=⟨fun x=> [vB x.1,U x.2],2,by decide,fun _=>rfl,fun x v h=>by simp only [zr,List.not_mem_nil,or_false] at h;rcases h with rfl|rfl<;>rfl,True⟩
def Ad4:OQ ((List UInt8)×(List (List UInt8×Int))×Int×Int×Int×Int):=⟨fun c x a=> ∃(s0:Value),Rd Ab4 c s0 x.2.1∧a=[vS x.1,s0,vI x.2.2.1,vI x.2.2.2.1,vI x.2.2.2.2.1,vI x.2.2.2.2.2],6,by decide,fun hc ⟨s0,h0,hv⟩=>⟨s0,h0.mono hc,hv⟩⟩
def Ad8:OQ ((List UInt8)×(List (Int×Int))×(List (Int×Int×Int))×(List (Int×BitVec 128×Int×BitVec 128×Int))×Int):=⟨fun c x a=> ∃(s0:Value) (s1:Value) (s2:Value),Rd Af2 c s0 x.2.1∧Rd Ad0 c s1 x.2.2.1∧Rd Af3 c s2 x.2.2.2.1∧a=[vS x.1,s0,s1,s2,vI x.2.2.2.2],5,by decide,fun hc ⟨s0,s1,s2,h0,h1,h2,hv⟩=>⟨s0,s1,s2,h0.mono hc,h1.mono hc,h2.mono hc,hv⟩⟩
def Ad6:OQ ((List UInt8)×(List Int)×(List (Int×Int×Int×Int×BitVec 128))):=⟨fun c x a=> ∃(s0:Value) (s1:Value),Rd BJ c s0 x.2.1∧Rd Ac9 c s1 x.2.2∧a=[vS x.1,s0,s1],3,by decide,fun hc ⟨s0,s1,h0,h1,hv⟩=>⟨s0,s1,h0.mono hc,h1.mono hc,hv⟩⟩
def Ae1:OQ ((List UInt8)×Int×(List (Int×Int×Int))×(List Int)×Int×(List (Int×BitVec 128))×Int):=⟨fun c x a=> ∃(s0:Value) (s1:Value) (s2:Value),Rd Ad0 c s0 x.2.2.1∧Rd BJ c s1 x.2.2.2.1∧Rd Ac8 c s2 x.2.2.2.2.2.1∧a=[vS x.1,vI x.2.1,s0,s1,vI x.2.2.2.2.1,s2,vI x.2.2.2.2.2.2],7,by decide,fun hc ⟨s0,s1,s2,h0,h1,h2,hv⟩=>⟨s0,s1,s2,h0.mono hc,h1.mono hc,h2.mono hc,hv⟩⟩
def Ad2:OQ (Int×Int×(List (Int×Int×Int×Int×BitVec 128))×(List (Int×BitVec 128))×Int×Int):=⟨fun c x a=> ∃(s0:Value) (s1:Value),Rd Ac9 c s0 x.2.2.1∧Rd Ac8 c s1 x.2.2.2.1∧a=[vI x.1,vI x.2.1,s0,s1,vI x.2.2.2.2.1,vI x.2.2.2.2.2],6,by decide,fun hc ⟨s0,s1,h0,h1,hv⟩=>⟨s0,s1,h0.mono hc,h1.mono hc,hv⟩⟩
abbrev An:Type:=(List UInt8)×(List ((List UInt8)×(List (List UInt8×Int))×Int×Int×Int×Int))×(List (List UInt8×Int×Int))×(List (List UInt8×Int))×(List ((List UInt8)×(List (Int×Int))×(List (Int×Int×Int))×(List (Int×BitVec 128×Int×BitVec 128×Int))×Int))×(List ((List UInt8)×(List Int)×(List (Int×Int×Int×Int×BitVec 128))))×(List ((List UInt8)×Int×(List (Int×Int×Int))×(List Int)×Int×(List (Int×BitVec 128))×Int))×(List (Int×Int×(List (Int×Int×Int×Int×BitVec 128))×(List (Int×BitVec 128))×Int×Int))×(List (Int×Int×(List (Int×Int×Int×Int×BitVec 128))×(List (Int×BitVec 128))×Int×Int))×(List Int)×(List (Int×Int))×(List (Int×Int))×(List (List UInt8×Int×Int))×(List (List UInt8×Int))×(List (List UInt8×Int×Int×Int))×Int×Int×Int
abbrev Ay:Type:=Value×Value×Value×Value×Value×Value×Value×Value×Value×Value×Value×Value×Value×Value
abbrev Gl(m:An)(v:Ay):List Value:=[vS m.1,v.1,v.2.1,v.2.2.1,v.2.2.2.1,v.2.2.2.2.1,v.2.2.2.2.2.1,v.2.2.2.2.2.2.1,v.2.2.2.2.2.2.2.1,v.2.2.2.2.2.2.2.2.1,v.2.2.2.2.2.2.2.2.2.1,v.2.2.2.2.2.2.2.2.2.2.1,v.2.2.2.2.2.2.2.2.2.2.2.1,v.2.2.2.2.2.2.2.2.2.2.2.2.1,v.2.2.2.2.2.2.2.2.2.2.2.2.2,vI m.2.2.2.2.2.2.2.2.2.2.2.2.2.2.2.1,vI m.2.2.2.2.2.2.2.2.2.2.2.2.2.2.2.2.1,vI m.2.2.2.2.2.2.2.2.2.2.2.2.2.2.2.2.2]
abbrev Ac(m:An)(v:Ay):Array Value:=(Gl m v).toArray
abbrev Aa2(ro:Ro)(v:Ay)(m:An):Prop:=RdN Ad4 ro v.1 m.2.1∧Rd Ad5 ro v.2.1 m.2.2.1∧Rd Ab4 ro v.2.2.1 m.2.2.2.1∧RdN Ad8 ro v.2.2.2.1 m.2.2.2.2.1∧RdN Ad6 ro v.2.2.2.2.1 m.2.2.2.2.2.1∧RdN Ae1 ro v.2.2.2.2.2.1 m.2.2.2.2.2.2.1∧RdN Ad2 ro v.2.2.2.2.2.2.1 m.2.2.2.2.2.2.2.1∧RdN Ad2 ro v.2.2.2.2.2.2.2.1 m.2.2.2.2.2.2.2.2.1∧Rd BJ ro v.2.2.2.2.2.2.2.2.1 m.2.2.2.2.2.2.2.2.2.1∧Rd Ae3 ro v.2.2.2.2.2.2.2.2.2.1 m.2.2.2.2.2.2.2.2.2.2.1∧Rd Ae3 ro v.2.2.2.2.2.2.2.2.2.2.1 m.2.2.2.2.2.2.2.2.2.2.2.1∧Rd Ae8 ro v.2.2.2.2.2.2.2.2.2.2.2.1 m.2.2.2.2.2.2.2.2.2.2.2.2.1∧Rd Ae9 ro v.2.2.2.2.2.2.2.2.2.2.2.2.1 m.2.2.2.2.2.2.2.2.2.2.2.2.2.1∧Rd Af0 ro v.2.2.2.2.2.2.2.2.2.2.2.2.2 m.2.2.2.2.2.2.2.2.2.2.2.2.2.2.1
theorem Aa2.mono {c c':Addr→Option Value}{v:Ay}{m:An}(hc: ∀a v,c a=some v→c' a=some v)(h:Aa2 c v m):Aa2 c' v m:=⟨RdN.mono hc h.1,Rd.mono hc h.2.1,Rd.mono hc h.2.2.1,RdN.mono hc h.2.2.2.1,RdN.mono hc h.2.2.2.2.1,RdN.mono hc h.2.2.2.2.2.1,RdN.mono hc h.2.2.2.2.2.2.1,RdN.mono hc h.2.2.2.2.2.2.2.1,Rd.mono hc h.2.2.2.2.2.2.2.2.1,Rd.mono hc h.2.2.2.2.2.2.2.2.2.1,Rd.mono hc h.2.2.2.2.2.2.2.2.2.2.1,Rd.mono hc h.2.2.2.2.2.2.2.2.2.2.2.1,Rd.mono hc h.2.2.2.2.2.2.2.2.2.2.2.2.1,Rd.mono hc h.2.2.2.2.2.2.2.2.2.2.2.2.2⟩
abbrev qo:Type:=(List UInt8)×(List ((List UInt8)×(List (List UInt8×Int))×Int×Int×Int×Int))×(List (List UInt8×Int×Int))×(List (List UInt8×Int))×(List ((List UInt8)×(List (Int×Int))×(List (Int×Int×Int))×(List (Int×BitVec 128×Int×BitVec 128×Int))×Int))×(List ((List UInt8)×(List Int)×(List (Int×Int×Int×Int×BitVec 128))))×(List ((List UInt8)×Int×(List (Int×Int×Int))×(List Int)×Int×(List (Int×BitVec 128))×Int))×(List (Int×Int×(List (Int×Int×Int×Int×BitVec 128))×(List (Int×BitVec 128))×Int×Int))×(List (Int×Int×(List (Int×Int×Int×Int×BitVec 128))×(List (Int×BitVec 128))×Int×Int))×(List Int)×(List (Int×Int))×(List (Int×Int))×(List (List UInt8×Int×Int))×(List (List UInt8×Int))×(List (List UInt8×Int×Int×Int))×Int×Int×Int×(List (Bool×BitVec 64))
abbrev mG:Type:=Value×Value×Value×Value×Value×Value×Value×Value×Value×Value×Value×Value×Value×Value×Value
abbrev Bun98R(ro:Ro)(v:mG)(m:qo):Prop:=RdN Ad4 ro v.1 m.2.1∧Rd Ad5 ro v.2.1 m.2.2.1∧Rd Ab4 ro v.2.2.1 m.2.2.2.1∧RdN Ad8 ro v.2.2.2.1 m.2.2.2.2.1∧RdN Ad6 ro v.2.2.2.2.1 m.2.2.2.2.2.1∧RdN Ae1 ro v.2.2.2.2.2.1 m.2.2.2.2.2.2.1∧RdN Ad2 ro v.2.2.2.2.2.2.1 m.2.2.2.2.2.2.2.1∧RdN Ad2 ro v.2.2.2.2.2.2.2.1 m.2.2.2.2.2.2.2.2.1∧Rd BJ ro v.2.2.2.2.2.2.2.2.1 m.2.2.2.2.2.2.2.2.2.1∧Rd Ae3 ro v.2.2.2.2.2.2.2.2.2.1 m.2.2.2.2.2.2.2.2.2.2.1∧Rd Ae3 ro v.2.2.2.2.2.2.2.2.2.2.1 m.2.2.2.2.2.2.2.2.2.2.2.1∧Rd Ae8 ro v.2.2.2.2.2.2.2.2.2.2.2.1 m.2.2.2.2.2.2.2.2.2.2.2.2.1∧Rd Ae9 ro v.2.2.2.2.2.2.2.2.2.2.2.2.1 m.2.2.2.2.2.2.2.2.2.2.2.2.2.1∧Rd Af0 ro v.2.2.2.2.2.2.2.2.2.2.2.2.2.1 m.2.2.2.2.2.2.2.2.2.2.2.2.2.2.1∧Rd Ji ro v.2.2.2.2.2.2.2.2.2.2.2.2.2.2 m.2.2.2.2.2.2.2.2.2.2.2.2.2.2.2.2.2.2
theorem Bun98R.mono {c c':Addr→Option Value}{v:mG}{m:qo}(hc: ∀a v,c a=some v→c' a=some v)(h:Bun98R c v m):Bun98R c' v m:=⟨RdN.mono hc h.1,Rd.mono hc h.2.1,Rd.mono hc h.2.2.1,RdN.mono hc h.2.2.2.1,RdN.mono hc h.2.2.2.2.1,RdN.mono hc h.2.2.2.2.2.1,RdN.mono hc h.2.2.2.2.2.2.1,RdN.mono hc h.2.2.2.2.2.2.2.1,Rd.mono hc h.2.2.2.2.2.2.2.2.1,Rd.mono hc h.2.2.2.2.2.2.2.2.2.1,Rd.mono hc h.2.2.2.2.2.2.2.2.2.2.1,Rd.mono hc h.2.2.2.2.2.2.2.2.2.2.2.1,Rd.mono hc h.2.2.2.2.2.2.2.2.2.2.2.2.1,Rd.mono hc h.2.2.2.2.2.2.2.2.2.2.2.2.2.1,Rd.mono hc h.2.2.2.2.2.2.2.2.2.2.2.2.2.2⟩
def Cb(_:Nat)(c:UInt8):Option Bool:=if(((c.toNat:Nat):Int):Int)≥128 then some (decide ((((c.toNat:Nat):Int):Int)<192))else some false
theorem FN(N c r)(a:Cb N c=some r):Gives prog 161 #[Value.int .u8 ((c.toNat:Nat):Int)] (vB r):=by
 unfold Cb at a
 refine As follows func161 rfl 9 rfl _ fz1 (fun e=> ?_)
 refine AZ rfl<|Aa fun f b=>Ag<|rn 3 rfl ?_
 rcases d:(decide ((((c.toNat:Nat):Int):Int)≥128))with _|_
 ·replace a:=iF d a
  refine rz rfl<|b _ _ ?_
  cases a
  exact aR eE1
 replace a:=iD d a
 refine rz rfl<|b _ _ ?_
 cases a
 exact aR eE1
def FK(s:List UInt8)(a:Bool):Option (Int×Int):=if a=true then some ((((((262144*((((Ar s 0).toNat:Nat):Int) - 240))+(4096*((((Ar s 1).toNat:Nat):Int) - 128)))+(64*((((Ar s 2).toNat:Nat):Int) - 128)))+(((Ar s 3).toNat:Nat):Int)) - 128),4)else some (65533,1)
def Cu(s:List UInt8)(a:Bool):Option (Int×Int):=if a=true then ck ((R64 ((((Ar s 0).toNat:Nat):Int) - 240))) (ck ((R64 (262144*((((Ar s 0).toNat:Nat):Int) - 240)))) (ck ((0:Int)≤1∧1<(s.length:Int)) (ck ((R64 ((((Ar s 1).toNat:Nat):Int) - 128))) (ck ((R64 (4096*((((Ar s 1).toNat:Nat):Int) - 128)))) (ck ((R64 ((262144*((((Ar s 0).toNat:Nat):Int) - 240))+(4096*((((Ar s 1).toNat:Nat):Int) - 128))))) (ck ((0:Int)≤2∧2<(s.length:Int)) (ck ((R64 ((((Ar s 2).toNat:Nat):Int) - 128))) (ck ((R64 (64*((((Ar s 2).toNat:Nat):Int) - 128)))) (ck ((R64 (((262144*((((Ar s 0).toNat:Nat):Int) - 240))+(4096*((((Ar s 1).toNat:Nat):Int) - 128)))+(64*((((Ar s 2).toNat:Nat):Int) - 128))))) (ck ((0:Int)≤3∧3<(s.length:Int)) (ck ((R64 ((((262144*((((Ar s 0).toNat:Nat):Int) - 240))+(4096*((((Ar s 1).toNat:Nat):Int) - 128)))+(64*((((Ar s 2).toNat:Nat):Int) - 128)))+(((Ar s 3).toNat:Nat):Int)))) (ck ((R64 (((((262144*((((Ar s 0).toNat:Nat):Int) - 240))+(4096*((((Ar s 1).toNat:Nat):Int) - 128)))+(64*((((Ar s 2).toNat:Nat):Int) - 128)))+(((Ar s 3).toNat:Nat):Int)) - 128))) (if((((((262144*((((Ar s 0).toNat:Nat):Int) - 240))+(4096*((((Ar s 1).toNat:Nat):Int) - 128)))+(64*((((Ar s 2).toNat:Nat):Int) - 128)))+(((Ar s 3).toNat:Nat):Int)) - 128):Int)≥65536 then FK s (decide (((((((262144*((((Ar s 0).toNat:Nat):Int) - 240))+(4096*((((Ar s 1).toNat:Nat):Int) - 128)))+(64*((((Ar s 2).toNat:Nat):Int) - 128)))+(((Ar s 3).toNat:Nat):Int)) - 128):Int)≤1114111))else FK s false)))))))))))))else some (65533,1)
def Ga(N:Nat)(s:List UInt8)(b:Bool):Option (Int×Int):=if b=true then ck ((0:Int)≤3∧3<(s.length:Int)) ((Cb N (Ar s 3)).bind fun a=>Cu s a)else Cu s false
def Gb(N:Nat)(s:List UInt8)(b:Bool):Option (Int×Int):=if b=true then ck ((0:Int)≤2∧2<(s.length:Int)) ((Cb N (Ar s 2)).bind fun a=>Ga N s a)else Ga N s false
def Gc(N:Nat)(s:List UInt8)(a:Bool):Option (Int×Int):=if a=true then ck ((0:Int)≤1∧1<(s.length:Int)) ((Cb N (Ar s 1)).bind fun b=>Gb N s b)else Gb N s false
def Gd(N:Nat)(s:List UInt8)(a:Bool):Option (Int×Int):=if a=true then Gc N s (decide ((s.length:Int)≥4))else Gc N s false
def EP(N:Nat)(s:List UInt8):Option (Int×Int):=if((((Ar s 0).toNat:Nat):Int):Int)≥240 then Gd N s (decide (((((Ar s 0).toNat:Nat):Int):Int)<245))else Gd N s false
def EE(N:Nat)(s:List UInt8)(a:Bool):Option (Int×Int):=if a=true then some (((((4096*((((Ar s 0).toNat:Nat):Int) - 224))+(64*((((Ar s 1).toNat:Nat):Int) - 128)))+(((Ar s 2).toNat:Nat):Int)) - 128),3)else EP N s 
def Cj(N:Nat)(s:List UInt8)(a:Bool):Option (Int×Int):=if a=true then ck ((R64 ((((Ar s 0).toNat:Nat):Int) - 224))) (ck ((R64 (4096*((((Ar s 0).toNat:Nat):Int) - 224)))) (ck ((0:Int)≤1∧1<(s.length:Int)) (ck ((R64 ((((Ar s 1).toNat:Nat):Int) - 128))) (ck ((R64 (64*((((Ar s 1).toNat:Nat):Int) - 128)))) (ck ((R64 ((4096*((((Ar s 0).toNat:Nat):Int) - 224))+(64*((((Ar s 1).toNat:Nat):Int) - 128))))) (ck ((0:Int)≤2∧2<(s.length:Int)) (ck ((R64 (((4096*((((Ar s 0).toNat:Nat):Int) - 224))+(64*((((Ar s 1).toNat:Nat):Int) - 128)))+(((Ar s 2).toNat:Nat):Int)))) (ck ((R64 ((((4096*((((Ar s 0).toNat:Nat):Int) - 224))+(64*((((Ar s 1).toNat:Nat):Int) - 128)))+(((Ar s 2).toNat:Nat):Int)) - 128))) (if(((((4096*((((Ar s 0).toNat:Nat):Int) - 224))+(64*((((Ar s 1).toNat:Nat):Int) - 128)))+(((Ar s 2).toNat:Nat):Int)) - 128):Int)≥2048 then if(((((4096*((((Ar s 0).toNat:Nat):Int) - 224))+(64*((((Ar s 1).toNat:Nat):Int) - 128)))+(((Ar s 2).toNat:Nat):Int)) - 128):Int)<55296 then EE N s true else EE N s (decide ((((((4096*((((Ar s 0).toNat:Nat):Int) - 224))+(64*((((Ar s 1).toNat:Nat):Int) - 128)))+(((Ar s 2).toNat:Nat):Int)) - 128):Int)>57343))else EE N s false)))))))))else EP N s 
def FH(N:Nat)(s:List UInt8)(b:Bool):Option (Int×Int):=if b=true then ck ((0:Int)≤2∧2<(s.length:Int)) ((Cb N (Ar s 2)).bind fun a=>Cj N s a)else Cj N s false
def FI(N:Nat)(s:List UInt8)(a:Bool):Option (Int×Int):=if a=true then ck ((0:Int)≤1∧1<(s.length:Int)) ((Cb N (Ar s 1)).bind fun b=>FH N s b)else FH N s false
def FJ(N:Nat)(s:List UInt8)(a:Bool):Option (Int×Int):=if a=true then FI N s (decide ((s.length:Int)≥3))else FI N s false
def Cv(N:Nat)(s:List UInt8)(a:Bool):Option (Int×Int):=if a=true then ck ((R64 ((((Ar s 0).toNat:Nat):Int) - 192))) (ck ((R64 (64*((((Ar s 0).toNat:Nat):Int) - 192)))) (ck ((0:Int)≤1∧1<(s.length:Int)) (ck ((R64 ((64*((((Ar s 0).toNat:Nat):Int) - 192))+(((Ar s 1).toNat:Nat):Int)))) (ck ((R64 (((64*((((Ar s 0).toNat:Nat):Int) - 192))+(((Ar s 1).toNat:Nat):Int)) - 128))) (some ((((64*((((Ar s 0).toNat:Nat):Int) - 192))+(((Ar s 1).toNat:Nat):Int)) - 128),2))))))else if((((Ar s 0).toNat:Nat):Int):Int)≥224 then FJ N s (decide (((((Ar s 0).toNat:Nat):Int):Int)<240))else FJ N s false
def Ge(N:Nat)(s:List UInt8)(b:Bool):Option (Int×Int):=if b=true then ck ((0:Int)≤1∧1<(s.length:Int)) ((Cb N (Ar s 1)).bind fun a=>Cv N s a)else Cv N s false
def Gf(N:Nat)(s:List UInt8)(a:Bool):Option (Int×Int):=if a=true then Ge N s (decide ((s.length:Int)≥2))else Ge N s false
def Gu(N:Nat)(s:List UInt8):Option (Int×Int):=if(s.length:Int)=0 then some (65533,0)else ck ((0:Int)≤0∧0<(s.length:Int)) (if((((Ar s 0).toNat:Nat):Int):Int)<128 then some ((((Ar s 0).toNat:Nat):Int),1)else if((((Ar s 0).toNat:Nat):Int):Int)≥194 then Gf N s (decide (((((Ar s 0).toNat:Nat):Int):Int)<224))else Gf N s false)
theorem Pi(N s r)(a:Gu N s=some r):Gives prog 106 #[vS s] (vT #[vI r.1,vI r.2]):=by
 unfold Gu at a
 refine As follows func106 rfl 139 rfl _ fz1 (fun bb=> ?_)
 refine AZ rfl<|Aa fun K2 bc=>Ad<|rn 1 rfl<|r_W (vI (s.length:Int)) rfl (LI rfl rfl rfl)<|rz rfl<|aE a rfl (fun bd a=> ?_) (fun bd a=> ?_)
 ·refine AZ rfl ?_
  cases a
  exact aR eE2
 refine Ab<|bc _ _ ?_
 refine Ad<|rn 1 rfl<|kC a fun be a=>r_W (Value.int .u8 (HQ s 0)) rfl (ET (GL rfl be))<|r_w (vI (((Ar s 0).toNat:Nat):Int)) rfl rfl (QK (Ar s 0)) (fun _=>rfl)<|rz rfl<|Aa fun K8 bf=>AZ rfl<|aD a rfl (fun y a=> ?_) (fun y a=> ?_)
 ·refine AZ rfl ?_
  cases a
  exact aR eE2
 refine Ab<|bf _ _ ?_
 refine Aa fun bq z=>Aa fun br A=>Ag<|rn 3 rfl<|AG 3 21 [(0,vS s),(4,vI (((Ar s 0).toNat:Nat):Int))] vB (fun b_=>Gf N s b_=some r) (fun bg a T=> ?_) (fun b=> ?_)
 ·unfold Gf at a
  refine rn 1 rfl<|AG 4 26 [(0,vS s),(4,vI (((Ar s 0).toNat:Nat):Int))] vB (fun b_=>Ge N s b_=some r) (fun bh a T=> ?_) (fun b=> ?_)
  ·unfold Ge at a
   refine rn 1 rfl<|AG 4 31 [(0,vS s),(4,vI (((Ar s 0).toNat:Nat):Int))] vB (fun b_=>Cv N s b_=some r) (fun bs a T=> ?_) (fun b=> ?_)
   ·unfold Cv at a
    refine Ak<|A _ _ ?_
    refine aB a rfl (fun B a=> ?_) (fun B a=> ?_)
    ·refine Ad<|rn 1 rfl<|kC a fun C a=>rX C rfl<|kC a fun D a=>rX D rfl<|rn 1 rfl<|kC a fun E a=>r_W (Value.int .u8 (HQ s 1)) rfl (ET (GL rfl E))<|r_w (vI (((Ar s 1).toNat:Nat):Int)) rfl rfl (QK (Ar s 1)) (fun _=>rfl)<|kC a fun F a=>rX F rfl<|kC a fun G a=>rX G rfl<|rz rfl ?_
     cases a
     exact aR eE2
    refine Ab<|z _ _ ?_
    refine BR (fun tt ll=>(EP N s  =some r)∧Is [(0,vS s),(4,vI (((Ar s 0).toNat:Nat):Int))] [] tt ll) ?_ ?_
    ·refine Aa fun bt H=>Ag<|rn 3 rfl<|AG 3 45 [(0,vS s),(4,vI (((Ar s 0).toNat:Nat):Int))] vB (fun b_=>FJ N s b_=some r) (fun bi a T=> ?_) (fun b=> ?_)
     ·unfold FJ at a
      refine rn 1 rfl<|AG 4 50 [(0,vS s),(4,vI (((Ar s 0).toNat:Nat):Int))] vB (fun b_=>FI N s b_=some r) (fun bj a T=> ?_) (fun b=> ?_)
      ·unfold FI at a
       refine rn 1 rfl<|AG 4 55 [(0,vS s),(4,vI (((Ar s 0).toNat:Nat):Int))] vB (fun b_=>FH N s b_=some r) (fun bk a T=> ?_) (fun b=> ?_)
       ·unfold FH at a
        refine rn 1 rfl<|AG 4 60 [(0,vS s),(4,vI (((Ar s 0).toNat:Nat):Int))] vB (fun b_=>Cj N s b_=some r) (fun bu a T=> ?_) (fun b=> ?_)
        ·unfold Cj at a
         refine Ak<|H _ _ ?_
         refine aB a rfl (fun I a=> ?_) (fun I a=> ?_)
         ·refine Aa fun bv J=>Hb [] (by decide+kernel) (fun hn=>AH)<|rn 1 rfl<|kC a fun K a=>rX K rfl<|kC a fun L a=>rX L rfl<|rn 1 rfl<|kC a fun M a=>r_W (Value.int .u8 (HQ s 1)) rfl (ET (GL rfl M))<|r_w (vI (((Ar s 1).toNat:Nat):Int)) rfl rfl (QK (Ar s 1)) (fun _=>rfl)<|kC a fun O a=>rX O rfl<|kC a fun P a=>rX P rfl<|kC a fun Q a=>rX Q rfl<|rn 1 rfl<|kC a fun R a=>r_W (Value.int .u8 (HQ s 2)) rfl (ET (GL rfl R))<|r_w (vI (((Ar s 2).toNat:Nat):Int)) rfl rfl (QK (Ar s 2)) (fun _=>rfl)<|kC a fun S a=>rX S rfl<|kC a fun U a=>rX U rfl<|rz rfl<|J _ _ ?_
          refine Aa fun bx V=>Ag<|rn 3 rfl ?_
          refine AG 7 84 [(0,vS s),(4,vI (((Ar s 0).toNat:Nat):Int)),(5,vI (((((4096*((((Ar s 0).toNat:Nat):Int) - 224))+(64*((((Ar s 1).toNat:Nat):Int) - 128)))+(((Ar s 2).toNat:Nat):Int)) - 128)))] vB (fun b_=>EE N s b_=some r) (fun bz a T=> ?_) (fun b=> ?_)
          ·unfold EE at a
           refine Ak<|V _ _ ?_
           refine aB a rfl (fun W a=> ?_) (fun W a=> ?_)
           ·refine AZ rfl ?_
            cases a
            exact aR eE2
           refine Ab<|fg _ (Sub.of suN) ?_
           exact⟨a,Af rfl rfl⟩
          rcases e:(decide ((((((4096*((((Ar s 0).toNat:Nat):Int) - 224))+(64*((((Ar s 1).toNat:Nat):Int) - 128)))+(((Ar s 2).toNat:Nat):Int)) - 128):Int)≥2048))with _|_
          ·replace a:=iF e a
           refine rn 3 rfl<|BT rfl rfl<|BT rfl rfl<|rn 2 rfl ?_
           first|exact b _ _ a rfl rfl|exact lx_cn _ _ (b _ _ a rfl rfl)
          replace a:=iD e a
          refine rn 3 rfl ?_
          rcases f:(decide ((((((4096*((((Ar s 0).toNat:Nat):Int) - 224))+(64*((((Ar s 1).toNat:Nat):Int) - 128)))+(((Ar s 2).toNat:Nat):Int)) - 128):Int)<55296))with _|_
          ·replace a:=iF f a
           refine rn 4 rfl ?_
           first|exact b _ _ a rfl rfl|exact lx_cn _ _ (b _ _ a rfl rfl)
          replace a:=iD f a
          refine rn 4 rfl ?_
          first|exact b _ _ a rfl rfl|exact lx_cn _ _ (b _ _ a rfl rfl)
         refine Ab<|fg _ (Sub.of suN) ?_
         exact⟨a,Af rfl rfl⟩
        rcases g:bk with _|_
        ·replace a:=iB g a
         refine rn 4 rfl ?_
         first|exact b _ _ a rfl rfl|exact lx_cn _ _ (b _ _ a rfl rfl)
        replace a:=ifp g a
        refine rn 1 rfl<|r_y rfl<|kC a fun X a=>r_W (Value.int .u8 (HQ s 2)) rfl (ET (GL rfl X))<|r_y rfl<|kB a fun ca Y a=>rc _ (cF Ob) (FN N (Ar s 2) _ Y)<|rn 1 rfl ?_
        first|exact b _ _ a rfl rfl|exact lx_cn _ _ (b _ _ a rfl rfl)
       rcases h:bj with _|_
       ·replace a:=iB h a
        refine rn 4 rfl ?_
        first|exact b _ _ a rfl rfl|exact lx_cn _ _ (b _ _ a rfl rfl)
       replace a:=ifp h a
       refine rn 1 rfl<|r_y rfl<|kC a fun Z a=>r_W (Value.int .u8 (HQ s 1)) rfl (ET (GL rfl Z))<|r_y rfl<|kB a fun cb aa a=>rc _ (cF Ob) (FN N (Ar s 1) _ aa)<|rn 1 rfl ?_
       first|exact b _ _ a rfl rfl|exact lx_cn _ _ (b _ _ a rfl rfl)
      rcases i:bi with _|_
      ·replace a:=iB i a
       refine rn 4 rfl ?_
       first|exact b _ _ a rfl rfl|exact lx_cn _ _ (b _ _ a rfl rfl)
      replace a:=ifp i a
      refine rn 1 rfl<|r_y rfl<|r_W (vI (s.length:Int)) rfl (LI rfl rfl rfl)<|rn 2 rfl ?_
      first|exact b _ _ a rfl rfl|exact lx_cn _ _ (b _ _ a rfl rfl)
     rcases j:(decide (((((Ar s 0).toNat:Nat):Int):Int)≥224))with _|_
     ·replace a:=iF j a
      refine rn 3 rfl ?_
      first|exact b _ _ a rfl rfl|exact lx_cn _ _ (b _ _ a rfl rfl)
     replace a:=iD j a
     refine rn 3 rfl ?_
     first|exact b _ _ a rfl rfl|exact lx_cn _ _ (b _ _ a rfl rfl)
    clear a;rintro t l ⟨a,⟨T,rfl⟩,rfl⟩
    unfold EP at a
    refine Aa fun cc k=>Aa fun cd ab=>Ag<|rn 3 rfl<|AG 3 91 [(0,vS s),(4,vI (((Ar s 0).toNat:Nat):Int))] vB (fun b_=>Gd N s b_=some r) (fun bl a T=> ?_) (fun b=> ?_)
    ·unfold Gd at a
     refine rn 1 rfl<|AG 4 96 [(0,vS s),(4,vI (((Ar s 0).toNat:Nat):Int))] vB (fun b_=>Gc N s b_=some r) (fun bm a T=> ?_) (fun b=> ?_)
     ·unfold Gc at a
      refine rn 1 rfl<|AG 4 101 [(0,vS s),(4,vI (((Ar s 0).toNat:Nat):Int))] vB (fun b_=>Gb N s b_=some r) (fun bn a T=> ?_) (fun b=> ?_)
      ·unfold Gb at a
       refine rn 1 rfl<|AG 4 106 [(0,vS s),(4,vI (((Ar s 0).toNat:Nat):Int))] vB (fun b_=>Ga N s b_=some r) (fun bo a T=> ?_) (fun b=> ?_)
       ·unfold Ga at a
        refine rn 1 rfl<|AG 4 111 [(0,vS s),(4,vI (((Ar s 0).toNat:Nat):Int))] vB (fun b_=>Cu s b_=some r) (fun ce a T=> ?_) (fun b=> ?_)
        ·unfold Cu at a
         refine Ak<|ab _ _ ?_
         refine aB a rfl (fun ac a=> ?_) (fun ac a=> ?_)
         ·refine Aa fun cf ad=>Hb [] (by decide+kernel) (fun hn=>AH)<|rn 1 rfl<|kC a fun ae a=>rX ae rfl<|kC a fun af a=>rX af rfl<|rn 1 rfl<|kC a fun ag a=>r_W (Value.int .u8 (HQ s 1)) rfl (ET (GL rfl ag))<|r_w (vI (((Ar s 1).toNat:Nat):Int)) rfl rfl (QK (Ar s 1)) (fun _=>rfl)<|kC a fun ah a=>rX ah rfl<|kC a fun ai a=>rX ai rfl<|kC a fun aj a=>rX aj rfl<|rn 1 rfl<|kC a fun ak a=>r_W (Value.int .u8 (HQ s 2)) rfl (ET (GL rfl ak))<|r_w (vI (((Ar s 2).toNat:Nat):Int)) rfl rfl (QK (Ar s 2)) (fun _=>rfl)<|kC a fun al a=>rX al rfl<|kC a fun am a=>rX am rfl<|kC a fun an a=>rX an rfl<|rn 1 rfl<|kC a fun ao a=>r_W (Value.int .u8 (HQ s 3)) rfl (ET (GL rfl ao))<|r_w (vI (((Ar s 3).toNat:Nat):Int)) rfl rfl (QK (Ar s 3)) (fun _=>rfl)<|kC a fun ap a=>rX ap rfl<|kC a fun aq a=>rX aq rfl<|rz rfl<|ad _ _ ?_
          refine Aa fun cg ar=>Ag ?_
          refine rn 3 rfl ?_
          refine AG 3 137 [(6,vI ((((((262144*((((Ar s 0).toNat:Nat):Int) - 240))+(4096*((((Ar s 1).toNat:Nat):Int) - 128)))+(64*((((Ar s 2).toNat:Nat):Int) - 128)))+(((Ar s 3).toNat:Nat):Int)) - 128)))] vB (fun b_=>FK s b_=some r) (fun ch a T=> ?_) (fun b=> ?_)
          ·unfold FK at a
           refine Ak<|ar _ _ ?_
           refine aB a rfl (fun au a=> ?_) (fun au a=> ?_)
           ·refine AZ rfl ?_
            cases a
            exact aR eE2
           refine Ab<|k _ _ ?_
           refine AZ rfl ?_
           cases a
           exact aR eE2
          rcases m:(decide (((((((262144*((((Ar s 0).toNat:Nat):Int) - 240))+(4096*((((Ar s 1).toNat:Nat):Int) - 128)))+(64*((((Ar s 2).toNat:Nat):Int) - 128)))+(((Ar s 3).toNat:Nat):Int)) - 128):Int)≥65536))with _|_
          ·replace a:=iF m a
           refine rn 3 rfl ?_
           first|exact b _ _ a rfl rfl|exact lx_cn _ _ (b _ _ a rfl rfl)
          replace a:=iD m a
          refine rn 3 rfl ?_
          first|exact b _ _ a rfl rfl|exact lx_cn _ _ (b _ _ a rfl rfl)
         refine Ab<|k _ _ ?_
         refine AZ rfl ?_
         cases a
         exact aR eE2
        rcases n:bo with _|_
        ·replace a:=iB n a
         refine rn 4 rfl ?_
         first|exact b _ _ a rfl rfl|exact lx_cn _ _ (b _ _ a rfl rfl)
        replace a:=ifp n a
        refine rn 1 rfl<|r_y rfl<|kC a fun av a=>r_W (Value.int .u8 (HQ s 3)) rfl (ET (GL rfl av))<|r_y rfl<|kB a fun ci aw a=>rc _ (cF Ob) (FN N (Ar s 3) _ aw)<|rn 1 rfl ?_
        first|exact b _ _ a rfl rfl|exact lx_cn _ _ (b _ _ a rfl rfl)
       rcases o:bn with _|_
       ·replace a:=iB o a
        refine rn 4 rfl ?_
        first|exact b _ _ a rfl rfl|exact lx_cn _ _ (b _ _ a rfl rfl)
       replace a:=ifp o a
       refine rn 1 rfl<|r_y rfl<|kC a fun ax a=>r_W (Value.int .u8 (HQ s 2)) rfl (ET (GL rfl ax))<|r_y rfl<|kB a fun cj ay a=>rc _ (cF Ob) (FN N (Ar s 2) _ ay)<|rn 1 rfl ?_
       first|exact b _ _ a rfl rfl|exact lx_cn _ _ (b _ _ a rfl rfl)
      rcases p:bm with _|_
      ·replace a:=iB p a
       refine rn 4 rfl ?_
       first|exact b _ _ a rfl rfl|exact lx_cn _ _ (b _ _ a rfl rfl)
      replace a:=ifp p a
      refine rn 1 rfl<|r_y rfl<|kC a fun az a=>r_W (Value.int .u8 (HQ s 1)) rfl (ET (GL rfl az))<|r_y rfl<|kB a fun ck ba a=>rc _ (cF Ob) (FN N (Ar s 1) _ ba)<|rn 1 rfl ?_
      first|exact b _ _ a rfl rfl|exact lx_cn _ _ (b _ _ a rfl rfl)
     rcases q:bl with _|_
     ·replace a:=iB q a
      refine rn 4 rfl ?_
      first|exact b _ _ a rfl rfl|exact lx_cn _ _ (b _ _ a rfl rfl)
     replace a:=ifp q a
     refine rn 1 rfl<|r_y rfl<|r_W (vI (s.length:Int)) rfl (LI rfl rfl rfl)<|rn 2 rfl ?_
     first|exact b _ _ a rfl rfl|exact lx_cn _ _ (b _ _ a rfl rfl)
    rcases u:(decide (((((Ar s 0).toNat:Nat):Int):Int)≥240))with _|_
    ·replace a:=iF u a
     refine rn 3 rfl ?_
     first|exact b _ _ a rfl rfl|exact lx_cn _ _ (b _ _ a rfl rfl)
    replace a:=iD u a
    refine rn 3 rfl ?_
    first|exact b _ _ a rfl rfl|exact lx_cn _ _ (b _ _ a rfl rfl)
   rcases v:bh with _|_
   ·replace a:=iB v a
    refine rn 4 rfl ?_
    first|exact b _ _ a rfl rfl|exact lx_cn _ _ (b _ _ a rfl rfl)
   replace a:=ifp v a
   refine rn 1 rfl<|r_y rfl<|kC a fun w a=>r_W (Value.int .u8 (HQ s 1)) rfl (ET (GL rfl w))<|r_y rfl<|kB a fun bp x a=>rc _ (cF Ob) (FN N (Ar s 1) _ x)<|rn 1 rfl ?_
   first|exact b _ _ a rfl rfl|exact lx_cn _ _ (b _ _ a rfl rfl)
  rcases c:bg with _|_
  ·replace a:=iB c a
   refine rn 4 rfl ?_
   first|exact b _ _ a rfl rfl|exact lx_cn _ _ (b _ _ a rfl rfl)
  replace a:=ifp c a
  refine rn 1 rfl<|r_y rfl<|r_W (vI (s.length:Int)) rfl (LI rfl rfl rfl)<|rn 2 rfl ?_
  first|exact b _ _ a rfl rfl|exact lx_cn _ _ (b _ _ a rfl rfl)
 rcases d:(decide (((((Ar s 0).toNat:Nat):Int):Int)≥194))with _|_
 ·replace a:=iF d a
  refine rn 3 rfl ?_
  first|exact b _ _ a rfl rfl|exact lx_cn _ _ (b _ _ a rfl rfl)
 replace a:=iD d a
 refine rn 3 rfl ?_
 first|exact b _ _ a rfl rfl|exact lx_cn _ _ (b _ _ a rfl rfl)
def DA(N:Nat):Nat→List UInt8→List Int→Option (List Int)
  |0,_,_=>none
  |d+1,a,b=>if(a.length:Int)>0 then(Gu N a).bind fun c=>ck ((b).length+([c.1]).length≤17592186044416) (ck (0≤c.2∧c.2≤(a.length:Int)) ((DA N d) ((a).drop (c.2).toNat) (b++([c.1]))))else some b
def Fe(N:Nat)(s:List UInt8):Option (List Int):=DA N N s ([])
theorem KI(N s r)(b:Fe N s=some r)(ro:Ro):Does prog 67 #[vS s] ro [] (p1 (fun s_=>s_) 3 BJ r):=by
 unfold Fe at b
 refine Aj follows func67 rfl 22 rfl _ fz1 (fun o=> ?_)
 refine AZ rfl<|AZ rfl<|Aa fun A q=>Ah<|Bo _ (Sub.pickE (Ls:=[[]]) (Ls0:=[]) rfl [0] rfl)<|AC (fun tt ll nn=> ∃(h:Nat) (c:List UInt8) (e:List Int),(DA N h c e=some r)∧ ∃(d:Value) (a:List Bl),Sl 3 BJ d e a∧Is [(0,vS c),(3,d)] (List.flatten [a]) tt ll∧nn=h+1) (N+1) ?_ ?_
 ·exact⟨N,s,[],b,nS,[],Sl.nil,Af rfl rfl,rfl⟩
 clear b;rintro t l _ ⟨h,c,e,b,d,a,f,⟨⟨T,rfl⟩,rfl⟩,rfl⟩
 rcases h with _|h
 ·exact absurd b (by simp [DA])
 rw [DA] at b
 refine Aa fun B u=>Ad<|rn 1 rfl<|r_W (vI (c.length:Int)) rfl (LI rfl rfl rfl)<|rz rfl<|aD b rfl (fun v b=> ?_) (fun v b=> ?_)
 ·refine Ab<|u _ _ ?_
  refine Ah<|Ad<|rn 1 rfl<|kB b fun p j b=>rc _ (cF mm) (Pi N c _ j)<|rz rfl<|Ad<|rn 2 rfl<|gB (Ls:=[a]) 3 BJ [p.1] (fun z i w=> ?_)
  refine kC b fun g b=>cC 17<|JB (cs0:=[]) (Ls:=[a,i]) 0 (En:=BJ) rfl rfl rfl rfl rfl f rfl (Av w (Ai (Ls:=[a,i]) (k:=1) rfl rfl)) rfl rfl rfl rfl rfl (Ke g rfl) (Kc g rfl) rfl (fun x m y=> ?_)
  refine rz rfl<|Ag<|rn 2 rfl<|kC b fun n b=>r_W (vS ((c).drop (p.2).toNat)) rfl (ET (cU rfl n))<|rz rfl<|fg _ (Sub.pick [m,i] [0] rfl) ?_
  exact⟨h+1,by omega,h,(c).drop (p.2).toNat,(e++([p.1])),b,x,m,y,Af rfl rfl,rfl⟩
 refine AD<|q _ _ ?_
 refine AZ rfl ?_
 cases b
 refine Bi (fun C=>Ha (v0:=d) f (EK (Sub.pick [a] [0] rfl)) rfl (Gj rfl))
def CZ(c:Int)(a:Bool):Option Bool:=if a=true then some true else if c≥1024 then some (decide (c≤1279))else some false
def Ez(c:Int)(a:Bool):Option Bool:=if a=true then CZ c true else if c≥913 then CZ c (decide (c≤969))else CZ c false
def EA(c:Int)(a:Bool):Option Bool:=if a=true then some false else if c≥192 then Ez c (decide (c≤591))else Ez c false
def EB(c:Int)(a:Bool):Option Bool:=if a=true then EA c true else EA c (c==930)
def EC(c:Int)(a:Bool):Option Bool:=if a=true then some true else if c=215 then EB c true else EB c (c==247)
def Da(c:Int)(a:Bool):Option Bool:=if a=true then EC c true else EC c (c==95)
def ED(c:Int)(a:Bool):Option Bool:=if a=true then Da c true else if c≥97 then Da c (decide (c≤122))else Da c false
def EO(_:Nat)(c:Int):Option Bool:=if c≥65 then ED c (decide (c≤90))else ED c false
theorem Kh(N c r)(a:EO N c=some r):Gives prog 68 #[vI c] (vB r):=by
 unfold EO at a
 refine As follows func68 rfl 53 rfl _ fz1 (fun s=> ?_)
 refine AZ rfl<|Aa fun F t=>Aa fun G u=>Ag<|rn 3 rfl<|AG 3 8 [(0,vI c)] vB (fun b_=>ED c b_=some r) (fun A a T=> ?_) (fun b=> ?_)
 ·unfold ED at a
  refine rn 1 rfl<|AG 7 16 [(0,vI c)] vB (fun b_=>Da c b_=some r) (fun B a T=> ?_) (fun b=> ?_)
  ·unfold Da at a
   refine rn 1 rfl<|AG 3 20 [(0,vI c)] vB (fun b_=>EC c b_=some r) (fun H a T=> ?_) (fun b=> ?_)
   ·unfold EC at a
    refine Ak<|u _ _ ?_
    refine aB a rfl (fun v a=> ?_) (fun v a=> ?_)
    ·refine AZ rfl ?_
     cases a
     exact aR eE1
    refine Ab<|t _ _ ?_
    refine Aa fun I w=>Aa fun C p=>Ag<|rn 3 rfl<|AG 3 26 [(0,vI c)] vB (fun b_=>EB c b_=some r) (fun x a T=> ?_) (fun b=> ?_)
    ·unfold EB at a
     refine rn 1 rfl<|AG 3 30 [(0,vI c)] vB (fun b_=>EA c b_=some r) (fun D a T=> ?_) (fun b=> ?_)
     ·unfold EA at a
      refine Ak<|p _ _ ?_
      refine aB a rfl (fun q a=> ?_) (fun q a=> ?_)
      ·refine AZ rfl ?_
       cases a
       exact aR eE1
      refine Ab<|w _ _ ?_
      refine Aa fun E d=>Ag<|rn 3 rfl<|AG 3 36 [(0,vI c)] vB (fun b_=>Ez c b_=some r) (fun y a T=> ?_) (fun b=> ?_)
      ·unfold Ez at a
       refine rn 1 rfl<|AG 7 44 [(0,vI c)] vB (fun b_=>CZ c b_=some r) (fun z a T=> ?_) (fun b=> ?_)
       ·unfold CZ at a
        refine rn 1 rfl ?_
        rcases e:z with _|_
        ·replace a:=iB e a
         refine rn 3 rfl ?_
         rcases f:(decide (c≥1024))with _|_
         ·replace a:=iF f a
          refine rz rfl<|d _ _ ?_
          cases a
          exact aR eE1
         replace a:=iD f a
         refine rz rfl<|d _ _ ?_
         cases a
         exact aR eE1
        replace a:=ifp e a
        refine rn 3 rfl<|BT rfl rfl<|BT rfl rfl<|rz rfl<|d _ _ ?_
        cases a
        exact aR eE1
       rcases g:y with _|_
       ·replace a:=iB g a
        refine rn 3 rfl ?_
        rcases h:(decide (c≥913))with _|_
        ·replace a:=iF h a
         refine rn 4 rfl ?_
         first|exact b _ _ a rfl rfl|exact lx_cn _ _ (b _ _ a rfl rfl)
        replace a:=iD h a
        refine rn 4 rfl ?_
        first|exact b _ _ a rfl rfl|exact lx_cn _ _ (b _ _ a rfl rfl)
       replace a:=ifp g a
       refine rn 3 rfl<|BT rfl rfl<|BT rfl rfl<|rn 2 rfl ?_
       first|exact b _ _ a rfl rfl|exact lx_cn _ _ (b _ _ a rfl rfl)
      rcases i:(decide (c≥192))with _|_
      ·replace a:=iF i a
       refine rn 3 rfl ?_
       first|exact b _ _ a rfl rfl|exact lx_cn _ _ (b _ _ a rfl rfl)
      replace a:=iD i a
      refine rn 3 rfl ?_
      first|exact b _ _ a rfl rfl|exact lx_cn _ _ (b _ _ a rfl rfl)
     rcases j:x with _|_
     ·replace a:=iB j a
      refine rn 3 rfl ?_
      first|exact b _ _ a rfl rfl|exact lx_cn _ _ (b _ _ a rfl rfl)
     replace a:=ifp j a
     refine rn 3 rfl ?_
     first|exact b _ _ a rfl rfl|exact lx_cn _ _ (b _ _ a rfl rfl)
    rcases k:(c==215)with _|_
    ·replace a:=iG k a
     refine rn 3 rfl ?_
     first|exact b _ _ a rfl rfl|exact lx_cn _ _ (b _ _ a rfl rfl)
    replace a:=iE k a
    refine rn 3 rfl ?_
    first|exact b _ _ a rfl rfl|exact lx_cn _ _ (b _ _ a rfl rfl)
   rcases l:B with _|_
   ·replace a:=iB l a
    refine rn 3 rfl ?_
    first|exact b _ _ a rfl rfl|exact lx_cn _ _ (b _ _ a rfl rfl)
   replace a:=ifp l a
   refine rn 3 rfl ?_
   first|exact b _ _ a rfl rfl|exact lx_cn _ _ (b _ _ a rfl rfl)
  rcases m:A with _|_
  ·replace a:=iB m a
   refine rn 3 rfl ?_
   rcases n:(decide (c≥97))with _|_
   ·replace a:=iF n a
    refine rn 4 rfl ?_
    first|exact b _ _ a rfl rfl|exact lx_cn _ _ (b _ _ a rfl rfl)
   replace a:=iD n a
   refine rn 4 rfl ?_
   first|exact b _ _ a rfl rfl|exact lx_cn _ _ (b _ _ a rfl rfl)
  replace a:=ifp m a
  refine rn 3 rfl<|BT rfl rfl<|BT rfl rfl<|rn 2 rfl ?_
  first|exact b _ _ a rfl rfl|exact lx_cn _ _ (b _ _ a rfl rfl)
 rcases o:(decide (c≥65))with _|_
 ·replace a:=iF o a
  refine rn 3 rfl ?_
  first|exact b _ _ a rfl rfl|exact lx_cn _ _ (b _ _ a rfl rfl)
 replace a:=iD o a
 refine rn 3 rfl ?_
 first|exact b _ _ a rfl rfl|exact lx_cn _ _ (b _ _ a rfl rfl)
def FO(b:Int)(a:Int→Option Bool)(c:Bool):Option Bool:=if c=true then some false else ck (R64 (b+1)) (a (b+1))
def EH(c:List Int)(b:Int)(a:Int→Option Bool)(d:Bool):Option Bool:=if d=true then ck (0≤b∧b<(c.length:Int)) (FO b a ((c[b.toNat]!:Int) !=46))else FO b a false
def EI(c:List Int)(b:Int)(a:Int→Option Bool)(d:Bool):Option Bool:=if d=true then ck (0≤b∧b<(c.length:Int)) (EH c b a ((c[b.toNat]!:Int) !=45))else EH c b a false
def Bu(N:Nat)(b:List Int):Nat→Int→Option Bool
  |0,_=>none
  |c+1,a=>if a<(b.length:Int)then ck (0≤a∧a<(b.length:Int)) ((EO N (b[a.toNat]!)).bind fun d=>if d=true then EI b a (Bu N b c) false else ck (0≤a∧a<(b.length:Int)) (if(b[a.toNat]!:Int)≥48 then ck (0≤a∧a<(b.length:Int)) (EI b a (Bu N b c) (!(decide ((b[a.toNat]!:Int)≤57))))else EI b a (Bu N b c) true))else some true
def FP(N:Nat)(b:List Int)(a:Bool):Option Bool:=if a=true then some false else Bu N b N 0
def GN(N:Nat)(a:List Int)(b:Bool):Option Bool:=if b=true then FP N a true else ck (0≤(0:Int)∧(0:Int)<(a.length:Int)) ((EO N (a[((0:Int)).toNat]!)).bind fun c=>FP N a (!(c)))
def Gh(N:Nat)(s:List UInt8):Option Bool:=(Fe N s).bind fun a=>if(a.length:Int)<1 then GN N a true else GN N a (decide ((a.length:Int)>24))
theorem LO(N s r)(a:Gh N s=some r):Gives prog 43 #[vS s] (vB r):=by
 unfold Gh at a
 refine As follows func43 rfl 63 rfl _ fz1 (fun L=> ?_)
 refine AZ rfl<|Ad<|rn 1 rfl<|kB a fun f M a=>gS (Ls:=[]) (cF eC) (fun o w z_=>KI N s _ M z_.view) (fun A g e=> ?_)
 refine rz rfl<|Aa fun K8 O=>Aa fun K9 P=>Ag<|rn 1 rfl<|rL (Sl.shp e) rfl<|rn 2 rfl<|AG 4 14 [(3,A)] vB (fun b_=>GN N f b_=some r) (fun Q a T=> ?_) (fun b=> ?_)
 ·unfold GN at a
  refine rn 1 rfl<|AG 6 21 [(3,A)] vB (fun b_=>FP N f b_=some r) (fun V a T=> ?_) (fun b=> ?_)
  ·unfold FP at a
   refine Ak<|P _ _ ?_
   refine aB a rfl (fun B a=> ?_) (fun B a=> ?_)
   ·refine AZ rfl ?_
    cases a
    exact aR eE1
   refine Ab<|O _ _ ?_
   refine Aa fun W C=>AZ rfl<|Ah<|Bo _ (Sub.pick [g] [0] rfl)<|AC (fun tt ll nn=> ∃(d:Nat) (c:Int),(Bu N f d c=some r)∧Is [(3,A),(4,vI c)] (List.flatten [g]) tt ll∧nn=d+1) (N+1) ?_ ?_
   ·exact⟨N,0,a,Af rfl rfl,rfl⟩
   clear a;rintro t l _ ⟨d,c,a,⟨⟨T,rfl⟩,rfl⟩,rfl⟩
   rcases d with _|d
   ·exact absurd a (by simp [Bu])
   rw [Bu] at a
   refine Aa fun X D=>Ad<|rn 2 rfl<|rL (Sl.shp e) rfl<|rz rfl<|aD a rfl (fun E a=> ?_) (fun E a=> ?_)
   ·refine Ab<|D _ _ ?_
    refine Aa fun Y F=>Ah<|Aa fun Z G=>Ag<|rn 2 rfl<|kC a fun h a=>rI (Sl.shp e) h rfl<|rE (Av e (Ai (Ls:=[g]) (k:=0) rfl rfl)) h 0 rfl<|kB a fun R H a=>rc _ (cF eB) (Kh N (f[c.toNat]!) _ H)<|rn 2 rfl<|AG 14 48 [(3,A),(4,vI c)] vB (fun b_=>EI f c (Bu N f d) b_=some r) (fun S a T=> ?_) (fun b=> ?_)
    ·unfold EI at a
     refine rn 1 rfl<|AG 6 55 [(3,A),(4,vI c)] vB (fun b_=>EH f c (Bu N f d) b_=some r) (fun U a T=> ?_) (fun b=> ?_)
     ·unfold EH at a
      refine rn 1 rfl<|AG 6 62 [(3,A),(4,vI c)] vB (fun b_=>FO c (Bu N f d) b_=some r) (fun aa a T=> ?_) (fun b=> ?_)
      ·unfold FO at a
       refine Ak<|G _ _ ?_
       refine aB a rfl (fun I a=> ?_) (fun I a=> ?_)
       ·refine AZ rfl ?_
        cases a
        exact aR eE1
       refine Ab<|F _ _ ?_
       refine Ag<|rn 1 rfl<|kC a fun J a=>rX J rfl<|rz rfl<|fg _ (Sub.pick [g] [0] rfl) ?_
       exact⟨d+1,by omega,d,(c+1),a,Af rfl rfl,rfl⟩
      rcases i:U with _|_
      ·replace a:=iB i a
       refine rn 6 rfl ?_
       first|exact b _ _ a rfl rfl|exact lx_cn _ _ (b _ _ a rfl rfl)
      replace a:=ifp i a
      refine rn 2 rfl<|r_y rfl<|kC a fun j a=>rI (Sl.shp e) j rfl<|r_y rfl<|rE (Av e (Ai (Ls:=[g]) (k:=0) rfl rfl)) j 0 rfl<|rn 2 rfl ?_
      first|exact b _ _ a rfl rfl|exact lx_cn _ _ (b _ _ a rfl rfl)
     rcases m:S with _|_
     ·replace a:=iB m a
      refine rn 6 rfl ?_
      first|exact b _ _ a rfl rfl|exact lx_cn _ _ (b _ _ a rfl rfl)
     replace a:=ifp m a
     refine rn 2 rfl<|r_y rfl<|kC a fun n a=>rI (Sl.shp e) n rfl<|r_y rfl<|rE (Av e (Ai (Ls:=[g]) (k:=0) rfl rfl)) n 0 rfl<|rn 2 rfl ?_
     first|exact b _ _ a rfl rfl|exact lx_cn _ _ (b _ _ a rfl rfl)
    rcases p:(!(R))with _|_
    ·replace a:=ifp (CN p) a
     refine rn 6 rfl<|BT rfl rfl<|BT rfl rfl<|BT rfl rfl<|BT rfl rfl<|BT rfl rfl<|rn 3 rfl ?_
     first|exact b _ _ a rfl rfl|exact lx_cn _ _ (b _ _ a rfl rfl)
    replace a:=ifn (Bool.eq_false_iff.1 (CM p)) a
    refine rn 2 rfl<|r_y rfl<|kC a fun q a=>rI (Sl.shp e) q rfl<|r_y rfl<|rE (Av e (Ai (Ls:=[g]) (k:=0) rfl rfl)) q 0 rfl<|rn 2 rfl ?_
    rcases u:(decide ((f[c.toNat]!:Int)≥48))with _|_
    ·replace a:=iF u a
     refine rn 8 rfl ?_
     first|exact b _ _ a rfl rfl|exact lx_cn _ _ (b _ _ a rfl rfl)
    replace a:=iD u a
    refine rn 2 rfl<|r_y rfl<|kC a fun v a=>rI (Sl.shp e) v rfl<|r_y rfl<|rE (Av e (Ai (Ls:=[g]) (k:=0) rfl rfl)) v 0 rfl<|rn 4 rfl ?_
    first|exact b _ _ a rfl rfl|exact lx_cn _ _ (b _ _ a rfl rfl)
   refine AD<|C _ _ ?_
   refine AZ rfl ?_
   cases a
   exact aR eE1
  rcases x:Q with _|_
  ·replace a:=iB x a
   refine rn 1 rfl<|r_y rfl<|kC a fun y a=>rI (Sl.shp e) y rfl<|r_y rfl<|rE (Av e (Ai (Ls:=[g]) (k:=0) rfl rfl)) y 0 rfl<|r_y rfl<|kB a fun ab K a=>rc _ (cF eB) (Kh N (f[((0:Int)).toNat]!) _ K)<|rn 2 rfl ?_
   first|exact b _ _ a rfl rfl|exact lx_cn _ _ (b _ _ a rfl rfl)
  replace a:=ifp x a
  refine rn 6 rfl ?_
  first|exact b _ _ a rfl rfl|exact lx_cn _ _ (b _ _ a rfl rfl)
 rcases z:(decide ((f.length:Int)<1))with _|_
 ·replace a:=iF z a
  refine rn 1 rfl<|r_y rfl<|rL (Sl.shp e) rfl<|rn 2 rfl ?_
  first|exact b _ _ a rfl rfl|exact lx_cn _ _ (b _ _ a rfl rfl)
 replace a:=iD z a
 refine rn 4 rfl ?_
 first|exact b _ _ a rfl rfl|exact lx_cn _ _ (b _ _ a rfl rfl)
def Cr(N:Nat)(s:List UInt8):Nat→Int→Option Bool
  |0,_=>none
  |c+1,a=>if a<(s.length:Int)then ck ((0:Int)≤a∧a<(s.length:Int)) (if((HQ s a):Int)=46 then some false else ck (R64 (a+1)) ((Cr N s c) (a+1)))else(Gh N s).bind fun b=>some b
def CO(N:Nat)(s:List UInt8):Option Bool:=Cr N s N 0
theorem Hn(N s r)(a:CO N s=some r):Gives prog 69 #[vS s] (vB r):=by
 unfold CO at a
 refine As follows func69 rfl 16 rfl _ fz1 (fun h=> ?_)
 refine AZ rfl<|Aa fun o i=>AZ rfl<|Ah<|AC (fun tt ll nn=> ∃(c:Nat) (b:Int),(Cr N s c b=some r)∧Is [(0,vS s),(3,vI b)] [] tt ll∧nn=c+1) (N+1) ?_ ?_
 ·exact⟨N,0,a,Af rfl rfl,rfl⟩
 clear a;rintro t l _ ⟨c,b,a,⟨⟨T,rfl⟩,rfl⟩,rfl⟩
 rcases c with _|c
 ·exact absurd a (by simp [Cr])
 rw [Cr] at a
 refine Aa fun p j=>Ad<|rn 2 rfl<|r_W (vI (s.length:Int)) rfl (LI rfl rfl rfl)<|rz rfl<|aD a rfl (fun k a=> ?_) (fun k a=> ?_)
 ·refine Ab<|j _ _ ?_
  refine Aa fun q m=>Ah<|Ad<|rn 2 rfl<|kC a fun d a=>r_W (Value.int .u8 (HQ s b)) rfl (ET (GL rfl d))<|rz rfl<|aE a rfl (fun e a=> ?_) (fun e a=> ?_)
  ·refine AZ rfl ?_
   cases a
   exact aR eE1
  refine Ab<|m _ _ ?_
  refine Ag<|rn 1 rfl<|kC a fun f a=>rX f rfl<|rz rfl<|fg _ (Sub.of suN) ?_
  exact⟨c+1,by omega,c,(b+1),a,Af rfl rfl,rfl⟩
 refine AD<|i _ _ ?_
 refine Ad<|rn 1 rfl<|kB a fun n g a=>rc _ (cF eH) (LO N s _ g)<|rz rfl ?_
 cases a
 exact aR eE1
def Gt(c:Int)(a:Bool):Option Int:=if a=true then ck (R64 (c+80)) (some (c+80))else if c=962 then some 963 else some c
def Ef(c:Int)(a:Bool):Option Int:=if a=true then ck (R64 (c+32)) (some (c+32))else if c≥1024 then Gt c (decide (c≤1039))else Gt c false
def CQ(c:Int)(a:Bool):Option Int:=if a=true then Ef c true else if c≥1040 then Ef c (decide (c≤1071))else Ef c false
def CR(c:Int)(a:Bool):Option Int:=if a=true then CQ c true else if c≥913 then if c≤937 then CQ c (c !=930)else CQ c false else CQ c false
def Ff(c:Int)(a:Bool):Option Int:=if a=true then CR c true else if c≥192 then if c≤222 then CR c (c !=215)else CR c false else CR c false
def GO(_:Nat)(c:Int):Option Int:=if c≥65 then Ff c (decide (c≤90))else Ff c false
theorem Qv(N c r)(a:GO N c=some r):Gives prog 162 #[vI c] (vI r):=by
 unfold GO at a
 refine As follows func162 rfl 54 rfl _ fz1 (fun w=> ?_)
 refine Ad<|r_V (vI 0) rfl<|Ak<|Aa fun G x=>Aa fun H y=>Ag<|r_R [vI c,vB (decide (c≥65)),vB (decide (c≥65))] rfl<|AG 3 8 [(0,vI c)] vB (fun b_=>Ff c b_=some r) (fun z a T=> ?_) (fun b=> ?_)
 ·unfold Ff at a
  refine r_V (vB z) rfl<|AG 11 20 [(0,vI c)] vB (fun b_=>CR c b_=some r) (fun A a T=> ?_) (fun b=> ?_)
  ·unfold CR at a
   refine r_V (vB A) rfl<|AG 11 32 [(0,vI c)] vB (fun b_=>CQ c b_=some r) (fun B a T=> ?_) (fun b=> ?_)
   ·unfold CQ at a
    refine r_V (vB B) rfl<|AG 7 40 [(0,vI c)] vB (fun b_=>Ef c b_=some r) (fun I a T=> ?_) (fun b=> ?_)
    ·unfold Ef at a
     refine Ak<|y _ _ ?_
     refine Bv _ rfl (fun s=> ?_) (fun s=> ?_)
     ·replace a:=ifp s a
      refine Ad<|r_V (vI c) rfl ?_
      obtain⟨f,a⟩:=Hq a
      refine r_X (vI (c+32)) rfl (Qu rfl f.1 f.2) rfl<|r_V (vI (c+32)) rfl<|Ak ?_
      cases a
      exact aR eE1
     replace a:=iB s a
     refine Ab<|x _ _ ?_
     refine Aa fun C t=>Aa fun D u=>Ag<|r_R [vI c,vB (decide (c≥1024)),vB (decide (c≥1024))] rfl<|AG 3 48 [(0,vI c)] vB (fun b_=>Gt c b_=some r) (fun E a T=> ?_) (fun b=> ?_)
     ·unfold Gt at a
      refine Ak<|u _ _ ?_
      refine Bv _ rfl (fun d=> ?_) (fun d=> ?_)
      ·replace a:=ifp d a
       refine Ad<|r_V (vI c) rfl ?_
       obtain⟨g,a⟩:=Hq a
       refine r_X (vI (c+80)) rfl (Qu rfl g.1 g.2) rfl<|r_V (vI (c+80)) rfl<|Ak ?_
       cases a
       exact aR eE1
      replace a:=iB d a
      refine Ab<|t _ _ ?_
      refine Aa fun F v=>Ad<|r_R [vI c,vB (c==962)] rfl<|Ak<|Bv _ rfl (fun e=> ?_) (fun e=> ?_)
      ·replace a:=iE e a
       refine Ad<|r_V (vI 963) rfl<|Ak ?_
       cases a
       exact aR eE1
      replace a:=iG e a
      refine Ab<|v _ _ ?_
      refine Ad<|r_R [vI c,vI c] rfl<|Ak ?_
      cases a
      exact aR eE1
     rcases h:(decide (c≥1024))with _|_
     ·replace a:=iF h a
      refine r_R [none,none,vB false] rfl ?_
      first|exact b _ _ a rfl rfl|exact lx_cn _ _ (b _ _ a rfl rfl)
     replace a:=iD h a
     refine r_R [vI c,vB (decide (c≤1039)),vB (decide (c≤1039))] rfl ?_
     first|exact b _ _ a rfl rfl|exact lx_cn _ _ (b _ _ a rfl rfl)
    rcases i:B with _|_
    ·replace a:=iB i a
     refine r_R [vI c,vB (decide (c≥1040)),vB (decide (c≥1040))] rfl ?_
     rcases j:(decide (c≥1040))with _|_
     ·replace a:=iF j a
      refine r_R [none,none,vB false,vB false] rfl ?_
      first|exact b _ _ a rfl rfl|exact lx_cn _ _ (b _ _ a rfl rfl)
     replace a:=iD j a
     refine r_R [vI c,vB (decide (c≤1071)),vB (decide (c≤1071)),vB (decide (c≤1071))] rfl ?_
     first|exact b _ _ a rfl rfl|exact lx_cn _ _ (b _ _ a rfl rfl)
    replace a:=ifp i a
    refine r_R [none,none,none] rfl<|BT rfl rfl<|BT rfl rfl<|r_R [none,vB true] rfl ?_
    first|exact b _ _ a rfl rfl|exact lx_cn _ _ (b _ _ a rfl rfl)
   rcases k:A with _|_
   ·replace a:=iB k a
    refine r_R [vI c,vB (decide (c≥913)),vB (decide (c≥913))] rfl ?_
    rcases l:(decide (c≥913))with _|_
    ·replace a:=iF l a
     refine r_R [none,none,vB false,vB false,none,none,vB false,vB false] rfl ?_
     first|exact b _ _ a rfl rfl|exact lx_cn _ _ (b _ _ a rfl rfl)
    replace a:=iD l a
    refine r_R [vI c,vB (decide (c≤937)),vB (decide (c≤937)),vB (decide (c≤937))] rfl ?_
    rcases m:(decide (c≤937))with _|_
    ·replace a:=iF m a
     refine r_R [none,none,vB false,vB false] rfl ?_
     first|exact b _ _ a rfl rfl|exact lx_cn _ _ (b _ _ a rfl rfl)
    replace a:=iD m a
    refine r_R [vI c,vB (c !=930),vB (c !=930),vB (c !=930)] rfl ?_
    first|exact b _ _ a rfl rfl|exact lx_cn _ _ (b _ _ a rfl rfl)
   replace a:=ifp k a
   refine r_R [none,none,none] rfl<|BT rfl rfl<|BT rfl rfl<|r_R [none,none] rfl<|BT rfl rfl<|BT rfl rfl<|r_R [none,vB true] rfl ?_
   first|exact b _ _ a rfl rfl|exact lx_cn _ _ (b _ _ a rfl rfl)
  rcases n:z with _|_
  ·replace a:=iB n a
   refine r_R [vI c,vB (decide (c≥192)),vB (decide (c≥192))] rfl ?_
   rcases o:(decide (c≥192))with _|_
   ·replace a:=iF o a
    refine r_R [none,none,vB false,vB false,none,none,vB false,vB false] rfl ?_
    first|exact b _ _ a rfl rfl|exact lx_cn _ _ (b _ _ a rfl rfl)
   replace a:=iD o a
   refine r_R [vI c,vB (decide (c≤222)),vB (decide (c≤222)),vB (decide (c≤222))] rfl ?_
   rcases p:(decide (c≤222))with _|_
   ·replace a:=iF p a
    refine r_R [none,none,vB false,vB false] rfl ?_
    first|exact b _ _ a rfl rfl|exact lx_cn _ _ (b _ _ a rfl rfl)
   replace a:=iD p a
   refine r_R [vI c,vB (c !=215),vB (c !=215),vB (c !=215)] rfl ?_
   first|exact b _ _ a rfl rfl|exact lx_cn _ _ (b _ _ a rfl rfl)
  replace a:=ifp n a
  refine r_R [none,none,none] rfl<|BT rfl rfl<|BT rfl rfl<|r_R [none,none] rfl<|BT rfl rfl<|BT rfl rfl<|r_R [none,vB true] rfl ?_
  first|exact b _ _ a rfl rfl|exact lx_cn _ _ (b _ _ a rfl rfl)
 rcases q:(decide (c≥65))with _|_
 ·replace a:=iF q a
  refine r_R [none,none,vB false] rfl ?_
  first|exact b _ _ a rfl rfl|exact lx_cn _ _ (b _ _ a rfl rfl)
 replace a:=iD q a
 refine r_R [vI c,vB (decide (c≤90)),vB (decide (c≤90))] rfl ?_
 first|exact b _ _ a rfl rfl|exact lx_cn _ _ (b _ _ a rfl rfl)
def CP(N:Nat):Nat→List Int→Int→Option (List Int)
  |0,_,_=>none
  |c+1,b,a=>if a<(b.length:Int)then ck (0≤a∧a<(b.length:Int)) ((GO N (b[a.toNat]!)).bind fun d=>ck (0≤a∧a<(b.length:Int)) (ck (R64 (a+1)) ((CP N c) ((b).set (a.toNat) d) (a+1))))else some b
def FQ(N:Nat)(s:List UInt8):Option (List Int):=(Fe N s).bind fun a=>CP N N a 0
theorem Lr(N s r)(a:FQ N s=some r)(ro:Ro):Does prog 108 #[vS s] ro [] (p1 (fun s_=>s_) 3 BJ r):=by
 unfold FQ at a
 refine Aj follows func108 rfl 22 rfl _ fz1 (fun v=> ?_)
 refine AZ rfl<|Ad<|rn 1 rfl<|kB a fun C x a=>gS (Ls:=[]) (cF eC) (fun o w z_=>KI N s _ x z_.view) (fun y B D=> ?_)
 refine rz rfl<|Aa fun G z=>AZ rfl<|Ah<|Bo _ (Sub.pick [B] [0] rfl)<|AC (fun tt ll nn=> ∃(e:Nat) (f:List Int) (d:Int),(CP N e f d=some r)∧ ∃(b:List Bl),Sl 3 BJ y f b∧Is [(3,y),(4,vI d)] (List.flatten [b]) tt ll∧nn=e+1) (N+1) ?_ ?_
 ·exact⟨N,C,0,a,B,D,Af rfl rfl,rfl⟩
 clear a;rintro t l _ ⟨e,f,d,a,b,c,⟨⟨T,rfl⟩,rfl⟩,rfl⟩
 rcases e with _|e
 ·exact absurd a (by simp [CP])
 rw [CP] at a
 refine Aa fun E i=>Ad<|rn 2 rfl<|rL (Sl.shp c) rfl<|rz rfl<|aD a rfl (fun j a=> ?_) (fun j a=> ?_)
 ·refine Ab<|i _ _ ?_
  refine Aa fun F m=>Ah<|Ag<|rn 4 rfl<|kC a fun g a=>rI (Sl.shp c) g rfl<|rE (Av c (Ai (Ls:=[b]) (k:=0) rfl rfl)) g 0 rfl<|kB a fun n p a=>rc _ (cF lv) (Qv N (f[d.toNat]!) _ p)<|kC a fun h a=>rI (Sl.shp c) h rfl<|QS (Ls:=[b]) 0 (En:=BJ) (f[d.toNat]!) n (d.toNat) 0 rfl rfl rfl c (De h) rfl rfl rfl (HN rfl) rfl (fun q A=> ?_)
  refine Ak<|m _ _ ?_
  refine Ag<|rn 1 rfl<|kC a fun u a=>rX u rfl<|rz rfl<|fg _ (Sub.pick [q] [0] rfl) ?_
  exact⟨e+1,by omega,e,(f).set (d.toNat) n,(d+1),a,q,A,Af rfl rfl,rfl⟩
 refine AD<|z _ _ ?_
 refine AZ rfl ?_
 cases a
 refine Bi (fun H=>Ha (v0:=y) c (EK (Sub.pick [b] [0] rfl)) rfl (Gj rfl))
def Ct(a:List Int)(b:List Int)(d:Int)(c:Int→Option Int)(e:Bool):Option Int:=if e=true then ck (0≤d∧d<(a.length:Int)) (ck (0≤d∧d<(b.length:Int)) (if(a[d.toNat]!:Int)<b[d.toNat]! then some (-1)else ck (0≤d∧d<(a.length:Int)) (ck (0≤d∧d<(b.length:Int)) (if(a[d.toNat]!:Int)>b[d.toNat]! then some 1 else ck (R64 (d+1)) (c (d+1))))))else if(a.length:Int)<(b.length:Int)then some (-1)else if(a.length:Int)>(b.length:Int)then some 1 else some 0
def BH(a:List Int)(b:List Int):Nat→Int→Option Int
  |0,_=>none
  |d+1,c=>if c<(a.length:Int)then Ct a b c (BH a b d) (decide (c<(b.length:Int)))else Ct a b c (BH a b d) false
def Gs(N:Nat)(a:List Int)(b:List Int):Option Int:=BH a b N 0
theorem Ph(N a b r)(c:Gs N a b=some r)(ro av)(ha:Rd BJ ro av a)(bv)(hb:Rd BJ ro bv b):Does prog 107 #[av,bv] ro [] (pV (vI r)):=by
 unfold Gs at c
 refine Aj follows func107 rfl 46 rfl _ fz2 (fun x=> ?_)
 refine AZ rfl<|Aa fun K z=>AZ rfl<|Ah<|AC (fun tt ll nn=> ∃(e:Nat) (d:Int),(BH a b e d=some r)∧Is [(0,av),(1,bv),(5,vI d)] [] tt ll∧nn=e+1) (N+1) ?_ ?_
 ·exact⟨N,0,c,Af rfl rfl,rfl⟩
 clear c;rintro t l _ ⟨e,d,c,⟨⟨T,rfl⟩,rfl⟩,rfl⟩
 rcases e with _|e
 ·exact absurd c (by simp [BH])
 rw [BH] at c
 refine Aa fun L A=>Aa fun M B=>Ag<|rn 2 rfl<|rL (Rd.shp ha) rfl<|rn 2 rfl<|AG 5 15 [(0,av),(1,bv),(5,vI d)] vB (fun b_=>Ct a b d (BH a b e) b_=some r) (fun O c T=> ?_) (fun y=> ?_)
 ·unfold Ct at c
  refine Ak<|B _ _ ?_
  refine aB c rfl (fun C c=> ?_) (fun C c=> ?_)
  ·refine Ab<|A _ _ ?_
   refine Aa fun P D=>Ah<|Aa fun E k=>Aa fun F m=>Hb [] (by decide+kernel) (fun G=>AH)<|rn 2 rfl<|kC c fun f c=>rI (Rd.shp ha) f rfl<|rE (Au ha) f 0 rfl<|rn 2 rfl<|kC c fun g c=>rI (Rd.shp hb) g rfl<|rE (Au hb) g 0 rfl<|rz rfl<|m _ _ ?_
   refine aD c rfl (fun n c=> ?_) (fun n c=> ?_)
   ·refine AZ rfl ?_
    cases c
    exact aR eV1
   refine Ab<|k _ _ ?_
   refine Aa fun H o=>Hb [] (by decide+kernel) (fun G=>AH)<|rn 2 rfl<|kC c fun h c=>rI (Rd.shp ha) h rfl<|rE (Au ha) h 0 rfl<|rn 2 rfl<|kC c fun i c=>rI (Rd.shp hb) i rfl<|rE (Au hb) i 0 rfl<|rz rfl<|o _ _ ?_
   refine aD c rfl (fun p c=> ?_) (fun p c=> ?_)
   ·refine AZ rfl ?_
    cases c
    exact aR eV1
   refine Ab<|D _ _ ?_
   refine Ag<|rn 1 rfl<|kC c fun q c=>rX q rfl<|rz rfl<|fg _ (Sub.of suN) ?_
   exact⟨e+1,by omega,e,(d+1),c,Af rfl rfl,rfl⟩
  refine AD<|z _ _ ?_
  refine Aa fun I s=>Ad<|rn 1 rfl<|rL (Rd.shp ha) rfl<|rn 1 rfl<|rL (Rd.shp hb) rfl<|rz rfl<|aD c rfl (fun u c=> ?_) (fun u c=> ?_)
  ·refine AZ rfl ?_
   cases c
   exact aR eV1
  refine Ab<|s _ _ ?_
  refine Aa fun J v=>Ad<|rn 1 rfl<|rL (Rd.shp ha) rfl<|rn 1 rfl<|rL (Rd.shp hb) rfl<|rz rfl<|aD c rfl (fun w c=> ?_) (fun w c=> ?_)
  ·refine AZ rfl ?_
   cases c
   exact aR eV1
  refine Ab<|v _ _ ?_
  refine AZ rfl ?_
  cases c
  exact aR eV1
 rcases j:(decide (d<(a.length:Int)))with _|_
 ·replace c:=iF j c
  refine rn 5 rfl ?_
  first|exact y _ _ c rfl rfl|exact lx_cn _ _ (y _ _ c rfl rfl)
 replace c:=iD j c
 refine rn 2 rfl<|r_y rfl<|rL (Rd.shp hb) rfl<|rn 2 rfl ?_
 first|exact y _ _ c rfl rfl|exact lx_cn _ _ (y _ _ c rfl rfl)
def Ee(N:Nat)(a:List UInt8)(b:List UInt8):Option Bool:=(FQ N a).bind fun d=>(FQ N b).bind fun e=>(Gs N d e).bind fun c=>some (c==0)
theorem Ik(N a b r)(c:Ee N a b=some r):Gives prog 70 #[vS a,vS b] (vB r):=by
 unfold Ee at c
 refine As follows func70 rfl 11 rfl _ fz2 (fun f=> ?_)
 refine AZ rfl<|Ad<|rn 1 rfl<|kB c fun m g c=>gS (Ls:=[]) (cF bN) (fun o w z_=>Lr N a _ g z_.view) (fun n h p=> ?_)
 refine rn 1 rfl<|kB c fun q i c=>gS (Ls:=[h]) (cF bN) (fun o w z_=>Lr N b _ i z_.view) (fun j d l=> ?_)
 refine kB c fun s e c=>gV _ (cF ml) (fun o w z_=>Ph N m q _ e z_.view n ((Av p (Ai (Ls:=[h,d]) (k:=0) rfl rfl)) o w z_) j ((Av l (Ai (Ls:=[h,d]) (k:=1) rfl rfl)) o w z_))<|rz rfl ?_
 cases c
 exact aR eE1
def Cq(e:Int)(a:List (Int×Int)→Int→Option (List (Int×Int)))(c:List (Int×Int))(d:Int)(b:List (Int×Int)→Int→Option (List (Int×Int)))(f:Bool):Option (List (Int×Int)):=if f=true then ck ((c).length+([(e,d)]).length≤8796093022208) (ck (R64 (d+1)) (b (c++([(e,d)])) (d+1)))else ck (R64 (e+1)) (a c (e+1))
def Bp(c:Int)(a:List (Int×Int)→Int→Option (List (Int×Int)))(d:Int):Nat→List (Int×Int)→Int→Option (List (Int×Int))
  |0,_,_=>none
  |f+1,b,e=>if e<d then Cq c a b e (Bp c a d f) (decide (d≤4))else Cq c a b e (Bp c a d f) false
def EN(N:Nat)(b:List (Int×Int))(c:Int)(a:List (Int×Int)→Int→Option (List (Int×Int)))(d:Int):Option (List (Int×Int)):=Bp c a d N b 0
def AV(N:Nat)(c:List (List UInt8×Int×Int)):Nat→List (Int×Int)→Int→Option (List (Int×Int))
  |0,_,_=>none
  |d+1,b,a=>if a<(c.length:Int)then ck (0≤a∧a<(c.length:Int)) (if((c[a.toNat]!).2.2:Int)=0 then EN N b a (AV N c d) 1 else EN N b a (AV N c d) ((c[a.toNat]!).2.2))else some b
def Cf(N:Nat)(a:List (List UInt8×Int×Int)):Option (List (Int×Int)):=AV N a N ([]) 0
theorem Gq(N l' r)(b:Cf N l'=some r)(ro l'v)(hl':Rd Ad5 ro l'v l'):Does prog 12 #[l'v] ro [] (p1 (fun s_=>s_) 74 Rc r):=by
 unfold Cf at b
 refine Aj follows func12 rfl 36 rfl _ fz1 (fun E=> ?_)
 refine AZ rfl<|AZ rfl<|Aa fun U G=>AZ rfl<|Ah<|Bo _ (Sub.pickE (Ls:=[[]]) (Ls0:=[]) rfl [0] rfl)<|AC (fun tt ll nn=> ∃(p:Nat) (h:List (Int×Int)) (f:Int),(AV N l' p h f=some r)∧ ∃(d:Value) (a:List Bl),Sl 74 Rc d h a∧Is [(0,l'v),(3,d),(4,vI f)] (List.flatten [a]) tt ll∧nn=p+1) (N+1) ?_ ?_
 ·exact⟨N,[],0,b,nS,[],Sl.nil,Af rfl rfl,rfl⟩
 clear b;rintro t l _ ⟨p,h,f,b,d,a,n,⟨⟨T,rfl⟩,rfl⟩,rfl⟩
 rcases p with _|p
 ·exact absurd b (by simp [AV])
 rw [AV] at b
 refine Aa fun V H=>Ad<|rn 2 rfl<|rL (Rd.shp hl') rfl<|rz rfl<|aD b rfl (fun I b=> ?_) (fun I b=> ?_)
 ·refine Ab<|H _ _ ?_
  refine Aa fun W J=>Ah<|Ad<|rn 2 rfl<|kC b fun q b=>rI (Rd.shp hl') q rfl<|rF (Rd.shp hl') (Bb q) rfl<|rE (Au hl') q 2 rfl<|rz rfl<|BR (fun tt ll=> ∃(j:Int),(EN N h f (AV N l' p) j=some r)∧Is [(0,l'v),(3,d),(4,vI f),(5,vI j)] (List.flatten [a]) tt ll) ?_ ?_
  ·refine AZ rfl<|aE b rfl (fun w b=> ?_) (fun w b=> ?_)
   ·refine Ag<|rz rfl<|fg _ (Sub.pick [a] [0] rfl) ?_
    exact⟨1,b,Af rfl rfl⟩
   refine Ab<|fg _ (Sub.pick [a] [0] rfl) ?_
   exact⟨(l'[f.toNat]!).2.2,b,Af rfl rfl⟩
  clear b;rintro t l ⟨j,b,⟨T,rfl⟩,rfl⟩
  unfold EN at b
  refine AZ rfl<|Ah<|Bo _ (Sub.pick [a] [0] rfl)<|AC (fun tt ll nn=> ∃(m:Nat) (g:List (Int×Int)) (i:Int),(Bp f (AV N l' p) j m g i=some r)∧ ∃(e:Value) (c:List Bl),Sl 74 Rc e g c∧Is [(0,l'v),(3,e),(4,vI f),(5,vI j),(6,vI i)] (List.flatten [c]) tt ll∧nn=m+1) (N+1) ?_ ?_
  ·exact⟨N,h,0,b,d,a,n,Af rfl rfl,rfl⟩
  clear b;rintro t l _ ⟨m,g,i,b,e,c,o,⟨⟨T,rfl⟩,rfl⟩,rfl⟩
  rcases m with _|m
  ·exact absurd b (by simp [Bp])
  rw [Bp] at b
  refine Aa fun O x=>Aa fun P y=>Ag<|rn 4 rfl<|AG 3 26 [(0,l'v),(3,e),(4,vI f),(5,vI j),(6,vI i)] vB (fun b_=>Cq f (AV N l' p) g i (Bp f (AV N l' p) j m) b_=some r) (fun Q b T=> ?_) (fun F=> ?_)
  ·unfold Cq at b
   refine Ak<|y _ _ ?_
   refine aB b rfl (fun z b=> ?_) (fun z b=> ?_)
   ·refine Ab<|x _ _ ?_
    refine Aa fun R A=>Ah<|Ag<|r_R [e,vI f,vI i] rfl<|r_W (vA #[vI f,vI i]) rfl (AS rfl rfl rfl rfl)<|gB (Ls:=[c]) 74 Rc [(f,i)] (fun S v K=> ?_)
    refine kC b fun s b=>cC 34<|JB (cs0:=[]) (Ls:=[c,v]) 0 (En:=Rc) rfl rfl rfl rfl rfl o rfl (Av K (Ai (Ls:=[c,v]) (k:=1) rfl rfl)) rfl rfl rfl rfl rfl (Ke s rfl) (Kc s rfl) rfl (fun L B M=> ?_)
    refine rz rfl<|A _ _ ?_
    refine Ag<|rn 1 rfl<|kC b fun C b=>rX C rfl<|rz rfl<|fg _ (Sub.pick [B,v] [0] rfl) ?_
    exact⟨m+1,by omega,m,(g++([(f,i)])),(i+1),b,L,B,M,Af rfl rfl,rfl⟩
   refine AD<|J _ _ ?_
   refine Ag<|rn 1 rfl<|kC b fun D b=>rX D rfl<|rz rfl<|fg _ (Sub.pick [c] [0] rfl) ?_
   exact⟨p+1,by omega,p,g,(f+1),b,e,c,o,Af rfl rfl,rfl⟩
  rcases u:(decide (i<j))with _|_
  ·replace b:=iF u b
   refine rn 3 rfl ?_
   first|exact F _ _ b rfl rfl|exact lx_cn _ _ (F _ _ b rfl rfl)
  replace b:=iD u b
  refine rn 3 rfl ?_
  first|exact F _ _ b rfl rfl|exact lx_cn _ _ (F _ _ b rfl rfl)
 refine AD<|G _ _ ?_
 refine AZ rfl ?_
 cases b
 refine Bi (fun X=>Ha (v0:=d) n (EK (Sub.pick [a] [0] rfl)) rfl (Gj rfl))
def FY(b:Int)(a:Int→Option Int)(c:Bool):Option Int:=if c=true then some 7 else ck (R64 (b+1)) (a (b+1))
def FZ(c:List (List UInt8×Int×Int))(b:Int)(a:Int→Option Int)(d:Bool):Option Int:=if d=true then some 5 else ck (0≤b∧b<(c.length:Int)) (if((c[b.toNat]!).2.2:Int)<0 then FY b a true else ck (0≤b∧b<(c.length:Int)) (FY b a (decide (((c[b.toNat]!).2.2:Int)>4))))
def Cs(N:Nat)(d:List ((List UInt8)×(List (List UInt8×Int))×Int×Int×Int×Int))(c:List (List UInt8×Int×Int))(b:Int)(a:Int→Option Int):Nat→Int→Option Int
  |0,_=>none
  |g+1,e=>if e<b then ck (0≤e∧e<(c.length:Int)) (ck (0≤b∧b<(c.length:Int)) ((Ee N ((c[e.toNat]!).1) ((c[b.toNat]!).1)).bind fun f=>if f=true then some 6 else ck (R64 (e+1)) ((Cs N d c b a g) (e+1))))else ck (0≤b∧b<(c.length:Int)) (if((c[b.toNat]!).2.1:Int)<0 then FZ c b a true else ck (0≤b∧b<(c.length:Int)) (FZ c b a (decide (((c[b.toNat]!).2.1:Int)≥(d.length:Int)))))
def Bq(N:Nat)(a:List ((List UInt8)×(List (List UInt8×Int))×Int×Int×Int×Int))(c:List (List UInt8×Int×Int)):Nat→Int→Option Int
  |0,_=>none
  |f+1,b=>if b<(c.length:Int)then ck (0≤b∧b<(c.length:Int)) ((CO N ((c[b.toNat]!).1)).bind fun e=>if e=true then Cs N a c b (Bq N a c f) N 0 else some 4)else(Cf N c).bind fun d=>if(d.length:Int)>32 then some 8 else some 0
def Gr(N:Nat)(a:List ((List UInt8)×(List (List UInt8×Int))×Int×Int×Int×Int))(b:List (List UInt8×Int×Int)):Option Int:=if(b.length:Int)>16 then some 2 else Bq N a b N 0
theorem Pg(N headers l' r)(a:Gr N headers l'=some r)(ro headersv)(hheaders:RdN Ad4 ro headersv headers)(l'v)(hl':Rd Ad5 ro l'v l'):Does prog 44 #[headersv,l'v] ro [] (pV (vI r)):=by
 unfold Gr at a
 refine Aj follows func44 rfl 73 rfl _ fz2 (fun R=> ?_)
 refine AZ rfl<|Aa fun K2 S=>Ad<|rn 1 rfl<|rL (Rd.shp hl') rfl<|rz rfl<|aD a rfl (fun U a=> ?_) (fun U a=> ?_)
 ·refine AZ rfl ?_
  cases a
  exact aR eV1
 refine Ab<|S _ _ ?_
 refine Aa fun K6 V=>AZ rfl<|Ah<|AC (fun tt ll nn=> ∃(n:Nat) (b:Int),(Bq N headers l' n b=some r)∧Is [(0,headersv),(1,l'v),(5,vI b)] [] tt ll∧nn=n+1) (N+1) ?_ ?_
 ·exact⟨N,0,a,Af rfl rfl,rfl⟩
 clear a;rintro t l _ ⟨n,b,a,⟨⟨T,rfl⟩,rfl⟩,rfl⟩
 rcases n with _|n
 ·exact absurd a (by simp [Bq])
 rw [Bq] at a
 refine Aa fun K9 W=>Ad<|rn 2 rfl<|rL (Rd.shp hl') rfl<|rz rfl<|aD a rfl (fun u a=> ?_) (fun u a=> ?_)
 ·refine Ab<|W _ _ ?_
  refine Aa fun Y v=>Ah<|Aa fun Z x=>Ad<|rn 2 rfl<|kC a fun d a=>rI (Rd.shp hl') d rfl<|rF (Rd.shp hl') (Bb d) rfl<|rE (Au hl') d 0 rfl<|kB a fun aa y a=>rc _ (cF TP) (Hn N ((l'[b.toNat]!).1) _ y)<|rz rfl<|Bv _ rfl (fun e=> ?_) (fun e=> ?_)
  ·replace a:=ifn (Bool.eq_false_iff.1 (CM e)) a
   refine AZ rfl ?_
   cases a
   exact aR eV1
  replace a:=ifp (CN e) a
  refine Ab<|x _ _ ?_
  refine Aa fun ab z=>AZ rfl<|Ah<|AC (fun tt ll nn=> ∃(c:Nat) (f:Int),(Cs N headers l' b (Bq N headers l' n) c f=some r)∧Is [(0,headersv),(1,l'v),(5,vI b),(6,vI f)] [] tt ll∧nn=c+1) (N+1) ?_ ?_
  ·exact⟨N,0,a,Af rfl rfl,rfl⟩
  clear a;rintro t l _ ⟨c,f,a,⟨⟨T,rfl⟩,rfl⟩,rfl⟩
  rcases c with _|c
  ·exact absurd a (by simp [Cs])
  rw [Cs] at a
  refine Aa fun ac A=>AZ rfl<|aD a rfl (fun B a=> ?_) (fun B a=> ?_)
  ·refine Ab<|A _ _ ?_
   refine Aa fun ad C=>Ah<|Aa fun ae D=>Hb [] (by decide+kernel) (fun hn=>AH)<|rn 2 rfl<|kC a fun g a=>rI (Rd.shp hl') g rfl<|rF (Rd.shp hl') (Bb g) rfl<|rE (Au hl') g 0 rfl<|rn 2 rfl<|kC a fun h a=>rI (Rd.shp hl') h rfl<|rF (Rd.shp hl') (Bb h) rfl<|rE (Au hl') h 0 rfl<|kB a fun af E a=>rc _ (cF Zi) (Ik N ((l'[f.toNat]!).1) ((l'[b.toNat]!).1) _ E)<|Ak<|D _ _ ?_
   refine aB a rfl (fun F a=> ?_) (fun F a=> ?_)
   ·refine AZ rfl ?_
    cases a
    exact aR eV1
   refine Ab<|C _ _ ?_
   refine Ag<|rn 1 rfl<|kC a fun G a=>rX G rfl<|rz rfl<|fg _ (Sub.of suN) ?_
   exact⟨c+1,by omega,c,(f+1),a,Af rfl rfl,rfl⟩
  refine AD<|z _ _ ?_
  refine Aa fun ag H=>Aa fun ah I=>Ag<|rn 2 rfl<|kC a fun i a=>rI (Rd.shp hl') i rfl<|rF (Rd.shp hl') (Bb i) rfl<|rE (Au hl') i 1 rfl<|rn 2 rfl<|AG 9 54 [(0,headersv),(1,l'v),(5,vI b)] vB (fun b_=>FZ l' b (Bq N headers l' n) b_=some r) (fun ai a T=> ?_) (fun p=> ?_)
  ·unfold FZ at a
   refine Ak<|I _ _ ?_
   refine aB a rfl (fun J a=> ?_) (fun J a=> ?_)
   ·refine AZ rfl ?_
    cases a
    exact aR eV1
   refine Ab<|H _ _ ?_
   refine Aa fun aj K=>Ag<|rn 2 rfl<|kC a fun j a=>rI (Rd.shp hl') j rfl<|rF (Rd.shp hl') (Bb j) rfl<|rE (Au hl') j 2 rfl<|rn 2 rfl<|AG 7 68 [(0,headersv),(1,l'v),(5,vI b)] vB (fun b_=>FY b (Bq N headers l' n) b_=some r) (fun ak a T=> ?_) (fun p=> ?_)
   ·unfold FY at a
    refine Ak<|K _ _ ?_
    refine aB a rfl (fun L a=> ?_) (fun L a=> ?_)
    ·refine AZ rfl ?_
     cases a
     exact aR eV1
    refine Ab<|v _ _ ?_
    refine Ag<|rn 1 rfl<|kC a fun M a=>rX M rfl<|rz rfl<|fg _ (Sub.of suN) ?_
    exact⟨n+1,by omega,n,(b+1),a,Af rfl rfl,rfl⟩
   rcases q:(decide (((l'[b.toNat]!).2.2:Int)<0))with _|_
   ·replace a:=iF q a
    refine rn 2 rfl<|r_y rfl<|kC a fun k a=>rI (Rd.shp hl') k rfl<|r_y rfl<|rF (Rd.shp hl') (Bb k) rfl<|r_y rfl<|rE (Au hl') k 2 rfl<|rn 2 rfl ?_
    first|exact p _ _ a rfl rfl|exact lx_cn _ _ (p _ _ a rfl rfl)
   replace a:=iD q a
   refine rn 7 rfl ?_
   first|exact p _ _ a rfl rfl|exact lx_cn _ _ (p _ _ a rfl rfl)
  rcases s:(decide (((l'[b.toNat]!).2.1:Int)<0))with _|_
  ·replace a:=iF s a
   refine rn 2 rfl<|r_y rfl<|kC a fun m a=>rI (Rd.shp hl') m rfl<|r_y rfl<|rF (Rd.shp hl') (Bb m) rfl<|r_y rfl<|rE (Au hl') m 1 rfl<|rn 1 rfl<|r_y rfl<|rL (RdN.shp hheaders) rfl<|rn 2 rfl ?_
   first|exact p _ _ a rfl rfl|exact lx_cn _ _ (p _ _ a rfl rfl)
  replace a:=iD s a
  refine rn 9 rfl ?_
  first|exact p _ _ a rfl rfl|exact lx_cn _ _ (p _ _ a rfl rfl)
 refine AD<|V _ _ ?_
 refine Aa fun al O=>Ad<|rn 1 rfl<|kB a fun am P a=>gS (Ls:=[]) (cF RX) (fun o w z_=>Gq N l' _ P z_.view l'v ((Au hl') o w z_)) (fun an ao X=> ?_)
 refine rL (Sl.shp X) rfl<|rz rfl<|aD a rfl (fun Q a=> ?_) (fun Q a=> ?_)
 ·refine AZ rfl ?_
  cases a
  exact aR eV1
 refine Ab<|O _ _ ?_
 refine AZ rfl ?_
 cases a
 exact aR eV1
def DT(m:An)(a:Int)(b:List (Int×Int))(c:Bool):Option ((List UInt8)×(List (List UInt8×Int))×Int×Int×Int×Int×Bool):=if c=true then some ([],[],0,0,0,0,false)else ck (0≤((m.2.2.1)[((b[a.toNat]!).1).toNat]!).2.1∧((m.2.2.1)[((b[a.toNat]!).1).toNat]!).2.1<(m.2.1.length:Int)) (some ((m.2.1)[(((m.2.2.1)[((b[a.toNat]!).1).toNat]!).2.1).toNat]!.1,(m.2.1)[(((m.2.2.1)[((b[a.toNat]!).1).toNat]!).2.1).toNat]!.2.1,(m.2.1)[(((m.2.2.1)[((b[a.toNat]!).1).toNat]!).2.1).toNat]!.2.2.1,(m.2.1)[(((m.2.2.1)[((b[a.toNat]!).1).toNat]!).2.1).toNat]!.2.2.2.1,(m.2.1)[(((m.2.2.1)[((b[a.toNat]!).1).toNat]!).2.1).toNat]!.2.2.2.2.1,(m.2.1)[(((m.2.2.1)[((b[a.toNat]!).1).toNat]!).2.1).toNat]!.2.2.2.2.2,true))
def DU(m:An)(a:Int)(b:List (Int×Int))(c:Bool):Option ((List UInt8)×(List (List UInt8×Int))×Int×Int×Int×Int×Bool):=if c=true then some ([],[],0,0,0,0,false)else ck (0≤a∧a<(b.length:Int)) (ck (0≤(b[a.toNat]!).1∧(b[a.toNat]!).1<(m.2.2.1.length:Int)) (if(((m.2.2.1)[((b[a.toNat]!).1).toNat]!).2.1:Int)<0 then DT m a b true else DT m a b (decide ((((m.2.2.1)[((b[a.toNat]!).1).toNat]!).2.1:Int)≥(m.2.1.length:Int)))))
def Bc(N:Nat)(m:An)(a:Int):Option ((List UInt8)×(List (List UInt8×Int))×Int×Int×Int×Int×Bool):=(Cf N m.2.2.1).bind fun b=>if a<0 then DU m a b true else DU m a b (decide (a≥(b.length:Int)))
theorem CX(N m slot r)(a:Bc N m slot=some r)(ro)(mv:Ay)(hm:Aa2 ro mv m):Does prog 46 #[vA (Ac m mv),vI slot] ro [] (pO [] (oR Ab4 ro r.2.1 fun s_0=>(oE (vT #[vA #[vS r.1,s_0,vI r.2.2.1,vI r.2.2.2.1,vI r.2.2.2.2.1,vI r.2.2.2.2.2.1],vB r.2.2.2.2.2.2]) []))):=by
 unfold Bc at a
 refine Ek follows func46 rfl 45 rfl _ fz2 (fun _ _ h_ _=>h_) (fun z=> ?_)
 refine Ad<|rA rfl fun l=>rA rfl fun n=>rz rfl<|Ad<|rm 2 [1] rfl<|kB a fun b C a=>gS (Ls:=[(RF n (Value.string (⟨#[]⟩)) nS 0 0 0 0),[(l,35,(Ac m mv))]]) (cF RX) (fun o w z_=>Gq N m.2.2.1 _ C z_.view mv.2.1 ((Au hm.2.1) o w z_)) (fun D A B=> ?_)
 refine rz rfl<|Aa fun F q=>Aa fun G s=>Ag<|rn 3 rfl<|AG 5 18 [(1,vI slot),(2,vP l 0),(4,vP n 0),(6,D)] vB (fun b_=>DU m slot b b_=some r) (fun H a T=> ?_) (fun f=> ?_)
 ·unfold DU at a
  refine Ak<|s _ _ ?_
  refine aB a rfl (fun t a=> ?_) (fun t a=> ?_)
  ·refine Ad<|r_W (vA #[Value.string (⟨#[]⟩),nS,vI 0,vI 0,vI 0,vI 0]) rfl (Ap rfl rfl rfl rfl)<|r_s (List.flatten [(RF n (Value.string (⟨#[]⟩)) nS 0 0 0 0),[(l,35,(Ac m mv))],A]) 0 _ _ _ _ _ (#[Value.string (⟨#[]⟩),nS,vI 0,vI 0,vI 0,vI 0]) rfl rfl rfl rfl (.ofS rfl rfl (Ae rfl (Ae (Shp.one (.inl ⟨rfl,rfl⟩)) (Ae rfl (Ae rfl (Ae rfl (Ae rfl Bt))))))) rfl rfl<|rz rfl ?_
   cases a
   refine Bi (fun p=>Je (v0:=vT #[vA #[Value.string (⟨#[]⟩),nS,vI 0,vI 0,vI 0,vI 0],vB false]) (O:=[]) (Jz (AT p 0 rfl rfl rfl) rfl) (Sub.nil _) ⟨nS,(.inl ⟨rfl,rfl⟩),⟨rfl,rfl⟩⟩)
  refine Ab<|q _ _ ?_
  refine Aa fun I u=>Hb [] (by decide+kernel) (fun p=>AH)<|rm 4 [1] rfl<|kC a fun d a=>rI (Sl.shp B) d rfl<|r_W (elA D (slot.toNat*2+0)) rfl (ET (eq 0 rfl rfl rfl rfl (Sl.shp B) (Bb d) (by decide)))<|rE (Av B (Ai (Ls:=[(RF n (Value.string (⟨#[]⟩)) nS 0 0 0 0),[(l,35,(Ac m mv))],A]) (k:=2) rfl rfl)) d 0 rfl<|kC a fun e a=>rI (Rd.shp hm.2.1) e rfl<|rF (Rd.shp hm.2.1) (Bb e) rfl<|rE (Au hm.2.1) e 1 rfl<|rz rfl<|u _ _ ?_
  refine Aa fun J v=>Aa fun K x=>Ag<|rn 3 rfl<|AG 6 38 [(2,vP l 0),(4,vP n 0),(7,vI (((m.2.2.1)[((b[slot.toNat]!).1).toNat]!).2.1))] vB (fun b_=>DT m slot b b_=some r) (fun L a T=> ?_) (fun f=> ?_)
  ·unfold DT at a
   refine Ak<|x _ _ ?_
   refine aB a rfl (fun y a=> ?_) (fun y a=> ?_)
   ·refine Ad<|r_W (vA #[Value.string (⟨#[]⟩),nS,vI 0,vI 0,vI 0,vI 0]) rfl (Ap rfl rfl rfl rfl)<|r_s (List.flatten [(RF n (Value.string (⟨#[]⟩)) nS 0 0 0 0),[(l,35,(Ac m mv))],A]) 0 _ _ _ _ _ (#[Value.string (⟨#[]⟩),nS,vI 0,vI 0,vI 0,vI 0]) rfl rfl rfl rfl (.ofS rfl rfl (Ae rfl (Ae (Shp.one (.inl ⟨rfl,rfl⟩)) (Ae rfl (Ae rfl (Ae rfl (Ae rfl Bt))))))) rfl rfl<|rz rfl ?_
    cases a
    refine Bi (fun p=>Je (v0:=vT #[vA #[Value.string (⟨#[]⟩),nS,vI 0,vI 0,vI 0,vI 0],vB false]) (O:=[]) (Jz (AT p 0 rfl rfl rfl) rfl) (Sub.nil _) ⟨nS,(.inl ⟨rfl,rfl⟩),⟨rfl,rfl⟩⟩)
   refine Ab<|v _ _ ?_
   refine Ad<|rm 3 [1] rfl<|kC a fun g a=> ?_
   obtain⟨_,⟨c,h,rfl⟩,hat27⟩:=RdN.at (E:=Ad4) hm.1 (De g)
   refine rI (RdN.shp hm.1) g rfl ?_
   refine MG (vA #[vS ((m.2.1)[(((m.2.2.1)[((b[slot.toNat]!).1).toNat]!).2.1).toNat]!.1),c,vI ((m.2.1)[(((m.2.2.1)[((b[slot.toNat]!).1).toNat]!).2.1).toNat]!.2.2.1),vI ((m.2.1)[(((m.2.2.1)[((b[slot.toNat]!).1).toNat]!).2.1).toNat]!.2.2.2.1),vI ((m.2.1)[(((m.2.2.1)[((b[slot.toNat]!).1).toNat]!).2.1).toNat]!.2.2.2.2.1),vI ((m.2.1)[(((m.2.2.1)[((b[slot.toNat]!).1).toNat]!).2.1).toNat]!.2.2.2.2.2)]) (vs:=[vS ((m.2.1)[(((m.2.2.1)[((b[slot.toNat]!).1).toNat]!).2.1).toNat]!.1),c,vI ((m.2.1)[(((m.2.2.1)[((b[slot.toNat]!).1).toNat]!).2.1).toNat]!.2.2.1),vI ((m.2.1)[(((m.2.2.1)[((b[slot.toNat]!).1).toNat]!).2.1).toNat]!.2.2.2.1),vI ((m.2.1)[(((m.2.2.1)[((b[slot.toNat]!).1).toNat]!).2.1).toNat]!.2.2.2.2.1),vI ((m.2.1)[(((m.2.2.1)[((b[slot.toNat]!).1).toNat]!).2.1).toNat]!.2.2.2.2.2)]) ((((m.2.2.1)[((b[slot.toNat]!).1).toNat]!).2.1).toNat*6) 0 rfl rfl (fun o w z_=>At.mono z_.ro_cell hat27) rfl ?_
   refine r_s (List.flatten [(iL n ((m.2.1)[(((m.2.2.1)[((b[slot.toNat]!).1).toNat]!).2.1).toNat]!.1) c ((m.2.1)[(((m.2.2.1)[((b[slot.toNat]!).1).toNat]!).2.1).toNat]!.2.2.1) ((m.2.1)[(((m.2.2.1)[((b[slot.toNat]!).1).toNat]!).2.1).toNat]!.2.2.2.1) ((m.2.1)[(((m.2.2.1)[((b[slot.toNat]!).1).toNat]!).2.1).toNat]!.2.2.2.2.1) ((m.2.1)[(((m.2.2.1)[((b[slot.toNat]!).1).toNat]!).2.1).toNat]!.2.2.2.2.2)),[(l,35,(Ac m mv))],A]) 0 _ _ _ _ _ (#[vS ((m.2.1)[(((m.2.2.1)[((b[slot.toNat]!).1).toNat]!).2.1).toNat]!.1),c,vI ((m.2.1)[(((m.2.2.1)[((b[slot.toNat]!).1).toNat]!).2.1).toNat]!.2.2.1),vI ((m.2.1)[(((m.2.2.1)[((b[slot.toNat]!).1).toNat]!).2.1).toNat]!.2.2.2.1),vI ((m.2.1)[(((m.2.2.1)[((b[slot.toNat]!).1).toNat]!).2.1).toNat]!.2.2.2.2.1),vI ((m.2.1)[(((m.2.2.1)[((b[slot.toNat]!).1).toNat]!).2.1).toNat]!.2.2.2.2.2)]) rfl rfl rfl rfl (.ofS rfl rfl (Ae rfl (Ae (Shp.one (Rd.shp h)) (Ae rfl (Ae rfl (Ae rfl (Ae rfl Bt))))))) rfl rfl ?_
   refine rz rfl ?_
   cases a
   refine Bi (fun p=>Je (v0:=vT #[vA #[vS ((m.2.1)[(((m.2.2.1)[((b[slot.toNat]!).1).toNat]!).2.1).toNat]!.1),c,vI ((m.2.1)[(((m.2.2.1)[((b[slot.toNat]!).1).toNat]!).2.1).toNat]!.2.2.1),vI ((m.2.1)[(((m.2.2.1)[((b[slot.toNat]!).1).toNat]!).2.1).toNat]!.2.2.2.1),vI ((m.2.1)[(((m.2.2.1)[((b[slot.toNat]!).1).toNat]!).2.1).toNat]!.2.2.2.2.1),vI ((m.2.1)[(((m.2.2.1)[((b[slot.toNat]!).1).toNat]!).2.1).toNat]!.2.2.2.2.2)],vB true]) (O:=[]) (Jz (AT p 0 rfl rfl rfl) rfl) (Sub.nil _) ⟨c,h,⟨rfl,rfl⟩⟩)
  rcases i:(decide ((((m.2.2.1)[((b[slot.toNat]!).1).toNat]!).2.1:Int)<0))with _|_
  ·replace a:=iF i a
   refine rn 2 rfl<|r_y rfl<|rm 1 [1] rfl<|r_y rfl<|rL (RdN.shp hm.1) rfl<|rn 2 rfl ?_
   first|exact f _ _ a rfl rfl|exact lx_cn _ _ (f _ _ a rfl rfl)
  replace a:=iD i a
  refine rn 6 rfl ?_
  first|exact f _ _ a rfl rfl|exact lx_cn _ _ (f _ _ a rfl rfl)
 rcases j:(decide (slot<0))with _|_
 ·replace a:=iF j a
  refine rn 2 rfl<|r_y rfl<|rL (Sl.shp B) rfl<|rn 2 rfl ?_
  first|exact f _ _ a rfl rfl|exact lx_cn _ _ (f _ _ a rfl rfl)
 replace a:=iD j a
 refine rn 5 rfl ?_
 first|exact f _ _ a rfl rfl|exact lx_cn _ _ (f _ _ a rfl rfl)
def Hk(_:Nat):Option (List (List UInt8×Int×Int×Int×Int×Int×Int×Int×List UInt8)):=some ([(([112,117,115,104]:List UInt8),0,1,0,0,0,0,0,([80,117,115,104]:List UInt8)),(([102,105,101,108,100]:List UInt8),0,1,2,0,31,0,15,([80,108,97,99,101]:List UInt8)),(([109,101,116,97]:List UInt8),0,1,1,0,23,0,0,([67,101,108,108]:List UInt8)),(([112,97,114,97,109]:List UInt8),0,1,1,0,7,0,0,([67,101,108,108]:List UInt8)),(([118,97,108,105,100]:List UInt8),0,1,1,0,31,0,0,([83,108,111,116]:List UInt8)),(([114,101,103]:List UInt8),1,1,1,0,7,0,0,([67,101,108,108]:List UInt8)),(([110,111,116]:List UInt8),1,1,0,0,0,0,0,([79,110,101]:List UInt8)),(([110,101,103]:List UInt8),1,1,0,0,0,0,0,([79,110,101]:List UInt8)),(([115,104,108]:List UInt8),1,1,1,0,128,0,0,([79,110,101]:List UInt8)),(([115,104,114]:List UInt8),1,1,1,0,128,0,0,([79,110,101]:List UInt8)),(([115,108,105,99,101]:List UInt8),1,1,2,0,127,0,127,([80,97,114,116]:List UInt8)),(([99,97,115,116]:List UInt8),1,1,1,1,128,0,0,([79,110,101]:List UInt8)),(([97,100,100]:List UInt8),2,1,0,0,0,0,0,([84,119,111]:List UInt8)),(([115,117,98]:List UInt8),2,1,0,0,0,0,0,([84,119,111]:List UInt8)),(([97,100,100,45,115,97,116]:List UInt8),2,1,0,0,0,0,0,([84,119,111]:List UInt8)),(([115,117,98,45,115,97,116]:List UInt8),2,1,0,0,0,0,0,([84,119,111]:List UInt8)),(([97,110,100]:List UInt8),2,1,0,0,0,0,0,([84,119,111]:List UInt8)),(([111,114]:List UInt8),2,1,0,0,0,0,0,([84,119,111]:List UInt8)),(([120,111,114]:List UInt8),2,1,0,0,0,0,0,([84,119,111]:List UInt8)),(([99,97,116]:List UInt8),2,1,0,0,0,0,0,([84,119,111]:List UInt8)),(([101,113]:List UInt8),2,1,0,0,0,0,0,([84,119,111]:List UInt8)),(([108,101,115,115]:List UInt8),2,1,0,0,0,0,0,([84,119,111]:List UInt8)),(([112,117,116,45,102,105,101,108,100]:List UInt8),1,0,2,0,31,0,15,([80,108,97,99,101]:List UInt8)),(([112,117,116,45,109,101,116,97]:List UInt8),1,0,1,0,23,0,0,([67,101,108,108]:List UInt8)),(([112,117,116,45,114,101,103]:List UInt8),2,0,1,0,7,0,0,([67,101,108,108]:List UInt8)),(([115,104,111,119]:List UInt8),0,0,1,0,31,0,0,([83,108,111,116]:List UInt8)),(([104,105,100,101]:List UInt8),0,0,1,0,31,0,0,([83,108,111,116]:List UInt8)),(([112,117,115,104,45,104,101,97,100]:List UInt8),0,0,2,0,15,1,4,([72,101,97,100,115]:List UInt8)),(([112,111,112,45,104,101,97,100]:List UInt8),0,0,2,0,15,1,4,([72,101,97,100,115]:List UInt8)),(([99,111,117,110,116]:List UInt8),1,0,1,0,7,0,0,([67,101,108,108]:List UInt8)),(([109,101,116,101,114]:List UInt8),1,1,1,0,7,0,0,([67,101,108,108]:List UInt8)),(([106,117,109,112]:List UInt8),0,0,1,0,64,0,0,([74,117,109,112]:List UInt8)),(([106,117,109,112,45,122,101,114,111]:List UInt8),1,0,1,0,64,0,0,([74,117,109,112]:List UInt8)),(([106,117,109,112,45,103,111,110,101]:List UInt8),0,0,2,0,31,0,64,([71,111,110,101]:List UInt8)),(([115,116,111,112]:List UInt8),0,0,0,0,0,0,0,([83,116,111,112]:List UInt8))])
theorem Qj(N r)(b:Hk N=some r)(ro:Ro):Does prog 20 #[] ro [] (p1 (fun s_=>s_) 76 Ny r):=by
 unfold Hk at b
 refine Aj follows func20 rfl 79 rfl _ fz0 (fun a=> ?_)
 refine AZ rfl<|Ad<|r_W (vA #[Value.string (⟨#[112,117,115,104]⟩),vI 0,vI 1,vI 0,vI 0,vI 0,vI 0,vI 0,Value.string (⟨#[80,117,115,104]⟩)]) rfl (Ap rfl rfl rfl rfl)<|r_W (vA #[vI 0,vI 31]) rfl (AS rfl rfl rfl rfl)<|r_W (vA #[vI 0,vI 15]) rfl (AS rfl rfl rfl rfl)<|r_W (vA #[Value.string (⟨#[102,105,101,108,100]⟩),vI 0,vI 1,vI 2,vI 0,vI 31,vI 0,vI 15,Value.string (⟨#[80,108,97,99,101]⟩)]) rfl (Ap rfl rfl rfl (by kernel_rfl))<|r_W (vA #[vI 0,vI 23]) rfl (AS rfl rfl rfl rfl)<|r_W (vA #[vI 0,vI 0]) rfl (AS rfl rfl rfl rfl) ?_
 refine r_W (vA #[Value.string (⟨#[109,101,116,97]⟩),vI 0,vI 1,vI 1,vI 0,vI 23,vI 0,vI 0,Value.string (⟨#[67,101,108,108]⟩)]) rfl (Ap rfl rfl rfl (by kernel_rfl))<|r_W (vA #[vI 0,vI 7]) rfl (AS rfl rfl rfl rfl)<|r_W (vA #[vI 0,vI 0]) rfl (AS rfl rfl rfl rfl)<|r_W (vA #[Value.string (⟨#[112,97,114,97,109]⟩),vI 0,vI 1,vI 1,vI 0,vI 7,vI 0,vI 0,Value.string (⟨#[67,101,108,108]⟩)]) rfl (Ap rfl rfl rfl (by kernel_rfl))<|r_W (vA #[vI 0,vI 31]) rfl (AS rfl rfl rfl rfl)<|r_W (vA #[vI 0,vI 0]) rfl (AS rfl rfl rfl rfl) ?_
 refine r_W (vA #[Value.string (⟨#[118,97,108,105,100]⟩),vI 0,vI 1,vI 1,vI 0,vI 31,vI 0,vI 0,Value.string (⟨#[83,108,111,116]⟩)]) rfl (Ap rfl rfl rfl (by kernel_rfl))<|r_W (vA #[vI 0,vI 7]) rfl (AS rfl rfl rfl rfl)<|r_W (vA #[vI 0,vI 0]) rfl (AS rfl rfl rfl rfl)<|r_W (vA #[Value.string (⟨#[114,101,103]⟩),vI 1,vI 1,vI 1,vI 0,vI 7,vI 0,vI 0,Value.string (⟨#[67,101,108,108]⟩)]) rfl (Ap rfl rfl rfl (by kernel_rfl))<|r_W (vA #[Value.string (⟨#[110,111,116]⟩),vI 1,vI 1,vI 0,vI 0,vI 0,vI 0,vI 0,Value.string (⟨#[79,110,101]⟩)]) rfl (Ap rfl rfl rfl rfl) ?_
 refine r_W (vA #[Value.string (⟨#[110,101,103]⟩),vI 1,vI 1,vI 0,vI 0,vI 0,vI 0,vI 0,Value.string (⟨#[79,110,101]⟩)]) rfl (Ap rfl rfl rfl rfl)<|r_W (vA #[vI 0,vI 128]) rfl (AS rfl rfl rfl rfl)<|r_W (vA #[vI 0,vI 0]) rfl (AS rfl rfl rfl rfl)<|r_W (vA #[Value.string (⟨#[115,104,108]⟩),vI 1,vI 1,vI 1,vI 0,vI 128,vI 0,vI 0,Value.string (⟨#[79,110,101]⟩)]) rfl (Ap rfl rfl rfl (by kernel_rfl))<|r_W (vA #[vI 0,vI 128]) rfl (AS rfl rfl rfl rfl)<|r_W (vA #[vI 0,vI 0]) rfl (AS rfl rfl rfl rfl) ?_
 refine r_W (vA #[Value.string (⟨#[115,104,114]⟩),vI 1,vI 1,vI 1,vI 0,vI 128,vI 0,vI 0,Value.string (⟨#[79,110,101]⟩)]) rfl (Ap rfl rfl rfl (by kernel_rfl))<|r_W (vA #[vI 0,vI 127]) rfl (AS rfl rfl rfl rfl)<|r_W (vA #[vI 0,vI 127]) rfl (AS rfl rfl rfl rfl)<|r_W (vA #[Value.string (⟨#[115,108,105,99,101]⟩),vI 1,vI 1,vI 2,vI 0,vI 127,vI 0,vI 127,Value.string (⟨#[80,97,114,116]⟩)]) rfl (Ap rfl rfl rfl (by kernel_rfl))<|r_W (vA #[vI 1,vI 128]) rfl (AS rfl rfl rfl rfl)<|r_W (vA #[vI 0,vI 0]) rfl (AS rfl rfl rfl rfl) ?_
 refine r_W (vA #[Value.string (⟨#[99,97,115,116]⟩),vI 1,vI 1,vI 1,vI 1,vI 128,vI 0,vI 0,Value.string (⟨#[79,110,101]⟩)]) rfl (Ap rfl rfl rfl (by kernel_rfl))<|r_W (vA #[Value.string (⟨#[97,100,100]⟩),vI 2,vI 1,vI 0,vI 0,vI 0,vI 0,vI 0,Value.string (⟨#[84,119,111]⟩)]) rfl (Ap rfl rfl rfl rfl)<|r_W (vA #[Value.string (⟨#[115,117,98]⟩),vI 2,vI 1,vI 0,vI 0,vI 0,vI 0,vI 0,Value.string (⟨#[84,119,111]⟩)]) rfl (Ap rfl rfl rfl rfl)<|r_W (vA #[Value.string (⟨#[97,100,100,45,115,97,116]⟩),vI 2,vI 1,vI 0,vI 0,vI 0,vI 0,vI 0,Value.string (⟨#[84,119,111]⟩)]) rfl (Ap rfl rfl rfl rfl) ?_
 refine r_W (vA #[Value.string (⟨#[115,117,98,45,115,97,116]⟩),vI 2,vI 1,vI 0,vI 0,vI 0,vI 0,vI 0,Value.string (⟨#[84,119,111]⟩)]) rfl (Ap rfl rfl rfl rfl)<|r_W (vA #[Value.string (⟨#[97,110,100]⟩),vI 2,vI 1,vI 0,vI 0,vI 0,vI 0,vI 0,Value.string (⟨#[84,119,111]⟩)]) rfl (Ap rfl rfl rfl rfl)<|r_W (vA #[Value.string (⟨#[111,114]⟩),vI 2,vI 1,vI 0,vI 0,vI 0,vI 0,vI 0,Value.string (⟨#[84,119,111]⟩)]) rfl (Ap rfl rfl rfl rfl)<|r_W (vA #[Value.string (⟨#[120,111,114]⟩),vI 2,vI 1,vI 0,vI 0,vI 0,vI 0,vI 0,Value.string (⟨#[84,119,111]⟩)]) rfl (Ap rfl rfl rfl rfl) ?_
 refine r_W (vA #[Value.string (⟨#[99,97,116]⟩),vI 2,vI 1,vI 0,vI 0,vI 0,vI 0,vI 0,Value.string (⟨#[84,119,111]⟩)]) rfl (Ap rfl rfl rfl rfl)<|r_W (vA #[Value.string (⟨#[101,113]⟩),vI 2,vI 1,vI 0,vI 0,vI 0,vI 0,vI 0,Value.string (⟨#[84,119,111]⟩)]) rfl (Ap rfl rfl rfl rfl)<|r_W (vA #[Value.string (⟨#[108,101,115,115]⟩),vI 2,vI 1,vI 0,vI 0,vI 0,vI 0,vI 0,Value.string (⟨#[84,119,111]⟩)]) rfl (Ap rfl rfl rfl rfl)<|r_W (vA #[vI 0,vI 31]) rfl (AS rfl rfl rfl rfl)<|r_W (vA #[vI 0,vI 15]) rfl (AS rfl rfl rfl rfl) ?_
 refine r_W (vA #[Value.string (⟨#[112,117,116,45,102,105,101,108,100]⟩),vI 1,vI 0,vI 2,vI 0,vI 31,vI 0,vI 15,Value.string (⟨#[80,108,97,99,101]⟩)]) rfl (Ap rfl rfl rfl (by kernel_rfl))<|r_W (vA #[vI 0,vI 23]) rfl (AS rfl rfl rfl rfl)<|r_W (vA #[vI 0,vI 0]) rfl (AS rfl rfl rfl rfl)<|r_W (vA #[Value.string (⟨#[112,117,116,45,109,101,116,97]⟩),vI 1,vI 0,vI 1,vI 0,vI 23,vI 0,vI 0,Value.string (⟨#[67,101,108,108]⟩)]) rfl (Ap rfl rfl rfl (by kernel_rfl))<|r_W (vA #[vI 0,vI 7]) rfl (AS rfl rfl rfl rfl)<|r_W (vA #[vI 0,vI 0]) rfl (AS rfl rfl rfl rfl) ?_
 refine r_W (vA #[Value.string (⟨#[112,117,116,45,114,101,103]⟩),vI 2,vI 0,vI 1,vI 0,vI 7,vI 0,vI 0,Value.string (⟨#[67,101,108,108]⟩)]) rfl (Ap rfl rfl rfl (by kernel_rfl))<|r_W (vA #[vI 0,vI 31]) rfl (AS rfl rfl rfl rfl)<|r_W (vA #[vI 0,vI 0]) rfl (AS rfl rfl rfl rfl)<|r_W (vA #[Value.string (⟨#[115,104,111,119]⟩),vI 0,vI 0,vI 1,vI 0,vI 31,vI 0,vI 0,Value.string (⟨#[83,108,111,116]⟩)]) rfl (Ap rfl rfl rfl (by kernel_rfl))<|r_W (vA #[vI 0,vI 31]) rfl (AS rfl rfl rfl rfl)<|r_W (vA #[vI 0,vI 0]) rfl (AS rfl rfl rfl rfl) ?_
 refine r_W (vA #[Value.string (⟨#[104,105,100,101]⟩),vI 0,vI 0,vI 1,vI 0,vI 31,vI 0,vI 0,Value.string (⟨#[83,108,111,116]⟩)]) rfl (Ap rfl rfl rfl (by kernel_rfl))<|r_W (vA #[vI 0,vI 15]) rfl (AS rfl rfl rfl rfl)<|r_W (vA #[vI 1,vI 4]) rfl (AS rfl rfl rfl rfl)<|r_W (vA #[Value.string (⟨#[112,117,115,104,45,104,101,97,100]⟩),vI 0,vI 0,vI 2,vI 0,vI 15,vI 1,vI 4,Value.string (⟨#[72,101,97,100,115]⟩)]) rfl (Ap rfl rfl rfl (by kernel_rfl))<|r_W (vA #[vI 0,vI 15]) rfl (AS rfl rfl rfl rfl)<|r_W (vA #[vI 1,vI 4]) rfl (AS rfl rfl rfl rfl) ?_
 refine r_W (vA #[Value.string (⟨#[112,111,112,45,104,101,97,100]⟩),vI 0,vI 0,vI 2,vI 0,vI 15,vI 1,vI 4,Value.string (⟨#[72,101,97,100,115]⟩)]) rfl (Ap rfl rfl rfl (by kernel_rfl))<|r_W (vA #[vI 0,vI 7]) rfl (AS rfl rfl rfl rfl)<|r_W (vA #[vI 0,vI 0]) rfl (AS rfl rfl rfl rfl)<|r_W (vA #[Value.string (⟨#[99,111,117,110,116]⟩),vI 1,vI 0,vI 1,vI 0,vI 7,vI 0,vI 0,Value.string (⟨#[67,101,108,108]⟩)]) rfl (Ap rfl rfl rfl (by kernel_rfl))<|r_W (vA #[vI 0,vI 7]) rfl (AS rfl rfl rfl rfl)<|r_W (vA #[vI 0,vI 0]) rfl (AS rfl rfl rfl rfl) ?_
 refine r_W (vA #[Value.string (⟨#[109,101,116,101,114]⟩),vI 1,vI 1,vI 1,vI 0,vI 7,vI 0,vI 0,Value.string (⟨#[67,101,108,108]⟩)]) rfl (Ap rfl rfl rfl (by kernel_rfl))<|r_W (vA #[vI 0,vI 64]) rfl (AS rfl rfl rfl rfl)<|r_W (vA #[vI 0,vI 0]) rfl (AS rfl rfl rfl rfl)<|r_W (vA #[Value.string (⟨#[106,117,109,112]⟩),vI 0,vI 0,vI 1,vI 0,vI 64,vI 0,vI 0,Value.string (⟨#[74,117,109,112]⟩)]) rfl (Ap rfl rfl rfl (by kernel_rfl))<|r_W (vA #[vI 0,vI 64]) rfl (AS rfl rfl rfl rfl)<|r_W (vA #[vI 0,vI 0]) rfl (AS rfl rfl rfl rfl) ?_
 refine r_W (vA #[Value.string (⟨#[106,117,109,112,45,122,101,114,111]⟩),vI 1,vI 0,vI 1,vI 0,vI 64,vI 0,vI 0,Value.string (⟨#[74,117,109,112]⟩)]) rfl (Ap rfl rfl rfl (by kernel_rfl))<|r_W (vA #[vI 0,vI 31]) rfl (AS rfl rfl rfl rfl)<|r_W (vA #[vI 0,vI 64]) rfl (AS rfl rfl rfl rfl)<|r_W (vA #[Value.string (⟨#[106,117,109,112,45,103,111,110,101]⟩),vI 0,vI 0,vI 2,vI 0,vI 31,vI 0,vI 64,Value.string (⟨#[71,111,110,101]⟩)]) rfl (Ap rfl rfl rfl (by kernel_rfl)) ?_
 refine r_W (vA #[Value.string (⟨#[115,116,111,112]⟩),vI 0,vI 0,vI 0,vI 0,vI 0,vI 0,vI 0,Value.string (⟨#[83,116,111,112]⟩)]) rfl (Ap rfl rfl rfl rfl)<|cD 78 ?_
 refine IW (cs0:=[]) (Ls:=[]) 76 Ny [(([112,117,115,104]:List UInt8),0,1,0,0,0,0,0,([80,117,115,104]:List UInt8)),(([102,105,101,108,100]:List UInt8),0,1,2,0,31,0,15,([80,108,97,99,101]:List UInt8)),(([109,101,116,97]:List UInt8),0,1,1,0,23,0,0,([67,101,108,108]:List UInt8)),(([112,97,114,97,109]:List UInt8),0,1,1,0,7,0,0,([67,101,108,108]:List UInt8)),(([118,97,108,105,100]:List UInt8),0,1,1,0,31,0,0,([83,108,111,116]:List UInt8)),(([114,101,103]:List UInt8),1,1,1,0,7,0,0,([67,101,108,108]:List UInt8)),(([110,111,116]:List UInt8),1,1,0,0,0,0,0,([79,110,101]:List UInt8)),(([110,101,103]:List UInt8),1,1,0,0,0,0,0,([79,110,101]:List UInt8)),(([115,104,108]:List UInt8),1,1,1,0,128,0,0,([79,110,101]:List UInt8)),(([115,104,114]:List UInt8),1,1,1,0,128,0,0,([79,110,101]:List UInt8)),(([115,108,105,99,101]:List UInt8),1,1,2,0,127,0,127,([80,97,114,116]:List UInt8)),(([99,97,115,116]:List UInt8),1,1,1,1,128,0,0,([79,110,101]:List UInt8)),(([97,100,100]:List UInt8),2,1,0,0,0,0,0,([84,119,111]:List UInt8)),(([115,117,98]:List UInt8),2,1,0,0,0,0,0,([84,119,111]:List UInt8)),(([97,100,100,45,115,97,116]:List UInt8),2,1,0,0,0,0,0,([84,119,111]:List UInt8)),(([115,117,98,45,115,97,116]:List UInt8),2,1,0,0,0,0,0,([84,119,111]:List UInt8)),(([97,110,100]:List UInt8),2,1,0,0,0,0,0,([84,119,111]:List UInt8)),(([111,114]:List UInt8),2,1,0,0,0,0,0,([84,119,111]:List UInt8)),(([120,111,114]:List UInt8),2,1,0,0,0,0,0,([84,119,111]:List UInt8)),(([99,97,116]:List UInt8),2,1,0,0,0,0,0,([84,119,111]:List UInt8)),(([101,113]:List UInt8),2,1,0,0,0,0,0,([84,119,111]:List UInt8)),(([108,101,115,115]:List UInt8),2,1,0,0,0,0,0,([84,119,111]:List UInt8)),(([112,117,116,45,102,105,101,108,100]:List UInt8),1,0,2,0,31,0,15,([80,108,97,99,101]:List UInt8)),(([112,117,116,45,109,101,116,97]:List UInt8),1,0,1,0,23,0,0,([67,101,108,108]:List UInt8)),(([112,117,116,45,114,101,103]:List UInt8),2,0,1,0,7,0,0,([67,101,108,108]:List UInt8)),(([115,104,111,119]:List UInt8),0,0,1,0,31,0,0,([83,108,111,116]:List UInt8)),(([104,105,100,101]:List UInt8),0,0,1,0,31,0,0,([83,108,111,116]:List UInt8)),(([112,117,115,104,45,104,101,97,100]:List UInt8),0,0,2,0,15,1,4,([72,101,97,100,115]:List UInt8)),(([112,111,112,45,104,101,97,100]:List UInt8),0,0,2,0,15,1,4,([72,101,97,100,115]:List UInt8)),(([99,111,117,110,116]:List UInt8),1,0,1,0,7,0,0,([67,101,108,108]:List UInt8)),(([109,101,116,101,114]:List UInt8),1,1,1,0,7,0,0,([67,101,108,108]:List UInt8)),(([106,117,109,112]:List UInt8),0,0,1,0,64,0,0,([74,117,109,112]:List UInt8)),(([106,117,109,112,45,122,101,114,111]:List UInt8),1,0,1,0,64,0,0,([74,117,109,112]:List UInt8)),(([106,117,109,112,45,103,111,110,101]:List UInt8),0,0,2,0,31,0,64,([71,111,110,101]:List UInt8)),(([115,116,111,112]:List UInt8),0,0,0,0,0,0,0,([83,116,111,112]:List UInt8))] [Value.string (⟨#[112,117,115,104]⟩),vI 0,vI 1,vI 0,vI 0,vI 0,vI 0,vI 0,Value.string (⟨#[80,117,115,104]⟩),Value.string (⟨#[102,105,101,108,100]⟩),vI 0,vI 1,vI 2,vI 0,vI 31,vI 0,vI 15,Value.string (⟨#[80,108,97,99,101]⟩),Value.string (⟨#[109,101,116,97]⟩),vI 0,vI 1,vI 1,vI 0,vI 23,vI 0,vI 0,Value.string (⟨#[67,101,108,108]⟩),Value.string (⟨#[112,97,114,97,109]⟩),vI 0,vI 1,vI 1,vI 0,vI 7,vI 0,vI 0,Value.string (⟨#[67,101,108,108]⟩),Value.string (⟨#[118,97,108,105,100]⟩),vI 0,vI 1,vI 1,vI 0,vI 31,vI 0,vI 0,Value.string (⟨#[83,108,111,116]⟩),Value.string (⟨#[114,101,103]⟩),vI 1,vI 1,vI 1,vI 0,vI 7,vI 0,vI 0,Value.string (⟨#[67,101,108,108]⟩),Value.string (⟨#[110,111,116]⟩),vI 1,vI 1,vI 0,vI 0,vI 0,vI 0,vI 0,Value.string (⟨#[79,110,101]⟩),Value.string (⟨#[110,101,103]⟩),vI 1,vI 1,vI 0,vI 0,vI 0,vI 0,vI 0,Value.string (⟨#[79,110,101]⟩),Value.string (⟨#[115,104,108]⟩),vI 1,vI 1,vI 1,vI 0,vI 128,vI 0,vI 0,Value.string (⟨#[79,110,101]⟩),Value.string (⟨#[115,104,114]⟩),vI 1,vI 1,vI 1,vI 0,vI 128,vI 0,vI 0,Value.string (⟨#[79,110,101]⟩),Value.string (⟨#[115,108,105,99,101]⟩),vI 1,vI 1,vI 2,vI 0,vI 127,vI 0,vI 127,Value.string (⟨#[80,97,114,116]⟩),Value.string (⟨#[99,97,115,116]⟩),vI 1,vI 1,vI 1,vI 1,vI 128,vI 0,vI 0,Value.string (⟨#[79,110,101]⟩),Value.string (⟨#[97,100,100]⟩),vI 2,vI 1,vI 0,vI 0,vI 0,vI 0,vI 0,Value.string (⟨#[84,119,111]⟩),Value.string (⟨#[115,117,98]⟩),vI 2,vI 1,vI 0,vI 0,vI 0,vI 0,vI 0,Value.string (⟨#[84,119,111]⟩),Value.string (⟨#[97,100,100,45,115,97,116]⟩),vI 2,vI 1,vI 0,vI 0,vI 0,vI 0,vI 0,Value.string (⟨#[84,119,111]⟩),Value.string (⟨#[115,117,98,45,115,97,116]⟩),vI 2,vI 1,vI 0,vI 0,vI 0,vI 0,vI 0,Value.string (⟨#[84,119,111]⟩),Value.string (⟨#[97,110,100]⟩),vI 2,vI 1,vI 0,vI 0,vI 0,vI 0,vI 0,Value.string (⟨#[84,119,111]⟩),Value.string (⟨#[111,114]⟩),vI 2,vI 1,vI 0,vI 0,vI 0,vI 0,vI 0,Value.string (⟨#[84,119,111]⟩),Value.string (⟨#[120,111,114]⟩),vI 2,vI 1,vI 0,vI 0,vI 0,vI 0,vI 0,Value.string (⟨#[84,119,111]⟩),Value.string (⟨#[99,97,116]⟩),vI 2,vI 1,vI 0,vI 0,vI 0,vI 0,vI 0,Value.string (⟨#[84,119,111]⟩),Value.string (⟨#[101,113]⟩),vI 2,vI 1,vI 0,vI 0,vI 0,vI 0,vI 0,Value.string (⟨#[84,119,111]⟩),Value.string (⟨#[108,101,115,115]⟩),vI 2,vI 1,vI 0,vI 0,vI 0,vI 0,vI 0,Value.string (⟨#[84,119,111]⟩),Value.string (⟨#[112,117,116,45,102,105,101,108,100]⟩),vI 1,vI 0,vI 2,vI 0,vI 31,vI 0,vI 15,Value.string (⟨#[80,108,97,99,101]⟩),Value.string (⟨#[112,117,116,45,109,101,116,97]⟩),vI 1,vI 0,vI 1,vI 0,vI 23,vI 0,vI 0,Value.string (⟨#[67,101,108,108]⟩),Value.string (⟨#[112,117,116,45,114,101,103]⟩),vI 2,vI 0,vI 1,vI 0,vI 7,vI 0,vI 0,Value.string (⟨#[67,101,108,108]⟩),Value.string (⟨#[115,104,111,119]⟩),vI 0,vI 0,vI 1,vI 0,vI 31,vI 0,vI 0,Value.string (⟨#[83,108,111,116]⟩),Value.string (⟨#[104,105,100,101]⟩),vI 0,vI 0,vI 1,vI 0,vI 31,vI 0,vI 0,Value.string (⟨#[83,108,111,116]⟩),Value.string (⟨#[112,117,115,104,45,104,101,97,100]⟩),vI 0,vI 0,vI 2,vI 0,vI 15,vI 1,vI 4,Value.string (⟨#[72,101,97,100,115]⟩),Value.string (⟨#[112,111,112,45,104,101,97,100]⟩),vI 0,vI 0,vI 2,vI 0,vI 15,vI 1,vI 4,Value.string (⟨#[72,101,97,100,115]⟩),Value.string (⟨#[99,111,117,110,116]⟩),vI 1,vI 0,vI 1,vI 0,vI 7,vI 0,vI 0,Value.string (⟨#[67,101,108,108]⟩),Value.string (⟨#[109,101,116,101,114]⟩),vI 1,vI 1,vI 1,vI 0,vI 7,vI 0,vI 0,Value.string (⟨#[67,101,108,108]⟩),Value.string (⟨#[106,117,109,112]⟩),vI 0,vI 0,vI 1,vI 0,vI 64,vI 0,vI 0,Value.string (⟨#[74,117,109,112]⟩),Value.string (⟨#[106,117,109,112,45,122,101,114,111]⟩),vI 1,vI 0,vI 1,vI 0,vI 64,vI 0,vI 0,Value.string (⟨#[74,117,109,112]⟩),Value.string (⟨#[106,117,109,112,45,103,111,110,101]⟩),vI 0,vI 0,vI 2,vI 0,vI 31,vI 0,vI 64,Value.string (⟨#[71,111,110,101]⟩),Value.string (⟨#[115,116,111,112]⟩),vI 0,vI 0,vI 0,vI 0,vI 0,vI 0,vI 0,Value.string (⟨#[83,116,111,112]⟩)] [Value.string (⟨#[]⟩),vI 0,vI 0,vI 0,vI 0,vI 0,vI 0,vI 0,Value.string (⟨#[]⟩),Value.string (⟨#[]⟩),vI 0,vI 0,vI 0,vI 0,vI 0,vI 0,vI 0,Value.string (⟨#[]⟩),Value.string (⟨#[]⟩),vI 0,vI 0,vI 0,vI 0,vI 0,vI 0,vI 0,Value.string (⟨#[]⟩),Value.string (⟨#[]⟩),vI 0,vI 0,vI 0,vI 0,vI 0,vI 0,vI 0,Value.string (⟨#[]⟩),Value.string (⟨#[]⟩),vI 0,vI 0,vI 0,vI 0,vI 0,vI 0,vI 0,Value.string (⟨#[]⟩),Value.string (⟨#[]⟩),vI 0,vI 0,vI 0,vI 0,vI 0,vI 0,vI 0,Value.string (⟨#[]⟩),Value.string (⟨#[]⟩),vI 0,vI 0,vI 0,vI 0,vI 0,vI 0,vI 0,Value.string (⟨#[]⟩),Value.string (⟨#[]⟩),vI 0,vI 0,vI 0,vI 0,vI 0,vI 0,vI 0,Value.string (⟨#[]⟩),Value.string (⟨#[]⟩),vI 0,vI 0,vI 0,vI 0,vI 0,vI 0,vI 0,Value.string (⟨#[]⟩),Value.string (⟨#[]⟩),vI 0,vI 0,vI 0,vI 0,vI 0,vI 0,vI 0,Value.string (⟨#[]⟩),Value.string (⟨#[]⟩),vI 0,vI 0,vI 0,vI 0,vI 0,vI 0,vI 0,Value.string (⟨#[]⟩),Value.string (⟨#[]⟩),vI 0,vI 0,vI 0,vI 0,vI 0,vI 0,vI 0,Value.string (⟨#[]⟩),Value.string (⟨#[]⟩),vI 0,vI 0,vI 0,vI 0,vI 0,vI 0,vI 0,Value.string (⟨#[]⟩),Value.string (⟨#[]⟩),vI 0,vI 0,vI 0,vI 0,vI 0,vI 0,vI 0,Value.string (⟨#[]⟩),Value.string (⟨#[]⟩),vI 0,vI 0,vI 0,vI 0,vI 0,vI 0,vI 0,Value.string (⟨#[]⟩),Value.string (⟨#[]⟩),vI 0,vI 0,vI 0,vI 0,vI 0,vI 0,vI 0,Value.string (⟨#[]⟩),Value.string (⟨#[]⟩),vI 0,vI 0,vI 0,vI 0,vI 0,vI 0,vI 0,Value.string (⟨#[]⟩),Value.string (⟨#[]⟩),vI 0,vI 0,vI 0,vI 0,vI 0,vI 0,vI 0,Value.string (⟨#[]⟩),Value.string (⟨#[]⟩),vI 0,vI 0,vI 0,vI 0,vI 0,vI 0,vI 0,Value.string (⟨#[]⟩),Value.string (⟨#[]⟩),vI 0,vI 0,vI 0,vI 0,vI 0,vI 0,vI 0,Value.string (⟨#[]⟩),Value.string (⟨#[]⟩),vI 0,vI 0,vI 0,vI 0,vI 0,vI 0,vI 0,Value.string (⟨#[]⟩),Value.string (⟨#[]⟩),vI 0,vI 0,vI 0,vI 0,vI 0,vI 0,vI 0,Value.string (⟨#[]⟩),Value.string (⟨#[]⟩),vI 0,vI 0,vI 0,vI 0,vI 0,vI 0,vI 0,Value.string (⟨#[]⟩),Value.string (⟨#[]⟩),vI 0,vI 0,vI 0,vI 0,vI 0,vI 0,vI 0,Value.string (⟨#[]⟩),Value.string (⟨#[]⟩),vI 0,vI 0,vI 0,vI 0,vI 0,vI 0,vI 0,Value.string (⟨#[]⟩),Value.string (⟨#[]⟩),vI 0,vI 0,vI 0,vI 0,vI 0,vI 0,vI 0,Value.string (⟨#[]⟩),Value.string (⟨#[]⟩),vI 0,vI 0,vI 0,vI 0,vI 0,vI 0,vI 0,Value.string (⟨#[]⟩),Value.string (⟨#[]⟩),vI 0,vI 0,vI 0,vI 0,vI 0,vI 0,vI 0,Value.string (⟨#[]⟩),Value.string (⟨#[]⟩),vI 0,vI 0,vI 0,vI 0,vI 0,vI 0,vI 0,Value.string (⟨#[]⟩),Value.string (⟨#[]⟩),vI 0,vI 0,vI 0,vI 0,vI 0,vI 0,vI 0,Value.string (⟨#[]⟩),Value.string (⟨#[]⟩),vI 0,vI 0,vI 0,vI 0,vI 0,vI 0,vI 0,Value.string (⟨#[]⟩),Value.string (⟨#[]⟩),vI 0,vI 0,vI 0,vI 0,vI 0,vI 0,vI 0,Value.string (⟨#[]⟩),Value.string (⟨#[]⟩),vI 0,vI 0,vI 0,vI 0,vI 0,vI 0,vI 0,Value.string (⟨#[]⟩),Value.string (⟨#[]⟩),vI 0,vI 0,vI 0,vI 0,vI 0,vI 0,vI 0,Value.string (⟨#[]⟩),Value.string (⟨#[]⟩),vI 0,vI 0,vI 0,vI 0,vI 0,vI 0,vI 0,Value.string (⟨#[]⟩)] rfl rfl rfl rfl rfl rfl rfl (by kernel_rfl) (by kernel_rfl) rfl rfl rfl (fun c d e=> ?_)
 refine rz rfl<|Gm [(0,c)] rfl (fun T=> ?_)
 cases b
 refine Bi (fun f=>Ha (v0:=c) e (EK (Sub.pick [d] [0] rfl)) rfl (Gj rfl))
end Go.Proofs.YthmpbldidnmenaaGreatDoor
