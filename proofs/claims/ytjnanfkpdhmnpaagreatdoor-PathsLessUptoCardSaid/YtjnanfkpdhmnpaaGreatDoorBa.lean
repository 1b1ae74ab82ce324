import Derived.Test.YtjnanfkpdhmnpaaGreatDoorIt
import Derived.Test.YtjnanfkpdhmnpaaGreatDoorUt
import Derived.Test.YtjnanfkpdhmnpaaGreatDoorBu
import Derived.Test.YtjnanfkpdhmnpaaGreatDoorRef
import Derived.Test.YtjnanfkpdhmnpaaGreatDoorIo
import Derived.Test.YtjnanfkpdhmnpaaGreatDoorRv
import Derived.Test.YtjnanfkpdhmnpaaGreatDoorMd
import Derived.Test.YtjnanfkpdhmnpaaGreatDoorSl
namespace Go.Proofs.YtjnanfkpdhmnpaaGreatDoor
open Go Go.RowKit Go.Eng _root_.Go.Proofs.Tryz
set_option linter.unusedSimpArgs false
set_option linter.unusedVariables false
set_option maxRecDepth 100000
set_option maxHeartbeats 80000000
abbrev D8{a1 a2 a3 a4 a5 a6 a7 a8 a9:Type}(x:a1×a2×a3×a4×a5×a6×a7×a8×a9):a9:=x.2.2.2.2.2.2.2.2
theorem sR{α:Type}{E:Enc α}{c:Addr->Y1 Y2}{v:Y2}{a:Y0 α}{l:Y0 Y2}(h:Rd E c v a)(t: ∀x∈l,x.oneCell'=true): ∀x∈v::l,x.oneCell'=true:=Ae (Shp.one (W8 h)) t
theorem sN{α:Type}{E:QT α}{c:Addr->Y1 Y2}{v:Y2}{a:Y0 α}{l:Y0 Y2}(h:RdN E c v a)(t: ∀x∈l,x.oneCell'=true): ∀x∈v::l,x.oneCell'=true:=Ae (Shp.one (W9 h)) t
theorem sS{α:Type}{e:TypeId}{E:Enc α}{v:Y2}{a:Y0 α}{S:Y0 Bl}{l:Y0 Y2}(h:Sl e E v a S)(t: ∀x∈l,x.oneCell'=true): ∀x∈v::l,x.oneCell'=true:=Ae (Shp.one (W7 h)) t
theorem sO{α:Type}{e:TypeId}{E:EncO α}{v:Y2}{a:Y0 α}{S:Y0 Bl}{l:Y0 Y2}(h:SlO e E v a S)(t: ∀x∈l,x.oneCell'=true): ∀x∈v::l,x.oneCell'=true:=Ae (Shp.one (SlO.shp h)) t
theorem sE{l:Y0 Y2}(t: ∀x∈l,x.oneCell'=true): ∀x∈Value.slice none 0 0::l,x.oneCell'=true:=Ae (Shp.one (.inl ⟨Z,Z⟩)) t
abbrev Vn(b:Nat)(x0 x1:Y2)(x2 x3 x4 x5:Int):Y0 Bl:=[(b,97, #[x0,x1,vI x2,vI x3,vI x4,vI x5])]
abbrev sM(b:Nat)(x0:W2)(x1:Y2)(x2 x3 x4 x5:Int):Y0 Bl:=[(b,97, #[vS x0,x1,vI x2,vI x3,vI x4,vI x5])]
theorem Zj(c:UInt8): ∀s:W2,Lib.index s [c]=Lib.indexByte s c
  | []=>rfl
  |b::l=>by
    rw [Lib.index,Lib.indexByte,Zj c l]
    by_cases h:c=b
    · subst h;simp [List.isPrefixOf]
    · have a: ¬b=c:=λe=>h e.symm
      simp [List.isPrefixOf,h,a]
theorem mW(s a:W2)(h:a.length=1):Gives prog 257 #[.string ⟨s.toArray⟩, .string ⟨a.toArray⟩] (.int .i64 (Lib.index s a)):=by
 obtain⟨c,rfl⟩:=List.length_eq_one_iff.mp h
 rw [Zj]
 exact Gives.of_same (λw=>Tryz.stringslite_Index_one ⟨s.toArray⟩ c w)
def Ab3:Enc (W2×Int):=⟨λx=> [vS x.1,vI x.2],2,by decide,λ_=>Z,λx v h=>by simp only [zy,List.not_mem_nil,or_false] at h;rcases h with rfl|rfl<;>rfl,True⟩
def Ad7:Enc (W2×Int×Int):=⟨λx=> [vS x.1,vI x.2.1,vI x.2.2],3,by decide,λ_=>Z,λx v h=>by simp only [zy,List.not_mem_nil,or_false] at h;rcases h with rfl|rfl|rfl<;>rfl,True⟩
def Af0:Enc (Int×Int):=⟨λx=> [vI x.1,vI x.2],2,by decide,λ_=>Z,λx v h=>by simp only [zy,List.not_mem_nil,or_false] at h;rcases h with rfl|rfl<;>rfl,True⟩
def Ac9:Enc (Int×Int×Int):=⟨λx=> [vI x.1,vI x.2.1,vI x.2.2],3,by decide,λ_=>Z,λx v h=>by simp only [zy,List.not_mem_nil,or_false] at h;rcases h with rfl|rfl|rfl<;>rfl,True⟩
def Af1:Enc (Int×W3×Int×W3×Int):=⟨λx=> [vI x.1,U (hi x.2.1),U (lo x.2.1),vI x.2.2.1,U (hi x.2.2.2.1),U (lo x.2.2.2.1),vI x.2.2.2.2],7,by decide,λ_=>Z,λx v h=>by simp only [zy,List.not_mem_nil,or_false] at h;rcases h with rfl|rfl|rfl|rfl|rfl|rfl|rfl<;>rfl,True⟩
def Ad5:Enc (W1):=⟨λx=> [vI x.1,vI x.2.1,vI x.2.2.1,vI x.2.2.2.1,U (hi x.2.2.2.2),U (lo x.2.2.2.2)],6,by decide,λ_=>Z,λx v h=>by simp only [zy,List.not_mem_nil,or_false] at h;rcases h with rfl|rfl|rfl|rfl|rfl|rfl<;>rfl,True⟩
def Ac6:Enc (Int×W3):=⟨λx=> [vI x.1,U (hi x.2),U (lo x.2)],3,by decide,λ_=>Z,λx v h=>by simp only [zy,List.not_mem_nil,or_false] at h;rcases h with rfl|rfl|rfl<;>rfl,True⟩
def Ad3:Enc (Int×Int):=⟨λx=> [vI x.1,vI x.2],2,by decide,λ_=>Z,λx v h=>by simp only [zy,List.not_mem_nil,or_false] at h;rcases h with rfl|rfl<;>rfl,True⟩
def Ae2:Enc (W2×Int×Int):=⟨λx=> [vS x.1,vI x.2.1,vI x.2.2],3,by decide,λ_=>Z,λx v h=>by simp only [zy,List.not_mem_nil,or_false] at h;rcases h with rfl|rfl|rfl<;>rfl,True⟩
def Ae3:Enc (W2×Int):=⟨λx=> [vS x.1,vI x.2],2,by decide,λ_=>Z,λx v h=>by simp only [zy,List.not_mem_nil,or_false] at h;rcases h with rfl|rfl<;>rfl,True⟩
def Ae4:Enc (W2×Int×Int×Int):=⟨λx=> [vS x.1,vI x.2.1,vI x.2.2.1,vI x.2.2.2],4,by decide,λ_=>Z,λx v h=>by simp only [zy,List.not_mem_nil,or_false] at h;rcases h with rfl|rfl|rfl|rfl<;>rfl,True⟩
def QC:Enc (Int×Int):=⟨λx=> [vI x.1,vI x.2],2,by decide,λ_=>Z,λx v h=>by simp only [zy,List.not_mem_nil,or_false] at h;rcases h with rfl|rfl<;>rfl,True⟩
def Af6:Enc (W0):=⟨λx=> [vS x.1,vI x.2.1,vI x.2.2.1,vI x.2.2.2.1,vI x.2.2.2.2.1,vI x.2.2.2.2.2.1,vI x.2.2.2.2.2.2.1,vI x.2.2.2.2.2.2.2.1,vS x.2.2.2.2.2.2.2.2],9,by decide,λ_=>Z,λx v h=>by simp only [zy,List.not_mem_nil,or_false] at h;rcases h with rfl|rfl|rfl|rfl|rfl|rfl|rfl|rfl|rfl<;>rfl,True⟩
def QB:Enc (Y3×W4×Int):=⟨λx=> [vB x.1,U x.2.1,vI x.2.2],3,by decide,λ_=>Z,λx v h=>by simp only [zy,List.not_mem_nil,or_false] at h;rcases h with rfl|rfl|rfl<;>rfl,True⟩
def LM:Enc (Y3×W4):=⟨λx=> [vB x.1,U x.2],2,by decide,λ_=>Z,λx v h=>by simp only [zy,List.not_mem_nil,or_false] at h;rcases h with rfl|rfl<;>rfl,True⟩
def Ad1:QT ((W2)×(Y0 (W2×Int))×Int×Int×Int×Int):=⟨λc x a=> ∃(s0:Y2),Rd Ab3 c s0 x.2.1/\a=[vS x.1,s0,vI x.2.2.1,vI x.2.2.2.1,vI x.2.2.2.2.1,vI x.2.2.2.2.2],6,by decide,λhc ⟨s0,h0,hv⟩=>⟨s0,h0.mono hc,hv⟩⟩
def Ad8:QT ((W2)×(Y0 (Int×Int))×(Y0 (Int×Int×Int))×(Y0 (Int×W3×Int×W3×Int))×Int):=⟨λc x a=> ∃(s0:Y2) (s1:Y2) (s2:Y2),Rd Af0 c s0 x.2.1/\Rd Ac9 c s1 x.2.2.1/\Rd Af1 c s2 x.2.2.2.1/\a=[vS x.1,s0,s1,s2,vI x.2.2.2.2],5,by decide,λhc ⟨s0,s1,s2,h0,h1,h2,hv⟩=>⟨s0,s1,s2,h0.mono hc,h1.mono hc,h2.mono hc,hv⟩⟩
def Ac7:QT ((W2)×(Y0 Int)×(Y0 (W1))):=⟨λc x a=> ∃(s0:Y2) (s1:Y2),Rd Ca c s0 x.2.1/\Rd Ad5 c s1 x.2.2/\a=[vS x.1,s0,s1],3,by decide,λhc ⟨s0,s1,h0,h1,hv⟩=>⟨s0,s1,h0.mono hc,h1.mono hc,hv⟩⟩
def Ad4:QT ((W2)×Int×(Y0 (Int×Int×Int))×(Y0 Int)×Int×(Y0 (Int×W3))×Int):=⟨λc x a=> ∃(s0:Y2) (s1:Y2) (s2:Y2),Rd Ac9 c s0 x.2.2.1/\Rd Ca c s1 x.2.2.2.1/\Rd Ac6 c s2 x.2.2.2.2.2.1/\a=[vS x.1,vI x.2.1,s0,s1,vI x.2.2.2.2.1,s2,vI x.2.2.2.2.2.2],7,by decide,λhc ⟨s0,s1,s2,h0,h1,h2,hv⟩=>⟨s0,s1,s2,h0.mono hc,h1.mono hc,h2.mono hc,hv⟩⟩
def Ab9:QT (Int×Int×(Y0 (W1))×(Y0 (Int×W3))×Int×Int):=⟨λc x a=> ∃(s0:Y2) (s1:Y2),Rd Ad5 c s0 x.2.2.1/\Rd Ac6 c s1 x.2.2.2.1/\a=[vI x.1,vI x.2.1,s0,s1,vI x.2.2.2.2.1,vI x.2.2.2.2.2],6,by decide,λhc ⟨s0,s1,h0,h1,hv⟩=>⟨s0,s1,h0.mono hc,h1.mono hc,hv⟩⟩
abbrev Ao:Type:=(W2)×(Y0 ((W2)×(Y0 (W2×Int))×Int×Int×Int×Int))×(Y0 (W2×Int×Int))×(Y0 (W2×Int))×(Y0 ((W2)×(Y0 (Int×Int))×(Y0 (Int×Int×Int))×(Y0 (Int×W3×Int×W3×Int))×Int))×(Y0 ((W2)×(Y0 Int)×(Y0 (W1))))×(Y0 ((W2)×Int×(Y0 (Int×Int×Int))×(Y0 Int)×Int×(Y0 (Int×W3))×Int))×(Y0 (Int×Int×(Y0 (W1))×(Y0 (Int×W3))×Int×Int))×(Y0 (Int×Int×(Y0 (W1))×(Y0 (Int×W3))×Int×Int))×(Y0 Int)×(Y0 (Int×Int))×(Y0 (Int×Int))×(Y0 (W2×Int×Int))×(Y0 (W2×Int))×(Y0 (W2×Int×Int×Int))×Int×Int×Int
abbrev AC:Type:=Y2×Y2×Y2×Y2×Y2×Y2×Y2×Y2×Y2×Y2×Y2×Y2×Y2×Y2
abbrev Hr(m:Ao)(v:AC):Y0 Y2:=[vS m.1,v.1,v.2.1,v.2.2.1,v.2.2.2.1,v.2.2.2.2.1,v.2.2.2.2.2.1,v.2.2.2.2.2.2.1,v.2.2.2.2.2.2.2.1,v.2.2.2.2.2.2.2.2.1,v.2.2.2.2.2.2.2.2.2.1,v.2.2.2.2.2.2.2.2.2.2.1,v.2.2.2.2.2.2.2.2.2.2.2.1,v.2.2.2.2.2.2.2.2.2.2.2.2.1,v.2.2.2.2.2.2.2.2.2.2.2.2.2,vI m.2.2.2.2.2.2.2.2.2.2.2.2.2.2.2.1,vI m.2.2.2.2.2.2.2.2.2.2.2.2.2.2.2.2.1,vI m.2.2.2.2.2.2.2.2.2.2.2.2.2.2.2.2.2]
abbrev Ab(m:Ao)(v:AC):Array Y2:=(Hr m v).toArray
abbrev Aa2(ro:Ro)(v:AC)(m:Ao):Prop:=RdN Ad1 ro v.1 m.2.1/\Rd Ad7 ro v.2.1 m.2.2.1/\Rd Ab3 ro v.2.2.1 m.2.2.2.1/\RdN Ad8 ro v.2.2.2.1 m.2.2.2.2.1/\RdN Ac7 ro v.2.2.2.2.1 m.2.2.2.2.2.1/\RdN Ad4 ro v.2.2.2.2.2.1 m.2.2.2.2.2.2.1/\RdN Ab9 ro v.2.2.2.2.2.2.1 m.2.2.2.2.2.2.2.1/\RdN Ab9 ro v.2.2.2.2.2.2.2.1 m.2.2.2.2.2.2.2.2.1/\Rd Ca ro v.2.2.2.2.2.2.2.2.1 m.2.2.2.2.2.2.2.2.2.1/\Rd Ad3 ro v.2.2.2.2.2.2.2.2.2.1 m.2.2.2.2.2.2.2.2.2.2.1/\Rd Ad3 ro v.2.2.2.2.2.2.2.2.2.2.1 m.2.2.2.2.2.2.2.2.2.2.2.1/\Rd Ae2 ro v.2.2.2.2.2.2.2.2.2.2.2.1 m.2.2.2.2.2.2.2.2.2.2.2.2.1/\Rd Ae3 ro v.2.2.2.2.2.2.2.2.2.2.2.2.1 m.2.2.2.2.2.2.2.2.2.2.2.2.2.1/\Rd Ae4 ro v.2.2.2.2.2.2.2.2.2.2.2.2.2 m.2.2.2.2.2.2.2.2.2.2.2.2.2.2.1
theorem Aa2.mono{c d:Addr->Y1 Y2}{v:AC}{m:Ao}(b: ∀a v,c a=some v->d a=some v)(h:Aa2 c v m):Aa2 d v m:=⟨V1 b h.1,V0 b h.2.1,V0 b h.2.2.1,V1 b h.2.2.2.1,V1 b h.2.2.2.2.1,V1 b h.2.2.2.2.2.1,V1 b h.2.2.2.2.2.2.1,V1 b h.2.2.2.2.2.2.2.1,V0 b h.2.2.2.2.2.2.2.2.1,V0 b h.2.2.2.2.2.2.2.2.2.1,V0 b h.2.2.2.2.2.2.2.2.2.2.1,V0 b h.2.2.2.2.2.2.2.2.2.2.2.1,V0 b h.2.2.2.2.2.2.2.2.2.2.2.2.1,V0 b h.2.2.2.2.2.2.2.2.2.2.2.2.2⟩
abbrev LC:Type:=(W2)×(Y0 ((W2)×(Y0 (W2×Int))×Int×Int×Int×Int))×(Y0 (W2×Int×Int))×(Y0 (W2×Int))×(Y0 ((W2)×(Y0 (Int×Int))×(Y0 (Int×Int×Int))×(Y0 (Int×W3×Int×W3×Int))×Int))×(Y0 ((W2)×(Y0 Int)×(Y0 (W1))))×(Y0 ((W2)×Int×(Y0 (Int×Int×Int))×(Y0 Int)×Int×(Y0 (Int×W3))×Int))×(Y0 (Int×Int×(Y0 (W1))×(Y0 (Int×W3))×Int×Int))×(Y0 (Int×Int×(Y0 (W1))×(Y0 (Int×W3))×Int×Int))×(Y0 Int)×(Y0 (Int×Int))×(Y0 (Int×Int))×(Y0 (W2×Int×Int))×(Y0 (W2×Int))×(Y0 (W2×Int×Int×Int))×Int×Int×Int×(W2)×(Y0 ((W2)×(Y0 (W2×Int))×Int×Int×Int×Int))×(Y0 (W2×Int×Int))×(Y0 (W2×Int))×(Y0 ((W2)×(Y0 (Int×Int))×(Y0 (Int×Int×Int))×(Y0 (Int×W3×Int×W3×Int))×Int))×(Y0 ((W2)×(Y0 Int)×(Y0 (W1))))×(Y0 ((W2)×Int×(Y0 (Int×Int×Int))×(Y0 Int)×Int×(Y0 (Int×W3))×Int))×(Y0 (Int×Int×(Y0 (W1))×(Y0 (Int×W3))×Int×Int))×(Y0 (Int×Int×(Y0 (W1))×(Y0 (Int×W3))×Int×Int))×(Y0 Int)×(Y0 (Int×Int))×(Y0 (Int×Int))×(Y0 (W2×Int×Int))×(Y0 (W2×Int))×(Y0 (W2×Int×Int×Int))×Int×Int×Int×Int×(Y0 (Int×Int×(Y0 (W1))×(Y0 (Int×W3))×Int×Int))×(Y0 (Y3×W4×Int))
abbrev Dn(w:LC):=w.2.2.2.2.2.2.2.2.2.2.2.2.2.2.2.2.2.2.2.2.2.2.2.2.2.2.2.2.2.2.2.2.2.2.2.2.2.1
abbrev GI(w:LC):=w.2.2.2.2.2.2.2.2.2.2.2.2.2.2.2.2.2.2.2.2.2.2.2.2.2.2.2.2.2.2.2.2.2.2.2.2.2.2
abbrev QI:Type:=Y2×Y2×Y2×Y2×Y2×Y2×Y2×Y2×Y2×Y2×Y2×Y2×Y2×Y2×Y2×Y2×Y2×Y2×Y2×Y2×Y2×Y2×Y2×Y2×Y2×Y2×Y2×Y2×Y2×Y2
abbrev xj(m:LC)(v:QI):Y0 Y2:=[vS m.1,v.1,v.2.1,v.2.2.1,v.2.2.2.1,v.2.2.2.2.1,v.2.2.2.2.2.1,v.2.2.2.2.2.2.1,v.2.2.2.2.2.2.2.1,v.2.2.2.2.2.2.2.2.1,v.2.2.2.2.2.2.2.2.2.1,v.2.2.2.2.2.2.2.2.2.2.1,v.2.2.2.2.2.2.2.2.2.2.2.1,v.2.2.2.2.2.2.2.2.2.2.2.2.1,v.2.2.2.2.2.2.2.2.2.2.2.2.2.1,vI m.2.2.2.2.2.2.2.2.2.2.2.2.2.2.2.1,vI m.2.2.2.2.2.2.2.2.2.2.2.2.2.2.2.2.1,vI m.2.2.2.2.2.2.2.2.2.2.2.2.2.2.2.2.2.1,vS m.2.2.2.2.2.2.2.2.2.2.2.2.2.2.2.2.2.2.1,v.2.2.2.2.2.2.2.2.2.2.2.2.2.2.1,v.2.2.2.2.2.2.2.2.2.2.2.2.2.2.2.1,v.2.2.2.2.2.2.2.2.2.2.2.2.2.2.2.2.1,v.2.2.2.2.2.2.2.2.2.2.2.2.2.2.2.2.2.1,v.2.2.2.2.2.2.2.2.2.2.2.2.2.2.2.2.2.2.1,v.2.2.2.2.2.2.2.2.2.2.2.2.2.2.2.2.2.2.2.1,v.2.2.2.2.2.2.2.2.2.2.2.2.2.2.2.2.2.2.2.2.1,v.2.2.2.2.2.2.2.2.2.2.2.2.2.2.2.2.2.2.2.2.2.1,v.2.2.2.2.2.2.2.2.2.2.2.2.2.2.2.2.2.2.2.2.2.2.1,v.2.2.2.2.2.2.2.2.2.2.2.2.2.2.2.2.2.2.2.2.2.2.2.1,v.2.2.2.2.2.2.2.2.2.2.2.2.2.2.2.2.2.2.2.2.2.2.2.2.1,v.2.2.2.2.2.2.2.2.2.2.2.2.2.2.2.2.2.2.2.2.2.2.2.2.2.1,v.2.2.2.2.2.2.2.2.2.2.2.2.2.2.2.2.2.2.2.2.2.2.2.2.2.2.1,v.2.2.2.2.2.2.2.2.2.2.2.2.2.2.2.2.2.2.2.2.2.2.2.2.2.2.2.1,vI m.2.2.2.2.2.2.2.2.2.2.2.2.2.2.2.2.2.2.2.2.2.2.2.2.2.2.2.2.2.2.2.2.2.1,vI m.2.2.2.2.2.2.2.2.2.2.2.2.2.2.2.2.2.2.2.2.2.2.2.2.2.2.2.2.2.2.2.2.2.2.1,vI m.2.2.2.2.2.2.2.2.2.2.2.2.2.2.2.2.2.2.2.2.2.2.2.2.2.2.2.2.2.2.2.2.2.2.2.1,vI m.2.2.2.2.2.2.2.2.2.2.2.2.2.2.2.2.2.2.2.2.2.2.2.2.2.2.2.2.2.2.2.2.2.2.2.2.1,v.2.2.2.2.2.2.2.2.2.2.2.2.2.2.2.2.2.2.2.2.2.2.2.2.2.2.2.2.1,v.2.2.2.2.2.2.2.2.2.2.2.2.2.2.2.2.2.2.2.2.2.2.2.2.2.2.2.2.2]
abbrev Bc(m:LC)(v:QI):Array Y2:=(xj m v).toArray
abbrev Ae9(ro:Ro)(v:QI)(m:LC):Prop:=RdN Ad1 ro v.1 m.2.1/\Rd Ad7 ro v.2.1 m.2.2.1/\Rd Ab3 ro v.2.2.1 m.2.2.2.1/\RdN Ad8 ro v.2.2.2.1 m.2.2.2.2.1/\RdN Ac7 ro v.2.2.2.2.1 m.2.2.2.2.2.1/\RdN Ad4 ro v.2.2.2.2.2.1 m.2.2.2.2.2.2.1/\RdN Ab9 ro v.2.2.2.2.2.2.1 m.2.2.2.2.2.2.2.1/\RdN Ab9 ro v.2.2.2.2.2.2.2.1 m.2.2.2.2.2.2.2.2.1/\Rd Ca ro v.2.2.2.2.2.2.2.2.1 m.2.2.2.2.2.2.2.2.2.1/\Rd Ad3 ro v.2.2.2.2.2.2.2.2.2.1 m.2.2.2.2.2.2.2.2.2.2.1/\Rd Ad3 ro v.2.2.2.2.2.2.2.2.2.2.1 m.2.2.2.2.2.2.2.2.2.2.2.1/\Rd Ae2 ro v.2.2.2.2.2.2.2.2.2.2.2.1 m.2.2.2.2.2.2.2.2.2.2.2.2.1/\Rd Ae3 ro v.2.2.2.2.2.2.2.2.2.2.2.2.1 m.2.2.2.2.2.2.2.2.2.2.2.2.2.1/\Rd Ae4 ro v.2.2.2.2.2.2.2.2.2.2.2.2.2.1 m.2.2.2.2.2.2.2.2.2.2.2.2.2.2.1/\RdN Ad1 ro v.2.2.2.2.2.2.2.2.2.2.2.2.2.2.1 m.2.2.2.2.2.2.2.2.2.2.2.2.2.2.2.2.2.2.2.1/\Rd Ad7 ro v.2.2.2.2.2.2.2.2.2.2.2.2.2.2.2.1 m.2.2.2.2.2.2.2.2.2.2.2.2.2.2.2.2.2.2.2.2.1/\Rd Ab3 ro v.2.2.2.2.2.2.2.2.2.2.2.2.2.2.2.2.1 m.2.2.2.2.2.2.2.2.2.2.2.2.2.2.2.2.2.2.2.2.2.1/\RdN Ad8 ro v.2.2.2.2.2.2.2.2.2.2.2.2.2.2.2.2.2.1 m.2.2.2.2.2.2.2.2.2.2.2.2.2.2.2.2.2.2.2.2.2.2.1/\RdN Ac7 ro v.2.2.2.2.2.2.2.2.2.2.2.2.2.2.2.2.2.2.1 m.2.2.2.2.2.2.2.2.2.2.2.2.2.2.2.2.2.2.2.2.2.2.2.1/\RdN Ad4 ro v.2.2.2.2.2.2.2.2.2.2.2.2.2.2.2.2.2.2.2.1 m.2.2.2.2.2.2.2.2.2.2.2.2.2.2.2.2.2.2.2.2.2.2.2.2.1/\RdN Ab9 ro v.2.2.2.2.2.2.2.2.2.2.2.2.2.2.2.2.2.2.2.2.1 m.2.2.2.2.2.2.2.2.2.2.2.2.2.2.2.2.2.2.2.2.2.2.2.2.2.1/\RdN Ab9 ro v.2.2.2.2.2.2.2.2.2.2.2.2.2.2.2.2.2.2.2.2.2.1 m.2.2.2.2.2.2.2.2.2.2.2.2.2.2.2.2.2.2.2.2.2.2.2.2.2.2.1/\Rd Ca ro v.2.2.2.2.2.2.2.2.2.2.2.2.2.2.2.2.2.2.2.2.2.2.1 m.2.2.2.2.2.2.2.2.2.2.2.2.2.2.2.2.2.2.2.2.2.2.2.2.2.2.2.1/\Rd Ad3 ro v.2.2.2.2.2.2.2.2.2.2.2.2.2.2.2.2.2.2.2.2.2.2.2.1 m.2.2.2.2.2.2.2.2.2.2.2.2.2.2.2.2.2.2.2.2.2.2.2.2.2.2.2.2.1/\Rd Ad3 ro v.2.2.2.2.2.2.2.2.2.2.2.2.2.2.2.2.2.2.2.2.2.2.2.2.1 m.2.2.2.2.2.2.2.2.2.2.2.2.2.2.2.2.2.2.2.2.2.2.2.2.2.2.2.2.2.1/\Rd Ae2 ro v.2.2.2.2.2.2.2.2.2.2.2.2.2.2.2.2.2.2.2.2.2.2.2.2.2.1 m.2.2.2.2.2.2.2.2.2.2.2.2.2.2.2.2.2.2.2.2.2.2.2.2.2.2.2.2.2.2.1/\Rd Ae3 ro v.2.2.2.2.2.2.2.2.2.2.2.2.2.2.2.2.2.2.2.2.2.2.2.2.2.2.1 m.2.2.2.2.2.2.2.2.2.2.2.2.2.2.2.2.2.2.2.2.2.2.2.2.2.2.2.2.2.2.2.1/\Rd Ae4 ro v.2.2.2.2.2.2.2.2.2.2.2.2.2.2.2.2.2.2.2.2.2.2.2.2.2.2.2.1 m.2.2.2.2.2.2.2.2.2.2.2.2.2.2.2.2.2.2.2.2.2.2.2.2.2.2.2.2.2.2.2.2.1/\RdN Ab9 ro v.2.2.2.2.2.2.2.2.2.2.2.2.2.2.2.2.2.2.2.2.2.2.2.2.2.2.2.2.1 m.2.2.2.2.2.2.2.2.2.2.2.2.2.2.2.2.2.2.2.2.2.2.2.2.2.2.2.2.2.2.2.2.2.2.2.2.2.1/\Rd QB ro v.2.2.2.2.2.2.2.2.2.2.2.2.2.2.2.2.2.2.2.2.2.2.2.2.2.2.2.2.2 m.2.2.2.2.2.2.2.2.2.2.2.2.2.2.2.2.2.2.2.2.2.2.2.2.2.2.2.2.2.2.2.2.2.2.2.2.2.2
theorem Ae9.mono{c d:Addr->Y1 Y2}{v:QI}{m:LC}(b: ∀a v,c a=some v->d a=some v)(h:Ae9 c v m):Ae9 d v m:=⟨V1 b h.1,V0 b h.2.1,V0 b h.2.2.1,V1 b h.2.2.2.1,V1 b h.2.2.2.2.1,V1 b h.2.2.2.2.2.1,V1 b h.2.2.2.2.2.2.1,V1 b h.2.2.2.2.2.2.2.1,V0 b h.2.2.2.2.2.2.2.2.1,V0 b h.2.2.2.2.2.2.2.2.2.1,V0 b h.2.2.2.2.2.2.2.2.2.2.1,V0 b h.2.2.2.2.2.2.2.2.2.2.2.1,V0 b h.2.2.2.2.2.2.2.2.2.2.2.2.1,V0 b h.2.2.2.2.2.2.2.2.2.2.2.2.2.1,V1 b h.2.2.2.2.2.2.2.2.2.2.2.2.2.2.1,V0 b h.2.2.2.2.2.2.2.2.2.2.2.2.2.2.2.1,V0 b h.2.2.2.2.2.2.2.2.2.2.2.2.2.2.2.2.1,V1 b h.2.2.2.2.2.2.2.2.2.2.2.2.2.2.2.2.2.1,V1 b h.2.2.2.2.2.2.2.2.2.2.2.2.2.2.2.2.2.2.1,V1 b h.2.2.2.2.2.2.2.2.2.2.2.2.2.2.2.2.2.2.2.1,V1 b h.2.2.2.2.2.2.2.2.2.2.2.2.2.2.2.2.2.2.2.2.1,V1 b h.2.2.2.2.2.2.2.2.2.2.2.2.2.2.2.2.2.2.2.2.2.1,V0 b h.2.2.2.2.2.2.2.2.2.2.2.2.2.2.2.2.2.2.2.2.2.2.1,V0 b h.2.2.2.2.2.2.2.2.2.2.2.2.2.2.2.2.2.2.2.2.2.2.2.1,V0 b h.2.2.2.2.2.2.2.2.2.2.2.2.2.2.2.2.2.2.2.2.2.2.2.2.1,V0 b h.2.2.2.2.2.2.2.2.2.2.2.2.2.2.2.2.2.2.2.2.2.2.2.2.2.1,V0 b h.2.2.2.2.2.2.2.2.2.2.2.2.2.2.2.2.2.2.2.2.2.2.2.2.2.2.1,V0 b h.2.2.2.2.2.2.2.2.2.2.2.2.2.2.2.2.2.2.2.2.2.2.2.2.2.2.2.1,V1 b h.2.2.2.2.2.2.2.2.2.2.2.2.2.2.2.2.2.2.2.2.2.2.2.2.2.2.2.2.1,V0 b h.2.2.2.2.2.2.2.2.2.2.2.2.2.2.2.2.2.2.2.2.2.2.2.2.2.2.2.2.2⟩
abbrev xk:Type:=(W2)×(Y0 ((W2)×(Y0 (W2×Int))×Int×Int×Int×Int))×(Y0 (W2×Int×Int))×(Y0 (W2×Int))×(Y0 ((W2)×(Y0 (Int×Int))×(Y0 (Int×Int×Int))×(Y0 (Int×W3×Int×W3×Int))×Int))×(Y0 ((W2)×(Y0 Int)×(Y0 (W1))))×(Y0 ((W2)×Int×(Y0 (Int×Int×Int))×(Y0 Int)×Int×(Y0 (Int×W3))×Int))×(Y0 (Int×Int×(Y0 (W1))×(Y0 (Int×W3))×Int×Int))×(Y0 (Int×Int×(Y0 (W1))×(Y0 (Int×W3))×Int×Int))×(Y0 Int)×(Y0 (Int×Int))×(Y0 (Int×Int))×(Y0 (W2×Int×Int))×(Y0 (W2×Int))×(Y0 (W2×Int×Int×Int))×Int×Int×Int×(Y0 (Y3×W4))
abbrev uT:Type:=Y2×Y2×Y2×Y2×Y2×Y2×Y2×Y2×Y2×Y2×Y2×Y2×Y2×Y2×Y2
abbrev yI(ro:Ro)(v:uT)(m:xk):Prop:=RdN Ad1 ro v.1 m.2.1/\Rd Ad7 ro v.2.1 m.2.2.1/\Rd Ab3 ro v.2.2.1 m.2.2.2.1/\RdN Ad8 ro v.2.2.2.1 m.2.2.2.2.1/\RdN Ac7 ro v.2.2.2.2.1 m.2.2.2.2.2.1/\RdN Ad4 ro v.2.2.2.2.2.1 m.2.2.2.2.2.2.1/\RdN Ab9 ro v.2.2.2.2.2.2.1 m.2.2.2.2.2.2.2.1/\RdN Ab9 ro v.2.2.2.2.2.2.2.1 m.2.2.2.2.2.2.2.2.1/\Rd Ca ro v.2.2.2.2.2.2.2.2.1 m.2.2.2.2.2.2.2.2.2.1/\Rd Ad3 ro v.2.2.2.2.2.2.2.2.2.1 m.2.2.2.2.2.2.2.2.2.2.1/\Rd Ad3 ro v.2.2.2.2.2.2.2.2.2.2.1 m.2.2.2.2.2.2.2.2.2.2.2.1/\Rd Ae2 ro v.2.2.2.2.2.2.2.2.2.2.2.1 m.2.2.2.2.2.2.2.2.2.2.2.2.1/\Rd Ae3 ro v.2.2.2.2.2.2.2.2.2.2.2.2.1 m.2.2.2.2.2.2.2.2.2.2.2.2.2.1/\Rd Ae4 ro v.2.2.2.2.2.2.2.2.2.2.2.2.2.1 m.2.2.2.2.2.2.2.2.2.2.2.2.2.2.1/\Rd LM ro v.2.2.2.2.2.2.2.2.2.2.2.2.2.2 m.2.2.2.2.2.2.2.2.2.2.2.2.2.2.2.2.2.2
def CB(_:Nat)(c:UInt8):Y1 Y3:=if(((c.toNat:Nat):Int):Int)>=128 then some (decide ((((c.toNat:Nat):Int):Int)<192))else some false
theorem GM(N c r)(a:CB N c=some r):Gives prog 186 #[Value.int .u8 ((c.toNat:Nat):Int)] (vB r):=by
 unfold CB at a
 refine Au follows func186 Z 9 Z _ fz1 (λe=> ?_)
 refine AZ Z<|Aa λf b=>Ah<|rn 3 Z ?_
 rcases d:(decide ((((c.toNat:Nat):Int):Int)>=128))with _|_
 ·replace a:=iF d a
  refine rz Z<|b _ _ ?_
  cases a
  exact aR eE1
 replace a:=iD d a
 refine rz Z<|b _ _ ?_
 cases a
 exact aR eE1
def GF(s:W2)(a:Y3):Y1 (Int×Int):=if a=true then some ((((((262144*((((Ax s 0).toNat:Nat):Int) - 240))+(4096*((((Ax s 1).toNat:Nat):Int) - 128)))+(64*((((Ax s 2).toNat:Nat):Int) - 128)))+(((Ax s 3).toNat:Nat):Int)) - 128),4)else some (65533,1)
def CY(s:W2)(a:Y3):Y1 (Int×Int):=if a=true then ck ((R64 ((((Ax s 0).toNat:Nat):Int) - 240))) (ck ((R64 (262144*((((Ax s 0).toNat:Nat):Int) - 240)))) (ck ((0:Int)<=1/\1<(s.length:Int)) (ck ((R64 ((((Ax s 1).toNat:Nat):Int) - 128))) (ck ((R64 (4096*((((Ax s 1).toNat:Nat):Int) - 128)))) (ck ((R64 ((262144*((((Ax s 0).toNat:Nat):Int) - 240))+(4096*((((Ax s 1).toNat:Nat):Int) - 128))))) (ck ((0:Int)<=2/\2<(s.length:Int)) (ck ((R64 ((((Ax s 2).toNat:Nat):Int) - 128))) (ck ((R64 (64*((((Ax s 2).toNat:Nat):Int) - 128)))) (ck ((R64 (((262144*((((Ax s 0).toNat:Nat):Int) - 240))+(4096*((((Ax s 1).toNat:Nat):Int) - 128)))+(64*((((Ax s 2).toNat:Nat):Int) - 128))))) (ck ((0:Int)<=3/\3<(s.length:Int)) (ck ((R64 ((((262144*((((Ax s 0).toNat:Nat):Int) - 240))+(4096*((((Ax s 1).toNat:Nat):Int) - 128)))+(64*((((Ax s 2).toNat:Nat):Int) - 128)))+(((Ax s 3).toNat:Nat):Int)))) (ck ((R64 (((((262144*((((Ax s 0).toNat:Nat):Int) - 240))+(4096*((((Ax s 1).toNat:Nat):Int) - 128)))+(64*((((Ax s 2).toNat:Nat):Int) - 128)))+(((Ax s 3).toNat:Nat):Int)) - 128))) (if((((((262144*((((Ax s 0).toNat:Nat):Int) - 240))+(4096*((((Ax s 1).toNat:Nat):Int) - 128)))+(64*((((Ax s 2).toNat:Nat):Int) - 128)))+(((Ax s 3).toNat:Nat):Int)) - 128):Int)>=65536 then GF s (decide (((((((262144*((((Ax s 0).toNat:Nat):Int) - 240))+(4096*((((Ax s 1).toNat:Nat):Int) - 128)))+(64*((((Ax s 2).toNat:Nat):Int) - 128)))+(((Ax s 3).toNat:Nat):Int)) - 128):Int)<=1114111))else GF s false)))))))))))))else some (65533,1)
def Hc(N:Nat)(s:W2)(a:Y3):Y1 (Int×Int):=if a=true then ck ((0:Int)<=3/\3<(s.length:Int)) ((CB N (Ax s 3)).bind λb=>CY s b)else CY s false
def He(N:Nat)(s:W2)(a:Y3):Y1 (Int×Int):=if a=true then ck ((0:Int)<=2/\2<(s.length:Int)) ((CB N (Ax s 2)).bind λb=>Hc N s b)else Hc N s false
def Hf(N:Nat)(s:W2)(a:Y3):Y1 (Int×Int):=if a=true then ck ((0:Int)<=1/\1<(s.length:Int)) ((CB N (Ax s 1)).bind λb=>He N s b)else He N s false
def Hg(N:Nat)(s:W2)(a:Y3):Y1 (Int×Int):=if a=true then Hf N s (decide ((s.length:Int)>=4))else Hf N s false
def FD(N:Nat)(s:W2):Y1 (Int×Int):=if((((Ax s 0).toNat:Nat):Int):Int)>=240 then Hg N s (decide (((((Ax s 0).toNat:Nat):Int):Int)<245))else Hg N s false
def Fj(N:Nat)(s:W2)(a:Y3):Y1 (Int×Int):=if a=true then some (((((4096*((((Ax s 0).toNat:Nat):Int) - 224))+(64*((((Ax s 1).toNat:Nat):Int) - 128)))+(((Ax s 2).toNat:Nat):Int)) - 128),3)else FD N s 
def CG(N:Nat)(s:W2)(a:Y3):Y1 (Int×Int):=if a=true then ck ((R64 ((((Ax s 0).toNat:Nat):Int) - 224))) (ck ((R64 (4096*((((Ax s 0).toNat:Nat):Int) - 224)))) (ck ((0:Int)<=1/\1<(s.length:Int)) (ck ((R64 ((((Ax s 1).toNat:Nat):Int) - 128))) (ck ((R64 (64*((((Ax s 1).toNat:Nat):Int) - 128)))) (ck ((R64 ((4096*((((Ax s 0).toNat:Nat):Int) - 224))+(64*((((Ax s 1).toNat:Nat):Int) - 128))))) (ck ((0:Int)<=2/\2<(s.length:Int)) (ck ((R64 (((4096*((((Ax s 0).toNat:Nat):Int) - 224))+(64*((((Ax s 1).toNat:Nat):Int) - 128)))+(((Ax s 2).toNat:Nat):Int)))) (ck ((R64 ((((4096*((((Ax s 0).toNat:Nat):Int) - 224))+(64*((((Ax s 1).toNat:Nat):Int) - 128)))+(((Ax s 2).toNat:Nat):Int)) - 128))) (if(((((4096*((((Ax s 0).toNat:Nat):Int) - 224))+(64*((((Ax s 1).toNat:Nat):Int) - 128)))+(((Ax s 2).toNat:Nat):Int)) - 128):Int)>=2048 then if(((((4096*((((Ax s 0).toNat:Nat):Int) - 224))+(64*((((Ax s 1).toNat:Nat):Int) - 128)))+(((Ax s 2).toNat:Nat):Int)) - 128):Int)<55296 then Fj N s true else Fj N s (decide ((((((4096*((((Ax s 0).toNat:Nat):Int) - 224))+(64*((((Ax s 1).toNat:Nat):Int) - 128)))+(((Ax s 2).toNat:Nat):Int)) - 128):Int)>57343))else Fj N s false)))))))))else FD N s 
def GC(N:Nat)(s:W2)(b:Y3):Y1 (Int×Int):=if b=true then ck ((0:Int)<=2/\2<(s.length:Int)) ((CB N (Ax s 2)).bind λa=>CG N s a)else CG N s false
def GD(N:Nat)(s:W2)(b:Y3):Y1 (Int×Int):=if b=true then ck ((0:Int)<=1/\1<(s.length:Int)) ((CB N (Ax s 1)).bind λa=>GC N s a)else GC N s false
def GE(N:Nat)(s:W2)(a:Y3):Y1 (Int×Int):=if a=true then GD N s (decide ((s.length:Int)>=3))else GD N s false
def CZ(N:Nat)(s:W2)(a:Y3):Y1 (Int×Int):=if a=true then ck ((R64 ((((Ax s 0).toNat:Nat):Int) - 192))) (ck ((R64 (64*((((Ax s 0).toNat:Nat):Int) - 192)))) (ck ((0:Int)<=1/\1<(s.length:Int)) (ck ((R64 ((64*((((Ax s 0).toNat:Nat):Int) - 192))+(((Ax s 1).toNat:Nat):Int)))) (ck ((R64 (((64*((((Ax s 0).toNat:Nat):Int) - 192))+(((Ax s 1).toNat:Nat):Int)) - 128))) (some ((((64*((((Ax s 0).toNat:Nat):Int) - 192))+(((Ax s 1).toNat:Nat):Int)) - 128),2))))))else if((((Ax s 0).toNat:Nat):Int):Int)>=224 then GE N s (decide (((((Ax s 0).toNat:Nat):Int):Int)<240))else GE N s false
def Hh(N:Nat)(s:W2)(b:Y3):Y1 (Int×Int):=if b=true then ck ((0:Int)<=1/\1<(s.length:Int)) ((CB N (Ax s 1)).bind λa=>CZ N s a)else CZ N s false
def Hi(N:Nat)(s:W2)(a:Y3):Y1 (Int×Int):=if a=true then Hh N s (decide ((s.length:Int)>=2))else Hh N s false
def Hz(N:Nat)(s:W2):Y1 (Int×Int):=if(s.length:Int)=0 then some (65533,0)else ck ((0:Int)<=0/\0<(s.length:Int)) (if((((Ax s 0).toNat:Nat):Int):Int)<128 then some ((((Ax s 0).toNat:Nat):Int),1)else if((((Ax s 0).toNat:Nat):Int):Int)>=194 then Hi N s (decide (((((Ax s 0).toNat:Nat):Int):Int)<224))else Hi N s false)
theorem Rb(N s r)(a:Hz N s=some r):Gives prog 110 #[vS s] (vT #[vI r.1,vI r.2]):=by
 unfold Hz at a
 refine Au follows func110 Z 139 Z _ fz1 (λbc=> ?_)
 refine AZ Z<|Aa λK2 bd=>Ad<|rn 1 Z<|r_W (vI (s.length:Int)) Z (NN Z Z Z)<|rz Z<|aE a Z (λbe a=> ?_) (λbe a=> ?_)
 ·refine AZ Z ?_
  cases a
  exact aR eE2
 refine Ac<|bd _ _ ?_
 refine Ad<|rn 1 Z<|kC a λbf a=>r_W (Value.int .u8 (JN s 0)) Z (GV (HL Z bf))<|r_w (vI (((Ax s 0).toNat:Nat):Int)) Z Z (So (Ax s 0)) (λ_=>Z)<|rz Z<|Aa λK8 bg=>AZ Z<|aD a Z (λy a=> ?_) (λy a=> ?_)
 ·refine AZ Z ?_
  cases a
  exact aR eE2
 refine Ac<|bg _ _ ?_
 refine Aa λbr z=>Aa λbs A=>Ah<|rn 3 Z<|AS 3 21 [(0,vS s),(4,vI (((Ax s 0).toNat:Nat):Int))] vB (λb_=>Hi N s b_=some r) (λbh a T=> ?_) (λb=> ?_)
 ·unfold Hi at a
  refine rn 1 Z<|AS 4 26 [(0,vS s),(4,vI (((Ax s 0).toNat:Nat):Int))] vB (λb_=>Hh N s b_=some r) (λbi a T=> ?_) (λb=> ?_)
  ·unfold Hh at a
   refine rn 1 Z<|AS 4 31 [(0,vS s),(4,vI (((Ax s 0).toNat:Nat):Int))] vB (λb_=>CZ N s b_=some r) (λbt a T=> ?_) (λb=> ?_)
   ·unfold CZ at a
    refine Aj<|A _ _ ?_
    refine aB a Z (λB a=> ?_) (λB a=> ?_)
    ·refine Ad<|rn 1 Z<|kC a λC a=>rX C Z<|kC a λD a=>rX D Z<|rn 1 Z<|kC a λE a=>r_W (Value.int .u8 (JN s 1)) Z (GV (HL Z E))<|r_w (vI (((Ax s 1).toNat:Nat):Int)) Z Z (So (Ax s 1)) (λ_=>Z)<|kC a λF a=>rX F Z<|kC a λG a=>rX G Z<|rz Z ?_
     cases a
     exact aR eE2
    refine Ac<|z _ _ ?_
    refine Cs (λtt ll=>(FD N s  =some r)/\Is [(0,vS s),(4,vI (((Ax s 0).toNat:Nat):Int))] [] tt ll) ?_ ?_
    ·refine Aa λbu H=>Ah<|rn 3 Z<|AS 3 45 [(0,vS s),(4,vI (((Ax s 0).toNat:Nat):Int))] vB (λb_=>GE N s b_=some r) (λbj a T=> ?_) (λb=> ?_)
     ·unfold GE at a
      refine rn 1 Z<|AS 4 50 [(0,vS s),(4,vI (((Ax s 0).toNat:Nat):Int))] vB (λb_=>GD N s b_=some r) (λbk a T=> ?_) (λb=> ?_)
      ·unfold GD at a
       refine rn 1 Z<|AS 4 55 [(0,vS s),(4,vI (((Ax s 0).toNat:Nat):Int))] vB (λb_=>GC N s b_=some r) (λbl a T=> ?_) (λb=> ?_)
       ·unfold GC at a
        refine rn 1 Z<|AS 4 60 [(0,vS s),(4,vI (((Ax s 0).toNat:Nat):Int))] vB (λb_=>CG N s b_=some r) (λbv a T=> ?_) (λb=> ?_)
        ·unfold CG at a
         refine Aj<|H _ _ ?_
         refine aB a Z (λI a=> ?_) (λI a=> ?_)
         ·refine Aa λbw J=>HS [] (by decide+kernel) (λhn=>AN)<|rn 1 Z<|kC a λK a=>rX K Z<|kC a λL a=>rX L Z<|rn 1 Z<|kC a λM a=>r_W (Value.int .u8 (JN s 1)) Z (GV (HL Z M))<|r_w (vI (((Ax s 1).toNat:Nat):Int)) Z Z (So (Ax s 1)) (λ_=>Z)<|kC a λO a=>rX O Z<|kC a λP a=>rX P Z<|kC a λQ a=>rX Q Z<|rn 1 Z<|kC a λR a=>r_W (Value.int .u8 (JN s 2)) Z (GV (HL Z R))<|r_w (vI (((Ax s 2).toNat:Nat):Int)) Z Z (So (Ax s 2)) (λ_=>Z)<|kC a λS a=>rX S Z<|kC a λU a=>rX U Z<|rz Z<|J _ _ ?_
          refine Aa λbz V=>Ah<|rn 3 Z ?_
          refine AS 7 84 [(0,vS s),(4,vI (((Ax s 0).toNat:Nat):Int)),(5,vI (((((4096*((((Ax s 0).toNat:Nat):Int) - 224))+(64*((((Ax s 1).toNat:Nat):Int) - 128)))+(((Ax s 2).toNat:Nat):Int)) - 128)))] vB (λb_=>Fj N s b_=some r) (λca a T=> ?_) (λb=> ?_)
          ·unfold Fj at a
           refine Aj<|V _ _ ?_
           refine aB a Z (λW a=> ?_) (λW a=> ?_)
           ·refine AZ Z ?_
            cases a
            exact aR eE2
           refine Ac<|fg _ (Sub.of suN) ?_
           exact⟨a,Ag Z Z⟩
          rcases e:(decide ((((((4096*((((Ax s 0).toNat:Nat):Int) - 224))+(64*((((Ax s 1).toNat:Nat):Int) - 128)))+(((Ax s 2).toNat:Nat):Int)) - 128):Int)>=2048))with _|_
          ·replace a:=iF e a
           refine rn 3 Z<|Ct Z Z<|Ct Z Z<|rn 2 Z ?_
           exact b _ _ a Z Z
          replace a:=iD e a
          refine rn 3 Z ?_
          rcases f:(decide ((((((4096*((((Ax s 0).toNat:Nat):Int) - 224))+(64*((((Ax s 1).toNat:Nat):Int) - 128)))+(((Ax s 2).toNat:Nat):Int)) - 128):Int)<55296))with _|_
          ·replace a:=iF f a
           refine rn 4 Z ?_
           exact b _ _ a Z Z
          replace a:=iD f a
          refine rn 4 Z ?_
          exact b _ _ a Z Z
         refine Ac<|fg _ (Sub.of suN) ?_
         exact⟨a,Ag Z Z⟩
        rcases g:bl with _|_
        ·replace a:=iB g a
         refine rn 4 Z ?_
         exact b _ _ a Z Z
        replace a:=ifp g a
        refine rn 1 Z<|r_y Z<|kC a λX a=>r_W (Value.int .u8 (JN s 2)) Z (GV (HL Z X))<|r_y Z<|kB a λcb Y a=>rc _ (cF Qb) (GM N _ _ Y)<|rn 1 Z ?_
        exact b _ _ a Z Z
       rcases h:bk with _|_
       ·replace a:=iB h a
        refine rn 4 Z ?_
        exact b _ _ a Z Z
       replace a:=ifp h a
       refine rn 1 Z<|r_y Z<|kC a λaa a=>r_W (Value.int .u8 (JN s 1)) Z (GV (HL Z aa))<|r_y Z<|kB a λcc ab a=>rc _ (cF Qb) (GM N _ _ ab)<|rn 1 Z ?_
       exact b _ _ a Z Z
      rcases i:bj with _|_
      ·replace a:=iB i a
       refine rn 4 Z ?_
       exact b _ _ a Z Z
      replace a:=ifp i a
      refine rn 1 Z<|r_y Z<|r_W (vI (s.length:Int)) Z (NN Z Z Z)<|rn 2 Z ?_
      exact b _ _ a Z Z
     rcases j:(decide (((((Ax s 0).toNat:Nat):Int):Int)>=224))with _|_
     ·replace a:=iF j a
      refine rn 3 Z ?_
      exact b _ _ a Z Z
     replace a:=iD j a
     refine rn 3 Z ?_
     exact b _ _ a Z Z
    clear a;rintro t l ⟨a,⟨T,rfl⟩,rfl⟩
    unfold FD at a
    refine Aa λcd k=>Aa λce ac=>Ah<|rn 3 Z<|AS 3 91 [(0,vS s),(4,vI (((Ax s 0).toNat:Nat):Int))] vB (λb_=>Hg N s b_=some r) (λbm a T=> ?_) (λb=> ?_)
    ·unfold Hg at a
     refine rn 1 Z<|AS 4 96 [(0,vS s),(4,vI (((Ax s 0).toNat:Nat):Int))] vB (λb_=>Hf N s b_=some r) (λbn a T=> ?_) (λb=> ?_)
     ·unfold Hf at a
      refine rn 1 Z<|AS 4 101 [(0,vS s),(4,vI (((Ax s 0).toNat:Nat):Int))] vB (λb_=>He N s b_=some r) (λbo a T=> ?_) (λb=> ?_)
      ·unfold He at a
       refine rn 1 Z<|AS 4 106 [(0,vS s),(4,vI (((Ax s 0).toNat:Nat):Int))] vB (λb_=>Hc N s b_=some r) (λbp a T=> ?_) (λb=> ?_)
       ·unfold Hc at a
        refine rn 1 Z<|AS 4 111 [(0,vS s),(4,vI (((Ax s 0).toNat:Nat):Int))] vB (λb_=>CY s b_=some r) (λcf a T=> ?_) (λb=> ?_)
        ·unfold CY at a
         refine Aj<|ac _ _ ?_
         refine aB a Z (λad a=> ?_) (λad a=> ?_)
         ·refine Aa λcg ae=>HS [] (by decide+kernel) (λhn=>AN)<|rn 1 Z<|kC a λaf a=>rX af Z<|kC a λag a=>rX ag Z<|rn 1 Z<|kC a λah a=>r_W (Value.int .u8 (JN s 1)) Z (GV (HL Z ah))<|r_w (vI (((Ax s 1).toNat:Nat):Int)) Z Z (So (Ax s 1)) (λ_=>Z)<|kC a λai a=>rX ai Z<|kC a λaj a=>rX aj Z<|kC a λak a=>rX ak Z<|rn 1 Z<|kC a λal a=>r_W (Value.int .u8 (JN s 2)) Z (GV (HL Z al))<|r_w (vI (((Ax s 2).toNat:Nat):Int)) Z Z (So (Ax s 2)) (λ_=>Z)<|kC a λam a=>rX am Z<|kC a λan a=>rX an Z<|kC a λao a=>rX ao Z<|rn 1 Z<|kC a λap a=>r_W (Value.int .u8 (JN s 3)) Z (GV (HL Z ap))<|r_w (vI (((Ax s 3).toNat:Nat):Int)) Z Z (So (Ax s 3)) (λ_=>Z)<|kC a λaq a=>rX aq Z<|kC a λar a=>rX ar Z<|rz Z<|ae _ _ ?_
          refine Aa λch au=>Ah ?_
          refine rn 3 Z ?_
          refine AS 3 137 [(6,vI ((((((262144*((((Ax s 0).toNat:Nat):Int) - 240))+(4096*((((Ax s 1).toNat:Nat):Int) - 128)))+(64*((((Ax s 2).toNat:Nat):Int) - 128)))+(((Ax s 3).toNat:Nat):Int)) - 128)))] vB (λb_=>GF s b_=some r) (λci a T=> ?_) (λb=> ?_)
          ·unfold GF at a
           refine Aj<|au _ _ ?_
           refine aB a Z (λav a=> ?_) (λav a=> ?_)
           ·refine AZ Z ?_
            cases a
            exact aR eE2
           refine Ac<|k _ _ ?_
           refine AZ Z ?_
           cases a
           exact aR eE2
          rcases m:(decide (((((((262144*((((Ax s 0).toNat:Nat):Int) - 240))+(4096*((((Ax s 1).toNat:Nat):Int) - 128)))+(64*((((Ax s 2).toNat:Nat):Int) - 128)))+(((Ax s 3).toNat:Nat):Int)) - 128):Int)>=65536))with _|_
          ·replace a:=iF m a
           refine rn 3 Z ?_
           exact b _ _ a Z Z
          replace a:=iD m a
          refine rn 3 Z ?_
          exact b _ _ a Z Z
         refine Ac<|k _ _ ?_
         refine AZ Z ?_
         cases a
         exact aR eE2
        rcases n:bp with _|_
        ·replace a:=iB n a
         refine rn 4 Z ?_
         exact b _ _ a Z Z
        replace a:=ifp n a
        refine rn 1 Z<|r_y Z<|kC a λaw a=>r_W (Value.int .u8 (JN s 3)) Z (GV (HL Z aw))<|r_y Z<|kB a λcj ax a=>rc _ (cF Qb) (GM N _ _ ax)<|rn 1 Z ?_
        exact b _ _ a Z Z
       rcases o:bo with _|_
       ·replace a:=iB o a
        refine rn 4 Z ?_
        exact b _ _ a Z Z
       replace a:=ifp o a
       refine rn 1 Z<|r_y Z<|kC a λay a=>r_W (Value.int .u8 (JN s 2)) Z (GV (HL Z ay))<|r_y Z<|kB a λck az a=>rc _ (cF Qb) (GM N _ _ az)<|rn 1 Z ?_
       exact b _ _ a Z Z
      rcases p:bn with _|_
      ·replace a:=iB p a
       refine rn 4 Z ?_
       exact b _ _ a Z Z
      replace a:=ifp p a
      refine rn 1 Z<|r_y Z<|kC a λba a=>r_W (Value.int .u8 (JN s 1)) Z (GV (HL Z ba))<|r_y Z<|kB a λcl bb a=>rc _ (cF Qb) (GM N _ _ bb)<|rn 1 Z ?_
      exact b _ _ a Z Z
     rcases q:bm with _|_
     ·replace a:=iB q a
      refine rn 4 Z ?_
      exact b _ _ a Z Z
     replace a:=ifp q a
     refine rn 1 Z<|r_y Z<|r_W (vI (s.length:Int)) Z (NN Z Z Z)<|rn 2 Z ?_
     exact b _ _ a Z Z
    rcases u:(decide (((((Ax s 0).toNat:Nat):Int):Int)>=240))with _|_
    ·replace a:=iF u a
     refine rn 3 Z ?_
     exact b _ _ a Z Z
    replace a:=iD u a
    refine rn 3 Z ?_
    exact b _ _ a Z Z
   rcases v:bi with _|_
   ·replace a:=iB v a
    refine rn 4 Z ?_
    exact b _ _ a Z Z
   replace a:=ifp v a
   refine rn 1 Z<|r_y Z<|kC a λw a=>r_W (Value.int .u8 (JN s 1)) Z (GV (HL Z w))<|r_y Z<|kB a λbq x a=>rc _ (cF Qb) (GM N _ _ x)<|rn 1 Z ?_
   exact b _ _ a Z Z
  rcases c:bh with _|_
  ·replace a:=iB c a
   refine rn 4 Z ?_
   exact b _ _ a Z Z
  replace a:=ifp c a
  refine rn 1 Z<|r_y Z<|r_W (vI (s.length:Int)) Z (NN Z Z Z)<|rn 2 Z ?_
  exact b _ _ a Z Z
 rcases d:(decide (((((Ax s 0).toNat:Nat):Int):Int)>=194))with _|_
 ·replace a:=iF d a
  refine rn 3 Z ?_
  exact b _ _ a Z Z
 replace a:=iD d a
 refine rn 3 Z ?_
 exact b _ _ a Z Z
def Ed(N:Nat):Nat->W2->Y0 Int->Y1 (Y0 Int)
  |0,_,_=>none
  |d+1,a,b=>if(a.length:Int)>0 then(Hz N a).bind λc=>ck ((b).length+([c.1]).length<=17592186044416) (ck (0<=c.2/\c.2<=(a.length:Int)) ((Ed N d) ((a).drop (c.2).toNat) (b++([c.1]))))else some b
def FZ(N:Nat)(s:W2):Y1 (Y0 Int):=Ed N N s ([])
theorem Nd(N s r)(b:FZ N s=some r)(A:Ro):Does prog 54 #[vS s] A [] (p1 (λs_=>s_) 3 Ca r):=by
 unfold FZ at b
 refine Ak follows func54 Z 22 Z _ fz1 (λo=> ?_)
 refine AZ Z<|AZ Z<|Aa λB q=>Ai<|BF _ (W6 (Ls:=[[]]) (Ls0:=[]) Z [0] Z)<|AL (λtt ll nn=> ∃(h:Nat) (c:W2) (e:Y0 Int),(Ed N h c e=some r)/\ ∃(d:Y2) (a:Y0 Bl),Sl 3 Ca d e a/\Is [(0,vS c),(3,d)] (V2 [a]) tt ll/\nn=h+1) (N+1) ?_ ?_
 ·exact⟨N,s,[],b,nS,[],Sl.nil,Ag Z Z,Z⟩
 clear b;rintro t l _ ⟨h,c,e,b,d,a,f,⟨⟨T,rfl⟩,rfl⟩,rfl⟩
 rcases h with _|h
 ·exact absurd b (by simp [Ed])
 rw [Ed] at b
 refine Aa λC u=>Ad<|rn 1 Z<|r_W (vI (c.length:Int)) Z (NN Z Z Z)<|rz Z<|aD b Z (λv b=> ?_) (λv b=> ?_)
 ·refine Ac<|u _ _ ?_
  refine Ai<|Ad<|rn 1 Z<|kB b λp j b=>rc _ (cF qL) (Rb N c _ j)<|rz Z<|Ad<|rn 2 Z<|gB (Ls:=[a]) 3 Ca [p.1] (λz i w=> ?_)
  refine kC b λg b=>cC 17<|Ln (cs0:=[]) (Ls:=[a,i]) 0 (En:=Ca) Z Z Z Z Z f Z (AB w (Al (Ls:=[a,i]) (k:=1) Z Z)) Z Z Z Z Z (LB g Z) (LA g Z) Z (λx m y=> ?_)
  refine rz Z<|Ah<|rn 2 Z<|kC b λn b=>r_W (vS ((c).drop (p.2).toNat)) Z (GV (gg Z n))<|rz Z<|fg _ (W5 [m,i] [0] Z) ?_
  exact⟨h+1,by omega,h,(c).drop (p.2).toNat,(e++([p.1])),b,x,m,y,Ag Z Z,Z⟩
 refine AM<|q _ _ ?_
 refine AZ Z ?_
 cases b
 refine AU (λD=>Iq (v0:=d) f (Fu (W5 [a] [0] Z)) Z (Gl Z))
def DD(c:Int)(a:Y3):Y1 Y3:=if a=true then some true else if c>=1024 then some (decide (c<=1279))else some false
def Fc(c:Int)(a:Y3):Y1 Y3:=if a=true then DD c true else if c>=913 then DD c (decide (c<=969))else DD c false
def Fe(c:Int)(a:Y3):Y1 Y3:=if a=true then some false else if c>=192 then Fc c (decide (c<=591))else Fc c false
def Ff(c:Int)(a:Y3):Y1 Y3:=if a=true then Fe c true else Fe c (c==930)
def Fh(c:Int)(a:Y3):Y1 Y3:=if a=true then some true else if c=215 then Ff c true else Ff c (c==247)
def DE(c:Int)(a:Y3):Y1 Y3:=if a=true then Fh c true else Fh c (c==95)
def Fi(c:Int)(a:Y3):Y1 Y3:=if a=true then DE c true else if c>=97 then DE c (decide (c<=122))else DE c false
def FC(_:Nat)(c:Int):Y1 Y3:=if c>=65 then Fi c (decide (c<=90))else Fi c false
theorem MC(N c r)(a:FC N c=some r):Gives prog 55 #[vI c] (vB r):=by
 unfold FC at a
 refine Au follows func55 Z 53 Z _ fz1 (λs=> ?_)
 refine AZ Z<|Aa λF t=>Aa λG u=>Ah<|rn 3 Z<|AS 3 8 [(0,vI c)] vB (λb_=>Fi c b_=some r) (λA a T=> ?_) (λb=> ?_)
 ·unfold Fi at a
  refine rn 1 Z<|AS 7 16 [(0,vI c)] vB (λb_=>DE c b_=some r) (λB a T=> ?_) (λb=> ?_)
  ·unfold DE at a
   refine rn 1 Z<|AS 3 20 [(0,vI c)] vB (λb_=>Fh c b_=some r) (λH a T=> ?_) (λb=> ?_)
   ·unfold Fh at a
    refine Aj<|u _ _ ?_
    refine aB a Z (λv a=> ?_) (λv a=> ?_)
    ·refine AZ Z ?_
     cases a
     exact aR eE1
    refine Ac<|t _ _ ?_
    refine Aa λI w=>Aa λC p=>Ah<|rn 3 Z<|AS 3 26 [(0,vI c)] vB (λb_=>Ff c b_=some r) (λx a T=> ?_) (λb=> ?_)
    ·unfold Ff at a
     refine rn 1 Z<|AS 3 30 [(0,vI c)] vB (λb_=>Fe c b_=some r) (λD a T=> ?_) (λb=> ?_)
     ·unfold Fe at a
      refine Aj<|p _ _ ?_
      refine aB a Z (λq a=> ?_) (λq a=> ?_)
      ·refine AZ Z ?_
       cases a
       exact aR eE1
      refine Ac<|w _ _ ?_
      refine Aa λE d=>Ah<|rn 3 Z<|AS 3 36 [(0,vI c)] vB (λb_=>Fc c b_=some r) (λy a T=> ?_) (λb=> ?_)
      ·unfold Fc at a
       refine rn 1 Z<|AS 7 44 [(0,vI c)] vB (λb_=>DD c b_=some r) (λz a T=> ?_) (λb=> ?_)
       ·unfold DD at a
        refine rn 1 Z ?_
        rcases e:z with _|_
        ·replace a:=iB e a
         refine rn 3 Z ?_
         rcases f:(decide (c>=1024))with _|_
         ·replace a:=iF f a
          refine rz Z<|d _ _ ?_
          cases a
          exact aR eE1
         replace a:=iD f a
         refine rz Z<|d _ _ ?_
         cases a
         exact aR eE1
        replace a:=ifp e a
        refine rn 3 Z<|Ct Z Z<|Ct Z Z<|rz Z<|d _ _ ?_
        cases a
        exact aR eE1
       rcases g:y with _|_
       ·replace a:=iB g a
        refine rn 3 Z ?_
        rcases h:(decide (c>=913))with _|_
        ·replace a:=iF h a
         refine rn 4 Z ?_
         exact b _ _ a Z Z
        replace a:=iD h a
        refine rn 4 Z ?_
        exact b _ _ a Z Z
       replace a:=ifp g a
       refine rn 3 Z<|Ct Z Z<|Ct Z Z<|rn 2 Z ?_
       exact b _ _ a Z Z
      rcases i:(decide (c>=192))with _|_
      ·replace a:=iF i a
       refine rn 3 Z ?_
       exact b _ _ a Z Z
      replace a:=iD i a
      refine rn 3 Z ?_
      exact b _ _ a Z Z
     rcases j:x with _|_
     ·replace a:=iB j a
      refine rn 3 Z ?_
      exact b _ _ a Z Z
     replace a:=ifp j a
     refine rn 3 Z ?_
     exact b _ _ a Z Z
    rcases k:(c==215)with _|_
    ·replace a:=iG k a
     refine rn 3 Z ?_
     exact b _ _ a Z Z
    replace a:=iE k a
    refine rn 3 Z ?_
    exact b _ _ a Z Z
   rcases l:B with _|_
   ·replace a:=iB l a
    refine rn 3 Z ?_
    exact b _ _ a Z Z
   replace a:=ifp l a
   refine rn 3 Z ?_
   exact b _ _ a Z Z
  rcases m:A with _|_
  ·replace a:=iB m a
   refine rn 3 Z ?_
   rcases n:(decide (c>=97))with _|_
   ·replace a:=iF n a
    refine rn 4 Z ?_
    exact b _ _ a Z Z
   replace a:=iD n a
   refine rn 4 Z ?_
   exact b _ _ a Z Z
  replace a:=ifp m a
  refine rn 3 Z<|Ct Z Z<|Ct Z Z<|rn 2 Z ?_
  exact b _ _ a Z Z
 rcases o:(decide (c>=65))with _|_
 ·replace a:=iF o a
  refine rn 3 Z ?_
  exact b _ _ a Z Z
 replace a:=iD o a
 refine rn 3 Z ?_
 exact b _ _ a Z Z
def GN(b:Int)(a:Int->Y1 Y3)(c:Y3):Y1 Y3:=if c=true then some false else ck (R64 (b+1)) (a (b+1))
def Fp(c:Y0 Int)(b:Int)(a:Int->Y1 Y3)(d:Y3):Y1 Y3:=if d=true then ck (0<=b/\b<(c.length:Int)) (GN b a ((c[b.toNat]!:Int) !=46))else GN b a false
def Fq(c:Y0 Int)(b:Int)(a:Int->Y1 Y3)(d:Y3):Y1 Y3:=if d=true then ck (0<=b/\b<(c.length:Int)) (Fp c b a ((c[b.toNat]!:Int) !=45))else Fp c b a false
def BN(N:Nat)(b:Y0 Int):Nat->Int->Y1 Y3
  |0,_=>none
  |c+1,a=>if a<(b.length:Int)then ck (0<=a/\a<(b.length:Int)) ((FC N (b[a.toNat]!)).bind λd=>if d=true then Fq b a (BN N b c) false else ck (0<=a/\a<(b.length:Int)) (if(b[a.toNat]!:Int)>=48 then ck (0<=a/\a<(b.length:Int)) (Fq b a (BN N b c) (!(decide ((b[a.toNat]!:Int)<=57))))else Fq b a (BN N b c) true))else some true
def GO(N:Nat)(b:Y0 Int)(a:Y3):Y1 Y3:=if a=true then some false else BN N b N 0
def HT(N:Nat)(a:Y0 Int)(b:Y3):Y1 Y3:=if b=true then GO N a true else ck (0<=(0:Int)/\(0:Int)<(a.length:Int)) ((FC N (a[((0:Int)).toNat]!)).bind λc=>GO N a (!(c)))
def Hk(N:Nat)(s:W2):Y1 Y3:=(FZ N s).bind λa=>if(a.length:Int)<1 then HT N a true else HT N a (decide ((a.length:Int)>24))
theorem NX(N s r)(a:Hk N s=some r):Gives prog 21 #[vS s] (vB r):=by
 unfold Hk at a
 refine Au follows func21 Z 63 Z _ fz1 (λL=> ?_)
 refine AZ Z<|Ad<|rn 1 Z<|kB a λf M a=>gS (Ls:=[]) (cF ji) (λo w z_=>Nd N s _ M z_.view) (λA g d=> ?_)
 refine rz Z<|Aa λK8 O=>Aa λK9 P=>Ah<|rn 1 Z<|rL (W7 d) Z<|rn 2 Z<|AS 4 14 [(3,A)] vB (λb_=>HT N f b_=some r) (λQ a T=> ?_) (λe=> ?_)
 ·unfold HT at a
  refine rn 1 Z<|AS 6 21 [(3,A)] vB (λb_=>GO N f b_=some r) (λV a T=> ?_) (λe=> ?_)
  ·unfold GO at a
   refine Aj<|P _ _ ?_
   refine aB a Z (λB a=> ?_) (λB a=> ?_)
   ·refine AZ Z ?_
    cases a
    exact aR eE1
   refine Ac<|O _ _ ?_
   refine Aa λW C=>AZ Z<|Ai<|BF _ (W5 [g] [0] Z)<|AL (λtt ll nn=> ∃(c:Nat) (b:Int),(BN N f c b=some r)/\Is [(3,A),(4,vI b)] (V2 [g]) tt ll/\nn=c+1) (N+1) ?_ ?_
   ·exact⟨N,0,a,Ag Z Z,Z⟩
   clear a;rintro t l _ ⟨c,b,a,⟨⟨T,rfl⟩,rfl⟩,rfl⟩
   rcases c with _|c
   ·exact absurd a (by simp [BN])
   rw [BN] at a
   refine Aa λX D=>Ad<|rn 2 Z<|rL (W7 d) Z<|rz Z<|aD a Z (λE a=> ?_) (λE a=> ?_)
   ·refine Ac<|D _ _ ?_
    refine Aa λY F=>Ai<|Aa λaa G=>Ah<|rn 2 Z<|kC a λh a=>rI (W7 d) h Z<|rE (AB d (Al (Ls:=[g]) (k:=0) Z Z)) h 0 Z<|kB a λR H a=>rc _ (cF jh) (MC N _ _ H)<|rn 2 Z<|AS 14 48 [(3,A),(4,vI b)] vB (λb_=>Fq f b (BN N f c) b_=some r) (λS a T=> ?_) (λe=> ?_)
    ·unfold Fq at a
     refine rn 1 Z<|AS 6 55 [(3,A),(4,vI b)] vB (λb_=>Fp f b (BN N f c) b_=some r) (λU a T=> ?_) (λe=> ?_)
     ·unfold Fp at a
      refine rn 1 Z<|AS 6 62 [(3,A),(4,vI b)] vB (λb_=>GN b (BN N f c) b_=some r) (λab a T=> ?_) (λe=> ?_)
      ·unfold GN at a
       refine Aj<|G _ _ ?_
       refine aB a Z (λI a=> ?_) (λI a=> ?_)
       ·refine AZ Z ?_
        cases a
        exact aR eE1
       refine Ac<|F _ _ ?_
       refine Ah<|rn 1 Z<|kC a λJ a=>rX J Z<|rz Z<|fg _ (W5 [g] [0] Z) ?_
       exact⟨c+1,by omega,c,(b+1),a,Ag Z Z,Z⟩
      rcases i:U with _|_
      ·replace a:=iB i a
       refine rn 6 Z ?_
       exact e _ _ a Z Z
      replace a:=ifp i a
      refine rn 2 Z<|r_y Z<|kC a λj a=>rI (W7 d) j Z<|r_y Z<|rE (AB d (Al (Ls:=[g]) (k:=0) Z Z)) j 0 Z<|rn 2 Z ?_
      exact e _ _ a Z Z
     rcases m:S with _|_
     ·replace a:=iB m a
      refine rn 6 Z ?_
      exact e _ _ a Z Z
     replace a:=ifp m a
     refine rn 2 Z<|r_y Z<|kC a λn a=>rI (W7 d) n Z<|r_y Z<|rE (AB d (Al (Ls:=[g]) (k:=0) Z Z)) n 0 Z<|rn 2 Z ?_
     exact e _ _ a Z Z
    rcases p:(!(R))with _|_
    ·replace a:=ifp (DH p) a
     refine rn 6 Z<|Ct Z Z<|Ct Z Z<|Ct Z Z<|Ct Z Z<|Ct Z Z<|rn 3 Z ?_
     exact e _ _ a Z Z
    replace a:=ifn (Bool.eq_false_iff.1 (DG p)) a
    refine rn 2 Z<|r_y Z<|kC a λq a=>rI (W7 d) q Z<|r_y Z<|rE (AB d (Al (Ls:=[g]) (k:=0) Z Z)) q 0 Z<|rn 2 Z ?_
    rcases u:(decide ((f[b.toNat]!:Int)>=48))with _|_
    ·replace a:=iF u a
     refine rn 8 Z ?_
     exact e _ _ a Z Z
    replace a:=iD u a
    refine rn 2 Z<|r_y Z<|kC a λv a=>rI (W7 d) v Z<|r_y Z<|rE (AB d (Al (Ls:=[g]) (k:=0) Z Z)) v 0 Z<|rn 4 Z ?_
    exact e _ _ a Z Z
   refine AM<|C _ _ ?_
   refine AZ Z ?_
   cases a
   exact aR eE1
  rcases x:Q with _|_
  ·replace a:=iB x a
   refine rn 1 Z<|r_y Z<|kC a λy a=>rI (W7 d) y Z<|r_y Z<|rE (AB d (Al (Ls:=[g]) (k:=0) Z Z)) y 0 Z<|r_y Z<|kB a λac K a=>rc _ (cF jh) (MC N _ _ K)<|rn 2 Z ?_
   exact e _ _ a Z Z
  replace a:=ifp x a
  refine rn 6 Z ?_
  exact e _ _ a Z Z
 rcases z:(decide ((f.length:Int)<1))with _|_
 ·replace a:=iF z a
  refine rn 1 Z<|r_y Z<|rL (W7 d) Z<|rn 2 Z ?_
  exact e _ _ a Z Z
 replace a:=iD z a
 refine rn 4 Z ?_
 exact e _ _ a Z Z
def CV(N:Nat)(s:W2):Nat->Int->Y1 Y3
  |0,_=>none
  |c+1,a=>if a<(s.length:Int)then ck ((0:Int)<=a/\a<(s.length:Int)) (if((JN s a):Int)=46 then some false else ck (R64 (a+1)) ((CV N s c) (a+1)))else(Hk N s).bind λb=>some b
def Dq(N:Nat)(s:W2):Y1 Y3:=CV N s N 0
theorem IG(N s r)(a:Dq N s=some r):Gives prog 56 #[vS s] (vB r):=by
 unfold Dq at a
 refine Au follows func56 Z 16 Z _ fz1 (λh=> ?_)
 refine AZ Z<|Aa λo i=>AZ Z<|Ai<|AL (λtt ll nn=> ∃(c:Nat) (b:Int),(CV N s c b=some r)/\Is [(0,vS s),(3,vI b)] [] tt ll/\nn=c+1) (N+1) ?_ ?_
 ·exact⟨N,0,a,Ag Z Z,Z⟩
 clear a;rintro t l _ ⟨c,b,a,⟨⟨T,rfl⟩,rfl⟩,rfl⟩
 rcases c with _|c
 ·exact absurd a (by simp [CV])
 rw [CV] at a
 refine Aa λp j=>Ad<|rn 2 Z<|r_W (vI (s.length:Int)) Z (NN Z Z Z)<|rz Z<|aD a Z (λk a=> ?_) (λk a=> ?_)
 ·refine Ac<|j _ _ ?_
  refine Aa λq m=>Ai<|Ad<|rn 2 Z<|kC a λd a=>r_W (Value.int .u8 (JN s b)) Z (GV (HL Z d))<|rz Z<|aE a Z (λe a=> ?_) (λe a=> ?_)
  ·refine AZ Z ?_
   cases a
   exact aR eE1
  refine Ac<|m _ _ ?_
  refine Ah<|rn 1 Z<|kC a λf a=>rX f Z<|rz Z<|fg _ (Sub.of suN) ?_
  exact⟨c+1,by omega,c,(b+1),a,Ag Z Z,Z⟩
 refine AM<|i _ _ ?_
 refine Ad<|rn 1 Z<|kB a λn g a=>rc _ (cF jn) (NX N s _ g)<|rz Z ?_
 cases a
 exact aR eE1
def Hy(c:Int)(a:Y3):Y1 Int:=if a=true then ck (R64 (c+80)) (some (c+80))else if c=962 then some 963 else some c
def EL(c:Int)(a:Y3):Y1 Int:=if a=true then ck (R64 (c+32)) (some (c+32))else if c>=1024 then Hy c (decide (c<=1039))else Hy c false
def Ds(c:Int)(a:Y3):Y1 Int:=if a=true then EL c true else if c>=1040 then EL c (decide (c<=1071))else EL c false
def Dt(c:Int)(a:Y3):Y1 Int:=if a=true then Ds c true else if c>=913 then if c<=937 then Ds c (c !=930)else Ds c false else Ds c false
def Ga(c:Int)(a:Y3):Y1 Int:=if a=true then Dt c true else if c>=192 then if c<=222 then Dt c (c !=215)else Dt c false else Dt c false
def HU(_:Nat)(c:Int):Y1 Int:=if c>=65 then Ga c (decide (c<=90))else Ga c false
theorem RV(N c r)(a:HU N c=some r):Gives prog 187 #[vI c] (vI r):=by
 unfold HU at a
 refine Au follows func187 Z 54 Z _ fz1 (λw=> ?_)
 refine Ad<|r_V (vI 0) Z<|Aj<|Aa λG x=>Aa λH y=>Ah<|r_R [vI c,vB (decide (c>=65)),vB (decide (c>=65))] Z<|AS 3 8 [(0,vI c)] vB (λb_=>Ga c b_=some r) (λz a T=> ?_) (λb=> ?_)
 ·unfold Ga at a
  refine r_V (vB z) Z<|AS 11 20 [(0,vI c)] vB (λb_=>Dt c b_=some r) (λA a T=> ?_) (λb=> ?_)
  ·unfold Dt at a
   refine r_V (vB A) Z<|AS 11 32 [(0,vI c)] vB (λb_=>Ds c b_=some r) (λB a T=> ?_) (λb=> ?_)
   ·unfold Ds at a
    refine r_V (vB B) Z<|AS 7 40 [(0,vI c)] vB (λb_=>EL c b_=some r) (λI a T=> ?_) (λb=> ?_)
    ·unfold EL at a
     refine Aj<|y _ _ ?_
     refine BS _ Z (λs=> ?_) (λs=> ?_)
     ·replace a:=ifp s a
      refine Ad<|r_V (vI c) Z ?_
      obtain⟨f,a⟩:=LN a
      refine r_X (vI (c+32)) Z (RU Z f.1 f.2) Z<|r_V (vI (c+32)) Z<|Aj ?_
      cases a
      exact aR eE1
     replace a:=iB s a
     refine Ac<|x _ _ ?_
     refine Aa λC t=>Aa λD u=>Ah<|r_R [vI c,vB (decide (c>=1024)),vB (decide (c>=1024))] Z<|AS 3 48 [(0,vI c)] vB (λb_=>Hy c b_=some r) (λE a T=> ?_) (λb=> ?_)
     ·unfold Hy at a
      refine Aj<|u _ _ ?_
      refine BS _ Z (λd=> ?_) (λd=> ?_)
      ·replace a:=ifp d a
       refine Ad<|r_V (vI c) Z ?_
       obtain⟨g,a⟩:=LN a
       refine r_X (vI (c+80)) Z (RU Z g.1 g.2) Z<|r_V (vI (c+80)) Z<|Aj ?_
       cases a
       exact aR eE1
      replace a:=iB d a
      refine Ac<|t _ _ ?_
      refine Aa λF v=>Ad<|r_R [vI c,vB (c==962)] Z<|Aj<|BS _ Z (λe=> ?_) (λe=> ?_)
      ·replace a:=iE e a
       refine Ad<|r_V (vI 963) Z<|Aj ?_
       cases a
       exact aR eE1
      replace a:=iG e a
      refine Ac<|v _ _ ?_
      refine Ad<|r_R [vI c,vI c] Z<|Aj ?_
      cases a
      exact aR eE1
     rcases h:(decide (c>=1024))with _|_
     ·replace a:=iF h a
      refine r_R [none,none,vB false] Z ?_
      exact b _ _ a Z Z
     replace a:=iD h a
     refine r_R [vI c,vB (decide (c<=1039)),vB (decide (c<=1039))] Z ?_
     exact b _ _ a Z Z
    rcases i:B with _|_
    ·replace a:=iB i a
     refine r_R [vI c,vB (decide (c>=1040)),vB (decide (c>=1040))] Z ?_
     rcases j:(decide (c>=1040))with _|_
     ·replace a:=iF j a
      refine r_R [none,none,vB false,vB false] Z ?_
      exact b _ _ a Z Z
     replace a:=iD j a
     refine r_R [vI c,vB (decide (c<=1071)),vB (decide (c<=1071)),vB (decide (c<=1071))] Z ?_
     exact b _ _ a Z Z
    replace a:=ifp i a
    refine r_R [none,none,none] Z<|Ct Z Z<|Ct Z Z<|r_R [none,vB true] Z ?_
    exact b _ _ a Z Z
   rcases k:A with _|_
   ·replace a:=iB k a
    refine r_R [vI c,vB (decide (c>=913)),vB (decide (c>=913))] Z ?_
    rcases l:(decide (c>=913))with _|_
    ·replace a:=iF l a
     refine r_R [none,none,vB false,vB false,none,none,vB false,vB false] Z ?_
     exact b _ _ a Z Z
    replace a:=iD l a
    refine r_R [vI c,vB (decide (c<=937)),vB (decide (c<=937)),vB (decide (c<=937))] Z ?_
    rcases m:(decide (c<=937))with _|_
    ·replace a:=iF m a
     refine r_R [none,none,vB false,vB false] Z ?_
     exact b _ _ a Z Z
    replace a:=iD m a
    refine r_R [vI c,vB (c !=930),vB (c !=930),vB (c !=930)] Z ?_
    exact b _ _ a Z Z
   replace a:=ifp k a
   refine r_R [none,none,none] Z<|Ct Z Z<|Ct Z Z<|r_R [none,none] Z<|Ct Z Z<|Ct Z Z<|r_R [none,vB true] Z ?_
   exact b _ _ a Z Z
  rcases n:z with _|_
  ·replace a:=iB n a
   refine r_R [vI c,vB (decide (c>=192)),vB (decide (c>=192))] Z ?_
   rcases o:(decide (c>=192))with _|_
   ·replace a:=iF o a
    refine r_R [none,none,vB false,vB false,none,none,vB false,vB false] Z ?_
    exact b _ _ a Z Z
   replace a:=iD o a
   refine r_R [vI c,vB (decide (c<=222)),vB (decide (c<=222)),vB (decide (c<=222))] Z ?_
   rcases p:(decide (c<=222))with _|_
   ·replace a:=iF p a
    refine r_R [none,none,vB false,vB false] Z ?_
    exact b _ _ a Z Z
   replace a:=iD p a
   refine r_R [vI c,vB (c !=215),vB (c !=215),vB (c !=215)] Z ?_
   exact b _ _ a Z Z
  replace a:=ifp n a
  refine r_R [none,none,none] Z<|Ct Z Z<|Ct Z Z<|r_R [none,none] Z<|Ct Z Z<|Ct Z Z<|r_R [none,vB true] Z ?_
  exact b _ _ a Z Z
 rcases q:(decide (c>=65))with _|_
 ·replace a:=iF q a
  refine r_R [none,none,vB false] Z ?_
  exact b _ _ a Z Z
 replace a:=iD q a
 refine r_R [vI c,vB (decide (c<=90)),vB (decide (c<=90))] Z ?_
 exact b _ _ a Z Z
def Dr(N:Nat):Nat->Y0 Int->Int->Y1 (Y0 Int)
  |0,_,_=>none
  |d+1,b,a=>if a<(b.length:Int)then ck (0<=a/\a<(b.length:Int)) ((HU N (b[a.toNat]!)).bind λc=>ck (0<=a/\a<(b.length:Int)) (ck (R64 (a+1)) ((Dr N d) ((b).set (a.toNat) c) (a+1))))else some b
def GP(N:Nat)(s:W2):Y1 (Y0 Int):=(FZ N s).bind λa=>Dr N N a 0
theorem Ny(N s r)(a:GP N s=some r)(G:Ro):Does prog 112 #[vS s] G [] (p1 (λs_=>s_) 3 Ca r):=by
 unfold GP at a
 refine Ak follows func112 Z 22 Z _ fz1 (λv=> ?_)
 refine AZ Z<|Ad<|rn 1 Z<|kB a λC x a=>gS (Ls:=[]) (cF ji) (λo w z_=>Nd N s _ x z_.view) (λy B D=> ?_)
 refine rz Z<|Aa λH z=>AZ Z<|Ai<|BF _ (W5 [B] [0] Z)<|AL (λtt ll nn=> ∃(d:Nat) (f:Y0 Int) (e:Int),(Dr N d f e=some r)/\ ∃(b:Y0 Bl),Sl 3 Ca y f b/\Is [(3,y),(4,vI e)] (V2 [b]) tt ll/\nn=d+1) (N+1) ?_ ?_
 ·exact⟨N,C,0,a,B,D,Ag Z Z,Z⟩
 clear a;rintro t l _ ⟨d,f,e,a,b,c,⟨⟨T,rfl⟩,rfl⟩,rfl⟩
 rcases d with _|d
 ·exact absurd a (by simp [Dr])
 rw [Dr] at a
 refine Aa λE i=>Ad<|rn 2 Z<|rL (W7 c) Z<|rz Z<|aD a Z (λj a=> ?_) (λj a=> ?_)
 ·refine Ac<|i _ _ ?_
  refine Aa λF m=>Ai<|Ah<|rn 4 Z<|kC a λg a=>rI (W7 c) g Z<|rE (AB c (Al (Ls:=[b]) (k:=0) Z Z)) g 0 Z<|kB a λn p a=>rc _ (cF pG) (RV N _ _ p)<|kC a λh a=>rI (W7 c) h Z<|QR (Ls:=[b]) 0 (En:=Ca) (f[e.toNat]!) n (e.toNat) 0 Z Z Z c (Cp h) Z Z Z (It Z) Z (λq A=> ?_)
  refine Aj<|m _ _ ?_
  refine Ah<|rn 1 Z<|kC a λu a=>rX u Z<|rz Z<|fg _ (W5 [q] [0] Z) ?_
  exact⟨d+1,by omega,d,(f).set (e.toNat) n,(e+1),a,q,A,Ag Z Z,Z⟩
 refine AM<|z _ _ ?_
 refine AZ Z ?_
 cases a
 refine AU (λI=>Iq (v0:=y) c (Fu (W5 [b] [0] Z)) Z (Gl Z))
def CX(a b:Y0 Int)(d:Int)(c:Int->Y1 Int)(e:Y3):Y1 Int:=if e=true then ck (0<=d/\d<(a.length:Int)) (ck (0<=d/\d<(b.length:Int)) (if(a[d.toNat]!:Int)<b[d.toNat]! then some (-1)else ck (0<=d/\d<(a.length:Int)) (ck (0<=d/\d<(b.length:Int)) (if(a[d.toNat]!:Int)>b[d.toNat]! then some 1 else ck (R64 (d+1)) (c (d+1))))))else if(a.length:Int)<(b.length:Int)then some (-1)else if(a.length:Int)>(b.length:Int)then some 1 else some 0
def Cd(a b:Y0 Int):Nat->Int->Y1 Int
  |0,_=>none
  |d+1,c=>if c<(a.length:Int)then CX a b c (Cd a b d) (decide (c<(b.length:Int)))else CX a b c (Cd a b d) false
def Hx(N:Nat)(a b:Y0 Int):Y1 Int:=Cd a b N 0
theorem Ra(N a b r)(c:Hx N a b=some r)(H A)(k:Rd Ca H A a)(B)(m:Rd Ca H B b):Does prog 111 #[A,B] H [] (pV (vI r)):=by
 unfold Hx at c
 refine Ak follows func111 Z 46 Z _ fz2 (λz=> ?_)
 refine AZ Z<|Aa λQ C=>AZ Z<|Ai<|AL (λtt ll nn=> ∃(e:Nat) (d:Int),(Cd a b e d=some r)/\Is [(0,A),(1,B),(5,vI d)] [] tt ll/\nn=e+1) (N+1) ?_ ?_
 ·exact⟨N,0,c,Ag Z Z,Z⟩
 clear c;rintro t l _ ⟨e,d,c,⟨⟨T,rfl⟩,rfl⟩,rfl⟩
 rcases e with _|e
 ·exact absurd c (by simp [Cd])
 rw [Cd] at c
 refine Aa λR D=>Aa λS E=>Ah<|rn 2 Z<|rL (W8 k) Z<|rn 2 Z<|AS 5 15 [(0,A),(1,B),(5,vI d)] vB (λb_=>CX a b d (Cd a b e) b_=some r) (λU c T=> ?_) (λI=> ?_)
 ·unfold CX at c
  refine Aj<|E _ _ ?_
  refine aB c Z (λF c=> ?_) (λF c=> ?_)
  ·refine Ac<|D _ _ ?_
   refine Aa λV G=>Ai<|Aa λJ n=>Aa λK o=>HS [] (by decide+kernel) (λL=>AN)<|rn 2 Z<|kC c λf c=>rI (W8 k) f Z<|rE (Ay k) f 0 Z<|rn 2 Z<|kC c λg c=>rI (W8 m) g Z<|rE (Ay m) g 0 Z<|rz Z<|o _ _ ?_
   refine aD c Z (λp c=> ?_) (λp c=> ?_)
   ·refine AZ Z ?_
    cases c
    exact aR eV1
   refine Ac<|n _ _ ?_
   refine Aa λM q=>HS [] (by decide+kernel) (λL=>AN)<|rn 2 Z<|kC c λh c=>rI (W8 k) h Z<|rE (Ay k) h 0 Z<|rn 2 Z<|kC c λi c=>rI (W8 m) i Z<|rE (Ay m) i 0 Z<|rz Z<|q _ _ ?_
   refine aD c Z (λs c=> ?_) (λs c=> ?_)
   ·refine AZ Z ?_
    cases c
    exact aR eV1
   refine Ac<|G _ _ ?_
   refine Ah<|rn 1 Z<|kC c λu c=>rX u Z<|rz Z<|fg _ (Sub.of suN) ?_
   exact⟨e+1,by omega,e,(d+1),c,Ag Z Z,Z⟩
  refine AM<|C _ _ ?_
  refine Aa λO v=>Ad<|rn 1 Z<|rL (W8 k) Z<|rn 1 Z<|rL (W8 m) Z<|rz Z<|aD c Z (λw c=> ?_) (λw c=> ?_)
  ·refine AZ Z ?_
   cases c
   exact aR eV1
  refine Ac<|v _ _ ?_
  refine Aa λP x=>Ad<|rn 1 Z<|rL (W8 k) Z<|rn 1 Z<|rL (W8 m) Z<|rz Z<|aD c Z (λy c=> ?_) (λy c=> ?_)
  ·refine AZ Z ?_
   cases c
   exact aR eV1
  refine Ac<|x _ _ ?_
  refine AZ Z ?_
  cases c
  exact aR eV1
 rcases j:(decide (d<(a.length:Int)))with _|_
 ·replace c:=iF j c
  refine rn 5 Z ?_
  exact I _ _ c Z Z
 replace c:=iD j c
 refine rn 2 Z<|r_y Z<|rL (W8 m) Z<|rn 2 Z ?_
 exact I _ _ c Z Z
def EK(N:Nat)(a b:W2):Y1 Y3:=(GP N a).bind λd=>(GP N b).bind λe=>(Hx N d e).bind λc=>some (c==0)
theorem Kr(N a b r)(c:EK N a b=some r):Gives prog 57 #[vS a,vS b] (vB r):=by
 unfold EK at c
 refine Au follows func57 Z 11 Z _ fz2 (λf=> ?_)
 refine AZ Z<|Ad<|rn 1 Z<|kB c λm g c=>gS (Ls:=[]) (cF eN) (λo w z_=>Ny N a _ g z_.view) (λn h p=> ?_)
 refine rn 1 Z<|kB c λq i c=>gS (Ls:=[h]) (cF eN) (λo w z_=>Ny N b _ i z_.view) (λj d l=> ?_)
 refine kB c λs e c=>gV _ (cF qK) (λo w z_=>Ra N m q _ e z_.view n ((AB p (Al (Ls:=[h,d]) (k:=0) Z Z)) o w z_) j ((AB l (Al (Ls:=[h,d]) (k:=1) Z Z)) o w z_))<|rz Z ?_
 cases c
 exact aR eE1
def CU(d:Int)(b:Y0 (Int×Int)->Int->Y1 (Y0 (Int×Int)))(c:Y0 (Int×Int))(e:Int)(a:Y0 (Int×Int)->Int->Y1 (Y0 (Int×Int)))(f:Y3):Y1 (Y0 (Int×Int)):=if f=true then ck ((c).length+([(d,e)]).length<=8796093022208) (ck (R64 (e+1)) (a (c++([(d,e)])) (e+1)))else ck (R64 (d+1)) (b c (d+1))
def BG(c:Int)(a:Y0 (Int×Int)->Int->Y1 (Y0 (Int×Int)))(b:Int):Nat->Y0 (Int×Int)->Int->Y1 (Y0 (Int×Int))
  |0,_,_=>none
  |f+1,d,e=>if e<b then CU c a d e (BG c a b f) (decide (b<=4))else CU c a d e (BG c a b f) false
def FB(N:Nat)(b:Y0 (Int×Int))(d:Int)(a:Y0 (Int×Int)->Int->Y1 (Y0 (Int×Int)))(c:Int):Y1 (Y0 (Int×Int)):=BG d a c N b 0
def Bo(N:Nat)(c:Y0 (W2×Int×Int)):Nat->Y0 (Int×Int)->Int->Y1 (Y0 (Int×Int))
  |0,_,_=>none
  |d+1,b,a=>if a<(c.length:Int)then ck (0<=a/\a<(c.length:Int)) (if((c[a.toNat]!).2.2:Int)=0 then FB N b a (Bo N c d) 1 else FB N b a (Bo N c d) ((c[a.toNat]!).2.2))else some b
def Dp(N:Nat)(a:Y0 (W2×Int×Int)):Y1 (Y0 (Int×Int)):=Bo N a N ([]) 0
theorem IF(N x r)(b:Dp N x=some r)(R p)(u:Rd Ad7 R p x):Does prog 58 #[p] R [] (p1 (λs_=>s_) 129 QC r):=by
 unfold Dp at b
 refine Ak follows func58 Z 36 Z _ fz1 (λH=> ?_)
 refine AZ Z<|AZ Z<|Aa λY I=>AZ Z<|Ai<|BF _ (W6 (Ls:=[[]]) (Ls0:=[]) Z [0] Z)<|AL (λtt ll nn=> ∃(q:Nat) (h:Y0 (Int×Int)) (f:Int),(Bo N x q h f=some r)/\ ∃(d:Y2) (a:Y0 Bl),Sl 129 QC d h a/\Is [(0,p),(3,d),(4,vI f)] (V2 [a]) tt ll/\nn=q+1) (N+1) ?_ ?_
 ·exact⟨N,[],0,b,nS,[],Sl.nil,Ag Z Z,Z⟩
 clear b;rintro t l _ ⟨q,h,f,b,d,a,n,⟨⟨T,rfl⟩,rfl⟩,rfl⟩
 rcases q with _|q
 ·exact absurd b (by simp [Bo])
 rw [Bo] at b
 refine Aa λK6 J=>Ad<|rn 2 Z<|rL (W8 u) Z<|rz Z<|aD b Z (λK b=> ?_) (λK b=> ?_)
 ·refine Ac<|J _ _ ?_
  refine Aa λK9 L=>Ai<|Ad<|rn 2 Z<|kC b λs b=>rI (W8 u) s Z<|rF (W8 u) (Bp s) Z<|rE (Ay u) s 2 Z<|rz Z<|Cs (λtt ll=> ∃(j:Int),(FB N h f (Bo N x q) j=some r)/\Is [(0,p),(3,d),(4,vI f),(5,vI j)] (V2 [a]) tt ll) ?_ ?_
  ·refine AZ Z<|aE b Z (λz b=> ?_) (λz b=> ?_)
   ·refine Ah<|rz Z<|fg _ (W5 [a] [0] Z) ?_
    exact⟨1,b,Ag Z Z⟩
   refine Ac<|fg _ (W5 [a] [0] Z) ?_
   exact⟨(x[f.toNat]!).2.2,b,Ag Z Z⟩
  clear b;rintro t l ⟨j,b,⟨T,rfl⟩,rfl⟩
  unfold FB at b
  refine AZ Z<|Ai<|BF _ (W5 [a] [0] Z)<|AL (λtt ll nn=> ∃(m:Nat) (g:Y0 (Int×Int)) (i:Int),(BG f (Bo N x q) j m g i=some r)/\ ∃(e:Y2) (c:Y0 Bl),Sl 129 QC e g c/\Is [(0,p),(3,e),(4,vI f),(5,vI j),(6,vI i)] (V2 [c]) tt ll/\nn=m+1) (N+1) ?_ ?_
  ·exact⟨N,h,0,b,d,a,n,Ag Z Z,Z⟩
  clear b;rintro t l _ ⟨m,g,i,b,e,c,o,⟨⟨T,rfl⟩,rfl⟩,rfl⟩
  rcases m with _|m
  ·exact absurd b (by simp [BG])
  rw [BG] at b
  refine Aa λS A=>Aa λU B=>Ah<|rn 4 Z<|AS 3 26 [(0,p),(3,e),(4,vI f),(5,vI j),(6,vI i)] vB (λb_=>CU f (Bo N x q) g i (BG f (Bo N x q) j m) b_=some r) (λV b T=> ?_) (λQ=> ?_)
  ·unfold CU at b
   refine Aj<|B _ _ ?_
   refine aB b Z (λC b=> ?_) (λC b=> ?_)
   ·refine Ac<|A _ _ ?_
    refine Aa λW D=>Ai<|Ah<|r_R [e,vI f,vI i] Z<|r_W (vA #[vI f,vI i]) Z (Bn Z Z Z Z)<|gB (Ls:=[c]) 129 QC [(f,i)] (λX y M=> ?_)
    refine kC b λv b=>cC 34<|Ln (cs0:=[]) (Ls:=[c,y]) 0 (En:=QC) Z Z Z Z Z o Z (AB M (Al (Ls:=[c,y]) (k:=1) Z Z)) Z Z Z Z Z (LB v Z) (LA v Z) Z (λO E P=> ?_)
    refine rz Z<|D _ _ ?_
    refine Ah<|rn 1 Z<|kC b λF b=>rX F Z<|rz Z<|fg _ (W5 [E,y] [0] Z) ?_
    exact⟨m+1,by omega,m,(g++([(f,i)])),(i+1),b,O,E,P,Ag Z Z,Z⟩
   refine AM<|L _ _ ?_
   refine Ah<|rn 1 Z<|kC b λG b=>rX G Z<|rz Z<|fg _ (W5 [c] [0] Z) ?_
   exact⟨q+1,by omega,q,g,(f+1),b,e,c,o,Ag Z Z,Z⟩
  rcases w:(decide (i<j))with _|_
  ·replace b:=iF w b
   refine rn 3 Z ?_
   exact Q _ _ b Z Z
  replace b:=iD w b
  refine rn 3 Z ?_
  exact Q _ _ b Z Z
 refine AM<|I _ _ ?_
 refine AZ Z ?_
 cases b
 refine AU (λhn=>Iq (v0:=d) n (Fu (W5 [a] [0] Z)) Z (Gl Z))
def Ha(b:Int)(a:Int->Y1 Int)(c:Y3):Y1 Int:=if c=true then some 7 else ck (R64 (b+1)) (a (b+1))
def Hb(c:Y0 (W2×Int×Int))(b:Int)(a:Int->Y1 Int)(d:Y3):Y1 Int:=if d=true then some 5 else ck (0<=b/\b<(c.length:Int)) (if((c[b.toNat]!).2.2:Int)<0 then Ha b a true else ck (0<=b/\b<(c.length:Int)) (Ha b a (decide (((c[b.toNat]!).2.2:Int)>4))))
def CW(N:Nat)(d:Y0 ((W2)×(Y0 (W2×Int))×Int×Int×Int×Int))(c:Y0 (W2×Int×Int))(b:Int)(a:Int->Y1 Int):Nat->Int->Y1 Int
  |0,_=>none
  |f+1,e=>if e<b then ck (0<=e/\e<(c.length:Int)) (ck (0<=b/\b<(c.length:Int)) ((EK N ((c[e.toNat]!).1) ((c[b.toNat]!).1)).bind λg=>if g=true then some 6 else ck (R64 (e+1)) ((CW N d c b a f) (e+1))))else ck (0<=b/\b<(c.length:Int)) (if((c[b.toNat]!).2.1:Int)<0 then Hb c b a true else ck (0<=b/\b<(c.length:Int)) (Hb c b a (decide (((c[b.toNat]!).2.1:Int)>=(d.length:Int)))))
def BH(N:Nat)(a:Y0 ((W2)×(Y0 (W2×Int))×Int×Int×Int×Int))(c:Y0 (W2×Int×Int)):Nat->Int->Y1 Int
  |0,_=>none
  |f+1,b=>if b<(c.length:Int)then ck (0<=b/\b<(c.length:Int)) ((Dq N ((c[b.toNat]!).1)).bind λe=>if e=true then CW N a c b (BH N a c f) N 0 else some 4)else(Dp N c).bind λd=>if(d.length:Int)>32 then some 8 else some 0
def Hw(N:Nat)(a:Y0 ((W2)×(Y0 (W2×Int))×Int×Int×Int×Int))(b:Y0 (W2×Int×Int)):Y1 Int:=if(b.length:Int)>16 then some 2 else BH N a b N 0
theorem QZ(N d u r)(a:Hw N d u=some r)(ro c)(h:RdN Ad1 ro c d)(g)(b:Rd Ad7 ro g u):Does prog 22 #[c,g] ro [] (pV (vI r)):=by
 unfold Hw at a
 refine Ak follows func22 Z 73 Z _ fz2 (λY=> ?_)
 refine AZ Z<|Aa λK2 aa=>Ad<|rn 1 Z<|rL (W8 b) Z<|rz Z<|aD a Z (λab a=> ?_) (λab a=> ?_)
 ·refine AZ Z ?_
  cases a
  exact aR eV1
 refine Ac<|aa _ _ ?_
 refine Aa λK6 ac=>AZ Z<|Ai<|AL (λtt ll nn=> ∃(v:Nat) (e:Int),(BH N d u v e=some r)/\Is [(0,c),(1,g),(5,vI e)] [] tt ll/\nn=v+1) (N+1) ?_ ?_
 ·exact⟨N,0,a,Ag Z Z,Z⟩
 clear a;rintro t l _ ⟨v,e,a,⟨⟨T,rfl⟩,rfl⟩,rfl⟩
 rcases v with _|v
 ·exact absurd a (by simp [BH])
 rw [BH] at a
 refine Aa λK9 ad=>Ad<|rn 2 Z<|rL (W8 b) Z<|rz Z<|aD a Z (λA a=> ?_) (λA a=> ?_)
 ·refine Ac<|ad _ _ ?_
  refine Aa λag B=>Ai<|Aa λah C=>Ad<|rn 2 Z<|kC a λi a=>rI (W8 b) i Z<|rF (W8 b) (Bp i) Z<|rE (Ay b) i 0 Z<|kB a λai D a=>rc _ (cF Vv) (IG N _ _ D)<|rz Z<|BS _ Z (λj=> ?_) (λj=> ?_)
  ·replace a:=ifn (Bool.eq_false_iff.1 (DG j)) a
   refine AZ Z ?_
   cases a
   exact aR eV1
  replace a:=ifp (DH j) a
  refine Ac<|C _ _ ?_
  refine Aa λaj E=>AZ Z<|Ai<|AL (λtt ll nn=> ∃(f:Nat) (x:Int),(CW N d u e (BH N d u v) f x=some r)/\Is [(0,c),(1,g),(5,vI e),(6,vI x)] [] tt ll/\nn=f+1) (N+1) ?_ ?_
  ·exact⟨N,0,a,Ag Z Z,Z⟩
  clear a;rintro t l _ ⟨f,x,a,⟨⟨T,rfl⟩,rfl⟩,rfl⟩
  rcases f with _|f
  ·exact absurd a (by simp [CW])
  rw [CW] at a
  refine Aa λak F=>AZ Z<|aD a Z (λG a=> ?_) (λG a=> ?_)
  ·refine Ac<|F _ _ ?_
   refine Aa λal H=>Ai<|Aa λam I=>HS [] (by decide+kernel) (λhn=>AN)<|rn 2 Z<|kC a λk a=>rI (W8 b) k Z<|rF (W8 b) (Bp k) Z<|rE (Ay b) k 0 Z<|rn 2 Z<|kC a λm a=>rI (W8 b) m Z<|rF (W8 b) (Bp m) Z<|rE (Ay b) m 0 Z<|kB a λan J a=>rc _ (cF bB) (Kr N _ _ _ J)<|Aj<|I _ _ ?_
   refine aB a Z (λK a=> ?_) (λK a=> ?_)
   ·refine AZ Z ?_
    cases a
    exact aR eV1
   refine Ac<|H _ _ ?_
   refine Ah<|rn 1 Z<|kC a λL a=>rX L Z<|rz Z<|fg _ (Sub.of suN) ?_
   exact⟨f+1,by omega,f,(x+1),a,Ag Z Z,Z⟩
  refine AM<|E _ _ ?_
  refine Aa λao M=>Aa λap O=>Ah<|rn 2 Z<|kC a λn a=>rI (W8 b) n Z<|rF (W8 b) (Bp n) Z<|rE (Ay b) n 1 Z<|rn 2 Z<|AS 9 54 [(0,c),(1,g),(5,vI e)] vB (λb_=>Hb u e (BH N d u v) b_=some r) (λaq a T=> ?_) (λP=> ?_)
  ·unfold Hb at a
   refine Aj<|O _ _ ?_
   refine aB a Z (λQ a=> ?_) (λQ a=> ?_)
   ·refine AZ Z ?_
    cases a
    exact aR eV1
   refine Ac<|M _ _ ?_
   refine Aa λar R=>Ah<|rn 2 Z<|kC a λp a=>rI (W8 b) p Z<|rF (W8 b) (Bp p) Z<|rE (Ay b) p 2 Z<|rn 2 Z<|AS 7 68 [(0,c),(1,g),(5,vI e)] vB (λb_=>Ha e (BH N d u v) b_=some r) (λau a T=> ?_) (λP=> ?_)
   ·unfold Ha at a
    refine Aj<|R _ _ ?_
    refine aB a Z (λS a=> ?_) (λS a=> ?_)
    ·refine AZ Z ?_
     cases a
     exact aR eV1
    refine Ac<|B _ _ ?_
    refine Ah<|rn 1 Z<|kC a λU a=>rX U Z<|rz Z<|fg _ (Sub.of suN) ?_
    exact⟨v+1,by omega,v,(e+1),a,Ag Z Z,Z⟩
   rcases y:(decide (((u[e.toNat]!).2.2:Int)<0))with _|_
   ·replace a:=iF y a
    refine rn 2 Z<|r_y Z<|kC a λq a=>rI (W8 b) q Z<|r_y Z<|rF (W8 b) (Bp q) Z<|r_y Z<|rE (Ay b) q 2 Z<|rn 2 Z ?_
    exact P _ _ a Z Z
   replace a:=iD y a
   refine rn 7 Z ?_
   exact P _ _ a Z Z
  rcases z:(decide (((u[e.toNat]!).2.1:Int)<0))with _|_
  ·replace a:=iF z a
   refine rn 2 Z<|r_y Z<|kC a λs a=>rI (W8 b) s Z<|r_y Z<|rF (W8 b) (Bp s) Z<|r_y Z<|rE (Ay b) s 1 Z<|rn 1 Z<|r_y Z<|rL (W9 h) Z<|rn 2 Z ?_
   exact P _ _ a Z Z
  replace a:=iD z a
  refine rn 9 Z ?_
  exact P _ _ a Z Z
 refine AM<|ac _ _ ?_
 refine Aa λav V=>Ad<|rn 1 Z<|kB a λaw W a=>gS (Ls:=[]) (cF Vu) (λo w z_=>IF N u _ W z_.view g ((Ay b) o w z_)) (λax ay ae=> ?_)
 refine rL (W7 ae) Z<|rz Z<|aD a Z (λX a=> ?_) (λX a=> ?_)
 ·refine AZ Z ?_
  cases a
  exact aR eV1
 refine Ac<|V _ _ ?_
 refine AZ Z ?_
 cases a
 exact aR eV1
def Ex(m:Ao)(a:Int)(b:Y0 (Int×Int))(c:Y3):Y1 ((W2)×(Y0 (W2×Int))×Int×Int×Int×Int×Y3):=if c=true then some ([],[],0,0,0,0,false)else ck (0<=((m.2.2.1)[((b[a.toNat]!).1).toNat]!).2.1/\((m.2.2.1)[((b[a.toNat]!).1).toNat]!).2.1<(m.2.1.length:Int)) (some ((m.2.1)[(((m.2.2.1)[((b[a.toNat]!).1).toNat]!).2.1).toNat]!.1,(m.2.1)[(((m.2.2.1)[((b[a.toNat]!).1).toNat]!).2.1).toNat]!.2.1,(m.2.1)[(((m.2.2.1)[((b[a.toNat]!).1).toNat]!).2.1).toNat]!.2.2.1,(m.2.1)[(((m.2.2.1)[((b[a.toNat]!).1).toNat]!).2.1).toNat]!.2.2.2.1,(m.2.1)[(((m.2.2.1)[((b[a.toNat]!).1).toNat]!).2.1).toNat]!.2.2.2.2.1,(m.2.1)[(((m.2.2.1)[((b[a.toNat]!).1).toNat]!).2.1).toNat]!.2.2.2.2.2,true))
def Ey(m:Ao)(a:Int)(b:Y0 (Int×Int))(c:Y3):Y1 ((W2)×(Y0 (W2×Int))×Int×Int×Int×Int×Y3):=if c=true then some ([],[],0,0,0,0,false)else ck (0<=a/\a<(b.length:Int)) (ck (0<=(b[a.toNat]!).1/\(b[a.toNat]!).1<(m.2.2.1.length:Int)) (if(((m.2.2.1)[((b[a.toNat]!).1).toNat]!).2.1:Int)<0 then Ex m a b true else Ex m a b (decide ((((m.2.2.1)[((b[a.toNat]!).1).toNat]!).2.1:Int)>=(m.2.1.length:Int)))))
def Bt(N:Nat)(m:Ao)(a:Int):Y1 ((W2)×(Y0 (W2×Int))×Int×Int×Int×Int×Y3):=(Dp N m.2.2.1).bind λb=>if a<0 then Ey m a b true else Ey m a b (decide (a>=(b.length:Int)))
theorem DB(N m a r)(b:Bt N m a=some r)(H)(l:AC)(q:Aa2 H l m):Does prog 24 #[vA (Ab m l),vI a] H [] (pO [] (oR Ab3 H r.2.1 λs_0=>(oE (vT #[vA #[vS r.1,s_0,vI r.2.2.1,vI r.2.2.2.1,vI r.2.2.2.2.1,vI r.2.2.2.2.2.1],vB r.2.2.2.2.2.2]) []))):=by
 unfold Bt at b
 refine BZ follows func24 Z 45 Z _ fz2 (λ_ _ h_ _=>h_) (λC=> ?_)
 refine Ad<|rA Z λn=>rA Z λp=>rz Z<|Ad<|rm 2 [1] Z<|kB b λc G b=>gS (Ls:=[(Vn p (V4 (⟨#[]⟩)) nS 0 0 0 0),[(n,35,(Ab m l))]]) (cF Vu) (λo w z_=>IF N m.2.2.1 _ G z_.view l.2.1 ((Ay q.2.1) o w z_)) (λI D F=> ?_)
 refine rz Z<|Aa λJ t=>Aa λK u=>Ah<|rn 3 Z<|AS 5 18 [(1,vI a),(2,vP n 0),(4,vP p 0),(6,I)] vB (λb_=>Ey m a c b_=some r) (λL b T=> ?_) (λv=> ?_)
 ·unfold Ey at b
  refine Aj<|u _ _ ?_
  refine aB b Z (λx b=> ?_) (λx b=> ?_)
  ·refine Ad<|r_W (vA #[V4 (⟨#[]⟩),nS,vI 0,vI 0,vI 0,vI 0]) Z (Ar Z Z Z Z)<|r_s (V2 [(Vn p (V4 (⟨#[]⟩)) nS 0 0 0 0),[(n,35,(Ab m l))],D]) 0 _ _ _ _ _ (#[V4 (⟨#[]⟩),nS,vI 0,vI 0,vI 0,vI 0]) Z Z Z Z (.ofS Z Z (Ae Z (sE (Ae Z (Ae Z (Ae Z (Ae Z AD))))))) Z Z<|rz Z ?_
   cases b
   refine AU (λs=>CI (v0:=vT #[vA #[V4 (⟨#[]⟩),nS,vI 0,vI 0,vI 0,vI 0],vB false]) (O:=[]) (Jg (Bf s 0 Z Z Z) Z) (Sub.nil _) ⟨nS,(.inl ⟨Z,Z⟩),⟨Z,Z⟩⟩)
  refine Ac<|t _ _ ?_
  refine Aa λM y=>HS [] (by decide+kernel) (λs=>AN)<|rm 4 [1] Z<|kC b λe b=>rI (W7 F) e Z<|r_W (elA I (a.toNat*2+0)) Z (GV (iS 0 Z Z Z Z (W7 F) (Bp e) (by decide)))<|rE (AB F (Al (Ls:=[(Vn p (V4 (⟨#[]⟩)) nS 0 0 0 0),[(n,35,(Ab m l))],D]) (k:=2) Z Z)) e 0 Z<|kC b λf b=>rI (W8 q.2.1) f Z<|rF (W8 q.2.1) (Bp f) Z<|rE (Ay q.2.1) f 1 Z<|rz Z<|y _ _ ?_
  refine Aa λP z=>Aa λQ A=>Ah<|rn 3 Z<|AS 6 38 [(2,vP n 0),(4,vP p 0),(7,vI (((m.2.2.1)[((c[a.toNat]!).1).toNat]!).2.1))] vB (λb_=>Ex m a c b_=some r) (λR b T=> ?_) (λv=> ?_)
  ·unfold Ex at b
   refine Aj<|A _ _ ?_
   refine aB b Z (λB b=> ?_) (λB b=> ?_)
   ·refine Ad<|r_W (vA #[V4 (⟨#[]⟩),nS,vI 0,vI 0,vI 0,vI 0]) Z (Ar Z Z Z Z)<|r_s (V2 [(Vn p (V4 (⟨#[]⟩)) nS 0 0 0 0),[(n,35,(Ab m l))],D]) 0 _ _ _ _ _ (#[V4 (⟨#[]⟩),nS,vI 0,vI 0,vI 0,vI 0]) Z Z Z Z (.ofS Z Z (Ae Z (sE (Ae Z (Ae Z (Ae Z (Ae Z AD))))))) Z Z<|rz Z ?_
    cases b
    refine AU (λs=>CI (v0:=vT #[vA #[V4 (⟨#[]⟩),nS,vI 0,vI 0,vI 0,vI 0],vB false]) (O:=[]) (Jg (Bf s 0 Z Z Z) Z) (Sub.nil _) ⟨nS,(.inl ⟨Z,Z⟩),⟨Z,Z⟩⟩)
   refine Ac<|z _ _ ?_
   refine Ad<|rm 3 [1] Z<|kC b λg b=> ?_
   obtain⟨_,⟨d,h,rfl⟩,hat27⟩:=RdN.at (E:=Ad1) q.1 (Cp g)
   refine rI (W9 q.1) g Z ?_
   refine Mk (vA #[vS ((m.2.1)[(((m.2.2.1)[((c[a.toNat]!).1).toNat]!).2.1).toNat]!.1),d,vI ((m.2.1)[(((m.2.2.1)[((c[a.toNat]!).1).toNat]!).2.1).toNat]!.2.2.1),vI ((m.2.1)[(((m.2.2.1)[((c[a.toNat]!).1).toNat]!).2.1).toNat]!.2.2.2.1),vI ((m.2.1)[(((m.2.2.1)[((c[a.toNat]!).1).toNat]!).2.1).toNat]!.2.2.2.2.1),vI ((m.2.1)[(((m.2.2.1)[((c[a.toNat]!).1).toNat]!).2.1).toNat]!.2.2.2.2.2)]) (vs:=[vS ((m.2.1)[(((m.2.2.1)[((c[a.toNat]!).1).toNat]!).2.1).toNat]!.1),d,vI ((m.2.1)[(((m.2.2.1)[((c[a.toNat]!).1).toNat]!).2.1).toNat]!.2.2.1),vI ((m.2.1)[(((m.2.2.1)[((c[a.toNat]!).1).toNat]!).2.1).toNat]!.2.2.2.1),vI ((m.2.1)[(((m.2.2.1)[((c[a.toNat]!).1).toNat]!).2.1).toNat]!.2.2.2.2.1),vI ((m.2.1)[(((m.2.2.1)[((c[a.toNat]!).1).toNat]!).2.1).toNat]!.2.2.2.2.2)]) ((((m.2.2.1)[((c[a.toNat]!).1).toNat]!).2.1).toNat*6) 0 Z Z (λo w z_=>At.mono z_.ro_cell hat27) Z ?_
   refine r_s (V2 [(sM p ((m.2.1)[(((m.2.2.1)[((c[a.toNat]!).1).toNat]!).2.1).toNat]!.1) d ((m.2.1)[(((m.2.2.1)[((c[a.toNat]!).1).toNat]!).2.1).toNat]!.2.2.1) ((m.2.1)[(((m.2.2.1)[((c[a.toNat]!).1).toNat]!).2.1).toNat]!.2.2.2.1) ((m.2.1)[(((m.2.2.1)[((c[a.toNat]!).1).toNat]!).2.1).toNat]!.2.2.2.2.1) ((m.2.1)[(((m.2.2.1)[((c[a.toNat]!).1).toNat]!).2.1).toNat]!.2.2.2.2.2)),[(n,35,(Ab m l))],D]) 0 _ _ _ _ _ (#[vS ((m.2.1)[(((m.2.2.1)[((c[a.toNat]!).1).toNat]!).2.1).toNat]!.1),d,vI ((m.2.1)[(((m.2.2.1)[((c[a.toNat]!).1).toNat]!).2.1).toNat]!.2.2.1),vI ((m.2.1)[(((m.2.2.1)[((c[a.toNat]!).1).toNat]!).2.1).toNat]!.2.2.2.1),vI ((m.2.1)[(((m.2.2.1)[((c[a.toNat]!).1).toNat]!).2.1).toNat]!.2.2.2.2.1),vI ((m.2.1)[(((m.2.2.1)[((c[a.toNat]!).1).toNat]!).2.1).toNat]!.2.2.2.2.2)]) Z Z Z Z (.ofS Z Z (Ae Z (sR h (Ae Z (Ae Z (Ae Z (Ae Z AD))))))) Z Z ?_
   refine rz Z ?_
   cases b
   refine AU (λs=>CI (v0:=vT #[vA #[vS ((m.2.1)[(((m.2.2.1)[((c[a.toNat]!).1).toNat]!).2.1).toNat]!.1),d,vI ((m.2.1)[(((m.2.2.1)[((c[a.toNat]!).1).toNat]!).2.1).toNat]!.2.2.1),vI ((m.2.1)[(((m.2.2.1)[((c[a.toNat]!).1).toNat]!).2.1).toNat]!.2.2.2.1),vI ((m.2.1)[(((m.2.2.1)[((c[a.toNat]!).1).toNat]!).2.1).toNat]!.2.2.2.2.1),vI ((m.2.1)[(((m.2.2.1)[((c[a.toNat]!).1).toNat]!).2.1).toNat]!.2.2.2.2.2)],vB true]) (O:=[]) (Jg (Bf s 0 Z Z Z) Z) (Sub.nil _) ⟨d,h,⟨Z,Z⟩⟩)
  rcases i:(decide ((((m.2.2.1)[((c[a.toNat]!).1).toNat]!).2.1:Int)<0))with _|_
  ·replace b:=iF i b
   refine rn 2 Z<|r_y Z<|rm 1 [1] Z<|r_y Z<|rL (W9 q.1) Z<|rn 2 Z ?_
   exact v _ _ b Z Z
  replace b:=iD i b
  refine rn 6 Z ?_
  exact v _ _ b Z Z
 rcases j:(decide (a<0))with _|_
 ·replace b:=iF j b
  refine rn 2 Z<|r_y Z<|rL (W7 F) Z<|rn 2 Z ?_
  exact v _ _ b Z Z
 replace b:=iD j b
 refine rn 5 Z ?_
 exact v _ _ b Z Z
abbrev vw:Y0 (W0):=[(([112,117,115,104]:W2),0,1,0,0,0,0,0,([80,117,115,104]:W2)),(([102,105,101,108,100]:W2),0,1,2,0,31,0,15,([80,108,97,99,101]:W2)),(([109,101,116,97]:W2),0,1,1,0,23,0,0,([67,101,108,108]:W2)),(([112,97,114,97,109]:W2),0,1,1,0,7,0,0,([67,101,108,108]:W2)),(([118,97,108,105,100]:W2),0,1,1,0,31,0,0,([83,108,111,116]:W2)),(([114,101,103]:W2),1,1,1,0,7,0,0,([67,101,108,108]:W2)),(([110,111,116]:W2),1,1,0,0,0,0,0,([79,110,101]:W2)),(([110,101,103]:W2),1,1,0,0,0,0,0,([79,110,101]:W2)),(([115,104,108]:W2),1,1,1,0,128,0,0,([79,110,101]:W2)),(([115,104,114]:W2),1,1,1,0,128,0,0,([79,110,101]:W2)),(([115,108,105,99,101]:W2),1,1,2,0,127,0,127,([80,97,114,116]:W2)),(([99,97,115,116]:W2),1,1,1,1,128,0,0,([79,110,101]:W2)),(([97,100,100]:W2),2,1,0,0,0,0,0,([84,119,111]:W2)),(([115,117,98]:W2),2,1,0,0,0,0,0,([84,119,111]:W2)),(([97,100,100,45,115,97,116]:W2),2,1,0,0,0,0,0,([84,119,111]:W2)),(([115,117,98,45,115,97,116]:W2),2,1,0,0,0,0,0,([84,119,111]:W2)),(([97,110,100]:W2),2,1,0,0,0,0,0,([84,119,111]:W2)),(([111,114]:W2),2,1,0,0,0,0,0,([84,119,111]:W2)),(([120,111,114]:W2),2,1,0,0,0,0,0,([84,119,111]:W2)),(([99,97,116]:W2),2,1,0,0,0,0,0,([84,119,111]:W2)),(([101,113]:W2),2,1,0,0,0,0,0,([84,119,111]:W2)),(([108,101,115,115]:W2),2,1,0,0,0,0,0,([84,119,111]:W2)),(([112,117,116,45,102,105,101,108,100]:W2),1,0,2,0,31,0,15,([80,108,97,99,101]:W2)),(([112,117,116,45,109,101,116,97]:W2),1,0,1,0,23,0,0,([67,101,108,108]:W2)),(([112,117,116,45,114,101,103]:W2),2,0,1,0,7,0,0,([67,101,108,108]:W2)),(([115,104,111,119]:W2),0,0,1,0,31,0,0,([83,108,111,116]:W2)),(([104,105,100,101]:W2),0,0,1,0,31,0,0,([83,108,111,116]:W2)),(([112,117,115,104,45,104,101,97,100]:W2),0,0,2,0,15,1,4,([72,101,97,100,115]:W2)),(([112,111,112,45,104,101,97,100]:W2),0,0,2,0,15,1,4,([72,101,97,100,115]:W2)),(([99,111,117,110,116]:W2),1,0,1,0,7,0,0,([67,101,108,108]:W2)),(([109,101,116,101,114]:W2),1,1,1,0,7,0,0,([67,101,108,108]:W2)),(([106,117,109,112]:W2),0,0,1,0,64,0,0,([74,117,109,112]:W2)),(([106,117,109,112,45,122,101,114,111]:W2),1,0,1,0,64,0,0,([74,117,109,112]:W2)),(([106,117,109,112,45,103,111,110,101]:W2),0,0,2,0,31,0,64,([71,111,110,101]:W2)),(([115,116,111,112]:W2),0,0,0,0,0,0,0,([83,116,111,112]:W2))]
def JW(_:Nat):Y1 (Y0 (W0)):=some vw
theorem TW(N r)(b:JW N=some r)(f:Ro):Does prog 122 #[] f [] (p1 (λs_=>s_) 212 Af6 r):=by
 unfold JW at b
 refine Ak follows func122 Z 79 Z _ fz0 (λa=> ?_)
 refine AZ Z<|Ad<|r_W (vA #[V4 (⟨#[112,117,115,104]⟩),vI 0,vI 1,vI 0,vI 0,vI 0,vI 0,vI 0,V4 (⟨#[80,117,115,104]⟩)]) Z (Ar Z Z Z Z)<|r_W (vA #[vI 0,vI 31]) Z (Bn Z Z Z Z)<|r_W (vA #[vI 0,vI 15]) Z (Bn Z Z Z Z)<|r_W (vA #[V4 (⟨#[102,105,101,108,100]⟩),vI 0,vI 1,vI 2,vI 0,vI 31,vI 0,vI 15,V4 (⟨#[80,108,97,99,101]⟩)]) Z (Ar Z Z Z (by kernel_rfl))<|r_W (vA #[vI 0,vI 23]) Z (Bn Z Z Z Z)<|r_W (vA #[vI 0,vI 0]) Z (Bn Z Z Z Z) ?_
 refine r_W (vA #[V4 (⟨#[109,101,116,97]⟩),vI 0,vI 1,vI 1,vI 0,vI 23,vI 0,vI 0,V4 (⟨#[67,101,108,108]⟩)]) Z (Ar Z Z Z (by kernel_rfl))<|r_W (vA #[vI 0,vI 7]) Z (Bn Z Z Z Z)<|r_W (vA #[vI 0,vI 0]) Z (Bn Z Z Z Z)<|r_W (vA #[V4 (⟨#[112,97,114,97,109]⟩),vI 0,vI 1,vI 1,vI 0,vI 7,vI 0,vI 0,V4 (⟨#[67,101,108,108]⟩)]) Z (Ar Z Z Z (by kernel_rfl))<|r_W (vA #[vI 0,vI 31]) Z (Bn Z Z Z Z)<|r_W (vA #[vI 0,vI 0]) Z (Bn Z Z Z Z) ?_
 refine r_W (vA #[V4 (⟨#[118,97,108,105,100]⟩),vI 0,vI 1,vI 1,vI 0,vI 31,vI 0,vI 0,V4 (⟨#[83,108,111,116]⟩)]) Z (Ar Z Z Z (by kernel_rfl))<|r_W (vA #[vI 0,vI 7]) Z (Bn Z Z Z Z)<|r_W (vA #[vI 0,vI 0]) Z (Bn Z Z Z Z)<|r_W (vA #[V4 (⟨#[114,101,103]⟩),vI 1,vI 1,vI 1,vI 0,vI 7,vI 0,vI 0,V4 (⟨#[67,101,108,108]⟩)]) Z (Ar Z Z Z (by kernel_rfl))<|r_W (vA #[V4 (⟨#[110,111,116]⟩),vI 1,vI 1,vI 0,vI 0,vI 0,vI 0,vI 0,V4 (⟨#[79,110,101]⟩)]) Z (Ar Z Z Z Z) ?_
 refine r_W (vA #[V4 (⟨#[110,101,103]⟩),vI 1,vI 1,vI 0,vI 0,vI 0,vI 0,vI 0,V4 (⟨#[79,110,101]⟩)]) Z (Ar Z Z Z Z)<|r_W (vA #[vI 0,vI 128]) Z (Bn Z Z Z Z)<|r_W (vA #[vI 0,vI 0]) Z (Bn Z Z Z Z)<|r_W (vA #[V4 (⟨#[115,104,108]⟩),vI 1,vI 1,vI 1,vI 0,vI 128,vI 0,vI 0,V4 (⟨#[79,110,101]⟩)]) Z (Ar Z Z Z (by kernel_rfl))<|r_W (vA #[vI 0,vI 128]) Z (Bn Z Z Z Z)<|r_W (vA #[vI 0,vI 0]) Z (Bn Z Z Z Z) ?_
 refine r_W (vA #[V4 (⟨#[115,104,114]⟩),vI 1,vI 1,vI 1,vI 0,vI 128,vI 0,vI 0,V4 (⟨#[79,110,101]⟩)]) Z (Ar Z Z Z (by kernel_rfl))<|r_W (vA #[vI 0,vI 127]) Z (Bn Z Z Z Z)<|r_W (vA #[vI 0,vI 127]) Z (Bn Z Z Z Z)<|r_W (vA #[V4 (⟨#[115,108,105,99,101]⟩),vI 1,vI 1,vI 2,vI 0,vI 127,vI 0,vI 127,V4 (⟨#[80,97,114,116]⟩)]) Z (Ar Z Z Z (by kernel_rfl))<|r_W (vA #[vI 1,vI 128]) Z (Bn Z Z Z Z)<|r_W (vA #[vI 0,vI 0]) Z (Bn Z Z Z Z) ?_
 refine r_W (vA #[V4 (⟨#[99,97,115,116]⟩),vI 1,vI 1,vI 1,vI 1,vI 128,vI 0,vI 0,V4 (⟨#[79,110,101]⟩)]) Z (Ar Z Z Z (by kernel_rfl))<|r_W (vA #[V4 (⟨#[97,100,100]⟩),vI 2,vI 1,vI 0,vI 0,vI 0,vI 0,vI 0,V4 (⟨#[84,119,111]⟩)]) Z (Ar Z Z Z Z)<|r_W (vA #[V4 (⟨#[115,117,98]⟩),vI 2,vI 1,vI 0,vI 0,vI 0,vI 0,vI 0,V4 (⟨#[84,119,111]⟩)]) Z (Ar Z Z Z Z)<|r_W (vA #[V4 (⟨#[97,100,100,45,115,97,116]⟩),vI 2,vI 1,vI 0,vI 0,vI 0,vI 0,vI 0,V4 (⟨#[84,119,111]⟩)]) Z (Ar Z Z Z Z) ?_
 refine r_W (vA #[V4 (⟨#[115,117,98,45,115,97,116]⟩),vI 2,vI 1,vI 0,vI 0,vI 0,vI 0,vI 0,V4 (⟨#[84,119,111]⟩)]) Z (Ar Z Z Z Z)<|r_W (vA #[V4 (⟨#[97,110,100]⟩),vI 2,vI 1,vI 0,vI 0,vI 0,vI 0,vI 0,V4 (⟨#[84,119,111]⟩)]) Z (Ar Z Z Z Z)<|r_W (vA #[V4 (⟨#[111,114]⟩),vI 2,vI 1,vI 0,vI 0,vI 0,vI 0,vI 0,V4 (⟨#[84,119,111]⟩)]) Z (Ar Z Z Z Z)<|r_W (vA #[V4 (⟨#[120,111,114]⟩),vI 2,vI 1,vI 0,vI 0,vI 0,vI 0,vI 0,V4 (⟨#[84,119,111]⟩)]) Z (Ar Z Z Z Z) ?_
 refine r_W (vA #[V4 (⟨#[99,97,116]⟩),vI 2,vI 1,vI 0,vI 0,vI 0,vI 0,vI 0,V4 (⟨#[84,119,111]⟩)]) Z (Ar Z Z Z Z)<|r_W (vA #[V4 (⟨#[101,113]⟩),vI 2,vI 1,vI 0,vI 0,vI 0,vI 0,vI 0,V4 (⟨#[84,119,111]⟩)]) Z (Ar Z Z Z Z)<|r_W (vA #[V4 (⟨#[108,101,115,115]⟩),vI 2,vI 1,vI 0,vI 0,vI 0,vI 0,vI 0,V4 (⟨#[84,119,111]⟩)]) Z (Ar Z Z Z Z)<|r_W (vA #[vI 0,vI 31]) Z (Bn Z Z Z Z)<|r_W (vA #[vI 0,vI 15]) Z (Bn Z Z Z Z) ?_
 refine r_W (vA #[V4 (⟨#[112,117,116,45,102,105,101,108,100]⟩),vI 1,vI 0,vI 2,vI 0,vI 31,vI 0,vI 15,V4 (⟨#[80,108,97,99,101]⟩)]) Z (Ar Z Z Z (by kernel_rfl))<|r_W (vA #[vI 0,vI 23]) Z (Bn Z Z Z Z)<|r_W (vA #[vI 0,vI 0]) Z (Bn Z Z Z Z)<|r_W (vA #[V4 (⟨#[112,117,116,45,109,101,116,97]⟩),vI 1,vI 0,vI 1,vI 0,vI 23,vI 0,vI 0,V4 (⟨#[67,101,108,108]⟩)]) Z (Ar Z Z Z (by kernel_rfl))<|r_W (vA #[vI 0,vI 7]) Z (Bn Z Z Z Z)<|r_W (vA #[vI 0,vI 0]) Z (Bn Z Z Z Z) ?_
 refine r_W (vA #[V4 (⟨#[112,117,116,45,114,101,103]⟩),vI 2,vI 0,vI 1,vI 0,vI 7,vI 0,vI 0,V4 (⟨#[67,101,108,108]⟩)]) Z (Ar Z Z Z (by kernel_rfl))<|r_W (vA #[vI 0,vI 31]) Z (Bn Z Z Z Z)<|r_W (vA #[vI 0,vI 0]) Z (Bn Z Z Z Z)<|r_W (vA #[V4 (⟨#[115,104,111,119]⟩),vI 0,vI 0,vI 1,vI 0,vI 31,vI 0,vI 0,V4 (⟨#[83,108,111,116]⟩)]) Z (Ar Z Z Z (by kernel_rfl))<|r_W (vA #[vI 0,vI 31]) Z (Bn Z Z Z Z)<|r_W (vA #[vI 0,vI 0]) Z (Bn Z Z Z Z) ?_
 refine r_W (vA #[V4 (⟨#[104,105,100,101]⟩),vI 0,vI 0,vI 1,vI 0,vI 31,vI 0,vI 0,V4 (⟨#[83,108,111,116]⟩)]) Z (Ar Z Z Z (by kernel_rfl))<|r_W (vA #[vI 0,vI 15]) Z (Bn Z Z Z Z)<|r_W (vA #[vI 1,vI 4]) Z (Bn Z Z Z Z)<|r_W (vA #[V4 (⟨#[112,117,115,104,45,104,101,97,100]⟩),vI 0,vI 0,vI 2,vI 0,vI 15,vI 1,vI 4,V4 (⟨#[72,101,97,100,115]⟩)]) Z (Ar Z Z Z (by kernel_rfl))<|r_W (vA #[vI 0,vI 15]) Z (Bn Z Z Z Z)<|r_W (vA #[vI 1,vI 4]) Z (Bn Z Z Z Z) ?_
 refine r_W (vA #[V4 (⟨#[112,111,112,45,104,101,97,100]⟩),vI 0,vI 0,vI 2,vI 0,vI 15,vI 1,vI 4,V4 (⟨#[72,101,97,100,115]⟩)]) Z (Ar Z Z Z (by kernel_rfl))<|r_W (vA #[vI 0,vI 7]) Z (Bn Z Z Z Z)<|r_W (vA #[vI 0,vI 0]) Z (Bn Z Z Z Z)<|r_W (vA #[V4 (⟨#[99,111,117,110,116]⟩),vI 1,vI 0,vI 1,vI 0,vI 7,vI 0,vI 0,V4 (⟨#[67,101,108,108]⟩)]) Z (Ar Z Z Z (by kernel_rfl))<|r_W (vA #[vI 0,vI 7]) Z (Bn Z Z Z Z)<|r_W (vA #[vI 0,vI 0]) Z (Bn Z Z Z Z) ?_
 refine r_W (vA #[V4 (⟨#[109,101,116,101,114]⟩),vI 1,vI 1,vI 1,vI 0,vI 7,vI 0,vI 0,V4 (⟨#[67,101,108,108]⟩)]) Z (Ar Z Z Z (by kernel_rfl))<|r_W (vA #[vI 0,vI 64]) Z (Bn Z Z Z Z)<|r_W (vA #[vI 0,vI 0]) Z (Bn Z Z Z Z)<|r_W (vA #[V4 (⟨#[106,117,109,112]⟩),vI 0,vI 0,vI 1,vI 0,vI 64,vI 0,vI 0,V4 (⟨#[74,117,109,112]⟩)]) Z (Ar Z Z Z (by kernel_rfl))<|r_W (vA #[vI 0,vI 64]) Z (Bn Z Z Z Z)<|r_W (vA #[vI 0,vI 0]) Z (Bn Z Z Z Z) ?_
 refine r_W (vA #[V4 (⟨#[106,117,109,112,45,122,101,114,111]⟩),vI 1,vI 0,vI 1,vI 0,vI 64,vI 0,vI 0,V4 (⟨#[74,117,109,112]⟩)]) Z (Ar Z Z Z (by kernel_rfl))<|r_W (vA #[vI 0,vI 31]) Z (Bn Z Z Z Z)<|r_W (vA #[vI 0,vI 64]) Z (Bn Z Z Z Z)<|r_W (vA #[V4 (⟨#[106,117,109,112,45,103,111,110,101]⟩),vI 0,vI 0,vI 2,vI 0,vI 31,vI 0,vI 64,V4 (⟨#[71,111,110,101]⟩)]) Z (Ar Z Z Z (by kernel_rfl)) ?_
 refine r_W (vA #[V4 (⟨#[115,116,111,112]⟩),vI 0,vI 0,vI 0,vI 0,vI 0,vI 0,vI 0,V4 (⟨#[83,116,111,112]⟩)]) Z (Ar Z Z Z Z)<|cD 78 ?_
 refine KP (cs0:=[]) (Ls:=[]) 212 Af6 vw (Af6.all vw) (List.replicate 35 [V4 (⟨#[]⟩),vI 0,vI 0,vI 0,vI 0,vI 0,vI 0,vI 0,V4 (⟨#[]⟩)]).flatten Z Z Z Z Z Z Z (by kernel_rfl) (by kernel_rfl) Z Z Z (λc d e=> ?_)
 refine rz Z<|CJ [(0,c)] Z (λT=> ?_)
 cases b
 refine AU (λg=>Iq (v0:=c) e (Fu (W5 [d] [0] Z)) Z (Gl Z))
end Go.Proofs.YtjnanfkpdhmnpaaGreatDoor
