import Derived.Test.YtajdpjdejpcgnaaGreatDoorIt
import Derived.Test.YtajdpjdejpcgnaaGreatDoorYt
import Derived.Test.YtajdpjdejpcgnaaGreatDoorAs
import Derived.Test.YtajdpjdejpcgnaaGreatDoorBu
import Derived.Test.YtajdpjdejpcgnaaGreatDoorMove
import Derived.Test.YtajdpjdejpcgnaaGreatDoorIo
import Derived.Test.YtajdpjdejpcgnaaGreatDoorFz
import Derived.Test.YtajdpjdejpcgnaaGreatDoorRs
import Derived.Test.YtajdpjdejpcgnaaGreatDoorRv
namespace Go.Proofs.YtajdpjdejpcgnaaGreatDoor
open Go Go.RowKit Go.Eng _root_.Go.Proofs.Tryz
set_option maxRecDepth 100000
set_option maxHeartbeats 80000000
abbrev Eh(b:Nat)(x0:Value)(x1:Value)(x2:Value)(x3:Value)(x4:Value)(x5:Value)(x6:Value)(x7:Value)(x8:Value)(x9:Value)(x10:Value)(x11:Value)(x12:Value)(x13:Value)(x14:Value)(x15:Int)(x16:Int)(x17:Int):List Bl:=[(b,59, #[x0,x1,x2,x3,x4,x5,x6,x7,x8,x9,x10,x11,x12,x13,x14,vI x15,vI x16,vI x17])]
abbrev Qz(b:Nat)(x0:List UInt8)(x1:Value)(x2:Int)(x3:Int)(x4:Int)(x5:Int):List Bl:=[(b,80, #[vS x0,x1,vI x2,vI x3,vI x4,vI x5])]
abbrev Ul(b:Nat)(x0:Value):List Bl:=[(b,49, #[x0])]
abbrev Aw(b:Nat)(x0:Value)(x1:Value):List Bl:=[(b,311, #[x0,x1])]
theorem PV(c:UInt8): ∀s:List UInt8,Lib.index s [c]=Lib.indexByte s c
  | []=>rfl
  |b::l=>by
    rw [Lib.index,Lib.indexByte,PV c l]
    by_cases h:c=b
    · subst h;simp [List.isPrefixOf]
    · have a: ¬b=c:=fun e=>h e.symm
      simp [List.isPrefixOf,h,a]
theorem VM(s sep:List UInt8)(h:sep.length=1):Gives prog 211 #[.string ⟨s.toArray⟩, .string ⟨sep.toArray⟩] (.int .i64 (Lib.index s sep)):=by
 obtain⟨c,rfl⟩:=List.length_eq_one_iff.mp h
 rw [PV]
 exact Gives.of_same (fun w=>Tryz.stringslite_Index_one ⟨s.toArray⟩ c w)
def Dz:Enc (Int×Int×Int×Int×BitVec 128):=⟨fun x=> [vI x.1,vI x.2.1,vI x.2.2.1,vI x.2.2.2.1,U (hi x.2.2.2.2),U (lo x.2.2.2.2)],6,by decide,fun _=>rfl,fun x v h=>by simp only [List.mem_cons,List.not_mem_nil,or_false] at h;rcases h with rfl|rfl|rfl|rfl|rfl|rfl<;>rfl,True⟩
def BG:Enc (List UInt8×Int):=⟨fun x=> [vS x.1,vI x.2],2,by decide,fun _=>rfl,fun x v h=>by simp only [List.mem_cons,List.not_mem_nil,or_false] at h;rcases h with rfl|rfl<;>rfl,True⟩
def FH:Enc (List UInt8×Int×Int):=⟨fun x=> [vS x.1,vI x.2.1,vI x.2.2],3,by decide,fun _=>rfl,fun x v h=>by simp only [List.mem_cons,List.not_mem_nil,or_false] at h;rcases h with rfl|rfl|rfl<;>rfl,True⟩
def Jl:Enc (Int×Int):=⟨fun x=> [vI x.1,vI x.2],2,by decide,fun _=>rfl,fun x v h=>by simp only [List.mem_cons,List.not_mem_nil,or_false] at h;rcases h with rfl|rfl<;>rfl,True⟩
def CN:Enc (Int×Int×Int):=⟨fun x=> [vI x.1,vI x.2.1,vI x.2.2],3,by decide,fun _=>rfl,fun x v h=>by simp only [List.mem_cons,List.not_mem_nil,or_false] at h;rcases h with rfl|rfl|rfl<;>rfl,True⟩
def Jk:Enc (Int×BitVec 128×Int×BitVec 128×Int):=⟨fun x=> [vI x.1,U (hi x.2.1),U (lo x.2.1),vI x.2.2.1,U (hi x.2.2.2.1),U (lo x.2.2.2.1),vI x.2.2.2.2],7,by decide,fun _=>rfl,fun x v h=>by simp only [List.mem_cons,List.not_mem_nil,or_false] at h;rcases h with rfl|rfl|rfl|rfl|rfl|rfl|rfl<;>rfl,True⟩
def Fl:Enc (Int×BitVec 128):=⟨fun x=> [vI x.1,U (hi x.2),U (lo x.2)],3,by decide,fun _=>rfl,fun x v h=>by simp only [List.mem_cons,List.not_mem_nil,or_false] at h;rcases h with rfl|rfl|rfl<;>rfl,True⟩
def FO:Enc (Int×Int):=⟨fun x=> [vI x.1,vI x.2],2,by decide,fun _=>rfl,fun x v h=>by simp only [List.mem_cons,List.not_mem_nil,or_false] at h;rcases h with rfl|rfl<;>rfl,True⟩
def HD:Enc (List UInt8×Int×Int):=⟨fun x=> [vS x.1,vI x.2.1,vI x.2.2],3,by decide,fun _=>rfl,fun x v h=>by simp only [List.mem_cons,List.not_mem_nil,or_false] at h;rcases h with rfl|rfl|rfl<;>rfl,True⟩
def HC:Enc (List UInt8×Int):=⟨fun x=> [vS x.1,vI x.2],2,by decide,fun _=>rfl,fun x v h=>by simp only [List.mem_cons,List.not_mem_nil,or_false] at h;rcases h with rfl|rfl<;>rfl,True⟩
def HB:Enc (List UInt8×Int×Int×Int):=⟨fun x=> [vS x.1,vI x.2.1,vI x.2.2.1,vI x.2.2.2],4,by decide,fun _=>rfl,fun x v h=>by simp only [List.mem_cons,List.not_mem_nil,or_false] at h;rcases h with rfl|rfl|rfl|rfl<;>rfl,True⟩
def Gs:Enc (Bool×BitVec 64):=⟨fun x=> [vB x.1,U x.2],2,by decide,fun _=>rfl,fun x v h=>by simp only [List.mem_cons,List.not_mem_nil,or_false] at h;rcases h with rfl|rfl<;>rfl,True⟩
def EE:KH ((List UInt8)×(List (List UInt8×Int))×Int×Int×Int×Int):=⟨fun c x vs=> ∃(s0:Value),Rd BG c s0 x.2.1∧vs=[vS x.1,s0,vI x.2.2.1,vI x.2.2.2.1,vI x.2.2.2.2.1,vI x.2.2.2.2.2],6,by decide,fun hc ⟨s0,h0,hv⟩=>⟨s0,h0.mono hc,hv⟩⟩
def Fj:KH ((List UInt8)×(List (Int×Int))×(List (Int×Int×Int))×(List (Int×BitVec 128×Int×BitVec 128×Int))×Int):=⟨fun c x vs=> ∃(s0:Value) (s1:Value) (s2:Value),Rd Jl c s0 x.2.1∧Rd CN c s1 x.2.2.1∧Rd Jk c s2 x.2.2.2.1∧vs=[vS x.1,s0,s1,s2,vI x.2.2.2.2],5,by decide,fun hc ⟨s0,s1,s2,h0,h1,h2,hv⟩=>⟨s0,s1,s2,h0.mono hc,h1.mono hc,h2.mono hc,hv⟩⟩
def Dv:KH ((List UInt8)×(List Int)×(List (Int×Int×Int×Int×BitVec 128))):=⟨fun c x vs=> ∃(s0:Value) (s1:Value),Rd AX c s0 x.2.1∧Rd Dz c s1 x.2.2∧vs=[vS x.1,s0,s1],3,by decide,fun hc ⟨s0,s1,h0,h1,hv⟩=>⟨s0,s1,h0.mono hc,h1.mono hc,hv⟩⟩
def Ea:KH ((List UInt8)×Int×(List (Int×Int×Int))×(List Int)×Int×(List (Int×BitVec 128))×Int):=⟨fun c x vs=> ∃(s0:Value) (s1:Value) (s2:Value),Rd CN c s0 x.2.2.1∧Rd AX c s1 x.2.2.2.1∧Rd Fl c s2 x.2.2.2.2.2.1∧vs=[vS x.1,vI x.2.1,s0,s1,vI x.2.2.2.2.1,s2,vI x.2.2.2.2.2.2],7,by decide,fun hc ⟨s0,s1,s2,h0,h1,h2,hv⟩=>⟨s0,s1,s2,h0.mono hc,h1.mono hc,h2.mono hc,hv⟩⟩
def CM:KH (Int×Int×(List (Int×Int×Int×Int×BitVec 128))×(List (Int×BitVec 128))×Int×Int):=⟨fun c x vs=> ∃(s0:Value) (s1:Value),Rd Dz c s0 x.2.2.1∧Rd Fl c s1 x.2.2.2.1∧vs=[vI x.1,vI x.2.1,s0,s1,vI x.2.2.2.2.1,vI x.2.2.2.2.2],6,by decide,fun hc ⟨s0,s1,h0,h1,hv⟩=>⟨s0,s1,h0.mono hc,h1.mono hc,hv⟩⟩
abbrev AF:Type:=(List UInt8)×(List ((List UInt8)×(List (List UInt8×Int))×Int×Int×Int×Int))×(List (List UInt8×Int×Int))×(List (List UInt8×Int))×(List ((List UInt8)×(List (Int×Int))×(List (Int×Int×Int))×(List (Int×BitVec 128×Int×BitVec 128×Int))×Int))×(List ((List UInt8)×(List Int)×(List (Int×Int×Int×Int×BitVec 128))))×(List ((List UInt8)×Int×(List (Int×Int×Int))×(List Int)×Int×(List (Int×BitVec 128))×Int))×(List (Int×Int×(List (Int×Int×Int×Int×BitVec 128))×(List (Int×BitVec 128))×Int×Int))×(List (Int×Int×(List (Int×Int×Int×Int×BitVec 128))×(List (Int×BitVec 128))×Int×Int))×(List Int)×(List (Int×Int))×(List (Int×Int))×(List (List UInt8×Int×Int))×(List (List UInt8×Int))×(List (List UInt8×Int×Int×Int))×Int×Int×Int
abbrev AE:Type:=Value×Value×Value×Value×Value×Value×Value×Value×Value×Value×Value×Value×Value×Value
abbrev Ca(m:AF)(v:AE):List Value:=[vS m.1,v.1,v.2.1,v.2.2.1,v.2.2.2.1,v.2.2.2.2.1,v.2.2.2.2.2.1,v.2.2.2.2.2.2.1,v.2.2.2.2.2.2.2.1,v.2.2.2.2.2.2.2.2.1,v.2.2.2.2.2.2.2.2.2.1,v.2.2.2.2.2.2.2.2.2.2.1,v.2.2.2.2.2.2.2.2.2.2.2.1,v.2.2.2.2.2.2.2.2.2.2.2.2.1,v.2.2.2.2.2.2.2.2.2.2.2.2.2,vI m.2.2.2.2.2.2.2.2.2.2.2.2.2.2.2.1,vI m.2.2.2.2.2.2.2.2.2.2.2.2.2.2.2.2.1,vI m.2.2.2.2.2.2.2.2.2.2.2.2.2.2.2.2.2]
abbrev Ab(m:AF)(v:AE):Array Value:=(Ca m v).toArray
abbrev Bun59R(ro:Ro)(v:AE)(m:AF):Prop:=RdN EE ro v.1 m.2.1∧Rd FH ro v.2.1 m.2.2.1∧Rd BG ro v.2.2.1 m.2.2.2.1∧RdN Fj ro v.2.2.2.1 m.2.2.2.2.1∧RdN Dv ro v.2.2.2.2.1 m.2.2.2.2.2.1∧RdN Ea ro v.2.2.2.2.2.1 m.2.2.2.2.2.2.1∧RdN CM ro v.2.2.2.2.2.2.1 m.2.2.2.2.2.2.2.1∧RdN CM ro v.2.2.2.2.2.2.2.1 m.2.2.2.2.2.2.2.2.1∧Rd AX ro v.2.2.2.2.2.2.2.2.1 m.2.2.2.2.2.2.2.2.2.1∧Rd FO ro v.2.2.2.2.2.2.2.2.2.1 m.2.2.2.2.2.2.2.2.2.2.1∧Rd FO ro v.2.2.2.2.2.2.2.2.2.2.1 m.2.2.2.2.2.2.2.2.2.2.2.1∧Rd HD ro v.2.2.2.2.2.2.2.2.2.2.2.1 m.2.2.2.2.2.2.2.2.2.2.2.2.1∧Rd HC ro v.2.2.2.2.2.2.2.2.2.2.2.2.1 m.2.2.2.2.2.2.2.2.2.2.2.2.2.1∧Rd HB ro v.2.2.2.2.2.2.2.2.2.2.2.2.2 m.2.2.2.2.2.2.2.2.2.2.2.2.2.2.1
theorem Bun59R.mono {c c':Addr→Option Value}{v:AE}{m:AF}(hc: ∀a v,c a=some v→c' a=some v)(h:Bun59R c v m):Bun59R c' v m:=⟨RdN.mono hc h.1,Rd.mono hc h.2.1,Rd.mono hc h.2.2.1,RdN.mono hc h.2.2.2.1,RdN.mono hc h.2.2.2.2.1,RdN.mono hc h.2.2.2.2.2.1,RdN.mono hc h.2.2.2.2.2.2.1,RdN.mono hc h.2.2.2.2.2.2.2.1,Rd.mono hc h.2.2.2.2.2.2.2.2.1,Rd.mono hc h.2.2.2.2.2.2.2.2.2.1,Rd.mono hc h.2.2.2.2.2.2.2.2.2.2.1,Rd.mono hc h.2.2.2.2.2.2.2.2.2.2.2.1,Rd.mono hc h.2.2.2.2.2.2.2.2.2.2.2.2.1,Rd.mono hc h.2.2.2.2.2.2.2.2.2.2.2.2.2⟩
abbrev am:Type:=(List UInt8)×(List ((List UInt8)×(List (List UInt8×Int))×Int×Int×Int×Int))×(List (List UInt8×Int×Int))×(List (List UInt8×Int))×(List ((List UInt8)×(List (Int×Int))×(List (Int×Int×Int))×(List (Int×BitVec 128×Int×BitVec 128×Int))×Int))×(List ((List UInt8)×(List Int)×(List (Int×Int×Int×Int×BitVec 128))))×(List ((List UInt8)×Int×(List (Int×Int×Int))×(List Int)×Int×(List (Int×BitVec 128))×Int))×(List (Int×Int×(List (Int×Int×Int×Int×BitVec 128))×(List (Int×BitVec 128))×Int×Int))×(List (Int×Int×(List (Int×Int×Int×Int×BitVec 128))×(List (Int×BitVec 128))×Int×Int))×(List Int)×(List (Int×Int))×(List (Int×Int))×(List (List UInt8×Int×Int))×(List (List UInt8×Int))×(List (List UInt8×Int×Int×Int))×Int×Int×Int×(List (Bool×BitVec 64))
abbrev XR:Type:=Value×Value×Value×Value×Value×Value×Value×Value×Value×Value×Value×Value×Value×Value×Value
abbrev Bun70R(ro:Ro)(v:XR)(m:am):Prop:=RdN EE ro v.1 m.2.1∧Rd FH ro v.2.1 m.2.2.1∧Rd BG ro v.2.2.1 m.2.2.2.1∧RdN Fj ro v.2.2.2.1 m.2.2.2.2.1∧RdN Dv ro v.2.2.2.2.1 m.2.2.2.2.2.1∧RdN Ea ro v.2.2.2.2.2.1 m.2.2.2.2.2.2.1∧RdN CM ro v.2.2.2.2.2.2.1 m.2.2.2.2.2.2.2.1∧RdN CM ro v.2.2.2.2.2.2.2.1 m.2.2.2.2.2.2.2.2.1∧Rd AX ro v.2.2.2.2.2.2.2.2.1 m.2.2.2.2.2.2.2.2.2.1∧Rd FO ro v.2.2.2.2.2.2.2.2.2.1 m.2.2.2.2.2.2.2.2.2.2.1∧Rd FO ro v.2.2.2.2.2.2.2.2.2.2.1 m.2.2.2.2.2.2.2.2.2.2.2.1∧Rd HD ro v.2.2.2.2.2.2.2.2.2.2.2.1 m.2.2.2.2.2.2.2.2.2.2.2.2.1∧Rd HC ro v.2.2.2.2.2.2.2.2.2.2.2.2.1 m.2.2.2.2.2.2.2.2.2.2.2.2.2.1∧Rd HB ro v.2.2.2.2.2.2.2.2.2.2.2.2.2.1 m.2.2.2.2.2.2.2.2.2.2.2.2.2.2.1∧Rd Gs ro v.2.2.2.2.2.2.2.2.2.2.2.2.2.2 m.2.2.2.2.2.2.2.2.2.2.2.2.2.2.2.2.2.2
theorem Bun70R.mono {c c':Addr→Option Value}{v:XR}{m:am}(hc: ∀a v,c a=some v→c' a=some v)(h:Bun70R c v m):Bun70R c' v m:=⟨RdN.mono hc h.1,Rd.mono hc h.2.1,Rd.mono hc h.2.2.1,RdN.mono hc h.2.2.2.1,RdN.mono hc h.2.2.2.2.1,RdN.mono hc h.2.2.2.2.2.1,RdN.mono hc h.2.2.2.2.2.2.1,RdN.mono hc h.2.2.2.2.2.2.2.1,Rd.mono hc h.2.2.2.2.2.2.2.2.1,Rd.mono hc h.2.2.2.2.2.2.2.2.2.1,Rd.mono hc h.2.2.2.2.2.2.2.2.2.2.1,Rd.mono hc h.2.2.2.2.2.2.2.2.2.2.2.1,Rd.mono hc h.2.2.2.2.2.2.2.2.2.2.2.2.1,Rd.mono hc h.2.2.2.2.2.2.2.2.2.2.2.2.2.1,Rd.mono hc h.2.2.2.2.2.2.2.2.2.2.2.2.2.2⟩
theorem FP  :(((prog.info? 25).bind (·.zero)).map fun z=>(25,z.cells))=some (25,(⟨Av (0#64)⟩:Array Value)):=by kernel_rfl
def Bu  :Nat→BitVec 64→Int→BitVec 64→Option (BitVec 64)
  |0,_,_,_=>none
  |n7+1,n1_,i2_,m3_=>if i2_<64 then ck (0≤i2_∧i2_<64) (ck (R64 (i2_+1)) ((Bu n7) (n1_ / 2#64) (i2_+1) (DB m3_ (i2_.toNat) ((n1_%2#64)==(1#64)))))else some m3_
def Be(N:Nat)(n:BitVec 64):Option (BitVec 64):=Bu N n 0 (0#64)
theorem BB(N n r)(e:Be N n=some r):Gives prog 4 #[U n] (vA (⟨Av r⟩:Array Value)):=by
 unfold Be at e
 refine Ao follows func4 rfl 17 rfl _ fz1 (fun s=> ?_)
 refine Aa<|r_a (25,(⟨Av (0#64)⟩:Array Value)) rfl rfl FP (fun u=> ?_) (.inr rfl)
 refine Ah<|Aa<|r_a (25,(⟨Av (0#64)⟩:Array Value)) rfl rfl FP (fun j=> ?_) (.inr rfl)
 refine Ah<|Ae fun z v=>AZ rfl<|Am<|AS (fun tt ll nn=> ∃(i:Nat) (a:BitVec 64) (d:Int) (f:BitVec 64),(Bu i a d f=some r)∧Is [(0,U a),(2,vP u 0),(3,vP j 0),(4,vI d)] [(j,25,(⟨Av f⟩:Array Value)),(u,25,(⟨Av (0#64)⟩:Array Value))] tt ll∧nn=i+1) (N+1) ?_ ?_
 ·exact⟨N,n,0,0#64,e,Aj rfl rfl,rfl⟩
 clear e;rintro t l _ ⟨i,a,d,f,e,⟨⟨T,rfl⟩,rfl⟩,rfl⟩
 rcases i with _|i
 ·exact absurd e (by simp [Bu])
 rw [Bu] at e
 refine Ae fun A w=>AZ rfl<|aD e rfl (fun m e=> ?_) (fun m e=> ?_)
 ·refine Ac<|w _ _ ?_
  refine Ae fun x o=>Am<|Aa<|rn 2 rfl<|r_X (U (a%2#64)) rfl (bG a (2#64)) rfl<|r_X (vB ((a%2#64)==(1#64))) rfl (Vd (a%2#64) (1#64)) rfl<|kC e fun p e=> ?_
  have h:=fun c=>Cf (Fi (P:=prog) (c:=c) (t:=25) (b:=j) (off:=0) (k:= .i64) rfl rfl rfl p)
  simp only [Nat.zero_add] at h
  have g:d.toNat<64:=by omega
  refine r_W (Value.pointer (some ⟨j,d.toNat,none⟩)) rfl (h _)<|r_s [(j,25,(⟨Av (DB f (d.toNat) ((a%2#64)==(1#64)))⟩:Array Value)),(u,25,(⟨Av (0#64)⟩:Array Value))] 0 _ _ _ _ _ ((⟨Av (DB f (d.toNat) ((a%2#64)==(1#64)))⟩:Array Value)) rfl rfl rfl rfl (Lj rfl rfl _ _ g) (IK _ _ _ g) rfl<|Ah<|An<|rn 1 rfl<|r_X (U (a / 2#64)) rfl (bH a (2#64)) rfl<|rz rfl<|o _ _ ?_
  refine An<|rn 1 rfl<|kC e fun q e=>rX q rfl<|rz rfl<|fg _ (Sub.of (suK _ (suK _ suN))) ?_
  exact⟨i+1,by omega,i,(a / 2#64),(d+1),DB f (d.toNat) ((a%2#64)==(1#64)),e,Aj rfl rfl,rfl⟩
 refine AT<|v _ _ ?_
 refine AY [0,1] rfl ?_
 obtain rfl:=Option.some.inj e
 refine AO (fun y=>Co (v0:=vA (⟨Av f⟩:Array Value)) rfl (BP (AP y 1 rfl rfl rfl)))
def Ff(slot:Int)(b4:Bool):Option (BitVec 64):=if b4=true then some (0#64)else ck ((0:Int)≤slot) (some (1#64<<<slot.toNat))
def DW(_:Nat)(slot:Int):Option (BitVec 64):=if slot<0 then Ff slot true else Ff slot (decide (slot≥64))
theorem Ke(N slot r)(a:DW N slot=some r):Gives prog 15 #[vI slot] (U r):=by
 unfold DW at a
 refine Ao follows func15 rfl 11 rfl _ fz1 (fun c=> ?_)
 refine AZ rfl<|Ae fun i d=>Ae fun j e=>An<|rn 3 rfl<|MB 3 8 [(0,vI slot)] vB (fun b_=>Ff slot b_=some r) (fun k a T=> ?_) (fun h=> ?_)
 ·unfold Ff at a
  refine Ah<|e _ _ ?_
  refine aB a rfl (fun f a=> ?_) (fun f a=> ?_)
  ·refine AZ rfl ?_
   cases a
   exact aR eE1
  refine Ac<|d _ _ ?_
  refine Aa<|rn 1 rfl<|kC a fun g a=>r_W (U (1#64<<<slot.toNat)) rfl (Yv (x:=1#64) rfl rfl g)<|rz rfl ?_
  cases a
  exact aR eE1
 rcases b:(decide (slot<0))with _|_
 ·replace a:=iF b a
  refine rn 3 rfl ?_
  exact h _ _ a rfl rfl
 replace a:=iD b a
 refine rn 3 rfl ?_
 exact h _ _ a rfl rfl
def BR(N:Nat)(s:BitVec 64)(slot:Int):Option Bool:=(DW N slot).bind fun r3=>some ((s&&&r3) !=(0#64))
theorem DX(N s slot r)(a:BR N s slot=some r):Gives prog 6 #[U s,vI slot] (vB r):=by
 unfold BR at a
 refine Ao follows func6 rfl 10 rfl _ fz2 (fun b=> ?_)
 refine AZ rfl<|Aa<|rn 2 rfl<|kB a fun c d a=>rc _ (cF RC) (Ke N slot _ d)<|r_X (U (s&&&c)) rfl (OP s c) rfl<|r_X (vB ((s&&&c) !=(0#64))) rfl (bP (s&&&c) (0#64)) rfl<|rz rfl ?_
 cases a
 exact aR eE1
def Bw(N:Nat)(s:BitVec 64):Nat→List Int→Int→Option (List Int)
  |0,_,_=>none
  |n5+1,l1_,x2_=>if x2_<64 then(BR N s x2_).bind fun r12=>if r12=true then ck ((l1_).length+([x2_]).length≤17592186044416) (ck (R64 (x2_+1)) ((Bw N s n5) (l1_++([x2_])) (x2_+1)))else ck (R64 (x2_+1)) ((Bw N s n5) l1_ (x2_+1))else some l1_
def EA(N:Nat)(s:BitVec 64):Option (List Int):=Bw N s N ([]) 0
theorem Na(N s r)(b:EA N s=some r)(ro:Ro):Does prog 5 #[U s] ro [] (p1 (fun s_=>s_) 3 AX r):=by
 unfold EA at b
 refine Ag follows func5 rfl 17 rfl _ fz1 (fun u=> ?_)
 refine AZ rfl<|AZ rfl<|Ae fun D v=>AZ rfl<|Am<|BH _ (Sub.pickE (Ls:=[[]]) (Ls0:=[]) rfl [0] rfl)<|AS (fun tt ll nn=> ∃(g:Nat) (e:List Int) (c:Int),(Bw N s g e c=some r)∧ ∃(d:Value) (a:List Bl),Sl 3 AX d e a∧Is [(0,U s),(3,d),(5,vI c)] (List.flatten [a]) tt ll∧nn=g+1) (N+1) ?_ ?_
 ·exact⟨N,[],0,b,nS,[],Sl.nil,Aj rfl rfl,rfl⟩
 clear b;rintro t l _ ⟨g,e,c,b,d,a,f,⟨⟨T,rfl⟩,rfl⟩,rfl⟩
 rcases g with _|g
 ·exact absurd b (by simp [Bw])
 rw [Bw] at b
 refine AZ rfl<|Ae fun E w=>aD b rfl (fun x b=> ?_) (fun x b=> ?_)
 ·refine Ac<|w _ _ ?_
  refine Ae fun F j=>Am<|AZ rfl<|Aa<|rn 2 rfl<|kB b fun B m b=>rc _ (cF OE) (DX N s c _ m)<|Ah<|aB b rfl (fun n b=> ?_) (fun n b=> ?_)
  ·refine An<|rn 2 rfl<|gB (Ls:=[a]) 3 AX [c] (fun C i y=> ?_)
   refine kC b fun h b=>cC 14<|KK (cs0:=[]) (Ls:=[a,i]) 0 (En:=AX) rfl rfl rfl rfl rfl f rfl (Ar y (Af (Ls:=[a,i]) (k:=1) rfl rfl)) rfl rfl rfl rfl rfl (KQ h rfl) (KP h rfl) rfl (fun z o A=> ?_)
   refine rz rfl<|j _ _ ?_
   refine An<|kC b fun p b=>rX p rfl<|rz rfl<|fg _ (Sub.pick [o,i] [0] rfl) ?_
   exact⟨g+1,by omega,g,(e++([c])),(c+1),b,z,o,A,Aj rfl rfl,rfl⟩
  refine Ac<|j _ _ ?_
  refine An<|kC b fun q b=>rX q rfl<|rz rfl<|fg _ (Sub.pick [a] [0] rfl) ?_
  exact⟨g+1,by omega,g,e,(c+1),b,d,a,f,Aj rfl rfl,rfl⟩
 refine AT<|v _ _ ?_
 refine AZ rfl ?_
 cases b
 refine AO (fun G=>De (v0:=d) f (Cb (Sub.pick [a] [0] rfl)) rfl (BP rfl))
def Bv(N:Nat)(s:BitVec 64)(slot:Int):Option (BitVec 64):=(DW N slot).bind fun r3=>some (s|||r3)
theorem CI(N s slot r)(a:Bv N s slot=some r):Gives prog 7 #[U s,vI slot] (U r):=by
 unfold Bv at a
 refine Ao follows func7 rfl 9 rfl _ fz2 (fun b=> ?_)
 refine AZ rfl<|Aa<|rn 2 rfl<|kB a fun d c a=>rc _ (cF RC) (Ke N slot _ c)<|r_X (U (s|||d)) rfl (bO s d) rfl<|rz rfl ?_
 cases a
 exact aR eE1
def Bh(N:Nat)(s:BitVec 64)(slot:Int):Option (BitVec 64):=(DW N slot).bind fun r3=>some (s&&&~~~r3)
theorem CB(N s slot r)(a:Bh N s slot=some r):Gives prog 8 #[U s,vI slot] (U r):=by
 unfold Bh at a
 refine Ao follows func8 rfl 9 rfl _ fz2 (fun b=> ?_)
 refine AZ rfl<|Aa<|rn 2 rfl<|kB a fun d c a=>rc _ (cF RC) (Ke N slot _ c)<|r_X (U (s&&&~~~d)) rfl (XP s d) rfl<|rz rfl ?_
 cases a
 exact aR eE1
def BU(_:Nat)(s:BitVec 64)(t':BitVec 64):Option (BitVec 64):=some (s&&&t')
theorem EB(N s t' r)(b:BU N s t'=some r):Gives prog 9 #[U s,U t'] (U r):=by
 unfold BU at b
 refine Ao follows func9 rfl 8 rfl _ fz2 (fun a=> ?_)
 refine AZ rfl<|Aa<|rn 2 rfl<|r_X (U (s&&&t')) rfl (OP s t') rfl<|rz rfl ?_
 cases b
 exact aR eE1
def BK(i1_:Int)(m2_:BitVec 64)(rec_shunterref15_Both_l3:Int→BitVec 64→Option (BitVec 64))(b16:Bool):Option (BitVec 64):=ck (0≤i1_∧i1_<64) (ck (R64 (i1_+1)) (rec_shunterref15_Both_l3 (i1_+1) (DB m2_ (i1_.toNat) b16)))
def AR(a:BitVec 64)(b:BitVec 64):Nat→Int→BitVec 64→Option (BitVec 64)
  |0,_,_=>none
  |n9+1,i1_,m2_=>if i1_<64 then ck (0≤i1_∧i1_<64) (if((a).getLsbD (i1_.toNat))=true then ck (0≤i1_∧i1_<64) (BK i1_ m2_ (AR a b n9) ((b).getLsbD (i1_.toNat)))else BK i1_ m2_ (AR a b n9) false)else some m2_
def Cq(N:Nat)(a:BitVec 64)(b:BitVec 64):Option (BitVec 64):=AR a b N 0 (0#64)
theorem Gt(N a b r)(e:Cq N a b=some r):Gives prog 10 #[vA (⟨Av a⟩:Array Value),vA (⟨Av b⟩:Array Value)] (vA (⟨Av r⟩:Array Value)):=by
 unfold Cq at e
 refine Ao follows func10 rfl 22 rfl _ fz2 (fun D=> ?_)
 refine Aa<|rA rfl fun s=>rA rfl fun u=>r_a (25,(⟨Av (0#64)⟩:Array Value)) rfl rfl FP (fun E=> ?_) (.inr rfl)
 refine Ah<|Aa<|r_a (25,(⟨Av (0#64)⟩:Array Value)) rfl rfl FP (fun v=> ?_) (.inr rfl)
 refine Ah<|Ae fun K F=>AZ rfl<|Am<|AS (fun tt ll nn=> ∃(h:Nat) (d:Int) (f:BitVec 64),(AR a b h d f=some r)∧Is [(2,vP s 0),(3,vP u 0),(4,vP E 0),(5,vP v 0),(6,vI d)] [(v,25,(⟨Av f⟩:Array Value)),(E,25,(⟨Av (0#64)⟩:Array Value)),(u,25,(⟨Av b⟩:Array Value)),(s,25,(⟨Av a⟩:Array Value))] tt ll∧nn=h+1) (N+1) ?_ ?_
 ·exact⟨N,0,0#64,e,Aj rfl rfl,rfl⟩
 clear e;rintro t l _ ⟨h,d,f,e,⟨⟨T,rfl⟩,rfl⟩,rfl⟩
 rcases h with _|h
 ·exact absurd e (by simp [AR])
 rw [AR] at e
 refine Ae fun H w=>AZ rfl<|aD e rfl (fun x e=> ?_) (fun x e=> ?_)
 ·refine Ac<|w _ _ ?_
  refine Ae fun I y=>Am<|An<|rn 2 rfl<|kC e fun z e=> ?_
  have i:=fun c=>Cf (Fi (P:=prog) (c:=c) (t:=25) (b:=s) (off:=0) (k:= .i64) rfl rfl rfl z)
  simp only [Nat.zero_add] at i
  have o:d.toNat<64:=by omega
  refine r_W (Value.pointer (some ⟨s,d.toNat,none⟩)) rfl (i _)<|r_l (vB ((a).getLsbD (d.toNat))) 3 _ _ _ _ rfl rfl rfl rfl (Md rfl _ o)<|rn 1 rfl<|MB 4 19 [(2,vP s 0),(3,vP u 0),(4,vP E 0),(5,vP v 0),(6,vI d),(11,vI d)] vB (fun b_=>BK d f (AR a b h) b_=some r) (fun p e T=> ?_) (fun G=> ?_)
  ·unfold BK at e
   refine kC e fun A e=> ?_
   have j:=fun c=>Cf (Fi (P:=prog) (c:=c) (t:=25) (b:=v) (off:=0) (k:= .i64) rfl rfl rfl A)
   simp only [Nat.zero_add] at j
   have g:d.toNat<64:=by omega
   refine r_W (Value.pointer (some ⟨v,d.toNat,none⟩)) rfl (j _)<|r_s [(v,25,(⟨Av (DB f (d.toNat) p)⟩:Array Value)),(E,25,(⟨Av (0#64)⟩:Array Value)),(u,25,(⟨Av b⟩:Array Value)),(s,25,(⟨Av a⟩:Array Value))] 0 _ _ _ _ _ ((⟨Av (DB f (d.toNat) p)⟩:Array Value)) rfl rfl rfl rfl (Lj rfl rfl _ _ g) (IK _ _ _ g) rfl<|Ah<|y _ _ ?_
   refine An<|rn 1 rfl<|kC e fun B e=>rX B rfl<|rz rfl<|fg _ (Sub.of (suK _ (suK _ (suK _ (suK _ suN))))) ?_
   exact⟨h+1,by omega,h,(d+1),DB f (d.toNat) p,e,Aj rfl rfl,rfl⟩
  rcases m:((a).getLsbD (d.toNat))with _|_
  ·replace e:=iB m e
   refine rn 4 rfl ?_
   exact G _ _ e rfl rfl
  replace e:=ifp m e
  refine rn 1 rfl<|r_y rfl<|kC e fun C e=> ?_
  have n:=fun c=>Cf (Fi (P:=prog) (c:=c) (t:=25) (b:=u) (off:=0) (k:= .i64) rfl rfl rfl C)
  simp only [Nat.zero_add] at n
  have q:d.toNat<64:=by omega
  refine r_W (Value.pointer (some ⟨u,d.toNat,none⟩)) rfl (n _)<|r_y rfl<|r_l (vB ((b).getLsbD (d.toNat))) 2 _ _ _ _ rfl rfl rfl rfl (Md rfl _ q)<|rn 1 rfl ?_
  exact G _ _ e rfl rfl
 refine AT<|F _ _ ?_
 refine AY [0,1] rfl ?_
 obtain rfl:=Option.some.inj e
 refine AO (fun J=>Co (v0:=vA (⟨Av f⟩:Array Value)) rfl (BP (AP J 1 rfl rfl rfl)))
def Cn(N:Nat)(s:BitVec 64)(t':BitVec 64):Option Bool:=(BU N s t').bind fun r3=>some (r3==s)
theorem Hy(N s t' r)(a:Cn N s t'=some r):Gives prog 11 #[U s,U t'] (vB r):=by
 unfold Cn at a
 refine Ao follows func11 rfl 10 rfl _ fz2 (fun b=> ?_)
 refine AZ rfl<|Aa<|rn 2 rfl<|kB a fun d c a=>rc _ (cF Rv) (EB N s t' _ c)<|rn 1 rfl<|r_X (vB (d==s)) rfl (Vd d s) rfl<|rz rfl ?_
 cases a
 exact aR eE1
def Bj(a:List Int)(b:List Int):Nat→Int→Option Bool
  |0,_=>none
  |n8+1,i1_=>if i1_<(a.length:Int)then ck (0≤i1_∧i1_<(a.length:Int)) (ck (0≤i1_∧i1_<(b.length:Int)) (if(a[i1_.toNat]!:Int)≠b[i1_.toNat]! then some false else ck (R64 (i1_+1)) ((Bj a b n8) (i1_+1))))else some true
def Bz(N:Nat)(a:List Int)(b:List Int):Option Bool:=if(a.length:Int)≠(b.length:Int)then some false else Bj a b N 0
theorem Gu(N a b r)(c:Bz N a b=some r)(ro av)(ha:Rd AX ro av a)(bv)(hb:Rd AX ro bv b):Does prog 12 #[av,bv] ro [] (pV (vB r)):=by
 unfold Bz at c
 refine Ag follows func12 rfl 26 rfl _ fz2 (fun n=> ?_)
 refine AZ rfl<|Ae fun w o=>Aa<|rn 1 rfl<|rL (Rd.shp ha) rfl<|rn 1 rfl<|rL (Rd.shp hb) rfl<|rz rfl<|aN c rfl (fun p c=> ?_) (fun p c=> ?_)
 ·refine AZ rfl ?_
  cases c
  exact aR eV1
 refine Ac<|o _ _ ?_
 refine Ae fun x q=>AZ rfl<|Am<|AS (fun tt ll nn=> ∃(g:Nat) (d:Int),(Bj a b g d=some r)∧Is [(0,av),(1,bv),(5,vI d)] [] tt ll∧nn=g+1) (N+1) ?_ ?_
 ·exact⟨N,0,c,Aj rfl rfl,rfl⟩
 clear c;rintro t l _ ⟨g,d,c,⟨⟨T,rfl⟩,rfl⟩,rfl⟩
 rcases g with _|g
 ·exact absurd c (by simp [Bj])
 rw [Bj] at c
 refine Ae fun y s=>Aa<|rn 2 rfl<|rL (Rd.shp ha) rfl<|rz rfl<|aD c rfl (fun h c=> ?_) (fun h c=> ?_)
 ·refine Ac<|s _ _ ?_
  refine Ae fun u i=>Am<|Ae fun v j=>Js [] (by decide+kernel) (fun z=>AW)<|rn 2 rfl<|kC c fun e c=>rI (Rd.shp ha) e rfl<|rE (AA ha) e 0 rfl<|rn 2 rfl<|kC c fun f c=>rI (Rd.shp hb) f rfl<|rE (AA hb) f 0 rfl<|rz rfl<|j _ _ ?_
  refine aN c rfl (fun k c=> ?_) (fun k c=> ?_)
  ·refine AZ rfl ?_
   cases c
   exact aR eV1
  refine Ac<|i _ _ ?_
  refine An<|rn 1 rfl<|kC c fun m c=>rX m rfl<|rz rfl<|fg _ (Sub.of suN) ?_
  exact⟨g+1,by omega,g,(d+1),c,Aj rfl rfl,rfl⟩
 refine AT<|q _ _ ?_
 refine AZ rfl ?_
 cases c
 exact aR eV1
def DY(N:Nat)(l':List Int):Nat→BitVec 64→Int→Option (BitVec 64)
  |0,_,_=>none
  |n5+1,s1_,x2_=>if x2_<(l'.length:Int)then ck (0≤x2_∧x2_<(l'.length:Int)) ((Bv N s1_ (l'[x2_.toNat]!)).bind fun r12=>ck (R64 (x2_+1)) ((DY N l' n5) r12 (x2_+1)))else some s1_
def ID(N:Nat)(l':List Int):Option (BitVec 64):=DY N l' N (0#64) 0
theorem PX(N l' r)(a:ID N l'=some r)(ro l'v)(hl':Rd AX ro l'v l'):Does prog 13 #[l'v] ro [] (pV (U r)):=by
 unfold ID at a
 refine Ag follows func13 rfl 17 rfl _ fz1 (fun h=> ?_)
 refine AZ rfl<|AZ rfl<|Ae fun o i=>Aa<|rn 1 rfl<|rL (Rd.shp hl') rfl<|rz rfl<|Am<|AS (fun tt ll nn=> ∃(e:Nat) (c:BitVec 64) (b:Int),(DY N l' e c b=some r)∧Is [(3,U c),(6,l'v),(7,vI (l'.length:Int)),(8,vI b)] [] tt ll∧nn=e+1) (N+1) ?_ ?_
 ·exact⟨N,0#64,0,a,Aj rfl rfl,rfl⟩
 clear a;rintro t l _ ⟨e,c,b,a,⟨⟨T,rfl⟩,rfl⟩,rfl⟩
 rcases e with _|e
 ·exact absurd a (by simp [DY])
 rw [DY] at a
 refine AZ rfl<|Ae fun p j=>aD a rfl (fun k a=> ?_) (fun k a=> ?_)
 ·refine Ac<|j _ _ ?_
  refine Ae fun q m=>Am<|Aa<|kC a fun d a=>rI (Rd.shp hl') d rfl<|rE (AA hl') d 0 rfl<|rz rfl<|An<|rn 2 rfl<|kB a fun n f a=>rc _ (cF Mt) (CI N c (l'[b.toNat]!) _ f)<|rz rfl<|m _ _ ?_
  refine An<|kC a fun g a=>rX g rfl<|rz rfl<|fg _ (Sub.of suN) ?_
  exact⟨e+1,by omega,e,n,(b+1),a,Aj rfl rfl,rfl⟩
 refine AT<|i _ _ ?_
 refine AZ rfl ?_
 cases a
 exact aR eV1
abbrev Ki:EncO (Int×Int×(List (Int×Int×Int×Int×BitVec 128))×(List (Int×BitVec 128))×Int×Int):=(Eb (FW AX) (Eb (FW AX) (Eb (Jt 42 Dz) (Eb (Jt 40 Fl) (Eb (FW AX) (FW AX))))))
abbrev Ou:EncO ((List UInt8)×Int×(List (Int×Int×Int))×(List Int)×Int×(List (Int×BitVec 128))×Int):=(Eb (FW By) (Eb (FW AX) (Eb (Jt 295 CN) (Eb (Jt 3 AX) (Eb (FW AX) (Eb (Jt 40 Fl) (FW AX)))))))
abbrev Ov:EncO ((List UInt8)×(List Int)×(List (Int×Int×Int×Int×BitVec 128))):=(Eb (FW By) (Eb (Jt 3 AX) (Jt 42 Dz)))
abbrev Hz:EncO ((List UInt8)×(List (Int×Int))×(List (Int×Int×Int))×(List (Int×BitVec 128×Int×BitVec 128×Int))×Int):=(Eb (FW By) (Eb (Jt 233 Jl) (Eb (Jt 295 CN) (Eb (Jt 237 Jk) (FW AX)))))
abbrev HA:EncO ((List UInt8)×(List (List UInt8×Int))×Int×Int×Int×Int):=(Eb (FW By) (Eb (Jt 78 BG) (Eb (FW AX) (Eb (FW AX) (Eb (FW AX) (FW AX))))))
def BD(_:Nat):Option ((List UInt8)×(List ((List UInt8)×(List (List UInt8×Int))×Int×Int×Int×Int))×(List (List UInt8×Int×Int))×(List (List UInt8×Int))×(List ((List UInt8)×(List (Int×Int))×(List (Int×Int×Int))×(List (Int×BitVec 128×Int×BitVec 128×Int))×Int))×(List ((List UInt8)×(List Int)×(List (Int×Int×Int×Int×BitVec 128))))×(List ((List UInt8)×Int×(List (Int×Int×Int))×(List Int)×Int×(List (Int×BitVec 128))×Int))×(List (Int×Int×(List (Int×Int×Int×Int×BitVec 128))×(List (Int×BitVec 128))×Int×Int))×(List (Int×Int×(List (Int×Int×Int×Int×BitVec 128))×(List (Int×BitVec 128))×Int×Int))×(List Int)×(List (Int×Int))×(List (Int×Int))×(List (List UInt8×Int×Int))×(List (List UInt8×Int))×(List (List UInt8×Int×Int×Int))×Int×Int×Int):=some (([109]:List UInt8),[(([104]:List UInt8),[(([97]:List UInt8),8)],0,0,0,0)],[(([120]:List UInt8),0,0)],[],[(([115]:List UInt8),[],[],[],-1)],[],[],[],[],[],[],[],[],[],[],1,1,0)
theorem Fo(N r)(u:BD N=some r)(ro:Ro):Does prog 17 #[] ro [] (pO [] (oSO 80 HA r.2.1 fun s_0=>(oS 82 FH r.2.2.1 fun s_1=>(oS 78 BG r.2.2.2.1 fun s_2=>(oSO 87 Hz r.2.2.2.2.1 fun s_3=>(oSO 166 Ov r.2.2.2.2.2.1 fun s_4=>(oSO 175 Ou r.2.2.2.2.2.2.1 fun s_5=>(oSO 254 Ki r.2.2.2.2.2.2.2.1 fun s_6=>(oSO 254 Ki r.2.2.2.2.2.2.2.2.1 fun s_7=>(oS 3 AX r.2.2.2.2.2.2.2.2.2.1 fun s_8=>(oS 261 FO r.2.2.2.2.2.2.2.2.2.2.1 fun s_9=>(oS 261 FO r.2.2.2.2.2.2.2.2.2.2.2.1 fun s_10=>(oS 122 HD r.2.2.2.2.2.2.2.2.2.2.2.2.1 fun s_11=>(oS 125 HC r.2.2.2.2.2.2.2.2.2.2.2.2.2.1 fun s_12=>(oS 128 HB r.2.2.2.2.2.2.2.2.2.2.2.2.2.2.1 fun s_13=>(oE (vA #[vS r.1,s_0,s_1,s_2,s_3,s_4,s_5,s_6,s_7,s_8,s_9,s_10,s_11,s_12,s_13,vI r.2.2.2.2.2.2.2.2.2.2.2.2.2.2.2.1,vI r.2.2.2.2.2.2.2.2.2.2.2.2.2.2.2.2.1,vI r.2.2.2.2.2.2.2.2.2.2.2.2.2.2.2.2.2]) [])))))))))))))))):=by
 unfold BD at u
 refine BA follows func17 rfl 10 rfl _ fz0 (fun _ _ h_ _=>h_) (fun n=> ?_)
 refine Aa<|rA rfl fun f=>Ah<|Aa<|r_W (vA #[Value.string (⟨#[97]⟩),vI 8]) rfl (Aq rfl rfl rfl rfl)<|gB (Ls:=[(Eh f (Value.string (⟨#[]⟩)) nS nS nS nS nS nS nS nS nS nS nS nS nS nS 0 0 0)]) 78 BG [(([97]:List UInt8),8)] (fun o i v=> ?_)
 refine r_W (vA #[Value.string (⟨#[104]⟩),o,vI 0,vI 0,vI 0,vI 0]) rfl (Ji rfl rfl rfl (DC rfl (DC (BZ rfl (Sl.shp v)) KZ)) rfl) ?_
 have hR7:(HA).R (([104]:List UInt8),[(([97]:List UInt8),8)],0,0,0,0) [Value.string (⟨#[104]⟩),o,vI 0,vI 0,vI 0,vI 0] i:=(by have h_:=(Fk (Hn (E:=By) ([104]:List UInt8)) (Fk (LH (e:=78) (E:=BG) v) (Fk (Hn (E:=AX) 0) (Fk (Hn (E:=AX) 0) (Fk (Hn (E:=AX) 0) (Hn (E:=AX) 0))))));exact EncO.cast h_ (by first|rfl|simp only [List.nil_append,List.append_nil,List.append_assoc]))
 refine cD 4<|FY (cs0:=[]) (Ls:=[(Eh f (Value.string (⟨#[]⟩)) nS nS nS nS nS nS nS nS nS nS nS nS nS nS 0 0 0),i]) 80 (EncO.raw HA) [EncO.of HA hR7] [Value.string (⟨#[104]⟩),o,vI 0,vI 0,vI 0,vI 0] [Value.string (⟨#[]⟩),nS,vI 0,vI 0,vI 0,vI 0] rfl rfl rfl rfl rfl rfl rfl (by kernel_rfl) ((Kg _ _ _ _ (DC rfl KZ)).trans (by kernel_rfl)) rfl rfl rfl (fun h m q=> ?_)
 refine BC (Ls:=[(Eh f (Value.string (⟨#[]⟩)) nS nS nS nS nS nS nS nS nS nS nS nS nS nS 0 0 0),i,m]) (Ls':=[(Eh f (Value.string (⟨#[]⟩)) nS nS nS nS nS nS nS nS nS nS nS nS nS nS 0 0 0),m,i]) [0,2,1] rfl rfl<|aa (Ls:=[(Eh f (Value.string (⟨#[]⟩)) nS nS nS nS nS nS nS nS nS nS nS nS nS nS 0 0 0),m,i]) (Ls':=[(Eh f (Value.string (⟨#[]⟩)) nS nS nS nS nS nS nS nS nS nS nS nS nS nS 0 0 0),(m++i)]) (by simp only [List.flatten_cons,List.flatten_nil,List.append_nil,List.append_assoc]) ?_
 refine Qs (Ls:=[(Eh f (Value.string (⟨#[]⟩)) nS nS nS nS nS nS nS nS nS nS nS nS nS nS 0 0 0),(m++i)]) (p:=fun S_=>SlO 80 HA h ([(([104]:List UInt8),[(([97]:List UInt8),8)],0,0,0,0)]) S_) 1 rfl (SlO.cast (⟨_,_,_,q,(Items.one hR7),rfl⟩:SlO 80 HA h [(([104]:List UInt8),[(([97]:List UInt8),8)],0,0,0,0)] _) (by first|rfl|simp only [List.nil_append,List.append_nil,List.append_assoc])) (fun b j=> ?_)
 refine r_W (vA #[Value.string (⟨#[120]⟩),vI 0,vI 0]) rfl (Aq rfl rfl rfl rfl)<|gB (Ls:=[(Eh f (Value.string (⟨#[]⟩)) nS nS nS nS nS nS nS nS nS nS nS nS nS nS 0 0 0),b]) 82 FH [(([120]:List UInt8),0,0)] (fun c d k=> ?_)
 refine r_W (vA #[Value.string (⟨#[115]⟩),nS,nS,nS,vI (-1)]) rfl (Aq rfl rfl rfl rfl) ?_
 have hR16:(Hz).R (([115]:List UInt8),[],[],[],-1) [Value.string (⟨#[115]⟩),nS,nS,nS,vI (-1)] ([]):=(by have h_:=(Fk (Hn (E:=By) ([115]:List UInt8)) (Fk (LH (e:=233) (E:=Jl) Sl.nil) (Fk (LH (e:=295) (E:=CN) Sl.nil) (Fk (LH (e:=237) (E:=Jk) Sl.nil) (Hn (E:=AX) (-1))))));exact EncO.cast h_ (by first|rfl|simp only [List.nil_append,List.append_nil,List.append_assoc]))
 refine cD 8<|FY (cs0:=[]) (Ls:=[(Eh f (Value.string (⟨#[]⟩)) nS nS nS nS nS nS nS nS nS nS nS nS nS nS 0 0 0),b,d]) 87 (EncO.raw Hz) [EncO.of Hz hR16] [Value.string (⟨#[115]⟩),nS,nS,nS,vI (-1)] [Value.string (⟨#[]⟩),nS,nS,nS,vI 0] rfl rfl rfl rfl rfl rfl rfl (by kernel_rfl) ((Kg _ _ _ _ (DC rfl KZ)).trans (by kernel_rfl)) rfl rfl rfl (fun a s t=> ?_)
 refine Qs (Ls:=[(Eh f (Value.string (⟨#[]⟩)) nS nS nS nS nS nS nS nS nS nS nS nS nS nS 0 0 0),b,d,s]) (p:=fun S_=>SlO 87 Hz a ([(([115]:List UInt8),[],[],[],-1)]) S_) 3 rfl (SlO.cast (⟨_,_,_,t,(Items.one hR16),rfl⟩:SlO 87 Hz a [(([115]:List UInt8),[],[],[],-1)] _) (by first|rfl|simp only [List.nil_append,List.append_nil,List.append_assoc])) (fun g l=> ?_)
 refine r_W (vA #[Value.string (⟨#[109]⟩),h,c,nS,a,nS,nS,nS,nS,nS,nS,nS,nS,nS,nS,vI 1,vI 1,vI 0]) rfl (Ji rfl rfl rfl (DC rfl (DC (BZ rfl (SlO.shp j)) (DC (BZ rfl (Sl.shp k)) (DC (BZ rfl (SlO.shp l)) (DC rfl (DC rfl KZ)))))) rfl) ?_
 refine r_s (List.flatten [(Eh f (Value.string (⟨#[109]⟩)) h c nS a nS nS nS nS nS nS nS nS nS nS 1 1 0),b,d,g]) 0 _ _ _ _ _ (#[Value.string (⟨#[109]⟩),h,c,nS,a,nS,nS,nS,nS,nS,nS,nS,nS,nS,nS,vI 1,vI 1,vI 0]) rfl rfl rfl rfl (.ofS rfl rfl (Ad rfl (Ad (Shp.one (SlO.shp j)) (Ad (Shp.one (Sl.shp k)) (Ad (Shp.one (.inl ⟨rfl,rfl⟩)) (Ad (Shp.one (SlO.shp l)) (Ad (Shp.one (.inl ⟨rfl,rfl⟩)) (Ad (Shp.one (.inl ⟨rfl,rfl⟩)) (Ad (Shp.one (.inl ⟨rfl,rfl⟩)) (Ad (Shp.one (.inl ⟨rfl,rfl⟩)) (Ad (Shp.one (.inl ⟨rfl,rfl⟩)) (Ad (Shp.one (.inl ⟨rfl,rfl⟩)) (Ad (Shp.one (.inl ⟨rfl,rfl⟩)) (Ad (Shp.one (.inl ⟨rfl,rfl⟩)) (Ad (Shp.one (.inl ⟨rfl,rfl⟩)) (Ad (Shp.one (.inl ⟨rfl,rfl⟩)) (Ad rfl (Ad rfl (Ad rfl Bf))))))))))))))))))) rfl rfl ?_
 refine Ah ?_
 cases u
 refine AO (fun w=>Cw (v0:=vA #[Value.string (⟨#[109]⟩),h,c,nS,a,nS,nS,nS,nS,nS,nS,nS,nS,nS,nS,vI 1,vI 1,vI 0]) (O:=[b,d,[],g,[],[],[],[],[],[],[],[],[],[]]) (BP (AP w 0 rfl rfl rfl)) (Sub.pickE (Ls:=[(Eh f (Value.string (⟨#[109]⟩)) h c nS a nS nS nS nS nS nS nS nS nS nS 1 1 0),b,d,g,[],[],[],[],[],[],[],[],[],[],[]]) (Ls0:=[(Eh f (Value.string (⟨#[109]⟩)) h c nS a nS nS nS nS nS nS nS nS nS nS 1 1 0),b,d,g]) rfl [1,2,4,3,5,6,7,8,9,10,11,12,13,14] rfl) ⟨h,b,_,j,⟨c,d,_,k,⟨nS,[],_,Sl.nil,⟨a,g,_,l,⟨nS,[],_,SlO.nil,⟨nS,[],_,SlO.nil,⟨nS,[],_,SlO.nil,⟨nS,[],_,SlO.nil,⟨nS,[],_,Sl.nil,⟨nS,[],_,Sl.nil,⟨nS,[],_,Sl.nil,⟨nS,[],_,Sl.nil,⟨nS,[],_,Sl.nil,⟨nS,[],_,Sl.nil,⟨rfl,rfl⟩,rfl⟩,rfl⟩,rfl⟩,rfl⟩,rfl⟩,rfl⟩,rfl⟩,rfl⟩,rfl⟩,rfl⟩,rfl⟩,rfl⟩,rfl⟩,rfl⟩)
def KM(a0:Value):List Fv:=[⟨vF 34 #[a0] #[],rfl⟩,⟨vF 35 #[a0] #[],rfl⟩,⟨vF 36 #[a0] #[],rfl⟩,⟨vF 37 #[a0] #[],rfl⟩,⟨vF 38 #[a0] #[],rfl⟩,⟨vF 39 #[a0] #[],rfl⟩,⟨vF 40 #[a0] #[],rfl⟩,⟨vF 41 #[a0] #[],rfl⟩,⟨vF 42 #[a0] #[],rfl⟩,⟨vF 43 #[a0] #[],rfl⟩,⟨vF 44 #[a0] #[],rfl⟩,⟨vF 45 #[a0] #[],rfl⟩,⟨vF 46 #[a0] #[],rfl⟩,⟨vF 47 #[a0] #[],rfl⟩,⟨vF 48 #[a0] #[],rfl⟩]
def Ja(_:Nat)(_:AF):Option Unit:=some ()
theorem QG(N c r)(b:Ja N c=some r)(ro:Ro)(cv:AE)(_hc:Bun59R ro cv c):DoesI prog 24 #[vA (Ab c cv)] CR ro [] (p1 (fun s_=>s_) 92 FX (KM (vA (Ab c cv)))):=by
 unfold Ja at b
 refine AC follows func24 rfl 34 rfl _ fz1 AG (fun a=> ?_)
 refine Aa<|rA rfl fun d=>rz rfl<|Aa<|rm 1 [0] rfl<|r_W (vF 34 #[vA (Ab c cv)] #[]) rfl (Dj rfl rfl)<|rm 1 [0] rfl<|r_W (vF 35 #[vA (Ab c cv)] #[]) rfl (Dj rfl rfl)<|rm 1 [0] rfl<|r_W (vF 36 #[vA (Ab c cv)] #[]) rfl (Dj rfl rfl)<|rm 1 [0] rfl<|r_W (vF 37 #[vA (Ab c cv)] #[]) rfl (Dj rfl rfl)<|rm 1 [0] rfl ?_
 refine r_W (vF 38 #[vA (Ab c cv)] #[]) rfl (Dj rfl rfl)<|rm 1 [0] rfl<|r_W (vF 39 #[vA (Ab c cv)] #[]) rfl (Dj rfl rfl)<|rm 1 [0] rfl<|r_W (vF 40 #[vA (Ab c cv)] #[]) rfl (Dj rfl rfl)<|rm 1 [0] rfl<|r_W (vF 41 #[vA (Ab c cv)] #[]) rfl (Dj rfl rfl)<|rm 1 [0] rfl<|r_W (vF 42 #[vA (Ab c cv)] #[]) rfl (Dj rfl rfl) ?_
 refine rm 1 [0] rfl<|r_W (vF 43 #[vA (Ab c cv)] #[]) rfl (Dj rfl rfl)<|rm 1 [0] rfl<|r_W (vF 44 #[vA (Ab c cv)] #[]) rfl (Dj rfl rfl)<|rm 1 [0] rfl<|r_W (vF 45 #[vA (Ab c cv)] #[]) rfl (Dj rfl rfl)<|rm 1 [0] rfl<|r_W (vF 46 #[vA (Ab c cv)] #[]) rfl (Dj rfl rfl)<|rm 1 [0] rfl ?_
 refine r_W (vF 47 #[vA (Ab c cv)] #[]) rfl (Dj rfl rfl)<|rm 1 [0] rfl<|r_W (vF 48 #[vA (Ab c cv)] #[]) rfl (Dj rfl rfl)<|cD 33 ?_
 refine FY (cs0:=[]) (Ls:=[[(d,90,(Ab c cv))]]) 92 FX (KM (vA (Ab c cv))) [vF 34 #[vA (Ab c cv)] #[],vF 35 #[vA (Ab c cv)] #[],vF 36 #[vA (Ab c cv)] #[],vF 37 #[vA (Ab c cv)] #[],vF 38 #[vA (Ab c cv)] #[],vF 39 #[vA (Ab c cv)] #[],vF 40 #[vA (Ab c cv)] #[],vF 41 #[vA (Ab c cv)] #[],vF 42 #[vA (Ab c cv)] #[],vF 43 #[vA (Ab c cv)] #[],vF 44 #[vA (Ab c cv)] #[],vF 45 #[vA (Ab c cv)] #[],vF 46 #[vA (Ab c cv)] #[],vF 47 #[vA (Ab c cv)] #[],vF 48 #[vA (Ab c cv)] #[]] [Value.nilFunc,Value.nilFunc,Value.nilFunc,Value.nilFunc,Value.nilFunc,Value.nilFunc,Value.nilFunc,Value.nilFunc,Value.nilFunc,Value.nilFunc,Value.nilFunc,Value.nilFunc,Value.nilFunc,Value.nilFunc,Value.nilFunc] rfl rfl rfl rfl rfl rfl rfl (by kernel_rfl) (by kernel_rfl) rfl rfl rfl (fun e f g=> ?_)
 refine rz rfl<|Cx [(2,e)] rfl (fun T=> ?_)
 cases b
 refine AO (fun h=>De (v0:=e) g (Cb (Sub.pick [[(d,90,(Ab c cv))],f] [1] rfl)) rfl (BP rfl))
def Au(_:Nat)(n:Int)(least:Int)(most:Int):Option Bool:=if n≥least then some (decide (n≤most))else some false
theorem Ax(N n least most r)(a:Au N n least most=some r):Gives prog 60 #[vI n,vI least,vI most] (vB r):=by
 unfold Au at a
 refine Ao follows func60 rfl 15 rfl _ fz3 (fun d=> ?_)
 refine AZ rfl<|Ae fun e b=>An<|rn 4 rfl ?_
 rcases c:(decide (n≥least))with _|_
 ·replace a:=iF c a
  refine rz rfl<|b _ _ ?_
  cases a
  exact aR eE1
 replace a:=iD c a
 refine rz rfl<|b _ _ ?_
 cases a
 exact aR eE1
def Bq(_:Nat)(c:Int)(first:Int)(last:Int):Option Bool:=if c≥first then some (decide (c≤last))else some false
theorem BF(N c first last r)(a:Bq N c first last=some r):Gives prog 200 #[Value.int .i32 c,Value.int .i32 first,Value.int .i32 last] (vB r):=by
 unfold Bq at a
 refine Ao follows func200 rfl 15 rfl _ fz3 (fun e=> ?_)
 refine AZ rfl<|Ae fun f b=>An<|rn 4 rfl ?_
 rcases d:(decide (c≥first))with _|_
 ·replace a:=iF d a
  refine rz rfl<|b _ _ ?_
  cases a
  exact aR eE1
 replace a:=iD d a
 refine rz rfl<|b _ _ ?_
 cases a
 exact aR eE1
def DK(N:Nat)(c:Int):Option Bool:=(Bq N c 65 90).bind fun r3=>if r3=true then some true else(Bq N c 97 122).bind fun r6=>if r6=true then some true else if c=95 then some true else(Bq N c 192 591).bind fun r10=>if r10=true then some true else(Bq N c 913 969).bind fun r13=>if r13=true then some true else(Bq N c 1024 1279).bind fun r16=>some r16
def FM(N:Nat)(c:Int):Option Bool:=if c=215 then if c=215 then some false else DK N c  else if c=247 then if c=247 then some false else DK N c  else if c=930 then some false else DK N c 
theorem KL(N c r)(a:FM N c=some r):Gives prog 171 #[Value.int .i32 c] (vB r):=by
 unfold FM at a
 refine Ao follows func171 rfl 30 rfl _ fz1 (fun v=> ?_)
 refine AZ rfl<|BW (fun tt ll=>(DK N c  =some r)∧Is [(0,Value.int .i32 c)] [] tt ll) ?_ ?_
 ·refine AZ rfl<|Am<|Ae fun z d=>AZ rfl<|aE a rfl (fun g a=> ?_) (fun g a=> ?_)
  ·refine Ac<|d _ _ ?_
   refine aE a rfl (fun h a=> ?_) (fun h a=> ?_)
   ·refine AZ rfl ?_
    cases a
    exact aR eE1
   refine Ac<|fg _ (Sub.of suN) ?_
   exact⟨a,Aj rfl rfl⟩
  refine AZ rfl<|aE a rfl (fun i a=> ?_) (fun i a=> ?_)
  ·refine Ac<|d _ _ ?_
   refine aE a rfl (fun j a=> ?_) (fun j a=> ?_)
   ·refine AZ rfl ?_
    cases a
    exact aR eE1
   refine Ac<|fg _ (Sub.of suN) ?_
   exact⟨a,Aj rfl rfl⟩
  refine An<|rz rfl<|d _ _ ?_
  refine aE a rfl (fun k a=> ?_) (fun k a=> ?_)
  ·refine AZ rfl ?_
   cases a
   exact aR eE1
  refine Ac<|fg _ (Sub.of suN) ?_
  exact⟨a,Aj rfl rfl⟩
 clear a;rintro t l ⟨a,⟨T,rfl⟩,rfl⟩
 unfold DK at a
 refine Ae fun D b=>An<|rn 1 rfl<|kB a fun A w a=>rc _ (cF Ec) (BF N c 65 90 _ w)<|rn 1 rfl ?_
 rcases m:A with _|_
 ·replace a:=iB m a
  refine rn 1 rfl<|r_y rfl<|kB a fun B x a=>rc _ (cF Ec) (BF N c 97 122 _ x)<|rn 2 rfl ?_
  rcases n:B with _|_
  ·replace a:=iB n a
   refine rn 4 rfl ?_
   rcases o:(c==95)with _|_
   ·replace a:=iG o a
    refine rn 1 rfl<|r_y rfl<|kB a fun p q a=>rc _ (cF Ec) (BF N c 192 591 _ q)<|rn 2 rfl<|Mb [(0,Value.int .i32 c),(22,vB p)] rfl (fun T=> ?_)
    rcases e:p with _|_
    ·replace a:=iB e a
     refine rn 1 rfl<|r_y rfl<|kB a fun y s a=>rc _ (cF Ec) (BF N c 913 969 _ s)<|rn 2 rfl ?_
     rcases f:y with _|_
     ·replace a:=iB f a
      refine rn 1 rfl<|r_y rfl<|kB a fun C u a=>rc _ (cF Ec) (BF N c 1024 1279 _ u)<|rz rfl<|b _ _ ?_
      cases a
      exact aR eE1
     replace a:=ifp f a
     refine rz rfl<|b _ _ ?_
     cases a
     exact aR eE1
    replace a:=ifp e a
    refine rz rfl<|b _ _ ?_
    cases a
    exact aR eE1
   replace a:=iE o a
   refine rz rfl<|b _ _ ?_
   cases a
   exact aR eE1
  replace a:=ifp n a
  refine rz rfl<|b _ _ ?_
  cases a
  exact aR eE1
 replace a:=ifp m a
 refine rz rfl<|b _ _ ?_
 cases a
 exact aR eE1
def IT(N:Nat)(c:Int):Option Bool:=(Bq N c 48 57).bind fun r3=>some r3
theorem Qr(N c r)(a:IT N c=some r):Gives prog 172 #[Value.int .i32 c] (vB r):=by
 unfold IT at a
 refine Ao follows func172 rfl 5 rfl _ fz1 (fun b=> ?_)
 refine AZ rfl<|Aa<|rn 1 rfl<|kB a fun e d a=>rc _ (cF Ec) (BF N c 48 57 _ d)<|rz rfl ?_
 cases a
 exact aR eE1
def FZ(N:Nat)(c:Int)(ahead:Int):Option Bool:=(FM N c).bind fun r3=>if r3=true then some true else if ahead>0 then(IT N c).bind fun r7=>if r7=true then some true else if c=45 then some true else some (c==46)else some false
theorem MJ(N c ahead r)(a:FZ N c ahead=some r):Gives prog 114 #[Value.int .i32 c,vI ahead] (vB r):=by
 unfold FZ at a
 refine Ao follows func114 rfl 23 rfl _ fz2 (fun h=> ?_)
 refine AZ rfl<|Ae fun m b=>An<|rn 1 rfl<|kB a fun k i a=>rc _ (cF SV) (KL N c _ i)<|rn 1 rfl ?_
 rcases e:k with _|_
 ·replace a:=iB e a
  refine rn 3 rfl ?_
  rcases f:(decide (ahead>0))with _|_
  ·replace a:=iF f a
   refine rn 3 rfl<|JH rfl rfl<|JH rfl rfl<|rn 2 rfl<|JH rfl rfl<|JH rfl rfl<|rz rfl<|b _ _ ?_
   cases a
   exact aR eE1
  replace a:=iD f a
  refine rn 1 rfl<|r_y rfl<|kB a fun l j a=>rc _ (cF WM) (Qr N c _ j)<|rn 1 rfl ?_
  rcases g:l with _|_
  ·replace a:=iB g a
   refine rn 4 rfl ?_
   rcases d:(c==45)with _|_
   ·replace a:=iG d a
    refine rz rfl<|b _ _ ?_
    cases a
    exact aR eE1
   replace a:=iE d a
   refine rz rfl<|b _ _ ?_
   cases a
   exact aR eE1
  replace a:=ifp g a
  refine rz rfl<|b _ _ ?_
  cases a
  exact aR eE1
 replace a:=ifp e a
 refine rn 3 rfl<|JH rfl rfl<|JH rfl rfl<|JH rfl rfl<|JH rfl rfl<|JH rfl rfl<|JH rfl rfl<|JH rfl rfl<|JH rfl rfl<|JH rfl rfl<|JH rfl rfl<|rz rfl<|b _ _ ?_
 cases a
 exact aR eE1
def FS(N:Nat)(s:List UInt8):Nat→Int→Nat→Option Bool
  |0,_,_=>none
  |n6+1,count1_,m2_=>if m2_<(s).length then ck (m2_<(s).length) (if count1_=24 then some false else(FZ N ((runeAt s m2_:Nat):Int) count1_).bind fun r15=>if r15=true then ck (R64 (count1_+1)) ((FS N s n6) (count1_+1) (EL s m2_))else some false)else some (decide (count1_>0))
def GO(N:Nat)(s:List UInt8):Option Bool:=FS N s N 0 0
theorem La(N s r)(b:GO N s=some r):Gives prog 67 #[vS s] (vB r):=by
 unfold GO at b
 refine Ao follows func67 rfl 23 rfl _ fz1 (fun n=> ?_)
 refine AZ rfl<|AZ rfl<|Ae fun y o=>Aa<|rn 1 rfl<|cB 7 (p:=(pIt s))<|Ub s rfl rfl rfl rfl rfl (fun _ _ _ _ _=>Iff.rfl) (fun h=> ?_)
 refine Ah<|Am<|AS (fun tt ll nn=> ∃(g:Nat) (a:Int) (c:Nat),(FS N s g a c=some r)∧Is [(3,vI a),(7,vP h 0)] [(h,(itT s c), #[])] tt ll∧nn=g+1) (N+1) ?_ ?_
 ·exact⟨N,0,0,b,Aj rfl rfl,rfl⟩
 clear b;rintro t l _ ⟨g,a,c,b,⟨⟨T,rfl⟩,rfl⟩,rfl⟩
 rcases g with _|g
 ·exact absurd b (by simp [FS])
 rw [FS] at b
 refine Aa<|cA 8 (p:=(pNx h s c))<|Vy (lN:=[(h,(itT s (EL s c)), #[])]) 0 h s c rfl rfl rfl rfl rfl rfl (fun _ _ _ _ _=>Iff.rfl) rfl<|r_W (vB (decide (c<(s).length))) rfl (Cf (SH s c))<|Ah<|Ae fun z q=>aD b rfl (fun u b=> ?_) (fun u b=> ?_)
 ·refine Ac<|q _ _ ?_
  refine Am<|Aa<|kC b fun i b=>r_W (Value.int .i32 ((runeAt s c:Nat):Int)) rfl (Cf (SG i))<|rz rfl<|Ae fun v j=>Ae fun w f=>An<|rn 3 rfl ?_
  rcases d:(a==24)with _|_
  ·replace b:=iG d b
   refine rn 2 rfl<|r_y rfl<|kB b fun x k b=>rc _ (cF XD) (MJ N ((runeAt s c:Nat):Int) a _ k)<|rz rfl<|f _ _ ?_
   refine Ai _ rfl (fun e=> ?_) (fun e=> ?_)
   ·replace b:=ifn (Bool.eq_false_iff.1 (Cd e)) b
    refine AZ rfl ?_
    cases b
    exact aR eE1
   replace b:=ifp (Ce e) b
   refine Ac<|j _ _ ?_
   refine An<|rn 1 rfl<|kC b fun m b=>rX m rfl<|rz rfl<|fg _ (Sub.of (suK _ suN)) ?_
   exact⟨g+1,by omega,g,(a+1),EL s c,b,Aj (by first|rfl|(simp only [d];done)|(simp only [d];rfl)|(simp only [CC];rfl)) rfl,rfl⟩
  replace b:=iE d b
  refine rz rfl<|f _ _ ?_
  refine Ai true rfl (fun _=> ?_) (fun h_=>nomatch h_)
  refine AZ rfl ?_
  cases b
  exact aR eE1
 refine AT<|o _ _ ?_
 refine AZ rfl ?_
 cases b
 exact aR eE1
def Al(_:Nat)(so:Bool)(e':Int):Option Int:=if so=true then some 0 else some e'
theorem Ap(N so e' r)(a:Al N so e'=some r):Gives prog 28 #[vB so,vI e'] (vI r):=by
 unfold Al at a
 refine Ao follows func28 rfl 7 rfl _ fz2 (fun b=> ?_)
 refine AZ rfl<|Ae fun e c=>AZ rfl<|aB a rfl (fun d a=> ?_) (fun d a=> ?_)
 ·refine AZ rfl ?_
  cases a
  exact aR eE1
 refine Ac<|c _ _ ?_
 refine AZ rfl ?_
 cases a
 exact aR eE1
def JN(_:Nat)(e':Int):Option Bool:=some (e' !=0)
theorem RX(N e' r)(b:JN N e'=some r):Gives prog 50 #[vI e'] (vB r):=by
 unfold JN at b
 refine Ao follows func50 rfl 5 rfl _ fz1 (fun a=> ?_)
 refine AZ rfl<|AZ rfl ?_
 cases b
 exact aR eE1
def Vt(N:Nat)(s:List Int):Nat→Int→Option Int
  |0,_=>none
  |n4+1,x1_=>if x1_<(s.length:Int)then ck (0≤x1_∧x1_<(s.length:Int)) ((JN N (s[x1_.toNat]!)).bind fun r12=>if r12=true then some x1_ else ck (R64 (x1_+1)) ((Vt N s n4) (x1_+1)))else some (-1)
def sFm(N:Nat)(s:List Int):Option Int:=Vt N s N 0
theorem sFg(N s r)(a:sFm N s=some r)(ro sv)(hs:Rd AX ro sv s):Does prog 49 #[sv,vF 50 #[] #[]] ro [] (pV (vI r)):=by
 unfold sFm at a
 refine Ag follows func49 rfl 19 rfl _ fz2 (fun h=> ?_)
 refine AZ rfl<|Ae fun o i=>Aa<|rn 1 rfl<|rL (Rd.shp hs) rfl<|rz rfl<|Am<|AS (fun tt ll nn=> ∃(d:Nat) (b:Int),(Vt N s d b=some r)∧Is [(0,sv),(1,vF 50 #[] #[]),(7,vI (s.length:Int)),(8,vI b)] [] tt ll∧nn=d+1) (N+1) ?_ ?_
 ·exact⟨N,0,a,Aj rfl rfl,rfl⟩
 clear a;rintro t l _ ⟨d,b,a,⟨⟨T,rfl⟩,rfl⟩,rfl⟩
 rcases d with _|d
 ·exact absurd a (by simp [Vt])
 rw [Vt] at a
 refine AZ rfl<|Ae fun p j=>aD a rfl (fun k a=> ?_) (fun k a=> ?_)
 ·refine Ac<|j _ _ ?_
  refine Ae fun q m=>Am<|AZ rfl<|Aa<|rn 3 rfl<|kC a fun c a=>rI (Rd.shp hs) c rfl<|rE (AA hs) c 0 rfl<|kB a fun n e a=>rc _ (AV (caps:=[]) rfl Zn rfl) (RX N (s[b.toNat]!) _ e)<|Ah<|aB a rfl (fun f a=> ?_) (fun f a=> ?_)
  ·refine AZ rfl ?_
   cases a
   exact aR eV1
  refine Ac<|m _ _ ?_
  refine An<|kC a fun g a=>rX g rfl<|rz rfl<|fg _ (Sub.of suN) ?_
  exact⟨d+1,by omega,d,(b+1),a,Aj rfl rfl,rfl⟩
 refine AT<|i _ _ ?_
 refine AZ rfl ?_
 cases a
 exact aR eV1
def Ay(N:Nat)(l':List Int):Option Int:=(sFm N l').bind fun r3=>if r3<0 then some 0 else ck (0≤r3∧r3<(l'.length:Int)) (some (l'[r3.toNat]!))
theorem Bc(N l' r)(a:Ay N l'=some r)(ro l'v)(hl':Rd AX ro l'v l'):Does prog 27 #[l'v] ro [] (pV (vI r)):=by
 unfold Ay at a
 refine Ag follows func27 rfl 12 rfl _ fz1 (fun c=> ?_)
 refine AZ rfl<|Aa<|rn 1 rfl<|kB a fun g d a=>gV _ (cF Zo) (fun o w z_=>sFg N l' _ d z_.view l'v ((AA hl') o w z_))<|rz rfl<|Ae fun h e=>AZ rfl<|aD a rfl (fun f a=> ?_) (fun f a=> ?_)
 ·refine AZ rfl ?_
  cases a
  exact aR eV1
 refine Ac<|e _ _ ?_
 refine Aa<|rn 2 rfl<|kC a fun b a=>rI (Rd.shp hl') b rfl<|rE (AA hl') b 0 rfl<|rz rfl ?_
 cases a
 exact aR eV1
def Es(N:Nat)(c:AF)(inRange1_:Bool):Option (Int×Int):=(GO N c.1).bind fun r4=>(Al N r4 4).bind fun r6=>(Al N inRange1_ 7).bind fun r8=>(Ay N ([r6,r8])).bind fun r13=>some (0,r13)
def Jf(N:Nat)(c:AF):Option (Int×Int):=(Au N c.2.2.2.2.2.2.2.2.2.2.2.2.2.2.2.1 1 64).bind fun r15=>if r15=true then(Au N c.2.2.2.2.2.2.2.2.2.2.2.2.2.2.2.2.1 1 32).bind fun r18=>if r18=true then(Au N c.2.2.2.2.2.2.2.2.2.2.2.2.2.2.2.2.2 0 4).bind fun r21=>Es N c r21 else Es N c false else Es N c false
theorem QN(N c r)(b:Jf N c=some r)(ro:Ro)(cv:AE)(_hc:Bun59R ro cv c):Does prog 34 #[vA (Ab c cv)] ro [] (pV (vT #[vI r.1,vI r.2])):=by
 unfold Jf at b
 refine Ag follows func34 rfl 30 rfl _ fz1 (fun j=> ?_)
 refine Aa<|rA rfl fun m=>rz rfl<|BW (fun tt ll=> ∃(a:Bool),(Es N c a=some r)∧Is [(1,vP m 0),(4,vB a)] [(m,90,(Ab c cv))] tt ll) ?_ ?_
 ·refine An<|rm 3 [0] rfl<|kB b fun n f b=>rc _ (cF BI) (Ax N c.2.2.2.2.2.2.2.2.2.2.2.2.2.2.2.1 1 64 _ f)<|rn 1 rfl ?_
  rcases d:n with _|_
  ·replace b:=iB d b
   refine rz rfl<|fg _ (Sub.of (suK _ suN)) ?_
   exact⟨false,b,Aj (by first|rfl|(simp only [d];done)|(simp only [d];rfl)|(simp only [CC];rfl)) rfl⟩
  replace b:=ifp d b
  refine rn 2 rfl<|r_y rfl<|rm 1 [0] rfl<|r_y rfl<|kB b fun p g b=>rc _ (cF BI) (Ax N c.2.2.2.2.2.2.2.2.2.2.2.2.2.2.2.2.1 1 32 _ g)<|rn 2 rfl ?_
  rcases e:p with _|_
  ·replace b:=iB e b
   refine rz rfl<|fg _ (Sub.of (suK _ suN)) ?_
   exact⟨false,b,Aj (by first|rfl|(simp only [d,e];done)|(simp only [d,e];rfl)|(simp only [CC];rfl)) rfl⟩
  replace b:=ifp e b
  refine rn 2 rfl<|r_y rfl<|rm 1 [0] rfl<|r_y rfl<|kB b fun q h b=>rc _ (cF BI) (Ax N c.2.2.2.2.2.2.2.2.2.2.2.2.2.2.2.2.2 0 4 _ h)<|rz rfl<|fg _ (Sub.of (suK _ suN)) ?_
  exact⟨q,b,Aj (by first|rfl|(simp only [d,e];done)|(simp only [d,e];rfl)|(simp only [CC];rfl)) rfl⟩
 clear b;rintro t l ⟨a,b,⟨T,rfl⟩,rfl⟩
 unfold Es at b
 refine Aa<|rm 3 [0] rfl<|kB b fun C s b=>rc _ (cF Rx) (La N c.1 _ s)<|kB b fun A u b=>rc _ (cF AI) (Ap N C 4 _ u)<|rn 1 rfl<|kB b fun B v b=>rc _ (cF AI) (Ap N a 7 _ v)<|gB (Ls:=[[(m,90,(Ab c cv))]]) 44 AX [A,B] (fun x y z=> ?_)
 refine kB b fun D i b=>gV _ (cF Bx) (fun o w z_=>Bc N ([A,B]) _ i z_.view x ((Ar z (Af (Ls:=[[(m,90,(Ab c cv))],y]) (k:=1) rfl rfl)) o w z_))<|rz rfl ?_
 cases b
 exact aR eV2
def FD(_:Nat)(h_0:List UInt8)(_:List (List UInt8×Int))(_:Int)(_:Int)(_:Int)(_:Int):Option (List UInt8):=some h_0
theorem Mn(N h_0 h_1 h_2 h_3 h_4 h_5 r)(b:FD N h_0 h_1 h_2 h_3 h_4 h_5=some r)(ro:Ro)(h_1v:Value)(_hh_1:Rd BG ro h_1v h_1):Does prog 69 #[vA #[vS h_0,h_1v,vI h_2,vI h_3,vI h_4,vI h_5]] ro [] (pV (vS r)):=by
 unfold FD at b
 refine Ag follows func69 rfl 5 rfl _ fz1 (fun a=> ?_)
 refine Aa<|rA rfl fun c=>rz rfl<|AY [0] rfl ?_
 cases b
 exact aR eV1
def Dm(N:Nat)(l':List ((List UInt8)×(List (List UInt8×Int))×Int×Int×Int×Int)):Nat→List (List UInt8)→Int→Option (List (List UInt8))
  |0,_,_=>none
  |n9+1,s1_,x2_=>if x2_<(l'.length:Int)then ck (0≤x2_∧x2_<(l'.length:Int)) ((FD N (l'[x2_.toNat]!.1) (l'[x2_.toNat]!.2.1) (l'[x2_.toNat]!.2.2.1) (l'[x2_.toNat]!.2.2.2.1) (l'[x2_.toNat]!.2.2.2.2.1) (l'[x2_.toNat]!.2.2.2.2.2)).bind fun r20=>ck (0≤x2_∧x2_<(s1_.length:Int)) (ck (R64 (x2_+1)) ((Dm N l' n9) ((s1_).set (x2_.toNat) r20) (x2_+1))))else some s1_
def GZ(N:Nat)(l':List ((List UInt8)×(List (List UInt8×Int))×Int×Int×Int×Int)):Option (List (List UInt8)):=ck (0≤(l'.length:Int)∧(l'.length:Int)≤8796093022208) (Dm N l' N ((List.replicate ((l'.length:Int)).toNat ([]))) 0)
theorem NT(N l' r)(b:GZ N l'=some r)(ro l'v)(hl':RdN EE ro l'v l'):Does prog 68 #[l'v,vF 69 #[] #[]] ro [] (p1 (fun s_=>s_) 9 By r):=by
 unfold GZ at b
 refine Ag follows func68 rfl 26 rfl _ fz2 (fun x=> ?_)
 refine AZ rfl<|Aa<|rn 1 rfl<|rL (RdN.shp hl') rfl<|kC b fun y b=>cB 10<|LX (Ls:=[]) 9 By ([]) (l'.length:Int) rfl rfl rfl rfl rfl rfl rfl rfl rfl rfl 8796093022208 rfl y (fun _ _ _ _ _=>Iff.rfl) (fun z C D=> ?_)
 refine rz rfl<|Ae fun H A=>Aa<|rn 1 rfl<|rL (RdN.shp hl') rfl<|rz rfl<|Am<|BH _ (Sub.pick [C] [0] rfl)<|AS (fun tt ll nn=> ∃(j:Nat) (e:List (List UInt8)) (a:Int),(Dm N l' j e a=some r)∧ ∃(c:List Bl),Sl 9 By z e c∧Is [(1,vF 69 #[] #[]),(5,z),(11,l'v),(12,vI (l'.length:Int)),(13,vI a)] (List.flatten [c]) tt ll∧nn=j+1) (N+1) ?_ ?_
 ·exact⟨N,(List.replicate ((l'.length:Int)).toNat ([])),0,b,C,D,Aj rfl rfl,rfl⟩
 clear b;rintro t l _ ⟨j,e,a,b,c,f,⟨⟨T,rfl⟩,rfl⟩,rfl⟩
 rcases j with _|j
 ·exact absurd b (by simp [Dm])
 rw [Dm] at b
 refine AZ rfl<|Ae fun F m=>aD b rfl (fun n b=> ?_) (fun n b=> ?_)
 ·refine Ac<|m _ _ ?_
  refine Ae fun G p=>Am<|Aa<|rn 1 rfl<|kC b fun g b=> ?_
  obtain⟨_,⟨d,h,rfl⟩,hat18⟩:=RdN.at (E:=EE) hl' (Cs g)
  refine rI (RdN.shp hl') g rfl<|Nt (vA #[vS (l'[a.toNat]!.1),d,vI (l'[a.toNat]!.2.2.1),vI (l'[a.toNat]!.2.2.2.1),vI (l'[a.toNat]!.2.2.2.2.1),vI (l'[a.toNat]!.2.2.2.2.2)]) (vs:=[vS (l'[a.toNat]!.1),d,vI (l'[a.toNat]!.2.2.1),vI (l'[a.toNat]!.2.2.2.1),vI (l'[a.toNat]!.2.2.2.2.1),vI (l'[a.toNat]!.2.2.2.2.2)]) (a.toNat*6) 0 rfl rfl (fun o w z_=>At.mono z_.ro_cell hat18) rfl<|rA rfl fun k=>rn 1 rfl<|r_s (List.flatten [(Qz k (l'[a.toNat]!.1) d (l'[a.toNat]!.2.2.1) (l'[a.toNat]!.2.2.2.1) (l'[a.toNat]!.2.2.2.2.1) (l'[a.toNat]!.2.2.2.2.2)),c]) 0 _ _ _ _ _ (#[vS (l'[a.toNat]!.1),d,vI (l'[a.toNat]!.2.2.1),vI (l'[a.toNat]!.2.2.2.1),vI (l'[a.toNat]!.2.2.2.2.1),vI (l'[a.toNat]!.2.2.2.2.2)]) rfl rfl rfl rfl (.ofS rfl rfl (Ad rfl (Ad (Shp.one (Rd.shp h)) (Ad rfl (Ad rfl (Ad rfl (Ad rfl Bf))))))) rfl rfl<|Ah<|An<|rn 3 rfl ?_
  refine rm 1 [0] rfl<|kB b fun q s b=>gV _ (AV (caps:=[]) rfl Za rfl) (fun o w z_=>Mn N (l'[a.toNat]!.1) (l'[a.toNat]!.2.1) (l'[a.toNat]!.2.2.1) (l'[a.toNat]!.2.2.2.1) (l'[a.toNat]!.2.2.2.2.1) (l'[a.toNat]!.2.2.2.2.2) _ s z_.view d (z_.r h))<|kC b fun i b=>rI (Sl.shp f) i rfl<|MI (Ls:=[(Qz k (l'[a.toNat]!.1) d (l'[a.toNat]!.2.2.1) (l'[a.toNat]!.2.2.2.1) (l'[a.toNat]!.2.2.2.2.1) (l'[a.toNat]!.2.2.2.2.2)),c]) 1 (En:=By) (e[a.toNat]!) q (a.toNat) 0 rfl rfl rfl f (Cs i) rfl rfl rfl (Ew rfl) rfl (fun u B=> ?_)
  refine Ah<|p _ _ ?_
  refine An<|kC b fun v b=>rX v rfl<|rz rfl<|fg _ (Sub.pick [(Qz k (l'[a.toNat]!.1) d (l'[a.toNat]!.2.2.1) (l'[a.toNat]!.2.2.2.1) (l'[a.toNat]!.2.2.2.2.1) (l'[a.toNat]!.2.2.2.2.2)),u] [1] rfl) ?_
  exact⟨j+1,by omega,j,(e).set (a.toNat) q,(a+1),b,u,B,Aj rfl rfl,rfl⟩
 refine AT<|A _ _ ?_
 refine AZ rfl ?_
 cases b
 refine AO (fun I=>De (v0:=z) f (Cb (Sub.pick [c] [0] rfl)) rfl (BP rfl))
def LR(_:Nat)(s:List UInt8)(substr:List UInt8):Option Int:=ck ((substr).length=1) (some (Lib.index s substr))
theorem UK(N s substr r)(a:LR N s substr=some r):Gives prog 201 #[vS s,vS substr] (vI r):=by
 unfold LR at a
 refine Ao follows func201 rfl 8 rfl _ fz2 (fun b=> ?_)
 refine AZ rfl<|Aa<|rn 2 rfl<|kC a fun c a=>rc _ (cF Wk) (VM s substr c)<|rz rfl ?_
 cases a
 exact aR eE1
def Gw(N:Nat)(s:List UInt8)(substr:List UInt8):Option Bool:=(LR N s substr).bind fun r3=>some (decide (r3≥0))
theorem Lm(N s substr r)(a:Gw N s substr=some r):Gives prog 173 #[vS s,vS substr] (vB r):=by
 unfold Gw at a
 refine Ao follows func173 rfl 9 rfl _ fz2 (fun b=> ?_)
 refine AZ rfl<|Aa<|rn 2 rfl<|kB a fun d c a=>rc _ (cF Wr) (UK N s substr _ c)<|rz rfl ?_
 cases a
 exact aR eE1
def Kp(N:Nat)(s:List UInt8):Option Bool:=(GO N s).bind fun r3=>if r3=true then(Gw N s ([46]:List UInt8)).bind fun r6=>some (!(r6))else some false
theorem PG(N s r)(a:Kp N s=some r):Gives prog 115 #[vS s] (vB r):=by
 unfold Kp at a
 refine Ao follows func115 rfl 10 rfl _ fz1 (fun d=> ?_)
 refine AZ rfl<|Ae fun h b=>An<|rn 1 rfl<|kB a fun g e a=>rc _ (cF Rx) (La N s _ e)<|rn 1 rfl ?_
 rcases c:g with _|_
 ·replace a:=iB c a
  refine rz rfl<|b _ _ ?_
  cases a
  exact aR eE1
 replace a:=ifp c a
 refine rn 1 rfl<|r_y rfl<|kB a fun i f a=>rc _ (cF SU) (Lm N s ([46]:List UInt8) _ f)<|rz rfl<|b _ _ ?_
 cases a
 exact aR eE1
def Em(_:Nat)(i:Int)(c1_:List (List UInt8×Int)):Option (List UInt8):=ck (0≤i∧i<(c1_.length:Int)) (some ((c1_[i.toNat]!).1))
theorem KE(N i f r)(g:Em N i f=some r)(ro)(c:Nat)(a)(b:Rd BG ro a f)(d:Blk ro c [a]):Does prog 202 #[vI i,vP c 0] ro [] (pV (vS r)):=by
 unfold Em at g
 refine Ag follows func202 rfl 9 rfl _ fz2 (fun h=> ?_)
 refine AZ rfl<|Aa<|Cz a (vs:=[a]) (o:=0) rfl rfl (Az d) rfl<|rn 1 rfl<|kC g fun e g=>rI (Rd.shp b) e rfl<|rF (Rd.shp b) (Di e) rfl<|rE (AA b) e 0 rfl<|rz rfl ?_
 cases g
 exact aR eV1
def DI(N:Nat)(count:Int)(at0_:List (List UInt8×Int)):Nat→List (List UInt8)→Int→Option (List (List UInt8))
  |0,_,_=>none
  |n9+1,s1_,x2_=>if x2_<count then(Em N x2_ at0_).bind fun r15=>ck (0≤x2_∧x2_<(s1_.length:Int)) (ck (R64 (x2_+1)) ((DI N count at0_ n9) ((s1_).set (x2_.toNat) r15) (x2_+1)))else some s1_
def HK(N:Nat)(count:Int)(at0_:List (List UInt8×Int)):Option (List (List UInt8)):=ck (0≤count∧count≤8796093022208) (DI N count at0_ N (List.replicate count.toNat ([])) 0)
theorem OX(N count f r)(b:HK N count f=some r)(ro)(a:Nat)(e)(k:Rd BG ro e f)(i:Blk ro a [e]):Does prog 178 #[vI count,vF 202 #[] #[vP a 0]] ro [] (p1 (fun s_=>s_) 9 By r):=by
 unfold HK at b
 refine Ag follows func178 rfl 21 rfl _ fz2 (fun y=> ?_)
 refine AZ rfl<|Aa<|rn 1 rfl<|kC b fun z b=>cB 8<|LX (Ls:=[]) 9 By ([]) count rfl rfl rfl rfl rfl rfl rfl rfl rfl rfl 8796093022208 rfl z (fun _ _ _ _ _=>Iff.rfl) (fun A D E=> ?_)
 refine rz rfl<|Ae fun H B=>AZ rfl<|Am<|BH _ (Sub.pick [D] [0] rfl)<|AS (fun tt ll nn=> ∃(m:Nat) (g:List (List UInt8)) (c:Int),(DI N count f m g c=some r)∧ ∃(d:List Bl),Sl 9 By A g d∧Is [(1,vF 202 #[] #[vP a 0]),(5,A),(9,vI count),(10,vI c)] (List.flatten [d]) tt ll∧nn=m+1) (N+1) ?_ ?_
 ·exact⟨N,(List.replicate count.toNat ([])),0,b,D,E,Aj rfl rfl,rfl⟩
 clear b;rintro t l _ ⟨m,g,c,b,d,h,⟨⟨T,rfl⟩,rfl⟩,rfl⟩
 rcases m with _|m
 ·exact absurd b (by simp [DI])
 rw [DI] at b
 refine AZ rfl<|Ae fun F n=>aD b rfl (fun p b=> ?_) (fun p b=> ?_)
 ·refine Ac<|n _ _ ?_
  refine Ae fun G q=>Am<|AZ rfl<|An<|rn 4 rfl<|kB b fun s u b=>gV _ (AV (caps:=[vP a 0]) rfl Wq rfl) (fun o w z_=>KE N c f _ u z_.view a e (z_.r k) (Az i o w z_))<|kC b fun j b=>rI (Sl.shp h) j rfl<|MI (Ls:=[d]) 0 (En:=By) (g[c.toNat]!) s (c.toNat) 0 rfl rfl rfl h (Cs j) rfl rfl rfl (Ew rfl) rfl (fun v C=> ?_)
  refine Ah<|q _ _ ?_
  refine An<|kC b fun x b=>rX x rfl<|rz rfl<|fg _ (Sub.pick [v] [0] rfl) ?_
  exact⟨m+1,by omega,m,(g).set (c.toNat) s,(c+1),b,v,C,Aj rfl rfl,rfl⟩
 refine AT<|B _ _ ?_
 refine AZ rfl ?_
 cases b
 refine AO (fun I=>De (v0:=A) h (Cb (Sub.pick [d] [0] rfl)) rfl (BP rfl))
def GI(N:Nat)(l':List (List UInt8×Int)):Option (List (List UInt8)):=(HK N (l'.length:Int) l').bind fun r4=>some r4
theorem Np(N l' r)(a:GI N l'=some r)(ro l'v)(hl':Rd BG ro l'v l'):Does prog 174 #[l'v] ro [] (p1 (fun s_=>s_) 9 By r):=by
 unfold GI at a
 refine Ag follows func174 rfl 7 rfl _ fz1 (fun b=> ?_)
 refine Aa<|r_a (49, #[l'v]) rfl rfl (Hp rfl (Rd.shp hl')) (fun c=> ?_) (.inr rfl)
 refine rz rfl<|Aa<|rm 1 [0] rfl<|rL (Rd.shp hl') rfl<|r_W (vF 202 #[] #[vP c 0]) rfl (Db rfl)<|kB a fun h d a=>gS (Ls:=[(Ul c l'v)]) (cF SS) (fun o w z_=>OX N (l'.length:Int) l' _ d z_.view c l'v ((AA hl') o w z_) (Bi 0 rfl rfl o w z_)) (fun e f g=> ?_)
 refine rz rfl ?_
 cases a
 refine AO (fun i=>De (v0:=e) g (Cb (Sub.pick [(Ul c l'v),f] [1] rfl)) rfl (BP rfl))
def Fu(_:Nat):Option Unit:=some ()
theorem LU(N r)(b:Fu N=some r)(ro:Ro)(bb:Nat):Does prog 212 #[vP bb 0] ro (Aw bb (Value.pointer none) nS) (pO (Aw bb (Value.pointer none) nS) (oE (vT #[]) [(Aw bb (vP bb 0) nS)])):=by
 unfold Fu at b
 refine BA follows func212 rfl 20 rfl _ fz1 (fun _ _ h_ _=>h_) (fun a=> ?_)
 refine AY [0] rfl<|Ai true rfl (fun _=> ?_) (fun h_=>nomatch h_)
 refine An<|rn 2 rfl<|cA 9 (p:=(pUp (fun v_ U_=>v_=vP bb 0∧U_=(Aw bb (Value.pointer none) nS))))<|UM (Ls:=[(Aw bb (Value.pointer none) nS)]) (vP bb 0) 0 rfl rfl rfl rfl rfl (TY (TB:=311) (cs:= #[Value.pointer none,nS]) rfl rfl rfl rfl rfl rfl rfl (List.mem_singleton.2 rfl)) (fun _ _ _ _ _=>Iff.rfl)<|cA 10 (p:=(pUp (fun v_ U_=>v_=vP bb 0∧U_=(Aw bb (Value.pointer none) nS)))) ?_
 refine UM (Ls:=[(Aw bb (Value.pointer none) nS)]) (vP bb 0) 0 rfl rfl rfl rfl rfl (fun w_ _=>Qm (args:= #[vP bb 0]) (e:=Extern.AbiNoEscape.same) (w':=w_) (Rm rfl) func220 (by kernel_rfl) (by kernel_rfl) (by kernel_rfl) (by kernel_rfl) rfl) (fun _ _ _ _ _=>Iff.rfl)<|cA 11 (p:=(pUp (fun v_ U_=>v_=vP bb 0∧U_=(Aw bb (Value.pointer none) nS))))<|UM (Ls:=[(Aw bb (Value.pointer none) nS)]) (vP bb 0) 0 rfl rfl rfl rfl rfl (PL (TB:=311) (cs:= #[Value.pointer none,nS]) 2 rfl rfl rfl rfl rfl (List.mem_singleton.2 rfl) rfl (by kernel_rfl)) (fun _ _ _ _ _=>Iff.rfl)<|rn 2 rfl ?_
 refine ry [0] rfl ?_
 cases b
 refine Oo (v0:=vT #[]) (O:=[(Aw bb (vP bb 0) nS)]) rfl (Sub.pick [(Aw bb (vP bb 0) nS)] [0] rfl) ⟨rfl,rfl⟩
def JE(_:Nat)(n:Int):Option (List UInt8):=ck (R64 (0+n)) (ck (0≤(0+n)∧(0+n)≤140737488355328) (some ((([]:List UInt8)).take (([]:List UInt8)).length++(([]:List UInt8)).drop (([]:List UInt8)).length)))
theorem RN(N n r)(c:JE N n=some r)(ro:Ro)(bb:Nat):Does prog 213 #[vP bb 0,vI n] ro (Aw bb (vP bb 0) nS) (pO (Aw bb (vP bb 0) nS) (oS 5 encYs r fun s_0=>(oE (vT #[]) [(Aw bb (vP bb 0) s_0)]))):=by
 unfold JE at c
 refine BA follows func213 rfl 30 rfl _ fz2 (fun _ _ h_ _=>h_) (fun d=> ?_)
 refine Ae fun k f=>Bt [(some 13,false)] (conG prog [(13,fun _ _ v_ L_ U_=>(Yh 5 ((0+n)).toNat) v_ L_ U_)]) [] (by decide+kernel) (fun l=>AW)<|rm 4 [0] rfl<|r_W (vI 0) rfl (Uq rfl rfl rfl)<|r_X (vI 0) rfl (IJ rfl (by decide) (by decide)) rfl<|rn 1 rfl<|kC c fun g c=>rX g rfl<|kC c fun h c=>be (Ls:=[(Aw bb (vP bb 0) nS)]) (ps:= #[3]) (t:=309) 5 (0+n) rfl rfl rfl (Rm rfl) func221 (by kernel_rfl) (by kernel_rfl) (by kernel_rfl) (by kernel_rfl) rfl h (fun _ _ _ _ _=>Iff.rfl) (fun a i xs4 _ j=> ?_)
 refine rm 4 [0] rfl<|rL (.inl ⟨rfl,rfl⟩) rfl<|r_W (Ch a 0 ((((([]:List UInt8)).length:Int)).toNat) 1) rfl (Cf (EI rfl rfl rfl rfl (Sl.shp j) (by exact⟨by decide,Int.natCast_nonneg _⟩)))<|rz rfl<|f _ _ ?_
 refine Aa<|rm 5 [0] rfl<|cA 25 (p:=(pUp (fun v_ U_=>v_= .int .i64 ((min (([]:List UInt8)).length (([]:List UInt8)).length:Nat):Int)∧Sl 5 encYs (Ch a 0 ((((([]:List UInt8)).length:Int)).toNat) 1) ((([]:List UInt8)).take (([]:List UInt8)).length++(([]:List UInt8)).drop (([]:List UInt8)).length) U_∧U_.map (·.1)=i.map (·.1)))) ?_
 refine ZY (Ls:=[(Aw bb (vP bb 0) nS),i]) 1 (En:=encYs) (ys:=([]:List UInt8)) rfl rfl rfl rfl rfl rfl (Sl.take00 j) (.inl ⟨rfl,rfl⟩) (fun _ _ _=> .inl ⟨rfl,rfl⟩) rfl rfl rfl rfl (fun _ _ _ _ _=>Iff.rfl) (fun e b=> ?_)
 refine Ah<|An<|rn 4 rfl<|r_s (List.flatten [(Aw bb (vP bb 0) (Ch a 0 ((((([]:List UInt8)).length:Int)).toNat) 1)),e]) 0 _ _ _ _ _ (#[vP bb 0,Ch a 0 ((((([]:List UInt8)).length:Int)).toNat) 1]) rfl rfl rfl (BZ rfl (Sl.shp b)) (.ofS rfl rfl (Ad (Shp.one (Sl.shp b)) Bf)) rfl rfl<|Ah ?_
 cases c
 refine Oo (v0:=vT #[]) (O:=[e,(Aw bb (vP bb 0) (Ch a 0 ((((([]:List UInt8)).length:Int)).toNat) 1))]) rfl (Sub.pick [(Aw bb (vP bb 0) (Ch a 0 ((((([]:List UInt8)).length:Int)).toNat) 1)),e] [1,0] rfl) ⟨Ch a 0 ((((([]:List UInt8)).length:Int)).toNat) 1,e,_,b,⟨rfl,rfl⟩,rfl⟩
def IN(N:Nat)(n:Int):Option (List UInt8):=ck ((R64 (0 - ((([]:List UInt8)).length:Int)))) (if((0 - ((([]:List UInt8)).length:Int)):Int)<n then(JE N n).bind fun r7=>some r7 else some ([]:List UInt8))
def JG(N:Nat)(n:Int):Option (List UInt8):=(Fu N).bind fun r2=>if n<0 then none else IN N n 
theorem RO(N n r)(a:JG N n=some r)(ro:Ro)(bb:Nat):Does prog 203 #[vP bb 0,vI n] ro (Aw bb (Value.pointer none) nS) (pO (Aw bb (Value.pointer none) nS) (oS 5 encYs r fun s_0=>(oE (vT #[]) [(Aw bb (vP bb 0) s_0)]))):=by
 unfold JG at a
 refine BA follows func203 rfl 25 rfl _ fz2 (fun _ _ h_ _=>h_) (fun e=> ?_)
 refine Aa<|rn 1 rfl<|kB a fun m f a=>gM (Ls:=[(Aw bb (Value.pointer none) nS)]) (FL:=[(Aw bb (Value.pointer none) nS)]) [0] (cF OG) (fun o w hn_ z_=>LU N  _ f _ bb) ?_
 rintro _ _ ⟨rfl,rfl⟩
 refine BC (Ls:=[(Aw bb (vP bb 0) nS)]) (Ls':=[(Aw bb (vP bb 0) nS)]) [0] rfl rfl<|Ah<|BW (fun tt ll=>(IN N n  =some r)∧Is [(0,vP bb 0),(1,vI n)] (Aw bb (vP bb 0) nS) tt ll) ?_ ?_
 ·refine AZ rfl<|aD a rfl (fun c a=> ?_) (fun c a=> ?_)
  ·refine An<|rn 1 rfl ?_
   cases a
  refine Ac<|fg _ (Sub.of (suK _ suN)) ?_
  exact⟨a,Aj rfl rfl⟩
 clear a;rintro t l ⟨a,⟨T,rfl⟩,rfl⟩
 unfold IN at a
 refine Ae fun p g=>Js [] (by decide+kernel) (fun q=>AW)<|rm 4 [0] rfl<|r_W (vI 0) rfl (Uq rfl rfl rfl)<|rm 4 [0] rfl<|rL (.inl ⟨rfl,rfl⟩) rfl<|kC a fun h a=>rX h rfl<|rz rfl<|g _ _ ?_
 refine aD a rfl (fun i a=> ?_) (fun i a=> ?_)
 ·refine An<|rn 2 rfl<|kB a fun s j a=>gM (Ls:=[(Aw bb (vP bb 0) nS)]) (FL:=[(Aw bb (vP bb 0) nS)]) [0] (cF Wj) (fun o w hn_ z_=>RN N n _ j _ bb) ?_
  rintro _ _ ⟨d,b,_,k,⟨rfl,rfl⟩,rfl⟩
  refine BC (Ls:=[b,(Aw bb (vP bb 0) d)]) (Ls':=[(Aw bb (vP bb 0) d),b]) [1,0] rfl rfl<|Ah ?_
  cases a
  refine Oo (v0:=vT #[]) (O:=[b,(Aw bb (vP bb 0) d)]) rfl (Sub.pick [(Aw bb (vP bb 0) d),b] [1,0] rfl) ⟨d,b,_,k,⟨rfl,rfl⟩,rfl⟩
 refine Ac ?_
 cases a
 refine Oo (v0:=vT #[]) (O:=[[],(Aw bb (vP bb 0) nS)]) rfl (Sub.pickE (Ls:=[(Aw bb (vP bb 0) nS),[]]) (Ls0:=[(Aw bb (vP bb 0) nS)]) rfl [1,0] rfl) ⟨nS,[],_,Sl.nil,⟨rfl,rfl⟩,rfl⟩
def Eg(N:Nat)(c:Int)(x1_:Bool):Option Int:=if x1_=true then some (IntKind.i32.wrap (c+32))else(Bq N c 1024 1039).bind fun r11=>if r11=true then some (IntKind.i32.wrap (c+80))else if c=962 then some 963 else some c
def JK(N:Nat)(c:Int):Option Int:=(FM N c).bind fun r4=>if r4=true then(Bq N c 65 90).bind fun r20=>if r20=true then Eg N c r20 else(Bq N c 192 222).bind fun r24=>if r24=true then Eg N c r24 else(Bq N c 913 937).bind fun r28=>if r28=true then Eg N c r28 else(Bq N c 1040 1071).bind fun r31=>Eg N c r31 else some c
theorem RR(N c r)(a:JK N c=some r):Gives prog 205 #[Value.int .i32 c] (Value.int .i32 r):=by
 unfold JK at a
 refine Ao follows func205 rfl 28 rfl _ fz1 (fun p=> ?_)
 refine AZ rfl<|Ae fun A q=>Am<|Aa<|rn 1 rfl<|kB a fun B s a=>rc _ (cF SV) (KL N c _ s)<|rz rfl<|Ai _ rfl (fun b=> ?_) (fun b=> ?_)
 ·replace a:=ifn (Bool.eq_false_iff.1 (Cd b)) a
  refine AZ rfl ?_
  cases a
  exact aR eE1
 replace a:=ifp (Ce b) a
 refine BW (fun tt ll=> ∃(d:Bool),(Eg N c d=some r)∧Is [(0,Value.int .i32 c),(8,vB d)] [] tt ll) ?_ ?_
 ·refine Aa<|rn 1 rfl<|kB a fun u e a=>rc _ (cF Ec) (BF N c 65 90 _ e)<|rz rfl<|aB a rfl (fun f a=> ?_) (fun f a=> ?_)
  ·refine Ac<|fg _ (Sub.of suN) ?_
   exact⟨u,a,Aj rfl rfl⟩
  refine Aa<|rn 1 rfl<|kB a fun v g a=>rc _ (cF Ec) (BF N c 192 222 _ g)<|rz rfl<|aB a rfl (fun h a=> ?_) (fun h a=> ?_)
  ·refine Ac<|fg _ (Sub.of suN) ?_
   exact⟨v,a,Aj rfl rfl⟩
  refine Aa<|rn 1 rfl<|kB a fun w i a=>rc _ (cF Ec) (BF N c 913 937 _ i)<|rz rfl<|aB a rfl (fun j a=> ?_) (fun j a=> ?_)
  ·refine Ac<|fg _ (Sub.of suN) ?_
   exact⟨w,a,Aj rfl rfl⟩
  refine An<|rn 1 rfl<|kB a fun x k a=>rc _ (cF Ec) (BF N c 1040 1071 _ k)<|rz rfl<|fg _ (Sub.of suN) ?_
  exact⟨x,a,Aj rfl rfl⟩
 clear a;rintro t l ⟨d,a,⟨T,rfl⟩,rfl⟩
 unfold Eg at a
 refine aB a rfl (fun y a=> ?_) (fun y a=> ?_)
 ·refine AZ rfl ?_
  cases a
  exact aR eE1
 refine Aa<|rn 1 rfl<|kB a fun z m a=>rc _ (cF Ec) (BF N c 1024 1039 _ m)<|rz rfl<|aB a rfl (fun n a=> ?_) (fun n a=> ?_)
 ·refine AZ rfl ?_
  cases a
  exact aR eE1
 refine AZ rfl<|aE a rfl (fun o a=> ?_) (fun o a=> ?_)
 ·refine AZ rfl ?_
  cases a
  exact aR eE1
 refine Ac<|q _ _ ?_
 refine AZ rfl ?_
 cases a
 exact aR eE1
def Ft(_:Nat)(b:List UInt8):Option (List UInt8):=some b
theorem LT(N b r)(c:Ft N b=some r)(ro:Ro)(bb:Nat)(bv:Value)(Sb:List Bl)(hb:Sl 5 encYs bv b Sb):Does prog 212 #[vP bb 0] ro (List.flatten [(Aw bb (Value.pointer none) bv),Sb]) (pO (List.flatten [(Aw bb (Value.pointer none) bv),Sb]) (oI 5 encYs bv r (oE (vT #[]) [(Aw bb (vP bb 0) bv)]))):=by
 unfold Ft at c
 refine BA follows func212 rfl 20 rfl _ fz1 (fun _ _ h_ _=>h_) (fun a=> ?_)
 refine AY [0] rfl<|Ai true rfl (fun _=> ?_) (fun h_=>nomatch h_)
 refine An<|rn 2 rfl<|cA 9 (p:=(pUp (fun v_ U_=>v_=vP bb 0∧U_=(Aw bb (Value.pointer none) bv))))<|UM (Ls:=[(Aw bb (Value.pointer none) bv),Sb]) (vP bb 0) 0 rfl rfl rfl rfl rfl (TY (TB:=311) (cs:= #[Value.pointer none,bv]) rfl rfl rfl rfl rfl rfl rfl (List.mem_singleton.2 rfl)) (fun _ _ _ _ _=>Iff.rfl)<|cA 10 (p:=(pUp (fun v_ U_=>v_=vP bb 0∧U_=(Aw bb (Value.pointer none) bv)))) ?_
 refine UM (Ls:=[(Aw bb (Value.pointer none) bv),Sb]) (vP bb 0) 0 rfl rfl rfl rfl rfl (fun w_ _=>Qm (args:= #[vP bb 0]) (e:=Extern.AbiNoEscape.same) (w':=w_) (Rm rfl) func220 (by kernel_rfl) (by kernel_rfl) (by kernel_rfl) (by kernel_rfl) rfl) (fun _ _ _ _ _=>Iff.rfl)<|cA 11 (p:=(pUp (fun v_ U_=>v_=vP bb 0∧U_=(Aw bb (Value.pointer none) bv))))<|UM (Ls:=[(Aw bb (Value.pointer none) bv),Sb]) (vP bb 0) 0 rfl rfl rfl rfl rfl (PL (TB:=311) (cs:= #[Value.pointer none,bv]) 2 rfl rfl rfl rfl rfl (List.mem_singleton.2 rfl) rfl (by kernel_rfl)) (fun _ _ _ _ _=>Iff.rfl)<|rn 2 rfl ?_
 refine ry [0] rfl ?_
 cases c
 refine Oo (v0:=vT #[]) (O:=[Sb,(Aw bb (vP bb 0) bv)]) rfl (Sub.pick [(Aw bb (vP bb 0) bv),Sb] [1,0] rfl) ⟨Sb,_,hb,⟨rfl,rfl⟩,rfl⟩
def XV(p:List UInt8)(r':Int)(x3_:Bool):Option (List UInt8):=if x3_=true then ck ((0:Int)≤((18#64).toNat:Int)) (ck ((0:Int)≤((12#64).toNat:Int)) (ck ((0:Int)≤((6#64).toNat:Int)) (ck ((p).length+([((240:UInt8)|||(AN (BL r' 18))),((128:UInt8)|||((AN (BL r' 12))&&&(63:UInt8))),((128:UInt8)|||((AN (BL r' 6))&&&(63:UInt8))),((128:UInt8)|||((AN r')&&&(63:UInt8)))]).length≤140737488355328) (some ((p++([((240:UInt8)|||(AN (BL r' 18))),((128:UInt8)|||((AN (BL r' 12))&&&(63:UInt8))),((128:UInt8)|||((AN (BL r' 6))&&&(63:UInt8))),((128:UInt8)|||((AN r')&&&(63:UInt8)))])))))))else ck ((p).length+([(239:UInt8),(191:UInt8),(189:UInt8)]).length≤140737488355328) (some (p++([(239:UInt8),(191:UInt8),(189:UInt8)])))
def Vk(p:List UInt8)(r':Int)(x1_:Bool):Option (List UInt8):=if x1_=true then ck ((0:Int)≤((12#64).toNat:Int)) (ck ((0:Int)≤((6#64).toNat:Int)) (ck ((p).length+([((224:UInt8)|||(AN (BL r' 12))),((128:UInt8)|||((AN (BL r' 6))&&&(63:UInt8))),((128:UInt8)|||((AN r')&&&(63:UInt8)))]).length≤140737488355328) (some ((p++([((224:UInt8)|||(AN (BL r' 12))),((128:UInt8)|||((AN (BL r' 6))&&&(63:UInt8))),((128:UInt8)|||((AN r')&&&(63:UInt8)))]))))))else if((((Fr r').toNat:Nat):Int):Int)>65535 then XV p r' (decide (((((Fr r').toNat:Nat):Int):Int)≤1114111))else XV p r' false
def uNm(_:Nat)(p:List UInt8)(r':Int):Option (List UInt8):=if((((Fr r').toNat:Nat):Int):Int)≤2047 then ck ((0:Int)≤((6#64).toNat:Int)) (ck ((p).length+([((192:UInt8)|||(AN (BL r' 6))),((128:UInt8)|||((AN r')&&&(63:UInt8)))]).length≤140737488355328) (some ((p++([((192:UInt8)|||(AN (BL r' 6))),((128:UInt8)|||((AN r')&&&(63:UInt8)))])))))else if((((Fr r').toNat:Nat):Int):Int)<55296 then Vk p r' (decide (((((Fr r').toNat:Nat):Int):Int)<55296))else if(57343:Int)<(((Fr r').toNat:Nat):Int)then Vk p r' (decide (((((Fr r').toNat:Nat):Int):Int)≤65535))else Vk p r' false
theorem uNg(N p r' r)(a:uNm N p r'=some r)(ro:Ro)(pv:Value)(Sp:List Bl)(hp:Sl 5 encYs pv p Sp):Does prog 222 #[pv,Value.int .i32 r'] ro (List.flatten [Sp]) (pO (List.flatten [Sp]) (oS 5 encYs r fun s_0=>(oE s_0 []))):=by
 unfold uNm at a
 refine BA follows func222 rfl 78 rfl _ fz2 (fun _ _ h_ _=>h_) (fun F=> ?_)
 refine AZ rfl<|Aa<|rn 1 rfl<|r_w (Value.int .u32 (((Fr r').toNat:Nat):Int)) rfl rfl (Tk r') (fun _=>rfl)<|rz rfl<|Am<|AZ rfl<|aD a rfl (fun G a=> ?_) (fun G a=> ?_)
 ·refine Aa<|rn 2 rfl<|kC a fun Y a=>r_W (Value.int .i32 (BL r' 6)) rfl (Kz (x:=r') 6 rfl rfl)<|r_w (Value.int .u8 ((((AN (BL r' 6)).toNat:Nat):Int))) rfl rfl (FK (BL r' 6)) (fun _=>rfl)<|r_X (Value.int .u8 (((((192:UInt8)|||(AN (BL r' 6))).toNat:Nat):Int))) rfl (RF (192:UInt8) (AN (BL r' 6))) rfl<|rn 1 rfl<|r_w (Value.int .u8 (((AN r').toNat:Nat):Int)) rfl rfl (FK r') (fun _=>rfl)<|r_X (Value.int .u8 (((((AN r')&&&(63:UInt8)).toNat:Nat):Int))) rfl (Qh (AN r') (63:UInt8)) rfl ?_
  refine r_X (Value.int .u8 (((((128:UInt8)|||((AN r')&&&(63:UInt8))).toNat:Nat):Int))) rfl (RF (128:UInt8) ((AN r')&&&(63:UInt8))) rfl<|gB (Ls:=[Sp]) 5 encY [((192:UInt8)|||(AN (BL r' 6))),((128:UInt8)|||((AN r')&&&(63:UInt8)))] (fun s7 H Z=> ?_)
  refine kC a fun d a=>cC 24<|KK (cs0:=[]) (Ls:=[Sp,H]) 0 (En:=encYs) rfl rfl rfl rfl rfl hp rfl (fun o w z_=>Iv ((Ar Z (Af (Ls:=[Sp,H]) (k:=1) rfl rfl)) o w z_)) rfl rfl rfl rfl rfl (KQ d rfl) (KP d rfl) rfl (fun y h I=> ?_)
  refine rz rfl ?_
  cases a
  refine AO (fun J=>Cw (v0:=y) (O:=[h]) (BP rfl) (Sub.pick [h,H] [0] rfl) ⟨y,h,_,I,⟨rfl,rfl⟩,rfl⟩)
 refine BW (fun tt ll=> ∃(i:Bool),(Vk p r' i=some r)∧Is [(0,pv),(1,Value.int .i32 r'),(5,Value.int .u32 (((Fr r').toNat:Nat):Int)),(25,vB i)] (List.flatten [Sp]) tt ll) ?_ ?_
 ·refine AZ rfl<|aD a rfl (fun z a=> ?_) (fun z a=> ?_)
  ·refine Ac<|fg _ (Sub.pick [Sp] [0] rfl) ?_
   exact⟨decide (((((Fr r').toNat:Nat):Int):Int)<55296),a,Aj rfl rfl⟩
  refine An<|rn 3 rfl ?_
  rcases b:(decide ((57343:Int)<(((Fr r').toNat:Nat):Int)))with _|_
  ·replace a:=iF b a
   refine rz rfl<|fg _ (Sub.pick [Sp] [0] rfl) ?_
   exact⟨false,a,Aj (by first|rfl|(simp only [b];done)|(simp only [b];rfl)|(simp only [CC];rfl)) rfl⟩
  replace a:=iD b a
  refine rz rfl<|fg _ (Sub.pick [Sp] [0] rfl) ?_
  exact⟨decide (((((Fr r').toNat:Nat):Int):Int)≤65535),a,Aj (by first|rfl|(simp only [b];done)|(simp only [b];rfl)|(simp only [CC];rfl)) rfl⟩
 clear a;rintro t l ⟨i,a,⟨T,rfl⟩,rfl⟩
 unfold Vk at a
 refine aB a rfl (fun A a=> ?_) (fun A a=> ?_)
 ·refine Aa<|rn 2 rfl<|kC a fun S a=>r_W (Value.int .i32 (BL r' 12)) rfl (Kz (x:=r') 12 rfl rfl)<|r_w (Value.int .u8 ((((AN (BL r' 12)).toNat:Nat):Int))) rfl rfl (FK (BL r' 12)) (fun _=>rfl)<|r_X (Value.int .u8 (((((224:UInt8)|||(AN (BL r' 12))).toNat:Nat):Int))) rfl (RF (224:UInt8) (AN (BL r' 12))) rfl<|rn 1 rfl<|kC a fun U a=>r_W (Value.int .i32 (BL r' 6)) rfl (Kz (x:=r') 6 rfl rfl)<|r_w (Value.int .u8 ((((AN (BL r' 6)).toNat:Nat):Int))) rfl rfl (FK (BL r' 6)) (fun _=>rfl)<|r_X (Value.int .u8 (((((AN (BL r' 6))&&&(63:UInt8)).toNat:Nat):Int))) rfl (Qh (AN (BL r' 6)) (63:UInt8)) rfl<|r_X (Value.int .u8 (((((128:UInt8)|||((AN (BL r' 6))&&&(63:UInt8))).toNat:Nat):Int))) rfl (RF (128:UInt8) ((AN (BL r' 6))&&&(63:UInt8))) rfl<|rn 1 rfl<|r_w (Value.int .u8 (((AN r').toNat:Nat):Int)) rfl rfl (FK r') (fun _=>rfl) ?_
  refine r_X (Value.int .u8 (((((AN r')&&&(63:UInt8)).toNat:Nat):Int))) rfl (Qh (AN r') (63:UInt8)) rfl<|r_X (Value.int .u8 (((((128:UInt8)|||((AN r')&&&(63:UInt8))).toNat:Nat):Int))) rfl (RF (128:UInt8) ((AN r')&&&(63:UInt8))) rfl<|cD 48 ?_
  refine FY (cs0:=[]) (Ls:=[Sp]) 5 encY [((224:UInt8)|||(AN (BL r' 12))),((128:UInt8)|||((AN (BL r' 6))&&&(63:UInt8))),((128:UInt8)|||((AN r')&&&(63:UInt8)))] [Value.int .u8 (((((224:UInt8)|||(AN (BL r' 12))).toNat:Nat):Int)),Value.int .u8 (((((128:UInt8)|||((AN (BL r' 6))&&&(63:UInt8))).toNat:Nat):Int)),Value.int .u8 (((((128:UInt8)|||((AN r')&&&(63:UInt8))).toNat:Nat):Int))] [Value.int .u8 0,Value.int .u8 0,Value.int .u8 0] rfl rfl rfl rfl rfl rfl rfl (by kernel_rfl) (by kernel_rfl) rfl rfl rfl (fun aa j K=> ?_)
  refine kC a fun e a=>cC 49<|KK (cs0:=[]) (Ls:=[Sp,j]) 0 (En:=encYs) rfl rfl rfl rfl rfl hp rfl (fun o w z_=>Iv ((Ar K (Af (Ls:=[Sp,j]) (k:=1) rfl rfl)) o w z_)) rfl rfl rfl rfl rfl (KQ e rfl) (KP e rfl) rfl (fun B m L=> ?_)
  refine rz rfl ?_
  cases a
  refine AO (fun J=>Cw (v0:=B) (O:=[m]) (BP rfl) (Sub.pick [m,j] [0] rfl) ⟨B,m,_,L,⟨rfl,rfl⟩,rfl⟩)
 refine BW (fun tt ll=> ∃(n:Bool),(XV p r' n=some r)∧Is [(0,pv),(1,Value.int .i32 r'),(50,vB n)] (List.flatten [Sp]) tt ll) ?_ ?_
 ·refine An<|rn 3 rfl ?_
  rcases c:(decide (((((Fr r').toNat:Nat):Int):Int)>65535))with _|_
  ·replace a:=iF c a
   refine rz rfl<|fg _ (Sub.pick [Sp] [0] rfl) ?_
   exact⟨false,a,Aj (by first|rfl|(simp only [c];done)|(simp only [c];rfl)|(simp only [CC];rfl)) rfl⟩
  replace a:=iD c a
  refine rz rfl<|fg _ (Sub.pick [Sp] [0] rfl) ?_
  exact⟨decide (((((Fr r').toNat:Nat):Int):Int)≤1114111),a,Aj (by first|rfl|(simp only [c];done)|(simp only [c];rfl)|(simp only [CC];rfl)) rfl⟩
 clear a;rintro t l ⟨n,a,⟨T,rfl⟩,rfl⟩
 unfold XV at a
 refine aB a rfl (fun C a=> ?_) (fun C a=> ?_)
 ·refine Aa<|rn 2 rfl<|kC a fun V a=>r_W (Value.int .i32 (BL r' 18)) rfl (Kz (x:=r') 18 rfl rfl)<|r_w (Value.int .u8 ((((AN (BL r' 18)).toNat:Nat):Int))) rfl rfl (FK (BL r' 18)) (fun _=>rfl)<|r_X (Value.int .u8 (((((240:UInt8)|||(AN (BL r' 18))).toNat:Nat):Int))) rfl (RF (240:UInt8) (AN (BL r' 18))) rfl<|rn 1 rfl<|kC a fun W a=>r_W (Value.int .i32 (BL r' 12)) rfl (Kz (x:=r') 12 rfl rfl)<|r_w (Value.int .u8 ((((AN (BL r' 12)).toNat:Nat):Int))) rfl rfl (FK (BL r' 12)) (fun _=>rfl)<|r_X (Value.int .u8 (((((AN (BL r' 12))&&&(63:UInt8)).toNat:Nat):Int))) rfl (Qh (AN (BL r' 12)) (63:UInt8)) rfl<|r_X (Value.int .u8 (((((128:UInt8)|||((AN (BL r' 12))&&&(63:UInt8))).toNat:Nat):Int))) rfl (RF (128:UInt8) ((AN (BL r' 12))&&&(63:UInt8))) rfl<|rn 1 rfl<|kC a fun X a=>r_W (Value.int .i32 (BL r' 6)) rfl (Kz (x:=r') 6 rfl rfl)<|r_w (Value.int .u8 ((((AN (BL r' 6)).toNat:Nat):Int))) rfl rfl (FK (BL r' 6)) (fun _=>rfl)<|r_X (Value.int .u8 (((((AN (BL r' 6))&&&(63:UInt8)).toNat:Nat):Int))) rfl (Qh (AN (BL r' 6)) (63:UInt8)) rfl<|r_X (Value.int .u8 (((((128:UInt8)|||((AN (BL r' 6))&&&(63:UInt8))).toNat:Nat):Int))) rfl (RF (128:UInt8) ((AN (BL r' 6))&&&(63:UInt8))) rfl<|rn 1 rfl<|r_w (Value.int .u8 (((AN r').toNat:Nat):Int)) rfl rfl (FK r') (fun _=>rfl) ?_
  refine r_X (Value.int .u8 (((((AN r')&&&(63:UInt8)).toNat:Nat):Int))) rfl (Qh (AN r') (63:UInt8)) rfl<|r_X (Value.int .u8 (((((128:UInt8)|||((AN r')&&&(63:UInt8))).toNat:Nat):Int))) rfl (RF (128:UInt8) ((AN r')&&&(63:UInt8))) rfl<|cD 76 ?_
  refine FY (cs0:=[]) (Ls:=[Sp]) 5 encY [((240:UInt8)|||(AN (BL r' 18))),((128:UInt8)|||((AN (BL r' 12))&&&(63:UInt8))),((128:UInt8)|||((AN (BL r' 6))&&&(63:UInt8))),((128:UInt8)|||((AN r')&&&(63:UInt8)))] [Value.int .u8 (((((240:UInt8)|||(AN (BL r' 18))).toNat:Nat):Int)),Value.int .u8 (((((128:UInt8)|||((AN (BL r' 12))&&&(63:UInt8))).toNat:Nat):Int)),Value.int .u8 (((((128:UInt8)|||((AN (BL r' 6))&&&(63:UInt8))).toNat:Nat):Int)),Value.int .u8 (((((128:UInt8)|||((AN r')&&&(63:UInt8))).toNat:Nat):Int))] [Value.int .u8 0,Value.int .u8 0,Value.int .u8 0,Value.int .u8 0] rfl rfl rfl rfl rfl rfl rfl (by kernel_rfl) (by kernel_rfl) rfl rfl rfl (fun ab q M=> ?_)
  refine kC a fun f a=>cC 77<|KK (cs0:=[]) (Ls:=[Sp,q]) 0 (En:=encYs) rfl rfl rfl rfl rfl hp rfl (fun o w z_=>Iv ((Ar M (Af (Ls:=[Sp,q]) (k:=1) rfl rfl)) o w z_)) rfl rfl rfl rfl rfl (KQ f rfl) (KP f rfl) rfl (fun D s P=> ?_)
  refine rz rfl ?_
  cases a
  refine AO (fun J=>Cw (v0:=D) (O:=[s]) (BP rfl) (Sub.pick [s,q] [0] rfl) ⟨D,s,_,P,⟨rfl,rfl⟩,rfl⟩)
 refine Aa<|rn 1 rfl<|gB (Ls:=[Sp]) 5 encY [(239:UInt8),(191:UInt8),(189:UInt8)] (fun ac u Q=> ?_)
 refine kC a fun g a=>cC 10<|KK (cs0:=[]) (Ls:=[Sp,u]) 0 (En:=encYs) rfl rfl rfl rfl rfl hp rfl (fun o w z_=>Iv ((Ar Q (Af (Ls:=[Sp,u]) (k:=1) rfl rfl)) o w z_)) rfl rfl rfl rfl rfl (KQ g rfl) (KP g rfl) rfl (fun E v R=> ?_)
 refine rz rfl ?_
 cases a
 refine AO (fun J=>Cw (v0:=E) (O:=[v]) (BP rfl) (Sub.pick [v,u] [0] rfl) ⟨E,v,_,R,⟨rfl,rfl⟩,rfl⟩)
def Qk(N:Nat)(p:List UInt8)(r':Int):Option (List UInt8):=if((((Fr r').toNat:Nat):Int):Int)≤127 then ck ((p).length+([(AN r')]).length≤140737488355328) (some (p++([(AN r')])))else(uNm N p r').bind fun r14=>some r14
theorem Vl(N p r' r)(b:Qk N p r'=some r)(ro:Ro)(pv:Value)(Sp:List Bl)(hp:Sl 5 encYs pv p Sp):Does prog 214 #[pv,Value.int .i32 r'] ro (List.flatten [Sp]) (pO (List.flatten [Sp]) (oS 5 encYs r fun s_0=>(oE s_0 []))):=by
 unfold Qk at b
 refine BA follows func214 rfl 16 rfl _ fz2 (fun _ _ h_ _=>h_) (fun h=> ?_)
 refine AZ rfl<|Ae fun u i=>Aa<|rn 1 rfl<|r_w (Value.int .u32 (((Fr r').toNat:Nat):Int)) rfl rfl (Tk r') (fun _=>rfl)<|rz rfl<|aD b rfl (fun j b=> ?_) (fun j b=> ?_)
 ·refine Aa<|rn 2 rfl<|r_w (Value.int .u8 (((AN r').toNat:Nat):Int)) rfl rfl (FK r') (fun _=>rfl)<|gB (Ls:=[Sp]) 5 encY [(AN r')] (fun v l q=> ?_)
  refine kC b fun d b=>cC 12<|KK (cs0:=[]) (Ls:=[Sp,l]) 0 (En:=encYs) rfl rfl rfl rfl rfl hp rfl (fun o w z_=>Iv ((Ar q (Af (Ls:=[Sp,l]) (k:=1) rfl rfl)) o w z_)) rfl rfl rfl rfl rfl (KQ d rfl) (KP d rfl) rfl (fun e c m=> ?_)
  refine rz rfl ?_
  cases b
  refine AO (fun s=>Cw (v0:=e) (O:=[c]) (BP rfl) (Sub.pick [c,l] [0] rfl) ⟨e,c,_,m,⟨rfl,rfl⟩,rfl⟩)
 refine Ac<|i _ _ ?_
 refine Aa<|rn 2 rfl<|kB b fun t f b=>gM (Ls:=[Sp]) (FL:=[Sp]) [0] (cF Wh) (fun o w hn_ z_=>uNg N p r' _ f _ pv Sp hp) ?_
 rintro g _ ⟨_,a,_,n,⟨rfl,rfl⟩,rfl⟩
 refine BC (Ls:=[a]) (Ls':=[a]) [0] rfl rfl<|rz rfl ?_
 cases b
 refine AO (fun s=>Cw (v0:=g) (O:=[a]) (BP rfl) (Sub.pick [a] [0] rfl) ⟨g,a,_,n,⟨rfl,rfl⟩,rfl⟩)
def It(N:Nat)(b:List UInt8)(r':Int):Option (Int×(List UInt8)):=(Ft N b).bind fun r3=>ck ((r3).length=(b).length) ((Qk N r3 r').bind fun r10=>ck ((R64 ((r10.length:Int) - (r3.length:Int)))) (some (((r10.length:Int) - (r3.length:Int)),r10)))
theorem LW(N b r' r)(d:It N b r'=some r)(ro:Ro)(bb:Nat)(bv:Value)(Sb:List Bl)(hb:Sl 5 encYs bv b Sb):Does prog 204 #[vP bb 0,Value.int .i32 r'] ro (List.flatten [(Aw bb (Value.pointer none) bv),Sb]) (pO (List.flatten [(Aw bb (Value.pointer none) bv),Sb]) (oS 5 encYs r.2 fun s_0=>(oE (vT #[vI r.1,Value.nilIface]) [(Aw bb (vP bb 0) s_0)]))):=by
 unfold It at d
 refine BA follows func204 rfl 30 rfl _ fz2 (fun _ _ h_ _=>h_) (fun j=> ?_)
 refine AZ rfl<|Aa<|rn 1 rfl<|kB d fun k l d=>kC d fun n d=>gM (Ls:=[(Aw bb (Value.pointer none) bv),Sb]) (FL:=[(Aw bb (Value.pointer none) bv),Sb]) [0,1] (cF OG) (fun o w hn_ z_=>LT N b _ l _ bb bv Sb hb) ?_
 rintro _ _ ⟨f,_,m,⟨rfl,rfl⟩,rfl⟩
 refine BC (Ls:=[f,(Aw bb (vP bb 0) bv)]) (Ls':=[(Aw bb (vP bb 0) bv),f]) [1,0] rfl rfl<|Ah<|Aa<|rm 4 [0] rfl<|rL (Sl.shp m) rfl<|rz rfl<|Aa<|rm 6 [0] rfl<|kB d fun g h d=>gM (Ls:=[(Aw bb (vP bb 0) bv),f]) (FL:=[f]) [1] (cF SN) (fun o w hn_ z_=>Vl N k r' _ h _ bv f m) ?_
 rintro c _ ⟨_,a,_,e,⟨rfl,rfl⟩,rfl⟩
 refine BC (Ls:=[(Aw bb (vP bb 0) bv),a]) (Ls':=[(Aw bb (vP bb 0) bv),a]) [0,1] rfl rfl<|rn 2 rfl<|r_s (List.flatten [(Aw bb (vP bb 0) c),a]) 0 _ _ _ _ _ (#[vP bb 0,c]) rfl rfl rfl (BZ rfl (Sl.shp e)) (.ofS rfl rfl (Ad (Shp.one (Sl.shp e)) Bf)) rfl rfl<|Ah<|Aa<|rm 4 [0] rfl<|rL (Sl.shp e) rfl<|rn 1 rfl<|kC d fun i d=>rX i rfl<|rz rfl<|Cx [(4,vI ((g.length:Int) - (k.length:Int))),(5,Value.nilIface)] rfl (fun T=> ?_)
 cases d
 refine AO (fun p=>Cw (v0:=vT #[vI ((g.length:Int) - (k.length:Int)),Value.nilIface]) (O:=[a,(Aw bb (vP bb 0) c)]) (Iu rfl rfl) (Sub.pick [(Aw bb (vP bb 0) c),a] [1,0] rfl) ⟨c,a,_,e,⟨rfl,rfl⟩,rfl⟩)
end Go.Proofs.YtajdpjdejpcgnaaGreatDoor
