import Derived.Test.YtajdpjdejpcgnaaGreatDoorLFlowSets
import Derived.Test.YtajdpjdejpcgnaaGreatDoorFl
set_option linter.unusedSimpArgs false
set_option linter.unusedVariables false
set_option maxRecDepth 100000
namespace Go.Proofs.YtajdpjdejpcgnaaGreatDoor
open Go Go.RowKit Go.Eng
theorem Yp:CJ 1000=some true:=by decide+kernel
theorem bx(a:BitVec 64):Bm 1000 a (Dx a 64)=some true:=by
 have hl:=IL a 64
 have h1:ofB (0#64) (Dx a 64)=a:=RQ a _ fun t ht=>by rw [Nm];exact⟨fun h=>h.2,fun h=>⟨ht,h⟩⟩
 have h2:ofB (0#64) ([-1,64]++Dx a 64)=a:=RQ a _ fun t ht=>by
  rw [List.mem_append,Nm]
  constructor
  ·rintro(h|h)
   ·simp only [List.mem_cons,List.not_mem_nil,or_false] at h;omega
   ·exact h.2
  ·exact fun h=> .inr ⟨ht,h⟩
 unfold Bm
 rw [bm _ (by omega) (by omega),Option.bind_some,h1,if_pos rfl,fck (by simp only [List.length_cons,List.length_nil];omega),bm _ (by simp only [List.length_append,List.length_cons,List.length_nil];omega) (by omega),Option.bind_some,h2,if_pos rfl,Yp]
 rfl
theorem VJ(a:BitVec 64)(i:Nat)(hi:i<64)(rec:Bool→List Int→Int→Option Bool)(w:Bool):Bg a (Dx a i) (i:Int) rec w=rec w (Dx a (i+1)) ((i+1:Nat):Int):=by
 have hl:=IL a i
 unfold Bg
 rw [fck (by omega),Int.toNat_natCast,Mw]
 by_cases h:a.getLsbD i=true
 ·rw [if_pos h,if_pos h,fck (by simp only [List.length_cons,List.length_nil];omega),fck (by omega)];rfl
 ·rw [if_neg h,if_neg h,fck (by omega)];rfl
theorem ab(a b:BitVec 64)(slot:Int)(q:Bool)(m3 m4:BitVec 64)(hq:q=decide (0≤slot∧slot<64))(h4:a|||Fq slot=m4)(h3:a&&&~~~Fq slot=m3): ∀(j k i:Nat),j<k→i+j=64→AJ 1000 a b slot a b q m3 m4 k (II a b i) (Dx a i) (i:Int)=some true
 |0,k+1,i,_,hi=>by
  obtain rfl:i=64:=by omega
  have hl:=IL a 64
  rw [AJ,if_neg (by omega),aF (by omega),Option.bind_some,ag,Option.bind_some]
  have tl: ∀(m:BitVec 64),(Be 1000 m)=some m:=fun m=>Vw (by omega) m
  simp only [Vg,UH,Option.bind_some,tl,h3,h4,if_true,Yb (show 64<1000 by omega),Vf,ar _ (show(Dx a 64).length<1000 by omega) (Nat.le_refl 1000),bx,ne_eq,not_true_eq_false,if_false,show BU 1000 a b=some (a&&&b)from rfl]
  by_cases h:0≤slot∧slot<64
  ·rw [hq,decide_eq_true h,if_pos rfl,fck (by omega)]
   have e:(max 0 (min slot 63)).toNat=slot.toNat:=by omega
   rw [e];simp
  ·rw [hq,decide_eq_false h];simp
 |j+1,k+1,i,hk,hi=>by
  have hn:=ab a b slot q m3 m4 hq h4 h3 j k (i+1) (by omega) (by omega)
  have hi':i<64:=by omega
  rw [Qi] at hn
  rw [AJ,if_pos (by omega),VJ a i hi',VJ a i hi',VJ a i hi',Int.toNat_natCast]
  cases hw:II a b i with
  |false=>rw [hw,Bool.false_and] at hn;rw [if_neg (by simp)];exact hn
  |true=>
   rw [hw,Bool.true_and] at hn
   rw [if_pos rfl,fck (by omega)]
   cases ha:a.getLsbD i with
   |false=>rw [ha] at hn;rw [if_neg (by simp)];exact hn
   |true=>rw [ha] at hn;rw [if_pos rfl,fck (by omega)];exact hn
theorem bu(a b:BitVec 64)(slot:Int)(q:Bool)(m3 m4:BitVec 64)(hq:q=decide (0≤slot∧slot<64))(h4:a|||Fq slot=m4)(h3:a&&&~~~Fq slot=m3):BE 1000 a b slot a b q m3 m4=some true:=
 ab a b slot q m3 m4 hq h4 h3 64 1000 0 (by omega) rfl
theorem bw(a b:BitVec 64)(slot:Int)(q:Bool)(hq:q=decide (0≤slot∧slot<64)):Bp 1000 a b slot a b q=some true:=by
 unfold Bp
 by_cases h:0≤slot∧slot<64
 ·have e:(max 0 (min slot 63)).toNat=slot.toNat:=by omega
  rw [hq,decide_eq_true h,if_pos rfl,fck (by omega),fck (by omega),e]
  refine bu a b slot _ _ _ (by rw [decide_eq_true h]) ?_ ?_
  ·unfold Fq DB;rw [if_pos h,if_pos rfl]
  ·unfold Fq DB;rw [if_pos h,if_neg (by simp)]
 ·rw [hq,decide_eq_false h,if_neg (by simp)]
  refine bu a b slot _ _ _ (by rw [decide_eq_false h]) ?_ ?_
  ·unfold Fq;rw [if_neg h];simp
  ·unfold Fq;rw [if_neg h,show(~~~(0#64):BitVec 64)=BitVec.allOnes 64 from by decide+kernel,BitVec.and_allOnes]
theorem PB(a b:BitVec 64)(slot:Int):Ci 1000 a b slot=some true:=by
 unfold Ci
 rw [Vw (by omega),Option.bind_some,Vw (by omega),Option.bind_some]
 by_cases h:slot≥0
 ·rw [if_pos h];exact bw a b slot _ (by rw [Bool.eq_iff_iff];simp only [decide_eq_true_eq];omega)
 ·rw [if_neg h];exact bw a b slot _ (by rw [decide_eq_false (by omega)])
end Go.Proofs.YtajdpjdejpcgnaaGreatDoor
