/- What is proved: the card of FlowSets: for every input the law returns true. Conditions: none but the card's own (package variables are laid as the program's text says). -/
import Derived.Test.YtajdpjdejpcgnaaGreatDoorCjFlowSets
import Derived.Test.YtajdpjdejpcgnaaGreatDoorFm
import Derived.Test.YtajdpjdejpcgnaaGreatDoorLw
import Derived.Test.YtajdpjdejpcgnaaGreatDoorTie
import Derived.Test.YtajdpjdejpcgnaaGreatDoorCards
import Derived.LaidMore
import Derived.OpenShut
import Derived.Stop.Joined
import Derived.SevenTiedAt
import Derived.ChangeMaps5
namespace Go.Proofs.YtajdpjdejpcgnaaGreatDoor
open Go Go.RowKit Go.Eng Go.ChangeShapes Go.WideShapes Go.ChangeAt Go.Joins Go.Deep Go.WideMaps Go.WideElems
theorem own:ownKnob Tryz.prog.godebug=none:=by kernel_rfl
theorem Yq:laidOutB Tryz.prog=true:=by kernel_rfl
def Lw:List (String×DataW Unit):=[("shunter/image.metaWidths",Rows.laid_shunter_image_metaWidths)]
theorem VZ(os:Os)(args:Array Value):laidMetH Tryz.prog Lw ((World.doorLaid Tryz.prog 6000 os).forCall (fun _ _=>0) ⟨#[],args,[]⟩).memory:=
 laidMetH_of_parts3 (fuel:=8) (laidMet_of_run' 8 (by kernel_rfl) (by kernel_rfl)) (by kernel_rfl) (by kernel_rfl)
set_option maxRecDepth 100000 in
theorem flowSets_lifted(os:Os)(started:os.Started)(H:Type)(enc:TypeId×Value→H):
  ReturnsInHanded {} Tryz.checked os 3 .any (fun w args=>(Rows.flowSetsSpec.pre enc Tryz.prog Tryz.f3 [] false w args∧laidMetH Tryz.prog Lw w)∧sizedMet enc Tryz.prog Tryz.f3 (OpenSpec.ofChange Rows.flowSetsSpec) false w args)
   (Rows.flowSetsSpec.post enc Tryz.prog Tryz.f3 false true false false):=by
 refine Jv (C:=Tryz.checked) (X:=fun w _=>laidMetH Tryz.prog Lw w) (fun _ _ _ hh h=>h.of_heap hh) own started (by kernel_rfl) Tryz.func3
  (ChangeSpec.witness_shaped (enc:=enc) (C:=Tryz.checked) (os:=os) (X:=fun w _=>laidMetH Tryz.prog Lw w) false (World.doorLaid Tryz.prog 6000 os) #[.int .u64 0, .int .u64 0, .int .i64 0] 8 rfl (World.shaped_of_RefB (by kernel_rfl) (by kernel_rfl)) (by kernel_rfl) (by kernel_rfl) (by kernel_rfl) (VZ os _)) ?_
 intro W base args ds gs before hval0 hW hsh hL hsz0
 have hsz:(DataW.weightsEach Tryz.prog (Tryz.f3.params.toList++Rows.flowSetsSpec.plain.varTypes Tryz.prog) (ds++gs)).all (·≤reachBytes)=true:=hsz0
 have hval: ∀(j:Nat) t v,Tryz.f3.params[j]? =some t→args[j]? =some v→Value.okWide Tryz.prog W .any base t v:=hval0
 have hW':=hW
 obtain⟨p,q,hA0,hV,rfl,_,_⟩:=hW
 have hA:DataW.TrodAll enc Tryz.prog W 0 (fun _=>true) true Tryz.f3.params.toList args.toList ds p:=hA0
 rw [Tryz.params3] at hA hval hsz
 obtain⟨v0,v1,v2,d0,d1,d2,p0,p1,p2,rfl,rfl,rfl,h0,h1,h2⟩:=trodAll_three hA
 obtain⟨rfl,rfl⟩:=trodVars_none hV
 obtain⟨a0,rfl,rfl,rfl,wa0⟩:=open_int (P:=Tryz.prog) (t:=22) rfl (hval 0 22 v0 rfl rfl) h0
 obtain⟨x0,rfl⟩:=PE wa0
 obtain⟨a1,rfl,rfl,rfl,wa1⟩:=open_int (P:=Tryz.prog) (t:=22) rfl (hval 1 22 v1 rfl rfl) h1
 obtain⟨x1,rfl⟩:=PE wa1
 obtain⟨x2,rfl,rfl,rfl,wa2⟩:=open_int (P:=Tryz.prog) (t:=3) rfl (hval 2 3 v2 rfl rfl) h2
 obtain⟨lo2,hi2⟩:=UT wa2
 refine(UY (fun ro=>Iq 1000 x0 x1 x2 true (PB x0 x1 x2) ro) W (Ym hL hsh)).mono fun e W' ⟨he,hb⟩=> ?_
 subst he
 exact⟨_,rfl,VH (f:=Tryz.f3) Yq (by kernel_rfl) rfl (by rfl) rfl hW' rfl hb⟩
theorem flowSets_holds:Rows.FlowSetsSaid:=
 OpenClaim.holds_of_wide 3 Tryz.f3 rfl rfl rfl rfl rfl rfl rfl ⟨rfl,rfl,rfl,rfl,rfl⟩ rfl rfl rfl rfl rfl (by kernel_rfl) Tryz.func3 flowSets_closed
  (of_decide_eq_true (by kernel_rfl)) (by unfold Func.isWrapper;first|(rw [if_pos (by decide+kernel)];kernel_rfl)|(rw [if_neg (by decide+kernel)];exact⟨rfl,rfl⟩))
  (fun os started H enc _=>flowSets_lifted os started H enc)
theorem flowSets_card:Rows.FlowSetsCardSaid:=
 Claim7.holds_tied_plain_at .later [] [.data] true (true, "68a4c2abc3ea0606b988af8a33199e9ec58f5d233c76acca5e1be39044edf695") true
  flowSets_holds (fun _ h=>by cases h) (by kernel_rfl) (fun _ h=>by cases h) flowSets_row_tie rfl ⟨rfl,rfl⟩ (by kernel_rfl) rfl
  (fun f fn hf hfn=>by
   obtain rfl:f=3:=Option.some.inj ((show Tryz.prog.funcNamed "shunter/shunterlaw15.FlowSets"=some 3 by kernel_rfl).symm.trans hf)|>.symm
   obtain rfl:fn=Tryz.f3:=(Option.some.inj (Tryz.func3.symm.trans hfn)).symm
   exact⟨by kernel_rfl,fun j t ht=>by
    rw [Tryz.params3] at ht
    have hm:t∈ [22,22,3]:=by simpa using Array.mem_of_getElem? ht
    have hall:([22,22,3].all fun u=> !Tryz.prog.wantsStandIn u)=true:=by kernel_rfl
    exact(show Tryz.prog.wantsStandIn t=false by simpa using List.all_eq_true.1 hall t hm)⟩)
  (by kernel_rfl)
end Go.Proofs.YtajdpjdejpcgnaaGreatDoor
