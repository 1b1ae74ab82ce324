/- What is proved: the second form's card of FlowSteps: for every input of small bulk the law returns true. Conditions: none but the card's own. -/
import Derived.Test.YthmpbldidnmenaaGreatDoorCjFlowSteps
import Derived.Test.YthmpbldidnmenaaGreatDoorWj
import Derived.Test.YthmpbldidnmenaaGreatDoorWy
import Derived.Test.YthmpbldidnmenaaGreatDoorLz
import Derived.Test.YthmpbldidnmenaaGreatDoorTie
import Derived.Test.YthmpbldidnmenaaGreatDoorCards
import Derived.LaidMore
import Derived.OpenShut
import Derived.Stop.Joined
import Derived.SevenTiedAt
import Derived.ChangeMaps5
import Derived.Deep.DeepHandedRow
import Derived.JoinedCond
namespace Go.Proofs.YthmpbldidnmenaaGreatDoor
open Go Go.RowKit Go.Eng Go.ChangeShapes Go.WideShapes Go.ChangeAt Go.Joins Go.Deep Go.WideMaps Go.WideElems
theorem own:ownKnob Tryz.prog.godebug=none:=by kernel_rfl
theorem nQ:laidOutB Tryz.prog=true:=by kernel_rfl
def ab:List (String×DataW Unit):=[("shunter/image.metaWidths",Rows.laid_shunter_image_metaWidths)]
theorem jm(os:Os)(args:Array Value):laidMetH Tryz.prog ab ((World.doorLaid Tryz.prog 6000 os).forCall (fun _ _=>0) ⟨#[],args,[]⟩).memory:=
 laidMetH_of_parts3 (fuel:=8) (laidMet_of_run' 8 (by kernel_rfl) (by kernel_rfl)) (by kernel_rfl) (by kernel_rfl)
set_option maxRecDepth 100000 in
theorem QZ(H:Type)(enc:TypeId×Value→H)(W:World)(base:Nat)(args:Array Value)(ds gs:List (DataW H))(before:List MemPlace)
  (hval: ∀(j:Nat) t v,Tryz.f3.params[j]? =some t→args[j]? =some v→Value.okWide Tryz.prog W .any base t v)
  (hW:DataW.Whole enc Tryz.prog Tryz.f3.params.toList Rows.flowStepsSpec.vars false W args.toList ds gs before) (hsz:Rows.uptoBulkAll (ds++gs)≤1048576) (hL:laidMetH Tryz.prog ab W) (hsh:W.ShapedOpen Tryz.prog):
  Calls Tryz.prog 3 args W fun e W'=> ∃v,e= .returned v∧Rows.flowStepsSpec.post enc Tryz.prog Tryz.f3 false true false false W args v W':=by
 have hW':=hW
 obtain⟨p,q,hA0,hV,rfl,_,_⟩:=hW
 have hA:DataW.TrodAll enc Tryz.prog W 0 (fun _=>true) true Tryz.f3.params.toList args.toList ds p:=hA0
 rw [Tryz.params3] at hA hval
 obtain⟨v0,v1,v2,d0,d1,d2,p0,p1,p2,rfl,rfl,rfl,h0,h1,h2⟩:=trodAll_three hA
 obtain⟨rfl,rfl⟩:=trodVars_none hV
 obtain⟨c0,rfl,x0,z0,s0_0,s0_1,s0_2,s0_3,s0_4,s0_5,s0_6,s0_7,s0_8,s0_9,s0_10,s0_11,s0_12,s0_13,r0_0,r0_1,r0_2,r0_3,r0_4,r0_5,r0_6,r0_7,r0_8,r0_9,r0_10,r0_11,r0_12,r0_13,rfl⟩:=Th (Q:=fun cs=> ∃x:((List UInt8)×(List ((List UInt8)×(List (List UInt8×Int))×Int×Int×Int×Int))×(List (List UInt8×Int×Int))×(List (List UInt8×Int))×(List ((List UInt8)×(List (Int×Int))×(List (Int×Int×Int))×(List (Int×BitVec 128×Int×BitVec 128×Int))×Int))×(List ((List UInt8)×(List Int)×(List (Int×Int×Int×Int×BitVec 128))))×(List ((List UInt8)×Int×(List (Int×Int×Int))×(List Int)×Int×(List (Int×BitVec 128))×Int))×(List (Int×Int×(List (Int×Int×Int×Int×BitVec 128))×(List (Int×BitVec 128))×Int×Int))×(List (Int×Int×(List (Int×Int×Int×Int×BitVec 128))×(List (Int×BitVec 128))×Int×Int))×(List Int)×(List (Int×Int))×(List (Int×Int))×(List (List UInt8×Int×Int))×(List (List UInt8×Int))×(List (List UInt8×Int×Int×Int))×Int×Int×Int),(Z35 x)∧encr_35.R (fun a=>W.cell? a) x cs) (P:=Tryz.prog) (t:=35) rfl (hval 0 35 v0 rfl rfl) h0 (Ye hsz (j:=0) rfl) (fun _ _ _ hh hz=>qH hh hz)
 obtain⟨c1,rfl,x1,z1,rfl⟩:=Th (Q:=fun cs=> ∃x:(Int×Int×Int×Int×BitVec 128),(Z41 x)∧cs=Ac9.f x) (P:=Tryz.prog) (t:=41) rfl (hval 1 41 v1 rfl rfl) h1 (Ye hsz (j:=1) rfl) (fun _ _ _ hh hz=>gO hh hz)
 obtain⟨c2,rfl,x2_0,x2_1,x2_2,z2,rfl⟩:=di (Q:=fun cs=> ∃n0 n1 n2:Int,((-9223372036854775808≤(n0:Int)∧(n0:Int)≤9223372036854775807)∧(-9223372036854775808≤(n1:Int)∧(n1:Int)≤9223372036854775807)∧(-9223372036854775808≤(n2:Int)∧(n2:Int)≤9223372036854775807))∧cs=[.int .i64 n0, .int .i64 n1, .int .i64 n2]) (P:=Tryz.prog) (t:=42) rfl (hval 2 42 v2 rfl rfl) h2 (Ye hsz (j:=2) rfl) (fun _ _ _ hh hz=>qF hh hz)
 refine(dc (LC 20000001 x0 x1.1 x1.2.1 x1.2.2.1 x1.2.2.2.1 x1.2.2.2.2 x2_0 x2_1 x2_2 true (Vh (im x0 z0) (mW x0 z0) x1.1 x1.2.1 x1.2.2.1 x1.2.2.2.1 x1.2.2.2.2 x2_0 x2_1 x2_2) (fun a=>W.cell? a) (s0_0,s0_1,s0_2,s0_3,s0_4,s0_5,s0_6,s0_7,s0_8,s0_9,s0_10,s0_11,s0_12,s0_13) ⟨r0_0,r0_1,r0_2,r0_3,r0_4,r0_5,r0_6,r0_7,r0_8,r0_9,r0_10,r0_11,r0_12,r0_13⟩) (nJ hL hsh)).mono fun e W' ⟨he,hb⟩=> ?_
 subst he
 exact⟨_,rfl,iA (f:=Tryz.f3) nQ (by kernel_rfl) rfl (by rfl) rfl hW' rfl hb⟩
theorem TD(os:Os){H:Type}(enc:TypeId×Value→H):(DataW.whole enc Tryz.prog ((World.doorLaid Tryz.prog 6000 os).forCall (fun _ _=>0) ⟨#[], #[.agg #[.string ⟨#[]⟩, .slice none 0 0, .slice none 0 0, .slice none 0 0, .slice none 0 0, .slice none 0 0, .slice none 0 0, .slice none 0 0, .slice none 0 0, .slice none 0 0, .slice none 0 0, .slice none 0 0, .slice none 0 0, .slice none 0 0, .slice none 0 0, .int .i64 0, .int .i64 0, .int .i64 0], .agg #[.int .i64 0, .int .i64 0, .int .i64 0, .int .i64 0, .int .u64 0, .int .u64 0], .agg #[.int .i64 0, .int .i64 0, .int .i64 0]],[]⟩).memory Tryz.f3.params.toList Rows.flowStepsSpec.vars false #[.agg #[.string ⟨#[]⟩, .slice none 0 0, .slice none 0 0, .slice none 0 0, .slice none 0 0, .slice none 0 0, .slice none 0 0, .slice none 0 0, .slice none 0 0, .slice none 0 0, .slice none 0 0, .slice none 0 0, .slice none 0 0, .slice none 0 0, .slice none 0 0, .int .i64 0, .int .i64 0, .int .i64 0], .agg #[.int .i64 0, .int .i64 0, .int .i64 0, .int .i64 0, .int .u64 0, .int .u64 0], .agg #[.int .i64 0, .int .i64 0, .int .i64 0]].toList 8).isSome=true:=by kernel_rfl
set_option maxRecDepth 100000 in
theorem flowStepsUpto_lifted(os:Os)(started:os.Started)(H:Type)(enc:TypeId×Value→H)(F:Stop.Interp):
  ReturnsInHanded {} Tryz.checked os 3 .any ((Rows.OpenSpec.upto Rows.flowStepsSpec).preRow enc Tryz.prog Tryz.f3 Rows.flowStepsUptoRow.domain false Rows.flowStepsUptoRow.laid) (((Rows.OpenSpec.upto Rows.flowStepsSpec).at F).post enc Tryz.prog Tryz.f3 false true false false):=by
 refine returnsInHanded_of_row (C:=Tryz.checked) (s:=(Rows.OpenSpec.upto Rows.flowStepsSpec)) own started (by kernel_rfl) Tryz.func3
  ⟨World.doorLaid Tryz.prog 6000 os,fun _ _=>0,⟨#[], #[.agg #[.string ⟨#[]⟩, .slice none 0 0, .slice none 0 0, .slice none 0 0, .slice none 0 0, .slice none 0 0, .slice none 0 0, .slice none 0 0, .slice none 0 0, .slice none 0 0, .slice none 0 0, .slice none 0 0, .slice none 0 0, .slice none 0 0, .slice none 0 0, .int .i64 0, .int .i64 0, .int .i64 0], .agg #[.int .i64 0, .int .i64 0, .int .i64 0, .int .i64 0, .int .u64 0, .int .u64 0], .agg #[.int .i64 0, .int .i64 0, .int .i64 0]],[]⟩,rfl,World.shaped_of_RefB (by kernel_rfl) (by kernel_rfl),rfl,(Input.okWide_of_okWideB (by kernel_rfl)).2,
   OpenSpec.preRow_of_cond 8 (Option.eq_some_of_isSome (TD os enc)) (by kernel_rfl) (fun k hk=>by cases hk;kernel_rfl) (by kernel_rfl) (jm os _),by
    simp only [Assume.holds]
    exact⟨by simp,by simp,fun _=>Modest.zero,by simp,by simp⟩⟩ ?_
 intro W base args ds gs before hval hW _ hk _ hL hsh _
 exact QZ H enc W base args ds gs before hval hW (zd (hk _ rfl)) hL hsh
theorem flowStepsUpto_holds:Rows.FlowStepsUptoSaid:=
 OpenClaim.holds_of_cond 3 Tryz.f3 rfl rfl rfl rfl rfl rfl rfl ⟨rfl,rfl,rfl,rfl,rfl⟩ rfl rfl rfl rfl rfl (by kernel_rfl) Tryz.func3 flowSteps_closed
  (zd (by kernel_rfl)) (by unfold Func.isWrapper;first|(rw [if_pos (by decide+kernel)];kernel_rfl)|(rw [if_neg (by decide+kernel)];exact⟨rfl,rfl⟩))
  (fun os started H enc _ F=>by rw [OpenClaim.pre_eq_preRow];exact flowStepsUpto_lifted os started H enc F)
theorem flowStepsUpto_card:Rows.FlowStepsUptoCardSaid:=
 Claim7.holds_tied_plain_at .later [] [.data] true (true, "26f1b180b8da9fd0d44c315248a37657767c267873e21d754f316c187b3e366f") true
  flowStepsUpto_holds (fun _ h=>by cases h) (by kernel_rfl) (fun _ h=>by cases h) flowStepsUpto_row_tie rfl ⟨rfl,rfl⟩ (by kernel_rfl) rfl
  (fun f fn hf hfn=>by
   obtain rfl:f=3:=q1 ((show Tryz.prog.funcNamed "shunter/shunterlaw15.FlowSteps"=some 3 by kernel_rfl).symm.trans hf)|>.symm
   obtain rfl:fn=Tryz.f3:=(q1 (Tryz.func3.symm.trans hfn)).symm
   exact⟨by kernel_rfl,fun j t ht=>by
    rw [Tryz.params3] at ht
    have hm:t∈ [35,41,42]:=by simpa using Array.mem_of_getElem? ht
    have hall:([35,41,42].all fun u=> !Tryz.prog.wantsStandIn u)=true:=by kernel_rfl
    exact(show Tryz.prog.wantsStandIn t=false by simpa using List.all_eq_true.1 hall t hm)⟩)
  (by kernel_rfl)
end Go.Proofs.YthmpbldidnmenaaGreatDoor
