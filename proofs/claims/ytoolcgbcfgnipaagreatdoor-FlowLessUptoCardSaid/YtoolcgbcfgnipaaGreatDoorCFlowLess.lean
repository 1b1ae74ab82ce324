/- What is proved: the second form's card of FlowLess: for every input of small bulk the law returns true. Conditions: none but the card's own. -/
import Derived.Test.YtoolcgbcfgnipaaGreatDoorCjFlowLess
import Derived.Test.YtoolcgbcfgnipaaGreatDoorLu
import Derived.Test.YtoolcgbcfgnipaaGreatDoorWy
import Derived.Test.YtoolcgbcfgnipaaGreatDoorLz
import Derived.Test.YtoolcgbcfgnipaaGreatDoorTie
import Derived.Test.YtoolcgbcfgnipaaGreatDoorCards
import Derived.LaidMore
import Derived.OpenShut
import Derived.Stop.Joined
import Derived.SevenTiedAt
import Derived.ChangeMaps5
import Derived.Deep.DeepHandedRow
import Derived.JoinedCond
namespace Go.Proofs.YtoolcgbcfgnipaaGreatDoor
open Go Go.RowKit Go.Eng Go.ChangeShapes Go.WideShapes Go.ChangeAt Go.Joins Go.Deep Go.WideMaps Go.WideElems
theorem own:ownKnob Tryz.prog.godebug=none:=by kernel_rfl
theorem pA:laidOutB Tryz.prog=true:=by kernel_rfl
def ar:List (String×DataW Unit):=[("shunter/image.metaWidths",Rows.laid_shunter_image_metaWidths)]
theorem kL(os:Os)(args:Array Value):laidMetH Tryz.prog ar ((World.doorLaid Tryz.prog 6000 os).forCall (fun _ _=>0) ⟨#[],args,[]⟩).memory:=
 laidMetH_of_parts3 (fuel:=8) (laidMet_of_run' 8 (by kernel_rfl) (by kernel_rfl)) (by kernel_rfl) (by kernel_rfl)
set_option maxRecDepth 100000 in
theorem RU(H:Type)(enc:TypeId×Value→H)(W:World)(base:Nat)(args:Array Value)(ds gs:List (DataW H))(before:List MemPlace)
  (hval: ∀(j:Nat) t v,Tryz.f3.params[j]? =some t→args[j]? =some v→Value.okWide Tryz.prog W .any base t v)
  (hW:DataW.Whole enc Tryz.prog Tryz.f3.params.toList Rows.flowLessSpec.vars false W args.toList ds gs before) (hsz:Rows.uptoBulkAll (ds++gs)≤1048576) (hL:laidMetH Tryz.prog ar W) (hsh:W.ShapedOpen Tryz.prog):
  Calls Tryz.prog 3 args W fun e W'=> ∃v,e= .returned v∧Rows.flowLessSpec.post enc Tryz.prog Tryz.f3 false true false false W args v W':=by
 have hW':=hW
 obtain⟨p,q,hA0,hV,rfl,_,_⟩:=hW
 have hA:DataW.TrodAll enc Tryz.prog W 0 (fun _=>true) true Tryz.f3.params.toList args.toList ds p:=hA0
 rw [Tryz.params3] at hA hval
 obtain⟨v0,v1,v2,d0,d1,d2,p0,p1,p2,rfl,rfl,rfl,h0,h1,h2⟩:=trodAll_three hA
 obtain⟨rfl,rfl⟩:=trodVars_none hV
 obtain⟨c0,rfl,x0,z0,s0_0,s0_1,s0_2,s0_3,s0_4,s0_5,s0_6,s0_7,s0_8,s0_9,s0_10,s0_11,s0_12,s0_13,r0_0,r0_1,r0_2,r0_3,r0_4,r0_5,r0_6,r0_7,r0_8,r0_9,r0_10,r0_11,r0_12,r0_13,rfl⟩:=cE (Q:=fun cs=> ∃x:((List UInt8)×(List ((List UInt8)×(List (List UInt8×Int))×Int×Int×Int×Int))×(List (List UInt8×Int×Int))×(List (List UInt8×Int))×(List ((List UInt8)×(List (Int×Int))×(List (Int×Int×Int))×(List (Int×BitVec 128×Int×BitVec 128×Int))×Int))×(List ((List UInt8)×(List Int)×(List (Int×Int×Int×Int×BitVec 128))))×(List ((List UInt8)×Int×(List (Int×Int×Int))×(List Int)×Int×(List (Int×BitVec 128))×Int))×(List (Int×Int×(List (Int×Int×Int×Int×BitVec 128))×(List (Int×BitVec 128))×Int×Int))×(List (Int×Int×(List (Int×Int×Int×Int×BitVec 128))×(List (Int×BitVec 128))×Int×Int))×(List Int)×(List (Int×Int))×(List (Int×Int))×(List (List UInt8×Int×Int))×(List (List UInt8×Int))×(List (List UInt8×Int×Int×Int))×Int×Int×Int),(Z35 x)∧encr_35.R (fun a=>W.cell? a) x cs) (P:=Tryz.prog) (t:=35) rfl (hval 0 35 v0 rfl rfl) h0 (XQ hsz (j:=0) rfl) (fun _ _ _ hh hz=>tf hh hz)
 obtain⟨x1,z1,r1⟩: ∃xs:List ((Int×Int×Int×Int×BitVec 128)),((xs).length≤1048576∧ ∀z0_∈(xs),(Z53 z0_))∧Rd Ac7 (fun a=>W.cell? a) v1 xs:=eh (Q:=fun v=> ∃xs:List ((Int×Int×Int×Int×BitVec 128)),((xs).length≤1048576∧ ∀z0_∈(xs),(Z53 z0_))∧Rd Ac7 (fun a=>W.cell? a) v xs) (P:=Tryz.prog) (t:=36) rfl (hval 1 36 v1 rfl rfl) h1 (XQ hsz (j:=1) rfl) (fun _ _ _ hh hz=>by obtain⟨s,xs,h1,h2,h3⟩:=du hh hz;exact⟨s,h1,xs,h2,h3⟩)
 obtain⟨c2,rfl,x2,rfl⟩:=ej (Q:=fun cs=> ∃x:BitVec 128,cs=[.int .u64 (hi x).toNat, .int .u64 (lo x).toNat]) (P:=Tryz.prog) (t:=38) rfl (hval 2 38 v2 rfl rfl) h2 (XQ hsz (j:=2) rfl) (fun _ _ _ hh hz=>te hh hz)
 refine(dW (MZ 20000001 x0 x1 x2 true (WM (jM x0 z0) (oL x0 z0) x1 z1.1 (Sa x1 z1) x2) (fun a=>W.cell? a) (s0_0,s0_1,s0_2,s0_3,s0_4,s0_5,s0_6,s0_7,s0_8,s0_9,s0_10,s0_11,s0_12,s0_13) ⟨r0_0,r0_1,r0_2,r0_3,r0_4,r0_5,r0_6,r0_7,r0_8,r0_9,r0_10,r0_11,r0_12,r0_13⟩ _ r1) (pu hL hsh)).mono fun e W' ⟨he,hb⟩=> ?_
 subst he
 exact⟨_,rfl,jV (f:=Tryz.f3) pA (by kernel_rfl) rfl (by rfl) rfl hW' rfl hb⟩
theorem Vr(os:Os){H:Type}(enc:TypeId×Value→H):(DataW.whole enc Tryz.prog ((World.doorLaid Tryz.prog 6000 os).forCall (fun _ _=>0) ⟨#[], #[.agg #[.string ⟨#[]⟩, .slice none 0 0, .slice none 0 0, .slice none 0 0, .slice none 0 0, .slice none 0 0, .slice none 0 0, .slice none 0 0, .slice none 0 0, .slice none 0 0, .slice none 0 0, .slice none 0 0, .slice none 0 0, .slice none 0 0, .slice none 0 0, .int .i64 0, .int .i64 0, .int .i64 0], .slice none 0 0, .agg #[.int .u64 0, .int .u64 0]],[]⟩).memory Tryz.f3.params.toList Rows.flowLessSpec.vars false #[.agg #[.string ⟨#[]⟩, .slice none 0 0, .slice none 0 0, .slice none 0 0, .slice none 0 0, .slice none 0 0, .slice none 0 0, .slice none 0 0, .slice none 0 0, .slice none 0 0, .slice none 0 0, .slice none 0 0, .slice none 0 0, .slice none 0 0, .slice none 0 0, .int .i64 0, .int .i64 0, .int .i64 0], .slice none 0 0, .agg #[.int .u64 0, .int .u64 0]].toList 8).isSome=true:=by kernel_rfl
set_option maxRecDepth 100000 in
theorem flowLessUpto_lifted(os:Os)(started:os.Started)(H:Type)(enc:TypeId×Value→H)(F:Stop.Interp):
  ReturnsInHanded {} Tryz.checked os 3 .any ((Rows.OpenSpec.upto Rows.flowLessSpec).preRow enc Tryz.prog Tryz.f3 Rows.flowLessUptoRow.domain false Rows.flowLessUptoRow.laid) (((Rows.OpenSpec.upto Rows.flowLessSpec).at F).post enc Tryz.prog Tryz.f3 false true false false):=by
 refine returnsInHanded_of_row (C:=Tryz.checked) (s:=(Rows.OpenSpec.upto Rows.flowLessSpec)) own started (by kernel_rfl) Tryz.func3
  ⟨World.doorLaid Tryz.prog 6000 os,fun _ _=>0,⟨#[], #[.agg #[.string ⟨#[]⟩, .slice none 0 0, .slice none 0 0, .slice none 0 0, .slice none 0 0, .slice none 0 0, .slice none 0 0, .slice none 0 0, .slice none 0 0, .slice none 0 0, .slice none 0 0, .slice none 0 0, .slice none 0 0, .slice none 0 0, .slice none 0 0, .int .i64 0, .int .i64 0, .int .i64 0], .slice none 0 0, .agg #[.int .u64 0, .int .u64 0]],[]⟩,rfl,World.shaped_of_RefB (by kernel_rfl) (by kernel_rfl),rfl,(Input.okWide_of_okWideB (by kernel_rfl)).2,
   OpenSpec.preRow_of_cond 8 (Option.eq_some_of_isSome (Vr os enc)) (by kernel_rfl) (fun k hk=>by cases hk;kernel_rfl) (by kernel_rfl) (kL os _),by
    simp only [Assume.holds]
    exact⟨by simp,by simp,fun _=>Modest.zero,by simp,by simp⟩⟩ ?_
 intro W base args ds gs before hval hW _ hk _ hL hsh _
 exact RU H enc W base args ds gs before hval hW (zd (hk _ rfl)) hL hsh
theorem flowLessUpto_holds:Rows.FlowLessUptoSaid:=
 OpenClaim.holds_of_cond 3 Tryz.f3 rfl rfl rfl rfl rfl rfl rfl ⟨rfl,rfl,rfl,rfl,rfl⟩ rfl rfl rfl rfl rfl (by kernel_rfl) Tryz.func3 flowLess_closed
  (zd (by kernel_rfl)) (by unfold Func.isWrapper;first|(rw [if_pos (by decide+kernel)];kernel_rfl)|(rw [if_neg (by decide+kernel)];exact⟨rfl,rfl⟩))
  (fun os started H enc _ F=>by rw [OpenClaim.pre_eq_preRow];exact flowLessUpto_lifted os started H enc F)
theorem flowLessUpto_card:Rows.FlowLessUptoCardSaid:=
 Claim7.holds_tied_plain_at .later [] [.data] true (true, "7c2f166c638ba25f6c276dc98409303dd723486a924a4b4c55a0744aa2c56f65") true
  flowLessUpto_holds (fun _ h=>by cases h) (by kernel_rfl) (fun _ h=>by cases h) flowLessUpto_row_tie rfl ⟨rfl,rfl⟩ (by kernel_rfl) rfl
  (fun f fn hf hfn=>by
   obtain rfl:f=3:=q1 ((show Tryz.prog.funcNamed "shunter/shunterlaw15.FlowLess"=some 3 by kernel_rfl).symm.trans hf)|>.symm
   obtain rfl:fn=Tryz.f3:=(q1 (Tryz.func3.symm.trans hfn)).symm
   exact⟨by kernel_rfl,fun j t ht=>by
    rw [Tryz.params3] at ht
    have hm:t∈ [35,36,38]:=by simpa using Array.mem_of_getElem? ht
    have hall:([35,36,38].all fun u=> !Tryz.prog.wantsStandIn u)=true:=by kernel_rfl
    exact(show Tryz.prog.wantsStandIn t=false by simpa using List.all_eq_true.1 hall t hm)⟩)
  (by kernel_rfl)
end Go.Proofs.YtoolcgbcfgnipaaGreatDoor
