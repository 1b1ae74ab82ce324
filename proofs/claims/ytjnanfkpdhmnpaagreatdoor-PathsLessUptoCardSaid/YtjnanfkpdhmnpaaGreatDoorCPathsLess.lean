/- What is proved: the second form's card of PathsLess: for every input of small bulk the law returns true. Conditions: none but the card's own. -/
import Derived.Test.YtjnanfkpdhmnpaaGreatDoorCjPathsLess
import Derived.Test.YtjnanfkpdhmnpaaGreatDoorLu
import Derived.Test.YtjnanfkpdhmnpaaGreatDoorWy
import Derived.Test.YtjnanfkpdhmnpaaGreatDoorLz
import Derived.Test.YtjnanfkpdhmnpaaGreatDoorTie
import Derived.Test.YtjnanfkpdhmnpaaGreatDoorCards
import Derived.LaidMore
import Derived.OpenShut
import Derived.Stop.Joined
import Derived.SevenTiedAt
import Derived.ChangeMaps5
import Derived.Deep.DeepHandedRow
import Derived.JoinedCond
namespace Go.Proofs.YtjnanfkpdhmnpaaGreatDoor
open Go Go.RowKit Go.Eng Go.ChangeShapes Go.WideShapes Go.ChangeAt Go.Joins Go.Deep Go.WideMaps Go.WideElems
theorem own:ownKnob Tryz.prog.godebug=none:=by kernel_rfl
theorem sD:laidOutB Tryz.prog=true:=by kernel_rfl
def cM:List (String×DataW Unit):=[("shunter/image.metaWidths",Rows.laid_shunter_image_metaWidths)]
theorem nC(os:Os)(args:Array Value):laidMetH Tryz.prog cM ((World.doorLaid Tryz.prog 6000 os).forCall (λ_ _=>0) ⟨#[],args,[]⟩).memory:=
 laidMetH_of_parts3 (fuel:=8) (laidMet_of_run' 8 (by kernel_rfl) (by kernel_rfl)) (by kernel_rfl) (by kernel_rfl)
set_option maxRecDepth 100000 in
theorem SA(H:Type)(enc:TypeId×Value->H)(W:World)(base:Nat)(args:Array Value)(ds gs:List (DataW H))(before:List MemPlace)(hval: ∀(j:Nat) t v,Tryz.f3.params[j]? =some t->args[j]? =some v->Value.okWide Tryz.prog W .any base t v)(hW:DataW.Whole enc Tryz.prog Tryz.f3.params.toList Rows.pathsLessSpec.vars false W args.toList ds gs before)(hsz:Rows.uptoBulkAll (ds++gs)<=1048576)(hL:laidMetH Tryz.prog cM W)(hsh:W.ShapedOpen Tryz.prog):
  Calls Tryz.prog 3 args W λe W'=> ∃v,e= .returned v/\Rows.pathsLessSpec.post enc Tryz.prog Tryz.f3 false true false false W args v W':=by
 have hW':=hW
 obtain⟨p,q,hA0,hV,rfl,_,_⟩:=hW
 have hA:DataW.TrodAll enc Tryz.prog W 0 (λ_=>true) true Tryz.f3.params.toList args.toList ds p:=hA0
 rw [Tryz.params3] at hA hval
 obtain⟨v0,v1,v2,d0,d1,d2,p0,p1,p2,rfl,rfl,rfl,h0,h1,h2⟩:=trodAll_three hA
 obtain⟨rfl,rfl⟩:=trodVars_none hV
 obtain⟨c0,rfl,x0,z0,s0_0,s0_1,s0_2,s0_3,s0_4,s0_5,s0_6,s0_7,s0_8,s0_9,s0_10,s0_11,s0_12,s0_13,r0_0,r0_1,r0_2,r0_3,r0_4,r0_5,r0_6,r0_7,r0_8,r0_9,r0_10,r0_11,r0_12,r0_13,rfl⟩:=eQ (Q:=λcs=> ∃x:((List UInt8)×(List ((List UInt8)×(List (List UInt8×Int))×Int×Int×Int×Int))×(List (List UInt8×Int×Int))×(List (List UInt8×Int))×(List ((List UInt8)×(List (Int×Int))×(List (Int×Int×Int))×(List (Int×BitVec 128×Int×BitVec 128×Int))×Int))×(List ((List UInt8)×(List Int)×(List (Int×Int×Int×Int×BitVec 128))))×(List ((List UInt8)×Int×(List (Int×Int×Int))×(List Int)×Int×(List (Int×BitVec 128))×Int))×(List (Int×Int×(List (Int×Int×Int×Int×BitVec 128))×(List (Int×BitVec 128))×Int×Int))×(List (Int×Int×(List (Int×Int×Int×Int×BitVec 128))×(List (Int×BitVec 128))×Int×Int))×(List Int)×(List (Int×Int))×(List (Int×Int))×(List (List UInt8×Int×Int))×(List (List UInt8×Int))×(List (List UInt8×Int×Int×Int))×Int×Int×Int),(Z35 x)/\encr_35.R (λa=>W.cell? a) x cs) (P:=Tryz.prog) (t:=35) Z (hval 0 35 v0 Z Z) h0 (gU hsz (j:=0) Z) (λ_ _ _ hh hz=>wk hh hz)
 obtain⟨x1,rfl,rfl,rfl⟩:=open_bool (P:=Tryz.prog) (t:=4) Z (hval 1 4 v1 Z Z) h1
 obtain⟨c2,rfl,x2,rfl⟩:=gz (Q:=λcs=> ∃x:BitVec 128,cs=[.int .u64 (hi x).toNat, .int .u64 (lo x).toNat]) (P:=Tryz.prog) (t:=37) Z (hval 2 37 v2 Z Z) h2 (gU hsz (j:=2) Z) (λ_ _ _ hh hz=>wj hh hz)
 refine(gl (NG 20000001 x0 x1 x2 true (VX (mF x0 z0) (rN x0 z0) x1 x2) (λa=>W.cell? a) (s0_0,s0_1,s0_2,s0_3,s0_4,s0_5,s0_6,s0_7,s0_8,s0_9,s0_10,s0_11,s0_12,s0_13) ⟨r0_0,r0_1,r0_2,r0_3,r0_4,r0_5,r0_6,r0_7,r0_8,r0_9,r0_10,r0_11,r0_12,r0_13⟩) (sx hL hsh)).mono λe W' ⟨he,hb⟩=> ?_
 subst he
 exact⟨_,Z,mN (f:=Tryz.f3) sD (by kernel_rfl) Z (by rfl) Z hW' Z hb⟩
theorem UO(os:Os){H:Type}(enc:TypeId×Value->H):(DataW.whole enc Tryz.prog ((World.doorLaid Tryz.prog 6000 os).forCall (λ_ _=>0) ⟨#[], #[.agg #[.string ⟨#[]⟩, .slice none 0 0, .slice none 0 0, .slice none 0 0, .slice none 0 0, .slice none 0 0, .slice none 0 0, .slice none 0 0, .slice none 0 0, .slice none 0 0, .slice none 0 0, .slice none 0 0, .slice none 0 0, .slice none 0 0, .slice none 0 0, .int .i64 0, .int .i64 0, .int .i64 0], .bool false, .agg #[.int .u64 0, .int .u64 0]],[]⟩).memory Tryz.f3.params.toList Rows.pathsLessSpec.vars false #[.agg #[.string ⟨#[]⟩, .slice none 0 0, .slice none 0 0, .slice none 0 0, .slice none 0 0, .slice none 0 0, .slice none 0 0, .slice none 0 0, .slice none 0 0, .slice none 0 0, .slice none 0 0, .slice none 0 0, .slice none 0 0, .slice none 0 0, .slice none 0 0, .int .i64 0, .int .i64 0, .int .i64 0], .bool false, .agg #[.int .u64 0, .int .u64 0]].toList 8).isSome=true:=by kernel_rfl
set_option maxRecDepth 100000 in
theorem pathsLessUpto_lifted(os:Os)(started:os.Started)(H:Type)(enc:TypeId×Value->H)(F:Stop.Interp):
  ReturnsInHanded {} Tryz.checked os 3 .any ((Rows.OpenSpec.upto Rows.pathsLessSpec).preRow enc Tryz.prog Tryz.f3 Rows.pathsLessUptoRow.domain false Rows.pathsLessUptoRow.laid) (((Rows.OpenSpec.upto Rows.pathsLessSpec).at F).post enc Tryz.prog Tryz.f3 false true false false):=by
 refine returnsInHanded_of_row (C:=Tryz.checked) (s:=(Rows.OpenSpec.upto Rows.pathsLessSpec)) own started (by kernel_rfl) Tryz.func3
  ⟨World.doorLaid Tryz.prog 6000 os,λ_ _=>0,⟨#[], #[.agg #[.string ⟨#[]⟩, .slice none 0 0, .slice none 0 0, .slice none 0 0, .slice none 0 0, .slice none 0 0, .slice none 0 0, .slice none 0 0, .slice none 0 0, .slice none 0 0, .slice none 0 0, .slice none 0 0, .slice none 0 0, .slice none 0 0, .slice none 0 0, .int .i64 0, .int .i64 0, .int .i64 0], .bool false, .agg #[.int .u64 0, .int .u64 0]],[]⟩,Z,World.shaped_of_RefB (by kernel_rfl) (by kernel_rfl),Z,(Input.okWide_of_okWideB (by kernel_rfl)).2,
   OpenSpec.preRow_of_cond 8 (Option.eq_some_of_isSome (UO os enc)) (by kernel_rfl) (λk hk=>by cases hk;kernel_rfl) (by kernel_rfl) (nC os _),by
    simp only [Assume.holds]
    exact⟨by simp,by simp,λ_=>Modest.zero,by simp,by simp⟩⟩ ?_
 intro W base args ds gs before hval hW _ hk _ hL hsh _
 exact SA H enc W base args ds gs before hval hW (zj (hk _ Z)) hL hsh
theorem pathsLessUpto_holds:Rows.PathsLessUptoSaid:=
 OpenClaim.holds_of_cond 3 Tryz.f3 Z Z Z Z Z Z Z ⟨Z,Z,Z,Z,Z⟩ Z Z Z Z Z (by kernel_rfl) Tryz.func3 pathsLess_closed
  (zj (by kernel_rfl)) (by unfold Func.isWrapper;first|(rw [if_pos (by decide+kernel)];kernel_rfl)|(rw [if_neg (by decide+kernel)];exact⟨Z,Z⟩))
  (λos started H enc _ F=>by rw [OpenClaim.pre_eq_preRow];exact pathsLessUpto_lifted os started H enc F)
theorem pathsLessUpto_card:Rows.PathsLessUptoCardSaid:=
 Claim7.holds_tied_plain_at .later [] [.data] true (true, "131f65b321a19ab5d3703fc69c1ba00a0c84ec8a29d88b972924e069f78db0e8") true
  pathsLessUpto_holds (λ_ h=>by cases h) (by kernel_rfl) (λ_ h=>by cases h) pathsLessUpto_row_tie Z ⟨Z,Z⟩ (by kernel_rfl) Z
  (λf fn hf hfn=>by
   obtain rfl:f=3:=q3 ((show Tryz.prog.funcNamed "shunter/shunterlaw17.PathsLess"=some 3 by kernel_rfl).symm.trans hf)|>.symm
   obtain rfl:fn=Tryz.f3:=(q3 (Tryz.func3.symm.trans hfn)).symm
   exact⟨by kernel_rfl,λj t ht=>by
    rw [Tryz.params3] at ht
    have hm:t∈ [35,4,37]:=by simpa using Array.mem_of_getElem? ht
    have hall:([35,4,37].all λu=> !Tryz.prog.wantsStandIn u)=true:=by kernel_rfl
    exact(show Tryz.prog.wantsStandIn t=false by simpa using List.all_eq_true.1 hall t hm)⟩)
  (by kernel_rfl)
end Go.Proofs.YtjnanfkpdhmnpaaGreatDoor
