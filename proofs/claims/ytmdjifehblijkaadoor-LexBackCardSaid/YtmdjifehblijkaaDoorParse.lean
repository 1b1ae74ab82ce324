/- models of functions and their walks -/
import Derived.Test.YtmdjifehblijkaaDoorMd
import Derived.Test.YtmdjifehblijkaaDoorMove
import Derived.Test.YtmdjifehblijkaaDoorReft
import Derived.Test.YtmdjifehblijkaaDoorSr
namespace Go.Proofs.YtmdjifehblijkaaDoor
open Go Go.RowKit Go.Eng
def word_behind_m (_ : Nat) (a : BitVec 128) (base : Int) (d : Int) : Option ((BitVec 128) × Bool) := if (mh (hi (a)) (BitVec.ofInt 64 (base))) ≠ (0#64) then some (((((hi (a)) * (BitVec.ofInt 64 (base))) ++ ((lo (a)) * (BitVec.ofInt 64 (base)))) + ((mh (lo (a)) (BitVec.ofInt 64 (base))) ++ (0#64))) + ((0#64) ++ (BitVec.ofInt 64 (d))), true) else if (BitVec.carry 128 (((hi (a)) * (BitVec.ofInt 64 (base))) ++ ((lo (a)) * (BitVec.ofInt 64 (base)))) ((mh (lo (a)) (BitVec.ofInt 64 (base))) ++ (0#64)) false) = true then some (((((hi (a)) * (BitVec.ofInt 64 (base))) ++ ((lo (a)) * (BitVec.ofInt 64 (base)))) + ((mh (lo (a)) (BitVec.ofInt 64 (base))) ++ (0#64))) + ((0#64) ++ (BitVec.ofInt 64 (d))), true) else some (((((hi (a)) * (BitVec.ofInt 64 (base))) ++ ((lo (a)) * (BitVec.ofInt 64 (base)))) + ((mh (lo (a)) (BitVec.ofInt 64 (base))) ++ (0#64))) + ((0#64) ++ (BitVec.ofInt 64 (d))), BitVec.carry 128 ((((hi (a)) * (BitVec.ofInt 64 (base))) ++ ((lo (a)) * (BitVec.ofInt 64 (base)))) + ((mh (lo (a)) (BitVec.ofInt 64 (base))) ++ (0#64))) ((0#64) ++ (BitVec.ofInt 64 (d))) false)
set_option maxRecDepth 100000 in
set_option maxHeartbeats 400000 in
theorem word_behind_g (N : Nat) (a : BitVec 128) (base : Int) (d : Int) (r : (BitVec 128) × Bool) (hM : word_behind_m N a base d = some r) : Gives Tryd.prog 71 #[Value.agg #[U (hi (a)), U (lo (a))], Value.int .i64 (base), Value.int .i64 (d)] (Value.tuple #[Value.agg #[U (hi (r.1)), U (lo (r.1))], Value.bool (r.2)]) := by
  unfold word_behind_m at hM
  refine gives_of_A follows Tryd.func71 rfl 58 rfl (upd (upd (upd (fun _ => undef) 2 (Value.int .i64 (d))) 1 (Value.int .i64 (base))) 0 (Value.agg #[U (hi (a)), U (lo (a))])) (by funext k; match k with | 0 => rfl | 1 => rfl | 2 => rfl | k + 3 => rfl) (fun base0_ => ?_)
  refine A_seq fun K1 hK1 => ?_
  refine A_reg ?_
  refine r_a (82, #[U (hi (a)), U (lo (a))]) rfl rfl rfl (fun b2 => ?_) (.inr rfl)
  refine r_a (82, #[U (0#64), U (0#64)]) rfl rfl rfl (fun b3 => ?_) (.inr rfl)
  refine r_v (Value.bool (false)) rfl rfl rfl rfl ?_
  refine lx_nil ?_
  refine hK1 _ _ ?_; try clear hK1 K1
  refine A_seq fun K4 hK4 => ?_
  refine A_reg ?_
  refine r_v (Value.pointer (some ⟨b2, 1, none⟩)) rfl rfl rfl rfl ?_
  refine r_l (U (lo (a))) 1 _ _ _ _ rfl rfl rfl rfl rfl ?_
  refine r_v (Value.int .i64 (base)) rfl rfl rfl rfl ?_
  refine r_w (U (BitVec.ofInt 64 (base))) rfl rfl (U_wrapI (base)) (fun _ => rfl) ?_
  refine r_c (Value.tuple #[U (mh (lo (a)) (BitVec.ofInt 64 (base))), U ((lo (a)) * (BitVec.ofInt 64 (base)))]) rfl _ _ (ev_callF rfl call_84 rfl) (mul64_g (lo (a)) (BitVec.ofInt 64 (base))) ?_
  refine r_v (Value.tuple #[U (mh (lo (a)) (BitVec.ofInt 64 (base))), U ((lo (a)) * (BitVec.ofInt 64 (base)))]) rfl rfl rfl rfl ?_
  refine r_v (U (mh (lo (a)) (BitVec.ofInt 64 (base)))) rfl rfl rfl rfl ?_
  refine r_v (U ((lo (a)) * (BitVec.ofInt 64 (base)))) rfl rfl rfl rfl ?_
  refine r_v (U (mh (lo (a)) (BitVec.ofInt 64 (base)))) rfl rfl rfl rfl ?_
  refine r_v (U ((lo (a)) * (BitVec.ofInt 64 (base)))) rfl rfl rfl rfl ?_
  refine lx_nil ?_
  refine hK4 _ _ ?_; try clear hK4 K4
  refine A_seq fun K5 hK5 => ?_
  refine A_reg ?_
  refine r_v (Value.pointer (some ⟨b2, 0, none⟩)) rfl rfl rfl rfl ?_
  refine r_l (U (hi (a))) 1 _ _ _ _ rfl rfl rfl rfl rfl ?_
  refine r_v (Value.int .i64 (base)) rfl rfl rfl rfl ?_
  refine r_w (U (BitVec.ofInt 64 (base))) rfl rfl (U_wrapI (base)) (fun _ => rfl) ?_
  refine r_c (Value.tuple #[U (mh (hi (a)) (BitVec.ofInt 64 (base))), U ((hi (a)) * (BitVec.ofInt 64 (base)))]) rfl _ _ (ev_callF rfl call_84 rfl) (mul64_g (hi (a)) (BitVec.ofInt 64 (base))) ?_
  refine r_v (Value.tuple #[U (mh (hi (a)) (BitVec.ofInt 64 (base))), U ((hi (a)) * (BitVec.ofInt 64 (base)))]) rfl rfl rfl rfl ?_
  refine r_v (U (mh (hi (a)) (BitVec.ofInt 64 (base)))) rfl rfl rfl rfl ?_
  refine r_v (U ((hi (a)) * (BitVec.ofInt 64 (base)))) rfl rfl rfl rfl ?_
  refine r_v (U (mh (hi (a)) (BitVec.ofInt 64 (base)))) rfl rfl rfl rfl ?_
  refine r_v (U ((hi (a)) * (BitVec.ofInt 64 (base)))) rfl rfl rfl rfl ?_
  refine lx_nil ?_
  refine hK5 _ _ ?_; try clear hK5 K5
  refine A_seq fun K6 hK6 => ?_
  refine A_reg ?_
  refine r_v (U ((hi (a)) * (BitVec.ofInt 64 (base)))) rfl rfl rfl rfl ?_
  refine r_v (U ((lo (a)) * (BitVec.ofInt 64 (base)))) rfl rfl rfl rfl ?_
  refine r_v (Value.agg #[U ((hi (a)) * (BitVec.ofInt 64 (base))), U ((lo (a)) * (BitVec.ofInt 64 (base)))]) rfl rfl rfl (ev_buildS rfl rfl rfl rfl) ?_
  refine r_v (U (mh (lo (a)) (BitVec.ofInt 64 (base)))) rfl rfl rfl rfl ?_
  refine r_v (Value.agg #[U (mh (lo (a)) (BitVec.ofInt 64 (base))), U (0#64)]) rfl rfl rfl (ev_buildS rfl rfl rfl rfl) ?_
  refine r_c (Value.tuple #[Value.agg #[U (hi ((((hi (a)) * (BitVec.ofInt 64 (base))) ++ ((lo (a)) * (BitVec.ofInt 64 (base)))) + ((mh (lo (a)) (BitVec.ofInt 64 (base))) ++ (0#64)))), U (lo ((((hi (a)) * (BitVec.ofInt 64 (base))) ++ ((lo (a)) * (BitVec.ofInt 64 (base)))) + ((mh (lo (a)) (BitVec.ofInt 64 (base))) ++ (0#64))))], Value.bool (BitVec.carry 128 (((hi (a)) * (BitVec.ofInt 64 (base))) ++ ((lo (a)) * (BitVec.ofInt 64 (base)))) ((mh (lo (a)) (BitVec.ofInt 64 (base))) ++ (0#64)) false)]) rfl _ _ (ev_callF rfl call_85 rfl) (by have h_ := (add_g (((hi (a)) * (BitVec.ofInt 64 (base))) ++ ((lo (a)) * (BitVec.ofInt 64 (base)))) ((mh (lo (a)) (BitVec.ofInt 64 (base))) ++ (0#64))); simp only [app_hl] at h_; exact h_) ?_
  refine r_v (Value.tuple #[Value.agg #[U (hi ((((hi (a)) * (BitVec.ofInt 64 (base))) ++ ((lo (a)) * (BitVec.ofInt 64 (base)))) + ((mh (lo (a)) (BitVec.ofInt 64 (base))) ++ (0#64)))), U (lo ((((hi (a)) * (BitVec.ofInt 64 (base))) ++ ((lo (a)) * (BitVec.ofInt 64 (base)))) + ((mh (lo (a)) (BitVec.ofInt 64 (base))) ++ (0#64))))], Value.bool (BitVec.carry 128 (((hi (a)) * (BitVec.ofInt 64 (base))) ++ ((lo (a)) * (BitVec.ofInt 64 (base)))) ((mh (lo (a)) (BitVec.ofInt 64 (base))) ++ (0#64)) false)]) rfl rfl rfl rfl ?_
  refine r_v (Value.agg #[U (hi ((((hi (a)) * (BitVec.ofInt 64 (base))) ++ ((lo (a)) * (BitVec.ofInt 64 (base)))) + ((mh (lo (a)) (BitVec.ofInt 64 (base))) ++ (0#64)))), U (lo ((((hi (a)) * (BitVec.ofInt 64 (base))) ++ ((lo (a)) * (BitVec.ofInt 64 (base)))) + ((mh (lo (a)) (BitVec.ofInt 64 (base))) ++ (0#64))))]) rfl rfl rfl rfl ?_
  refine r_v (Value.bool (BitVec.carry 128 (((hi (a)) * (BitVec.ofInt 64 (base))) ++ ((lo (a)) * (BitVec.ofInt 64 (base)))) ((mh (lo (a)) (BitVec.ofInt 64 (base))) ++ (0#64)) false)) rfl rfl rfl rfl ?_
  refine r_a (82, #[U (0#64), U (0#64)]) rfl rfl rfl (fun b7 => ?_) (.inr rfl)
  refine r_s [(b7, 82, #[U (hi ((((hi (a)) * (BitVec.ofInt 64 (base))) ++ ((lo (a)) * (BitVec.ofInt 64 (base)))) + ((mh (lo (a)) (BitVec.ofInt 64 (base))) ++ (0#64)))), U (lo ((((hi (a)) * (BitVec.ofInt 64 (base))) ++ ((lo (a)) * (BitVec.ofInt 64 (base)))) + ((mh (lo (a)) (BitVec.ofInt 64 (base))) ++ (0#64))))]), (b3, 82, #[U (0#64), U (0#64)]), (b2, 82, #[U (hi (a)), U (lo (a))])] 0 _ _ _ (#[U (0#64), U (0#64)]) (#[U (hi ((((hi (a)) * (BitVec.ofInt 64 (base))) ++ ((lo (a)) * (BitVec.ofInt 64 (base)))) + ((mh (lo (a)) (BitVec.ofInt 64 (base))) ++ (0#64)))), U (lo ((((hi (a)) * (BitVec.ofInt 64 (base))) ++ ((lo (a)) * (BitVec.ofInt 64 (base)))) + ((mh (lo (a)) (BitVec.ofInt 64 (base))) ++ (0#64))))]) (#[U (hi ((((hi (a)) * (BitVec.ofInt 64 (base))) ++ ((lo (a)) * (BitVec.ofInt 64 (base)))) + ((mh (lo (a)) (BitVec.ofInt 64 (base))) ++ (0#64)))), U (lo ((((hi (a)) * (BitVec.ofInt 64 (base))) ++ ((lo (a)) * (BitVec.ofInt 64 (base)))) + ((mh (lo (a)) (BitVec.ofInt 64 (base))) ++ (0#64))))]) rfl rfl rfl rfl (.of rfl rfl) rfl rfl ?_
  refine r_v (Value.bool (BitVec.carry 128 (((hi (a)) * (BitVec.ofInt 64 (base))) ++ ((lo (a)) * (BitVec.ofInt 64 (base)))) ((mh (lo (a)) (BitVec.ofInt 64 (base))) ++ (0#64)) false)) rfl rfl rfl rfl ?_
  refine lx_nil ?_
  refine hK6 _ _ ?_; try clear hK6 K6
  refine A_gen [(2, Value.int .i64 (d)), (6, Value.pointer (some ⟨b3, 0, none⟩)), (10, U (mh (hi (a)) (BitVec.ofInt 64 (base)))), (12, Value.pointer (some ⟨b7, 0, none⟩)), (13, Value.bool (BitVec.carry 128 (((hi (a)) * (BitVec.ofInt 64 (base))) ++ ((lo (a)) * (BitVec.ofInt 64 (base)))) ((mh (lo (a)) (BitVec.ofInt 64 (base))) ++ (0#64)) false))] rfl (fun T => ?_)
  refine A_seq fun K8 hK8 => ?_
  refine A_reg ?_
  refine r_l (Value.agg #[U (hi ((((hi (a)) * (BitVec.ofInt 64 (base))) ++ ((lo (a)) * (BitVec.ofInt 64 (base)))) + ((mh (lo (a)) (BitVec.ofInt 64 (base))) ++ (0#64)))), U (lo ((((hi (a)) * (BitVec.ofInt 64 (base))) ++ ((lo (a)) * (BitVec.ofInt 64 (base)))) + ((mh (lo (a)) (BitVec.ofInt 64 (base))) ++ (0#64))))]) 0 _ _ _ _ rfl rfl rfl rfl rfl ?_
  refine r_v (Value.int .i64 (d)) rfl rfl rfl rfl ?_
  refine r_w (U (BitVec.ofInt 64 (d))) rfl rfl (U_wrapI (d)) (fun _ => rfl) ?_
  refine r_v (Value.agg #[U (0#64), U (BitVec.ofInt 64 (d))]) rfl rfl rfl (ev_buildS rfl rfl rfl rfl) ?_
  refine r_c (Value.tuple #[Value.agg #[U (hi (((((hi (a)) * (BitVec.ofInt 64 (base))) ++ ((lo (a)) * (BitVec.ofInt 64 (base)))) + ((mh (lo (a)) (BitVec.ofInt 64 (base))) ++ (0#64))) + ((0#64) ++ (BitVec.ofInt 64 (d))))), U (lo (((((hi (a)) * (BitVec.ofInt 64 (base))) ++ ((lo (a)) * (BitVec.ofInt 64 (base)))) + ((mh (lo (a)) (BitVec.ofInt 64 (base))) ++ (0#64))) + ((0#64) ++ (BitVec.ofInt 64 (d)))))], Value.bool (BitVec.carry 128 ((((hi (a)) * (BitVec.ofInt 64 (base))) ++ ((lo (a)) * (BitVec.ofInt 64 (base)))) + ((mh (lo (a)) (BitVec.ofInt 64 (base))) ++ (0#64))) ((0#64) ++ (BitVec.ofInt 64 (d))) false)]) rfl _ _ (ev_callF rfl call_85 rfl) (by have h_ := (add_g ((((hi (a)) * (BitVec.ofInt 64 (base))) ++ ((lo (a)) * (BitVec.ofInt 64 (base)))) + ((mh (lo (a)) (BitVec.ofInt 64 (base))) ++ (0#64))) ((0#64) ++ (BitVec.ofInt 64 (d)))); simp only [app_hl] at h_; exact h_) ?_
  refine r_v (Value.tuple #[Value.agg #[U (hi (((((hi (a)) * (BitVec.ofInt 64 (base))) ++ ((lo (a)) * (BitVec.ofInt 64 (base)))) + ((mh (lo (a)) (BitVec.ofInt 64 (base))) ++ (0#64))) + ((0#64) ++ (BitVec.ofInt 64 (d))))), U (lo (((((hi (a)) * (BitVec.ofInt 64 (base))) ++ ((lo (a)) * (BitVec.ofInt 64 (base)))) + ((mh (lo (a)) (BitVec.ofInt 64 (base))) ++ (0#64))) + ((0#64) ++ (BitVec.ofInt 64 (d)))))], Value.bool (BitVec.carry 128 ((((hi (a)) * (BitVec.ofInt 64 (base))) ++ ((lo (a)) * (BitVec.ofInt 64 (base)))) + ((mh (lo (a)) (BitVec.ofInt 64 (base))) ++ (0#64))) ((0#64) ++ (BitVec.ofInt 64 (d))) false)]) rfl rfl rfl rfl ?_
  refine r_v (Value.agg #[U (hi (((((hi (a)) * (BitVec.ofInt 64 (base))) ++ ((lo (a)) * (BitVec.ofInt 64 (base)))) + ((mh (lo (a)) (BitVec.ofInt 64 (base))) ++ (0#64))) + ((0#64) ++ (BitVec.ofInt 64 (d))))), U (lo (((((hi (a)) * (BitVec.ofInt 64 (base))) ++ ((lo (a)) * (BitVec.ofInt 64 (base)))) + ((mh (lo (a)) (BitVec.ofInt 64 (base))) ++ (0#64))) + ((0#64) ++ (BitVec.ofInt 64 (d)))))]) rfl rfl rfl rfl ?_
  refine r_v (Value.bool (BitVec.carry 128 ((((hi (a)) * (BitVec.ofInt 64 (base))) ++ ((lo (a)) * (BitVec.ofInt 64 (base)))) + ((mh (lo (a)) (BitVec.ofInt 64 (base))) ++ (0#64))) ((0#64) ++ (BitVec.ofInt 64 (d))) false)) rfl rfl rfl rfl ?_
  refine r_a (82, #[U (0#64), U (0#64)]) rfl rfl rfl (fun b9 => ?_) (.inr rfl)
  refine r_s [(b9, 82, #[U (hi (((((hi (a)) * (BitVec.ofInt 64 (base))) ++ ((lo (a)) * (BitVec.ofInt 64 (base)))) + ((mh (lo (a)) (BitVec.ofInt 64 (base))) ++ (0#64))) + ((0#64) ++ (BitVec.ofInt 64 (d))))), U (lo (((((hi (a)) * (BitVec.ofInt 64 (base))) ++ ((lo (a)) * (BitVec.ofInt 64 (base)))) + ((mh (lo (a)) (BitVec.ofInt 64 (base))) ++ (0#64))) + ((0#64) ++ (BitVec.ofInt 64 (d)))))]), (b7, 82, #[U (hi ((((hi (a)) * (BitVec.ofInt 64 (base))) ++ ((lo (a)) * (BitVec.ofInt 64 (base)))) + ((mh (lo (a)) (BitVec.ofInt 64 (base))) ++ (0#64)))), U (lo ((((hi (a)) * (BitVec.ofInt 64 (base))) ++ ((lo (a)) * (BitVec.ofInt 64 (base)))) + ((mh (lo (a)) (BitVec.ofInt 64 (base))) ++ (0#64))))]), (b3, 82, #[U (0#64), U (0#64)]), (b2, 82, #[U (hi (a)), U (lo (a))])] 0 _ _ _ (#[U (0#64), U (0#64)]) (#[U (hi (((((hi (a)) * (BitVec.ofInt 64 (base))) ++ ((lo (a)) * (BitVec.ofInt 64 (base)))) + ((mh (lo (a)) (BitVec.ofInt 64 (base))) ++ (0#64))) + ((0#64) ++ (BitVec.ofInt 64 (d))))), U (lo (((((hi (a)) * (BitVec.ofInt 64 (base))) ++ ((lo (a)) * (BitVec.ofInt 64 (base)))) + ((mh (lo (a)) (BitVec.ofInt 64 (base))) ++ (0#64))) + ((0#64) ++ (BitVec.ofInt 64 (d)))))]) (#[U (hi (((((hi (a)) * (BitVec.ofInt 64 (base))) ++ ((lo (a)) * (BitVec.ofInt 64 (base)))) + ((mh (lo (a)) (BitVec.ofInt 64 (base))) ++ (0#64))) + ((0#64) ++ (BitVec.ofInt 64 (d))))), U (lo (((((hi (a)) * (BitVec.ofInt 64 (base))) ++ ((lo (a)) * (BitVec.ofInt 64 (base)))) + ((mh (lo (a)) (BitVec.ofInt 64 (base))) ++ (0#64))) + ((0#64) ++ (BitVec.ofInt 64 (d)))))]) rfl rfl rfl rfl (.of rfl rfl) rfl rfl ?_
  refine r_v (Value.bool (BitVec.carry 128 ((((hi (a)) * (BitVec.ofInt 64 (base))) ++ ((lo (a)) * (BitVec.ofInt 64 (base)))) + ((mh (lo (a)) (BitVec.ofInt 64 (base))) ++ (0#64))) ((0#64) ++ (BitVec.ofInt 64 (d))) false)) rfl rfl rfl rfl ?_
  refine lx_nil ?_
  refine hK8 _ _ ?_; try clear hK8 K8
  refine A_seq fun K10 hK10 => ?_
  refine A_reg ?_
  refine r_l (Value.agg #[U (hi (((((hi (a)) * (BitVec.ofInt 64 (base))) ++ ((lo (a)) * (BitVec.ofInt 64 (base)))) + ((mh (lo (a)) (BitVec.ofInt 64 (base))) ++ (0#64))) + ((0#64) ++ (BitVec.ofInt 64 (d))))), U (lo (((((hi (a)) * (BitVec.ofInt 64 (base))) ++ ((lo (a)) * (BitVec.ofInt 64 (base)))) + ((mh (lo (a)) (BitVec.ofInt 64 (base))) ++ (0#64))) + ((0#64) ++ (BitVec.ofInt 64 (d)))))]) 0 _ _ _ _ rfl rfl rfl rfl rfl ?_
  refine r_v (U (mh (hi (a)) (BitVec.ofInt 64 (base)))) rfl rfl rfl rfl ?_
  refine r_v (Value.bool ((mh (hi (a)) (BitVec.ofInt 64 (base))) != (0#64))) rfl rfl (U_ne (mh (hi (a)) (BitVec.ofInt 64 (base))) (0#64)) rfl ?_
  refine r_v (Value.bool ((mh (hi (a)) (BitVec.ofInt 64 (base))) != (0#64))) rfl rfl rfl rfl ?_
  rcases hg11 : ((mh (hi (a)) (BitVec.ofInt 64 (base))) != (0#64)) with _ | _
  · replace hM := ifn (bne_f hg11) hM
    refine r_y rfl ?_
    refine r_v (Value.bool (BitVec.carry 128 (((hi (a)) * (BitVec.ofInt 64 (base))) ++ ((lo (a)) * (BitVec.ofInt 64 (base)))) ((mh (lo (a)) (BitVec.ofInt 64 (base))) ++ (0#64)) false)) rfl rfl rfl rfl ?_
    refine r_v (Value.bool (BitVec.carry 128 (((hi (a)) * (BitVec.ofInt 64 (base))) ++ ((lo (a)) * (BitVec.ofInt 64 (base)))) ((mh (lo (a)) (BitVec.ofInt 64 (base))) ++ (0#64)) false)) rfl rfl rfl rfl ?_
    refine r_v (Value.bool (BitVec.carry 128 (((hi (a)) * (BitVec.ofInt 64 (base))) ++ ((lo (a)) * (BitVec.ofInt 64 (base)))) ((mh (lo (a)) (BitVec.ofInt 64 (base))) ++ (0#64)) false)) rfl rfl rfl rfl ?_
    rcases hg12 : (BitVec.carry 128 (((hi (a)) * (BitVec.ofInt 64 (base))) ++ ((lo (a)) * (BitVec.ofInt 64 (base)))) ((mh (lo (a)) (BitVec.ofInt 64 (base))) ++ (0#64)) false) with _ | _
    · replace hM := ifn (Bool.eq_false_iff.1 hg12) hM
      refine r_y rfl ?_
      refine r_v (Value.bool (BitVec.carry 128 ((((hi (a)) * (BitVec.ofInt 64 (base))) ++ ((lo (a)) * (BitVec.ofInt 64 (base)))) + ((mh (lo (a)) (BitVec.ofInt 64 (base))) ++ (0#64))) ((0#64) ++ (BitVec.ofInt 64 (d))) false)) rfl rfl rfl rfl ?_
      refine r_v (Value.bool (BitVec.carry 128 ((((hi (a)) * (BitVec.ofInt 64 (base))) ++ ((lo (a)) * (BitVec.ofInt 64 (base)))) + ((mh (lo (a)) (BitVec.ofInt 64 (base))) ++ (0#64))) ((0#64) ++ (BitVec.ofInt 64 (d))) false)) rfl rfl rfl rfl ?_
      refine r_s [(b9, 82, #[U (hi (((((hi (a)) * (BitVec.ofInt 64 (base))) ++ ((lo (a)) * (BitVec.ofInt 64 (base)))) + ((mh (lo (a)) (BitVec.ofInt 64 (base))) ++ (0#64))) + ((0#64) ++ (BitVec.ofInt 64 (d))))), U (lo (((((hi (a)) * (BitVec.ofInt 64 (base))) ++ ((lo (a)) * (BitVec.ofInt 64 (base)))) + ((mh (lo (a)) (BitVec.ofInt 64 (base))) ++ (0#64))) + ((0#64) ++ (BitVec.ofInt 64 (d)))))]), (b7, 82, #[U (hi ((((hi (a)) * (BitVec.ofInt 64 (base))) ++ ((lo (a)) * (BitVec.ofInt 64 (base)))) + ((mh (lo (a)) (BitVec.ofInt 64 (base))) ++ (0#64)))), U (lo ((((hi (a)) * (BitVec.ofInt 64 (base))) ++ ((lo (a)) * (BitVec.ofInt 64 (base)))) + ((mh (lo (a)) (BitVec.ofInt 64 (base))) ++ (0#64))))]), (b3, 82, #[U (hi (((((hi (a)) * (BitVec.ofInt 64 (base))) ++ ((lo (a)) * (BitVec.ofInt 64 (base)))) + ((mh (lo (a)) (BitVec.ofInt 64 (base))) ++ (0#64))) + ((0#64) ++ (BitVec.ofInt 64 (d))))), U (lo (((((hi (a)) * (BitVec.ofInt 64 (base))) ++ ((lo (a)) * (BitVec.ofInt 64 (base)))) + ((mh (lo (a)) (BitVec.ofInt 64 (base))) ++ (0#64))) + ((0#64) ++ (BitVec.ofInt 64 (d)))))]), (b2, 82, #[U (hi (a)), U (lo (a))])] 2 _ _ _ (#[U (0#64), U (0#64)]) (#[U (hi (((((hi (a)) * (BitVec.ofInt 64 (base))) ++ ((lo (a)) * (BitVec.ofInt 64 (base)))) + ((mh (lo (a)) (BitVec.ofInt 64 (base))) ++ (0#64))) + ((0#64) ++ (BitVec.ofInt 64 (d))))), U (lo (((((hi (a)) * (BitVec.ofInt 64 (base))) ++ ((lo (a)) * (BitVec.ofInt 64 (base)))) + ((mh (lo (a)) (BitVec.ofInt 64 (base))) ++ (0#64))) + ((0#64) ++ (BitVec.ofInt 64 (d)))))]) (#[U (hi (((((hi (a)) * (BitVec.ofInt 64 (base))) ++ ((lo (a)) * (BitVec.ofInt 64 (base)))) + ((mh (lo (a)) (BitVec.ofInt 64 (base))) ++ (0#64))) + ((0#64) ++ (BitVec.ofInt 64 (d))))), U (lo (((((hi (a)) * (BitVec.ofInt 64 (base))) ++ ((lo (a)) * (BitVec.ofInt 64 (base)))) + ((mh (lo (a)) (BitVec.ofInt 64 (base))) ++ (0#64))) + ((0#64) ++ (BitVec.ofInt 64 (d)))))]) rfl rfl rfl rfl (.of rfl rfl) rfl rfl ?_
      refine r_v (Value.bool (BitVec.carry 128 ((((hi (a)) * (BitVec.ofInt 64 (base))) ++ ((lo (a)) * (BitVec.ofInt 64 (base)))) + ((mh (lo (a)) (BitVec.ofInt 64 (base))) ++ (0#64))) ((0#64) ++ (BitVec.ofInt 64 (d))) false)) rfl rfl rfl rfl ?_
      refine lx_nil ?_
      refine hK10 _ _ ?_; try clear hK10 K10
      obtain rfl := Option.some.inj hM
      refine A_ret (fun hn => ends_eq (v0 := Value.tuple #[Value.agg #[U (hi (((((hi (a)) * (BitVec.ofInt 64 (base))) ++ ((lo (a)) * (BitVec.ofInt 64 (base)))) + ((mh (lo (a)) (BitVec.ofInt 64 (base))) ++ (0#64))) + ((0#64) ++ (BitVec.ofInt 64 (d))))), U (lo (((((hi (a)) * (BitVec.ofInt 64 (base))) ++ ((lo (a)) * (BitVec.ofInt 64 (base)))) + ((mh (lo (a)) (BitVec.ofInt 64 (base))) ++ (0#64))) + ((0#64) ++ (BitVec.ofInt 64 (d)))))], Value.bool (BitVec.carry 128 ((((hi (a)) * (BitVec.ofInt 64 (base))) ++ ((lo (a)) * (BitVec.ofInt 64 (base)))) + ((mh (lo (a)) (BitVec.ofInt 64 (base))) ++ (0#64))) ((0#64) ++ (BitVec.ofInt 64 (d))) false)]) rfl (res2 (res_cell hn 2 rfl rfl rfl) rfl))
    · replace hM := ifp hg12 hM
      refine r_n true rfl (by decide) rfl ?_
      refine r_v (Value.bool (true)) rfl rfl rfl rfl ?_
      refine r_s [(b9, 82, #[U (hi (((((hi (a)) * (BitVec.ofInt 64 (base))) ++ ((lo (a)) * (BitVec.ofInt 64 (base)))) + ((mh (lo (a)) (BitVec.ofInt 64 (base))) ++ (0#64))) + ((0#64) ++ (BitVec.ofInt 64 (d))))), U (lo (((((hi (a)) * (BitVec.ofInt 64 (base))) ++ ((lo (a)) * (BitVec.ofInt 64 (base)))) + ((mh (lo (a)) (BitVec.ofInt 64 (base))) ++ (0#64))) + ((0#64) ++ (BitVec.ofInt 64 (d)))))]), (b7, 82, #[U (hi ((((hi (a)) * (BitVec.ofInt 64 (base))) ++ ((lo (a)) * (BitVec.ofInt 64 (base)))) + ((mh (lo (a)) (BitVec.ofInt 64 (base))) ++ (0#64)))), U (lo ((((hi (a)) * (BitVec.ofInt 64 (base))) ++ ((lo (a)) * (BitVec.ofInt 64 (base)))) + ((mh (lo (a)) (BitVec.ofInt 64 (base))) ++ (0#64))))]), (b3, 82, #[U (hi (((((hi (a)) * (BitVec.ofInt 64 (base))) ++ ((lo (a)) * (BitVec.ofInt 64 (base)))) + ((mh (lo (a)) (BitVec.ofInt 64 (base))) ++ (0#64))) + ((0#64) ++ (BitVec.ofInt 64 (d))))), U (lo (((((hi (a)) * (BitVec.ofInt 64 (base))) ++ ((lo (a)) * (BitVec.ofInt 64 (base)))) + ((mh (lo (a)) (BitVec.ofInt 64 (base))) ++ (0#64))) + ((0#64) ++ (BitVec.ofInt 64 (d)))))]), (b2, 82, #[U (hi (a)), U (lo (a))])] 2 _ _ _ (#[U (0#64), U (0#64)]) (#[U (hi (((((hi (a)) * (BitVec.ofInt 64 (base))) ++ ((lo (a)) * (BitVec.ofInt 64 (base)))) + ((mh (lo (a)) (BitVec.ofInt 64 (base))) ++ (0#64))) + ((0#64) ++ (BitVec.ofInt 64 (d))))), U (lo (((((hi (a)) * (BitVec.ofInt 64 (base))) ++ ((lo (a)) * (BitVec.ofInt 64 (base)))) + ((mh (lo (a)) (BitVec.ofInt 64 (base))) ++ (0#64))) + ((0#64) ++ (BitVec.ofInt 64 (d)))))]) (#[U (hi (((((hi (a)) * (BitVec.ofInt 64 (base))) ++ ((lo (a)) * (BitVec.ofInt 64 (base)))) + ((mh (lo (a)) (BitVec.ofInt 64 (base))) ++ (0#64))) + ((0#64) ++ (BitVec.ofInt 64 (d))))), U (lo (((((hi (a)) * (BitVec.ofInt 64 (base))) ++ ((lo (a)) * (BitVec.ofInt 64 (base)))) + ((mh (lo (a)) (BitVec.ofInt 64 (base))) ++ (0#64))) + ((0#64) ++ (BitVec.ofInt 64 (d)))))]) rfl rfl rfl rfl (.of rfl rfl) rfl rfl ?_
      refine r_v (Value.bool (true)) rfl rfl rfl rfl ?_
      refine lx_nil ?_
      refine hK10 _ _ ?_; try clear hK10 K10
      obtain rfl := Option.some.inj hM
      refine A_ret (fun hn => ends_eq (v0 := Value.tuple #[Value.agg #[U (hi (((((hi (a)) * (BitVec.ofInt 64 (base))) ++ ((lo (a)) * (BitVec.ofInt 64 (base)))) + ((mh (lo (a)) (BitVec.ofInt 64 (base))) ++ (0#64))) + ((0#64) ++ (BitVec.ofInt 64 (d))))), U (lo (((((hi (a)) * (BitVec.ofInt 64 (base))) ++ ((lo (a)) * (BitVec.ofInt 64 (base)))) + ((mh (lo (a)) (BitVec.ofInt 64 (base))) ++ (0#64))) + ((0#64) ++ (BitVec.ofInt 64 (d)))))], Value.bool (true)]) rfl (res2 (res_cell hn 2 rfl rfl rfl) rfl))
  · replace hM := ifp (bne_iff_ne.1 hg11) hM
    refine r_n true rfl (by decide) rfl ?_
    refine r_v (Value.bool (true)) rfl rfl rfl rfl ?_
    refine r_v (Value.bool (true)) rfl rfl rfl rfl ?_
    refine r_n true rfl (by decide) rfl ?_
    refine r_v (Value.bool (true)) rfl rfl rfl rfl ?_
    refine r_s [(b9, 82, #[U (hi (((((hi (a)) * (BitVec.ofInt 64 (base))) ++ ((lo (a)) * (BitVec.ofInt 64 (base)))) + ((mh (lo (a)) (BitVec.ofInt 64 (base))) ++ (0#64))) + ((0#64) ++ (BitVec.ofInt 64 (d))))), U (lo (((((hi (a)) * (BitVec.ofInt 64 (base))) ++ ((lo (a)) * (BitVec.ofInt 64 (base)))) + ((mh (lo (a)) (BitVec.ofInt 64 (base))) ++ (0#64))) + ((0#64) ++ (BitVec.ofInt 64 (d)))))]), (b7, 82, #[U (hi ((((hi (a)) * (BitVec.ofInt 64 (base))) ++ ((lo (a)) * (BitVec.ofInt 64 (base)))) + ((mh (lo (a)) (BitVec.ofInt 64 (base))) ++ (0#64)))), U (lo ((((hi (a)) * (BitVec.ofInt 64 (base))) ++ ((lo (a)) * (BitVec.ofInt 64 (base)))) + ((mh (lo (a)) (BitVec.ofInt 64 (base))) ++ (0#64))))]), (b3, 82, #[U (hi (((((hi (a)) * (BitVec.ofInt 64 (base))) ++ ((lo (a)) * (BitVec.ofInt 64 (base)))) + ((mh (lo (a)) (BitVec.ofInt 64 (base))) ++ (0#64))) + ((0#64) ++ (BitVec.ofInt 64 (d))))), U (lo (((((hi (a)) * (BitVec.ofInt 64 (base))) ++ ((lo (a)) * (BitVec.ofInt 64 (base)))) + ((mh (lo (a)) (BitVec.ofInt 64 (base))) ++ (0#64))) + ((0#64) ++ (BitVec.ofInt 64 (d)))))]), (b2, 82, #[U (hi (a)), U (lo (a))])] 2 _ _ _ (#[U (0#64), U (0#64)]) (#[U (hi (((((hi (a)) * (BitVec.ofInt 64 (base))) ++ ((lo (a)) * (BitVec.ofInt 64 (base)))) + ((mh (lo (a)) (BitVec.ofInt 64 (base))) ++ (0#64))) + ((0#64) ++ (BitVec.ofInt 64 (d))))), U (lo (((((hi (a)) * (BitVec.ofInt 64 (base))) ++ ((lo (a)) * (BitVec.ofInt 64 (base)))) + ((mh (lo (a)) (BitVec.ofInt 64 (base))) ++ (0#64))) + ((0#64) ++ (BitVec.ofInt 64 (d)))))]) (#[U (hi (((((hi (a)) * (BitVec.ofInt 64 (base))) ++ ((lo (a)) * (BitVec.ofInt 64 (base)))) + ((mh (lo (a)) (BitVec.ofInt 64 (base))) ++ (0#64))) + ((0#64) ++ (BitVec.ofInt 64 (d))))), U (lo (((((hi (a)) * (BitVec.ofInt 64 (base))) ++ ((lo (a)) * (BitVec.ofInt 64 (base)))) + ((mh (lo (a)) (BitVec.ofInt 64 (base))) ++ (0#64))) + ((0#64) ++ (BitVec.ofInt 64 (d)))))]) rfl rfl rfl rfl (.of rfl rfl) rfl rfl ?_
    refine r_v (Value.bool (true)) rfl rfl rfl rfl ?_
    refine lx_nil ?_
    refine hK10 _ _ ?_; try clear hK10 K10
    obtain rfl := Option.some.inj hM
    refine A_ret (fun hn => ends_eq (v0 := Value.tuple #[Value.agg #[U (hi (((((hi (a)) * (BitVec.ofInt 64 (base))) ++ ((lo (a)) * (BitVec.ofInt 64 (base)))) + ((mh (lo (a)) (BitVec.ofInt 64 (base))) ++ (0#64))) + ((0#64) ++ (BitVec.ofInt 64 (d))))), U (lo (((((hi (a)) * (BitVec.ofInt 64 (base))) ++ ((lo (a)) * (BitVec.ofInt 64 (base)))) + ((mh (lo (a)) (BitVec.ofInt 64 (base))) ++ (0#64))) + ((0#64) ++ (BitVec.ofInt 64 (d)))))], Value.bool (true)]) rfl (res2 (res_cell hn 2 rfl rfl rfl) rfl))
def word_mayBase_m (_ : Nat) (base : Int) : Option (Bool) := if (base : Int) ≥ 2 then some (decide ((base : Int) ≤ 16)) else some (false)
set_option maxRecDepth 100000 in
set_option maxHeartbeats 400000 in
theorem word_mayBase_g (N : Nat) (base : Int) (r : Bool) (hM : word_mayBase_m N base = some r) : Gives Tryd.prog 60 #[Value.int .i64 (base)] (Value.bool (r)) := by
  unfold word_mayBase_m at hM
  refine gives_of_A follows Tryd.func60 rfl 9 rfl (upd (fun _ => undef) 0 (Value.int .i64 (base))) (by funext k; match k with | 0 => rfl | k + 1 => rfl) (fun base0_ => ?_)
  refine A_seq fun K1 hK1 => ?_
  refine A_reg ?_
  refine r_v (Value.bool (false)) rfl rfl rfl rfl ?_
  refine lx_nil ?_
  refine hK1 _ _ ?_; try clear hK1 K1
  refine A_seq fun K2 hK2 => ?_
  refine A_reg ?_
  refine r_v (Value.int .i64 (base)) rfl rfl rfl rfl ?_
  refine r_v (Value.bool (decide ((base : Int) ≥ 2))) rfl rfl rfl rfl ?_
  refine r_v (Value.bool (decide ((base : Int) ≥ 2))) rfl rfl rfl rfl ?_
  rcases hg3 : (decide ((base : Int) ≥ 2)) with _ | _
  · replace hM := ifn (of_decide_eq_false hg3) hM
    refine r_n false rfl (by decide) rfl ?_
    refine r_n false rfl (by decide) rfl ?_
    refine r_v (Value.bool (false)) rfl rfl rfl rfl ?_
    refine r_v (Value.bool (false)) rfl rfl rfl rfl ?_
    refine lx_nil ?_
    refine hK2 _ _ ?_; try clear hK2 K2
    obtain rfl := Option.some.inj hM
    refine A_ret (fun hn => ends_eq (v0 := Value.bool (false)) rfl (res1 rfl))
  · replace hM := ifp (of_decide_eq_true hg3) hM
    refine r_y rfl ?_
    refine r_v (Value.int .i64 (base)) rfl rfl rfl rfl ?_
    refine r_y rfl ?_
    refine r_v (Value.bool (decide ((base : Int) ≤ 16))) rfl rfl rfl rfl ?_
    refine r_v (Value.bool (decide ((base : Int) ≤ 16))) rfl rfl rfl rfl ?_
    refine r_v (Value.bool (decide ((base : Int) ≤ 16))) rfl rfl rfl rfl ?_
    refine lx_nil ?_
    refine hK2 _ _ ?_; try clear hK2 K2
    obtain rfl := Option.some.inj hM
    refine A_ret (fun hn => ends_eq (v0 := Value.bool (decide ((base : Int) ≤ 16))) rfl (res1 rfl))
def word_digit_k6 (c : Int) (x5_ : Bool) : Option (Int) := if (x5_) = true then ck ((-9223372036854775808 ≤ (IntKind.u8.wrap (c - 65)) ∧ (IntKind.u8.wrap (c - 65)) ≤ 9223372036854775807)) (ck ((-9223372036854775808 ≤ ((IntKind.u8.wrap (c - 65)) + 10) ∧ ((IntKind.u8.wrap (c - 65)) + 10) ≤ 9223372036854775807)) (some (((IntKind.u8.wrap (c - 65)) + 10)))) else some (16)
def word_digit_k4 (c : Int) (x3_ : Bool) : Option (Int) := if (x3_) = true then ck ((-9223372036854775808 ≤ (IntKind.u8.wrap (c - 97)) ∧ (IntKind.u8.wrap (c - 97)) ≤ 9223372036854775807)) (ck ((-9223372036854775808 ≤ ((IntKind.u8.wrap (c - 97)) + 10) ∧ ((IntKind.u8.wrap (c - 97)) + 10) ≤ 9223372036854775807)) (some (((IntKind.u8.wrap (c - 97)) + 10)))) else if (c : Int) ≥ 65 then word_digit_k6 c (decide ((c : Int) ≤ 70)) else word_digit_k6 c (false)
def word_digit_k2 (c : Int) (x1_ : Bool) : Option (Int) := if (x1_) = true then ck ((-9223372036854775808 ≤ (IntKind.u8.wrap (c - 48)) ∧ (IntKind.u8.wrap (c - 48)) ≤ 9223372036854775807)) (some ((IntKind.u8.wrap (c - 48)))) else if (c : Int) ≥ 97 then word_digit_k4 c (decide ((c : Int) ≤ 102)) else word_digit_k4 c (false)
def word_digit_m (_ : Nat) (c : Int) : Option (Int) := if (c : Int) ≥ 48 then word_digit_k2 c (decide ((c : Int) ≤ 57)) else word_digit_k2 c (false)
set_option maxRecDepth 100000 in
set_option maxHeartbeats 400000 in
theorem word_digit_g (N : Nat) (c : Int) (r : Int) (hM : word_digit_m N c = some r) : Gives Tryd.prog 70 #[Value.int .u8 (c)] (Value.int .i64 (r)) := by
  unfold word_digit_m at hM
  refine gives_of_A follows Tryd.func70 rfl 35 rfl (upd (fun _ => undef) 0 (Value.int .u8 (c))) (by funext k; match k with | 0 => rfl | k + 1 => rfl) (fun base0_ => ?_)
  refine A_seq fun K1 hK1 => ?_
  refine A_reg ?_
  refine r_v (Value.int .i64 (0)) rfl rfl rfl rfl ?_
  refine lx_nil ?_
  refine hK1 _ _ ?_; try clear hK1 K1
  refine A_seq fun K2 hK2 => ?_
  refine A_block ?_
  refine A_cut (fun tt ll => ∃ (x1_ : Bool), (word_digit_k2 c x1_ = some r) ∧ Is [(0, Value.int .u8 (c)), (3, Value.bool (x1_))] [] tt ll) ?_ ?_
  · refine A_reg ?_
    refine r_v (Value.int .u8 (c)) rfl rfl rfl rfl ?_
    refine r_v (Value.bool (decide ((c : Int) ≥ 48))) rfl rfl rfl rfl ?_
    refine r_v (Value.bool (decide ((c : Int) ≥ 48))) rfl rfl rfl rfl ?_
    rcases hg17 : (decide ((c : Int) ≥ 48)) with _ | _
    · replace hM := ifn (of_decide_eq_false hg17) hM
      refine r_n false rfl (by decide) rfl ?_
      refine r_n false rfl (by decide) rfl ?_
      refine r_v (Value.bool (false)) rfl rfl rfl rfl ?_
      refine r_v (Value.bool (false)) rfl rfl rfl rfl ?_
      refine lx_nil ?_
      refine fg _ (Sub.of (List.Sublist.slnil)) ?_
      exact ⟨false, hM, is_mk rfl rfl⟩
    · replace hM := ifp (of_decide_eq_true hg17) hM
      refine r_y rfl ?_
      refine r_v (Value.int .u8 (c)) rfl rfl rfl rfl ?_
      refine r_y rfl ?_
      refine r_v (Value.bool (decide ((c : Int) ≤ 57))) rfl rfl rfl rfl ?_
      refine r_v (Value.bool (decide ((c : Int) ≤ 57))) rfl rfl rfl rfl ?_
      refine r_v (Value.bool (decide ((c : Int) ≤ 57))) rfl rfl rfl rfl ?_
      refine lx_nil ?_
      refine fg _ (Sub.of (List.Sublist.slnil)) ?_
      exact ⟨decide ((c : Int) ≤ 57), hM, is_mk rfl rfl⟩
  · clear hM; rintro t l ⟨x1_, hM, ⟨T, rfl⟩, rfl⟩
    unfold word_digit_k2 at hM
    refine A_cond (x1_) rfl (fun hc3 => ?_) (fun hc3 => ?_)
    · replace hM := ifp hc3 hM
      refine A_seq fun K4 hK4 => ?_
      refine A_reg ?_
      refine r_v (Value.int .u8 (c)) rfl rfl rfl rfl ?_
      refine r_v (Value.int .u8 ((IntKind.u8.wrap (c - 48)))) rfl rfl rfl rfl ?_
      replace hM := ck_some hM; obtain ⟨ck5, hM⟩ := hM
      refine r_w (Value.int .i64 ((IntKind.u8.wrap (c - 48)))) rfl rfl (wi64 rfl ck5.1 ck5.2) (fun _ => rfl) ?_
      refine r_v (Value.int .i64 ((IntKind.u8.wrap (c - 48)))) rfl rfl rfl rfl ?_
      refine lx_nil ?_
      refine hK4 _ _ ?_; try clear hK4 K4
      obtain rfl := Option.some.inj hM
      refine A_ret (fun hn => ends_eq (v0 := Value.int .i64 ((IntKind.u8.wrap (c - 48)))) rfl (res1 rfl))
    · replace hM := ifn (Bool.eq_false_iff.1 hc3) hM
      refine A_cut (fun tt ll => ∃ (x3_ : Bool), (word_digit_k4 c x3_ = some r) ∧ Is [(0, Value.int .u8 (c)), (13, Value.bool (x3_))] [] tt ll) ?_ ?_
      · refine A_reg ?_
        refine r_v (Value.int .u8 (c)) rfl rfl rfl rfl ?_
        refine r_v (Value.bool (decide ((c : Int) ≥ 97))) rfl rfl rfl rfl ?_
        refine r_v (Value.bool (decide ((c : Int) ≥ 97))) rfl rfl rfl rfl ?_
        rcases hg16 : (decide ((c : Int) ≥ 97)) with _ | _
        · replace hM := ifn (of_decide_eq_false hg16) hM
          refine r_n false rfl (by decide) rfl ?_
          refine r_n false rfl (by decide) rfl ?_
          refine r_v (Value.bool (false)) rfl rfl rfl rfl ?_
          refine r_v (Value.bool (false)) rfl rfl rfl rfl ?_
          refine lx_nil ?_
          refine fg _ (Sub.of (List.Sublist.slnil)) ?_
          exact ⟨false, hM, is_mk rfl rfl⟩
        · replace hM := ifp (of_decide_eq_true hg16) hM
          refine r_y rfl ?_
          refine r_v (Value.int .u8 (c)) rfl rfl rfl rfl ?_
          refine r_y rfl ?_
          refine r_v (Value.bool (decide ((c : Int) ≤ 102))) rfl rfl rfl rfl ?_
          refine r_v (Value.bool (decide ((c : Int) ≤ 102))) rfl rfl rfl rfl ?_
          refine r_v (Value.bool (decide ((c : Int) ≤ 102))) rfl rfl rfl rfl ?_
          refine lx_nil ?_
          refine fg _ (Sub.of (List.Sublist.slnil)) ?_
          exact ⟨decide ((c : Int) ≤ 102), hM, is_mk rfl rfl⟩
      · clear hM; rintro t l ⟨x3_, hM, ⟨T, rfl⟩, rfl⟩
        unfold word_digit_k4 at hM
        refine A_cond (x3_) rfl (fun hc6 => ?_) (fun hc6 => ?_)
        · replace hM := ifp hc6 hM
          refine A_seq fun K7 hK7 => ?_
          refine A_reg ?_
          refine r_v (Value.int .u8 (c)) rfl rfl rfl rfl ?_
          refine r_v (Value.int .u8 ((IntKind.u8.wrap (c - 97)))) rfl rfl rfl rfl ?_
          replace hM := ck_some hM; obtain ⟨ck8, hM⟩ := hM
          refine r_w (Value.int .i64 ((IntKind.u8.wrap (c - 97)))) rfl rfl (wi64 rfl ck8.1 ck8.2) (fun _ => rfl) ?_
          replace hM := ck_some hM; obtain ⟨ck9, hM⟩ := hM
          refine r_v (Value.int .i64 (((IntKind.u8.wrap (c - 97)) + 10))) rfl rfl (wi64 rfl ck9.1 ck9.2) rfl ?_
          refine r_v (Value.int .i64 (((IntKind.u8.wrap (c - 97)) + 10))) rfl rfl rfl rfl ?_
          refine lx_nil ?_
          refine hK7 _ _ ?_; try clear hK7 K7
          obtain rfl := Option.some.inj hM
          refine A_ret (fun hn => ends_eq (v0 := Value.int .i64 (((IntKind.u8.wrap (c - 97)) + 10))) rfl (res1 rfl))
        · replace hM := ifn (Bool.eq_false_iff.1 hc6) hM
          refine A_cut (fun tt ll => ∃ (x5_ : Bool), (word_digit_k6 c x5_ = some r) ∧ Is [(0, Value.int .u8 (c)), (24, Value.bool (x5_))] [] tt ll) ?_ ?_
          · refine A_reg ?_
            refine r_v (Value.int .u8 (c)) rfl rfl rfl rfl ?_
            refine r_v (Value.bool (decide ((c : Int) ≥ 65))) rfl rfl rfl rfl ?_
            refine r_v (Value.bool (decide ((c : Int) ≥ 65))) rfl rfl rfl rfl ?_
            rcases hg15 : (decide ((c : Int) ≥ 65)) with _ | _
            · replace hM := ifn (of_decide_eq_false hg15) hM
              refine r_n false rfl (by decide) rfl ?_
              refine r_n false rfl (by decide) rfl ?_
              refine r_v (Value.bool (false)) rfl rfl rfl rfl ?_
              refine r_v (Value.bool (false)) rfl rfl rfl rfl ?_
              refine lx_nil ?_
              refine fg _ (Sub.of (List.Sublist.slnil)) ?_
              exact ⟨false, hM, is_mk rfl rfl⟩
            · replace hM := ifp (of_decide_eq_true hg15) hM
              refine r_y rfl ?_
              refine r_v (Value.int .u8 (c)) rfl rfl rfl rfl ?_
              refine r_y rfl ?_
              refine r_v (Value.bool (decide ((c : Int) ≤ 70))) rfl rfl rfl rfl ?_
              refine r_v (Value.bool (decide ((c : Int) ≤ 70))) rfl rfl rfl rfl ?_
              refine r_v (Value.bool (decide ((c : Int) ≤ 70))) rfl rfl rfl rfl ?_
              refine lx_nil ?_
              refine fg _ (Sub.of (List.Sublist.slnil)) ?_
              exact ⟨decide ((c : Int) ≤ 70), hM, is_mk rfl rfl⟩
          · clear hM; rintro t l ⟨x5_, hM, ⟨T, rfl⟩, rfl⟩
            unfold word_digit_k6 at hM
            refine A_cond (x5_) rfl (fun hc10 => ?_) (fun hc10 => ?_)
            · replace hM := ifp hc10 hM
              refine A_seq fun K11 hK11 => ?_
              refine A_reg ?_
              refine r_v (Value.int .u8 (c)) rfl rfl rfl rfl ?_
              refine r_v (Value.int .u8 ((IntKind.u8.wrap (c - 65)))) rfl rfl rfl rfl ?_
              replace hM := ck_some hM; obtain ⟨ck12, hM⟩ := hM
              refine r_w (Value.int .i64 ((IntKind.u8.wrap (c - 65)))) rfl rfl (wi64 rfl ck12.1 ck12.2) (fun _ => rfl) ?_
              replace hM := ck_some hM; obtain ⟨ck13, hM⟩ := hM
              refine r_v (Value.int .i64 (((IntKind.u8.wrap (c - 65)) + 10))) rfl rfl (wi64 rfl ck13.1 ck13.2) rfl ?_
              refine r_v (Value.int .i64 (((IntKind.u8.wrap (c - 65)) + 10))) rfl rfl rfl rfl ?_
              refine lx_nil ?_
              refine hK11 _ _ ?_; try clear hK11 K11
              obtain rfl := Option.some.inj hM
              refine A_ret (fun hn => ends_eq (v0 := Value.int .i64 (((IntKind.u8.wrap (c - 65)) + 10))) rfl (res1 rfl))
            · replace hM := ifn (Bool.eq_false_iff.1 hc10) hM
              refine A_skip ?_
              refine hK2 _ _ ?_; try clear hK2 K2
              refine A_seq fun K14 hK14 => ?_
              refine A_reg ?_
              refine r_v (Value.int .i64 (16)) rfl rfl rfl rfl ?_
              refine lx_nil ?_
              refine hK14 _ _ ?_; try clear hK14 K14
              obtain rfl := Option.some.inj hM
              refine A_ret (fun hn => ends_eq (v0 := Value.int .i64 (16)) rfl (res1 rfl))
def word_Parse_l5 (N : Nat) (s : List UInt8) (base : Int) : Nat → Bool → Int → BitVec 128 → BitVec 128 → Option ((BitVec 128) × Int)
  | 0, _, _, _, _ => none
  | n18 + 1, above1_, x2_, m3_, m4_ => if (x2_ : Int) < ((s).length : Int) then ck ((0 : Int) ≤ x2_ ∧ x2_ < ((s).length : Int)) ((word_digit_m N ((byteAt (s) (x2_)))).bind fun r26 => if (r26 : Int) ≥ base then some ((0#64) ++ (0#64), 4) else (word_behind_m N (m3_) (base) (r26)).bind fun r33 => if (above1_) = true then ck ((-9223372036854775808 ≤ (x2_ + 1) ∧ (x2_ + 1) ≤ 9223372036854775807)) ((word_Parse_l5 N s base n18) (true) ((x2_ + 1)) (r33.1) (m4_)) else ck ((-9223372036854775808 ≤ (x2_ + 1) ∧ (x2_ + 1) ≤ 9223372036854775807)) ((word_Parse_l5 N s base n18) (r33.2) ((x2_ + 1)) (r33.1) (m4_))) else if (above1_) = true then some ((0#64) ++ (0#64), 7) else some (m3_, 0)
def word_Parse_m (N : Nat) (s : List UInt8) (base : Int) : Option ((BitVec 128) × Int) := (word_mayBase_m N (base)).bind fun r5 => if (r5) = true then if (s) = ([]) then some ((0#64) ++ (0#64), 3) else word_Parse_l5 N s base N (false) (0) ((0#64) ++ (0#64)) ((0#64) ++ (0#64)) else some ((0#64) ++ (0#64), 1)
set_option maxRecDepth 100000 in
set_option maxHeartbeats 400000 in
theorem word_Parse_g (N : Nat) (s : List UInt8) (base : Int) (r : (BitVec 128) × Int) (hM : word_Parse_m N s base = some r) : Gives Tryd.prog 53 #[Value.string (⟨(s).toArray⟩), Value.int .i64 (base)] (Value.tuple #[Value.agg #[U (hi (r.1)), U (lo (r.1))], Value.int .i64 (r.2)]) := by
  unfold word_Parse_m at hM
  refine gives_of_A follows Tryd.func53 rfl 48 rfl (upd (upd (fun _ => undef) 1 (Value.int .i64 (base))) 0 (Value.string (⟨(s).toArray⟩))) (by funext k; match k with | 0 => rfl | 1 => rfl | k + 2 => rfl) (fun base0_ => ?_)
  refine A_seq fun K1 hK1 => ?_
  refine A_reg ?_
  refine r_a (82, #[U (0#64), U (0#64)]) rfl rfl rfl (fun b2 => ?_) (.inr rfl)
  refine r_v (Value.int .i64 (0)) rfl rfl rfl rfl ?_
  refine lx_nil ?_
  refine hK1 _ _ ?_; try clear hK1 K1
  refine A_seq fun K3 hK3 => ?_
  refine A_seq fun K4 hK4 => ?_
  refine A_reg ?_
  refine r_v (Value.int .i64 (base)) rfl rfl rfl rfl ?_
  replace hM := bind_sm hM; obtain ⟨r5, hr6, hM⟩ := hM
  refine r_c (Value.bool (r5)) rfl _ _ (ev_callF rfl call_60 rfl) (word_mayBase_g N (base) _ hr6) ?_
  refine r_v (Value.bool (!(r5))) rfl rfl rfl rfl ?_
  refine lx_nil ?_
  refine hK4 _ _ ?_; try clear hK4 K4
  refine A_cond (!(r5)) rfl (fun hc7 => ?_) (fun hc7 => ?_)
  · replace hM := ifn (Bool.eq_false_iff.1 (not_t hc7)) hM
    refine A_seq fun K8 hK8 => ?_
    refine A_reg ?_
    refine r_v (Value.agg #[U (0#64), U (0#64)]) rfl rfl rfl (ev_buildS rfl rfl rfl rfl) ?_
    refine r_s [(b2, 82, #[U (0#64), U (0#64)])] 0 _ _ _ (#[U (0#64), U (0#64)]) (#[U (0#64), U (0#64)]) (#[U (0#64), U (0#64)]) rfl rfl rfl rfl (.of rfl rfl) rfl rfl ?_
    refine r_v (Value.int .i64 (1)) rfl rfl rfl rfl ?_
    refine lx_nil ?_
    refine hK8 _ _ ?_; try clear hK8 K8
    obtain rfl := Option.some.inj hM
    refine A_ret (fun hn => ends_eq (v0 := Value.tuple #[Value.agg #[U (0#64), U (0#64)], Value.int .i64 (1)]) (by first | rfl | simp only [app_hl]) (res2 (res_cell hn 0 rfl rfl rfl) rfl))
  · replace hM := ifp (not_f hc7) hM
    refine A_skip ?_
    refine hK3 _ _ ?_; try clear hK3 K3
    refine A_seq fun K9 hK9 => ?_
    refine A_seq fun K10 hK10 => ?_
    refine A_reg ?_
    refine r_v (Value.string (⟨(s).toArray⟩)) rfl rfl rfl rfl ?_
    refine r_v (Value.bool ((s) == ([]))) rfl rfl rfl (ev_eqS rfl rfl) ?_
    refine lx_nil ?_
    refine hK10 _ _ ?_; try clear hK10 K10
    refine A_cond ((s) == ([])) rfl (fun hc11 => ?_) (fun hc11 => ?_)
    · replace hM := ifp (eq_of_beq hc11) hM
      refine A_seq fun K12 hK12 => ?_
      refine A_reg ?_
      refine r_v (Value.agg #[U (0#64), U (0#64)]) rfl rfl rfl (ev_buildS rfl rfl rfl rfl) ?_
      refine r_s [(b2, 82, #[U (0#64), U (0#64)])] 0 _ _ _ (#[U (0#64), U (0#64)]) (#[U (0#64), U (0#64)]) (#[U (0#64), U (0#64)]) rfl rfl rfl rfl (.of rfl rfl) rfl rfl ?_
      refine r_v (Value.int .i64 (3)) rfl rfl rfl rfl ?_
      refine lx_nil ?_
      refine hK12 _ _ ?_; try clear hK12 K12
      obtain rfl := Option.some.inj hM
      refine A_ret (fun hn => ends_eq (v0 := Value.tuple #[Value.agg #[U (0#64), U (0#64)], Value.int .i64 (3)]) (by first | rfl | simp only [app_hl]) (res2 (res_cell hn 0 rfl rfl rfl) rfl))
    · replace hM := ifn (ne_of_beq_false hc11) hM
      refine A_skip ?_
      refine hK9 _ _ ?_; try clear hK9 K9
      refine A_seq fun K13 hK13 => ?_
      refine A_reg ?_
      refine r_a (82, #[U (0#64), U (0#64)]) rfl rfl rfl (fun b14 => ?_) (.inr rfl)
      refine lx_nil ?_
      refine hK13 _ _ ?_; try clear hK13 K13
      refine A_seq fun K15 hK15 => ?_
      refine A_reg ?_
      refine r_v (Value.bool (false)) rfl rfl rfl rfl ?_
      refine lx_nil ?_
      refine hK15 _ _ ?_; try clear hK15 K15
      refine A_seq fun K16 hK16 => ?_
      refine A_seq fun K17 hK17 => ?_
      refine A_reg ?_
      refine r_v (Value.string (⟨(s).toArray⟩)) rfl rfl rfl rfl ?_
      refine r_v (Value.int .i64 (((s).length : Int))) rfl rfl rfl (ev_lenS rfl rfl rfl) ?_
      refine r_v (Value.int .i64 (0)) rfl rfl rfl rfl ?_
      refine lx_nil ?_
      refine hK17 _ _ ?_; try clear hK17 K17
      refine A_block ?_
      refine A_loop (fun tt ll nn => ∃ (n18 : Nat) (above1_ : Bool) (x2_ : Int) (m3_ : BitVec 128) (m4_ : BitVec 128), (word_Parse_l5 N s base n18 above1_ x2_ m3_ m4_ = some r) ∧ Is [(0, Value.string (⟨(s).toArray⟩)), (1, Value.int .i64 (base)), (4, Value.pointer (some ⟨b2, 0, none⟩)), (6, Value.pointer (some ⟨b14, 0, none⟩)), (7, Value.bool (above1_)), (20, Value.int .i64 (((s).length : Int))), (21, Value.int .i64 (x2_))] [(b14, 82, #[U (hi (m3_)), U (lo (m3_))]), (b2, 82, #[U (hi (m4_)), U (lo (m4_))])] tt ll ∧ nn = n18 + 1) (N + 1) ?_ ?_
      · exact ⟨N, false, 0, (0#64) ++ (0#64), (0#64) ++ (0#64), hM, is_mk rfl (by first | rfl | simp only [app_hl]), rfl⟩
      · clear hM; rintro t l _ ⟨n18, above1_, x2_, m3_, m4_, hM, ⟨⟨T, rfl⟩, rfl⟩, rfl⟩
        rcases n18 with _ | n18
        · exact absurd hM (by simp [word_Parse_l5])
        rw [word_Parse_l5] at hM
        refine A_seq fun K19 hK19 => ?_
        refine A_reg ?_
        refine r_v (Value.bool (decide ((x2_ : Int) < ((s).length : Int)))) rfl rfl rfl rfl ?_
        refine lx_nil ?_
        refine hK19 _ _ ?_; try clear hK19 K19
        refine A_seq fun K20 hK20 => ?_
        refine A_cond (decide ((x2_ : Int) < ((s).length : Int))) rfl (fun hc21 => ?_) (fun hc21 => ?_)
        · replace hM := ifp (of_decide_eq_true hc21) hM
          refine A_skip ?_
          refine hK20 _ _ ?_; try clear hK20 K20
          refine A_seq fun K22 hK22 => ?_
          refine A_block ?_
          refine A_seq fun K23 hK23 => ?_
          refine A_reg ?_
          refine r_v (Value.int .i64 (x2_)) rfl rfl rfl rfl ?_
          refine r_v (Value.int .i64 (x2_)) rfl rfl rfl rfl ?_
          refine lx_nil ?_
          refine hK23 _ _ ?_; try clear hK23 K23
          refine A_seq fun K24 hK24 => ?_
          refine A_reg ?_
          refine r_v (Value.string (⟨(s).toArray⟩)) rfl rfl rfl rfl ?_
          refine r_v (Value.int .i64 (x2_)) rfl rfl rfl rfl ?_
          replace hM := ck_some hM; obtain ⟨ck25, hM⟩ := hM
          refine r_v (Value.int .u8 ((byteAt (s) (x2_)))) rfl rfl rfl (ev_v (ev_indexS rfl ck25)) ?_
          replace hM := bind_sm hM; obtain ⟨r26, hr27, hM⟩ := hM
          refine r_c (Value.int .i64 (r26)) rfl _ _ (ev_callF rfl call_70 rfl) (word_digit_g N ((byteAt (s) (x2_))) _ hr27) ?_
          refine r_v (Value.int .i64 (r26)) rfl rfl rfl rfl ?_
          refine lx_nil ?_
          refine hK24 _ _ ?_; try clear hK24 K24
          refine A_seq fun K28 hK28 => ?_
          refine A_seq fun K29 hK29 => ?_
          refine A_reg ?_
          refine r_v (Value.int .i64 (r26)) rfl rfl rfl rfl ?_
          refine r_v (Value.int .i64 (base)) rfl rfl rfl rfl ?_
          refine r_v (Value.bool (decide ((r26 : Int) ≥ base))) rfl rfl rfl rfl ?_
          refine lx_nil ?_
          refine hK29 _ _ ?_; try clear hK29 K29
          refine A_cond (decide ((r26 : Int) ≥ base)) rfl (fun hc30 => ?_) (fun hc30 => ?_)
          · replace hM := ifp (of_decide_eq_true hc30) hM
            refine A_seq fun K31 hK31 => ?_
            refine A_reg ?_
            refine r_v (Value.agg #[U (0#64), U (0#64)]) rfl rfl rfl (ev_buildS rfl rfl rfl rfl) ?_
            refine r_s [(b14, 82, #[U (hi (m3_)), U (lo (m3_))]), (b2, 82, #[U (0#64), U (0#64)])] 1 _ _ _ (#[U (hi (m4_)), U (lo (m4_))]) (#[U (0#64), U (0#64)]) (#[U (0#64), U (0#64)]) rfl rfl rfl rfl (.of rfl rfl) rfl rfl ?_
            refine r_v (Value.int .i64 (4)) rfl rfl rfl rfl ?_
            refine lx_nil ?_
            refine hK31 _ _ ?_; try clear hK31 K31
            obtain rfl := Option.some.inj hM
            refine A_ret (fun hn => ends_eq (v0 := Value.tuple #[Value.agg #[U (0#64), U (0#64)], Value.int .i64 (4)]) (by first | rfl | simp only [app_hl]) (res2 (res_cell hn 1 rfl rfl rfl) rfl))
          · replace hM := ifn (of_decide_eq_false hc30) hM
            refine A_skip ?_
            refine hK28 _ _ ?_; try clear hK28 K28
            refine A_seq fun K32 hK32 => ?_
            refine A_reg ?_
            refine r_l (Value.agg #[U (hi (m3_)), U (lo (m3_))]) 0 _ _ _ _ rfl rfl rfl rfl rfl ?_
            refine r_v (Value.int .i64 (base)) rfl rfl rfl rfl ?_
            refine r_v (Value.int .i64 (r26)) rfl rfl rfl rfl ?_
            replace hM := bind_sm hM; obtain ⟨r33, hr34, hM⟩ := hM
            refine r_c (Value.tuple #[Value.agg #[U (hi (r33.1)), U (lo (r33.1))], Value.bool (r33.2)]) rfl _ _ (ev_callF rfl call_71 rfl) (word_behind_g N (m3_) (base) (r26) _ hr34) ?_
            refine r_v (Value.tuple #[Value.agg #[U (hi (r33.1)), U (lo (r33.1))], Value.bool (r33.2)]) rfl rfl rfl rfl ?_
            refine r_v (Value.agg #[U (hi (r33.1)), U (lo (r33.1))]) rfl rfl rfl rfl ?_
            refine r_v (Value.bool (r33.2)) rfl rfl rfl rfl ?_
            refine r_a (82, #[U (0#64), U (0#64)]) rfl rfl rfl (fun b35 => ?_) (.inr rfl)
            refine r_s [(b35, 82, #[U (hi (r33.1)), U (lo (r33.1))]), (b14, 82, #[U (hi (m3_)), U (lo (m3_))]), (b2, 82, #[U (hi (m4_)), U (lo (m4_))])] 0 _ _ _ (#[U (0#64), U (0#64)]) (#[U (hi (r33.1)), U (lo (r33.1))]) (#[U (hi (r33.1)), U (lo (r33.1))]) rfl rfl rfl rfl (.of rfl rfl) rfl rfl ?_
            refine r_v (Value.bool (r33.2)) rfl rfl rfl rfl ?_
            refine lx_nil ?_
            refine hK32 _ _ ?_; try clear hK32 K32
            refine A_reg ?_
            refine r_l (Value.agg #[U (hi (r33.1)), U (lo (r33.1))]) 0 _ _ _ _ rfl rfl rfl rfl rfl ?_
            refine r_v (Value.bool (above1_)) rfl rfl rfl rfl ?_
            refine r_v (Value.bool (above1_)) rfl rfl rfl rfl ?_
            rcases hg36 : (above1_) with _ | _
            · replace hM := ifn (Bool.eq_false_iff.1 hg36) hM
              refine r_y rfl ?_
              refine r_v (Value.bool (r33.2)) rfl rfl rfl rfl ?_
              refine r_v (Value.bool (r33.2)) rfl rfl rfl rfl ?_
              refine r_s [(b35, 82, #[U (hi (r33.1)), U (lo (r33.1))]), (b14, 82, #[U (hi (r33.1)), U (lo (r33.1))]), (b2, 82, #[U (hi (m4_)), U (lo (m4_))])] 1 _ _ _ (#[U (hi (m3_)), U (lo (m3_))]) (#[U (hi (r33.1)), U (lo (r33.1))]) (#[U (hi (r33.1)), U (lo (r33.1))]) rfl rfl rfl rfl (.of rfl rfl) rfl rfl ?_
              refine r_v (Value.bool (r33.2)) rfl rfl rfl rfl ?_
              refine lx_nil ?_
              refine hK22 _ _ ?_; try clear hK22 K22
              refine A_reg ?_
              replace hM := ck_some hM; obtain ⟨ck37, hM⟩ := hM
              refine r_v (Value.int .i64 ((x2_ + 1))) rfl rfl (wi64 rfl ck37.1 ck37.2) rfl ?_
              refine r_v (Value.int .i64 ((x2_ + 1))) rfl rfl rfl rfl ?_
              refine lx_nil ?_
              refine fg _ (Sub.of (List.Sublist.cons _ (List.Sublist.cons_cons _ (List.Sublist.cons_cons _ (List.Sublist.slnil))))) ?_
              exact ⟨n18 + 1, by omega, n18, r33.2, (x2_ + 1), r33.1, m4_, hM, is_mk rfl rfl, rfl⟩
            · replace hM := ifp hg36 hM
              refine r_n true rfl (by decide) rfl ?_
              refine r_v (Value.bool (true)) rfl rfl rfl rfl ?_
              refine r_s [(b35, 82, #[U (hi (r33.1)), U (lo (r33.1))]), (b14, 82, #[U (hi (r33.1)), U (lo (r33.1))]), (b2, 82, #[U (hi (m4_)), U (lo (m4_))])] 1 _ _ _ (#[U (hi (m3_)), U (lo (m3_))]) (#[U (hi (r33.1)), U (lo (r33.1))]) (#[U (hi (r33.1)), U (lo (r33.1))]) rfl rfl rfl rfl (.of rfl rfl) rfl rfl ?_
              refine r_v (Value.bool (true)) rfl rfl rfl rfl ?_
              refine lx_nil ?_
              refine hK22 _ _ ?_; try clear hK22 K22
              refine A_reg ?_
              replace hM := ck_some hM; obtain ⟨ck38, hM⟩ := hM
              refine r_v (Value.int .i64 ((x2_ + 1))) rfl rfl (wi64 rfl ck38.1 ck38.2) rfl ?_
              refine r_v (Value.int .i64 ((x2_ + 1))) rfl rfl rfl rfl ?_
              refine lx_nil ?_
              refine fg _ (Sub.of (List.Sublist.cons _ (List.Sublist.cons_cons _ (List.Sublist.cons_cons _ (List.Sublist.slnil))))) ?_
              exact ⟨n18 + 1, by omega, n18, true, (x2_ + 1), r33.1, m4_, hM, is_mk rfl rfl, rfl⟩
        · replace hM := ifn (of_decide_eq_false hc21) hM
          refine A_exit ?_
          refine hK16 _ _ ?_; try clear hK16 K16
          refine A_seq fun K39 hK39 => ?_
          refine A_seq fun K40 hK40 => ?_
          refine A_reg ?_
          refine r_v (Value.bool (above1_)) rfl rfl rfl rfl ?_
          refine lx_nil ?_
          refine hK40 _ _ ?_; try clear hK40 K40
          refine A_cond (above1_) rfl (fun hc41 => ?_) (fun hc41 => ?_)
          · replace hM := ifp hc41 hM
            refine A_seq fun K42 hK42 => ?_
            refine A_reg ?_
            refine r_v (Value.agg #[U (0#64), U (0#64)]) rfl rfl rfl (ev_buildS rfl rfl rfl rfl) ?_
            refine r_s [(b14, 82, #[U (hi (m3_)), U (lo (m3_))]), (b2, 82, #[U (0#64), U (0#64)])] 1 _ _ _ (#[U (hi (m4_)), U (lo (m4_))]) (#[U (0#64), U (0#64)]) (#[U (0#64), U (0#64)]) rfl rfl rfl rfl (.of rfl rfl) rfl rfl ?_
            refine r_v (Value.int .i64 (7)) rfl rfl rfl rfl ?_
            refine lx_nil ?_
            refine hK42 _ _ ?_; try clear hK42 K42
            obtain rfl := Option.some.inj hM
            refine A_ret (fun hn => ends_eq (v0 := Value.tuple #[Value.agg #[U (0#64), U (0#64)], Value.int .i64 (7)]) (by first | rfl | simp only [app_hl]) (res2 (res_cell hn 1 rfl rfl rfl) rfl))
          · replace hM := ifn (Bool.eq_false_iff.1 hc41) hM
            refine A_skip ?_
            refine hK39 _ _ ?_; try clear hK39 K39
            refine A_seq fun K43 hK43 => ?_
            refine A_reg ?_
            refine r_l (Value.agg #[U (hi (m3_)), U (lo (m3_))]) 0 _ _ _ _ rfl rfl rfl rfl rfl ?_
            refine r_s [(b14, 82, #[U (hi (m3_)), U (lo (m3_))]), (b2, 82, #[U (hi (m3_)), U (lo (m3_))])] 1 _ _ _ (#[U (hi (m4_)), U (lo (m4_))]) (#[U (hi (m3_)), U (lo (m3_))]) (#[U (hi (m3_)), U (lo (m3_))]) rfl rfl rfl rfl (.of rfl rfl) rfl rfl ?_
            refine r_v (Value.int .i64 (0)) rfl rfl rfl rfl ?_
            refine lx_nil ?_
            refine hK43 _ _ ?_; try clear hK43 K43
            obtain rfl := Option.some.inj hM
            refine A_ret (fun hn => ends_eq (v0 := Value.tuple #[Value.agg #[U (hi (m3_)), U (lo (m3_))], Value.int .i64 (0)]) rfl (res2 (res_cell hn 1 rfl rfl rfl) rfl))
def shunterref01_Halves_k6 (r' : BitVec 128) (lo2_ : BitVec 64) (i3_ : Int) (rec_shunterref01_Halves_l4 : BitVec 64 → BitVec 64 → Int → Option ((BitVec 64) × (BitVec 64))) (hi5_ : BitVec 64) : Option ((BitVec 64) × (BitVec 64)) := ck (0 ≤ i3_ ∧ i3_ < 128) (if ((r').getLsbD ((i3_).toNat)) = true then ck ((-9223372036854775808 ≤ (i3_ - 1) ∧ (i3_ - 1) ≤ 9223372036854775807)) (rec_shunterref01_Halves_l4 (hi5_) (((2#64 * lo2_) + 1#64)) ((i3_ - 1))) else ck ((-9223372036854775808 ≤ (i3_ - 1) ∧ (i3_ - 1) ≤ 9223372036854775807)) (rec_shunterref01_Halves_l4 (hi5_) ((2#64 * lo2_)) ((i3_ - 1))))
def shunterref01_Halves_l4 (r' : BitVec 128) : Nat → BitVec 64 → BitVec 64 → Int → Option ((BitVec 64) × (BitVec 64))
  | 0, _, _, _ => none
  | n6 + 1, hi1_, lo2_, i3_ => if (i3_ : Int) ≥ 0 then ck ((-9223372036854775808 ≤ (i3_ + 64) ∧ (i3_ + 64) ≤ 9223372036854775807)) (ck (0 ≤ (i3_ + 64) ∧ (i3_ + 64) < 128) (if ((r').getLsbD (((i3_ + 64)).toNat)) = true then shunterref01_Halves_k6 r' lo2_ i3_ (shunterref01_Halves_l4 r' n6) (((2#64 * hi1_) + 1#64)) else shunterref01_Halves_k6 r' lo2_ i3_ (shunterref01_Halves_l4 r' n6) ((2#64 * hi1_)))) else some (hi1_, lo2_)
def shunterref01_Halves_m (N : Nat) (r' : BitVec 128) : Option ((BitVec 64) × (BitVec 64)) := shunterref01_Halves_l4 r' N (0#64) (0#64) (63)
set_option maxRecDepth 100000 in
set_option maxHeartbeats 400000 in
theorem shunterref01_Halves_g (N : Nat) (r' : BitVec 128) (r : (BitVec 64) × (BitVec 64)) (hM : shunterref01_Halves_m N r' = some r) : Gives Tryd.prog 41 #[Value.agg (rowF (BitVec.getLsbD (r')))] (Value.tuple #[U (r.1), U (r.2)]) := by
  unfold shunterref01_Halves_m at hM
  refine gives_of_A follows Tryd.func41 rfl 28 rfl (upd (fun _ => undef) 0 (Value.agg (rowF (BitVec.getLsbD (r'))))) (by funext k; match k with | 0 => rfl | k + 1 => rfl) (fun base0_ => ?_)
  refine A_seq fun K1 hK1 => ?_
  refine A_reg ?_
  refine r_a (59, rowF (BitVec.getLsbD (r'))) rfl rfl rfl (fun b2 => ?_) (.inr rfl)
  refine r_v (U (0#64)) rfl rfl rfl rfl ?_
  refine r_v (U (0#64)) rfl rfl rfl rfl ?_
  refine lx_nil ?_
  refine hK1 _ _ ?_; try clear hK1 K1
  refine A_seq fun K3 hK3 => ?_
  refine A_reg ?_
  refine r_v (U (0#64)) rfl rfl rfl rfl ?_
  refine r_v (U (0#64)) rfl rfl rfl rfl ?_
  refine lx_nil ?_
  refine hK3 _ _ ?_; try clear hK3 K3
  refine A_seq fun K4 hK4 => ?_
  refine A_seq fun K5 hK5 => ?_
  refine A_reg ?_
  refine r_v (Value.int .i64 (63)) rfl rfl rfl rfl ?_
  refine lx_nil ?_
  refine hK5 _ _ ?_; try clear hK5 K5
  refine A_block ?_
  refine A_loop (fun tt ll nn => ∃ (n6 : Nat) (hi1_ : BitVec 64) (lo2_ : BitVec 64) (i3_ : Int), (shunterref01_Halves_l4 r' n6 hi1_ lo2_ i3_ = some r) ∧ Is [(1, Value.pointer (some ⟨b2, 0, none⟩)), (4, U (hi1_)), (5, U (lo2_)), (6, Value.int .i64 (i3_))] [(b2, 59, rowF (BitVec.getLsbD (r')))] tt ll ∧ nn = n6 + 1) (N + 1) ?_ ?_
  · exact ⟨N, 0#64, 0#64, 63, hM, is_mk rfl rfl, rfl⟩
  · clear hM; rintro t l _ ⟨n6, hi1_, lo2_, i3_, hM, ⟨⟨T, rfl⟩, rfl⟩, rfl⟩
    rcases n6 with _ | n6
    · exact absurd hM (by simp [shunterref01_Halves_l4])
    rw [shunterref01_Halves_l4] at hM
    refine A_seq fun K7 hK7 => ?_
    refine A_seq fun K8 hK8 => ?_
    refine A_reg ?_
    refine r_v (Value.int .i64 (i3_)) rfl rfl rfl rfl ?_
    refine r_v (Value.bool (decide ((i3_ : Int) ≥ 0))) rfl rfl rfl rfl ?_
    refine lx_nil ?_
    refine hK8 _ _ ?_; try clear hK8 K8
    refine A_cond (decide ((i3_ : Int) ≥ 0)) rfl (fun hc9 => ?_) (fun hc9 => ?_)
    · replace hM := ifp (of_decide_eq_true hc9) hM
      refine A_skip ?_
      refine hK7 _ _ ?_; try clear hK7 K7
      refine A_seq fun K10 hK10 => ?_
      refine A_block ?_
      refine A_seq fun K11 hK11 => ?_
      refine A_reg ?_
      refine r_v (U (hi1_)) rfl rfl rfl rfl ?_
      refine r_v (U ((2#64 * hi1_))) rfl rfl (U_mul (2#64) (hi1_)) rfl ?_
      refine r_v (U ((2#64 * hi1_))) rfl rfl rfl rfl ?_
      refine lx_nil ?_
      refine hK11 _ _ ?_; try clear hK11 K11
      refine A_seq fun K12 hK12 => ?_
      refine A_reg ?_
      refine r_v (U (lo2_)) rfl rfl rfl rfl ?_
      refine r_v (U ((2#64 * lo2_))) rfl rfl (U_mul (2#64) (lo2_)) rfl ?_
      refine r_v (U ((2#64 * lo2_))) rfl rfl rfl rfl ?_
      refine lx_nil ?_
      refine hK12 _ _ ?_; try clear hK12 K12
      refine A_cut (fun tt ll => ∃ (hi5_ : BitVec 64), (shunterref01_Halves_k6 r' lo2_ i3_ (shunterref01_Halves_l4 r' n6) hi5_ = some r) ∧ Is [(1, Value.pointer (some ⟨b2, 0, none⟩)), (4, U (hi5_)), (5, U ((2#64 * lo2_))), (6, Value.int .i64 (i3_))] [(b2, 59, rowF (BitVec.getLsbD (r')))] tt ll) ?_ ?_
      · refine A_seq fun K19 hK19 => ?_
        refine A_reg ?_
        refine r_v (Value.int .i64 (i3_)) rfl rfl rfl rfl ?_
        replace hM := ck_some hM; obtain ⟨ck20, hM⟩ := hM
        refine r_v (Value.int .i64 ((i3_ + 64))) rfl rfl (wi64 rfl ck20.1 ck20.2) rfl ?_
        replace hM := ck_some hM; obtain ⟨ck21, hM⟩ := hM
        have hx22 := fun c => ev_v (ev_idxI (P := Tryd.prog) (c := c) (t := 59) (b := b2) (off := 0) (k := .i64) rfl rfl rfl ck21)
        simp only [Nat.zero_add] at hx22
        have ck21n : ((i3_ + 64)).toNat < 128 := by omega
        refine r_v (Value.pointer (some ⟨b2, ((i3_ + 64)).toNat, none⟩)) rfl rfl rfl (hx22 _) ?_
        refine r_l (Value.bool ((r').getLsbD (((i3_ + 64)).toNat))) 0 _ _ _ _ rfl rfl rfl rfl (ld_row1 rfl _ ck21n) ?_
        refine lx_nil ?_
        refine hK19 _ _ ?_; try clear hK19 K19
        refine A_cond ((r').getLsbD (((i3_ + 64)).toNat)) rfl (fun hc23 => ?_) (fun hc23 => ?_)
        · replace hM := ifp hc23 hM
          refine A_reg ?_
          refine r_v (U ((2#64 * hi1_))) rfl rfl rfl rfl ?_
          refine r_v (U (((2#64 * hi1_) + 1#64))) rfl rfl (U_add ((2#64 * hi1_)) (1#64)) rfl ?_
          refine r_v (U (((2#64 * hi1_) + 1#64))) rfl rfl rfl rfl ?_
          refine lx_nil ?_
          refine fg _ (Sub.of (List.Sublist.cons_cons _ (List.Sublist.slnil))) ?_
          exact ⟨((2#64 * hi1_) + 1#64), hM, is_mk rfl rfl⟩
        · replace hM := ifn (Bool.eq_false_iff.1 hc23) hM
          refine A_skip ?_
          refine fg _ (Sub.of (List.Sublist.cons_cons _ (List.Sublist.slnil))) ?_
          exact ⟨(2#64 * hi1_), hM, is_mk rfl rfl⟩
      · clear hM; rintro t l ⟨hi5_, hM, ⟨T, rfl⟩, rfl⟩
        unfold shunterref01_Halves_k6 at hM
        refine A_seq fun K13 hK13 => ?_
        refine A_reg ?_
        refine r_v (Value.int .i64 (i3_)) rfl rfl rfl rfl ?_
        replace hM := ck_some hM; obtain ⟨ck14, hM⟩ := hM
        have hx15 := fun c => ev_v (ev_idxI (P := Tryd.prog) (c := c) (t := 59) (b := b2) (off := 0) (k := .i64) rfl rfl rfl ck14)
        simp only [Nat.zero_add] at hx15
        have ck14n : (i3_).toNat < 128 := by omega
        refine r_v (Value.pointer (some ⟨b2, (i3_).toNat, none⟩)) rfl rfl rfl (hx15 _) ?_
        refine r_l (Value.bool ((r').getLsbD ((i3_).toNat))) 0 _ _ _ _ rfl rfl rfl rfl (ld_row1 rfl _ ck14n) ?_
        refine lx_nil ?_
        refine hK13 _ _ ?_; try clear hK13 K13
        refine A_cond ((r').getLsbD ((i3_).toNat)) rfl (fun hc16 => ?_) (fun hc16 => ?_)
        · replace hM := ifp hc16 hM
          refine A_reg ?_
          refine r_v (U ((2#64 * lo2_))) rfl rfl rfl rfl ?_
          refine r_v (U (((2#64 * lo2_) + 1#64))) rfl rfl (U_add ((2#64 * lo2_)) (1#64)) rfl ?_
          refine r_v (U (((2#64 * lo2_) + 1#64))) rfl rfl rfl rfl ?_
          refine lx_nil ?_
          refine hK10 _ _ ?_; try clear hK10 K10
          refine A_reg ?_
          refine r_v (Value.int .i64 (i3_)) rfl rfl rfl rfl ?_
          replace hM := ck_some hM; obtain ⟨ck17, hM⟩ := hM
          refine r_v (Value.int .i64 ((i3_ - 1))) rfl rfl (wi64 rfl ck17.1 ck17.2) rfl ?_
          refine r_v (Value.int .i64 ((i3_ - 1))) rfl rfl rfl rfl ?_
          refine lx_nil ?_
          refine fg _ (Sub.of (List.Sublist.cons_cons _ (List.Sublist.slnil))) ?_
          exact ⟨n6 + 1, by omega, n6, hi5_, ((2#64 * lo2_) + 1#64), (i3_ - 1), hM, is_mk rfl rfl, rfl⟩
        · replace hM := ifn (Bool.eq_false_iff.1 hc16) hM
          refine A_skip ?_
          refine hK10 _ _ ?_; try clear hK10 K10
          refine A_reg ?_
          refine r_v (Value.int .i64 (i3_)) rfl rfl rfl rfl ?_
          replace hM := ck_some hM; obtain ⟨ck18, hM⟩ := hM
          refine r_v (Value.int .i64 ((i3_ - 1))) rfl rfl (wi64 rfl ck18.1 ck18.2) rfl ?_
          refine r_v (Value.int .i64 ((i3_ - 1))) rfl rfl rfl rfl ?_
          refine lx_nil ?_
          refine fg _ (Sub.of (List.Sublist.cons_cons _ (List.Sublist.slnil))) ?_
          exact ⟨n6 + 1, by omega, n6, hi5_, (2#64 * lo2_), (i3_ - 1), hM, is_mk rfl rfl, rfl⟩
    · replace hM := ifn (of_decide_eq_false hc9) hM
      refine A_exit ?_
      refine hK4 _ _ ?_; try clear hK4 K4
      refine A_seq fun K24 hK24 => ?_
      refine A_reg ?_
      refine r_v (U (hi1_)) rfl rfl rfl rfl ?_
      refine r_v (U (lo2_)) rfl rfl rfl rfl ?_
      refine r_v (U (hi1_)) rfl rfl rfl rfl ?_
      refine r_v (U (lo2_)) rfl rfl rfl rfl ?_
      refine lx_nil ?_
      refine hK24 _ _ ?_; try clear hK24 K24
      obtain rfl := Option.some.inj hM
      refine A_ret (fun hn => ends_eq (v0 := Value.tuple #[U (hi1_), U (lo2_)]) rfl (res2 rfl rfl))
def shunterref01_small_m (_ : Nat) (n : Int) : Option (BitVec 128) := some ((0#64) ++ (BitVec.ofInt 64 (n)))
set_option maxRecDepth 100000 in
set_option maxHeartbeats 400000 in
theorem shunterref01_small_g (N : Nat) (n : Int) (r : BitVec 128) (hM : shunterref01_small_m N n = some r) : Gives Tryd.prog 40 #[Value.int .i64 (n)] (Value.agg (rowF (BitVec.getLsbD (r)))) := by
  unfold shunterref01_small_m at hM
  refine gives_of_A follows Tryd.func40 rfl 6 rfl (upd (fun _ => undef) 0 (Value.int .i64 (n))) (by funext k; match k with | 0 => rfl | k + 1 => rfl) (fun base0_ => ?_)
  refine A_seq fun K1 hK1 => ?_
  refine A_reg ?_
  refine r_a (59, rowF (BitVec.getLsbD (0#128))) rfl rfl ((zrow z_59).trans (congrArg (fun x => some (59, x)) row_zero)) (fun b2 => ?_) (.inr rfl)
  refine lx_nil ?_
  refine hK1 _ _ ?_; try clear hK1 K1
  refine A_seq fun K3 hK3 => ?_
  refine A_reg ?_
  refine r_v (Value.int .i64 (n)) rfl rfl rfl rfl ?_
  refine r_w (U (BitVec.ofInt 64 (n))) rfl rfl (U_wrapI (n)) (fun _ => rfl) ?_
  refine r_c (Value.agg (rowF (BitVec.getLsbD ((0#64) ++ (BitVec.ofInt 64 (n)))))) rfl _ _ (ev_callF rfl call_22 rfl) (of_g (0#64) (BitVec.ofInt 64 (n))) ?_
  refine r_s [(b2, 59, rowF (BitVec.getLsbD ((0#64) ++ (BitVec.ofInt 64 (n)))))] 0 _ _ _ (rowF (BitVec.getLsbD (0#128))) (rowF (BitVec.getLsbD ((0#64) ++ (BitVec.ofInt 64 (n))))) (rowF (BitVec.getLsbD ((0#64) ++ (BitVec.ofInt 64 (n))))) rfl rfl rfl rfl (stok_rows rfl rfl _ _) (splice_rows _ _) rfl ?_
  refine lx_nil ?_
  refine hK3 _ _ ?_; try clear hK3 K3
  obtain rfl := Option.some.inj hM
  refine A_ret (fun hn => ends_eq (v0 := Value.agg (rowF (BitVec.getLsbD ((0#64) ++ (BitVec.ofInt 64 (n)))))) rfl (res1 (res_cell hn 0 rfl rfl (ld_rows rfl rfl rfl _))))
end Go.Proofs.YtmdjifehblijkaaDoor
