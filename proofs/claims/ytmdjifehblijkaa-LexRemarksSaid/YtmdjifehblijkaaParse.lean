/- models of functions and their walks -/
import Derived.Test.YtmdjifehblijkaaMd
import Derived.Test.YtmdjifehblijkaaMove
import Derived.Test.YtmdjifehblijkaaReft
import Derived.Test.YtmdjifehblijkaaSr
namespace Go.Proofs.Ytmdjifehblijkaa
open Go Go.RowKit Go.Eng
def word_behind_m (_ : Nat) (a : BitVec 128) (base : Int) (d : Int) : Option ((BitVec 128) × Bool) := if (mh (hi (a)) (BitVec.ofInt 64 (base))) ≠ (0#64) then some (((((hi (a)) * (BitVec.ofInt 64 (base))) ++ ((lo (a)) * (BitVec.ofInt 64 (base)))) + ((mh (lo (a)) (BitVec.ofInt 64 (base))) ++ (0#64))) + ((0#64) ++ (BitVec.ofInt 64 (d))), true) else if (BitVec.carry 128 (((hi (a)) * (BitVec.ofInt 64 (base))) ++ ((lo (a)) * (BitVec.ofInt 64 (base)))) ((mh (lo (a)) (BitVec.ofInt 64 (base))) ++ (0#64)) false) = true then some (((((hi (a)) * (BitVec.ofInt 64 (base))) ++ ((lo (a)) * (BitVec.ofInt 64 (base)))) + ((mh (lo (a)) (BitVec.ofInt 64 (base))) ++ (0#64))) + ((0#64) ++ (BitVec.ofInt 64 (d))), true) else some (((((hi (a)) * (BitVec.ofInt 64 (base))) ++ ((lo (a)) * (BitVec.ofInt 64 (base)))) + ((mh (lo (a)) (BitVec.ofInt 64 (base))) ++ (0#64))) + ((0#64) ++ (BitVec.ofInt 64 (d))), BitVec.carry 128 ((((hi (a)) * (BitVec.ofInt 64 (base))) ++ ((lo (a)) * (BitVec.ofInt 64 (base)))) + ((mh (lo (a)) (BitVec.ofInt 64 (base))) ++ (0#64))) ((0#64) ++ (BitVec.ofInt 64 (d))) false)
set_option maxRecDepth 100000 in
set_option maxHeartbeats 400000 in
theorem word_behind_g (N : Nat) (a : BitVec 128) (base : Int) (d : Int) (r : (BitVec 128) × Bool) (hM : word_behind_m N a base d = some r) : Gives Try.prog 58 #[Value.agg #[U (hi (a)), U (lo (a))], Value.int .i64 (base), Value.int .i64 (d)] (Value.tuple #[Value.agg #[U (hi (r.1)), U (lo (r.1))], Value.bool (r.2)]) := by
  unfold word_behind_m at hM
  refine gives_of_A follows Try.func58 rfl 58 rfl (upd (upd (upd (fun _ => undef) 2 (Value.int .i64 (d))) 1 (Value.int .i64 (base))) 0 (Value.agg #[U (hi (a)), U (lo (a))])) (by funext k; match k with | 0 => rfl | 1 => rfl | 2 => rfl | k + 3 => rfl) (fun base0_ => ?_)
  refine A_seq fun K1 hK1 => ?_
  refine A_reg ?_
  refine r_a (81, #[U (hi (a)), U (lo (a))]) rfl rfl rfl (fun b2 => ?_) (.inr rfl)
  refine r_a (81, #[U (0#64), U (0#64)]) rfl rfl rfl (fun b3 => ?_) (.inr rfl)
  refine r_v (Value.bool (false)) rfl rfl rfl rfl ?_
  refine lx_nil ?_
  refine hK1 _ _ ?_; try clear hK1 K1
  refine A_seq fun K4 hK4 => ?_
  refine A_reg ?_
  refine r_v (Value.pointer (some ⟨b2, 1, none⟩)) rfl rfl rfl rfl ?_
  refine r_l (U (lo (a))) 1 _ _ _ _ rfl rfl rfl rfl rfl ?_
  refine r_v (Value.int .i64 (base)) rfl rfl rfl rfl ?_
  refine r_w (U (BitVec.ofInt 64 (base))) rfl rfl (U_wrapI (base)) (fun _ => rfl) ?_
  refine r_c (Value.tuple #[U (mh (lo (a)) (BitVec.ofInt 64 (base))), U ((lo (a)) * (BitVec.ofInt 64 (base)))]) rfl _ _ (ev_callF rfl call_67 rfl) (mul64_g (lo (a)) (BitVec.ofInt 64 (base))) ?_
  refine r_v (Value.tuple #[U (mh (lo (a)) (BitVec.ofInt 64 (base))), U ((lo (a)) * (BitVec.ofInt 64 (base)))]) rfl rfl rfl rfl ?_
  refine r_v (U (mh (lo (a)) (BitVec.ofInt 64 (base)))) rfl rfl rfl rfl ?_
  refine r_v (U ((lo (a)) * (BitVec.ofInt 64 (base)))) rfl rfl rfl rfl ?_
  refine r_v (U (mh (lo (a)) (BitVec.ofInt 64 (base)))) rfl rfl rfl rfl ?_
  refine r_v (U ((lo (a)) * (BitVec.ofInt 64 (base)))) rfl rfl rfl rfl ?_
  refine lx_nil ?_
  refine hK4 _ _ ?_; try clear hK4 K4
  refine A_seq fun K5 hK5 => ?_
  refine A_reg ?_
  refine r_v (Value.pointer (some ⟨b2, 0, none⟩)) rfl rfl rfl rfl ?_
  refine r_l (U (hi (a))) 1 _ _ _ _ rfl rfl rfl rfl rfl ?_
  refine r_v (Value.int .i64 (base)) rfl rfl rfl rfl ?_
  refine r_w (U (BitVec.ofInt 64 (base))) rfl rfl (U_wrapI (base)) (fun _ => rfl) ?_
  refine r_c (Value.tuple #[U (mh (hi (a)) (BitVec.ofInt 64 (base))), U ((hi (a)) * (BitVec.ofInt 64 (base)))]) rfl _ _ (ev_callF rfl call_67 rfl) (mul64_g (hi (a)) (BitVec.ofInt 64 (base))) ?_
  refine r_v (Value.tuple #[U (mh (hi (a)) (BitVec.ofInt 64 (base))), U ((hi (a)) * (BitVec.ofInt 64 (base)))]) rfl rfl rfl rfl ?_
  refine r_v (U (mh (hi (a)) (BitVec.ofInt 64 (base)))) rfl rfl rfl rfl ?_
  refine r_v (U ((hi (a)) * (BitVec.ofInt 64 (base)))) rfl rfl rfl rfl ?_
  refine r_v (U (mh (hi (a)) (BitVec.ofInt 64 (base)))) rfl rfl rfl rfl ?_
  refine r_v (U ((hi (a)) * (BitVec.ofInt 64 (base)))) rfl rfl rfl rfl ?_
  refine lx_nil ?_
  refine hK5 _ _ ?_; try clear hK5 K5
  refine A_seq fun K6 hK6 => ?_
  refine A_reg ?_
  refine r_v (U ((hi (a)) * (BitVec.ofInt 64 (base)))) rfl rfl rfl rfl ?_
  refine r_v (U ((lo (a)) * (BitVec.ofInt 64 (base)))) rfl rfl rfl rfl ?_
  refine r_v (Value.agg #[U ((hi (a)) * (BitVec.ofInt 64 (base))), U ((lo (a)) * (BitVec.ofInt 64 (base)))]) rfl rfl rfl (ev_buildS rfl rfl rfl rfl) ?_
  refine r_v (U (mh (lo (a)) (BitVec.ofInt 64 (base)))) rfl rfl rfl rfl ?_
  refine r_v (Value.agg #[U (mh (lo (a)) (BitVec.ofInt 64 (base))), U (0#64)]) rfl rfl rfl (ev_buildS rfl rfl rfl rfl) ?_
  refine r_c (Value.tuple #[Value.agg #[U (hi ((((hi (a)) * (BitVec.ofInt 64 (base))) ++ ((lo (a)) * (BitVec.ofInt 64 (base)))) + ((mh (lo (a)) (BitVec.ofInt 64 (base))) ++ (0#64)))), U (lo ((((hi (a)) * (BitVec.ofInt 64 (base))) ++ ((lo (a)) * (BitVec.ofInt 64 (base)))) + ((mh (lo (a)) (BitVec.ofInt 64 (base))) ++ (0#64))))], Value.bool (BitVec.carry 128 (((hi (a)) * (BitVec.ofInt 64 (base))) ++ ((lo (a)) * (BitVec.ofInt 64 (base)))) ((mh (lo (a)) (BitVec.ofInt 64 (base))) ++ (0#64)) false)]) rfl _ _ (ev_callF rfl call_68 rfl) (by have h_ := (add_g (((hi (a)) * (BitVec.ofInt 64 (base))) ++ ((lo (a)) * (BitVec.ofInt 64 (base)))) ((mh (lo (a)) (BitVec.ofInt 64 (base))) ++ (0#64))); simp only [app_hl] at h_; exact h_) ?_
  refine r_v (Value.tuple #[Value.agg #[U (hi ((((hi (a)) * (BitVec.ofInt 64 (base))) ++ ((lo (a)) * (BitVec.ofInt 64 (base)))) + ((mh (lo (a)) (BitVec.ofInt 64 (base))) ++ (0#64)))), U (lo ((((hi (a)) * (BitVec.ofInt 64 (base))) ++ ((lo (a)) * (BitVec.ofInt 64 (base)))) + ((mh (lo (a)) (BitVec.ofInt 64 (base))) ++ (0#64))))], Value.bool (BitVec.carry 128 (((hi (a)) * (BitVec.ofInt 64 (base))) ++ ((lo (a)) * (BitVec.ofInt 64 (base)))) ((mh (lo (a)) (BitVec.ofInt 64 (base))) ++ (0#64)) false)]) rfl rfl rfl rfl ?_
  refine r_v (Value.agg #[U (hi ((((hi (a)) * (BitVec.ofInt 64 (base))) ++ ((lo (a)) * (BitVec.ofInt 64 (base)))) + ((mh (lo (a)) (BitVec.ofInt 64 (base))) ++ (0#64)))), U (lo ((((hi (a)) * (BitVec.ofInt 64 (base))) ++ ((lo (a)) * (BitVec.ofInt 64 (base)))) + ((mh (lo (a)) (BitVec.ofInt 64 (base))) ++ (0#64))))]) rfl rfl rfl rfl ?_
  refine r_v (Value.bool (BitVec.carry 128 (((hi (a)) * (BitVec.ofInt 64 (base))) ++ ((lo (a)) * (BitVec.ofInt 64 (base)))) ((mh (lo (a)) (BitVec.ofInt 64 (base))) ++ (0#64)) false)) rfl rfl rfl rfl ?_
  refine r_a (81, #[U (0#64), U (0#64)]) rfl rfl rfl (fun b7 => ?_) (.inr rfl)
  refine r_s [(b7, 81, #[U (hi ((((hi (a)) * (BitVec.ofInt 64 (base))) ++ ((lo (a)) * (BitVec.ofInt 64 (base)))) + ((mh (lo (a)) (BitVec.ofInt 64 (base))) ++ (0#64)))), U (lo ((((hi (a)) * (BitVec.ofInt 64 (base))) ++ ((lo (a)) * (BitVec.ofInt 64 (base)))) + ((mh (lo (a)) (BitVec.ofInt 64 (base))) ++ (0#64))))]), (b3, 81, #[U (0#64), U (0#64)]), (b2, 81, #[U (hi (a)), U (lo (a))])] 0 _ _ _ (#[U (0#64), U (0#64)]) (#[U (hi ((((hi (a)) * (BitVec.ofInt 64 (base))) ++ ((lo (a)) * (BitVec.ofInt 64 (base)))) + ((mh (lo (a)) (BitVec.ofInt 64 (base))) ++ (0#64)))), U (lo ((((hi (a)) * (BitVec.ofInt 64 (base))) ++ ((lo (a)) * (BitVec.ofInt 64 (base)))) + ((mh (lo (a)) (BitVec.ofInt 64 (base))) ++ (0#64))))]) (#[U (hi ((((hi (a)) * (BitVec.ofInt 64 (base))) ++ ((lo (a)) * (BitVec.ofInt 64 (base)))) + ((mh (lo (a)) (BitVec.ofInt 64 (base))) ++ (0#64)))), U (lo ((((hi (a)) * (BitVec.ofInt 64 (base))) ++ ((lo (a)) * (BitVec.ofInt 64 (base)))) + ((mh (lo (a)) (BitVec.ofInt 64 (base))) ++ (0#64))))]) rfl rfl rfl rfl (.of rfl rfl) rfl rfl ?_
  refine r_v (Value.bool (BitVec.carry 128 (((hi (a)) * (BitVec.ofInt 64 (base))) ++ ((lo (a)) * (BitVec.ofInt 64 (base)))) ((mh (lo (a)) (BitVec.ofInt 64 (base))) ++ (0#64)) false)) rfl rfl rfl rfl ?_
  refine lx_nil ?_
  refine hK6 _ _ ?_; try clear hK6 K6
  refine A_gen [(2, Value.int .i64 (d)), (6, Value.pointer (some ⟨b3, 0, none⟩)), (10, U (mh (hi (a)) (BitVec.ofInt 64 (base)))), (12, Value.pointer (some ⟨b7, 0, none⟩)), (13, Value.bool (BitVec.carry 128 (((hi (a)) * (BitVec.ofInt 64 (base))) ++ ((lo (a)) * (BitVec.ofInt 64 (base)))) ((mh (lo (a)) (BitVec.ofInt 64 (base))) ++ (0#64)) false))] rfl (fun T => ?_)
  refine A_seq fun K8 hK8 => ?_
  refine A_reg ?_
  refine r_l (Value.agg #[U (hi ((((hi (a)) * (BitVec.ofInt 64 (base))) ++ ((lo (a)) * (BitVec.ofInt 64 (base)))) + ((mh (lo (a)) (BitVec.ofInt 64 (base))) ++ (0#64)))), U (lo ((((hi (a)) * (BitVec.ofInt 64 (base))) ++ ((lo (a)) * (BitVec.ofInt 64 (base)))) + ((mh (lo (a)) (BitVec.ofInt 64 (base))) ++ (0#64))))]) 0 _ _ _ _ rfl rfl rfl rfl rfl ?_
  refine r_v (Value.int .i64 (d)) rfl rfl rfl rfl ?_
  refine r_w (U (BitVec.ofInt 64 (d))) rfl rfl (U_wrapI (d)) (fun _ => rfl) ?_
  refine r_v (Value.agg #[U (0#64), U (BitVec.ofInt 64 (d))]) rfl rfl rfl (ev_buildS rfl rfl rfl rfl) ?_
  refine r_c (Value.tuple #[Value.agg #[U (hi (((((hi (a)) * (BitVec.ofInt 64 (base))) ++ ((lo (a)) * (BitVec.ofInt 64 (base)))) + ((mh (lo (a)) (BitVec.ofInt 64 (base))) ++ (0#64))) + ((0#64) ++ (BitVec.ofInt 64 (d))))), U (lo (((((hi (a)) * (BitVec.ofInt 64 (base))) ++ ((lo (a)) * (BitVec.ofInt 64 (base)))) + ((mh (lo (a)) (BitVec.ofInt 64 (base))) ++ (0#64))) + ((0#64) ++ (BitVec.ofInt 64 (d)))))], Value.bool (BitVec.carry 128 ((((hi (a)) * (BitVec.ofInt 64 (base))) ++ ((lo (a)) * (BitVec.ofInt 64 (base)))) + ((mh (lo (a)) (BitVec.ofInt 64 (base))) ++ (0#64))) ((0#64) ++ (BitVec.ofInt 64 (d))) false)]) rfl _ _ (ev_callF rfl call_68 rfl) (by have h_ := (add_g ((((hi (a)) * (BitVec.ofInt 64 (base))) ++ ((lo (a)) * (BitVec.ofInt 64 (base)))) + ((mh (lo (a)) (BitVec.ofInt 64 (base))) ++ (0#64))) ((0#64) ++ (BitVec.ofInt 64 (d)))); simp only [app_hl] at h_; exact h_) ?_
  refine r_v (Value.tuple #[Value.agg #[U (hi (((((hi (a)) * (BitVec.ofInt 64 (base))) ++ ((lo (a)) * (BitVec.ofInt 64 (base)))) + ((mh (lo (a)) (BitVec.ofInt 64 (base))) ++ (0#64))) + ((0#64) ++ (BitVec.ofInt 64 (d))))), U (lo (((((hi (a)) * (BitVec.ofInt 64 (base))) ++ ((lo (a)) * (BitVec.ofInt 64 (base)))) + ((mh (lo (a)) (BitVec.ofInt 64 (base))) ++ (0#64))) + ((0#64) ++ (BitVec.ofInt 64 (d)))))], Value.bool (BitVec.carry 128 ((((hi (a)) * (BitVec.ofInt 64 (base))) ++ ((lo (a)) * (BitVec.ofInt 64 (base)))) + ((mh (lo (a)) (BitVec.ofInt 64 (base))) ++ (0#64))) ((0#64) ++ (BitVec.ofInt 64 (d))) false)]) rfl rfl rfl rfl ?_
  refine r_v (Value.agg #[U (hi (((((hi (a)) * (BitVec.ofInt 64 (base))) ++ ((lo (a)) * (BitVec.ofInt 64 (base)))) + ((mh (lo (a)) (BitVec.ofInt 64 (base))) ++ (0#64))) + ((0#64) ++ (BitVec.ofInt 64 (d))))), U (lo (((((hi (a)) * (BitVec.ofInt 64 (base))) ++ ((lo (a)) * (BitVec.ofInt 64 (base)))) + ((mh (lo (a)) (BitVec.ofInt 64 (base))) ++ (0#64))) + ((0#64) ++ (BitVec.ofInt 64 (d)))))]) rfl rfl rfl rfl ?_
  refine r_v (Value.bool (BitVec.carry 128 ((((hi (a)) * (BitVec.ofInt 64 (base))) ++ ((lo (a)) * (BitVec.ofInt 64 (base)))) + ((mh (lo (a)) (BitVec.ofInt 64 (base))) ++ (0#64))) ((0#64) ++ (BitVec.ofInt 64 (d))) false)) rfl rfl rfl rfl ?_
  refine r_a (81, #[U (0#64), U (0#64)]) rfl rfl rfl (fun b9 => ?_) (.inr rfl)
  refine r_s [(b9, 81, #[U (hi (((((hi (a)) * (BitVec.ofInt 64 (base))) ++ ((lo (a)) * (BitVec.ofInt 64 (base)))) + ((mh (lo (a)) (BitVec.ofInt 64 (base))) ++ (0#64))) + ((0#64) ++ (BitVec.ofInt 64 (d))))), U (lo (((((hi (a)) * (BitVec.ofInt 64 (base))) ++ ((lo (a)) * (BitVec.ofInt 64 (base)))) + ((mh (lo (a)) (BitVec.ofInt 64 (base))) ++ (0#64))) + ((0#64) ++ (BitVec.ofInt 64 (d)))))]), (b7, 81, #[U (hi ((((hi (a)) * (BitVec.ofInt 64 (base))) ++ ((lo (a)) * (BitVec.ofInt 64 (base)))) + ((mh (lo (a)) (BitVec.ofInt 64 (base))) ++ (0#64)))), U (lo ((((hi (a)) * (BitVec.ofInt 64 (base))) ++ ((lo (a)) * (BitVec.ofInt 64 (base)))) + ((mh (lo (a)) (BitVec.ofInt 64 (base))) ++ (0#64))))]), (b3, 81, #[U (0#64), U (0#64)]), (b2, 81, #[U (hi (a)), U (lo (a))])] 0 _ _ _ (#[U (0#64), U (0#64)]) (#[U (hi (((((hi (a)) * (BitVec.ofInt 64 (base))) ++ ((lo (a)) * (BitVec.ofInt 64 (base)))) + ((mh (lo (a)) (BitVec.ofInt 64 (base))) ++ (0#64))) + ((0#64) ++ (BitVec.ofInt 64 (d))))), U (lo (((((hi (a)) * (BitVec.ofInt 64 (base))) ++ ((lo (a)) * (BitVec.ofInt 64 (base)))) + ((mh (lo (a)) (BitVec.ofInt 64 (base))) ++ (0#64))) + ((0#64) ++ (BitVec.ofInt 64 (d)))))]) (#[U (hi (((((hi (a)) * (BitVec.ofInt 64 (base))) ++ ((lo (a)) * (BitVec.ofInt 64 (base)))) + ((mh (lo (a)) (BitVec.ofInt 64 (base))) ++ (0#64))) + ((0#64) ++ (BitVec.ofInt 64 (d))))), U (lo (((((hi (a)) * (BitVec.ofInt 64 (base))) ++ ((lo (a)) * (BitVec.ofInt 64 (base)))) + ((mh (lo (a)) (BitVec.ofInt 64 (base))) ++ (0#64))) + ((0#64) ++ (BitVec.ofInt 64 (d)))))]) rfl rfl rfl rfl (.of rfl rfl) rfl rfl ?_
  refine r_v (Value.bool (BitVec.carry 128 ((((hi (a)) * (BitVec.ofInt 64 (base))) ++ ((lo (a)) * (BitVec.ofInt 64 (base)))) + ((mh (lo (a)) (BitVec.ofInt 64 (base))) ++ (0#64))) ((0#64) ++ (BitVec.ofInt 64 (d))) false)) rfl rfl rfl rfl ?_
  refine lx_nil ?_
  refine hK8 _ _ ?_; try clear hK8 K8
  refine A_seq fun K10 hK10 => ?_
  refine A_reg ?_
  refine r_l (Value.agg #[U (hi (((((hi (a)) * (BitVec.ofInt 64 (base))) ++ ((lo (a)) * (BitVec.ofInt 64 (base)))) + ((mh (lo (a)) (BitVec.ofInt 64 (base))) ++ (0#64))) + ((0#64) ++ (BitVec.ofInt 64 (d))))), U (lo (((((hi (a)) * (BitVec.ofInt 64 (base))) ++ ((lo (a)) * (BitVec.ofInt 64 (base)))) + ((mh (lo (a)) (BitVec.ofInt 64 (base))) ++ (0#64))) + ((0#64) ++ (BitVec.ofInt 64 (d)))))]) 0 _ _ _ _ rfl rfl rfl rfl rfl ?_
  refine r_v (U (mh (hi (a)) (BitVec.ofInt 64 (base)))) rfl rfl rfl rfl ?_
  refine r_v (Value.bool ((mh (hi (a)) (BitVec.ofInt 64 (base))) != (0#64))) rfl rfl (U_ne (mh (hi (a)) (BitVec.ofInt 64 (base))) (0#64)) rfl ?_
  refine r_v (Value.bool ((mh (hi (a)) (BitVec.ofInt 64 (base))) != (0#64))) rfl rfl rfl rfl ?_
  rcases hg11 : ((mh (hi (a)) (BitVec.ofInt 64 (base))) != (0#64)) with _ | _
  · replace hM := ifn (bne_f hg11) hM
    refine r_y rfl ?_
    refine r_v (Value.bool (BitVec.carry 128 (((hi (a)) * (BitVec.ofInt 64 (base))) ++ ((lo (a)) * (BitVec.ofInt 64 (base)))) ((mh (lo (a)) (BitVec.ofInt 64 (base))) ++ (0#64)) false)) rfl rfl rfl rfl ?_
    refine r_v (Value.bool (BitVec.carry 128 (((hi (a)) * (BitVec.ofInt 64 (base))) ++ ((lo (a)) * (BitVec.ofInt 64 (base)))) ((mh (lo (a)) (BitVec.ofInt 64 (base))) ++ (0#64)) false)) rfl rfl rfl rfl ?_
    refine r_v (Value.bool (BitVec.carry 128 (((hi (a)) * (BitVec.ofInt 64 (base))) ++ ((lo (a)) * (BitVec.ofInt 64 (base)))) ((mh (lo (a)) (BitVec.ofInt 64 (base))) ++ (0#64)) false)) rfl rfl rfl rfl ?_
    rcases hg12 : (BitVec.carry 128 (((hi (a)) * (BitVec.ofInt 64 (base))) ++ ((lo (a)) * (BitVec.ofInt 64 (base)))) ((mh (lo (a)) (BitVec.ofInt 64 (base))) ++ (0#64)) false) with _ | _
    · replace hM := ifn (Bool.eq_false_iff.1 hg12) hM
      refine r_y rfl ?_
      refine r_v (Value.bool (BitVec.carry 128 ((((hi (a)) * (BitVec.ofInt 64 (base))) ++ ((lo (a)) * (BitVec.ofInt 64 (base)))) + ((mh (lo (a)) (BitVec.ofInt 64 (base))) ++ (0#64))) ((0#64) ++ (BitVec.ofInt 64 (d))) false)) rfl rfl rfl rfl ?_
      refine r_v (Value.bool (BitVec.carry 128 ((((hi (a)) * (BitVec.ofInt 64 (base))) ++ ((lo (a)) * (BitVec.ofInt 64 (base)))) + ((mh (lo (a)) (BitVec.ofInt 64 (base))) ++ (0#64))) ((0#64) ++ (BitVec.ofInt 64 (d))) false)) rfl rfl rfl rfl ?_
      refine r_s [(b9, 81, #[U (hi (((((hi (a)) * (BitVec.ofInt 64 (base))) ++ ((lo (a)) * (BitVec.ofInt 64 (base)))) + ((mh (lo (a)) (BitVec.ofInt 64 (base))) ++ (0#64))) + ((0#64) ++ (BitVec.ofInt 64 (d))))), U (lo (((((hi (a)) * (BitVec.ofInt 64 (base))) ++ ((lo (a)) * (BitVec.ofInt 64 (base)))) + ((mh (lo (a)) (BitVec.ofInt 64 (base))) ++ (0#64))) + ((0#64) ++ (BitVec.ofInt 64 (d)))))]), (b7, 81, #[U (hi ((((hi (a)) * (BitVec.ofInt 64 (base))) ++ ((lo (a)) * (BitVec.ofInt 64 (base)))) + ((mh (lo (a)) (BitVec.ofInt 64 (base))) ++ (0#64)))), U (lo ((((hi (a)) * (BitVec.ofInt 64 (base))) ++ ((lo (a)) * (BitVec.ofInt 64 (base)))) + ((mh (lo (a)) (BitVec.ofInt 64 (base))) ++ (0#64))))]), (b3, 81, #[U (hi (((((hi (a)) * (BitVec.ofInt 64 (base))) ++ ((lo (a)) * (BitVec.ofInt 64 (base)))) + ((mh (lo (a)) (BitVec.ofInt 64 (base))) ++ (0#64))) + ((0#64) ++ (BitVec.ofInt 64 (d))))), U (lo (((((hi (a)) * (BitVec.ofInt 64 (base))) ++ ((lo (a)) * (BitVec.ofInt 64 (base)))) + ((mh (lo (a)) (BitVec.ofInt 64 (base))) ++ (0#64))) + ((0#64) ++ (BitVec.ofInt 64 (d)))))]), (b2, 81, #[U (hi (a)), U (lo (a))])] 2 _ _ _ (#[U (0#64), U (0#64)]) (#[U (hi (((((hi (a)) * (BitVec.ofInt 64 (base))) ++ ((lo (a)) * (BitVec.ofInt 64 (base)))) + ((mh (lo (a)) (BitVec.ofInt 64 (base))) ++ (0#64))) + ((0#64) ++ (BitVec.ofInt 64 (d))))), U (lo (((((hi (a)) * (BitVec.ofInt 64 (base))) ++ ((lo (a)) * (BitVec.ofInt 64 (base)))) + ((mh (lo (a)) (BitVec.ofInt 64 (base))) ++ (0#64))) + ((0#64) ++ (BitVec.ofInt 64 (d)))))]) (#[U (hi (((((hi (a)) * (BitVec.ofInt 64 (base))) ++ ((lo (a)) * (BitVec.ofInt 64 (base)))) + ((mh (lo (a)) (BitVec.ofInt 64 (base))) ++ (0#64))) + ((0#64) ++ (BitVec.ofInt 64 (d))))), U (lo (((((hi (a)) * (BitVec.ofInt 64 (base))) ++ ((lo (a)) * (BitVec.ofInt 64 (base)))) + ((mh (lo (a)) (BitVec.ofInt 64 (base))) ++ (0#64))) + ((0#64) ++ (BitVec.ofInt 64 (d)))))]) rfl rfl rfl rfl (.of rfl rfl) rfl rfl ?_
      refine r_v (Value.bool (BitVec.carry 128 ((((hi (a)) * (BitVec.ofInt 64 (base))) ++ ((lo (a)) * (BitVec.ofInt 64 (base)))) + ((mh (lo (a)) (BitVec.ofInt 64 (base))) ++ (0#64))) ((0#64) ++ (BitVec.ofInt 64 (d))) false)) rfl rfl rfl rfl ?_
      refine lx_nil ?_
      refine hK10 _ _ ?_; try clear hK10 K10
      obtain rfl := Option.some.inj hM
      refine A_ret (fun hn => ends_eq (v0 := Value.tuple #[Value.agg #[U (hi (((((hi (a)) * (BitVec.ofInt 64 (base))) ++ ((lo (a)) * (BitVec.ofInt 64 (base)))) + ((mh (lo (a)) (BitVec.ofInt 64 (base))) ++ (0#64))) + ((0#64) ++ (BitVec.ofInt 64 (d))))), U (lo (((((hi (a)) * (BitVec.ofInt 64 (base))) ++ ((lo (a)) * (BitVec.ofInt 64 (base)))) + ((mh (lo (a)) (BitVec.ofInt 64 (base))) ++ (0#64))) + ((0#64) ++ (BitVec.ofInt 64 (d)))))], Value.bool (BitVec.carry 128 ((((hi (a)) * (BitVec.ofInt 64 (base))) ++ ((lo (a)) * (BitVec.ofInt 64 (base)))) + ((mh (lo (a)) (BitVec.ofInt 64 (base))) ++ (0#64))) ((0#64) ++ (BitVec.ofInt 64 (d))) false)]) rfl (res2 (res_cell hn 2 rfl rfl rfl) rfl))
    · replace hM := ifp hg12 hM
      refine r_n true rfl (by decide) rfl ?_
      refine r_v (Value.bool (true)) rfl rfl rfl rfl ?_
      refine r_s [(b9, 81, #[U (hi (((((hi (a)) * (BitVec.ofInt 64 (base))) ++ ((lo (a)) * (BitVec.ofInt 64 (base)))) + ((mh (lo (a)) (BitVec.ofInt 64 (base))) ++ (0#64))) + ((0#64) ++ (BitVec.ofInt 64 (d))))), U (lo (((((hi (a)) * (BitVec.ofInt 64 (base))) ++ ((lo (a)) * (BitVec.ofInt 64 (base)))) + ((mh (lo (a)) (BitVec.ofInt 64 (base))) ++ (0#64))) + ((0#64) ++ (BitVec.ofInt 64 (d)))))]), (b7, 81, #[U (hi ((((hi (a)) * (BitVec.ofInt 64 (base))) ++ ((lo (a)) * (BitVec.ofInt 64 (base)))) + ((mh (lo (a)) (BitVec.ofInt 64 (base))) ++ (0#64)))), U (lo ((((hi (a)) * (BitVec.ofInt 64 (base))) ++ ((lo (a)) * (BitVec.ofInt 64 (base)))) + ((mh (lo (a)) (BitVec.ofInt 64 (base))) ++ (0#64))))]), (b3, 81, #[U (hi (((((hi (a)) * (BitVec.ofInt 64 (base))) ++ ((lo (a)) * (BitVec.ofInt 64 (base)))) + ((mh (lo (a)) (BitVec.ofInt 64 (base))) ++ (0#64))) + ((0#64) ++ (BitVec.ofInt 64 (d))))), U (lo (((((hi (a)) * (BitVec.ofInt 64 (base))) ++ ((lo (a)) * (BitVec.ofInt 64 (base)))) + ((mh (lo (a)) (BitVec.ofInt 64 (base))) ++ (0#64))) + ((0#64) ++ (BitVec.ofInt 64 (d)))))]), (b2, 81, #[U (hi (a)), U (lo (a))])] 2 _ _ _ (#[U (0#64), U (0#64)]) (#[U (hi (((((hi (a)) * (BitVec.ofInt 64 (base))) ++ ((lo (a)) * (BitVec.ofInt 64 (base)))) + ((mh (lo (a)) (BitVec.ofInt 64 (base))) ++ (0#64))) + ((0#64) ++ (BitVec.ofInt 64 (d))))), U (lo (((((hi (a)) * (BitVec.ofInt 64 (base))) ++ ((lo (a)) * (BitVec.ofInt 64 (base)))) + ((mh (lo (a)) (BitVec.ofInt 64 (base))) ++ (0#64))) + ((0#64) ++ (BitVec.ofInt 64 (d)))))]) (#[U (hi (((((hi (a)) * (BitVec.ofInt 64 (base))) ++ ((lo (a)) * (BitVec.ofInt 64 (base)))) + ((mh (lo (a)) (BitVec.ofInt 64 (base))) ++ (0#64))) + ((0#64) ++ (BitVec.ofInt 64 (d))))), U (lo (((((hi (a)) * (BitVec.ofInt 64 (base))) ++ ((lo (a)) * (BitVec.ofInt 64 (base)))) + ((mh (lo (a)) (BitVec.ofInt 64 (base))) ++ (0#64))) + ((0#64) ++ (BitVec.ofInt 64 (d)))))]) rfl rfl rfl rfl (.of rfl rfl) rfl rfl ?_
      refine r_v (Value.bool (true)) rfl rfl rfl rfl ?_
      refine lx_nil ?_
      refine hK10 _ _ ?_; try clear hK10 K10
      obtain rfl := Option.some.inj hM
      refine A_ret (fun hn => ends_eq (v0 := Value.tuple #[Value.agg #[U (hi (((((hi (a)) * (BitVec.ofInt 64 (base))) ++ ((lo (a)) * (BitVec.ofInt 64 (base)))) + ((mh (lo (a)) (BitVec.ofInt 64 (base))) ++ (0#64))) + ((0#64) ++ (BitVec.ofInt 64 (d))))), U (lo (((((hi (a)) * (BitVec.ofInt 64 (base))) ++ ((lo (a)) * (BitVec.ofInt 64 (base)))) + ((mh (lo (a)) (BitVec.ofInt 64 (base))) ++ (0#64))) + ((0#64) ++ (BitVec.ofInt 64 (d)))))], Value.bool (true)]) rfl (res2 (res_cell hn 2 rfl rfl rfl) rfl))
  · replace hM := ifp (bne_iff_ne.1 hg11) hM
    refine r_n true rfl (by decide) rfl ?_
    refine r_v (Value.bool (true)) rfl rfl rfl rfl ?_
    refine r_v (Value.bool (true)) rfl rfl rfl rfl ?_
    refine r_n true rfl (by decide) rfl ?_
    refine r_v (Value.bool (true)) rfl rfl rfl rfl ?_
    refine r_s [(b9, 81, #[U (hi (((((hi (a)) * (BitVec.ofInt 64 (base))) ++ ((lo (a)) * (BitVec.ofInt 64 (base)))) + ((mh (lo (a)) (BitVec.ofInt 64 (base))) ++ (0#64))) + ((0#64) ++ (BitVec.ofInt 64 (d))))), U (lo (((((hi (a)) * (BitVec.ofInt 64 (base))) ++ ((lo (a)) * (BitVec.ofInt 64 (base)))) + ((mh (lo (a)) (BitVec.ofInt 64 (base))) ++ (0#64))) + ((0#64) ++ (BitVec.ofInt 64 (d)))))]), (b7, 81, #[U (hi ((((hi (a)) * (BitVec.ofInt 64 (base))) ++ ((lo (a)) * (BitVec.ofInt 64 (base)))) + ((mh (lo (a)) (BitVec.ofInt 64 (base))) ++ (0#64)))), U (lo ((((hi (a)) * (BitVec.ofInt 64 (base))) ++ ((lo (a)) * (BitVec.ofInt 64 (base)))) + ((mh (lo (a)) (BitVec.ofInt 64 (base))) ++ (0#64))))]), (b3, 81, #[U (hi (((((hi (a)) * (BitVec.ofInt 64 (base))) ++ ((lo (a)) * (BitVec.ofInt 64 (base)))) + ((mh (lo (a)) (BitVec.ofInt 64 (base))) ++ (0#64))) + ((0#64) ++ (BitVec.ofInt 64 (d))))), U (lo (((((hi (a)) * (BitVec.ofInt 64 (base))) ++ ((lo (a)) * (BitVec.ofInt 64 (base)))) + ((mh (lo (a)) (BitVec.ofInt 64 (base))) ++ (0#64))) + ((0#64) ++ (BitVec.ofInt 64 (d)))))]), (b2, 81, #[U (hi (a)), U (lo (a))])] 2 _ _ _ (#[U (0#64), U (0#64)]) (#[U (hi (((((hi (a)) * (BitVec.ofInt 64 (base))) ++ ((lo (a)) * (BitVec.ofInt 64 (base)))) + ((mh (lo (a)) (BitVec.ofInt 64 (base))) ++ (0#64))) + ((0#64) ++ (BitVec.ofInt 64 (d))))), U (lo (((((hi (a)) * (BitVec.ofInt 64 (base))) ++ ((lo (a)) * (BitVec.ofInt 64 (base)))) + ((mh (lo (a)) (BitVec.ofInt 64 (base))) ++ (0#64))) + ((0#64) ++ (BitVec.ofInt 64 (d)))))]) (#[U (hi (((((hi (a)) * (BitVec.ofInt 64 (base))) ++ ((lo (a)) * (BitVec.ofInt 64 (base)))) + ((mh (lo (a)) (BitVec.ofInt 64 (base))) ++ (0#64))) + ((0#64) ++ (BitVec.ofInt 64 (d))))), U (lo (((((hi (a)) * (BitVec.ofInt 64 (base))) ++ ((lo (a)) * (BitVec.ofInt 64 (base)))) + ((mh (lo (a)) (BitVec.ofInt 64 (base))) ++ (0#64))) + ((0#64) ++ (BitVec.ofInt 64 (d)))))]) rfl rfl rfl rfl (.of rfl rfl) rfl rfl ?_
    refine r_v (Value.bool (true)) rfl rfl rfl rfl ?_
    refine lx_nil ?_
    refine hK10 _ _ ?_; try clear hK10 K10
    obtain rfl := Option.some.inj hM
    refine A_ret (fun hn => ends_eq (v0 := Value.tuple #[Value.agg #[U (hi (((((hi (a)) * (BitVec.ofInt 64 (base))) ++ ((lo (a)) * (BitVec.ofInt 64 (base)))) + ((mh (lo (a)) (BitVec.ofInt 64 (base))) ++ (0#64))) + ((0#64) ++ (BitVec.ofInt 64 (d))))), U (lo (((((hi (a)) * (BitVec.ofInt 64 (base))) ++ ((lo (a)) * (BitVec.ofInt 64 (base)))) + ((mh (lo (a)) (BitVec.ofInt 64 (base))) ++ (0#64))) + ((0#64) ++ (BitVec.ofInt 64 (d)))))], Value.bool (true)]) rfl (res2 (res_cell hn 2 rfl rfl rfl) rfl))
def word_mayBase_m (_ : Nat) (base : Int) : Option (Bool) := if (base : Int) ≥ 2 then some (decide ((base : Int) ≤ 16)) else some (false)
set_option maxRecDepth 100000 in
set_option maxHeartbeats 400000 in
theorem word_mayBase_g (N : Nat) (base : Int) (r : Bool) (hM : word_mayBase_m N base = some r) : Gives Try.prog 56 #[Value.int .i64 (base)] (Value.bool (r)) := by
  unfold word_mayBase_m at hM
  refine gives_of_A follows Try.func56 rfl 9 rfl (upd (fun _ => undef) 0 (Value.int .i64 (base))) (by funext k; match k with | 0 => rfl | k + 1 => rfl) (fun base0_ => ?_)
  refine A_seq fun K1 hK1 => ?_
  refine A_reg ?_
  refine r_v (Value.bool (false)) rfl rfl rfl rfl ?_
  refine lx_nil ?_
  refine hK1 _ _ ?_; try clear hK1 K1
  refine A_seq fun K2 hK2 => ?_
  refine A_reg ?_
  refine r_v (Value.int .i64 (base)) rfl rfl rfl rfl ?_
  refine r_v (Value.bool (decide ((base : Int) ≥ 2))) rfl rfl rfl rfl ?_
  refine r_v (Value.bool (decide ((base : Int) ≥ 2))) rfl rfl rfl rfl ?_
  rcases hg3 : (decide ((base : Int) ≥ 2)) with _ | _
  · replace hM := ifn (of_decide_eq_false hg3) hM
    refine r_n false rfl (by decide) rfl ?_
    refine r_n false rfl (by decide) rfl ?_
    refine r_v (Value.bool (false)) rfl rfl rfl rfl ?_
    refine r_v (Value.bool (false)) rfl rfl rfl rfl ?_
    refine lx_nil ?_
    refine hK2 _ _ ?_; try clear hK2 K2
    obtain rfl := Option.some.inj hM
    refine A_ret (fun hn => ends_eq (v0 := Value.bool (false)) rfl (res1 rfl))
  · replace hM := ifp (of_decide_eq_true hg3) hM
    refine r_y rfl ?_
    refine r_v (Value.int .i64 (base)) rfl rfl rfl rfl ?_
    refine r_y rfl ?_
    refine r_v (Value.bool (decide ((base : Int) ≤ 16))) rfl rfl rfl rfl ?_
    refine r_v (Value.bool (decide ((base : Int) ≤ 16))) rfl rfl rfl rfl ?_
    refine r_v (Value.bool (decide ((base : Int) ≤ 16))) rfl rfl rfl rfl ?_
    refine lx_nil ?_
    refine hK2 _ _ ?_; try clear hK2 K2
    obtain rfl := Option.some.inj hM
    refine A_ret (fun hn => ends_eq (v0 := Value.bool (decide ((base : Int) ≤ 16))) rfl (res1 rfl))
def word_digit_k6 (c : Int) (x5_ : Bool) : Option (Int) := if (x5_) = true then ck ((-9223372036854775808 ≤ (IntKind.u8.wrap (c - 65)) ∧ (IntKind.u8.wrap (c - 65)) ≤ 9223372036854775807)) (ck ((-9223372036854775808 ≤ ((IntKind.u8.wrap (c - 65)) + 10) ∧ ((IntKind.u8.wrap (c - 65)) + 10) ≤ 9223372036854775807)) (some (((IntKind.u8.wrap (c - 65)) + 10)))) else some (16)
def word_digit_k4 (c : Int) (x3_ : Bool) : Option (Int) := if (x3_) = true then ck ((-9223372036854775808 ≤ (IntKind.u8.wrap (c - 97)) ∧ (IntKind.u8.wrap (c - 97)) ≤ 9223372036854775807)) (ck ((-9223372036854775808 ≤ ((IntKind.u8.wrap (c - 97)) + 10) ∧ ((IntKind.u8.wrap (c - 97)) + 10) ≤ 9223372036854775807)) (some (((IntKind.u8.wrap (c - 97)) + 10)))) else if (c : Int) ≥ 65 then word_digit_k6 c (decide ((c : Int) ≤ 70)) else word_digit_k6 c (false)
def word_digit_k2 (c : Int) (x1_ : Bool) : Option (Int) := if (x1_) = true then ck ((-9223372036854775808 ≤ (IntKind.u8.wrap (c - 48)) ∧ (IntKind.u8.wrap (c - 48)) ≤ 9223372036854775807)) (some ((IntKind.u8.wrap (c - 48)))) else if (c : Int) ≥ 97 then word_digit_k4 c (decide ((c : Int) ≤ 102)) else word_digit_k4 c (false)
def word_digit_m (_ : Nat) (c : Int) : Option (Int) := if (c : Int) ≥ 48 then word_digit_k2 c (decide ((c : Int) ≤ 57)) else word_digit_k2 c (false)
set_option maxRecDepth 100000 in
set_option maxHeartbeats 400000 in
theorem word_digit_g (N : Nat) (c : Int) (r : Int) (hM : word_digit_m N c = some r) : Gives Try.prog 57 #[Value.int .u8 (c)] (Value.int .i64 (r)) := by
  unfold word_digit_m at hM
  refine gives_of_A follows Try.func57 rfl 35 rfl (upd (fun _ => undef) 0 (Value.int .u8 (c))) (by funext k; match k with | 0 => rfl | k + 1 => rfl) (fun base0_ => ?_)
  refine A_seq fun K1 hK1 => ?_
  refine A_reg ?_
  refine r_v (Value.int .i64 (0)) rfl rfl rfl rfl ?_
  refine lx_nil ?_
  refine hK1 _ _ ?_; try clear hK1 K1
  refine A_seq fun K2 hK2 => ?_
  refine A_block ?_
  refine A_cut (fun tt ll => ∃ (x1_ : Bool), (word_digit_k2 c x1_ = some r) ∧ Is [(0, Value.int .u8 (c)), (3, Value.bool (x1_))] [] tt ll) ?_ ?_
  · refine A_reg ?_
    refine r_v (Value.int .u8 (c)) rfl rfl rfl rfl ?_
    refine r_v (Value.bool (decide ((c : Int) ≥ 48))) rfl rfl rfl rfl ?_
    refine r_v (Value.bool (decide ((c : Int) ≥ 48))) rfl rfl rfl rfl ?_
    rcases hg17 : (decide ((c : Int) ≥ 48)) with _ | _
    · replace hM := ifn (of_decide_eq_false hg17) hM
      refine r_n false rfl (by decide) rfl ?_
      refine r_n false rfl (by decide) rfl ?_
      refine r_v (Value.bool (false)) rfl rfl rfl rfl ?_
      refine r_v (Value.bool (false)) rfl rfl rfl rfl ?_
      refine lx_nil ?_
      refine fg _ (Sub.of (List.Sublist.slnil)) ?_
      exact ⟨false, hM, is_mk rfl rfl⟩
    · replace hM := ifp (of_decide_eq_true hg17) hM
      refine r_y rfl ?_
      refine r_v (Value.int .u8 (c)) rfl rfl rfl rfl ?_
      refine r_y rfl ?_
      refine r_v (Value.bool (decide ((c : Int) ≤ 57))) rfl rfl rfl rfl ?_
      refine r_v (Value.bool (decide ((c : Int) ≤ 57))) rfl rfl rfl rfl ?_
      refine r_v (Value.bool (decide ((c : Int) ≤ 57))) rfl rfl rfl rfl ?_
      refine lx_nil ?_
      refine fg _ (Sub.of (List.Sublist.slnil)) ?_
      exact ⟨decide ((c : Int) ≤ 57), hM, is_mk rfl rfl⟩
  · clear hM; rintro t l ⟨x1_, hM, ⟨T, rfl⟩, rfl⟩
    unfold word_digit_k2 at hM
    refine A_cond (x1_) rfl (fun hc3 => ?_) (fun hc3 => ?_)
    · replace hM := ifp hc3 hM
      refine A_seq fun K4 hK4 => ?_
      refine A_reg ?_
      refine r_v (Value.int .u8 (c)) rfl rfl rfl rfl ?_
      refine r_v (Value.int .u8 ((IntKind.u8.wrap (c - 48)))) rfl rfl rfl rfl ?_
      replace hM := ck_some hM; obtain ⟨ck5, hM⟩ := hM
      refine r_w (Value.int .i64 ((IntKind.u8.wrap (c - 48)))) rfl rfl (wi64 rfl ck5.1 ck5.2) (fun _ => rfl) ?_
      refine r_v (Value.int .i64 ((IntKind.u8.wrap (c - 48)))) rfl rfl rfl rfl ?_
      refine lx_nil ?_
      refine hK4 _ _ ?_; try clear hK4 K4
      obtain rfl := Option.some.inj hM
      refine A_ret (fun hn => ends_eq (v0 := Value.int .i64 ((IntKind.u8.wrap (c - 48)))) rfl (res1 rfl))
    · replace hM := ifn (Bool.eq_false_iff.1 hc3) hM
      refine A_cut (fun tt ll => ∃ (x3_ : Bool), (word_digit_k4 c x3_ = some r) ∧ Is [(0, Value.int .u8 (c)), (13, Value.bool (x3_))] [] tt ll) ?_ ?_
      · refine A_reg ?_
        refine r_v (Value.int .u8 (c)) rfl rfl rfl rfl ?_
        refine r_v (Value.bool (decide ((c : Int) ≥ 97))) rfl rfl rfl rfl ?_
        refine r_v (Value.bool (decide ((c : Int) ≥ 97))) rfl rfl rfl rfl ?_
        rcases hg16 : (decide ((c : Int) ≥ 97)) with _ | _
        · replace hM := ifn (of_decide_eq_false hg16) hM
          refine r_n false rfl (by decide) rfl ?_
          refine r_n false rfl (by decide) rfl ?_
          refine r_v (Value.bool (false)) rfl rfl rfl rfl ?_
          refine r_v (Value.bool (false)) rfl rfl rfl rfl ?_
          refine lx_nil ?_
          refine fg _ (Sub.of (List.Sublist.slnil)) ?_
          exact ⟨false, hM, is_mk rfl rfl⟩
        · replace hM := ifp (of_decide_eq_true hg16) hM
          refine r_y rfl ?_
          refine r_v (Value.int .u8 (c)) rfl rfl rfl rfl ?_
          refine r_y rfl ?_
          refine r_v (Value.bool (decide ((c : Int) ≤ 102))) rfl rfl rfl rfl ?_
          refine r_v (Value.bool (decide ((c : Int) ≤ 102))) rfl rfl rfl rfl ?_
          refine r_v (Value.bool (decide ((c : Int) ≤ 102))) rfl rfl rfl rfl ?_
          refine lx_nil ?_
          refine fg _ (Sub.of (List.Sublist.slnil)) ?_
          exact ⟨decide ((c : Int) ≤ 102), hM, is_mk rfl rfl⟩
      · clear hM; rintro t l ⟨x3_, hM, ⟨T, rfl⟩, rfl⟩
        unfold word_digit_k4 at hM
        refine A_cond (x3_) rfl (fun hc6 => ?_) (fun hc6 => ?_)
        · replace hM := ifp hc6 hM
          refine A_seq fun K7 hK7 => ?_
          refine A_reg ?_
          refine r_v (Value.int .u8 (c)) rfl rfl rfl rfl ?_
          refine r_v (Value.int .u8 ((IntKind.u8.wrap (c - 97)))) rfl rfl rfl rfl ?_
          replace hM := ck_some hM; obtain ⟨ck8, hM⟩ := hM
          refine r_w (Value.int .i64 ((IntKind.u8.wrap (c - 97)))) rfl rfl (wi64 rfl ck8.1 ck8.2) (fun _ => rfl) ?_
          replace hM := ck_some hM; obtain ⟨ck9, hM⟩ := hM
          refine r_v (Value.int .i64 (((IntKind.u8.wrap (c - 97)) + 10))) rfl rfl (wi64 rfl ck9.1 ck9.2) rfl ?_
          refine r_v (Value.int .i64 (((IntKind.u8.wrap (c - 97)) + 10))) rfl rfl rfl rfl ?_
          refine lx_nil ?_
          refine hK7 _ _ ?_; try clear hK7 K7
          obtain rfl := Option.some.inj hM
          refine A_ret (fun hn => ends_eq (v0 := Value.int .i64 (((IntKind.u8.wrap (c - 97)) + 10))) rfl (res1 rfl))
        · replace hM := ifn (Bool.eq_false_iff.1 hc6) hM
          refine A_cut (fun tt ll => ∃ (x5_ : Bool), (word_digit_k6 c x5_ = some r) ∧ Is [(0, Value.int .u8 (c)), (24, Value.bool (x5_))] [] tt ll) ?_ ?_
          · refine A_reg ?_
            refine r_v (Value.int .u8 (c)) rfl rfl rfl rfl ?_
            refine r_v (Value.bool (decide ((c : Int) ≥ 65))) rfl rfl rfl rfl ?_
            refine r_v (Value.bool (decide ((c : Int) ≥ 65))) rfl rfl rfl rfl ?_
            rcases hg15 : (decide ((c : Int) ≥ 65)) with _ | _
            · replace hM := ifn (of_decide_eq_false hg15) hM
              refine r_n false rfl (by decide) rfl ?_
              refine r_n false rfl (by decide) rfl ?_
              refine r_v (Value.bool (false)) rfl rfl rfl rfl ?_
              refine r_v (Value.bool (false)) rfl rfl rfl rfl ?_
              refine lx_nil ?_
              refine fg _ (Sub.of (List.Sublist.slnil)) ?_
              exact ⟨false, hM, is_mk rfl rfl⟩
            · replace hM := ifp (of_decide_eq_true hg15) hM
              refine r_y rfl ?_
              refine r_v (Value.int .u8 (c)) rfl rfl rfl rfl ?_
              refine r_y rfl ?_
              refine r_v (Value.bool (decide ((c : Int) ≤ 70))) rfl rfl rfl rfl ?_
              refine r_v (Value.bool (decide ((c : Int) ≤ 70))) rfl rfl rfl rfl ?_
              refine r_v (Value.bool (decide ((c : Int) ≤ 70))) rfl rfl rfl rfl ?_
              refine lx_nil ?_
              refine fg _ (Sub.of (List.Sublist.slnil)) ?_
              exact ⟨decide ((c : Int) ≤ 70), hM, is_mk rfl rfl⟩
          · clear hM; rintro t l ⟨x5_, hM, ⟨T, rfl⟩, rfl⟩
            unfold word_digit_k6 at hM
            refine A_cond (x5_) rfl (fun hc10 => ?_) (fun hc10 => ?_)
            · replace hM := ifp hc10 hM
              refine A_seq fun K11 hK11 => ?_
              refine A_reg ?_
              refine r_v (Value.int .u8 (c)) rfl rfl rfl rfl ?_
              refine r_v (Value.int .u8 ((IntKind.u8.wrap (c - 65)))) rfl rfl rfl rfl ?_
              replace hM := ck_some hM; obtain ⟨ck12, hM⟩ := hM
              refine r_w (Value.int .i64 ((IntKind.u8.wrap (c - 65)))) rfl rfl (wi64 rfl ck12.1 ck12.2) (fun _ => rfl) ?_
              replace hM := ck_some hM; obtain ⟨ck13, hM⟩ := hM
              refine r_v (Value.int .i64 (((IntKind.u8.wrap (c - 65)) + 10))) rfl rfl (wi64 rfl ck13.1 ck13.2) rfl ?_
              refine r_v (Value.int .i64 (((IntKind.u8.wrap (c - 65)) + 10))) rfl rfl rfl rfl ?_
              refine lx_nil ?_
              refine hK11 _ _ ?_; try clear hK11 K11
              obtain rfl := Option.some.inj hM
              refine A_ret (fun hn => ends_eq (v0 := Value.int .i64 (((IntKind.u8.wrap (c - 65)) + 10))) rfl (res1 rfl))
            · replace hM := ifn (Bool.eq_false_iff.1 hc10) hM
              refine A_skip ?_
              refine hK2 _ _ ?_; try clear hK2 K2
              refine A_seq fun K14 hK14 => ?_
              refine A_reg ?_
              refine r_v (Value.int .i64 (16)) rfl rfl rfl rfl ?_
              refine lx_nil ?_
              refine hK14 _ _ ?_; try clear hK14 K14
              obtain rfl := Option.some.inj hM
              refine A_ret (fun hn => ends_eq (v0 := Value.int .i64 (16)) rfl (res1 rfl))
def word_Parse_l5 (N : Nat) (s : List UInt8) (base : Int) : Nat → Bool → Int → BitVec 128 → BitVec 128 → Option ((BitVec 128) × Int)
  | 0, _, _, _, _ => none
  | n18 + 1, above1_, x2_, m3_, m4_ => if (x2_ : Int) < ((s).length : Int) then ck ((0 : Int) ≤ x2_ ∧ x2_ < ((s).length : Int)) ((word_digit_m N ((byteAt (s) (x2_)))).bind fun r26 => if (r26 : Int) ≥ base then some ((0#64) ++ (0#64), 4) else (word_behind_m N (m3_) (base) (r26)).bind fun r33 => if (above1_) = true then ck ((-9223372036854775808 ≤ (x2_ + 1) ∧ (x2_ + 1) ≤ 9223372036854775807)) ((word_Parse_l5 N s base n18) (true) ((x2_ + 1)) (r33.1) (m4_)) else ck ((-9223372036854775808 ≤ (x2_ + 1) ∧ (x2_ + 1) ≤ 9223372036854775807)) ((word_Parse_l5 N s base n18) (r33.2) ((x2_ + 1)) (r33.1) (m4_))) else if (above1_) = true then some ((0#64) ++ (0#64), 7) else some (m3_, 0)
def word_Parse_m (N : Nat) (s : List UInt8) (base : Int) : Option ((BitVec 128) × Int) := (word_mayBase_m N (base)).bind fun r5 => if (r5) = true then if (s) = ([]) then some ((0#64) ++ (0#64), 3) else word_Parse_l5 N s base N (false) (0) ((0#64) ++ (0#64)) ((0#64) ++ (0#64)) else some ((0#64) ++ (0#64), 1)
set_option maxRecDepth 100000 in
set_option maxHeartbeats 400000 in
theorem word_Parse_g (N : Nat) (s : List UInt8) (base : Int) (r : (BitVec 128) × Int) (hM : word_Parse_m N s base = some r) : Gives Try.prog 40 #[Value.string (⟨(s).toArray⟩), Value.int .i64 (base)] (Value.tuple #[Value.agg #[U (hi (r.1)), U (lo (r.1))], Value.int .i64 (r.2)]) := by
  unfold word_Parse_m at hM
  refine gives_of_A follows Try.func40 rfl 48 rfl (upd (upd (fun _ => undef) 1 (Value.int .i64 (base))) 0 (Value.string (⟨(s).toArray⟩))) (by funext k; match k with | 0 => rfl | 1 => rfl | k + 2 => rfl) (fun base0_ => ?_)
  refine A_seq fun K1 hK1 => ?_
  refine A_reg ?_
  refine r_a (81, #[U (0#64), U (0#64)]) rfl rfl rfl (fun b2 => ?_) (.inr rfl)
  refine r_v (Value.int .i64 (0)) rfl rfl rfl rfl ?_
  refine lx_nil ?_
  refine hK1 _ _ ?_; try clear hK1 K1
  refine A_seq fun K3 hK3 => ?_
  refine A_seq fun K4 hK4 => ?_
  refine A_reg ?_
  refine r_v (Value.int .i64 (base)) rfl rfl rfl rfl ?_
  replace hM := bind_sm hM; obtain ⟨r5, hr6, hM⟩ := hM
  refine r_c (Value.bool (r5)) rfl _ _ (ev_callF rfl call_56 rfl) (word_mayBase_g N (base) _ hr6) ?_
  refine r_v (Value.bool (!(r5))) rfl rfl rfl rfl ?_
  refine lx_nil ?_
  refine hK4 _ _ ?_; try clear hK4 K4
  refine A_cond (!(r5)) rfl (fun hc7 => ?_) (fun hc7 => ?_)
  · replace hM := ifn (Bool.eq_false_iff.1 (not_t hc7)) hM
    refine A_seq fun K8 hK8 => ?_
    refine A_reg ?_
    refine r_v (Value.agg #[U (0#64), U (0#64)]) rfl rfl rfl (ev_buildS rfl rfl rfl rfl) ?_
    refine r_s [(b2, 81, #[U (0#64), U (0#64)])] 0 _ _ _ (#[U (0#64), U (0#64)]) (#[U (0#64), U (0#64)]) (#[U (0#64), U (0#64)]) rfl rfl rfl rfl (.of rfl rfl) rfl rfl ?_
    refine r_v (Value.int .i64 (1)) rfl rfl rfl rfl ?_
    refine lx_nil ?_
    refine hK8 _ _ ?_; try clear hK8 K8
    obtain rfl := Option.some.inj hM
    refine A_ret (fun hn => ends_eq (v0 := Value.tuple #[Value.agg #[U (0#64), U (0#64)], Value.int .i64 (1)]) (by first | rfl | simp only [app_hl]) (res2 (res_cell hn 0 rfl rfl rfl) rfl))
  · replace hM := ifp (not_f hc7) hM
    refine A_skip ?_
    refine hK3 _ _ ?_; try clear hK3 K3
    refine A_seq fun K9 hK9 => ?_
    refine A_seq fun K10 hK10 => ?_
    refine A_reg ?_
    refine r_v (Value.string (⟨(s).toArray⟩)) rfl rfl rfl rfl ?_
    refine r_v (Value.bool ((s) == ([]))) rfl rfl rfl (ev_eqS rfl rfl) ?_
    refine lx_nil ?_
    refine hK10 _ _ ?_; try clear hK10 K10
    refine A_cond ((s) == ([])) rfl (fun hc11 => ?_) (fun hc11 => ?_)
    · replace hM := ifp (eq_of_beq hc11) hM
      refine A_seq fun K12 hK12 => ?_
      refine A_reg ?_
      refine r_v (Value.agg #[U (0#64), U (0#64)]) rfl rfl rfl (ev_buildS rfl rfl rfl rfl) ?_
      refine r_s [(b2, 81, #[U (0#64), U (0#64)])] 0 _ _ _ (#[U (0#64), U (0#64)]) (#[U (0#64), U (0#64)]) (#[U (0#64), U (0#64)]) rfl rfl rfl rfl (.of rfl rfl) rfl rfl ?_
      refine r_v (Value.int .i64 (3)) rfl rfl rfl rfl ?_
      refine lx_nil ?_
      refine hK12 _ _ ?_; try clear hK12 K12
      obtain rfl := Option.some.inj hM
      refine A_ret (fun hn => ends_eq (v0 := Value.tuple #[Value.agg #[U (0#64), U (0#64)], Value.int .i64 (3)]) (by first | rfl | simp only [app_hl]) (res2 (res_cell hn 0 rfl rfl rfl) rfl))
    · replace hM := ifn (ne_of_beq_false hc11) hM
      refine A_skip ?_
      refine hK9 _ _ ?_; try clear hK9 K9
      refine A_seq fun K13 hK13 => ?_
      refine A_reg ?_
      refine r_a (81, #[U (0#64), U (0#64)]) rfl rfl rfl (fun b14 => ?_) (.inr rfl)
      refine lx_nil ?_
      refine hK13 _ _ ?_; try clear hK13 K13
      refine A_seq fun K15 hK15 => ?_
      refine A_reg ?_
      refine r_v (Value.bool (false)) rfl rfl rfl rfl ?_
      refine lx_nil ?_
      refine hK15 _ _ ?_; try clear hK15 K15
      refine A_seq fun K16 hK16 => ?_
      refine A_seq fun K17 hK17 => ?_
      refine A_reg ?_
      refine r_v (Value.string (⟨(s).toArray⟩)) rfl rfl rfl rfl ?_
      refine r_v (Value.int .i64 (((s).length : Int))) rfl rfl rfl (ev_lenS rfl rfl rfl) ?_
      refine r_v (Value.int .i64 (0)) rfl rfl rfl rfl ?_
      refine lx_nil ?_
      refine hK17 _ _ ?_; try clear hK17 K17
      refine A_block ?_
      refine A_loop (fun tt ll nn => ∃ (n18 : Nat) (above1_ : Bool) (x2_ : Int) (m3_ : BitVec 128) (m4_ : BitVec 128), (word_Parse_l5 N s base n18 above1_ x2_ m3_ m4_ = some r) ∧ Is [(0, Value.string (⟨(s).toArray⟩)), (1, Value.int .i64 (base)), (4, Value.pointer (some ⟨b2, 0, none⟩)), (6, Value.pointer (some ⟨b14, 0, none⟩)), (7, Value.bool (above1_)), (20, Value.int .i64 (((s).length : Int))), (21, Value.int .i64 (x2_))] [(b14, 81, #[U (hi (m3_)), U (lo (m3_))]), (b2, 81, #[U (hi (m4_)), U (lo (m4_))])] tt ll ∧ nn = n18 + 1) (N + 1) ?_ ?_
      · exact ⟨N, false, 0, (0#64) ++ (0#64), (0#64) ++ (0#64), hM, is_mk rfl (by first | rfl | simp only [app_hl]), rfl⟩
      · clear hM; rintro t l _ ⟨n18, above1_, x2_, m3_, m4_, hM, ⟨⟨T, rfl⟩, rfl⟩, rfl⟩
        rcases n18 with _ | n18
        · exact absurd hM (by simp [word_Parse_l5])
        rw [word_Parse_l5] at hM
        refine A_seq fun K19 hK19 => ?_
        refine A_reg ?_
        refine r_v (Value.bool (decide ((x2_ : Int) < ((s).length : Int)))) rfl rfl rfl rfl ?_
        refine lx_nil ?_
        refine hK19 _ _ ?_; try clear hK19 K19
        refine A_seq fun K20 hK20 => ?_
        refine A_cond (decide ((x2_ : Int) < ((s).length : Int))) rfl (fun hc21 => ?_) (fun hc21 => ?_)
        · replace hM := ifp (of_decide_eq_true hc21) hM
          refine A_skip ?_
          refine hK20 _ _ ?_; try clear hK20 K20
          refine A_seq fun K22 hK22 => ?_
          refine A_block ?_
          refine A_seq fun K23 hK23 => ?_
          refine A_reg ?_
          refine r_v (Value.int .i64 (x2_)) rfl rfl rfl rfl ?_
          refine r_v (Value.int .i64 (x2_)) rfl rfl rfl rfl ?_
          refine lx_nil ?_
          refine hK23 _ _ ?_; try clear hK23 K23
          refine A_seq fun K24 hK24 => ?_
          refine A_reg ?_
          refine r_v (Value.string (⟨(s).toArray⟩)) rfl rfl rfl rfl ?_
          refine r_v (Value.int .i64 (x2_)) rfl rfl rfl rfl ?_
          replace hM := ck_some hM; obtain ⟨ck25, hM⟩ := hM
          refine r_v (Value.int .u8 ((byteAt (s) (x2_)))) rfl rfl rfl (ev_v (ev_indexS rfl ck25)) ?_
          replace hM := bind_sm hM; obtain ⟨r26, hr27, hM⟩ := hM
          refine r_c (Value.int .i64 (r26)) rfl _ _ (ev_callF rfl call_57 rfl) (word_digit_g N ((byteAt (s) (x2_))) _ hr27) ?_
          refine r_v (Value.int .i64 (r26)) rfl rfl rfl rfl ?_
          refine lx_nil ?_
          refine hK24 _ _ ?_; try clear hK24 K24
          refine A_seq fun K28 hK28 => ?_
          refine A_seq fun K29 hK29 => ?_
          refine A_reg ?_
          refine r_v (Value.int .i64 (r26)) rfl rfl rfl rfl ?_
          refine r_v (Value.int .i64 (base)) rfl rfl rfl rfl ?_
          refine r_v (Value.bool (decide ((r26 : Int) ≥ base))) rfl rfl rfl rfl ?_
          refine lx_nil ?_
          refine hK29 _ _ ?_; try clear hK29 K29
          refine A_cond (decide ((r26 : Int) ≥ base)) rfl (fun hc30 => ?_) (fun hc30 => ?_)
          · replace hM := ifp (of_decide_eq_true hc30) hM
            refine A_seq fun K31 hK31 => ?_
            refine A_reg ?_
            refine r_v (Value.agg #[U (0#64), U (0#64)]) rfl rfl rfl (ev_buildS rfl rfl rfl rfl) ?_
            refine r_s [(b14, 81, #[U (hi (m3_)), U (lo (m3_))]), (b2, 81, #[U (0#64), U (0#64)])] 1 _ _ _ (#[U (hi (m4_)), U (lo (m4_))]) (#[U (0#64), U (0#64)]) (#[U (0#64), U (0#64)]) rfl rfl rfl rfl (.of rfl rfl) rfl rfl ?_
            refine r_v (Value.int .i64 (4)) rfl rfl rfl rfl ?_
            refine lx_nil ?_
            refine hK31 _ _ ?_; try clear hK31 K31
            obtain rfl := Option.some.inj hM
            refine A_ret (fun hn => ends_eq (v0 := Value.tuple #[Value.agg #[U (0#64), U (0#64)], Value.int .i64 (4)]) (by first | rfl | simp only [app_hl]) (res2 (res_cell hn 1 rfl rfl rfl) rfl))
          · replace hM := ifn (of_decide_eq_false hc30) hM
            refine A_skip ?_
            refine hK28 _ _ ?_; try clear hK28 K28
            refine A_seq fun K32 hK32 => ?_
            refine A_reg ?_
            refine r_l (Value.agg #[U (hi (m3_)), U (lo (m3_))]) 0 _ _ _ _ rfl rfl rfl rfl rfl ?_
            refine r_v (Value.int .i64 (base)) rfl rfl rfl rfl ?_
            refine r_v (Value.int .i64 (r26)) rfl rfl rfl rfl ?_
            replace hM := bind_sm hM; obtain ⟨r33, hr34, hM⟩ := hM
            refine r_c (Value.tuple #[Value.agg #[U (hi (r33.1)), U (lo (r33.1))], Value.bool (r33.2)]) rfl _ _ (ev_callF rfl call_58 rfl) (word_behind_g N (m3_) (base) (r26) _ hr34) ?_
            refine r_v (Value.tuple #[Value.agg #[U (hi (r33.1)), U (lo (r33.1))], Value.bool (r33.2)]) rfl rfl rfl rfl ?_
            refine r_v (Value.agg #[U (hi (r33.1)), U (lo (r33.1))]) rfl rfl rfl rfl ?_
            refine r_v (Value.bool (r33.2)) rfl rfl rfl rfl ?_
            refine r_a (81, #[U (0#64), U (0#64)]) rfl rfl rfl (fun b35 => ?_) (.inr rfl)
            refine r_s [(b35, 81, #[U (hi (r33.1)), U (lo (r33.1))]), (b14, 81, #[U (hi (m3_)), U (lo (m3_))]), (b2, 81, #[U (hi (m4_)), U (lo (m4_))])] 0 _ _ _ (#[U (0#64), U (0#64)]) (#[U (hi (r33.1)), U (lo (r33.1))]) (#[U (hi (r33.1)), U (lo (r33.1))]) rfl rfl rfl rfl (.of rfl rfl) rfl rfl ?_
            refine r_v (Value.bool (r33.2)) rfl rfl rfl rfl ?_
            refine lx_nil ?_
            refine hK32 _ _ ?_; try clear hK32 K32
            refine A_reg ?_
            refine r_l (Value.agg #[U (hi (r33.1)), U (lo (r33.1))]) 0 _ _ _ _ rfl rfl rfl rfl rfl ?_
            refine r_v (Value.bool (above1_)) rfl rfl rfl rfl ?_
            refine r_v (Value.bool (above1_)) rfl rfl rfl rfl ?_
            rcases hg36 : (above1_) with _ | _
            · replace hM := ifn (Bool.eq_false_iff.1 hg36) hM
              refine r_y rfl ?_
              refine r_v (Value.bool (r33.2)) rfl rfl rfl rfl ?_
              refine r_v (Value.bool (r33.2)) rfl rfl rfl rfl ?_
              refine r_s [(b35, 81, #[U (hi (r33.1)), U (lo (r33.1))]), (b14, 81, #[U (hi (r33.1)), U (lo (r33.1))]), (b2, 81, #[U (hi (m4_)), U (lo (m4_))])] 1 _ _ _ (#[U (hi (m3_)), U (lo (m3_))]) (#[U (hi (r33.1)), U (lo (r33.1))]) (#[U (hi (r33.1)), U (lo (r33.1))]) rfl rfl rfl rfl (.of rfl rfl) rfl rfl ?_
              refine r_v (Value.bool (r33.2)) rfl rfl rfl rfl ?_
              refine lx_nil ?_
              refine hK22 _ _ ?_; try clear hK22 K22
              refine A_reg ?_
              replace hM := ck_some hM; obtain ⟨ck37, hM⟩ := hM
              refine r_v (Value.int .i64 ((x2_ + 1))) rfl rfl (wi64 rfl ck37.1 ck37.2) rfl ?_
              refine r_v (Value.int .i64 ((x2_ + 1))) rfl rfl rfl rfl ?_
              refine lx_nil ?_
              refine fg _ (Sub.of (List.Sublist.cons _ (List.Sublist.cons_cons _ (List.Sublist.cons_cons _ (List.Sublist.slnil))))) ?_
              exact ⟨n18 + 1, by omega, n18, r33.2, (x2_ + 1), r33.1, m4_, hM, is_mk rfl rfl, rfl⟩
            · replace hM := ifp hg36 hM
              refine r_n true rfl (by decide) rfl ?_
              refine r_v (Value.bool (true)) rfl rfl rfl rfl ?_
              refine r_s [(b35, 81, #[U (hi (r33.1)), U (lo (r33.1))]), (b14, 81, #[U (hi (r33.1)), U (lo (r33.1))]), (b2, 81, #[U (hi (m4_)), U (lo (m4_))])] 1 _ _ _ (#[U (hi (m3_)), U (lo (m3_))]) (#[U (hi (r33.1)), U (lo (r33.1))]) (#[U (hi (r33.1)), U (lo (r33.1))]) rfl rfl rfl rfl (.of rfl rfl) rfl rfl ?_
              refine r_v (Value.bool (true)) rfl rfl rfl rfl ?_
              refine lx_nil ?_
              refine hK22 _ _ ?_; try clear hK22 K22
              refine A_reg ?_
              replace hM := ck_some hM; obtain ⟨ck38, hM⟩ := hM
              refine r_v (Value.int .i64 ((x2_ + 1))) rfl rfl (wi64 rfl ck38.1 ck38.2) rfl ?_
              refine r_v (Value.int .i64 ((x2_ + 1))) rfl rfl rfl rfl ?_
              refine lx_nil ?_
              refine fg _ (Sub.of (List.Sublist.cons _ (List.Sublist.cons_cons _ (List.Sublist.cons_cons _ (List.Sublist.slnil))))) ?_
              exact ⟨n18 + 1, by omega, n18, true, (x2_ + 1), r33.1, m4_, hM, is_mk rfl rfl, rfl⟩
        · replace hM := ifn (of_decide_eq_false hc21) hM
          refine A_exit ?_
          refine hK16 _ _ ?_; try clear hK16 K16
          refine A_seq fun K39 hK39 => ?_
          refine A_seq fun K40 hK40 => ?_
          refine A_reg ?_
          refine r_v (Value.bool (above1_)) rfl rfl rfl rfl ?_
          refine lx_nil ?_
          refine hK40 _ _ ?_; try clear hK40 K40
          refine A_cond (above1_) rfl (fun hc41 => ?_) (fun hc41 => ?_)
          · replace hM := ifp hc41 hM
            refine A_seq fun K42 hK42 => ?_
            refine A_reg ?_
            refine r_v (Value.agg #[U (0#64), U (0#64)]) rfl rfl rfl (ev_buildS rfl rfl rfl rfl) ?_
            refine r_s [(b14, 81, #[U (hi (m3_)), U (lo (m3_))]), (b2, 81, #[U (0#64), U (0#64)])] 1 _ _ _ (#[U (hi (m4_)), U (lo (m4_))]) (#[U (0#64), U (0#64)]) (#[U (0#64), U (0#64)]) rfl rfl rfl rfl (.of rfl rfl) rfl rfl ?_
            refine r_v (Value.int .i64 (7)) rfl rfl rfl rfl ?_
            refine lx_nil ?_
            refine hK42 _ _ ?_; try clear hK42 K42
            obtain rfl := Option.some.inj hM
            refine A_ret (fun hn => ends_eq (v0 := Value.tuple #[Value.agg #[U (0#64), U (0#64)], Value.int .i64 (7)]) (by first | rfl | simp only [app_hl]) (res2 (res_cell hn 1 rfl rfl rfl) rfl))
          · replace hM := ifn (Bool.eq_false_iff.1 hc41) hM
            refine A_skip ?_
            refine hK39 _ _ ?_; try clear hK39 K39
            refine A_seq fun K43 hK43 => ?_
            refine A_reg ?_
            refine r_l (Value.agg #[U (hi (m3_)), U (lo (m3_))]) 0 _ _ _ _ rfl rfl rfl rfl rfl ?_
            refine r_s [(b14, 81, #[U (hi (m3_)), U (lo (m3_))]), (b2, 81, #[U (hi (m3_)), U (lo (m3_))])] 1 _ _ _ (#[U (hi (m4_)), U (lo (m4_))]) (#[U (hi (m3_)), U (lo (m3_))]) (#[U (hi (m3_)), U (lo (m3_))]) rfl rfl rfl rfl (.of rfl rfl) rfl rfl ?_
            refine r_v (Value.int .i64 (0)) rfl rfl rfl rfl ?_
            refine lx_nil ?_
            refine hK43 _ _ ?_; try clear hK43 K43
            obtain rfl := Option.some.inj hM
            refine A_ret (fun hn => ends_eq (v0 := Value.tuple #[Value.agg #[U (hi (m3_)), U (lo (m3_))], Value.int .i64 (0)]) rfl (res2 (res_cell hn 1 rfl rfl rfl) rfl))
def shunterref01_Halves_k6 (r' : BitVec 128) (lo2_ : BitVec 64) (i3_ : Int) (rec_shunterref01_Halves_l4 : BitVec 64 → BitVec 64 → Int → Option ((BitVec 64) × (BitVec 64))) (hi5_ : BitVec 64) : Option ((BitVec 64) × (BitVec 64)) := ck (0 ≤ i3_ ∧ i3_ < 128) (if ((r').getLsbD ((i3_).toNat)) = true then ck ((-9223372036854775808 ≤ (i3_ - 1) ∧ (i3_ - 1) ≤ 9223372036854775807)) (rec_shunterref01_Halves_l4 (hi5_) (((2#64 * lo2_) + 1#64)) ((i3_ - 1))) else ck ((-9223372036854775808 ≤ (i3_ - 1) ∧ (i3_ - 1) ≤ 9223372036854775807)) (rec_shunterref01_Halves_l4 (hi5_) ((2#64 * lo2_)) ((i3_ - 1))))
def shunterref01_Halves_l4 (r' : BitVec 128) : Nat → BitVec 64 → BitVec 64 → Int → Option ((BitVec 64) × (BitVec 64))
  | 0, _, _, _ => none
  | n6 + 1, hi1_, lo2_, i3_ => if (i3_ : Int) ≥ 0 then ck ((-9223372036854775808 ≤ (i3_ + 64) ∧ (i3_ + 64) ≤ 9223372036854775807)) (ck (0 ≤ (i3_ + 64) ∧ (i3_ + 64) < 128) (if ((r').getLsbD (((i3_ + 64)).toNat)) = true then shunterref01_Halves_k6 r' lo2_ i3_ (shunterref01_Halves_l4 r' n6) (((2#64 * hi1_) + 1#64)) else shunterref01_Halves_k6 r' lo2_ i3_ (shunterref01_Halves_l4 r' n6) ((2#64 * hi1_)))) else some (hi1_, lo2_)
def shunterref01_Halves_m (N : Nat) (r' : BitVec 128) : Option ((BitVec 64) × (BitVec 64)) := shunterref01_Halves_l4 r' N (0#64) (0#64) (63)
set_option maxRecDepth 100000 in
set_option maxHeartbeats 400000 in
theorem shunterref01_Halves_g (N : Nat) (r' : BitVec 128) (r : (BitVec 64) × (BitVec 64)) (hM : shunterref01_Halves_m N r' = some r) : Gives Try.prog 33 #[Value.agg (rowF (BitVec.getLsbD (r')))] (Value.tuple #[U (r.1), U (r.2)]) := by
  unfold shunterref01_Halves_m at hM
  refine gives_of_A follows Try.func33 rfl 28 rfl (upd (fun _ => undef) 0 (Value.agg (rowF (BitVec.getLsbD (r'))))) (by funext k; match k with | 0 => rfl | k + 1 => rfl) (fun base0_ => ?_)
  refine A_seq fun K1 hK1 => ?_
  refine A_reg ?_
  refine r_a (69, rowF (BitVec.getLsbD (r'))) rfl rfl rfl (fun b2 => ?_) (.inr rfl)
  refine r_v (U (0#64)) rfl rfl rfl rfl ?_
  refine r_v (U (0#64)) rfl rfl rfl rfl ?_
  refine lx_nil ?_
  refine hK1 _ _ ?_; try clear hK1 K1
  refine A_seq fun K3 hK3 => ?_
  refine A_reg ?_
  refine r_v (U (0#64)) rfl rfl rfl rfl ?_
  refine r_v (U (0#64)) rfl rfl rfl rfl ?_
  refine lx_nil ?_
  refine hK3 _ _ ?_; try clear hK3 K3
  refine A_seq fun K4 hK4 => ?_
  refine A_seq fun K5 hK5 => ?_
  refine A_reg ?_
  refine r_v (Value.int .i64 (63)) rfl rfl rfl rfl ?_
  refine lx_nil ?_
  refine hK5 _ _ ?_; try clear hK5 K5
  refine A_block ?_
  refine A_loop (fun tt ll nn => ∃ (n6 : Nat) (hi1_ : BitVec 64) (lo2_ : BitVec 64) (i3_ : Int), (shunterref01_Halves_l4 r' n6 hi1_ lo2_ i3_ = some r) ∧ Is [(1, Value.pointer (some ⟨b2, 0, none⟩)), (4, U (hi1_)), (5, U (lo2_)), (6, Value.int .i64 (i3_))] [(b2, 69, rowF (BitVec.getLsbD (r')))] tt ll ∧ nn = n6 + 1) (N + 1) ?_ ?_
  · exact ⟨N, 0#64, 0#64, 63, hM, is_mk rfl rfl, rfl⟩
  · clear hM; rintro t l _ ⟨n6, hi1_, lo2_, i3_, hM, ⟨⟨T, rfl⟩, rfl⟩, rfl⟩
    rcases n6 with _ | n6
    · exact absurd hM (by simp [shunterref01_Halves_l4])
    rw [shunterref01_Halves_l4] at hM
    refine A_seq fun K7 hK7 => ?_
    refine A_seq fun K8 hK8 => ?_
    refine A_reg ?_
    refine r_v (Value.int .i64 (i3_)) rfl rfl rfl rfl ?_
    refine r_v (Value.bool (decide ((i3_ : Int) ≥ 0))) rfl rfl rfl rfl ?_
    refine lx_nil ?_
    refine hK8 _ _ ?_; try clear hK8 K8
    refine A_cond (decide ((i3_ : Int) ≥ 0)) rfl (fun hc9 => ?_) (fun hc9 => ?_)
    · replace hM := ifp (of_decide_eq_true hc9) hM
      refine A_skip ?_
      refine hK7 _ _ ?_; try clear hK7 K7
      refine A_seq fun K10 hK10 => ?_
      refine A_block ?_
      refine A_seq fun K11 hK11 => ?_
      refine A_reg ?_
      refine r_v (U (hi1_)) rfl rfl rfl rfl ?_
      refine r_v (U ((2#64 * hi1_))) rfl rfl (U_mul (2#64) (hi1_)) rfl ?_
      refine r_v (U ((2#64 * hi1_))) rfl rfl rfl rfl ?_
      refine lx_nil ?_
      refine hK11 _ _ ?_; try clear hK11 K11
      refine A_seq fun K12 hK12 => ?_
      refine A_reg ?_
      refine r_v (U (lo2_)) rfl rfl rfl rfl ?_
      refine r_v (U ((2#64 * lo2_))) rfl rfl (U_mul (2#64) (lo2_)) rfl ?_
      refine r_v (U ((2#64 * lo2_))) rfl rfl rfl rfl ?_
      refine lx_nil ?_
      refine hK12 _ _ ?_; try clear hK12 K12
      refine A_cut (fun tt ll => ∃ (hi5_ : BitVec 64), (shunterref01_Halves_k6 r' lo2_ i3_ (shunterref01_Halves_l4 r' n6) hi5_ = some r) ∧ Is [(1, Value.pointer (some ⟨b2, 0, none⟩)), (4, U (hi5_)), (5, U ((2#64 * lo2_))), (6, Value.int .i64 (i3_))] [(b2, 69, rowF (BitVec.getLsbD (r')))] tt ll) ?_ ?_
      · refine A_seq fun K19 hK19 => ?_
        refine A_reg ?_
        refine r_v (Value.int .i64 (i3_)) rfl rfl rfl rfl ?_
        replace hM := ck_some hM; obtain ⟨ck20, hM⟩ := hM
        refine r_v (Value.int .i64 ((i3_ + 64))) rfl rfl (wi64 rfl ck20.1 ck20.2) rfl ?_
        replace hM := ck_some hM; obtain ⟨ck21, hM⟩ := hM
        have hx22 := fun c => ev_v (ev_idxI (P := Try.prog) (c := c) (t := 69) (b := b2) (off := 0) (k := .i64) rfl rfl rfl ck21)
        simp only [Nat.zero_add] at hx22
        have ck21n : ((i3_ + 64)).toNat < 128 := by omega
        refine r_v (Value.pointer (some ⟨b2, ((i3_ + 64)).toNat, none⟩)) rfl rfl rfl (hx22 _) ?_
        refine r_l (Value.bool ((r').getLsbD (((i3_ + 64)).toNat))) 0 _ _ _ _ rfl rfl rfl rfl (ld_row1 rfl _ ck21n) ?_
        refine lx_nil ?_
        refine hK19 _ _ ?_; try clear hK19 K19
        refine A_cond ((r').getLsbD (((i3_ + 64)).toNat)) rfl (fun hc23 => ?_) (fun hc23 => ?_)
        · replace hM := ifp hc23 hM
          refine A_reg ?_
          refine r_v (U ((2#64 * hi1_))) rfl rfl rfl rfl ?_
          refine r_v (U (((2#64 * hi1_) + 1#64))) rfl rfl (U_add ((2#64 * hi1_)) (1#64)) rfl ?_
          refine r_v (U (((2#64 * hi1_) + 1#64))) rfl rfl rfl rfl ?_
          refine lx_nil ?_
          refine fg _ (Sub.of (List.Sublist.cons_cons _ (List.Sublist.slnil))) ?_
          exact ⟨((2#64 * hi1_) + 1#64), hM, is_mk rfl rfl⟩
        · replace hM := ifn (Bool.eq_false_iff.1 hc23) hM
          refine A_skip ?_
          refine fg _ (Sub.of (List.Sublist.cons_cons _ (List.Sublist.slnil))) ?_
          exact ⟨(2#64 * hi1_), hM, is_mk rfl rfl⟩
      · clear hM; rintro t l ⟨hi5_, hM, ⟨T, rfl⟩, rfl⟩
        unfold shunterref01_Halves_k6 at hM
        refine A_seq fun K13 hK13 => ?_
        refine A_reg ?_
        refine r_v (Value.int .i64 (i3_)) rfl rfl rfl rfl ?_
        replace hM := ck_some hM; obtain ⟨ck14, hM⟩ := hM
        have hx15 := fun c => ev_v (ev_idxI (P := Try.prog) (c := c) (t := 69) (b := b2) (off := 0) (k := .i64) rfl rfl rfl ck14)
        simp only [Nat.zero_add] at hx15
        have ck14n : (i3_).toNat < 128 := by omega
        refine r_v (Value.pointer (some ⟨b2, (i3_).toNat, none⟩)) rfl rfl rfl (hx15 _) ?_
        refine r_l (Value.bool ((r').getLsbD ((i3_).toNat))) 0 _ _ _ _ rfl rfl rfl rfl (ld_row1 rfl _ ck14n) ?_
        refine lx_nil ?_
        refine hK13 _ _ ?_; try clear hK13 K13
        refine A_cond ((r').getLsbD ((i3_).toNat)) rfl (fun hc16 => ?_) (fun hc16 => ?_)
        · replace hM := ifp hc16 hM
          refine A_reg ?_
          refine r_v (U ((2#64 * lo2_))) rfl rfl rfl rfl ?_
          refine r_v (U (((2#64 * lo2_) + 1#64))) rfl rfl (U_add ((2#64 * lo2_)) (1#64)) rfl ?_
          refine r_v (U (((2#64 * lo2_) + 1#64))) rfl rfl rfl rfl ?_
          refine lx_nil ?_
          refine hK10 _ _ ?_; try clear hK10 K10
          refine A_reg ?_
          refine r_v (Value.int .i64 (i3_)) rfl rfl rfl rfl ?_
          replace hM := ck_some hM; obtain ⟨ck17, hM⟩ := hM
          refine r_v (Value.int .i64 ((i3_ - 1))) rfl rfl (wi64 rfl ck17.1 ck17.2) rfl ?_
          refine r_v (Value.int .i64 ((i3_ - 1))) rfl rfl rfl rfl ?_
          refine lx_nil ?_
          refine fg _ (Sub.of (List.Sublist.cons_cons _ (List.Sublist.slnil))) ?_
          exact ⟨n6 + 1, by omega, n6, hi5_, ((2#64 * lo2_) + 1#64), (i3_ - 1), hM, is_mk rfl rfl, rfl⟩
        · replace hM := ifn (Bool.eq_false_iff.1 hc16) hM
          refine A_skip ?_
          refine hK10 _ _ ?_; try clear hK10 K10
          refine A_reg ?_
          refine r_v (Value.int .i64 (i3_)) rfl rfl rfl rfl ?_
          replace hM := ck_some hM; obtain ⟨ck18, hM⟩ := hM
          refine r_v (Value.int .i64 ((i3_ - 1))) rfl rfl (wi64 rfl ck18.1 ck18.2) rfl ?_
          refine r_v (Value.int .i64 ((i3_ - 1))) rfl rfl rfl rfl ?_
          refine lx_nil ?_
          refine fg _ (Sub.of (List.Sublist.cons_cons _ (List.Sublist.slnil))) ?_
          exact ⟨n6 + 1, by omega, n6, hi5_, (2#64 * lo2_), (i3_ - 1), hM, is_mk rfl rfl, rfl⟩
    · replace hM := ifn (of_decide_eq_false hc9) hM
      refine A_exit ?_
      refine hK4 _ _ ?_; try clear hK4 K4
      refine A_seq fun K24 hK24 => ?_
      refine A_reg ?_
      refine r_v (U (hi1_)) rfl rfl rfl rfl ?_
      refine r_v (U (lo2_)) rfl rfl rfl rfl ?_
      refine r_v (U (hi1_)) rfl rfl rfl rfl ?_
      refine r_v (U (lo2_)) rfl rfl rfl rfl ?_
      refine lx_nil ?_
      refine hK24 _ _ ?_; try clear hK24 K24
      obtain rfl := Option.some.inj hM
      refine A_ret (fun hn => ends_eq (v0 := Value.tuple #[U (hi1_), U (lo2_)]) rfl (res2 rfl rfl))
def shunterref01_small_m (_ : Nat) (n : Int) : Option (BitVec 128) := some ((0#64) ++ (BitVec.ofInt 64 (n)))
set_option maxRecDepth 100000 in
set_option maxHeartbeats 400000 in
theorem shunterref01_small_g (N : Nat) (n : Int) (r : BitVec 128) (hM : shunterref01_small_m N n = some r) : Gives Try.prog 44 #[Value.int .i64 (n)] (Value.agg (rowF (BitVec.getLsbD (r)))) := by
  unfold shunterref01_small_m at hM
  refine gives_of_A follows Try.func44 rfl 6 rfl (upd (fun _ => undef) 0 (Value.int .i64 (n))) (by funext k; match k with | 0 => rfl | k + 1 => rfl) (fun base0_ => ?_)
  refine A_seq fun K1 hK1 => ?_
  refine A_reg ?_
  refine r_a (69, rowF (BitVec.getLsbD (0#128))) rfl rfl ((zrow z_69).trans (congrArg (fun x => some (69, x)) row_zero)) (fun b2 => ?_) (.inr rfl)
  refine lx_nil ?_
  refine hK1 _ _ ?_; try clear hK1 K1
  refine A_seq fun K3 hK3 => ?_
  refine A_reg ?_
  refine r_v (Value.int .i64 (n)) rfl rfl rfl rfl ?_
  refine r_w (U (BitVec.ofInt 64 (n))) rfl rfl (U_wrapI (n)) (fun _ => rfl) ?_
  refine r_c (Value.agg (rowF (BitVec.getLsbD ((0#64) ++ (BitVec.ofInt 64 (n)))))) rfl _ _ (ev_callF rfl call_62 rfl) (of_g (0#64) (BitVec.ofInt 64 (n))) ?_
  refine r_s [(b2, 69, rowF (BitVec.getLsbD ((0#64) ++ (BitVec.ofInt 64 (n)))))] 0 _ _ _ (rowF (BitVec.getLsbD (0#128))) (rowF (BitVec.getLsbD ((0#64) ++ (BitVec.ofInt 64 (n))))) (rowF (BitVec.getLsbD ((0#64) ++ (BitVec.ofInt 64 (n))))) rfl rfl rfl rfl (stok_rows rfl rfl _ _) (splice_rows _ _) rfl ?_
  refine lx_nil ?_
  refine hK3 _ _ ?_; try clear hK3 K3
  obtain rfl := Option.some.inj hM
  refine A_ret (fun hn => ends_eq (v0 := Value.agg (rowF (BitVec.getLsbD ((0#64) ++ (BitVec.ofInt 64 (n)))))) rfl (res1 (res_cell hn 0 rfl rfl (ld_rows rfl rfl rfl _))))
def shunterref01_Parse_l10 (N : Nat) (s : List UInt8) (base : Int) (over3_ : Bool) (i4_ : Int) (m5_ : BitVec 128) (m6_ : BitVec 128) (rec_shunterref01_Parse_l7 : Bool → Int → BitVec 128 → BitVec 128 → Option ((BitVec 128) × Int)) : Nat → Int → Int → Option ((BitVec 128) × Int)
  | 0, _, _ => none
  | n20 + 1, d8_, k9_ => if (k9_ : Int) < base then ck ((0 : Int) ≤ i4_ ∧ i4_ < ((s).length : Int)) (ck ((0 : Int) ≤ k9_ ∧ k9_ < ((([48, 49, 50, 51, 52, 53, 54, 55, 56, 57, 97, 98, 99, 100, 101, 102] : List UInt8)).length : Int)) (if ((byteAt (s) (i4_)) : Int) = (byteAt (([48, 49, 50, 51, 52, 53, 54, 55, 56, 57, 97, 98, 99, 100, 101, 102] : List UInt8)) (k9_)) then ck ((-9223372036854775808 ≤ (k9_ + 1) ∧ (k9_ + 1) ≤ 9223372036854775807)) ((shunterref01_Parse_l10 N s base over3_ i4_ m5_ m6_ rec_shunterref01_Parse_l7 n20) (k9_) ((k9_ + 1))) else ck ((0 : Int) ≤ i4_ ∧ i4_ < ((s).length : Int)) (ck ((0 : Int) ≤ k9_ ∧ k9_ < ((([48, 49, 50, 51, 52, 53, 54, 55, 56, 57, 65, 66, 67, 68, 69, 70] : List UInt8)).length : Int)) (if ((byteAt (s) (i4_)) : Int) = (byteAt (([48, 49, 50, 51, 52, 53, 54, 55, 56, 57, 65, 66, 67, 68, 69, 70] : List UInt8)) (k9_)) then ck ((-9223372036854775808 ≤ (k9_ + 1) ∧ (k9_ + 1) ≤ 9223372036854775807)) ((shunterref01_Parse_l10 N s base over3_ i4_ m5_ m6_ rec_shunterref01_Parse_l7 n20) (k9_) ((k9_ + 1))) else ck ((-9223372036854775808 ≤ (k9_ + 1) ∧ (k9_ + 1) ≤ 9223372036854775807)) ((shunterref01_Parse_l10 N s base over3_ i4_ m5_ m6_ rec_shunterref01_Parse_l7 n20) (d8_) ((k9_ + 1))))))) else if (d8_ : Int) = 99 then some (0#128, 4) else if (over3_) = true then ck ((-9223372036854775808 ≤ (i4_ + 1) ∧ (i4_ + 1) ≤ 9223372036854775807)) (rec_shunterref01_Parse_l7 (over3_) ((i4_ + 1)) (m5_) (m6_)) else (shunterref01_small_m N (base)).bind fun r42 => ck ((r42) ≠ 0#128) ((shunterref01_small_m N (base)).bind fun r49 => (shunterref01_small_m N (d8_)).bind fun r51 => if ((~~~(0#128)) / (r42)) < (m5_) then ck ((-9223372036854775808 ≤ (i4_ + 1) ∧ (i4_ + 1) ≤ 9223372036854775807)) (rec_shunterref01_Parse_l7 (true) ((i4_ + 1)) (((m5_) * (r49)) + (r51) + cb128 (false)) (m6_)) else ck ((-9223372036854775808 ≤ (i4_ + 1) ∧ (i4_ + 1) ≤ 9223372036854775807)) (rec_shunterref01_Parse_l7 (BitVec.carry 128 ((m5_) * (r49)) (r51) (false)) ((i4_ + 1)) (((m5_) * (r49)) + (r51) + cb128 (false)) (m6_)))
def shunterref01_Parse_l7 (N : Nat) (s : List UInt8) (base : Int) : Nat → Bool → Int → BitVec 128 → BitVec 128 → Option ((BitVec 128) × Int)
  | 0, _, _, _, _ => none
  | n12 + 1, over3_, i4_, m5_, m6_ => if (i4_ : Int) < ((s).length : Int) then shunterref01_Parse_l10 N s base over3_ i4_ m5_ m6_ (shunterref01_Parse_l7 N s base n12) N (99) (0) else if (over3_) = true then some (0#128, 7) else some (m5_, 0)
def shunterref01_Parse_k2 (N : Nat) (s : List UInt8) (base : Int) (m1_ : BitVec 128) : Option ((BitVec 128) × Int) := if (s) = ([]) then some (0#128, 3) else shunterref01_Parse_l7 N s base N (false) (0) (0#128) (m1_)
def shunterref01_Parse_m (N : Nat) (s : List UInt8) (base : Int) : Option ((BitVec 128) × Int) := if (base : Int) < 2 then some (0#128, 1) else if (base : Int) > 16 then some (0#128, 1) else shunterref01_Parse_k2 N s base (0#128)
set_option maxRecDepth 100000 in
set_option maxHeartbeats 400000 in
theorem shunterref01_Parse_g (N : Nat) (s : List UInt8) (base : Int) (r : (BitVec 128) × Int) (hM : shunterref01_Parse_m N s base = some r) : Gives Try.prog 31 #[Value.string (⟨(s).toArray⟩), Value.int .i64 (base)] (Value.tuple #[Value.agg (rowF (BitVec.getLsbD (r.1))), Value.int .i64 (r.2)]) := by
  unfold shunterref01_Parse_m at hM
  refine gives_of_A follows Try.func31 rfl 85 rfl (upd (upd (fun _ => undef) 1 (Value.int .i64 (base))) 0 (Value.string (⟨(s).toArray⟩))) (by funext k; match k with | 0 => rfl | 1 => rfl | k + 2 => rfl) (fun base0_ => ?_)
  refine A_seq fun K1 hK1 => ?_
  refine A_reg ?_
  refine r_a (69, rowF (BitVec.getLsbD (0#128))) rfl rfl ((zrow z_69).trans (congrArg (fun x => some (69, x)) row_zero)) (fun b2 => ?_) (.inr rfl)
  refine r_v (Value.int .i64 (0)) rfl rfl rfl rfl ?_
  refine lx_nil ?_
  refine hK1 _ _ ?_; try clear hK1 K1
  refine A_cut (fun tt ll => ∃ (m1_ : BitVec 128), (shunterref01_Parse_k2 N s base m1_ = some r) ∧ Is [(0, Value.string (⟨(s).toArray⟩)), (1, Value.int .i64 (base)), (4, Value.pointer (some ⟨b2, 0, none⟩))] [(b2, 69, rowF (BitVec.getLsbD (m1_)))] tt ll) ?_ ?_
  · refine A_seq fun K64 hK64 => ?_
    refine A_reg ?_
    refine r_v (Value.int .i64 (base)) rfl rfl rfl rfl ?_
    refine r_v (Value.bool (decide ((base : Int) < 2))) rfl rfl rfl rfl ?_
    refine r_v (Value.bool (decide ((base : Int) < 2))) rfl rfl rfl rfl ?_
    rcases hg65 : (decide ((base : Int) < 2)) with _ | _
    · replace hM := ifn (of_decide_eq_false hg65) hM
      refine r_y rfl ?_
      refine r_v (Value.int .i64 (base)) rfl rfl rfl rfl ?_
      refine r_y rfl ?_
      refine r_v (Value.bool (decide ((base : Int) > 16))) rfl rfl rfl rfl ?_
      refine r_v (Value.bool (decide ((base : Int) > 16))) rfl rfl rfl rfl ?_
      refine lx_nil ?_
      refine hK64 _ _ ?_; try clear hK64 K64
      refine A_cond (decide ((base : Int) > 16)) rfl (fun hc66 => ?_) (fun hc66 => ?_)
      · replace hM := ifp (of_decide_eq_true hc66) hM
        refine A_seq fun K67 hK67 => ?_
        refine A_reg ?_
        refine r_v (Value.agg (rowF (BitVec.getLsbD (0#128)))) rfl rfl rfl ((ev_buildA rfl z_69 rfl rfl).trans (congrArg (fun x => some (Next.value (Value.agg x))) (rowF_false.trans row_zero))) ?_
        refine r_s [(b2, 69, rowF (BitVec.getLsbD (0#128)))] 0 _ _ _ (rowF (BitVec.getLsbD (0#128))) (rowF (BitVec.getLsbD (0#128))) (rowF (BitVec.getLsbD (0#128))) rfl rfl rfl rfl (stok_rows rfl rfl _ _) (splice_rows _ _) rfl ?_
        refine r_v (Value.int .i64 (1)) rfl rfl rfl rfl ?_
        refine lx_nil ?_
        refine hK67 _ _ ?_; try clear hK67 K67
        obtain rfl := Option.some.inj hM
        refine A_ret (fun hn => ends_eq (v0 := Value.tuple #[Value.agg (rowF (BitVec.getLsbD (0#128))), Value.int .i64 (1)]) rfl (res2 (res_cell hn 0 rfl rfl (ld_rows rfl rfl rfl _)) rfl))
      · replace hM := ifn (of_decide_eq_false hc66) hM
        refine A_skip ?_
        refine fg _ (Sub.of (List.Sublist.cons_cons _ (List.Sublist.slnil))) ?_
        exact ⟨0#128, hM, is_mk rfl rfl⟩
    · replace hM := ifp (of_decide_eq_true hg65) hM
      refine r_n true rfl (by decide) rfl ?_
      refine r_n true rfl (by decide) rfl ?_
      refine r_v (Value.bool (true)) rfl rfl rfl rfl ?_
      refine lx_nil ?_
      refine hK64 _ _ ?_; try clear hK64 K64
      refine A_cond true rfl (fun _ => ?_) (fun h_ => nomatch h_)
      refine A_seq fun K68 hK68 => ?_
      refine A_reg ?_
      refine r_v (Value.agg (rowF (BitVec.getLsbD (0#128)))) rfl rfl rfl ((ev_buildA rfl z_69 rfl rfl).trans (congrArg (fun x => some (Next.value (Value.agg x))) (rowF_false.trans row_zero))) ?_
      refine r_s [(b2, 69, rowF (BitVec.getLsbD (0#128)))] 0 _ _ _ (rowF (BitVec.getLsbD (0#128))) (rowF (BitVec.getLsbD (0#128))) (rowF (BitVec.getLsbD (0#128))) rfl rfl rfl rfl (stok_rows rfl rfl _ _) (splice_rows _ _) rfl ?_
      refine r_v (Value.int .i64 (1)) rfl rfl rfl rfl ?_
      refine lx_nil ?_
      refine hK68 _ _ ?_; try clear hK68 K68
      obtain rfl := Option.some.inj hM
      refine A_ret (fun hn => ends_eq (v0 := Value.tuple #[Value.agg (rowF (BitVec.getLsbD (0#128))), Value.int .i64 (1)]) rfl (res2 (res_cell hn 0 rfl rfl (ld_rows rfl rfl rfl _)) rfl))
  · clear hM; rintro t l ⟨m1_, hM, ⟨T, rfl⟩, rfl⟩
    unfold shunterref01_Parse_k2 at hM
    refine A_seq fun K3 hK3 => ?_
    refine A_seq fun K4 hK4 => ?_
    refine A_reg ?_
    refine r_v (Value.string (⟨(s).toArray⟩)) rfl rfl rfl rfl ?_
    refine r_v (Value.bool ((s) == ([]))) rfl rfl rfl (ev_eqS rfl rfl) ?_
    refine lx_nil ?_
    refine hK4 _ _ ?_; try clear hK4 K4
    refine A_cond ((s) == ([])) rfl (fun hc5 => ?_) (fun hc5 => ?_)
    · replace hM := ifp (eq_of_beq hc5) hM
      refine A_seq fun K6 hK6 => ?_
      refine A_reg ?_
      refine r_v (Value.agg (rowF (BitVec.getLsbD (0#128)))) rfl rfl rfl ((ev_buildA rfl z_69 rfl rfl).trans (congrArg (fun x => some (Next.value (Value.agg x))) (rowF_false.trans row_zero))) ?_
      refine r_s [(b2, 69, rowF (BitVec.getLsbD (0#128)))] 0 _ _ _ (rowF (BitVec.getLsbD (m1_))) (rowF (BitVec.getLsbD (0#128))) (rowF (BitVec.getLsbD (0#128))) rfl rfl rfl rfl (stok_rows rfl rfl _ _) (splice_rows _ _) rfl ?_
      refine r_v (Value.int .i64 (3)) rfl rfl rfl rfl ?_
      refine lx_nil ?_
      refine hK6 _ _ ?_; try clear hK6 K6
      obtain rfl := Option.some.inj hM
      refine A_ret (fun hn => ends_eq (v0 := Value.tuple #[Value.agg (rowF (BitVec.getLsbD (0#128))), Value.int .i64 (3)]) rfl (res2 (res_cell hn 0 rfl rfl (ld_rows rfl rfl rfl _)) rfl))
    · replace hM := ifn (ne_of_beq_false hc5) hM
      refine A_skip ?_
      refine hK3 _ _ ?_; try clear hK3 K3
      refine A_seq fun K7 hK7 => ?_
      refine A_reg ?_
      refine r_a (69, rowF (BitVec.getLsbD (0#128))) rfl rfl ((zrow z_69).trans (congrArg (fun x => some (69, x)) row_zero)) (fun b8 => ?_) (.inr rfl)
      refine lx_nil ?_
      refine hK7 _ _ ?_; try clear hK7 K7
      refine A_seq fun K9 hK9 => ?_
      refine A_reg ?_
      refine r_v (Value.bool (false)) rfl rfl rfl rfl ?_
      refine lx_nil ?_
      refine hK9 _ _ ?_; try clear hK9 K9
      refine A_seq fun K10 hK10 => ?_
      refine A_seq fun K11 hK11 => ?_
      refine A_reg ?_
      refine r_v (Value.int .i64 (0)) rfl rfl rfl rfl ?_
      refine lx_nil ?_
      refine hK11 _ _ ?_; try clear hK11 K11
      refine A_block ?_
      refine A_loop (fun tt ll nn => ∃ (n12 : Nat) (over3_ : Bool) (i4_ : Int) (m5_ : BitVec 128) (m6_ : BitVec 128), (shunterref01_Parse_l7 N s base n12 over3_ i4_ m5_ m6_ = some r) ∧ Is [(0, Value.string (⟨(s).toArray⟩)), (1, Value.int .i64 (base)), (4, Value.pointer (some ⟨b2, 0, none⟩)), (6, Value.pointer (some ⟨b8, 0, none⟩)), (7, Value.bool (over3_)), (8, Value.int .i64 (i4_))] [(b8, 69, rowF (BitVec.getLsbD (m5_))), (b2, 69, rowF (BitVec.getLsbD (m6_)))] tt ll ∧ nn = n12 + 1) (N + 1) ?_ ?_
      · exact ⟨N, false, 0, 0#128, m1_, hM, is_mk rfl rfl, rfl⟩
      · clear hM; rintro t l _ ⟨n12, over3_, i4_, m5_, m6_, hM, ⟨⟨T, rfl⟩, rfl⟩, rfl⟩
        rcases n12 with _ | n12
        · exact absurd hM (by simp [shunterref01_Parse_l7])
        rw [shunterref01_Parse_l7] at hM
        refine A_seq fun K13 hK13 => ?_
        refine A_seq fun K14 hK14 => ?_
        refine A_reg ?_
        refine r_v (Value.int .i64 (i4_)) rfl rfl rfl rfl ?_
        refine r_v (Value.string (⟨(s).toArray⟩)) rfl rfl rfl rfl ?_
        refine r_v (Value.int .i64 (((s).length : Int))) rfl rfl rfl (ev_lenS rfl rfl rfl) ?_
        refine r_v (Value.bool (decide ((i4_ : Int) < ((s).length : Int)))) rfl rfl rfl rfl ?_
        refine lx_nil ?_
        refine hK14 _ _ ?_; try clear hK14 K14
        refine A_cond (decide ((i4_ : Int) < ((s).length : Int))) rfl (fun hc15 => ?_) (fun hc15 => ?_)
        · replace hM := ifp (of_decide_eq_true hc15) hM
          refine A_skip ?_
          refine hK13 _ _ ?_; try clear hK13 K13
          refine A_seq fun K16 hK16 => ?_
          refine A_block ?_
          refine A_seq fun K17 hK17 => ?_
          refine A_reg ?_
          refine r_v (Value.int .i64 (99)) rfl rfl rfl rfl ?_
          refine lx_nil ?_
          refine hK17 _ _ ?_; try clear hK17 K17
          refine A_seq fun K18 hK18 => ?_
          refine A_seq fun K19 hK19 => ?_
          refine A_reg ?_
          refine r_v (Value.int .i64 (0)) rfl rfl rfl rfl ?_
          refine lx_nil ?_
          refine hK19 _ _ ?_; try clear hK19 K19
          refine A_block ?_
          refine A_loop (fun tt ll nn => ∃ (n20 : Nat) (d8_ : Int) (k9_ : Int), (shunterref01_Parse_l10 N s base over3_ i4_ m5_ m6_ (shunterref01_Parse_l7 N s base n12) n20 d8_ k9_ = some r) ∧ Is [(0, Value.string (⟨(s).toArray⟩)), (1, Value.int .i64 (base)), (4, Value.pointer (some ⟨b2, 0, none⟩)), (6, Value.pointer (some ⟨b8, 0, none⟩)), (7, Value.bool (over3_)), (8, Value.int .i64 (i4_)), (9, Value.int .i64 (d8_)), (10, Value.int .i64 (k9_))] [(b8, 69, rowF (BitVec.getLsbD (m5_))), (b2, 69, rowF (BitVec.getLsbD (m6_)))] tt ll ∧ nn = n20 + 1) (N + 1) ?_ ?_
          · exact ⟨N, 99, 0, hM, is_mk rfl rfl, rfl⟩
          · clear hM; rintro t l _ ⟨n20, d8_, k9_, hM, ⟨⟨T, rfl⟩, rfl⟩, rfl⟩
            rcases n20 with _ | n20
            · exact absurd hM (by simp [shunterref01_Parse_l10])
            rw [shunterref01_Parse_l10] at hM
            refine A_seq fun K21 hK21 => ?_
            refine A_seq fun K22 hK22 => ?_
            refine A_reg ?_
            refine r_v (Value.int .i64 (k9_)) rfl rfl rfl rfl ?_
            refine r_v (Value.int .i64 (base)) rfl rfl rfl rfl ?_
            refine r_v (Value.bool (decide ((k9_ : Int) < base))) rfl rfl rfl rfl ?_
            refine lx_nil ?_
            refine hK22 _ _ ?_; try clear hK22 K22
            refine A_cond (decide ((k9_ : Int) < base)) rfl (fun hc23 => ?_) (fun hc23 => ?_)
            · replace hM := ifp (of_decide_eq_true hc23) hM
              refine A_skip ?_
              refine hK21 _ _ ?_; try clear hK21 K21
              refine A_seq fun K24 hK24 => ?_
              refine A_block ?_
              refine A_seq fun K25 hK25 => ?_
              refine A_draw [] (by decide +kernel) (fun hn => sep_nil) ?_
              refine r_v (Value.string (⟨(s).toArray⟩)) rfl rfl rfl rfl ?_
              refine r_v (Value.int .i64 (i4_)) rfl rfl rfl rfl ?_
              replace hM := ck_some hM; obtain ⟨ck26, hM⟩ := hM
              refine r_v (Value.int .u8 ((byteAt (s) (i4_)))) rfl rfl rfl (ev_v (ev_indexS rfl ck26)) ?_
              refine r_v (Value.int .i64 (k9_)) rfl rfl rfl rfl ?_
              replace hM := ck_some hM; obtain ⟨ck27, hM⟩ := hM
              refine r_v (Value.int .u8 ((byteAt (([48, 49, 50, 51, 52, 53, 54, 55, 56, 57, 97, 98, 99, 100, 101, 102] : List UInt8)) (k9_)))) rfl rfl rfl (ev_v (ev_indexS rfl ck27)) ?_
              refine r_v (Value.bool ((((byteAt (s) (i4_)) : Int) == (byteAt (([48, 49, 50, 51, 52, 53, 54, 55, 56, 57, 97, 98, 99, 100, 101, 102] : List UInt8)) (k9_))))) rfl rfl rfl rfl ?_
              refine r_v (Value.bool ((((byteAt (s) (i4_)) : Int) == (byteAt (([48, 49, 50, 51, 52, 53, 54, 55, 56, 57, 97, 98, 99, 100, 101, 102] : List UInt8)) (k9_))))) rfl rfl rfl rfl ?_
              rcases hg28 : ((((byteAt (s) (i4_)) : Int) == (byteAt (([48, 49, 50, 51, 52, 53, 54, 55, 56, 57, 97, 98, 99, 100, 101, 102] : List UInt8)) (k9_)))) with _ | _
              · replace hM := ifn (ne_of_beq_false hg28) hM
                refine r_y rfl ?_
                refine r_v (Value.string (⟨(s).toArray⟩)) rfl rfl rfl rfl ?_
                refine r_y rfl ?_
                refine r_v (Value.int .i64 (i4_)) rfl rfl rfl rfl ?_
                refine r_y rfl ?_
                replace hM := ck_some hM; obtain ⟨ck29, hM⟩ := hM
                refine r_v (Value.int .u8 ((byteAt (s) (i4_)))) rfl rfl rfl (ev_v (ev_indexS rfl ck29)) ?_
                refine r_y rfl ?_
                refine r_v (Value.int .i64 (k9_)) rfl rfl rfl rfl ?_
                refine r_y rfl ?_
                replace hM := ck_some hM; obtain ⟨ck30, hM⟩ := hM
                refine r_v (Value.int .u8 ((byteAt (([48, 49, 50, 51, 52, 53, 54, 55, 56, 57, 65, 66, 67, 68, 69, 70] : List UInt8)) (k9_)))) rfl rfl rfl (ev_v (ev_indexS rfl ck30)) ?_
                refine r_y rfl ?_
                refine r_v (Value.bool ((((byteAt (s) (i4_)) : Int) == (byteAt (([48, 49, 50, 51, 52, 53, 54, 55, 56, 57, 65, 66, 67, 68, 69, 70] : List UInt8)) (k9_))))) rfl rfl rfl rfl ?_
                refine r_v (Value.bool ((((byteAt (s) (i4_)) : Int) == (byteAt (([48, 49, 50, 51, 52, 53, 54, 55, 56, 57, 65, 66, 67, 68, 69, 70] : List UInt8)) (k9_))))) rfl rfl rfl rfl ?_
                refine lx_nil ?_
                refine hK25 _ _ ?_; try clear hK25 K25
                refine A_cond ((((byteAt (s) (i4_)) : Int) == (byteAt (([48, 49, 50, 51, 52, 53, 54, 55, 56, 57, 65, 66, 67, 68, 69, 70] : List UInt8)) (k9_)))) rfl (fun hc31 => ?_) (fun hc31 => ?_)
                · replace hM := ifp (eq_of_beq hc31) hM
                  refine A_reg ?_
                  refine r_v (Value.int .i64 (k9_)) rfl rfl rfl rfl ?_
                  refine r_v (Value.int .i64 (k9_)) rfl rfl rfl rfl ?_
                  refine lx_nil ?_
                  refine hK24 _ _ ?_; try clear hK24 K24
                  refine A_reg ?_
                  refine r_v (Value.int .i64 (k9_)) rfl rfl rfl rfl ?_
                  replace hM := ck_some hM; obtain ⟨ck32, hM⟩ := hM
                  refine r_v (Value.int .i64 ((k9_ + 1))) rfl rfl (wi64 rfl ck32.1 ck32.2) rfl ?_
                  refine r_v (Value.int .i64 ((k9_ + 1))) rfl rfl rfl rfl ?_
                  refine lx_nil ?_
                  refine fg _ (Sub.of (List.Sublist.cons_cons _ (List.Sublist.cons_cons _ (List.Sublist.slnil)))) ?_
                  exact ⟨n20 + 1, by omega, n20, k9_, (k9_ + 1), hM, is_mk rfl rfl, rfl⟩
                · replace hM := ifn (ne_of_beq_false hc31) hM
                  refine A_skip ?_
                  refine hK24 _ _ ?_; try clear hK24 K24
                  refine A_reg ?_
                  refine r_v (Value.int .i64 (k9_)) rfl rfl rfl rfl ?_
                  replace hM := ck_some hM; obtain ⟨ck33, hM⟩ := hM
                  refine r_v (Value.int .i64 ((k9_ + 1))) rfl rfl (wi64 rfl ck33.1 ck33.2) rfl ?_
                  refine r_v (Value.int .i64 ((k9_ + 1))) rfl rfl rfl rfl ?_
                  refine lx_nil ?_
                  refine fg _ (Sub.of (List.Sublist.cons_cons _ (List.Sublist.cons_cons _ (List.Sublist.slnil)))) ?_
                  exact ⟨n20 + 1, by omega, n20, d8_, (k9_ + 1), hM, is_mk rfl rfl, rfl⟩
              · replace hM := ifp (eq_of_beq hg28) hM
                refine r_n true rfl (by decide) rfl ?_
                refine r_n true rfl (by decide) rfl ?_
                refine r_n true rfl (by decide) rfl ?_
                refine r_n true rfl (by decide) rfl ?_
                refine r_n true rfl (by decide) rfl ?_
                refine r_n true rfl (by decide) rfl ?_
                refine r_v (Value.bool (true)) rfl rfl rfl rfl ?_
                refine lx_nil ?_
                refine hK25 _ _ ?_; try clear hK25 K25
                refine A_cond true rfl (fun _ => ?_) (fun h_ => nomatch h_)
                refine A_reg ?_
                refine r_v (Value.int .i64 (k9_)) rfl rfl rfl rfl ?_
                refine r_v (Value.int .i64 (k9_)) rfl rfl rfl rfl ?_
                refine lx_nil ?_
                refine hK24 _ _ ?_; try clear hK24 K24
                refine A_reg ?_
                refine r_v (Value.int .i64 (k9_)) rfl rfl rfl rfl ?_
                replace hM := ck_some hM; obtain ⟨ck34, hM⟩ := hM
                refine r_v (Value.int .i64 ((k9_ + 1))) rfl rfl (wi64 rfl ck34.1 ck34.2) rfl ?_
                refine r_v (Value.int .i64 ((k9_ + 1))) rfl rfl rfl rfl ?_
                refine lx_nil ?_
                refine fg _ (Sub.of (List.Sublist.cons_cons _ (List.Sublist.cons_cons _ (List.Sublist.slnil)))) ?_
                exact ⟨n20 + 1, by omega, n20, k9_, (k9_ + 1), hM, is_mk rfl rfl, rfl⟩
            · replace hM := ifn (of_decide_eq_false hc23) hM
              refine A_exit ?_
              refine hK18 _ _ ?_; try clear hK18 K18
              refine A_seq fun K35 hK35 => ?_
              refine A_seq fun K36 hK36 => ?_
              refine A_reg ?_
              refine r_v (Value.int .i64 (d8_)) rfl rfl rfl rfl ?_
              refine r_v (Value.bool (((d8_ : Int) == 99))) rfl rfl rfl rfl ?_
              refine lx_nil ?_
              refine hK36 _ _ ?_; try clear hK36 K36
              refine A_cond (((d8_ : Int) == 99)) rfl (fun hc37 => ?_) (fun hc37 => ?_)
              · replace hM := ifp (eq_of_beq hc37) hM
                refine A_seq fun K38 hK38 => ?_
                refine A_reg ?_
                refine r_v (Value.agg (rowF (BitVec.getLsbD (0#128)))) rfl rfl rfl ((ev_buildA rfl z_69 rfl rfl).trans (congrArg (fun x => some (Next.value (Value.agg x))) (rowF_false.trans row_zero))) ?_
                refine r_s [(b8, 69, rowF (BitVec.getLsbD (m5_))), (b2, 69, rowF (BitVec.getLsbD (0#128)))] 1 _ _ _ (rowF (BitVec.getLsbD (m6_))) (rowF (BitVec.getLsbD (0#128))) (rowF (BitVec.getLsbD (0#128))) rfl rfl rfl rfl (stok_rows rfl rfl _ _) (splice_rows _ _) rfl ?_
                refine r_v (Value.int .i64 (4)) rfl rfl rfl rfl ?_
                refine lx_nil ?_
                refine hK38 _ _ ?_; try clear hK38 K38
                obtain rfl := Option.some.inj hM
                refine A_ret (fun hn => ends_eq (v0 := Value.tuple #[Value.agg (rowF (BitVec.getLsbD (0#128))), Value.int .i64 (4)]) rfl (res2 (res_cell hn 1 rfl rfl (ld_rows rfl rfl rfl _)) rfl))
              · replace hM := ifn (ne_of_beq_false hc37) hM
                refine A_skip ?_
                refine hK35 _ _ ?_; try clear hK35 K35
                refine A_seq fun K39 hK39 => ?_
                refine A_reg ?_
                refine r_v (Value.bool (over3_)) rfl rfl rfl rfl ?_
                refine r_v (Value.bool (!(over3_))) rfl rfl rfl rfl ?_
                refine lx_nil ?_
                refine hK39 _ _ ?_; try clear hK39 K39
                refine A_cond (!(over3_)) rfl (fun hc40 => ?_) (fun hc40 => ?_)
                · replace hM := ifn (Bool.eq_false_iff.1 (not_t hc40)) hM
                  refine A_seq fun K41 hK41 => ?_
                  refine A_reg ?_
                  refine r_v (Value.agg (rowF (BitVec.getLsbD (0#128)))) rfl rfl rfl ((ev_buildA rfl z_69 rfl rfl).trans (congrArg (fun x => some (Next.value (Value.agg x))) (rowF_false.trans row_zero))) ?_
                  refine r_c (Value.agg (rowF (BitVec.getLsbD (~~~(0#128))))) rfl _ _ (ev_callF rfl call_43 rfl) (turned_g (0#128)) ?_
                  refine r_v (Value.int .i64 (base)) rfl rfl rfl rfl ?_
                  replace hM := bind_sm hM; obtain ⟨r42, hr43, hM⟩ := hM
                  refine r_c (Value.agg (rowF (BitVec.getLsbD (r42)))) rfl _ _ (ev_callF rfl call_44 rfl) (shunterref01_small_g N (base) _ hr43) ?_
                  replace hM := ck_some hM; obtain ⟨ck44, hM⟩ := hM
                  refine r_c (Value.tuple #[Value.agg (rowF (BitVec.getLsbD ((~~~(0#128)) / (r42)))), Value.agg (rowF (BitVec.getLsbD ((~~~(0#128)) % (r42))))]) rfl _ _ (ev_callF rfl call_42 rfl) (part_g (~~~(0#128)) (r42) ck44) ?_
                  refine r_v (Value.tuple #[Value.agg (rowF (BitVec.getLsbD ((~~~(0#128)) / (r42)))), Value.agg (rowF (BitVec.getLsbD ((~~~(0#128)) % (r42))))]) rfl rfl rfl rfl ?_
                  refine r_v (Value.agg (rowF (BitVec.getLsbD ((~~~(0#128)) / (r42))))) rfl rfl rfl rfl ?_
                  refine r_v (Value.agg (rowF (BitVec.getLsbD ((~~~(0#128)) % (r42))))) rfl rfl rfl rfl ?_
                  refine r_a (69, rowF (BitVec.getLsbD (0#128))) rfl rfl ((zrow z_69).trans (congrArg (fun x => some (69, x)) row_zero)) (fun b45 => ?_) (.inr rfl)
                  refine r_a (69, rowF (BitVec.getLsbD (0#128))) rfl rfl ((zrow z_69).trans (congrArg (fun x => some (69, x)) row_zero)) (fun b46 => ?_) (.inr rfl)
                  refine r_s [(b46, 69, rowF (BitVec.getLsbD (0#128))), (b45, 69, rowF (BitVec.getLsbD ((~~~(0#128)) / (r42)))), (b8, 69, rowF (BitVec.getLsbD (m5_))), (b2, 69, rowF (BitVec.getLsbD (m6_)))] 1 _ _ _ (rowF (BitVec.getLsbD (0#128))) (rowF (BitVec.getLsbD ((~~~(0#128)) / (r42)))) (rowF (BitVec.getLsbD ((~~~(0#128)) / (r42)))) rfl rfl rfl rfl (stok_rows rfl rfl _ _) (splice_rows _ _) rfl ?_
                  refine r_s [(b46, 69, rowF (BitVec.getLsbD ((~~~(0#128)) % (r42)))), (b45, 69, rowF (BitVec.getLsbD ((~~~(0#128)) / (r42)))), (b8, 69, rowF (BitVec.getLsbD (m5_))), (b2, 69, rowF (BitVec.getLsbD (m6_)))] 0 _ _ _ (rowF (BitVec.getLsbD (0#128))) (rowF (BitVec.getLsbD ((~~~(0#128)) % (r42)))) (rowF (BitVec.getLsbD ((~~~(0#128)) % (r42)))) rfl rfl rfl rfl (stok_rows rfl rfl _ _) (splice_rows _ _) rfl ?_
                  refine lx_nil ?_
                  refine hK41 _ _ ?_; try clear hK41 K41
                  refine A_seq fun K47 hK47 => ?_
                  refine A_reg ?_
                  refine r_l (Value.agg (rowF (BitVec.getLsbD ((~~~(0#128)) / (r42))))) 1 _ _ _ _ rfl rfl rfl rfl (ld_rows rfl rfl rfl _) ?_
                  refine r_l (Value.agg (rowF (BitVec.getLsbD (m5_)))) 2 _ _ _ _ rfl rfl rfl rfl (ld_rows rfl rfl rfl _) ?_
                  refine r_c (Value.bool (decide (((~~~(0#128)) / (r42)) < (m5_)))) rfl _ _ (ev_callF rfl call_45 rfl) (less_g ((~~~(0#128)) / (r42)) (m5_)) ?_
                  refine r_v (Value.bool (decide (((~~~(0#128)) / (r42)) < (m5_)))) rfl rfl rfl rfl ?_
                  refine lx_nil ?_
                  refine hK47 _ _ ?_; try clear hK47 K47
                  refine A_seq fun K48 hK48 => ?_
                  refine A_draw [] (by decide +kernel) (fun hn => sep_nil) ?_
                  refine r_l (Value.agg (rowF (BitVec.getLsbD (m5_)))) 2 _ _ _ _ rfl rfl rfl rfl (ld_rows rfl rfl rfl _) ?_
                  refine r_v (Value.int .i64 (base)) rfl rfl rfl rfl ?_
                  replace hM := bind_sm hM; obtain ⟨r49, hr50, hM⟩ := hM
                  refine r_c (Value.agg (rowF (BitVec.getLsbD (r49)))) rfl _ _ (ev_callF rfl call_44 rfl) (shunterref01_small_g N (base) _ hr50) ?_
                  refine r_c (Value.agg (rowF (BitVec.getLsbD ((m5_) * (r49))))) rfl _ _ (ev_callF rfl call_47 rfl) (product_g (m5_) (r49)) ?_
                  refine r_v (Value.int .i64 (d8_)) rfl rfl rfl rfl ?_
                  replace hM := bind_sm hM; obtain ⟨r51, hr52, hM⟩ := hM
                  refine r_c (Value.agg (rowF (BitVec.getLsbD (r51)))) rfl _ _ (ev_callF rfl call_44 rfl) (shunterref01_small_g N (d8_) _ hr52) ?_
                  refine r_c (Value.tuple #[Value.agg (rowF (BitVec.getLsbD (((m5_) * (r49)) + (r51) + cb128 (false)))), Value.bool (BitVec.carry 128 ((m5_) * (r49)) (r51) (false))]) rfl _ _ (ev_callF rfl call_46 rfl) (rsum_g ((m5_) * (r49)) (r51) (false)) ?_
                  refine r_v (Value.tuple #[Value.agg (rowF (BitVec.getLsbD (((m5_) * (r49)) + (r51) + cb128 (false)))), Value.bool (BitVec.carry 128 ((m5_) * (r49)) (r51) (false))]) rfl rfl rfl rfl ?_
                  refine r_v (Value.agg (rowF (BitVec.getLsbD (((m5_) * (r49)) + (r51) + cb128 (false))))) rfl rfl rfl rfl ?_
                  refine r_v (Value.bool (BitVec.carry 128 ((m5_) * (r49)) (r51) (false))) rfl rfl rfl rfl ?_
                  refine r_a (69, rowF (BitVec.getLsbD (0#128))) rfl rfl ((zrow z_69).trans (congrArg (fun x => some (69, x)) row_zero)) (fun b53 => ?_) (.inl rfl)
                  refine r_sn [(b53, 69, rowF (BitVec.getLsbD (((m5_) * (r49)) + (r51) + cb128 (false)))), (b46, 69, rowF (BitVec.getLsbD ((~~~(0#128)) % (r42)))), (b45, 69, rowF (BitVec.getLsbD ((~~~(0#128)) / (r42)))), (b8, 69, rowF (BitVec.getLsbD (m5_))), (b2, 69, rowF (BitVec.getLsbD (m6_)))] 0 _ _ _ (rowF (BitVec.getLsbD (0#128))) (rowF (BitVec.getLsbD (((m5_) * (r49)) + (r51) + cb128 (false)))) (rowF (BitVec.getLsbD (((m5_) * (r49)) + (r51) + cb128 (false)))) rfl rfl rfl rfl rfl (stok_rows rfl rfl _ _) (splice_rows _ _) rfl ?_
                  refine r_v (Value.bool (BitVec.carry 128 ((m5_) * (r49)) (r51) (false))) rfl rfl rfl rfl ?_
                  refine lx_nil ?_
                  refine hK48 _ _ ?_; try clear hK48 K48
                  refine A_gen [(0, Value.string (⟨(s).toArray⟩)), (1, Value.int .i64 (base)), (4, Value.pointer (some ⟨b2, 0, none⟩)), (6, Value.pointer (some ⟨b8, 0, none⟩)), (7, Value.bool (decide (((~~~(0#128)) / (r42)) < (m5_)))), (8, Value.int .i64 (i4_)), (13, Value.pointer (some ⟨b53, 0, none⟩)), (14, Value.bool (BitVec.carry 128 ((m5_) * (r49)) (r51) (false)))] rfl (fun T => ?_)
                  refine A_seq fun K54 hK54 => ?_
                  refine A_reg ?_
                  refine r_v (Value.bool (decide (((~~~(0#128)) / (r42)) < (m5_)))) rfl rfl rfl rfl ?_
                  refine r_v (Value.bool (decide (((~~~(0#128)) / (r42)) < (m5_)))) rfl rfl rfl rfl ?_
                  rcases hg55 : (decide (((~~~(0#128)) / (r42)) < (m5_))) with _ | _
                  · replace hM := ifn (of_decide_eq_false hg55) hM
                    refine r_y rfl ?_
                    refine r_v (Value.bool (BitVec.carry 128 ((m5_) * (r49)) (r51) (false))) rfl rfl rfl rfl ?_
                    refine r_v (Value.bool (BitVec.carry 128 ((m5_) * (r49)) (r51) (false))) rfl rfl rfl rfl ?_
                    refine r_v (Value.bool (BitVec.carry 128 ((m5_) * (r49)) (r51) (false))) rfl rfl rfl rfl ?_
                    refine lx_nil ?_
                    refine hK54 _ _ ?_; try clear hK54 K54
                    refine A_reg ?_
                    refine r_l (Value.agg (rowF (BitVec.getLsbD (((m5_) * (r49)) + (r51) + cb128 (false))))) 0 _ _ _ _ rfl rfl rfl rfl (ld_rows rfl rfl rfl _) ?_
                    refine r_s [(b53, 69, rowF (BitVec.getLsbD (((m5_) * (r49)) + (r51) + cb128 (false)))), (b46, 69, rowF (BitVec.getLsbD ((~~~(0#128)) % (r42)))), (b45, 69, rowF (BitVec.getLsbD ((~~~(0#128)) / (r42)))), (b8, 69, rowF (BitVec.getLsbD (((m5_) * (r49)) + (r51) + cb128 (false)))), (b2, 69, rowF (BitVec.getLsbD (m6_)))] 3 _ _ _ (rowF (BitVec.getLsbD (m5_))) (rowF (BitVec.getLsbD (((m5_) * (r49)) + (r51) + cb128 (false)))) (rowF (BitVec.getLsbD (((m5_) * (r49)) + (r51) + cb128 (false)))) rfl rfl rfl rfl (stok_rows rfl rfl _ _) (splice_rows _ _) rfl ?_
                    refine lx_nil ?_
                    refine hK16 _ _ ?_; try clear hK16 K16
                    refine A_reg ?_
                    refine r_v (Value.int .i64 (i4_)) rfl rfl rfl rfl ?_
                    replace hM := ck_some hM; obtain ⟨ck56, hM⟩ := hM
                    refine r_v (Value.int .i64 ((i4_ + 1))) rfl rfl (wi64 rfl ck56.1 ck56.2) rfl ?_
                    refine r_v (Value.int .i64 ((i4_ + 1))) rfl rfl rfl rfl ?_
                    refine lx_nil ?_
                    refine fg _ (Sub.of (List.Sublist.cons _ (List.Sublist.cons _ (List.Sublist.cons _ (List.Sublist.cons_cons _ (List.Sublist.cons_cons _ (List.Sublist.slnil))))))) ?_
                    exact ⟨n12 + 1, by omega, n12, BitVec.carry 128 ((m5_) * (r49)) (r51) (false), (i4_ + 1), ((m5_) * (r49)) + (r51) + cb128 (false), m6_, hM, is_mk rfl rfl, rfl⟩
                  · replace hM := ifp (of_decide_eq_true hg55) hM
                    refine r_n true rfl (by decide) rfl ?_
                    refine r_v (Value.bool (true)) rfl rfl rfl rfl ?_
                    refine r_v (Value.bool (true)) rfl rfl rfl rfl ?_
                    refine lx_nil ?_
                    refine hK54 _ _ ?_; try clear hK54 K54
                    refine A_reg ?_
                    refine r_l (Value.agg (rowF (BitVec.getLsbD (((m5_) * (r49)) + (r51) + cb128 (false))))) 0 _ _ _ _ rfl rfl rfl rfl (ld_rows rfl rfl rfl _) ?_
                    refine r_s [(b53, 69, rowF (BitVec.getLsbD (((m5_) * (r49)) + (r51) + cb128 (false)))), (b46, 69, rowF (BitVec.getLsbD ((~~~(0#128)) % (r42)))), (b45, 69, rowF (BitVec.getLsbD ((~~~(0#128)) / (r42)))), (b8, 69, rowF (BitVec.getLsbD (((m5_) * (r49)) + (r51) + cb128 (false)))), (b2, 69, rowF (BitVec.getLsbD (m6_)))] 3 _ _ _ (rowF (BitVec.getLsbD (m5_))) (rowF (BitVec.getLsbD (((m5_) * (r49)) + (r51) + cb128 (false)))) (rowF (BitVec.getLsbD (((m5_) * (r49)) + (r51) + cb128 (false)))) rfl rfl rfl rfl (stok_rows rfl rfl _ _) (splice_rows _ _) rfl ?_
                    refine lx_nil ?_
                    refine hK16 _ _ ?_; try clear hK16 K16
                    refine A_reg ?_
                    refine r_v (Value.int .i64 (i4_)) rfl rfl rfl rfl ?_
                    replace hM := ck_some hM; obtain ⟨ck57, hM⟩ := hM
                    refine r_v (Value.int .i64 ((i4_ + 1))) rfl rfl (wi64 rfl ck57.1 ck57.2) rfl ?_
                    refine r_v (Value.int .i64 ((i4_ + 1))) rfl rfl rfl rfl ?_
                    refine lx_nil ?_
                    refine fg _ (Sub.of (List.Sublist.cons _ (List.Sublist.cons _ (List.Sublist.cons _ (List.Sublist.cons_cons _ (List.Sublist.cons_cons _ (List.Sublist.slnil))))))) ?_
                    exact ⟨n12 + 1, by omega, n12, true, (i4_ + 1), ((m5_) * (r49)) + (r51) + cb128 (false), m6_, hM, is_mk rfl rfl, rfl⟩
                · replace hM := ifp (not_f hc40) hM
                  refine A_skip ?_
                  refine hK16 _ _ ?_; try clear hK16 K16
                  refine A_reg ?_
                  refine r_v (Value.int .i64 (i4_)) rfl rfl rfl rfl ?_
                  replace hM := ck_some hM; obtain ⟨ck58, hM⟩ := hM
                  refine r_v (Value.int .i64 ((i4_ + 1))) rfl rfl (wi64 rfl ck58.1 ck58.2) rfl ?_
                  refine r_v (Value.int .i64 ((i4_ + 1))) rfl rfl rfl rfl ?_
                  refine lx_nil ?_
                  refine fg _ (Sub.of (List.Sublist.cons_cons _ (List.Sublist.cons_cons _ (List.Sublist.slnil)))) ?_
                  exact ⟨n12 + 1, by omega, n12, over3_, (i4_ + 1), m5_, m6_, hM, is_mk rfl rfl, rfl⟩
        · replace hM := ifn (of_decide_eq_false hc15) hM
          refine A_exit ?_
          refine hK10 _ _ ?_; try clear hK10 K10
          refine A_seq fun K59 hK59 => ?_
          refine A_seq fun K60 hK60 => ?_
          refine A_reg ?_
          refine r_v (Value.bool (over3_)) rfl rfl rfl rfl ?_
          refine lx_nil ?_
          refine hK60 _ _ ?_; try clear hK60 K60
          refine A_cond (over3_) rfl (fun hc61 => ?_) (fun hc61 => ?_)
          · replace hM := ifp hc61 hM
            refine A_seq fun K62 hK62 => ?_
            refine A_reg ?_
            refine r_v (Value.agg (rowF (BitVec.getLsbD (0#128)))) rfl rfl rfl ((ev_buildA rfl z_69 rfl rfl).trans (congrArg (fun x => some (Next.value (Value.agg x))) (rowF_false.trans row_zero))) ?_
            refine r_s [(b8, 69, rowF (BitVec.getLsbD (m5_))), (b2, 69, rowF (BitVec.getLsbD (0#128)))] 1 _ _ _ (rowF (BitVec.getLsbD (m6_))) (rowF (BitVec.getLsbD (0#128))) (rowF (BitVec.getLsbD (0#128))) rfl rfl rfl rfl (stok_rows rfl rfl _ _) (splice_rows _ _) rfl ?_
            refine r_v (Value.int .i64 (7)) rfl rfl rfl rfl ?_
            refine lx_nil ?_
            refine hK62 _ _ ?_; try clear hK62 K62
            obtain rfl := Option.some.inj hM
            refine A_ret (fun hn => ends_eq (v0 := Value.tuple #[Value.agg (rowF (BitVec.getLsbD (0#128))), Value.int .i64 (7)]) rfl (res2 (res_cell hn 1 rfl rfl (ld_rows rfl rfl rfl _)) rfl))
          · replace hM := ifn (Bool.eq_false_iff.1 hc61) hM
            refine A_skip ?_
            refine hK59 _ _ ?_; try clear hK59 K59
            refine A_seq fun K63 hK63 => ?_
            refine A_reg ?_
            refine r_l (Value.agg (rowF (BitVec.getLsbD (m5_)))) 0 _ _ _ _ rfl rfl rfl rfl (ld_rows rfl rfl rfl _) ?_
            refine r_s [(b8, 69, rowF (BitVec.getLsbD (m5_))), (b2, 69, rowF (BitVec.getLsbD (m5_)))] 1 _ _ _ (rowF (BitVec.getLsbD (m6_))) (rowF (BitVec.getLsbD (m5_))) (rowF (BitVec.getLsbD (m5_))) rfl rfl rfl rfl (stok_rows rfl rfl _ _) (splice_rows _ _) rfl ?_
            refine r_v (Value.int .i64 (0)) rfl rfl rfl rfl ?_
            refine lx_nil ?_
            refine hK63 _ _ ?_; try clear hK63 K63
            obtain rfl := Option.some.inj hM
            refine A_ret (fun hn => ends_eq (v0 := Value.tuple #[Value.agg (rowF (BitVec.getLsbD (m5_))), Value.int .i64 (0)]) rfl (res2 (res_cell hn 1 rfl rfl (ld_rows rfl rfl rfl _)) rfl))
end Go.Proofs.Ytmdjifehblijkaa
