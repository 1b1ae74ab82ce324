/- law Times -/
import Derived.Test.YtacbjgfngfamhaaReft
import Derived.Test.YtacbjgfngfamhaaLaw
namespace Go.Proofs.Ytacbjgfngfamhaa
open Go Go.RowKit Go.Eng Go.ChangeShapes Go.WideShapes Go.ChangeAt Go.Joins Go.Deep
set_option maxRecDepth 100000 in
set_option maxHeartbeats 4000000 in
theorem wordTimes0_g (x y : BitVec 128) : Gives Try.prog 4 #[Value.agg #[U (hi (x)), U (lo (x))], Value.agg #[U (hi (y)), U (lo (y))], U (0#64)] (Value.bool (true)) := by
  refine gives_of_A follows Try.func4 rfl 97 rfl (upd (upd (upd (fun _ => undef) 2 (U (0#64))) 1 (Value.agg #[U (hi (y)), U (lo (y))])) 0 (Value.agg #[U (hi (x)), U (lo (x))])) (by funext k; match k with | 0 => rfl | 1 => rfl | 2 => rfl | k + 3 => rfl) (fun base => ?_)
  refine A_seq fun K1 hK1 => ?_
  refine A_reg ?_
  refine r_a (24, #[U (hi (x)), U (lo (x))]) rfl rfl rfl (fun b2 => ?_) (.inr rfl)
  refine r_a (24, #[U (hi (y)), U (lo (y))]) rfl rfl rfl (fun b3 => ?_) (.inr rfl)
  refine r_v (Value.bool (false)) rfl rfl rfl rfl ?_
  refine lx_nil ?_
  refine hK1 _ _ ?_; try clear hK1 K1
  refine A_seq fun K4 hK4 => ?_
  refine A_reg ?_
  refine r_l (Value.agg #[U (hi (x)), U (lo (x))]) 1 _ _ _ _ rfl rfl rfl rfl rfl ?_
  refine r_l (Value.agg #[U (hi (y)), U (lo (y))]) 0 _ _ _ _ rfl rfl rfl rfl rfl ?_
  refine r_c (Value.agg #[U (hi ((x) * (y))), U (lo ((x) * (y)))]) rfl _ _ (ev_callF rfl call_15 rfl) (mul_g (x) (y)) ?_
  refine r_a (24, #[U (0#64), U (0#64)]) rfl rfl rfl (fun b5 => ?_) (.inr rfl)
  refine r_s [(b5, 24, #[U (hi ((x) * (y))), U (lo ((x) * (y)))]), (b3, 24, #[U (hi (y)), U (lo (y))]), (b2, 24, #[U (hi (x)), U (lo (x))])] 0 _ _ _ (#[U (0#64), U (0#64)]) (#[U (hi ((x) * (y))), U (lo ((x) * (y)))]) (#[U (hi ((x) * (y))), U (lo ((x) * (y)))]) rfl rfl rfl rfl (.of rfl rfl) rfl rfl ?_
  refine lx_nil ?_
  refine hK4 _ _ ?_; try clear hK4 K4
  refine A_seq fun K6 hK6 => ?_
  refine A_seq fun K7 hK7 => ?_
  refine A_draw [] (by decide +kernel) (fun hn => sep_nil) ?_
  refine r_l (Value.agg #[U (hi ((x) * (y))), U (lo ((x) * (y)))]) 0 _ _ _ _ rfl rfl rfl rfl rfl ?_
  refine r_c (Value.agg (rowF (BitVec.getLsbD ((x) * (y))))) rfl _ _ (ev_callF rfl call_11 rfl) (lof_g ((x) * (y))) ?_
  refine r_l (Value.agg #[U (hi (x)), U (lo (x))]) 2 _ _ _ _ rfl rfl rfl rfl rfl ?_
  refine r_c (Value.agg (rowF (BitVec.getLsbD (x)))) rfl _ _ (ev_callF rfl call_11 rfl) (lof_g (x)) ?_
  refine r_l (Value.agg #[U (hi (y)), U (lo (y))]) 1 _ _ _ _ rfl rfl rfl rfl rfl ?_
  refine r_c (Value.agg (rowF (BitVec.getLsbD (y)))) rfl _ _ (ev_callF rfl call_11 rfl) (lof_g (y)) ?_
  refine r_c (Value.agg (rowF (BitVec.getLsbD ((x) * (y))))) rfl _ _ (ev_callF rfl call_16 rfl) (product_g (x) (y)) ?_
  refine r_v (Value.bool (!(((x) * (y)) == ((x) * (y))))) rfl rfl rfl (ev_binNe rfl rfl eg_28 (eqrow_28 ((x) * (y)) ((x) * (y)))) ?_
  refine lx_nil ?_
  refine hK7 _ _ ?_; try clear hK7 K7
  refine A_cond (!(((x) * (y)) == ((x) * (y)))) rfl (fun h => absurd (h.symm.trans (show (!(((x) * (y)) == ((x) * (y)))) = false from (bne_self_eq_false _))) (by decide)) (fun _ => ?_)
  refine A_skip ?_
  refine hK6 _ _ ?_; try clear hK6 K6
  refine A_seq fun K9 hK9 => ?_
  refine A_reg ?_
  refine r_l (Value.agg #[U (hi (x)), U (lo (x))]) 2 _ _ _ _ rfl rfl rfl rfl rfl ?_
  refine r_v (U (0#64)) rfl rfl rfl rfl ?_
  refine r_c (Value.tuple #[Value.agg #[U (hi (0#128)), U (lo (0#128))], U (0#64), Value.bool (false)]) rfl _ _ (ev_callF rfl call_17 rfl) (div0_g (x)) ?_
  refine r_v (Value.tuple #[Value.agg #[U (hi (0#128)), U (lo (0#128))], U (0#64), Value.bool (false)]) rfl rfl rfl rfl ?_
  refine r_v (Value.agg #[U (hi (0#128)), U (lo (0#128))]) rfl rfl rfl rfl ?_
  refine r_v (U (0#64)) rfl rfl rfl rfl ?_
  refine r_v (Value.bool (false)) rfl rfl rfl rfl ?_
  refine r_a (24, #[U (0#64), U (0#64)]) rfl rfl rfl (fun b10 => ?_) (.inr rfl)
  refine r_s [(b10, 24, #[U (hi (0#128)), U (lo (0#128))]), (b5, 24, #[U (hi ((x) * (y))), U (lo ((x) * (y)))]), (b3, 24, #[U (hi (y)), U (lo (y))]), (b2, 24, #[U (hi (x)), U (lo (x))])] 0 _ _ _ (#[U (0#64), U (0#64)]) (#[U (hi (0#128)), U (lo (0#128))]) (#[U (hi (0#128)), U (lo (0#128))]) rfl rfl rfl rfl (.of rfl rfl) rfl rfl ?_
  refine r_v (U (0#64)) rfl rfl rfl rfl ?_
  refine r_v (Value.bool (false)) rfl rfl rfl rfl ?_
  refine lx_nil ?_
  refine hK9 _ _ ?_; try clear hK9 K9
  refine A_seq fun K11 hK11 => ?_
  refine A_seq fun K12 hK12 => ?_
  refine A_reg ?_
  refine r_v (U (0#64)) rfl rfl rfl rfl ?_
  refine r_v (Value.bool (true)) rfl rfl rfl rfl ?_
  refine lx_nil ?_
  refine hK12 _ _ ?_; try clear hK12 K12
  refine A_cond true rfl (fun _ => ?_) (fun h => nomatch h)
  refine A_seq fun K14 hK14 => ?_
  refine A_reg ?_
  refine r_l (Value.agg #[U (hi (0#128)), U (lo (0#128))]) 0 _ _ _ _ rfl rfl rfl rfl rfl ?_
  refine r_v (Value.agg #[U (0#64), U (0#64)]) rfl rfl rfl (ev_buildS rfl rfl rfl rfl) ?_
  refine r_v (Value.bool ((0#128) == ((0#64) ++ (0#64)))) rfl rfl rfl (ev_binEq rfl rfl eg_24 (by have h_ := eqword_24 (c := fun _ => none) (0#128) ((0#64) ++ (0#64)); simp only [hi_app, lo_app] at h_; exact h_)) ?_
  refine r_v (Value.bool ((0#128) == ((0#64) ++ (0#64)))) rfl rfl rfl rfl ?_
  have hg15 : ((0#128) == ((0#64) ++ (0#64))) = true := rfl
  rw [hg15]
  refine r_y rfl ?_
  refine r_v (U (0#64)) rfl rfl rfl rfl ?_
  refine r_y rfl ?_
  refine r_v (Value.bool (true)) rfl rfl rfl rfl ?_
  refine r_v (Value.bool (true)) rfl rfl rfl rfl ?_
  refine r_v (Value.bool (true)) rfl rfl rfl rfl ?_
  refine r_y rfl ?_
  refine r_v (Value.bool (false)) rfl rfl rfl rfl ?_
  refine r_y rfl ?_
  refine r_v (Value.bool (true)) rfl rfl rfl rfl ?_
  refine r_v (Value.bool (true)) rfl rfl rfl rfl ?_
  refine r_v (Value.bool (true)) rfl rfl rfl rfl ?_
  refine r_y rfl ?_
  refine r_c (Value.bool (true)) rfl _ _ (ev_callF rfl call_14 rfl) lives_g ?_
  refine r_v (Value.bool (true)) rfl rfl rfl rfl ?_
  refine r_v (Value.bool (true)) rfl rfl rfl rfl ?_
  refine lx_nil ?_
  refine hK14 _ _ ?_; try clear hK14 K14
  refine A_ret (fun hn => ends_eq (v0 := Value.bool (true)) rfl (res1 rfl))
set_option maxRecDepth 100000 in
set_option maxHeartbeats 4000000 in
theorem wordTimes1_g (x y : BitVec 128) (d : BitVec 64) (hd : d ≠ 0#64) : Gives Try.prog 4 #[Value.agg #[U (hi (x)), U (lo (x))], Value.agg #[U (hi (y)), U (lo (y))], U (d)] (Value.bool (true)) := by
  refine gives_of_A follows Try.func4 rfl 97 rfl (upd (upd (upd (fun _ => undef) 2 (U (d))) 1 (Value.agg #[U (hi (y)), U (lo (y))])) 0 (Value.agg #[U (hi (x)), U (lo (x))])) (by funext k; match k with | 0 => rfl | 1 => rfl | 2 => rfl | k + 3 => rfl) (fun base => ?_)
  refine A_seq fun K1 hK1 => ?_
  refine A_reg ?_
  refine r_a (24, #[U (hi (x)), U (lo (x))]) rfl rfl rfl (fun b2 => ?_) (.inr rfl)
  refine r_a (24, #[U (hi (y)), U (lo (y))]) rfl rfl rfl (fun b3 => ?_) (.inr rfl)
  refine r_v (Value.bool (false)) rfl rfl rfl rfl ?_
  refine lx_nil ?_
  refine hK1 _ _ ?_; try clear hK1 K1
  refine A_seq fun K4 hK4 => ?_
  refine A_reg ?_
  refine r_l (Value.agg #[U (hi (x)), U (lo (x))]) 1 _ _ _ _ rfl rfl rfl rfl rfl ?_
  refine r_l (Value.agg #[U (hi (y)), U (lo (y))]) 0 _ _ _ _ rfl rfl rfl rfl rfl ?_
  refine r_c (Value.agg #[U (hi ((x) * (y))), U (lo ((x) * (y)))]) rfl _ _ (ev_callF rfl call_15 rfl) (mul_g (x) (y)) ?_
  refine r_a (24, #[U (0#64), U (0#64)]) rfl rfl rfl (fun b5 => ?_) (.inr rfl)
  refine r_s [(b5, 24, #[U (hi ((x) * (y))), U (lo ((x) * (y)))]), (b3, 24, #[U (hi (y)), U (lo (y))]), (b2, 24, #[U (hi (x)), U (lo (x))])] 0 _ _ _ (#[U (0#64), U (0#64)]) (#[U (hi ((x) * (y))), U (lo ((x) * (y)))]) (#[U (hi ((x) * (y))), U (lo ((x) * (y)))]) rfl rfl rfl rfl (.of rfl rfl) rfl rfl ?_
  refine lx_nil ?_
  refine hK4 _ _ ?_; try clear hK4 K4
  refine A_seq fun K6 hK6 => ?_
  refine A_seq fun K7 hK7 => ?_
  refine A_draw [] (by decide +kernel) (fun hn => sep_nil) ?_
  refine r_l (Value.agg #[U (hi ((x) * (y))), U (lo ((x) * (y)))]) 0 _ _ _ _ rfl rfl rfl rfl rfl ?_
  refine r_c (Value.agg (rowF (BitVec.getLsbD ((x) * (y))))) rfl _ _ (ev_callF rfl call_11 rfl) (lof_g ((x) * (y))) ?_
  refine r_l (Value.agg #[U (hi (x)), U (lo (x))]) 2 _ _ _ _ rfl rfl rfl rfl rfl ?_
  refine r_c (Value.agg (rowF (BitVec.getLsbD (x)))) rfl _ _ (ev_callF rfl call_11 rfl) (lof_g (x)) ?_
  refine r_l (Value.agg #[U (hi (y)), U (lo (y))]) 1 _ _ _ _ rfl rfl rfl rfl rfl ?_
  refine r_c (Value.agg (rowF (BitVec.getLsbD (y)))) rfl _ _ (ev_callF rfl call_11 rfl) (lof_g (y)) ?_
  refine r_c (Value.agg (rowF (BitVec.getLsbD ((x) * (y))))) rfl _ _ (ev_callF rfl call_16 rfl) (product_g (x) (y)) ?_
  refine r_v (Value.bool (!(((x) * (y)) == ((x) * (y))))) rfl rfl rfl (ev_binNe rfl rfl eg_28 (eqrow_28 ((x) * (y)) ((x) * (y)))) ?_
  refine lx_nil ?_
  refine hK7 _ _ ?_; try clear hK7 K7
  refine A_cond (!(((x) * (y)) == ((x) * (y)))) rfl (fun h => absurd (h.symm.trans (show (!(((x) * (y)) == ((x) * (y)))) = false from (bne_self_eq_false _))) (by decide)) (fun _ => ?_)
  refine A_skip ?_
  refine hK6 _ _ ?_; try clear hK6 K6
  refine A_seq fun K9 hK9 => ?_
  refine A_reg ?_
  refine r_l (Value.agg #[U (hi (x)), U (lo (x))]) 2 _ _ _ _ rfl rfl rfl rfl rfl ?_
  refine r_v (U (d)) rfl rfl rfl rfl ?_
  refine r_c (Value.tuple #[Value.agg #[U (hi ((x) / zx (d))), U (lo ((x) / zx (d)))], U (BitVec.ofNat 64 ((x).toNat % (d).toNat)), Value.bool (true)]) rfl _ _ (ev_callF rfl call_17 rfl) (div_g (x) (d) hd) ?_
  refine r_v (Value.tuple #[Value.agg #[U (hi ((x) / zx (d))), U (lo ((x) / zx (d)))], U (BitVec.ofNat 64 ((x).toNat % (d).toNat)), Value.bool (true)]) rfl rfl rfl rfl ?_
  refine r_v (Value.agg #[U (hi ((x) / zx (d))), U (lo ((x) / zx (d)))]) rfl rfl rfl rfl ?_
  refine r_v (U (BitVec.ofNat 64 ((x).toNat % (d).toNat))) rfl rfl rfl rfl ?_
  refine r_v (Value.bool (true)) rfl rfl rfl rfl ?_
  refine r_a (24, #[U (0#64), U (0#64)]) rfl rfl rfl (fun b10 => ?_) (.inr rfl)
  refine r_s [(b10, 24, #[U (hi ((x) / zx (d))), U (lo ((x) / zx (d)))]), (b5, 24, #[U (hi ((x) * (y))), U (lo ((x) * (y)))]), (b3, 24, #[U (hi (y)), U (lo (y))]), (b2, 24, #[U (hi (x)), U (lo (x))])] 0 _ _ _ (#[U (0#64), U (0#64)]) (#[U (hi ((x) / zx (d))), U (lo ((x) / zx (d)))]) (#[U (hi ((x) / zx (d))), U (lo ((x) / zx (d)))]) rfl rfl rfl rfl (.of rfl rfl) rfl rfl ?_
  refine r_v (U (BitVec.ofNat 64 ((x).toNat % (d).toNat))) rfl rfl rfl rfl ?_
  refine r_v (Value.bool (true)) rfl rfl rfl rfl ?_
  refine lx_nil ?_
  refine hK9 _ _ ?_; try clear hK9 K9
  refine A_seq fun K11 hK11 => ?_
  refine A_seq fun K12 hK12 => ?_
  refine A_reg ?_
  refine r_v (U (d)) rfl rfl rfl rfl ?_
  refine r_v (Value.bool ((d) == (0#64))) rfl rfl (U_eq (d) (0#64)) rfl ?_
  refine lx_nil ?_
  refine hK12 _ _ ?_; try clear hK12 K12
  refine A_cond ((d) == (0#64)) rfl (fun h => absurd (h.symm.trans (show ((d) == (0#64)) = false from (beq_eq_false_iff_ne.2 hd))) (by decide)) (fun _ => ?_)
  refine A_skip ?_
  refine hK11 _ _ ?_; try clear hK11 K11
  refine A_seq fun K14 hK14 => ?_
  refine A_reg ?_
  refine r_l (Value.agg #[U (hi (x)), U (lo (x))]) 3 _ _ _ _ rfl rfl rfl rfl rfl ?_
  refine r_c (Value.agg (rowF (BitVec.getLsbD (x)))) rfl _ _ (ev_callF rfl call_11 rfl) (lof_g (x)) ?_
  refine r_v (U (d)) rfl rfl rfl rfl ?_
  refine r_c (Value.agg (rowF (BitVec.getLsbD ((0#64) ++ (d))))) rfl _ _ (ev_callF rfl call_19 rfl) (of_g (0#64) (d)) ?_
  refine r_c (Value.tuple #[Value.agg (rowF (BitVec.getLsbD ((x) / ((0#64) ++ (d))))), Value.agg (rowF (BitVec.getLsbD ((x) % ((0#64) ++ (d)))))]) rfl _ _ (ev_callF rfl call_18 rfl) (part_g (x) ((0#64) ++ (d)) (zx_ne hd)) ?_
  refine r_v (Value.tuple #[Value.agg (rowF (BitVec.getLsbD ((x) / ((0#64) ++ (d))))), Value.agg (rowF (BitVec.getLsbD ((x) % ((0#64) ++ (d)))))]) rfl rfl rfl rfl ?_
  refine r_v (Value.agg (rowF (BitVec.getLsbD ((x) / ((0#64) ++ (d)))))) rfl rfl rfl rfl ?_
  refine r_v (Value.agg (rowF (BitVec.getLsbD ((x) % ((0#64) ++ (d)))))) rfl rfl rfl rfl ?_
  refine r_a (28, rowF (fun _ => false)) rfl rfl (zrow z_28) (fun b15 => ?_) (.inr rfl)
  refine r_a (28, rowF (fun _ => false)) rfl rfl (zrow z_28) (fun b16 => ?_) (.inr rfl)
  refine r_s [(b16, 28, rowF (fun _ => false)), (b15, 28, rowF (BitVec.getLsbD ((x) / ((0#64) ++ (d))))), (b10, 24, #[U (hi ((x) / zx (d))), U (lo ((x) / zx (d)))]), (b5, 24, #[U (hi ((x) * (y))), U (lo ((x) * (y)))]), (b3, 24, #[U (hi (y)), U (lo (y))]), (b2, 24, #[U (hi (x)), U (lo (x))])] 1 _ _ _ (rowF (fun _ => false)) (rowF (BitVec.getLsbD ((x) / ((0#64) ++ (d))))) (rowF (BitVec.getLsbD ((x) / ((0#64) ++ (d))))) rfl rfl rfl rfl (stok_rows rfl rfl _ _) (splice_rows _ _) rfl ?_
  refine r_s [(b16, 28, rowF (BitVec.getLsbD ((x) % ((0#64) ++ (d))))), (b15, 28, rowF (BitVec.getLsbD ((x) / ((0#64) ++ (d))))), (b10, 24, #[U (hi ((x) / zx (d))), U (lo ((x) / zx (d)))]), (b5, 24, #[U (hi ((x) * (y))), U (lo ((x) * (y)))]), (b3, 24, #[U (hi (y)), U (lo (y))]), (b2, 24, #[U (hi (x)), U (lo (x))])] 0 _ _ _ (rowF (fun _ => false)) (rowF (BitVec.getLsbD ((x) % ((0#64) ++ (d))))) (rowF (BitVec.getLsbD ((x) % ((0#64) ++ (d))))) rfl rfl rfl rfl (stok_rows rfl rfl _ _) (splice_rows _ _) rfl ?_
  refine lx_nil ?_
  refine hK14 _ _ ?_; try clear hK14 K14
  refine A_seq fun K17 hK17 => ?_
  refine A_reg ?_
  refine r_l (Value.agg #[U (hi ((x) / zx (d))), U (lo ((x) / zx (d)))]) 2 _ _ _ _ rfl rfl rfl rfl rfl ?_
  refine r_v (U (d)) rfl rfl rfl rfl ?_
  refine r_v (Value.agg #[U (0#64), U (d)]) rfl rfl rfl (ev_buildS rfl rfl rfl rfl) ?_
  refine r_c (Value.agg #[U (hi (((x) / zx (d)) * ((0#64) ++ (d)))), U (lo (((x) / zx (d)) * ((0#64) ++ (d))))]) rfl _ _ (ev_callF rfl call_15 rfl) (by have h_ := (mul_g ((x) / zx (d)) ((0#64) ++ (d))); simp only [hi_app, lo_app] at h_; exact h_) ?_
  refine r_v (U (BitVec.ofNat 64 ((x).toNat % (d).toNat))) rfl rfl rfl rfl ?_
  refine r_v (Value.agg #[U (0#64), U (BitVec.ofNat 64 ((x).toNat % (d).toNat))]) rfl rfl rfl (ev_buildS rfl rfl rfl rfl) ?_
  refine r_c (Value.tuple #[Value.agg #[U (hi ((((x) / zx (d)) * ((0#64) ++ (d))) + ((0#64) ++ (BitVec.ofNat 64 ((x).toNat % (d).toNat))))), U (lo ((((x) / zx (d)) * ((0#64) ++ (d))) + ((0#64) ++ (BitVec.ofNat 64 ((x).toNat % (d).toNat)))))], Value.bool (BitVec.carry 128 (((x) / zx (d)) * ((0#64) ++ (d))) ((0#64) ++ (BitVec.ofNat 64 ((x).toNat % (d).toNat))) false)]) rfl _ _ (ev_callF rfl call_9 rfl) (by have h_ := (add_g (((x) / zx (d)) * ((0#64) ++ (d))) ((0#64) ++ (BitVec.ofNat 64 ((x).toNat % (d).toNat)))); simp only [hi_app, lo_app] at h_; exact h_) ?_
  refine r_v (Value.tuple #[Value.agg #[U (hi ((((x) / zx (d)) * ((0#64) ++ (d))) + ((0#64) ++ (BitVec.ofNat 64 ((x).toNat % (d).toNat))))), U (lo ((((x) / zx (d)) * ((0#64) ++ (d))) + ((0#64) ++ (BitVec.ofNat 64 ((x).toNat % (d).toNat)))))], Value.bool (BitVec.carry 128 (((x) / zx (d)) * ((0#64) ++ (d))) ((0#64) ++ (BitVec.ofNat 64 ((x).toNat % (d).toNat))) false)]) rfl rfl rfl rfl ?_
  refine r_v (Value.agg #[U (hi ((((x) / zx (d)) * ((0#64) ++ (d))) + ((0#64) ++ (BitVec.ofNat 64 ((x).toNat % (d).toNat))))), U (lo ((((x) / zx (d)) * ((0#64) ++ (d))) + ((0#64) ++ (BitVec.ofNat 64 ((x).toNat % (d).toNat)))))]) rfl rfl rfl rfl ?_
  refine r_v (Value.bool (BitVec.carry 128 (((x) / zx (d)) * ((0#64) ++ (d))) ((0#64) ++ (BitVec.ofNat 64 ((x).toNat % (d).toNat))) false)) rfl rfl rfl rfl ?_
  refine r_a (24, #[U (0#64), U (0#64)]) rfl rfl rfl (fun b18 => ?_) (.inr rfl)
  refine r_s [(b18, 24, #[U (hi ((((x) / zx (d)) * ((0#64) ++ (d))) + ((0#64) ++ (BitVec.ofNat 64 ((x).toNat % (d).toNat))))), U (lo ((((x) / zx (d)) * ((0#64) ++ (d))) + ((0#64) ++ (BitVec.ofNat 64 ((x).toNat % (d).toNat)))))]), (b16, 28, rowF (BitVec.getLsbD ((x) % ((0#64) ++ (d))))), (b15, 28, rowF (BitVec.getLsbD ((x) / ((0#64) ++ (d))))), (b10, 24, #[U (hi ((x) / zx (d))), U (lo ((x) / zx (d)))]), (b5, 24, #[U (hi ((x) * (y))), U (lo ((x) * (y)))]), (b3, 24, #[U (hi (y)), U (lo (y))]), (b2, 24, #[U (hi (x)), U (lo (x))])] 0 _ _ _ (#[U (0#64), U (0#64)]) (#[U (hi ((((x) / zx (d)) * ((0#64) ++ (d))) + ((0#64) ++ (BitVec.ofNat 64 ((x).toNat % (d).toNat))))), U (lo ((((x) / zx (d)) * ((0#64) ++ (d))) + ((0#64) ++ (BitVec.ofNat 64 ((x).toNat % (d).toNat)))))]) (#[U (hi ((((x) / zx (d)) * ((0#64) ++ (d))) + ((0#64) ++ (BitVec.ofNat 64 ((x).toNat % (d).toNat))))), U (lo ((((x) / zx (d)) * ((0#64) ++ (d))) + ((0#64) ++ (BitVec.ofNat 64 ((x).toNat % (d).toNat)))))]) rfl rfl rfl rfl (.of rfl rfl) rfl rfl ?_
  refine r_v (Value.bool (BitVec.carry 128 (((x) / zx (d)) * ((0#64) ++ (d))) ((0#64) ++ (BitVec.ofNat 64 ((x).toNat % (d).toNat))) false)) rfl rfl rfl rfl ?_
  refine lx_nil ?_
  refine hK17 _ _ ?_; try clear hK17 K17
  refine A_seq fun K19 hK19 => ?_
  refine A_draw [] (by decide +kernel) (fun hn => sep_nil) ?_
  refine r_v (Value.bool (true)) rfl rfl rfl rfl ?_
  refine r_v (Value.bool (true)) rfl rfl rfl rfl ?_
  refine r_y rfl ?_
  refine r_l (Value.agg #[U (hi ((x) / zx (d))), U (lo ((x) / zx (d)))]) 3 _ _ _ _ rfl rfl rfl rfl rfl ?_
  refine r_y rfl ?_
  refine r_c (Value.agg (rowF (BitVec.getLsbD ((x) / zx (d))))) rfl _ _ (ev_callF rfl call_11 rfl) (lof_g ((x) / zx (d))) ?_
  refine r_y rfl ?_
  refine r_l (Value.agg (rowF (BitVec.getLsbD ((x) / ((0#64) ++ (d)))))) 2 _ _ _ _ rfl rfl rfl rfl (ld_rows rfl rfl rfl _) ?_
  refine r_y rfl ?_
  refine r_v (Value.bool (((x) / zx (d)) == ((x) / ((0#64) ++ (d))))) rfl rfl rfl (ev_binEq rfl rfl eg_28 (eqrow_28 ((x) / zx (d)) ((x) / ((0#64) ++ (d))))) ?_
  refine r_v (Value.bool (((x) / zx (d)) == ((x) / ((0#64) ++ (d))))) rfl rfl rfl rfl ?_
  refine r_v (Value.bool (((x) / zx (d)) == ((x) / ((0#64) ++ (d))))) rfl rfl rfl rfl ?_
  have hg20 : (((x) / zx (d)) == ((x) / ((0#64) ++ (d)))) = true := (times_q x d)
  rw [hg20]
  refine r_y rfl ?_
  refine r_v (U (BitVec.ofNat 64 ((x).toNat % (d).toNat))) rfl rfl rfl rfl ?_
  refine r_y rfl ?_
  refine r_c (Value.agg (rowF (BitVec.getLsbD ((0#64) ++ (BitVec.ofNat 64 ((x).toNat % (d).toNat)))))) rfl _ _ (ev_callF rfl call_19 rfl) (of_g (0#64) (BitVec.ofNat 64 ((x).toNat % (d).toNat))) ?_
  refine r_y rfl ?_
  refine r_l (Value.agg (rowF (BitVec.getLsbD ((x) % ((0#64) ++ (d)))))) 1 _ _ _ _ rfl rfl rfl rfl (ld_rows rfl rfl rfl _) ?_
  refine r_y rfl ?_
  refine r_v (Value.bool (((0#64) ++ (BitVec.ofNat 64 ((x).toNat % (d).toNat))) == ((x) % ((0#64) ++ (d))))) rfl rfl rfl (ev_binEq rfl rfl eg_28 (eqrow_28 ((0#64) ++ (BitVec.ofNat 64 ((x).toNat % (d).toNat))) ((x) % ((0#64) ++ (d))))) ?_
  refine r_v (Value.bool (((0#64) ++ (BitVec.ofNat 64 ((x).toNat % (d).toNat))) == ((x) % ((0#64) ++ (d))))) rfl rfl rfl rfl ?_
  refine r_v (Value.bool (((0#64) ++ (BitVec.ofNat 64 ((x).toNat % (d).toNat))) == ((x) % ((0#64) ++ (d))))) rfl rfl rfl rfl ?_
  have hg21 : (((0#64) ++ (BitVec.ofNat 64 ((x).toNat % (d).toNat))) == ((x) % ((0#64) ++ (d)))) = true := (beq_iff_eq.2 (small_rem x d hd))
  rw [hg21]
  refine r_y rfl ?_
  refine r_v (U (BitVec.ofNat 64 ((x).toNat % (d).toNat))) rfl rfl rfl rfl ?_
  refine r_y rfl ?_
  refine r_v (U (d)) rfl rfl rfl rfl ?_
  refine r_y rfl ?_
  refine r_v (Value.bool (decide ((BitVec.ofNat 64 ((x).toNat % (d).toNat)) < (d)))) rfl rfl (U_lt (BitVec.ofNat 64 ((x).toNat % (d).toNat)) (d)) rfl ?_
  refine r_v (Value.bool (decide ((BitVec.ofNat 64 ((x).toNat % (d).toNat)) < (d)))) rfl rfl rfl rfl ?_
  refine r_v (Value.bool (decide ((BitVec.ofNat 64 ((x).toNat % (d).toNat)) < (d)))) rfl rfl rfl rfl ?_
  have hg22 : (decide ((BitVec.ofNat 64 ((x).toNat % (d).toNat)) < (d))) = true := (decide_eq_true (small_lt x d hd))
  rw [hg22]
  refine r_y rfl ?_
  refine r_l (Value.agg #[U (hi ((((x) / zx (d)) * ((0#64) ++ (d))) + ((0#64) ++ (BitVec.ofNat 64 ((x).toNat % (d).toNat))))), U (lo ((((x) / zx (d)) * ((0#64) ++ (d))) + ((0#64) ++ (BitVec.ofNat 64 ((x).toNat % (d).toNat)))))]) 0 _ _ _ _ rfl rfl rfl rfl rfl ?_
  refine r_y rfl ?_
  refine r_l (Value.agg #[U (hi (x)), U (lo (x))]) 6 _ _ _ _ rfl rfl rfl rfl rfl ?_
  refine r_y rfl ?_
  refine r_v (Value.bool (((((x) / zx (d)) * ((0#64) ++ (d))) + ((0#64) ++ (BitVec.ofNat 64 ((x).toNat % (d).toNat)))) == (x))) rfl rfl rfl (ev_binEq rfl rfl eg_24 (eqword_24 ((((x) / zx (d)) * ((0#64) ++ (d))) + ((0#64) ++ (BitVec.ofNat 64 ((x).toNat % (d).toNat)))) (x))) ?_
  refine r_v (Value.bool (((((x) / zx (d)) * ((0#64) ++ (d))) + ((0#64) ++ (BitVec.ofNat 64 ((x).toNat % (d).toNat)))) == (x))) rfl rfl rfl rfl ?_
  refine r_v (Value.bool (((((x) / zx (d)) * ((0#64) ++ (d))) + ((0#64) ++ (BitVec.ofNat 64 ((x).toNat % (d).toNat)))) == (x))) rfl rfl rfl rfl ?_
  have hg23 : (((((x) / zx (d)) * ((0#64) ++ (d))) + ((0#64) ++ (BitVec.ofNat 64 ((x).toNat % (d).toNat)))) == (x)) = true := (beq_iff_eq.2 (times_back x d hd))
  rw [hg23]
  refine r_y rfl ?_
  refine r_v (Value.bool (BitVec.carry 128 (((x) / zx (d)) * ((0#64) ++ (d))) ((0#64) ++ (BitVec.ofNat 64 ((x).toNat % (d).toNat))) false)) rfl rfl rfl rfl ?_
  refine r_y rfl ?_
  refine r_v (Value.bool (!(BitVec.carry 128 (((x) / zx (d)) * ((0#64) ++ (d))) ((0#64) ++ (BitVec.ofNat 64 ((x).toNat % (d).toNat))) false))) rfl rfl rfl rfl ?_
  refine r_v (Value.bool (!(BitVec.carry 128 (((x) / zx (d)) * ((0#64) ++ (d))) ((0#64) ++ (BitVec.ofNat 64 ((x).toNat % (d).toNat))) false))) rfl rfl rfl rfl ?_
  refine r_v (Value.bool (!(BitVec.carry 128 (((x) / zx (d)) * ((0#64) ++ (d))) ((0#64) ++ (BitVec.ofNat 64 ((x).toNat % (d).toNat))) false))) rfl rfl rfl rfl ?_
  have hg24 : (!(BitVec.carry 128 (((x) / zx (d)) * ((0#64) ++ (d))) ((0#64) ++ (BitVec.ofNat 64 ((x).toNat % (d).toNat))) false)) = true := (by rw [times_over x d hd]; rfl)
  rw [hg24]
  refine r_y rfl ?_
  refine r_c (Value.bool (true)) rfl _ _ (ev_callF rfl call_14 rfl) lives_g ?_
  refine r_v (Value.bool (true)) rfl rfl rfl rfl ?_
  refine r_v (Value.bool (true)) rfl rfl rfl rfl ?_
  refine lx_nil ?_
  refine hK19 _ _ ?_; try clear hK19 K19
  refine A_ret (fun hn => ends_eq (v0 := Value.bool (true)) rfl (res1 rfl))
theorem wordTimes_g (x y : BitVec 128) (d : BitVec 64) : Gives Try.prog 4 #[Value.agg #[U (hi (x)), U (lo (x))], Value.agg #[U (hi (y)), U (lo (y))], U d] (Value.bool true) := by
  by_cases hd : d = 0#64
  · subst hd; exact wordTimes0_g x y
  · exact wordTimes1_g x y d hd
set_option maxRecDepth 100000 in
theorem wordTimes_lifted (os : Os) (started : os.Started) (H : Type) (enc : TypeId × Value → H) :
    ReturnsInHanded {} Try.checked os 4 .any (Rows.wordTimesSpec.pre6 enc Try.prog Try.f4 Rows.wordTimesRow.domain false) (Rows.wordTimesSpec.post enc Try.prog Try.f4 false true false false) := by
  refine returnsInHanded_of_change (C := Try.checked) own started (by kernel_rfl) Try.func4
    (ChangeSpec.witness6 (enc := enc) (C := Try.checked) false ⟨#[], #[.agg #[.int .u64 0, .int .u64 0], .agg #[.int .u64 0, .int .u64 0], .int .u64 0], []⟩ 8 (by kernel_rfl) (by kernel_rfl) (by kernel_rfl) (by kernel_rfl)) ?_
  intro W base args ds gs before hval0 hW _ _
  have hval : ∀ (j : Nat) t v, Try.f4.params[j]? = some t → args[j]? = some v → Value.okWide Try.prog W .any base t v := hval0
  have hW' := hW
  obtain ⟨p, q, hA0, hV, rfl, _, _⟩ := hW
  have hA : DataW.TrodAll enc Try.prog W 0 (fun _ => true) true Try.f4.params.toList args.toList ds p := hA0
  rw [Try.params4] at hA hval
  obtain ⟨v0, v1, v2, d0, d1, d2, p0, p1, p2, rfl, rfl, rfl, h0, h1, h2⟩ := trodAll_three hA
  obtain ⟨rfl, rfl⟩ := trodVars_none hV
  obtain ⟨x0, rfl⟩ := open_word (P := Try.prog) (t := 24) rfl (by kernel_rfl) (by kernel_rfl) rfl rfl (hval 0 24 v0 rfl rfl) h0
  obtain ⟨x1, rfl⟩ := open_word (P := Try.prog) (t := 24) rfl (by kernel_rfl) (by kernel_rfl) rfl rfl (hval 1 24 v1 rfl rfl) h1
  obtain ⟨a2, rfl, rfl, rfl, wa2⟩ := open_int (P := Try.prog) (t := 22) rfl (hval 2 22 v2 rfl rfl) h2
  obtain ⟨x2, rfl⟩ := u64_of_wf wa2
  refine ((wordTimes_g x0 x1 x2) W).mono fun e W' ⟨he, hb⟩ => ?_
  subst he
  exact ⟨_, rfl, law_post (f := Try.f4) laidOut (by kernel_rfl) rfl (by rfl) rfl hW' rfl hb⟩

theorem wordTimes_holds : Rows.WordTimesSaid :=
  OpenClaim.holds_of_wide 4 Try.f4 rfl rfl rfl rfl rfl rfl rfl ⟨rfl, rfl, rfl, rfl, rfl⟩ rfl rfl rfl rfl rfl (by kernel_rfl) Try.func4 (by kernel_rfl)
    (of_decide_eq_true (by kernel_rfl)) (by unfold Func.isWrapper; first | (rw [if_pos (by decide +kernel)]; kernel_rfl) | (rw [if_neg (by decide +kernel)]; exact ⟨rfl, rfl⟩))
    (fun os started H enc _ => wordTimes_lifted os started H enc)

end Go.Proofs.Ytacbjgfngfamhaa
