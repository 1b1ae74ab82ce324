/- laws -/
import Derived.Test.YtacbjgfngfamhaaRef
import Derived.Test.YtacbjgfngfamhaaLp
namespace Go.Proofs.Ytacbjgfngfamhaa
open Go Go.RowKit Go.Eng Go.ChangeShapes Go.WideShapes Go.ChangeAt Go.Joins Go.Deep
set_option maxRecDepth 100000 in
set_option maxHeartbeats 400000 in
theorem lof_g (x : BitVec 128) : Gives Try.prog 11 #[Value.agg #[U (hi (x)), U (lo (x))]] (Value.agg (rowF (BitVec.getLsbD (x)))) := by
  refine gives_of_A follows Try.func11 rfl 8 rfl (upd (fun _ => undef) 0 (Value.agg #[U (hi (x)), U (lo (x))])) (by funext k; match k with | 0 => rfl | k + 1 => rfl) (fun base => ?_)
  refine A_seq fun K1 hK1 => ?_
  refine A_reg ?_
  refine r_a (24, #[U (hi (x)), U (lo (x))]) rfl rfl rfl (fun b2 => ?_) (.inr rfl)
  refine r_a (28, rowF (fun _ => false)) rfl rfl (zrow z_28) (fun b3 => ?_) (.inr rfl)
  refine lx_nil ?_
  refine hK1 _ _ ?_; try clear hK1 K1
  refine A_seq fun K4 hK4 => ?_
  refine A_reg ?_
  refine r_v (Value.pointer (some ⟨b2, 0, none⟩)) rfl rfl rfl rfl ?_
  refine r_l (U (hi (x))) 1 _ _ _ _ rfl rfl rfl rfl rfl ?_
  refine r_v (Value.pointer (some ⟨b2, 1, none⟩)) rfl rfl rfl rfl ?_
  refine r_l (U (lo (x))) 1 _ _ _ _ rfl rfl rfl rfl rfl ?_
  refine r_c (Value.agg (rowF (BitVec.getLsbD ((hi (x)) ++ (lo (x)))))) rfl _ _ (ev_callF rfl call_19 rfl) (of_g (hi (x)) (lo (x))) ?_
  refine r_s [(b3, 28, rowF (BitVec.getLsbD ((hi (x)) ++ (lo (x))))), (b2, 24, #[U (hi (x)), U (lo (x))])] 0 _ _ _ (rowF (fun _ => false)) (rowF (BitVec.getLsbD ((hi (x)) ++ (lo (x))))) (rowF (BitVec.getLsbD ((hi (x)) ++ (lo (x))))) rfl rfl rfl rfl (stok_rows rfl rfl _ _) (splice_rows _ _) rfl ?_
  refine lx_nil ?_
  refine hK4 _ _ ?_; try clear hK4 K4
  refine A_ret (fun hn => ends_eq (v0 := Value.agg (rowF (BitVec.getLsbD ((hi (x)) ++ (lo (x)))))) (by rw [hi_lo]) (res1 (res_cell hn 0 rfl rfl (ld_rows rfl rfl rfl _))))
set_option maxRecDepth 100000 in
set_option maxHeartbeats 400000 in
theorem lives_g  : Gives Try.prog 14 #[] (Value.bool (true)) := by
  refine gives_of_A follows Try.func14 rfl 21 rfl (fun _ => undef) (by funext k; rfl) (fun base => ?_)
  refine A_seq fun K1 hK1 => ?_
  refine A_reg ?_
  refine r_v (Value.bool (false)) rfl rfl rfl rfl ?_
  refine lx_nil ?_
  refine hK1 _ _ ?_; try clear hK1 K1
  refine A_seq fun K2 hK2 => ?_
  refine A_reg ?_
  refine r_v (Value.agg #[U (0#64), U (18446744073709551615#64)]) rfl rfl rfl (ev_buildS rfl rfl rfl rfl) ?_
  refine r_v (Value.agg #[U (0#64), U (1#64)]) rfl rfl rfl (ev_buildS rfl rfl rfl rfl) ?_
  refine r_c (Value.tuple #[Value.agg #[U (hi (((0#64) ++ (18446744073709551615#64)) + ((0#64) ++ (1#64)))), U (lo (((0#64) ++ (18446744073709551615#64)) + ((0#64) ++ (1#64))))], Value.bool (BitVec.carry 128 ((0#64) ++ (18446744073709551615#64)) ((0#64) ++ (1#64)) false)]) rfl _ _ (ev_callF rfl call_9 rfl) (by have h_ := (add_g ((0#64) ++ (18446744073709551615#64)) ((0#64) ++ (1#64))); simp only [hi_app, lo_app] at h_; exact h_) ?_
  refine r_v (Value.tuple #[Value.agg #[U (hi (((0#64) ++ (18446744073709551615#64)) + ((0#64) ++ (1#64)))), U (lo (((0#64) ++ (18446744073709551615#64)) + ((0#64) ++ (1#64))))], Value.bool (BitVec.carry 128 ((0#64) ++ (18446744073709551615#64)) ((0#64) ++ (1#64)) false)]) rfl rfl rfl rfl ?_
  refine r_v (Value.agg #[U (hi (((0#64) ++ (18446744073709551615#64)) + ((0#64) ++ (1#64)))), U (lo (((0#64) ++ (18446744073709551615#64)) + ((0#64) ++ (1#64))))]) rfl rfl rfl rfl ?_
  refine r_v (Value.bool (BitVec.carry 128 ((0#64) ++ (18446744073709551615#64)) ((0#64) ++ (1#64)) false)) rfl rfl rfl rfl ?_
  refine r_a (24, #[U (0#64), U (0#64)]) rfl rfl rfl (fun b3 => ?_) (.inr rfl)
  refine r_s [(b3, 24, #[U (hi (((0#64) ++ (18446744073709551615#64)) + ((0#64) ++ (1#64)))), U (lo (((0#64) ++ (18446744073709551615#64)) + ((0#64) ++ (1#64))))])] 0 _ _ _ (#[U (0#64), U (0#64)]) (#[U (hi (((0#64) ++ (18446744073709551615#64)) + ((0#64) ++ (1#64)))), U (lo (((0#64) ++ (18446744073709551615#64)) + ((0#64) ++ (1#64))))]) (#[U (hi (((0#64) ++ (18446744073709551615#64)) + ((0#64) ++ (1#64)))), U (lo (((0#64) ++ (18446744073709551615#64)) + ((0#64) ++ (1#64))))]) rfl rfl rfl rfl (.of rfl rfl) rfl rfl ?_
  refine r_v (Value.bool (BitVec.carry 128 ((0#64) ++ (18446744073709551615#64)) ((0#64) ++ (1#64)) false)) rfl rfl rfl rfl ?_
  refine lx_nil ?_
  refine hK2 _ _ ?_; try clear hK2 K2
  refine A_seq fun K4 hK4 => ?_
  refine A_reg ?_
  refine r_l (Value.agg #[U (hi (((0#64) ++ (18446744073709551615#64)) + ((0#64) ++ (1#64)))), U (lo (((0#64) ++ (18446744073709551615#64)) + ((0#64) ++ (1#64))))]) 0 _ _ _ _ rfl rfl rfl rfl rfl ?_
  refine r_v (Value.agg #[U (1#64), U (0#64)]) rfl rfl rfl (ev_buildS rfl rfl rfl rfl) ?_
  refine r_v (Value.bool ((((0#64) ++ (18446744073709551615#64)) + ((0#64) ++ (1#64))) == ((1#64) ++ (0#64)))) rfl rfl rfl (ev_binEq rfl rfl eg_24 (by have h_ := eqword_24 (c := fun _ => none) (((0#64) ++ (18446744073709551615#64)) + ((0#64) ++ (1#64))) ((1#64) ++ (0#64)); simp only [hi_app, lo_app] at h_; exact h_)) ?_
  refine r_v (Value.bool ((((0#64) ++ (18446744073709551615#64)) + ((0#64) ++ (1#64))) == ((1#64) ++ (0#64)))) rfl rfl rfl rfl ?_
  have hg5 : ((((0#64) ++ (18446744073709551615#64)) + ((0#64) ++ (1#64))) == ((1#64) ++ (0#64))) = true := (by decide +kernel)
  rw [hg5]
  refine r_y rfl ?_
  refine r_v (Value.bool (BitVec.carry 128 ((0#64) ++ (18446744073709551615#64)) ((0#64) ++ (1#64)) false)) rfl rfl rfl rfl ?_
  refine r_y rfl ?_
  refine r_v (Value.bool (!(BitVec.carry 128 ((0#64) ++ (18446744073709551615#64)) ((0#64) ++ (1#64)) false))) rfl rfl rfl rfl ?_
  refine r_v (Value.bool (!(BitVec.carry 128 ((0#64) ++ (18446744073709551615#64)) ((0#64) ++ (1#64)) false))) rfl rfl rfl rfl ?_
  refine r_v (Value.bool (!(BitVec.carry 128 ((0#64) ++ (18446744073709551615#64)) ((0#64) ++ (1#64)) false))) rfl rfl rfl rfl ?_
  have hg6 : (!(BitVec.carry 128 ((0#64) ++ (18446744073709551615#64)) ((0#64) ++ (1#64)) false)) = true := (by decide +kernel)
  rw [hg6]
  refine r_y rfl ?_
  refine r_l (Value.agg #[U (hi (((0#64) ++ (18446744073709551615#64)) + ((0#64) ++ (1#64)))), U (lo (((0#64) ++ (18446744073709551615#64)) + ((0#64) ++ (1#64))))]) 0 _ _ _ _ rfl rfl rfl rfl rfl ?_
  refine r_y rfl ?_
  refine r_c (Value.string (⟨(textL (16) 128 (((0#64) ++ (18446744073709551615#64)) + ((0#64) ++ (1#64))).toNat).toArray⟩)) rfl _ _ (ev_callF rfl call_35 rfl) (text_g (((0#64) ++ (18446744073709551615#64)) + ((0#64) ++ (1#64))) (16) (by decide) (by decide)) ?_
  refine r_y rfl ?_
  refine r_v (Value.bool ((⟨(textL (16) 128 (((0#64) ++ (18446744073709551615#64)) + ((0#64) ++ (1#64))).toNat).toArray⟩ : ByteArray) == (⟨#[49, 48, 48, 48, 48, 48, 48, 48, 48, 48, 48, 48, 48, 48, 48, 48, 48]⟩ : ByteArray))) rfl rfl rfl (ev_binS rfl rfl) ?_
  refine r_v (Value.bool ((⟨(textL (16) 128 (((0#64) ++ (18446744073709551615#64)) + ((0#64) ++ (1#64))).toNat).toArray⟩ : ByteArray) == (⟨#[49, 48, 48, 48, 48, 48, 48, 48, 48, 48, 48, 48, 48, 48, 48, 48, 48]⟩ : ByteArray))) rfl rfl rfl rfl ?_
  refine r_v (Value.bool ((⟨(textL (16) 128 (((0#64) ++ (18446744073709551615#64)) + ((0#64) ++ (1#64))).toNat).toArray⟩ : ByteArray) == (⟨#[49, 48, 48, 48, 48, 48, 48, 48, 48, 48, 48, 48, 48, 48, 48, 48, 48]⟩ : ByteArray))) rfl rfl rfl rfl ?_
  refine lx_nil ?_
  refine hK4 _ _ ?_; try clear hK4 K4
  refine A_ret (fun hn => ends_eq (v0 := Value.bool ((⟨(textL (16) 128 (((0#64) ++ (18446744073709551615#64)) + ((0#64) ++ (1#64))).toNat).toArray⟩ : ByteArray) == (⟨#[49, 48, 48, 48, 48, 48, 48, 48, 48, 48, 48, 48, 48, 48, 48, 48, 48]⟩ : ByteArray))) (congrArg Value.bool (by decide +kernel)) (res1 rfl))
set_option maxRecDepth 100000 in
set_option maxHeartbeats 4000000 in
theorem wordAdds_g (x y : BitVec 128) : Gives Try.prog 3 #[Value.agg #[U (hi (x)), U (lo (x))], Value.agg #[U (hi (y)), U (lo (y))]] (Value.bool (true)) := by
  refine gives_of_A follows Try.func3 rfl 82 rfl (upd (upd (fun _ => undef) 1 (Value.agg #[U (hi (y)), U (lo (y))])) 0 (Value.agg #[U (hi (x)), U (lo (x))])) (by funext k; match k with | 0 => rfl | 1 => rfl | k + 2 => rfl) (fun base => ?_)
  refine A_seq fun K1 hK1 => ?_
  refine A_reg ?_
  refine r_a (24, #[U (hi (x)), U (lo (x))]) rfl rfl rfl (fun b2 => ?_) (.inr rfl)
  refine r_a (24, #[U (hi (y)), U (lo (y))]) rfl rfl rfl (fun b3 => ?_) (.inr rfl)
  refine r_v (Value.bool (false)) rfl rfl rfl rfl ?_
  refine lx_nil ?_
  refine hK1 _ _ ?_; try clear hK1 K1
  refine A_seq fun K4 hK4 => ?_
  refine A_reg ?_
  refine r_l (Value.agg #[U (hi (x)), U (lo (x))]) 1 _ _ _ _ rfl rfl rfl rfl rfl ?_
  refine r_l (Value.agg #[U (hi (y)), U (lo (y))]) 0 _ _ _ _ rfl rfl rfl rfl rfl ?_
  refine r_c (Value.tuple #[Value.agg #[U (hi ((x) + (y))), U (lo ((x) + (y)))], Value.bool (BitVec.carry 128 (x) (y) false)]) rfl _ _ (ev_callF rfl call_9 rfl) (add_g (x) (y)) ?_
  refine r_v (Value.tuple #[Value.agg #[U (hi ((x) + (y))), U (lo ((x) + (y)))], Value.bool (BitVec.carry 128 (x) (y) false)]) rfl rfl rfl rfl ?_
  refine r_v (Value.agg #[U (hi ((x) + (y))), U (lo ((x) + (y)))]) rfl rfl rfl rfl ?_
  refine r_v (Value.bool (BitVec.carry 128 (x) (y) false)) rfl rfl rfl rfl ?_
  refine r_a (24, #[U (0#64), U (0#64)]) rfl rfl rfl (fun b5 => ?_) (.inr rfl)
  refine r_s [(b5, 24, #[U (hi ((x) + (y))), U (lo ((x) + (y)))]), (b3, 24, #[U (hi (y)), U (lo (y))]), (b2, 24, #[U (hi (x)), U (lo (x))])] 0 _ _ _ (#[U (0#64), U (0#64)]) (#[U (hi ((x) + (y))), U (lo ((x) + (y)))]) (#[U (hi ((x) + (y))), U (lo ((x) + (y)))]) rfl rfl rfl rfl (.of rfl rfl) rfl rfl ?_
  refine r_v (Value.bool (BitVec.carry 128 (x) (y) false)) rfl rfl rfl rfl ?_
  refine lx_nil ?_
  refine hK4 _ _ ?_; try clear hK4 K4
  refine A_seq fun K6 hK6 => ?_
  refine A_draw [] (by decide +kernel) (fun hn => sep_nil) ?_
  refine r_l (Value.agg #[U (hi (x)), U (lo (x))]) 2 _ _ _ _ rfl rfl rfl rfl rfl ?_
  refine r_c (Value.agg (rowF (BitVec.getLsbD (x)))) rfl _ _ (ev_callF rfl call_11 rfl) (lof_g (x)) ?_
  refine r_l (Value.agg #[U (hi (y)), U (lo (y))]) 1 _ _ _ _ rfl rfl rfl rfl rfl ?_
  refine r_c (Value.agg (rowF (BitVec.getLsbD (y)))) rfl _ _ (ev_callF rfl call_11 rfl) (lof_g (y)) ?_
  refine r_c (Value.tuple #[Value.agg (rowF (BitVec.getLsbD ((x) + (y) + cb128 (false)))), Value.bool (BitVec.carry 128 (x) (y) (false))]) rfl _ _ (ev_callF rfl call_10 rfl) (rsum_g (x) (y) (false)) ?_
  refine r_v (Value.tuple #[Value.agg (rowF (BitVec.getLsbD ((x) + (y) + cb128 (false)))), Value.bool (BitVec.carry 128 (x) (y) (false))]) rfl rfl rfl rfl ?_
  refine r_v (Value.agg (rowF (BitVec.getLsbD ((x) + (y) + cb128 (false))))) rfl rfl rfl rfl ?_
  refine r_v (Value.bool (BitVec.carry 128 (x) (y) (false))) rfl rfl rfl rfl ?_
  refine r_a (28, rowF (fun _ => false)) rfl rfl (zrow z_28) (fun b7 => ?_) (.inl rfl)
  refine r_sn [(b7, 28, rowF (BitVec.getLsbD ((x) + (y) + cb128 (false)))), (b5, 24, #[U (hi ((x) + (y))), U (lo ((x) + (y)))]), (b3, 24, #[U (hi (y)), U (lo (y))]), (b2, 24, #[U (hi (x)), U (lo (x))])] 0 _ _ _ (rowF (fun _ => false)) (rowF (BitVec.getLsbD ((x) + (y) + cb128 (false)))) (rowF (BitVec.getLsbD ((x) + (y) + cb128 (false)))) rfl rfl rfl rfl rfl (stok_rows rfl rfl _ _) (splice_rows _ _) rfl ?_
  refine r_v (Value.bool (BitVec.carry 128 (x) (y) (false))) rfl rfl rfl rfl ?_
  refine lx_nil ?_
  refine hK6 _ _ ?_; try clear hK6 K6
  refine A_seq fun K8 hK8 => ?_
  refine A_reg ?_
  refine r_l (Value.agg #[U (hi (x)), U (lo (x))]) 3 _ _ _ _ rfl rfl rfl rfl rfl ?_
  refine r_l (Value.agg #[U (hi (y)), U (lo (y))]) 2 _ _ _ _ rfl rfl rfl rfl rfl ?_
  refine r_c (Value.tuple #[Value.agg #[U (hi ((x) - (y))), U (lo ((x) - (y)))], Value.bool (decide ((x) < (y)))]) rfl _ _ (ev_callF rfl call_12 rfl) (sub_g (x) (y)) ?_
  refine r_v (Value.tuple #[Value.agg #[U (hi ((x) - (y))), U (lo ((x) - (y)))], Value.bool (decide ((x) < (y)))]) rfl rfl rfl rfl ?_
  refine r_v (Value.agg #[U (hi ((x) - (y))), U (lo ((x) - (y)))]) rfl rfl rfl rfl ?_
  refine r_v (Value.bool (decide ((x) < (y)))) rfl rfl rfl rfl ?_
  refine r_a (24, #[U (0#64), U (0#64)]) rfl rfl rfl (fun b9 => ?_) (.inr rfl)
  refine r_s [(b9, 24, #[U (hi ((x) - (y))), U (lo ((x) - (y)))]), (b7, 28, rowF (BitVec.getLsbD ((x) + (y) + cb128 (false)))), (b5, 24, #[U (hi ((x) + (y))), U (lo ((x) + (y)))]), (b3, 24, #[U (hi (y)), U (lo (y))]), (b2, 24, #[U (hi (x)), U (lo (x))])] 0 _ _ _ (#[U (0#64), U (0#64)]) (#[U (hi ((x) - (y))), U (lo ((x) - (y)))]) (#[U (hi ((x) - (y))), U (lo ((x) - (y)))]) rfl rfl rfl rfl (.of rfl rfl) rfl rfl ?_
  refine r_v (Value.bool (decide ((x) < (y)))) rfl rfl rfl rfl ?_
  refine lx_nil ?_
  refine hK8 _ _ ?_; try clear hK8 K8
  refine A_seq fun K10 hK10 => ?_
  refine A_draw [] (by decide +kernel) (fun hn => sep_nil) ?_
  refine r_l (Value.agg #[U (hi (x)), U (lo (x))]) 4 _ _ _ _ rfl rfl rfl rfl rfl ?_
  refine r_c (Value.agg (rowF (BitVec.getLsbD (x)))) rfl _ _ (ev_callF rfl call_11 rfl) (lof_g (x)) ?_
  refine r_l (Value.agg #[U (hi (y)), U (lo (y))]) 3 _ _ _ _ rfl rfl rfl rfl rfl ?_
  refine r_c (Value.agg (rowF (BitVec.getLsbD (y)))) rfl _ _ (ev_callF rfl call_11 rfl) (lof_g (y)) ?_
  refine r_c (Value.tuple #[Value.agg (rowF (BitVec.getLsbD ((x) - (y)))), Value.bool (decide ((x) < (y)))]) rfl _ _ (ev_callF rfl call_13 rfl) (minus_g (x) (y)) ?_
  refine r_v (Value.tuple #[Value.agg (rowF (BitVec.getLsbD ((x) - (y)))), Value.bool (decide ((x) < (y)))]) rfl rfl rfl rfl ?_
  refine r_v (Value.agg (rowF (BitVec.getLsbD ((x) - (y))))) rfl rfl rfl rfl ?_
  refine r_v (Value.bool (decide ((x) < (y)))) rfl rfl rfl rfl ?_
  refine r_a (28, rowF (fun _ => false)) rfl rfl (zrow z_28) (fun b11 => ?_) (.inl rfl)
  refine r_sn [(b11, 28, rowF (BitVec.getLsbD ((x) - (y)))), (b9, 24, #[U (hi ((x) - (y))), U (lo ((x) - (y)))]), (b7, 28, rowF (BitVec.getLsbD ((x) + (y) + cb128 (false)))), (b5, 24, #[U (hi ((x) + (y))), U (lo ((x) + (y)))]), (b3, 24, #[U (hi (y)), U (lo (y))]), (b2, 24, #[U (hi (x)), U (lo (x))])] 0 _ _ _ (rowF (fun _ => false)) (rowF (BitVec.getLsbD ((x) - (y)))) (rowF (BitVec.getLsbD ((x) - (y)))) rfl rfl rfl rfl rfl (stok_rows rfl rfl _ _) (splice_rows _ _) rfl ?_
  refine r_v (Value.bool (decide ((x) < (y)))) rfl rfl rfl rfl ?_
  refine lx_nil ?_
  refine hK10 _ _ ?_; try clear hK10 K10
  refine A_seq fun K12 hK12 => ?_
  refine A_reg ?_
  refine r_l (Value.agg #[U (hi ((x) + (y))), U (lo ((x) + (y)))]) 3 _ _ _ _ rfl rfl rfl rfl rfl ?_
  refine r_l (Value.agg #[U (hi (y)), U (lo (y))]) 4 _ _ _ _ rfl rfl rfl rfl rfl ?_
  refine r_c (Value.tuple #[Value.agg #[U (hi (((x) + (y)) - (y))), U (lo (((x) + (y)) - (y)))], Value.bool (decide (((x) + (y)) < (y)))]) rfl _ _ (ev_callF rfl call_12 rfl) (sub_g ((x) + (y)) (y)) ?_
  refine r_v (Value.tuple #[Value.agg #[U (hi (((x) + (y)) - (y))), U (lo (((x) + (y)) - (y)))], Value.bool (decide (((x) + (y)) < (y)))]) rfl rfl rfl rfl ?_
  refine r_v (Value.agg #[U (hi (((x) + (y)) - (y))), U (lo (((x) + (y)) - (y)))]) rfl rfl rfl rfl ?_
  refine r_v (Value.bool (decide (((x) + (y)) < (y)))) rfl rfl rfl rfl ?_
  refine r_a (24, #[U (0#64), U (0#64)]) rfl rfl rfl (fun b13 => ?_) (.inr rfl)
  refine r_s [(b13, 24, #[U (hi (((x) + (y)) - (y))), U (lo (((x) + (y)) - (y)))]), (b11, 28, rowF (BitVec.getLsbD ((x) - (y)))), (b9, 24, #[U (hi ((x) - (y))), U (lo ((x) - (y)))]), (b7, 28, rowF (BitVec.getLsbD ((x) + (y) + cb128 (false)))), (b5, 24, #[U (hi ((x) + (y))), U (lo ((x) + (y)))]), (b3, 24, #[U (hi (y)), U (lo (y))]), (b2, 24, #[U (hi (x)), U (lo (x))])] 0 _ _ _ (#[U (0#64), U (0#64)]) (#[U (hi (((x) + (y)) - (y))), U (lo (((x) + (y)) - (y)))]) (#[U (hi (((x) + (y)) - (y))), U (lo (((x) + (y)) - (y)))]) rfl rfl rfl rfl (.of rfl rfl) rfl rfl ?_
  refine r_v (Value.bool (decide (((x) + (y)) < (y)))) rfl rfl rfl rfl ?_
  refine lx_nil ?_
  refine hK12 _ _ ?_; try clear hK12 K12
  refine A_seq fun K14 hK14 => ?_
  refine A_draw [] (by decide +kernel) (fun hn => sep_nil) ?_
  refine r_l (Value.agg #[U (hi ((x) + (y))), U (lo ((x) + (y)))]) 4 _ _ _ _ rfl rfl rfl rfl rfl ?_
  refine r_c (Value.agg (rowF (BitVec.getLsbD ((x) + (y))))) rfl _ _ (ev_callF rfl call_11 rfl) (lof_g ((x) + (y))) ?_
  refine r_l (Value.agg (rowF (BitVec.getLsbD ((x) + (y) + cb128 (false))))) 3 _ _ _ _ rfl rfl rfl rfl (ld_rows rfl rfl rfl _) ?_
  refine r_v (Value.bool (((x) + (y)) == ((x) + (y) + cb128 (false)))) rfl rfl rfl (ev_binEq rfl rfl eg_28 (eqrow_28 ((x) + (y)) ((x) + (y) + cb128 (false)))) ?_
  refine r_v (Value.bool (((x) + (y)) == ((x) + (y) + cb128 (false)))) rfl rfl rfl rfl ?_
  have hg15 : (((x) + (y)) == ((x) + (y) + cb128 (false))) = true := (by first | exact beq_self_eq_true _ | (rw [add_zero_c]; exact beq_self_eq_true _) | exact adds_back x y | exact adds_over x y)
  rw [hg15]
  refine r_y rfl ?_
  refine r_v (Value.bool (BitVec.carry 128 (x) (y) false)) rfl rfl rfl rfl ?_
  refine r_y rfl ?_
  refine r_v (Value.bool (BitVec.carry 128 (x) (y) (false))) rfl rfl rfl rfl ?_
  refine r_y rfl ?_
  refine r_v (Value.bool ((BitVec.carry 128 (x) (y) false) == (BitVec.carry 128 (x) (y) (false)))) rfl rfl rfl (ev_binB rfl rfl rfl) ?_
  refine r_v (Value.bool ((BitVec.carry 128 (x) (y) false) == (BitVec.carry 128 (x) (y) (false)))) rfl rfl rfl rfl ?_
  refine r_v (Value.bool ((BitVec.carry 128 (x) (y) false) == (BitVec.carry 128 (x) (y) (false)))) rfl rfl rfl rfl ?_
  have hg16 : ((BitVec.carry 128 (x) (y) false) == (BitVec.carry 128 (x) (y) (false))) = true := (by first | exact beq_self_eq_true _ | (rw [add_zero_c]; exact beq_self_eq_true _) | exact adds_back x y | exact adds_over x y)
  rw [hg16]
  refine r_y rfl ?_
  refine r_l (Value.agg #[U (hi ((x) - (y))), U (lo ((x) - (y)))]) 2 _ _ _ _ rfl rfl rfl rfl rfl ?_
  refine r_y rfl ?_
  refine r_c (Value.agg (rowF (BitVec.getLsbD ((x) - (y))))) rfl _ _ (ev_callF rfl call_11 rfl) (lof_g ((x) - (y))) ?_
  refine r_y rfl ?_
  refine r_l (Value.agg (rowF (BitVec.getLsbD ((x) - (y))))) 1 _ _ _ _ rfl rfl rfl rfl (ld_rows rfl rfl rfl _) ?_
  refine r_y rfl ?_
  refine r_v (Value.bool (((x) - (y)) == ((x) - (y)))) rfl rfl rfl (ev_binEq rfl rfl eg_28 (eqrow_28 ((x) - (y)) ((x) - (y)))) ?_
  refine r_v (Value.bool (((x) - (y)) == ((x) - (y)))) rfl rfl rfl rfl ?_
  refine r_v (Value.bool (((x) - (y)) == ((x) - (y)))) rfl rfl rfl rfl ?_
  have hg17 : (((x) - (y)) == ((x) - (y))) = true := (by first | exact beq_self_eq_true _ | (rw [add_zero_c]; exact beq_self_eq_true _) | exact adds_back x y | exact adds_over x y)
  rw [hg17]
  refine r_y rfl ?_
  refine r_v (Value.bool (decide ((x) < (y)))) rfl rfl rfl rfl ?_
  refine r_y rfl ?_
  refine r_v (Value.bool (decide ((x) < (y)))) rfl rfl rfl rfl ?_
  refine r_y rfl ?_
  refine r_v (Value.bool ((decide ((x) < (y))) == (decide ((x) < (y))))) rfl rfl rfl (ev_binB rfl rfl rfl) ?_
  refine r_v (Value.bool ((decide ((x) < (y))) == (decide ((x) < (y))))) rfl rfl rfl rfl ?_
  refine r_v (Value.bool ((decide ((x) < (y))) == (decide ((x) < (y))))) rfl rfl rfl rfl ?_
  have hg18 : ((decide ((x) < (y))) == (decide ((x) < (y)))) = true := (by first | exact beq_self_eq_true _ | (rw [add_zero_c]; exact beq_self_eq_true _) | exact adds_back x y | exact adds_over x y)
  rw [hg18]
  refine r_y rfl ?_
  refine r_l (Value.agg #[U (hi (((x) + (y)) - (y))), U (lo (((x) + (y)) - (y)))]) 0 _ _ _ _ rfl rfl rfl rfl rfl ?_
  refine r_y rfl ?_
  refine r_l (Value.agg #[U (hi (x)), U (lo (x))]) 6 _ _ _ _ rfl rfl rfl rfl rfl ?_
  refine r_y rfl ?_
  refine r_v (Value.bool ((((x) + (y)) - (y)) == (x))) rfl rfl rfl (ev_binEq rfl rfl eg_24 (eqword_24 (((x) + (y)) - (y)) (x))) ?_
  refine r_v (Value.bool ((((x) + (y)) - (y)) == (x))) rfl rfl rfl rfl ?_
  refine r_v (Value.bool ((((x) + (y)) - (y)) == (x))) rfl rfl rfl rfl ?_
  have hg19 : ((((x) + (y)) - (y)) == (x)) = true := (by first | exact beq_self_eq_true _ | (rw [add_zero_c]; exact beq_self_eq_true _) | exact adds_back x y | exact adds_over x y)
  rw [hg19]
  refine r_y rfl ?_
  refine r_v (Value.bool (decide (((x) + (y)) < (y)))) rfl rfl rfl rfl ?_
  refine r_y rfl ?_
  refine r_v (Value.bool (BitVec.carry 128 (x) (y) false)) rfl rfl rfl rfl ?_
  refine r_y rfl ?_
  refine r_v (Value.bool ((decide (((x) + (y)) < (y))) == (BitVec.carry 128 (x) (y) false))) rfl rfl rfl (ev_binB rfl rfl rfl) ?_
  refine r_v (Value.bool ((decide (((x) + (y)) < (y))) == (BitVec.carry 128 (x) (y) false))) rfl rfl rfl rfl ?_
  refine r_v (Value.bool ((decide (((x) + (y)) < (y))) == (BitVec.carry 128 (x) (y) false))) rfl rfl rfl rfl ?_
  have hg20 : ((decide (((x) + (y)) < (y))) == (BitVec.carry 128 (x) (y) false)) = true := (by first | exact beq_self_eq_true _ | (rw [add_zero_c]; exact beq_self_eq_true _) | exact adds_back x y | exact adds_over x y)
  rw [hg20]
  refine r_y rfl ?_
  refine r_c (Value.bool (true)) rfl _ _ (ev_callF rfl call_14 rfl) lives_g ?_
  refine r_v (Value.bool (true)) rfl rfl rfl rfl ?_
  refine r_v (Value.bool (true)) rfl rfl rfl rfl ?_
  refine lx_nil ?_
  refine hK14 _ _ ?_; try clear hK14 K14
  refine A_ret (fun hn => ends_eq (v0 := Value.bool (true)) rfl (res1 rfl))
theorem own : ownKnob Try.prog.godebug = none := by kernel_rfl
theorem laidOut : laidOutB Try.prog = true := by kernel_rfl
set_option maxRecDepth 100000 in
theorem wordAdds_lifted (os : Os) (started : os.Started) (H : Type) (enc : TypeId × Value → H) :
    ReturnsInHanded {} Try.checked os 3 .any (Rows.wordAddsSpec.pre6 enc Try.prog Try.f3 Rows.wordAddsRow.domain false) (Rows.wordAddsSpec.post enc Try.prog Try.f3 false true false false) := by
  refine returnsInHanded_of_change (C := Try.checked) own started (by kernel_rfl) Try.func3
    (ChangeSpec.witness6 (enc := enc) (C := Try.checked) false ⟨#[], #[.agg #[.int .u64 0, .int .u64 0], .agg #[.int .u64 0, .int .u64 0]], []⟩ 8 (by kernel_rfl) (by kernel_rfl) (by kernel_rfl) (by kernel_rfl)) ?_
  intro W base args ds gs before hval0 hW _ _
  have hval : ∀ (j : Nat) t v, Try.f3.params[j]? = some t → args[j]? = some v → Value.okWide Try.prog W .any base t v := hval0
  have hW' := hW
  obtain ⟨p, q, hA0, hV, rfl, _, _⟩ := hW
  have hA : DataW.TrodAll enc Try.prog W 0 (fun _ => true) true Try.f3.params.toList args.toList ds p := hA0
  rw [Try.params3] at hA hval
  obtain ⟨v0, v1, d0, d1, p0, p1, rfl, rfl, rfl, h0, h1⟩ := trodAll_two hA
  obtain ⟨rfl, rfl⟩ := trodVars_none hV
  obtain ⟨x0, rfl⟩ := open_word (P := Try.prog) (t := 24) rfl (by kernel_rfl) (by kernel_rfl) rfl rfl (hval 0 24 v0 rfl rfl) h0
  obtain ⟨x1, rfl⟩ := open_word (P := Try.prog) (t := 24) rfl (by kernel_rfl) (by kernel_rfl) rfl rfl (hval 1 24 v1 rfl rfl) h1
  refine ((wordAdds_g x0 x1) W).mono fun e W' ⟨he, hb⟩ => ?_
  subst he
  exact ⟨_, rfl, law_post (f := Try.f3) laidOut (by kernel_rfl) rfl (by rfl) rfl hW' rfl hb⟩

theorem wordAdds_holds : Rows.WordAddsSaid :=
  OpenClaim.holds_of_wide 3 Try.f3 rfl rfl rfl rfl rfl rfl rfl ⟨rfl, rfl, rfl, rfl, rfl⟩ rfl rfl rfl rfl rfl (by kernel_rfl) Try.func3 (by kernel_rfl)
    (of_decide_eq_true (by kernel_rfl)) (by unfold Func.isWrapper; first | (rw [if_pos (by decide +kernel)]; kernel_rfl) | (rw [if_neg (by decide +kernel)]; exact ⟨rfl, rfl⟩))
    (fun os started H enc _ => wordAdds_lifted os started H enc)

end Go.Proofs.Ytacbjgfngfamhaa
