/- words moved -/
import Derived.Test.YtnpbpllibmcokaaWord
import Derived.Test.YtnpbpllibmcokaaPm
namespace Go.Proofs.Ytnpbpllibmcokaa
open Go Go.RowKit Go.Eng
set_option maxRecDepth 100000 in
set_option maxHeartbeats 400000 in
theorem cmp_g (x y : BitVec 128) : Gives Try.prog 29 #[Value.agg #[U (hi (x)), U (lo (x))], Value.agg #[U (hi (y)), U (lo (y))]] (Value.int .i64 (cmpI (x) (y))) := by
  refine gives_of_A follows Try.func29 rfl 17 rfl (upd (upd (fun _ => undef) 1 (Value.agg #[U (hi (y)), U (lo (y))])) 0 (Value.agg #[U (hi (x)), U (lo (x))])) (by funext k; match k with | 0 => rfl | 1 => rfl | k + 2 => rfl) (fun base => ?_)
  refine A_seq fun K1 hK1 => ?_
  refine A_reg ?_
  refine r_a (64, #[U (hi (x)), U (lo (x))]) rfl rfl rfl (fun b2 => ?_) (.inr rfl)
  refine r_a (64, #[U (hi (y)), U (lo (y))]) rfl rfl rfl (fun b3 => ?_) (.inr rfl)
  refine r_v (Value.int .i64 (0)) rfl rfl rfl rfl ?_
  refine lx_nil ?_
  refine hK1 _ _ ?_; try clear hK1 K1
  refine A_seq fun K4 hK4 => ?_
  refine A_seq fun K5 hK5 => ?_
  refine A_reg ?_
  refine r_l (Value.agg #[U (hi (x)), U (lo (x))]) 1 _ _ _ _ rfl rfl rfl rfl rfl ?_
  refine r_l (Value.agg #[U (hi (y)), U (lo (y))]) 0 _ _ _ _ rfl rfl rfl rfl rfl ?_
  refine r_v (Value.bool ((x) == (y))) rfl rfl rfl (ev_binEq rfl rfl eg_64 (eqword_64 (x) (y))) ?_
  refine lx_nil ?_
  refine hK5 _ _ ?_; try clear hK5 K5
  refine A_cond ((x) == (y)) rfl (fun hc6 => ?_) (fun hc6 => ?_)
  · have hc6x := eq_of_beq hc6
    refine A_seq fun K7 hK7 => ?_
    refine A_reg ?_
    refine r_v (Value.int .i64 (0)) rfl rfl rfl rfl ?_
    refine lx_nil ?_
    refine hK7 _ _ ?_; try clear hK7 K7
    refine A_ret (fun hn => ends_eq (v0 := Value.int .i64 (0)) (by unfold cmpI; rw [if_pos hc6x]) (res1 rfl))
  · have hc6x := ne_of_beq_false hc6
    refine A_skip ?_
    refine hK4 _ _ ?_; try clear hK4 K4
    refine A_seq fun K8 hK8 => ?_
    refine A_seq fun K9 hK9 => ?_
    refine A_reg ?_
    refine r_l (Value.agg #[U (hi (x)), U (lo (x))]) 1 _ _ _ _ rfl rfl rfl rfl rfl ?_
    refine r_l (Value.agg #[U (hi (y)), U (lo (y))]) 0 _ _ _ _ rfl rfl rfl rfl rfl ?_
    refine r_c (Value.tuple #[Value.agg #[U (hi ((x) - (y))), U (lo ((x) - (y)))], Value.bool (decide ((x) < (y)))]) rfl _ _ (ev_callF rfl call_42 rfl) (sub_g (x) (y)) ?_
    refine r_v (Value.tuple #[Value.agg #[U (hi ((x) - (y))), U (lo ((x) - (y)))], Value.bool (decide ((x) < (y)))]) rfl rfl rfl rfl ?_
    refine r_v (Value.agg #[U (hi ((x) - (y))), U (lo ((x) - (y)))]) rfl rfl rfl rfl ?_
    refine r_v (Value.bool (decide ((x) < (y)))) rfl rfl rfl rfl ?_
    refine r_a (64, #[U (0#64), U (0#64)]) rfl rfl rfl (fun b10 => ?_) (.inr rfl)
    refine r_s [(b10, 64, #[U (hi ((x) - (y))), U (lo ((x) - (y)))]), (b3, 64, #[U (hi (y)), U (lo (y))]), (b2, 64, #[U (hi (x)), U (lo (x))])] 0 _ _ _ (#[U (0#64), U (0#64)]) (#[U (hi ((x) - (y))), U (lo ((x) - (y)))]) (#[U (hi ((x) - (y))), U (lo ((x) - (y)))]) rfl rfl rfl rfl (.of rfl rfl) rfl rfl ?_
    refine r_v (Value.bool (decide ((x) < (y)))) rfl rfl rfl rfl ?_
    refine lx_nil ?_
    refine hK9 _ _ ?_; try clear hK9 K9
    refine A_seq fun K11 hK11 => ?_
    refine A_reg ?_
    refine r_v (Value.bool (decide ((x) < (y)))) rfl rfl rfl rfl ?_
    refine lx_nil ?_
    refine hK11 _ _ ?_; try clear hK11 K11
    refine A_cond (decide ((x) < (y))) rfl (fun hc12 => ?_) (fun hc12 => ?_)
    · have hc12x := of_decide_eq_true hc12
      refine A_seq fun K13 hK13 => ?_
      refine A_reg ?_
      refine r_v (Value.int .i64 (-1)) rfl rfl rfl rfl ?_
      refine lx_nil ?_
      refine hK13 _ _ ?_; try clear hK13 K13
      refine A_ret (fun hn => ends_eq (v0 := Value.int .i64 (-1)) (by unfold cmpI; rw [if_neg hc6x, if_pos hc12x]) (res1 rfl))
    · have hc12x := of_decide_eq_false hc12
      refine A_skip ?_
      refine hK8 _ _ ?_; try clear hK8 K8
      refine A_seq fun K14 hK14 => ?_
      refine A_reg ?_
      refine r_v (Value.int .i64 (1)) rfl rfl rfl rfl ?_
      refine lx_nil ?_
      refine hK14 _ _ ?_; try clear hK14 K14
      refine A_ret (fun hn => ends_eq (v0 := Value.int .i64 (1)) (by unfold cmpI; rw [if_neg hc6x, if_neg hc12x]) (res1 rfl))
theorem len64_g (y : BitVec 64) : Gives Try.prog 61 #[U y] (.int .i64 ((Lib.bitLen y.toNat : Nat) : Int)) :=
  Gives.of_same (fun w => Try.bits_Len64 (y.toNat : Int) w (by omega) (by have := y.isLt; omega))
set_option maxRecDepth 100000 in
set_option maxHeartbeats 400000 in
theorem len_g (x : BitVec 128) : Gives Try.prog 66 #[Value.agg #[U (hi (x)), U (lo (x))]] (Value.int .i64 (((len128 x : Nat) : Int))) := by
  have hb := (bl_spec (hi x).toNat (hi x).isLt).2.2
  refine gives_of_A follows Try.func66 rfl 13 rfl (upd (fun _ => undef) 0 (Value.agg #[U (hi (x)), U (lo (x))])) (by funext k; match k with | 0 => rfl | k + 1 => rfl) (fun base => ?_)
  refine A_seq fun K1 hK1 => ?_
  refine A_reg ?_
  refine r_a (64, #[U (hi (x)), U (lo (x))]) rfl rfl rfl (fun b2 => ?_) (.inr rfl)
  refine r_v (Value.int .i64 (0)) rfl rfl rfl rfl ?_
  refine lx_nil ?_
  refine hK1 _ _ ?_; try clear hK1 K1
  refine A_seq fun K3 hK3 => ?_
  refine A_seq fun K4 hK4 => ?_
  refine A_reg ?_
  refine r_v (Value.pointer (some ⟨b2, 0, none⟩)) rfl rfl rfl rfl ?_
  refine r_l (U (hi (x))) 0 _ _ _ _ rfl rfl rfl rfl rfl ?_
  refine r_v (Value.bool ((hi (x)) == (0#64))) rfl rfl (U_eq (hi (x)) (0#64)) rfl ?_
  refine lx_nil ?_
  refine hK4 _ _ ?_; try clear hK4 K4
  refine A_cond ((hi (x)) == (0#64)) rfl (fun hc5 => ?_) (fun hc5 => ?_)
  · have hc5x := eq_of_beq hc5
    refine A_seq fun K6 hK6 => ?_
    refine A_reg ?_
    refine r_v (Value.pointer (some ⟨b2, 1, none⟩)) rfl rfl rfl rfl ?_
    refine r_l (U (lo (x))) 0 _ _ _ _ rfl rfl rfl rfl rfl ?_
    refine r_c (Value.int .i64 (((Lib.bitLen (lo (x)).toNat : Nat) : Int))) rfl _ _ (ev_callF rfl call_61 rfl) (len64_g (lo (x))) ?_
    refine r_v (Value.int .i64 (((Lib.bitLen (lo (x)).toNat : Nat) : Int))) rfl rfl rfl rfl ?_
    refine lx_nil ?_
    refine hK6 _ _ ?_; try clear hK6 K6
    refine A_ret (fun hn => ends_eq (v0 := Value.int .i64 (((Lib.bitLen (lo (x)).toNat : Nat) : Int))) (by unfold len128; rw [if_pos hc5x]) (res1 rfl))
  · have hc5x := ne_of_beq_false hc5
    refine A_skip ?_
    refine hK3 _ _ ?_; try clear hK3 K3
    refine A_seq fun K7 hK7 => ?_
    refine A_reg ?_
    refine r_v (Value.pointer (some ⟨b2, 0, none⟩)) rfl rfl rfl rfl ?_
    refine r_l (U (hi (x))) 0 _ _ _ _ rfl rfl rfl rfl rfl ?_
    refine r_c (Value.int .i64 (((Lib.bitLen (hi (x)).toNat : Nat) : Int))) rfl _ _ (ev_callF rfl call_61 rfl) (len64_g (hi (x))) ?_
    refine r_v (Value.int .i64 (64 + ((Lib.bitLen (hi (x)).toNat : Nat) : Int))) rfl rfl (wi64 (by omega) (by omega) (by omega)) rfl ?_
    refine r_v (Value.int .i64 (64 + ((Lib.bitLen (hi (x)).toNat : Nat) : Int))) rfl rfl rfl rfl ?_
    refine lx_nil ?_
    refine hK7 _ _ ?_; try clear hK7 K7
    refine A_ret (fun hn => ends_eq (v0 := Value.int .i64 (64 + ((Lib.bitLen (hi (x)).toNat : Nat) : Int))) (by unfold len128; rw [if_neg hc5x]; rfl) (res1 rfl))
end Go.Proofs.Ytnpbpllibmcokaa
