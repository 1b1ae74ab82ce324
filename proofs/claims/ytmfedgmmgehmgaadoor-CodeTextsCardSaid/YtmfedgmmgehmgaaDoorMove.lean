/- words moved -/
import Derived.Test.YtmfedgmmgehmgaaDoorWord
import Derived.Test.YtmfedgmmgehmgaaDoorPm
namespace Go.Proofs.YtmfedgmmgehmgaaDoor
open Go Go.RowKit Go.Eng
theorem len64_g (y : BitVec 64) : Gives Tryd.prog 56 #[U y] (.int .i64 ((Lib.bitLen y.toNat : Nat) : Int)) :=
  Gives.of_same (fun w => Tryd.bits_Len64 (y.toNat : Int) w (by omega) (by have := y.isLt; omega))
set_option maxRecDepth 100000 in
set_option maxHeartbeats 400000 in
theorem len_g (x : BitVec 128) : Gives Tryd.prog 47 #[Value.agg #[U (hi (x)), U (lo (x))]] (Value.int .i64 (((len128 x : Nat) : Int))) := by
  have hb := (bl_spec (hi x).toNat (hi x).isLt).2.2
  refine gives_of_A follows Tryd.func47 rfl 13 rfl (upd (fun _ => undef) 0 (Value.agg #[U (hi (x)), U (lo (x))])) (by funext k; match k with | 0 => rfl | k + 1 => rfl) (fun base => ?_)
  refine A_seq fun K1 hK1 => ?_
  refine A_reg ?_
  refine r_a (118, #[U (hi (x)), U (lo (x))]) rfl rfl rfl (fun b2 => ?_) (.inr rfl)
  refine r_v (Value.int .i64 (0)) rfl rfl rfl rfl ?_
  refine lx_nil ?_
  refine hK1 _ _ ?_; try clear hK1 K1
  refine A_seq fun K3 hK3 => ?_
  refine A_seq fun K4 hK4 => ?_
  refine A_reg ?_
  refine r_v (Value.pointer (some ⟨b2, 0, none⟩)) rfl rfl rfl rfl ?_
  refine r_l (U (hi (x))) 0 _ _ _ _ rfl rfl rfl rfl rfl ?_
  refine r_v (Value.bool ((hi (x)) == (0#64))) rfl rfl (U_eq (hi (x)) (0#64)) rfl ?_
  refine lx_nil ?_
  refine hK4 _ _ ?_; try clear hK4 K4
  refine A_cond ((hi (x)) == (0#64)) rfl (fun hc5 => ?_) (fun hc5 => ?_)
  · have hc5x := eq_of_beq hc5
    refine A_seq fun K6 hK6 => ?_
    refine A_reg ?_
    refine r_v (Value.pointer (some ⟨b2, 1, none⟩)) rfl rfl rfl rfl ?_
    refine r_l (U (lo (x))) 0 _ _ _ _ rfl rfl rfl rfl rfl ?_
    refine r_c (Value.int .i64 (((Lib.bitLen (lo (x)).toNat : Nat) : Int))) rfl _ _ (ev_callF rfl call_56 rfl) (len64_g (lo (x))) ?_
    refine r_v (Value.int .i64 (((Lib.bitLen (lo (x)).toNat : Nat) : Int))) rfl rfl rfl rfl ?_
    refine lx_nil ?_
    refine hK6 _ _ ?_; try clear hK6 K6
    refine A_ret (fun hn => ends_eq (v0 := Value.int .i64 (((Lib.bitLen (lo (x)).toNat : Nat) : Int))) (by unfold len128; rw [if_pos hc5x]) (res1 rfl))
  · have hc5x := ne_of_beq_false hc5
    refine A_skip ?_
    refine hK3 _ _ ?_; try clear hK3 K3
    refine A_seq fun K7 hK7 => ?_
    refine A_reg ?_
    refine r_v (Value.pointer (some ⟨b2, 0, none⟩)) rfl rfl rfl rfl ?_
    refine r_l (U (hi (x))) 0 _ _ _ _ rfl rfl rfl rfl rfl ?_
    refine r_c (Value.int .i64 (((Lib.bitLen (hi (x)).toNat : Nat) : Int))) rfl _ _ (ev_callF rfl call_56 rfl) (len64_g (hi (x))) ?_
    refine r_v (Value.int .i64 (64 + ((Lib.bitLen (hi (x)).toNat : Nat) : Int))) rfl rfl (wi64 (by omega) (by omega) (by omega)) rfl ?_
    refine r_v (Value.int .i64 (64 + ((Lib.bitLen (hi (x)).toNat : Nat) : Int))) rfl rfl rfl rfl ?_
    refine lx_nil ?_
    refine hK7 _ _ ?_; try clear hK7 K7
    refine A_ret (fun hn => ends_eq (v0 := Value.int .i64 (64 + ((Lib.bitLen (hi (x)).toNat : Nat) : Int))) (by unfold len128; rw [if_neg hc5x]; rfl) (res1 rfl))
end Go.Proofs.YtmfedgmmgehmgaaDoor
