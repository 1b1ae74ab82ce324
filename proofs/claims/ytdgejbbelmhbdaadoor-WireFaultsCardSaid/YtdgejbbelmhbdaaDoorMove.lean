/- words moved -/
import Derived.Test.YtdgejbbelmhbdaaDoorWord
import Derived.Test.YtdgejbbelmhbdaaDoorPm
namespace Go.Proofs.YtdgejbbelmhbdaaDoor
open Go Go.RowKit Go.Eng
set_option maxRecDepth 100000 in
set_option maxHeartbeats 400000 in
theorem down_g (x : BitVec 128) (n : Nat) (hn : n ≤ 127) : Gives Tryd.prog 64 #[Value.agg #[U (hi (x)), U (lo (x))], Value.int .i64 (((n : Nat) : Int))] (Value.agg #[U (hi (x >>> n)), U (lo (x >>> n))]) := by
  refine gives_of_A follows Tryd.func64 rfl 28 rfl (upd (upd (fun _ => undef) 1 (Value.int .i64 (((n : Nat) : Int)))) 0 (Value.agg #[U (hi (x)), U (lo (x))])) (by funext k; match k with | 0 => rfl | 1 => rfl | k + 2 => rfl) (fun base => ?_)
  refine A_seq fun K1 hK1 => ?_
  refine A_reg ?_
  refine r_a (72, #[U (hi (x)), U (lo (x))]) rfl rfl rfl (fun b2 => ?_) (.inr rfl)
  refine r_a (72, #[U (0#64), U (0#64)]) rfl rfl rfl (fun b3 => ?_) (.inr rfl)
  refine lx_nil ?_
  refine hK1 _ _ ?_; try clear hK1 K1
  refine A_seq fun K4 hK4 => ?_
  refine A_seq fun K5 hK5 => ?_
  refine A_reg ?_
  refine r_v (Value.int .i64 (((n : Nat) : Int))) rfl rfl rfl rfl ?_
  refine r_v (Value.bool (decide ((((n : Nat) : Int) : Int) ≥ 64))) rfl rfl rfl rfl ?_
  refine lx_nil ?_
  refine hK5 _ _ ?_; try clear hK5 K5
  refine A_cond (decide ((((n : Nat) : Int) : Int) ≥ 64)) rfl (fun hc6 => ?_) (fun hc6 => ?_)
  · have hc6x := of_decide_eq_true hc6
    refine A_seq fun K7 hK7 => ?_
    refine A_reg ?_
    refine r_v (Value.pointer (some ⟨b2, 0, none⟩)) rfl rfl rfl rfl ?_
    refine r_l (U (hi (x))) 1 _ _ _ _ rfl rfl rfl rfl rfl ?_
    refine r_v (Value.int .i64 (((n : Nat) : Int))) rfl rfl rfl rfl ?_
    refine r_v (Value.int .i64 (((n - 64 : Nat) : Int))) rfl rfl (((wi64 (by omega) (by omega) (by omega)) : _ = Value.int .i64 ((((n : Nat) : Int)) - (64))).trans (congrArg (Value.int .i64) (by omega))) rfl ?_
    refine r_v (U ((hi (x) >>> (n - 64)))) rfl rfl (U_shr (hi (x)) (n - 64)) (ev_shr rfl rfl) ?_
    refine r_v (Value.agg #[U (0#64), U ((hi (x) >>> (n - 64)))]) rfl rfl rfl (ev_buildS rfl rfl rfl rfl) ?_
    refine r_s [(b3, 72, #[U (0#64), U ((hi (x) >>> (n - 64)))]), (b2, 72, #[U (hi (x)), U (lo (x))])] 0 _ _ _ (#[U (0#64), U (0#64)]) (#[U (0#64), U ((hi (x) >>> (n - 64)))]) (#[U (0#64), U ((hi (x) >>> (n - 64)))]) rfl rfl rfl rfl (.of rfl rfl) rfl rfl ?_
    refine lx_nil ?_
    refine hK7 _ _ ?_; try clear hK7 K7
    refine A_ret (fun hn => ends_eq (v0 := Value.agg #[U (0#64), U ((hi (x) >>> (n - 64)))]) (by rw [down_hi_big (x := x) (n := n) (by omega), down_lo_big x (by omega)]) (res1 (res_cell hn 0 rfl rfl rfl)))
  · have hc6x := of_decide_eq_false hc6
    refine A_skip ?_
    refine hK4 _ _ ?_; try clear hK4 K4
    refine A_seq fun K8 hK8 => ?_
    refine A_draw [] (by decide +kernel) (fun hn => sep_nil) ?_
    refine r_v (Value.pointer (some ⟨b2, 0, none⟩)) rfl rfl rfl rfl ?_
    refine r_l (U (hi (x))) 1 _ _ _ _ rfl rfl rfl rfl rfl ?_
    refine r_v (Value.int .i64 (((n : Nat) : Int))) rfl rfl rfl rfl ?_
    refine r_v (U ((hi (x) >>> n))) rfl rfl (U_shr (hi (x)) n) (ev_shr rfl rfl) ?_
    refine r_v (Value.pointer (some ⟨b2, 1, none⟩)) rfl rfl rfl rfl ?_
    refine r_l (U (lo (x))) 1 _ _ _ _ rfl rfl rfl rfl rfl ?_
    refine r_v (Value.int .i64 (((n : Nat) : Int))) rfl rfl rfl rfl ?_
    refine r_v (U ((lo (x) >>> n))) rfl rfl (U_shr (lo (x)) n) (ev_shr rfl rfl) ?_
    refine r_v (Value.pointer (some ⟨b2, 0, none⟩)) rfl rfl rfl rfl ?_
    refine r_l (U (hi (x))) 1 _ _ _ _ rfl rfl rfl rfl rfl ?_
    refine r_v (Value.int .i64 (((n : Nat) : Int))) rfl rfl rfl rfl ?_
    refine r_v (Value.int .i64 (((64 - n : Nat) : Int))) rfl rfl (((wi64 (by omega) (by omega) (by omega)) : _ = Value.int .i64 ((64) - (((n : Nat) : Int)))).trans (congrArg (Value.int .i64) (by omega))) rfl ?_
    refine r_v (U ((hi (x) <<< (64 - n)))) rfl rfl (U_shl (hi (x)) (64 - n)) (ev_shl rfl rfl) ?_
    refine r_v (U (((lo (x) >>> n) ||| (hi (x) <<< (64 - n))))) rfl rfl (U_or ((lo (x) >>> n)) ((hi (x) <<< (64 - n)))) rfl ?_
    refine r_v (Value.agg #[U ((hi (x) >>> n)), U (((lo (x) >>> n) ||| (hi (x) <<< (64 - n))))]) rfl rfl rfl (ev_buildS rfl rfl rfl rfl) ?_
    refine r_s [(b3, 72, #[U ((hi (x) >>> n)), U (((lo (x) >>> n) ||| (hi (x) <<< (64 - n))))]), (b2, 72, #[U (hi (x)), U (lo (x))])] 0 _ _ _ (#[U (0#64), U (0#64)]) (#[U ((hi (x) >>> n)), U (((lo (x) >>> n) ||| (hi (x) <<< (64 - n))))]) (#[U ((hi (x) >>> n)), U (((lo (x) >>> n) ||| (hi (x) <<< (64 - n))))]) rfl rfl rfl rfl (.of rfl rfl) rfl rfl ?_
    refine lx_nil ?_
    refine hK8 _ _ ?_; try clear hK8 K8
    refine A_ret (fun hn => ends_eq (v0 := Value.agg #[U ((hi (x) >>> n)), U (((lo (x) >>> n) ||| (hi (x) <<< (64 - n))))]) (by rw [down_hi_small, down_lo_small x (by omega)]) (res1 (res_cell hn 0 rfl rfl rfl)))
set_option maxRecDepth 100000 in
set_option maxHeartbeats 400000 in
theorem up_g (x : BitVec 128) (n : Nat) (hn : n ≤ 127) : Gives Tryd.prog 65 #[Value.agg #[U (hi (x)), U (lo (x))], Value.int .i64 (((n : Nat) : Int))] (Value.agg #[U (hi (x <<< n)), U (lo (x <<< n))]) := by
  refine gives_of_A follows Tryd.func65 rfl 28 rfl (upd (upd (fun _ => undef) 1 (Value.int .i64 (((n : Nat) : Int)))) 0 (Value.agg #[U (hi (x)), U (lo (x))])) (by funext k; match k with | 0 => rfl | 1 => rfl | k + 2 => rfl) (fun base => ?_)
  refine A_seq fun K1 hK1 => ?_
  refine A_reg ?_
  refine r_a (72, #[U (hi (x)), U (lo (x))]) rfl rfl rfl (fun b2 => ?_) (.inr rfl)
  refine r_a (72, #[U (0#64), U (0#64)]) rfl rfl rfl (fun b3 => ?_) (.inr rfl)
  refine lx_nil ?_
  refine hK1 _ _ ?_; try clear hK1 K1
  refine A_seq fun K4 hK4 => ?_
  refine A_seq fun K5 hK5 => ?_
  refine A_reg ?_
  refine r_v (Value.int .i64 (((n : Nat) : Int))) rfl rfl rfl rfl ?_
  refine r_v (Value.bool (decide ((((n : Nat) : Int) : Int) ≥ 64))) rfl rfl rfl rfl ?_
  refine lx_nil ?_
  refine hK5 _ _ ?_; try clear hK5 K5
  refine A_cond (decide ((((n : Nat) : Int) : Int) ≥ 64)) rfl (fun hc6 => ?_) (fun hc6 => ?_)
  · have hc6x := of_decide_eq_true hc6
    refine A_seq fun K7 hK7 => ?_
    refine A_reg ?_
    refine r_v (Value.pointer (some ⟨b2, 1, none⟩)) rfl rfl rfl rfl ?_
    refine r_l (U (lo (x))) 1 _ _ _ _ rfl rfl rfl rfl rfl ?_
    refine r_v (Value.int .i64 (((n : Nat) : Int))) rfl rfl rfl rfl ?_
    refine r_v (Value.int .i64 (((n - 64 : Nat) : Int))) rfl rfl (((wi64 (by omega) (by omega) (by omega)) : _ = Value.int .i64 ((((n : Nat) : Int)) - (64))).trans (congrArg (Value.int .i64) (by omega))) rfl ?_
    refine r_v (U ((lo (x) <<< (n - 64)))) rfl rfl (U_shl (lo (x)) (n - 64)) (ev_shl rfl rfl) ?_
    refine r_v (Value.agg #[U ((lo (x) <<< (n - 64))), U (0#64)]) rfl rfl rfl (ev_buildS rfl rfl rfl rfl) ?_
    refine r_s [(b3, 72, #[U ((lo (x) <<< (n - 64))), U (0#64)]), (b2, 72, #[U (hi (x)), U (lo (x))])] 0 _ _ _ (#[U (0#64), U (0#64)]) (#[U ((lo (x) <<< (n - 64))), U (0#64)]) (#[U ((lo (x) <<< (n - 64))), U (0#64)]) rfl rfl rfl rfl (.of rfl rfl) rfl rfl ?_
    refine lx_nil ?_
    refine hK7 _ _ ?_; try clear hK7 K7
    refine A_ret (fun hn => ends_eq (v0 := Value.agg #[U ((lo (x) <<< (n - 64))), U (0#64)]) (by rw [up_lo_big (x := x) (n := n) (by omega), up_hi_big x (by omega)]) (res1 (res_cell hn 0 rfl rfl rfl)))
  · have hc6x := of_decide_eq_false hc6
    refine A_skip ?_
    refine hK4 _ _ ?_; try clear hK4 K4
    refine A_seq fun K8 hK8 => ?_
    refine A_draw [] (by decide +kernel) (fun hn => sep_nil) ?_
    refine r_v (Value.pointer (some ⟨b2, 0, none⟩)) rfl rfl rfl rfl ?_
    refine r_l (U (hi (x))) 1 _ _ _ _ rfl rfl rfl rfl rfl ?_
    refine r_v (Value.int .i64 (((n : Nat) : Int))) rfl rfl rfl rfl ?_
    refine r_v (U ((hi (x) <<< n))) rfl rfl (U_shl (hi (x)) n) (ev_shl rfl rfl) ?_
    refine r_v (Value.pointer (some ⟨b2, 1, none⟩)) rfl rfl rfl rfl ?_
    refine r_l (U (lo (x))) 1 _ _ _ _ rfl rfl rfl rfl rfl ?_
    refine r_v (Value.int .i64 (((n : Nat) : Int))) rfl rfl rfl rfl ?_
    refine r_v (Value.int .i64 (((64 - n : Nat) : Int))) rfl rfl (((wi64 (by omega) (by omega) (by omega)) : _ = Value.int .i64 ((64) - (((n : Nat) : Int)))).trans (congrArg (Value.int .i64) (by omega))) rfl ?_
    refine r_v (U ((lo (x) >>> (64 - n)))) rfl rfl (U_shr (lo (x)) (64 - n)) (ev_shr rfl rfl) ?_
    refine r_v (U (((hi (x) <<< n) ||| (lo (x) >>> (64 - n))))) rfl rfl (U_or ((hi (x) <<< n)) ((lo (x) >>> (64 - n)))) rfl ?_
    refine r_v (Value.pointer (some ⟨b2, 1, none⟩)) rfl rfl rfl rfl ?_
    refine r_l (U (lo (x))) 1 _ _ _ _ rfl rfl rfl rfl rfl ?_
    refine r_v (Value.int .i64 (((n : Nat) : Int))) rfl rfl rfl rfl ?_
    refine r_v (U ((lo (x) <<< n))) rfl rfl (U_shl (lo (x)) n) (ev_shl rfl rfl) ?_
    refine r_v (Value.agg #[U (((hi (x) <<< n) ||| (lo (x) >>> (64 - n)))), U ((lo (x) <<< n))]) rfl rfl rfl (ev_buildS rfl rfl rfl rfl) ?_
    refine r_s [(b3, 72, #[U (((hi (x) <<< n) ||| (lo (x) >>> (64 - n)))), U ((lo (x) <<< n))]), (b2, 72, #[U (hi (x)), U (lo (x))])] 0 _ _ _ (#[U (0#64), U (0#64)]) (#[U (((hi (x) <<< n) ||| (lo (x) >>> (64 - n)))), U ((lo (x) <<< n))]) (#[U (((hi (x) <<< n) ||| (lo (x) >>> (64 - n)))), U ((lo (x) <<< n))]) rfl rfl rfl rfl (.of rfl rfl) rfl rfl ?_
    refine lx_nil ?_
    refine hK8 _ _ ?_; try clear hK8 K8
    refine A_ret (fun hn => ends_eq (v0 := Value.agg #[U (((hi (x) <<< n) ||| (lo (x) >>> (64 - n)))), U ((lo (x) <<< n))]) (by rw [up_lo_small, up_hi_small x (by omega)]) (res1 (res_cell hn 0 rfl rfl rfl)))
set_option maxRecDepth 100000 in
set_option maxHeartbeats 400000 in
theorem shl_g (x : BitVec 128) (n : Int) (hn0 : -9223372036854775808 ≤ n) (hn1 : n ≤ 9223372036854775807) : Gives Tryd.prog 55 #[Value.agg #[U (hi (x)), U (lo (x))], Value.int .i64 (n)] (Value.agg #[U (hi (shiftI x n)), U (lo (shiftI x n))]) := by
  refine gives_of_A follows Tryd.func55 rfl 21 rfl (upd (upd (fun _ => undef) 1 (Value.int .i64 (n))) 0 (Value.agg #[U (hi (x)), U (lo (x))])) (by funext k; match k with | 0 => rfl | 1 => rfl | k + 2 => rfl) (fun base => ?_)
  refine A_seq fun K1 hK1 => ?_
  refine A_reg ?_
  refine r_a (72, #[U (hi (x)), U (lo (x))]) rfl rfl rfl (fun b2 => ?_) (.inr rfl)
  refine r_a (72, #[U (0#64), U (0#64)]) rfl rfl rfl (fun b3 => ?_) (.inr rfl)
  refine lx_nil ?_
  refine hK1 _ _ ?_; try clear hK1 K1
  refine A_seq fun K4 hK4 => ?_
  refine A_seq fun K5 hK5 => ?_
  refine A_reg ?_
  refine r_v (Value.int .i64 (n)) rfl rfl rfl rfl ?_
  refine r_v (Value.bool (decide ((n : Int) ≤ -128))) rfl rfl rfl rfl ?_
  refine r_v (Value.bool (decide ((n : Int) ≤ -128))) rfl rfl rfl rfl ?_
  rcases hg6 : (decide ((n : Int) ≤ -128)) with _ | _
  · have hg6x := of_decide_eq_false hg6
    refine r_y rfl ?_
    refine r_v (Value.int .i64 (n)) rfl rfl rfl rfl ?_
    refine r_y rfl ?_
    refine r_v (Value.bool (decide ((n : Int) ≥ 128))) rfl rfl rfl rfl ?_
    refine r_v (Value.bool (decide ((n : Int) ≥ 128))) rfl rfl rfl rfl ?_
    refine lx_nil ?_
    refine hK5 _ _ ?_; try clear hK5 K5
    refine A_cond (decide ((n : Int) ≥ 128)) rfl (fun hc7 => ?_) (fun hc7 => ?_)
    · have hc7x := of_decide_eq_true hc7
      refine A_seq fun K8 hK8 => ?_
      refine A_reg ?_
      refine r_v (Value.agg #[U (0#64), U (0#64)]) rfl rfl rfl (ev_buildS rfl rfl rfl rfl) ?_
      refine r_s [(b3, 72, #[U (0#64), U (0#64)]), (b2, 72, #[U (hi (x)), U (lo (x))])] 0 _ _ _ (#[U (0#64), U (0#64)]) (#[U (0#64), U (0#64)]) (#[U (0#64), U (0#64)]) rfl rfl rfl rfl (.of rfl rfl) rfl rfl ?_
      refine lx_nil ?_
      refine hK8 _ _ ?_; try clear hK8 K8
      refine A_ret (fun hn => ends_eq (v0 := Value.agg #[U (0#64), U (0#64)]) (by rw [← shiftI_far (x := x) (n := n) (by omega)]; rfl) (res1 (res_cell hn 0 rfl rfl rfl)))
    · have hc7x := of_decide_eq_false hc7
      refine A_skip ?_
      refine hK4 _ _ ?_; try clear hK4 K4
      refine A_seq fun K9 hK9 => ?_
      refine A_seq fun K10 hK10 => ?_
      refine A_reg ?_
      refine r_v (Value.int .i64 (n)) rfl rfl rfl rfl ?_
      refine r_v (Value.bool (decide ((n : Int) < 0))) rfl rfl rfl rfl ?_
      refine lx_nil ?_
      refine hK10 _ _ ?_; try clear hK10 K10
      refine A_cond (decide ((n : Int) < 0)) rfl (fun hc11 => ?_) (fun hc11 => ?_)
      · have hc11x := of_decide_eq_true hc11
        refine A_seq fun K12 hK12 => ?_
        refine A_reg ?_
        refine r_l (Value.agg #[U (hi (x)), U (lo (x))]) 1 _ _ _ _ rfl rfl rfl rfl rfl ?_
        refine r_v (Value.int .i64 (n)) rfl rfl rfl rfl ?_
        refine r_v (Value.int .i64 ((((-n).toNat : Nat) : Int))) rfl rfl (((wi64 rfl (by omega) (by omega)) : _ = Value.int .i64 (0 - (n))).trans (congrArg (Value.int .i64) (by omega))) rfl ?_
        refine r_c (Value.agg #[U (hi ((x) >>> ((-n).toNat))), U (lo ((x) >>> ((-n).toNat)))]) rfl _ _ (ev_callF rfl call_64 rfl) (down_g (x) ((-n).toNat) (by omega)) ?_
        refine r_s [(b3, 72, #[U (hi ((x) >>> ((-n).toNat))), U (lo ((x) >>> ((-n).toNat)))]), (b2, 72, #[U (hi (x)), U (lo (x))])] 0 _ _ _ (#[U (0#64), U (0#64)]) (#[U (hi ((x) >>> ((-n).toNat))), U (lo ((x) >>> ((-n).toNat)))]) (#[U (hi ((x) >>> ((-n).toNat))), U (lo ((x) >>> ((-n).toNat)))]) rfl rfl rfl rfl (.of rfl rfl) rfl rfl ?_
        refine lx_nil ?_
        refine hK12 _ _ ?_; try clear hK12 K12
        refine A_ret (fun hn => ends_eq (v0 := Value.agg #[U (hi ((x) >>> ((-n).toNat))), U (lo ((x) >>> ((-n).toNat)))]) (by rw [shiftI_neg hc11x]) (res1 (res_cell hn 0 rfl rfl rfl)))
      · have hc11x := of_decide_eq_false hc11
        refine A_skip ?_
        refine hK9 _ _ ?_; try clear hK9 K9
        refine A_seq fun K13 hK13 => ?_
        refine A_reg ?_
        refine r_l (Value.agg #[U (hi (x)), U (lo (x))]) 1 _ _ _ _ rfl rfl rfl rfl rfl ?_
        refine r_v (Value.int .i64 (((n.toNat : Nat) : Int))) rfl rfl (congrArg (Value.int .i64) (by omega)) rfl ?_
        refine r_c (Value.agg #[U (hi ((x) <<< (n.toNat))), U (lo ((x) <<< (n.toNat)))]) rfl _ _ (ev_callF rfl call_65 rfl) (up_g (x) (n.toNat) (by omega)) ?_
        refine r_s [(b3, 72, #[U (hi ((x) <<< (n.toNat))), U (lo ((x) <<< (n.toNat)))]), (b2, 72, #[U (hi (x)), U (lo (x))])] 0 _ _ _ (#[U (0#64), U (0#64)]) (#[U (hi ((x) <<< (n.toNat))), U (lo ((x) <<< (n.toNat)))]) (#[U (hi ((x) <<< (n.toNat))), U (lo ((x) <<< (n.toNat)))]) rfl rfl rfl rfl (.of rfl rfl) rfl rfl ?_
        refine lx_nil ?_
        refine hK13 _ _ ?_; try clear hK13 K13
        refine A_ret (fun hn => ends_eq (v0 := Value.agg #[U (hi ((x) <<< (n.toNat))), U (lo ((x) <<< (n.toNat)))]) (by rw [shiftI_pos hc11x]) (res1 (res_cell hn 0 rfl rfl rfl)))
  · have hg6x := of_decide_eq_true hg6
    refine r_n true rfl (by decide) rfl ?_
    refine r_n true rfl (by decide) rfl ?_
    refine r_v (Value.bool (true)) rfl rfl rfl rfl ?_
    refine lx_nil ?_
    refine hK5 _ _ ?_; try clear hK5 K5
    refine A_cond true rfl (fun _ => ?_) (fun h_ => nomatch h_)
    refine A_seq fun K15 hK15 => ?_
    refine A_reg ?_
    refine r_v (Value.agg #[U (0#64), U (0#64)]) rfl rfl rfl (ev_buildS rfl rfl rfl rfl) ?_
    refine r_s [(b3, 72, #[U (0#64), U (0#64)]), (b2, 72, #[U (hi (x)), U (lo (x))])] 0 _ _ _ (#[U (0#64), U (0#64)]) (#[U (0#64), U (0#64)]) (#[U (0#64), U (0#64)]) rfl rfl rfl rfl (.of rfl rfl) rfl rfl ?_
    refine lx_nil ?_
    refine hK15 _ _ ?_; try clear hK15 K15
    refine A_ret (fun hn => ends_eq (v0 := Value.agg #[U (0#64), U (0#64)]) (by rw [← shiftI_far (x := x) (n := n) (by omega)]; rfl) (res1 (res_cell hn 0 rfl rfl rfl)))
set_option maxRecDepth 100000 in
set_option maxHeartbeats 400000 in
theorem shr_g (x : BitVec 128) (n : Int) (hn0 : -9223372036854775808 ≤ n) (hn1 : n ≤ 9223372036854775807) : Gives Tryd.prog 63 #[Value.agg #[U (hi (x)), U (lo (x))], Value.int .i64 (n)] (Value.agg #[U (hi (shiftI x (-n))), U (lo (shiftI x (-n)))]) := by
  refine gives_of_A follows Tryd.func63 rfl 21 rfl (upd (upd (fun _ => undef) 1 (Value.int .i64 (n))) 0 (Value.agg #[U (hi (x)), U (lo (x))])) (by funext k; match k with | 0 => rfl | 1 => rfl | k + 2 => rfl) (fun base => ?_)
  refine A_seq fun K1 hK1 => ?_
  refine A_reg ?_
  refine r_a (72, #[U (hi (x)), U (lo (x))]) rfl rfl rfl (fun b2 => ?_) (.inr rfl)
  refine r_a (72, #[U (0#64), U (0#64)]) rfl rfl rfl (fun b3 => ?_) (.inr rfl)
  refine lx_nil ?_
  refine hK1 _ _ ?_; try clear hK1 K1
  refine A_seq fun K4 hK4 => ?_
  refine A_seq fun K5 hK5 => ?_
  refine A_reg ?_
  refine r_v (Value.int .i64 (n)) rfl rfl rfl rfl ?_
  refine r_v (Value.bool (decide ((n : Int) ≤ -128))) rfl rfl rfl rfl ?_
  refine r_v (Value.bool (decide ((n : Int) ≤ -128))) rfl rfl rfl rfl ?_
  rcases hg6 : (decide ((n : Int) ≤ -128)) with _ | _
  · have hg6x := of_decide_eq_false hg6
    refine r_y rfl ?_
    refine r_v (Value.int .i64 (n)) rfl rfl rfl rfl ?_
    refine r_y rfl ?_
    refine r_v (Value.bool (decide ((n : Int) ≥ 128))) rfl rfl rfl rfl ?_
    refine r_v (Value.bool (decide ((n : Int) ≥ 128))) rfl rfl rfl rfl ?_
    refine lx_nil ?_
    refine hK5 _ _ ?_; try clear hK5 K5
    refine A_cond (decide ((n : Int) ≥ 128)) rfl (fun hc7 => ?_) (fun hc7 => ?_)
    · have hc7x := of_decide_eq_true hc7
      refine A_seq fun K8 hK8 => ?_
      refine A_reg ?_
      refine r_v (Value.agg #[U (0#64), U (0#64)]) rfl rfl rfl (ev_buildS rfl rfl rfl rfl) ?_
      refine r_s [(b3, 72, #[U (0#64), U (0#64)]), (b2, 72, #[U (hi (x)), U (lo (x))])] 0 _ _ _ (#[U (0#64), U (0#64)]) (#[U (0#64), U (0#64)]) (#[U (0#64), U (0#64)]) rfl rfl rfl rfl (.of rfl rfl) rfl rfl ?_
      refine lx_nil ?_
      refine hK8 _ _ ?_; try clear hK8 K8
      refine A_ret (fun hn => ends_eq (v0 := Value.agg #[U (0#64), U (0#64)]) (by rw [← shiftI_far (x := x) (n := -n) (by omega)]; rfl) (res1 (res_cell hn 0 rfl rfl rfl)))
    · have hc7x := of_decide_eq_false hc7
      refine A_skip ?_
      refine hK4 _ _ ?_; try clear hK4 K4
      refine A_seq fun K9 hK9 => ?_
      refine A_seq fun K10 hK10 => ?_
      refine A_reg ?_
      refine r_v (Value.int .i64 (n)) rfl rfl rfl rfl ?_
      refine r_v (Value.bool (decide ((n : Int) < 0))) rfl rfl rfl rfl ?_
      refine lx_nil ?_
      refine hK10 _ _ ?_; try clear hK10 K10
      refine A_cond (decide ((n : Int) < 0)) rfl (fun hc11 => ?_) (fun hc11 => ?_)
      · have hc11x := of_decide_eq_true hc11
        refine A_seq fun K12 hK12 => ?_
        refine A_reg ?_
        refine r_l (Value.agg #[U (hi (x)), U (lo (x))]) 1 _ _ _ _ rfl rfl rfl rfl rfl ?_
        refine r_v (Value.int .i64 (n)) rfl rfl rfl rfl ?_
        refine r_v (Value.int .i64 ((((-n).toNat : Nat) : Int))) rfl rfl (((wi64 rfl (by omega) (by omega)) : _ = Value.int .i64 (0 - (n))).trans (congrArg (Value.int .i64) (by omega))) rfl ?_
        refine r_c (Value.agg #[U (hi ((x) <<< ((-n).toNat))), U (lo ((x) <<< ((-n).toNat)))]) rfl _ _ (ev_callF rfl call_65 rfl) (up_g (x) ((-n).toNat) (by omega)) ?_
        refine r_s [(b3, 72, #[U (hi ((x) <<< ((-n).toNat))), U (lo ((x) <<< ((-n).toNat)))]), (b2, 72, #[U (hi (x)), U (lo (x))])] 0 _ _ _ (#[U (0#64), U (0#64)]) (#[U (hi ((x) <<< ((-n).toNat))), U (lo ((x) <<< ((-n).toNat)))]) (#[U (hi ((x) <<< ((-n).toNat))), U (lo ((x) <<< ((-n).toNat)))]) rfl rfl rfl rfl (.of rfl rfl) rfl rfl ?_
        refine lx_nil ?_
        refine hK12 _ _ ?_; try clear hK12 K12
        refine A_ret (fun hn => ends_eq (v0 := Value.agg #[U (hi ((x) <<< ((-n).toNat))), U (lo ((x) <<< ((-n).toNat)))]) (by rw [shiftI_up hc11x]) (res1 (res_cell hn 0 rfl rfl rfl)))
      · have hc11x := of_decide_eq_false hc11
        refine A_skip ?_
        refine hK9 _ _ ?_; try clear hK9 K9
        refine A_seq fun K13 hK13 => ?_
        refine A_reg ?_
        refine r_l (Value.agg #[U (hi (x)), U (lo (x))]) 1 _ _ _ _ rfl rfl rfl rfl rfl ?_
        refine r_v (Value.int .i64 (((n.toNat : Nat) : Int))) rfl rfl (congrArg (Value.int .i64) (by omega)) rfl ?_
        refine r_c (Value.agg #[U (hi ((x) >>> (n.toNat))), U (lo ((x) >>> (n.toNat)))]) rfl _ _ (ev_callF rfl call_64 rfl) (down_g (x) (n.toNat) (by omega)) ?_
        refine r_s [(b3, 72, #[U (hi ((x) >>> (n.toNat))), U (lo ((x) >>> (n.toNat)))]), (b2, 72, #[U (hi (x)), U (lo (x))])] 0 _ _ _ (#[U (0#64), U (0#64)]) (#[U (hi ((x) >>> (n.toNat))), U (lo ((x) >>> (n.toNat)))]) (#[U (hi ((x) >>> (n.toNat))), U (lo ((x) >>> (n.toNat)))]) rfl rfl rfl rfl (.of rfl rfl) rfl rfl ?_
        refine lx_nil ?_
        refine hK13 _ _ ?_; try clear hK13 K13
        refine A_ret (fun hn => ends_eq (v0 := Value.agg #[U (hi ((x) >>> (n.toNat))), U (lo ((x) >>> (n.toNat)))]) (by rw [shiftI_down hc11x]) (res1 (res_cell hn 0 rfl rfl rfl)))
  · have hg6x := of_decide_eq_true hg6
    refine r_n true rfl (by decide) rfl ?_
    refine r_n true rfl (by decide) rfl ?_
    refine r_v (Value.bool (true)) rfl rfl rfl rfl ?_
    refine lx_nil ?_
    refine hK5 _ _ ?_; try clear hK5 K5
    refine A_cond true rfl (fun _ => ?_) (fun h_ => nomatch h_)
    refine A_seq fun K15 hK15 => ?_
    refine A_reg ?_
    refine r_v (Value.agg #[U (0#64), U (0#64)]) rfl rfl rfl (ev_buildS rfl rfl rfl rfl) ?_
    refine r_s [(b3, 72, #[U (0#64), U (0#64)]), (b2, 72, #[U (hi (x)), U (lo (x))])] 0 _ _ _ (#[U (0#64), U (0#64)]) (#[U (0#64), U (0#64)]) (#[U (0#64), U (0#64)]) rfl rfl rfl rfl (.of rfl rfl) rfl rfl ?_
    refine lx_nil ?_
    refine hK15 _ _ ?_; try clear hK15 K15
    refine A_ret (fun hn => ends_eq (v0 := Value.agg #[U (0#64), U (0#64)]) (by rw [← shiftI_far (x := x) (n := -n) (by omega)]; rfl) (res1 (res_cell hn 0 rfl rfl rfl)))
theorem len64_g (y : BitVec 64) : Gives Tryd.prog 74 #[U y] (.int .i64 ((Lib.bitLen y.toNat : Nat) : Int)) :=
  Gives.of_same (fun w => Tryd.bits_Len64 (y.toNat : Int) w (by omega) (by have := y.isLt; omega))
set_option maxRecDepth 100000 in
set_option maxHeartbeats 400000 in
theorem len_g (x : BitVec 128) : Gives Tryd.prog 62 #[Value.agg #[U (hi (x)), U (lo (x))]] (Value.int .i64 (((len128 x : Nat) : Int))) := by
  have hb := (bl_spec (hi x).toNat (hi x).isLt).2.2
  refine gives_of_A follows Tryd.func62 rfl 13 rfl (upd (fun _ => undef) 0 (Value.agg #[U (hi (x)), U (lo (x))])) (by funext k; match k with | 0 => rfl | k + 1 => rfl) (fun base => ?_)
  refine A_seq fun K1 hK1 => ?_
  refine A_reg ?_
  refine r_a (72, #[U (hi (x)), U (lo (x))]) rfl rfl rfl (fun b2 => ?_) (.inr rfl)
  refine r_v (Value.int .i64 (0)) rfl rfl rfl rfl ?_
  refine lx_nil ?_
  refine hK1 _ _ ?_; try clear hK1 K1
  refine A_seq fun K3 hK3 => ?_
  refine A_seq fun K4 hK4 => ?_
  refine A_reg ?_
  refine r_v (Value.pointer (some ⟨b2, 0, none⟩)) rfl rfl rfl rfl ?_
  refine r_l (U (hi (x))) 0 _ _ _ _ rfl rfl rfl rfl rfl ?_
  refine r_v (Value.bool ((hi (x)) == (0#64))) rfl rfl (U_eq (hi (x)) (0#64)) rfl ?_
  refine lx_nil ?_
  refine hK4 _ _ ?_; try clear hK4 K4
  refine A_cond ((hi (x)) == (0#64)) rfl (fun hc5 => ?_) (fun hc5 => ?_)
  · have hc5x := eq_of_beq hc5
    refine A_seq fun K6 hK6 => ?_
    refine A_reg ?_
    refine r_v (Value.pointer (some ⟨b2, 1, none⟩)) rfl rfl rfl rfl ?_
    refine r_l (U (lo (x))) 0 _ _ _ _ rfl rfl rfl rfl rfl ?_
    refine r_c (Value.int .i64 (((Lib.bitLen (lo (x)).toNat : Nat) : Int))) rfl _ _ (ev_callF rfl call_74 rfl) (len64_g (lo (x))) ?_
    refine r_v (Value.int .i64 (((Lib.bitLen (lo (x)).toNat : Nat) : Int))) rfl rfl rfl rfl ?_
    refine lx_nil ?_
    refine hK6 _ _ ?_; try clear hK6 K6
    refine A_ret (fun hn => ends_eq (v0 := Value.int .i64 (((Lib.bitLen (lo (x)).toNat : Nat) : Int))) (by unfold len128; rw [if_pos hc5x]) (res1 rfl))
  · have hc5x := ne_of_beq_false hc5
    refine A_skip ?_
    refine hK3 _ _ ?_; try clear hK3 K3
    refine A_seq fun K7 hK7 => ?_
    refine A_reg ?_
    refine r_v (Value.pointer (some ⟨b2, 0, none⟩)) rfl rfl rfl rfl ?_
    refine r_l (U (hi (x))) 0 _ _ _ _ rfl rfl rfl rfl rfl ?_
    refine r_c (Value.int .i64 (((Lib.bitLen (hi (x)).toNat : Nat) : Int))) rfl _ _ (ev_callF rfl call_74 rfl) (len64_g (hi (x))) ?_
    refine r_v (Value.int .i64 (64 + ((Lib.bitLen (hi (x)).toNat : Nat) : Int))) rfl rfl (wi64 (by omega) (by omega) (by omega)) rfl ?_
    refine r_v (Value.int .i64 (64 + ((Lib.bitLen (hi (x)).toNat : Nat) : Int))) rfl rfl rfl rfl ?_
    refine lx_nil ?_
    refine hK7 _ _ ?_; try clear hK7 K7
    refine A_ret (fun hn => ends_eq (v0 := Value.int .i64 (64 + ((Lib.bitLen (hi (x)).toNat : Nat) : Int))) (by unfold len128; rw [if_neg hc5x]; rfl) (res1 rfl))
end Go.Proofs.YtdgejbbelmhbdaaDoor
