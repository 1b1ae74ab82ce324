/- rows -/
import Derived.Test.YtnpbpllibmcokaaWord
import Derived.Test.YtnpbpllibmcokaaSm
namespace Go.Proofs.Ytnpbpllibmcokaa
open Go Go.RowKit Go.Eng
theorem z_71 : ((Try.prog.info? 71).bind (·.zero)) = some (.agg ⟨List.replicate 128 (.bool false)⟩) := by kernel_rfl
theorem eg_71 : Try.prog.eqGuardType Try.prog.depth 71 = false := by kernel_rfl
set_option maxRecDepth 100000 in
theorem eqrow_71 {c : Addr → Option Value} (x y : BitVec 128) : ev Try.prog c (Op.equal 71 (.agg (rowA x)) (.agg (rowA y))) = some (x == y) := by
  rw [← row_beq]
  exact ev_eqArray _ _ _ 1 rfl rfl rfl _ (fun j hj => ⟨_, _, ev_partS (P := Try.prog) (t := 4) rfl (by intro fs h; cases h) (by intro n e h; cases h) _ _ (by rw [Nat.mul_one]; exact rowF_get _ hj),
    ev_partS (P := Try.prog) (t := 4) rfl (by intro fs h; cases h) (by intro n e h; cases h) _ _ (by rw [Nat.mul_one]; exact rowF_get _ hj), ev_eqBool _ _ _ rfl⟩)
set_option maxRecDepth 100000 in
set_option maxHeartbeats 400000 in
theorem of_g (h l : BitVec 64) : Gives Try.prog 33 #[U (h), U (l)] (Value.agg (rowF (BitVec.getLsbD (h ++ l)))) := by
  refine gives_of_A follows Try.func33 rfl 27 rfl (upd (upd (fun _ => undef) 1 (U (l))) 0 (U (h))) (by funext k; match k with | 0 => rfl | 1 => rfl | k + 2 => rfl) (fun base => ?_)
  refine A_seq fun K1 hK1 => ?_
  refine A_reg ?_
  refine r_a (71, rowF (fun _ => false)) rfl rfl (zrow z_71) (fun b2 => ?_) (.inr rfl)
  refine lx_nil ?_
  refine hK1 _ _ ?_; try clear hK1 K1
  refine A_seq fun K3 hK3 => ?_
  refine A_reg ?_
  refine r_a (71, rowF (fun _ => false)) rfl rfl (zrow z_71) (fun b4 => ?_) (.inr rfl)
  refine lx_nil ?_
  refine hK3 _ _ ?_; try clear hK3 K3
  refine A_seq fun K5 hK5 => ?_
  refine A_seq fun K6 hK6 => ?_
  refine A_reg ?_
  refine r_v (Value.int .i64 (0)) rfl rfl rfl rfl ?_
  refine lx_nil ?_
  refine hK6 _ _ ?_; try clear hK6 K6
  refine A_block ?_
  refine A_loop (fun tt ll nn => ∃ (k : Nat), (k ≤ 64) ∧ Is [(0, U (h >>> (k))), (1, U (l >>> (k))), (4, Value.pointer (some ⟨b2, 0, none⟩)), (5, Value.pointer (some ⟨b4, 0, none⟩)), (6, Value.int .i64 (((k : Nat) : Int)))] [(b4, 71, rowF (ofP h l (k))), (b2, 71, rowF (fun _ => false))] tt ll ∧ nn = 64 - (k)) (64 - (0)) ?_ ?_
  · exact ⟨0, by omega, is_mk (rfl) (by rw [← ofP_zero h l]), rfl⟩
  · rintro t l n ⟨k, hp0, ⟨⟨T, rfl⟩, rfl⟩, rfl⟩
    refine A_seq fun K7 hK7 => ?_
    refine A_seq fun K8 hK8 => ?_
    refine A_reg ?_
    refine r_v (Value.int .i64 (((k : Nat) : Int))) rfl rfl rfl rfl ?_
    refine r_v (Value.bool (decide ((((k : Nat) : Int) : Int) < 64))) rfl rfl rfl rfl ?_
    refine lx_nil ?_
    refine hK8 _ _ ?_; try clear hK8 K8
    refine A_cond (decide ((((k : Nat) : Int) : Int) < 64)) rfl (fun hc9 => ?_) (fun hc9 => ?_)
    · have hc9x := of_decide_eq_true hc9
      refine A_skip ?_
      refine hK7 _ _ ?_; try clear hK7 K7
      refine A_seq fun K10 hK10 => ?_
      refine A_block ?_
      refine A_seq fun K11 hK11 => ?_
      refine A_reg ?_
      refine r_v (Value.int .i64 (((k : Nat) : Int))) rfl rfl rfl rfl ?_
      refine r_v (U (l >>> (k))) rfl rfl rfl rfl ?_
      refine r_v (U ((l >>> (k) % 2#64))) rfl rfl (U_rem (l >>> (k)) (2#64)) rfl ?_
      refine r_v (Value.bool ((l).getLsbD (k))) rfl rfl (((U_eq ((l >>> (k) % 2#64)) (1#64)) : _ = Value.bool (((l >>> (k) % 2#64)) == (1#64))).trans (congrArg Value.bool (bit_of l k))) rfl ?_
      have hx15 := ev_v (ev_idx (P := Try.prog) (c := fun _ => none) (t := 71) (b := b4) (off := 0) (k) rfl rfl rfl (by omega))
      rw [Nat.zero_add] at hx15
      refine r_v (Value.pointer (some ⟨b4, k, none⟩)) rfl rfl rfl hx15 ?_
      clear hx15
      refine r_s [(b4, 71, rowF (upd (ofP h l (k)) (k) ((l).getLsbD (k)))), (b2, 71, rowF (fun _ => false))] 0 _ _ _ (rowF (ofP h l (k))) (#[Value.bool ((l).getLsbD (k))]) (rowF (upd (ofP h l (k)) (k) ((l).getLsbD (k)))) rfl rfl rfl rfl (stok_row1 rfl rfl _ _ (by omega)) (splice_row1 _ _ _) rfl ?_
      refine lx_nil ?_
      refine hK11 _ _ ?_; try clear hK11 K11
      refine A_seq fun K12 hK12 => ?_
      refine A_reg ?_
      refine r_v (Value.int .i64 (((k : Nat) : Int))) rfl rfl rfl rfl ?_
      refine r_v (Value.int .i64 (((k + 64 : Nat) : Int))) rfl rfl (wi64 (by omega) (by omega) (by omega)) rfl ?_
      refine r_v (U (h >>> (k))) rfl rfl rfl rfl ?_
      refine r_v (U ((h >>> (k) % 2#64))) rfl rfl (U_rem (h >>> (k)) (2#64)) rfl ?_
      refine r_v (Value.bool ((h).getLsbD (k))) rfl rfl (((U_eq ((h >>> (k) % 2#64)) (1#64)) : _ = Value.bool (((h >>> (k) % 2#64)) == (1#64))).trans (congrArg Value.bool (bit_of h k))) rfl ?_
      have hx21 := ev_v (ev_idx (P := Try.prog) (c := fun _ => none) (t := 71) (b := b4) (off := 0) (k + 64) rfl rfl rfl (by omega))
      rw [Nat.zero_add] at hx21
      refine r_v (Value.pointer (some ⟨b4, k + 64, none⟩)) rfl rfl rfl hx21 ?_
      clear hx21
      refine r_s [(b4, 71, rowF (ofP h l (k + 1))), (b2, 71, rowF (fun _ => false))] 0 _ _ _ (rowF (upd (ofP h l (k)) (k) ((l).getLsbD (k)))) (#[Value.bool ((h).getLsbD (k))]) (rowF (ofP h l (k + 1))) rfl rfl rfl rfl (stok_row1 rfl rfl _ _ (by omega)) ((splice_row1 _ _ _).trans (ofP_step h l k (by omega))) rfl ?_
      refine lx_nil ?_
      refine hK12 _ _ ?_; try clear hK12 K12
      refine A_seq fun K13 hK13 => ?_
      refine A_reg ?_
      refine r_v (U (l >>> (k))) rfl rfl rfl rfl ?_
      refine r_v (U (l >>> (k + 1))) rfl rfl (((U_quo (l >>> (k)) (2#64)) : _ = U ((l >>> (k) / 2#64))).trans (congrArg U (shr_half l k))) rfl ?_
      refine r_v (U (l >>> (k + 1))) rfl rfl rfl rfl ?_
      refine lx_nil ?_
      refine hK13 _ _ ?_; try clear hK13 K13
      refine A_reg ?_
      refine r_v (U (h >>> (k))) rfl rfl rfl rfl ?_
      refine r_v (U (h >>> (k + 1))) rfl rfl (((U_quo (h >>> (k)) (2#64)) : _ = U ((h >>> (k) / 2#64))).trans (congrArg U (shr_half h k))) rfl ?_
      refine r_v (U (h >>> (k + 1))) rfl rfl rfl rfl ?_
      refine lx_nil ?_
      refine hK10 _ _ ?_; try clear hK10 K10
      refine A_reg ?_
      refine r_v (Value.int .i64 (((k : Nat) : Int))) rfl rfl rfl rfl ?_
      refine r_v (Value.int .i64 (((k + 1 : Nat) : Int))) rfl rfl (wi64 (by omega) (by omega) (by omega)) rfl ?_
      refine r_v (Value.int .i64 (((k + 1 : Nat) : Int))) rfl rfl rfl rfl ?_
      refine lx_nil ?_
      refine fg _ (.of (List.Sublist.cons_cons _ (List.Sublist.cons_cons _ (List.Sublist.slnil)))) ?_
      exact ⟨_, by omega, k + 1, by omega, is_mk (rfl) (rfl), rfl⟩
    · have hc9x := of_decide_eq_false hc9
      refine A_exit ?_
      refine hK5 _ _ ?_; try clear hK5 K5
      refine A_seq fun K14 hK14 => ?_
      refine A_reg ?_
      refine r_l (Value.agg (rowF (ofP h l (k)))) 0 _ _ _ _ rfl rfl rfl rfl (ld_rows rfl rfl rfl _) ?_
      refine r_s [(b4, 71, rowF (ofP h l (k))), (b2, 71, rowF (ofP h l (k)))] 1 _ _ _ (rowF (fun _ => false)) (rowF (ofP h l (k))) (rowF (ofP h l (k))) rfl rfl rfl rfl (stok_rows rfl rfl _ _) (splice_rows _ _) rfl ?_
      refine lx_nil ?_
      refine hK14 _ _ ?_; try clear hK14 K14
      refine A_ret (fun hn => ends_eq (v0 := Value.agg (rowF (ofP h l (k)))) (ofP_done h l (by omega) (by omega)) (res1 (res_cell hn 1 rfl rfl (ld_rows rfl rfl rfl _))))
end Go.Proofs.Ytnpbpllibmcokaa
