/- rows -/
import Derived.Test.YtmfedgmmgehmgaaDoorWord
import Derived.Test.YtmfedgmmgehmgaaDoorSm
namespace Go.Proofs.YtmfedgmmgehmgaaDoor
open Go Go.RowKit Go.Eng
theorem z_100 : ((Tryd.prog.info? 100).bind (·.zero)) = some (.agg ⟨List.replicate 128 (.bool false)⟩) := by kernel_rfl
theorem eg_100 : Tryd.prog.eqGuardType Tryd.prog.depth 100 = false := by kernel_rfl
set_option maxRecDepth 100000 in
theorem eqrow_100 {c : Addr → Option Value} (x y : BitVec 128) : ev Tryd.prog c (Op.equal 100 (.agg (rowA x)) (.agg (rowA y))) = some (x == y) := by
  rw [← row_beq]
  exact ev_eqArray _ _ _ 1 rfl rfl rfl _ (fun j hj => ⟨_, _, ev_partS (P := Tryd.prog) (t := 4) rfl (by intro fs h; cases h) (by intro n e h; cases h) _ _ (by rw [Nat.mul_one]; exact rowF_get _ hj),
    ev_partS (P := Tryd.prog) (t := 4) rfl (by intro fs h; cases h) (by intro n e h; cases h) _ _ (by rw [Nat.mul_one]; exact rowF_get _ hj), ev_eqBool _ _ _ rfl⟩)
set_option maxRecDepth 100000 in
set_option maxHeartbeats 400000 in
theorem of_g (h l : BitVec 64) : Gives Tryd.prog 37 #[U (h), U (l)] (Value.agg (rowF (BitVec.getLsbD (h ++ l)))) := by
  refine gives_of_A follows Tryd.func37 rfl 27 rfl (upd (upd (fun _ => undef) 1 (U (l))) 0 (U (h))) (by funext k; match k with | 0 => rfl | 1 => rfl | k + 2 => rfl) (fun base => ?_)
  refine A_seq fun K1 hK1 => ?_
  refine A_reg ?_
  refine r_a (100, rowF (fun _ => false)) rfl rfl (zrow z_100) (fun b2 => ?_) (.inr rfl)
  refine lx_nil ?_
  refine hK1 _ _ ?_; try clear hK1 K1
  refine A_seq fun K3 hK3 => ?_
  refine A_reg ?_
  refine r_a (100, rowF (fun _ => false)) rfl rfl (zrow z_100) (fun b4 => ?_) (.inr rfl)
  refine lx_nil ?_
  refine hK3 _ _ ?_; try clear hK3 K3
  refine A_seq fun K5 hK5 => ?_
  refine A_seq fun K6 hK6 => ?_
  refine A_reg ?_
  refine r_v (Value.int .i64 (0)) rfl rfl rfl rfl ?_
  refine lx_nil ?_
  refine hK6 _ _ ?_; try clear hK6 K6
  refine A_block ?_
  refine A_loop (fun tt ll nn => ∃ (k : Nat), (k ≤ 64) ∧ Is [(0, U (h >>> (k))), (1, U (l >>> (k))), (4, Value.pointer (some ⟨b2, 0, none⟩)), (5, Value.pointer (some ⟨b4, 0, none⟩)), (6, Value.int .i64 (((k : Nat) : Int)))] [(b4, 100, rowF (ofP h l (k))), (b2, 100, rowF (fun _ => false))] tt ll ∧ nn = 64 - (k)) (64 - (0)) ?_ ?_
  · exact ⟨0, by omega, is_mk (rfl) (by rw [← ofP_zero h l]), rfl⟩
  · rintro t l n ⟨k, hp0, ⟨⟨T, rfl⟩, rfl⟩, rfl⟩
    refine A_seq fun K7 hK7 => ?_
    refine A_seq fun K8 hK8 => ?_
    refine A_reg ?_
    refine r_v (Value.int .i64 (((k : Nat) : Int))) rfl rfl rfl rfl ?_
    refine r_v (Value.bool (decide ((((k : Nat) : Int) : Int) < 64))) rfl rfl rfl rfl ?_
    refine lx_nil ?_
    refine hK8 _ _ ?_; try clear hK8 K8
    refine A_cond (decide ((((k : Nat) : Int) : Int) < 64)) rfl (fun hc9 => ?_) (fun hc9 => ?_)
    · have hc9x := of_decide_eq_true hc9
      refine A_skip ?_
      refine hK7 _ _ ?_; try clear hK7 K7
      refine A_seq fun K10 hK10 => ?_
      refine A_block ?_
      refine A_seq fun K11 hK11 => ?_
      refine A_reg ?_
      refine r_v (Value.int .i64 (((k : Nat) : Int))) rfl rfl rfl rfl ?_
      refine r_v (U (l >>> (k))) rfl rfl rfl rfl ?_
      refine r_v (U ((l >>> (k) % 2#64))) rfl rfl (U_rem (l >>> (k)) (2#64)) rfl ?_
      refine r_v (Value.bool ((l).getLsbD (k))) rfl rfl (((U_eq ((l >>> (k) % 2#64)) (1#64)) : _ = Value.bool (((l >>> (k) % 2#64)) == (1#64))).trans (congrArg Value.bool (bit_of l k))) rfl ?_
      have hx15 := ev_v (ev_idx (P := Tryd.prog) (c := fun _ => none) (t := 100) (b := b4) (off := 0) (k) rfl rfl rfl (by omega))
      rw [Nat.zero_add] at hx15
      refine r_v (Value.pointer (some ⟨b4, k, none⟩)) rfl rfl rfl hx15 ?_
      clear hx15
      refine r_s [(b4, 100, rowF (upd (ofP h l (k)) (k) ((l).getLsbD (k)))), (b2, 100, rowF (fun _ => false))] 0 _ _ _ (rowF (ofP h l (k))) (#[Value.bool ((l).getLsbD (k))]) (rowF (upd (ofP h l (k)) (k) ((l).getLsbD (k)))) rfl rfl rfl rfl (stok_row1 rfl rfl _ _ (by omega)) (splice_row1 _ _ _) rfl ?_
      refine lx_nil ?_
      refine hK11 _ _ ?_; try clear hK11 K11
      refine A_seq fun K12 hK12 => ?_
      refine A_reg ?_
      refine r_v (Value.int .i64 (((k : Nat) : Int))) rfl rfl rfl rfl ?_
      refine r_v (Value.int .i64 (((k + 64 : Nat) : Int))) rfl rfl (wi64 (by omega) (by omega) (by omega)) rfl ?_
      refine r_v (U (h >>> (k))) rfl rfl rfl rfl ?_
      refine r_v (U ((h >>> (k) % 2#64))) rfl rfl (U_rem (h >>> (k)) (2#64)) rfl ?_
      refine r_v (Value.bool ((h).getLsbD (k))) rfl rfl (((U_eq ((h >>> (k) % 2#64)) (1#64)) : _ = Value.bool (((h >>> (k) % 2#64)) == (1#64))).trans (congrArg Value.bool (bit_of h k))) rfl ?_
      have hx21 := ev_v (ev_idx (P := Tryd.prog) (c := fun _ => none) (t := 100) (b := b4) (off := 0) (k + 64) rfl rfl rfl (by omega))
      rw [Nat.zero_add] at hx21
      refine r_v (Value.pointer (some ⟨b4, k + 64, none⟩)) rfl rfl rfl hx21 ?_
      clear hx21
      refine r_s [(b4, 100, rowF (ofP h l (k + 1))), (b2, 100, rowF (fun _ => false))] 0 _ _ _ (rowF (upd (ofP h l (k)) (k) ((l).getLsbD (k)))) (#[Value.bool ((h).getLsbD (k))]) (rowF (ofP h l (k + 1))) rfl rfl rfl rfl (stok_row1 rfl rfl _ _ (by omega)) ((splice_row1 _ _ _).trans (ofP_step h l k (by omega))) rfl ?_
      refine lx_nil ?_
      refine hK12 _ _ ?_; try clear hK12 K12
      refine A_seq fun K13 hK13 => ?_
      refine A_reg ?_
      refine r_v (U (l >>> (k))) rfl rfl rfl rfl ?_
      refine r_v (U (l >>> (k + 1))) rfl rfl (((U_quo (l >>> (k)) (2#64)) : _ = U ((l >>> (k) / 2#64))).trans (congrArg U (shr_half l k))) rfl ?_
      refine r_v (U (l >>> (k + 1))) rfl rfl rfl rfl ?_
      refine lx_nil ?_
      refine hK13 _ _ ?_; try clear hK13 K13
      refine A_reg ?_
      refine r_v (U (h >>> (k))) rfl rfl rfl rfl ?_
      refine r_v (U (h >>> (k + 1))) rfl rfl (((U_quo (h >>> (k)) (2#64)) : _ = U ((h >>> (k) / 2#64))).trans (congrArg U (shr_half h k))) rfl ?_
      refine r_v (U (h >>> (k + 1))) rfl rfl rfl rfl ?_
      refine lx_nil ?_
      refine hK10 _ _ ?_; try clear hK10 K10
      refine A_reg ?_
      refine r_v (Value.int .i64 (((k : Nat) : Int))) rfl rfl rfl rfl ?_
      refine r_v (Value.int .i64 (((k + 1 : Nat) : Int))) rfl rfl (wi64 (by omega) (by omega) (by omega)) rfl ?_
      refine r_v (Value.int .i64 (((k + 1 : Nat) : Int))) rfl rfl rfl rfl ?_
      refine lx_nil ?_
      refine fg _ (.of (List.Sublist.cons_cons _ (List.Sublist.cons_cons _ (List.Sublist.slnil)))) ?_
      exact ⟨_, by omega, k + 1, by omega, is_mk (rfl) (rfl), rfl⟩
    · have hc9x := of_decide_eq_false hc9
      refine A_exit ?_
      refine hK5 _ _ ?_; try clear hK5 K5
      refine A_seq fun K14 hK14 => ?_
      refine A_reg ?_
      refine r_l (Value.agg (rowF (ofP h l (k)))) 0 _ _ _ _ rfl rfl rfl rfl (ld_rows rfl rfl rfl _) ?_
      refine r_s [(b4, 100, rowF (ofP h l (k))), (b2, 100, rowF (ofP h l (k)))] 1 _ _ _ (rowF (fun _ => false)) (rowF (ofP h l (k))) (rowF (ofP h l (k))) rfl rfl rfl rfl (stok_rows rfl rfl _ _) (splice_rows _ _) rfl ?_
      refine lx_nil ?_
      refine hK14 _ _ ?_; try clear hK14 K14
      refine A_ret (fun hn => ends_eq (v0 := Value.agg (rowF (ofP h l (k)))) (ofP_done h l (by omega) (by omega)) (res1 (res_cell hn 1 rfl rfl (ld_rows rfl rfl rfl _))))
set_option maxRecDepth 100000 in
set_option maxHeartbeats 400000 in
theorem rsum_g (x y : BitVec 128) (c : Bool) : Gives Tryd.prog 70 #[Value.agg (rowF (BitVec.getLsbD (x))), Value.agg (rowF (BitVec.getLsbD (y))), Value.bool (c)] (Value.tuple #[Value.agg (rowF (BitVec.getLsbD (x + y + cb128 (c)))), Value.bool (BitVec.carry 128 (x) (y) (c))]) := by
  refine gives_of_A follows Tryd.func70 rfl 37 rfl (upd (upd (upd (fun _ => undef) 2 (Value.bool (c))) 1 (Value.agg (rowF (BitVec.getLsbD (y))))) 0 (Value.agg (rowF (BitVec.getLsbD (x))))) (by funext k; match k with | 0 => rfl | 1 => rfl | 2 => rfl | k + 3 => rfl) (fun base => ?_)
  refine A_seq fun K1 hK1 => ?_
  refine A_reg ?_
  refine r_a (100, rowF (BitVec.getLsbD (x))) rfl rfl rfl (fun b2 => ?_) (.inr rfl)
  refine r_a (100, rowF (BitVec.getLsbD (y))) rfl rfl rfl (fun b3 => ?_) (.inr rfl)
  refine r_a (100, rowF (fun _ => false)) rfl rfl (zrow z_100) (fun b4 => ?_) (.inr rfl)
  refine r_v (Value.bool (false)) rfl rfl rfl rfl ?_
  refine lx_nil ?_
  refine hK1 _ _ ?_; try clear hK1 K1
  refine A_seq fun K5 hK5 => ?_
  refine A_reg ?_
  refine r_a (100, rowF (fun _ => false)) rfl rfl (zrow z_100) (fun b6 => ?_) (.inr rfl)
  refine lx_nil ?_
  refine hK5 _ _ ?_; try clear hK5 K5
  refine A_seq fun K7 hK7 => ?_
  refine A_seq fun K8 hK8 => ?_
  refine A_reg ?_
  refine r_v (Value.int .i64 (0)) rfl rfl rfl rfl ?_
  refine lx_nil ?_
  refine hK8 _ _ ?_; try clear hK8 K8
  refine A_block ?_
  refine A_loop (fun tt ll nn => ∃ (k : Nat), (k ≤ 128) ∧ Is [(0, Value.agg (rowF (BitVec.getLsbD (x)))), (1, Value.agg (rowF (BitVec.getLsbD (y)))), (2, Value.bool (BitVec.carry (k) (x) (y) (c))), (3, Value.pointer (some ⟨b2, 0, none⟩)), (4, Value.pointer (some ⟨b3, 0, none⟩)), (6, Value.pointer (some ⟨b4, 0, none⟩)), (7, Value.bool (false)), (8, Value.pointer (some ⟨b6, 0, none⟩)), (9, Value.int .i64 (((k : Nat) : Int)))] [(b6, 100, rowF (below (x + y + cb128 (c)) (k))), (b4, 100, rowF (fun _ => false)), (b3, 100, rowF (BitVec.getLsbD (y))), (b2, 100, rowF (BitVec.getLsbD (x)))] tt ll ∧ nn = 128 - (k)) (128 - (0)) ?_ ?_
  · exact ⟨0, by omega, is_mk (by rw [BitVec.carry_zero]; rfl) (by rw [← below_zero]), rfl⟩
  · rintro t l n ⟨k, hp0, ⟨⟨T, rfl⟩, rfl⟩, rfl⟩
    refine A_seq fun K9 hK9 => ?_
    refine A_seq fun K10 hK10 => ?_
    refine A_reg ?_
    refine r_v (Value.int .i64 (((k : Nat) : Int))) rfl rfl rfl rfl ?_
    refine r_v (Value.bool (decide ((((k : Nat) : Int) : Int) < 128))) rfl rfl rfl rfl ?_
    refine lx_nil ?_
    refine hK10 _ _ ?_; try clear hK10 K10
    refine A_cond (decide ((((k : Nat) : Int) : Int) < 128)) rfl (fun hc11 => ?_) (fun hc11 => ?_)
    · have hc11x := of_decide_eq_true hc11
      refine A_skip ?_
      refine hK9 _ _ ?_; try clear hK9 K9
      refine A_seq fun K12 hK12 => ?_
      refine A_block ?_
      refine A_seq fun K13 hK13 => ?_
      refine A_reg ?_
      refine r_v (Value.int .i64 (0)) rfl rfl rfl rfl ?_
      refine lx_nil ?_
      refine hK13 _ _ ?_; try clear hK13 K13
      refine A_seq fun K14 hK14 => ?_
      refine A_seq fun K15 hK15 => ?_
      refine A_reg ?_
      refine r_v (Value.int .i64 (((k : Nat) : Int))) rfl rfl rfl rfl ?_
      have hx16 := ev_v (ev_idx (P := Tryd.prog) (c := fun _ => none) (t := 100) (b := b2) (off := 0) (k) rfl rfl rfl (by omega))
      rw [Nat.zero_add] at hx16
      refine r_v (Value.pointer (some ⟨b2, k, none⟩)) rfl rfl rfl hx16 ?_
      clear hx16
      refine r_l (Value.bool ((x).getLsbD (k))) 3 _ _ _ _ rfl rfl rfl rfl (ld_row1 rfl _ (by omega)) ?_
      refine lx_nil ?_
      refine hK15 _ _ ?_; try clear hK15 K15
      refine A_cond ((x).getLsbD (k)) rfl (fun hc16 => ?_) (fun hc16 => ?_)
      · refine A_reg ?_
        refine r_v (Value.int .i64 (0)) rfl rfl rfl rfl ?_
        refine r_v (Value.int .i64 (1)) rfl rfl (wi64 rfl (by decide) (by decide)) rfl ?_
        refine r_v (Value.int .i64 (1)) rfl rfl rfl rfl ?_
        refine lx_nil ?_
        refine hK14 _ _ ?_; try clear hK14 K14
        refine A_seq fun K17 hK17 => ?_
        refine A_seq fun K18 hK18 => ?_
        refine A_reg ?_
        refine r_v (Value.int .i64 (((k : Nat) : Int))) rfl rfl rfl rfl ?_
        have hx21 := ev_v (ev_idx (P := Tryd.prog) (c := fun _ => none) (t := 100) (b := b3) (off := 0) (k) rfl rfl rfl (by omega))
        rw [Nat.zero_add] at hx21
        refine r_v (Value.pointer (some ⟨b3, k, none⟩)) rfl rfl rfl hx21 ?_
        clear hx21
        refine r_l (Value.bool ((y).getLsbD (k))) 2 _ _ _ _ rfl rfl rfl rfl (ld_row1 rfl _ (by omega)) ?_
        refine lx_nil ?_
        refine hK18 _ _ ?_; try clear hK18 K18
        refine A_cond ((y).getLsbD (k)) rfl (fun hc19 => ?_) (fun hc19 => ?_)
        · refine A_reg ?_
          refine r_v (Value.int .i64 (1)) rfl rfl rfl rfl ?_
          refine r_v (Value.int .i64 (2)) rfl rfl (wi64 rfl (by decide) (by decide)) rfl ?_
          refine r_v (Value.int .i64 (2)) rfl rfl rfl rfl ?_
          refine lx_nil ?_
          refine hK17 _ _ ?_; try clear hK17 K17
          refine A_seq fun K20 hK20 => ?_
          refine A_seq fun K21 hK21 => ?_
          refine A_reg ?_
          refine r_v (Value.bool (BitVec.carry (k) (x) (y) (c))) rfl rfl rfl rfl ?_
          refine lx_nil ?_
          refine hK21 _ _ ?_; try clear hK21 K21
          refine A_cond (BitVec.carry (k) (x) (y) (c)) rfl (fun hc22 => ?_) (fun hc22 => ?_)
          · refine A_reg ?_
            refine r_v (Value.int .i64 (2)) rfl rfl rfl rfl ?_
            refine r_v (Value.int .i64 (3)) rfl rfl (wi64 rfl (by decide) (by decide)) rfl ?_
            refine r_v (Value.int .i64 (3)) rfl rfl rfl rfl ?_
            refine lx_nil ?_
            refine hK20 _ _ ?_; try clear hK20 K20
            refine A_seq fun K23 hK23 => ?_
            refine A_reg ?_
            refine r_v (Value.int .i64 (((k : Nat) : Int))) rfl rfl rfl rfl ?_
            refine r_v (Value.int .i64 (3)) rfl rfl rfl rfl ?_
            refine r_v (Value.int .i64 (1)) rfl rfl rfl rfl ?_
            refine r_v (Value.bool (true)) rfl rfl rfl rfl ?_
            have hx32 := ev_v (ev_idx (P := Tryd.prog) (c := fun _ => none) (t := 100) (b := b6) (off := 0) (k) rfl rfl rfl (by omega))
            rw [Nat.zero_add] at hx32
            refine r_v (Value.pointer (some ⟨b6, k, none⟩)) rfl rfl rfl hx32 ?_
            clear hx32
            refine r_s [(b6, 100, rowF (below (x + y + cb128 (c)) (k + 1))), (b4, 100, rowF (fun _ => false)), (b3, 100, rowF (BitVec.getLsbD (y))), (b2, 100, rowF (BitVec.getLsbD (x)))] 0 _ _ _ (rowF (below (x + y + cb128 (c)) (k))) (#[Value.bool (true)]) (rowF (below (x + y + cb128 (c)) (k + 1))) rfl rfl rfl rfl (stok_row1 rfl rfl _ _ (by omega)) ((splice_row1 _ _ _).trans (below_step _ _ (by rw [sum_bit _ _ _ _ (by omega), hc16, hc19, hc22]; rfl))) rfl ?_
            refine lx_nil ?_
            refine hK23 _ _ ?_; try clear hK23 K23
            refine A_reg ?_
            refine r_v (Value.int .i64 (3)) rfl rfl rfl rfl ?_
            refine r_v (Value.bool (BitVec.carry (k + 1) (x) (y) (c))) rfl rfl (by rw [sum_carry, hc16, hc19, hc22]; rfl) rfl ?_
            refine r_v (Value.bool (BitVec.carry (k + 1) (x) (y) (c))) rfl rfl rfl rfl ?_
            refine lx_nil ?_
            refine hK12 _ _ ?_; try clear hK12 K12
            refine A_reg ?_
            refine r_v (Value.int .i64 (((k : Nat) : Int))) rfl rfl rfl rfl ?_
            refine r_v (Value.int .i64 (((k + 1 : Nat) : Int))) rfl rfl (wi64 (by omega) (by omega) (by omega)) rfl ?_
            refine r_v (Value.int .i64 (((k + 1 : Nat) : Int))) rfl rfl rfl rfl ?_
            refine lx_nil ?_
            refine fg _ (.of (List.Sublist.cons_cons _ (List.Sublist.cons_cons _ (List.Sublist.cons_cons _ (List.Sublist.cons_cons _ (List.Sublist.slnil)))))) ?_
            exact ⟨_, by omega, k + 1, by omega, is_mk (rfl) (rfl), rfl⟩
          · refine A_skip ?_
            refine hK20 _ _ ?_; try clear hK20 K20
            refine A_seq fun K24 hK24 => ?_
            refine A_reg ?_
            refine r_v (Value.int .i64 (((k : Nat) : Int))) rfl rfl rfl rfl ?_
            refine r_v (Value.int .i64 (2)) rfl rfl rfl rfl ?_
            refine r_v (Value.int .i64 (0)) rfl rfl rfl rfl ?_
            refine r_v (Value.bool (false)) rfl rfl rfl rfl ?_
            have hx32 := ev_v (ev_idx (P := Tryd.prog) (c := fun _ => none) (t := 100) (b := b6) (off := 0) (k) rfl rfl rfl (by omega))
            rw [Nat.zero_add] at hx32
            refine r_v (Value.pointer (some ⟨b6, k, none⟩)) rfl rfl rfl hx32 ?_
            clear hx32
            refine r_s [(b6, 100, rowF (below (x + y + cb128 (c)) (k + 1))), (b4, 100, rowF (fun _ => false)), (b3, 100, rowF (BitVec.getLsbD (y))), (b2, 100, rowF (BitVec.getLsbD (x)))] 0 _ _ _ (rowF (below (x + y + cb128 (c)) (k))) (#[Value.bool (false)]) (rowF (below (x + y + cb128 (c)) (k + 1))) rfl rfl rfl rfl (stok_row1 rfl rfl _ _ (by omega)) ((splice_row1 _ _ _).trans (below_step _ _ (by rw [sum_bit _ _ _ _ (by omega), hc16, hc19, hc22]; rfl))) rfl ?_
            refine lx_nil ?_
            refine hK24 _ _ ?_; try clear hK24 K24
            refine A_reg ?_
            refine r_v (Value.int .i64 (2)) rfl rfl rfl rfl ?_
            refine r_v (Value.bool (BitVec.carry (k + 1) (x) (y) (c))) rfl rfl (by rw [sum_carry, hc16, hc19, hc22]; rfl) rfl ?_
            refine r_v (Value.bool (BitVec.carry (k + 1) (x) (y) (c))) rfl rfl rfl rfl ?_
            refine lx_nil ?_
            refine hK12 _ _ ?_; try clear hK12 K12
            refine A_reg ?_
            refine r_v (Value.int .i64 (((k : Nat) : Int))) rfl rfl rfl rfl ?_
            refine r_v (Value.int .i64 (((k + 1 : Nat) : Int))) rfl rfl (wi64 (by omega) (by omega) (by omega)) rfl ?_
            refine r_v (Value.int .i64 (((k + 1 : Nat) : Int))) rfl rfl rfl rfl ?_
            refine lx_nil ?_
            refine fg _ (.of (List.Sublist.cons_cons _ (List.Sublist.cons_cons _ (List.Sublist.cons_cons _ (List.Sublist.cons_cons _ (List.Sublist.slnil)))))) ?_
            exact ⟨_, by omega, k + 1, by omega, is_mk (rfl) (rfl), rfl⟩
        · refine A_skip ?_
          refine hK17 _ _ ?_; try clear hK17 K17
          refine A_seq fun K25 hK25 => ?_
          refine A_seq fun K26 hK26 => ?_
          refine A_reg ?_
          refine r_v (Value.bool (BitVec.carry (k) (x) (y) (c))) rfl rfl rfl rfl ?_
          refine lx_nil ?_
          refine hK26 _ _ ?_; try clear hK26 K26
          refine A_cond (BitVec.carry (k) (x) (y) (c)) rfl (fun hc27 => ?_) (fun hc27 => ?_)
          · refine A_reg ?_
            refine r_v (Value.int .i64 (1)) rfl rfl rfl rfl ?_
            refine r_v (Value.int .i64 (2)) rfl rfl (wi64 rfl (by decide) (by decide)) rfl ?_
            refine r_v (Value.int .i64 (2)) rfl rfl rfl rfl ?_
            refine lx_nil ?_
            refine hK25 _ _ ?_; try clear hK25 K25
            refine A_seq fun K28 hK28 => ?_
            refine A_reg ?_
            refine r_v (Value.int .i64 (((k : Nat) : Int))) rfl rfl rfl rfl ?_
            refine r_v (Value.int .i64 (2)) rfl rfl rfl rfl ?_
            refine r_v (Value.int .i64 (0)) rfl rfl rfl rfl ?_
            refine r_v (Value.bool (false)) rfl rfl rfl rfl ?_
            have hx32 := ev_v (ev_idx (P := Tryd.prog) (c := fun _ => none) (t := 100) (b := b6) (off := 0) (k) rfl rfl rfl (by omega))
            rw [Nat.zero_add] at hx32
            refine r_v (Value.pointer (some ⟨b6, k, none⟩)) rfl rfl rfl hx32 ?_
            clear hx32
            refine r_s [(b6, 100, rowF (below (x + y + cb128 (c)) (k + 1))), (b4, 100, rowF (fun _ => false)), (b3, 100, rowF (BitVec.getLsbD (y))), (b2, 100, rowF (BitVec.getLsbD (x)))] 0 _ _ _ (rowF (below (x + y + cb128 (c)) (k))) (#[Value.bool (false)]) (rowF (below (x + y + cb128 (c)) (k + 1))) rfl rfl rfl rfl (stok_row1 rfl rfl _ _ (by omega)) ((splice_row1 _ _ _).trans (below_step _ _ (by rw [sum_bit _ _ _ _ (by omega), hc16, hc19, hc27]; rfl))) rfl ?_
            refine lx_nil ?_
            refine hK28 _ _ ?_; try clear hK28 K28
            refine A_reg ?_
            refine r_v (Value.int .i64 (2)) rfl rfl rfl rfl ?_
            refine r_v (Value.bool (BitVec.carry (k + 1) (x) (y) (c))) rfl rfl (by rw [sum_carry, hc16, hc19, hc27]; rfl) rfl ?_
            refine r_v (Value.bool (BitVec.carry (k + 1) (x) (y) (c))) rfl rfl rfl rfl ?_
            refine lx_nil ?_
            refine hK12 _ _ ?_; try clear hK12 K12
            refine A_reg ?_
            refine r_v (Value.int .i64 (((k : Nat) : Int))) rfl rfl rfl rfl ?_
            refine r_v (Value.int .i64 (((k + 1 : Nat) : Int))) rfl rfl (wi64 (by omega) (by omega) (by omega)) rfl ?_
            refine r_v (Value.int .i64 (((k + 1 : Nat) : Int))) rfl rfl rfl rfl ?_
            refine lx_nil ?_
            refine fg _ (.of (List.Sublist.cons_cons _ (List.Sublist.cons_cons _ (List.Sublist.cons_cons _ (List.Sublist.cons_cons _ (List.Sublist.slnil)))))) ?_
            exact ⟨_, by omega, k + 1, by omega, is_mk (rfl) (rfl), rfl⟩
          · refine A_skip ?_
            refine hK25 _ _ ?_; try clear hK25 K25
            refine A_seq fun K29 hK29 => ?_
            refine A_reg ?_
            refine r_v (Value.int .i64 (((k : Nat) : Int))) rfl rfl rfl rfl ?_
            refine r_v (Value.int .i64 (1)) rfl rfl rfl rfl ?_
            refine r_v (Value.int .i64 (1)) rfl rfl rfl rfl ?_
            refine r_v (Value.bool (true)) rfl rfl rfl rfl ?_
            have hx32 := ev_v (ev_idx (P := Tryd.prog) (c := fun _ => none) (t := 100) (b := b6) (off := 0) (k) rfl rfl rfl (by omega))
            rw [Nat.zero_add] at hx32
            refine r_v (Value.pointer (some ⟨b6, k, none⟩)) rfl rfl rfl hx32 ?_
            clear hx32
            refine r_s [(b6, 100, rowF (below (x + y + cb128 (c)) (k + 1))), (b4, 100, rowF (fun _ => false)), (b3, 100, rowF (BitVec.getLsbD (y))), (b2, 100, rowF (BitVec.getLsbD (x)))] 0 _ _ _ (rowF (below (x + y + cb128 (c)) (k))) (#[Value.bool (true)]) (rowF (below (x + y + cb128 (c)) (k + 1))) rfl rfl rfl rfl (stok_row1 rfl rfl _ _ (by omega)) ((splice_row1 _ _ _).trans (below_step _ _ (by rw [sum_bit _ _ _ _ (by omega), hc16, hc19, hc27]; rfl))) rfl ?_
            refine lx_nil ?_
            refine hK29 _ _ ?_; try clear hK29 K29
            refine A_reg ?_
            refine r_v (Value.int .i64 (1)) rfl rfl rfl rfl ?_
            refine r_v (Value.bool (BitVec.carry (k + 1) (x) (y) (c))) rfl rfl (by rw [sum_carry, hc16, hc19, hc27]; rfl) rfl ?_
            refine r_v (Value.bool (BitVec.carry (k + 1) (x) (y) (c))) rfl rfl rfl rfl ?_
            refine lx_nil ?_
            refine hK12 _ _ ?_; try clear hK12 K12
            refine A_reg ?_
            refine r_v (Value.int .i64 (((k : Nat) : Int))) rfl rfl rfl rfl ?_
            refine r_v (Value.int .i64 (((k + 1 : Nat) : Int))) rfl rfl (wi64 (by omega) (by omega) (by omega)) rfl ?_
            refine r_v (Value.int .i64 (((k + 1 : Nat) : Int))) rfl rfl rfl rfl ?_
            refine lx_nil ?_
            refine fg _ (.of (List.Sublist.cons_cons _ (List.Sublist.cons_cons _ (List.Sublist.cons_cons _ (List.Sublist.cons_cons _ (List.Sublist.slnil)))))) ?_
            exact ⟨_, by omega, k + 1, by omega, is_mk (rfl) (rfl), rfl⟩
      · refine A_skip ?_
        refine hK14 _ _ ?_; try clear hK14 K14
        refine A_seq fun K30 hK30 => ?_
        refine A_seq fun K31 hK31 => ?_
        refine A_reg ?_
        refine r_v (Value.int .i64 (((k : Nat) : Int))) rfl rfl rfl rfl ?_
        have hx21 := ev_v (ev_idx (P := Tryd.prog) (c := fun _ => none) (t := 100) (b := b3) (off := 0) (k) rfl rfl rfl (by omega))
        rw [Nat.zero_add] at hx21
        refine r_v (Value.pointer (some ⟨b3, k, none⟩)) rfl rfl rfl hx21 ?_
        clear hx21
        refine r_l (Value.bool ((y).getLsbD (k))) 2 _ _ _ _ rfl rfl rfl rfl (ld_row1 rfl _ (by omega)) ?_
        refine lx_nil ?_
        refine hK31 _ _ ?_; try clear hK31 K31
        refine A_cond ((y).getLsbD (k)) rfl (fun hc32 => ?_) (fun hc32 => ?_)
        · refine A_reg ?_
          refine r_v (Value.int .i64 (0)) rfl rfl rfl rfl ?_
          refine r_v (Value.int .i64 (1)) rfl rfl (wi64 rfl (by decide) (by decide)) rfl ?_
          refine r_v (Value.int .i64 (1)) rfl rfl rfl rfl ?_
          refine lx_nil ?_
          refine hK30 _ _ ?_; try clear hK30 K30
          refine A_seq fun K33 hK33 => ?_
          refine A_seq fun K34 hK34 => ?_
          refine A_reg ?_
          refine r_v (Value.bool (BitVec.carry (k) (x) (y) (c))) rfl rfl rfl rfl ?_
          refine lx_nil ?_
          refine hK34 _ _ ?_; try clear hK34 K34
          refine A_cond (BitVec.carry (k) (x) (y) (c)) rfl (fun hc35 => ?_) (fun hc35 => ?_)
          · refine A_reg ?_
            refine r_v (Value.int .i64 (1)) rfl rfl rfl rfl ?_
            refine r_v (Value.int .i64 (2)) rfl rfl (wi64 rfl (by decide) (by decide)) rfl ?_
            refine r_v (Value.int .i64 (2)) rfl rfl rfl rfl ?_
            refine lx_nil ?_
            refine hK33 _ _ ?_; try clear hK33 K33
            refine A_seq fun K36 hK36 => ?_
            refine A_reg ?_
            refine r_v (Value.int .i64 (((k : Nat) : Int))) rfl rfl rfl rfl ?_
            refine r_v (Value.int .i64 (2)) rfl rfl rfl rfl ?_
            refine r_v (Value.int .i64 (0)) rfl rfl rfl rfl ?_
            refine r_v (Value.bool (false)) rfl rfl rfl rfl ?_
            have hx32 := ev_v (ev_idx (P := Tryd.prog) (c := fun _ => none) (t := 100) (b := b6) (off := 0) (k) rfl rfl rfl (by omega))
            rw [Nat.zero_add] at hx32
            refine r_v (Value.pointer (some ⟨b6, k, none⟩)) rfl rfl rfl hx32 ?_
            clear hx32
            refine r_s [(b6, 100, rowF (below (x + y + cb128 (c)) (k + 1))), (b4, 100, rowF (fun _ => false)), (b3, 100, rowF (BitVec.getLsbD (y))), (b2, 100, rowF (BitVec.getLsbD (x)))] 0 _ _ _ (rowF (below (x + y + cb128 (c)) (k))) (#[Value.bool (false)]) (rowF (below (x + y + cb128 (c)) (k + 1))) rfl rfl rfl rfl (stok_row1 rfl rfl _ _ (by omega)) ((splice_row1 _ _ _).trans (below_step _ _ (by rw [sum_bit _ _ _ _ (by omega), hc16, hc32, hc35]; rfl))) rfl ?_
            refine lx_nil ?_
            refine hK36 _ _ ?_; try clear hK36 K36
            refine A_reg ?_
            refine r_v (Value.int .i64 (2)) rfl rfl rfl rfl ?_
            refine r_v (Value.bool (BitVec.carry (k + 1) (x) (y) (c))) rfl rfl (by rw [sum_carry, hc16, hc32, hc35]; rfl) rfl ?_
            refine r_v (Value.bool (BitVec.carry (k + 1) (x) (y) (c))) rfl rfl rfl rfl ?_
            refine lx_nil ?_
            refine hK12 _ _ ?_; try clear hK12 K12
            refine A_reg ?_
            refine r_v (Value.int .i64 (((k : Nat) : Int))) rfl rfl rfl rfl ?_
            refine r_v (Value.int .i64 (((k + 1 : Nat) : Int))) rfl rfl (wi64 (by omega) (by omega) (by omega)) rfl ?_
            refine r_v (Value.int .i64 (((k + 1 : Nat) : Int))) rfl rfl rfl rfl ?_
            refine lx_nil ?_
            refine fg _ (.of (List.Sublist.cons_cons _ (List.Sublist.cons_cons _ (List.Sublist.cons_cons _ (List.Sublist.cons_cons _ (List.Sublist.slnil)))))) ?_
            exact ⟨_, by omega, k + 1, by omega, is_mk (rfl) (rfl), rfl⟩
          · refine A_skip ?_
            refine hK33 _ _ ?_; try clear hK33 K33
            refine A_seq fun K37 hK37 => ?_
            refine A_reg ?_
            refine r_v (Value.int .i64 (((k : Nat) : Int))) rfl rfl rfl rfl ?_
            refine r_v (Value.int .i64 (1)) rfl rfl rfl rfl ?_
            refine r_v (Value.int .i64 (1)) rfl rfl rfl rfl ?_
            refine r_v (Value.bool (true)) rfl rfl rfl rfl ?_
            have hx32 := ev_v (ev_idx (P := Tryd.prog) (c := fun _ => none) (t := 100) (b := b6) (off := 0) (k) rfl rfl rfl (by omega))
            rw [Nat.zero_add] at hx32
            refine r_v (Value.pointer (some ⟨b6, k, none⟩)) rfl rfl rfl hx32 ?_
            clear hx32
            refine r_s [(b6, 100, rowF (below (x + y + cb128 (c)) (k + 1))), (b4, 100, rowF (fun _ => false)), (b3, 100, rowF (BitVec.getLsbD (y))), (b2, 100, rowF (BitVec.getLsbD (x)))] 0 _ _ _ (rowF (below (x + y + cb128 (c)) (k))) (#[Value.bool (true)]) (rowF (below (x + y + cb128 (c)) (k + 1))) rfl rfl rfl rfl (stok_row1 rfl rfl _ _ (by omega)) ((splice_row1 _ _ _).trans (below_step _ _ (by rw [sum_bit _ _ _ _ (by omega), hc16, hc32, hc35]; rfl))) rfl ?_
            refine lx_nil ?_
            refine hK37 _ _ ?_; try clear hK37 K37
            refine A_reg ?_
            refine r_v (Value.int .i64 (1)) rfl rfl rfl rfl ?_
            refine r_v (Value.bool (BitVec.carry (k + 1) (x) (y) (c))) rfl rfl (by rw [sum_carry, hc16, hc32, hc35]; rfl) rfl ?_
            refine r_v (Value.bool (BitVec.carry (k + 1) (x) (y) (c))) rfl rfl rfl rfl ?_
            refine lx_nil ?_
            refine hK12 _ _ ?_; try clear hK12 K12
            refine A_reg ?_
            refine r_v (Value.int .i64 (((k : Nat) : Int))) rfl rfl rfl rfl ?_
            refine r_v (Value.int .i64 (((k + 1 : Nat) : Int))) rfl rfl (wi64 (by omega) (by omega) (by omega)) rfl ?_
            refine r_v (Value.int .i64 (((k + 1 : Nat) : Int))) rfl rfl rfl rfl ?_
            refine lx_nil ?_
            refine fg _ (.of (List.Sublist.cons_cons _ (List.Sublist.cons_cons _ (List.Sublist.cons_cons _ (List.Sublist.cons_cons _ (List.Sublist.slnil)))))) ?_
            exact ⟨_, by omega, k + 1, by omega, is_mk (rfl) (rfl), rfl⟩
        · refine A_skip ?_
          refine hK30 _ _ ?_; try clear hK30 K30
          refine A_seq fun K38 hK38 => ?_
          refine A_seq fun K39 hK39 => ?_
          refine A_reg ?_
          refine r_v (Value.bool (BitVec.carry (k) (x) (y) (c))) rfl rfl rfl rfl ?_
          refine lx_nil ?_
          refine hK39 _ _ ?_; try clear hK39 K39
          refine A_cond (BitVec.carry (k) (x) (y) (c)) rfl (fun hc40 => ?_) (fun hc40 => ?_)
          · refine A_reg ?_
            refine r_v (Value.int .i64 (0)) rfl rfl rfl rfl ?_
            refine r_v (Value.int .i64 (1)) rfl rfl (wi64 rfl (by decide) (by decide)) rfl ?_
            refine r_v (Value.int .i64 (1)) rfl rfl rfl rfl ?_
            refine lx_nil ?_
            refine hK38 _ _ ?_; try clear hK38 K38
            refine A_seq fun K41 hK41 => ?_
            refine A_reg ?_
            refine r_v (Value.int .i64 (((k : Nat) : Int))) rfl rfl rfl rfl ?_
            refine r_v (Value.int .i64 (1)) rfl rfl rfl rfl ?_
            refine r_v (Value.int .i64 (1)) rfl rfl rfl rfl ?_
            refine r_v (Value.bool (true)) rfl rfl rfl rfl ?_
            have hx32 := ev_v (ev_idx (P := Tryd.prog) (c := fun _ => none) (t := 100) (b := b6) (off := 0) (k) rfl rfl rfl (by omega))
            rw [Nat.zero_add] at hx32
            refine r_v (Value.pointer (some ⟨b6, k, none⟩)) rfl rfl rfl hx32 ?_
            clear hx32
            refine r_s [(b6, 100, rowF (below (x + y + cb128 (c)) (k + 1))), (b4, 100, rowF (fun _ => false)), (b3, 100, rowF (BitVec.getLsbD (y))), (b2, 100, rowF (BitVec.getLsbD (x)))] 0 _ _ _ (rowF (below (x + y + cb128 (c)) (k))) (#[Value.bool (true)]) (rowF (below (x + y + cb128 (c)) (k + 1))) rfl rfl rfl rfl (stok_row1 rfl rfl _ _ (by omega)) ((splice_row1 _ _ _).trans (below_step _ _ (by rw [sum_bit _ _ _ _ (by omega), hc16, hc32, hc40]; rfl))) rfl ?_
            refine lx_nil ?_
            refine hK41 _ _ ?_; try clear hK41 K41
            refine A_reg ?_
            refine r_v (Value.int .i64 (1)) rfl rfl rfl rfl ?_
            refine r_v (Value.bool (BitVec.carry (k + 1) (x) (y) (c))) rfl rfl (by rw [sum_carry, hc16, hc32, hc40]; rfl) rfl ?_
            refine r_v (Value.bool (BitVec.carry (k + 1) (x) (y) (c))) rfl rfl rfl rfl ?_
            refine lx_nil ?_
            refine hK12 _ _ ?_; try clear hK12 K12
            refine A_reg ?_
            refine r_v (Value.int .i64 (((k : Nat) : Int))) rfl rfl rfl rfl ?_
            refine r_v (Value.int .i64 (((k + 1 : Nat) : Int))) rfl rfl (wi64 (by omega) (by omega) (by omega)) rfl ?_
            refine r_v (Value.int .i64 (((k + 1 : Nat) : Int))) rfl rfl rfl rfl ?_
            refine lx_nil ?_
            refine fg _ (.of (List.Sublist.cons_cons _ (List.Sublist.cons_cons _ (List.Sublist.cons_cons _ (List.Sublist.cons_cons _ (List.Sublist.slnil)))))) ?_
            exact ⟨_, by omega, k + 1, by omega, is_mk (rfl) (rfl), rfl⟩
          · refine A_skip ?_
            refine hK38 _ _ ?_; try clear hK38 K38
            refine A_seq fun K42 hK42 => ?_
            refine A_reg ?_
            refine r_v (Value.int .i64 (((k : Nat) : Int))) rfl rfl rfl rfl ?_
            refine r_v (Value.int .i64 (0)) rfl rfl rfl rfl ?_
            refine r_v (Value.int .i64 (0)) rfl rfl rfl rfl ?_
            refine r_v (Value.bool (false)) rfl rfl rfl rfl ?_
            have hx32 := ev_v (ev_idx (P := Tryd.prog) (c := fun _ => none) (t := 100) (b := b6) (off := 0) (k) rfl rfl rfl (by omega))
            rw [Nat.zero_add] at hx32
            refine r_v (Value.pointer (some ⟨b6, k, none⟩)) rfl rfl rfl hx32 ?_
            clear hx32
            refine r_s [(b6, 100, rowF (below (x + y + cb128 (c)) (k + 1))), (b4, 100, rowF (fun _ => false)), (b3, 100, rowF (BitVec.getLsbD (y))), (b2, 100, rowF (BitVec.getLsbD (x)))] 0 _ _ _ (rowF (below (x + y + cb128 (c)) (k))) (#[Value.bool (false)]) (rowF (below (x + y + cb128 (c)) (k + 1))) rfl rfl rfl rfl (stok_row1 rfl rfl _ _ (by omega)) ((splice_row1 _ _ _).trans (below_step _ _ (by rw [sum_bit _ _ _ _ (by omega), hc16, hc32, hc40]; rfl))) rfl ?_
            refine lx_nil ?_
            refine hK42 _ _ ?_; try clear hK42 K42
            refine A_reg ?_
            refine r_v (Value.int .i64 (0)) rfl rfl rfl rfl ?_
            refine r_v (Value.bool (BitVec.carry (k + 1) (x) (y) (c))) rfl rfl (by rw [sum_carry, hc16, hc32, hc40]; rfl) rfl ?_
            refine r_v (Value.bool (BitVec.carry (k + 1) (x) (y) (c))) rfl rfl rfl rfl ?_
            refine lx_nil ?_
            refine hK12 _ _ ?_; try clear hK12 K12
            refine A_reg ?_
            refine r_v (Value.int .i64 (((k : Nat) : Int))) rfl rfl rfl rfl ?_
            refine r_v (Value.int .i64 (((k + 1 : Nat) : Int))) rfl rfl (wi64 (by omega) (by omega) (by omega)) rfl ?_
            refine r_v (Value.int .i64 (((k + 1 : Nat) : Int))) rfl rfl rfl rfl ?_
            refine lx_nil ?_
            refine fg _ (.of (List.Sublist.cons_cons _ (List.Sublist.cons_cons _ (List.Sublist.cons_cons _ (List.Sublist.cons_cons _ (List.Sublist.slnil)))))) ?_
            exact ⟨_, by omega, k + 1, by omega, is_mk (rfl) (rfl), rfl⟩
    · have hc11x := of_decide_eq_false hc11
      refine A_exit ?_
      refine hK7 _ _ ?_; try clear hK7 K7
      refine A_seq fun K43 hK43 => ?_
      refine A_reg ?_
      refine r_l (Value.agg (rowF (below (x + y + cb128 (c)) (k)))) 0 _ _ _ _ rfl rfl rfl rfl (ld_rows rfl rfl rfl _) ?_
      refine r_v (Value.bool (BitVec.carry (k) (x) (y) (c))) rfl rfl rfl rfl ?_
      refine r_s [(b6, 100, rowF (below (x + y + cb128 (c)) (k))), (b4, 100, rowF (below (x + y + cb128 (c)) (k))), (b3, 100, rowF (BitVec.getLsbD (y))), (b2, 100, rowF (BitVec.getLsbD (x)))] 1 _ _ _ (rowF (fun _ => false)) (rowF (below (x + y + cb128 (c)) (k))) (rowF (below (x + y + cb128 (c)) (k))) rfl rfl rfl rfl (stok_rows rfl rfl _ _) (splice_rows _ _) rfl ?_
      refine r_v (Value.bool (BitVec.carry (k) (x) (y) (c))) rfl rfl rfl rfl ?_
      refine lx_nil ?_
      refine hK43 _ _ ?_; try clear hK43 K43
      refine A_ret (fun hn => ends_eq (v0 := Value.tuple #[Value.agg (rowF (below (x + y + cb128 (c)) (k))), Value.bool (BitVec.carry (k) (x) (y) (c))]) (by rw [below_done _ (by omega) (by omega), carry_done _ _ _ (by omega) (by omega)]) (res2 (res_cell hn 1 rfl rfl (ld_rows rfl rfl rfl _)) rfl))
set_option maxRecDepth 100000 in
set_option maxHeartbeats 400000 in
theorem turned_g (x : BitVec 128) : Gives Tryd.prog 71 #[Value.agg (rowF (BitVec.getLsbD (x)))] (Value.agg (rowF (BitVec.getLsbD (~~~(x))))) := by
  refine gives_of_A follows Tryd.func71 rfl 16 rfl (upd (fun _ => undef) 0 (Value.agg (rowF (BitVec.getLsbD (x))))) (by funext k; match k with | 0 => rfl | k + 1 => rfl) (fun base => ?_)
  refine A_seq fun K1 hK1 => ?_
  refine A_reg ?_
  refine r_a (100, rowF (BitVec.getLsbD (x))) rfl rfl rfl (fun b2 => ?_) (.inr rfl)
  refine r_a (100, rowF (fun _ => false)) rfl rfl (zrow z_100) (fun b3 => ?_) (.inr rfl)
  refine lx_nil ?_
  refine hK1 _ _ ?_; try clear hK1 K1
  refine A_seq fun K4 hK4 => ?_
  refine A_reg ?_
  refine r_a (100, rowF (fun _ => false)) rfl rfl (zrow z_100) (fun b5 => ?_) (.inr rfl)
  refine lx_nil ?_
  refine hK4 _ _ ?_; try clear hK4 K4
  refine A_seq fun K6 hK6 => ?_
  refine A_seq fun K7 hK7 => ?_
  refine A_reg ?_
  refine r_v (Value.int .i64 (0)) rfl rfl rfl rfl ?_
  refine lx_nil ?_
  refine hK7 _ _ ?_; try clear hK7 K7
  refine A_block ?_
  refine A_loop (fun tt ll nn => ∃ (k : Nat), (k ≤ 128) ∧ Is [(0, Value.agg (rowF (BitVec.getLsbD (x)))), (1, Value.pointer (some ⟨b2, 0, none⟩)), (2, Value.pointer (some ⟨b3, 0, none⟩)), (3, Value.pointer (some ⟨b5, 0, none⟩)), (4, Value.int .i64 (((k : Nat) : Int)))] [(b5, 100, rowF (below (~~~(x)) (k))), (b3, 100, rowF (fun _ => false)), (b2, 100, rowF (BitVec.getLsbD (x)))] tt ll ∧ nn = 128 - (k)) (128 - (0)) ?_ ?_
  · exact ⟨0, by omega, is_mk (rfl) (by rw [← below_zero]), rfl⟩
  · rintro t l n ⟨k, hp0, ⟨⟨T, rfl⟩, rfl⟩, rfl⟩
    refine A_seq fun K8 hK8 => ?_
    refine A_seq fun K9 hK9 => ?_
    refine A_reg ?_
    refine r_v (Value.int .i64 (((k : Nat) : Int))) rfl rfl rfl rfl ?_
    refine r_v (Value.bool (decide ((((k : Nat) : Int) : Int) < 128))) rfl rfl rfl rfl ?_
    refine lx_nil ?_
    refine hK9 _ _ ?_; try clear hK9 K9
    refine A_cond (decide ((((k : Nat) : Int) : Int) < 128)) rfl (fun hc10 => ?_) (fun hc10 => ?_)
    · have hc10x := of_decide_eq_true hc10
      refine A_skip ?_
      refine hK8 _ _ ?_; try clear hK8 K8
      refine A_seq fun K11 hK11 => ?_
      refine A_block ?_
      refine A_reg ?_
      refine r_v (Value.int .i64 (((k : Nat) : Int))) rfl rfl rfl rfl ?_
      refine r_v (Value.int .i64 (((k : Nat) : Int))) rfl rfl rfl rfl ?_
      have hx11 := ev_v (ev_idx (P := Tryd.prog) (c := fun _ => none) (t := 100) (b := b2) (off := 0) (k) rfl rfl rfl (by omega))
      rw [Nat.zero_add] at hx11
      refine r_v (Value.pointer (some ⟨b2, k, none⟩)) rfl rfl rfl hx11 ?_
      clear hx11
      refine r_l (Value.bool ((x).getLsbD (k))) 2 _ _ _ _ rfl rfl rfl rfl (ld_row1 rfl _ (by omega)) ?_
      refine r_v (Value.bool (!((x).getLsbD (k)))) rfl rfl rfl rfl ?_
      have hx14 := ev_v (ev_idx (P := Tryd.prog) (c := fun _ => none) (t := 100) (b := b5) (off := 0) (k) rfl rfl rfl (by omega))
      rw [Nat.zero_add] at hx14
      refine r_v (Value.pointer (some ⟨b5, k, none⟩)) rfl rfl rfl hx14 ?_
      clear hx14
      refine r_s [(b5, 100, rowF (below (~~~(x)) (k + 1))), (b3, 100, rowF (fun _ => false)), (b2, 100, rowF (BitVec.getLsbD (x)))] 0 _ _ _ (rowF (below (~~~(x)) (k))) (#[Value.bool (!((x).getLsbD (k)))]) (rowF (below (~~~(x)) (k + 1))) rfl rfl rfl rfl (stok_row1 rfl rfl _ _ (by omega)) ((splice_row1 _ _ _).trans (below_step _ _ (not_bit x k (by omega)))) rfl ?_
      refine lx_nil ?_
      refine hK11 _ _ ?_; try clear hK11 K11
      refine A_reg ?_
      refine r_v (Value.int .i64 (((k : Nat) : Int))) rfl rfl rfl rfl ?_
      refine r_v (Value.int .i64 (((k + 1 : Nat) : Int))) rfl rfl (wi64 (by omega) (by omega) (by omega)) rfl ?_
      refine r_v (Value.int .i64 (((k + 1 : Nat) : Int))) rfl rfl rfl rfl ?_
      refine lx_nil ?_
      refine fg _ (.of (List.Sublist.cons_cons _ (List.Sublist.cons_cons _ (List.Sublist.cons_cons _ (List.Sublist.slnil))))) ?_
      exact ⟨_, by omega, k + 1, by omega, is_mk (rfl) (rfl), rfl⟩
    · have hc10x := of_decide_eq_false hc10
      refine A_exit ?_
      refine hK6 _ _ ?_; try clear hK6 K6
      refine A_seq fun K12 hK12 => ?_
      refine A_reg ?_
      refine r_l (Value.agg (rowF (below (~~~(x)) (k)))) 0 _ _ _ _ rfl rfl rfl rfl (ld_rows rfl rfl rfl _) ?_
      refine r_s [(b5, 100, rowF (below (~~~(x)) (k))), (b3, 100, rowF (below (~~~(x)) (k))), (b2, 100, rowF (BitVec.getLsbD (x)))] 1 _ _ _ (rowF (fun _ => false)) (rowF (below (~~~(x)) (k))) (rowF (below (~~~(x)) (k))) rfl rfl rfl rfl (stok_rows rfl rfl _ _) (splice_rows _ _) rfl ?_
      refine lx_nil ?_
      refine hK12 _ _ ?_; try clear hK12 K12
      refine A_ret (fun hn => ends_eq (v0 := Value.agg (rowF (below (~~~(x)) (k)))) (by rw [below_done _ (by omega) (by omega)]) (res1 (res_cell hn 1 rfl rfl (ld_rows rfl rfl rfl _))))
set_option maxRecDepth 100000 in
set_option maxHeartbeats 400000 in
theorem less_g (x y : BitVec 128) : Gives Tryd.prog 63 #[Value.agg (rowF (BitVec.getLsbD (x))), Value.agg (rowF (BitVec.getLsbD (y)))] (Value.bool (decide ((x) < (y)))) := by
  refine gives_of_A follows Tryd.func63 rfl 20 rfl (upd (upd (fun _ => undef) 1 (Value.agg (rowF (BitVec.getLsbD (y))))) 0 (Value.agg (rowF (BitVec.getLsbD (x))))) (by funext k; match k with | 0 => rfl | 1 => rfl | k + 2 => rfl) (fun base => ?_)
  refine A_seq fun K1 hK1 => ?_
  refine A_reg ?_
  refine r_a (100, rowF (BitVec.getLsbD (x))) rfl rfl rfl (fun b2 => ?_) (.inr rfl)
  refine r_a (100, rowF (BitVec.getLsbD (y))) rfl rfl rfl (fun b3 => ?_) (.inr rfl)
  refine r_v (Value.bool (false)) rfl rfl rfl rfl ?_
  refine lx_nil ?_
  refine hK1 _ _ ?_; try clear hK1 K1
  refine A_seq fun K4 hK4 => ?_
  refine A_seq fun K5 hK5 => ?_
  refine A_reg ?_
  refine r_v (Value.int .i64 (127)) rfl rfl rfl rfl ?_
  refine lx_nil ?_
  refine hK5 _ _ ?_; try clear hK5 K5
  refine A_block ?_
  refine A_loop (fun tt ll nn => ∃ (k : Nat), (k ≤ 128) ∧ (∀ j, k ≤ j → j < 128 → x.getLsbD j = y.getLsbD j) ∧ Is [(0, Value.agg (rowF (BitVec.getLsbD (x)))), (1, Value.agg (rowF (BitVec.getLsbD (y)))), (2, Value.pointer (some ⟨b2, 0, none⟩)), (3, Value.pointer (some ⟨b3, 0, none⟩)), (5, Value.int .i64 (((k : Nat) : Int) - 1))] [(b3, 100, rowF (BitVec.getLsbD (y))), (b2, 100, rowF (BitVec.getLsbD (x)))] tt ll ∧ nn = k + 1) (128 + 1) ?_ ?_
  · exact ⟨128, by omega, fun j h1 h2 => by omega, is_mk (rfl) (rfl), rfl⟩
  · rintro t l n ⟨k, hp0, hp1, ⟨⟨T, rfl⟩, rfl⟩, rfl⟩
    refine A_seq fun K6 hK6 => ?_
    refine A_seq fun K7 hK7 => ?_
    refine A_reg ?_
    refine r_v (Value.int .i64 (((k : Nat) : Int) - 1)) rfl rfl rfl rfl ?_
    refine r_v (Value.bool (decide ((((k : Nat) : Int) - 1 : Int) ≥ 0))) rfl rfl rfl rfl ?_
    refine lx_nil ?_
    refine hK7 _ _ ?_; try clear hK7 K7
    refine A_cond (decide ((((k : Nat) : Int) - 1 : Int) ≥ 0)) rfl (fun hc8 => ?_) (fun hc8 => ?_)
    · have hc8x := of_decide_eq_true hc8
      obtain ⟨m, rfl⟩ : ∃ m, k = m + 1 := ⟨k - 1, by omega⟩
      rw [show (((m + 1 : Nat) : Int) - 1) = ((m : Nat) : Int) from by omega]
      refine A_skip ?_
      refine hK6 _ _ ?_; try clear hK6 K6
      refine A_seq fun K9 hK9 => ?_
      refine A_block ?_
      refine A_seq fun K10 hK10 => ?_
      refine A_draw [] (by decide +kernel) (fun hn => sep_nil) ?_
      refine r_v (Value.int .i64 (((m : Nat) : Int))) rfl rfl rfl rfl ?_
      have hx11 := ev_v (ev_idx (P := Tryd.prog) (c := fun _ => none) (t := 100) (b := b2) (off := 0) (m) rfl rfl rfl (by omega))
      rw [Nat.zero_add] at hx11
      refine r_v (Value.pointer (some ⟨b2, m, none⟩)) rfl rfl rfl hx11 ?_
      clear hx11
      refine r_l (Value.bool ((x).getLsbD (m))) 1 _ _ _ _ rfl rfl rfl rfl (ld_row1 rfl _ (by omega)) ?_
      refine r_v (Value.int .i64 (((m : Nat) : Int))) rfl rfl rfl rfl ?_
      have hx14 := ev_v (ev_idx (P := Tryd.prog) (c := fun _ => none) (t := 100) (b := b3) (off := 0) (m) rfl rfl rfl (by omega))
      rw [Nat.zero_add] at hx14
      refine r_v (Value.pointer (some ⟨b3, m, none⟩)) rfl rfl rfl hx14 ?_
      clear hx14
      refine r_l (Value.bool ((y).getLsbD (m))) 0 _ _ _ _ rfl rfl rfl rfl (ld_row1 rfl _ (by omega)) ?_
      refine r_v (Value.bool (((x).getLsbD (m)) != ((y).getLsbD (m)))) rfl rfl rfl (ev_binBn rfl rfl rfl) ?_
      refine lx_nil ?_
      refine hK10 _ _ ?_; try clear hK10 K10
      refine A_cond (((x).getLsbD (m)) != ((y).getLsbD (m))) rfl (fun hc11 => ?_) (fun hc11 => ?_)
      · have hc11x := bne_iff_ne.1 hc11
        refine A_seq fun K12 hK12 => ?_
        refine A_reg ?_
        refine r_v (Value.int .i64 (((m : Nat) : Int))) rfl rfl rfl rfl ?_
        have hx18 := ev_v (ev_idx (P := Tryd.prog) (c := fun _ => none) (t := 100) (b := b3) (off := 0) (m) rfl rfl rfl (by omega))
        rw [Nat.zero_add] at hx18
        refine r_v (Value.pointer (some ⟨b3, m, none⟩)) rfl rfl rfl hx18 ?_
        clear hx18
        refine r_l (Value.bool ((y).getLsbD (m))) 0 _ _ _ _ rfl rfl rfl rfl (ld_row1 rfl _ (by omega)) ?_
        refine r_v (Value.bool ((y).getLsbD (m))) rfl rfl rfl rfl ?_
        refine lx_nil ?_
        refine hK12 _ _ ?_; try clear hK12 K12
        refine A_ret (fun hn => ends_eq (v0 := Value.bool ((y).getLsbD (m))) (congrArg Value.bool (less_diff x y m (fun j h1 h2 => hp1 j h1 h2) hc11x)) (res1 rfl))
      · have hc11x := (bne_eq_false_iff_eq.1 hc11)
        refine A_skip ?_
        refine hK9 _ _ ?_; try clear hK9 K9
        refine A_reg ?_
        refine r_v (Value.int .i64 (((m : Nat) : Int))) rfl rfl rfl rfl ?_
        refine r_v (Value.int .i64 ((((m : Nat) : Int)) - (1))) rfl rfl (wi64 (by omega) (by omega) (by omega)) rfl ?_
        refine r_v (Value.int .i64 ((((m : Nat) : Int)) - (1))) rfl rfl rfl rfl ?_
        refine lx_nil ?_
        refine fg _ (.of (List.Sublist.cons_cons _ (List.Sublist.cons_cons _ (List.Sublist.slnil)))) ?_
        exact ⟨_, by omega, m, by omega, fun j h1 h2 => by
      by_cases hj : j = m
      · subst hj; assumption
      · exact hp1 j (by omega) h2, is_mk (by first | rfl | (simp only [hc11, hc8]; rfl)) (rfl), rfl⟩
    · have hc8x := of_decide_eq_false hc8
      refine A_exit ?_
      refine hK4 _ _ ?_; try clear hK4 K4
      refine A_seq fun K13 hK13 => ?_
      refine A_reg ?_
      refine r_v (Value.bool (false)) rfl rfl rfl rfl ?_
      refine lx_nil ?_
      refine hK13 _ _ ?_; try clear hK13 K13
      refine A_ret (fun hn => ends_eq (v0 := Value.bool (false)) (congrArg Value.bool (less_same x y (fun j hj => hp1 j (by omega) hj))) (res1 rfl))
set_option maxRecDepth 100000 in
set_option maxHeartbeats 400000 in
theorem minus_g (x y : BitVec 128) : Gives Tryd.prog 64 #[Value.agg (rowF (BitVec.getLsbD (x))), Value.agg (rowF (BitVec.getLsbD (y)))] (Value.tuple #[Value.agg (rowF (BitVec.getLsbD ((x) - (y)))), Value.bool (decide ((x) < (y)))]) := by
  refine gives_of_A follows Tryd.func64 rfl 19 rfl (upd (upd (fun _ => undef) 1 (Value.agg (rowF (BitVec.getLsbD (y))))) 0 (Value.agg (rowF (BitVec.getLsbD (x))))) (by funext k; match k with | 0 => rfl | 1 => rfl | k + 2 => rfl) (fun base => ?_)
  refine A_seq fun K1 hK1 => ?_
  refine A_reg ?_
  refine r_a (100, rowF (BitVec.getLsbD (x))) rfl rfl rfl (fun b2 => ?_) (.inr rfl)
  refine r_a (100, rowF (BitVec.getLsbD (y))) rfl rfl rfl (fun b3 => ?_) (.inr rfl)
  refine r_a (100, rowF (fun _ => false)) rfl rfl (zrow z_100) (fun b4 => ?_) (.inr rfl)
  refine r_v (Value.bool (false)) rfl rfl rfl rfl ?_
  refine lx_nil ?_
  refine hK1 _ _ ?_; try clear hK1 K1
  refine A_seq fun K5 hK5 => ?_
  refine A_draw [] (by decide +kernel) (fun hn => sep_nil) ?_
  refine r_l (Value.agg (rowF (BitVec.getLsbD (x)))) 2 _ _ _ _ rfl rfl rfl rfl (ld_rows rfl rfl rfl _) ?_
  refine r_l (Value.agg (rowF (BitVec.getLsbD (y)))) 1 _ _ _ _ rfl rfl rfl rfl (ld_rows rfl rfl rfl _) ?_
  refine r_c (Value.agg (rowF (BitVec.getLsbD (~~~(y))))) rfl _ _ (ev_callF rfl call_71 rfl) (turned_g (y)) ?_
  refine r_c (Value.tuple #[Value.agg (rowF (BitVec.getLsbD ((x) + (~~~(y)) + cb128 (true)))), Value.bool (BitVec.carry 128 (x) (~~~(y)) (true))]) rfl _ _ (ev_callF rfl call_70 rfl) (rsum_g (x) (~~~(y)) (true)) ?_
  refine r_v (Value.tuple #[Value.agg (rowF (BitVec.getLsbD ((x) + (~~~(y)) + cb128 (true)))), Value.bool (BitVec.carry 128 (x) (~~~(y)) (true))]) rfl rfl rfl rfl ?_
  refine r_v (Value.agg (rowF (BitVec.getLsbD ((x) + (~~~(y)) + cb128 (true))))) rfl rfl rfl rfl ?_
  refine r_v (Value.bool (BitVec.carry 128 (x) (~~~(y)) (true))) rfl rfl rfl rfl ?_
  refine r_a (100, rowF (fun _ => false)) rfl rfl (zrow z_100) (fun b6 => ?_) (.inl rfl)
  refine r_sn [(b6, 100, rowF (BitVec.getLsbD ((x) + (~~~(y)) + cb128 (true)))), (b4, 100, rowF (fun _ => false)), (b3, 100, rowF (BitVec.getLsbD (y))), (b2, 100, rowF (BitVec.getLsbD (x)))] 0 _ _ _ (rowF (fun _ => false)) (rowF (BitVec.getLsbD ((x) + (~~~(y)) + cb128 (true)))) (rowF (BitVec.getLsbD ((x) + (~~~(y)) + cb128 (true)))) rfl rfl rfl rfl rfl (stok_rows rfl rfl _ _) (splice_rows _ _) rfl ?_
  refine r_v (Value.bool (BitVec.carry 128 (x) (~~~(y)) (true))) rfl rfl rfl rfl ?_
  refine lx_nil ?_
  refine hK5 _ _ ?_; try clear hK5 K5
  refine A_seq fun K7 hK7 => ?_
  refine A_draw [(4, 2), (4, 3)] (by decide +kernel) (fun hn => (sep_cons hn 1 3 rfl rfl rfl rfl rfl (sep_cons hn 1 2 rfl rfl rfl rfl rfl sep_nil))) ?_
  refine r_l (Value.agg (rowF (BitVec.getLsbD ((x) + (~~~(y)) + cb128 (true))))) 0 _ _ _ _ rfl rfl rfl rfl (ld_rows rfl rfl rfl _) ?_
  refine r_l (Value.agg (rowF (BitVec.getLsbD (x)))) 3 _ _ _ _ rfl rfl rfl rfl (ld_rows rfl rfl rfl _) ?_
  refine r_l (Value.agg (rowF (BitVec.getLsbD (y)))) 2 _ _ _ _ rfl rfl rfl rfl (ld_rows rfl rfl rfl _) ?_
  refine r_c (Value.bool (decide ((x) < (y)))) rfl _ _ (ev_callF rfl call_63 rfl) (less_g (x) (y)) ?_
  refine r_s [(b6, 100, rowF (BitVec.getLsbD ((x) + (~~~(y)) + cb128 (true)))), (b4, 100, rowF (BitVec.getLsbD ((x) + (~~~(y)) + cb128 (true)))), (b3, 100, rowF (BitVec.getLsbD (y))), (b2, 100, rowF (BitVec.getLsbD (x)))] 1 _ _ _ (rowF (fun _ => false)) (rowF (BitVec.getLsbD ((x) + (~~~(y)) + cb128 (true)))) (rowF (BitVec.getLsbD ((x) + (~~~(y)) + cb128 (true)))) rfl rfl rfl rfl (stok_rows rfl rfl _ _) (splice_rows _ _) rfl ?_
  refine r_v (Value.bool (decide ((x) < (y)))) rfl rfl rfl rfl ?_
  refine lx_nil ?_
  refine hK7 _ _ ?_; try clear hK7 K7
  refine A_ret (fun hn => ends_eq (v0 := Value.tuple #[Value.agg (rowF (BitVec.getLsbD ((x) + (~~~(y)) + cb128 (true)))), Value.bool (decide ((x) < (y)))]) (by simp only [sub_sum]) (res2 (res_cell hn 1 rfl rfl (ld_rows rfl rfl rfl _)) rfl))
set_option maxRecDepth 100000 in
set_option maxHeartbeats 400000 in
theorem moved_g (x : BitVec 128) (n : Int) (hn0 : -9223372036854775808 ≤ n) (hn1 : n ≤ 9223372036854775807) : Gives Tryd.prog 62 #[Value.agg (rowF (BitVec.getLsbD (x))), Value.int .i64 (n)] (Value.agg (rowF (BitVec.getLsbD (shiftI (x) (n))))) := by
  refine gives_of_A follows Tryd.func62 rfl 37 rfl (upd (upd (fun _ => undef) 1 (Value.int .i64 (n))) 0 (Value.agg (rowF (BitVec.getLsbD (x))))) (by funext k; match k with | 0 => rfl | 1 => rfl | k + 2 => rfl) (fun base => ?_)
  refine A_seq fun K1 hK1 => ?_
  refine A_reg ?_
  refine r_a (100, rowF (BitVec.getLsbD (x))) rfl rfl rfl (fun b2 => ?_) (.inr rfl)
  refine r_a (100, rowF (fun _ => false)) rfl rfl (zrow z_100) (fun b3 => ?_) (.inr rfl)
  refine lx_nil ?_
  refine hK1 _ _ ?_; try clear hK1 K1
  refine A_seq fun K4 hK4 => ?_
  refine A_reg ?_
  refine r_a (100, rowF (fun _ => false)) rfl rfl (zrow z_100) (fun b5 => ?_) (.inr rfl)
  refine lx_nil ?_
  refine hK4 _ _ ?_; try clear hK4 K4
  refine A_seq fun K6 hK6 => ?_
  refine A_seq fun K7 hK7 => ?_
  refine A_reg ?_
  refine r_v (Value.int .i64 (0)) rfl rfl rfl rfl ?_
  refine lx_nil ?_
  refine hK7 _ _ ?_; try clear hK7 K7
  refine A_block ?_
  refine A_loop (fun tt ll nn => ∃ (k : Nat), (k ≤ 128) ∧ Is [(0, Value.agg (rowF (BitVec.getLsbD (x)))), (1, Value.int .i64 (n)), (2, Value.pointer (some ⟨b2, 0, none⟩)), (4, Value.pointer (some ⟨b3, 0, none⟩)), (5, Value.pointer (some ⟨b5, 0, none⟩)), (6, Value.int .i64 (((k : Nat) : Int)))] [(b5, 100, rowF (movP x n (k))), (b3, 100, rowF (fun _ => false)), (b2, 100, rowF (BitVec.getLsbD (x)))] tt ll ∧ nn = 128 - (k)) (128 - (0)) ?_ ?_
  · exact ⟨0, by omega, is_mk (rfl) (by rw [← movP_zero]), rfl⟩
  · rintro t l n ⟨k, hp0, ⟨⟨T, rfl⟩, rfl⟩, rfl⟩
    refine A_seq fun K8 hK8 => ?_
    refine A_seq fun K9 hK9 => ?_
    refine A_reg ?_
    refine r_v (Value.int .i64 (((k : Nat) : Int))) rfl rfl rfl rfl ?_
    refine r_v (Value.bool (decide ((((k : Nat) : Int) : Int) < 128))) rfl rfl rfl rfl ?_
    refine lx_nil ?_
    refine hK9 _ _ ?_; try clear hK9 K9
    refine A_cond (decide ((((k : Nat) : Int) : Int) < 128)) rfl (fun hc10 => ?_) (fun hc10 => ?_)
    · have hc10x := of_decide_eq_true hc10
      refine A_skip ?_
      refine hK8 _ _ ?_; try clear hK8 K8
      refine A_seq fun K11 hK11 => ?_
      refine A_block ?_
      refine A_seq fun K12 hK12 => ?_
      refine A_reg ?_
      refine r_v (Value.int .i64 (n)) rfl rfl rfl rfl ?_
      refine r_v (Value.bool (decide ((n : Int) > -128))) rfl rfl rfl rfl ?_
      refine r_v (Value.bool (decide ((n : Int) > -128))) rfl rfl rfl rfl ?_
      rcases hg13 : (decide ((n : Int) > -128)) with _ | _
      · have hg13x := of_decide_eq_false hg13
        refine r_n false rfl (by decide) rfl ?_
        refine r_n false rfl (by decide) rfl ?_
        refine r_v (Value.bool (false)) rfl rfl rfl rfl ?_
        refine r_v (Value.bool (false)) rfl rfl rfl rfl ?_
        refine r_n false rfl (by decide) rfl ?_
        refine r_n false rfl (by decide) rfl ?_
        refine r_n false rfl (by decide) rfl ?_
        refine r_n false rfl (by decide) rfl ?_
        refine r_v (Value.bool (false)) rfl rfl rfl rfl ?_
        refine r_v (Value.bool (false)) rfl rfl rfl rfl ?_
        refine r_n false rfl (by decide) rfl ?_
        refine r_n false rfl (by decide) rfl ?_
        refine r_n false rfl (by decide) rfl ?_
        refine r_n false rfl (by decide) rfl ?_
        refine r_v (Value.bool (false)) rfl rfl rfl rfl ?_
        refine lx_nil ?_
        refine hK12 _ _ ?_; try clear hK12 K12
        refine A_cond false rfl (fun h_ => nomatch h_) (fun _ => ?_)
        refine A_skip ?_
        refine hK11 _ _ ?_; try clear hK11 K11
        refine A_reg ?_
        refine r_v (Value.int .i64 (((k : Nat) : Int))) rfl rfl rfl rfl ?_
        refine r_v (Value.int .i64 (((k + 1 : Nat) : Int))) rfl rfl (wi64 (by omega) (by omega) (by omega)) rfl ?_
        refine r_v (Value.int .i64 (((k + 1 : Nat) : Int))) rfl rfl rfl rfl ?_
        refine lx_nil ?_
        refine fg _ (.of (List.Sublist.cons_cons _ (List.Sublist.cons_cons _ (List.Sublist.cons_cons _ (List.Sublist.slnil))))) ?_
        exact ⟨_, by omega, k + 1, by omega, is_mk (rfl) (by rw [movP_skip x n k (by omega) (mov_out x n k (by omega) (by omega))]), rfl⟩
      · have hg13x := of_decide_eq_true hg13
        refine r_y rfl ?_
        refine r_v (Value.int .i64 (n)) rfl rfl rfl rfl ?_
        refine r_y rfl ?_
        refine r_v (Value.bool (decide ((n : Int) < 128))) rfl rfl rfl rfl ?_
        refine r_v (Value.bool (decide ((n : Int) < 128))) rfl rfl rfl rfl ?_
        refine r_v (Value.bool (decide ((n : Int) < 128))) rfl rfl rfl rfl ?_
        rcases hg15 : (decide ((n : Int) < 128)) with _ | _
        · have hg15x := of_decide_eq_false hg15
          refine r_n false rfl (by decide) rfl ?_
          refine r_n false rfl (by decide) rfl ?_
          refine r_n false rfl (by decide) rfl ?_
          refine r_n false rfl (by decide) rfl ?_
          refine r_v (Value.bool (false)) rfl rfl rfl rfl ?_
          refine r_v (Value.bool (false)) rfl rfl rfl rfl ?_
          refine r_n false rfl (by decide) rfl ?_
          refine r_n false rfl (by decide) rfl ?_
          refine r_n false rfl (by decide) rfl ?_
          refine r_n false rfl (by decide) rfl ?_
          refine r_v (Value.bool (false)) rfl rfl rfl rfl ?_
          refine lx_nil ?_
          refine hK12 _ _ ?_; try clear hK12 K12
          refine A_cond false rfl (fun h_ => nomatch h_) (fun _ => ?_)
          refine A_skip ?_
          refine hK11 _ _ ?_; try clear hK11 K11
          refine A_reg ?_
          refine r_v (Value.int .i64 (((k : Nat) : Int))) rfl rfl rfl rfl ?_
          refine r_v (Value.int .i64 (((k + 1 : Nat) : Int))) rfl rfl (wi64 (by omega) (by omega) (by omega)) rfl ?_
          refine r_v (Value.int .i64 (((k + 1 : Nat) : Int))) rfl rfl rfl rfl ?_
          refine lx_nil ?_
          refine fg _ (.of (List.Sublist.cons_cons _ (List.Sublist.cons_cons _ (List.Sublist.cons_cons _ (List.Sublist.slnil))))) ?_
          exact ⟨_, by omega, k + 1, by omega, is_mk (rfl) (by rw [movP_skip x n k (by omega) (mov_out x n k (by omega) (by omega))]), rfl⟩
        · have hg15x := of_decide_eq_true hg15
          refine r_y rfl ?_
          refine r_v (Value.int .i64 (((k : Nat) : Int))) rfl rfl rfl rfl ?_
          refine r_y rfl ?_
          refine r_v (Value.int .i64 (n)) rfl rfl rfl rfl ?_
          refine r_y rfl ?_
          refine r_v (Value.int .i64 ((((k : Nat) : Int)) - (n))) rfl rfl (wi64 (by omega) (by omega) (by omega)) rfl ?_
          refine r_y rfl ?_
          refine r_v (Value.bool (decide (((((k : Nat) : Int)) - (n) : Int) ≥ 0))) rfl rfl rfl rfl ?_
          refine r_v (Value.bool (decide (((((k : Nat) : Int)) - (n) : Int) ≥ 0))) rfl rfl rfl rfl ?_
          refine r_v (Value.bool (decide (((((k : Nat) : Int)) - (n) : Int) ≥ 0))) rfl rfl rfl rfl ?_
          rcases hg17 : (decide (((((k : Nat) : Int)) - (n) : Int) ≥ 0)) with _ | _
          · have hg17x := of_decide_eq_false hg17
            refine r_n false rfl (by decide) rfl ?_
            refine r_n false rfl (by decide) rfl ?_
            refine r_n false rfl (by decide) rfl ?_
            refine r_n false rfl (by decide) rfl ?_
            refine r_v (Value.bool (false)) rfl rfl rfl rfl ?_
            refine lx_nil ?_
            refine hK12 _ _ ?_; try clear hK12 K12
            refine A_cond false rfl (fun h_ => nomatch h_) (fun _ => ?_)
            refine A_skip ?_
            refine hK11 _ _ ?_; try clear hK11 K11
            refine A_reg ?_
            refine r_v (Value.int .i64 (((k : Nat) : Int))) rfl rfl rfl rfl ?_
            refine r_v (Value.int .i64 (((k + 1 : Nat) : Int))) rfl rfl (wi64 (by omega) (by omega) (by omega)) rfl ?_
            refine r_v (Value.int .i64 (((k + 1 : Nat) : Int))) rfl rfl rfl rfl ?_
            refine lx_nil ?_
            refine fg _ (.of (List.Sublist.cons_cons _ (List.Sublist.cons_cons _ (List.Sublist.cons_cons _ (List.Sublist.slnil))))) ?_
            exact ⟨_, by omega, k + 1, by omega, is_mk (rfl) (by rw [movP_skip x n k (by omega) (mov_out x n k (by omega) (by omega))]), rfl⟩
          · have hg17x := of_decide_eq_true hg17
            refine r_y rfl ?_
            refine r_v (Value.int .i64 (((k : Nat) : Int))) rfl rfl rfl rfl ?_
            refine r_y rfl ?_
            refine r_v (Value.int .i64 (n)) rfl rfl rfl rfl ?_
            refine r_y rfl ?_
            refine r_v (Value.int .i64 ((((k : Nat) : Int)) - (n))) rfl rfl (wi64 (by omega) (by omega) (by omega)) rfl ?_
            refine r_y rfl ?_
            refine r_v (Value.bool (decide (((((k : Nat) : Int)) - (n) : Int) < 128))) rfl rfl rfl rfl ?_
            refine r_v (Value.bool (decide (((((k : Nat) : Int)) - (n) : Int) < 128))) rfl rfl rfl rfl ?_
            refine lx_nil ?_
            refine hK12 _ _ ?_; try clear hK12 K12
            refine A_cond (decide (((((k : Nat) : Int)) - (n) : Int) < 128)) rfl (fun hc19 => ?_) (fun hc19 => ?_)
            · have hc19x := of_decide_eq_true hc19
              refine A_reg ?_
              refine r_v (Value.int .i64 (((k : Nat) : Int))) rfl rfl rfl rfl ?_
              refine r_v (Value.int .i64 (((k : Nat) : Int))) rfl rfl rfl rfl ?_
              refine r_v (Value.int .i64 (n)) rfl rfl rfl rfl ?_
              refine r_v (Value.int .i64 (((mvi k n : Nat) : Int))) rfl rfl (((wi64 (by omega) (by omega) (by omega)) : _ = Value.int .i64 ((((k : Nat) : Int)) - (n))).trans (congrArg (Value.int .i64) (by unfold mvi; omega))) rfl ?_
              have hx33 := ev_v (ev_idx (P := Tryd.prog) (c := fun _ => none) (t := 100) (b := b2) (off := 0) (mvi k n) rfl rfl rfl (by unfold mvi; omega))
              rw [Nat.zero_add] at hx33
              refine r_v (Value.pointer (some ⟨b2, mvi k n, none⟩)) rfl rfl rfl hx33 ?_
              clear hx33
              refine r_l (Value.bool ((x).getLsbD (mvi k n))) 2 _ _ _ _ rfl rfl rfl rfl (ld_row1 rfl _ (by unfold mvi; omega)) ?_
              have hx35 := ev_v (ev_idx (P := Tryd.prog) (c := fun _ => none) (t := 100) (b := b5) (off := 0) (k) rfl rfl rfl (by omega))
              rw [Nat.zero_add] at hx35
              refine r_v (Value.pointer (some ⟨b5, k, none⟩)) rfl rfl rfl hx35 ?_
              clear hx35
              refine r_s [(b5, 100, rowF (movP x n (k + 1))), (b3, 100, rowF (fun _ => false)), (b2, 100, rowF (BitVec.getLsbD (x)))] 0 _ _ _ (rowF (movP x n (k))) (#[Value.bool ((x).getLsbD (mvi k n))]) (rowF (movP x n (k + 1))) rfl rfl rfl rfl (stok_row1 rfl rfl _ _ (by omega)) ((splice_row1 _ _ _).trans (movP_step x n k (by omega) (mov_in x n k (by omega) (by omega) (by omega)))) rfl ?_
              refine lx_nil ?_
              refine hK11 _ _ ?_; try clear hK11 K11
              refine A_reg ?_
              refine r_v (Value.int .i64 (((k : Nat) : Int))) rfl rfl rfl rfl ?_
              refine r_v (Value.int .i64 (((k + 1 : Nat) : Int))) rfl rfl (wi64 (by omega) (by omega) (by omega)) rfl ?_
              refine r_v (Value.int .i64 (((k + 1 : Nat) : Int))) rfl rfl rfl rfl ?_
              refine lx_nil ?_
              refine fg _ (.of (List.Sublist.cons_cons _ (List.Sublist.cons_cons _ (List.Sublist.cons_cons _ (List.Sublist.slnil))))) ?_
              exact ⟨_, by omega, k + 1, by omega, is_mk (rfl) (rfl), rfl⟩
            · have hc19x := of_decide_eq_false hc19
              refine A_skip ?_
              refine hK11 _ _ ?_; try clear hK11 K11
              refine A_reg ?_
              refine r_v (Value.int .i64 (((k : Nat) : Int))) rfl rfl rfl rfl ?_
              refine r_v (Value.int .i64 (((k + 1 : Nat) : Int))) rfl rfl (wi64 (by omega) (by omega) (by omega)) rfl ?_
              refine r_v (Value.int .i64 (((k + 1 : Nat) : Int))) rfl rfl rfl rfl ?_
              refine lx_nil ?_
              refine fg _ (.of (List.Sublist.cons_cons _ (List.Sublist.cons_cons _ (List.Sublist.cons_cons _ (List.Sublist.slnil))))) ?_
              exact ⟨_, by omega, k + 1, by omega, is_mk (rfl) (by rw [movP_skip x n k (by omega) (mov_out x n k (by omega) (by omega))]), rfl⟩
    · have hc10x := of_decide_eq_false hc10
      refine A_exit ?_
      refine hK6 _ _ ?_; try clear hK6 K6
      refine A_seq fun K20 hK20 => ?_
      refine A_reg ?_
      refine r_l (Value.agg (rowF (movP x n (k)))) 0 _ _ _ _ rfl rfl rfl rfl (ld_rows rfl rfl rfl _) ?_
      refine r_s [(b5, 100, rowF (movP x n (k))), (b3, 100, rowF (movP x n (k))), (b2, 100, rowF (BitVec.getLsbD (x)))] 1 _ _ _ (rowF (fun _ => false)) (rowF (movP x n (k))) (rowF (movP x n (k))) rfl rfl rfl rfl (stok_rows rfl rfl _ _) (splice_rows _ _) rfl ?_
      refine lx_nil ?_
      refine hK20 _ _ ?_; try clear hK20 K20
      refine A_ret (fun hn => ends_eq (v0 := Value.agg (rowF (movP x n (k)))) (by rw [movP_done _ _ (by omega) (by omega)]) (res1 (res_cell hn 1 rfl rfl (ld_rows rfl rfl rfl _))))
end Go.Proofs.YtmfedgmmgehmgaaDoor
