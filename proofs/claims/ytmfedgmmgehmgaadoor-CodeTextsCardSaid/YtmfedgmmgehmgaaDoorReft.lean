/- rows, more -/
import Derived.Test.YtmfedgmmgehmgaaDoorRef
import Derived.Test.YtmfedgmmgehmgaaDoorMove
namespace Go.Proofs.YtmfedgmmgehmgaaDoor
open Go Go.RowKit Go.Eng
set_option maxRecDepth 100000 in
set_option maxHeartbeats 400000 in
theorem rlen_g (x : BitVec 128) : Gives Tryd.prog 36 #[Value.agg (rowF (BitVec.getLsbD (x)))] (Value.int .i64 (((len128 x : Nat) : Int))) := by
  refine gives_of_A follows Tryd.func36 rfl 13 rfl (upd (fun _ => undef) 0 (Value.agg (rowF (BitVec.getLsbD (x))))) (by funext k; match k with | 0 => rfl | k + 1 => rfl) (fun base => ?_)
  refine A_seq fun K1 hK1 => ?_
  refine A_reg ?_
  refine r_a (100, rowF (BitVec.getLsbD (x))) rfl rfl rfl (fun b2 => ?_) (.inr rfl)
  refine r_v (Value.int .i64 (0)) rfl rfl rfl rfl ?_
  refine lx_nil ?_
  refine hK1 _ _ ?_; try clear hK1 K1
  refine A_seq fun K3 hK3 => ?_
  refine A_seq fun K4 hK4 => ?_
  refine A_reg ?_
  refine r_v (Value.int .i64 (127)) rfl rfl rfl rfl ?_
  refine lx_nil ?_
  refine hK4 _ _ ?_; try clear hK4 K4
  refine A_block ?_
  refine A_loop (fun tt ll nn => ∃ (k : Nat), (k ≤ 128) ∧ (∀ j, k ≤ j → j < 128 → x.getLsbD j = false) ∧ Is [(0, Value.agg (rowF (BitVec.getLsbD (x)))), (1, Value.pointer (some ⟨b2, 0, none⟩)), (3, Value.int .i64 (((k : Nat) : Int) - 1))] [(b2, 100, rowF (BitVec.getLsbD (x)))] tt ll ∧ nn = k + 1) (128 + 1) ?_ ?_
  · exact ⟨128, by omega, fun j h1 h2 => by omega, is_mk (rfl) (rfl), rfl⟩
  · rintro t l n ⟨k, hp0, hp1, ⟨⟨T, rfl⟩, rfl⟩, rfl⟩
    refine A_seq fun K5 hK5 => ?_
    refine A_seq fun K6 hK6 => ?_
    refine A_reg ?_
    refine r_v (Value.int .i64 (((k : Nat) : Int) - 1)) rfl rfl rfl rfl ?_
    refine r_v (Value.bool (decide ((((k : Nat) : Int) - 1 : Int) ≥ 0))) rfl rfl rfl rfl ?_
    refine lx_nil ?_
    refine hK6 _ _ ?_; try clear hK6 K6
    refine A_cond (decide ((((k : Nat) : Int) - 1 : Int) ≥ 0)) rfl (fun hc7 => ?_) (fun hc7 => ?_)
    · have hc7x := of_decide_eq_true hc7
      obtain ⟨m, rfl⟩ : ∃ m, k = m + 1 := ⟨k - 1, by omega⟩
      rw [show (((m + 1 : Nat) : Int) - 1) = ((m : Nat) : Int) from by omega]
      refine A_skip ?_
      refine hK5 _ _ ?_; try clear hK5 K5
      refine A_seq fun K8 hK8 => ?_
      refine A_block ?_
      refine A_seq fun K9 hK9 => ?_
      refine A_reg ?_
      refine r_v (Value.int .i64 (((m : Nat) : Int))) rfl rfl rfl rfl ?_
      have hx9 := ev_v (ev_idx (P := Tryd.prog) (c := fun _ => none) (t := 100) (b := b2) (off := 0) (m) rfl rfl rfl (by omega))
      rw [Nat.zero_add] at hx9
      refine r_v (Value.pointer (some ⟨b2, m, none⟩)) rfl rfl rfl hx9 ?_
      clear hx9
      refine r_l (Value.bool ((x).getLsbD (m))) 0 _ _ _ _ rfl rfl rfl rfl (ld_row1 rfl _ (by omega)) ?_
      refine lx_nil ?_
      refine hK9 _ _ ?_; try clear hK9 K9
      refine A_cond ((x).getLsbD (m)) rfl (fun hc10 => ?_) (fun hc10 => ?_)
      · refine A_seq fun K11 hK11 => ?_
        refine A_reg ?_
        refine r_v (Value.int .i64 (((m : Nat) : Int))) rfl rfl rfl rfl ?_
        refine r_v (Value.int .i64 (((m + 1 : Nat) : Int))) rfl rfl (wi64 (by omega) (by omega) (by omega)) rfl ?_
        refine r_v (Value.int .i64 (((m + 1 : Nat) : Int))) rfl rfl rfl rfl ?_
        refine lx_nil ?_
        refine hK11 _ _ ?_; try clear hK11 K11
        refine A_ret (fun hn => ends_eq (v0 := Value.int .i64 (((m + 1 : Nat) : Int))) (congrArg (fun z : Nat => Value.int .i64 (z : Int)) (len128_is hc10 (fun j h1 h2 => hp1 j h1 h2))) (res1 rfl))
      · refine A_skip ?_
        refine hK8 _ _ ?_; try clear hK8 K8
        refine A_reg ?_
        refine r_v (Value.int .i64 (((m : Nat) : Int))) rfl rfl rfl rfl ?_
        refine r_v (Value.int .i64 ((((m : Nat) : Int)) - (1))) rfl rfl (wi64 (by omega) (by omega) (by omega)) rfl ?_
        refine r_v (Value.int .i64 ((((m : Nat) : Int)) - (1))) rfl rfl rfl rfl ?_
        refine lx_nil ?_
        refine fg _ (.of (List.Sublist.cons_cons _ (List.Sublist.slnil))) ?_
        exact ⟨_, by omega, m, by omega, fun j h1 h2 => by
      by_cases hj : j = m
      · subst hj; exact hc10
      · exact hp1 j (by omega) h2, is_mk (by first | rfl | (simp only [hc10, hc7]; rfl)) (rfl), rfl⟩
    · have hc7x := of_decide_eq_false hc7
      refine A_exit ?_
      refine hK3 _ _ ?_; try clear hK3 K3
      refine A_seq fun K12 hK12 => ?_
      refine A_reg ?_
      refine r_v (Value.int .i64 (0)) rfl rfl rfl rfl ?_
      refine lx_nil ?_
      refine hK12 _ _ ?_; try clear hK12 K12
      refine A_ret (fun hn => ends_eq (v0 := Value.int .i64 (0)) (congrArg (fun z : Nat => Value.int .i64 (z : Int)) (len128_none (fun j hj => hp1 j (by omega) hj))) (res1 rfl))
set_option maxRecDepth 100000 in
set_option maxHeartbeats 400000 in
theorem part_g (x d : BitVec 128) (hd : d ≠ 0#128) : Gives Tryd.prog 53 #[Value.agg (rowF (BitVec.getLsbD (x))), Value.agg (rowF (BitVec.getLsbD (d)))] (Value.tuple #[Value.agg (rowF (BitVec.getLsbD ((x) / (d)))), Value.agg (rowF (BitVec.getLsbD ((x) % (d))))]) := by
  refine gives_of_A follows Tryd.func53 rfl 39 rfl (upd (upd (fun _ => undef) 1 (Value.agg (rowF (BitVec.getLsbD (d))))) 0 (Value.agg (rowF (BitVec.getLsbD (x))))) (by funext k; match k with | 0 => rfl | 1 => rfl | k + 2 => rfl) (fun base => ?_)
  refine A_seq fun K1 hK1 => ?_
  refine A_reg ?_
  refine r_a (100, rowF (BitVec.getLsbD (x))) rfl rfl rfl (fun b2 => ?_) (.inr rfl)
  refine r_a (100, rowF (BitVec.getLsbD (d))) rfl rfl rfl (fun b3 => ?_) (.inr rfl)
  refine r_a (100, rowF (fun _ => false)) rfl rfl (zrow z_100) (fun b4 => ?_) (.inr rfl)
  refine r_a (100, rowF (fun _ => false)) rfl rfl (zrow z_100) (fun b5 => ?_) (.inr rfl)
  refine lx_nil ?_
  refine hK1 _ _ ?_; try clear hK1 K1
  refine A_seq fun K6 hK6 => ?_
  refine A_reg ?_
  refine r_a (100, rowF (fun _ => false)) rfl rfl (zrow z_100) (fun b7 => ?_) (.inr rfl)
  refine r_a (100, rowF (fun _ => false)) rfl rfl (zrow z_100) (fun b8 => ?_) (.inr rfl)
  refine lx_nil ?_
  refine hK6 _ _ ?_; try clear hK6 K6
  refine A_seq fun K9 hK9 => ?_
  refine A_seq fun K10 hK10 => ?_
  refine A_reg ?_
  refine r_v (Value.int .i64 (127)) rfl rfl rfl rfl ?_
  refine lx_nil ?_
  refine hK10 _ _ ?_; try clear hK10 K10
  refine A_block ?_
  refine A_loop (fun tt ll nn => ∃ (k : Nat), (k ≤ 128) ∧ Is [(0, Value.agg (rowF (BitVec.getLsbD (x)))), (1, Value.agg (rowF (BitVec.getLsbD (d)))), (2, Value.pointer (some ⟨b2, 0, none⟩)), (3, Value.pointer (some ⟨b3, 0, none⟩)), (4, Value.pointer (some ⟨b4, 0, none⟩)), (5, Value.pointer (some ⟨b5, 0, none⟩)), (6, Value.pointer (some ⟨b7, 0, none⟩)), (7, Value.pointer (some ⟨b8, 0, none⟩)), (8, Value.int .i64 (((k : Nat) : Int) - 1))] [(b8, 100, rowF (BitVec.getLsbD (partL x d (k)))), (b7, 100, rowF (BitVec.getLsbD (partQ x d (k)))), (b5, 100, rowF (fun _ => false)), (b4, 100, rowF (fun _ => false)), (b3, 100, rowF (BitVec.getLsbD (d))), (b2, 100, rowF (BitVec.getLsbD (x)))] tt ll ∧ nn = k + 1) (128 + 1) ?_ ?_
  · exact ⟨128, by omega, is_mk (rfl) (by rw [← partQ_top x d, ← partL_top x d]), rfl⟩
  · rintro t l n ⟨k, hp0, ⟨⟨T, rfl⟩, rfl⟩, rfl⟩
    refine A_seq fun K11 hK11 => ?_
    refine A_seq fun K12 hK12 => ?_
    refine A_reg ?_
    refine r_v (Value.int .i64 (((k : Nat) : Int) - 1)) rfl rfl rfl rfl ?_
    refine r_v (Value.bool (decide ((((k : Nat) : Int) - 1 : Int) ≥ 0))) rfl rfl rfl rfl ?_
    refine lx_nil ?_
    refine hK12 _ _ ?_; try clear hK12 K12
    refine A_cond (decide ((((k : Nat) : Int) - 1 : Int) ≥ 0)) rfl (fun hc13 => ?_) (fun hc13 => ?_)
    · have hc13x := of_decide_eq_true hc13
      obtain ⟨m, rfl⟩ : ∃ m, k = m + 1 := ⟨k - 1, by omega⟩
      rw [show (((m + 1 : Nat) : Int) - 1) = ((m : Nat) : Int) from by omega]
      refine A_skip ?_
      refine hK11 _ _ ?_; try clear hK11 K11
      refine A_seq fun K14 hK14 => ?_
      refine A_block ?_
      refine A_seq fun K15 hK15 => ?_
      refine A_reg ?_
      refine r_v (Value.pointer (some ⟨b8, 127, none⟩)) rfl rfl rfl rfl ?_
      refine r_l (Value.bool ((partL x d (m + 1)).getLsbD (127))) 0 _ _ _ _ rfl rfl rfl rfl (ld_row1 rfl _ (by omega)) ?_
      refine r_v (Value.bool ((partL x d (m + 1)).getLsbD (127))) rfl rfl rfl rfl ?_
      refine lx_nil ?_
      refine hK15 _ _ ?_; try clear hK15 K15
      refine A_seq fun K16 hK16 => ?_
      refine A_reg ?_
      refine r_l (Value.agg (rowF (BitVec.getLsbD (partL x d (m + 1))))) 0 _ _ _ _ rfl rfl rfl rfl (ld_rows rfl rfl rfl _) ?_
      refine r_c (Value.agg (rowF (BitVec.getLsbD (shiftI (partL x d (m + 1)) (1))))) rfl _ _ (ev_callF rfl call_62 rfl) (moved_g (partL x d (m + 1)) (1) (by omega) (by omega)) ?_
      refine r_s [(b8, 100, rowF (BitVec.getLsbD (shiftI (partL x d (m + 1)) (1)))), (b7, 100, rowF (BitVec.getLsbD (partQ x d (m + 1)))), (b5, 100, rowF (fun _ => false)), (b4, 100, rowF (fun _ => false)), (b3, 100, rowF (BitVec.getLsbD (d))), (b2, 100, rowF (BitVec.getLsbD (x)))] 0 _ _ _ (rowF (BitVec.getLsbD (partL x d (m + 1)))) (rowF (BitVec.getLsbD (shiftI (partL x d (m + 1)) (1)))) (rowF (BitVec.getLsbD (shiftI (partL x d (m + 1)) (1)))) rfl rfl rfl rfl (stok_rows rfl rfl _ _) (splice_rows _ _) rfl ?_
      refine lx_nil ?_
      refine hK16 _ _ ?_; try clear hK16 K16
      refine A_seq fun K17 hK17 => ?_
      refine A_reg ?_
      refine r_v (Value.int .i64 (((m : Nat) : Int))) rfl rfl rfl rfl ?_
      have hx19 := ev_v (ev_idx (P := Tryd.prog) (c := fun _ => none) (t := 100) (b := b2) (off := 0) (m) rfl rfl rfl (by omega))
      rw [Nat.zero_add] at hx19
      refine r_v (Value.pointer (some ⟨b2, m, none⟩)) rfl rfl rfl hx19 ?_
      clear hx19
      refine r_l (Value.bool ((x).getLsbD (m))) 5 _ _ _ _ rfl rfl rfl rfl (ld_row1 rfl _ (by omega)) ?_
      refine r_v (Value.pointer (some ⟨b8, 0, none⟩)) rfl rfl rfl rfl ?_
      refine r_s [(b8, 100, rowF (BitVec.getLsbD (partS x d m))), (b7, 100, rowF (BitVec.getLsbD (partQ x d (m + 1)))), (b5, 100, rowF (fun _ => false)), (b4, 100, rowF (fun _ => false)), (b3, 100, rowF (BitVec.getLsbD (d))), (b2, 100, rowF (BitVec.getLsbD (x)))] 0 _ _ _ (rowF (BitVec.getLsbD (shiftI (partL x d (m + 1)) (1)))) (#[Value.bool ((x).getLsbD (m))]) (rowF (BitVec.getLsbD (partS x d m))) rfl rfl rfl rfl (stok_row1 rfl rfl _ _ (by omega)) ((splice_row1 _ _ _).trans (partS_row hd)) rfl ?_
      refine lx_nil ?_
      refine hK17 _ _ ?_; try clear hK17 K17
      refine A_seq fun K18 hK18 => ?_
      refine A_reg ?_
      refine r_v (Value.bool ((partL x d (m + 1)).getLsbD (127))) rfl rfl rfl rfl ?_
      refine r_v (Value.bool ((partL x d (m + 1)).getLsbD (127))) rfl rfl rfl rfl ?_
      rcases hg19 : ((partL x d (m + 1)).getLsbD (127)) with _ | _
      · refine r_y rfl ?_
        refine r_l (Value.agg (rowF (BitVec.getLsbD (partS x d m)))) 0 _ _ _ _ rfl rfl rfl rfl (ld_rows rfl rfl rfl _) ?_
        refine r_y rfl ?_
        refine r_l (Value.agg (rowF (BitVec.getLsbD (d)))) 4 _ _ _ _ rfl rfl rfl rfl (ld_rows rfl rfl rfl _) ?_
        refine r_y rfl ?_
        refine r_c (Value.bool (decide ((partS x d m) < (d)))) rfl _ _ (ev_callF rfl call_63 rfl) (less_g (partS x d m) (d)) ?_
        refine r_y rfl ?_
        refine r_v (Value.bool (!(decide ((partS x d m) < (d))))) rfl rfl rfl rfl ?_
        refine r_v (Value.bool (!(decide ((partS x d m) < (d))))) rfl rfl rfl rfl ?_
        refine lx_nil ?_
        refine hK18 _ _ ?_; try clear hK18 K18
        refine A_cond (!(decide ((partS x d m) < (d)))) rfl (fun hc20 => ?_) (fun hc20 => ?_)
        · have hc20x : ¬ (((partS x d m) < (d))) := by simpa using hc20
          refine A_seq fun K21 hK21 => ?_
          refine A_reg ?_
          refine r_l (Value.agg (rowF (BitVec.getLsbD (partS x d m)))) 0 _ _ _ _ rfl rfl rfl rfl (ld_rows rfl rfl rfl _) ?_
          refine r_l (Value.agg (rowF (BitVec.getLsbD (d)))) 4 _ _ _ _ rfl rfl rfl rfl (ld_rows rfl rfl rfl _) ?_
          refine r_c (Value.tuple #[Value.agg (rowF (BitVec.getLsbD ((partS x d m) - (d)))), Value.bool (decide ((partS x d m) < (d)))]) rfl _ _ (ev_callF rfl call_64 rfl) (minus_g (partS x d m) (d)) ?_
          refine r_v (Value.tuple #[Value.agg (rowF (BitVec.getLsbD ((partS x d m) - (d)))), Value.bool (decide ((partS x d m) < (d)))]) rfl rfl rfl rfl ?_
          refine r_v (Value.agg (rowF (BitVec.getLsbD ((partS x d m) - (d))))) rfl rfl rfl rfl ?_
          refine r_v (Value.bool (decide ((partS x d m) < (d)))) rfl rfl rfl rfl ?_
          refine r_s [(b8, 100, rowF (BitVec.getLsbD ((partS x d m) - (d)))), (b7, 100, rowF (BitVec.getLsbD (partQ x d (m + 1)))), (b5, 100, rowF (fun _ => false)), (b4, 100, rowF (fun _ => false)), (b3, 100, rowF (BitVec.getLsbD (d))), (b2, 100, rowF (BitVec.getLsbD (x)))] 0 _ _ _ (rowF (BitVec.getLsbD (partS x d m))) (rowF (BitVec.getLsbD ((partS x d m) - (d)))) (rowF (BitVec.getLsbD ((partS x d m) - (d)))) rfl rfl rfl rfl (stok_rows rfl rfl _ _) (splice_rows _ _) rfl ?_
          refine lx_nil ?_
          refine hK21 _ _ ?_; try clear hK21 K21
          refine A_reg ?_
          refine r_v (Value.int .i64 (((m : Nat) : Int))) rfl rfl rfl rfl ?_
          have hx36 := ev_v (ev_idx (P := Tryd.prog) (c := fun _ => none) (t := 100) (b := b7) (off := 0) (m) rfl rfl rfl (by omega))
          rw [Nat.zero_add] at hx36
          refine r_v (Value.pointer (some ⟨b7, m, none⟩)) rfl rfl rfl hx36 ?_
          clear hx36
          refine r_s [(b8, 100, rowF (BitVec.getLsbD ((partS x d m) - (d)))), (b7, 100, rowF (BitVec.getLsbD (partQ x d m))), (b5, 100, rowF (fun _ => false)), (b4, 100, rowF (fun _ => false)), (b3, 100, rowF (BitVec.getLsbD (d))), (b2, 100, rowF (BitVec.getLsbD (x)))] 1 _ _ _ (rowF (BitVec.getLsbD (partQ x d (m + 1)))) (#[Value.bool (true)]) (rowF (BitVec.getLsbD (partQ x d m))) rfl rfl rfl rfl (stok_row1 rfl rfl _ _ (by omega)) ((splice_row1 _ _ _).trans (partQ_take (by omega) hd (.inr ⟨hg19, hc20x⟩))) rfl ?_
          refine lx_nil ?_
          refine hK14 _ _ ?_; try clear hK14 K14
          refine A_reg ?_
          refine r_v (Value.int .i64 (((m : Nat) : Int))) rfl rfl rfl rfl ?_
          refine r_v (Value.int .i64 ((((m : Nat) : Int)) - (1))) rfl rfl (wi64 (by omega) (by omega) (by omega)) rfl ?_
          refine r_v (Value.int .i64 ((((m : Nat) : Int)) - (1))) rfl rfl rfl rfl ?_
          refine lx_nil ?_
          refine fg _ (.of (List.Sublist.cons_cons _ (List.Sublist.cons_cons _ (List.Sublist.cons_cons _ (List.Sublist.cons_cons _ (List.Sublist.cons_cons _ (List.Sublist.cons_cons _ (List.Sublist.slnil)))))))) ?_
          exact ⟨_, by omega, m, by omega, is_mk (by first | rfl | (simp only [hc13, hc20, hg19]; rfl)) (by rw [partL_take hd (.inr ⟨hg19, hc20x⟩)]), rfl⟩
        · have hc20x : (((partS x d m) < (d))) := by simpa using hc20
          refine A_skip ?_
          refine hK14 _ _ ?_; try clear hK14 K14
          refine A_reg ?_
          refine r_v (Value.int .i64 (((m : Nat) : Int))) rfl rfl rfl rfl ?_
          refine r_v (Value.int .i64 ((((m : Nat) : Int)) - (1))) rfl rfl (wi64 (by omega) (by omega) (by omega)) rfl ?_
          refine r_v (Value.int .i64 ((((m : Nat) : Int)) - (1))) rfl rfl rfl rfl ?_
          refine lx_nil ?_
          refine fg _ (.of (List.Sublist.cons_cons _ (List.Sublist.cons_cons _ (List.Sublist.cons_cons _ (List.Sublist.cons_cons _ (List.Sublist.cons_cons _ (List.Sublist.cons_cons _ (List.Sublist.slnil)))))))) ?_
          exact ⟨_, by omega, m, by omega, is_mk (by first | rfl | (simp only [hc13, hc20, hg19]; rfl)) (by rw [partL_keep hd hg19 hc20x, partQ_keep hd hg19 hc20x]), rfl⟩
      · refine r_n true rfl (by decide) rfl ?_
        refine r_n true rfl (by decide) rfl ?_
        refine r_n true rfl (by decide) rfl ?_
        refine r_n true rfl (by decide) rfl ?_
        refine r_v (Value.bool (true)) rfl rfl rfl rfl ?_
        refine lx_nil ?_
        refine hK18 _ _ ?_; try clear hK18 K18
        refine A_cond true rfl (fun _ => ?_) (fun h_ => nomatch h_)
        refine A_seq fun K23 hK23 => ?_
        refine A_reg ?_
        refine r_l (Value.agg (rowF (BitVec.getLsbD (partS x d m)))) 0 _ _ _ _ rfl rfl rfl rfl (ld_rows rfl rfl rfl _) ?_
        refine r_l (Value.agg (rowF (BitVec.getLsbD (d)))) 4 _ _ _ _ rfl rfl rfl rfl (ld_rows rfl rfl rfl _) ?_
        refine r_c (Value.tuple #[Value.agg (rowF (BitVec.getLsbD ((partS x d m) - (d)))), Value.bool (decide ((partS x d m) < (d)))]) rfl _ _ (ev_callF rfl call_64 rfl) (minus_g (partS x d m) (d)) ?_
        refine r_v (Value.tuple #[Value.agg (rowF (BitVec.getLsbD ((partS x d m) - (d)))), Value.bool (decide ((partS x d m) < (d)))]) rfl rfl rfl rfl ?_
        refine r_v (Value.agg (rowF (BitVec.getLsbD ((partS x d m) - (d))))) rfl rfl rfl rfl ?_
        refine r_v (Value.bool (decide ((partS x d m) < (d)))) rfl rfl rfl rfl ?_
        refine r_s [(b8, 100, rowF (BitVec.getLsbD ((partS x d m) - (d)))), (b7, 100, rowF (BitVec.getLsbD (partQ x d (m + 1)))), (b5, 100, rowF (fun _ => false)), (b4, 100, rowF (fun _ => false)), (b3, 100, rowF (BitVec.getLsbD (d))), (b2, 100, rowF (BitVec.getLsbD (x)))] 0 _ _ _ (rowF (BitVec.getLsbD (partS x d m))) (rowF (BitVec.getLsbD ((partS x d m) - (d)))) (rowF (BitVec.getLsbD ((partS x d m) - (d)))) rfl rfl rfl rfl (stok_rows rfl rfl _ _) (splice_rows _ _) rfl ?_
        refine lx_nil ?_
        refine hK23 _ _ ?_; try clear hK23 K23
        refine A_reg ?_
        refine r_v (Value.int .i64 (((m : Nat) : Int))) rfl rfl rfl rfl ?_
        have hx36 := ev_v (ev_idx (P := Tryd.prog) (c := fun _ => none) (t := 100) (b := b7) (off := 0) (m) rfl rfl rfl (by omega))
        rw [Nat.zero_add] at hx36
        refine r_v (Value.pointer (some ⟨b7, m, none⟩)) rfl rfl rfl hx36 ?_
        clear hx36
        refine r_s [(b8, 100, rowF (BitVec.getLsbD ((partS x d m) - (d)))), (b7, 100, rowF (BitVec.getLsbD (partQ x d m))), (b5, 100, rowF (fun _ => false)), (b4, 100, rowF (fun _ => false)), (b3, 100, rowF (BitVec.getLsbD (d))), (b2, 100, rowF (BitVec.getLsbD (x)))] 1 _ _ _ (rowF (BitVec.getLsbD (partQ x d (m + 1)))) (#[Value.bool (true)]) (rowF (BitVec.getLsbD (partQ x d m))) rfl rfl rfl rfl (stok_row1 rfl rfl _ _ (by omega)) ((splice_row1 _ _ _).trans (partQ_take (by omega) hd (.inl hg19))) rfl ?_
        refine lx_nil ?_
        refine hK14 _ _ ?_; try clear hK14 K14
        refine A_reg ?_
        refine r_v (Value.int .i64 (((m : Nat) : Int))) rfl rfl rfl rfl ?_
        refine r_v (Value.int .i64 ((((m : Nat) : Int)) - (1))) rfl rfl (wi64 (by omega) (by omega) (by omega)) rfl ?_
        refine r_v (Value.int .i64 ((((m : Nat) : Int)) - (1))) rfl rfl rfl rfl ?_
        refine lx_nil ?_
        refine fg _ (.of (List.Sublist.cons_cons _ (List.Sublist.cons_cons _ (List.Sublist.cons_cons _ (List.Sublist.cons_cons _ (List.Sublist.cons_cons _ (List.Sublist.cons_cons _ (List.Sublist.slnil)))))))) ?_
        exact ⟨_, by omega, m, by omega, is_mk (by first | rfl | (simp only [hc13, hg19]; rfl)) (by rw [partL_take hd (.inl hg19)]), rfl⟩
    · have hc13x := of_decide_eq_false hc13
      refine A_exit ?_
      refine hK9 _ _ ?_; try clear hK9 K9
      refine A_seq fun K24 hK24 => ?_
      refine A_draw [(4, 7)] (by decide +kernel) (fun hn => (sep_cons hn 3 0 rfl rfl rfl rfl rfl sep_nil)) ?_
      refine r_l (Value.agg (rowF (BitVec.getLsbD (partQ x d (k))))) 1 _ _ _ _ rfl rfl rfl rfl (ld_rows rfl rfl rfl _) ?_
      refine r_l (Value.agg (rowF (BitVec.getLsbD (partL x d (k))))) 0 _ _ _ _ rfl rfl rfl rfl (ld_rows rfl rfl rfl _) ?_
      refine r_s [(b8, 100, rowF (BitVec.getLsbD (partL x d (k)))), (b7, 100, rowF (BitVec.getLsbD (partQ x d (k)))), (b5, 100, rowF (fun _ => false)), (b4, 100, rowF (BitVec.getLsbD (partQ x d (k)))), (b3, 100, rowF (BitVec.getLsbD (d))), (b2, 100, rowF (BitVec.getLsbD (x)))] 3 _ _ _ (rowF (fun _ => false)) (rowF (BitVec.getLsbD (partQ x d (k)))) (rowF (BitVec.getLsbD (partQ x d (k)))) rfl rfl rfl rfl (stok_rows rfl rfl _ _) (splice_rows _ _) rfl ?_
      refine r_s [(b8, 100, rowF (BitVec.getLsbD (partL x d (k)))), (b7, 100, rowF (BitVec.getLsbD (partQ x d (k)))), (b5, 100, rowF (BitVec.getLsbD (partL x d (k)))), (b4, 100, rowF (BitVec.getLsbD (partQ x d (k)))), (b3, 100, rowF (BitVec.getLsbD (d))), (b2, 100, rowF (BitVec.getLsbD (x)))] 2 _ _ _ (rowF (fun _ => false)) (rowF (BitVec.getLsbD (partL x d (k)))) (rowF (BitVec.getLsbD (partL x d (k)))) rfl rfl rfl rfl (stok_rows rfl rfl _ _) (splice_rows _ _) rfl ?_
      refine lx_nil ?_
      refine hK24 _ _ ?_; try clear hK24 K24
      refine A_ret (fun hn => ends_eq (v0 := Value.tuple #[Value.agg (rowF (BitVec.getLsbD (partQ x d (k)))), Value.agg (rowF (BitVec.getLsbD (partL x d (k))))]) (by rw [show k = 0 from by omega, partQ_done, partL_done]) (res2 (res_cell hn 3 rfl rfl (ld_rows rfl rfl rfl _)) (res_cell hn 2 rfl rfl (ld_rows rfl rfl rfl _))))
end Go.Proofs.YtmfedgmmgehmgaaDoor
