/- law Bits -/
import Derived.Test.YtacbjgfngfamhaaReft
import Derived.Test.YtacbjgfngfamhaaLaw
namespace Go.Proofs.Ytacbjgfngfamhaa
open Go Go.RowKit Go.Eng Go.ChangeShapes Go.WideShapes Go.ChangeAt Go.Joins Go.Deep
set_option maxRecDepth 100000 in
set_option maxHeartbeats 4000000 in
theorem wordBits_g (x y : BitVec 128) (n : Int) (hn0 : -9223372036854775808 ≤ n) (hn1 : n ≤ 9223372036854775807) : Gives Try.prog 5 #[Value.agg #[U (hi (x)), U (lo (x))], Value.agg #[U (hi (y)), U (lo (y))], Value.int .i64 (n)] (Value.bool (true)) := by
  refine gives_of_A follows Try.func5 rfl 154 rfl (upd (upd (upd (fun _ => undef) 2 (Value.int .i64 (n))) 1 (Value.agg #[U (hi (y)), U (lo (y))])) 0 (Value.agg #[U (hi (x)), U (lo (x))])) (by funext k; match k with | 0 => rfl | 1 => rfl | 2 => rfl | k + 3 => rfl) (fun base => ?_)
  refine A_seq fun K1 hK1 => ?_
  refine A_reg ?_
  refine r_a (24, #[U (hi (x)), U (lo (x))]) rfl rfl rfl (fun b2 => ?_) (.inr rfl)
  refine r_a (24, #[U (hi (y)), U (lo (y))]) rfl rfl rfl (fun b3 => ?_) (.inr rfl)
  refine r_v (Value.bool (false)) rfl rfl rfl rfl ?_
  refine lx_nil ?_
  refine hK1 _ _ ?_; try clear hK1 K1
  refine A_seq fun K4 hK4 => ?_
  refine A_draw [] (by decide +kernel) (fun hn => sep_nil) ?_
  refine r_l (Value.agg #[U (hi (x)), U (lo (x))]) 1 _ _ _ _ rfl rfl rfl rfl rfl ?_
  refine r_c (Value.agg (rowF (BitVec.getLsbD (x)))) rfl _ _ (ev_callF rfl call_11 rfl) (lof_g (x)) ?_
  refine r_l (Value.agg #[U (hi (y)), U (lo (y))]) 0 _ _ _ _ rfl rfl rfl rfl rfl ?_
  refine r_c (Value.agg (rowF (BitVec.getLsbD (y)))) rfl _ _ (ev_callF rfl call_11 rfl) (lof_g (y)) ?_
  refine r_a (28, rowF (fun _ => false)) rfl rfl (zrow z_28) (fun b5 => ?_) (.inl rfl)
  refine r_a (28, rowF (fun _ => false)) rfl rfl (zrow z_28) (fun b6 => ?_) (.inl rfl)
  refine r_sn [(b6, 28, rowF (fun _ => false)), (b5, 28, rowF (BitVec.getLsbD (x))), (b3, 24, #[U (hi (y)), U (lo (y))]), (b2, 24, #[U (hi (x)), U (lo (x))])] 1 _ _ _ (rowF (fun _ => false)) (rowF (BitVec.getLsbD (x))) (rowF (BitVec.getLsbD (x))) rfl rfl rfl rfl rfl (stok_rows rfl rfl _ _) (splice_rows _ _) rfl ?_
  refine r_sn [(b6, 28, rowF (BitVec.getLsbD (y))), (b5, 28, rowF (BitVec.getLsbD (x))), (b3, 24, #[U (hi (y)), U (lo (y))]), (b2, 24, #[U (hi (x)), U (lo (x))])] 0 _ _ _ (rowF (fun _ => false)) (rowF (BitVec.getLsbD (y))) (rowF (BitVec.getLsbD (y))) rfl rfl rfl rfl rfl (stok_rows rfl rfl _ _) (splice_rows _ _) rfl ?_
  refine lx_nil ?_
  refine hK4 _ _ ?_; try clear hK4 K4
  refine A_seq fun K7 hK7 => ?_
  refine A_draw [] (by decide +kernel) (fun hn => sep_nil) ?_
  refine r_l (Value.agg #[U (hi (x)), U (lo (x))]) 3 _ _ _ _ rfl rfl rfl rfl rfl ?_
  refine r_l (Value.agg #[U (hi (y)), U (lo (y))]) 2 _ _ _ _ rfl rfl rfl rfl rfl ?_
  refine r_c (Value.agg #[U (hi ((x) &&& (y))), U (lo ((x) &&& (y)))]) rfl _ _ (ev_callF rfl call_20 rfl) (and_g (x) (y)) ?_
  refine r_c (Value.agg (rowF (BitVec.getLsbD ((x) &&& (y))))) rfl _ _ (ev_callF rfl call_11 rfl) (lof_g ((x) &&& (y))) ?_
  refine r_l (Value.agg #[U (hi (x)), U (lo (x))]) 3 _ _ _ _ rfl rfl rfl rfl rfl ?_
  refine r_l (Value.agg #[U (hi (y)), U (lo (y))]) 2 _ _ _ _ rfl rfl rfl rfl rfl ?_
  refine r_c (Value.agg #[U (hi ((x) ||| (y))), U (lo ((x) ||| (y)))]) rfl _ _ (ev_callF rfl call_21 rfl) (or_g (x) (y)) ?_
  refine r_c (Value.agg (rowF (BitVec.getLsbD ((x) ||| (y))))) rfl _ _ (ev_callF rfl call_11 rfl) (lof_g ((x) ||| (y))) ?_
  refine r_l (Value.agg #[U (hi (x)), U (lo (x))]) 3 _ _ _ _ rfl rfl rfl rfl rfl ?_
  refine r_l (Value.agg #[U (hi (y)), U (lo (y))]) 2 _ _ _ _ rfl rfl rfl rfl rfl ?_
  refine r_c (Value.agg #[U (hi ((x) ^^^ (y))), U (lo ((x) ^^^ (y)))]) rfl _ _ (ev_callF rfl call_22 rfl) (xor_g (x) (y)) ?_
  refine r_c (Value.agg (rowF (BitVec.getLsbD ((x) ^^^ (y))))) rfl _ _ (ev_callF rfl call_11 rfl) (lof_g ((x) ^^^ (y))) ?_
  refine r_l (Value.agg #[U (hi (x)), U (lo (x))]) 3 _ _ _ _ rfl rfl rfl rfl rfl ?_
  refine r_c (Value.agg #[U (hi (~~~(x))), U (lo (~~~(x)))]) rfl _ _ (ev_callF rfl call_23 rfl) (not_g (x)) ?_
  refine r_c (Value.agg (rowF (BitVec.getLsbD (~~~(x))))) rfl _ _ (ev_callF rfl call_11 rfl) (lof_g (~~~(x))) ?_
  refine r_v (Value.int .i64 (n)) rfl rfl rfl rfl ?_
  refine r_c (Value.agg #[U (hi (onesI (n))), U (lo (onesI (n)))]) rfl _ _ (ev_callF rfl call_24 rfl) (ones_g (n) (by omega) (by omega)) ?_
  refine r_c (Value.agg (rowF (BitVec.getLsbD (onesI (n))))) rfl _ _ (ev_callF rfl call_11 rfl) (lof_g (onesI (n))) ?_
  refine r_a (28, rowF (fun _ => false)) rfl rfl (zrow z_28) (fun b8 => ?_) (.inl rfl)
  refine r_a (28, rowF (fun _ => false)) rfl rfl (zrow z_28) (fun b9 => ?_) (.inl rfl)
  refine r_a (28, rowF (fun _ => false)) rfl rfl (zrow z_28) (fun b10 => ?_) (.inl rfl)
  refine r_a (28, rowF (fun _ => false)) rfl rfl (zrow z_28) (fun b11 => ?_) (.inl rfl)
  refine r_a (28, rowF (fun _ => false)) rfl rfl (zrow z_28) (fun b12 => ?_) (.inl rfl)
  refine r_sn [(b12, 28, rowF (fun _ => false)), (b11, 28, rowF (fun _ => false)), (b10, 28, rowF (fun _ => false)), (b9, 28, rowF (fun _ => false)), (b8, 28, rowF (BitVec.getLsbD ((x) &&& (y)))), (b6, 28, rowF (BitVec.getLsbD (y))), (b5, 28, rowF (BitVec.getLsbD (x))), (b3, 24, #[U (hi (y)), U (lo (y))]), (b2, 24, #[U (hi (x)), U (lo (x))])] 4 _ _ _ (rowF (fun _ => false)) (rowF (BitVec.getLsbD ((x) &&& (y)))) (rowF (BitVec.getLsbD ((x) &&& (y)))) rfl rfl rfl rfl rfl (stok_rows rfl rfl _ _) (splice_rows _ _) rfl ?_
  refine r_sn [(b12, 28, rowF (fun _ => false)), (b11, 28, rowF (fun _ => false)), (b10, 28, rowF (fun _ => false)), (b9, 28, rowF (BitVec.getLsbD ((x) ||| (y)))), (b8, 28, rowF (BitVec.getLsbD ((x) &&& (y)))), (b6, 28, rowF (BitVec.getLsbD (y))), (b5, 28, rowF (BitVec.getLsbD (x))), (b3, 24, #[U (hi (y)), U (lo (y))]), (b2, 24, #[U (hi (x)), U (lo (x))])] 3 _ _ _ (rowF (fun _ => false)) (rowF (BitVec.getLsbD ((x) ||| (y)))) (rowF (BitVec.getLsbD ((x) ||| (y)))) rfl rfl rfl rfl rfl (stok_rows rfl rfl _ _) (splice_rows _ _) rfl ?_
  refine r_sn [(b12, 28, rowF (fun _ => false)), (b11, 28, rowF (fun _ => false)), (b10, 28, rowF (BitVec.getLsbD ((x) ^^^ (y)))), (b9, 28, rowF (BitVec.getLsbD ((x) ||| (y)))), (b8, 28, rowF (BitVec.getLsbD ((x) &&& (y)))), (b6, 28, rowF (BitVec.getLsbD (y))), (b5, 28, rowF (BitVec.getLsbD (x))), (b3, 24, #[U (hi (y)), U (lo (y))]), (b2, 24, #[U (hi (x)), U (lo (x))])] 2 _ _ _ (rowF (fun _ => false)) (rowF (BitVec.getLsbD ((x) ^^^ (y)))) (rowF (BitVec.getLsbD ((x) ^^^ (y)))) rfl rfl rfl rfl rfl (stok_rows rfl rfl _ _) (splice_rows _ _) rfl ?_
  refine r_sn [(b12, 28, rowF (fun _ => false)), (b11, 28, rowF (BitVec.getLsbD (~~~(x)))), (b10, 28, rowF (BitVec.getLsbD ((x) ^^^ (y)))), (b9, 28, rowF (BitVec.getLsbD ((x) ||| (y)))), (b8, 28, rowF (BitVec.getLsbD ((x) &&& (y)))), (b6, 28, rowF (BitVec.getLsbD (y))), (b5, 28, rowF (BitVec.getLsbD (x))), (b3, 24, #[U (hi (y)), U (lo (y))]), (b2, 24, #[U (hi (x)), U (lo (x))])] 1 _ _ _ (rowF (fun _ => false)) (rowF (BitVec.getLsbD (~~~(x)))) (rowF (BitVec.getLsbD (~~~(x)))) rfl rfl rfl rfl rfl (stok_rows rfl rfl _ _) (splice_rows _ _) rfl ?_
  refine r_sn [(b12, 28, rowF (BitVec.getLsbD (onesI (n)))), (b11, 28, rowF (BitVec.getLsbD (~~~(x)))), (b10, 28, rowF (BitVec.getLsbD ((x) ^^^ (y)))), (b9, 28, rowF (BitVec.getLsbD ((x) ||| (y)))), (b8, 28, rowF (BitVec.getLsbD ((x) &&& (y)))), (b6, 28, rowF (BitVec.getLsbD (y))), (b5, 28, rowF (BitVec.getLsbD (x))), (b3, 24, #[U (hi (y)), U (lo (y))]), (b2, 24, #[U (hi (x)), U (lo (x))])] 0 _ _ _ (rowF (fun _ => false)) (rowF (BitVec.getLsbD (onesI (n)))) (rowF (BitVec.getLsbD (onesI (n)))) rfl rfl rfl rfl rfl (stok_rows rfl rfl _ _) (splice_rows _ _) rfl ?_
  refine lx_nil ?_
  refine hK7 _ _ ?_; try clear hK7 K7
  refine A_seq fun K13 hK13 => ?_
  refine A_seq fun K14 hK14 => ?_
  refine A_reg ?_
  refine r_v (Value.int .i64 (0)) rfl rfl rfl rfl ?_
  refine lx_nil ?_
  refine hK14 _ _ ?_; try clear hK14 K14
  refine A_block ?_
  refine A_loop (fun tt ll nn => ∃ (k : Nat), (k ≤ 128) ∧ Is [(0, Value.agg #[U (hi (x)), U (lo (x))]), (1, Value.agg #[U (hi (y)), U (lo (y))]), (2, Value.int .i64 (n)), (3, Value.pointer (some ⟨b2, 0, none⟩)), (4, Value.pointer (some ⟨b3, 0, none⟩)), (7, Value.pointer (some ⟨b5, 0, none⟩)), (8, Value.pointer (some ⟨b6, 0, none⟩)), (9, Value.pointer (some ⟨b8, 0, none⟩)), (10, Value.pointer (some ⟨b9, 0, none⟩)), (11, Value.pointer (some ⟨b10, 0, none⟩)), (12, Value.pointer (some ⟨b11, 0, none⟩)), (13, Value.pointer (some ⟨b12, 0, none⟩)), (14, Value.int .i64 (((k : Nat) : Int)))] [(b12, 28, rowF (BitVec.getLsbD (onesI (n)))), (b11, 28, rowF (BitVec.getLsbD (~~~(x)))), (b10, 28, rowF (BitVec.getLsbD ((x) ^^^ (y)))), (b9, 28, rowF (BitVec.getLsbD ((x) ||| (y)))), (b8, 28, rowF (BitVec.getLsbD ((x) &&& (y)))), (b6, 28, rowF (BitVec.getLsbD (y))), (b5, 28, rowF (BitVec.getLsbD (x))), (b3, 24, #[U (hi (y)), U (lo (y))]), (b2, 24, #[U (hi (x)), U (lo (x))])] tt ll ∧ nn = 128 - (k)) (128 - (0)) ?_ ?_
  · exact ⟨0, by omega, is_mk (rfl) (rfl), rfl⟩
  · rintro t l n ⟨k, hp0, ⟨⟨T, rfl⟩, rfl⟩, rfl⟩
    refine A_seq fun K15 hK15 => ?_
    refine A_seq fun K16 hK16 => ?_
    refine A_reg ?_
    refine r_v (Value.int .i64 (((k : Nat) : Int))) rfl rfl rfl rfl ?_
    refine r_v (Value.bool (decide ((((k : Nat) : Int) : Int) < 128))) rfl rfl rfl rfl ?_
    refine lx_nil ?_
    refine hK16 _ _ ?_; try clear hK16 K16
    refine A_cond (decide ((((k : Nat) : Int) : Int) < 128)) rfl (fun hc17 => ?_) (fun hc17 => ?_)
    · have hc17x := of_decide_eq_true hc17
      refine A_skip ?_
      refine hK15 _ _ ?_; try clear hK15 K15
      refine A_seq fun K18 hK18 => ?_
      refine A_block ?_
      refine A_seq fun K19 hK19 => ?_
      refine A_draw [] (by decide +kernel) (fun hn => sep_nil) ?_
      refine r_v (Value.int .i64 (((k : Nat) : Int))) rfl rfl rfl rfl ?_
      have hx43 := ev_v (ev_idx (P := Try.prog) (c := fun _ => none) (t := 28) (b := b8) (off := 0) (k) rfl rfl rfl (by omega))
      rw [Nat.zero_add] at hx43
      refine r_v (Value.pointer (some ⟨b8, k, none⟩)) rfl rfl rfl hx43 ?_
      clear hx43
      refine r_l (Value.bool (((x) &&& (y)).getLsbD (k))) 4 _ _ _ _ rfl rfl rfl rfl (ld_row1 rfl _ (by omega)) ?_
      refine r_v (Value.int .i64 (((k : Nat) : Int))) rfl rfl rfl rfl ?_
      have hx46 := ev_v (ev_idx (P := Try.prog) (c := fun _ => none) (t := 28) (b := b5) (off := 0) (k) rfl rfl rfl (by omega))
      rw [Nat.zero_add] at hx46
      refine r_v (Value.pointer (some ⟨b5, k, none⟩)) rfl rfl rfl hx46 ?_
      clear hx46
      refine r_l (Value.bool ((x).getLsbD (k))) 6 _ _ _ _ rfl rfl rfl rfl (ld_row1 rfl _ (by omega)) ?_
      refine r_v (Value.bool ((x).getLsbD (k))) rfl rfl rfl rfl ?_
      rcases hg20 : ((x).getLsbD (k)) with _ | _
      · refine r_n false rfl (by decide) rfl ?_
        refine r_n false rfl (by decide) rfl ?_
        refine r_n false rfl (by decide) rfl ?_
        refine r_v (Value.bool (false)) rfl rfl rfl rfl ?_
        refine r_v (Value.bool ((((x) &&& (y)).getLsbD (k)) != (false))) rfl rfl rfl (ev_binBn rfl rfl rfl) ?_
        refine r_v (Value.bool ((((x) &&& (y)).getLsbD (k)) != (false))) rfl rfl rfl rfl ?_
        have hg21 : ((((x) &&& (y)).getLsbD (k)) != (false)) = false := (by first | exact not_bit_eq x k (by omega) | exact xor_bit_eq x y k | exact and_bit_t hg20 | exact and_bit_f hg20 | exact or_bit_t hg20 | exact or_bit_f hg20)
        rw [hg21]
        refine r_y rfl ?_
        refine r_v (Value.int .i64 (((k : Nat) : Int))) rfl rfl rfl rfl ?_
        refine r_y rfl ?_
        have hx56 := ev_v (ev_idx (P := Try.prog) (c := fun _ => none) (t := 28) (b := b9) (off := 0) (k) rfl rfl rfl (by omega))
        rw [Nat.zero_add] at hx56
        refine r_v (Value.pointer (some ⟨b9, k, none⟩)) rfl rfl rfl hx56 ?_
        clear hx56
        refine r_y rfl ?_
        refine r_l (Value.bool (((x) ||| (y)).getLsbD (k))) 3 _ _ _ _ rfl rfl rfl rfl (ld_row1 rfl _ (by omega)) ?_
        refine r_y rfl ?_
        refine r_v (Value.int .i64 (((k : Nat) : Int))) rfl rfl rfl rfl ?_
        refine r_y rfl ?_
        have hx59 := ev_v (ev_idx (P := Try.prog) (c := fun _ => none) (t := 28) (b := b5) (off := 0) (k) rfl rfl rfl (by omega))
        rw [Nat.zero_add] at hx59
        refine r_v (Value.pointer (some ⟨b5, k, none⟩)) rfl rfl rfl hx59 ?_
        clear hx59
        refine r_y rfl ?_
        refine r_l (Value.bool ((x).getLsbD (k))) 6 _ _ _ _ rfl rfl rfl rfl (ld_row1 rfl _ (by omega)) ?_
        refine r_y rfl ?_
        refine r_v (Value.bool ((x).getLsbD (k))) rfl rfl rfl rfl ?_
        have hg22 : ((x).getLsbD (k)) = false := hg20
        rw [hg22]
        refine r_y rfl ?_
        refine r_v (Value.int .i64 (((k : Nat) : Int))) rfl rfl rfl rfl ?_
        refine r_y rfl ?_
        have hx63 := ev_v (ev_idx (P := Try.prog) (c := fun _ => none) (t := 28) (b := b6) (off := 0) (k) rfl rfl rfl (by omega))
        rw [Nat.zero_add] at hx63
        refine r_v (Value.pointer (some ⟨b6, k, none⟩)) rfl rfl rfl hx63 ?_
        clear hx63
        refine r_y rfl ?_
        refine r_l (Value.bool ((y).getLsbD (k))) 5 _ _ _ _ rfl rfl rfl rfl (ld_row1 rfl _ (by omega)) ?_
        refine r_y rfl ?_
        refine r_v (Value.bool ((y).getLsbD (k))) rfl rfl rfl rfl ?_
        refine r_y rfl ?_
        refine r_v (Value.bool ((((x) ||| (y)).getLsbD (k)) != ((y).getLsbD (k)))) rfl rfl rfl (ev_binBn rfl rfl rfl) ?_
        refine r_v (Value.bool ((((x) ||| (y)).getLsbD (k)) != ((y).getLsbD (k)))) rfl rfl rfl rfl ?_
        refine r_v (Value.bool ((((x) ||| (y)).getLsbD (k)) != ((y).getLsbD (k)))) rfl rfl rfl rfl ?_
        have hg23 : ((((x) ||| (y)).getLsbD (k)) != ((y).getLsbD (k))) = false := (by first | exact not_bit_eq x k (by omega) | exact xor_bit_eq x y k | exact and_bit_t hg20 | exact and_bit_f hg20 | exact or_bit_t hg20 | exact or_bit_f hg20)
        rw [hg23]
        refine r_y rfl ?_
        refine r_v (Value.int .i64 (((k : Nat) : Int))) rfl rfl rfl rfl ?_
        refine r_y rfl ?_
        have hx70 := ev_v (ev_idx (P := Try.prog) (c := fun _ => none) (t := 28) (b := b10) (off := 0) (k) rfl rfl rfl (by omega))
        rw [Nat.zero_add] at hx70
        refine r_v (Value.pointer (some ⟨b10, k, none⟩)) rfl rfl rfl hx70 ?_
        clear hx70
        refine r_y rfl ?_
        refine r_l (Value.bool (((x) ^^^ (y)).getLsbD (k))) 2 _ _ _ _ rfl rfl rfl rfl (ld_row1 rfl _ (by omega)) ?_
        refine r_y rfl ?_
        refine r_v (Value.int .i64 (((k : Nat) : Int))) rfl rfl rfl rfl ?_
        refine r_y rfl ?_
        have hx73 := ev_v (ev_idx (P := Try.prog) (c := fun _ => none) (t := 28) (b := b5) (off := 0) (k) rfl rfl rfl (by omega))
        rw [Nat.zero_add] at hx73
        refine r_v (Value.pointer (some ⟨b5, k, none⟩)) rfl rfl rfl hx73 ?_
        clear hx73
        refine r_y rfl ?_
        refine r_l (Value.bool ((x).getLsbD (k))) 6 _ _ _ _ rfl rfl rfl rfl (ld_row1 rfl _ (by omega)) ?_
        refine r_y rfl ?_
        refine r_v (Value.int .i64 (((k : Nat) : Int))) rfl rfl rfl rfl ?_
        refine r_y rfl ?_
        have hx76 := ev_v (ev_idx (P := Try.prog) (c := fun _ => none) (t := 28) (b := b6) (off := 0) (k) rfl rfl rfl (by omega))
        rw [Nat.zero_add] at hx76
        refine r_v (Value.pointer (some ⟨b6, k, none⟩)) rfl rfl rfl hx76 ?_
        clear hx76
        refine r_y rfl ?_
        refine r_l (Value.bool ((y).getLsbD (k))) 5 _ _ _ _ rfl rfl rfl rfl (ld_row1 rfl _ (by omega)) ?_
        refine r_y rfl ?_
        refine r_v (Value.bool (((x).getLsbD (k)) != ((y).getLsbD (k)))) rfl rfl rfl (ev_binBn rfl rfl rfl) ?_
        refine r_y rfl ?_
        refine r_v (Value.bool ((((x) ^^^ (y)).getLsbD (k)) != (((x).getLsbD (k)) != ((y).getLsbD (k))))) rfl rfl rfl (ev_binBn rfl rfl rfl) ?_
        refine r_v (Value.bool ((((x) ^^^ (y)).getLsbD (k)) != (((x).getLsbD (k)) != ((y).getLsbD (k))))) rfl rfl rfl rfl ?_
        refine r_v (Value.bool ((((x) ^^^ (y)).getLsbD (k)) != (((x).getLsbD (k)) != ((y).getLsbD (k))))) rfl rfl rfl rfl ?_
        have hg24 : ((((x) ^^^ (y)).getLsbD (k)) != (((x).getLsbD (k)) != ((y).getLsbD (k)))) = false := (by first | exact not_bit_eq x k (by omega) | exact xor_bit_eq x y k | exact and_bit_t hg20 | exact and_bit_f hg20 | exact or_bit_t hg20 | exact or_bit_f hg20)
        rw [hg24]
        refine r_y rfl ?_
        refine r_v (Value.int .i64 (((k : Nat) : Int))) rfl rfl rfl rfl ?_
        refine r_y rfl ?_
        have hx83 := ev_v (ev_idx (P := Try.prog) (c := fun _ => none) (t := 28) (b := b11) (off := 0) (k) rfl rfl rfl (by omega))
        rw [Nat.zero_add] at hx83
        refine r_v (Value.pointer (some ⟨b11, k, none⟩)) rfl rfl rfl hx83 ?_
        clear hx83
        refine r_y rfl ?_
        refine r_l (Value.bool ((~~~(x)).getLsbD (k))) 1 _ _ _ _ rfl rfl rfl rfl (ld_row1 rfl _ (by omega)) ?_
        refine r_y rfl ?_
        refine r_v (Value.int .i64 (((k : Nat) : Int))) rfl rfl rfl rfl ?_
        refine r_y rfl ?_
        have hx86 := ev_v (ev_idx (P := Try.prog) (c := fun _ => none) (t := 28) (b := b5) (off := 0) (k) rfl rfl rfl (by omega))
        rw [Nat.zero_add] at hx86
        refine r_v (Value.pointer (some ⟨b5, k, none⟩)) rfl rfl rfl hx86 ?_
        clear hx86
        refine r_y rfl ?_
        refine r_l (Value.bool ((x).getLsbD (k))) 6 _ _ _ _ rfl rfl rfl rfl (ld_row1 rfl _ (by omega)) ?_
        refine r_y rfl ?_
        refine r_v (Value.bool (((~~~(x)).getLsbD (k)) == ((x).getLsbD (k)))) rfl rfl rfl (ev_binB rfl rfl rfl) ?_
        refine r_v (Value.bool (((~~~(x)).getLsbD (k)) == ((x).getLsbD (k)))) rfl rfl rfl rfl ?_
        refine r_v (Value.bool (((~~~(x)).getLsbD (k)) == ((x).getLsbD (k)))) rfl rfl rfl rfl ?_
        have hg25 : (((~~~(x)).getLsbD (k)) == ((x).getLsbD (k))) = false := (by first | exact not_bit_eq x k (by omega) | exact xor_bit_eq x y k | exact and_bit_t hg20 | exact and_bit_f hg20 | exact or_bit_t hg20 | exact or_bit_f hg20)
        rw [hg25]
        refine r_y rfl ?_
        refine r_v (Value.int .i64 (((k : Nat) : Int))) rfl rfl rfl rfl ?_
        refine r_y rfl ?_
        have hx92 := ev_v (ev_idx (P := Try.prog) (c := fun _ => none) (t := 28) (b := b12) (off := 0) (k) rfl rfl rfl (by omega))
        rw [Nat.zero_add] at hx92
        refine r_v (Value.pointer (some ⟨b12, k, none⟩)) rfl rfl rfl hx92 ?_
        clear hx92
        refine r_y rfl ?_
        refine r_l (Value.bool ((onesI (n)).getLsbD (k))) 0 _ _ _ _ rfl rfl rfl rfl (ld_row1 rfl _ (by omega)) ?_
        refine r_y rfl ?_
        refine r_v (Value.int .i64 (((k : Nat) : Int))) rfl rfl rfl rfl ?_
        refine r_y rfl ?_
        refine r_v (Value.int .i64 (n)) rfl rfl rfl rfl ?_
        refine r_y rfl ?_
        refine r_v (Value.bool (decide ((((k : Nat) : Int) : Int) < n))) rfl rfl rfl rfl ?_
        refine r_y rfl ?_
        refine r_v (Value.bool (((onesI (n)).getLsbD (k)) != (decide ((((k : Nat) : Int) : Int) < n)))) rfl rfl rfl (ev_binBn rfl rfl rfl) ?_
        refine r_v (Value.bool (((onesI (n)).getLsbD (k)) != (decide ((((k : Nat) : Int) : Int) < n)))) rfl rfl rfl rfl ?_
        refine r_v (Value.bool (((onesI (n)).getLsbD (k)) != (decide ((((k : Nat) : Int) : Int) < n)))) rfl rfl rfl rfl ?_
        have hg26 : (((onesI (n)).getLsbD (k)) != (decide ((((k : Nat) : Int) : Int) < n))) = false := (by rw [onesI_bit n k (by omega)]; exact bne_self_eq_false _)
        rw [hg26]
        refine r_y rfl ?_
        refine r_l (Value.agg #[U (hi (x)), U (lo (x))]) 8 _ _ _ _ rfl rfl rfl rfl rfl ?_
        refine r_y rfl ?_
        refine r_v (Value.int .i64 (((k : Nat) : Int))) rfl rfl rfl rfl ?_
        refine r_y rfl ?_
        refine r_c (Value.bool (bitI (x) (((k : Nat) : Int)))) rfl _ _ (ev_callF rfl call_25 rfl) (bit_g (x) (((k : Nat) : Int)) (by omega) (by omega)) ?_
        refine r_y rfl ?_
        refine r_v (Value.int .i64 (((k : Nat) : Int))) rfl rfl rfl rfl ?_
        refine r_y rfl ?_
        have hx104 := ev_v (ev_idx (P := Try.prog) (c := fun _ => none) (t := 28) (b := b5) (off := 0) (k) rfl rfl rfl (by omega))
        rw [Nat.zero_add] at hx104
        refine r_v (Value.pointer (some ⟨b5, k, none⟩)) rfl rfl rfl hx104 ?_
        clear hx104
        refine r_y rfl ?_
        refine r_l (Value.bool ((x).getLsbD (k))) 6 _ _ _ _ rfl rfl rfl rfl (ld_row1 rfl _ (by omega)) ?_
        refine r_y rfl ?_
        refine r_v (Value.bool ((bitI (x) (((k : Nat) : Int))) != ((x).getLsbD (k)))) rfl rfl rfl (ev_binBn rfl rfl rfl) ?_
        refine r_v (Value.bool ((bitI (x) (((k : Nat) : Int))) != ((x).getLsbD (k)))) rfl rfl rfl rfl ?_
        refine lx_nil ?_
        refine hK19 _ _ ?_; try clear hK19 K19
        refine A_cond ((bitI (x) (((k : Nat) : Int))) != ((x).getLsbD (k))) rfl (fun h => absurd (h.symm.trans (show ((bitI (x) (((k : Nat) : Int))) != ((x).getLsbD (k))) = false from (by rw [bitI_nat x k (by omega)]; exact bne_self_eq_false _))) (by decide)) (fun _ => ?_)
        refine A_skip ?_
        refine hK18 _ _ ?_; try clear hK18 K18
        refine A_reg ?_
        refine r_v (Value.int .i64 (((k : Nat) : Int))) rfl rfl rfl rfl ?_
        refine r_v (Value.int .i64 (((k + 1 : Nat) : Int))) rfl rfl (wi64 (by omega) (by omega) (by omega)) rfl ?_
        refine r_v (Value.int .i64 (((k + 1 : Nat) : Int))) rfl rfl rfl rfl ?_
        refine lx_nil ?_
        refine fg _ (List.Sublist.cons_cons _ (List.Sublist.cons_cons _ (List.Sublist.cons_cons _ (List.Sublist.cons_cons _ (List.Sublist.cons_cons _ (List.Sublist.cons_cons _ (List.Sublist.cons_cons _ (List.Sublist.cons_cons _ (List.Sublist.cons_cons _ (List.Sublist.slnil)))))))))) ?_
        exact ⟨_, by omega, k + 1, by omega, is_mk (rfl) (rfl), rfl⟩
      · refine r_y rfl ?_
        refine r_v (Value.int .i64 (((k : Nat) : Int))) rfl rfl rfl rfl ?_
        refine r_y rfl ?_
        have hx50 := ev_v (ev_idx (P := Try.prog) (c := fun _ => none) (t := 28) (b := b6) (off := 0) (k) rfl rfl rfl (by omega))
        rw [Nat.zero_add] at hx50
        refine r_v (Value.pointer (some ⟨b6, k, none⟩)) rfl rfl rfl hx50 ?_
        clear hx50
        refine r_y rfl ?_
        refine r_l (Value.bool ((y).getLsbD (k))) 5 _ _ _ _ rfl rfl rfl rfl (ld_row1 rfl _ (by omega)) ?_
        refine r_v (Value.bool ((y).getLsbD (k))) rfl rfl rfl rfl ?_
        refine r_v (Value.bool ((((x) &&& (y)).getLsbD (k)) != ((y).getLsbD (k)))) rfl rfl rfl (ev_binBn rfl rfl rfl) ?_
        refine r_v (Value.bool ((((x) &&& (y)).getLsbD (k)) != ((y).getLsbD (k)))) rfl rfl rfl rfl ?_
        have hg28 : ((((x) &&& (y)).getLsbD (k)) != ((y).getLsbD (k))) = false := (by first | exact not_bit_eq x k (by omega) | exact xor_bit_eq x y k | exact and_bit_t hg20 | exact and_bit_f hg20 | exact or_bit_t hg20 | exact or_bit_f hg20)
        rw [hg28]
        refine r_y rfl ?_
        refine r_v (Value.int .i64 (((k : Nat) : Int))) rfl rfl rfl rfl ?_
        refine r_y rfl ?_
        have hx56 := ev_v (ev_idx (P := Try.prog) (c := fun _ => none) (t := 28) (b := b9) (off := 0) (k) rfl rfl rfl (by omega))
        rw [Nat.zero_add] at hx56
        refine r_v (Value.pointer (some ⟨b9, k, none⟩)) rfl rfl rfl hx56 ?_
        clear hx56
        refine r_y rfl ?_
        refine r_l (Value.bool (((x) ||| (y)).getLsbD (k))) 3 _ _ _ _ rfl rfl rfl rfl (ld_row1 rfl _ (by omega)) ?_
        refine r_y rfl ?_
        refine r_v (Value.int .i64 (((k : Nat) : Int))) rfl rfl rfl rfl ?_
        refine r_y rfl ?_
        have hx59 := ev_v (ev_idx (P := Try.prog) (c := fun _ => none) (t := 28) (b := b5) (off := 0) (k) rfl rfl rfl (by omega))
        rw [Nat.zero_add] at hx59
        refine r_v (Value.pointer (some ⟨b5, k, none⟩)) rfl rfl rfl hx59 ?_
        clear hx59
        refine r_y rfl ?_
        refine r_l (Value.bool ((x).getLsbD (k))) 6 _ _ _ _ rfl rfl rfl rfl (ld_row1 rfl _ (by omega)) ?_
        refine r_y rfl ?_
        refine r_v (Value.bool ((x).getLsbD (k))) rfl rfl rfl rfl ?_
        have hg29 : ((x).getLsbD (k)) = true := hg20
        rw [hg29]
        refine r_n true rfl (by decide) rfl ?_
        refine r_n true rfl (by decide) rfl ?_
        refine r_n true rfl (by decide) rfl ?_
        refine r_y rfl ?_
        refine r_v (Value.bool (true)) rfl rfl rfl rfl ?_
        refine r_y rfl ?_
        refine r_v (Value.bool ((((x) ||| (y)).getLsbD (k)) != (true))) rfl rfl rfl (ev_binBn rfl rfl rfl) ?_
        refine r_v (Value.bool ((((x) ||| (y)).getLsbD (k)) != (true))) rfl rfl rfl rfl ?_
        refine r_v (Value.bool ((((x) ||| (y)).getLsbD (k)) != (true))) rfl rfl rfl rfl ?_
        have hg30 : ((((x) ||| (y)).getLsbD (k)) != (true)) = false := (by first | exact not_bit_eq x k (by omega) | exact xor_bit_eq x y k | exact and_bit_t hg20 | exact and_bit_f hg20 | exact or_bit_t hg20 | exact or_bit_f hg20)
        rw [hg30]
        refine r_y rfl ?_
        refine r_v (Value.int .i64 (((k : Nat) : Int))) rfl rfl rfl rfl ?_
        refine r_y rfl ?_
        have hx70 := ev_v (ev_idx (P := Try.prog) (c := fun _ => none) (t := 28) (b := b10) (off := 0) (k) rfl rfl rfl (by omega))
        rw [Nat.zero_add] at hx70
        refine r_v (Value.pointer (some ⟨b10, k, none⟩)) rfl rfl rfl hx70 ?_
        clear hx70
        refine r_y rfl ?_
        refine r_l (Value.bool (((x) ^^^ (y)).getLsbD (k))) 2 _ _ _ _ rfl rfl rfl rfl (ld_row1 rfl _ (by omega)) ?_
        refine r_y rfl ?_
        refine r_v (Value.int .i64 (((k : Nat) : Int))) rfl rfl rfl rfl ?_
        refine r_y rfl ?_
        have hx73 := ev_v (ev_idx (P := Try.prog) (c := fun _ => none) (t := 28) (b := b5) (off := 0) (k) rfl rfl rfl (by omega))
        rw [Nat.zero_add] at hx73
        refine r_v (Value.pointer (some ⟨b5, k, none⟩)) rfl rfl rfl hx73 ?_
        clear hx73
        refine r_y rfl ?_
        refine r_l (Value.bool ((x).getLsbD (k))) 6 _ _ _ _ rfl rfl rfl rfl (ld_row1 rfl _ (by omega)) ?_
        refine r_y rfl ?_
        refine r_v (Value.int .i64 (((k : Nat) : Int))) rfl rfl rfl rfl ?_
        refine r_y rfl ?_
        have hx76 := ev_v (ev_idx (P := Try.prog) (c := fun _ => none) (t := 28) (b := b6) (off := 0) (k) rfl rfl rfl (by omega))
        rw [Nat.zero_add] at hx76
        refine r_v (Value.pointer (some ⟨b6, k, none⟩)) rfl rfl rfl hx76 ?_
        clear hx76
        refine r_y rfl ?_
        refine r_l (Value.bool ((y).getLsbD (k))) 5 _ _ _ _ rfl rfl rfl rfl (ld_row1 rfl _ (by omega)) ?_
        refine r_y rfl ?_
        refine r_v (Value.bool (((x).getLsbD (k)) != ((y).getLsbD (k)))) rfl rfl rfl (ev_binBn rfl rfl rfl) ?_
        refine r_y rfl ?_
        refine r_v (Value.bool ((((x) ^^^ (y)).getLsbD (k)) != (((x).getLsbD (k)) != ((y).getLsbD (k))))) rfl rfl rfl (ev_binBn rfl rfl rfl) ?_
        refine r_v (Value.bool ((((x) ^^^ (y)).getLsbD (k)) != (((x).getLsbD (k)) != ((y).getLsbD (k))))) rfl rfl rfl rfl ?_
        refine r_v (Value.bool ((((x) ^^^ (y)).getLsbD (k)) != (((x).getLsbD (k)) != ((y).getLsbD (k))))) rfl rfl rfl rfl ?_
        have hg31 : ((((x) ^^^ (y)).getLsbD (k)) != (((x).getLsbD (k)) != ((y).getLsbD (k)))) = false := (by first | exact not_bit_eq x k (by omega) | exact xor_bit_eq x y k | exact and_bit_t hg20 | exact and_bit_f hg20 | exact or_bit_t hg20 | exact or_bit_f hg20)
        rw [hg31]
        refine r_y rfl ?_
        refine r_v (Value.int .i64 (((k : Nat) : Int))) rfl rfl rfl rfl ?_
        refine r_y rfl ?_
        have hx83 := ev_v (ev_idx (P := Try.prog) (c := fun _ => none) (t := 28) (b := b11) (off := 0) (k) rfl rfl rfl (by omega))
        rw [Nat.zero_add] at hx83
        refine r_v (Value.pointer (some ⟨b11, k, none⟩)) rfl rfl rfl hx83 ?_
        clear hx83
        refine r_y rfl ?_
        refine r_l (Value.bool ((~~~(x)).getLsbD (k))) 1 _ _ _ _ rfl rfl rfl rfl (ld_row1 rfl _ (by omega)) ?_
        refine r_y rfl ?_
        refine r_v (Value.int .i64 (((k : Nat) : Int))) rfl rfl rfl rfl ?_
        refine r_y rfl ?_
        have hx86 := ev_v (ev_idx (P := Try.prog) (c := fun _ => none) (t := 28) (b := b5) (off := 0) (k) rfl rfl rfl (by omega))
        rw [Nat.zero_add] at hx86
        refine r_v (Value.pointer (some ⟨b5, k, none⟩)) rfl rfl rfl hx86 ?_
        clear hx86
        refine r_y rfl ?_
        refine r_l (Value.bool ((x).getLsbD (k))) 6 _ _ _ _ rfl rfl rfl rfl (ld_row1 rfl _ (by omega)) ?_
        refine r_y rfl ?_
        refine r_v (Value.bool (((~~~(x)).getLsbD (k)) == ((x).getLsbD (k)))) rfl rfl rfl (ev_binB rfl rfl rfl) ?_
        refine r_v (Value.bool (((~~~(x)).getLsbD (k)) == ((x).getLsbD (k)))) rfl rfl rfl rfl ?_
        refine r_v (Value.bool (((~~~(x)).getLsbD (k)) == ((x).getLsbD (k)))) rfl rfl rfl rfl ?_
        have hg32 : (((~~~(x)).getLsbD (k)) == ((x).getLsbD (k))) = false := (by first | exact not_bit_eq x k (by omega) | exact xor_bit_eq x y k | exact and_bit_t hg20 | exact and_bit_f hg20 | exact or_bit_t hg20 | exact or_bit_f hg20)
        rw [hg32]
        refine r_y rfl ?_
        refine r_v (Value.int .i64 (((k : Nat) : Int))) rfl rfl rfl rfl ?_
        refine r_y rfl ?_
        have hx92 := ev_v (ev_idx (P := Try.prog) (c := fun _ => none) (t := 28) (b := b12) (off := 0) (k) rfl rfl rfl (by omega))
        rw [Nat.zero_add] at hx92
        refine r_v (Value.pointer (some ⟨b12, k, none⟩)) rfl rfl rfl hx92 ?_
        clear hx92
        refine r_y rfl ?_
        refine r_l (Value.bool ((onesI (n)).getLsbD (k))) 0 _ _ _ _ rfl rfl rfl rfl (ld_row1 rfl _ (by omega)) ?_
        refine r_y rfl ?_
        refine r_v (Value.int .i64 (((k : Nat) : Int))) rfl rfl rfl rfl ?_
        refine r_y rfl ?_
        refine r_v (Value.int .i64 (n)) rfl rfl rfl rfl ?_
        refine r_y rfl ?_
        refine r_v (Value.bool (decide ((((k : Nat) : Int) : Int) < n))) rfl rfl rfl rfl ?_
        refine r_y rfl ?_
        refine r_v (Value.bool (((onesI (n)).getLsbD (k)) != (decide ((((k : Nat) : Int) : Int) < n)))) rfl rfl rfl (ev_binBn rfl rfl rfl) ?_
        refine r_v (Value.bool (((onesI (n)).getLsbD (k)) != (decide ((((k : Nat) : Int) : Int) < n)))) rfl rfl rfl rfl ?_
        refine r_v (Value.bool (((onesI (n)).getLsbD (k)) != (decide ((((k : Nat) : Int) : Int) < n)))) rfl rfl rfl rfl ?_
        have hg33 : (((onesI (n)).getLsbD (k)) != (decide ((((k : Nat) : Int) : Int) < n))) = false := (by rw [onesI_bit n k (by omega)]; exact bne_self_eq_false _)
        rw [hg33]
        refine r_y rfl ?_
        refine r_l (Value.agg #[U (hi (x)), U (lo (x))]) 8 _ _ _ _ rfl rfl rfl rfl rfl ?_
        refine r_y rfl ?_
        refine r_v (Value.int .i64 (((k : Nat) : Int))) rfl rfl rfl rfl ?_
        refine r_y rfl ?_
        refine r_c (Value.bool (bitI (x) (((k : Nat) : Int)))) rfl _ _ (ev_callF rfl call_25 rfl) (bit_g (x) (((k : Nat) : Int)) (by omega) (by omega)) ?_
        refine r_y rfl ?_
        refine r_v (Value.int .i64 (((k : Nat) : Int))) rfl rfl rfl rfl ?_
        refine r_y rfl ?_
        have hx104 := ev_v (ev_idx (P := Try.prog) (c := fun _ => none) (t := 28) (b := b5) (off := 0) (k) rfl rfl rfl (by omega))
        rw [Nat.zero_add] at hx104
        refine r_v (Value.pointer (some ⟨b5, k, none⟩)) rfl rfl rfl hx104 ?_
        clear hx104
        refine r_y rfl ?_
        refine r_l (Value.bool ((x).getLsbD (k))) 6 _ _ _ _ rfl rfl rfl rfl (ld_row1 rfl _ (by omega)) ?_
        refine r_y rfl ?_
        refine r_v (Value.bool ((bitI (x) (((k : Nat) : Int))) != ((x).getLsbD (k)))) rfl rfl rfl (ev_binBn rfl rfl rfl) ?_
        refine r_v (Value.bool ((bitI (x) (((k : Nat) : Int))) != ((x).getLsbD (k)))) rfl rfl rfl rfl ?_
        refine lx_nil ?_
        refine hK19 _ _ ?_; try clear hK19 K19
        refine A_cond ((bitI (x) (((k : Nat) : Int))) != ((x).getLsbD (k))) rfl (fun h => absurd (h.symm.trans (show ((bitI (x) (((k : Nat) : Int))) != ((x).getLsbD (k))) = false from (by rw [bitI_nat x k (by omega)]; exact bne_self_eq_false _))) (by decide)) (fun _ => ?_)
        refine A_skip ?_
        refine hK18 _ _ ?_; try clear hK18 K18
        refine A_reg ?_
        refine r_v (Value.int .i64 (((k : Nat) : Int))) rfl rfl rfl rfl ?_
        refine r_v (Value.int .i64 (((k + 1 : Nat) : Int))) rfl rfl (wi64 (by omega) (by omega) (by omega)) rfl ?_
        refine r_v (Value.int .i64 (((k + 1 : Nat) : Int))) rfl rfl rfl rfl ?_
        refine lx_nil ?_
        refine fg _ (List.Sublist.cons_cons _ (List.Sublist.cons_cons _ (List.Sublist.cons_cons _ (List.Sublist.cons_cons _ (List.Sublist.cons_cons _ (List.Sublist.cons_cons _ (List.Sublist.cons_cons _ (List.Sublist.cons_cons _ (List.Sublist.cons_cons _ (List.Sublist.slnil)))))))))) ?_
        exact ⟨_, by omega, k + 1, by omega, is_mk (rfl) (rfl), rfl⟩
    · have hc17x := of_decide_eq_false hc17
      refine A_exit ?_
      refine hK13 _ _ ?_; try clear hK13 K13
      refine A_seq fun K35 hK35 => ?_
      refine A_reg ?_
      refine r_v (Value.int .i64 (0)) rfl rfl rfl rfl ?_
      refine lx_nil ?_
      refine hK35 _ _ ?_; try clear hK35 K35
      refine A_seq fun K36 hK36 => ?_
      refine A_seq fun K37 hK37 => ?_
      refine A_reg ?_
      refine r_v (Value.int .i64 (n)) rfl rfl rfl rfl ?_
      refine r_v (Value.bool (decide ((n : Int) > -128))) rfl rfl rfl rfl ?_
      refine r_v (Value.bool (decide ((n : Int) > -128))) rfl rfl rfl rfl ?_
      rcases hg38 : (decide ((n : Int) > -128)) with _ | _
      · have hg38x := of_decide_eq_false hg38
        refine r_n false rfl (by decide) rfl ?_
        refine r_n false rfl (by decide) rfl ?_
        refine r_v (Value.bool (false)) rfl rfl rfl rfl ?_
        refine lx_nil ?_
        refine hK37 _ _ ?_; try clear hK37 K37
        refine A_cond false rfl (fun h => nomatch h) (fun _ => ?_)
        refine A_reg ?_
        refine r_v (Value.int .i64 (128)) rfl rfl rfl rfl ?_
        refine lx_nil ?_
        refine hK36 _ _ ?_; try clear hK36 K36
        refine A_seq fun K40 hK40 => ?_
        refine A_seq fun K41 hK41 => ?_
        refine A_reg ?_
        refine r_l (Value.agg #[U (hi (x)), U (lo (x))]) 8 _ _ _ _ rfl rfl rfl rfl rfl ?_
        refine r_v (Value.int .i64 (n)) rfl rfl rfl rfl ?_
        refine r_c (Value.bool (bitI (x) (n))) rfl _ _ (ev_callF rfl call_25 rfl) (bit_g (x) (n) (by omega) (by omega)) ?_
        refine r_v (Value.int .i64 (n)) rfl rfl rfl rfl ?_
        refine r_v (Value.bool (decide ((n : Int) ≥ 0))) rfl rfl rfl rfl ?_
        refine r_v (Value.bool (decide ((n : Int) ≥ 0))) rfl rfl rfl rfl ?_
        rcases hg42 : (decide ((n : Int) ≥ 0)) with _ | _
        · have hg42x := of_decide_eq_false hg42
          refine r_n false rfl (by decide) rfl ?_
          refine r_n false rfl (by decide) rfl ?_
          refine r_v (Value.bool (false)) rfl rfl rfl rfl ?_
          refine r_v (Value.bool (false)) rfl rfl rfl rfl ?_
          refine r_n false rfl (by decide) rfl ?_
          refine r_n false rfl (by decide) rfl ?_
          refine r_n false rfl (by decide) rfl ?_
          refine r_n false rfl (by decide) rfl ?_
          refine r_n false rfl (by decide) rfl ?_
          refine r_v (Value.bool (false)) rfl rfl rfl rfl ?_
          refine r_v (Value.bool ((bitI (x) (n)) != (false))) rfl rfl rfl (ev_binBn rfl rfl rfl) ?_
          refine lx_nil ?_
          refine hK41 _ _ ?_; try clear hK41 K41
          refine A_cond ((bitI (x) (n)) != (false)) rfl (fun h => absurd (h.symm.trans (show ((bitI (x) (n)) != (false)) = false from (by first | (rw [bitI_val (by omega) (by omega)]; exact bne_self_eq_false _) | (rw [← bitI_out (by omega)]; rfl)))) (by decide)) (fun _ => ?_)
          refine A_skip ?_
          refine hK40 _ _ ?_; try clear hK40 K40
          refine A_seq fun K44 hK44 => ?_
          refine A_draw [] (by decide +kernel) (fun hn => sep_nil) ?_
          refine r_l (Value.agg #[U (hi (x)), U (lo (x))]) 8 _ _ _ _ rfl rfl rfl rfl rfl ?_
          refine r_v (Value.int .i64 (n)) rfl rfl rfl rfl ?_
          refine r_c (Value.agg #[U (hi (shiftI (x) (n))), U (lo (shiftI (x) (n)))]) rfl _ _ (ev_callF rfl call_26 rfl) (shl_g (x) (n) (by omega) (by omega)) ?_
          refine r_c (Value.agg (rowF (BitVec.getLsbD (shiftI (x) (n))))) rfl _ _ (ev_callF rfl call_11 rfl) (lof_g (shiftI (x) (n))) ?_
          refine r_l (Value.agg (rowF (BitVec.getLsbD (x)))) 6 _ _ _ _ rfl rfl rfl rfl (ld_rows rfl rfl rfl _) ?_
          refine r_v (Value.int .i64 (n)) rfl rfl rfl rfl ?_
          refine r_c (Value.agg (rowF (BitVec.getLsbD (shiftI (x) (n))))) rfl _ _ (ev_callF rfl call_27 rfl) (moved_g (x) (n) (by omega) (by omega)) ?_
          refine r_v (Value.bool ((shiftI (x) (n)) == (shiftI (x) (n)))) rfl rfl rfl (ev_binEq rfl rfl eg_28 (eqrow_28 (shiftI (x) (n)) (shiftI (x) (n)))) ?_
          refine r_v (Value.bool ((shiftI (x) (n)) == (shiftI (x) (n)))) rfl rfl rfl rfl ?_
          have hg45 : ((shiftI (x) (n)) == (shiftI (x) (n))) = true := beq_self_eq_true _
          rw [hg45]
          refine r_y rfl ?_
          refine r_l (Value.agg #[U (hi (x)), U (lo (x))]) 8 _ _ _ _ rfl rfl rfl rfl rfl ?_
          refine r_y rfl ?_
          refine r_v (Value.int .i64 (n)) rfl rfl rfl rfl ?_
          refine r_y rfl ?_
          refine r_c (Value.agg #[U (hi (shiftI (x) (-(n)))), U (lo (shiftI (x) (-(n))))]) rfl _ _ (ev_callF rfl call_28 rfl) (shr_g (x) (n) (by omega) (by omega)) ?_
          refine r_y rfl ?_
          refine r_c (Value.agg (rowF (BitVec.getLsbD (shiftI (x) (-(n)))))) rfl _ _ (ev_callF rfl call_11 rfl) (lof_g (shiftI (x) (-(n)))) ?_
          refine r_y rfl ?_
          refine r_l (Value.agg (rowF (BitVec.getLsbD (x)))) 6 _ _ _ _ rfl rfl rfl rfl (ld_rows rfl rfl rfl _) ?_
          refine r_y rfl ?_
          refine r_v (Value.int .i64 (128)) rfl rfl rfl rfl ?_
          refine r_y rfl ?_
          refine r_c (Value.agg (rowF (BitVec.getLsbD (shiftI (x) (128))))) rfl _ _ (ev_callF rfl call_27 rfl) (moved_g (x) (128) (by omega) (by omega)) ?_
          refine r_y rfl ?_
          refine r_v (Value.bool ((shiftI (x) (-(n))) == (shiftI (x) (128)))) rfl rfl rfl (ev_binEq rfl rfl eg_28 (eqrow_28 (shiftI (x) (-(n))) (shiftI (x) (128)))) ?_
          refine r_v (Value.bool ((shiftI (x) (-(n))) == (shiftI (x) (128)))) rfl rfl rfl rfl ?_
          refine r_v (Value.bool ((shiftI (x) (-(n))) == (shiftI (x) (128)))) rfl rfl rfl rfl ?_
          have hg46 : ((shiftI (x) (-(n))) == (shiftI (x) (128))) = true := (shiftI_out_eq x n (by omega))
          rw [hg46]
          refine r_y rfl ?_
          refine r_c (Value.bool (true)) rfl _ _ (ev_callF rfl call_14 rfl) lives_g ?_
          refine r_v (Value.bool (true)) rfl rfl rfl rfl ?_
          refine r_v (Value.bool (true)) rfl rfl rfl rfl ?_
          refine lx_nil ?_
          refine hK44 _ _ ?_; try clear hK44 K44
          refine A_ret (fun hn => ends_eq (v0 := Value.bool (true)) rfl (res1 rfl))
        · have hg42x := of_decide_eq_true hg42
          refine r_y rfl ?_
          refine r_v (Value.int .i64 (n)) rfl rfl rfl rfl ?_
          refine r_y rfl ?_
          refine r_v (Value.bool (decide ((n : Int) < 128))) rfl rfl rfl rfl ?_
          refine r_v (Value.bool (decide ((n : Int) < 128))) rfl rfl rfl rfl ?_
          refine r_v (Value.bool (decide ((n : Int) < 128))) rfl rfl rfl rfl ?_
          rcases hg47 : (decide ((n : Int) < 128)) with _ | _
          · have hg47x := of_decide_eq_false hg47
            refine r_n false rfl (by decide) rfl ?_
            refine r_n false rfl (by decide) rfl ?_
            refine r_n false rfl (by decide) rfl ?_
            refine r_n false rfl (by decide) rfl ?_
            refine r_n false rfl (by decide) rfl ?_
            refine r_v (Value.bool (false)) rfl rfl rfl rfl ?_
            refine r_v (Value.bool ((bitI (x) (n)) != (false))) rfl rfl rfl (ev_binBn rfl rfl rfl) ?_
            refine lx_nil ?_
            refine hK41 _ _ ?_; try clear hK41 K41
            refine A_cond ((bitI (x) (n)) != (false)) rfl (fun h => absurd (h.symm.trans (show ((bitI (x) (n)) != (false)) = false from (by first | (rw [bitI_val (by omega) (by omega)]; exact bne_self_eq_false _) | (rw [← bitI_out (by omega)]; rfl)))) (by decide)) (fun _ => ?_)
            refine A_skip ?_
            refine hK40 _ _ ?_; try clear hK40 K40
            refine A_seq fun K49 hK49 => ?_
            refine A_draw [] (by decide +kernel) (fun hn => sep_nil) ?_
            refine r_l (Value.agg #[U (hi (x)), U (lo (x))]) 8 _ _ _ _ rfl rfl rfl rfl rfl ?_
            refine r_v (Value.int .i64 (n)) rfl rfl rfl rfl ?_
            refine r_c (Value.agg #[U (hi (shiftI (x) (n))), U (lo (shiftI (x) (n)))]) rfl _ _ (ev_callF rfl call_26 rfl) (shl_g (x) (n) (by omega) (by omega)) ?_
            refine r_c (Value.agg (rowF (BitVec.getLsbD (shiftI (x) (n))))) rfl _ _ (ev_callF rfl call_11 rfl) (lof_g (shiftI (x) (n))) ?_
            refine r_l (Value.agg (rowF (BitVec.getLsbD (x)))) 6 _ _ _ _ rfl rfl rfl rfl (ld_rows rfl rfl rfl _) ?_
            refine r_v (Value.int .i64 (n)) rfl rfl rfl rfl ?_
            refine r_c (Value.agg (rowF (BitVec.getLsbD (shiftI (x) (n))))) rfl _ _ (ev_callF rfl call_27 rfl) (moved_g (x) (n) (by omega) (by omega)) ?_
            refine r_v (Value.bool ((shiftI (x) (n)) == (shiftI (x) (n)))) rfl rfl rfl (ev_binEq rfl rfl eg_28 (eqrow_28 (shiftI (x) (n)) (shiftI (x) (n)))) ?_
            refine r_v (Value.bool ((shiftI (x) (n)) == (shiftI (x) (n)))) rfl rfl rfl rfl ?_
            have hg50 : ((shiftI (x) (n)) == (shiftI (x) (n))) = true := beq_self_eq_true _
            rw [hg50]
            refine r_y rfl ?_
            refine r_l (Value.agg #[U (hi (x)), U (lo (x))]) 8 _ _ _ _ rfl rfl rfl rfl rfl ?_
            refine r_y rfl ?_
            refine r_v (Value.int .i64 (n)) rfl rfl rfl rfl ?_
            refine r_y rfl ?_
            refine r_c (Value.agg #[U (hi (shiftI (x) (-(n)))), U (lo (shiftI (x) (-(n))))]) rfl _ _ (ev_callF rfl call_28 rfl) (shr_g (x) (n) (by omega) (by omega)) ?_
            refine r_y rfl ?_
            refine r_c (Value.agg (rowF (BitVec.getLsbD (shiftI (x) (-(n)))))) rfl _ _ (ev_callF rfl call_11 rfl) (lof_g (shiftI (x) (-(n)))) ?_
            refine r_y rfl ?_
            refine r_l (Value.agg (rowF (BitVec.getLsbD (x)))) 6 _ _ _ _ rfl rfl rfl rfl (ld_rows rfl rfl rfl _) ?_
            refine r_y rfl ?_
            refine r_v (Value.int .i64 (128)) rfl rfl rfl rfl ?_
            refine r_y rfl ?_
            refine r_c (Value.agg (rowF (BitVec.getLsbD (shiftI (x) (128))))) rfl _ _ (ev_callF rfl call_27 rfl) (moved_g (x) (128) (by omega) (by omega)) ?_
            refine r_y rfl ?_
            refine r_v (Value.bool ((shiftI (x) (-(n))) == (shiftI (x) (128)))) rfl rfl rfl (ev_binEq rfl rfl eg_28 (eqrow_28 (shiftI (x) (-(n))) (shiftI (x) (128)))) ?_
            refine r_v (Value.bool ((shiftI (x) (-(n))) == (shiftI (x) (128)))) rfl rfl rfl rfl ?_
            refine r_v (Value.bool ((shiftI (x) (-(n))) == (shiftI (x) (128)))) rfl rfl rfl rfl ?_
            have hg51 : ((shiftI (x) (-(n))) == (shiftI (x) (128))) = true := (shiftI_out_eq x n (by omega))
            rw [hg51]
            refine r_y rfl ?_
            refine r_c (Value.bool (true)) rfl _ _ (ev_callF rfl call_14 rfl) lives_g ?_
            refine r_v (Value.bool (true)) rfl rfl rfl rfl ?_
            refine r_v (Value.bool (true)) rfl rfl rfl rfl ?_
            refine lx_nil ?_
            refine hK49 _ _ ?_; try clear hK49 K49
            refine A_ret (fun hn => ends_eq (v0 := Value.bool (true)) rfl (res1 rfl))
          · have hg47x := of_decide_eq_true hg47
            refine r_y rfl ?_
            refine r_v (Value.int .i64 (n)) rfl rfl rfl rfl ?_
            refine r_y rfl ?_
            refine r_v (Value.int .i64 (max (n) (0))) rfl rfl rfl (ev_max rfl rfl) ?_
            refine r_y rfl ?_
            refine r_v (Value.int .i64 (((n.toNat : Nat) : Int))) rfl rfl (congrArg (Value.int .i64) (by omega)) (ev_min rfl rfl) ?_
            refine r_y rfl ?_
            have hx129 := ev_v (ev_idx (P := Try.prog) (c := fun _ => none) (t := 28) (b := b5) (off := 0) (n.toNat) rfl rfl rfl (by omega))
            rw [Nat.zero_add] at hx129
            refine r_v (Value.pointer (some ⟨b5, n.toNat, none⟩)) rfl rfl rfl hx129 ?_
            clear hx129
            refine r_y rfl ?_
            refine r_l (Value.bool ((x).getLsbD (n.toNat))) 6 _ _ _ _ rfl rfl rfl rfl (ld_row1 rfl _ (by omega)) ?_
            refine r_v (Value.bool ((x).getLsbD (n.toNat))) rfl rfl rfl rfl ?_
            refine r_v (Value.bool ((bitI (x) (n)) != ((x).getLsbD (n.toNat)))) rfl rfl rfl (ev_binBn rfl rfl rfl) ?_
            refine lx_nil ?_
            refine hK41 _ _ ?_; try clear hK41 K41
            refine A_cond ((bitI (x) (n)) != ((x).getLsbD (n.toNat))) rfl (fun h => absurd (h.symm.trans (show ((bitI (x) (n)) != ((x).getLsbD (n.toNat))) = false from (by first | (rw [bitI_val (by omega) (by omega)]; exact bne_self_eq_false _) | (rw [← bitI_out (by omega)]; rfl)))) (by decide)) (fun _ => ?_)
            refine A_skip ?_
            refine hK40 _ _ ?_; try clear hK40 K40
            refine A_seq fun K53 hK53 => ?_
            refine A_draw [] (by decide +kernel) (fun hn => sep_nil) ?_
            refine r_l (Value.agg #[U (hi (x)), U (lo (x))]) 8 _ _ _ _ rfl rfl rfl rfl rfl ?_
            refine r_v (Value.int .i64 (n)) rfl rfl rfl rfl ?_
            refine r_c (Value.agg #[U (hi (shiftI (x) (n))), U (lo (shiftI (x) (n)))]) rfl _ _ (ev_callF rfl call_26 rfl) (shl_g (x) (n) (by omega) (by omega)) ?_
            refine r_c (Value.agg (rowF (BitVec.getLsbD (shiftI (x) (n))))) rfl _ _ (ev_callF rfl call_11 rfl) (lof_g (shiftI (x) (n))) ?_
            refine r_l (Value.agg (rowF (BitVec.getLsbD (x)))) 6 _ _ _ _ rfl rfl rfl rfl (ld_rows rfl rfl rfl _) ?_
            refine r_v (Value.int .i64 (n)) rfl rfl rfl rfl ?_
            refine r_c (Value.agg (rowF (BitVec.getLsbD (shiftI (x) (n))))) rfl _ _ (ev_callF rfl call_27 rfl) (moved_g (x) (n) (by omega) (by omega)) ?_
            refine r_v (Value.bool ((shiftI (x) (n)) == (shiftI (x) (n)))) rfl rfl rfl (ev_binEq rfl rfl eg_28 (eqrow_28 (shiftI (x) (n)) (shiftI (x) (n)))) ?_
            refine r_v (Value.bool ((shiftI (x) (n)) == (shiftI (x) (n)))) rfl rfl rfl rfl ?_
            have hg54 : ((shiftI (x) (n)) == (shiftI (x) (n))) = true := beq_self_eq_true _
            rw [hg54]
            refine r_y rfl ?_
            refine r_l (Value.agg #[U (hi (x)), U (lo (x))]) 8 _ _ _ _ rfl rfl rfl rfl rfl ?_
            refine r_y rfl ?_
            refine r_v (Value.int .i64 (n)) rfl rfl rfl rfl ?_
            refine r_y rfl ?_
            refine r_c (Value.agg #[U (hi (shiftI (x) (-(n)))), U (lo (shiftI (x) (-(n))))]) rfl _ _ (ev_callF rfl call_28 rfl) (shr_g (x) (n) (by omega) (by omega)) ?_
            refine r_y rfl ?_
            refine r_c (Value.agg (rowF (BitVec.getLsbD (shiftI (x) (-(n)))))) rfl _ _ (ev_callF rfl call_11 rfl) (lof_g (shiftI (x) (-(n)))) ?_
            refine r_y rfl ?_
            refine r_l (Value.agg (rowF (BitVec.getLsbD (x)))) 6 _ _ _ _ rfl rfl rfl rfl (ld_rows rfl rfl rfl _) ?_
            refine r_y rfl ?_
            refine r_v (Value.int .i64 (128)) rfl rfl rfl rfl ?_
            refine r_y rfl ?_
            refine r_c (Value.agg (rowF (BitVec.getLsbD (shiftI (x) (128))))) rfl _ _ (ev_callF rfl call_27 rfl) (moved_g (x) (128) (by omega) (by omega)) ?_
            refine r_y rfl ?_
            refine r_v (Value.bool ((shiftI (x) (-(n))) == (shiftI (x) (128)))) rfl rfl rfl (ev_binEq rfl rfl eg_28 (eqrow_28 (shiftI (x) (-(n))) (shiftI (x) (128)))) ?_
            refine r_v (Value.bool ((shiftI (x) (-(n))) == (shiftI (x) (128)))) rfl rfl rfl rfl ?_
            refine r_v (Value.bool ((shiftI (x) (-(n))) == (shiftI (x) (128)))) rfl rfl rfl rfl ?_
            have hg55 : ((shiftI (x) (-(n))) == (shiftI (x) (128))) = true := (shiftI_out_eq x n (by omega))
            rw [hg55]
            refine r_y rfl ?_
            refine r_c (Value.bool (true)) rfl _ _ (ev_callF rfl call_14 rfl) lives_g ?_
            refine r_v (Value.bool (true)) rfl rfl rfl rfl ?_
            refine r_v (Value.bool (true)) rfl rfl rfl rfl ?_
            refine lx_nil ?_
            refine hK53 _ _ ?_; try clear hK53 K53
            refine A_ret (fun hn => ends_eq (v0 := Value.bool (true)) rfl (res1 rfl))
      · have hg38x := of_decide_eq_true hg38
        refine r_y rfl ?_
        refine r_v (Value.int .i64 (n)) rfl rfl rfl rfl ?_
        refine r_y rfl ?_
        refine r_v (Value.bool (decide ((n : Int) < 128))) rfl rfl rfl rfl ?_
        refine r_v (Value.bool (decide ((n : Int) < 128))) rfl rfl rfl rfl ?_
        refine lx_nil ?_
        refine hK37 _ _ ?_; try clear hK37 K37
        refine A_cond (decide ((n : Int) < 128)) rfl (fun hc56 => ?_) (fun hc56 => ?_)
        · have hc56x := of_decide_eq_true hc56
          refine A_reg ?_
          refine r_v (Value.int .i64 (n)) rfl rfl rfl rfl ?_
          refine r_v (Value.int .i64 (0 - (n))) rfl rfl (wi64 rfl (by omega) (by omega)) rfl ?_
          refine r_v (Value.int .i64 (0 - (n))) rfl rfl rfl rfl ?_
          refine lx_nil ?_
          refine hK36 _ _ ?_; try clear hK36 K36
          refine A_seq fun K57 hK57 => ?_
          refine A_seq fun K58 hK58 => ?_
          refine A_reg ?_
          refine r_l (Value.agg #[U (hi (x)), U (lo (x))]) 8 _ _ _ _ rfl rfl rfl rfl rfl ?_
          refine r_v (Value.int .i64 (n)) rfl rfl rfl rfl ?_
          refine r_c (Value.bool (bitI (x) (n))) rfl _ _ (ev_callF rfl call_25 rfl) (bit_g (x) (n) (by omega) (by omega)) ?_
          refine r_v (Value.int .i64 (n)) rfl rfl rfl rfl ?_
          refine r_v (Value.bool (decide ((n : Int) ≥ 0))) rfl rfl rfl rfl ?_
          refine r_v (Value.bool (decide ((n : Int) ≥ 0))) rfl rfl rfl rfl ?_
          rcases hg59 : (decide ((n : Int) ≥ 0)) with _ | _
          · have hg59x := of_decide_eq_false hg59
            refine r_n false rfl (by decide) rfl ?_
            refine r_n false rfl (by decide) rfl ?_
            refine r_v (Value.bool (false)) rfl rfl rfl rfl ?_
            refine r_v (Value.bool (false)) rfl rfl rfl rfl ?_
            refine r_n false rfl (by decide) rfl ?_
            refine r_n false rfl (by decide) rfl ?_
            refine r_n false rfl (by decide) rfl ?_
            refine r_n false rfl (by decide) rfl ?_
            refine r_n false rfl (by decide) rfl ?_
            refine r_v (Value.bool (false)) rfl rfl rfl rfl ?_
            refine r_v (Value.bool ((bitI (x) (n)) != (false))) rfl rfl rfl (ev_binBn rfl rfl rfl) ?_
            refine lx_nil ?_
            refine hK58 _ _ ?_; try clear hK58 K58
            refine A_cond ((bitI (x) (n)) != (false)) rfl (fun h => absurd (h.symm.trans (show ((bitI (x) (n)) != (false)) = false from (by first | (rw [bitI_val (by omega) (by omega)]; exact bne_self_eq_false _) | (rw [← bitI_out (by omega)]; rfl)))) (by decide)) (fun _ => ?_)
            refine A_skip ?_
            refine hK57 _ _ ?_; try clear hK57 K57
            refine A_seq fun K61 hK61 => ?_
            refine A_draw [] (by decide +kernel) (fun hn => sep_nil) ?_
            refine r_l (Value.agg #[U (hi (x)), U (lo (x))]) 8 _ _ _ _ rfl rfl rfl rfl rfl ?_
            refine r_v (Value.int .i64 (n)) rfl rfl rfl rfl ?_
            refine r_c (Value.agg #[U (hi (shiftI (x) (n))), U (lo (shiftI (x) (n)))]) rfl _ _ (ev_callF rfl call_26 rfl) (shl_g (x) (n) (by omega) (by omega)) ?_
            refine r_c (Value.agg (rowF (BitVec.getLsbD (shiftI (x) (n))))) rfl _ _ (ev_callF rfl call_11 rfl) (lof_g (shiftI (x) (n))) ?_
            refine r_l (Value.agg (rowF (BitVec.getLsbD (x)))) 6 _ _ _ _ rfl rfl rfl rfl (ld_rows rfl rfl rfl _) ?_
            refine r_v (Value.int .i64 (n)) rfl rfl rfl rfl ?_
            refine r_c (Value.agg (rowF (BitVec.getLsbD (shiftI (x) (n))))) rfl _ _ (ev_callF rfl call_27 rfl) (moved_g (x) (n) (by omega) (by omega)) ?_
            refine r_v (Value.bool ((shiftI (x) (n)) == (shiftI (x) (n)))) rfl rfl rfl (ev_binEq rfl rfl eg_28 (eqrow_28 (shiftI (x) (n)) (shiftI (x) (n)))) ?_
            refine r_v (Value.bool ((shiftI (x) (n)) == (shiftI (x) (n)))) rfl rfl rfl rfl ?_
            have hg62 : ((shiftI (x) (n)) == (shiftI (x) (n))) = true := beq_self_eq_true _
            rw [hg62]
            refine r_y rfl ?_
            refine r_l (Value.agg #[U (hi (x)), U (lo (x))]) 8 _ _ _ _ rfl rfl rfl rfl rfl ?_
            refine r_y rfl ?_
            refine r_v (Value.int .i64 (n)) rfl rfl rfl rfl ?_
            refine r_y rfl ?_
            refine r_c (Value.agg #[U (hi (shiftI (x) (-(n)))), U (lo (shiftI (x) (-(n))))]) rfl _ _ (ev_callF rfl call_28 rfl) (shr_g (x) (n) (by omega) (by omega)) ?_
            refine r_y rfl ?_
            refine r_c (Value.agg (rowF (BitVec.getLsbD (shiftI (x) (-(n)))))) rfl _ _ (ev_callF rfl call_11 rfl) (lof_g (shiftI (x) (-(n)))) ?_
            refine r_y rfl ?_
            refine r_l (Value.agg (rowF (BitVec.getLsbD (x)))) 6 _ _ _ _ rfl rfl rfl rfl (ld_rows rfl rfl rfl _) ?_
            refine r_y rfl ?_
            refine r_v (Value.int .i64 (0 - (n))) rfl rfl rfl rfl ?_
            refine r_y rfl ?_
            refine r_c (Value.agg (rowF (BitVec.getLsbD (shiftI (x) (0 - (n)))))) rfl _ _ (ev_callF rfl call_27 rfl) (moved_g (x) (0 - (n)) (by omega) (by omega)) ?_
            refine r_y rfl ?_
            refine r_v (Value.bool ((shiftI (x) (-(n))) == (shiftI (x) (0 - (n))))) rfl rfl rfl (ev_binEq rfl rfl eg_28 (eqrow_28 (shiftI (x) (-(n))) (shiftI (x) (0 - (n))))) ?_
            refine r_v (Value.bool ((shiftI (x) (-(n))) == (shiftI (x) (0 - (n))))) rfl rfl rfl rfl ?_
            refine r_v (Value.bool ((shiftI (x) (-(n))) == (shiftI (x) (0 - (n))))) rfl rfl rfl rfl ?_
            have hg63 : ((shiftI (x) (-(n))) == (shiftI (x) (0 - (n)))) = true := (shiftI_neg_eq x n)
            rw [hg63]
            refine r_y rfl ?_
            refine r_c (Value.bool (true)) rfl _ _ (ev_callF rfl call_14 rfl) lives_g ?_
            refine r_v (Value.bool (true)) rfl rfl rfl rfl ?_
            refine r_v (Value.bool (true)) rfl rfl rfl rfl ?_
            refine lx_nil ?_
            refine hK61 _ _ ?_; try clear hK61 K61
            refine A_ret (fun hn => ends_eq (v0 := Value.bool (true)) rfl (res1 rfl))
          · have hg59x := of_decide_eq_true hg59
            refine r_y rfl ?_
            refine r_v (Value.int .i64 (n)) rfl rfl rfl rfl ?_
            refine r_y rfl ?_
            refine r_v (Value.bool (decide ((n : Int) < 128))) rfl rfl rfl rfl ?_
            refine r_v (Value.bool (decide ((n : Int) < 128))) rfl rfl rfl rfl ?_
            refine r_v (Value.bool (decide ((n : Int) < 128))) rfl rfl rfl rfl ?_
            have hg64 : (decide ((n : Int) < 128)) = true := hc56
            rw [hg64]
            refine r_y rfl ?_
            refine r_v (Value.int .i64 (n)) rfl rfl rfl rfl ?_
            refine r_y rfl ?_
            refine r_v (Value.int .i64 (max (n) (0))) rfl rfl rfl (ev_max rfl rfl) ?_
            refine r_y rfl ?_
            refine r_v (Value.int .i64 (((n.toNat : Nat) : Int))) rfl rfl (congrArg (Value.int .i64) (by omega)) (ev_min rfl rfl) ?_
            refine r_y rfl ?_
            have hx129 := ev_v (ev_idx (P := Try.prog) (c := fun _ => none) (t := 28) (b := b5) (off := 0) (n.toNat) rfl rfl rfl (by omega))
            rw [Nat.zero_add] at hx129
            refine r_v (Value.pointer (some ⟨b5, n.toNat, none⟩)) rfl rfl rfl hx129 ?_
            clear hx129
            refine r_y rfl ?_
            refine r_l (Value.bool ((x).getLsbD (n.toNat))) 6 _ _ _ _ rfl rfl rfl rfl (ld_row1 rfl _ (by omega)) ?_
            refine r_v (Value.bool ((x).getLsbD (n.toNat))) rfl rfl rfl rfl ?_
            refine r_v (Value.bool ((bitI (x) (n)) != ((x).getLsbD (n.toNat)))) rfl rfl rfl (ev_binBn rfl rfl rfl) ?_
            refine lx_nil ?_
            refine hK58 _ _ ?_; try clear hK58 K58
            refine A_cond ((bitI (x) (n)) != ((x).getLsbD (n.toNat))) rfl (fun h => absurd (h.symm.trans (show ((bitI (x) (n)) != ((x).getLsbD (n.toNat))) = false from (by first | (rw [bitI_val (by omega) (by omega)]; exact bne_self_eq_false _) | (rw [← bitI_out (by omega)]; rfl)))) (by decide)) (fun _ => ?_)
            refine A_skip ?_
            refine hK57 _ _ ?_; try clear hK57 K57
            refine A_seq fun K66 hK66 => ?_
            refine A_draw [] (by decide +kernel) (fun hn => sep_nil) ?_
            refine r_l (Value.agg #[U (hi (x)), U (lo (x))]) 8 _ _ _ _ rfl rfl rfl rfl rfl ?_
            refine r_v (Value.int .i64 (n)) rfl rfl rfl rfl ?_
            refine r_c (Value.agg #[U (hi (shiftI (x) (n))), U (lo (shiftI (x) (n)))]) rfl _ _ (ev_callF rfl call_26 rfl) (shl_g (x) (n) (by omega) (by omega)) ?_
            refine r_c (Value.agg (rowF (BitVec.getLsbD (shiftI (x) (n))))) rfl _ _ (ev_callF rfl call_11 rfl) (lof_g (shiftI (x) (n))) ?_
            refine r_l (Value.agg (rowF (BitVec.getLsbD (x)))) 6 _ _ _ _ rfl rfl rfl rfl (ld_rows rfl rfl rfl _) ?_
            refine r_v (Value.int .i64 (n)) rfl rfl rfl rfl ?_
            refine r_c (Value.agg (rowF (BitVec.getLsbD (shiftI (x) (n))))) rfl _ _ (ev_callF rfl call_27 rfl) (moved_g (x) (n) (by omega) (by omega)) ?_
            refine r_v (Value.bool ((shiftI (x) (n)) == (shiftI (x) (n)))) rfl rfl rfl (ev_binEq rfl rfl eg_28 (eqrow_28 (shiftI (x) (n)) (shiftI (x) (n)))) ?_
            refine r_v (Value.bool ((shiftI (x) (n)) == (shiftI (x) (n)))) rfl rfl rfl rfl ?_
            have hg67 : ((shiftI (x) (n)) == (shiftI (x) (n))) = true := beq_self_eq_true _
            rw [hg67]
            refine r_y rfl ?_
            refine r_l (Value.agg #[U (hi (x)), U (lo (x))]) 8 _ _ _ _ rfl rfl rfl rfl rfl ?_
            refine r_y rfl ?_
            refine r_v (Value.int .i64 (n)) rfl rfl rfl rfl ?_
            refine r_y rfl ?_
            refine r_c (Value.agg #[U (hi (shiftI (x) (-(n)))), U (lo (shiftI (x) (-(n))))]) rfl _ _ (ev_callF rfl call_28 rfl) (shr_g (x) (n) (by omega) (by omega)) ?_
            refine r_y rfl ?_
            refine r_c (Value.agg (rowF (BitVec.getLsbD (shiftI (x) (-(n)))))) rfl _ _ (ev_callF rfl call_11 rfl) (lof_g (shiftI (x) (-(n)))) ?_
            refine r_y rfl ?_
            refine r_l (Value.agg (rowF (BitVec.getLsbD (x)))) 6 _ _ _ _ rfl rfl rfl rfl (ld_rows rfl rfl rfl _) ?_
            refine r_y rfl ?_
            refine r_v (Value.int .i64 (0 - (n))) rfl rfl rfl rfl ?_
            refine r_y rfl ?_
            refine r_c (Value.agg (rowF (BitVec.getLsbD (shiftI (x) (0 - (n)))))) rfl _ _ (ev_callF rfl call_27 rfl) (moved_g (x) (0 - (n)) (by omega) (by omega)) ?_
            refine r_y rfl ?_
            refine r_v (Value.bool ((shiftI (x) (-(n))) == (shiftI (x) (0 - (n))))) rfl rfl rfl (ev_binEq rfl rfl eg_28 (eqrow_28 (shiftI (x) (-(n))) (shiftI (x) (0 - (n))))) ?_
            refine r_v (Value.bool ((shiftI (x) (-(n))) == (shiftI (x) (0 - (n))))) rfl rfl rfl rfl ?_
            refine r_v (Value.bool ((shiftI (x) (-(n))) == (shiftI (x) (0 - (n))))) rfl rfl rfl rfl ?_
            have hg68 : ((shiftI (x) (-(n))) == (shiftI (x) (0 - (n)))) = true := (shiftI_neg_eq x n)
            rw [hg68]
            refine r_y rfl ?_
            refine r_c (Value.bool (true)) rfl _ _ (ev_callF rfl call_14 rfl) lives_g ?_
            refine r_v (Value.bool (true)) rfl rfl rfl rfl ?_
            refine r_v (Value.bool (true)) rfl rfl rfl rfl ?_
            refine lx_nil ?_
            refine hK66 _ _ ?_; try clear hK66 K66
            refine A_ret (fun hn => ends_eq (v0 := Value.bool (true)) rfl (res1 rfl))
        · have hc56x := of_decide_eq_false hc56
          refine A_reg ?_
          refine r_v (Value.int .i64 (128)) rfl rfl rfl rfl ?_
          refine lx_nil ?_
          refine hK36 _ _ ?_; try clear hK36 K36
          refine A_seq fun K69 hK69 => ?_
          refine A_seq fun K70 hK70 => ?_
          refine A_reg ?_
          refine r_l (Value.agg #[U (hi (x)), U (lo (x))]) 8 _ _ _ _ rfl rfl rfl rfl rfl ?_
          refine r_v (Value.int .i64 (n)) rfl rfl rfl rfl ?_
          refine r_c (Value.bool (bitI (x) (n))) rfl _ _ (ev_callF rfl call_25 rfl) (bit_g (x) (n) (by omega) (by omega)) ?_
          refine r_v (Value.int .i64 (n)) rfl rfl rfl rfl ?_
          refine r_v (Value.bool (decide ((n : Int) ≥ 0))) rfl rfl rfl rfl ?_
          refine r_v (Value.bool (decide ((n : Int) ≥ 0))) rfl rfl rfl rfl ?_
          rcases hg71 : (decide ((n : Int) ≥ 0)) with _ | _
          · have hg71x := of_decide_eq_false hg71
            refine r_n false rfl (by decide) rfl ?_
            refine r_n false rfl (by decide) rfl ?_
            refine r_v (Value.bool (false)) rfl rfl rfl rfl ?_
            refine r_v (Value.bool (false)) rfl rfl rfl rfl ?_
            refine r_n false rfl (by decide) rfl ?_
            refine r_n false rfl (by decide) rfl ?_
            refine r_n false rfl (by decide) rfl ?_
            refine r_n false rfl (by decide) rfl ?_
            refine r_n false rfl (by decide) rfl ?_
            refine r_v (Value.bool (false)) rfl rfl rfl rfl ?_
            refine r_v (Value.bool ((bitI (x) (n)) != (false))) rfl rfl rfl (ev_binBn rfl rfl rfl) ?_
            refine lx_nil ?_
            refine hK70 _ _ ?_; try clear hK70 K70
            refine A_cond ((bitI (x) (n)) != (false)) rfl (fun h => absurd (h.symm.trans (show ((bitI (x) (n)) != (false)) = false from (by first | (rw [bitI_val (by omega) (by omega)]; exact bne_self_eq_false _) | (rw [← bitI_out (by omega)]; rfl)))) (by decide)) (fun _ => ?_)
            refine A_skip ?_
            refine hK69 _ _ ?_; try clear hK69 K69
            refine A_seq fun K73 hK73 => ?_
            refine A_draw [] (by decide +kernel) (fun hn => sep_nil) ?_
            refine r_l (Value.agg #[U (hi (x)), U (lo (x))]) 8 _ _ _ _ rfl rfl rfl rfl rfl ?_
            refine r_v (Value.int .i64 (n)) rfl rfl rfl rfl ?_
            refine r_c (Value.agg #[U (hi (shiftI (x) (n))), U (lo (shiftI (x) (n)))]) rfl _ _ (ev_callF rfl call_26 rfl) (shl_g (x) (n) (by omega) (by omega)) ?_
            refine r_c (Value.agg (rowF (BitVec.getLsbD (shiftI (x) (n))))) rfl _ _ (ev_callF rfl call_11 rfl) (lof_g (shiftI (x) (n))) ?_
            refine r_l (Value.agg (rowF (BitVec.getLsbD (x)))) 6 _ _ _ _ rfl rfl rfl rfl (ld_rows rfl rfl rfl _) ?_
            refine r_v (Value.int .i64 (n)) rfl rfl rfl rfl ?_
            refine r_c (Value.agg (rowF (BitVec.getLsbD (shiftI (x) (n))))) rfl _ _ (ev_callF rfl call_27 rfl) (moved_g (x) (n) (by omega) (by omega)) ?_
            refine r_v (Value.bool ((shiftI (x) (n)) == (shiftI (x) (n)))) rfl rfl rfl (ev_binEq rfl rfl eg_28 (eqrow_28 (shiftI (x) (n)) (shiftI (x) (n)))) ?_
            refine r_v (Value.bool ((shiftI (x) (n)) == (shiftI (x) (n)))) rfl rfl rfl rfl ?_
            have hg74 : ((shiftI (x) (n)) == (shiftI (x) (n))) = true := beq_self_eq_true _
            rw [hg74]
            refine r_y rfl ?_
            refine r_l (Value.agg #[U (hi (x)), U (lo (x))]) 8 _ _ _ _ rfl rfl rfl rfl rfl ?_
            refine r_y rfl ?_
            refine r_v (Value.int .i64 (n)) rfl rfl rfl rfl ?_
            refine r_y rfl ?_
            refine r_c (Value.agg #[U (hi (shiftI (x) (-(n)))), U (lo (shiftI (x) (-(n))))]) rfl _ _ (ev_callF rfl call_28 rfl) (shr_g (x) (n) (by omega) (by omega)) ?_
            refine r_y rfl ?_
            refine r_c (Value.agg (rowF (BitVec.getLsbD (shiftI (x) (-(n)))))) rfl _ _ (ev_callF rfl call_11 rfl) (lof_g (shiftI (x) (-(n)))) ?_
            refine r_y rfl ?_
            refine r_l (Value.agg (rowF (BitVec.getLsbD (x)))) 6 _ _ _ _ rfl rfl rfl rfl (ld_rows rfl rfl rfl _) ?_
            refine r_y rfl ?_
            refine r_v (Value.int .i64 (128)) rfl rfl rfl rfl ?_
            refine r_y rfl ?_
            refine r_c (Value.agg (rowF (BitVec.getLsbD (shiftI (x) (128))))) rfl _ _ (ev_callF rfl call_27 rfl) (moved_g (x) (128) (by omega) (by omega)) ?_
            refine r_y rfl ?_
            refine r_v (Value.bool ((shiftI (x) (-(n))) == (shiftI (x) (128)))) rfl rfl rfl (ev_binEq rfl rfl eg_28 (eqrow_28 (shiftI (x) (-(n))) (shiftI (x) (128)))) ?_
            refine r_v (Value.bool ((shiftI (x) (-(n))) == (shiftI (x) (128)))) rfl rfl rfl rfl ?_
            refine r_v (Value.bool ((shiftI (x) (-(n))) == (shiftI (x) (128)))) rfl rfl rfl rfl ?_
            have hg75 : ((shiftI (x) (-(n))) == (shiftI (x) (128))) = true := (shiftI_out_eq x n (by omega))
            rw [hg75]
            refine r_y rfl ?_
            refine r_c (Value.bool (true)) rfl _ _ (ev_callF rfl call_14 rfl) lives_g ?_
            refine r_v (Value.bool (true)) rfl rfl rfl rfl ?_
            refine r_v (Value.bool (true)) rfl rfl rfl rfl ?_
            refine lx_nil ?_
            refine hK73 _ _ ?_; try clear hK73 K73
            refine A_ret (fun hn => ends_eq (v0 := Value.bool (true)) rfl (res1 rfl))
          · have hg71x := of_decide_eq_true hg71
            refine r_y rfl ?_
            refine r_v (Value.int .i64 (n)) rfl rfl rfl rfl ?_
            refine r_y rfl ?_
            refine r_v (Value.bool (decide ((n : Int) < 128))) rfl rfl rfl rfl ?_
            refine r_v (Value.bool (decide ((n : Int) < 128))) rfl rfl rfl rfl ?_
            refine r_v (Value.bool (decide ((n : Int) < 128))) rfl rfl rfl rfl ?_
            have hg76 : (decide ((n : Int) < 128)) = false := hc56
            rw [hg76]
            refine r_n false rfl (by decide) rfl ?_
            refine r_n false rfl (by decide) rfl ?_
            refine r_n false rfl (by decide) rfl ?_
            refine r_n false rfl (by decide) rfl ?_
            refine r_n false rfl (by decide) rfl ?_
            refine r_v (Value.bool (false)) rfl rfl rfl rfl ?_
            refine r_v (Value.bool ((bitI (x) (n)) != (false))) rfl rfl rfl (ev_binBn rfl rfl rfl) ?_
            refine lx_nil ?_
            refine hK70 _ _ ?_; try clear hK70 K70
            refine A_cond ((bitI (x) (n)) != (false)) rfl (fun h => absurd (h.symm.trans (show ((bitI (x) (n)) != (false)) = false from (by first | (rw [bitI_val (by omega) (by omega)]; exact bne_self_eq_false _) | (rw [← bitI_out (by omega)]; rfl)))) (by decide)) (fun _ => ?_)
            refine A_skip ?_
            refine hK69 _ _ ?_; try clear hK69 K69
            refine A_seq fun K78 hK78 => ?_
            refine A_draw [] (by decide +kernel) (fun hn => sep_nil) ?_
            refine r_l (Value.agg #[U (hi (x)), U (lo (x))]) 8 _ _ _ _ rfl rfl rfl rfl rfl ?_
            refine r_v (Value.int .i64 (n)) rfl rfl rfl rfl ?_
            refine r_c (Value.agg #[U (hi (shiftI (x) (n))), U (lo (shiftI (x) (n)))]) rfl _ _ (ev_callF rfl call_26 rfl) (shl_g (x) (n) (by omega) (by omega)) ?_
            refine r_c (Value.agg (rowF (BitVec.getLsbD (shiftI (x) (n))))) rfl _ _ (ev_callF rfl call_11 rfl) (lof_g (shiftI (x) (n))) ?_
            refine r_l (Value.agg (rowF (BitVec.getLsbD (x)))) 6 _ _ _ _ rfl rfl rfl rfl (ld_rows rfl rfl rfl _) ?_
            refine r_v (Value.int .i64 (n)) rfl rfl rfl rfl ?_
            refine r_c (Value.agg (rowF (BitVec.getLsbD (shiftI (x) (n))))) rfl _ _ (ev_callF rfl call_27 rfl) (moved_g (x) (n) (by omega) (by omega)) ?_
            refine r_v (Value.bool ((shiftI (x) (n)) == (shiftI (x) (n)))) rfl rfl rfl (ev_binEq rfl rfl eg_28 (eqrow_28 (shiftI (x) (n)) (shiftI (x) (n)))) ?_
            refine r_v (Value.bool ((shiftI (x) (n)) == (shiftI (x) (n)))) rfl rfl rfl rfl ?_
            have hg79 : ((shiftI (x) (n)) == (shiftI (x) (n))) = true := beq_self_eq_true _
            rw [hg79]
            refine r_y rfl ?_
            refine r_l (Value.agg #[U (hi (x)), U (lo (x))]) 8 _ _ _ _ rfl rfl rfl rfl rfl ?_
            refine r_y rfl ?_
            refine r_v (Value.int .i64 (n)) rfl rfl rfl rfl ?_
            refine r_y rfl ?_
            refine r_c (Value.agg #[U (hi (shiftI (x) (-(n)))), U (lo (shiftI (x) (-(n))))]) rfl _ _ (ev_callF rfl call_28 rfl) (shr_g (x) (n) (by omega) (by omega)) ?_
            refine r_y rfl ?_
            refine r_c (Value.agg (rowF (BitVec.getLsbD (shiftI (x) (-(n)))))) rfl _ _ (ev_callF rfl call_11 rfl) (lof_g (shiftI (x) (-(n)))) ?_
            refine r_y rfl ?_
            refine r_l (Value.agg (rowF (BitVec.getLsbD (x)))) 6 _ _ _ _ rfl rfl rfl rfl (ld_rows rfl rfl rfl _) ?_
            refine r_y rfl ?_
            refine r_v (Value.int .i64 (128)) rfl rfl rfl rfl ?_
            refine r_y rfl ?_
            refine r_c (Value.agg (rowF (BitVec.getLsbD (shiftI (x) (128))))) rfl _ _ (ev_callF rfl call_27 rfl) (moved_g (x) (128) (by omega) (by omega)) ?_
            refine r_y rfl ?_
            refine r_v (Value.bool ((shiftI (x) (-(n))) == (shiftI (x) (128)))) rfl rfl rfl (ev_binEq rfl rfl eg_28 (eqrow_28 (shiftI (x) (-(n))) (shiftI (x) (128)))) ?_
            refine r_v (Value.bool ((shiftI (x) (-(n))) == (shiftI (x) (128)))) rfl rfl rfl rfl ?_
            refine r_v (Value.bool ((shiftI (x) (-(n))) == (shiftI (x) (128)))) rfl rfl rfl rfl ?_
            have hg80 : ((shiftI (x) (-(n))) == (shiftI (x) (128))) = true := (shiftI_out_eq x n (by omega))
            rw [hg80]
            refine r_y rfl ?_
            refine r_c (Value.bool (true)) rfl _ _ (ev_callF rfl call_14 rfl) lives_g ?_
            refine r_v (Value.bool (true)) rfl rfl rfl rfl ?_
            refine r_v (Value.bool (true)) rfl rfl rfl rfl ?_
            refine lx_nil ?_
            refine hK78 _ _ ?_; try clear hK78 K78
            refine A_ret (fun hn => ends_eq (v0 := Value.bool (true)) rfl (res1 rfl))
set_option maxRecDepth 100000 in
theorem wordBits_lifted (os : Os) (started : os.Started) (H : Type) (enc : TypeId × Value → H) :
    ReturnsInHanded {} Try.checked os 5 .any (Rows.wordBitsSpec.pre6 enc Try.prog Try.f5 Rows.wordBitsRow.domain false) (Rows.wordBitsSpec.post enc Try.prog Try.f5 false true false false) := by
  refine returnsInHanded_of_change (C := Try.checked) own started (by kernel_rfl) Try.func5
    (ChangeSpec.witness6 (enc := enc) (C := Try.checked) false ⟨#[], #[.agg #[.int .u64 0, .int .u64 0], .agg #[.int .u64 0, .int .u64 0], .int .i64 0], []⟩ 8 (by kernel_rfl) (by kernel_rfl) (by kernel_rfl) (by kernel_rfl)) ?_
  intro W base args ds gs before hval0 hW _ _
  have hval : ∀ (j : Nat) t v, Try.f5.params[j]? = some t → args[j]? = some v → Value.okWide Try.prog W .any base t v := hval0
  have hW' := hW
  obtain ⟨p, q, hA0, hV, rfl, _, _⟩ := hW
  have hA : DataW.TrodAll enc Try.prog W 0 (fun _ => true) true Try.f5.params.toList args.toList ds p := hA0
  rw [Try.params5] at hA hval
  obtain ⟨v0, v1, v2, d0, d1, d2, p0, p1, p2, rfl, rfl, rfl, h0, h1, h2⟩ := trodAll_three hA
  obtain ⟨rfl, rfl⟩ := trodVars_none hV
  obtain ⟨x0, rfl⟩ := open_word (P := Try.prog) (t := 24) rfl (by kernel_rfl) (by kernel_rfl) rfl rfl (hval 0 24 v0 rfl rfl) h0
  obtain ⟨x1, rfl⟩ := open_word (P := Try.prog) (t := 24) rfl (by kernel_rfl) (by kernel_rfl) rfl rfl (hval 1 24 v1 rfl rfl) h1
  obtain ⟨x2, rfl, rfl, rfl, wa2⟩ := open_int (P := Try.prog) (t := 3) rfl (hval 2 3 v2 rfl rfl) h2
  obtain ⟨lo2, hi2⟩ := i64_of_wf wa2
  refine ((wordBits_g x0 x1 x2 lo2 hi2) W).mono fun e W' ⟨he, hb⟩ => ?_
  subst he
  exact ⟨_, rfl, law_post (f := Try.f5) laidOut (by kernel_rfl) rfl (by rfl) rfl hW' rfl hb⟩

theorem wordBits_holds : Rows.WordBitsSaid :=
  OpenClaim.holds_of_wide 5 Try.f5 rfl rfl rfl rfl rfl rfl rfl ⟨rfl, rfl, rfl, rfl, rfl⟩ rfl rfl rfl rfl rfl (by kernel_rfl) Try.func5 (by kernel_rfl)
    (of_decide_eq_true (by kernel_rfl)) (by unfold Func.isWrapper; first | (rw [if_pos (by decide +kernel)]; kernel_rfl) | (rw [if_neg (by decide +kernel)]; exact ⟨rfl, rfl⟩))
    (fun os started H enc _ => wordBits_lifted os started H enc)

end Go.Proofs.Ytacbjgfngfamhaa
