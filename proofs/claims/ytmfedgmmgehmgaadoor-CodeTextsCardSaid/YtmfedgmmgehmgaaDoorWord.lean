/- words -/
import Derived.Test.YtmfedgmmgehmgaaDoorRows
import Derived.Test.YtmfedgmmgehmgaaDoorTm
import Derived.Test.YtmfedgmmgehmgaaDoorShelf
namespace Go.Proofs.YtmfedgmmgehmgaaDoor
open Go Go.RowKit Go.Eng
theorem follows : Tryd.prog.follows .mixedOrders = true := by kernel_rfl
theorem call_3 : callB Tryd.prog 3 = true := by kernel_rfl
theorem call_4 : callB Tryd.prog 4 = true := by kernel_rfl
theorem call_5 : callB Tryd.prog 5 = true := by kernel_rfl
theorem call_6 : callB Tryd.prog 6 = true := by kernel_rfl
theorem call_7 : callB Tryd.prog 7 = true := by kernel_rfl
theorem call_8 : callB Tryd.prog 8 = true := by kernel_rfl
theorem call_9 : callB Tryd.prog 9 = true := by kernel_rfl
theorem call_10 : callB Tryd.prog 10 = true := by kernel_rfl
theorem call_11 : callB Tryd.prog 11 = true := by kernel_rfl
theorem call_12 : callB Tryd.prog 12 = true := by kernel_rfl
theorem call_13 : callB Tryd.prog 13 = true := by kernel_rfl
theorem call_14 : callB Tryd.prog 14 = true := by kernel_rfl
theorem call_15 : callB Tryd.prog 15 = true := by kernel_rfl
theorem call_16 : callB Tryd.prog 16 = true := by kernel_rfl
theorem call_17 : callB Tryd.prog 17 = true := by kernel_rfl
theorem call_18 : callB Tryd.prog 18 = true := by kernel_rfl
theorem call_19 : callB Tryd.prog 19 = true := by kernel_rfl
theorem call_20 : callB Tryd.prog 20 = true := by kernel_rfl
theorem call_21 : callB Tryd.prog 21 = true := by kernel_rfl
theorem call_22 : callB Tryd.prog 22 = true := by kernel_rfl
theorem call_23 : callB Tryd.prog 23 = true := by kernel_rfl
theorem call_24 : callB Tryd.prog 24 = true := by kernel_rfl
theorem call_25 : callB Tryd.prog 25 = true := by kernel_rfl
theorem call_26 : callB Tryd.prog 26 = true := by kernel_rfl
theorem call_27 : callB Tryd.prog 27 = true := by kernel_rfl
theorem call_28 : callB Tryd.prog 28 = true := by kernel_rfl
theorem call_29 : callB Tryd.prog 29 = true := by kernel_rfl
theorem call_30 : callB Tryd.prog 30 = true := by kernel_rfl
theorem call_31 : callB Tryd.prog 31 = true := by kernel_rfl
theorem call_32 : callB Tryd.prog 32 = true := by kernel_rfl
theorem call_33 : callB Tryd.prog 33 = true := by kernel_rfl
theorem call_34 : callB Tryd.prog 34 = true := by kernel_rfl
theorem call_35 : callB Tryd.prog 35 = true := by kernel_rfl
theorem call_36 : callB Tryd.prog 36 = true := by kernel_rfl
theorem call_37 : callB Tryd.prog 37 = true := by kernel_rfl
theorem call_38 : callB Tryd.prog 38 = true := by kernel_rfl
theorem call_39 : callB Tryd.prog 39 = true := by kernel_rfl
theorem call_40 : callB Tryd.prog 40 = true := by kernel_rfl
theorem call_41 : callB Tryd.prog 41 = true := by kernel_rfl
theorem call_42 : callB Tryd.prog 42 = true := by kernel_rfl
theorem call_43 : callB Tryd.prog 43 = true := by kernel_rfl
theorem call_44 : callB Tryd.prog 44 = true := by kernel_rfl
theorem call_45 : callB Tryd.prog 45 = true := by kernel_rfl
theorem call_46 : callB Tryd.prog 46 = true := by kernel_rfl
theorem call_47 : callB Tryd.prog 47 = true := by kernel_rfl
theorem call_48 : callB Tryd.prog 48 = true := by kernel_rfl
theorem call_49 : callB Tryd.prog 49 = true := by kernel_rfl
theorem call_50 : callB Tryd.prog 50 = true := by kernel_rfl
theorem call_51 : callB Tryd.prog 51 = true := by kernel_rfl
theorem call_52 : callB Tryd.prog 52 = true := by kernel_rfl
theorem call_53 : callB Tryd.prog 53 = true := by kernel_rfl
theorem call_54 : callB Tryd.prog 54 = true := by kernel_rfl
theorem call_55 : callB Tryd.prog 55 = true := by kernel_rfl
theorem call_56 : callB Tryd.prog 56 = true := by kernel_rfl
theorem call_59 : callB Tryd.prog 59 = true := by kernel_rfl
theorem call_60 : callB Tryd.prog 60 = true := by kernel_rfl
theorem call_61 : callB Tryd.prog 61 = true := by kernel_rfl
theorem call_62 : callB Tryd.prog 62 = true := by kernel_rfl
theorem call_63 : callB Tryd.prog 63 = true := by kernel_rfl
theorem call_64 : callB Tryd.prog 64 = true := by kernel_rfl
theorem call_65 : callB Tryd.prog 65 = true := by kernel_rfl
theorem call_66 : callB Tryd.prog 66 = true := by kernel_rfl
theorem call_67 : callB Tryd.prog 67 = true := by kernel_rfl
theorem call_68 : callB Tryd.prog 68 = true := by kernel_rfl
theorem call_69 : callB Tryd.prog 69 = true := by kernel_rfl
theorem call_70 : callB Tryd.prog 70 = true := by kernel_rfl
theorem call_71 : callB Tryd.prog 71 = true := by kernel_rfl
theorem call_72 : callB Tryd.prog 72 = true := by kernel_rfl
theorem call_73 : callB Tryd.prog 73 = true := by kernel_rfl
theorem call_74 : callB Tryd.prog 74 = true := by kernel_rfl
theorem call_75 : callB Tryd.prog 75 = true := by kernel_rfl
theorem call_76 : callB Tryd.prog 76 = true := by kernel_rfl
theorem call_77 : callB Tryd.prog 77 = true := by kernel_rfl
theorem call_78 : callB Tryd.prog 78 = true := by kernel_rfl
theorem call_94 : callB Tryd.prog 94 = true := by kernel_rfl
theorem call_95 : callB Tryd.prog 95 = true := by kernel_rfl
theorem call_96 : callB Tryd.prog 96 = true := by kernel_rfl
theorem call_97 : callB Tryd.prog 97 = true := by kernel_rfl
theorem call_98 : callB Tryd.prog 98 = true := by kernel_rfl
theorem call_99 : callB Tryd.prog 99 = true := by kernel_rfl
theorem call_100 : callB Tryd.prog 100 = true := by kernel_rfl
theorem call_101 : callB Tryd.prog 101 = true := by kernel_rfl
theorem call_102 : callB Tryd.prog 102 = true := by kernel_rfl
theorem call_103 : callB Tryd.prog 103 = true := by kernel_rfl
theorem call_104 : callB Tryd.prog 104 = true := by kernel_rfl
theorem lz_g (y : BitVec 64) : Gives Tryd.prog 72 #[U y] (.int .i64 ((lz y : Nat) : Int)) := by
  have h := Gives.of_same (fun w => Tryd.bits_LeadingZeros64 (y.toNat : Int) w (by omega) (by have := y.isLt; omega))
  refine h.eq ?_
  have hb := (bl_spec y.toNat y.isLt).2.2
  unfold lz
  rw [Int.toNat_natCast]
  congr 1
  omega
set_option maxRecDepth 100000 in
set_option maxHeartbeats 2000000 in
theorem div64_g (h l y : BitVec 64) (hy : y ≠ 0#64) (hlt : h < y) : Gives Tryd.prog 65 #[U (h), U (l), U (y)] (Value.tuple #[U (BitVec.ofNat 64 ((h.toNat * 2 ^ 64 + l.toNat) / y.toNat)), U (BitVec.ofNat 64 ((h.toNat * 2 ^ 64 + l.toNat) % y.toNat))]) := by
  refine gives_of_A follows Tryd.func65 rfl 135 rfl (upd (upd (upd (fun _ => undef) 2 (U (y))) 1 (U (l))) 0 (U (h))) (by funext k; match k with | 0 => rfl | 1 => rfl | 2 => rfl | k + 3 => rfl) (fun base => ?_)
  refine A_seq fun K1 hK1 => ?_
  refine A_reg ?_
  refine r_v (U (0#64)) rfl rfl rfl rfl ?_
  refine r_v (U (0#64)) rfl rfl rfl rfl ?_
  refine lx_nil ?_
  refine hK1 _ _ ?_; try clear hK1 K1
  refine A_seq fun K2 hK2 => ?_
  refine A_seq fun K3 hK3 => ?_
  refine A_reg ?_
  refine r_v (U (y)) rfl rfl rfl rfl ?_
  refine r_v (Value.bool ((y) == (0#64))) rfl rfl (U_eq (y) (0#64)) rfl ?_
  refine lx_nil ?_
  refine hK3 _ _ ?_; try clear hK3 K3
  refine A_cond ((y) == (0#64)) rfl (fun h_ => absurd (h_.symm.trans (beq_eq_false_iff_ne.2 hy)) (by decide)) (fun _ => ?_)
  refine A_skip ?_
  refine hK2 _ _ ?_; try clear hK2 K2
  refine A_seq fun K5 hK5 => ?_
  refine A_seq fun K6 hK6 => ?_
  refine A_reg ?_
  refine r_v (U (y)) rfl rfl rfl rfl ?_
  refine r_v (U (h)) rfl rfl rfl rfl ?_
  refine r_v (Value.bool (decide ((y) ≤ (h)))) rfl rfl (U_le (y) (h)) rfl ?_
  refine lx_nil ?_
  refine hK6 _ _ ?_; try clear hK6 K6
  refine A_cond (decide ((y) ≤ (h))) rfl (fun h_ => absurd (h_.symm.trans (decide_eq_false (BitVec.not_le.2 hlt))) (by decide)) (fun _ => ?_)
  refine A_skip ?_
  refine hK5 _ _ ?_; try clear hK5 K5
  refine A_seq fun K8 hK8 => ?_
  refine A_seq fun K9 hK9 => ?_
  refine A_reg ?_
  refine r_v (U (h)) rfl rfl rfl rfl ?_
  refine r_v (Value.bool ((h) == (0#64))) rfl rfl (U_eq (h) (0#64)) rfl ?_
  refine lx_nil ?_
  refine hK9 _ _ ?_; try clear hK9 K9
  refine A_cond ((h) == (0#64)) rfl (fun hc10 => ?_) (fun hc10 => ?_)
  · have hc10x := eq_of_beq hc10
    refine A_seq fun K11 hK11 => ?_
    refine A_draw [] (by decide +kernel) (fun hn => sep_nil) ?_
    refine r_v (U (l)) rfl rfl rfl rfl ?_
    refine r_v (U (y)) rfl rfl rfl rfl ?_
    refine r_v (U ((l / y))) rfl rfl (U_quo (l) (y)) (ev_quoU rfl rfl hy) ?_
    refine r_v (U (l)) rfl rfl rfl rfl ?_
    refine r_v (U (y)) rfl rfl rfl rfl ?_
    refine r_v (U ((l % y))) rfl rfl (U_rem (l) (y)) (ev_remU rfl rfl hy) ?_
    refine r_v (U ((l / y))) rfl rfl rfl rfl ?_
    refine r_v (U ((l % y))) rfl rfl rfl rfl ?_
    refine lx_nil ?_
    refine hK11 _ _ ?_; try clear hK11 K11
    refine A_ret (fun hn => ends_eq (v0 := Value.tuple #[U ((l / y)), U ((l % y))]) (by rw [div_small_q hc10x, div_small_r hc10x]) (res2 rfl rfl))
  · have hc10x := ne_of_beq_false hc10
    refine A_skip ?_
    refine hK8 _ _ ?_; try clear hK8 K8
    refine A_seq fun K12 hK12 => ?_
    refine A_reg ?_
    refine r_v (U (y)) rfl rfl rfl rfl ?_
    refine r_c (Value.int .i64 (((lz (y) : Nat) : Int))) rfl _ _ (ev_callF rfl call_72 rfl) (lz_g (y)) ?_
    refine r_w (U (sh y)) rfl rfl (((U_wrap (lz (y))) : _ = U (BitVec.ofNat 64 (lz (y)))).trans rfl) (fun _ => rfl) ?_
    refine r_v (U (sh y)) rfl rfl rfl rfl ?_
    refine lx_nil ?_
    refine hK12 _ _ ?_; try clear hK12 K12
    refine A_seq fun K13 hK13 => ?_
    refine A_reg ?_
    refine r_v (U (y)) rfl rfl rfl rfl ?_
    refine r_v (U (sh y)) rfl rfl rfl rfl ?_
    refine r_v (U (dy y)) rfl rfl (((U_shl (y) (sh y).toNat) : _ = U ((y <<< (sh y).toNat))).trans rfl) (ev_shl rfl rfl) ?_
    refine r_v (U (dy y)) rfl rfl rfl rfl ?_
    refine lx_nil ?_
    refine hK13 _ _ ?_; try clear hK13 K13
    refine A_seq fun K14 hK14 => ?_
    refine A_reg ?_
    refine r_v (U (dy y)) rfl rfl rfl rfl ?_
    refine r_v (U (dy1 y)) rfl rfl (((U_shr (dy y) 32) : _ = U ((dy y >>> 32))).trans rfl) (ev_shr rfl rfl) ?_
    refine r_v (U (dy1 y)) rfl rfl rfl rfl ?_
    refine lx_nil ?_
    refine hK14 _ _ ?_; try clear hK14 K14
    refine A_seq fun K15 hK15 => ?_
    refine A_reg ?_
    refine r_v (U (dy y)) rfl rfl rfl rfl ?_
    refine r_v (U (dy0 y)) rfl rfl (((U_and (dy y) (4294967295#64)) : _ = U ((dy y &&& 4294967295#64))).trans rfl) rfl ?_
    refine r_v (U (dy0 y)) rfl rfl rfl rfl ?_
    refine lx_nil ?_
    refine hK15 _ _ ?_; try clear hK15 K15
    refine A_seq fun K16 hK16 => ?_
    refine A_reg ?_
    refine r_v (U (h)) rfl rfl rfl rfl ?_
    refine r_v (U (sh y)) rfl rfl rfl rfl ?_
    refine r_v (U ((h <<< (sh y).toNat))) rfl rfl (U_shl (h) (sh y).toNat) (ev_shl rfl rfl) ?_
    refine r_v (U (l)) rfl rfl rfl rfl ?_
    refine r_v (U (sh y)) rfl rfl rfl rfl ?_
    refine r_v (U ((64#64 - sh y))) rfl rfl (U_sub (64#64) (sh y)) rfl ?_
    refine r_v (U ((l >>> ((64#64 - sh y)).toNat))) rfl rfl (U_shr (l) ((64#64 - sh y)).toNat) (ev_shr rfl rfl) ?_
    refine r_v (U (un h l y)) rfl rfl (((U_or ((h <<< (sh y).toNat)) ((l >>> ((64#64 - sh y)).toNat))) : _ = U (((h <<< (sh y).toNat) ||| (l >>> ((64#64 - sh y)).toNat)))).trans rfl) rfl ?_
    refine r_v (U (un h l y)) rfl rfl rfl rfl ?_
    refine lx_nil ?_
    refine hK16 _ _ ?_; try clear hK16 K16
    refine A_seq fun K17 hK17 => ?_
    refine A_reg ?_
    refine r_v (U (l)) rfl rfl rfl rfl ?_
    refine r_v (U (sh y)) rfl rfl rfl rfl ?_
    refine r_v (U (u10 l y)) rfl rfl (((U_shl (l) (sh y).toNat) : _ = U ((l <<< (sh y).toNat))).trans rfl) (ev_shl rfl rfl) ?_
    refine r_v (U (u10 l y)) rfl rfl rfl rfl ?_
    refine lx_nil ?_
    refine hK17 _ _ ?_; try clear hK17 K17
    refine A_seq fun K18 hK18 => ?_
    refine A_reg ?_
    refine r_v (U (u10 l y)) rfl rfl rfl rfl ?_
    refine r_v (U (d1 l y)) rfl rfl (((U_shr (u10 l y) 32) : _ = U ((u10 l y >>> 32))).trans rfl) (ev_shr rfl rfl) ?_
    refine r_v (U (d1 l y)) rfl rfl rfl rfl ?_
    refine lx_nil ?_
    refine hK18 _ _ ?_; try clear hK18 K18
    refine A_seq fun K19 hK19 => ?_
    refine A_reg ?_
    refine r_v (U (u10 l y)) rfl rfl rfl rfl ?_
    refine r_v (U (d0 l y)) rfl rfl (((U_and (u10 l y) (4294967295#64)) : _ = U ((u10 l y &&& 4294967295#64))).trans rfl) rfl ?_
    refine r_v (U (d0 l y)) rfl rfl rfl rfl ?_
    refine lx_nil ?_
    refine hK19 _ _ ?_; try clear hK19 K19
    refine A_seq fun K20 hK20 => ?_
    refine A_reg ?_
    refine r_v (U (un h l y)) rfl rfl rfl rfl ?_
    refine r_v (U (dy1 y)) rfl rfl rfl rfl ?_
    refine r_v (U ((un h l y / dy1 y))) rfl rfl (U_quo (un h l y) (dy1 y)) (ev_quoU rfl rfl (dy1_ne hy)) ?_
    refine r_v (U ((un h l y / dy1 y))) rfl rfl rfl rfl ?_
    refine lx_nil ?_
    refine hK20 _ _ ?_; try clear hK20 K20
    refine A_seq fun K21 hK21 => ?_
    refine A_reg ?_
    refine r_v (U (un h l y)) rfl rfl rfl rfl ?_
    refine r_v (U ((un h l y / dy1 y))) rfl rfl rfl rfl ?_
    refine r_v (U (dy1 y)) rfl rfl rfl rfl ?_
    refine r_v (U (((un h l y / dy1 y) * dy1 y))) rfl rfl (U_mul ((un h l y / dy1 y)) (dy1 y)) rfl ?_
    refine r_v (U ((un h l y - ((un h l y / dy1 y) * dy1 y)))) rfl rfl (U_sub (un h l y) (((un h l y / dy1 y) * dy1 y))) rfl ?_
    refine r_v (U ((un h l y - ((un h l y / dy1 y) * dy1 y)))) rfl rfl rfl rfl ?_
    refine lx_nil ?_
    refine hK21 _ _ ?_; try clear hK21 K21
    refine A_cut (Is [(0, U (h)), (1, U (l)), (2, U (dy y)), (6, U (0#64)), (7, U (0#64)), (8, U (sh y)), (9, U (dy1 y)), (10, U (dy0 y)), (11, U (un h l y)), (12, U (u10 l y)), (13, U (d1 l y)), (14, U (d0 l y)), (15, U (qb (un h l y) (d1 l y) (dy y)))] []) ?_ ?_
    · refine A_block ?_
      refine A_loop (fun tt ll nn => ∃ (q : BitVec 64) (r : BitVec 64), (GuessB (un h l y) (d1 l y) (dy1 y) (dy0 y) (q) (r)) ∧ Is [(0, U (h)), (1, U (l)), (2, U (dy y)), (6, U (0#64)), (7, U (0#64)), (8, U (sh y)), (9, U (dy1 y)), (10, U (dy0 y)), (11, U (un h l y)), (12, U (u10 l y)), (13, U (d1 l y)), (14, U (d0 l y)), (15, U (q)), (16, U (r))] [] tt ll ∧ nn = (q).toNat + 1) ((((un h l y) / (dy1 y))).toNat + 1) ?_ ?_
      · exact ⟨((un h l y) / (dy1 y)), ((un h l y) - ((un h l y) / (dy1 y)) * (dy1 y)), (dig1 hy hlt).start, is_mk (by first | rfl | (simp only [hc10]; rfl)) (rfl), rfl⟩
      · rintro t l n ⟨q, r, hp0, ⟨⟨T, rfl⟩, rfl⟩, rfl⟩
        refine A_seq fun K22 hK22 => ?_
        refine A_seq fun K23 hK23 => ?_
        refine A_reg ?_
        refine r_v (U (q)) rfl rfl rfl rfl ?_
        refine r_v (Value.bool (decide ((4294967296#64) ≤ (q)))) rfl rfl (U_le (4294967296#64) (q)) rfl ?_
        refine r_v (Value.bool (decide ((4294967296#64) ≤ (q)))) rfl rfl rfl rfl ?_
        rcases hg24 : (decide ((4294967296#64) ≤ (q))) with _ | _
        · have hg24x := of_decide_eq_false hg24
          refine r_y rfl ?_
          refine r_v (U (q)) rfl rfl rfl rfl ?_
          refine r_y rfl ?_
          refine r_v (U (dy0 y)) rfl rfl rfl rfl ?_
          refine r_y rfl ?_
          refine r_v (U ((q * dy0 y))) rfl rfl (U_mul (q) (dy0 y)) rfl ?_
          refine r_y rfl ?_
          refine r_v (U (r)) rfl rfl rfl rfl ?_
          refine r_y rfl ?_
          refine r_v (U ((4294967296#64 * r))) rfl rfl (U_mul (4294967296#64) (r)) rfl ?_
          refine r_y rfl ?_
          refine r_v (U (d1 l y)) rfl rfl rfl rfl ?_
          refine r_y rfl ?_
          refine r_v (U (((4294967296#64 * r) + d1 l y))) rfl rfl (U_add ((4294967296#64 * r)) (d1 l y)) rfl ?_
          refine r_y rfl ?_
          refine r_v (Value.bool (decide ((((4294967296#64 * r) + d1 l y)) < ((q * dy0 y))))) rfl rfl (U_lt (((4294967296#64 * r) + d1 l y)) ((q * dy0 y))) rfl ?_
          refine r_v (Value.bool (decide ((((4294967296#64 * r) + d1 l y)) < ((q * dy0 y))))) rfl rfl rfl rfl ?_
          refine lx_nil ?_
          refine hK23 _ _ ?_; try clear hK23 K23
          refine A_cond (decide ((((4294967296#64 * r) + d1 l y)) < ((q * dy0 y)))) rfl (fun hc25 => ?_) (fun hc25 => ?_)
          · have hc25x := of_decide_eq_true hc25
            refine A_skip ?_
            refine hK22 _ _ ?_; try clear hK22 K22
            refine A_block ?_
            refine A_seq fun K26 hK26 => ?_
            refine A_reg ?_
            refine r_v (U (q)) rfl rfl rfl rfl ?_
            refine r_v (U ((q - 1#64))) rfl rfl (U_sub (q) (1#64)) rfl ?_
            refine r_v (U ((q - 1#64))) rfl rfl rfl rfl ?_
            refine lx_nil ?_
            refine hK26 _ _ ?_; try clear hK26 K26
            refine A_seq fun K27 hK27 => ?_
            refine A_reg ?_
            refine r_v (U (r)) rfl rfl rfl rfl ?_
            refine r_v (U (dy1 y)) rfl rfl rfl rfl ?_
            refine r_v (U ((r + dy1 y))) rfl rfl (U_add (r) (dy1 y)) rfl ?_
            refine r_v (U ((r + dy1 y))) rfl rfl rfl rfl ?_
            refine lx_nil ?_
            refine hK27 _ _ ?_; try clear hK27 K27
            refine A_seq fun K28 hK28 => ?_
            refine A_reg ?_
            refine r_v (U ((r + dy1 y))) rfl rfl rfl rfl ?_
            refine r_v (Value.bool (decide ((4294967296#64) ≤ ((r + dy1 y))))) rfl rfl (U_le (4294967296#64) ((r + dy1 y))) rfl ?_
            refine lx_nil ?_
            refine hK28 _ _ ?_; try clear hK28 K28
            refine A_cond (decide ((4294967296#64) ≤ ((r + dy1 y)))) rfl (fun hc29 => ?_) (fun hc29 => ?_)
            · have hc29x := of_decide_eq_true hc29
              refine A_exit ?_
              refine fg _ (.of (List.Sublist.slnil)) ?_
              exact is_mk (by rw [qb_of (hp0.brk (dig1 hy hlt) (.inr hc25x) hc29x)]; rfl) (rfl)
            · have hc29x := of_decide_eq_false hc29
              refine A_skip ?_
              refine fg _ (.of (List.Sublist.slnil)) ?_
              exact ⟨_, by have := (hp0.again (dig1 hy hlt) (.inr hc25x) hc29x).2; omega, q - 1#64, r + dy1 y, (hp0.again (dig1 hy hlt) (.inr hc25x) hc29x).1, is_mk (by first | rfl | (simp only [hc25, hc29, hg24]; rfl)) (rfl), rfl⟩
          · have hc25x := of_decide_eq_false hc25
            refine A_exit ?_
            refine fg _ (.of (List.Sublist.slnil)) ?_
            exact is_mk (by rw [qb_of (hp0.done (dig1 hy hlt) hg24x hc25x)]; rfl) (rfl)
        · have hg24x := of_decide_eq_true hg24
          refine r_n true rfl (by decide) rfl ?_
          refine r_n true rfl (by decide) rfl ?_
          refine r_n true rfl (by decide) rfl ?_
          refine r_n true rfl (by decide) rfl ?_
          refine r_n true rfl (by decide) rfl ?_
          refine r_n true rfl (by decide) rfl ?_
          refine r_n true rfl (by decide) rfl ?_
          refine r_n true rfl (by decide) rfl ?_
          refine r_v (Value.bool (true)) rfl rfl rfl rfl ?_
          refine lx_nil ?_
          refine hK23 _ _ ?_; try clear hK23 K23
          refine A_cond true rfl (fun _ => ?_) (fun h_ => nomatch h_)
          refine A_skip ?_
          refine hK22 _ _ ?_; try clear hK22 K22
          refine A_block ?_
          refine A_seq fun K31 hK31 => ?_
          refine A_reg ?_
          refine r_v (U (q)) rfl rfl rfl rfl ?_
          refine r_v (U ((q - 1#64))) rfl rfl (U_sub (q) (1#64)) rfl ?_
          refine r_v (U ((q - 1#64))) rfl rfl rfl rfl ?_
          refine lx_nil ?_
          refine hK31 _ _ ?_; try clear hK31 K31
          refine A_seq fun K32 hK32 => ?_
          refine A_reg ?_
          refine r_v (U (r)) rfl rfl rfl rfl ?_
          refine r_v (U (dy1 y)) rfl rfl rfl rfl ?_
          refine r_v (U ((r + dy1 y))) rfl rfl (U_add (r) (dy1 y)) rfl ?_
          refine r_v (U ((r + dy1 y))) rfl rfl rfl rfl ?_
          refine lx_nil ?_
          refine hK32 _ _ ?_; try clear hK32 K32
          refine A_seq fun K33 hK33 => ?_
          refine A_reg ?_
          refine r_v (U ((r + dy1 y))) rfl rfl rfl rfl ?_
          refine r_v (Value.bool (decide ((4294967296#64) ≤ ((r + dy1 y))))) rfl rfl (U_le (4294967296#64) ((r + dy1 y))) rfl ?_
          refine lx_nil ?_
          refine hK33 _ _ ?_; try clear hK33 K33
          refine A_cond (decide ((4294967296#64) ≤ ((r + dy1 y)))) rfl (fun hc34 => ?_) (fun hc34 => ?_)
          · have hc34x := of_decide_eq_true hc34
            refine A_exit ?_
            refine fg _ (.of (List.Sublist.slnil)) ?_
            exact is_mk (by rw [qb_of (hp0.brk (dig1 hy hlt) (.inl hg24x) hc34x)]; rfl) (rfl)
          · have hc34x := of_decide_eq_false hc34
            refine A_skip ?_
            refine fg _ (.of (List.Sublist.slnil)) ?_
            exact ⟨_, by have := (hp0.again (dig1 hy hlt) (.inl hg24x) hc34x).2; omega, q - 1#64, r + dy1 y, (hp0.again (dig1 hy hlt) (.inl hg24x) hc34x).1, is_mk (by first | rfl | (simp only [hc34, hg24]; rfl)) (rfl), rfl⟩
    · rintro t l ⟨⟨T, rfl⟩, rfl⟩
      refine A_seq fun K35 hK35 => ?_
      refine A_reg ?_
      refine r_v (U (un h l y)) rfl rfl rfl rfl ?_
      refine r_v (U ((un h l y * 4294967296#64))) rfl rfl (U_mul (un h l y) (4294967296#64)) rfl ?_
      refine r_v (U (d1 l y)) rfl rfl rfl rfl ?_
      refine r_v (U (((un h l y * 4294967296#64) + d1 l y))) rfl rfl (U_add ((un h l y * 4294967296#64)) (d1 l y)) rfl ?_
      refine r_v (U (qb (un h l y) (d1 l y) (dy y))) rfl rfl rfl rfl ?_
      refine r_v (U (dy y)) rfl rfl rfl rfl ?_
      refine r_v (U ((qb (un h l y) (d1 l y) (dy y) * dy y))) rfl rfl (U_mul (qb (un h l y) (d1 l y) (dy y)) (dy y)) rfl ?_
      refine r_v (U (rb (un h l y) (d1 l y) (dy y))) rfl rfl (((U_sub (((un h l y * 4294967296#64) + d1 l y)) ((qb (un h l y) (d1 l y) (dy y) * dy y))) : _ = U ((((un h l y * 4294967296#64) + d1 l y) - (qb (un h l y) (d1 l y) (dy y) * dy y)))).trans rfl) rfl ?_
      refine r_v (U (rb (un h l y) (d1 l y) (dy y))) rfl rfl rfl rfl ?_
      refine lx_nil ?_
      refine hK35 _ _ ?_; try clear hK35 K35
      refine A_seq fun K36 hK36 => ?_
      refine A_reg ?_
      refine r_v (U (rb (un h l y) (d1 l y) (dy y))) rfl rfl rfl rfl ?_
      refine r_v (U (dy1 y)) rfl rfl rfl rfl ?_
      refine r_v (U ((rb (un h l y) (d1 l y) (dy y) / dy1 y))) rfl rfl (U_quo (rb (un h l y) (d1 l y) (dy y)) (dy1 y)) (ev_quoU rfl rfl (dy1_ne hy)) ?_
      refine r_v (U ((rb (un h l y) (d1 l y) (dy y) / dy1 y))) rfl rfl rfl rfl ?_
      refine lx_nil ?_
      refine hK36 _ _ ?_; try clear hK36 K36
      refine A_seq fun K37 hK37 => ?_
      refine A_reg ?_
      refine r_v (U (rb (un h l y) (d1 l y) (dy y))) rfl rfl rfl rfl ?_
      refine r_v (U ((rb (un h l y) (d1 l y) (dy y) / dy1 y))) rfl rfl rfl rfl ?_
      refine r_v (U (dy1 y)) rfl rfl rfl rfl ?_
      refine r_v (U (((rb (un h l y) (d1 l y) (dy y) / dy1 y) * dy1 y))) rfl rfl (U_mul ((rb (un h l y) (d1 l y) (dy y) / dy1 y)) (dy1 y)) rfl ?_
      refine r_v (U ((rb (un h l y) (d1 l y) (dy y) - ((rb (un h l y) (d1 l y) (dy y) / dy1 y) * dy1 y)))) rfl rfl (U_sub (rb (un h l y) (d1 l y) (dy y)) (((rb (un h l y) (d1 l y) (dy y) / dy1 y) * dy1 y))) rfl ?_
      refine r_v (U ((rb (un h l y) (d1 l y) (dy y) - ((rb (un h l y) (d1 l y) (dy y) / dy1 y) * dy1 y)))) rfl rfl rfl rfl ?_
      refine lx_nil ?_
      refine hK37 _ _ ?_; try clear hK37 K37
      refine A_cut (Is [(0, U (h)), (1, U (l)), (2, U (dy y)), (6, U (0#64)), (7, U (0#64)), (8, U (sh y)), (9, U (dy1 y)), (10, U (dy0 y)), (11, U (un h l y)), (12, U (u10 l y)), (13, U (d1 l y)), (14, U (d0 l y)), (15, U (qb (un h l y) (d1 l y) (dy y))), (17, U (rb (un h l y) (d1 l y) (dy y))), (18, U (qb (rb (un h l y) (d1 l y) (dy y)) (d0 l y) (dy y)))] []) ?_ ?_
      · refine A_block ?_
        refine A_loop (fun tt ll nn => ∃ (q : BitVec 64) (r : BitVec 64), (GuessB (rb (un h l y) (d1 l y) (dy y)) (d0 l y) (dy1 y) (dy0 y) (q) (r)) ∧ Is [(0, U (h)), (1, U (l)), (2, U (dy y)), (6, U (0#64)), (7, U (0#64)), (8, U (sh y)), (9, U (dy1 y)), (10, U (dy0 y)), (11, U (un h l y)), (12, U (u10 l y)), (13, U (d1 l y)), (14, U (d0 l y)), (15, U (qb (un h l y) (d1 l y) (dy y))), (16, U (r)), (17, U (rb (un h l y) (d1 l y) (dy y))), (18, U (q))] [] tt ll ∧ nn = (q).toNat + 1) ((((rb (un h l y) (d1 l y) (dy y)) / (dy1 y))).toNat + 1) ?_ ?_
        · exact ⟨((rb (un h l y) (d1 l y) (dy y)) / (dy1 y)), ((rb (un h l y) (d1 l y) (dy y)) - ((rb (un h l y) (d1 l y) (dy y)) / (dy1 y)) * (dy1 y)), (dig2 hy hlt).start, is_mk (rfl) (rfl), rfl⟩
        · rintro t l n ⟨q, r, hp0, ⟨⟨T, rfl⟩, rfl⟩, rfl⟩
          refine A_seq fun K38 hK38 => ?_
          refine A_seq fun K39 hK39 => ?_
          refine A_reg ?_
          refine r_v (U (q)) rfl rfl rfl rfl ?_
          refine r_v (Value.bool (decide ((4294967296#64) ≤ (q)))) rfl rfl (U_le (4294967296#64) (q)) rfl ?_
          refine r_v (Value.bool (decide ((4294967296#64) ≤ (q)))) rfl rfl rfl rfl ?_
          rcases hg40 : (decide ((4294967296#64) ≤ (q))) with _ | _
          · have hg40x := of_decide_eq_false hg40
            refine r_y rfl ?_
            refine r_v (U (q)) rfl rfl rfl rfl ?_
            refine r_y rfl ?_
            refine r_v (U (dy0 y)) rfl rfl rfl rfl ?_
            refine r_y rfl ?_
            refine r_v (U ((q * dy0 y))) rfl rfl (U_mul (q) (dy0 y)) rfl ?_
            refine r_y rfl ?_
            refine r_v (U (r)) rfl rfl rfl rfl ?_
            refine r_y rfl ?_
            refine r_v (U ((4294967296#64 * r))) rfl rfl (U_mul (4294967296#64) (r)) rfl ?_
            refine r_y rfl ?_
            refine r_v (U (d0 l y)) rfl rfl rfl rfl ?_
            refine r_y rfl ?_
            refine r_v (U (((4294967296#64 * r) + d0 l y))) rfl rfl (U_add ((4294967296#64 * r)) (d0 l y)) rfl ?_
            refine r_y rfl ?_
            refine r_v (Value.bool (decide ((((4294967296#64 * r) + d0 l y)) < ((q * dy0 y))))) rfl rfl (U_lt (((4294967296#64 * r) + d0 l y)) ((q * dy0 y))) rfl ?_
            refine r_v (Value.bool (decide ((((4294967296#64 * r) + d0 l y)) < ((q * dy0 y))))) rfl rfl rfl rfl ?_
            refine lx_nil ?_
            refine hK39 _ _ ?_; try clear hK39 K39
            refine A_cond (decide ((((4294967296#64 * r) + d0 l y)) < ((q * dy0 y)))) rfl (fun hc41 => ?_) (fun hc41 => ?_)
            · have hc41x := of_decide_eq_true hc41
              refine A_skip ?_
              refine hK38 _ _ ?_; try clear hK38 K38
              refine A_block ?_
              refine A_seq fun K42 hK42 => ?_
              refine A_reg ?_
              refine r_v (U (q)) rfl rfl rfl rfl ?_
              refine r_v (U ((q - 1#64))) rfl rfl (U_sub (q) (1#64)) rfl ?_
              refine r_v (U ((q - 1#64))) rfl rfl rfl rfl ?_
              refine lx_nil ?_
              refine hK42 _ _ ?_; try clear hK42 K42
              refine A_seq fun K43 hK43 => ?_
              refine A_reg ?_
              refine r_v (U (r)) rfl rfl rfl rfl ?_
              refine r_v (U (dy1 y)) rfl rfl rfl rfl ?_
              refine r_v (U ((r + dy1 y))) rfl rfl (U_add (r) (dy1 y)) rfl ?_
              refine r_v (U ((r + dy1 y))) rfl rfl rfl rfl ?_
              refine lx_nil ?_
              refine hK43 _ _ ?_; try clear hK43 K43
              refine A_seq fun K44 hK44 => ?_
              refine A_reg ?_
              refine r_v (U ((r + dy1 y))) rfl rfl rfl rfl ?_
              refine r_v (Value.bool (decide ((4294967296#64) ≤ ((r + dy1 y))))) rfl rfl (U_le (4294967296#64) ((r + dy1 y))) rfl ?_
              refine lx_nil ?_
              refine hK44 _ _ ?_; try clear hK44 K44
              refine A_cond (decide ((4294967296#64) ≤ ((r + dy1 y)))) rfl (fun hc45 => ?_) (fun hc45 => ?_)
              · have hc45x := of_decide_eq_true hc45
                refine A_exit ?_
                refine fg _ (.of (List.Sublist.slnil)) ?_
                exact is_mk (by rw [qb_of (hp0.brk (dig2 hy hlt) (.inr hc41x) hc45x)]; rfl) (rfl)
              · have hc45x := of_decide_eq_false hc45
                refine A_skip ?_
                refine fg _ (.of (List.Sublist.slnil)) ?_
                exact ⟨_, by have := (hp0.again (dig2 hy hlt) (.inr hc41x) hc45x).2; omega, q - 1#64, r + dy1 y, (hp0.again (dig2 hy hlt) (.inr hc41x) hc45x).1, is_mk (by first | rfl | (simp only [hc41, hc45, hg40]; rfl)) (rfl), rfl⟩
            · have hc41x := of_decide_eq_false hc41
              refine A_exit ?_
              refine fg _ (.of (List.Sublist.slnil)) ?_
              exact is_mk (by rw [qb_of (hp0.done (dig2 hy hlt) hg40x hc41x)]; rfl) (rfl)
          · have hg40x := of_decide_eq_true hg40
            refine r_n true rfl (by decide) rfl ?_
            refine r_n true rfl (by decide) rfl ?_
            refine r_n true rfl (by decide) rfl ?_
            refine r_n true rfl (by decide) rfl ?_
            refine r_n true rfl (by decide) rfl ?_
            refine r_n true rfl (by decide) rfl ?_
            refine r_n true rfl (by decide) rfl ?_
            refine r_n true rfl (by decide) rfl ?_
            refine r_v (Value.bool (true)) rfl rfl rfl rfl ?_
            refine lx_nil ?_
            refine hK39 _ _ ?_; try clear hK39 K39
            refine A_cond true rfl (fun _ => ?_) (fun h_ => nomatch h_)
            refine A_skip ?_
            refine hK38 _ _ ?_; try clear hK38 K38
            refine A_block ?_
            refine A_seq fun K47 hK47 => ?_
            refine A_reg ?_
            refine r_v (U (q)) rfl rfl rfl rfl ?_
            refine r_v (U ((q - 1#64))) rfl rfl (U_sub (q) (1#64)) rfl ?_
            refine r_v (U ((q - 1#64))) rfl rfl rfl rfl ?_
            refine lx_nil ?_
            refine hK47 _ _ ?_; try clear hK47 K47
            refine A_seq fun K48 hK48 => ?_
            refine A_reg ?_
            refine r_v (U (r)) rfl rfl rfl rfl ?_
            refine r_v (U (dy1 y)) rfl rfl rfl rfl ?_
            refine r_v (U ((r + dy1 y))) rfl rfl (U_add (r) (dy1 y)) rfl ?_
            refine r_v (U ((r + dy1 y))) rfl rfl rfl rfl ?_
            refine lx_nil ?_
            refine hK48 _ _ ?_; try clear hK48 K48
            refine A_seq fun K49 hK49 => ?_
            refine A_reg ?_
            refine r_v (U ((r + dy1 y))) rfl rfl rfl rfl ?_
            refine r_v (Value.bool (decide ((4294967296#64) ≤ ((r + dy1 y))))) rfl rfl (U_le (4294967296#64) ((r + dy1 y))) rfl ?_
            refine lx_nil ?_
            refine hK49 _ _ ?_; try clear hK49 K49
            refine A_cond (decide ((4294967296#64) ≤ ((r + dy1 y)))) rfl (fun hc50 => ?_) (fun hc50 => ?_)
            · have hc50x := of_decide_eq_true hc50
              refine A_exit ?_
              refine fg _ (.of (List.Sublist.slnil)) ?_
              exact is_mk (by rw [qb_of (hp0.brk (dig2 hy hlt) (.inl hg40x) hc50x)]; rfl) (rfl)
            · have hc50x := of_decide_eq_false hc50
              refine A_skip ?_
              refine fg _ (.of (List.Sublist.slnil)) ?_
              exact ⟨_, by have := (hp0.again (dig2 hy hlt) (.inl hg40x) hc50x).2; omega, q - 1#64, r + dy1 y, (hp0.again (dig2 hy hlt) (.inl hg40x) hc50x).1, is_mk (by first | rfl | (simp only [hc50, hg40]; rfl)) (rfl), rfl⟩
      · rintro t l ⟨⟨T, rfl⟩, rfl⟩
        refine A_seq fun K51 hK51 => ?_
        refine A_reg ?_
        refine r_v (U (qb (un h l y) (d1 l y) (dy y))) rfl rfl rfl rfl ?_
        refine r_v (U ((qb (un h l y) (d1 l y) (dy y) * 4294967296#64))) rfl rfl (U_mul (qb (un h l y) (d1 l y) (dy y)) (4294967296#64)) rfl ?_
        refine r_v (U (qb (rb (un h l y) (d1 l y) (dy y)) (d0 l y) (dy y))) rfl rfl rfl rfl ?_
        refine r_v (U (((qb (un h l y) (d1 l y) (dy y) * 4294967296#64) + qb (rb (un h l y) (d1 l y) (dy y)) (d0 l y) (dy y)))) rfl rfl (U_add ((qb (un h l y) (d1 l y) (dy y) * 4294967296#64)) (qb (rb (un h l y) (d1 l y) (dy y)) (d0 l y) (dy y))) rfl ?_
        refine r_v (U (rb (un h l y) (d1 l y) (dy y))) rfl rfl rfl rfl ?_
        refine r_v (U ((rb (un h l y) (d1 l y) (dy y) * 4294967296#64))) rfl rfl (U_mul (rb (un h l y) (d1 l y) (dy y)) (4294967296#64)) rfl ?_
        refine r_v (U (d0 l y)) rfl rfl rfl rfl ?_
        refine r_v (U (((rb (un h l y) (d1 l y) (dy y) * 4294967296#64) + d0 l y))) rfl rfl (U_add ((rb (un h l y) (d1 l y) (dy y) * 4294967296#64)) (d0 l y)) rfl ?_
        refine r_v (U (qb (rb (un h l y) (d1 l y) (dy y)) (d0 l y) (dy y))) rfl rfl rfl rfl ?_
        refine r_v (U (dy y)) rfl rfl rfl rfl ?_
        refine r_v (U ((qb (rb (un h l y) (d1 l y) (dy y)) (d0 l y) (dy y) * dy y))) rfl rfl (U_mul (qb (rb (un h l y) (d1 l y) (dy y)) (d0 l y) (dy y)) (dy y)) rfl ?_
        refine r_v (U ((((rb (un h l y) (d1 l y) (dy y) * 4294967296#64) + d0 l y) - (qb (rb (un h l y) (d1 l y) (dy y)) (d0 l y) (dy y) * dy y)))) rfl rfl (U_sub (((rb (un h l y) (d1 l y) (dy y) * 4294967296#64) + d0 l y)) ((qb (rb (un h l y) (d1 l y) (dy y)) (d0 l y) (dy y) * dy y))) rfl ?_
        refine r_v (U (sh y)) rfl rfl rfl rfl ?_
        refine r_v (U (((((rb (un h l y) (d1 l y) (dy y) * 4294967296#64) + d0 l y) - (qb (rb (un h l y) (d1 l y) (dy y)) (d0 l y) (dy y) * dy y)) >>> (sh y).toNat))) rfl rfl (U_shr ((((rb (un h l y) (d1 l y) (dy y) * 4294967296#64) + d0 l y) - (qb (rb (un h l y) (d1 l y) (dy y)) (d0 l y) (dy y) * dy y))) (sh y).toNat) (ev_shr rfl rfl) ?_
        refine r_v (U (((qb (un h l y) (d1 l y) (dy y) * 4294967296#64) + qb (rb (un h l y) (d1 l y) (dy y)) (d0 l y) (dy y)))) rfl rfl rfl rfl ?_
        refine r_v (U (((((rb (un h l y) (d1 l y) (dy y) * 4294967296#64) + d0 l y) - (qb (rb (un h l y) (d1 l y) (dy y)) (d0 l y) (dy y) * dy y)) >>> (sh y).toNat))) rfl rfl rfl rfl ?_
        refine lx_nil ?_
        refine hK51 _ _ ?_; try clear hK51 K51
        refine A_ret (fun hn => ends_eq (v0 := Value.tuple #[U (((qb (un h l y) (d1 l y) (dy y) * 4294967296#64) + qb (rb (un h l y) (d1 l y) (dy y)) (d0 l y) (dy y))), U (((((rb (un h l y) (d1 l y) (dy y) * 4294967296#64) + d0 l y) - (qb (rb (un h l y) (d1 l y) (dy y)) (d0 l y) (dy y) * dy y)) >>> (sh y).toNat))]) (by rw [div_q hy hlt, div_r hy hlt]) (res2 rfl rfl))
theorem eg_118 : Tryd.prog.eqGuardType Tryd.prog.depth 118 = false := by kernel_rfl
theorem si_118 : Tryd.prog.stoodInHeld 118 = false := by kernel_rfl
set_option maxRecDepth 100000 in
theorem eqword_118 {c : Addr → Option Value} (x y : BitVec 128) : ev Tryd.prog c (Op.equal 118 (.agg #[U (hi x), U (lo x)]) (.agg #[U (hi y), U (lo y)])) = some (x == y) := by
  have h := ev_eqStruct (P := Tryd.prog) (c := c) 9999 (t := 118) #[U (hi x), U (lo x)] #[U (hi y), U (lo y)] rfl si_118 (fun f => if f.offset = 0 then (((hi x).toNat : Int) == ((hi y).toNat : Int)) else (((lo x).toNat : Int) == ((lo y).toNat : Int)))
    (fun f hf => by
      simp only [List.mem_cons, List.not_mem_nil, or_false] at hf
      rcases hf with rfl | rfl
      · exact ⟨by decide, _, _, ev_partS (P := Tryd.prog) (t := 23) rfl (by intro fs h; cases h) (by intro n e h; cases h) _ _ rfl, ev_partS (P := Tryd.prog) (t := 23) rfl (by intro fs h; cases h) (by intro n e h; cases h) _ _ rfl, ev_eqInt _ _ _ rfl⟩
      · exact ⟨by decide, _, _, ev_partS (P := Tryd.prog) (t := 23) rfl (by intro fs h; cases h) (by intro n e h; cases h) _ _ rfl, ev_partS (P := Tryd.prog) (t := 23) rfl (by intro fs h; cases h) (by intro n e h; cases h) _ _ rfl, ev_eqInt _ _ _ rfl⟩)
  have h2 := word_beq x y
  rw [← h2]
  rw [show Op.equal 118 (.agg #[U (hi x), U (lo x)]) (.agg #[U (hi y), U (lo y)]) = Op.equalIn (9999 + 1) 118 (.agg #[U (hi x), U (lo x)]) (.agg #[U (hi y), U (lo y)]) from rfl, h]
  simp
theorem zb_131 : ((Tryd.prog.info? 131).bind (·.zero)) = some (.agg ⟨List.replicate 128 (.int .u8 0)⟩) := by kernel_rfl
set_option maxRecDepth 100000 in
set_option maxHeartbeats 400000 in
theorem div_g (x : BitVec 128) (d : BitVec 64) (hd : d ≠ 0#64) : Gives Tryd.prog 60 #[Value.agg #[U (hi (x)), U (lo (x))], U (d)] (Value.tuple #[Value.agg #[U (hi (x / zx d)), U (lo (x / zx d))], U (BitVec.ofNat 64 (x.toNat % d.toNat)), Value.bool (true)]) := by
  refine gives_of_A follows Tryd.func60 rfl 30 rfl (upd (upd (fun _ => undef) 1 (U (d))) 0 (Value.agg #[U (hi (x)), U (lo (x))])) (by funext k; match k with | 0 => rfl | 1 => rfl | k + 2 => rfl) (fun base => ?_)
  refine A_seq fun K1 hK1 => ?_
  refine A_reg ?_
  refine r_a (118, #[U (hi (x)), U (lo (x))]) rfl rfl rfl (fun b2 => ?_) (.inr rfl)
  refine r_a (118, #[U (0#64), U (0#64)]) rfl rfl rfl (fun b3 => ?_) (.inr rfl)
  refine r_v (U (0#64)) rfl rfl rfl rfl ?_
  refine r_v (Value.bool (false)) rfl rfl rfl rfl ?_
  refine lx_nil ?_
  refine hK1 _ _ ?_; try clear hK1 K1
  refine A_seq fun K4 hK4 => ?_
  refine A_seq fun K5 hK5 => ?_
  refine A_reg ?_
  refine r_v (U (d)) rfl rfl rfl rfl ?_
  refine r_v (Value.bool ((d) == (0#64))) rfl rfl (U_eq (d) (0#64)) rfl ?_
  refine lx_nil ?_
  refine hK5 _ _ ?_; try clear hK5 K5
  refine A_cond ((d) == (0#64)) rfl (fun h_ => absurd (h_.symm.trans (beq_eq_false_iff_ne.2 hd)) (by decide)) (fun _ => ?_)
  refine A_skip ?_
  refine hK4 _ _ ?_; try clear hK4 K4
  refine A_seq fun K7 hK7 => ?_
  refine A_draw [] (by decide +kernel) (fun hn => sep_nil) ?_
  refine r_v (Value.pointer (some ⟨b2, 0, none⟩)) rfl rfl rfl rfl ?_
  refine r_l (U (hi (x))) 1 _ _ _ _ rfl rfl rfl rfl rfl ?_
  refine r_v (U (d)) rfl rfl rfl rfl ?_
  refine r_v (U ((hi (x) % d))) rfl rfl (U_rem (hi (x)) (d)) (ev_remU rfl rfl hd) ?_
  refine r_v (Value.pointer (some ⟨b2, 1, none⟩)) rfl rfl rfl rfl ?_
  refine r_l (U (lo (x))) 1 _ _ _ _ rfl rfl rfl rfl rfl ?_
  refine r_v (U (d)) rfl rfl rfl rfl ?_
  refine r_c (Value.tuple #[U (BitVec.ofNat 64 ((((hi (x) % d)).toNat * 2 ^ 64 + (lo (x)).toNat) / (d).toNat)), U (BitVec.ofNat 64 ((((hi (x) % d)).toNat * 2 ^ 64 + (lo (x)).toNat) % (d).toNat))]) rfl _ _ (ev_callF rfl call_65 rfl) (div64_g ((hi (x) % d)) (lo (x)) (d) hd (rem_lt _ _ hd)) ?_
  refine r_v (Value.tuple #[U (BitVec.ofNat 64 ((((hi (x) % d)).toNat * 2 ^ 64 + (lo (x)).toNat) / (d).toNat)), U (BitVec.ofNat 64 ((((hi (x) % d)).toNat * 2 ^ 64 + (lo (x)).toNat) % (d).toNat))]) rfl rfl rfl rfl ?_
  refine r_v (U (BitVec.ofNat 64 ((((hi (x) % d)).toNat * 2 ^ 64 + (lo (x)).toNat) / (d).toNat))) rfl rfl rfl rfl ?_
  refine r_v (U (BitVec.ofNat 64 ((((hi (x) % d)).toNat * 2 ^ 64 + (lo (x)).toNat) % (d).toNat))) rfl rfl rfl rfl ?_
  refine r_v (U (BitVec.ofNat 64 ((((hi (x) % d)).toNat * 2 ^ 64 + (lo (x)).toNat) / (d).toNat))) rfl rfl rfl rfl ?_
  refine r_v (U (BitVec.ofNat 64 ((((hi (x) % d)).toNat * 2 ^ 64 + (lo (x)).toNat) % (d).toNat))) rfl rfl rfl rfl ?_
  refine lx_nil ?_
  refine hK7 _ _ ?_; try clear hK7 K7
  refine A_seq fun K8 hK8 => ?_
  refine A_reg ?_
  refine r_v (Value.pointer (some ⟨b2, 0, none⟩)) rfl rfl rfl rfl ?_
  refine r_l (U (hi (x))) 1 _ _ _ _ rfl rfl rfl rfl rfl ?_
  refine r_v (U (d)) rfl rfl rfl rfl ?_
  refine r_v (U ((hi (x) / d))) rfl rfl (U_quo (hi (x)) (d)) (ev_quoU rfl rfl hd) ?_
  refine r_v (U (BitVec.ofNat 64 ((((hi (x) % d)).toNat * 2 ^ 64 + (lo (x)).toNat) / (d).toNat))) rfl rfl rfl rfl ?_
  refine r_v (Value.agg #[U ((hi (x) / d)), U (BitVec.ofNat 64 ((((hi (x) % d)).toNat * 2 ^ 64 + (lo (x)).toNat) / (d).toNat))]) rfl rfl rfl (ev_buildS rfl rfl rfl rfl) ?_
  refine r_v (U (BitVec.ofNat 64 ((((hi (x) % d)).toNat * 2 ^ 64 + (lo (x)).toNat) % (d).toNat))) rfl rfl rfl rfl ?_
  refine r_s [(b3, 118, #[U ((hi (x) / d)), U (BitVec.ofNat 64 ((((hi (x) % d)).toNat * 2 ^ 64 + (lo (x)).toNat) / (d).toNat))]), (b2, 118, #[U (hi (x)), U (lo (x))])] 0 _ _ _ (#[U (0#64), U (0#64)]) (#[U ((hi (x) / d)), U (BitVec.ofNat 64 ((((hi (x) % d)).toNat * 2 ^ 64 + (lo (x)).toNat) / (d).toNat))]) (#[U ((hi (x) / d)), U (BitVec.ofNat 64 ((((hi (x) % d)).toNat * 2 ^ 64 + (lo (x)).toNat) / (d).toNat))]) rfl rfl rfl rfl (.of rfl rfl) rfl rfl ?_
  refine r_v (U (BitVec.ofNat 64 ((((hi (x) % d)).toNat * 2 ^ 64 + (lo (x)).toNat) % (d).toNat))) rfl rfl rfl rfl ?_
  refine r_v (Value.bool (true)) rfl rfl rfl rfl ?_
  refine lx_nil ?_
  refine hK8 _ _ ?_; try clear hK8 K8
  refine A_ret (fun hn => ends_eq (v0 := Value.tuple #[Value.agg #[U ((hi (x) / d)), U (BitVec.ofNat 64 ((((hi (x) % d)).toNat * 2 ^ 64 + (lo (x)).toNat) / (d).toNat))], U (BitVec.ofNat 64 ((((hi (x) % d)).toNat * 2 ^ 64 + (lo (x)).toNat) % (d).toNat)), Value.bool (true)]) (by rw [hi_quo, quo_lo x hd, quo_left x hd]) (res3 (res_cell hn 0 rfl rfl rfl) rfl rfl))
set_option maxRecDepth 100000 in
set_option maxHeartbeats 400000 in
theorem div0_g (x : BitVec 128) : Gives Tryd.prog 60 #[Value.agg #[U (hi (x)), U (lo (x))], U (0#64)] (Value.tuple #[Value.agg #[U (hi (0#128)), U (lo (0#128))], U (0#64), Value.bool (false)]) := by
  refine gives_of_A follows Tryd.func60 rfl 30 rfl (upd (upd (fun _ => undef) 1 (U (0#64))) 0 (Value.agg #[U (hi (x)), U (lo (x))])) (by funext k; match k with | 0 => rfl | 1 => rfl | k + 2 => rfl) (fun base => ?_)
  refine A_seq fun K1 hK1 => ?_
  refine A_reg ?_
  refine r_a (118, #[U (hi (x)), U (lo (x))]) rfl rfl rfl (fun b2 => ?_) (.inr rfl)
  refine r_a (118, #[U (0#64), U (0#64)]) rfl rfl rfl (fun b3 => ?_) (.inr rfl)
  refine r_v (U (0#64)) rfl rfl rfl rfl ?_
  refine r_v (Value.bool (false)) rfl rfl rfl rfl ?_
  refine lx_nil ?_
  refine hK1 _ _ ?_; try clear hK1 K1
  refine A_seq fun K4 hK4 => ?_
  refine A_seq fun K5 hK5 => ?_
  refine A_reg ?_
  refine r_v (U (0#64)) rfl rfl rfl rfl ?_
  refine r_v (Value.bool (true)) rfl rfl rfl rfl ?_
  refine lx_nil ?_
  refine hK5 _ _ ?_; try clear hK5 K5
  refine A_cond true rfl (fun _ => ?_) (fun h_ => nomatch h_)
  refine A_seq fun K7 hK7 => ?_
  refine A_reg ?_
  refine r_v (Value.agg #[U (0#64), U (0#64)]) rfl rfl rfl (ev_buildS rfl rfl rfl rfl) ?_
  refine r_s [(b3, 118, #[U (0#64), U (0#64)]), (b2, 118, #[U (hi (x)), U (lo (x))])] 0 _ _ _ (#[U (0#64), U (0#64)]) (#[U (0#64), U (0#64)]) (#[U (0#64), U (0#64)]) rfl rfl rfl rfl (.of rfl rfl) rfl rfl ?_
  refine r_v (U (0#64)) rfl rfl rfl rfl ?_
  refine r_v (Value.bool (false)) rfl rfl rfl rfl ?_
  refine lx_nil ?_
  refine hK7 _ _ ?_; try clear hK7 K7
  refine A_ret (fun hn => ends_eq (v0 := Value.tuple #[Value.agg #[U (0#64), U (0#64)], U (0#64), Value.bool (false)]) rfl (res3 (res_cell hn 0 rfl rfl rfl) rfl rfl))
set_option maxRecDepth 100000 in
set_option maxHeartbeats 400000 in
theorem mayBase_g (n : Int) : Gives Tryd.prog 59 #[Value.int .i64 (n)] (Value.bool (decide (n ≥ 2) && decide (n ≤ 16))) := by
  refine gives_of_A follows Tryd.func59 rfl 9 rfl (upd (fun _ => undef) 0 (Value.int .i64 (n))) (by funext k; match k with | 0 => rfl | k + 1 => rfl) (fun base => ?_)
  refine A_seq fun K1 hK1 => ?_
  refine A_reg ?_
  refine r_v (Value.bool (false)) rfl rfl rfl rfl ?_
  refine lx_nil ?_
  refine hK1 _ _ ?_; try clear hK1 K1
  refine A_seq fun K2 hK2 => ?_
  refine A_reg ?_
  refine r_v (Value.int .i64 (n)) rfl rfl rfl rfl ?_
  refine r_v (Value.bool (decide ((n : Int) ≥ 2))) rfl rfl rfl rfl ?_
  refine r_v (Value.bool (decide ((n : Int) ≥ 2))) rfl rfl rfl rfl ?_
  rcases hg3 : (decide ((n : Int) ≥ 2)) with _ | _
  · have hg3x := of_decide_eq_false hg3
    refine r_n false rfl (by decide) rfl ?_
    refine r_n false rfl (by decide) rfl ?_
    refine r_v (Value.bool (false)) rfl rfl rfl rfl ?_
    refine r_v (Value.bool (false)) rfl rfl rfl rfl ?_
    refine lx_nil ?_
    refine hK2 _ _ ?_; try clear hK2 K2
    refine A_ret (fun hn => ends_eq (v0 := Value.bool (false)) (by rw [hg3]; rfl) (res1 rfl))
  · have hg3x := of_decide_eq_true hg3
    refine r_y rfl ?_
    refine r_v (Value.int .i64 (n)) rfl rfl rfl rfl ?_
    refine r_y rfl ?_
    refine r_v (Value.bool (decide ((n : Int) ≤ 16))) rfl rfl rfl rfl ?_
    refine r_v (Value.bool (decide ((n : Int) ≤ 16))) rfl rfl rfl rfl ?_
    refine r_v (Value.bool (decide ((n : Int) ≤ 16))) rfl rfl rfl rfl ?_
    refine lx_nil ?_
    refine hK2 _ _ ?_; try clear hK2 K2
    refine A_ret (fun hn => ends_eq (v0 := Value.bool (decide ((n : Int) ≤ 16))) (by rw [hg3]; rfl) (res1 rfl))
set_option maxRecDepth 100000 in
set_option maxHeartbeats 400000 in
theorem text_g (x : BitVec 128) (b : Nat) (hb1 : 2 ≤ b) (hb2 : b ≤ 16) : Gives Tryd.prog 51 #[Value.agg #[U (hi (x)), U (lo (x))], Value.int .i64 (((b : Nat) : Int))] (Value.string (⟨(textL b 128 x.toNat).toArray⟩)) := by
  refine gives_of_A follows Tryd.func51 rfl 34 rfl (upd (upd (fun _ => undef) 1 (Value.int .i64 (((b : Nat) : Int)))) 0 (Value.agg #[U (hi (x)), U (lo (x))])) (by funext k; match k with | 0 => rfl | 1 => rfl | k + 2 => rfl) (fun base => ?_)
  refine A_seq fun K1 hK1 => ?_
  refine A_reg ?_
  refine r_a (118, #[U (hi (x)), U (lo (x))]) rfl rfl rfl (fun b2 => ?_) (.inr rfl)
  refine r_v (Value.string (⟨#[]⟩)) rfl rfl rfl rfl ?_
  refine lx_nil ?_
  refine hK1 _ _ ?_; try clear hK1 K1
  refine A_seq fun K3 hK3 => ?_
  refine A_seq fun K4 hK4 => ?_
  refine A_reg ?_
  refine r_v (Value.int .i64 (((b : Nat) : Int))) rfl rfl rfl rfl ?_
  refine r_c (Value.bool (decide (((b : Nat) : Int) ≥ 2) && decide (((b : Nat) : Int) ≤ 16))) rfl _ _ (ev_callF rfl call_59 rfl) (mayBase_g (((b : Nat) : Int))) ?_
  refine r_v (Value.bool (!(decide (((b : Nat) : Int) ≥ 2) && decide (((b : Nat) : Int) ≤ 16)))) rfl rfl rfl rfl ?_
  refine lx_nil ?_
  refine hK4 _ _ ?_; try clear hK4 K4
  refine A_cond (!(decide (((b : Nat) : Int) ≥ 2) && decide (((b : Nat) : Int) ≤ 16))) rfl (fun h_ => absurd (h_.symm.trans (by rw [decide_eq_true (show ((b : Nat) : Int) ≥ 2 by omega), decide_eq_true (show ((b : Nat) : Int) ≤ 16 by omega)])) (by decide)) (fun _ => ?_)
  refine A_skip ?_
  refine hK3 _ _ ?_; try clear hK3 K3
  refine A_seq fun K6 hK6 => ?_
  refine A_reg ?_
  refine r_a (131, bytesA (List.replicate 128 0)) rfl rfl (zbytes zb_131) (fun b7 => ?_) (.inr rfl)
  refine lx_nil ?_
  refine hK6 _ _ ?_; try clear hK6 K6
  refine A_seq fun K8 hK8 => ?_
  refine A_reg ?_
  refine r_v (Value.int .i64 (128)) rfl rfl rfl rfl ?_
  refine lx_nil ?_
  refine hK8 _ _ ?_; try clear hK8 K8
  refine A_block ?_
  refine A_loop (fun tt ll nn => ∃ (m : Nat) (y : BitVec 128) (S : List UInt8), ((S).length + m = 128) ∧ (1 ≤ m) ∧ ((y).toNat < 2 ^ (m)) ∧ (textL b 128 x.toNat = textL b (m) (y).toNat ++ (S)) ∧ Is [(0, Value.agg #[U (hi (x)), U (lo (x))]), (1, Value.int .i64 (((b : Nat) : Int))), (2, Value.pointer (some ⟨b2, 0, none⟩)), (5, Value.pointer (some ⟨b7, 0, none⟩)), (6, Value.int .i64 (((m : Nat) : Int)))] [(b7, 131, bytesA (List.replicate (m) 0 ++ (S))), (b2, 118, #[U (hi (y)), U (lo (y))])] tt ll ∧ nn = (m) + 1) ((128) + 1) ?_ ?_
  · exact ⟨128, x, [], rfl, by decide, x.isLt, by simp, is_mk (rfl) (by rw [List.append_nil]), rfl⟩
  · rintro t l n ⟨m, y, S, hp0, hp1, hp2, hp3, ⟨⟨T, rfl⟩, rfl⟩, rfl⟩
    refine A_block ?_
    refine A_seq fun K9 hK9 => ?_
    refine A_reg ?_
    refine r_l (Value.agg #[U (hi (y)), U (lo (y))]) 1 _ _ _ _ rfl rfl rfl rfl rfl ?_
    refine r_v (Value.int .i64 (((b : Nat) : Int))) rfl rfl rfl rfl ?_
    refine r_w (U (db b)) rfl rfl (((U_wrap (b)) : _ = U (BitVec.ofNat 64 (b))).trans rfl) (fun _ => rfl) ?_
    refine r_c (Value.tuple #[Value.agg #[U (hi (yq (y) (b))), U (lo (yq (y) (b)))], U (yr (y) (b)), Value.bool (true)]) rfl _ _ (ev_callF rfl call_60 rfl) (div_g (y) (db b) (db_ne hb1 hb2)) ?_
    refine r_v (Value.tuple #[Value.agg #[U (hi (yq (y) (b))), U (lo (yq (y) (b)))], U (yr (y) (b)), Value.bool (true)]) rfl rfl rfl rfl ?_
    refine r_v (Value.agg #[U (hi (yq (y) (b))), U (lo (yq (y) (b)))]) rfl rfl rfl rfl ?_
    refine r_v (U (yr (y) (b))) rfl rfl rfl rfl ?_
    refine r_v (Value.bool (true)) rfl rfl rfl rfl ?_
    refine r_a (118, #[U (0#64), U (0#64)]) rfl rfl rfl (fun b10 => ?_) (.inr rfl)
    refine r_s [(b10, 118, #[U (hi (yq (y) (b))), U (lo (yq (y) (b)))]), (b7, 131, bytesA (List.replicate (m) 0 ++ (S))), (b2, 118, #[U (hi (y)), U (lo (y))])] 0 _ _ _ (#[U (0#64), U (0#64)]) (#[U (hi (yq (y) (b))), U (lo (yq (y) (b)))]) (#[U (hi (yq (y) (b))), U (lo (yq (y) (b)))]) rfl rfl rfl rfl (.of rfl rfl) rfl rfl ?_
    refine r_v (U (yr (y) (b))) rfl rfl rfl rfl ?_
    refine r_v (Value.bool (true)) rfl rfl rfl rfl ?_
    refine lx_nil ?_
    refine hK9 _ _ ?_; try clear hK9 K9
    refine A_seq fun K11 hK11 => ?_
    refine A_reg ?_
    refine r_v (Value.int .i64 (((m : Nat) : Int))) rfl rfl rfl rfl ?_
    refine r_v (Value.int .i64 (((m - 1 : Nat) : Int))) rfl rfl (((wi64 (by omega) (by omega) (by omega)) : _ = Value.int .i64 ((((m : Nat) : Int)) - (1))).trans (congrArg (Value.int .i64) (by omega))) rfl ?_
    refine r_v (Value.int .i64 (((m - 1 : Nat) : Int))) rfl rfl rfl rfl ?_
    refine lx_nil ?_
    refine hK11 _ _ ?_; try clear hK11 K11
    refine A_seq fun K12 hK12 => ?_
    refine A_reg ?_
    refine r_v (Value.int .i64 (((m - 1 : Nat) : Int))) rfl rfl rfl rfl ?_
    refine r_v (U (yr (y) (b))) rfl rfl rfl rfl ?_
    refine r_v (Value.int .u8 (((dch (yr (y) (b)).toNat).toNat : Int))) rfl rfl rfl (ev_v (ev_digit rfl (yr_lt _ hb1 hb2))) ?_
    have hx26 := ev_v (ev_idx (P := Tryd.prog) (c := fun _ => none) (t := 131) (b := b7) (off := 0) (m - 1) rfl rfl rfl (by omega))
    rw [Nat.zero_add] at hx26
    refine r_v (Value.pointer (some ⟨b7, m - 1, none⟩)) rfl rfl rfl hx26 ?_
    clear hx26
    refine r_s [(b10, 118, #[U (hi (yq (y) (b))), U (lo (yq (y) (b)))]), (b7, 131, bytesA (List.replicate (m - 1) 0 ++ (dch (yr (y) (b)).toNat :: S))), (b2, 118, #[U (hi (y)), U (lo (y))])] 1 _ _ _ (bytesA (List.replicate (m) 0 ++ (S))) (#[Value.int .u8 (((dch (yr (y) (b)).toNat).toNat : Int))]) (bytesA (List.replicate (m - 1) 0 ++ (dch (yr (y) (b)).toNat :: S))) rfl rfl rfl rfl (stok_byte rfl rfl _ _ (by simp; omega)) ((splice_byte _ _ _ (by simp; omega)).trans (by rw [set_digit' _ _ hp1])) rfl ?_
    refine lx_nil ?_
    refine hK12 _ _ ?_; try clear hK12 K12
    refine A_seq fun K13 hK13 => ?_
    refine A_seq fun K14 hK14 => ?_
    refine A_reg ?_
    refine r_l (Value.agg #[U (hi (yq (y) (b))), U (lo (yq (y) (b)))]) 0 _ _ _ _ rfl rfl rfl rfl rfl ?_
    refine r_v (Value.agg #[U (0#64), U (0#64)]) rfl rfl rfl (ev_buildS rfl rfl rfl rfl) ?_
    refine r_v (Value.bool ((yq (y) (b)) == ((0#64) ++ (0#64)))) rfl rfl rfl (ev_binEq rfl rfl eg_118 (by have h_ := eqword_118 (c := fun _ => none) (yq (y) (b)) ((0#64) ++ (0#64)); simp only [app_hl] at h_; exact h_)) ?_
    refine lx_nil ?_
    refine hK14 _ _ ?_; try clear hK14 K14
    refine A_cond ((yq (y) (b)) == ((0#64) ++ (0#64))) rfl (fun hc15 => ?_) (fun hc15 => ?_)
    · have hc15x := eq_of_beq hc15
      refine A_seq fun K16 hK16 => ?_
      refine A_reg ?_
      refine r_v (Value.int .i64 (((m - 1 : Nat) : Int))) rfl rfl rfl rfl ?_
      refine r_v (Value.slice (some ⟨b7, m - 1, none⟩) (128 - (m - 1)) (128 - (m - 1))) rfl rfl rfl (ev_v (ev_sliceArr (m - 1) rfl rfl rfl (by omega))) ?_
      refine r_w (Value.string (⟨(dch (yr y b).toNat :: S).toArray⟩)) rfl rfl (by rw [drop_rep]) (fun hn => ev_v (ev_convBS rfl rfl rfl rfl (ev_bytesStr (List.replicate (m - 1) 0 ++ (dch (yr (y) (b)).toNat :: S)) (cellA_own (ownL_get hn (i := 1) rfl) (nwL_old hn (i := 1) rfl (by decide))) (by simp; omega)))) ?_
      refine r_v (Value.string (⟨(dch (yr y b).toNat :: S).toArray⟩)) rfl rfl rfl rfl ?_
      refine lx_nil ?_
      refine hK16 _ _ ?_; try clear hK16 K16
      refine A_ret (fun hn => ends_eq (v0 := Value.string (⟨(dch (yr y b).toNat :: S).toArray⟩)) (by rw [text_end hb1 hb2 hp1 hp3 hc15x]) (res1 rfl))
    · have hc15x := ne_of_beq_false hc15
      refine A_skip ?_
      refine hK13 _ _ ?_; try clear hK13 K13
      refine A_reg ?_
      refine r_l (Value.agg #[U (hi (yq (y) (b))), U (lo (yq (y) (b)))]) 0 _ _ _ _ rfl rfl rfl rfl rfl ?_
      refine r_s [(b10, 118, #[U (hi (yq (y) (b))), U (lo (yq (y) (b)))]), (b7, 131, bytesA (List.replicate (m - 1) 0 ++ (dch (yr (y) (b)).toNat :: S))), (b2, 118, #[U (hi (yq (y) (b))), U (lo (yq (y) (b)))])] 2 _ _ _ (#[U (hi (y)), U (lo (y))]) (#[U (hi (yq (y) (b))), U (lo (yq (y) (b)))]) (#[U (hi (yq (y) (b))), U (lo (yq (y) (b)))]) rfl rfl rfl rfl (.of rfl rfl) rfl rfl ?_
      refine lx_nil ?_
      refine fg _ (.of (List.Sublist.cons _ (List.Sublist.cons_cons _ (List.Sublist.cons_cons _ (List.Sublist.slnil))))) ?_
      exact ⟨_, by omega, m - 1, yq y b, dch (yr y b).toNat :: S, by simp only [List.length_cons]; omega, (text_step hb1 hb2 hp1 hp2 hp3 hc15x).2.2, (text_step hb1 hb2 hp1 hp2 hp3 hc15x).2.1, (text_step hb1 hb2 hp1 hp2 hp3 hc15x).1, is_mk (rfl) (by first | rfl | simp only [hc15]), rfl⟩
end Go.Proofs.YtmfedgmmgehmgaaDoor
