/- models of functions and their walks -/
import Derived.Test.YtnpbpllibmcokaaBa
namespace Go.Proofs.Ytnpbpllibmcokaa
open Go Go.RowKit Go.Eng
abbrev kBb31_0 (b : Nat) (x0 : Int) (x1 : BitVec 64) (x2 : BitVec 64) : List Bl := [(b, 31, #[vI x0, U x1, U x2])]
abbrev kBb23_1 (b : Nat) (x0 : Value) : List Bl := [(b, 23, #[x0])]
abbrev kBb3_2 (b : Nat) (x0 : Int) : List Bl := [(b, 3, #[vI x0])]
abbrev kBb53_3 (b : Nat) (x0 : Value) (x1 : Int) (x2 : Int) : List Bl := [(b, 53, #[x0, vI x1, vI x2])]
def shunterref02_Bits_k4 (v_1 : BitVec 128) (l1_ : List Bool) (i2_ : Int) (rec_shunterref02_Bits_l3 : List Bool → Int → Option (List Bool)) : Option (List Bool) := ck (0 ≤ i2_ ∧ i2_ < 128) (ck ((l1_).length + ([((hi v_1) ++ (lo v_1)).getLsbD ((i2_).toNat)]).length ≤ 140737488355328) (ck (-9223372036854775808 ≤ (i2_ + 1) ∧ (i2_ + 1) ≤ 9223372036854775807) (rec_shunterref02_Bits_l3 ((l1_ ++ ([((hi v_1) ++ (lo v_1)).getLsbD ((i2_).toNat)]))) (i2_ + 1))))
def shunterref02_Bits_l3 (v_0 : Int) (v_1 : BitVec 128) : Nat → List Bool → Int → Option (List Bool)
  | 0, _, _ => none
  | n8 + 1, l1_, i2_ => if i2_ < v_0 then if i2_ < 128 then shunterref02_Bits_k4 v_1 l1_ i2_ (shunterref02_Bits_l3 v_0 v_1 n8)  else some l1_ else some l1_
def shunterref02_Bits_m (N : Nat) (v_0 : Int) (v_1 : BitVec 128) : Option (List Bool) := shunterref02_Bits_l3 v_0 v_1 N ([]) 0
set_option maxRecDepth 100000 in
set_option maxHeartbeats 8000000 in
theorem shunterref02_Bits_g (N : Nat) (v_0 : Int) (v_1 : BitVec 128) (r) (hM : shunterref02_Bits_m N v_0 v_1 = some r) (ro : Addr → Option Value) : Does Try.prog 43 #[vA #[vI v_0, U (hi v_1), U (lo v_1)]] ro [] (p1 (fun s_ => s_) 4 encB r) := by
 unfold shunterref02_Bits_m at hM
 refine does_of_A follows Try.func43 rfl 28 rfl (upd (fun _ => undef) 0 (vA #[vI v_0, U (hi v_1), U (lo v_1)])) (by funext k; match k with | 0 => rfl | k + 1 => rfl) (fun base0_ => ?_)
 refine A_sr <| r_a (31, #[vI v_0, U (hi v_1), U (lo v_1)]) rfl rfl rfl (fun b2 => ?_) (.inr rfl)
 refine r_V nS rfl <| lx_nil <| A_sr <| r_V (vP b2 1) rfl <| r_l (U (hi v_1)) 0 _ _ _ _ rfl rfl rfl rfl rfl <| r_V (vP b2 2) rfl <| r_l (U (lo v_1)) 0 _ _ _ _ rfl rfl rfl rfl rfl <| r_c (Value.agg (rowF (BitVec.getLsbD ((hi v_1) ++ (lo v_1))))) rfl _ _ (ev_callF rfl call_33 rfl) (of_g (hi v_1) (lo v_1)) <| r_a (71, rowF (BitVec.getLsbD (0#128))) rfl rfl ((zrow z_71).trans (congrArg (fun x => some (71, x)) row_zero)) (fun b4 => ?_) (.inr rfl)
 refine r_s [(b4, 71, rowF (BitVec.getLsbD ((hi v_1) ++ (lo v_1)))), (b2, 31, #[vI v_0, U (hi v_1), U (lo v_1)])] 0 _ _ _ _ _ (rowF (BitVec.getLsbD ((hi v_1) ++ (lo v_1)))) rfl rfl rfl rfl (stok_rows rfl rfl _ _) (splice_rows _ _) rfl <| lx_nil <| A_sr <| r_V nS rfl <| lx_nil <| A_seq fun K6 hK6 => A_sr <| r_V (vI 0) rfl <| lx_nil <| A_block <| A_forget _ (Sub.pickE (Ls := [[(b4, 71, rowF (BitVec.getLsbD ((hi v_1) ++ (lo v_1))))], (kBb31_0 b2 v_0 (hi v_1) (lo v_1)), []]) (Ls0 := [[(b4, 71, rowF (BitVec.getLsbD ((hi v_1) ++ (lo v_1))))], (kBb31_0 b2 v_0 (hi v_1) (lo v_1))]) rfl [0, 1, 2] rfl) ?_
 refine A_loop (fun tt ll nn => ∃ (n8 : Nat) (l1_ : List Bool) (i2_ : Int), (shunterref02_Bits_l3 v_0 v_1 n8 l1_ i2_ = some r) ∧ ∃ (vl1_ : Value) (Sl1_ : List Bl), Sl 4 encB vl1_ l1_ Sl1_ ∧ Is [(1, vP b2 0), (3, vP b4 0), (4, vl1_), (5, vI i2_)] (List.flatten [[(b4, 71, rowF (BitVec.getLsbD ((hi v_1) ++ (lo v_1))))], (kBb31_0 b2 v_0 (hi v_1) (lo v_1)), Sl1_]) tt ll ∧ nn = n8 + 1) (N + 1) ?_ ?_
 ·exact ⟨N, [], 0, hM, nS, [], Sl.nil, is_mk rfl rfl, rfl⟩
 clear hM; rintro t l _ ⟨n8, l1_, i2_, hM, vl1_, Sl1_, hl1_, ⟨⟨T, rfl⟩, rfl⟩, rfl⟩
 rcases n8 with _ | n8
 ·exact absurd hM (by simp [shunterref02_Bits_l3])
 rw [shunterref02_Bits_l3] at hM
 refine A_cut (fun tt ll => (shunterref02_Bits_k4 v_1 l1_ i2_ (shunterref02_Bits_l3 v_0 v_1 n8)  = some r) ∧ Is [(1, vP b2 0), (3, vP b4 0), (4, vl1_), (5, vI i2_)] (List.flatten [[(b4, 71, rowF (BitVec.getLsbD ((hi v_1) ++ (lo v_1))))], (kBb31_0 b2 v_0 (hi v_1) (lo v_1)), Sl1_]) tt ll) ?_ ?_
 ·refine A_seq fun K20 hK20 => A_reg <| r_R [vI i2_, vP b2 0] rfl <| r_l (vI v_0) 1 _ _ _ _ rfl rfl rfl rfl rfl <| r_R [vB (decide (i2_ < v_0)), vB (decide (i2_ < v_0))] rfl ?_
  rcases hg21 : (decide (i2_ < v_0)) with _ | _
  ·replace hM := ifn (of_decide_eq_false hg21) hM
   refine r_R [none, none, vB false] rfl <| lx_nil <| hK20 _ _ ?_; try clear hK20 K20
   refine A_cond false rfl (fun h_ => nomatch h_) (fun _ => ?_)
   refine A_exit <| hK6 _ _ ?_; try clear hK6 K6
   refine A_sr <| r_R [vl1_, vl1_] rfl <| lx_nil ?_
   obtain rfl := Option.some.inj hM
   refine A_ret (fun hn => ends1 (v0 := vl1_) hl1_ (sub_one (Sub.pick [[(b4, 71, rowF (BitVec.getLsbD ((hi v_1) ++ (lo v_1))))], (kBb31_0 b2 v_0 (hi v_1) (lo v_1)), Sl1_] [2] rfl)) rfl (res1 rfl))
  replace hM := ifp (of_decide_eq_true hg21) hM
  refine r_R [vI i2_, vB (decide (i2_ < 128)), vB (decide (i2_ < 128))] rfl <| lx_nil <| hK20 _ _ ?_; try clear hK20 K20
  refine A_cond (decide (i2_ < 128)) rfl (fun hc23 => ?_) (fun hc23 => ?_)
  ·replace hM := ifp (of_decide_eq_true hc23) hM
   refine A_skip <| fg _ (Sub.pick [[(b4, 71, rowF (BitVec.getLsbD ((hi v_1) ++ (lo v_1))))], (kBb31_0 b2 v_0 (hi v_1) (lo v_1)), Sl1_] [0, 1, 2] rfl) ?_
   exact ⟨hM, is_mk rfl rfl⟩
  replace hM := ifn (of_decide_eq_false hc23) hM
  refine A_exit <| hK6 _ _ ?_; try clear hK6 K6
  refine A_sr <| r_R [vl1_, vl1_] rfl <| lx_nil ?_
  obtain rfl := Option.some.inj hM
  refine A_ret (fun hn => ends1 (v0 := vl1_) hl1_ (sub_one (Sub.pick [[(b4, 71, rowF (BitVec.getLsbD ((hi v_1) ++ (lo v_1))))], (kBb31_0 b2 v_0 (hi v_1) (lo v_1)), Sl1_] [2] rfl)) rfl (res1 rfl))
 clear hM; rintro t l ⟨hM, ⟨T, rfl⟩, rfl⟩
 unfold shunterref02_Bits_k4 at hM
 refine A_seq fun K9 hK9 => A_block <| A_reg <| r_R [vl1_, vI i2_] rfl ?_
 obtain ⟨ck10, hM⟩ := ck_some hM
 have hx11 := fun c => ev_v (ev_idxI (P := Try.prog) (c := c) (t := 71) (b := b4) (off := 0) (k := .i64) rfl rfl rfl ck10)
 simp only [Nat.zero_add] at hx11
 have ck10n : (i2_).toNat < 128 := by omega
 refine r_W (Value.pointer (some ⟨b4, (i2_).toNat, none⟩)) rfl (hx11 _) <| r_l (vB (((hi v_1) ++ (lo v_1)).getLsbD ((i2_).toNat))) 0 _ _ _ _ rfl rfl rfl rfl (ld_row1 rfl _ ck10n) <| cD 25 <| r_bs (cs0 := []) (Ls := [[(b4, 71, rowF (BitVec.getLsbD ((hi v_1) ++ (lo v_1))))], (kBb31_0 b2 v_0 (hi v_1) (lo v_1)), Sl1_]) 4 encB [((hi v_1) ++ (lo v_1)).getLsbD ((i2_).toNat)] [vB (((hi v_1) ++ (lo v_1)).getLsbD ((i2_).toNat))] [vB false] rfl rfl rfl rfl rfl rfl rfl (by kernel_rfl) (by kernel_rfl) rfl rfl rfl (fun s12 S13 H14 => ?_)
 obtain ⟨ck15, hM⟩ := ck_some hM
 refine cC 26 <| r_app (cs0 := []) (Ls := [[(b4, 71, rowF (BitVec.getLsbD ((hi v_1) ++ (lo v_1))))], (kBb31_0 b2 v_0 (hi v_1) (lo v_1)), Sl1_, S13]) 2 (En := encB) rfl rfl rfl rfl rfl hl1_ rfl (rd_own H14 (mem_chunk (Ls := [[(b4, 71, rowF (BitVec.getLsbD ((hi v_1) ++ (lo v_1))))], (kBb31_0 b2 v_0 (hi v_1) (lo v_1)), Sl1_, S13]) (k := 3) rfl rfl)) rfl rfl rfl rfl rfl (app_b ck15 rfl) (app_m ck15 rfl) rfl (fun s16 S17 H18 => ?_)
 refine r_V s16 rfl <| lx_nil <| hK9 _ _ ?_; try clear hK9 K9
 refine A_reg <| r_V (vI i2_) rfl ?_
 obtain ⟨ck19, hM⟩ := ck_some hM
 refine r_X (vI (i2_ + 1)) rfl (wi64 rfl ck19.1 ck19.2) rfl <| r_V (vI (i2_ + 1)) rfl <| lx_nil <| fg _ (Sub.pick [[(b4, 71, rowF (BitVec.getLsbD ((hi v_1) ++ (lo v_1))))], (kBb31_0 b2 v_0 (hi v_1) (lo v_1)), S17, S13] [0, 1, 2] rfl) ?_
 exact ⟨n8 + 1, by omega, n8, (l1_ ++ ([((hi v_1) ++ (lo v_1)).getLsbD ((i2_).toNat)])), (i2_ + 1), hM, s16, S17, H18, is_mk rfl rfl, rfl⟩
def shunterref01_Halves_k6 (r' : BitVec 128) (lo2_ : BitVec 64) (i3_ : Int) (rec_shunterref01_Halves_l4 : BitVec 64 → BitVec 64 → Int → Option ((BitVec 64) × (BitVec 64))) (hi5_ : BitVec 64) : Option ((BitVec 64) × (BitVec 64)) := ck (0 ≤ i3_ ∧ i3_ < 128) (if ((r').getLsbD ((i3_).toNat)) = true then ck (-9223372036854775808 ≤ (i3_ - 1) ∧ (i3_ - 1) ≤ 9223372036854775807) (rec_shunterref01_Halves_l4 hi5_ ((2#64 * lo2_) + 1#64) (i3_ - 1)) else ck (-9223372036854775808 ≤ (i3_ - 1) ∧ (i3_ - 1) ≤ 9223372036854775807) (rec_shunterref01_Halves_l4 hi5_ (2#64 * lo2_) (i3_ - 1)))
def shunterref01_Halves_l4 (r' : BitVec 128) : Nat → BitVec 64 → BitVec 64 → Int → Option ((BitVec 64) × (BitVec 64))
  | 0, _, _, _ => none
  | n6 + 1, hi1_, lo2_, i3_ => if i3_ ≥ 0 then ck (-9223372036854775808 ≤ (i3_ + 64) ∧ (i3_ + 64) ≤ 9223372036854775807) (ck (0 ≤ (i3_ + 64) ∧ (i3_ + 64) < 128) (if ((r').getLsbD (((i3_ + 64)).toNat)) = true then shunterref01_Halves_k6 r' lo2_ i3_ (shunterref01_Halves_l4 r' n6) ((2#64 * hi1_) + 1#64) else shunterref01_Halves_k6 r' lo2_ i3_ (shunterref01_Halves_l4 r' n6) (2#64 * hi1_))) else some (hi1_, lo2_)
def shunterref01_Halves_m (N : Nat) (r' : BitVec 128) : Option ((BitVec 64) × (BitVec 64)) := shunterref01_Halves_l4 r' N (0#64) (0#64) 63
set_option maxRecDepth 100000 in
set_option maxHeartbeats 8000000 in
theorem shunterref01_Halves_g (N : Nat) (r' : BitVec 128) (r) (hM : shunterref01_Halves_m N r' = some r) : Gives Try.prog 64 #[Value.agg (rowF (BitVec.getLsbD r'))] (vT #[U r.1, U r.2]) := by
 unfold shunterref01_Halves_m at hM
 refine gives_of_A follows Try.func64 rfl 28 rfl (upd (fun _ => undef) 0 (Value.agg (rowF (BitVec.getLsbD r')))) (by funext k; match k with | 0 => rfl | k + 1 => rfl) (fun base0_ => ?_)
 refine A_sr <| r_a (71, rowF (BitVec.getLsbD r')) rfl rfl rfl (fun b2 => ?_) (.inr rfl)
 refine r_R [U (0#64), U (0#64)] rfl <| lx_nil <| A_sr <| r_R [U (0#64), U (0#64)] rfl <| lx_nil <| A_seq fun K4 hK4 => A_sr <| r_V (vI 63) rfl <| lx_nil <| A_block <| A_loop (fun tt ll nn => ∃ (n6 : Nat) (hi1_ : BitVec 64) (lo2_ : BitVec 64) (i3_ : Int), (shunterref01_Halves_l4 r' n6 hi1_ lo2_ i3_ = some r) ∧ Is [(1, vP b2 0), (4, U hi1_), (5, U lo2_), (6, vI i3_)] [(b2, 71, rowF (BitVec.getLsbD r'))] tt ll ∧ nn = n6 + 1) (N + 1) ?_ ?_
 ·exact ⟨N, 0#64, 0#64, 63, hM, is_mk rfl rfl, rfl⟩
 clear hM; rintro t l _ ⟨n6, hi1_, lo2_, i3_, hM, ⟨⟨T, rfl⟩, rfl⟩, rfl⟩
 rcases n6 with _ | n6
 ·exact absurd hM (by simp [shunterref01_Halves_l4])
 rw [shunterref01_Halves_l4] at hM
 refine A_seq fun K7 hK7 => A_sr <| r_R [vI i3_, vB (decide (i3_ ≥ 0))] rfl <| lx_nil <| A_cond (decide (i3_ ≥ 0)) rfl (fun hc9 => ?_) (fun hc9 => ?_)
 ·replace hM := ifp (of_decide_eq_true hc9) hM
  refine A_skip <| hK7 _ _ ?_; try clear hK7 K7
  refine A_seq fun K10 hK10 => A_block <| A_sr <| r_V (U hi1_) rfl <| r_X (U (2#64 * hi1_)) rfl (U_mul (2#64) hi1_) rfl <| r_V (U (2#64 * hi1_)) rfl <| lx_nil <| A_sr <| r_V (U lo2_) rfl <| r_X (U (2#64 * lo2_)) rfl (U_mul (2#64) lo2_) rfl <| r_V (U (2#64 * lo2_)) rfl <| lx_nil <| A_cut (fun tt ll => ∃ (hi5_ : BitVec 64), (shunterref01_Halves_k6 r' lo2_ i3_ (shunterref01_Halves_l4 r' n6) hi5_ = some r) ∧ Is [(1, vP b2 0), (4, U hi5_), (5, U (2#64 * lo2_)), (6, vI i3_)] [(b2, 71, rowF (BitVec.getLsbD r'))] tt ll) ?_ ?_
  ·refine A_sr <| r_V (vI i3_) rfl ?_
   obtain ⟨ck20, hM⟩ := ck_some hM
   refine r_X (vI (i3_ + 64)) rfl (wi64 rfl ck20.1 ck20.2) rfl ?_
   obtain ⟨ck21, hM⟩ := ck_some hM
   have hx22 := fun c => ev_v (ev_idxI (P := Try.prog) (c := c) (t := 71) (b := b2) (off := 0) (k := .i64) rfl rfl rfl ck21)
   simp only [Nat.zero_add] at hx22
   have ck21n : ((i3_ + 64)).toNat < 128 := by omega
   refine r_W (Value.pointer (some ⟨b2, ((i3_ + 64)).toNat, none⟩)) rfl (hx22 _) <| r_l (vB ((r').getLsbD (((i3_ + 64)).toNat))) 0 _ _ _ _ rfl rfl rfl rfl (ld_row1 rfl _ ck21n) <| lx_nil <| A_cond ((r').getLsbD (((i3_ + 64)).toNat)) rfl (fun hc23 => ?_) (fun hc23 => ?_)
   ·replace hM := ifp hc23 hM
    refine A_reg <| r_V (U (2#64 * hi1_)) rfl <| r_X (U ((2#64 * hi1_) + 1#64)) rfl (U_add (2#64 * hi1_) (1#64)) rfl <| r_V (U ((2#64 * hi1_) + 1#64)) rfl <| lx_nil <| fg _ (Sub.of (List.Sublist.cons_cons _ List.Sublist.slnil)) ?_
    exact ⟨((2#64 * hi1_) + 1#64), hM, is_mk rfl rfl⟩
   replace hM := ifn (Bool.eq_false_iff.1 hc23) hM
   refine A_skip <| fg _ (Sub.of (List.Sublist.cons_cons _ List.Sublist.slnil)) ?_
   exact ⟨(2#64 * hi1_), hM, is_mk rfl rfl⟩
  clear hM; rintro t l ⟨hi5_, hM, ⟨T, rfl⟩, rfl⟩
  unfold shunterref01_Halves_k6 at hM
  refine A_sr <| r_V (vI i3_) rfl ?_
  obtain ⟨ck14, hM⟩ := ck_some hM
  have hx15 := fun c => ev_v (ev_idxI (P := Try.prog) (c := c) (t := 71) (b := b2) (off := 0) (k := .i64) rfl rfl rfl ck14)
  simp only [Nat.zero_add] at hx15
  have ck14n : (i3_).toNat < 128 := by omega
  refine r_W (Value.pointer (some ⟨b2, (i3_).toNat, none⟩)) rfl (hx15 _) <| r_l (vB ((r').getLsbD ((i3_).toNat))) 0 _ _ _ _ rfl rfl rfl rfl (ld_row1 rfl _ ck14n) <| lx_nil <| A_cond ((r').getLsbD ((i3_).toNat)) rfl (fun hc16 => ?_) (fun hc16 => ?_)
  ·replace hM := ifp hc16 hM
   refine A_reg <| r_V (U (2#64 * lo2_)) rfl <| r_X (U ((2#64 * lo2_) + 1#64)) rfl (U_add (2#64 * lo2_) (1#64)) rfl <| r_V (U ((2#64 * lo2_) + 1#64)) rfl <| lx_nil <| hK10 _ _ ?_; try clear hK10 K10
   refine A_reg <| r_V (vI i3_) rfl ?_
   obtain ⟨ck17, hM⟩ := ck_some hM
   refine r_X (vI (i3_ - 1)) rfl (wi64 rfl ck17.1 ck17.2) rfl <| r_V (vI (i3_ - 1)) rfl <| lx_nil <| fg _ (Sub.of (List.Sublist.cons_cons _ List.Sublist.slnil)) ?_
   exact ⟨n6 + 1, by omega, n6, hi5_, ((2#64 * lo2_) + 1#64), (i3_ - 1), hM, is_mk rfl rfl, rfl⟩
  replace hM := ifn (Bool.eq_false_iff.1 hc16) hM
  refine A_skip <| hK10 _ _ ?_; try clear hK10 K10
  refine A_reg <| r_V (vI i3_) rfl ?_
  obtain ⟨ck18, hM⟩ := ck_some hM
  refine r_X (vI (i3_ - 1)) rfl (wi64 rfl ck18.1 ck18.2) rfl <| r_V (vI (i3_ - 1)) rfl <| lx_nil <| fg _ (Sub.of (List.Sublist.cons_cons _ List.Sublist.slnil)) ?_
  exact ⟨n6 + 1, by omega, n6, hi5_, (2#64 * lo2_), (i3_ - 1), hM, is_mk rfl rfl, rfl⟩
 replace hM := ifn (of_decide_eq_false hc9) hM
 refine A_exit <| hK4 _ _ ?_; try clear hK4 K4
 refine A_sr <| r_R [U hi1_, U lo2_, U hi1_, U lo2_] rfl <| lx_nil ?_
 obtain rfl := Option.some.inj hM
 refine A_ret (fun hn => ends_eq (v0 := vT #[U hi1_, U lo2_]) rfl (res2 rfl rfl))
def shunterref02_Of_k2 (N : Nat) (l' : List Bool) (m1_ : BitVec 128) : Option (Int × (BitVec 128)) := (shunterref01_Halves_m N m1_).bind fun r6 => some (((l').length : Int), r6.1 ++ r6.2)
def shunterref02_Of_k6 (l' : List Bool) (i3_ : Int) (m4_ : BitVec 128) (rec_shunterref02_Of_l5 : Int → BitVec 128 → Option (Int × (BitVec 128))) : Option (Int × (BitVec 128)) := ck (0 ≤ i3_ ∧ i3_ < ((l').length : Int)) (ck (0 ≤ i3_ ∧ i3_ < 128) (ck (-9223372036854775808 ≤ (i3_ + 1) ∧ (i3_ + 1) ≤ 9223372036854775807) (rec_shunterref02_Of_l5 (i3_ + 1) (setb m4_ ((i3_).toNat) ((l')[(i3_).toNat]!)))))
def shunterref02_Of_l5 (N : Nat) (l' : List Bool) : Nat → Int → BitVec 128 → Option (Int × (BitVec 128))
  | 0, _, _ => none
  | n10 + 1, i3_, m4_ => if i3_ < ((l').length : Int) then if i3_ < 128 then shunterref02_Of_k6 l' i3_ m4_ (shunterref02_Of_l5 N l' n10)  else shunterref02_Of_k2 N l' m4_ else shunterref02_Of_k2 N l' m4_
def shunterref02_Of_m (N : Nat) (l' : List Bool) : Option (Int × (BitVec 128)) := shunterref02_Of_l5 N l' N 0 (0#128)
set_option maxRecDepth 100000 in
set_option maxHeartbeats 8000000 in
theorem shunterref02_Of_g (N : Nat) (l' : List Bool) (r) (hM : shunterref02_Of_m N l' = some r) (ro : Addr → Option Value) (l'v : Value) (hl' : Rd encB ro l'v l') : Does Try.prog 44 #[l'v] ro [] (pV (vA #[vI r.1, U (hi r.2), U (lo r.2)])) := by
 unfold shunterref02_Of_m at hM
 refine does_of_A follows Try.func44 rfl 33 rfl (upd (fun _ => undef) 0 l'v) (by funext k; match k with | 0 => rfl | k + 1 => rfl) (fun base0_ => ?_)
 refine A_sr <| r_a (31, #[vI 0, U (0#64), U (0#64)]) rfl rfl rfl (fun b2 => ?_) (.inr rfl)
 refine lx_nil <| A_sr <| r_a (71, rowF (BitVec.getLsbD (0#128))) rfl rfl ((zrow z_71).trans (congrArg (fun x => some (71, x)) row_zero)) (fun b4 => ?_) (.inr rfl)
 refine lx_nil <| A_cut (fun tt ll => ∃ (m1_ : BitVec 128), (shunterref02_Of_k2 N l' m1_ = some r) ∧ Is [(0, l'v), (2, vP b2 0), (3, vP b4 0)] [(b4, 71, rowF (BitVec.getLsbD m1_)), (b2, 31, #[vI 0, U (0#64), U (0#64)])] tt ll) ?_ ?_
 ·refine A_sr <| r_V (vI 0) rfl <| lx_nil <| A_block <| A_loop (fun tt ll nn => ∃ (n10 : Nat) (i3_ : Int) (m4_ : BitVec 128), (shunterref02_Of_l5 N l' n10 i3_ m4_ = some r) ∧ Is [(0, l'v), (2, vP b2 0), (3, vP b4 0), (4, vI i3_)] [(b4, 71, rowF (BitVec.getLsbD m4_)), (b2, 31, #[vI 0, U (0#64), U (0#64)])] tt ll ∧ nn = n10 + 1) (N + 1) ?_ ?_
  ·exact ⟨N, 0, 0#128, hM, is_mk rfl (by first | rfl | simp only [app_hl]), rfl⟩
  clear hM; rintro t l _ ⟨n10, i3_, m4_, hM, ⟨⟨T, rfl⟩, rfl⟩, rfl⟩
  rcases n10 with _ | n10
  ·exact absurd hM (by simp [shunterref02_Of_l5])
  rw [shunterref02_Of_l5] at hM
  refine A_cut (fun tt ll => (shunterref02_Of_k6 l' i3_ m4_ (shunterref02_Of_l5 N l' n10)  = some r) ∧ Is [(0, l'v), (2, vP b2 0), (3, vP b4 0), (4, vI i3_)] [(b4, 71, rowF (BitVec.getLsbD m4_)), (b2, 31, #[vI 0, U (0#64), U (0#64)])] tt ll) ?_ ?_
  ·refine A_seq fun K16 hK16 => A_reg <| r_R [vI i3_, l'v] rfl <| r_W (vI ((l').length : Int)) rfl (ev_lenSl rfl rfl rfl (Rd.shp hl')) <| r_R [vB (decide (i3_ < ((l').length : Int))), vB (decide (i3_ < ((l').length : Int)))] rfl ?_
   rcases hg17 : (decide (i3_ < ((l').length : Int))) with _ | _
   ·replace hM := ifn (of_decide_eq_false hg17) hM
    refine r_R [none, none, vB false] rfl <| lx_nil <| hK16 _ _ ?_; try clear hK16 K16
    refine A_cond false rfl (fun h_ => nomatch h_) (fun _ => ?_)
    refine A_exit <| fg _ (Sub.of (List.Sublist.cons_cons _ (List.Sublist.cons_cons _ List.Sublist.slnil))) ?_
    exact ⟨m4_, hM, is_mk rfl (by first | rfl | simp only [app_hl])⟩
   replace hM := ifp (of_decide_eq_true hg17) hM
   refine r_R [vI i3_, vB (decide (i3_ < 128)), vB (decide (i3_ < 128))] rfl <| lx_nil <| hK16 _ _ ?_; try clear hK16 K16
   refine A_cond (decide (i3_ < 128)) rfl (fun hc18 => ?_) (fun hc18 => ?_)
   ·replace hM := ifp (of_decide_eq_true hc18) hM
    refine A_skip <| fg _ (Sub.of (List.Sublist.cons_cons _ (List.Sublist.cons_cons _ List.Sublist.slnil))) ?_
    exact ⟨hM, is_mk rfl (by first | rfl | simp only [app_hl])⟩
   replace hM := ifn (of_decide_eq_false hc18) hM
   refine A_exit <| fg _ (Sub.of (List.Sublist.cons_cons _ (List.Sublist.cons_cons _ List.Sublist.slnil))) ?_
   exact ⟨m4_, hM, is_mk rfl (by first | rfl | simp only [app_hl])⟩
  clear hM; rintro t l ⟨hM, ⟨T, rfl⟩, rfl⟩
  unfold shunterref02_Of_k6 at hM
  refine A_seq fun K11 hK11 => A_block <| A_reg <| r_R [vI i3_, l'v, vI i3_] rfl ?_
  obtain ⟨ck12, hM⟩ := ck_some hM
  refine r_W (elA l'v ((i3_).toNat * 1)) rfl (ev_v (ev_idxSl rfl rfl rfl (Rd.shp hl') ck12)) <| r_le (vB ((l')[(i3_).toNat]!)) (En := encB) ((l')[(i3_).toNat]!) ((i3_).toNat) 0 rfl rfl (rd_ro hl') (get_of ck12) rfl ?_
  obtain ⟨ck13, hM⟩ := ck_some hM
  have hx14 := fun c => ev_v (ev_idxI (P := Try.prog) (c := c) (t := 71) (b := b4) (off := 0) (k := .i64) rfl rfl rfl ck13)
  simp only [Nat.zero_add] at hx14
  have ck13n : (i3_).toNat < 128 := by omega
  refine r_W (Value.pointer (some ⟨b4, (i3_).toNat, none⟩)) rfl (hx14 _) <| r_s [(b4, 71, rowF (BitVec.getLsbD (setb m4_ ((i3_).toNat) ((l')[(i3_).toNat]!)))), (b2, 31, #[vI 0, U (0#64), U (0#64)])] 0 _ _ _ _ _ (rowF (BitVec.getLsbD (setb m4_ ((i3_).toNat) ((l')[(i3_).toNat]!)))) rfl rfl rfl rfl (stok_row1 rfl rfl _ _ ck13n) ((splice_row1 _ _ _).trans (rowF_setb _ _ _ ck13n)) rfl <| lx_nil <| hK11 _ _ ?_; try clear hK11 K11
  refine A_reg <| r_V (vI i3_) rfl ?_
  obtain ⟨ck15, hM⟩ := ck_some hM
  refine r_X (vI (i3_ + 1)) rfl (wi64 rfl ck15.1 ck15.2) rfl <| r_V (vI (i3_ + 1)) rfl <| lx_nil <| fg _ (Sub.of (List.Sublist.cons_cons _ (List.Sublist.cons_cons _ List.Sublist.slnil))) ?_
  exact ⟨n10 + 1, by omega, n10, (i3_ + 1), setb m4_ ((i3_).toNat) ((l')[(i3_).toNat]!), hM, is_mk rfl (by first | rfl | simp only [app_hl]), rfl⟩
 clear hM; rintro t l ⟨m1_, hM, ⟨T, rfl⟩, rfl⟩
 unfold shunterref02_Of_k2 at hM
 refine A_sr <| r_l (Value.agg (rowF (BitVec.getLsbD m1_))) 0 _ _ _ _ rfl rfl rfl rfl (ld_rows rfl rfl rfl _) ?_
 obtain ⟨r6, hr7, hM⟩ := bind_sm hM
 refine r_c (vT #[U r6.1, U r6.2]) rfl _ _ (ev_callF rfl call_64 rfl) (shunterref01_Halves_g N m1_ _ hr7) <| r_R [vT #[U r6.1, U r6.2], U r6.1, U r6.2, U r6.1, U r6.2] rfl <| lx_nil <| A_sr <| r_V l'v rfl <| r_W (vI ((l').length : Int)) rfl (ev_lenSl rfl rfl rfl (Rd.shp hl')) <| r_R [U r6.1, U r6.2] rfl <| r_W (vA #[vI ((l').length : Int), U r6.1, U r6.2]) rfl (ev_buildS rfl rfl rfl rfl) <| r_s [(b4, 71, rowF (BitVec.getLsbD m1_)), (b2, 31, #[vI ((l').length : Int), U r6.1, U r6.2])] 1 _ _ _ _ _ (#[vI ((l').length : Int), U r6.1, U r6.2]) rfl rfl rfl rfl (.of rfl rfl) rfl rfl <| lx_nil ?_
 obtain rfl := Option.some.inj hM
 refine A_ret (fun hn => endsV (v0 := vA #[vI ((l').length : Int), U r6.1, U r6.2]) (by first | rfl | (simp only [app_hl]; done) | simp only [app_hl]) (res1 (res_cell hn 1 rfl rfl rfl)))
def shunterref02_Two_k25 (out8_ : List Bool) (i10_ : Int) (rec_shunterref02_Two_l11 : List Bool → Bool → Int → Option (Int × (BitVec 128) × Int)) (n18_ : Int) (bit24_ : Bool) : Option (Int × (BitVec 128) × Int) := ck ((out8_).length + ([bit24_]).length ≤ 140737488355328) (ck (-9223372036854775808 ≤ (i10_ + 1) ∧ (i10_ + 1) ≤ 9223372036854775807) (rec_shunterref02_Two_l11 (out8_ ++ ([bit24_])) (decide (n18_ ≥ 2)) (i10_ + 1)))
def shunterref02_Two_k23 (op : List UInt8) (r10 : List Bool) (out8_ : List Bool) (i10_ : Int) (rec_shunterref02_Two_l11 : List Bool → Bool → Int → Option (Int × (BitVec 128) × Int)) (q12_ : Bool) (n18_ : Int) (bit22_ : Bool) : Option (Int × (BitVec 128) × Int) := if op = ([120, 111, 114] : List UInt8) then shunterref02_Two_k25 out8_ i10_ rec_shunterref02_Two_l11 n18_ (((r10)[(i10_).toNat]!) != q12_) else shunterref02_Two_k25 out8_ i10_ rec_shunterref02_Two_l11 n18_ bit22_
def shunterref02_Two_k21 (op : List UInt8) (r10 : List Bool) (out8_ : List Bool) (i10_ : Int) (rec_shunterref02_Two_l11 : List Bool → Bool → Int → Option (Int × (BitVec 128) × Int)) (q12_ : Bool) (n18_ : Int) (bit20_ : Bool) : Option (Int × (BitVec 128) × Int) := if op = ([111, 114] : List UInt8) then if ((r10)[(i10_).toNat]!) = true then shunterref02_Two_k23 op r10 out8_ i10_ rec_shunterref02_Two_l11 q12_ n18_ true else shunterref02_Two_k23 op r10 out8_ i10_ rec_shunterref02_Two_l11 q12_ n18_ q12_ else shunterref02_Two_k23 op r10 out8_ i10_ rec_shunterref02_Two_l11 q12_ n18_ bit20_
def shunterref02_Two_k19 (op : List UInt8) (r10 : List Bool) (out8_ : List Bool) (i10_ : Int) (rec_shunterref02_Two_l11 : List Bool → Bool → Int → Option (Int × (BitVec 128) × Int)) (q12_ : Bool) (n18_ : Int) : Option (Int × (BitVec 128) × Int) := ck (0 ≤ n18_ ∧ n18_ ≤ 9223372036854775807) (if op = ([97, 110, 100] : List UInt8) then if ((r10)[(i10_).toNat]!) = true then shunterref02_Two_k21 op r10 out8_ i10_ rec_shunterref02_Two_l11 q12_ n18_ q12_ else shunterref02_Two_k21 op r10 out8_ i10_ rec_shunterref02_Two_l11 q12_ n18_ false else shunterref02_Two_k21 op r10 out8_ i10_ rec_shunterref02_Two_l11 q12_ n18_ ((n18_ % 2 : Int) == 1))
def shunterref02_Two_k17 (op : List UInt8) (r10 : List Bool) (out8_ : List Bool) (carry9_ : Bool) (i10_ : Int) (rec_shunterref02_Two_l11 : List Bool → Bool → Int → Option (Int × (BitVec 128) × Int)) (q12_ : Bool) (n16_ : Int) : Option (Int × (BitVec 128) × Int) := if carry9_ = true then ck (-9223372036854775808 ≤ (n16_ + 1) ∧ (n16_ + 1) ≤ 9223372036854775807) (shunterref02_Two_k19 op r10 out8_ i10_ rec_shunterref02_Two_l11 q12_ (n16_ + 1)) else shunterref02_Two_k19 op r10 out8_ i10_ rec_shunterref02_Two_l11 q12_ n16_
def shunterref02_Two_k15 (op : List UInt8) (r10 : List Bool) (out8_ : List Bool) (carry9_ : Bool) (i10_ : Int) (rec_shunterref02_Two_l11 : List Bool → Bool → Int → Option (Int × (BitVec 128) × Int)) (q12_ : Bool) (n14_ : Int) : Option (Int × (BitVec 128) × Int) := if q12_ = true then ck (-9223372036854775808 ≤ (n14_ + 1) ∧ (n14_ + 1) ≤ 9223372036854775807) (shunterref02_Two_k17 op r10 out8_ carry9_ i10_ rec_shunterref02_Two_l11 q12_ (n14_ + 1)) else shunterref02_Two_k17 op r10 out8_ carry9_ i10_ rec_shunterref02_Two_l11 q12_ n14_
def shunterref02_Two_k13 (op : List UInt8) (r10 : List Bool) (out8_ : List Bool) (carry9_ : Bool) (i10_ : Int) (rec_shunterref02_Two_l11 : List Bool → Bool → Int → Option (Int × (BitVec 128) × Int)) (q12_ : Bool) : Option (Int × (BitVec 128) × Int) := if ((r10)[(i10_).toNat]!) = true then shunterref02_Two_k15 op r10 out8_ carry9_ i10_ rec_shunterref02_Two_l11 q12_ 1 else shunterref02_Two_k15 op r10 out8_ carry9_ i10_ rec_shunterref02_Two_l11 q12_ 0
def shunterref02_Two_k30 (op : List UInt8) (less2_ : Bool) (i27_ : Int) (rec_shunterref02_Two_l28 : List Bool → Int → Option (Int × (BitVec 128) × Int)) (vout29_ : List Bool) : Option (Int × (BitVec 128) × Int) := if op = ([115, 117, 98, 115, 97, 116] : List UInt8) then if less2_ = true then ck (0 ≤ i27_ ∧ i27_ < ((vout29_).length : Int)) (ck (-9223372036854775808 ≤ (i27_ + 1) ∧ (i27_ + 1) ≤ 9223372036854775807) (rec_shunterref02_Two_l28 ((vout29_).set ((i27_).toNat) false) (i27_ + 1))) else ck (-9223372036854775808 ≤ (i27_ + 1) ∧ (i27_ + 1) ≤ 9223372036854775807) (rec_shunterref02_Two_l28 vout29_ (i27_ + 1)) else ck (-9223372036854775808 ≤ (i27_ + 1) ∧ (i27_ + 1) ≤ 9223372036854775807) (rec_shunterref02_Two_l28 vout29_ (i27_ + 1))
def shunterref02_Two_l28 (N : Nat) (op : List UInt8) (less2_ : Bool) (carry9_ : Bool) : Nat → List Bool → Int → Option (Int × (BitVec 128) × Int)
  | 0, _, _ => none
  | n98 + 1, vout26_, i27_ => if i27_ < ((vout26_).length : Int) then if op = ([97, 100, 100, 115, 97, 116] : List UInt8) then if carry9_ = true then ck (0 ≤ i27_ ∧ i27_ < ((vout26_).length : Int)) (shunterref02_Two_k30 op less2_ i27_ (shunterref02_Two_l28 N op less2_ carry9_ n98) ((vout26_).set ((i27_).toNat) true)) else shunterref02_Two_k30 op less2_ i27_ (shunterref02_Two_l28 N op less2_ carry9_ n98) vout26_ else shunterref02_Two_k30 op less2_ i27_ (shunterref02_Two_l28 N op less2_ carry9_ n98) vout26_ else (shunterref02_Of_m N vout26_).bind fun r119 => some (r119.1, r119.2, 0)
def shunterref02_Two_l11 (N : Nat) (op : List UInt8) (r10 : List Bool) (r15 : List Bool) (less2_ : Bool) : Nat → List Bool → Bool → Int → Option (Int × (BitVec 128) × Int)
  | 0, _, _, _ => none
  | n57 + 1, out8_, carry9_, i10_ => if i10_ < ((r10).length : Int) then ck (0 ≤ i10_ ∧ i10_ < ((r10).length : Int)) (ck (0 ≤ i10_ ∧ i10_ < ((r15).length : Int)) (if op = ([115, 117, 98] : List UInt8) then shunterref02_Two_k13 op r10 out8_ carry9_ i10_ (shunterref02_Two_l11 N op r10 r15 less2_ n57) (!((r15)[(i10_).toNat]!)) else if op = ([115, 117, 98, 115, 97, 116] : List UInt8) then shunterref02_Two_k13 op r10 out8_ carry9_ i10_ (shunterref02_Two_l11 N op r10 r15 less2_ n57) (!((r15)[(i10_).toNat]!)) else shunterref02_Two_k13 op r10 out8_ carry9_ i10_ (shunterref02_Two_l11 N op r10 r15 less2_ n57) ((r15)[(i10_).toNat]!))) else shunterref02_Two_l28 N op less2_ carry9_ N out8_ 0
def shunterref02_Two_k7 (N : Nat) (op : List UInt8) (r10 : List Bool) (r15 : List Bool) (less2_ : Bool) (carry6_ : Bool) : Option (Int × (BitVec 128) × Int) := shunterref02_Two_l11 N op r10 r15 less2_ N ([]) carry6_ 0
def shunterref02_Two_l5 (N : Nat) (op : List UInt8) (r10 : List Bool) (r15 : List Bool) : Nat → Bool → Bool → Int → Option (Int × (BitVec 128) × Int)
  | 0, _, _, _ => none
  | n23 + 1, less2_, same3_, i4_ => if i4_ < ((r10).length : Int) then ck (0 ≤ i4_ ∧ i4_ < ((r10).length : Int)) (ck (0 ≤ i4_ ∧ i4_ < ((r15).length : Int)) (if ((r10)[(i4_).toNat]!) ≠ ((r15)[(i4_).toNat]!) then ck (0 ≤ i4_ ∧ i4_ < ((r15).length : Int)) (ck (-9223372036854775808 ≤ (i4_ + 1) ∧ (i4_ + 1) ≤ 9223372036854775807) ((shunterref02_Two_l5 N op r10 r15 n23) ((r15)[(i4_).toNat]!) false (i4_ + 1))) else ck (-9223372036854775808 ≤ (i4_ + 1) ∧ (i4_ + 1) ≤ 9223372036854775807) ((shunterref02_Two_l5 N op r10 r15 n23) less2_ same3_ (i4_ + 1)))) else if op = ([101, 113] : List UInt8) then (shunterref02_Of_m N ([same3_])).bind fun r43 => some (r43.1, r43.2, 0) else if op = ([108, 101, 115, 115] : List UInt8) then (shunterref02_Of_m N ([less2_])).bind fun r52 => some (r52.1, r52.2, 0) else if op = ([115, 117, 98] : List UInt8) then shunterref02_Two_k7 N op r10 r15 less2_ true else shunterref02_Two_k7 N op r10 r15 less2_ (op == ([115, 117, 98, 115, 97, 116] : List UInt8))
def shunterref02_Two_k1 (N : Nat) (op : List UInt8) (a_0 : Int) (a_1 : BitVec 128) (b_0 : Int) (b_1 : BitVec 128) : Option (Int × (BitVec 128) × Int) := if (a_0 : Int) ≠ b_0 then some (0, (0#64) ++ (0#64), 9) else (shunterref02_Bits_m N a_0 a_1).bind fun r10 => (shunterref02_Bits_m N b_0 b_1).bind fun r15 => shunterref02_Two_l5 N op r10 r15 N false true 0
def shunterref02_Two_m (N : Nat) (op : List UInt8) (a_0 : Int) (a_1 : BitVec 128) (b_0 : Int) (b_1 : BitVec 128) : Option (Int × (BitVec 128) × Int) := (shunterref02_May_m N a_0 a_1).bind fun r123 => if r123 = true then (shunterref02_May_m N b_0 b_1).bind fun r126 => if r126 = true then shunterref02_Two_k1 N op a_0 a_1 b_0 b_1  else some (0, (0#64) ++ (0#64), 1) else some (0, (0#64) ++ (0#64), 1)
set_option maxRecDepth 100000 in
set_option maxHeartbeats 8000000 in
theorem shunterref02_Two_g (N : Nat) (op : List UInt8) (a_0 : Int) (a_1 : BitVec 128) (b_0 : Int) (b_1 : BitVec 128) (r) (hM : shunterref02_Two_m N op a_0 a_1 b_0 b_1 = some r) : Gives Try.prog 31 #[vS op, vA #[vI a_0, U (hi a_1), U (lo a_1)], vA #[vI b_0, U (hi b_1), U (lo b_1)]] (vT #[vA #[vI r.1, U (hi r.2.1), U (lo r.2.1)], vI r.2.2]) := by
 unfold shunterref02_Two_m at hM
 refine gives_of_A follows Try.func31 rfl 156 rfl (upd (upd (upd (fun _ => undef) 2 (vA #[vI b_0, U (hi b_1), U (lo b_1)])) 1 (vA #[vI a_0, U (hi a_1), U (lo a_1)])) 0 (vS op)) (by funext k; match k with | 0 => rfl | 1 => rfl | 2 => rfl | k + 3 => rfl) (fun base0_ => ?_)
 refine A_sr <| r_a (31, #[vI a_0, U (hi a_1), U (lo a_1)]) rfl rfl rfl (fun b2 => ?_) (.inr rfl)
 refine r_a (31, #[vI b_0, U (hi b_1), U (lo b_1)]) rfl rfl rfl (fun b3 => ?_) (.inr rfl)
 refine r_a (31, #[vI 0, U (0#64), U (0#64)]) rfl rfl rfl (fun b4 => ?_) (.inr rfl)
 refine r_V (vI 0) rfl <| lx_nil <| A_cut (fun tt ll => (shunterref02_Two_k1 N op a_0 a_1 b_0 b_1  = some r) ∧ Is [(0, vS op), (4, vP b2 0), (5, vP b3 0), (6, vP b4 0)] [(b4, 31, #[vI 0, U (0#64), U (0#64)]), (b3, 31, #[vI b_0, U (hi b_1), U (lo b_1)]), (b2, 31, #[vI a_0, U (hi a_1), U (lo a_1)])] tt ll) ?_ ?_
 ·refine A_seq fun K122 hK122 => A_reg <| r_l (vA #[vI a_0, U (hi a_1), U (lo a_1)]) 2 _ _ _ _ rfl rfl rfl rfl rfl ?_
  obtain ⟨r123, hr124, hM⟩ := bind_sm hM
  refine r_c (vB r123) rfl _ _ (ev_callF rfl call_15 rfl) (shunterref02_May_g N a_0 a_1 _ hr124) <| r_R [vB (!(r123)), vB (!(r123))] rfl ?_
  rcases hg125 : (!(r123)) with _ | _
  ·replace hM := ifp (not_f hg125) hM
   refine r_y rfl <| r_l (vA #[vI b_0, U (hi b_1), U (lo b_1)]) 1 _ _ _ _ rfl rfl rfl rfl rfl <| r_y rfl ?_
   obtain ⟨r126, hr127, hM⟩ := bind_sm hM
   refine r_c (vB r126) rfl _ _ (ev_callF rfl call_15 rfl) (shunterref02_May_g N b_0 b_1 _ hr127) <| r_R [vB (!(r126)), vB (!(r126))] rfl <| lx_nil <| hK122 _ _ ?_; try clear hK122 K122
   refine A_cond (!(r126)) rfl (fun hc128 => ?_) (fun hc128 => ?_)
   ·replace hM := ifn (Bool.eq_false_iff.1 (not_t hc128)) hM
    refine A_sr <| r_W (vA #[vI 0, U (0#64), U (0#64)]) rfl (ev_buildS rfl rfl rfl rfl) <| r_s [(b4, 31, #[vI 0, U (0#64), U (0#64)]), (b3, 31, #[vI b_0, U (hi b_1), U (lo b_1)]), (b2, 31, #[vI a_0, U (hi a_1), U (lo a_1)])] 0 _ _ _ _ _ (#[vI 0, U (0#64), U (0#64)]) rfl rfl rfl rfl (.of rfl rfl) rfl rfl <| r_V (vI 1) rfl <| lx_nil ?_
    obtain rfl := Option.some.inj hM
    refine A_ret (fun hn => ends_eq (v0 := vT #[vA #[vI 0, U (0#64), U (0#64)], vI 1]) (by first | rfl | (simp only [app_hl]; done) | simp only [app_hl]) (res2 (res_cell hn 0 rfl rfl rfl) rfl))
   replace hM := ifp (not_f hc128) hM
   refine A_skip <| fg _ (Sub.of (List.Sublist.cons_cons _ (List.Sublist.cons_cons _ (List.Sublist.cons_cons _ List.Sublist.slnil)))) ?_
   exact ⟨hM, is_mk rfl (by first | rfl | simp only [app_hl])⟩
  replace hM := ifn (Bool.eq_false_iff.1 (not_t hg125)) hM
  refine r_R [none, none, none, vB true] rfl <| lx_nil <| hK122 _ _ ?_; try clear hK122 K122
  refine A_cond true rfl (fun _ => ?_) (fun h_ => nomatch h_)
  refine A_sr <| r_W (vA #[vI 0, U (0#64), U (0#64)]) rfl (ev_buildS rfl rfl rfl rfl) <| r_s [(b4, 31, #[vI 0, U (0#64), U (0#64)]), (b3, 31, #[vI b_0, U (hi b_1), U (lo b_1)]), (b2, 31, #[vI a_0, U (hi a_1), U (lo a_1)])] 0 _ _ _ _ _ (#[vI 0, U (0#64), U (0#64)]) rfl rfl rfl rfl (.of rfl rfl) rfl rfl <| r_V (vI 1) rfl <| lx_nil ?_
  obtain rfl := Option.some.inj hM
  refine A_ret (fun hn => ends_eq (v0 := vT #[vA #[vI 0, U (0#64), U (0#64)], vI 1]) (by first | rfl | (simp only [app_hl]; done) | simp only [app_hl]) (res2 (res_cell hn 0 rfl rfl rfl) rfl))
 clear hM; rintro t l ⟨hM, ⟨T, rfl⟩, rfl⟩
 unfold shunterref02_Two_k1 at hM
 refine A_seq fun K5 hK5 => A_sr <| r_V (vP b2 0) rfl <| r_l (vI a_0) 2 _ _ _ _ rfl rfl rfl rfl rfl <| r_V (vP b3 0) rfl <| r_l (vI b_0) 1 _ _ _ _ rfl rfl rfl rfl rfl <| r_V (vB (a_0 != b_0)) rfl <| lx_nil <| A_cond (a_0 != b_0) rfl (fun hc7 => ?_) (fun hc7 => ?_)
 ·replace hM := ifp (bne_iff_ne.1 hc7) hM
  refine A_sr <| r_W (vA #[vI 0, U (0#64), U (0#64)]) rfl (ev_buildS rfl rfl rfl rfl) <| r_s [(b4, 31, #[vI 0, U (0#64), U (0#64)]), (b3, 31, #[vI b_0, U (hi b_1), U (lo b_1)]), (b2, 31, #[vI a_0, U (hi a_1), U (lo a_1)])] 0 _ _ _ _ _ (#[vI 0, U (0#64), U (0#64)]) rfl rfl rfl rfl (.of rfl rfl) rfl rfl <| r_V (vI 9) rfl <| lx_nil ?_
  obtain rfl := Option.some.inj hM
  refine A_ret (fun hn => ends_eq (v0 := vT #[vA #[vI 0, U (0#64), U (0#64)], vI 9]) (by first | rfl | (simp only [app_hl]; done) | simp only [app_hl]) (res2 (res_cell hn 0 rfl rfl rfl) rfl))
 replace hM := ifn (bne_f hc7) hM
 refine A_skip <| hK5 _ _ ?_; try clear hK5 K5
 refine A_seq fun K9 hK9 => A_drawR [(some 37, false), (some 39, false)] (conG Try.prog [(37, fun _ _ v_ L_ U_ => ∀ u0_, shunterref02_Bits_m N a_0 a_1 = some u0_ → (p1 (fun s_ => s_) 4 encB u0_) v_ L_ U_), (39, fun _ _ v_ L_ U_ => ∀ u0_, shunterref02_Bits_m N b_0 b_1 = some u0_ → (p1 (fun s_ => s_) 4 encB u0_) v_ L_ U_)]) [] (by decide +kernel) (fun hn => sep_nil) <| r_l (vA #[vI a_0, U (hi a_1), U (lo a_1)]) 2 _ _ _ _ rfl rfl rfl rfl rfl ?_
 obtain ⟨r10, hr11, hM⟩ := bind_sm hM
 refine r_g1 (Ls := [(kBb31_0 b4 0 (0#64) (0#64)), (kBb31_0 b3 b_0 (hi b_1) (lo b_1)), (kBb31_0 b2 a_0 (hi a_1) (lo a_1))]) (fun s12 => s12) 4 encB r10 43 _ rfl rfl rfl (ev_callF rfl call_43 rfl) (fun own_ nw_ hs_ => shunterref02_Bits_g N a_0 a_1 _ hr11 hs_.view ) (conE hr11) (fun s12 S13 H14 => ?_)
 refine r_l (vA #[vI b_0, U (hi b_1), U (lo b_1)]) 1 _ _ _ _ rfl rfl rfl rfl rfl ?_
 obtain ⟨r15, hr16, hM⟩ := bind_sm hM
 refine r_g1 (Ls := [(kBb31_0 b4 0 (0#64) (0#64)), (kBb31_0 b3 b_0 (hi b_1) (lo b_1)), (kBb31_0 b2 a_0 (hi a_1) (lo a_1)), S13]) (fun s17 => s17) 4 encB r15 43 _ rfl rfl rfl (ev_callF rfl call_43 rfl) (fun own_ nw_ hs_ => shunterref02_Bits_g N b_0 b_1 _ hr16 hs_.view ) (conE hr16) (fun s17 S18 H19 => ?_)
 refine r_R [s12, s17] rfl <| lx_nil <| hK9 _ _ ?_; try clear hK9 K9
 refine A_sr <| r_R [vB false, vB true] rfl <| lx_nil <| A_seq fun K21 hK21 => A_sr <| r_V (vI 0) rfl <| lx_nil <| A_block <| A_forget _ (Sub.pick [(kBb31_0 b4 0 (0#64) (0#64)), (kBb31_0 b3 b_0 (hi b_1) (lo b_1)), (kBb31_0 b2 a_0 (hi a_1) (lo a_1)), S13, S18] [0, 3, 4] rfl) <| A_loop (fun tt ll nn => ∃ (n23 : Nat) (less2_ : Bool) (same3_ : Bool) (i4_ : Int), (shunterref02_Two_l5 N op r10 r15 n23 less2_ same3_ i4_ = some r) ∧ Is [(0, vS op), (6, vP b4 0), (8, s12), (9, s17), (10, vB less2_), (11, vB same3_), (12, vI i4_)] (List.flatten [(kBb31_0 b4 0 (0#64) (0#64)), S13, S18]) tt ll ∧ nn = n23 + 1) (N + 1) ?_ ?_
 ·exact ⟨N, false, true, 0, hM, is_mk rfl (by first | rfl | simp only [app_hl]), rfl⟩
 clear hM; rintro t l _ ⟨n23, less2_, same3_, i4_, hM, ⟨⟨T, rfl⟩, rfl⟩, rfl⟩
 rcases n23 with _ | n23
 ·exact absurd hM (by simp [shunterref02_Two_l5])
 rw [shunterref02_Two_l5] at hM
 refine A_seq fun K24 hK24 => A_sr <| r_R [vI i4_, s12] rfl <| r_W (vI ((r10).length : Int)) rfl (ev_lenSl rfl rfl rfl (Sl.shp H14)) <| r_V (vB (decide (i4_ < ((r10).length : Int)))) rfl <| lx_nil <| A_cond (decide (i4_ < ((r10).length : Int))) rfl (fun hc26 => ?_) (fun hc26 => ?_)
 ·replace hM := ifp (of_decide_eq_true hc26) hM
  refine A_skip <| hK24 _ _ ?_; try clear hK24 K24
  refine A_seq fun K27 hK27 => A_block <| A_seq fun K28 hK28 => A_draw [] (by decide +kernel) (fun hn => sep_nil) <| r_R [s12, vI i4_] rfl ?_
  obtain ⟨ck29, hM⟩ := ck_some hM
  refine r_W (elA s12 ((i4_).toNat * 1)) rfl (ev_v (ev_idxSl rfl rfl rfl (Sl.shp H14) ck29)) <| r_le (vB ((r10)[(i4_).toNat]!)) (En := encB) ((r10)[(i4_).toNat]!) ((i4_).toNat) 0 rfl rfl (rd_own H14 (mem_chunk (Ls := [(kBb31_0 b4 0 (0#64) (0#64)), S13, S18]) (k := 1) rfl rfl)) (get_of ck29) rfl <| r_R [s17, vI i4_] rfl ?_
  obtain ⟨ck30, hM⟩ := ck_some hM
  refine r_W (elA s17 ((i4_).toNat * 1)) rfl (ev_v (ev_idxSl rfl rfl rfl (Sl.shp H19) ck30)) <| r_le (vB ((r15)[(i4_).toNat]!)) (En := encB) ((r15)[(i4_).toNat]!) ((i4_).toNat) 0 rfl rfl (rd_own H19 (mem_chunk (Ls := [(kBb31_0 b4 0 (0#64) (0#64)), S13, S18]) (k := 2) rfl rfl)) (get_of ck30) rfl <| r_W (vB (((r10)[(i4_).toNat]!) != ((r15)[(i4_).toNat]!))) rfl (ev_binBn rfl rfl rfl) <| lx_nil <| hK28 _ _ ?_; try clear hK28 K28
  refine A_cond (((r10)[(i4_).toNat]!) != ((r15)[(i4_).toNat]!)) rfl (fun hc31 => ?_) (fun hc31 => ?_)
  ·replace hM := ifp (bne_iff_ne.1 hc31) hM
   refine A_sr <| r_R [s17, vI i4_] rfl ?_
   obtain ⟨ck33, hM⟩ := ck_some hM
   refine r_W (elA s17 ((i4_).toNat * 1)) rfl (ev_v (ev_idxSl rfl rfl rfl (Sl.shp H19) ck33)) <| r_le (vB ((r15)[(i4_).toNat]!)) (En := encB) ((r15)[(i4_).toNat]!) ((i4_).toNat) 0 rfl rfl (rd_own H19 (mem_chunk (Ls := [(kBb31_0 b4 0 (0#64) (0#64)), S13, S18]) (k := 2) rfl rfl)) (get_of ck33) rfl <| r_V (vB ((r15)[(i4_).toNat]!)) rfl <| lx_nil <| A_reg <| r_V (vB false) rfl <| lx_nil <| hK27 _ _ ?_; try clear hK27 K27
   refine A_reg <| r_V (vI i4_) rfl ?_
   obtain ⟨ck34, hM⟩ := ck_some hM
   refine r_X (vI (i4_ + 1)) rfl (wi64 rfl ck34.1 ck34.2) rfl <| r_V (vI (i4_ + 1)) rfl <| lx_nil <| fg _ (Sub.pick [(kBb31_0 b4 0 (0#64) (0#64)), S13, S18] [0, 1, 2] rfl) ?_
   exact ⟨n23 + 1, by omega, n23, (r15)[(i4_).toNat]!, false, (i4_ + 1), hM, is_mk rfl (by first | rfl | simp only [app_hl]), rfl⟩
  replace hM := ifn (bne_f hc31) hM
  refine A_skip <| hK27 _ _ ?_; try clear hK27 K27
  refine A_reg <| r_V (vI i4_) rfl ?_
  obtain ⟨ck35, hM⟩ := ck_some hM
  refine r_X (vI (i4_ + 1)) rfl (wi64 rfl ck35.1 ck35.2) rfl <| r_V (vI (i4_ + 1)) rfl <| lx_nil <| fg _ (Sub.pick [(kBb31_0 b4 0 (0#64) (0#64)), S13, S18] [0, 1, 2] rfl) ?_
  exact ⟨n23 + 1, by omega, n23, less2_, same3_, (i4_ + 1), hM, is_mk rfl (by first | rfl | simp only [app_hl]), rfl⟩
 replace hM := ifn (of_decide_eq_false hc26) hM
 refine A_exit <| hK21 _ _ ?_; try clear hK21 K21
 refine A_seq fun K36 hK36 => A_sr <| r_V (vS op) rfl <| r_W (vB (op == ([101, 113] : List UInt8))) rfl (ev_eqS rfl rfl) <| lx_nil <| A_cond (op == ([101, 113] : List UInt8)) rfl (fun hc38 => ?_) (fun hc38 => ?_)
 ·replace hM := ifp (eq_of_beq hc38) hM
  refine A_sr <| r_V (vB same3_) rfl <| cD 62 <| r_bs (cs0 := []) (Ls := [(kBb31_0 b4 0 (0#64) (0#64)), S13, S18]) 4 encB [same3_] [vB same3_] [vB false] rfl rfl rfl rfl rfl rfl rfl (by kernel_rfl) (by kernel_rfl) rfl rfl rfl (fun s40 S41 H42 => ?_)
  obtain ⟨r43, hr44, hM⟩ := bind_sm hM
  refine cB 63 <| r_gv (vA #[vI r43.1, U (hi r43.2), U (lo r43.2)]) 44 _ rfl rfl rfl (ev_callF rfl call_44 rfl) (fun own_ nw_ hs_ => shunterref02_Of_g N ([same3_]) _ hr44 hs_.view s40 ((rd_own H42 (mem_chunk (Ls := [(kBb31_0 b4 0 (0#64) (0#64)), S13, S18, S41]) (k := 3) rfl rfl)) own_ nw_ hs_)) (fun _ _ _ _ _ => Iff.rfl) <| r_s (List.flatten [(kBb31_0 b4 r43.1 (hi r43.2) (lo r43.2)), S13, S18, S41]) 0 _ _ _ _ _ (#[vI r43.1, U (hi r43.2), U (lo r43.2)]) rfl rfl rfl rfl (.of rfl rfl) rfl rfl <| r_V (vI 0) rfl <| lx_nil ?_
  obtain rfl := Option.some.inj hM
  refine A_ret (fun hn => ends_eq (v0 := vT #[vA #[vI r43.1, U (hi r43.2), U (lo r43.2)], vI 0]) rfl (res2 (res_cell hn 0 rfl rfl rfl) rfl))
 replace hM := ifn (ne_of_beq_false hc38) hM
 refine A_skip <| hK36 _ _ ?_; try clear hK36 K36
 refine A_seq fun K45 hK45 => A_sr <| r_V (vS op) rfl <| r_W (vB (op == ([108, 101, 115, 115] : List UInt8))) rfl (ev_eqS rfl rfl) <| lx_nil <| A_cond (op == ([108, 101, 115, 115] : List UInt8)) rfl (fun hc47 => ?_) (fun hc47 => ?_)
 ·replace hM := ifp (eq_of_beq hc47) hM
  refine A_sr <| r_V (vB less2_) rfl <| cD 67 <| r_bs (cs0 := []) (Ls := [(kBb31_0 b4 0 (0#64) (0#64)), S13, S18]) 4 encB [less2_] [vB less2_] [vB false] rfl rfl rfl rfl rfl rfl rfl (by kernel_rfl) (by kernel_rfl) rfl rfl rfl (fun s49 S50 H51 => ?_)
  obtain ⟨r52, hr53, hM⟩ := bind_sm hM
  refine cB 68 <| r_gv (vA #[vI r52.1, U (hi r52.2), U (lo r52.2)]) 44 _ rfl rfl rfl (ev_callF rfl call_44 rfl) (fun own_ nw_ hs_ => shunterref02_Of_g N ([less2_]) _ hr53 hs_.view s49 ((rd_own H51 (mem_chunk (Ls := [(kBb31_0 b4 0 (0#64) (0#64)), S13, S18, S50]) (k := 3) rfl rfl)) own_ nw_ hs_)) (fun _ _ _ _ _ => Iff.rfl) <| r_s (List.flatten [(kBb31_0 b4 r52.1 (hi r52.2) (lo r52.2)), S13, S18, S50]) 0 _ _ _ _ _ (#[vI r52.1, U (hi r52.2), U (lo r52.2)]) rfl rfl rfl rfl (.of rfl rfl) rfl rfl <| r_V (vI 0) rfl <| lx_nil ?_
  obtain rfl := Option.some.inj hM
  refine A_ret (fun hn => ends_eq (v0 := vT #[vA #[vI r52.1, U (hi r52.2), U (lo r52.2)], vI 0]) rfl (res2 (res_cell hn 0 rfl rfl rfl) rfl))
 replace hM := ifn (ne_of_beq_false hc47) hM
 refine A_skip <| hK45 _ _ ?_; try clear hK45 K45
 refine A_sr <| r_V nS rfl <| lx_nil <| A_cut (fun tt ll => ∃ (carry6_ : Bool), (shunterref02_Two_k7 N op r10 r15 less2_ carry6_ = some r) ∧ Is [(0, vS op), (6, vP b4 0), (8, s12), (9, s17), (10, vB less2_), (13, nS), (14, vB carry6_)] (List.flatten [(kBb31_0 b4 0 (0#64) (0#64)), S13, S18]) tt ll) ?_ ?_
 ·refine A_reg <| r_V (vS op) rfl <| r_W (vB (op == ([115, 117, 98] : List UInt8))) rfl (ev_eqS rfl rfl) <| r_V (vB (op == ([115, 117, 98] : List UInt8))) rfl ?_
  rcases hg121 : (op == ([115, 117, 98] : List UInt8)) with _ | _
  ·replace hM := ifn (ne_of_beq_false hg121) hM
   refine r_R [vS op] rfl <| r_y rfl <| r_W (vB (op == ([115, 117, 98, 115, 97, 116] : List UInt8))) rfl (ev_eqS rfl rfl) <| r_R [vB (op == ([115, 117, 98, 115, 97, 116] : List UInt8)), vB (op == ([115, 117, 98, 115, 97, 116] : List UInt8))] rfl <| lx_nil <| fg _ (Sub.pick [(kBb31_0 b4 0 (0#64) (0#64)), S13, S18] [0, 1, 2] rfl) ?_
   exact ⟨op == ([115, 117, 98, 115, 97, 116] : List UInt8), hM, is_mk (by first | rfl | (simp only [hg121]; done) | (simp only [hg121]; rfl) | (simp only [app_hl]; rfl)) (by first | rfl | simp only [app_hl])⟩
  replace hM := ifp (eq_of_beq hg121) hM
  refine r_R [none, none, vB true, vB true] rfl <| lx_nil <| fg _ (Sub.pick [(kBb31_0 b4 0 (0#64) (0#64)), S13, S18] [0, 1, 2] rfl) ?_
  exact ⟨true, hM, is_mk (by first | rfl | (simp only [hg121]; done) | (simp only [hg121]; rfl) | (simp only [app_hl]; rfl)) (by first | rfl | simp only [app_hl])⟩
 clear hM; rintro t l ⟨carry6_, hM, ⟨T, rfl⟩, rfl⟩
 unfold shunterref02_Two_k7 at hM
 refine A_seq fun K55 hK55 => A_sr <| r_V (vI 0) rfl <| lx_nil <| A_block <| A_forget _ (Sub.pickE (Ls := [(kBb31_0 b4 0 (0#64) (0#64)), S13, S18, []]) (Ls0 := [(kBb31_0 b4 0 (0#64) (0#64)), S13, S18]) rfl [0, 1, 2, 3] rfl) ?_
 refine A_loop (fun tt ll nn => ∃ (n57 : Nat) (out8_ : List Bool) (carry9_ : Bool) (i10_ : Int), (shunterref02_Two_l11 N op r10 r15 less2_ n57 out8_ carry9_ i10_ = some r) ∧ ∃ (vout8_ : Value) (Sout8_ : List Bl), Sl 4 encB vout8_ out8_ Sout8_ ∧ Is [(0, vS op), (6, vP b4 0), (8, s12), (9, s17), (10, vB less2_), (13, vout8_), (14, vB carry9_), (15, vI i10_)] (List.flatten [(kBb31_0 b4 0 (0#64) (0#64)), S13, S18, Sout8_]) tt ll ∧ nn = n57 + 1) (N + 1) ?_ ?_
 ·exact ⟨N, [], carry6_, 0, hM, nS, [], Sl.nil, is_mk rfl (by first | rfl | simp only [app_hl]), rfl⟩
 clear hM; rintro t l _ ⟨n57, out8_, carry9_, i10_, hM, vout8_, Sout8_, hout8_, ⟨⟨T, rfl⟩, rfl⟩, rfl⟩
 rcases n57 with _ | n57
 ·exact absurd hM (by simp [shunterref02_Two_l11])
 rw [shunterref02_Two_l11] at hM
 refine A_seq fun K58 hK58 => A_sr <| r_R [vI i10_, s12] rfl <| r_W (vI ((r10).length : Int)) rfl (ev_lenSl rfl rfl rfl (Sl.shp H14)) <| r_V (vB (decide (i10_ < ((r10).length : Int)))) rfl <| lx_nil <| A_cond (decide (i10_ < ((r10).length : Int))) rfl (fun hc60 => ?_) (fun hc60 => ?_)
 ·replace hM := ifp (of_decide_eq_true hc60) hM
  refine A_skip <| hK58 _ _ ?_; try clear hK58 K58
  refine A_seq fun K61 hK61 => A_block <| A_seq fun K62 hK62 => A_draw [] (by decide +kernel) (fun hn => sep_nil) <| r_R [s12, vI i10_] rfl ?_
  obtain ⟨ck63, hM⟩ := ck_some hM
  refine r_W (elA s12 ((i10_).toNat * 1)) rfl (ev_v (ev_idxSl rfl rfl rfl (Sl.shp H14) ck63)) <| r_le (vB ((r10)[(i10_).toNat]!)) (En := encB) ((r10)[(i10_).toNat]!) ((i10_).toNat) 0 rfl rfl (rd_own H14 (mem_chunk (Ls := [(kBb31_0 b4 0 (0#64) (0#64)), S13, S18, Sout8_]) (k := 1) rfl rfl)) (get_of ck63) rfl <| r_R [s17, vI i10_] rfl ?_
  obtain ⟨ck64, hM⟩ := ck_some hM
  refine r_W (elA s17 ((i10_).toNat * 1)) rfl (ev_v (ev_idxSl rfl rfl rfl (Sl.shp H19) ck64)) <| r_le (vB ((r15)[(i10_).toNat]!)) (En := encB) ((r15)[(i10_).toNat]!) ((i10_).toNat) 0 rfl rfl (rd_own H19 (mem_chunk (Ls := [(kBb31_0 b4 0 (0#64) (0#64)), S13, S18, Sout8_]) (k := 2) rfl rfl)) (get_of ck64) rfl <| r_R [vB ((r10)[(i10_).toNat]!), vB ((r15)[(i10_).toNat]!)] rfl <| lx_nil <| hK62 _ _ ?_; try clear hK62 K62
  refine A_cut (fun tt ll => ∃ (q12_ : Bool), (shunterref02_Two_k13 op r10 out8_ carry9_ i10_ (shunterref02_Two_l11 N op r10 r15 less2_ n57) q12_ = some r) ∧ Is [(0, vS op), (6, vP b4 0), (8, s12), (9, s17), (10, vB less2_), (13, vout8_), (14, vB carry9_), (15, vI i10_), (16, vB ((r10)[(i10_).toNat]!)), (17, vB q12_)] (List.flatten [(kBb31_0 b4 0 (0#64) (0#64)), S13, S18, Sout8_]) tt ll) ?_ ?_
  ·refine A_seq fun K93 hK93 => A_reg <| r_V (vS op) rfl <| r_W (vB (op == ([115, 117, 98] : List UInt8))) rfl (ev_eqS rfl rfl) <| r_V (vB (op == ([115, 117, 98] : List UInt8))) rfl ?_
   rcases hg94 : (op == ([115, 117, 98] : List UInt8)) with _ | _
   ·replace hM := ifn (ne_of_beq_false hg94) hM
    refine r_R [vS op] rfl <| r_y rfl <| r_W (vB (op == ([115, 117, 98, 115, 97, 116] : List UInt8))) rfl (ev_eqS rfl rfl) <| r_V (vB (op == ([115, 117, 98, 115, 97, 116] : List UInt8))) rfl <| lx_nil <| hK93 _ _ ?_; try clear hK93 K93
    refine A_cond (op == ([115, 117, 98, 115, 97, 116] : List UInt8)) rfl (fun hc95 => ?_) (fun hc95 => ?_)
    ·replace hM := ifp (eq_of_beq hc95) hM
     refine A_reg <| r_R [vB ((r15)[(i10_).toNat]!), vB (!((r15)[(i10_).toNat]!)), vB (!((r15)[(i10_).toNat]!))] rfl <| lx_nil <| fg _ (Sub.pick [(kBb31_0 b4 0 (0#64) (0#64)), S13, S18, Sout8_] [0, 1, 2, 3] rfl) ?_
     exact ⟨!((r15)[(i10_).toNat]!), hM, is_mk (by first | rfl | (simp only [hg94]; done) | (simp only [hg94]; rfl) | (simp only [app_hl]; rfl)) (by first | rfl | simp only [app_hl])⟩
    replace hM := ifn (ne_of_beq_false hc95) hM
    refine A_skip <| fg _ (Sub.pick [(kBb31_0 b4 0 (0#64) (0#64)), S13, S18, Sout8_] [0, 1, 2, 3] rfl) ?_
    exact ⟨(r15)[(i10_).toNat]!, hM, is_mk (by first | rfl | (simp only [hg94]; done) | (simp only [hg94]; rfl) | (simp only [app_hl]; rfl)) (by first | rfl | simp only [app_hl])⟩
   replace hM := ifp (eq_of_beq hg94) hM
   refine r_R [none, none, vB true] rfl <| lx_nil <| hK93 _ _ ?_; try clear hK93 K93
   refine A_cond true rfl (fun _ => ?_) (fun h_ => nomatch h_)
   refine A_reg <| r_R [vB ((r15)[(i10_).toNat]!), vB (!((r15)[(i10_).toNat]!)), vB (!((r15)[(i10_).toNat]!))] rfl <| lx_nil <| fg _ (Sub.pick [(kBb31_0 b4 0 (0#64) (0#64)), S13, S18, Sout8_] [0, 1, 2, 3] rfl) ?_
   exact ⟨!((r15)[(i10_).toNat]!), hM, is_mk (by first | rfl | (simp only [hg94]; done) | (simp only [hg94]; rfl) | (simp only [app_hl]; rfl)) (by first | rfl | simp only [app_hl])⟩
  clear hM; rintro t l ⟨q12_, hM, ⟨T, rfl⟩, rfl⟩
  unfold shunterref02_Two_k13 at hM
  refine A_sr <| r_V (vI 0) rfl <| lx_nil <| A_cut (fun tt ll => ∃ (n14_ : Int), (shunterref02_Two_k15 op r10 out8_ carry9_ i10_ (shunterref02_Two_l11 N op r10 r15 less2_ n57) q12_ n14_ = some r) ∧ Is [(0, vS op), (6, vP b4 0), (8, s12), (9, s17), (10, vB less2_), (13, vout8_), (14, vB carry9_), (15, vI i10_), (16, vB ((r10)[(i10_).toNat]!)), (17, vB q12_), (18, vI n14_)] (List.flatten [(kBb31_0 b4 0 (0#64) (0#64)), S13, S18, Sout8_]) tt ll) ?_ ?_
  ·refine A_sr <| r_V (vB ((r10)[(i10_).toNat]!)) rfl <| lx_nil <| A_cond ((r10)[(i10_).toNat]!) rfl (fun hc92 => ?_) (fun hc92 => ?_)
   ·replace hM := ifp hc92 hM
    refine A_reg <| r_V (vI 0) rfl <| r_X (vI 1) rfl (wi64 rfl (by decide) (by decide)) rfl <| r_V (vI 1) rfl <| lx_nil <| fg _ (Sub.pick [(kBb31_0 b4 0 (0#64) (0#64)), S13, S18, Sout8_] [0, 1, 2, 3] rfl) ?_
    exact ⟨1, hM, is_mk rfl (by first | rfl | simp only [app_hl])⟩
   replace hM := ifn (Bool.eq_false_iff.1 hc92) hM
   refine A_skip <| fg _ (Sub.pick [(kBb31_0 b4 0 (0#64) (0#64)), S13, S18, Sout8_] [0, 1, 2, 3] rfl) ?_
   exact ⟨0, hM, is_mk rfl (by first | rfl | simp only [app_hl])⟩
  clear hM; rintro t l ⟨n14_, hM, ⟨T, rfl⟩, rfl⟩
  unfold shunterref02_Two_k15 at hM
  refine A_cut (fun tt ll => ∃ (n16_ : Int), (shunterref02_Two_k17 op r10 out8_ carry9_ i10_ (shunterref02_Two_l11 N op r10 r15 less2_ n57) q12_ n16_ = some r) ∧ Is [(0, vS op), (6, vP b4 0), (8, s12), (9, s17), (10, vB less2_), (13, vout8_), (14, vB carry9_), (15, vI i10_), (16, vB ((r10)[(i10_).toNat]!)), (17, vB q12_), (18, vI n16_)] (List.flatten [(kBb31_0 b4 0 (0#64) (0#64)), S13, S18, Sout8_]) tt ll) ?_ ?_
  ·refine A_sr <| r_V (vB q12_) rfl <| lx_nil <| A_cond q12_ rfl (fun hc89 => ?_) (fun hc89 => ?_)
   ·replace hM := ifp hc89 hM
    refine A_reg <| r_V (vI n14_) rfl ?_
    obtain ⟨ck90, hM⟩ := ck_some hM
    refine r_X (vI (n14_ + 1)) rfl (wi64 rfl ck90.1 ck90.2) rfl <| r_V (vI (n14_ + 1)) rfl <| lx_nil <| fg _ (Sub.pick [(kBb31_0 b4 0 (0#64) (0#64)), S13, S18, Sout8_] [0, 1, 2, 3] rfl) ?_
    exact ⟨(n14_ + 1), hM, is_mk rfl (by first | rfl | simp only [app_hl])⟩
   replace hM := ifn (Bool.eq_false_iff.1 hc89) hM
   refine A_skip <| fg _ (Sub.pick [(kBb31_0 b4 0 (0#64) (0#64)), S13, S18, Sout8_] [0, 1, 2, 3] rfl) ?_
   exact ⟨n14_, hM, is_mk rfl (by first | rfl | simp only [app_hl])⟩
  clear hM; rintro t l ⟨n16_, hM, ⟨T, rfl⟩, rfl⟩
  unfold shunterref02_Two_k17 at hM
  refine A_cut (fun tt ll => ∃ (n18_ : Int), (shunterref02_Two_k19 op r10 out8_ i10_ (shunterref02_Two_l11 N op r10 r15 less2_ n57) q12_ n18_ = some r) ∧ Is [(0, vS op), (6, vP b4 0), (8, s12), (9, s17), (10, vB less2_), (13, vout8_), (15, vI i10_), (16, vB ((r10)[(i10_).toNat]!)), (17, vB q12_), (18, vI n18_)] (List.flatten [(kBb31_0 b4 0 (0#64) (0#64)), S13, S18, Sout8_]) tt ll) ?_ ?_
  ·refine A_sr <| r_V (vB carry9_) rfl <| lx_nil <| A_cond carry9_ rfl (fun hc86 => ?_) (fun hc86 => ?_)
   ·replace hM := ifp hc86 hM
    refine A_reg <| r_V (vI n16_) rfl ?_
    obtain ⟨ck87, hM⟩ := ck_some hM
    refine r_X (vI (n16_ + 1)) rfl (wi64 rfl ck87.1 ck87.2) rfl <| r_V (vI (n16_ + 1)) rfl <| lx_nil <| fg _ (Sub.pick [(kBb31_0 b4 0 (0#64) (0#64)), S13, S18, Sout8_] [0, 1, 2, 3] rfl) ?_
    exact ⟨(n16_ + 1), hM, is_mk rfl (by first | rfl | simp only [app_hl])⟩
   replace hM := ifn (Bool.eq_false_iff.1 hc86) hM
   refine A_skip <| fg _ (Sub.pick [(kBb31_0 b4 0 (0#64) (0#64)), S13, S18, Sout8_] [0, 1, 2, 3] rfl) ?_
   exact ⟨n16_, hM, is_mk rfl (by first | rfl | simp only [app_hl])⟩
  clear hM; rintro t l ⟨n18_, hM, ⟨T, rfl⟩, rfl⟩
  unfold shunterref02_Two_k19 at hM
  refine A_sr <| r_V (vI n18_) rfl ?_
  obtain ⟨ck67, hM⟩ := ck_some hM
  refine r_X (vI (n18_ % 2)) rfl (rem_i64 ck67.1) rfl <| r_R [vB ((n18_ % 2 : Int) == 1), vB ((n18_ % 2 : Int) == 1)] rfl <| lx_nil <| A_sr <| r_R [vI n18_, vB (decide (n18_ ≥ 2)), vB (decide (n18_ ≥ 2))] rfl <| lx_nil <| A_cut (fun tt ll => ∃ (bit20_ : Bool), (shunterref02_Two_k21 op r10 out8_ i10_ (shunterref02_Two_l11 N op r10 r15 less2_ n57) q12_ n18_ bit20_ = some r) ∧ Is [(0, vS op), (6, vP b4 0), (8, s12), (9, s17), (10, vB less2_), (13, vout8_), (14, vB (decide (n18_ ≥ 2))), (15, vI i10_), (16, vB ((r10)[(i10_).toNat]!)), (17, vB q12_), (19, vB bit20_)] (List.flatten [(kBb31_0 b4 0 (0#64) (0#64)), S13, S18, Sout8_]) tt ll) ?_ ?_
  ·refine A_sr <| r_V (vS op) rfl <| r_W (vB (op == ([97, 110, 100] : List UInt8))) rfl (ev_eqS rfl rfl) <| lx_nil <| A_cond (op == ([97, 110, 100] : List UInt8)) rfl (fun hc83 => ?_) (fun hc83 => ?_)
   ·replace hM := ifp (eq_of_beq hc83) hM
    refine A_reg <| r_R [vB ((r10)[(i10_).toNat]!), vB ((r10)[(i10_).toNat]!)] rfl ?_
    rcases hg84 : ((r10)[(i10_).toNat]!) with _ | _
    ·replace hM := ifn (Bool.eq_false_iff.1 hg84) hM
     refine r_R [none, vB false, vB false] rfl <| lx_nil <| fg _ (Sub.pick [(kBb31_0 b4 0 (0#64) (0#64)), S13, S18, Sout8_] [0, 1, 2, 3] rfl) ?_
     exact ⟨false, hM, is_mk (by first | rfl | (simp only [hg84]; done) | (simp only [hg84]; rfl) | (simp only [app_hl]; rfl)) (by first | rfl | simp only [app_hl])⟩
    replace hM := ifp hg84 hM
    refine r_R [vB q12_, vB q12_, vB q12_] rfl <| lx_nil <| fg _ (Sub.pick [(kBb31_0 b4 0 (0#64) (0#64)), S13, S18, Sout8_] [0, 1, 2, 3] rfl) ?_
    exact ⟨q12_, hM, is_mk (by first | rfl | (simp only [hg84]; done) | (simp only [hg84]; rfl) | (simp only [app_hl]; rfl)) (by first | rfl | simp only [app_hl])⟩
   replace hM := ifn (ne_of_beq_false hc83) hM
   refine A_skip <| fg _ (Sub.pick [(kBb31_0 b4 0 (0#64) (0#64)), S13, S18, Sout8_] [0, 1, 2, 3] rfl) ?_
   exact ⟨((n18_ % 2 : Int) == 1), hM, is_mk rfl (by first | rfl | simp only [app_hl])⟩
  clear hM; rintro t l ⟨bit20_, hM, ⟨T, rfl⟩, rfl⟩
  unfold shunterref02_Two_k21 at hM
  refine A_cut (fun tt ll => ∃ (bit22_ : Bool), (shunterref02_Two_k23 op r10 out8_ i10_ (shunterref02_Two_l11 N op r10 r15 less2_ n57) q12_ n18_ bit22_ = some r) ∧ Is [(0, vS op), (6, vP b4 0), (8, s12), (9, s17), (10, vB less2_), (13, vout8_), (14, vB (decide (n18_ ≥ 2))), (15, vI i10_), (16, vB ((r10)[(i10_).toNat]!)), (17, vB q12_), (19, vB bit22_)] (List.flatten [(kBb31_0 b4 0 (0#64) (0#64)), S13, S18, Sout8_]) tt ll) ?_ ?_
  ·refine A_sr <| r_V (vS op) rfl <| r_W (vB (op == ([111, 114] : List UInt8))) rfl (ev_eqS rfl rfl) <| lx_nil <| A_cond (op == ([111, 114] : List UInt8)) rfl (fun hc80 => ?_) (fun hc80 => ?_)
   ·replace hM := ifp (eq_of_beq hc80) hM
    refine A_reg <| r_R [vB ((r10)[(i10_).toNat]!), vB ((r10)[(i10_).toNat]!)] rfl ?_
    rcases hg81 : ((r10)[(i10_).toNat]!) with _ | _
    ·replace hM := ifn (Bool.eq_false_iff.1 hg81) hM
     refine r_R [vB q12_, vB q12_, vB q12_] rfl <| lx_nil <| fg _ (Sub.pick [(kBb31_0 b4 0 (0#64) (0#64)), S13, S18, Sout8_] [0, 1, 2, 3] rfl) ?_
     exact ⟨q12_, hM, is_mk (by first | rfl | (simp only [hg81]; done) | (simp only [hg81]; rfl) | (simp only [app_hl]; rfl)) (by first | rfl | simp only [app_hl])⟩
    replace hM := ifp hg81 hM
    refine r_R [none, vB true, vB true] rfl <| lx_nil <| fg _ (Sub.pick [(kBb31_0 b4 0 (0#64) (0#64)), S13, S18, Sout8_] [0, 1, 2, 3] rfl) ?_
    exact ⟨true, hM, is_mk (by first | rfl | (simp only [hg81]; done) | (simp only [hg81]; rfl) | (simp only [app_hl]; rfl)) (by first | rfl | simp only [app_hl])⟩
   replace hM := ifn (ne_of_beq_false hc80) hM
   refine A_skip <| fg _ (Sub.pick [(kBb31_0 b4 0 (0#64) (0#64)), S13, S18, Sout8_] [0, 1, 2, 3] rfl) ?_
   exact ⟨bit20_, hM, is_mk rfl (by first | rfl | simp only [app_hl])⟩
  clear hM; rintro t l ⟨bit22_, hM, ⟨T, rfl⟩, rfl⟩
  unfold shunterref02_Two_k23 at hM
  refine A_cut (fun tt ll => ∃ (bit24_ : Bool), (shunterref02_Two_k25 out8_ i10_ (shunterref02_Two_l11 N op r10 r15 less2_ n57) n18_ bit24_ = some r) ∧ Is [(0, vS op), (6, vP b4 0), (8, s12), (9, s17), (10, vB less2_), (13, vout8_), (14, vB (decide (n18_ ≥ 2))), (15, vI i10_), (19, vB bit24_)] (List.flatten [(kBb31_0 b4 0 (0#64) (0#64)), S13, S18, Sout8_]) tt ll) ?_ ?_
  ·refine A_sr <| r_V (vS op) rfl <| r_W (vB (op == ([120, 111, 114] : List UInt8))) rfl (ev_eqS rfl rfl) <| lx_nil <| A_cond (op == ([120, 111, 114] : List UInt8)) rfl (fun hc78 => ?_) (fun hc78 => ?_)
   ·replace hM := ifp (eq_of_beq hc78) hM
    refine A_reg <| r_R [vB ((r10)[(i10_).toNat]!), vB q12_] rfl <| r_W (vB (((r10)[(i10_).toNat]!) != q12_)) rfl (ev_binBn rfl rfl rfl) <| r_V (vB (((r10)[(i10_).toNat]!) != q12_)) rfl <| lx_nil <| fg _ (Sub.pick [(kBb31_0 b4 0 (0#64) (0#64)), S13, S18, Sout8_] [0, 1, 2, 3] rfl) ?_
    exact ⟨((r10)[(i10_).toNat]!) != q12_, hM, is_mk rfl (by first | rfl | simp only [app_hl])⟩
   replace hM := ifn (ne_of_beq_false hc78) hM
   refine A_skip <| fg _ (Sub.pick [(kBb31_0 b4 0 (0#64) (0#64)), S13, S18, Sout8_] [0, 1, 2, 3] rfl) ?_
   exact ⟨bit22_, hM, is_mk rfl (by first | rfl | simp only [app_hl])⟩
  clear hM; rintro t l ⟨bit24_, hM, ⟨T, rfl⟩, rfl⟩
  unfold shunterref02_Two_k25 at hM
  refine A_reg <| r_R [vout8_, vB bit24_] rfl <| cD 130 <| r_bs (cs0 := []) (Ls := [(kBb31_0 b4 0 (0#64) (0#64)), S13, S18, Sout8_]) 4 encB [bit24_] [vB bit24_] [vB false] rfl rfl rfl rfl rfl rfl rfl (by kernel_rfl) (by kernel_rfl) rfl rfl rfl (fun s69 S70 H71 => ?_)
  obtain ⟨ck72, hM⟩ := ck_some hM
  refine cC 131 <| r_app (cs0 := []) (Ls := [(kBb31_0 b4 0 (0#64) (0#64)), S13, S18, Sout8_, S70]) 3 (En := encB) rfl rfl rfl rfl rfl hout8_ rfl (rd_own H71 (mem_chunk (Ls := [(kBb31_0 b4 0 (0#64) (0#64)), S13, S18, Sout8_, S70]) (k := 4) rfl rfl)) rfl rfl rfl rfl rfl (app_b ck72 rfl) (app_m ck72 rfl) rfl (fun s73 S74 H75 => ?_)
  refine r_V s73 rfl <| lx_nil <| hK61 _ _ ?_; try clear hK61 K61
  refine A_reg <| r_V (vI i10_) rfl ?_
  obtain ⟨ck76, hM⟩ := ck_some hM
  refine r_X (vI (i10_ + 1)) rfl (wi64 rfl ck76.1 ck76.2) rfl <| r_V (vI (i10_ + 1)) rfl <| lx_nil <| fg _ (Sub.pick [(kBb31_0 b4 0 (0#64) (0#64)), S13, S18, S74, S70] [0, 1, 2, 3] rfl) ?_
  exact ⟨n57 + 1, by omega, n57, (out8_ ++ ([bit24_])), decide (n18_ ≥ 2), (i10_ + 1), hM, s73, S74, H75, is_mk rfl (by first | rfl | simp only [app_hl]), rfl⟩
 replace hM := ifn (of_decide_eq_false hc60) hM
 refine A_exit <| hK55 _ _ ?_; try clear hK55 K55
 refine A_seq fun K96 hK96 => A_sr <| r_V (vI 0) rfl <| lx_nil <| A_block <| A_forget _ (Sub.pick [(kBb31_0 b4 0 (0#64) (0#64)), S13, S18, Sout8_] [0, 3] rfl) <| A_loop (fun tt ll nn => ∃ (n98 : Nat) (vout26_ : List Bool) (i27_ : Int), (shunterref02_Two_l28 N op less2_ carry9_ n98 vout26_ i27_ = some r) ∧ ∃ (Svout26_ : List Bl), Sl 4 encB vout8_ vout26_ Svout26_ ∧ Is [(0, vS op), (6, vP b4 0), (10, vB less2_), (13, vout8_), (14, vB carry9_), (20, vI i27_)] (List.flatten [(kBb31_0 b4 0 (0#64) (0#64)), Svout26_]) tt ll ∧ nn = n98 + 1) (N + 1) ?_ ?_
 ·exact ⟨N, out8_, 0, hM, Sout8_, hout8_, is_mk rfl (by first | rfl | simp only [app_hl]), rfl⟩
 clear hM; rintro t l _ ⟨n98, vout26_, i27_, hM, Svout26_, hvout26_, ⟨⟨T, rfl⟩, rfl⟩, rfl⟩
 rcases n98 with _ | n98
 ·exact absurd hM (by simp [shunterref02_Two_l28])
 rw [shunterref02_Two_l28] at hM
 refine A_seq fun K99 hK99 => A_sr <| r_R [vI i27_, vout8_] rfl <| r_W (vI ((vout26_).length : Int)) rfl (ev_lenSl rfl rfl rfl (Sl.shp hvout26_)) <| r_V (vB (decide (i27_ < ((vout26_).length : Int)))) rfl <| lx_nil <| A_cond (decide (i27_ < ((vout26_).length : Int))) rfl (fun hc101 => ?_) (fun hc101 => ?_)
 ·replace hM := ifp (of_decide_eq_true hc101) hM
  refine A_skip <| hK99 _ _ ?_; try clear hK99 K99
  refine A_seq fun K102 hK102 => A_block <| A_cut (fun tt ll => ∃ (vout29_ : List Bool), (shunterref02_Two_k30 op less2_ i27_ (shunterref02_Two_l28 N op less2_ carry9_ n98) vout29_ = some r) ∧ ∃ (Svout29_ : List Bl), Sl 4 encB vout8_ vout29_ Svout29_ ∧ Is [(0, vS op), (6, vP b4 0), (10, vB less2_), (13, vout8_), (14, vB carry9_), (20, vI i27_)] (List.flatten [(kBb31_0 b4 0 (0#64) (0#64)), Svout29_]) tt ll) ?_ ?_
  ·refine A_seq fun K112 hK112 => A_reg <| r_V (vS op) rfl <| r_W (vB (op == ([97, 100, 100, 115, 97, 116] : List UInt8))) rfl (ev_eqS rfl rfl) <| r_V (vB (op == ([97, 100, 100, 115, 97, 116] : List UInt8))) rfl ?_
   rcases hg113 : (op == ([97, 100, 100, 115, 97, 116] : List UInt8)) with _ | _
   ·replace hM := ifn (ne_of_beq_false hg113) hM
    refine r_R [none, vB false] rfl <| lx_nil <| hK112 _ _ ?_; try clear hK112 K112
    refine A_cond false rfl (fun h_ => nomatch h_) (fun _ => ?_)
    refine A_skip <| fg _ (Sub.pick [(kBb31_0 b4 0 (0#64) (0#64)), Svout26_] [0, 1] rfl) ?_
    exact ⟨vout26_, hM, Svout26_, hvout26_, is_mk rfl (by first | rfl | simp only [app_hl])⟩
   replace hM := ifp (eq_of_beq hg113) hM
   refine r_R [vB carry9_, vB carry9_] rfl <| lx_nil <| hK112 _ _ ?_; try clear hK112 K112
   refine A_cond carry9_ rfl (fun hc114 => ?_) (fun hc114 => ?_)
   ·replace hM := ifp hc114 hM
    refine A_reg <| r_R [vout8_, vI i27_] rfl ?_
    obtain ⟨ck115, hM⟩ := ck_some hM
    refine r_W (elA vout8_ ((i27_).toNat * 1)) rfl (ev_v (ev_idxSl rfl rfl rfl (Sl.shp hvout26_) ck115)) <| r_se (Ls := [(kBb31_0 b4 0 (0#64) (0#64)), Svout26_]) 1 (En := encB) ((vout26_)[(i27_).toNat]!) true ((i27_).toNat) 0 rfl rfl rfl hvout26_ (get_of ck115) rfl rfl rfl (one_all rfl) rfl (fun S116 H117 => ?_)
    refine lx_nil <| fg _ (Sub.pick [(kBb31_0 b4 0 (0#64) (0#64)), S116] [0, 1] rfl) ?_
    exact ⟨(vout26_).set ((i27_).toNat) true, hM, S116, H117, is_mk rfl (by first | rfl | simp only [app_hl])⟩
   replace hM := ifn (Bool.eq_false_iff.1 hc114) hM
   refine A_skip <| fg _ (Sub.pick [(kBb31_0 b4 0 (0#64) (0#64)), Svout26_] [0, 1] rfl) ?_
   exact ⟨vout26_, hM, Svout26_, hvout26_, is_mk rfl (by first | rfl | simp only [app_hl])⟩
  clear hM; rintro t l ⟨vout29_, hM, Svout29_, hvout29_, ⟨T, rfl⟩, rfl⟩
  unfold shunterref02_Two_k30 at hM
  refine A_seq fun K103 hK103 => A_reg <| r_V (vS op) rfl <| r_W (vB (op == ([115, 117, 98, 115, 97, 116] : List UInt8))) rfl (ev_eqS rfl rfl) <| r_V (vB (op == ([115, 117, 98, 115, 97, 116] : List UInt8))) rfl ?_
  rcases hg104 : (op == ([115, 117, 98, 115, 97, 116] : List UInt8)) with _ | _
  ·replace hM := ifn (ne_of_beq_false hg104) hM
   refine r_R [none, vB false] rfl <| lx_nil <| hK103 _ _ ?_; try clear hK103 K103
   refine A_cond false rfl (fun h_ => nomatch h_) (fun _ => ?_)
   refine A_skip <| hK102 _ _ ?_; try clear hK102 K102
   refine A_reg <| r_V (vI i27_) rfl ?_
   obtain ⟨ck105, hM⟩ := ck_some hM
   refine r_X (vI (i27_ + 1)) rfl (wi64 rfl ck105.1 ck105.2) rfl <| r_V (vI (i27_ + 1)) rfl <| lx_nil <| fg _ (Sub.pick [(kBb31_0 b4 0 (0#64) (0#64)), Svout29_] [0, 1] rfl) ?_
   exact ⟨n98 + 1, by omega, n98, vout29_, (i27_ + 1), hM, Svout29_, hvout29_, is_mk (by first | rfl | (simp only [hg104]; done) | (simp only [hg104]; rfl) | (simp only [app_hl]; rfl)) (by first | rfl | simp only [app_hl]), rfl⟩
  replace hM := ifp (eq_of_beq hg104) hM
  refine r_R [vB less2_, vB less2_] rfl <| lx_nil <| hK103 _ _ ?_; try clear hK103 K103
  refine A_cond less2_ rfl (fun hc106 => ?_) (fun hc106 => ?_)
  ·replace hM := ifp hc106 hM
   refine A_reg <| r_R [vout8_, vI i27_] rfl ?_
   obtain ⟨ck107, hM⟩ := ck_some hM
   refine r_W (elA vout8_ ((i27_).toNat * 1)) rfl (ev_v (ev_idxSl rfl rfl rfl (Sl.shp hvout29_) ck107)) <| r_se (Ls := [(kBb31_0 b4 0 (0#64) (0#64)), Svout29_]) 1 (En := encB) ((vout29_)[(i27_).toNat]!) false ((i27_).toNat) 0 rfl rfl rfl hvout29_ (get_of ck107) rfl rfl rfl (one_all rfl) rfl (fun S108 H109 => ?_)
   refine lx_nil <| hK102 _ _ ?_; try clear hK102 K102
   refine A_reg <| r_V (vI i27_) rfl ?_
   obtain ⟨ck110, hM⟩ := ck_some hM
   refine r_X (vI (i27_ + 1)) rfl (wi64 rfl ck110.1 ck110.2) rfl <| r_V (vI (i27_ + 1)) rfl <| lx_nil <| fg _ (Sub.pick [(kBb31_0 b4 0 (0#64) (0#64)), S108] [0, 1] rfl) ?_
   exact ⟨n98 + 1, by omega, n98, (vout29_).set ((i27_).toNat) false, (i27_ + 1), hM, S108, H109, is_mk (by first | rfl | (simp only [hg104]; done) | (simp only [hg104]; rfl) | (simp only [app_hl]; rfl)) (by first | rfl | simp only [app_hl]), rfl⟩
  replace hM := ifn (Bool.eq_false_iff.1 hc106) hM
  refine A_skip <| hK102 _ _ ?_; try clear hK102 K102
  refine A_reg <| r_V (vI i27_) rfl ?_
  obtain ⟨ck111, hM⟩ := ck_some hM
  refine r_X (vI (i27_ + 1)) rfl (wi64 rfl ck111.1 ck111.2) rfl <| r_V (vI (i27_ + 1)) rfl <| lx_nil <| fg _ (Sub.pick [(kBb31_0 b4 0 (0#64) (0#64)), Svout29_] [0, 1] rfl) ?_
  exact ⟨n98 + 1, by omega, n98, vout29_, (i27_ + 1), hM, Svout29_, hvout29_, is_mk (by first | rfl | (simp only [hg104]; done) | (simp only [hg104]; rfl) | (simp only [app_hl]; rfl)) (by first | rfl | simp only [app_hl]), rfl⟩
 replace hM := ifn (of_decide_eq_false hc101) hM
 refine A_exit <| hK96 _ _ ?_; try clear hK96 K96
 refine A_sr <| r_V vout8_ rfl ?_
 obtain ⟨r119, hr120, hM⟩ := bind_sm hM
 refine cB 155 <| r_gv (vA #[vI r119.1, U (hi r119.2), U (lo r119.2)]) 44 _ rfl rfl rfl (ev_callF rfl call_44 rfl) (fun own_ nw_ hs_ => shunterref02_Of_g N vout26_ _ hr120 hs_.view vout8_ ((rd_own hvout26_ (mem_chunk (Ls := [(kBb31_0 b4 0 (0#64) (0#64)), Svout26_]) (k := 1) rfl rfl)) own_ nw_ hs_)) (fun _ _ _ _ _ => Iff.rfl) <| r_s (List.flatten [(kBb31_0 b4 r119.1 (hi r119.2) (lo r119.2)), Svout26_]) 0 _ _ _ _ _ (#[vI r119.1, U (hi r119.2), U (lo r119.2)]) rfl rfl rfl rfl (.of rfl rfl) rfl rfl <| r_V (vI 0) rfl <| lx_nil ?_
 obtain rfl := Option.some.inj hM
 refine A_ret (fun hn => ends_eq (v0 := vT #[vA #[vI r119.1, U (hi r119.2), U (lo r119.2)], vI 0]) rfl (res2 (res_cell hn 0 rfl rfl rfl) rfl))
def shunterref19_Less_m (N : Nat) (a_0 : Int) (a_1 : BitVec 128) (b_0 : Int) (b_1 : BitVec 128) : Option Bool := if (a_0 : Int) ≠ b_0 then some (decide (a_0 < b_0)) else (shunterref02_Two_m N ([108, 101, 115, 115] : List UInt8) a_0 a_1 b_0 b_1).bind fun r9 => some ((lo r9.2.1) == (1#64))
set_option maxRecDepth 100000 in
set_option maxHeartbeats 8000000 in
theorem shunterref19_Less_g (N : Nat) (a_0 : Int) (a_1 : BitVec 128) (b_0 : Int) (b_1 : BitVec 128) (r) (hM : shunterref19_Less_m N a_0 a_1 b_0 b_1 = some r) : Gives Try.prog 14 #[vA #[vI a_0, U (hi a_1), U (lo a_1)], vA #[vI b_0, U (hi b_1), U (lo b_1)]] (vB r) := by
 unfold shunterref19_Less_m at hM
 refine gives_of_A follows Try.func14 rfl 26 rfl (upd (upd (fun _ => undef) 1 (vA #[vI b_0, U (hi b_1), U (lo b_1)])) 0 (vA #[vI a_0, U (hi a_1), U (lo a_1)])) (by funext k; match k with | 0 => rfl | 1 => rfl | k + 2 => rfl) (fun base0_ => ?_)
 refine A_sr <| r_a (31, #[vI a_0, U (hi a_1), U (lo a_1)]) rfl rfl rfl (fun b2 => ?_) (.inr rfl)
 refine r_a (31, #[vI b_0, U (hi b_1), U (lo b_1)]) rfl rfl rfl (fun b3 => ?_) (.inr rfl)
 refine r_V (vB false) rfl <| lx_nil <| A_seq fun K4 hK4 => A_sr <| r_V (vP b2 0) rfl <| r_l (vI a_0) 1 _ _ _ _ rfl rfl rfl rfl rfl <| r_V (vP b3 0) rfl <| r_l (vI b_0) 0 _ _ _ _ rfl rfl rfl rfl rfl <| r_V (vB (a_0 != b_0)) rfl <| lx_nil <| A_cond (a_0 != b_0) rfl (fun hc6 => ?_) (fun hc6 => ?_)
 ·replace hM := ifp (bne_iff_ne.1 hc6) hM
  refine A_sr <| r_V (vP b2 0) rfl <| r_l (vI a_0) 1 _ _ _ _ rfl rfl rfl rfl rfl <| r_V (vP b3 0) rfl <| r_l (vI b_0) 0 _ _ _ _ rfl rfl rfl rfl rfl <| r_R [vB (decide (a_0 < b_0)), vB (decide (a_0 < b_0))] rfl <| lx_nil ?_
  obtain rfl := Option.some.inj hM
  refine A_ret (fun hn => ends_eq (v0 := vB (decide (a_0 < b_0))) rfl (res1 rfl))
 replace hM := ifn (bne_f hc6) hM
 refine A_skip <| hK4 _ _ ?_; try clear hK4 K4
 refine A_sr <| r_l (vA #[vI a_0, U (hi a_1), U (lo a_1)]) 1 _ _ _ _ rfl rfl rfl rfl rfl <| r_l (vA #[vI b_0, U (hi b_1), U (lo b_1)]) 0 _ _ _ _ rfl rfl rfl rfl rfl ?_
 obtain ⟨r9, hr10, hM⟩ := bind_sm hM
 refine r_c (vT #[vA #[vI r9.1, U (hi r9.2.1), U (lo r9.2.1)], vI r9.2.2]) rfl _ _ (ev_callF rfl call_31 rfl) (shunterref02_Two_g N ([108, 101, 115, 115] : List UInt8) a_0 a_1 b_0 b_1 _ hr10) <| r_R [vT #[vA #[vI r9.1, U (hi r9.2.1), U (lo r9.2.1)], vI r9.2.2], vA #[vI r9.1, U (hi r9.2.1), U (lo r9.2.1)], vI r9.2.2] rfl <| r_a (31, #[vI 0, U (0#64), U (0#64)]) rfl rfl rfl (fun b11 => ?_) (.inr rfl)
 refine r_s [(b11, 31, #[vI r9.1, U (hi r9.2.1), U (lo r9.2.1)]), (b3, 31, #[vI b_0, U (hi b_1), U (lo b_1)]), (b2, 31, #[vI a_0, U (hi a_1), U (lo a_1)])] 0 _ _ _ _ _ (#[vI r9.1, U (hi r9.2.1), U (lo r9.2.1)]) rfl rfl rfl rfl (.of rfl rfl) rfl rfl <| r_V (vI r9.2.2) rfl <| lx_nil <| A_sr <| r_V (vP b11 2) rfl <| r_l (U (lo r9.2.1)) 0 _ _ _ _ rfl rfl rfl rfl rfl <| r_X (vB ((lo r9.2.1) == (1#64))) rfl (U_eq (lo r9.2.1) (1#64)) rfl <| r_V (vB ((lo r9.2.1) == (1#64))) rfl <| lx_nil ?_
 obtain rfl := Option.some.inj hM
 refine A_ret (fun hn => ends_eq (v0 := vB ((lo r9.2.1) == (1#64))) rfl (res1 rfl))
def exact_Map_takes_v2_m (_ : Nat) (_ : Int) (_ : BitVec 128) : Option Bool := some false
set_option maxRecDepth 100000 in
set_option maxHeartbeats 8000000 in
theorem exact_Map_takes_v2_g (N : Nat) (key_0 : Int) (key_1 : BitVec 128) (r) (hM : exact_Map_takes_v2_m N key_0 key_1 = some r) : Gives Try.prog 34 #[Value.pointer none, vA #[vI key_0, U (hi key_1), U (lo key_1)]] (vB r) := by
 unfold exact_Map_takes_v2_m at hM
 refine gives_of_A follows Try.func34 rfl 11 rfl (upd (upd (fun _ => undef) 1 (vA #[vI key_0, U (hi key_1), U (lo key_1)])) 0 (Value.pointer none)) (by funext k; match k with | 0 => rfl | 1 => rfl | k + 2 => rfl) (fun base0_ => ?_)
 refine A_sr <| r_a (31, #[vI key_0, U (hi key_1), U (lo key_1)]) rfl rfl rfl (fun b2 => ?_) (.inr rfl)
 refine r_V (vB false) rfl <| lx_nil <| A_sr <| r_R [Value.pointer none, vB false, vB false, none, none, vB false, vB false] rfl <| lx_nil ?_
 obtain rfl := Option.some.inj hM
 refine A_ret (fun hn => ends_eq (v0 := vB false) rfl (res1 rfl))
def exact_Map_home_v2_l3 (key_1 : BitVec 128) : Nat → BitVec 64 → Int → Option Int
  | 0, _, _ => none
  | n6 + 1, x1_, x2_ => if x2_ < 2 then ck (0 ≤ x2_ ∧ x2_ < 2) (ck (-9223372036854775808 ≤ (x2_ + 1) ∧ (x2_ + 1) ≤ 9223372036854775807) ((exact_Map_home_v2_l3 key_1 n6) ((((x1_ ^^^ (ixU [hi key_1, lo key_1] x2_)) * 11400714819323198485#64) ^^^ (((x1_ ^^^ (ixU [hi key_1, lo key_1] x2_)) * 11400714819323198485#64) >>> 32))) (x2_ + 1))) else none
def exact_Map_home_v2_m (N : Nat) (key_0 : Int) (key_1 : BitVec 128) : Option Int := exact_Map_home_v2_l3 key_1 N (BitVec.ofInt 64 key_0) 0
set_option maxRecDepth 100000 in
set_option maxHeartbeats 8000000 in
theorem exact_Map_home_v2_g (N : Nat) (key_0 : Int) (key_1 : BitVec 128) (r) (hM : exact_Map_home_v2_m N key_0 key_1 = some r) : Gives Try.prog 47 #[Value.pointer none, vA #[vI key_0, U (hi key_1), U (lo key_1)]] (vI r) := by
 unfold exact_Map_home_v2_m at hM
 refine gives_of_A follows Try.func47 rfl 37 rfl (upd (upd (fun _ => undef) 1 (vA #[vI key_0, U (hi key_1), U (lo key_1)])) 0 (Value.pointer none)) (by funext k; match k with | 0 => rfl | 1 => rfl | k + 2 => rfl) (fun base0_ => ?_)
 refine A_sr <| r_a (31, #[vI key_0, U (hi key_1), U (lo key_1)]) rfl rfl rfl (fun b2 => ?_) (.inr rfl)
 refine r_V (vI 0) rfl <| lx_nil <| A_sr <| r_V (vP b2 0) rfl <| r_l (vI key_0) 0 _ _ _ _ rfl rfl rfl rfl rfl <| r_w (U (BitVec.ofInt 64 key_0)) rfl rfl (U_wrapI key_0) (fun _ => rfl) <| r_V (U (BitVec.ofInt 64 key_0)) rfl <| lx_nil <| A_seq fun K4 hK4 => A_sr <| r_V (vP b2 1) rfl <| r_l (U (hi key_1)) 0 _ _ _ _ rfl rfl rfl rfl rfl <| r_V (vP b2 2) rfl <| r_l (U (lo key_1)) 0 _ _ _ _ rfl rfl rfl rfl rfl <| r_W (vA #[U (hi key_1), U (lo key_1)]) rfl (ev_buildA rfl rfl rfl rfl) <| r_V (vI 0) rfl <| lx_nil <| A_block <| A_forget [] (Sub.of (List.Sublist.cons _ List.Sublist.slnil)) ?_
 refine A_loop (fun tt ll nn => ∃ (n6 : Nat) (x1_ : BitVec 64) (x2_ : Int), (exact_Map_home_v2_l3 key_1 n6 x1_ x2_ = some r) ∧ Is [(0, Value.pointer none), (5, U x1_), (15, vA #[U (hi key_1), U (lo key_1)]), (16, vI x2_)] [] tt ll ∧ nn = n6 + 1) (N + 1) ?_ ?_
 ·exact ⟨N, BitVec.ofInt 64 key_0, 0, hM, is_mk rfl rfl, rfl⟩
 clear hM; rintro t l _ ⟨n6, x1_, x2_, hM, ⟨⟨T, rfl⟩, rfl⟩, rfl⟩
 rcases n6 with _ | n6
 ·exact absurd hM (by simp [exact_Map_home_v2_l3])
 rw [exact_Map_home_v2_l3] at hM
 refine A_sr <| r_V (vB (decide (x2_ < 2))) rfl <| lx_nil <| A_seq fun K8 hK8 => A_cond (decide (x2_ < 2)) rfl (fun hc9 => ?_) (fun hc9 => ?_)
 ·replace hM := ifp (of_decide_eq_true hc9) hM
  refine A_skip <| hK8 _ _ ?_; try clear hK8 K8
  refine A_seq fun K10 hK10 => A_block <| A_sr ?_
  obtain ⟨ck12, hM⟩ := ck_some hM
  refine r_W (U (ixU [hi key_1, lo key_1] x2_)) rfl (ev_v (ev_ixU rfl rfl rfl rfl rfl rfl rfl ck12)) <| r_V (U (ixU [hi key_1, lo key_1] x2_)) rfl <| lx_nil <| A_sr <| r_R [U x1_, U (ixU [hi key_1, lo key_1] x2_)] rfl <| r_X (U (x1_ ^^^ (ixU [hi key_1, lo key_1] x2_))) rfl (U_xor x1_ (ixU [hi key_1, lo key_1] x2_)) rfl <| r_X (U ((x1_ ^^^ (ixU [hi key_1, lo key_1] x2_)) * 11400714819323198485#64)) rfl (U_mul (x1_ ^^^ (ixU [hi key_1, lo key_1] x2_)) (11400714819323198485#64)) rfl <| r_V (U ((x1_ ^^^ (ixU [hi key_1, lo key_1] x2_)) * 11400714819323198485#64)) rfl <| lx_nil <| A_reg ?_
  refine r_R [U ((x1_ ^^^ (ixU [hi key_1, lo key_1] x2_)) * 11400714819323198485#64), U ((x1_ ^^^ (ixU [hi key_1, lo key_1] x2_)) * 11400714819323198485#64)] rfl <| r_v (U ((((x1_ ^^^ (ixU [hi key_1, lo key_1] x2_)) * 11400714819323198485#64) >>> 32))) rfl rfl (U_shr ((x1_ ^^^ (ixU [hi key_1, lo key_1] x2_)) * 11400714819323198485#64) 32) (ev_shr rfl rfl) <| r_X (U ((((x1_ ^^^ (ixU [hi key_1, lo key_1] x2_)) * 11400714819323198485#64) ^^^ (((x1_ ^^^ (ixU [hi key_1, lo key_1] x2_)) * 11400714819323198485#64) >>> 32)))) rfl (U_xor ((x1_ ^^^ (ixU [hi key_1, lo key_1] x2_)) * 11400714819323198485#64) ((((x1_ ^^^ (ixU [hi key_1, lo key_1] x2_)) * 11400714819323198485#64) >>> 32))) rfl ?_
  refine r_V (U ((((x1_ ^^^ (ixU [hi key_1, lo key_1] x2_)) * 11400714819323198485#64) ^^^ (((x1_ ^^^ (ixU [hi key_1, lo key_1] x2_)) * 11400714819323198485#64) >>> 32)))) rfl <| lx_nil <| hK10 _ _ ?_; try clear hK10 K10
  refine A_reg ?_
  obtain ⟨ck14, hM⟩ := ck_some hM
  refine r_X (vI (x2_ + 1)) rfl (wi64 rfl ck14.1 ck14.2) rfl <| r_V (vI (x2_ + 1)) rfl <| lx_nil <| fg _ (Sub.of List.Sublist.slnil) ?_
  exact ⟨n6 + 1, by omega, n6, (((x1_ ^^^ (ixU [hi key_1, lo key_1] x2_)) * 11400714819323198485#64) ^^^ (((x1_ ^^^ (ixU [hi key_1, lo key_1] x2_)) * 11400714819323198485#64) >>> 32)), (x2_ + 1), hM, is_mk rfl rfl, rfl⟩
 replace hM := ifn (of_decide_eq_false hc9) hM
 refine A_exit <| hK4 _ _ ?_; try clear hK4 K4
 refine A_seq fun K15 hK15 => A_reg <| r_R [U x1_, Value.pointer none] rfl ?_
 cases hM
def exact_Map_find_1_v2_m (_ : Nat) (_ : Int) (_ : Int) (_ : BitVec 128) : Option Bool := none
set_option maxRecDepth 100000 in
set_option maxHeartbeats 8000000 in
theorem exact_Map_find_1_v2_g (N : Nat) (at' c2__0 : Int) (c2__1 : BitVec 128) (r) (hM : exact_Map_find_1_v2_m N at' c2__0 c2__1 = some r) (ro : Addr → Option Value) (bc1_ : Nat) (hbc1_ : Blk ro bc1_ [Value.pointer none]) (bc2_ : Nat) (_hbc2_ : Blk ro bc2_ [vI c2__0, U (hi c2__1), U (lo c2__1)]) : Does Try.prog 48 #[vI at', vP bc1_ 0, vP bc2_ 0] ro [] (pV (vB r)) := by
 unfold exact_Map_find_1_v2_m at hM
 refine does_of_A follows Try.func48 rfl 20 rfl (upd (upd (upd (fun _ => undef) 2 (vP bc2_ 0)) 1 (vP bc1_ 0)) 0 (vI at')) (by funext k; match k with | 0 => rfl | 1 => rfl | 2 => rfl | k + 3 => rfl) (fun base0_ => ?_)
 refine A_sr <| r_V (vB false) rfl <| lx_nil <| A_seq fun K2 hK2 => A_draw [] (by decide +kernel) (fun hn => sep_nil) <| r_lb (Value.pointer none) (vs := [Value.pointer none]) (o := 0) rfl rfl (blk_ro hbc1_) rfl ?_
 cases hM
def exact_Map_next_v2_m (_ : Nat) (at' : Int) : Option Int := ck (-9223372036854775808 ≤ (at' + 1) ∧ (at' + 1) ≤ 9223372036854775807) none
set_option maxRecDepth 100000 in
set_option maxHeartbeats 8000000 in
theorem exact_Map_next_v2_g (N : Nat) (at' r : Int) (hM : exact_Map_next_v2_m N at' = some r) : Gives Try.prog 49 #[Value.pointer none, vI at'] (vI r) := by
 unfold exact_Map_next_v2_m at hM
 refine gives_of_A follows Try.func49 rfl 13 rfl (upd (upd (fun _ => undef) 1 (vI at')) 0 (Value.pointer none)) (by funext k; match k with | 0 => rfl | 1 => rfl | k + 2 => rfl) (fun base0_ => ?_)
 refine A_sr <| r_V (vI 0) rfl <| lx_nil <| A_seq fun K2 hK2 => A_reg <| r_V (vI at') rfl ?_
 obtain ⟨ck3, hM⟩ := ck_some hM
 refine r_X (vI (at' + 1)) rfl (wi64 rfl ck3.1 ck3.2) rfl <| r_V (Value.pointer none) rfl ?_
 cases hM
def exact_Map_round_v3_l2 (N : Nat) (ends1__0 : Int) (ends1__1 : BitVec 128) : Nat → Int → Option (Int × Int × (BitVec 128))
  | 0, _ => none
  | n3 + 1, at1_ => (exact_Map_find_1_v2_m N at1_ ends1__0 ends1__1).bind fun r6 => if r6 = true then some (at1_, ends1__0, ends1__1) else (exact_Map_next_v2_m N at1_).bind fun r9 => (exact_Map_round_v3_l2 N ends1__0 ends1__1 n3) r9
def exact_Map_round_v3_m (N : Nat) (at' : Int) (ends1__0 : Int) (ends1__1 : BitVec 128) : Option (Int × Int × (BitVec 128)) := exact_Map_round_v3_l2 N ends1__0 ends1__1 N at'
set_option maxRecDepth 100000 in
set_option maxHeartbeats 8000000 in
theorem exact_Map_round_v3_g (N : Nat) (at' ends1__0 : Int) (ends1__1 : BitVec 128) (r) (hM : exact_Map_round_v3_m N at' ends1__0 ends1__1 = some r) (ro : Addr → Option Value) (bends0_ bends1_ : Nat) : Does Try.prog 46 #[Value.pointer none, vI at', Value.func (.func 48) #[] #[vP bends0_ 0, vP bends1_ 0]] ro [(bends0_, 23, #[Value.pointer none]), (bends1_, 31, #[vI ends1__0, U (hi ends1__1), U (lo ends1__1)])] (pO [(bends0_, 23, #[Value.pointer none]), (bends1_, 31, #[vI ends1__0, U (hi ends1__1), U (lo ends1__1)])] (oE (vI r.1) [(kBb23_1 bends0_ (Value.pointer none)), (kBb31_0 bends1_ r.2.1 (hi r.2.2) (lo r.2.2))])) := by
 unfold exact_Map_round_v3_m at hM
 refine doesO_of_A follows Try.func46 rfl 15 rfl (upd (upd (upd (fun _ => undef) 2 (Value.func (.func 48) #[] #[vP bends0_ 0, vP bends1_ 0])) 1 (vI at')) 0 (Value.pointer none)) (by funext k; match k with | 0 => rfl | 1 => rfl | 2 => rfl | k + 3 => rfl) (fun _ _ h_ _ => h_) (fun base0_ => ?_)
 refine A_sr <| r_V (vI 0) rfl <| lx_nil <| A_seq fun K2 hK2 => A_block <| A_loop (fun tt ll nn => ∃ (n3 : Nat) (at1_ : Int), (exact_Map_round_v3_l2 N ends1__0 ends1__1 n3 at1_ = some r) ∧ Is [(0, Value.pointer none), (1, vI at1_), (2, Value.func (.func 48) #[] #[vP bends0_ 0, vP bends1_ 0])] [(bends0_, 23, #[Value.pointer none]), (bends1_, 31, #[vI ends1__0, U (hi ends1__1), U (lo ends1__1)])] tt ll ∧ nn = n3 + 1) (N + 1) ?_ ?_
 ·exact ⟨N, at', hM, is_mk rfl rfl, rfl⟩
 clear hM; rintro t l _ ⟨n3, at1_, hM, ⟨⟨T, rfl⟩, rfl⟩, rfl⟩
 rcases n3 with _ | n3
 ·exact absurd hM (by simp [exact_Map_round_v3_l2])
 rw [exact_Map_round_v3_l2] at hM
 refine A_seq fun K4 hK4 => A_sr <| r_R [Value.func (.func 48) #[] #[vP bends0_ 0, vP bends1_ 0], vI at1_] rfl ?_
 obtain ⟨r6, hr7, hM⟩ := bind_sm hM
 refine cB 9 <| r_gv (vB r6) 48 _ rfl rfl rfl (ev_callV (caps := [vP bends0_ 0, vP bends1_ 0]) rfl call_48 rfl) (fun own_ nw_ hs_ => exact_Map_find_1_v2_g N at1_ ends1__0 ends1__1 _ hr7 hs_.view bends0_ (blk_own 0 rfl rfl own_ nw_ hs_) bends1_ (blk_own 1 rfl rfl own_ nw_ hs_)) (fun _ _ _ _ _ => Iff.rfl) <| r_V (vB (!(r6))) rfl <| lx_nil <| A_cond (!(r6)) rfl (fun hc8 => ?_) (fun hc8 => ?_)
 ·replace hM := ifn (Bool.eq_false_iff.1 (not_t hc8)) hM
  refine A_skip <| hK4 _ _ ?_; try clear hK4 K4
  refine A_block <| A_reg <| r_R [Value.pointer none, vI at1_] rfl ?_
  obtain ⟨r9, hr10, hM⟩ := bind_sm hM
  refine r_c (vI r9) rfl _ _ (ev_callF rfl call_49 rfl) (exact_Map_next_v2_g N at1_ _ hr10) <| r_V (vI r9) rfl <| lx_nil <| fg _ (Sub.of (List.Sublist.cons_cons _ (List.Sublist.cons_cons _ List.Sublist.slnil))) ?_
  exact ⟨n3 + 1, by omega, n3, r9, hM, is_mk rfl rfl, rfl⟩
 replace hM := ifp (not_f hc8) hM
 refine A_exit <| hK2 _ _ ?_; try clear hK2 K2
 refine A_sr <| r_R [vI at1_, vI at1_] rfl <| lx_nil ?_
 obtain rfl := Option.some.inj hM
 refine A_ret (fun hn => endsO (v0 := vI at1_) (O := [(kBb23_1 bends0_ (Value.pointer none)), (kBb31_0 bends1_ ends1__0 (hi ends1__1) (lo ends1__1))]) (res1 rfl) (Sub.pick [(kBb23_1 bends0_ (Value.pointer none)), (kBb31_0 bends1_ ends1__0 (hi ends1__1) (lo ends1__1))] [0, 1] rfl) ⟨rfl, rfl⟩)
def exact_Map_find_v2_m (N : Nat) (key_0 : Int) (key_1 : BitVec 128) : Option (Int × Bool) := (exact_Map_home_v2_m N key_0 key_1).bind fun r5 => (exact_Map_round_v3_m N r5 key_0 key_1).bind fun r7 => none
set_option maxRecDepth 100000 in
set_option maxHeartbeats 8000000 in
theorem exact_Map_find_v2_g (N : Nat) (key_0 : Int) (key_1 : BitVec 128) (r) (hM : exact_Map_find_v2_m N key_0 key_1 = some r) : Gives Try.prog 35 #[Value.pointer none, vA #[vI key_0, U (hi key_1), U (lo key_1)]] (vT #[vI r.1, vB r.2]) := by
 unfold exact_Map_find_v2_m at hM
 refine gives_of_A follows Try.func35 rfl 24 rfl (upd (upd (fun _ => undef) 1 (vA #[vI key_0, U (hi key_1), U (lo key_1)])) 0 (Value.pointer none)) (by funext k; match k with | 0 => rfl | 1 => rfl | k + 2 => rfl) (fun base0_ => ?_)
 refine A_sr <| r_a (23, #[Value.pointer none]) rfl rfl rfl (fun b2 => ?_) (.inr rfl)
 refine r_a (31, #[vI key_0, U (hi key_1), U (lo key_1)]) rfl rfl rfl (fun b3 => ?_) (.inr rfl)
 refine r_R [vI 0, vB false] rfl <| lx_nil <| A_seq fun K4 hK4 => A_drawR [(some 12, true)] (conG Try.prog [(12, fun _ _ v_ L_ U_ => ∀ u0_, exact_Map_home_v2_m N key_0 key_1 = some u0_ → ∀ u1_, exact_Map_round_v3_m N u0_ key_0 key_1 = some u1_ → (pO (List.flatten [(kBb23_1 b2 (Value.pointer none)), (kBb31_0 b3 key_0 (hi key_1) (lo key_1))]) (oE (vI u1_.1) [(kBb23_1 b2 (Value.pointer none)), (kBb31_0 b3 u1_.2.1 (hi u1_.2.2) (lo u1_.2.2))])) v_ L_ U_)]) [] (by decide +kernel) (fun hn => sep_nil) <| r_l (Value.pointer none) 1 _ _ _ _ rfl rfl rfl rfl rfl <| r_l (Value.pointer none) 1 _ _ _ _ rfl rfl rfl rfl rfl ?_
 refine r_l (vA #[vI key_0, U (hi key_1), U (lo key_1)]) 0 _ _ _ _ rfl rfl rfl rfl rfl ?_
 obtain ⟨r5, hr6, hM⟩ := bind_sm hM
 refine r_c (vI r5) rfl _ _ (ev_callF rfl call_47 rfl) (exact_Map_home_v2_g N key_0 key_1 _ hr6) <| r_W (Value.func (.func 48) #[] #[vP b2 0, vP b3 0]) rfl (ev_mkF rfl) ?_
 obtain ⟨r7, hr8, hM⟩ := bind_sm hM
 refine r_gm (Ls := [(kBb31_0 b3 key_0 (hi key_1) (lo key_1)), (kBb23_1 b2 (Value.pointer none))]) (FL := [(kBb23_1 b2 (Value.pointer none)), (kBb31_0 b3 key_0 (hi key_1) (lo key_1))]) [1, 0] _ (some 12) 46 _ rfl rfl rfl rfl rfl (ev_callF rfl call_46 rfl) (fun own_ nw_ hn_ hs_ => exact_Map_round_v3_g N r5 key_0 key_1 _ hr8 _ b2 b3) (fun _ _ v_ L_ U_ => ⟨fun h_ => h_ _ hr6 _ hr8, fun h_ => by intro _ e_; cases Option.some.inj (e_.symm.trans hr6); intro _ e_; cases Option.some.inj (e_.symm.trans hr8); exact h_⟩) (fun _ => (NiceO.sub (R := ((kBb23_1 b2 (Value.pointer none)) ++ ((kBb31_0 b3 key_0 (hi key_1) (lo key_1)) ++ []))) (niceE rfl) (Sub.pick [(kBb23_1 b2 (Value.pointer none)), (kBb31_0 b3 key_0 (hi key_1) (lo key_1))] [0, 1] rfl))) ?_
 rintro _ _ ⟨rfl, rfl⟩
 refine lx_perm (Ls := [(kBb23_1 b2 (Value.pointer none)), (kBb31_0 b3 r7.2.1 (hi r7.2.2) (lo r7.2.2))]) (Ls' := [(kBb23_1 b2 (Value.pointer none)), (kBb31_0 b3 r7.2.1 (hi r7.2.2) (lo r7.2.2))]) [0, 1] rfl rfl <| r_V (vI r7.1) rfl <| lx_nil <| hK4 _ _ ?_; try clear hK4 K4
 refine A_seq fun K9 hK9 => A_draw [] (by decide +kernel) (fun hn => sep_nil) <| r_V (vI r7.1) rfl <| r_l (Value.pointer none) 0 _ _ _ _ rfl rfl rfl rfl rfl ?_
 cases hM
def exact_Map_there_v2_m (N : Nat) (key_0 : Int) (key_1 : BitVec 128) : Option (Int × Int) := (exact_Map_takes_v2_m N key_0 key_1).bind fun r5 => if r5 = true then (exact_Map_find_v2_m N key_0 key_1).bind fun r10 => if r10.2 = true then some (r10.1, 0) else some (0, 5) else some (0, 1)
set_option maxRecDepth 100000 in
set_option maxHeartbeats 8000000 in
theorem exact_Map_there_v2_g (N : Nat) (key_0 : Int) (key_1 : BitVec 128) (r) (hM : exact_Map_there_v2_m N key_0 key_1 = some r) : Gives Try.prog 36 #[Value.pointer none, vA #[vI key_0, U (hi key_1), U (lo key_1)]] (vT #[vI r.1, vI r.2]) := by
 unfold exact_Map_there_v2_m at hM
 refine gives_of_A follows Try.func36 rfl 21 rfl (upd (upd (fun _ => undef) 1 (vA #[vI key_0, U (hi key_1), U (lo key_1)])) 0 (Value.pointer none)) (by funext k; match k with | 0 => rfl | 1 => rfl | k + 2 => rfl) (fun base0_ => ?_)
 refine A_sr <| r_a (31, #[vI key_0, U (hi key_1), U (lo key_1)]) rfl rfl rfl (fun b2 => ?_) (.inr rfl)
 refine r_R [vI 0, vI 0] rfl <| lx_nil <| A_seq fun K3 hK3 => A_sr <| r_V (Value.pointer none) rfl <| r_l (vA #[vI key_0, U (hi key_1), U (lo key_1)]) 0 _ _ _ _ rfl rfl rfl rfl rfl ?_
 obtain ⟨r5, hr6, hM⟩ := bind_sm hM
 refine r_c (vB r5) rfl _ _ (ev_callF rfl call_34 rfl) (exact_Map_takes_v2_g N key_0 key_1 _ hr6) <| r_V (vB (!(r5))) rfl <| lx_nil <| A_cond (!(r5)) rfl (fun hc7 => ?_) (fun hc7 => ?_)
 ·replace hM := ifn (Bool.eq_false_iff.1 (not_t hc7)) hM
  refine A_sr <| r_R [vI 0, vI 1] rfl <| lx_nil ?_
  obtain rfl := Option.some.inj hM
  refine A_ret (fun hn => ends_eq (v0 := vT #[vI 0, vI 1]) rfl (res2 rfl rfl))
 replace hM := ifp (not_f hc7) hM
 refine A_skip <| hK3 _ _ ?_; try clear hK3 K3
 refine A_sr <| r_V (Value.pointer none) rfl <| r_l (vA #[vI key_0, U (hi key_1), U (lo key_1)]) 0 _ _ _ _ rfl rfl rfl rfl rfl ?_
 obtain ⟨r10, hr11, hM⟩ := bind_sm hM
 refine r_c (vT #[vI r10.1, vB r10.2]) rfl _ _ (ev_callF rfl call_35 rfl) (exact_Map_find_v2_g N key_0 key_1 _ hr11) <| r_R [vT #[vI r10.1, vB r10.2], vI r10.1, vB r10.2, vI r10.1, vB r10.2] rfl <| lx_nil <| A_seq fun K12 hK12 => A_sr <| r_R [vB r10.2, vB (!(r10.2))] rfl <| lx_nil <| A_cond (!(r10.2)) rfl (fun hc14 => ?_) (fun hc14 => ?_)
 ·replace hM := ifn (Bool.eq_false_iff.1 (not_t hc14)) hM
  refine A_sr <| r_R [vI 0, vI 5] rfl <| lx_nil ?_
  obtain rfl := Option.some.inj hM
  refine A_ret (fun hn => ends_eq (v0 := vT #[vI 0, vI 5]) rfl (res2 rfl rfl))
 replace hM := ifp (not_f hc14) hM
 refine A_skip <| hK12 _ _ ?_; try clear hK12 K12
 refine A_sr <| r_R [vI r10.1, vI r10.1, vI 0] rfl <| lx_nil ?_
 obtain rfl := Option.some.inj hM
 refine A_ret (fun hn => ends_eq (v0 := vT #[vI r10.1, vI 0]) rfl (res2 rfl rfl))
def exact_Map_Get_v2_m (N : Nat) (key_0 : Int) (key_1 : BitVec 128) : Option (Int × Bool) := (exact_Map_there_v2_m N key_0 key_1).bind fun r4 => if (r4.2 : Int) ≠ 0 then some (0, false) else none
set_option maxRecDepth 100000 in
set_option maxHeartbeats 8000000 in
theorem exact_Map_Get_v2_g (N : Nat) (key_0 : Int) (key_1 : BitVec 128) (r) (hM : exact_Map_Get_v2_m N key_0 key_1 = some r) : Gives Try.prog 19 #[Value.pointer none, vA #[vI key_0, U (hi key_1), U (lo key_1)]] (vT #[vI r.1, vB r.2]) := by
 unfold exact_Map_Get_v2_m at hM
 refine gives_of_A follows Try.func19 rfl 24 rfl (upd (upd (fun _ => undef) 1 (vA #[vI key_0, U (hi key_1), U (lo key_1)])) 0 (Value.pointer none)) (by funext k; match k with | 0 => rfl | 1 => rfl | k + 2 => rfl) (fun base0_ => ?_)
 refine A_sr <| r_a (31, #[vI key_0, U (hi key_1), U (lo key_1)]) rfl rfl rfl (fun b2 => ?_) (.inr rfl)
 refine r_R [vI 0, vB false] rfl <| lx_nil <| A_sr <| r_V (Value.pointer none) rfl <| r_l (vA #[vI key_0, U (hi key_1), U (lo key_1)]) 0 _ _ _ _ rfl rfl rfl rfl rfl ?_
 obtain ⟨r4, hr5, hM⟩ := bind_sm hM
 refine r_c (vT #[vI r4.1, vI r4.2]) rfl _ _ (ev_callF rfl call_36 rfl) (exact_Map_there_v2_g N key_0 key_1 _ hr5) <| r_R [vT #[vI r4.1, vI r4.2], vI r4.1, vI r4.2, vI r4.1, vI r4.2] rfl <| lx_nil <| A_seq fun K6 hK6 => A_sr <| r_R [vI r4.2, vB (r4.2 != 0)] rfl <| lx_nil <| A_cond (r4.2 != 0) rfl (fun hc8 => ?_) (fun hc8 => ?_)
 ·replace hM := ifp (bne_iff_ne.1 hc8) hM
  refine A_sr <| r_R [vI 0, vB false] rfl <| lx_nil ?_
  obtain rfl := Option.some.inj hM
  refine A_ret (fun hn => ends_eq (v0 := vT #[vI 0, vB false]) rfl (res2 rfl rfl))
 replace hM := ifn (bne_f hc8) hM
 refine A_skip <| hK6 _ _ ?_; try clear hK6 K6
 refine A_seq fun K10 hK10 => A_reg <| r_V (Value.pointer none) rfl ?_
 cases hM
def exact_Map_Room_v2_m (_ : Nat) : Option Int := some 0
set_option maxRecDepth 100000 in
set_option maxHeartbeats 8000000 in
theorem exact_Map_Room_v2_g (N : Nat) (r) (hM : exact_Map_Room_v2_m N = some r) : Gives Try.prog 11 #[Value.pointer none] (vI r) := by
 unfold exact_Map_Room_v2_m at hM
 refine gives_of_A follows Try.func11 rfl 14 rfl (upd (fun _ => undef) 0 (Value.pointer none)) (by funext k; match k with | 0 => rfl | k + 1 => rfl) (fun base0_ => ?_)
 refine A_sr <| r_V (vI 0) rfl <| lx_nil <| A_seq fun K2 hK2 => A_sr <| r_R [Value.pointer none, vB true] rfl <| lx_nil <| A_cond true rfl (fun _ => ?_) (fun h_ => nomatch h_)
 refine A_sr <| r_V (vI 0) rfl <| lx_nil ?_
 obtain rfl := Option.some.inj hM
 refine A_ret (fun hn => ends_eq (v0 := vI 0) rfl (res1 rfl))
def exact_Map_Put_v2_m (N : Nat) (key_0 : Int) (key_1 : BitVec 128) (_ : Int) : Option Int := (exact_Map_takes_v2_m N key_0 key_1).bind fun r5 => if r5 = true then (exact_Map_find_v2_m N key_0 key_1).bind fun r10 => if r10.2 = true then some 6 else (exact_Map_Room_v2_m N ).bind fun r18 => if r18 = 0 then some 8 else none else some 1
set_option maxRecDepth 100000 in
set_option maxHeartbeats 8000000 in
theorem exact_Map_Put_v2_g (N : Nat) (key_0 : Int) (key_1 : BitVec 128) (n r : Int) (hM : exact_Map_Put_v2_m N key_0 key_1 n = some r) : Gives Try.prog 16 #[Value.pointer none, vA #[vI key_0, U (hi key_1), U (lo key_1)], vI n] (vI r) := by
 unfold exact_Map_Put_v2_m at hM
 refine gives_of_A follows Try.func16 rfl 39 rfl (upd (upd (upd (fun _ => undef) 2 (vI n)) 1 (vA #[vI key_0, U (hi key_1), U (lo key_1)])) 0 (Value.pointer none)) (by funext k; match k with | 0 => rfl | 1 => rfl | 2 => rfl | k + 3 => rfl) (fun base0_ => ?_)
 refine A_sr <| r_a (31, #[vI key_0, U (hi key_1), U (lo key_1)]) rfl rfl rfl (fun b2 => ?_) (.inr rfl)
 refine r_V (vI 0) rfl <| lx_nil <| A_seq fun K3 hK3 => A_sr <| r_V (Value.pointer none) rfl <| r_l (vA #[vI key_0, U (hi key_1), U (lo key_1)]) 0 _ _ _ _ rfl rfl rfl rfl rfl ?_
 obtain ⟨r5, hr6, hM⟩ := bind_sm hM
 refine r_c (vB r5) rfl _ _ (ev_callF rfl call_34 rfl) (exact_Map_takes_v2_g N key_0 key_1 _ hr6) <| r_V (vB (!(r5))) rfl <| lx_nil <| A_cond (!(r5)) rfl (fun hc7 => ?_) (fun hc7 => ?_)
 ·replace hM := ifn (Bool.eq_false_iff.1 (not_t hc7)) hM
  refine A_sr <| r_V (vI 1) rfl <| lx_nil ?_
  obtain rfl := Option.some.inj hM
  refine A_ret (fun hn => ends_eq (v0 := vI 1) rfl (res1 rfl))
 replace hM := ifp (not_f hc7) hM
 refine A_skip <| hK3 _ _ ?_; try clear hK3 K3
 refine A_sr <| r_V (Value.pointer none) rfl <| r_l (vA #[vI key_0, U (hi key_1), U (lo key_1)]) 0 _ _ _ _ rfl rfl rfl rfl rfl ?_
 obtain ⟨r10, hr11, hM⟩ := bind_sm hM
 refine r_c (vT #[vI r10.1, vB r10.2]) rfl _ _ (ev_callF rfl call_35 rfl) (exact_Map_find_v2_g N key_0 key_1 _ hr11) <| r_R [vT #[vI r10.1, vB r10.2], vI r10.1, vB r10.2, vI r10.1, vB r10.2] rfl <| lx_nil <| A_seq fun K12 hK12 => A_sr <| r_V (vB r10.2) rfl <| lx_nil <| A_cond r10.2 rfl (fun hc14 => ?_) (fun hc14 => ?_)
 ·replace hM := ifp hc14 hM
  refine A_sr <| r_V (vI 6) rfl <| lx_nil ?_
  obtain rfl := Option.some.inj hM
  refine A_ret (fun hn => ends_eq (v0 := vI 6) rfl (res1 rfl))
 replace hM := ifn (Bool.eq_false_iff.1 hc14) hM
 refine A_skip <| hK12 _ _ ?_; try clear hK12 K12
 refine A_seq fun K16 hK16 => A_sr <| r_V (Value.pointer none) rfl ?_
 obtain ⟨r18, hr19, hM⟩ := bind_sm hM
 refine r_c (vI r18) rfl _ _ (ev_callF rfl call_11 rfl) (exact_Map_Room_v2_g N  _ hr19) <| r_V (vB (r18 == 0)) rfl <| lx_nil <| A_cond (r18 == 0) rfl (fun hc20 => ?_) (fun hc20 => ?_)
 ·replace hM := ifp (eq_of_beq hc20) hM
  refine A_sr <| r_V (vI 8) rfl <| lx_nil ?_
  obtain rfl := Option.some.inj hM
  refine A_ret (fun hn => ends_eq (v0 := vI 8) rfl (res1 rfl))
 replace hM := ifn (ne_of_beq_false hc20) hM
 refine A_skip <| hK16 _ _ ?_; try clear hK16 K16
 refine A_seq fun K22 hK22 => A_draw [] (by decide +kernel) (fun hn => sep_nil) <| r_V (Value.pointer none) rfl ?_
 cases hM
def exact_Map_Set_v2_m (N : Nat) (key_0 : Int) (key_1 : BitVec 128) (_ : Int) : Option Int := (exact_Map_there_v2_m N key_0 key_1).bind fun r4 => if (r4.2 : Int) ≠ 0 then some r4.2 else none
set_option maxRecDepth 100000 in
set_option maxHeartbeats 8000000 in
theorem exact_Map_Set_v2_g (N : Nat) (key_0 : Int) (key_1 : BitVec 128) (n r : Int) (hM : exact_Map_Set_v2_m N key_0 key_1 n = some r) : Gives Try.prog 17 #[Value.pointer none, vA #[vI key_0, U (hi key_1), U (lo key_1)], vI n] (vI r) := by
 unfold exact_Map_Set_v2_m at hM
 refine gives_of_A follows Try.func17 rfl 26 rfl (upd (upd (upd (fun _ => undef) 2 (vI n)) 1 (vA #[vI key_0, U (hi key_1), U (lo key_1)])) 0 (Value.pointer none)) (by funext k; match k with | 0 => rfl | 1 => rfl | 2 => rfl | k + 3 => rfl) (fun base0_ => ?_)
 refine A_sr <| r_a (31, #[vI key_0, U (hi key_1), U (lo key_1)]) rfl rfl rfl (fun b2 => ?_) (.inr rfl)
 refine r_V (vI 0) rfl <| lx_nil <| A_sr <| r_V (Value.pointer none) rfl <| r_l (vA #[vI key_0, U (hi key_1), U (lo key_1)]) 0 _ _ _ _ rfl rfl rfl rfl rfl ?_
 obtain ⟨r4, hr5, hM⟩ := bind_sm hM
 refine r_c (vT #[vI r4.1, vI r4.2]) rfl _ _ (ev_callF rfl call_36 rfl) (exact_Map_there_v2_g N key_0 key_1 _ hr5) <| r_R [vT #[vI r4.1, vI r4.2], vI r4.1, vI r4.2, vI r4.1, vI r4.2] rfl <| lx_nil <| A_seq fun K6 hK6 => A_sr <| r_R [vI r4.2, vB (r4.2 != 0)] rfl <| lx_nil <| A_cond (r4.2 != 0) rfl (fun hc8 => ?_) (fun hc8 => ?_)
 ·replace hM := ifp (bne_iff_ne.1 hc8) hM
  refine A_sr <| r_R [vI r4.2, vI r4.2] rfl <| lx_nil ?_
  obtain rfl := Option.some.inj hM
  refine A_ret (fun hn => ends_eq (v0 := vI r4.2) rfl (res1 rfl))
 replace hM := ifn (bne_f hc8) hM
 refine A_skip <| hK6 _ _ ?_; try clear hK6 K6
 refine A_seq fun K10 hK10 => A_reg <| r_V (Value.pointer none) rfl ?_
 cases hM
def exact_Map_free_v2_m (_ : Nat) (_ : Int) : Option Bool := none
set_option maxRecDepth 100000 in
set_option maxHeartbeats 8000000 in
theorem exact_Map_free_v2_g (N : Nat) (at' : Int) (r) (hM : exact_Map_free_v2_m N at' = some r) : Gives Try.prog 24 #[Value.pointer none, vI at'] (vB r) := by
 unfold exact_Map_free_v2_m at hM
 refine gives_of_A follows Try.func24 rfl 15 rfl (upd (upd (fun _ => undef) 1 (vI at')) 0 (Value.pointer none)) (by funext k; match k with | 0 => rfl | 1 => rfl | k + 2 => rfl) (fun base0_ => ?_)
 refine A_sr <| r_V (vB false) rfl <| lx_nil <| A_seq fun K2 hK2 => A_reg <| r_V (Value.pointer none) rfl ?_
 cases hM
def exact_Map_empty_1_v2_m (N : Nat) (at' : Int) (c2_ : Int) : Option (Bool × Int) := (exact_Map_free_v2_m N at').bind fun r4 => if r4 = true then some (true, c2_) else none
set_option maxRecDepth 100000 in
set_option maxHeartbeats 8000000 in
theorem exact_Map_empty_1_v2_g (N : Nat) (at' c2_ : Int) (r) (hM : exact_Map_empty_1_v2_m N at' c2_ = some r) (ro : Addr → Option Value) (bc1_ bc2_ : Nat) : Does Try.prog 50 #[vI at', vP bc1_ 0, vP bc2_ 0] ro [(bc1_, 23, #[Value.pointer none]), (bc2_, 3, #[vI c2_])] (pO [(bc1_, 23, #[Value.pointer none]), (bc2_, 3, #[vI c2_])] (oE (vB r.1) [(kBb23_1 bc1_ (Value.pointer none)), (kBb3_2 bc2_ r.2)])) := by
 unfold exact_Map_empty_1_v2_m at hM
 refine doesO_of_A follows Try.func50 rfl 40 rfl (upd (upd (upd (fun _ => undef) 2 (vP bc2_ 0)) 1 (vP bc1_ 0)) 0 (vI at')) (by funext k; match k with | 0 => rfl | 1 => rfl | 2 => rfl | k + 3 => rfl) (fun _ _ h_ _ => h_) (fun base0_ => ?_)
 refine A_sr <| r_V (vB false) rfl <| lx_nil <| A_seq fun K2 hK2 => A_sr <| r_l (Value.pointer none) 0 _ _ _ _ rfl rfl rfl rfl rfl <| r_V (vI at') rfl ?_
 obtain ⟨r4, hr5, hM⟩ := bind_sm hM
 refine r_c (vB r4) rfl _ _ (ev_callF rfl call_24 rfl) (exact_Map_free_v2_g N at' _ hr5) <| lx_nil <| A_cond r4 rfl (fun hc6 => ?_) (fun hc6 => ?_)
 ·replace hM := ifp hc6 hM
  refine A_sr <| r_V (vB true) rfl <| lx_nil ?_
  obtain rfl := Option.some.inj hM
  refine A_ret (fun hn => endsO (v0 := vB true) (O := [(kBb23_1 bc1_ (Value.pointer none)), (kBb3_2 bc2_ c2_)]) (res1 rfl) (Sub.pick [(kBb23_1 bc1_ (Value.pointer none)), (kBb3_2 bc2_ c2_)] [0, 1] rfl) ⟨rfl, rfl⟩)
 replace hM := ifn (Bool.eq_false_iff.1 hc6) hM
 refine A_skip <| hK2 _ _ ?_; try clear hK2 K2
 refine A_seq fun K8 hK8 => A_seq fun K9 hK9 => A_draw [] (by decide +kernel) (fun hn => sep_nil) <| r_l (Value.pointer none) 0 _ _ _ _ rfl rfl rfl rfl rfl <| r_l (Value.pointer none) 0 _ _ _ _ rfl rfl rfl rfl rfl <| r_l (Value.pointer none) 0 _ _ _ _ rfl rfl rfl rfl rfl ?_
 cases hM
def exact_Map_round_v4_l3 (N : Nat) : Nat → Int → Int → Option (Int × Int)
  | 0, _, _ => none
  | n3 + 1, at1_, m2_ => (exact_Map_empty_1_v2_m N at1_ m2_).bind fun r6 => if r6.1 = true then some (at1_, r6.2) else (exact_Map_next_v2_m N at1_).bind fun r9 => (exact_Map_round_v4_l3 N n3) r9 r6.2
def exact_Map_round_v4_m (N : Nat) (at' : Int) (ends1_ : Int) : Option (Int × Int) := exact_Map_round_v4_l3 N N at' ends1_
set_option maxRecDepth 100000 in
set_option maxHeartbeats 8000000 in
theorem exact_Map_round_v4_g (N : Nat) (at' ends1_ : Int) (r) (hM : exact_Map_round_v4_m N at' ends1_ = some r) (ro : Addr → Option Value) (bends0_ bends1_ : Nat) : Does Try.prog 46 #[Value.pointer none, vI at', Value.func (.func 50) #[] #[vP bends0_ 0, vP bends1_ 0]] ro [(bends0_, 23, #[Value.pointer none]), (bends1_, 3, #[vI ends1_])] (pO [(bends0_, 23, #[Value.pointer none]), (bends1_, 3, #[vI ends1_])] (oE (vI r.1) [(kBb23_1 bends0_ (Value.pointer none)), (kBb3_2 bends1_ r.2)])) := by
 unfold exact_Map_round_v4_m at hM
 refine doesO_of_A follows Try.func46 rfl 15 rfl (upd (upd (upd (fun _ => undef) 2 (Value.func (.func 50) #[] #[vP bends0_ 0, vP bends1_ 0])) 1 (vI at')) 0 (Value.pointer none)) (by funext k; match k with | 0 => rfl | 1 => rfl | 2 => rfl | k + 3 => rfl) (fun _ _ h_ _ => h_) (fun base0_ => ?_)
 refine A_sr <| r_V (vI 0) rfl <| lx_nil <| A_seq fun K2 hK2 => A_block <| A_loop (fun tt ll nn => ∃ (n3 : Nat) (at1_ : Int) (m2_ : Int), (exact_Map_round_v4_l3 N n3 at1_ m2_ = some r) ∧ Is [(0, Value.pointer none), (1, vI at1_), (2, Value.func (.func 50) #[] #[vP bends0_ 0, vP bends1_ 0])] [(bends0_, 23, #[Value.pointer none]), (bends1_, 3, #[vI m2_])] tt ll ∧ nn = n3 + 1) (N + 1) ?_ ?_
 ·exact ⟨N, at', ends1_, hM, is_mk rfl rfl, rfl⟩
 clear hM; rintro t l _ ⟨n3, at1_, m2_, hM, ⟨⟨T, rfl⟩, rfl⟩, rfl⟩
 rcases n3 with _ | n3
 ·exact absurd hM (by simp [exact_Map_round_v4_l3])
 rw [exact_Map_round_v4_l3] at hM
 refine A_seq fun K4 hK4 => A_sr <| r_R [Value.func (.func 50) #[] #[vP bends0_ 0, vP bends1_ 0], vI at1_] rfl ?_
 obtain ⟨r6, hr7, hM⟩ := bind_sm hM
 refine cA 9 <| r_gm (Ls := [(kBb23_1 bends0_ (Value.pointer none)), (kBb3_2 bends1_ m2_)]) (FL := [(kBb23_1 bends0_ (Value.pointer none)), (kBb3_2 bends1_ m2_)]) [0, 1] _ (some 9) 50 _ rfl rfl rfl rfl rfl (ev_callV (caps := [vP bends0_ 0, vP bends1_ 0]) rfl call_50 rfl) (fun own_ nw_ hn_ hs_ => exact_Map_empty_1_v2_g N at1_ m2_ _ hr7 _ bends0_ bends1_) (fun _ _ _ _ _ => Iff.rfl) (fun h_ => nomatch h_) ?_
 rintro _ _ ⟨rfl, rfl⟩
 refine lx_perm (Ls := [(kBb23_1 bends0_ (Value.pointer none)), (kBb3_2 bends1_ r6.2)]) (Ls' := [(kBb23_1 bends0_ (Value.pointer none)), (kBb3_2 bends1_ r6.2)]) [0, 1] rfl rfl <| r_V (vB (!(r6.1))) rfl <| lx_nil <| A_cond (!(r6.1)) rfl (fun hc8 => ?_) (fun hc8 => ?_)
 ·replace hM := ifn (Bool.eq_false_iff.1 (not_t hc8)) hM
  refine A_skip <| hK4 _ _ ?_; try clear hK4 K4
  refine A_block <| A_reg <| r_R [Value.pointer none, vI at1_] rfl ?_
  obtain ⟨r9, hr10, hM⟩ := bind_sm hM
  refine r_c (vI r9) rfl _ _ (ev_callF rfl call_49 rfl) (exact_Map_next_v2_g N at1_ _ hr10) <| r_V (vI r9) rfl <| lx_nil <| fg _ (Sub.of (List.Sublist.cons_cons _ (List.Sublist.cons_cons _ List.Sublist.slnil))) ?_
  exact ⟨n3 + 1, by omega, n3, r9, r6.2, hM, is_mk rfl rfl, rfl⟩
 replace hM := ifp (not_f hc8) hM
 refine A_exit <| hK2 _ _ ?_; try clear hK2 K2
 refine A_sr <| r_R [vI at1_, vI at1_] rfl <| lx_nil ?_
 obtain rfl := Option.some.inj hM
 refine A_ret (fun hn => endsO (v0 := vI at1_) (O := [(kBb23_1 bends0_ (Value.pointer none)), (kBb3_2 bends1_ r6.2)]) (res1 rfl) (Sub.pick [(kBb23_1 bends0_ (Value.pointer none)), (kBb3_2 bends1_ r6.2)] [0, 1] rfl) ⟨rfl, rfl⟩)
def exact_Map_empty_v2_m (N : Nat) (gap : Int) : Option Unit := (exact_Map_next_v2_m N gap).bind fun r5 => (exact_Map_round_v4_m N r5 gap).bind fun r7 => none
set_option maxRecDepth 100000 in
set_option maxHeartbeats 8000000 in
theorem exact_Map_empty_v2_g (N : Nat) (gap : Int) (r) (hM : exact_Map_empty_v2_m N gap = some r) (ro : Addr → Option Value) : Does Try.prog 37 #[Value.pointer none, vI gap] ro [] (pO [] (oE (vT #[]) [])) := by
 unfold exact_Map_empty_v2_m at hM
 refine doesO_of_A follows Try.func37 rfl 17 rfl (upd (upd (fun _ => undef) 1 (vI gap)) 0 (Value.pointer none)) (by funext k; match k with | 0 => rfl | 1 => rfl | k + 2 => rfl) (fun _ _ h_ _ => h_) (fun base0_ => ?_)
 refine A_sr <| r_a (23, #[Value.pointer none]) rfl rfl rfl (fun b2 => ?_) (.inr rfl)
 refine r_a (3, #[vI gap]) rfl rfl rfl (fun b3 => ?_) (.inr rfl)
 refine lx_nil <| A_seq fun K4 hK4 => A_drawR [(some 9, true)] (conG Try.prog [(9, fun _ _ v_ L_ U_ => ∀ u0_, exact_Map_next_v2_m N gap = some u0_ → ∀ u1_, exact_Map_round_v4_m N u0_ gap = some u1_ → (pO (List.flatten [(kBb23_1 b2 (Value.pointer none)), (kBb3_2 b3 gap)]) (oE (vI u1_.1) [(kBb23_1 b2 (Value.pointer none)), (kBb3_2 b3 u1_.2)])) v_ L_ U_)]) [] (by decide +kernel) (fun hn => sep_nil) <| r_l (Value.pointer none) 1 _ _ _ _ rfl rfl rfl rfl rfl <| r_l (Value.pointer none) 1 _ _ _ _ rfl rfl rfl rfl rfl <| r_l (vI gap) 0 _ _ _ _ rfl rfl rfl rfl rfl ?_
 obtain ⟨r5, hr6, hM⟩ := bind_sm hM
 refine r_c (vI r5) rfl _ _ (ev_callF rfl call_49 rfl) (exact_Map_next_v2_g N gap _ hr6) <| r_W (Value.func (.func 50) #[] #[vP b2 0, vP b3 0]) rfl (ev_mkF rfl) ?_
 obtain ⟨r7, hr8, hM⟩ := bind_sm hM
 refine r_gm (Ls := [(kBb3_2 b3 gap), (kBb23_1 b2 (Value.pointer none))]) (FL := [(kBb23_1 b2 (Value.pointer none)), (kBb3_2 b3 gap)]) [1, 0] _ (some 9) 46 _ rfl rfl rfl rfl rfl (ev_callF rfl call_46 rfl) (fun own_ nw_ hn_ hs_ => exact_Map_round_v4_g N r5 gap _ hr8 _ b2 b3) (fun _ _ v_ L_ U_ => ⟨fun h_ => h_ _ hr6 _ hr8, fun h_ => by intro _ e_; cases Option.some.inj (e_.symm.trans hr6); intro _ e_; cases Option.some.inj (e_.symm.trans hr8); exact h_⟩) (fun _ => (NiceO.sub (R := ((kBb23_1 b2 (Value.pointer none)) ++ ((kBb3_2 b3 gap) ++ []))) (niceE rfl) (Sub.pick [(kBb23_1 b2 (Value.pointer none)), (kBb3_2 b3 gap)] [0, 1] rfl))) ?_
 rintro _ _ ⟨rfl, rfl⟩
 refine lx_perm (Ls := [(kBb23_1 b2 (Value.pointer none)), (kBb3_2 b3 r7.2)]) (Ls' := [(kBb23_1 b2 (Value.pointer none)), (kBb3_2 b3 r7.2)]) [0, 1] rfl rfl <| lx_nil <| hK4 _ _ ?_; try clear hK4 K4
 refine A_draw [] (by decide +kernel) (fun hn => sep_nil) <| r_l (Value.pointer none) 0 _ _ _ _ rfl rfl rfl rfl rfl ?_
 cases hM
def exact_Map_Drop_v2_m (N : Nat) (key_0 : Int) (key_1 : BitVec 128) : Option Int := (exact_Map_there_v2_m N key_0 key_1).bind fun r4 => if (r4.2 : Int) ≠ 0 then some r4.2 else (exact_Map_empty_v2_m N r4.1).bind fun r11 => none
set_option maxRecDepth 100000 in
set_option maxHeartbeats 8000000 in
theorem exact_Map_Drop_v2_g (N : Nat) (key_0 : Int) (key_1 : BitVec 128) (r) (hM : exact_Map_Drop_v2_m N key_0 key_1 = some r) : Gives Try.prog 18 #[Value.pointer none, vA #[vI key_0, U (hi key_1), U (lo key_1)]] (vI r) := by
 unfold exact_Map_Drop_v2_m at hM
 refine gives_of_A follows Try.func18 rfl 26 rfl (upd (upd (fun _ => undef) 1 (vA #[vI key_0, U (hi key_1), U (lo key_1)])) 0 (Value.pointer none)) (by funext k; match k with | 0 => rfl | 1 => rfl | k + 2 => rfl) (fun base0_ => ?_)
 refine A_sr <| r_a (31, #[vI key_0, U (hi key_1), U (lo key_1)]) rfl rfl rfl (fun b2 => ?_) (.inr rfl)
 refine r_V (vI 0) rfl <| lx_nil <| A_sr <| r_V (Value.pointer none) rfl <| r_l (vA #[vI key_0, U (hi key_1), U (lo key_1)]) 0 _ _ _ _ rfl rfl rfl rfl rfl ?_
 obtain ⟨r4, hr5, hM⟩ := bind_sm hM
 refine r_c (vT #[vI r4.1, vI r4.2]) rfl _ _ (ev_callF rfl call_36 rfl) (exact_Map_there_v2_g N key_0 key_1 _ hr5) <| r_R [vT #[vI r4.1, vI r4.2], vI r4.1, vI r4.2, vI r4.1, vI r4.2] rfl <| lx_nil <| A_seq fun K6 hK6 => A_sr <| r_R [vI r4.2, vB (r4.2 != 0)] rfl <| lx_nil <| A_cond (r4.2 != 0) rfl (fun hc8 => ?_) (fun hc8 => ?_)
 ·replace hM := ifp (bne_iff_ne.1 hc8) hM
  refine A_sr <| r_R [vI r4.2, vI r4.2] rfl <| lx_nil ?_
  obtain rfl := Option.some.inj hM
  refine A_ret (fun hn => ends_eq (v0 := vI r4.2) rfl (res1 rfl))
 replace hM := ifn (bne_f hc8) hM
 refine A_skip <| hK6 _ _ ?_; try clear hK6 K6
 refine A_sr <| r_R [Value.pointer none, vI r4.1] rfl ?_
 obtain ⟨r11, hr12, hM⟩ := bind_sm hM
 refine cA 18 <| r_gm (Ls := [(kBb31_0 b2 key_0 (hi key_1) (lo key_1))]) (FL := []) [] _ (some 18) 37 _ rfl rfl rfl rfl rfl (ev_callF rfl call_37 rfl) (fun own_ nw_ hn_ hs_ => exact_Map_empty_v2_g N r4.1 _ hr12 _ ) (fun _ _ _ _ _ => Iff.rfl) (fun h_ => nomatch h_) ?_
 rintro _ _ ⟨rfl, rfl⟩
 refine lx_perm (Ls := [(kBb31_0 b2 key_0 (hi key_1) (lo key_1))]) (Ls' := [(kBb31_0 b2 key_0 (hi key_1) (lo key_1))]) [0] rfl rfl <| lx_nil <| A_seq fun K13 hK13 => A_reg <| r_V (Value.pointer none) rfl ?_
 cases hM
def exact_Map_Len_v2_m (_ : Nat) : Option Int := some 0
set_option maxRecDepth 100000 in
set_option maxHeartbeats 8000000 in
theorem exact_Map_Len_v2_g (N : Nat) (r) (hM : exact_Map_Len_v2_m N = some r) : Gives Try.prog 10 #[Value.pointer none] (vI r) := by
 unfold exact_Map_Len_v2_m at hM
 refine gives_of_A follows Try.func10 rfl 9 rfl (upd (fun _ => undef) 0 (Value.pointer none)) (by funext k; match k with | 0 => rfl | k + 1 => rfl) (fun base0_ => ?_)
 refine A_sr <| r_V (vI 0) rfl <| lx_nil <| A_seq fun K2 hK2 => A_sr <| r_R [Value.pointer none, vB true] rfl <| lx_nil <| A_cond true rfl (fun _ => ?_) (fun h_ => nomatch h_)
 refine A_sr <| r_V (vI 0) rfl <| lx_nil ?_
 obtain rfl := Option.some.inj hM
 refine A_ret (fun hn => ends_eq (v0 := vI 0) rfl (res1 rfl))
def exact_Map_List_v2_m (_ : Nat) : Option (List (Int × BitVec 128 × Int)) := some ([])
set_option maxRecDepth 100000 in
set_option maxHeartbeats 8000000 in
theorem exact_Map_List_v2_g (N : Nat) (r) (hM : exact_Map_List_v2_m N = some r) (ro : Addr → Option Value) : Does Try.prog 12 #[Value.pointer none] ro [] (p1 (fun s_ => s_) 40 enc_40 r) := by
 unfold exact_Map_List_v2_m at hM
 refine does_of_A follows Try.func12 rfl 30 rfl (upd (fun _ => undef) 0 (Value.pointer none)) (by funext k; match k with | 0 => rfl | k + 1 => rfl) (fun base0_ => ?_)
 refine A_sr <| r_V nS rfl <| lx_nil <| A_seq fun K2 hK2 => A_sr <| r_R [Value.pointer none, vB true] rfl <| lx_nil <| A_cond true rfl (fun _ => ?_) (fun h_ => nomatch h_)
 refine A_sr <| r_V nS rfl <| lx_nil ?_
 obtain rfl := Option.some.inj hM
 refine A_ret (fun hn => ends1 (v0 := nS) Sl.nil (Sub.nil _) rfl (res1 rfl))
def exact_Map_Copy_v1_m (_ : Nat) : Option Sum23 := some (.nil)
set_option maxRecDepth 100000 in
set_option maxHeartbeats 8000000 in
theorem exact_Map_Copy_v1_g (N : Nat) (r) (hM : exact_Map_Copy_v1_m N = some r) (ro : Addr → Option Value) : Does Try.prog 20 #[Value.pointer none] ro [] (pO [] (Sum23.onP r (oE (Value.pointer none) []) (fun y0_0 y0_1 y0_2 => (oS 40 enc_40 y0_0 fun ss_0_0 => (oB 53 #[ss_0_0, vI y0_1, vI y0_2] fun bs_0 => (oE (vP bs_0 0) [])))))) := by
 unfold exact_Map_Copy_v1_m at hM
 refine doesO_of_A follows Try.func20 rfl 20 rfl (upd (fun _ => undef) 0 (Value.pointer none)) (by funext k; match k with | 0 => rfl | k + 1 => rfl) (fun _ _ h_ _ => h_) (fun base0_ => ?_)
 refine A_sr <| r_V (Value.pointer none) rfl <| lx_nil <| A_seq fun K2 hK2 => A_sr <| r_R [Value.pointer none, vB true] rfl <| lx_nil <| A_cond true rfl (fun _ => ?_) (fun h_ => nomatch h_)
 refine A_sr <| r_V (Value.pointer none) rfl <| lx_nil ?_
 obtain rfl := Option.some.inj hM
 refine A_ret (fun hn => endsO (v0 := Value.pointer none) (O := []) (res1 rfl) (Sub.nil _) ⟨rfl, rfl⟩)
def slices_Clone___exact_Item_exact_Item__m (_ : Nat) (s : List (Int × BitVec 128 × Int)) : Option (List (Int × BitVec 128 × Int)) := ck ((([] : List (Int × BitVec 128 × Int))).length + (s).length ≤ 4398046511104) (some (([] : List (Int × BitVec 128 × Int)) ++ s))
set_option maxRecDepth 100000 in
set_option maxHeartbeats 8000000 in
theorem slices_Clone___exact_Item_exact_Item__g (N : Nat) (s r : List (Int × BitVec 128 × Int)) (hM : slices_Clone___exact_Item_exact_Item__m N s = some r) (ro : Addr → Option Value) (sv : Value) (hs : Rd enc_40 ro sv s) : Does Try.prog 38 #[sv] ro [] (p1 (fun s_ => s_) 40 enc_40 r) := by
 unfold slices_Clone___exact_Item_exact_Item__m at hM
 refine does_of_A follows Try.func38 rfl 8 rfl (upd (fun _ => undef) 0 sv) (by funext k; match k with | 0 => rfl | k + 1 => rfl) (fun base0_ => ?_)
 refine A_sr <| r_V nS rfl <| lx_nil <| A_seq fun K2 hK2 => A_seq fun K3 hK3 => A_reg <| r_V sv rfl ?_
 rcases nilS_or (Rd.shp hs) with ⟨hz4, hl5⟩ | hne6
 ·obtain rfl := hz4; obtain rfl := List.eq_nil_of_length_eq_zero hl5
  replace hM : (some ([])) = some r := (by first | exact hM | (simp at hM ⊢; exact hM))
  refine r_V (.bool true) rfl <| lx_nil <| hK3 _ _ ?_; try clear hK3 K3
  refine A_cond true rfl (fun _ => ?_) (fun h_ => nomatch h_)
  refine A_sr <| r_V nS rfl <| lx_nil ?_
  obtain rfl := Option.some.inj hM
  refine A_ret (fun hn => ends1 (v0 := nS) Sl.nil (Sub.nil _) rfl (res1 rfl))
 refine r_W (.bool false) rfl (ev_eqlNil rfl rfl rfl (Rd.shp hs) hne6) <| lx_nil <| hK3 _ _ ?_; try clear hK3 K3
 refine A_cond false rfl (fun h_ => nomatch h_) (fun _ => ?_)
 refine A_skip <| hK2 _ _ ?_; try clear hK2 K2
 refine A_sr <| cD 5 <| r_bs (cs0 := []) (Ls := []) 40 enc_40 ([] : List (Int × BitVec 128 × Int)) [] [] rfl rfl rfl rfl rfl rfl rfl (by kernel_rfl) (by kernel_rfl) rfl rfl rfl (fun s8 S9 H10 => ?_)
 refine r_V sv rfl ?_
 obtain ⟨ck11, hM⟩ := ck_some hM
 refine cC 7 <| r_app (cs0 := []) (Ls := [S9]) 0 (En := enc_40) rfl rfl rfl rfl rfl H10 rfl (rd_ro hs) rfl rfl rfl rfl rfl (app_b ck11 rfl) (app_m ck11 rfl) rfl (fun s12 S13 H14 => ?_)
 refine r_V s12 rfl <| lx_nil ?_
 obtain rfl := Option.some.inj hM
 refine A_ret (fun hn => ends1 (v0 := s12) H14 (sub_one (Sub.pick [S13] [0] rfl)) rfl (res1 rfl))
def exact_Map_Copy_v2_m (N : Nat) (m_0 : List (Int × BitVec 128 × Int)) (m_1 : Int) (m_2 : Int) : Option ((List (Int × BitVec 128 × Int)) × Int × Int) := (slices_Clone___exact_Item_exact_Item__m N m_0).bind fun r5 => some (r5, m_1, m_2)
set_option maxRecDepth 100000 in
set_option maxHeartbeats 8000000 in
theorem exact_Map_Copy_v2_g (N : Nat) (m_0 : List (Int × BitVec 128 × Int)) (m_1 m_2 : Int) (r) (hM : exact_Map_Copy_v2_m N m_0 m_1 m_2 = some r) (ro : Addr → Option Value) (bm : Nat) (m_0v : Value) (hm_0 : Rd enc_40 ro m_0v m_0) (hbm : Blk ro bm [m_0v, vI m_1, vI m_2]) : Does Try.prog 20 #[vP bm 0] ro [] (pO [] (oS 40 enc_40 r.1 fun s_0 => (oB 53 #[s_0, vI r.2.1, vI r.2.2] fun b_0 => (oE (vP b_0 0) [])))) := by
 unfold exact_Map_Copy_v2_m at hM
 refine doesO_of_A follows Try.func20 rfl 20 rfl (upd (fun _ => undef) 0 (vP bm 0)) (by funext k; match k with | 0 => rfl | k + 1 => rfl) (fun _ _ h_ _ => h_) (fun base0_ => ?_)
 refine A_sr <| r_V (Value.pointer none) rfl <| lx_nil <| A_seq fun K2 hK2 => A_sr <| r_R [vP bm 0, vB false] rfl <| lx_nil <| A_cond false rfl (fun h_ => nomatch h_) (fun _ => ?_)
 refine A_skip <| hK2 _ _ ?_; try clear hK2 K2
 refine A_seq fun K4 hK4 => A_drawR [(some 9, false)] (conG Try.prog [(9, fun _ _ v_ L_ U_ => ∀ u0_, slices_Clone___exact_Item_exact_Item__m N m_0 = some u0_ → (p1 (fun s_ => s_) 40 enc_40 u0_) v_ L_ U_)]) [] (by decide +kernel) (fun hn => sep_nil) <| r_R [vP bm 0, vP bm 0, vP bm 0] rfl <| r_lb m_0v (vs := [m_0v, vI m_1, vI m_2]) (o := 0) rfl rfl (blk_ro hbm) rfl ?_
 obtain ⟨r5, hr6, hM⟩ := bind_sm hM
 refine r_g1 (Ls := []) (fun s7 => s7) 40 enc_40 r5 38 _ rfl rfl rfl (ev_callF rfl call_38 rfl) (fun own_ nw_ hs_ => slices_Clone___exact_Item_exact_Item__g N m_0 _ hr6 hs_.view m_0v ((rd_ro hm_0) own_ nw_ hs_)) (conE hr6) (fun s7 S8 H9 => ?_)
 refine r_R [vP bm 0, vP bm 0, vP bm 1] rfl <| r_lb (vI m_1) (vs := [m_0v, vI m_1, vI m_2]) (o := 1) rfl rfl (blk_ro hbm) rfl <| r_R [vP bm 0, vP bm 0, vP bm 2] rfl <| r_lb (vI m_2) (vs := [m_0v, vI m_1, vI m_2]) (o := 2) rfl rfl (blk_ro hbm) rfl <| r_W (vA #[s7, vI m_1, vI m_2]) rfl (ev_buildSC rfl rfl rfl (pc_cons (cells_sl rfl (Sl.shp H9)) (pc_cons rfl (pc_cons rfl pc_nil))) rfl) <| r_a (53, #[s7, vI m_1, vI m_2]) rfl rfl rfl (fun b10 => ?_) (.inl rfl)
 refine r_V (vP b10 0) rfl <| lx_nil <| hK4 _ _ ?_; try clear hK4 K4
 obtain rfl := Option.some.inj hM
 refine A_ret (fun hn => endsO (v0 := vP b10 0) (O := [S8, (kBb53_3 b10 s7 m_1 m_2)]) (res1 rfl) (Sub.pick [(kBb53_3 b10 s7 m_1 m_2), S8] [1, 0] rfl) ⟨s7, S8, _, H9, ⟨b10, _, ⟨rfl, rfl⟩, rfl⟩, rfl⟩)
end Go.Proofs.Ytnpbpllibmcokaa
