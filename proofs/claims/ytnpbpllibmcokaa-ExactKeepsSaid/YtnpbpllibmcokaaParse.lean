/- models of functions and their walks -/
import Derived.Test.YtnpbpllibmcokaaMd
import Derived.Test.YtnpbpllibmcokaaMove
import Derived.Test.YtnpbpllibmcokaaReft
import Derived.Test.YtnpbpllibmcokaaSr
namespace Go.Proofs.Ytnpbpllibmcokaa
open Go Go.RowKit Go.Eng
def shunterref01_Halves_k6 (r' : BitVec 128) (lo2_ : BitVec 64) (i3_ : Int) (rec_shunterref01_Halves_l4 : BitVec 64 → BitVec 64 → Int → Option ((BitVec 64) × (BitVec 64))) (hi5_ : BitVec 64) : Option ((BitVec 64) × (BitVec 64)) := ck (0 ≤ i3_ ∧ i3_ < 128) (if ((r').getLsbD ((i3_).toNat)) = true then ck ((-9223372036854775808 ≤ (i3_ - 1) ∧ (i3_ - 1) ≤ 9223372036854775807)) (rec_shunterref01_Halves_l4 (hi5_) (((2#64 * lo2_) + 1#64)) ((i3_ - 1))) else ck ((-9223372036854775808 ≤ (i3_ - 1) ∧ (i3_ - 1) ≤ 9223372036854775807)) (rec_shunterref01_Halves_l4 (hi5_) ((2#64 * lo2_)) ((i3_ - 1))))
def shunterref01_Halves_l4 (r' : BitVec 128) : Nat → BitVec 64 → BitVec 64 → Int → Option ((BitVec 64) × (BitVec 64))
  | 0, _, _, _ => none
  | n6 + 1, hi1_, lo2_, i3_ => if (i3_ : Int) ≥ 0 then ck ((-9223372036854775808 ≤ (i3_ + 64) ∧ (i3_ + 64) ≤ 9223372036854775807)) (ck (0 ≤ (i3_ + 64) ∧ (i3_ + 64) < 128) (if ((r').getLsbD (((i3_ + 64)).toNat)) = true then shunterref01_Halves_k6 r' lo2_ i3_ (shunterref01_Halves_l4 r' n6) (((2#64 * hi1_) + 1#64)) else shunterref01_Halves_k6 r' lo2_ i3_ (shunterref01_Halves_l4 r' n6) ((2#64 * hi1_)))) else some (hi1_, lo2_)
def shunterref01_Halves_m (N : Nat) (r' : BitVec 128) : Option ((BitVec 64) × (BitVec 64)) := shunterref01_Halves_l4 r' N (0#64) (0#64) (63)
set_option maxRecDepth 100000 in
set_option maxHeartbeats 400000 in
theorem shunterref01_Halves_g (N : Nat) (r' : BitVec 128) (r : (BitVec 64) × (BitVec 64)) (hM : shunterref01_Halves_m N r' = some r) : Gives Try.prog 64 #[Value.agg (rowF (BitVec.getLsbD (r')))] (Value.tuple #[U (r.1), U (r.2)]) := by
  unfold shunterref01_Halves_m at hM
  refine gives_of_A follows Try.func64 rfl 28 rfl (upd (fun _ => undef) 0 (Value.agg (rowF (BitVec.getLsbD (r'))))) (by funext k; match k with | 0 => rfl | k + 1 => rfl) (fun base0_ => ?_)
  refine A_seq fun K1 hK1 => ?_
  refine A_reg ?_
  refine r_a (71, rowF (BitVec.getLsbD (r'))) rfl rfl rfl (fun b2 => ?_) (.inr rfl)
  refine r_v (U (0#64)) rfl rfl rfl rfl ?_
  refine r_v (U (0#64)) rfl rfl rfl rfl ?_
  refine lx_nil ?_
  refine hK1 _ _ ?_; try clear hK1 K1
  refine A_seq fun K3 hK3 => ?_
  refine A_reg ?_
  refine r_v (U (0#64)) rfl rfl rfl rfl ?_
  refine r_v (U (0#64)) rfl rfl rfl rfl ?_
  refine lx_nil ?_
  refine hK3 _ _ ?_; try clear hK3 K3
  refine A_seq fun K4 hK4 => ?_
  refine A_seq fun K5 hK5 => ?_
  refine A_reg ?_
  refine r_v (Value.int .i64 (63)) rfl rfl rfl rfl ?_
  refine lx_nil ?_
  refine hK5 _ _ ?_; try clear hK5 K5
  refine A_block ?_
  refine A_loop (fun tt ll nn => ∃ (n6 : Nat) (hi1_ : BitVec 64) (lo2_ : BitVec 64) (i3_ : Int), (shunterref01_Halves_l4 r' n6 hi1_ lo2_ i3_ = some r) ∧ Is [(1, Value.pointer (some ⟨b2, 0, none⟩)), (4, U (hi1_)), (5, U (lo2_)), (6, Value.int .i64 (i3_))] [(b2, 71, rowF (BitVec.getLsbD (r')))] tt ll ∧ nn = n6 + 1) (N + 1) ?_ ?_
  · exact ⟨N, 0#64, 0#64, 63, hM, is_mk rfl rfl, rfl⟩
  · clear hM; rintro t l _ ⟨n6, hi1_, lo2_, i3_, hM, ⟨⟨T, rfl⟩, rfl⟩, rfl⟩
    rcases n6 with _ | n6
    · exact absurd hM (by simp [shunterref01_Halves_l4])
    rw [shunterref01_Halves_l4] at hM
    refine A_seq fun K7 hK7 => ?_
    refine A_seq fun K8 hK8 => ?_
    refine A_reg ?_
    refine r_v (Value.int .i64 (i3_)) rfl rfl rfl rfl ?_
    refine r_v (Value.bool (decide ((i3_ : Int) ≥ 0))) rfl rfl rfl rfl ?_
    refine lx_nil ?_
    refine hK8 _ _ ?_; try clear hK8 K8
    refine A_cond (decide ((i3_ : Int) ≥ 0)) rfl (fun hc9 => ?_) (fun hc9 => ?_)
    · replace hM := ifp (of_decide_eq_true hc9) hM
      refine A_skip ?_
      refine hK7 _ _ ?_; try clear hK7 K7
      refine A_seq fun K10 hK10 => ?_
      refine A_block ?_
      refine A_seq fun K11 hK11 => ?_
      refine A_reg ?_
      refine r_v (U (hi1_)) rfl rfl rfl rfl ?_
      refine r_v (U ((2#64 * hi1_))) rfl rfl (U_mul (2#64) (hi1_)) rfl ?_
      refine r_v (U ((2#64 * hi1_))) rfl rfl rfl rfl ?_
      refine lx_nil ?_
      refine hK11 _ _ ?_; try clear hK11 K11
      refine A_seq fun K12 hK12 => ?_
      refine A_reg ?_
      refine r_v (U (lo2_)) rfl rfl rfl rfl ?_
      refine r_v (U ((2#64 * lo2_))) rfl rfl (U_mul (2#64) (lo2_)) rfl ?_
      refine r_v (U ((2#64 * lo2_))) rfl rfl rfl rfl ?_
      refine lx_nil ?_
      refine hK12 _ _ ?_; try clear hK12 K12
      refine A_cut (fun tt ll => ∃ (hi5_ : BitVec 64), (shunterref01_Halves_k6 r' lo2_ i3_ (shunterref01_Halves_l4 r' n6) hi5_ = some r) ∧ Is [(1, Value.pointer (some ⟨b2, 0, none⟩)), (4, U (hi5_)), (5, U ((2#64 * lo2_))), (6, Value.int .i64 (i3_))] [(b2, 71, rowF (BitVec.getLsbD (r')))] tt ll) ?_ ?_
      · refine A_seq fun K19 hK19 => ?_
        refine A_reg ?_
        refine r_v (Value.int .i64 (i3_)) rfl rfl rfl rfl ?_
        replace hM := ck_some hM; obtain ⟨ck20, hM⟩ := hM
        refine r_v (Value.int .i64 ((i3_ + 64))) rfl rfl (wi64 rfl ck20.1 ck20.2) rfl ?_
        replace hM := ck_some hM; obtain ⟨ck21, hM⟩ := hM
        have hx22 := fun c => ev_v (ev_idxI (P := Try.prog) (c := c) (t := 71) (b := b2) (off := 0) (k := .i64) rfl rfl rfl ck21)
        simp only [Nat.zero_add] at hx22
        have ck21n : ((i3_ + 64)).toNat < 128 := by omega
        refine r_v (Value.pointer (some ⟨b2, ((i3_ + 64)).toNat, none⟩)) rfl rfl rfl (hx22 _) ?_
        refine r_l (Value.bool ((r').getLsbD (((i3_ + 64)).toNat))) 0 _ _ _ _ rfl rfl rfl rfl (ld_row1 rfl _ ck21n) ?_
        refine lx_nil ?_
        refine hK19 _ _ ?_; try clear hK19 K19
        refine A_cond ((r').getLsbD (((i3_ + 64)).toNat)) rfl (fun hc23 => ?_) (fun hc23 => ?_)
        · replace hM := ifp hc23 hM
          refine A_reg ?_
          refine r_v (U ((2#64 * hi1_))) rfl rfl rfl rfl ?_
          refine r_v (U (((2#64 * hi1_) + 1#64))) rfl rfl (U_add ((2#64 * hi1_)) (1#64)) rfl ?_
          refine r_v (U (((2#64 * hi1_) + 1#64))) rfl rfl rfl rfl ?_
          refine lx_nil ?_
          refine fg _ (Sub.of (List.Sublist.cons_cons _ (List.Sublist.slnil))) ?_
          exact ⟨((2#64 * hi1_) + 1#64), hM, is_mk rfl rfl⟩
        · replace hM := ifn (Bool.eq_false_iff.1 hc23) hM
          refine A_skip ?_
          refine fg _ (Sub.of (List.Sublist.cons_cons _ (List.Sublist.slnil))) ?_
          exact ⟨(2#64 * hi1_), hM, is_mk rfl rfl⟩
      · clear hM; rintro t l ⟨hi5_, hM, ⟨T, rfl⟩, rfl⟩
        unfold shunterref01_Halves_k6 at hM
        refine A_seq fun K13 hK13 => ?_
        refine A_reg ?_
        refine r_v (Value.int .i64 (i3_)) rfl rfl rfl rfl ?_
        replace hM := ck_some hM; obtain ⟨ck14, hM⟩ := hM
        have hx15 := fun c => ev_v (ev_idxI (P := Try.prog) (c := c) (t := 71) (b := b2) (off := 0) (k := .i64) rfl rfl rfl ck14)
        simp only [Nat.zero_add] at hx15
        have ck14n : (i3_).toNat < 128 := by omega
        refine r_v (Value.pointer (some ⟨b2, (i3_).toNat, none⟩)) rfl rfl rfl (hx15 _) ?_
        refine r_l (Value.bool ((r').getLsbD ((i3_).toNat))) 0 _ _ _ _ rfl rfl rfl rfl (ld_row1 rfl _ ck14n) ?_
        refine lx_nil ?_
        refine hK13 _ _ ?_; try clear hK13 K13
        refine A_cond ((r').getLsbD ((i3_).toNat)) rfl (fun hc16 => ?_) (fun hc16 => ?_)
        · replace hM := ifp hc16 hM
          refine A_reg ?_
          refine r_v (U ((2#64 * lo2_))) rfl rfl rfl rfl ?_
          refine r_v (U (((2#64 * lo2_) + 1#64))) rfl rfl (U_add ((2#64 * lo2_)) (1#64)) rfl ?_
          refine r_v (U (((2#64 * lo2_) + 1#64))) rfl rfl rfl rfl ?_
          refine lx_nil ?_
          refine hK10 _ _ ?_; try clear hK10 K10
          refine A_reg ?_
          refine r_v (Value.int .i64 (i3_)) rfl rfl rfl rfl ?_
          replace hM := ck_some hM; obtain ⟨ck17, hM⟩ := hM
          refine r_v (Value.int .i64 ((i3_ - 1))) rfl rfl (wi64 rfl ck17.1 ck17.2) rfl ?_
          refine r_v (Value.int .i64 ((i3_ - 1))) rfl rfl rfl rfl ?_
          refine lx_nil ?_
          refine fg _ (Sub.of (List.Sublist.cons_cons _ (List.Sublist.slnil))) ?_
          exact ⟨n6 + 1, by omega, n6, hi5_, ((2#64 * lo2_) + 1#64), (i3_ - 1), hM, is_mk rfl rfl, rfl⟩
        · replace hM := ifn (Bool.eq_false_iff.1 hc16) hM
          refine A_skip ?_
          refine hK10 _ _ ?_; try clear hK10 K10
          refine A_reg ?_
          refine r_v (Value.int .i64 (i3_)) rfl rfl rfl rfl ?_
          replace hM := ck_some hM; obtain ⟨ck18, hM⟩ := hM
          refine r_v (Value.int .i64 ((i3_ - 1))) rfl rfl (wi64 rfl ck18.1 ck18.2) rfl ?_
          refine r_v (Value.int .i64 ((i3_ - 1))) rfl rfl rfl rfl ?_
          refine lx_nil ?_
          refine fg _ (Sub.of (List.Sublist.cons_cons _ (List.Sublist.slnil))) ?_
          exact ⟨n6 + 1, by omega, n6, hi5_, (2#64 * lo2_), (i3_ - 1), hM, is_mk rfl rfl, rfl⟩
    · replace hM := ifn (of_decide_eq_false hc9) hM
      refine A_exit ?_
      refine hK4 _ _ ?_; try clear hK4 K4
      refine A_seq fun K24 hK24 => ?_
      refine A_reg ?_
      refine r_v (U (hi1_)) rfl rfl rfl rfl ?_
      refine r_v (U (lo2_)) rfl rfl rfl rfl ?_
      refine r_v (U (hi1_)) rfl rfl rfl rfl ?_
      refine r_v (U (lo2_)) rfl rfl rfl rfl ?_
      refine lx_nil ?_
      refine hK24 _ _ ?_; try clear hK24 K24
      obtain rfl := Option.some.inj hM
      refine A_ret (fun hn => ends_eq (v0 := Value.tuple #[U (hi1_), U (lo2_)]) rfl (res2 rfl rfl))
end Go.Proofs.Ytnpbpllibmcokaa
