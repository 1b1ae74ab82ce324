/- models of functions and their walks -/
import Derived.Test.YtomcfndpnnjihaaDoorVa
namespace Go.Proofs.YtomcfndpnnjihaaDoor
open Go Go.RowKit Go.Eng
def shunterref02_May_m (_ : Nat) (v_0 : Int) (v_1 : BitVec 128) : Option (Bool) := if (v_0 : Int) ≥ 1 then if (v_0 : Int) ≤ 128 then some (decide ((((len128 ((hi (v_1)) ++ (lo (v_1))) : Nat) : Int) : Int) ≤ v_0)) else some (false) else some (false)
set_option maxRecDepth 100000 in
set_option maxHeartbeats 400000 in
theorem shunterref02_May_g (N : Nat) (v_0 : Int) (v_1 : BitVec 128) (r : Bool) (hM : shunterref02_May_m N v_0 v_1 = some r) : Gives Tryd.prog 10 #[Value.agg #[Value.int .i64 (v_0), U (hi (v_1)), U (lo (v_1))]] (Value.bool (r)) := by
  unfold shunterref02_May_m at hM
  refine gives_of_A follows Tryd.func10 rfl 22 rfl (upd (fun _ => undef) 0 (Value.agg #[Value.int .i64 (v_0), U (hi (v_1)), U (lo (v_1))])) (by funext k; match k with | 0 => rfl | k + 1 => rfl) (fun base0_ => ?_)
  refine A_seq fun K1 hK1 => ?_
  refine A_reg ?_
  refine r_a (24, #[Value.int .i64 (v_0), U (hi (v_1)), U (lo (v_1))]) rfl rfl rfl (fun b2 => ?_) (.inr rfl)
  refine r_v (Value.bool (false)) rfl rfl rfl rfl ?_
  refine lx_nil ?_
  refine hK1 _ _ ?_; try clear hK1 K1
  refine A_seq fun K3 hK3 => ?_
  refine A_draw [] (by decide +kernel) (fun hn => sep_nil) ?_
  refine r_v (Value.pointer (some ⟨b2, 0, none⟩)) rfl rfl rfl rfl ?_
  refine r_l (Value.int .i64 (v_0)) 0 _ _ _ _ rfl rfl rfl rfl rfl ?_
  refine r_v (Value.bool (decide ((v_0 : Int) ≥ 1))) rfl rfl rfl rfl ?_
  refine r_v (Value.bool (decide ((v_0 : Int) ≥ 1))) rfl rfl rfl rfl ?_
  rcases hg4 : (decide ((v_0 : Int) ≥ 1)) with _ | _
  · replace hM := ifn (of_decide_eq_false hg4) hM
    refine r_n false rfl (by decide) rfl ?_
    refine r_n false rfl (by decide) rfl ?_
    refine r_n false rfl (by decide) rfl ?_
    refine r_v (Value.bool (false)) rfl rfl rfl rfl ?_
    refine r_v (Value.bool (false)) rfl rfl rfl rfl ?_
    refine r_n false rfl (by decide) rfl ?_
    refine r_n false rfl (by decide) rfl ?_
    refine r_n false rfl (by decide) rfl ?_
    refine r_n false rfl (by decide) rfl ?_
    refine r_n false rfl (by decide) rfl ?_
    refine r_n false rfl (by decide) rfl ?_
    refine r_n false rfl (by decide) rfl ?_
    refine r_n false rfl (by decide) rfl ?_
    refine r_n false rfl (by decide) rfl ?_
    refine r_v (Value.bool (false)) rfl rfl rfl rfl ?_
    refine r_v (Value.bool (false)) rfl rfl rfl rfl ?_
    refine lx_nil ?_
    refine hK3 _ _ ?_; try clear hK3 K3
    obtain rfl := Option.some.inj hM
    refine A_ret (fun hn => ends_eq (v0 := Value.bool (false)) rfl (res1 rfl))
  · replace hM := ifp (of_decide_eq_true hg4) hM
    refine r_y rfl ?_
    refine r_v (Value.pointer (some ⟨b2, 0, none⟩)) rfl rfl rfl rfl ?_
    refine r_y rfl ?_
    refine r_l (Value.int .i64 (v_0)) 0 _ _ _ _ rfl rfl rfl rfl rfl ?_
    refine r_y rfl ?_
    refine r_v (Value.bool (decide ((v_0 : Int) ≤ 128))) rfl rfl rfl rfl ?_
    refine r_v (Value.bool (decide ((v_0 : Int) ≤ 128))) rfl rfl rfl rfl ?_
    refine r_v (Value.bool (decide ((v_0 : Int) ≤ 128))) rfl rfl rfl rfl ?_
    rcases hg5 : (decide ((v_0 : Int) ≤ 128)) with _ | _
    · replace hM := ifn (of_decide_eq_false hg5) hM
      refine r_n false rfl (by decide) rfl ?_
      refine r_n false rfl (by decide) rfl ?_
      refine r_n false rfl (by decide) rfl ?_
      refine r_n false rfl (by decide) rfl ?_
      refine r_n false rfl (by decide) rfl ?_
      refine r_n false rfl (by decide) rfl ?_
      refine r_n false rfl (by decide) rfl ?_
      refine r_n false rfl (by decide) rfl ?_
      refine r_n false rfl (by decide) rfl ?_
      refine r_v (Value.bool (false)) rfl rfl rfl rfl ?_
      refine r_v (Value.bool (false)) rfl rfl rfl rfl ?_
      refine lx_nil ?_
      refine hK3 _ _ ?_; try clear hK3 K3
      obtain rfl := Option.some.inj hM
      refine A_ret (fun hn => ends_eq (v0 := Value.bool (false)) rfl (res1 rfl))
    · replace hM := ifp (of_decide_eq_true hg5) hM
      refine r_y rfl ?_
      refine r_v (Value.pointer (some ⟨b2, 1, none⟩)) rfl rfl rfl rfl ?_
      refine r_y rfl ?_
      refine r_l (U (hi (v_1))) 0 _ _ _ _ rfl rfl rfl rfl rfl ?_
      refine r_y rfl ?_
      refine r_v (Value.pointer (some ⟨b2, 2, none⟩)) rfl rfl rfl rfl ?_
      refine r_y rfl ?_
      refine r_l (U (lo (v_1))) 0 _ _ _ _ rfl rfl rfl rfl rfl ?_
      refine r_y rfl ?_
      refine r_c (Value.agg (rowF (BitVec.getLsbD ((hi (v_1)) ++ (lo (v_1)))))) rfl _ _ (ev_callF rfl call_50 rfl) (of_g (hi (v_1)) (lo (v_1))) ?_
      refine r_y rfl ?_
      refine r_c (Value.int .i64 (((len128 ((hi (v_1)) ++ (lo (v_1))) : Nat) : Int))) rfl _ _ (ev_callF rfl call_49 rfl) (rlen_g ((hi (v_1)) ++ (lo (v_1)))) ?_
      refine r_y rfl ?_
      refine r_v (Value.pointer (some ⟨b2, 0, none⟩)) rfl rfl rfl rfl ?_
      refine r_y rfl ?_
      refine r_l (Value.int .i64 (v_0)) 0 _ _ _ _ rfl rfl rfl rfl rfl ?_
      refine r_y rfl ?_
      refine r_v (Value.bool (decide ((((len128 ((hi (v_1)) ++ (lo (v_1))) : Nat) : Int) : Int) ≤ v_0))) rfl rfl rfl rfl ?_
      refine r_v (Value.bool (decide ((((len128 ((hi (v_1)) ++ (lo (v_1))) : Nat) : Int) : Int) ≤ v_0))) rfl rfl rfl rfl ?_
      refine r_v (Value.bool (decide ((((len128 ((hi (v_1)) ++ (lo (v_1))) : Nat) : Int) : Int) ≤ v_0))) rfl rfl rfl rfl ?_
      refine lx_nil ?_
      refine hK3 _ _ ?_; try clear hK3 K3
      obtain rfl := Option.some.inj hM
      refine A_ret (fun hn => ends_eq (v0 := Value.bool (decide ((((len128 ((hi (v_1)) ++ (lo (v_1))) : Nat) : Int) : Int) ≤ v_0))) rfl (res1 rfl))
def shunterref02_Bits_k4 (v_1 : BitVec 128) (l1_ : List Bool) (i2_ : Int) (rec_shunterref02_Bits_l3 : List Bool → Int → Option (List Bool)) : Option (List Bool) := ck (0 ≤ i2_ ∧ i2_ < 128) (ck ((l1_).length + ([((hi (v_1)) ++ (lo (v_1))).getLsbD ((i2_).toNat)]).length ≤ 140737488355328) (ck ((-9223372036854775808 ≤ (i2_ + 1) ∧ (i2_ + 1) ≤ 9223372036854775807)) (rec_shunterref02_Bits_l3 ((l1_ ++ ([((hi (v_1)) ++ (lo (v_1))).getLsbD ((i2_).toNat)]))) ((i2_ + 1)))))
def shunterref02_Bits_l3 (v_0 : Int) (v_1 : BitVec 128) : Nat → List Bool → Int → Option (List Bool)
  | 0, _, _ => none
  | n8 + 1, l1_, i2_ => if (i2_ : Int) < v_0 then if (i2_ : Int) < 128 then shunterref02_Bits_k4 v_1 l1_ i2_ (shunterref02_Bits_l3 v_0 v_1 n8)  else some (l1_) else some (l1_)
def shunterref02_Bits_m (N : Nat) (v_0 : Int) (v_1 : BitVec 128) : Option (List Bool) := shunterref02_Bits_l3 v_0 v_1 N ([]) (0)
set_option maxRecDepth 100000 in
set_option maxHeartbeats 400000 in
theorem shunterref02_Bits_g (N : Nat) (v_0 : Int) (v_1 : BitVec 128) (r : List Bool) (hM : shunterref02_Bits_m N v_0 v_1 = some r) (ro : Addr → Option Value)  : Does Tryd.prog 17 #[Value.agg #[Value.int .i64 (v_0), U (hi (v_1)), U (lo (v_1))]] ro [] (p1 (fun s_ => s_) 4 encB r) := by
  unfold shunterref02_Bits_m at hM
  refine does_of_A follows Tryd.func17 rfl 28 rfl (upd (fun _ => undef) 0 (Value.agg #[Value.int .i64 (v_0), U (hi (v_1)), U (lo (v_1))])) (by funext k; match k with | 0 => rfl | k + 1 => rfl) (fun base0_ => ?_)
  refine A_seq fun K1 hK1 => ?_
  refine A_reg ?_
  refine r_a (24, #[Value.int .i64 (v_0), U (hi (v_1)), U (lo (v_1))]) rfl rfl rfl (fun b2 => ?_) (.inr rfl)
  refine r_v (Value.slice none 0 0) rfl rfl rfl rfl ?_
  refine lx_nil ?_
  refine hK1 _ _ ?_; try clear hK1 K1
  refine A_seq fun K3 hK3 => ?_
  refine A_reg ?_
  refine r_v (Value.pointer (some ⟨b2, 1, none⟩)) rfl rfl rfl rfl ?_
  refine r_l (U (hi (v_1))) 0 _ _ _ _ rfl rfl rfl rfl rfl ?_
  refine r_v (Value.pointer (some ⟨b2, 2, none⟩)) rfl rfl rfl rfl ?_
  refine r_l (U (lo (v_1))) 0 _ _ _ _ rfl rfl rfl rfl rfl ?_
  refine r_c (Value.agg (rowF (BitVec.getLsbD ((hi (v_1)) ++ (lo (v_1)))))) rfl _ _ (ev_callF rfl call_50 rfl) (of_g (hi (v_1)) (lo (v_1))) ?_
  refine r_a (61, rowF (BitVec.getLsbD (0#128))) rfl rfl ((zrow z_61).trans (congrArg (fun x => some (61, x)) row_zero)) (fun b4 => ?_) (.inr rfl)
  refine r_s [(b4, 61, rowF (BitVec.getLsbD ((hi (v_1)) ++ (lo (v_1))))), (b2, 24, #[Value.int .i64 (v_0), U (hi (v_1)), U (lo (v_1))])] 0 _ _ _ (rowF (BitVec.getLsbD (0#128))) (rowF (BitVec.getLsbD ((hi (v_1)) ++ (lo (v_1))))) (rowF (BitVec.getLsbD ((hi (v_1)) ++ (lo (v_1))))) rfl rfl rfl rfl (stok_rows rfl rfl _ _) (splice_rows _ _) rfl ?_
  refine lx_nil ?_
  refine hK3 _ _ ?_; try clear hK3 K3
  refine A_seq fun K5 hK5 => ?_
  refine A_reg ?_
  refine r_v (Value.slice none 0 0) rfl rfl rfl rfl ?_
  refine lx_nil ?_
  refine hK5 _ _ ?_; try clear hK5 K5
  refine A_seq fun K6 hK6 => ?_
  refine A_seq fun K7 hK7 => ?_
  refine A_reg ?_
  refine r_v (Value.int .i64 (0)) rfl rfl rfl rfl ?_
  refine lx_nil ?_
  refine hK7 _ _ ?_; try clear hK7 K7
  refine A_block ?_
  refine A_loop (fun tt ll nn => ∃ (n8 : Nat) (l1_ : List Bool) (i2_ : Int), (shunterref02_Bits_l3 v_0 v_1 n8 l1_ i2_ = some r) ∧ ∃ (vl1_ : Value) (Sl1_ : List Bl), Sl 4 encB vl1_ l1_ Sl1_ ∧ Is [(1, Value.pointer (some ⟨b2, 0, none⟩)), (3, Value.pointer (some ⟨b4, 0, none⟩)), (4, vl1_), (5, Value.int .i64 (i2_))] (List.flatten [[(b4, 61, rowF (BitVec.getLsbD ((hi (v_1)) ++ (lo (v_1)))))], [(b2, 24, #[Value.int .i64 (v_0), U (hi (v_1)), U (lo (v_1))])], Sl1_]) tt ll ∧ nn = n8 + 1) (N + 1) ?_ ?_
  · exact ⟨N, [], 0, hM, Value.slice none 0 0, [], Sl.nil, is_mk rfl rfl, rfl⟩
  · clear hM; rintro t l _ ⟨n8, l1_, i2_, hM, vl1_, Sl1_, hl1_, ⟨⟨T, rfl⟩, rfl⟩, rfl⟩
    rcases n8 with _ | n8
    · exact absurd hM (by simp [shunterref02_Bits_l3])
    rw [shunterref02_Bits_l3] at hM
    refine A_cut (fun tt ll => (shunterref02_Bits_k4 v_1 l1_ i2_ (shunterref02_Bits_l3 v_0 v_1 n8)  = some r) ∧ Is [(1, Value.pointer (some ⟨b2, 0, none⟩)), (3, Value.pointer (some ⟨b4, 0, none⟩)), (4, vl1_), (5, Value.int .i64 (i2_))] (List.flatten [[(b4, 61, rowF (BitVec.getLsbD ((hi (v_1)) ++ (lo (v_1)))))], [(b2, 24, #[Value.int .i64 (v_0), U (hi (v_1)), U (lo (v_1))])], Sl1_]) tt ll) ?_ ?_
    · refine A_seq fun K20 hK20 => ?_
      refine A_reg ?_
      refine r_v (Value.int .i64 (i2_)) rfl rfl rfl rfl ?_
      refine r_v (Value.pointer (some ⟨b2, 0, none⟩)) rfl rfl rfl rfl ?_
      refine r_l (Value.int .i64 (v_0)) 1 _ _ _ _ rfl rfl rfl rfl rfl ?_
      refine r_v (Value.bool (decide ((i2_ : Int) < v_0))) rfl rfl rfl rfl ?_
      refine r_v (Value.bool (decide ((i2_ : Int) < v_0))) rfl rfl rfl rfl ?_
      rcases hg21 : (decide ((i2_ : Int) < v_0)) with _ | _
      · replace hM := ifn (of_decide_eq_false hg21) hM
        refine r_n false rfl (by decide) rfl ?_
        refine r_n false rfl (by decide) rfl ?_
        refine r_v (Value.bool (false)) rfl rfl rfl rfl ?_
        refine lx_nil ?_
        refine hK20 _ _ ?_; try clear hK20 K20
        refine A_cond false rfl (fun h_ => nomatch h_) (fun _ => ?_)
        refine A_exit ?_
        refine hK6 _ _ ?_; try clear hK6 K6
        refine A_seq fun K22 hK22 => ?_
        refine A_reg ?_
        refine r_v (vl1_) rfl rfl rfl rfl ?_
        refine r_v (vl1_) rfl rfl rfl rfl ?_
        refine lx_nil ?_
        refine hK22 _ _ ?_; try clear hK22 K22
        obtain rfl := Option.some.inj hM
        refine A_ret (fun hn => ends1 (v0 := vl1_) hl1_ (sub_one (Sub.pick [[(b4, 61, rowF (BitVec.getLsbD ((hi (v_1)) ++ (lo (v_1)))))], [(b2, 24, #[Value.int .i64 (v_0), U (hi (v_1)), U (lo (v_1))])], Sl1_] [2] rfl)) rfl (res1 rfl))
      · replace hM := ifp (of_decide_eq_true hg21) hM
        refine r_y rfl ?_
        refine r_v (Value.int .i64 (i2_)) rfl rfl rfl rfl ?_
        refine r_y rfl ?_
        refine r_v (Value.bool (decide ((i2_ : Int) < 128))) rfl rfl rfl rfl ?_
        refine r_v (Value.bool (decide ((i2_ : Int) < 128))) rfl rfl rfl rfl ?_
        refine lx_nil ?_
        refine hK20 _ _ ?_; try clear hK20 K20
        refine A_cond (decide ((i2_ : Int) < 128)) rfl (fun hc23 => ?_) (fun hc23 => ?_)
        · replace hM := ifp (of_decide_eq_true hc23) hM
          refine A_skip ?_
          refine fg _ (Sub.pick [[(b4, 61, rowF (BitVec.getLsbD ((hi (v_1)) ++ (lo (v_1)))))], [(b2, 24, #[Value.int .i64 (v_0), U (hi (v_1)), U (lo (v_1))])], Sl1_] [0, 1, 2] rfl) ?_
          exact ⟨hM, is_mk rfl rfl⟩
        · replace hM := ifn (of_decide_eq_false hc23) hM
          refine A_exit ?_
          refine hK6 _ _ ?_; try clear hK6 K6
          refine A_seq fun K24 hK24 => ?_
          refine A_reg ?_
          refine r_v (vl1_) rfl rfl rfl rfl ?_
          refine r_v (vl1_) rfl rfl rfl rfl ?_
          refine lx_nil ?_
          refine hK24 _ _ ?_; try clear hK24 K24
          obtain rfl := Option.some.inj hM
          refine A_ret (fun hn => ends1 (v0 := vl1_) hl1_ (sub_one (Sub.pick [[(b4, 61, rowF (BitVec.getLsbD ((hi (v_1)) ++ (lo (v_1)))))], [(b2, 24, #[Value.int .i64 (v_0), U (hi (v_1)), U (lo (v_1))])], Sl1_] [2] rfl)) rfl (res1 rfl))
    · clear hM; rintro t l ⟨hM, ⟨T, rfl⟩, rfl⟩
      unfold shunterref02_Bits_k4 at hM
      refine A_seq fun K9 hK9 => ?_
      refine A_block ?_
      refine A_regC [(some 25, false), (some 26, true)] (conG Tryd.prog []) ?_
      refine r_v (vl1_) rfl rfl rfl rfl ?_
      refine r_v (Value.int .i64 (i2_)) rfl rfl rfl rfl ?_
      replace hM := ck_some hM; obtain ⟨ck10, hM⟩ := hM
      have hx11 := fun c => ev_v (ev_idxI (P := Tryd.prog) (c := c) (t := 61) (b := b4) (off := 0) (k := .i64) rfl rfl rfl ck10)
      simp only [Nat.zero_add] at hx11
      have ck10n : (i2_).toNat < 128 := by omega
      refine r_v (Value.pointer (some ⟨b4, (i2_).toNat, none⟩)) rfl rfl rfl (hx11 _) ?_
      refine r_l (Value.bool (((hi (v_1)) ++ (lo (v_1))).getLsbD ((i2_).toNat))) 0 _ _ _ _ rfl rfl rfl rfl (ld_row1 rfl _ ck10n) ?_
      refine r_bs (cs0 := []) (Ls := [[(b4, 61, rowF (BitVec.getLsbD ((hi (v_1)) ++ (lo (v_1)))))], [(b2, 24, #[Value.int .i64 (v_0), U (hi (v_1)), U (lo (v_1))])], Sl1_]) 4 encB [((hi (v_1)) ++ (lo (v_1))).getLsbD ((i2_).toNat)] [Value.bool (((hi (v_1)) ++ (lo (v_1))).getLsbD ((i2_).toNat))] [Value.bool (false)] rfl rfl rfl rfl rfl rfl rfl rfl (by kernel_rfl) (by kernel_rfl) rfl rfl rfl (fun s12 S13 H14 => ?_)
      replace hM := ck_some hM; obtain ⟨ck15, hM⟩ := hM
      refine r_app (cs0 := []) (Ls := [[(b4, 61, rowF (BitVec.getLsbD ((hi (v_1)) ++ (lo (v_1)))))], [(b2, 24, #[Value.int .i64 (v_0), U (hi (v_1)), U (lo (v_1))])], Sl1_, S13]) 2 (En := encB) rfl rfl rfl rfl rfl hl1_ rfl (rd_own H14 (mem_chunk (Ls := [[(b4, 61, rowF (BitVec.getLsbD ((hi (v_1)) ++ (lo (v_1)))))], [(b2, 24, #[Value.int .i64 (v_0), U (hi (v_1)), U (lo (v_1))])], Sl1_, S13]) (k := 3) rfl rfl)) rfl rfl rfl rfl rfl (app_b ck15 rfl) (app_m ck15 rfl) rfl (fun s16 S17 H18 => ?_)
      refine r_v (s16) rfl rfl rfl rfl ?_
      refine lx_nil ?_
      refine hK9 _ _ ?_; try clear hK9 K9
      refine A_reg ?_
      refine r_v (Value.int .i64 (i2_)) rfl rfl rfl rfl ?_
      replace hM := ck_some hM; obtain ⟨ck19, hM⟩ := hM
      refine r_v (Value.int .i64 ((i2_ + 1))) rfl rfl (wi64 rfl ck19.1 ck19.2) rfl ?_
      refine r_v (Value.int .i64 ((i2_ + 1))) rfl rfl rfl rfl ?_
      refine lx_nil ?_
      refine fg _ (Sub.pick [[(b4, 61, rowF (BitVec.getLsbD ((hi (v_1)) ++ (lo (v_1)))))], [(b2, 24, #[Value.int .i64 (v_0), U (hi (v_1)), U (lo (v_1))])], S17, S13] [0, 1, 2] rfl) ?_
      exact ⟨n8 + 1, by omega, n8, (l1_ ++ ([((hi (v_1)) ++ (lo (v_1))).getLsbD ((i2_).toNat)])), (i2_ + 1), hM, s16, S17, H18, is_mk rfl rfl, rfl⟩
def shunterref01_Halves_k6 (r' : BitVec 128) (lo2_ : BitVec 64) (i3_ : Int) (rec_shunterref01_Halves_l4 : BitVec 64 → BitVec 64 → Int → Option ((BitVec 64) × (BitVec 64))) (hi5_ : BitVec 64) : Option ((BitVec 64) × (BitVec 64)) := ck (0 ≤ i3_ ∧ i3_ < 128) (if ((r').getLsbD ((i3_).toNat)) = true then ck ((-9223372036854775808 ≤ (i3_ - 1) ∧ (i3_ - 1) ≤ 9223372036854775807)) (rec_shunterref01_Halves_l4 (hi5_) (((2#64 * lo2_) + 1#64)) ((i3_ - 1))) else ck ((-9223372036854775808 ≤ (i3_ - 1) ∧ (i3_ - 1) ≤ 9223372036854775807)) (rec_shunterref01_Halves_l4 (hi5_) ((2#64 * lo2_)) ((i3_ - 1))))
def shunterref01_Halves_l4 (r' : BitVec 128) : Nat → BitVec 64 → BitVec 64 → Int → Option ((BitVec 64) × (BitVec 64))
  | 0, _, _, _ => none
  | n6 + 1, hi1_, lo2_, i3_ => if (i3_ : Int) ≥ 0 then ck ((-9223372036854775808 ≤ (i3_ + 64) ∧ (i3_ + 64) ≤ 9223372036854775807)) (ck (0 ≤ (i3_ + 64) ∧ (i3_ + 64) < 128) (if ((r').getLsbD (((i3_ + 64)).toNat)) = true then shunterref01_Halves_k6 r' lo2_ i3_ (shunterref01_Halves_l4 r' n6) (((2#64 * hi1_) + 1#64)) else shunterref01_Halves_k6 r' lo2_ i3_ (shunterref01_Halves_l4 r' n6) ((2#64 * hi1_)))) else some (hi1_, lo2_)
def shunterref01_Halves_m (N : Nat) (r' : BitVec 128) : Option ((BitVec 64) × (BitVec 64)) := shunterref01_Halves_l4 r' N (0#64) (0#64) (63)
set_option maxRecDepth 100000 in
set_option maxHeartbeats 400000 in
theorem shunterref01_Halves_g (N : Nat) (r' : BitVec 128) (r : (BitVec 64) × (BitVec 64)) (hM : shunterref01_Halves_m N r' = some r) : Gives Tryd.prog 54 #[Value.agg (rowF (BitVec.getLsbD (r')))] (Value.tuple #[U (r.1), U (r.2)]) := by
  unfold shunterref01_Halves_m at hM
  refine gives_of_A follows Tryd.func54 rfl 28 rfl (upd (fun _ => undef) 0 (Value.agg (rowF (BitVec.getLsbD (r'))))) (by funext k; match k with | 0 => rfl | k + 1 => rfl) (fun base0_ => ?_)
  refine A_seq fun K1 hK1 => ?_
  refine A_reg ?_
  refine r_a (61, rowF (BitVec.getLsbD (r'))) rfl rfl rfl (fun b2 => ?_) (.inr rfl)
  refine r_v (U (0#64)) rfl rfl rfl rfl ?_
  refine r_v (U (0#64)) rfl rfl rfl rfl ?_
  refine lx_nil ?_
  refine hK1 _ _ ?_; try clear hK1 K1
  refine A_seq fun K3 hK3 => ?_
  refine A_reg ?_
  refine r_v (U (0#64)) rfl rfl rfl rfl ?_
  refine r_v (U (0#64)) rfl rfl rfl rfl ?_
  refine lx_nil ?_
  refine hK3 _ _ ?_; try clear hK3 K3
  refine A_seq fun K4 hK4 => ?_
  refine A_seq fun K5 hK5 => ?_
  refine A_reg ?_
  refine r_v (Value.int .i64 (63)) rfl rfl rfl rfl ?_
  refine lx_nil ?_
  refine hK5 _ _ ?_; try clear hK5 K5
  refine A_block ?_
  refine A_loop (fun tt ll nn => ∃ (n6 : Nat) (hi1_ : BitVec 64) (lo2_ : BitVec 64) (i3_ : Int), (shunterref01_Halves_l4 r' n6 hi1_ lo2_ i3_ = some r) ∧ Is [(1, Value.pointer (some ⟨b2, 0, none⟩)), (4, U (hi1_)), (5, U (lo2_)), (6, Value.int .i64 (i3_))] [(b2, 61, rowF (BitVec.getLsbD (r')))] tt ll ∧ nn = n6 + 1) (N + 1) ?_ ?_
  · exact ⟨N, 0#64, 0#64, 63, hM, is_mk rfl rfl, rfl⟩
  · clear hM; rintro t l _ ⟨n6, hi1_, lo2_, i3_, hM, ⟨⟨T, rfl⟩, rfl⟩, rfl⟩
    rcases n6 with _ | n6
    · exact absurd hM (by simp [shunterref01_Halves_l4])
    rw [shunterref01_Halves_l4] at hM
    refine A_seq fun K7 hK7 => ?_
    refine A_seq fun K8 hK8 => ?_
    refine A_reg ?_
    refine r_v (Value.int .i64 (i3_)) rfl rfl rfl rfl ?_
    refine r_v (Value.bool (decide ((i3_ : Int) ≥ 0))) rfl rfl rfl rfl ?_
    refine lx_nil ?_
    refine hK8 _ _ ?_; try clear hK8 K8
    refine A_cond (decide ((i3_ : Int) ≥ 0)) rfl (fun hc9 => ?_) (fun hc9 => ?_)
    · replace hM := ifp (of_decide_eq_true hc9) hM
      refine A_skip ?_
      refine hK7 _ _ ?_; try clear hK7 K7
      refine A_seq fun K10 hK10 => ?_
      refine A_block ?_
      refine A_seq fun K11 hK11 => ?_
      refine A_reg ?_
      refine r_v (U (hi1_)) rfl rfl rfl rfl ?_
      refine r_v (U ((2#64 * hi1_))) rfl rfl (U_mul (2#64) (hi1_)) rfl ?_
      refine r_v (U ((2#64 * hi1_))) rfl rfl rfl rfl ?_
      refine lx_nil ?_
      refine hK11 _ _ ?_; try clear hK11 K11
      refine A_seq fun K12 hK12 => ?_
      refine A_reg ?_
      refine r_v (U (lo2_)) rfl rfl rfl rfl ?_
      refine r_v (U ((2#64 * lo2_))) rfl rfl (U_mul (2#64) (lo2_)) rfl ?_
      refine r_v (U ((2#64 * lo2_))) rfl rfl rfl rfl ?_
      refine lx_nil ?_
      refine hK12 _ _ ?_; try clear hK12 K12
      refine A_cut (fun tt ll => ∃ (hi5_ : BitVec 64), (shunterref01_Halves_k6 r' lo2_ i3_ (shunterref01_Halves_l4 r' n6) hi5_ = some r) ∧ Is [(1, Value.pointer (some ⟨b2, 0, none⟩)), (4, U (hi5_)), (5, U ((2#64 * lo2_))), (6, Value.int .i64 (i3_))] [(b2, 61, rowF (BitVec.getLsbD (r')))] tt ll) ?_ ?_
      · refine A_seq fun K19 hK19 => ?_
        refine A_reg ?_
        refine r_v (Value.int .i64 (i3_)) rfl rfl rfl rfl ?_
        replace hM := ck_some hM; obtain ⟨ck20, hM⟩ := hM
        refine r_v (Value.int .i64 ((i3_ + 64))) rfl rfl (wi64 rfl ck20.1 ck20.2) rfl ?_
        replace hM := ck_some hM; obtain ⟨ck21, hM⟩ := hM
        have hx22 := fun c => ev_v (ev_idxI (P := Tryd.prog) (c := c) (t := 61) (b := b2) (off := 0) (k := .i64) rfl rfl rfl ck21)
        simp only [Nat.zero_add] at hx22
        have ck21n : ((i3_ + 64)).toNat < 128 := by omega
        refine r_v (Value.pointer (some ⟨b2, ((i3_ + 64)).toNat, none⟩)) rfl rfl rfl (hx22 _) ?_
        refine r_l (Value.bool ((r').getLsbD (((i3_ + 64)).toNat))) 0 _ _ _ _ rfl rfl rfl rfl (ld_row1 rfl _ ck21n) ?_
        refine lx_nil ?_
        refine hK19 _ _ ?_; try clear hK19 K19
        refine A_cond ((r').getLsbD (((i3_ + 64)).toNat)) rfl (fun hc23 => ?_) (fun hc23 => ?_)
        · replace hM := ifp hc23 hM
          refine A_reg ?_
          refine r_v (U ((2#64 * hi1_))) rfl rfl rfl rfl ?_
          refine r_v (U (((2#64 * hi1_) + 1#64))) rfl rfl (U_add ((2#64 * hi1_)) (1#64)) rfl ?_
          refine r_v (U (((2#64 * hi1_) + 1#64))) rfl rfl rfl rfl ?_
          refine lx_nil ?_
          refine fg _ (Sub.of (List.Sublist.cons_cons _ (List.Sublist.slnil))) ?_
          exact ⟨((2#64 * hi1_) + 1#64), hM, is_mk rfl rfl⟩
        · replace hM := ifn (Bool.eq_false_iff.1 hc23) hM
          refine A_skip ?_
          refine fg _ (Sub.of (List.Sublist.cons_cons _ (List.Sublist.slnil))) ?_
          exact ⟨(2#64 * hi1_), hM, is_mk rfl rfl⟩
      · clear hM; rintro t l ⟨hi5_, hM, ⟨T, rfl⟩, rfl⟩
        unfold shunterref01_Halves_k6 at hM
        refine A_seq fun K13 hK13 => ?_
        refine A_reg ?_
        refine r_v (Value.int .i64 (i3_)) rfl rfl rfl rfl ?_
        replace hM := ck_some hM; obtain ⟨ck14, hM⟩ := hM
        have hx15 := fun c => ev_v (ev_idxI (P := Tryd.prog) (c := c) (t := 61) (b := b2) (off := 0) (k := .i64) rfl rfl rfl ck14)
        simp only [Nat.zero_add] at hx15
        have ck14n : (i3_).toNat < 128 := by omega
        refine r_v (Value.pointer (some ⟨b2, (i3_).toNat, none⟩)) rfl rfl rfl (hx15 _) ?_
        refine r_l (Value.bool ((r').getLsbD ((i3_).toNat))) 0 _ _ _ _ rfl rfl rfl rfl (ld_row1 rfl _ ck14n) ?_
        refine lx_nil ?_
        refine hK13 _ _ ?_; try clear hK13 K13
        refine A_cond ((r').getLsbD ((i3_).toNat)) rfl (fun hc16 => ?_) (fun hc16 => ?_)
        · replace hM := ifp hc16 hM
          refine A_reg ?_
          refine r_v (U ((2#64 * lo2_))) rfl rfl rfl rfl ?_
          refine r_v (U (((2#64 * lo2_) + 1#64))) rfl rfl (U_add ((2#64 * lo2_)) (1#64)) rfl ?_
          refine r_v (U (((2#64 * lo2_) + 1#64))) rfl rfl rfl rfl ?_
          refine lx_nil ?_
          refine hK10 _ _ ?_; try clear hK10 K10
          refine A_reg ?_
          refine r_v (Value.int .i64 (i3_)) rfl rfl rfl rfl ?_
          replace hM := ck_some hM; obtain ⟨ck17, hM⟩ := hM
          refine r_v (Value.int .i64 ((i3_ - 1))) rfl rfl (wi64 rfl ck17.1 ck17.2) rfl ?_
          refine r_v (Value.int .i64 ((i3_ - 1))) rfl rfl rfl rfl ?_
          refine lx_nil ?_
          refine fg _ (Sub.of (List.Sublist.cons_cons _ (List.Sublist.slnil))) ?_
          exact ⟨n6 + 1, by omega, n6, hi5_, ((2#64 * lo2_) + 1#64), (i3_ - 1), hM, is_mk rfl rfl, rfl⟩
        · replace hM := ifn (Bool.eq_false_iff.1 hc16) hM
          refine A_skip ?_
          refine hK10 _ _ ?_; try clear hK10 K10
          refine A_reg ?_
          refine r_v (Value.int .i64 (i3_)) rfl rfl rfl rfl ?_
          replace hM := ck_some hM; obtain ⟨ck18, hM⟩ := hM
          refine r_v (Value.int .i64 ((i3_ - 1))) rfl rfl (wi64 rfl ck18.1 ck18.2) rfl ?_
          refine r_v (Value.int .i64 ((i3_ - 1))) rfl rfl rfl rfl ?_
          refine lx_nil ?_
          refine fg _ (Sub.of (List.Sublist.cons_cons _ (List.Sublist.slnil))) ?_
          exact ⟨n6 + 1, by omega, n6, hi5_, (2#64 * lo2_), (i3_ - 1), hM, is_mk rfl rfl, rfl⟩
    · replace hM := ifn (of_decide_eq_false hc9) hM
      refine A_exit ?_
      refine hK4 _ _ ?_; try clear hK4 K4
      refine A_seq fun K24 hK24 => ?_
      refine A_reg ?_
      refine r_v (U (hi1_)) rfl rfl rfl rfl ?_
      refine r_v (U (lo2_)) rfl rfl rfl rfl ?_
      refine r_v (U (hi1_)) rfl rfl rfl rfl ?_
      refine r_v (U (lo2_)) rfl rfl rfl rfl ?_
      refine lx_nil ?_
      refine hK24 _ _ ?_; try clear hK24 K24
      obtain rfl := Option.some.inj hM
      refine A_ret (fun hn => ends_eq (v0 := Value.tuple #[U (hi1_), U (lo2_)]) rfl (res2 rfl rfl))
def shunterref02_Of_k2 (N : Nat) (l' : List Bool) (m1_ : BitVec 128) : Option (Int × (BitVec 128)) := (shunterref01_Halves_m N (m1_)).bind fun r6 => some (((l').length : Int), (r6.1) ++ (r6.2))
def shunterref02_Of_k6 (l' : List Bool) (i3_ : Int) (m4_ : BitVec 128) (rec_shunterref02_Of_l5 : Int → BitVec 128 → Option (Int × (BitVec 128))) : Option (Int × (BitVec 128)) := ck (0 ≤ i3_ ∧ i3_ < ((l').length : Int)) (ck (0 ≤ i3_ ∧ i3_ < 128) (ck ((-9223372036854775808 ≤ (i3_ + 1) ∧ (i3_ + 1) ≤ 9223372036854775807)) (rec_shunterref02_Of_l5 ((i3_ + 1)) (setb (m4_) ((i3_).toNat) ((l')[(i3_).toNat]!)))))
def shunterref02_Of_l5 (N : Nat) (l' : List Bool) : Nat → Int → BitVec 128 → Option (Int × (BitVec 128))
  | 0, _, _ => none
  | n10 + 1, i3_, m4_ => if (i3_ : Int) < ((l').length : Int) then if (i3_ : Int) < 128 then shunterref02_Of_k6 l' i3_ m4_ (shunterref02_Of_l5 N l' n10)  else shunterref02_Of_k2 N l' (m4_) else shunterref02_Of_k2 N l' (m4_)
def shunterref02_Of_m (N : Nat) (l' : List Bool) : Option (Int × (BitVec 128)) := shunterref02_Of_l5 N l' N (0) (0#128)
set_option maxRecDepth 100000 in
set_option maxHeartbeats 400000 in
theorem shunterref02_Of_g (N : Nat) (l' : List Bool) (r : Int × (BitVec 128)) (hM : shunterref02_Of_m N l' = some r) (ro : Addr → Option Value) (l'v : Value) (hl' : Rd encB ro l'v l') : Does Tryd.prog 18 #[l'v] ro [] (pV (Value.agg #[Value.int .i64 (r.1), U (hi (r.2)), U (lo (r.2))])) := by
  unfold shunterref02_Of_m at hM
  refine does_of_A follows Tryd.func18 rfl 33 rfl (upd (fun _ => undef) 0 (l'v)) (by funext k; match k with | 0 => rfl | k + 1 => rfl) (fun base0_ => ?_)
  refine A_seq fun K1 hK1 => ?_
  refine A_reg ?_
  refine r_a (24, #[Value.int .i64 (0), U (0#64), U (0#64)]) rfl rfl rfl (fun b2 => ?_) (.inr rfl)
  refine lx_nil ?_
  refine hK1 _ _ ?_; try clear hK1 K1
  refine A_seq fun K3 hK3 => ?_
  refine A_reg ?_
  refine r_a (61, rowF (BitVec.getLsbD (0#128))) rfl rfl ((zrow z_61).trans (congrArg (fun x => some (61, x)) row_zero)) (fun b4 => ?_) (.inr rfl)
  refine lx_nil ?_
  refine hK3 _ _ ?_; try clear hK3 K3
  refine A_cut (fun tt ll => ∃ (m1_ : BitVec 128), (shunterref02_Of_k2 N l' m1_ = some r) ∧ Is [(0, l'v), (2, Value.pointer (some ⟨b2, 0, none⟩)), (3, Value.pointer (some ⟨b4, 0, none⟩))] [(b4, 61, rowF (BitVec.getLsbD (m1_))), (b2, 24, #[Value.int .i64 (0), U (0#64), U (0#64)])] tt ll) ?_ ?_
  · refine A_seq fun K9 hK9 => ?_
    refine A_reg ?_
    refine r_v (Value.int .i64 (0)) rfl rfl rfl rfl ?_
    refine lx_nil ?_
    refine hK9 _ _ ?_; try clear hK9 K9
    refine A_block ?_
    refine A_loop (fun tt ll nn => ∃ (n10 : Nat) (i3_ : Int) (m4_ : BitVec 128), (shunterref02_Of_l5 N l' n10 i3_ m4_ = some r) ∧ Is [(0, l'v), (2, Value.pointer (some ⟨b2, 0, none⟩)), (3, Value.pointer (some ⟨b4, 0, none⟩)), (4, Value.int .i64 (i3_))] [(b4, 61, rowF (BitVec.getLsbD (m4_))), (b2, 24, #[Value.int .i64 (0), U (0#64), U (0#64)])] tt ll ∧ nn = n10 + 1) (N + 1) ?_ ?_
    · exact ⟨N, 0, 0#128, hM, is_mk rfl (by first | rfl | simp only [app_hl]), rfl⟩
    · clear hM; rintro t l _ ⟨n10, i3_, m4_, hM, ⟨⟨T, rfl⟩, rfl⟩, rfl⟩
      rcases n10 with _ | n10
      · exact absurd hM (by simp [shunterref02_Of_l5])
      rw [shunterref02_Of_l5] at hM
      refine A_cut (fun tt ll => (shunterref02_Of_k6 l' i3_ m4_ (shunterref02_Of_l5 N l' n10)  = some r) ∧ Is [(0, l'v), (2, Value.pointer (some ⟨b2, 0, none⟩)), (3, Value.pointer (some ⟨b4, 0, none⟩)), (4, Value.int .i64 (i3_))] [(b4, 61, rowF (BitVec.getLsbD (m4_))), (b2, 24, #[Value.int .i64 (0), U (0#64), U (0#64)])] tt ll) ?_ ?_
      · refine A_seq fun K16 hK16 => ?_
        refine A_reg ?_
        refine r_v (Value.int .i64 (i3_)) rfl rfl rfl rfl ?_
        refine r_v (l'v) rfl rfl rfl rfl ?_
        refine r_v (Value.int .i64 (((l').length : Int))) rfl rfl rfl (ev_lenSl rfl rfl rfl (Rd.shp hl')) ?_
        refine r_v (Value.bool (decide ((i3_ : Int) < ((l').length : Int)))) rfl rfl rfl rfl ?_
        refine r_v (Value.bool (decide ((i3_ : Int) < ((l').length : Int)))) rfl rfl rfl rfl ?_
        rcases hg17 : (decide ((i3_ : Int) < ((l').length : Int))) with _ | _
        · replace hM := ifn (of_decide_eq_false hg17) hM
          refine r_n false rfl (by decide) rfl ?_
          refine r_n false rfl (by decide) rfl ?_
          refine r_v (Value.bool (false)) rfl rfl rfl rfl ?_
          refine lx_nil ?_
          refine hK16 _ _ ?_; try clear hK16 K16
          refine A_cond false rfl (fun h_ => nomatch h_) (fun _ => ?_)
          refine A_exit ?_
          refine fg _ (Sub.of (List.Sublist.cons_cons _ (List.Sublist.cons_cons _ (List.Sublist.slnil)))) ?_
          exact ⟨m4_, hM, is_mk rfl (by first | rfl | simp only [app_hl])⟩
        · replace hM := ifp (of_decide_eq_true hg17) hM
          refine r_y rfl ?_
          refine r_v (Value.int .i64 (i3_)) rfl rfl rfl rfl ?_
          refine r_y rfl ?_
          refine r_v (Value.bool (decide ((i3_ : Int) < 128))) rfl rfl rfl rfl ?_
          refine r_v (Value.bool (decide ((i3_ : Int) < 128))) rfl rfl rfl rfl ?_
          refine lx_nil ?_
          refine hK16 _ _ ?_; try clear hK16 K16
          refine A_cond (decide ((i3_ : Int) < 128)) rfl (fun hc18 => ?_) (fun hc18 => ?_)
          · replace hM := ifp (of_decide_eq_true hc18) hM
            refine A_skip ?_
            refine fg _ (Sub.of (List.Sublist.cons_cons _ (List.Sublist.cons_cons _ (List.Sublist.slnil)))) ?_
            exact ⟨hM, is_mk rfl (by first | rfl | simp only [app_hl])⟩
          · replace hM := ifn (of_decide_eq_false hc18) hM
            refine A_exit ?_
            refine fg _ (Sub.of (List.Sublist.cons_cons _ (List.Sublist.cons_cons _ (List.Sublist.slnil)))) ?_
            exact ⟨m4_, hM, is_mk rfl (by first | rfl | simp only [app_hl])⟩
      · clear hM; rintro t l ⟨hM, ⟨T, rfl⟩, rfl⟩
        unfold shunterref02_Of_k6 at hM
        refine A_seq fun K11 hK11 => ?_
        refine A_block ?_
        refine A_reg ?_
        refine r_v (Value.int .i64 (i3_)) rfl rfl rfl rfl ?_
        refine r_v (l'v) rfl rfl rfl rfl ?_
        refine r_v (Value.int .i64 (i3_)) rfl rfl rfl rfl ?_
        replace hM := ck_some hM; obtain ⟨ck12, hM⟩ := hM
        refine r_v (elA l'v ((i3_).toNat * 1)) rfl rfl rfl (ev_v (ev_idxSl rfl rfl rfl (Rd.shp hl') ck12)) ?_
        refine r_le (Value.bool ((l')[(i3_).toNat]!)) (En := encB) ((l')[(i3_).toNat]!) ((i3_).toNat) 0 rfl rfl (rd_ro hl') (get_of ck12) rfl ?_
        replace hM := ck_some hM; obtain ⟨ck13, hM⟩ := hM
        have hx14 := fun c => ev_v (ev_idxI (P := Tryd.prog) (c := c) (t := 61) (b := b4) (off := 0) (k := .i64) rfl rfl rfl ck13)
        simp only [Nat.zero_add] at hx14
        have ck13n : (i3_).toNat < 128 := by omega
        refine r_v (Value.pointer (some ⟨b4, (i3_).toNat, none⟩)) rfl rfl rfl (hx14 _) ?_
        refine r_s [(b4, 61, rowF (BitVec.getLsbD (setb (m4_) ((i3_).toNat) ((l')[(i3_).toNat]!)))), (b2, 24, #[Value.int .i64 (0), U (0#64), U (0#64)])] 0 _ _ _ (rowF (BitVec.getLsbD (m4_))) (#[Value.bool ((l')[(i3_).toNat]!)]) (rowF (BitVec.getLsbD (setb (m4_) ((i3_).toNat) ((l')[(i3_).toNat]!)))) rfl rfl rfl rfl (stok_row1 rfl rfl _ _ ck13n) ((splice_row1 _ _ _).trans (rowF_setb _ _ _ ck13n)) rfl ?_
        refine lx_nil ?_
        refine hK11 _ _ ?_; try clear hK11 K11
        refine A_reg ?_
        refine r_v (Value.int .i64 (i3_)) rfl rfl rfl rfl ?_
        replace hM := ck_some hM; obtain ⟨ck15, hM⟩ := hM
        refine r_v (Value.int .i64 ((i3_ + 1))) rfl rfl (wi64 rfl ck15.1 ck15.2) rfl ?_
        refine r_v (Value.int .i64 ((i3_ + 1))) rfl rfl rfl rfl ?_
        refine lx_nil ?_
        refine fg _ (Sub.of (List.Sublist.cons_cons _ (List.Sublist.cons_cons _ (List.Sublist.slnil)))) ?_
        exact ⟨n10 + 1, by omega, n10, (i3_ + 1), setb (m4_) ((i3_).toNat) ((l')[(i3_).toNat]!), hM, is_mk rfl (by first | rfl | simp only [app_hl]), rfl⟩
  · clear hM; rintro t l ⟨m1_, hM, ⟨T, rfl⟩, rfl⟩
    unfold shunterref02_Of_k2 at hM
    refine A_seq fun K5 hK5 => ?_
    refine A_reg ?_
    refine r_l (Value.agg (rowF (BitVec.getLsbD (m1_)))) 0 _ _ _ _ rfl rfl rfl rfl (ld_rows rfl rfl rfl _) ?_
    replace hM := bind_sm hM; obtain ⟨r6, hr7, hM⟩ := hM
    refine r_c (Value.tuple #[U (r6.1), U (r6.2)]) rfl _ _ (ev_callF rfl call_54 rfl) (shunterref01_Halves_g N (m1_) _ hr7) ?_
    refine r_v (Value.tuple #[U (r6.1), U (r6.2)]) rfl rfl rfl rfl ?_
    refine r_v (U (r6.1)) rfl rfl rfl rfl ?_
    refine r_v (U (r6.2)) rfl rfl rfl rfl ?_
    refine r_v (U (r6.1)) rfl rfl rfl rfl ?_
    refine r_v (U (r6.2)) rfl rfl rfl rfl ?_
    refine lx_nil ?_
    refine hK5 _ _ ?_; try clear hK5 K5
    refine A_seq fun K8 hK8 => ?_
    refine A_reg ?_
    refine r_v (l'v) rfl rfl rfl rfl ?_
    refine r_v (Value.int .i64 (((l').length : Int))) rfl rfl rfl (ev_lenSl rfl rfl rfl (Rd.shp hl')) ?_
    refine r_v (U (r6.1)) rfl rfl rfl rfl ?_
    refine r_v (U (r6.2)) rfl rfl rfl rfl ?_
    refine r_v (Value.agg #[Value.int .i64 (((l').length : Int)), U (r6.1), U (r6.2)]) rfl rfl rfl (ev_buildS rfl rfl rfl rfl) ?_
    refine r_s [(b4, 61, rowF (BitVec.getLsbD (m1_))), (b2, 24, #[Value.int .i64 (((l').length : Int)), U (r6.1), U (r6.2)])] 1 _ _ _ (#[Value.int .i64 (0), U (0#64), U (0#64)]) (#[Value.int .i64 (((l').length : Int)), U (r6.1), U (r6.2)]) (#[Value.int .i64 (((l').length : Int)), U (r6.1), U (r6.2)]) rfl rfl rfl rfl (.of rfl rfl) rfl rfl ?_
    refine lx_nil ?_
    refine hK8 _ _ ?_; try clear hK8 K8
    obtain rfl := Option.some.inj hM
    refine A_ret (fun hn => endsV (v0 := Value.agg #[Value.int .i64 (((l').length : Int)), U (r6.1), U (r6.2)]) (by first | rfl | simp only [app_hl]) (res1 (res_cell hn 1 rfl rfl rfl)))
def shunterref02_Slice_k2 (N : Nat) (a_0 : Int) (a_1 : BitVec 128) (hi' : Int) (lo' : Int) (_ : Int) (_ : BitVec 128) : Option (Int × (BitVec 128) × Int) := (shunterref02_Bits_m N a_0 a_1).bind fun r11 => ck ((-9223372036854775808 ≤ (hi' + 1) ∧ (hi' + 1) ≤ 9223372036854775807)) (ck (0 ≤ lo' ∧ lo' ≤ (hi' + 1) ∧ (hi' + 1) ≤ ((r11).length : Int)) ((shunterref02_Of_m N (((r11).take (((hi' + 1)).toNat)).drop ((lo').toNat))).bind fun r18 => some (r18.1, r18.2, 0)))
def shunterref02_Slice_m (N : Nat) (a_0 : Int) (a_1 : BitVec 128) (hi' : Int) (lo' : Int) : Option (Int × (BitVec 128) × Int) := (shunterref02_May_m N (a_0) (a_1)).bind fun r6 => if (r6) = true then if (lo' : Int) < 0 then some (0, (0#64) ++ (0#64), 7) else if (lo' : Int) > hi' then some (0, (0#64) ++ (0#64), 7) else if (hi' : Int) ≥ a_0 then some (0, (0#64) ++ (0#64), 7) else shunterref02_Slice_k2 N a_0 a_1 hi' lo' (0) ((0#64) ++ (0#64)) else some (0, (0#64) ++ (0#64), 1)
set_option maxRecDepth 100000 in
set_option maxHeartbeats 400000 in
theorem shunterref02_Slice_g (N : Nat) (a_0 : Int) (a_1 : BitVec 128) (hi' : Int) (lo' : Int) (r : Int × (BitVec 128) × Int) (hM : shunterref02_Slice_m N a_0 a_1 hi' lo' = some r) : Gives Tryd.prog 38 #[Value.agg #[Value.int .i64 (a_0), U (hi (a_1)), U (lo (a_1))], Value.int .i64 (hi'), Value.int .i64 (lo')] (Value.tuple #[Value.agg #[Value.int .i64 (r.1), U (hi (r.2.1)), U (lo (r.2.1))], Value.int .i64 (r.2.2)]) := by
  unfold shunterref02_Slice_m at hM
  refine gives_of_A follows Tryd.func38 rfl 33 rfl (upd (upd (upd (fun _ => undef) 2 (Value.int .i64 (lo'))) 1 (Value.int .i64 (hi'))) 0 (Value.agg #[Value.int .i64 (a_0), U (hi (a_1)), U (lo (a_1))])) (by funext k; match k with | 0 => rfl | 1 => rfl | 2 => rfl | k + 3 => rfl) (fun base0_ => ?_)
  refine A_seq fun K1 hK1 => ?_
  refine A_reg ?_
  refine r_a (24, #[Value.int .i64 (a_0), U (hi (a_1)), U (lo (a_1))]) rfl rfl rfl (fun b2 => ?_) (.inr rfl)
  refine r_a (24, #[Value.int .i64 (0), U (0#64), U (0#64)]) rfl rfl rfl (fun b3 => ?_) (.inr rfl)
  refine r_v (Value.int .i64 (0)) rfl rfl rfl rfl ?_
  refine lx_nil ?_
  refine hK1 _ _ ?_; try clear hK1 K1
  refine A_seq fun K4 hK4 => ?_
  refine A_seq fun K5 hK5 => ?_
  refine A_reg ?_
  refine r_l (Value.agg #[Value.int .i64 (a_0), U (hi (a_1)), U (lo (a_1))]) 1 _ _ _ _ rfl rfl rfl rfl rfl ?_
  replace hM := bind_sm hM; obtain ⟨r6, hr7, hM⟩ := hM
  refine r_c (Value.bool (r6)) rfl _ _ (ev_callF rfl call_10 rfl) (shunterref02_May_g N (a_0) (a_1) _ hr7) ?_
  refine r_v (Value.bool (!(r6))) rfl rfl rfl rfl ?_
  refine lx_nil ?_
  refine hK5 _ _ ?_; try clear hK5 K5
  refine A_cond (!(r6)) rfl (fun hc8 => ?_) (fun hc8 => ?_)
  · replace hM := ifn (Bool.eq_false_iff.1 (not_t hc8)) hM
    refine A_seq fun K9 hK9 => ?_
    refine A_reg ?_
    refine r_v (Value.agg #[Value.int .i64 (0), U (0#64), U (0#64)]) rfl rfl rfl (ev_buildS rfl rfl rfl rfl) ?_
    refine r_s [(b3, 24, #[Value.int .i64 (0), U (0#64), U (0#64)]), (b2, 24, #[Value.int .i64 (a_0), U (hi (a_1)), U (lo (a_1))])] 0 _ _ _ (#[Value.int .i64 (0), U (0#64), U (0#64)]) (#[Value.int .i64 (0), U (0#64), U (0#64)]) (#[Value.int .i64 (0), U (0#64), U (0#64)]) rfl rfl rfl rfl (.of rfl rfl) rfl rfl ?_
    refine r_v (Value.int .i64 (1)) rfl rfl rfl rfl ?_
    refine lx_nil ?_
    refine hK9 _ _ ?_; try clear hK9 K9
    obtain rfl := Option.some.inj hM
    refine A_ret (fun hn => ends_eq (v0 := Value.tuple #[Value.agg #[Value.int .i64 (0), U (0#64), U (0#64)], Value.int .i64 (1)]) (by first | rfl | simp only [app_hl]) (res2 (res_cell hn 0 rfl rfl rfl) rfl))
  · replace hM := ifp (not_f hc8) hM
    refine A_skip ?_
    refine hK4 _ _ ?_; try clear hK4 K4
    refine A_cut (fun tt ll => ∃ (m1__0 : Int) (m1__1 : BitVec 128), (shunterref02_Slice_k2 N a_0 a_1 hi' lo' m1__0 m1__1 = some r) ∧ Is [(1, Value.int .i64 (hi')), (2, Value.int .i64 (lo')), (3, Value.pointer (some ⟨b2, 0, none⟩)), (6, Value.pointer (some ⟨b3, 0, none⟩))] [(b3, 24, #[Value.int .i64 (m1__0), U (hi (m1__1)), U (lo (m1__1))]), (b2, 24, #[Value.int .i64 (a_0), U (hi (a_1)), U (lo (a_1))])] tt ll) ?_ ?_
    · refine A_seq fun K20 hK20 => ?_
      refine A_reg ?_
      refine r_v (Value.int .i64 (lo')) rfl rfl rfl rfl ?_
      refine r_v (Value.bool (decide ((lo' : Int) < 0))) rfl rfl rfl rfl ?_
      refine r_v (Value.bool (decide ((lo' : Int) < 0))) rfl rfl rfl rfl ?_
      rcases hg21 : (decide ((lo' : Int) < 0)) with _ | _
      · replace hM := ifn (of_decide_eq_false hg21) hM
        refine r_y rfl ?_
        refine r_v (Value.int .i64 (lo')) rfl rfl rfl rfl ?_
        refine r_y rfl ?_
        refine r_v (Value.int .i64 (hi')) rfl rfl rfl rfl ?_
        refine r_y rfl ?_
        refine r_v (Value.bool (decide ((lo' : Int) > hi'))) rfl rfl rfl rfl ?_
        refine r_v (Value.bool (decide ((lo' : Int) > hi'))) rfl rfl rfl rfl ?_
        refine r_v (Value.bool (decide ((lo' : Int) > hi'))) rfl rfl rfl rfl ?_
        rcases hg22 : (decide ((lo' : Int) > hi')) with _ | _
        · replace hM := ifn (of_decide_eq_false hg22) hM
          refine r_y rfl ?_
          refine r_v (Value.int .i64 (hi')) rfl rfl rfl rfl ?_
          refine r_y rfl ?_
          refine r_v (Value.pointer (some ⟨b2, 0, none⟩)) rfl rfl rfl rfl ?_
          refine r_y rfl ?_
          refine r_l (Value.int .i64 (a_0)) 1 _ _ _ _ rfl rfl rfl rfl rfl ?_
          refine r_y rfl ?_
          refine r_v (Value.bool (decide ((hi' : Int) ≥ a_0))) rfl rfl rfl rfl ?_
          refine r_v (Value.bool (decide ((hi' : Int) ≥ a_0))) rfl rfl rfl rfl ?_
          refine lx_nil ?_
          refine hK20 _ _ ?_; try clear hK20 K20
          refine A_cond (decide ((hi' : Int) ≥ a_0)) rfl (fun hc23 => ?_) (fun hc23 => ?_)
          · replace hM := ifp (of_decide_eq_true hc23) hM
            refine A_seq fun K24 hK24 => ?_
            refine A_reg ?_
            refine r_v (Value.agg #[Value.int .i64 (0), U (0#64), U (0#64)]) rfl rfl rfl (ev_buildS rfl rfl rfl rfl) ?_
            refine r_s [(b3, 24, #[Value.int .i64 (0), U (0#64), U (0#64)]), (b2, 24, #[Value.int .i64 (a_0), U (hi (a_1)), U (lo (a_1))])] 0 _ _ _ (#[Value.int .i64 (0), U (0#64), U (0#64)]) (#[Value.int .i64 (0), U (0#64), U (0#64)]) (#[Value.int .i64 (0), U (0#64), U (0#64)]) rfl rfl rfl rfl (.of rfl rfl) rfl rfl ?_
            refine r_v (Value.int .i64 (7)) rfl rfl rfl rfl ?_
            refine lx_nil ?_
            refine hK24 _ _ ?_; try clear hK24 K24
            obtain rfl := Option.some.inj hM
            refine A_ret (fun hn => ends_eq (v0 := Value.tuple #[Value.agg #[Value.int .i64 (0), U (0#64), U (0#64)], Value.int .i64 (7)]) (by first | rfl | simp only [app_hl]) (res2 (res_cell hn 0 rfl rfl rfl) rfl))
          · replace hM := ifn (of_decide_eq_false hc23) hM
            refine A_skip ?_
            refine fg _ (Sub.of (List.Sublist.cons_cons _ (List.Sublist.cons_cons _ (List.Sublist.slnil)))) ?_
            exact ⟨0, (0#64) ++ (0#64), hM, is_mk rfl (by first | rfl | simp only [app_hl])⟩
        · replace hM := ifp (of_decide_eq_true hg22) hM
          refine r_n true rfl (by decide) rfl ?_
          refine r_n true rfl (by decide) rfl ?_
          refine r_n true rfl (by decide) rfl ?_
          refine r_n true rfl (by decide) rfl ?_
          refine r_v (Value.bool (true)) rfl rfl rfl rfl ?_
          refine lx_nil ?_
          refine hK20 _ _ ?_; try clear hK20 K20
          refine A_cond true rfl (fun _ => ?_) (fun h_ => nomatch h_)
          refine A_seq fun K25 hK25 => ?_
          refine A_reg ?_
          refine r_v (Value.agg #[Value.int .i64 (0), U (0#64), U (0#64)]) rfl rfl rfl (ev_buildS rfl rfl rfl rfl) ?_
          refine r_s [(b3, 24, #[Value.int .i64 (0), U (0#64), U (0#64)]), (b2, 24, #[Value.int .i64 (a_0), U (hi (a_1)), U (lo (a_1))])] 0 _ _ _ (#[Value.int .i64 (0), U (0#64), U (0#64)]) (#[Value.int .i64 (0), U (0#64), U (0#64)]) (#[Value.int .i64 (0), U (0#64), U (0#64)]) rfl rfl rfl rfl (.of rfl rfl) rfl rfl ?_
          refine r_v (Value.int .i64 (7)) rfl rfl rfl rfl ?_
          refine lx_nil ?_
          refine hK25 _ _ ?_; try clear hK25 K25
          obtain rfl := Option.some.inj hM
          refine A_ret (fun hn => ends_eq (v0 := Value.tuple #[Value.agg #[Value.int .i64 (0), U (0#64), U (0#64)], Value.int .i64 (7)]) (by first | rfl | simp only [app_hl]) (res2 (res_cell hn 0 rfl rfl rfl) rfl))
      · replace hM := ifp (of_decide_eq_true hg21) hM
        refine r_n true rfl (by decide) rfl ?_
        refine r_n true rfl (by decide) rfl ?_
        refine r_n true rfl (by decide) rfl ?_
        refine r_v (Value.bool (true)) rfl rfl rfl rfl ?_
        refine r_v (Value.bool (true)) rfl rfl rfl rfl ?_
        refine r_n true rfl (by decide) rfl ?_
        refine r_n true rfl (by decide) rfl ?_
        refine r_n true rfl (by decide) rfl ?_
        refine r_n true rfl (by decide) rfl ?_
        refine r_v (Value.bool (true)) rfl rfl rfl rfl ?_
        refine lx_nil ?_
        refine hK20 _ _ ?_; try clear hK20 K20
        refine A_cond true rfl (fun _ => ?_) (fun h_ => nomatch h_)
        refine A_seq fun K26 hK26 => ?_
        refine A_reg ?_
        refine r_v (Value.agg #[Value.int .i64 (0), U (0#64), U (0#64)]) rfl rfl rfl (ev_buildS rfl rfl rfl rfl) ?_
        refine r_s [(b3, 24, #[Value.int .i64 (0), U (0#64), U (0#64)]), (b2, 24, #[Value.int .i64 (a_0), U (hi (a_1)), U (lo (a_1))])] 0 _ _ _ (#[Value.int .i64 (0), U (0#64), U (0#64)]) (#[Value.int .i64 (0), U (0#64), U (0#64)]) (#[Value.int .i64 (0), U (0#64), U (0#64)]) rfl rfl rfl rfl (.of rfl rfl) rfl rfl ?_
        refine r_v (Value.int .i64 (7)) rfl rfl rfl rfl ?_
        refine lx_nil ?_
        refine hK26 _ _ ?_; try clear hK26 K26
        obtain rfl := Option.some.inj hM
        refine A_ret (fun hn => ends_eq (v0 := Value.tuple #[Value.agg #[Value.int .i64 (0), U (0#64), U (0#64)], Value.int .i64 (7)]) (by first | rfl | simp only [app_hl]) (res2 (res_cell hn 0 rfl rfl rfl) rfl))
    · clear hM; rintro t l ⟨m1__0, m1__1, hM, ⟨T, rfl⟩, rfl⟩
      unfold shunterref02_Slice_k2 at hM
      refine A_seq fun K10 hK10 => ?_
      refine A_regC [(some 27, false), (some 32, false)] (conG Tryd.prog [(27, fun v_ L_ U_ => ∀ u0_, shunterref02_Bits_m N a_0 a_1 = some u0_ → (p1 (fun s_ => s_) 4 encB (u0_)) v_ L_ U_), (32, fun v_ L_ U_ => ∀ u0_, shunterref02_Bits_m N a_0 a_1 = some u0_ → ∀ u1_, shunterref02_Of_m N (((u0_).take (((hi' + 1)).toNat)).drop ((lo').toNat)) = some u1_ → (pV (Value.agg #[Value.int .i64 (u1_.1), U (hi (u1_.2)), U (lo (u1_.2))])) v_ L_ U_)]) ?_
      refine r_l (Value.agg #[Value.int .i64 (a_0), U (hi (a_1)), U (lo (a_1))]) 1 _ _ _ _ rfl rfl rfl rfl rfl ?_
      replace hM := bind_sm hM; obtain ⟨r11, hr12, hM⟩ := hM
      refine r_g1 (Ls := [[(b3, 24, #[Value.int .i64 (m1__0), U (hi (m1__1)), U (lo (m1__1))])], [(b2, 24, #[Value.int .i64 (a_0), U (hi (a_1)), U (lo (a_1))])]]) (fun s13 => s13) 4 encB (r11) 17 _ rfl rfl rfl (ev_callF rfl call_17 rfl) (fun own_ nw_ hs_ => shunterref02_Bits_g N a_0 a_1 _ hr12 hs_.view ) (fun _ _ v_ L_ U_ => ⟨fun h_ => h_ _ hr12, fun h_ => by intro _ e_; cases Option.some.inj (e_.symm.trans hr12); exact h_⟩) (fun s13 S14 H15 => ?_)
      refine r_v (Value.int .i64 (lo')) rfl rfl rfl rfl ?_
      refine r_v (Value.int .i64 (hi')) rfl rfl rfl rfl ?_
      replace hM := ck_some hM; obtain ⟨ck16, hM⟩ := hM
      refine r_v (Value.int .i64 ((hi' + 1))) rfl rfl (wi64 rfl ck16.1 ck16.2) rfl ?_
      replace hM := ck_some hM; obtain ⟨ck17, hM⟩ := hM
      refine r_v (subA s13 ((lo').toNat) (((hi' + 1)).toNat) 1) rfl rfl rfl (ev_v (ev_subSl rfl rfl rfl rfl rfl (Sl.shp H15) ck17)) ?_
      replace hM := bind_sm hM; obtain ⟨r18, hr19, hM⟩ := hM
      refine r_gv (Value.agg #[Value.int .i64 (r18.1), U (hi (r18.2)), U (lo (r18.2))]) 18 _ rfl rfl rfl (ev_callF rfl call_18 rfl) (fun own_ nw_ hs_ => shunterref02_Of_g N (((r11).take (((hi' + 1)).toNat)).drop ((lo').toNat)) _ hr19 hs_.view (subA s13 ((lo').toNat) (((hi' + 1)).toNat) 1) ((rd_sub (rd_own H15 (mem_chunk (Ls := [[(b3, 24, #[Value.int .i64 (m1__0), U (hi (m1__1)), U (lo (m1__1))])], [(b2, 24, #[Value.int .i64 (a_0), U (hi (a_1)), U (lo (a_1))])], S14]) (k := 2) rfl rfl)) (toNat_le ck17) (toNat_len ck17.2.2)) own_ nw_ hs_)) (fun _ _ v_ L_ U_ => ⟨fun h_ => h_ _ hr12 _ hr19, fun h_ => by intro _ e_; cases Option.some.inj (e_.symm.trans hr12); intro _ e_; cases Option.some.inj (e_.symm.trans hr19); exact h_⟩) ?_
      refine r_s (List.flatten [[(b3, 24, #[Value.int .i64 (r18.1), U (hi (r18.2)), U (lo (r18.2))])], [(b2, 24, #[Value.int .i64 (a_0), U (hi (a_1)), U (lo (a_1))])], S14]) 0 _ _ _ (#[Value.int .i64 (m1__0), U (hi (m1__1)), U (lo (m1__1))]) (#[Value.int .i64 (r18.1), U (hi (r18.2)), U (lo (r18.2))]) (#[Value.int .i64 (r18.1), U (hi (r18.2)), U (lo (r18.2))]) rfl rfl rfl rfl (.of rfl rfl) rfl rfl ?_
      refine r_v (Value.int .i64 (0)) rfl rfl rfl rfl ?_
      refine lx_nil ?_
      refine hK10 _ _ ?_; try clear hK10 K10
      obtain rfl := Option.some.inj hM
      refine A_ret (fun hn => ends_eq (v0 := Value.tuple #[Value.agg #[Value.int .i64 (r18.1), U (hi (r18.2)), U (lo (r18.2))], Value.int .i64 (0)]) rfl (res2 (res_cell hn 0 rfl rfl rfl) rfl))
def shunterref02_Cat_k2 (N : Nat) (a_0 : Int) (a_1 : BitVec 128) (b_0 : Int) (b_1 : BitVec 128) (_ : Int) (_ : BitVec 128) : Option (Int × (BitVec 128) × Int) := ck ((-9223372036854775808 ≤ (a_0 + b_0) ∧ (a_0 + b_0) ≤ 9223372036854775807)) (if ((a_0 + b_0) : Int) > 128 then some (0, (0#64) ++ (0#64), 9) else (shunterref02_Bits_m N b_0 b_1).bind fun r12 => ck ((([] : List Bool)).length + (r12).length ≤ 140737488355328) ((shunterref02_Bits_m N a_0 a_1).bind fun r22 => ck (((([] : List Bool) ++ r12)).length + (r22).length ≤ 140737488355328) ((shunterref02_Of_m N ((([] : List Bool) ++ r12) ++ r22)).bind fun r32 => some (r32.1, r32.2, 0))))
def shunterref02_Cat_m (N : Nat) (a_0 : Int) (a_1 : BitVec 128) (b_0 : Int) (b_1 : BitVec 128) : Option (Int × (BitVec 128) × Int) := (shunterref02_May_m N (a_0) (a_1)).bind fun r35 => if (r35) = true then (shunterref02_May_m N (b_0) (b_1)).bind fun r38 => if (r38) = true then shunterref02_Cat_k2 N a_0 a_1 b_0 b_1 (0) ((0#64) ++ (0#64)) else some (0, (0#64) ++ (0#64), 1) else some (0, (0#64) ++ (0#64), 1)
set_option maxRecDepth 100000 in
set_option maxHeartbeats 400000 in
theorem shunterref02_Cat_g (N : Nat) (a_0 : Int) (a_1 : BitVec 128) (b_0 : Int) (b_1 : BitVec 128) (r : Int × (BitVec 128) × Int) (hM : shunterref02_Cat_m N a_0 a_1 b_0 b_1 = some r) : Gives Tryd.prog 40 #[Value.agg #[Value.int .i64 (a_0), U (hi (a_1)), U (lo (a_1))], Value.agg #[Value.int .i64 (b_0), U (hi (b_1)), U (lo (b_1))]] (Value.tuple #[Value.agg #[Value.int .i64 (r.1), U (hi (r.2.1)), U (lo (r.2.1))], Value.int .i64 (r.2.2)]) := by
  unfold shunterref02_Cat_m at hM
  refine gives_of_A follows Tryd.func40 rfl 33 rfl (upd (upd (fun _ => undef) 1 (Value.agg #[Value.int .i64 (b_0), U (hi (b_1)), U (lo (b_1))])) 0 (Value.agg #[Value.int .i64 (a_0), U (hi (a_1)), U (lo (a_1))])) (by funext k; match k with | 0 => rfl | 1 => rfl | k + 2 => rfl) (fun base0_ => ?_)
  refine A_seq fun K1 hK1 => ?_
  refine A_reg ?_
  refine r_a (24, #[Value.int .i64 (a_0), U (hi (a_1)), U (lo (a_1))]) rfl rfl rfl (fun b2 => ?_) (.inr rfl)
  refine r_a (24, #[Value.int .i64 (b_0), U (hi (b_1)), U (lo (b_1))]) rfl rfl rfl (fun b3 => ?_) (.inr rfl)
  refine r_a (24, #[Value.int .i64 (0), U (0#64), U (0#64)]) rfl rfl rfl (fun b4 => ?_) (.inr rfl)
  refine r_v (Value.int .i64 (0)) rfl rfl rfl rfl ?_
  refine lx_nil ?_
  refine hK1 _ _ ?_; try clear hK1 K1
  refine A_cut (fun tt ll => ∃ (m1__0 : Int) (m1__1 : BitVec 128), (shunterref02_Cat_k2 N a_0 a_1 b_0 b_1 m1__0 m1__1 = some r) ∧ Is [(2, Value.pointer (some ⟨b2, 0, none⟩)), (3, Value.pointer (some ⟨b3, 0, none⟩)), (4, Value.pointer (some ⟨b4, 0, none⟩))] [(b4, 24, #[Value.int .i64 (m1__0), U (hi (m1__1)), U (lo (m1__1))]), (b3, 24, #[Value.int .i64 (b_0), U (hi (b_1)), U (lo (b_1))]), (b2, 24, #[Value.int .i64 (a_0), U (hi (a_1)), U (lo (a_1))])] tt ll) ?_ ?_
  · refine A_seq fun K34 hK34 => ?_
    refine A_reg ?_
    refine r_l (Value.agg #[Value.int .i64 (a_0), U (hi (a_1)), U (lo (a_1))]) 2 _ _ _ _ rfl rfl rfl rfl rfl ?_
    replace hM := bind_sm hM; obtain ⟨r35, hr36, hM⟩ := hM
    refine r_c (Value.bool (r35)) rfl _ _ (ev_callF rfl call_10 rfl) (shunterref02_May_g N (a_0) (a_1) _ hr36) ?_
    refine r_v (Value.bool (!(r35))) rfl rfl rfl rfl ?_
    refine r_v (Value.bool (!(r35))) rfl rfl rfl rfl ?_
    rcases hg37 : (!(r35)) with _ | _
    · replace hM := ifp (not_f hg37) hM
      refine r_y rfl ?_
      refine r_l (Value.agg #[Value.int .i64 (b_0), U (hi (b_1)), U (lo (b_1))]) 1 _ _ _ _ rfl rfl rfl rfl rfl ?_
      refine r_y rfl ?_
      replace hM := bind_sm hM; obtain ⟨r38, hr39, hM⟩ := hM
      refine r_c (Value.bool (r38)) rfl _ _ (ev_callF rfl call_10 rfl) (shunterref02_May_g N (b_0) (b_1) _ hr39) ?_
      refine r_y rfl ?_
      refine r_v (Value.bool (!(r38))) rfl rfl rfl rfl ?_
      refine r_v (Value.bool (!(r38))) rfl rfl rfl rfl ?_
      refine lx_nil ?_
      refine hK34 _ _ ?_; try clear hK34 K34
      refine A_cond (!(r38)) rfl (fun hc40 => ?_) (fun hc40 => ?_)
      · replace hM := ifn (Bool.eq_false_iff.1 (not_t hc40)) hM
        refine A_seq fun K41 hK41 => ?_
        refine A_reg ?_
        refine r_v (Value.agg #[Value.int .i64 (0), U (0#64), U (0#64)]) rfl rfl rfl (ev_buildS rfl rfl rfl rfl) ?_
        refine r_s [(b4, 24, #[Value.int .i64 (0), U (0#64), U (0#64)]), (b3, 24, #[Value.int .i64 (b_0), U (hi (b_1)), U (lo (b_1))]), (b2, 24, #[Value.int .i64 (a_0), U (hi (a_1)), U (lo (a_1))])] 0 _ _ _ (#[Value.int .i64 (0), U (0#64), U (0#64)]) (#[Value.int .i64 (0), U (0#64), U (0#64)]) (#[Value.int .i64 (0), U (0#64), U (0#64)]) rfl rfl rfl rfl (.of rfl rfl) rfl rfl ?_
        refine r_v (Value.int .i64 (1)) rfl rfl rfl rfl ?_
        refine lx_nil ?_
        refine hK41 _ _ ?_; try clear hK41 K41
        obtain rfl := Option.some.inj hM
        refine A_ret (fun hn => ends_eq (v0 := Value.tuple #[Value.agg #[Value.int .i64 (0), U (0#64), U (0#64)], Value.int .i64 (1)]) (by first | rfl | simp only [app_hl]) (res2 (res_cell hn 0 rfl rfl rfl) rfl))
      · replace hM := ifp (not_f hc40) hM
        refine A_skip ?_
        refine fg _ (Sub.of (List.Sublist.cons_cons _ (List.Sublist.cons_cons _ (List.Sublist.cons_cons _ (List.Sublist.slnil))))) ?_
        exact ⟨0, (0#64) ++ (0#64), hM, is_mk rfl (by first | rfl | simp only [app_hl])⟩
    · replace hM := ifn (Bool.eq_false_iff.1 (not_t hg37)) hM
      refine r_n true rfl (by decide) rfl ?_
      refine r_n true rfl (by decide) rfl ?_
      refine r_n true rfl (by decide) rfl ?_
      refine r_v (Value.bool (true)) rfl rfl rfl rfl ?_
      refine lx_nil ?_
      refine hK34 _ _ ?_; try clear hK34 K34
      refine A_cond true rfl (fun _ => ?_) (fun h_ => nomatch h_)
      refine A_seq fun K42 hK42 => ?_
      refine A_reg ?_
      refine r_v (Value.agg #[Value.int .i64 (0), U (0#64), U (0#64)]) rfl rfl rfl (ev_buildS rfl rfl rfl rfl) ?_
      refine r_s [(b4, 24, #[Value.int .i64 (0), U (0#64), U (0#64)]), (b3, 24, #[Value.int .i64 (b_0), U (hi (b_1)), U (lo (b_1))]), (b2, 24, #[Value.int .i64 (a_0), U (hi (a_1)), U (lo (a_1))])] 0 _ _ _ (#[Value.int .i64 (0), U (0#64), U (0#64)]) (#[Value.int .i64 (0), U (0#64), U (0#64)]) (#[Value.int .i64 (0), U (0#64), U (0#64)]) rfl rfl rfl rfl (.of rfl rfl) rfl rfl ?_
      refine r_v (Value.int .i64 (1)) rfl rfl rfl rfl ?_
      refine lx_nil ?_
      refine hK42 _ _ ?_; try clear hK42 K42
      obtain rfl := Option.some.inj hM
      refine A_ret (fun hn => ends_eq (v0 := Value.tuple #[Value.agg #[Value.int .i64 (0), U (0#64), U (0#64)], Value.int .i64 (1)]) (by first | rfl | simp only [app_hl]) (res2 (res_cell hn 0 rfl rfl rfl) rfl))
  · clear hM; rintro t l ⟨m1__0, m1__1, hM, ⟨T, rfl⟩, rfl⟩
    unfold shunterref02_Cat_k2 at hM
    refine A_seq fun K5 hK5 => ?_
    refine A_seq fun K6 hK6 => ?_
    refine A_reg ?_
    refine r_v (Value.pointer (some ⟨b2, 0, none⟩)) rfl rfl rfl rfl ?_
    refine r_l (Value.int .i64 (a_0)) 2 _ _ _ _ rfl rfl rfl rfl rfl ?_
    refine r_v (Value.pointer (some ⟨b3, 0, none⟩)) rfl rfl rfl rfl ?_
    refine r_l (Value.int .i64 (b_0)) 1 _ _ _ _ rfl rfl rfl rfl rfl ?_
    replace hM := ck_some hM; obtain ⟨ck7, hM⟩ := hM
    refine r_v (Value.int .i64 ((a_0 + b_0))) rfl rfl (wi64 rfl ck7.1 ck7.2) rfl ?_
    refine r_v (Value.bool (decide (((a_0 + b_0) : Int) > 128))) rfl rfl rfl rfl ?_
    refine lx_nil ?_
    refine hK6 _ _ ?_; try clear hK6 K6
    refine A_cond (decide (((a_0 + b_0) : Int) > 128)) rfl (fun hc8 => ?_) (fun hc8 => ?_)
    · replace hM := ifp (of_decide_eq_true hc8) hM
      refine A_seq fun K9 hK9 => ?_
      refine A_reg ?_
      refine r_v (Value.agg #[Value.int .i64 (0), U (0#64), U (0#64)]) rfl rfl rfl (ev_buildS rfl rfl rfl rfl) ?_
      refine r_s [(b4, 24, #[Value.int .i64 (0), U (0#64), U (0#64)]), (b3, 24, #[Value.int .i64 (b_0), U (hi (b_1)), U (lo (b_1))]), (b2, 24, #[Value.int .i64 (a_0), U (hi (a_1)), U (lo (a_1))])] 0 _ _ _ (#[Value.int .i64 (m1__0), U (hi (m1__1)), U (lo (m1__1))]) (#[Value.int .i64 (0), U (0#64), U (0#64)]) (#[Value.int .i64 (0), U (0#64), U (0#64)]) rfl rfl rfl rfl (.of rfl rfl) rfl rfl ?_
      refine r_v (Value.int .i64 (9)) rfl rfl rfl rfl ?_
      refine lx_nil ?_
      refine hK9 _ _ ?_; try clear hK9 K9
      obtain rfl := Option.some.inj hM
      refine A_ret (fun hn => ends_eq (v0 := Value.tuple #[Value.agg #[Value.int .i64 (0), U (0#64), U (0#64)], Value.int .i64 (9)]) (by first | rfl | simp only [app_hl]) (res2 (res_cell hn 0 rfl rfl rfl) rfl))
    · replace hM := ifn (of_decide_eq_false hc8) hM
      refine A_skip ?_
      refine hK5 _ _ ?_; try clear hK5 K5
      refine A_seq fun K10 hK10 => ?_
      refine A_reg ?_
      refine r_v (Value.slice none 0 0) rfl rfl rfl rfl ?_
      refine lx_nil ?_
      refine hK10 _ _ ?_; try clear hK10 K10
      refine A_seq fun K11 hK11 => ?_
      refine A_regC [(some 25, false), (some 26, true)] (conG Tryd.prog [(25, fun v_ L_ U_ => ∀ u0_, shunterref02_Bits_m N b_0 b_1 = some u0_ → (p1 (fun s_ => s_) 4 encB (u0_)) v_ L_ U_)]) ?_
      refine r_v (Value.slice none 0 0) rfl rfl rfl rfl ?_
      refine r_l (Value.agg #[Value.int .i64 (b_0), U (hi (b_1)), U (lo (b_1))]) 1 _ _ _ _ rfl rfl rfl rfl rfl ?_
      replace hM := bind_sm hM; obtain ⟨r12, hr13, hM⟩ := hM
      refine r_g1 (Ls := [[(b4, 24, #[Value.int .i64 (m1__0), U (hi (m1__1)), U (lo (m1__1))])], [(b3, 24, #[Value.int .i64 (b_0), U (hi (b_1)), U (lo (b_1))])], [(b2, 24, #[Value.int .i64 (a_0), U (hi (a_1)), U (lo (a_1))])]]) (fun s14 => s14) 4 encB (r12) 17 _ rfl rfl rfl (ev_callF rfl call_17 rfl) (fun own_ nw_ hs_ => shunterref02_Bits_g N b_0 b_1 _ hr13 hs_.view ) (fun _ _ v_ L_ U_ => ⟨fun h_ => h_ _ hr13, fun h_ => by intro _ e_; cases Option.some.inj (e_.symm.trans hr13); exact h_⟩) (fun s14 S15 H16 => ?_)
      replace hM := ck_some hM; obtain ⟨ck17, hM⟩ := hM
      refine lx_nilp [[(b4, 24, #[Value.int .i64 (m1__0), U (hi (m1__1)), U (lo (m1__1))])], [(b3, 24, #[Value.int .i64 (b_0), U (hi (b_1)), U (lo (b_1))])], [(b2, 24, #[Value.int .i64 (a_0), U (hi (a_1)), U (lo (a_1))])], S15] ?_
      refine r_app (cs0 := [(25, fun v_ L_ U_ => ∀ u0_, shunterref02_Bits_m N b_0 b_1 = some u0_ → (p1 (fun s_ => s_) 4 encB (u0_)) v_ L_ U_)]) (Ls := [[(b4, 24, #[Value.int .i64 (m1__0), U (hi (m1__1)), U (lo (m1__1))])], [(b3, 24, #[Value.int .i64 (b_0), U (hi (b_1)), U (lo (b_1))])], [(b2, 24, #[Value.int .i64 (a_0), U (hi (a_1)), U (lo (a_1))])], S15, []]) 4 (En := encB) rfl rfl rfl rfl rfl Sl.nil rfl (rd_own H16 (mem_chunk (Ls := [[(b4, 24, #[Value.int .i64 (m1__0), U (hi (m1__1)), U (lo (m1__1))])], [(b3, 24, #[Value.int .i64 (b_0), U (hi (b_1)), U (lo (b_1))])], [(b2, 24, #[Value.int .i64 (a_0), U (hi (a_1)), U (lo (a_1))])], S15]) (k := 3) rfl rfl)) rfl rfl rfl rfl rfl (app_b ck17 rfl) (app_m ck17 rfl) rfl (fun s18 S19 H20 => ?_)
      refine r_v (s18) rfl rfl rfl rfl ?_
      refine lx_nil ?_
      refine hK11 _ _ ?_; try clear hK11 K11
      refine A_seq fun K21 hK21 => ?_
      refine A_regC [(some 29, false), (some 30, true)] (conG Tryd.prog [(29, fun v_ L_ U_ => ∀ u0_, shunterref02_Bits_m N a_0 a_1 = some u0_ → (p1 (fun s_ => s_) 4 encB (u0_)) v_ L_ U_)]) ?_
      refine r_v (s18) rfl rfl rfl rfl ?_
      refine r_l (Value.agg #[Value.int .i64 (a_0), U (hi (a_1)), U (lo (a_1))]) 2 _ _ _ _ rfl rfl rfl rfl rfl ?_
      replace hM := bind_sm hM; obtain ⟨r22, hr23, hM⟩ := hM
      refine r_g1 (Ls := [[(b4, 24, #[Value.int .i64 (m1__0), U (hi (m1__1)), U (lo (m1__1))])], [(b3, 24, #[Value.int .i64 (b_0), U (hi (b_1)), U (lo (b_1))])], [(b2, 24, #[Value.int .i64 (a_0), U (hi (a_1)), U (lo (a_1))])], S15, S19]) (fun s24 => s24) 4 encB (r22) 17 _ rfl rfl rfl (ev_callF rfl call_17 rfl) (fun own_ nw_ hs_ => shunterref02_Bits_g N a_0 a_1 _ hr23 hs_.view ) (fun _ _ v_ L_ U_ => ⟨fun h_ => h_ _ hr23, fun h_ => by intro _ e_; cases Option.some.inj (e_.symm.trans hr23); exact h_⟩) (fun s24 S25 H26 => ?_)
      replace hM := ck_some hM; obtain ⟨ck27, hM⟩ := hM
      refine r_app (cs0 := [(29, fun v_ L_ U_ => ∀ u0_, shunterref02_Bits_m N a_0 a_1 = some u0_ → (p1 (fun s_ => s_) 4 encB (u0_)) v_ L_ U_)]) (Ls := [[(b4, 24, #[Value.int .i64 (m1__0), U (hi (m1__1)), U (lo (m1__1))])], [(b3, 24, #[Value.int .i64 (b_0), U (hi (b_1)), U (lo (b_1))])], [(b2, 24, #[Value.int .i64 (a_0), U (hi (a_1)), U (lo (a_1))])], S15, S19, S25]) 4 (En := encB) rfl rfl rfl rfl rfl H20 rfl (rd_own H26 (mem_chunk (Ls := [[(b4, 24, #[Value.int .i64 (m1__0), U (hi (m1__1)), U (lo (m1__1))])], [(b3, 24, #[Value.int .i64 (b_0), U (hi (b_1)), U (lo (b_1))])], [(b2, 24, #[Value.int .i64 (a_0), U (hi (a_1)), U (lo (a_1))])], S15, S19, S25]) (k := 5) rfl rfl)) rfl rfl rfl rfl rfl (app_b ck27 rfl) (app_m ck27 rfl) rfl (fun s28 S29 H30 => ?_)
      refine r_v (s28) rfl rfl rfl rfl ?_
      refine lx_nil ?_
      refine hK21 _ _ ?_; try clear hK21 K21
      refine A_seq fun K31 hK31 => ?_
      refine A_regC [(some 32, false)] (conG Tryd.prog [(32, fun v_ L_ U_ => ∀ u0_, shunterref02_Of_m N ((([] : List Bool) ++ r12) ++ r22) = some u0_ → (pV (Value.agg #[Value.int .i64 (u0_.1), U (hi (u0_.2)), U (lo (u0_.2))])) v_ L_ U_)]) ?_
      refine r_v (s28) rfl rfl rfl rfl ?_
      replace hM := bind_sm hM; obtain ⟨r32, hr33, hM⟩ := hM
      refine r_gv (Value.agg #[Value.int .i64 (r32.1), U (hi (r32.2)), U (lo (r32.2))]) 18 _ rfl rfl rfl (ev_callF rfl call_18 rfl) (fun own_ nw_ hs_ => shunterref02_Of_g N ((([] : List Bool) ++ r12) ++ r22) _ hr33 hs_.view s28 ((rd_own H30 (mem_chunk (Ls := [[(b4, 24, #[Value.int .i64 (m1__0), U (hi (m1__1)), U (lo (m1__1))])], [(b3, 24, #[Value.int .i64 (b_0), U (hi (b_1)), U (lo (b_1))])], [(b2, 24, #[Value.int .i64 (a_0), U (hi (a_1)), U (lo (a_1))])], S15, S29, S25]) (k := 4) rfl rfl)) own_ nw_ hs_)) (fun _ _ v_ L_ U_ => ⟨fun h_ => h_ _ hr33, fun h_ => by intro _ e_; cases Option.some.inj (e_.symm.trans hr33); exact h_⟩) ?_
      refine r_s (List.flatten [[(b4, 24, #[Value.int .i64 (r32.1), U (hi (r32.2)), U (lo (r32.2))])], [(b3, 24, #[Value.int .i64 (b_0), U (hi (b_1)), U (lo (b_1))])], [(b2, 24, #[Value.int .i64 (a_0), U (hi (a_1)), U (lo (a_1))])], S15, S29, S25]) 0 _ _ _ (#[Value.int .i64 (m1__0), U (hi (m1__1)), U (lo (m1__1))]) (#[Value.int .i64 (r32.1), U (hi (r32.2)), U (lo (r32.2))]) (#[Value.int .i64 (r32.1), U (hi (r32.2)), U (lo (r32.2))]) rfl rfl rfl rfl (.of rfl rfl) rfl rfl ?_
      refine r_v (Value.int .i64 (0)) rfl rfl rfl rfl ?_
      refine lx_nil ?_
      refine hK31 _ _ ?_; try clear hK31 K31
      obtain rfl := Option.some.inj hM
      refine A_ret (fun hn => ends_eq (v0 := Value.tuple #[Value.agg #[Value.int .i64 (r32.1), U (hi (r32.2)), U (lo (r32.2))], Value.int .i64 (0)]) rfl (res2 (res_cell hn 0 rfl rfl rfl) rfl))
def shunterref02_Prefix_l7 (N : Nat) (w : Int) (n : Int) : Nat → List Bool → Int → Option (Int × (BitVec 128) × Int)
  | 0, _, _ => none
  | n6 + 1, l5_, i6_ => if (i6_ : Int) < w then ck ((-9223372036854775808 ≤ (w - n) ∧ (w - n) ≤ 9223372036854775807)) (ck ((l5_).length + ([decide ((i6_ : Int) ≥ (w - n))]).length ≤ 140737488355328) (ck ((-9223372036854775808 ≤ (i6_ + 1) ∧ (i6_ + 1) ≤ 9223372036854775807)) ((shunterref02_Prefix_l7 N w n n6) ((l5_ ++ ([decide ((i6_ : Int) ≥ (w - n))]))) ((i6_ + 1))))) else (shunterref02_Of_m N l5_).bind fun r21 => some (r21.1, r21.2, 0)
def shunterref02_Prefix_k4 (N : Nat) (w : Int) (n : Int) (_ : Int) (_ : BitVec 128) : Option (Int × (BitVec 128) × Int) := shunterref02_Prefix_l7 N w n N ([]) (0)
def shunterref02_Prefix_k2 (N : Nat) (w : Int) (n : Int) (m1__0 : Int) (m1__1 : BitVec 128) : Option (Int × (BitVec 128) × Int) := if (n : Int) < 0 then some (0, (0#64) ++ (0#64), 15) else if (n : Int) > w then some (0, (0#64) ++ (0#64), 15) else shunterref02_Prefix_k4 N w n (m1__0) (m1__1)
def shunterref02_Prefix_m (N : Nat) (w : Int) (n : Int) : Option (Int × (BitVec 128) × Int) := if (w : Int) < 1 then some (0, (0#64) ++ (0#64), 9) else if (w : Int) > 128 then some (0, (0#64) ++ (0#64), 9) else shunterref02_Prefix_k2 N w n (0) ((0#64) ++ (0#64))
set_option maxRecDepth 100000 in
set_option maxHeartbeats 400000 in
theorem shunterref02_Prefix_g (N : Nat) (w : Int) (n : Int) (r : Int × (BitVec 128) × Int) (hM : shunterref02_Prefix_m N w n = some r) : Gives Tryd.prog 36 #[Value.int .i64 (w), Value.int .i64 (n)] (Value.tuple #[Value.agg #[Value.int .i64 (r.1), U (hi (r.2.1)), U (lo (r.2.1))], Value.int .i64 (r.2.2)]) := by
  unfold shunterref02_Prefix_m at hM
  refine gives_of_A follows Tryd.func36 rfl 38 rfl (upd (upd (fun _ => undef) 1 (Value.int .i64 (n))) 0 (Value.int .i64 (w))) (by funext k; match k with | 0 => rfl | 1 => rfl | k + 2 => rfl) (fun base0_ => ?_)
  refine A_seq fun K1 hK1 => ?_
  refine A_reg ?_
  refine r_a (24, #[Value.int .i64 (0), U (0#64), U (0#64)]) rfl rfl rfl (fun b2 => ?_) (.inr rfl)
  refine r_v (Value.int .i64 (0)) rfl rfl rfl rfl ?_
  refine lx_nil ?_
  refine hK1 _ _ ?_; try clear hK1 K1
  refine A_cut (fun tt ll => ∃ (m1__0 : Int) (m1__1 : BitVec 128), (shunterref02_Prefix_k2 N w n m1__0 m1__1 = some r) ∧ Is [(0, Value.int .i64 (w)), (1, Value.int .i64 (n)), (4, Value.pointer (some ⟨b2, 0, none⟩))] [(b2, 24, #[Value.int .i64 (m1__0), U (hi (m1__1)), U (lo (m1__1))])] tt ll) ?_ ?_
  · refine A_seq fun K28 hK28 => ?_
    refine A_reg ?_
    refine r_v (Value.int .i64 (w)) rfl rfl rfl rfl ?_
    refine r_v (Value.bool (decide ((w : Int) < 1))) rfl rfl rfl rfl ?_
    refine r_v (Value.bool (decide ((w : Int) < 1))) rfl rfl rfl rfl ?_
    rcases hg29 : (decide ((w : Int) < 1)) with _ | _
    · replace hM := ifn (of_decide_eq_false hg29) hM
      refine r_y rfl ?_
      refine r_v (Value.int .i64 (w)) rfl rfl rfl rfl ?_
      refine r_y rfl ?_
      refine r_v (Value.bool (decide ((w : Int) > 128))) rfl rfl rfl rfl ?_
      refine r_v (Value.bool (decide ((w : Int) > 128))) rfl rfl rfl rfl ?_
      refine lx_nil ?_
      refine hK28 _ _ ?_; try clear hK28 K28
      refine A_cond (decide ((w : Int) > 128)) rfl (fun hc30 => ?_) (fun hc30 => ?_)
      · replace hM := ifp (of_decide_eq_true hc30) hM
        refine A_seq fun K31 hK31 => ?_
        refine A_reg ?_
        refine r_v (Value.agg #[Value.int .i64 (0), U (0#64), U (0#64)]) rfl rfl rfl (ev_buildS rfl rfl rfl rfl) ?_
        refine r_s [(b2, 24, #[Value.int .i64 (0), U (0#64), U (0#64)])] 0 _ _ _ (#[Value.int .i64 (0), U (0#64), U (0#64)]) (#[Value.int .i64 (0), U (0#64), U (0#64)]) (#[Value.int .i64 (0), U (0#64), U (0#64)]) rfl rfl rfl rfl (.of rfl rfl) rfl rfl ?_
        refine r_v (Value.int .i64 (9)) rfl rfl rfl rfl ?_
        refine lx_nil ?_
        refine hK31 _ _ ?_; try clear hK31 K31
        obtain rfl := Option.some.inj hM
        refine A_ret (fun hn => ends_eq (v0 := Value.tuple #[Value.agg #[Value.int .i64 (0), U (0#64), U (0#64)], Value.int .i64 (9)]) (by first | rfl | simp only [app_hl]) (res2 (res_cell hn 0 rfl rfl rfl) rfl))
      · replace hM := ifn (of_decide_eq_false hc30) hM
        refine A_skip ?_
        refine fg _ (Sub.of (List.Sublist.cons_cons _ (List.Sublist.slnil))) ?_
        exact ⟨0, (0#64) ++ (0#64), hM, is_mk rfl (by first | rfl | simp only [app_hl])⟩
    · replace hM := ifp (of_decide_eq_true hg29) hM
      refine r_n true rfl (by decide) rfl ?_
      refine r_n true rfl (by decide) rfl ?_
      refine r_v (Value.bool (true)) rfl rfl rfl rfl ?_
      refine lx_nil ?_
      refine hK28 _ _ ?_; try clear hK28 K28
      refine A_cond true rfl (fun _ => ?_) (fun h_ => nomatch h_)
      refine A_seq fun K32 hK32 => ?_
      refine A_reg ?_
      refine r_v (Value.agg #[Value.int .i64 (0), U (0#64), U (0#64)]) rfl rfl rfl (ev_buildS rfl rfl rfl rfl) ?_
      refine r_s [(b2, 24, #[Value.int .i64 (0), U (0#64), U (0#64)])] 0 _ _ _ (#[Value.int .i64 (0), U (0#64), U (0#64)]) (#[Value.int .i64 (0), U (0#64), U (0#64)]) (#[Value.int .i64 (0), U (0#64), U (0#64)]) rfl rfl rfl rfl (.of rfl rfl) rfl rfl ?_
      refine r_v (Value.int .i64 (9)) rfl rfl rfl rfl ?_
      refine lx_nil ?_
      refine hK32 _ _ ?_; try clear hK32 K32
      obtain rfl := Option.some.inj hM
      refine A_ret (fun hn => ends_eq (v0 := Value.tuple #[Value.agg #[Value.int .i64 (0), U (0#64), U (0#64)], Value.int .i64 (9)]) (by first | rfl | simp only [app_hl]) (res2 (res_cell hn 0 rfl rfl rfl) rfl))
  · clear hM; rintro t l ⟨m1__0, m1__1, hM, ⟨T, rfl⟩, rfl⟩
    unfold shunterref02_Prefix_k2 at hM
    refine A_cut (fun tt ll => ∃ (m3__0 : Int) (m3__1 : BitVec 128), (shunterref02_Prefix_k4 N w n m3__0 m3__1 = some r) ∧ Is [(0, Value.int .i64 (w)), (1, Value.int .i64 (n)), (4, Value.pointer (some ⟨b2, 0, none⟩))] [(b2, 24, #[Value.int .i64 (m3__0), U (hi (m3__1)), U (lo (m3__1))])] tt ll) ?_ ?_
    · refine A_seq fun K23 hK23 => ?_
      refine A_reg ?_
      refine r_v (Value.int .i64 (n)) rfl rfl rfl rfl ?_
      refine r_v (Value.bool (decide ((n : Int) < 0))) rfl rfl rfl rfl ?_
      refine r_v (Value.bool (decide ((n : Int) < 0))) rfl rfl rfl rfl ?_
      rcases hg24 : (decide ((n : Int) < 0)) with _ | _
      · replace hM := ifn (of_decide_eq_false hg24) hM
        refine r_y rfl ?_
        refine r_v (Value.int .i64 (n)) rfl rfl rfl rfl ?_
        refine r_y rfl ?_
        refine r_v (Value.int .i64 (w)) rfl rfl rfl rfl ?_
        refine r_y rfl ?_
        refine r_v (Value.bool (decide ((n : Int) > w))) rfl rfl rfl rfl ?_
        refine r_v (Value.bool (decide ((n : Int) > w))) rfl rfl rfl rfl ?_
        refine lx_nil ?_
        refine hK23 _ _ ?_; try clear hK23 K23
        refine A_cond (decide ((n : Int) > w)) rfl (fun hc25 => ?_) (fun hc25 => ?_)
        · replace hM := ifp (of_decide_eq_true hc25) hM
          refine A_seq fun K26 hK26 => ?_
          refine A_reg ?_
          refine r_v (Value.agg #[Value.int .i64 (0), U (0#64), U (0#64)]) rfl rfl rfl (ev_buildS rfl rfl rfl rfl) ?_
          refine r_s [(b2, 24, #[Value.int .i64 (0), U (0#64), U (0#64)])] 0 _ _ _ (#[Value.int .i64 (m1__0), U (hi (m1__1)), U (lo (m1__1))]) (#[Value.int .i64 (0), U (0#64), U (0#64)]) (#[Value.int .i64 (0), U (0#64), U (0#64)]) rfl rfl rfl rfl (.of rfl rfl) rfl rfl ?_
          refine r_v (Value.int .i64 (15)) rfl rfl rfl rfl ?_
          refine lx_nil ?_
          refine hK26 _ _ ?_; try clear hK26 K26
          obtain rfl := Option.some.inj hM
          refine A_ret (fun hn => ends_eq (v0 := Value.tuple #[Value.agg #[Value.int .i64 (0), U (0#64), U (0#64)], Value.int .i64 (15)]) (by first | rfl | simp only [app_hl]) (res2 (res_cell hn 0 rfl rfl rfl) rfl))
        · replace hM := ifn (of_decide_eq_false hc25) hM
          refine A_skip ?_
          refine fg _ (Sub.of (List.Sublist.cons_cons _ (List.Sublist.slnil))) ?_
          exact ⟨m1__0, m1__1, hM, is_mk rfl rfl⟩
      · replace hM := ifp (of_decide_eq_true hg24) hM
        refine r_n true rfl (by decide) rfl ?_
        refine r_n true rfl (by decide) rfl ?_
        refine r_n true rfl (by decide) rfl ?_
        refine r_v (Value.bool (true)) rfl rfl rfl rfl ?_
        refine lx_nil ?_
        refine hK23 _ _ ?_; try clear hK23 K23
        refine A_cond true rfl (fun _ => ?_) (fun h_ => nomatch h_)
        refine A_seq fun K27 hK27 => ?_
        refine A_reg ?_
        refine r_v (Value.agg #[Value.int .i64 (0), U (0#64), U (0#64)]) rfl rfl rfl (ev_buildS rfl rfl rfl rfl) ?_
        refine r_s [(b2, 24, #[Value.int .i64 (0), U (0#64), U (0#64)])] 0 _ _ _ (#[Value.int .i64 (m1__0), U (hi (m1__1)), U (lo (m1__1))]) (#[Value.int .i64 (0), U (0#64), U (0#64)]) (#[Value.int .i64 (0), U (0#64), U (0#64)]) rfl rfl rfl rfl (.of rfl rfl) rfl rfl ?_
        refine r_v (Value.int .i64 (15)) rfl rfl rfl rfl ?_
        refine lx_nil ?_
        refine hK27 _ _ ?_; try clear hK27 K27
        obtain rfl := Option.some.inj hM
        refine A_ret (fun hn => ends_eq (v0 := Value.tuple #[Value.agg #[Value.int .i64 (0), U (0#64), U (0#64)], Value.int .i64 (15)]) (by first | rfl | simp only [app_hl]) (res2 (res_cell hn 0 rfl rfl rfl) rfl))
    · clear hM; rintro t l ⟨m3__0, m3__1, hM, ⟨T, rfl⟩, rfl⟩
      unfold shunterref02_Prefix_k4 at hM
      refine A_seq fun K3 hK3 => ?_
      refine A_reg ?_
      refine r_v (Value.slice none 0 0) rfl rfl rfl rfl ?_
      refine lx_nil ?_
      refine hK3 _ _ ?_; try clear hK3 K3
      refine A_seq fun K4 hK4 => ?_
      refine A_seq fun K5 hK5 => ?_
      refine A_reg ?_
      refine r_v (Value.int .i64 (0)) rfl rfl rfl rfl ?_
      refine lx_nil ?_
      refine hK5 _ _ ?_; try clear hK5 K5
      refine A_block ?_
      refine A_loop (fun tt ll nn => ∃ (n6 : Nat) (l5_ : List Bool) (i6_ : Int), (shunterref02_Prefix_l7 N w n n6 l5_ i6_ = some r) ∧ ∃ (vl5_ : Value) (Sl5_ : List Bl), Sl 4 encB vl5_ l5_ Sl5_ ∧ Is [(0, Value.int .i64 (w)), (1, Value.int .i64 (n)), (4, Value.pointer (some ⟨b2, 0, none⟩)), (6, vl5_), (7, Value.int .i64 (i6_))] (List.flatten [[(b2, 24, #[Value.int .i64 (m3__0), U (hi (m3__1)), U (lo (m3__1))])], Sl5_]) tt ll ∧ nn = n6 + 1) (N + 1) ?_ ?_
      · exact ⟨N, [], 0, hM, Value.slice none 0 0, [], Sl.nil, is_mk rfl rfl, rfl⟩
      · clear hM; rintro t l _ ⟨n6, l5_, i6_, hM, vl5_, Sl5_, hl5_, ⟨⟨T, rfl⟩, rfl⟩, rfl⟩
        rcases n6 with _ | n6
        · exact absurd hM (by simp [shunterref02_Prefix_l7])
        rw [shunterref02_Prefix_l7] at hM
        refine A_seq fun K7 hK7 => ?_
        refine A_seq fun K8 hK8 => ?_
        refine A_reg ?_
        refine r_v (Value.int .i64 (i6_)) rfl rfl rfl rfl ?_
        refine r_v (Value.int .i64 (w)) rfl rfl rfl rfl ?_
        refine r_v (Value.bool (decide ((i6_ : Int) < w))) rfl rfl rfl rfl ?_
        refine lx_nil ?_
        refine hK8 _ _ ?_; try clear hK8 K8
        refine A_cond (decide ((i6_ : Int) < w)) rfl (fun hc9 => ?_) (fun hc9 => ?_)
        · replace hM := ifp (of_decide_eq_true hc9) hM
          refine A_skip ?_
          refine hK7 _ _ ?_; try clear hK7 K7
          refine A_seq fun K10 hK10 => ?_
          refine A_block ?_
          refine A_regC [(some 34, false), (some 35, true)] (conG Tryd.prog []) ?_
          refine r_v (vl5_) rfl rfl rfl rfl ?_
          refine r_v (Value.int .i64 (i6_)) rfl rfl rfl rfl ?_
          refine r_v (Value.int .i64 (w)) rfl rfl rfl rfl ?_
          refine r_v (Value.int .i64 (n)) rfl rfl rfl rfl ?_
          replace hM := ck_some hM; obtain ⟨ck11, hM⟩ := hM
          refine r_v (Value.int .i64 ((w - n))) rfl rfl (wi64 rfl ck11.1 ck11.2) rfl ?_
          refine r_v (Value.bool (decide ((i6_ : Int) ≥ (w - n)))) rfl rfl rfl rfl ?_
          refine r_bs (cs0 := []) (Ls := [[(b2, 24, #[Value.int .i64 (m3__0), U (hi (m3__1)), U (lo (m3__1))])], Sl5_]) 4 encB [decide ((i6_ : Int) ≥ (w - n))] [Value.bool (decide ((i6_ : Int) ≥ (w - n)))] [Value.bool (false)] rfl rfl rfl rfl rfl rfl rfl rfl (by kernel_rfl) (by kernel_rfl) rfl rfl rfl (fun s12 S13 H14 => ?_)
          replace hM := ck_some hM; obtain ⟨ck15, hM⟩ := hM
          refine r_app (cs0 := []) (Ls := [[(b2, 24, #[Value.int .i64 (m3__0), U (hi (m3__1)), U (lo (m3__1))])], Sl5_, S13]) 1 (En := encB) rfl rfl rfl rfl rfl hl5_ rfl (rd_own H14 (mem_chunk (Ls := [[(b2, 24, #[Value.int .i64 (m3__0), U (hi (m3__1)), U (lo (m3__1))])], Sl5_, S13]) (k := 2) rfl rfl)) rfl rfl rfl rfl rfl (app_b ck15 rfl) (app_m ck15 rfl) rfl (fun s16 S17 H18 => ?_)
          refine r_v (s16) rfl rfl rfl rfl ?_
          refine lx_nil ?_
          refine hK10 _ _ ?_; try clear hK10 K10
          refine A_reg ?_
          refine r_v (Value.int .i64 (i6_)) rfl rfl rfl rfl ?_
          replace hM := ck_some hM; obtain ⟨ck19, hM⟩ := hM
          refine r_v (Value.int .i64 ((i6_ + 1))) rfl rfl (wi64 rfl ck19.1 ck19.2) rfl ?_
          refine r_v (Value.int .i64 ((i6_ + 1))) rfl rfl rfl rfl ?_
          refine lx_nil ?_
          refine fg _ (Sub.pick [[(b2, 24, #[Value.int .i64 (m3__0), U (hi (m3__1)), U (lo (m3__1))])], S17, S13] [0, 1] rfl) ?_
          exact ⟨n6 + 1, by omega, n6, (l5_ ++ ([decide ((i6_ : Int) ≥ (w - n))])), (i6_ + 1), hM, s16, S17, H18, is_mk rfl rfl, rfl⟩
        · replace hM := ifn (of_decide_eq_false hc9) hM
          refine A_exit ?_
          refine hK4 _ _ ?_; try clear hK4 K4
          refine A_seq fun K20 hK20 => ?_
          refine A_regC [(some 37, false)] (conG Tryd.prog [(37, fun v_ L_ U_ => ∀ u0_, shunterref02_Of_m N l5_ = some u0_ → (pV (Value.agg #[Value.int .i64 (u0_.1), U (hi (u0_.2)), U (lo (u0_.2))])) v_ L_ U_)]) ?_
          refine r_v (vl5_) rfl rfl rfl rfl ?_
          replace hM := bind_sm hM; obtain ⟨r21, hr22, hM⟩ := hM
          refine r_gv (Value.agg #[Value.int .i64 (r21.1), U (hi (r21.2)), U (lo (r21.2))]) 18 _ rfl rfl rfl (ev_callF rfl call_18 rfl) (fun own_ nw_ hs_ => shunterref02_Of_g N l5_ _ hr22 hs_.view vl5_ ((rd_own hl5_ (mem_chunk (Ls := [[(b2, 24, #[Value.int .i64 (m3__0), U (hi (m3__1)), U (lo (m3__1))])], Sl5_]) (k := 1) rfl rfl)) own_ nw_ hs_)) (fun _ _ v_ L_ U_ => ⟨fun h_ => h_ _ hr22, fun h_ => by intro _ e_; cases Option.some.inj (e_.symm.trans hr22); exact h_⟩) ?_
          refine r_s (List.flatten [[(b2, 24, #[Value.int .i64 (r21.1), U (hi (r21.2)), U (lo (r21.2))])], Sl5_]) 0 _ _ _ (#[Value.int .i64 (m3__0), U (hi (m3__1)), U (lo (m3__1))]) (#[Value.int .i64 (r21.1), U (hi (r21.2)), U (lo (r21.2))]) (#[Value.int .i64 (r21.1), U (hi (r21.2)), U (lo (r21.2))]) rfl rfl rfl rfl (.of rfl rfl) rfl rfl ?_
          refine r_v (Value.int .i64 (0)) rfl rfl rfl rfl ?_
          refine lx_nil ?_
          refine hK20 _ _ ?_; try clear hK20 K20
          obtain rfl := Option.some.inj hM
          refine A_ret (fun hn => ends_eq (v0 := Value.tuple #[Value.agg #[Value.int .i64 (r21.1), U (hi (r21.2)), U (lo (r21.2))], Value.int .i64 (0)]) rfl (res2 (res_cell hn 0 rfl rfl rfl) rfl))
def shunterref02_Meets_l3 (r6 : List Bool) (r11 : List Bool) (r16 : List Bool) : Nat → Int → Option (Bool)
  | 0, _ => none
  | n23 + 1, i2_ => if (i2_ : Int) < ((r6).length : Int) then ck (0 ≤ i2_ ∧ i2_ < ((r16).length : Int)) (if ((r16)[(i2_).toNat]!) = true then ck (0 ≤ i2_ ∧ i2_ < ((r6).length : Int)) (ck (0 ≤ i2_ ∧ i2_ < ((r11).length : Int)) (if ((r6)[(i2_).toNat]!) ≠ ((r11)[(i2_).toNat]!) then some (false) else ck ((-9223372036854775808 ≤ (i2_ + 1) ∧ (i2_ + 1) ≤ 9223372036854775807)) ((shunterref02_Meets_l3 r6 r11 r16 n23) ((i2_ + 1))))) else ck ((-9223372036854775808 ≤ (i2_ + 1) ∧ (i2_ + 1) ≤ 9223372036854775807)) ((shunterref02_Meets_l3 r6 r11 r16 n23) ((i2_ + 1)))) else some (true)
def shunterref02_Meets_k1 (N : Nat) (a_0 : Int) (a_1 : BitVec 128) (value_0 : Int) (value_1 : BitVec 128) (mask_0 : Int) (mask_1 : BitVec 128) : Option (Bool) := (shunterref02_Bits_m N a_0 a_1).bind fun r6 => (shunterref02_Bits_m N value_0 value_1).bind fun r11 => (shunterref02_Bits_m N mask_0 mask_1).bind fun r16 => shunterref02_Meets_l3 r6 r11 r16 N (0)
def shunterref02_Meets_m (N : Nat) (a_0 : Int) (a_1 : BitVec 128) (value_0 : Int) (value_1 : BitVec 128) (mask_0 : Int) (mask_1 : BitVec 128) : Option (Bool) := (shunterref02_May_m N (a_0) (a_1)).bind fun r39 => if (r39) = true then (shunterref02_May_m N (value_0) (value_1)).bind fun r42 => if (r42) = true then (shunterref02_May_m N (mask_0) (mask_1)).bind fun r45 => if (r45) = true then if (a_0 : Int) ≠ value_0 then some (false) else if (a_0 : Int) ≠ mask_0 then some (false) else shunterref02_Meets_k1 N a_0 a_1 value_0 value_1 mask_0 mask_1  else some (false) else some (false) else some (false)
set_option maxRecDepth 100000 in
set_option maxHeartbeats 400000 in
theorem shunterref02_Meets_g (N : Nat) (a_0 : Int) (a_1 : BitVec 128) (value_0 : Int) (value_1 : BitVec 128) (mask_0 : Int) (mask_1 : BitVec 128) (r : Bool) (hM : shunterref02_Meets_m N a_0 a_1 value_0 value_1 mask_0 mask_1 = some r) : Gives Tryd.prog 42 #[Value.agg #[Value.int .i64 (a_0), U (hi (a_1)), U (lo (a_1))], Value.agg #[Value.int .i64 (value_0), U (hi (value_1)), U (lo (value_1))], Value.agg #[Value.int .i64 (mask_0), U (hi (mask_1)), U (lo (mask_1))]] (Value.bool (r)) := by
  unfold shunterref02_Meets_m at hM
  refine gives_of_A follows Tryd.func42 rfl 65 rfl (upd (upd (upd (fun _ => undef) 2 (Value.agg #[Value.int .i64 (mask_0), U (hi (mask_1)), U (lo (mask_1))])) 1 (Value.agg #[Value.int .i64 (value_0), U (hi (value_1)), U (lo (value_1))])) 0 (Value.agg #[Value.int .i64 (a_0), U (hi (a_1)), U (lo (a_1))])) (by funext k; match k with | 0 => rfl | 1 => rfl | 2 => rfl | k + 3 => rfl) (fun base0_ => ?_)
  refine A_seq fun K1 hK1 => ?_
  refine A_reg ?_
  refine r_a (24, #[Value.int .i64 (a_0), U (hi (a_1)), U (lo (a_1))]) rfl rfl rfl (fun b2 => ?_) (.inr rfl)
  refine r_a (24, #[Value.int .i64 (value_0), U (hi (value_1)), U (lo (value_1))]) rfl rfl rfl (fun b3 => ?_) (.inr rfl)
  refine r_a (24, #[Value.int .i64 (mask_0), U (hi (mask_1)), U (lo (mask_1))]) rfl rfl rfl (fun b4 => ?_) (.inr rfl)
  refine r_v (Value.bool (false)) rfl rfl rfl rfl ?_
  refine lx_nil ?_
  refine hK1 _ _ ?_; try clear hK1 K1
  refine A_cut (fun tt ll => (shunterref02_Meets_k1 N a_0 a_1 value_0 value_1 mask_0 mask_1  = some r) ∧ Is [(3, Value.pointer (some ⟨b2, 0, none⟩)), (4, Value.pointer (some ⟨b3, 0, none⟩)), (5, Value.pointer (some ⟨b4, 0, none⟩))] [(b4, 24, #[Value.int .i64 (mask_0), U (hi (mask_1)), U (lo (mask_1))]), (b3, 24, #[Value.int .i64 (value_0), U (hi (value_1)), U (lo (value_1))]), (b2, 24, #[Value.int .i64 (a_0), U (hi (a_1)), U (lo (a_1))])] tt ll) ?_ ?_
  · refine A_seq fun K38 hK38 => ?_
    refine A_reg ?_
    refine r_l (Value.agg #[Value.int .i64 (a_0), U (hi (a_1)), U (lo (a_1))]) 2 _ _ _ _ rfl rfl rfl rfl rfl ?_
    replace hM := bind_sm hM; obtain ⟨r39, hr40, hM⟩ := hM
    refine r_c (Value.bool (r39)) rfl _ _ (ev_callF rfl call_10 rfl) (shunterref02_May_g N (a_0) (a_1) _ hr40) ?_
    refine r_v (Value.bool (!(r39))) rfl rfl rfl rfl ?_
    refine r_v (Value.bool (!(r39))) rfl rfl rfl rfl ?_
    rcases hg41 : (!(r39)) with _ | _
    · replace hM := ifp (not_f hg41) hM
      refine r_y rfl ?_
      refine r_l (Value.agg #[Value.int .i64 (value_0), U (hi (value_1)), U (lo (value_1))]) 1 _ _ _ _ rfl rfl rfl rfl rfl ?_
      refine r_y rfl ?_
      replace hM := bind_sm hM; obtain ⟨r42, hr43, hM⟩ := hM
      refine r_c (Value.bool (r42)) rfl _ _ (ev_callF rfl call_10 rfl) (shunterref02_May_g N (value_0) (value_1) _ hr43) ?_
      refine r_y rfl ?_
      refine r_v (Value.bool (!(r42))) rfl rfl rfl rfl ?_
      refine r_v (Value.bool (!(r42))) rfl rfl rfl rfl ?_
      refine r_v (Value.bool (!(r42))) rfl rfl rfl rfl ?_
      rcases hg44 : (!(r42)) with _ | _
      · replace hM := ifp (not_f hg44) hM
        refine r_y rfl ?_
        refine r_l (Value.agg #[Value.int .i64 (mask_0), U (hi (mask_1)), U (lo (mask_1))]) 0 _ _ _ _ rfl rfl rfl rfl rfl ?_
        refine r_y rfl ?_
        replace hM := bind_sm hM; obtain ⟨r45, hr46, hM⟩ := hM
        refine r_c (Value.bool (r45)) rfl _ _ (ev_callF rfl call_10 rfl) (shunterref02_May_g N (mask_0) (mask_1) _ hr46) ?_
        refine r_y rfl ?_
        refine r_v (Value.bool (!(r45))) rfl rfl rfl rfl ?_
        refine r_v (Value.bool (!(r45))) rfl rfl rfl rfl ?_
        refine r_v (Value.bool (!(r45))) rfl rfl rfl rfl ?_
        rcases hg47 : (!(r45)) with _ | _
        · replace hM := ifp (not_f hg47) hM
          refine r_y rfl ?_
          refine r_v (Value.pointer (some ⟨b2, 0, none⟩)) rfl rfl rfl rfl ?_
          refine r_y rfl ?_
          refine r_l (Value.int .i64 (a_0)) 2 _ _ _ _ rfl rfl rfl rfl rfl ?_
          refine r_y rfl ?_
          refine r_v (Value.pointer (some ⟨b3, 0, none⟩)) rfl rfl rfl rfl ?_
          refine r_y rfl ?_
          refine r_l (Value.int .i64 (value_0)) 1 _ _ _ _ rfl rfl rfl rfl rfl ?_
          refine r_y rfl ?_
          refine r_v (Value.bool (((a_0 : Int) != value_0))) rfl rfl rfl rfl ?_
          refine r_v (Value.bool (((a_0 : Int) != value_0))) rfl rfl rfl rfl ?_
          refine r_v (Value.bool (((a_0 : Int) != value_0))) rfl rfl rfl rfl ?_
          rcases hg48 : (((a_0 : Int) != value_0)) with _ | _
          · replace hM := ifn (bne_f hg48) hM
            refine r_y rfl ?_
            refine r_v (Value.pointer (some ⟨b2, 0, none⟩)) rfl rfl rfl rfl ?_
            refine r_y rfl ?_
            refine r_l (Value.int .i64 (a_0)) 2 _ _ _ _ rfl rfl rfl rfl rfl ?_
            refine r_y rfl ?_
            refine r_v (Value.pointer (some ⟨b4, 0, none⟩)) rfl rfl rfl rfl ?_
            refine r_y rfl ?_
            refine r_l (Value.int .i64 (mask_0)) 0 _ _ _ _ rfl rfl rfl rfl rfl ?_
            refine r_y rfl ?_
            refine r_v (Value.bool (((a_0 : Int) != mask_0))) rfl rfl rfl rfl ?_
            refine r_v (Value.bool (((a_0 : Int) != mask_0))) rfl rfl rfl rfl ?_
            refine lx_nil ?_
            refine hK38 _ _ ?_; try clear hK38 K38
            refine A_gen [(3, Value.pointer (some ⟨b2, 0, none⟩)), (4, Value.pointer (some ⟨b3, 0, none⟩)), (5, Value.pointer (some ⟨b4, 0, none⟩)), (37, Value.bool (((a_0 : Int) != mask_0)))] rfl (fun T => ?_)
            refine A_cond (((a_0 : Int) != mask_0)) rfl (fun hc49 => ?_) (fun hc49 => ?_)
            · replace hM := ifp (bne_iff_ne.1 hc49) hM
              refine A_seq fun K50 hK50 => ?_
              refine A_reg ?_
              refine r_v (Value.bool (false)) rfl rfl rfl rfl ?_
              refine lx_nil ?_
              refine hK50 _ _ ?_; try clear hK50 K50
              obtain rfl := Option.some.inj hM
              refine A_ret (fun hn => ends_eq (v0 := Value.bool (false)) rfl (res1 rfl))
            · replace hM := ifn (bne_f hc49) hM
              refine A_skip ?_
              refine fg _ (Sub.of (List.Sublist.cons_cons _ (List.Sublist.cons_cons _ (List.Sublist.cons_cons _ (List.Sublist.slnil))))) ?_
              exact ⟨hM, is_mk rfl rfl⟩
          · replace hM := ifp (bne_iff_ne.1 hg48) hM
            refine r_n true rfl (by decide) rfl ?_
            refine r_n true rfl (by decide) rfl ?_
            refine r_n true rfl (by decide) rfl ?_
            refine r_n true rfl (by decide) rfl ?_
            refine r_n true rfl (by decide) rfl ?_
            refine r_v (Value.bool (true)) rfl rfl rfl rfl ?_
            refine lx_nil ?_
            refine hK38 _ _ ?_; try clear hK38 K38
            refine A_gen [(3, Value.pointer (some ⟨b2, 0, none⟩)), (4, Value.pointer (some ⟨b3, 0, none⟩)), (5, Value.pointer (some ⟨b4, 0, none⟩)), (37, Value.bool (true))] rfl (fun T => ?_)
            refine A_cond true rfl (fun _ => ?_) (fun h_ => nomatch h_)
            refine A_seq fun K51 hK51 => ?_
            refine A_reg ?_
            refine r_v (Value.bool (false)) rfl rfl rfl rfl ?_
            refine lx_nil ?_
            refine hK51 _ _ ?_; try clear hK51 K51
            obtain rfl := Option.some.inj hM
            refine A_ret (fun hn => ends_eq (v0 := Value.bool (false)) rfl (res1 rfl))
        · replace hM := ifn (Bool.eq_false_iff.1 (not_t hg47)) hM
          refine r_n true rfl (by decide) rfl ?_
          refine r_n true rfl (by decide) rfl ?_
          refine r_n true rfl (by decide) rfl ?_
          refine r_n true rfl (by decide) rfl ?_
          refine r_n true rfl (by decide) rfl ?_
          refine r_v (Value.bool (true)) rfl rfl rfl rfl ?_
          refine r_v (Value.bool (true)) rfl rfl rfl rfl ?_
          refine r_n true rfl (by decide) rfl ?_
          refine r_n true rfl (by decide) rfl ?_
          refine r_n true rfl (by decide) rfl ?_
          refine r_n true rfl (by decide) rfl ?_
          refine r_n true rfl (by decide) rfl ?_
          refine r_v (Value.bool (true)) rfl rfl rfl rfl ?_
          refine lx_nil ?_
          refine hK38 _ _ ?_; try clear hK38 K38
          refine A_gen [(3, Value.pointer (some ⟨b2, 0, none⟩)), (4, Value.pointer (some ⟨b3, 0, none⟩)), (5, Value.pointer (some ⟨b4, 0, none⟩)), (37, Value.bool (true))] rfl (fun T => ?_)
          refine A_cond true rfl (fun _ => ?_) (fun h_ => nomatch h_)
          refine A_seq fun K52 hK52 => ?_
          refine A_reg ?_
          refine r_v (Value.bool (false)) rfl rfl rfl rfl ?_
          refine lx_nil ?_
          refine hK52 _ _ ?_; try clear hK52 K52
          obtain rfl := Option.some.inj hM
          refine A_ret (fun hn => ends_eq (v0 := Value.bool (false)) rfl (res1 rfl))
      · replace hM := ifn (Bool.eq_false_iff.1 (not_t hg44)) hM
        refine r_n true rfl (by decide) rfl ?_
        refine r_n true rfl (by decide) rfl ?_
        refine r_n true rfl (by decide) rfl ?_
        refine r_v (Value.bool (true)) rfl rfl rfl rfl ?_
        refine r_v (Value.bool (true)) rfl rfl rfl rfl ?_
        refine r_n true rfl (by decide) rfl ?_
        refine r_n true rfl (by decide) rfl ?_
        refine r_n true rfl (by decide) rfl ?_
        refine r_n true rfl (by decide) rfl ?_
        refine r_n true rfl (by decide) rfl ?_
        refine r_v (Value.bool (true)) rfl rfl rfl rfl ?_
        refine r_v (Value.bool (true)) rfl rfl rfl rfl ?_
        refine r_n true rfl (by decide) rfl ?_
        refine r_n true rfl (by decide) rfl ?_
        refine r_n true rfl (by decide) rfl ?_
        refine r_n true rfl (by decide) rfl ?_
        refine r_n true rfl (by decide) rfl ?_
        refine r_v (Value.bool (true)) rfl rfl rfl rfl ?_
        refine lx_nil ?_
        refine hK38 _ _ ?_; try clear hK38 K38
        refine A_gen [(3, Value.pointer (some ⟨b2, 0, none⟩)), (4, Value.pointer (some ⟨b3, 0, none⟩)), (5, Value.pointer (some ⟨b4, 0, none⟩)), (37, Value.bool (true))] rfl (fun T => ?_)
        refine A_cond true rfl (fun _ => ?_) (fun h_ => nomatch h_)
        refine A_seq fun K53 hK53 => ?_
        refine A_reg ?_
        refine r_v (Value.bool (false)) rfl rfl rfl rfl ?_
        refine lx_nil ?_
        refine hK53 _ _ ?_; try clear hK53 K53
        obtain rfl := Option.some.inj hM
        refine A_ret (fun hn => ends_eq (v0 := Value.bool (false)) rfl (res1 rfl))
    · replace hM := ifn (Bool.eq_false_iff.1 (not_t hg41)) hM
      refine r_n true rfl (by decide) rfl ?_
      refine r_n true rfl (by decide) rfl ?_
      refine r_n true rfl (by decide) rfl ?_
      refine r_v (Value.bool (true)) rfl rfl rfl rfl ?_
      refine r_v (Value.bool (true)) rfl rfl rfl rfl ?_
      refine r_n true rfl (by decide) rfl ?_
      refine r_n true rfl (by decide) rfl ?_
      refine r_n true rfl (by decide) rfl ?_
      refine r_v (Value.bool (true)) rfl rfl rfl rfl ?_
      refine r_v (Value.bool (true)) rfl rfl rfl rfl ?_
      refine r_n true rfl (by decide) rfl ?_
      refine r_n true rfl (by decide) rfl ?_
      refine r_n true rfl (by decide) rfl ?_
      refine r_n true rfl (by decide) rfl ?_
      refine r_n true rfl (by decide) rfl ?_
      refine r_v (Value.bool (true)) rfl rfl rfl rfl ?_
      refine r_v (Value.bool (true)) rfl rfl rfl rfl ?_
      refine r_n true rfl (by decide) rfl ?_
      refine r_n true rfl (by decide) rfl ?_
      refine r_n true rfl (by decide) rfl ?_
      refine r_n true rfl (by decide) rfl ?_
      refine r_n true rfl (by decide) rfl ?_
      refine r_v (Value.bool (true)) rfl rfl rfl rfl ?_
      refine lx_nil ?_
      refine hK38 _ _ ?_; try clear hK38 K38
      refine A_gen [(3, Value.pointer (some ⟨b2, 0, none⟩)), (4, Value.pointer (some ⟨b3, 0, none⟩)), (5, Value.pointer (some ⟨b4, 0, none⟩)), (37, Value.bool (true))] rfl (fun T => ?_)
      refine A_cond true rfl (fun _ => ?_) (fun h_ => nomatch h_)
      refine A_seq fun K54 hK54 => ?_
      refine A_reg ?_
      refine r_v (Value.bool (false)) rfl rfl rfl rfl ?_
      refine lx_nil ?_
      refine hK54 _ _ ?_; try clear hK54 K54
      obtain rfl := Option.some.inj hM
      refine A_ret (fun hn => ends_eq (v0 := Value.bool (false)) rfl (res1 rfl))
  · clear hM; rintro t l ⟨hM, ⟨T, rfl⟩, rfl⟩
    unfold shunterref02_Meets_k1 at hM
    refine A_seq fun K5 hK5 => ?_
    refine A_drawR [(some 39, false), (some 41, false), (some 43, false)] (conG Tryd.prog [(39, fun v_ L_ U_ => ∀ u0_, shunterref02_Bits_m N a_0 a_1 = some u0_ → (p1 (fun s_ => s_) 4 encB (u0_)) v_ L_ U_), (41, fun v_ L_ U_ => ∀ u0_, shunterref02_Bits_m N value_0 value_1 = some u0_ → (p1 (fun s_ => s_) 4 encB (u0_)) v_ L_ U_), (43, fun v_ L_ U_ => ∀ u0_, shunterref02_Bits_m N mask_0 mask_1 = some u0_ → (p1 (fun s_ => s_) 4 encB (u0_)) v_ L_ U_)]) [] (by decide +kernel) (fun hn => sep_nil) ?_
    refine r_l (Value.agg #[Value.int .i64 (a_0), U (hi (a_1)), U (lo (a_1))]) 2 _ _ _ _ rfl rfl rfl rfl rfl ?_
    replace hM := bind_sm hM; obtain ⟨r6, hr7, hM⟩ := hM
    refine r_g1 (Ls := [[(b4, 24, #[Value.int .i64 (mask_0), U (hi (mask_1)), U (lo (mask_1))])], [(b3, 24, #[Value.int .i64 (value_0), U (hi (value_1)), U (lo (value_1))])], [(b2, 24, #[Value.int .i64 (a_0), U (hi (a_1)), U (lo (a_1))])]]) (fun s8 => s8) 4 encB (r6) 17 _ rfl rfl rfl (ev_callF rfl call_17 rfl) (fun own_ nw_ hs_ => shunterref02_Bits_g N a_0 a_1 _ hr7 hs_.view ) (fun _ _ v_ L_ U_ => ⟨fun h_ => h_ _ hr7, fun h_ => by intro _ e_; cases Option.some.inj (e_.symm.trans hr7); exact h_⟩) (fun s8 S9 H10 => ?_)
    refine r_l (Value.agg #[Value.int .i64 (value_0), U (hi (value_1)), U (lo (value_1))]) 1 _ _ _ _ rfl rfl rfl rfl rfl ?_
    replace hM := bind_sm hM; obtain ⟨r11, hr12, hM⟩ := hM
    refine r_g1 (Ls := [[(b4, 24, #[Value.int .i64 (mask_0), U (hi (mask_1)), U (lo (mask_1))])], [(b3, 24, #[Value.int .i64 (value_0), U (hi (value_1)), U (lo (value_1))])], [(b2, 24, #[Value.int .i64 (a_0), U (hi (a_1)), U (lo (a_1))])], S9]) (fun s13 => s13) 4 encB (r11) 17 _ rfl rfl rfl (ev_callF rfl call_17 rfl) (fun own_ nw_ hs_ => shunterref02_Bits_g N value_0 value_1 _ hr12 hs_.view ) (fun _ _ v_ L_ U_ => ⟨fun h_ => h_ _ hr12, fun h_ => by intro _ e_; cases Option.some.inj (e_.symm.trans hr12); exact h_⟩) (fun s13 S14 H15 => ?_)
    refine r_l (Value.agg #[Value.int .i64 (mask_0), U (hi (mask_1)), U (lo (mask_1))]) 0 _ _ _ _ rfl rfl rfl rfl rfl ?_
    replace hM := bind_sm hM; obtain ⟨r16, hr17, hM⟩ := hM
    refine r_g1 (Ls := [[(b4, 24, #[Value.int .i64 (mask_0), U (hi (mask_1)), U (lo (mask_1))])], [(b3, 24, #[Value.int .i64 (value_0), U (hi (value_1)), U (lo (value_1))])], [(b2, 24, #[Value.int .i64 (a_0), U (hi (a_1)), U (lo (a_1))])], S9, S14]) (fun s18 => s18) 4 encB (r16) 17 _ rfl rfl rfl (ev_callF rfl call_17 rfl) (fun own_ nw_ hs_ => shunterref02_Bits_g N mask_0 mask_1 _ hr17 hs_.view ) (fun _ _ v_ L_ U_ => ⟨fun h_ => h_ _ hr17, fun h_ => by intro _ e_; cases Option.some.inj (e_.symm.trans hr17); exact h_⟩) (fun s18 S19 H20 => ?_)
    refine r_v (s8) rfl rfl rfl rfl ?_
    refine r_v (s13) rfl rfl rfl rfl ?_
    refine r_v (s18) rfl rfl rfl rfl ?_
    refine lx_nil ?_
    refine hK5 _ _ ?_; try clear hK5 K5
    refine A_seq fun K21 hK21 => ?_
    refine A_seq fun K22 hK22 => ?_
    refine A_reg ?_
    refine r_v (Value.int .i64 (0)) rfl rfl rfl rfl ?_
    refine lx_nil ?_
    refine hK22 _ _ ?_; try clear hK22 K22
    refine A_block ?_
    refine A_forget _ (Sub.pick [[(b4, 24, #[Value.int .i64 (mask_0), U (hi (mask_1)), U (lo (mask_1))])], [(b3, 24, #[Value.int .i64 (value_0), U (hi (value_1)), U (lo (value_1))])], [(b2, 24, #[Value.int .i64 (a_0), U (hi (a_1)), U (lo (a_1))])], S9, S14, S19] [3, 4, 5] rfl) ?_
    refine A_loop (fun tt ll nn => ∃ (n23 : Nat) (i2_ : Int), (shunterref02_Meets_l3 r6 r11 r16 n23 i2_ = some r) ∧ Is [(7, s8), (8, s13), (9, s18), (10, Value.int .i64 (i2_))] (List.flatten [S9, S14, S19]) tt ll ∧ nn = n23 + 1) (N + 1) ?_ ?_
    · exact ⟨N, 0, hM, is_mk rfl rfl, rfl⟩
    · clear hM; rintro t l _ ⟨n23, i2_, hM, ⟨⟨T, rfl⟩, rfl⟩, rfl⟩
      rcases n23 with _ | n23
      · exact absurd hM (by simp [shunterref02_Meets_l3])
      rw [shunterref02_Meets_l3] at hM
      refine A_seq fun K24 hK24 => ?_
      refine A_seq fun K25 hK25 => ?_
      refine A_reg ?_
      refine r_v (Value.int .i64 (i2_)) rfl rfl rfl rfl ?_
      refine r_v (s8) rfl rfl rfl rfl ?_
      refine r_v (Value.int .i64 (((r6).length : Int))) rfl rfl rfl (ev_lenSl rfl rfl rfl (Sl.shp H10)) ?_
      refine r_v (Value.bool (decide ((i2_ : Int) < ((r6).length : Int)))) rfl rfl rfl rfl ?_
      refine lx_nil ?_
      refine hK25 _ _ ?_; try clear hK25 K25
      refine A_cond (decide ((i2_ : Int) < ((r6).length : Int))) rfl (fun hc26 => ?_) (fun hc26 => ?_)
      · replace hM := ifp (of_decide_eq_true hc26) hM
        refine A_skip ?_
        refine hK24 _ _ ?_; try clear hK24 K24
        refine A_seq fun K27 hK27 => ?_
        refine A_block ?_
        refine A_seq fun K28 hK28 => ?_
        refine A_draw [] (by decide +kernel) (fun hn => sep_nil) ?_
        refine r_v (s18) rfl rfl rfl rfl ?_
        refine r_v (Value.int .i64 (i2_)) rfl rfl rfl rfl ?_
        replace hM := ck_some hM; obtain ⟨ck29, hM⟩ := hM
        refine r_v (elA s18 ((i2_).toNat * 1)) rfl rfl rfl (ev_v (ev_idxSl rfl rfl rfl (Sl.shp H20) ck29)) ?_
        refine r_le (Value.bool ((r16)[(i2_).toNat]!)) (En := encB) ((r16)[(i2_).toNat]!) ((i2_).toNat) 0 rfl rfl (rd_own H20 (mem_chunk (Ls := [S9, S14, S19]) (k := 2) rfl rfl)) (get_of ck29) rfl ?_
        refine r_v (Value.bool ((r16)[(i2_).toNat]!)) rfl rfl rfl rfl ?_
        rcases hg30 : ((r16)[(i2_).toNat]!) with _ | _
        · replace hM := ifn (Bool.eq_false_iff.1 hg30) hM
          refine r_n false rfl (by decide) rfl ?_
          refine r_n false rfl (by decide) rfl ?_
          refine r_n false rfl (by decide) rfl ?_
          refine r_n false rfl (by decide) rfl ?_
          refine r_n false rfl (by decide) rfl ?_
          refine r_n false rfl (by decide) rfl ?_
          refine r_n false rfl (by decide) rfl ?_
          refine r_n false rfl (by decide) rfl ?_
          refine r_n false rfl (by decide) rfl ?_
          refine r_v (Value.bool (false)) rfl rfl rfl rfl ?_
          refine lx_nil ?_
          refine hK28 _ _ ?_; try clear hK28 K28
          refine A_cond false rfl (fun h_ => nomatch h_) (fun _ => ?_)
          refine A_skip ?_
          refine hK27 _ _ ?_; try clear hK27 K27
          refine A_reg ?_
          refine r_v (Value.int .i64 (i2_)) rfl rfl rfl rfl ?_
          replace hM := ck_some hM; obtain ⟨ck31, hM⟩ := hM
          refine r_v (Value.int .i64 ((i2_ + 1))) rfl rfl (wi64 rfl ck31.1 ck31.2) rfl ?_
          refine r_v (Value.int .i64 ((i2_ + 1))) rfl rfl rfl rfl ?_
          refine lx_nil ?_
          refine fg _ (Sub.pick [S9, S14, S19] [0, 1, 2] rfl) ?_
          exact ⟨n23 + 1, by omega, n23, (i2_ + 1), hM, is_mk rfl rfl, rfl⟩
        · replace hM := ifp hg30 hM
          refine r_y rfl ?_
          refine r_v (s8) rfl rfl rfl rfl ?_
          refine r_y rfl ?_
          refine r_v (Value.int .i64 (i2_)) rfl rfl rfl rfl ?_
          refine r_y rfl ?_
          replace hM := ck_some hM; obtain ⟨ck32, hM⟩ := hM
          refine r_v (elA s8 ((i2_).toNat * 1)) rfl rfl rfl (ev_v (ev_idxSl rfl rfl rfl (Sl.shp H10) ck32)) ?_
          refine r_y rfl ?_
          refine r_le (Value.bool ((r6)[(i2_).toNat]!)) (En := encB) ((r6)[(i2_).toNat]!) ((i2_).toNat) 0 rfl rfl (rd_own H10 (mem_chunk (Ls := [S9, S14, S19]) (k := 0) rfl rfl)) (get_of ck32) rfl ?_
          refine r_y rfl ?_
          refine r_v (s13) rfl rfl rfl rfl ?_
          refine r_y rfl ?_
          refine r_v (Value.int .i64 (i2_)) rfl rfl rfl rfl ?_
          refine r_y rfl ?_
          replace hM := ck_some hM; obtain ⟨ck33, hM⟩ := hM
          refine r_v (elA s13 ((i2_).toNat * 1)) rfl rfl rfl (ev_v (ev_idxSl rfl rfl rfl (Sl.shp H15) ck33)) ?_
          refine r_y rfl ?_
          refine r_le (Value.bool ((r11)[(i2_).toNat]!)) (En := encB) ((r11)[(i2_).toNat]!) ((i2_).toNat) 0 rfl rfl (rd_own H15 (mem_chunk (Ls := [S9, S14, S19]) (k := 1) rfl rfl)) (get_of ck33) rfl ?_
          refine r_y rfl ?_
          refine r_v (Value.bool (((r6)[(i2_).toNat]!) != ((r11)[(i2_).toNat]!))) rfl rfl rfl (ev_binBn rfl rfl rfl) ?_
          refine r_v (Value.bool (((r6)[(i2_).toNat]!) != ((r11)[(i2_).toNat]!))) rfl rfl rfl rfl ?_
          refine lx_nil ?_
          refine hK28 _ _ ?_; try clear hK28 K28
          refine A_cond (((r6)[(i2_).toNat]!) != ((r11)[(i2_).toNat]!)) rfl (fun hc34 => ?_) (fun hc34 => ?_)
          · replace hM := ifp (bne_iff_ne.1 hc34) hM
            refine A_seq fun K35 hK35 => ?_
            refine A_reg ?_
            refine r_v (Value.bool (false)) rfl rfl rfl rfl ?_
            refine lx_nil ?_
            refine hK35 _ _ ?_; try clear hK35 K35
            obtain rfl := Option.some.inj hM
            refine A_ret (fun hn => ends_eq (v0 := Value.bool (false)) rfl (res1 rfl))
          · replace hM := ifn (bne_f hc34) hM
            refine A_skip ?_
            refine hK27 _ _ ?_; try clear hK27 K27
            refine A_reg ?_
            refine r_v (Value.int .i64 (i2_)) rfl rfl rfl rfl ?_
            replace hM := ck_some hM; obtain ⟨ck36, hM⟩ := hM
            refine r_v (Value.int .i64 ((i2_ + 1))) rfl rfl (wi64 rfl ck36.1 ck36.2) rfl ?_
            refine r_v (Value.int .i64 ((i2_ + 1))) rfl rfl rfl rfl ?_
            refine lx_nil ?_
            refine fg _ (Sub.pick [S9, S14, S19] [0, 1, 2] rfl) ?_
            exact ⟨n23 + 1, by omega, n23, (i2_ + 1), hM, is_mk rfl rfl, rfl⟩
      · replace hM := ifn (of_decide_eq_false hc26) hM
        refine A_exit ?_
        refine hK21 _ _ ?_; try clear hK21 K21
        refine A_seq fun K37 hK37 => ?_
        refine A_reg ?_
        refine r_v (Value.bool (true)) rfl rfl rfl rfl ?_
        refine lx_nil ?_
        refine hK37 _ _ ?_; try clear hK37 K37
        obtain rfl := Option.some.inj hM
        refine A_ret (fun hn => ends_eq (v0 := Value.bool (true)) rfl (res1 rfl))
end Go.Proofs.YtomcfndpnnjihaaDoor
