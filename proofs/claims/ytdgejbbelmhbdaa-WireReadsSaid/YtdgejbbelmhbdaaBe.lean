/- models of functions and their walks -/
import Derived.Test.YtdgejbbelmhbdaaBd
namespace Go.Proofs.Ytdgejbbelmhbdaa
open Go Go.RowKit Go.Eng
def wire_listOf_int__v2_l5 (N : Nat) (one1_ : Int) (r5 : Int × (List UInt8) × Int × Int) : Nat → List Int → Int → List UInt8 → Int → Int → Option ((List Int) × (List UInt8) × Int × Int)
  | 0, _, _, _, _, _ => none
  | n10 + 1, l1_, x2_, rv4_, m3__1, m3__2 => if (x2_ : Int) < r5.1 then (wire_Reader_Numbers_1_v2_m N rv4_ m3__1 m3__2 one1_).bind fun r15 => ck ((r15.2.1).length = (rv4_).length) (ck ((l1_).length + ([r15.1]).length ≤ 17592186044416) (ck ((-9223372036854775808 ≤ (x2_ + 1) ∧ (x2_ + 1) ≤ 9223372036854775807)) ((wire_listOf_int__v2_l5 N one1_ r5 n10) ((l1_ ++ ([r15.1]))) ((x2_ + 1)) (r15.2.1) (r15.2.2.1) (r15.2.2.2)))) else (wire_Reader_Bad_v1_m N rv4_ m3__1 m3__2).bind fun r30 => if (r30) = true then some ([], rv4_, m3__1, m3__2) else some (l1_, rv4_, m3__1, m3__2)
def wire_listOf_int__v2_m (N : Nat) (r_0 : List UInt8) (r_1 : Int) (r_2 : Int) (most : Int) (one1_ : Int) : Option ((List Int) × (List UInt8) × Int × Int) := (wire_Reader_number_v2_m N r_0 r_1 r_2 1 most 2).bind fun r5 => ck ((r5.2.1).length = (r_0).length) (wire_listOf_int__v2_l5 N one1_ r5 N ([]) (0) (r5.2.1) (r5.2.2.1) (r5.2.2.2))
set_option maxRecDepth 100000 in
set_option maxHeartbeats 8000000 in
theorem wire_listOf_int__v2_g (N : Nat) (r_0 : List UInt8) (r_1 : Int) (r_2 : Int) (most : Int) (one1_ : Int) (r : (List Int) × (List UInt8) × Int × Int) (hM : wire_listOf_int__v2_m N r_0 r_1 r_2 most one1_ = some r) (ro : Addr → Option Value) (br : Nat) (r_0v : Value) (Sr_0 : List Bl) (hr_0 : Sl 5 encY r_0v r_0 Sr_0) (bone0_ : Nat) (hbone0_ : Blk ro bone0_ [Value.pointer (some ⟨br, 0, none⟩)]) (bone1_ : Nat) (hbone1_ : Blk ro bone1_ [Value.int .i64 (one1_)]) : Does Try.prog 64 #[Value.pointer (some ⟨br, 0, none⟩), Value.int .i64 (most), Value.func (.func 65) #[] #[Value.pointer (some ⟨bone0_, 0, none⟩), Value.pointer (some ⟨bone1_, 0, none⟩)]] ro (List.flatten [[(br, 69, #[r_0v, Value.int .i64 (r_1), Value.int .i64 (r_2)])], Sr_0]) (pO (List.flatten [[(br, 69, #[r_0v, Value.int .i64 (r_1), Value.int .i64 (r_2)])], Sr_0]) (oS 3 encI r.1 fun s_0 => (oI 5 encY r_0v r.2.1 (oE (s_0) [[(br, 69, #[r_0v, Value.int .i64 (r.2.2.1), Value.int .i64 (r.2.2.2)])]])))) := by
  unfold wire_listOf_int__v2_m at hM
  refine doesO_of_A follows Try.func64 rfl 22 rfl (upd (upd (upd (fun _ => undef) 2 (Value.func (.func 65) #[] #[Value.pointer (some ⟨bone0_, 0, none⟩), Value.pointer (some ⟨bone1_, 0, none⟩)])) 1 (Value.int .i64 (most))) 0 (Value.pointer (some ⟨br, 0, none⟩))) (by funext k; match k with | 0 => rfl | 1 => rfl | 2 => rfl | k + 3 => rfl) (fun _ _ h_ _ => h_) (fun base0_ => ?_)
  refine A_seq fun K1 hK1 => ?_
  refine A_reg ?_
  refine r_v (Value.slice none 0 0) rfl rfl rfl rfl ?_
  refine lx_nil ?_
  refine hK1 _ _ ?_; try clear hK1 K1
  refine A_seq fun K2 hK2 => ?_
  refine A_reg ?_
  refine r_v (Value.slice none 0 0) rfl rfl rfl rfl ?_
  refine lx_nil ?_
  refine hK2 _ _ ?_; try clear hK2 K2
  refine A_seq fun K3 hK3 => ?_
  refine A_seq fun K4 hK4 => ?_
  refine A_regC [(some 10, true)] (conG Try.prog [(10, fun _ _ v_ L_ U_ => ∀ u0_, wire_Reader_number_v2_m N r_0 r_1 r_2 1 most 2 = some u0_ → (pO (List.flatten [[(br, 69, #[r_0v, Value.int .i64 (r_1), Value.int .i64 (r_2)])], Sr_0]) (oI 5 encY r_0v u0_.2.1 (oE (Value.int .i64 (u0_.1)) [[(br, 69, #[r_0v, Value.int .i64 (u0_.2.2.1), Value.int .i64 (u0_.2.2.2)])]]))) v_ L_ U_)]) ?_
  refine r_v (Value.pointer (some ⟨br, 0, none⟩)) rfl rfl rfl rfl ?_
  refine r_v (Value.int .i64 (most)) rfl rfl rfl rfl ?_
  replace hM := bind_sm hM; obtain ⟨r5, hr6, hM⟩ := hM
  replace hM := ck_some hM; obtain ⟨ck7, hM⟩ := hM
  refine r_gm (Ls := [[(br, 69, #[r_0v, Value.int .i64 (r_1), Value.int .i64 (r_2)])], Sr_0]) (FL := [[(br, 69, #[r_0v, Value.int .i64 (r_1), Value.int .i64 (r_2)])], Sr_0]) (RL := []) [0, 1] (oI 5 encY r_0v r5.2.1 (oE (Value.int .i64 (r5.1)) [[(br, 69, #[r_0v, Value.int .i64 (r5.2.2.1), Value.int .i64 (r5.2.2.2)])]])) (some 10) 47 _ rfl rfl rfl rfl rfl (ev_callF rfl call_47 rfl) (fun own_ nw_ hn_ hs_ => wire_Reader_number_v2_g N r_0 r_1 r_2 1 most 2 _ hr6 _ br r_0v Sr_0 hr_0) (fun _ _ v_ L_ U_ => ⟨fun h_ => h_ _ hr6, fun h_ => by intro _ e_; cases Option.some.inj (e_.symm.trans hr6); exact h_⟩) (fun h_ => nomatch h_) ?_
  rintro _ _ ⟨S8, _, H9, ⟨rfl, rfl⟩, rfl⟩
  refine lx_perm (Ls := [S8, [(br, 69, #[r_0v, Value.int .i64 (r5.2.2.1), Value.int .i64 (r5.2.2.2)])]]) (Ls' := [[(br, 69, #[r_0v, Value.int .i64 (r5.2.2.1), Value.int .i64 (r5.2.2.2)])], S8]) [1, 0] rfl rfl ?_
  refine r_v (Value.int .i64 (0)) rfl rfl rfl rfl ?_
  refine lx_nil ?_
  refine hK4 _ _ ?_; try clear hK4 K4
  refine A_block ?_
  refine A_forget _ (Sub.pickE (Ls := [[(br, 69, #[r_0v, Value.int .i64 (r5.2.2.1), Value.int .i64 (r5.2.2.2)])], S8, []]) (Ls0 := [[(br, 69, #[r_0v, Value.int .i64 (r5.2.2.1), Value.int .i64 (r5.2.2.2)])], S8]) rfl [0, 2, 1] rfl) ?_
  refine A_loop (fun tt ll nn => ∃ (n10 : Nat) (l1_ : List Int) (x2_ : Int) (rv4_ : List UInt8) (m3__1 : Int) (m3__2 : Int), (wire_listOf_int__v2_l5 N one1_ r5 n10 l1_ x2_ rv4_ m3__1 m3__2 = some r) ∧ ∃ (vl1_ : Value) (Sl1_ : List Bl), Sl 3 encI vl1_ l1_ Sl1_ ∧ ∃ (Srv4_ : List Bl), Sl 5 encY r_0v rv4_ Srv4_ ∧ Is [(0, Value.pointer (some ⟨br, 0, none⟩)), (2, Value.func (.func 65) #[] #[Value.pointer (some ⟨bone0_, 0, none⟩), Value.pointer (some ⟨bone1_, 0, none⟩)]), (7, vl1_), (10, Value.int .i64 (r5.1)), (11, Value.int .i64 (x2_))] (List.flatten [[(br, 69, #[r_0v, Value.int .i64 (m3__1), Value.int .i64 (m3__2)])], Sl1_, Srv4_]) tt ll ∧ nn = n10 + 1) (N + 1) ?_ ?_
  · exact ⟨N, [], 0, r5.2.1, r5.2.2.1, r5.2.2.2, hM, Value.slice none 0 0, [], Sl.nil, S8, H9, is_mk rfl rfl, rfl⟩
  · clear hM; rintro t l _ ⟨n10, l1_, x2_, rv4_, m3__1, m3__2, hM, vl1_, Sl1_, hl1_, Srv4_, hrv4_, ⟨⟨T, rfl⟩, rfl⟩, rfl⟩
    rcases n10 with _ | n10
    · exact absurd hM (by simp [wire_listOf_int__v2_l5])
    rw [wire_listOf_int__v2_l5] at hM
    refine A_seq fun K11 hK11 => ?_
    refine A_reg ?_
    refine r_v (Value.bool (decide ((x2_ : Int) < r5.1))) rfl rfl rfl rfl ?_
    refine lx_nil ?_
    refine hK11 _ _ ?_; try clear hK11 K11
    refine A_seq fun K12 hK12 => ?_
    refine A_cond (decide ((x2_ : Int) < r5.1)) rfl (fun hc13 => ?_) (fun hc13 => ?_)
    · replace hM := ifp (of_decide_eq_true hc13) hM
      refine A_skip ?_
      refine hK12 _ _ ?_; try clear hK12 K12
      refine A_seq fun K14 hK14 => ?_
      refine A_block ?_
      refine A_regC [(some 15, true), (some 16, false), (some 17, true)] (conG Try.prog [(15, fun _ _ v_ L_ U_ => ∀ u0_, wire_Reader_Numbers_1_v2_m N rv4_ m3__1 m3__2 one1_ = some u0_ → (pO (List.flatten [[(br, 69, #[r_0v, Value.int .i64 (m3__1), Value.int .i64 (m3__2)])], Srv4_]) (oI 5 encY r_0v u0_.2.1 (oE (Value.int .i64 (u0_.1)) [[(br, 69, #[r_0v, Value.int .i64 (u0_.2.2.1), Value.int .i64 (u0_.2.2.2)])]]))) v_ L_ U_)]) ?_
      refine r_v (vl1_) rfl rfl rfl rfl ?_
      refine r_v (Value.func (.func 65) #[] #[Value.pointer (some ⟨bone0_, 0, none⟩), Value.pointer (some ⟨bone1_, 0, none⟩)]) rfl rfl rfl rfl ?_
      replace hM := bind_sm hM; obtain ⟨r15, hr16, hM⟩ := hM
      replace hM := ck_some hM; obtain ⟨ck17, hM⟩ := hM
      refine r_gm (Ls := [[(br, 69, #[r_0v, Value.int .i64 (m3__1), Value.int .i64 (m3__2)])], Sl1_, Srv4_]) (FL := [[(br, 69, #[r_0v, Value.int .i64 (m3__1), Value.int .i64 (m3__2)])], Srv4_]) (RL := [Sl1_]) [0, 2] (oI 5 encY r_0v r15.2.1 (oE (Value.int .i64 (r15.1)) [[(br, 69, #[r_0v, Value.int .i64 (r15.2.2.1), Value.int .i64 (r15.2.2.2)])]])) (some 15) 65 _ rfl rfl rfl rfl rfl (ev_callV (caps := [Value.pointer (some ⟨bone0_, 0, none⟩), Value.pointer (some ⟨bone1_, 0, none⟩)]) rfl call_65 rfl) (fun own_ nw_ hn_ hs_ => wire_Reader_Numbers_1_v2_g N rv4_ m3__1 m3__2 one1_ _ hr16 _ bone0_ br r_0v Srv4_ hrv4_ (Blk.mono hbone0_ (ro_sans (Ls := [[(br, 69, #[r_0v, Value.int .i64 (m3__1), Value.int .i64 (m3__2)])], Sl1_, Srv4_]) (is := [0, 2]) rfl hs_)) bone1_ (Blk.mono hbone1_ (ro_sans (Ls := [[(br, 69, #[r_0v, Value.int .i64 (m3__1), Value.int .i64 (m3__2)])], Sl1_, Srv4_]) (is := [0, 2]) rfl hs_))) (fun _ _ v_ L_ U_ => ⟨fun h_ => h_ _ hr16, fun h_ => by intro _ e_; cases Option.some.inj (e_.symm.trans hr16); exact h_⟩) (fun h_ => nomatch h_) ?_
      rintro _ _ ⟨S18, _, H19, ⟨rfl, rfl⟩, rfl⟩
      refine lx_perm (Ls := [Sl1_, S18, [(br, 69, #[r_0v, Value.int .i64 (r15.2.2.1), Value.int .i64 (r15.2.2.2)])]]) (Ls' := [[(br, 69, #[r_0v, Value.int .i64 (r15.2.2.1), Value.int .i64 (r15.2.2.2)])], Sl1_, S18]) [2, 0, 1] rfl rfl ?_
      refine r_bs (cs0 := [(15, fun _ _ v_ L_ U_ => ∀ u0_, wire_Reader_Numbers_1_v2_m N rv4_ m3__1 m3__2 one1_ = some u0_ → (pO (List.flatten [[(br, 69, #[r_0v, Value.int .i64 (m3__1), Value.int .i64 (m3__2)])], Srv4_]) (oI 5 encY r_0v u0_.2.1 (oE (Value.int .i64 (u0_.1)) [[(br, 69, #[r_0v, Value.int .i64 (u0_.2.2.1), Value.int .i64 (u0_.2.2.2)])]]))) v_ L_ U_)]) (Ls := [[(br, 69, #[r_0v, Value.int .i64 (r15.2.2.1), Value.int .i64 (r15.2.2.2)])], Sl1_, S18]) 3 encI [r15.1] [Value.int .i64 (r15.1)] [Value.int .i64 (0)] rfl rfl rfl rfl rfl rfl rfl (by kernel_rfl) (by kernel_rfl) rfl rfl rfl (fun s20 S21 H22 => ?_)
      replace hM := ck_some hM; obtain ⟨ck23, hM⟩ := hM
      refine r_app (cs0 := [(15, fun _ _ v_ L_ U_ => ∀ u0_, wire_Reader_Numbers_1_v2_m N rv4_ m3__1 m3__2 one1_ = some u0_ → (pO (List.flatten [[(br, 69, #[r_0v, Value.int .i64 (m3__1), Value.int .i64 (m3__2)])], Srv4_]) (oI 5 encY r_0v u0_.2.1 (oE (Value.int .i64 (u0_.1)) [[(br, 69, #[r_0v, Value.int .i64 (u0_.2.2.1), Value.int .i64 (u0_.2.2.2)])]]))) v_ L_ U_)]) (Ls := [[(br, 69, #[r_0v, Value.int .i64 (r15.2.2.1), Value.int .i64 (r15.2.2.2)])], Sl1_, S18, S21]) 1 (En := encI) rfl rfl rfl rfl rfl hl1_ rfl (rd_own H22 (mem_chunk (Ls := [[(br, 69, #[r_0v, Value.int .i64 (r15.2.2.1), Value.int .i64 (r15.2.2.2)])], Sl1_, S18, S21]) (k := 3) rfl rfl)) rfl rfl rfl rfl rfl (app_b ck23 rfl) (app_m ck23 rfl) rfl (fun s24 S25 H26 => ?_)
      refine r_v (s24) rfl rfl rfl rfl ?_
      refine lx_nil ?_
      refine hK14 _ _ ?_; try clear hK14 K14
      refine A_reg ?_
      replace hM := ck_some hM; obtain ⟨ck27, hM⟩ := hM
      refine r_v (Value.int .i64 ((x2_ + 1))) rfl rfl (wi64 rfl ck27.1 ck27.2) rfl ?_
      refine r_v (Value.int .i64 ((x2_ + 1))) rfl rfl rfl rfl ?_
      refine lx_nil ?_
      refine fg _ (Sub.pick [[(br, 69, #[r_0v, Value.int .i64 (r15.2.2.1), Value.int .i64 (r15.2.2.2)])], S25, S18, S21] [0, 1, 2] rfl) ?_
      exact ⟨n10 + 1, by omega, n10, (l1_ ++ ([r15.1])), (x2_ + 1), r15.2.1, r15.2.2.1, r15.2.2.2, hM, s24, S25, H26, S18, H19, is_mk rfl rfl, rfl⟩
    · replace hM := ifn (of_decide_eq_false hc13) hM
      refine A_exit ?_
      refine hK3 _ _ ?_; try clear hK3 K3
      refine A_seq fun K28 hK28 => ?_
      refine A_seq fun K29 hK29 => ?_
      refine A_regC [(some 20, false)] (conG Try.prog [(20, fun _ _ v_ L_ U_ => ∀ u0_, wire_Reader_Bad_v1_m N rv4_ m3__1 m3__2 = some u0_ → (pV (Value.bool (u0_))) v_ L_ U_)]) ?_
      refine r_v (Value.pointer (some ⟨br, 0, none⟩)) rfl rfl rfl rfl ?_
      replace hM := bind_sm hM; obtain ⟨r30, hr31, hM⟩ := hM
      refine r_gv (Value.bool (r30)) 13 _ rfl rfl rfl (ev_callF rfl call_13 rfl) (fun own_ nw_ hs_ => wire_Reader_Bad_v1_g N rv4_ m3__1 m3__2 _ hr31 hs_.view br r_0v ((rd_own hrv4_ (mem_chunk (Ls := [[(br, 69, #[r_0v, Value.int .i64 (m3__1), Value.int .i64 (m3__2)])], Sl1_, Srv4_]) (k := 2) rfl rfl)) own_ nw_ hs_) (blk_own 0 rfl rfl own_ nw_ hs_)) (fun _ _ v_ L_ U_ => ⟨fun h_ => h_ _ hr31, fun h_ => by intro _ e_; cases Option.some.inj (e_.symm.trans hr31); exact h_⟩) ?_
      refine lx_nil ?_
      refine hK29 _ _ ?_; try clear hK29 K29
      refine A_cond (r30) rfl (fun hc32 => ?_) (fun hc32 => ?_)
      · replace hM := ifp hc32 hM
        refine A_seq fun K33 hK33 => ?_
        refine A_reg ?_
        refine r_v (Value.slice none 0 0) rfl rfl rfl rfl ?_
        refine lx_nil ?_
        refine hK33 _ _ ?_; try clear hK33 K33
        obtain rfl := Option.some.inj hM
        refine A_ret (fun hn => endsO (v0 := Value.slice none 0 0) (O := [[], Srv4_, [(br, 69, #[r_0v, Value.int .i64 (m3__1), Value.int .i64 (m3__2)])]]) (res1 rfl) (Sub.pickE (Ls := [[(br, 69, #[r_0v, Value.int .i64 (m3__1), Value.int .i64 (m3__2)])], Sl1_, Srv4_, []]) (Ls0 := [[(br, 69, #[r_0v, Value.int .i64 (m3__1), Value.int .i64 (m3__2)])], Sl1_, Srv4_]) rfl [3, 2, 0] rfl) ⟨Value.slice none 0 0, [], _, Sl.nil, ⟨Srv4_, _, hrv4_, ⟨rfl, rfl⟩, rfl⟩, rfl⟩)
      · replace hM := ifn (Bool.eq_false_iff.1 hc32) hM
        refine A_skip ?_
        refine hK28 _ _ ?_; try clear hK28 K28
        refine A_seq fun K34 hK34 => ?_
        refine A_reg ?_
        refine r_v (vl1_) rfl rfl rfl rfl ?_
        refine r_v (vl1_) rfl rfl rfl rfl ?_
        refine lx_nil ?_
        refine hK34 _ _ ?_; try clear hK34 K34
        obtain rfl := Option.some.inj hM
        refine A_ret (fun hn => endsO (v0 := vl1_) (O := [Sl1_, Srv4_, [(br, 69, #[r_0v, Value.int .i64 (m3__1), Value.int .i64 (m3__2)])]]) (res1 rfl) (Sub.pick [[(br, 69, #[r_0v, Value.int .i64 (m3__1), Value.int .i64 (m3__2)])], Sl1_, Srv4_] [1, 2, 0] rfl) ⟨vl1_, Sl1_, _, hl1_, ⟨Srv4_, _, hrv4_, ⟨rfl, rfl⟩, rfl⟩, rfl⟩)
def wire_Reader_Numbers_v1_m (N : Nat) (r_0 : List UInt8) (r_1 : Int) (r_2 : Int) (count : Int) (most : Int) : Option ((List Int) × (List UInt8) × Int × Int) := (wire_listOf_int__v2_m N r_0 r_1 r_2 count most).bind fun r5 => ck ((r5.2.1).length = (r_0).length) (some (r5.1, r5.2.1, r5.2.2.1, r5.2.2.2))
set_option maxRecDepth 100000 in
set_option maxHeartbeats 8000000 in
theorem wire_Reader_Numbers_v1_g (N : Nat) (r_0 : List UInt8) (r_1 : Int) (r_2 : Int) (count : Int) (most : Int) (r : (List Int) × (List UInt8) × Int × Int) (hM : wire_Reader_Numbers_v1_m N r_0 r_1 r_2 count most = some r) (ro : Addr → Option Value) (br : Nat) (r_0v : Value) (Sr_0 : List Bl) (hr_0 : Sl 5 encY r_0v r_0 Sr_0) : Does Try.prog 40 #[Value.pointer (some ⟨br, 0, none⟩), Value.int .i64 (count), Value.int .i64 (most)] ro (List.flatten [[(br, 69, #[r_0v, Value.int .i64 (r_1), Value.int .i64 (r_2)])], Sr_0]) (pO (List.flatten [[(br, 69, #[r_0v, Value.int .i64 (r_1), Value.int .i64 (r_2)])], Sr_0]) (oS 3 encI r.1 fun s_0 => (oI 5 encY r_0v r.2.1 (oE (s_0) [[(br, 69, #[r_0v, Value.int .i64 (r.2.2.1), Value.int .i64 (r.2.2.2)])]])))) := by
  unfold wire_Reader_Numbers_v1_m at hM
  refine doesO_of_A follows Try.func40 rfl 11 rfl (upd (upd (upd (fun _ => undef) 2 (Value.int .i64 (most))) 1 (Value.int .i64 (count))) 0 (Value.pointer (some ⟨br, 0, none⟩))) (by funext k; match k with | 0 => rfl | 1 => rfl | 2 => rfl | k + 3 => rfl) (fun _ _ h_ _ => h_) (fun base0_ => ?_)
  refine A_seq fun K1 hK1 => ?_
  refine A_reg ?_
  refine r_a (35, #[Value.pointer (some ⟨br, 0, none⟩)]) rfl rfl rfl (fun b2 => ?_) (.inr rfl)
  refine r_a (3, #[Value.int .i64 (most)]) rfl rfl rfl (fun b3 => ?_) (.inr rfl)
  refine r_v (Value.slice none 0 0) rfl rfl rfl rfl ?_
  refine lx_nil ?_
  refine hK1 _ _ ?_; try clear hK1 K1
  refine A_seq fun K4 hK4 => ?_
  refine A_regC [(some 10, true)] (conG Try.prog [(10, fun _ _ v_ L_ U_ => ∀ u0_, wire_listOf_int__v2_m N r_0 r_1 r_2 count most = some u0_ → (pO (List.flatten [[(br, 69, #[r_0v, Value.int .i64 (r_1), Value.int .i64 (r_2)])], Sr_0]) (oS 3 encI u0_.1 fun s_0 => (oI 5 encY r_0v u0_.2.1 (oE (s_0) [[(br, 69, #[r_0v, Value.int .i64 (u0_.2.2.1), Value.int .i64 (u0_.2.2.2)])]])))) v_ L_ U_)]) ?_
  refine r_l (Value.pointer (some ⟨br, 0, none⟩)) 1 _ _ _ _ rfl rfl rfl rfl rfl ?_
  refine r_v (Value.int .i64 (count)) rfl rfl rfl rfl ?_
  refine r_v (Value.func (.func 65) #[] #[Value.pointer (some ⟨b2, 0, none⟩), Value.pointer (some ⟨b3, 0, none⟩)]) rfl rfl rfl (ev_mkF rfl) ?_
  replace hM := bind_sm hM; obtain ⟨r5, hr6, hM⟩ := hM
  replace hM := ck_some hM; obtain ⟨ck7, hM⟩ := hM
  refine r_gm (Ls := [[(b3, 3, #[Value.int .i64 (most)])], [(b2, 35, #[Value.pointer (some ⟨br, 0, none⟩)])], [(br, 69, #[r_0v, Value.int .i64 (r_1), Value.int .i64 (r_2)])], Sr_0]) (FL := [[(br, 69, #[r_0v, Value.int .i64 (r_1), Value.int .i64 (r_2)])], Sr_0]) (RL := [[(b3, 3, #[Value.int .i64 (most)])], [(b2, 35, #[Value.pointer (some ⟨br, 0, none⟩)])]]) [2, 3] (oS 3 encI r5.1 fun s_0 => (oI 5 encY r_0v r5.2.1 (oE (s_0) [[(br, 69, #[r_0v, Value.int .i64 (r5.2.2.1), Value.int .i64 (r5.2.2.2)])]]))) (some 10) 64 _ rfl rfl rfl rfl rfl (ev_callF rfl call_64 rfl) (fun own_ nw_ hn_ hs_ => wire_listOf_int__v2_g N r_0 r_1 r_2 count most _ hr6 _ br r_0v Sr_0 hr_0 b2 (blk_sans (Ls := [[(b3, 3, #[Value.int .i64 (most)])], [(b2, 35, #[Value.pointer (some ⟨br, 0, none⟩)])], [(br, 69, #[r_0v, Value.int .i64 (r_1), Value.int .i64 (r_2)])], Sr_0]) (is := [2, 3]) 1 rfl rfl hn_ hs_) b3 (blk_sans (Ls := [[(b3, 3, #[Value.int .i64 (most)])], [(b2, 35, #[Value.pointer (some ⟨br, 0, none⟩)])], [(br, 69, #[r_0v, Value.int .i64 (r_1), Value.int .i64 (r_2)])], Sr_0]) (is := [2, 3]) 0 rfl rfl hn_ hs_)) (fun _ _ v_ L_ U_ => ⟨fun h_ => h_ _ hr6, fun h_ => by intro _ e_; cases Option.some.inj (e_.symm.trans hr6); exact h_⟩) (fun h_ => nomatch h_) ?_
  rintro s10 _ ⟨_, S11, _, H12, ⟨S8, _, H9, ⟨rfl, rfl⟩, rfl⟩, rfl⟩
  refine lx_perm (Ls := [[(b3, 3, #[Value.int .i64 (most)])], [(b2, 35, #[Value.pointer (some ⟨br, 0, none⟩)])], S11, S8, [(br, 69, #[r_0v, Value.int .i64 (r5.2.2.1), Value.int .i64 (r5.2.2.2)])]]) (Ls' := [[(b3, 3, #[Value.int .i64 (most)])], [(b2, 35, #[Value.pointer (some ⟨br, 0, none⟩)])], [(br, 69, #[r_0v, Value.int .i64 (r5.2.2.1), Value.int .i64 (r5.2.2.2)])], S11, S8]) [0, 1, 4, 2, 3] rfl rfl ?_
  refine r_v (s10) rfl rfl rfl rfl ?_
  refine lx_nil ?_
  refine hK4 _ _ ?_; try clear hK4 K4
  obtain rfl := Option.some.inj hM
  refine A_ret (fun hn => endsO (v0 := s10) (O := [S11, S8, [(br, 69, #[r_0v, Value.int .i64 (r5.2.2.1), Value.int .i64 (r5.2.2.2)])]]) (res1 rfl) (Sub.pick [[(b3, 3, #[Value.int .i64 (most)])], [(b2, 35, #[Value.pointer (some ⟨br, 0, none⟩)])], [(br, 69, #[r_0v, Value.int .i64 (r5.2.2.1), Value.int .i64 (r5.2.2.2)])], S11, S8] [3, 4, 2] rfl) ⟨s10, S11, _, H12, ⟨S8, _, H9, ⟨rfl, rfl⟩, rfl⟩, rfl⟩)
def wire_Reader_Fail_v1_m (N : Nat) (r_0 : List UInt8) (r_1 : Int) (r_2 : Int) (e' : Int) : Option ((List UInt8) × Int × Int) := (wire_spot_fail_v2_m N r_0 r_1 r_2 e').bind fun r2 => ck ((r2.1).length = (r_0).length) (some (r2.1, r2.2.1, r2.2.2))
set_option maxRecDepth 100000 in
set_option maxHeartbeats 8000000 in
theorem wire_Reader_Fail_v1_g (N : Nat) (r_0 : List UInt8) (r_1 : Int) (r_2 : Int) (e' : Int) (r : (List UInt8) × Int × Int) (hM : wire_Reader_Fail_v1_m N r_0 r_1 r_2 e' = some r) (ro : Addr → Option Value) (br : Nat) (r_0v : Value) (Sr_0 : List Bl) (hr_0 : Sl 5 encY r_0v r_0 Sr_0) : Does Try.prog 41 #[Value.pointer (some ⟨br, 0, none⟩), Value.int .i64 (e')] ro (List.flatten [[(br, 69, #[r_0v, Value.int .i64 (r_1), Value.int .i64 (r_2)])], Sr_0]) (pO (List.flatten [[(br, 69, #[r_0v, Value.int .i64 (r_1), Value.int .i64 (r_2)])], Sr_0]) (oI 5 encY r_0v r.1 (oE (Value.tuple #[]) [[(br, 69, #[r_0v, Value.int .i64 (r.2.1), Value.int .i64 (r.2.2)])]]))) := by
  unfold wire_Reader_Fail_v1_m at hM
  refine doesO_of_A follows Try.func41 rfl 11 rfl (upd (upd (fun _ => undef) 1 (Value.int .i64 (e'))) 0 (Value.pointer (some ⟨br, 0, none⟩))) (by funext k; match k with | 0 => rfl | 1 => rfl | k + 2 => rfl) (fun _ _ h_ _ => h_) (fun base0_ => ?_)
  refine A_seq fun K1 hK1 => ?_
  refine A_reg ?_
  refine r_v (Value.pointer (some ⟨br, 0, none⟩)) rfl rfl rfl rfl ?_
  refine r_v (Value.bool (true)) rfl rfl rfl rfl ?_
  refine lx_nil ?_
  refine hK1 _ _ ?_; try clear hK1 K1
  refine A_cond true rfl (fun _ => ?_) (fun h_ => nomatch h_)
  refine A_regC [(some 10, true)] (conG Try.prog [(10, fun _ _ v_ L_ U_ => ∀ u0_, wire_spot_fail_v2_m N r_0 r_1 r_2 e' = some u0_ → (pO (List.flatten [[(br, 69, #[r_0v, Value.int .i64 (r_1), Value.int .i64 (r_2)])], Sr_0]) (oI 5 encY r_0v u0_.1 (oE (Value.tuple #[]) [[(br, 69, #[r_0v, Value.int .i64 (u0_.2.1), Value.int .i64 (u0_.2.2)])]]))) v_ L_ U_)]) ?_
  refine r_v (Value.pointer (some ⟨br, 0, none⟩)) rfl rfl rfl rfl ?_
  refine r_v (Value.pointer (some ⟨br, 0, none⟩)) rfl rfl rfl rfl ?_
  refine r_v (Value.pointer (some ⟨br, 1, none⟩)) rfl rfl rfl rfl ?_
  refine r_v (Value.int .i64 (e')) rfl rfl rfl rfl ?_
  replace hM := bind_sm hM; obtain ⟨r2, hr3, hM⟩ := hM
  replace hM := ck_some hM; obtain ⟨ck4, hM⟩ := hM
  refine r_gm (Ls := [[(br, 69, #[r_0v, Value.int .i64 (r_1), Value.int .i64 (r_2)])], Sr_0]) (FL := [[(br, 69, #[r_0v, Value.int .i64 (r_1), Value.int .i64 (r_2)])], Sr_0]) (RL := []) [0, 1] (oI 5 encY r_0v r2.1 (oE (Value.tuple #[]) [[(br, 69, #[r_0v, Value.int .i64 (r2.2.1), Value.int .i64 (r2.2.2)])]])) (some 10) 66 _ rfl rfl rfl rfl rfl (ev_callF rfl call_66 rfl) (fun own_ nw_ hn_ hs_ => wire_spot_fail_v2_g N r_0 r_1 r_2 e' _ hr3 _ br r_0v Sr_0 hr_0) (fun _ _ v_ L_ U_ => ⟨fun h_ => h_ _ hr3, fun h_ => by intro _ e_; cases Option.some.inj (e_.symm.trans hr3); exact h_⟩) (fun h_ => nomatch h_) ?_
  rintro _ _ ⟨S5, _, H6, ⟨rfl, rfl⟩, rfl⟩
  refine lx_perm (Ls := [S5, [(br, 69, #[r_0v, Value.int .i64 (r2.2.1), Value.int .i64 (r2.2.2)])]]) (Ls' := [[(br, 69, #[r_0v, Value.int .i64 (r2.2.1), Value.int .i64 (r2.2.2)])], S5]) [1, 0] rfl rfl ?_
  refine lx_nil ?_
  obtain rfl := Option.some.inj hM
  refine endsN (v0 := Value.tuple #[]) (O := [S5, [(br, 69, #[r_0v, Value.int .i64 (r2.2.1), Value.int .i64 (r2.2.2)])]]) rfl (Sub.pick [[(br, 69, #[r_0v, Value.int .i64 (r2.2.1), Value.int .i64 (r2.2.2)])], S5] [1, 0] rfl) ⟨S5, _, H6, ⟨rfl, rfl⟩, rfl⟩
theorem eg_30 : Try.prog.eqGuardType Try.prog.depth 30 = false := by kernel_rfl
theorem si_30 : Try.prog.stoodInHeld 30 = false := by kernel_rfl
set_option maxRecDepth 100000 in
theorem eqst_30 {c : Addr → Option Value} (x0 y0 : Int) (x1 y1 : BitVec 128) : ev Try.prog c (Op.equal 30 (.agg #[Value.int .i64 (x0), U (hi (x1)), U (lo (x1))]) (.agg #[Value.int .i64 (y0), U (hi (y1)), U (lo (y1))])) = some ((x0 == y0) && (x1 == y1)) := by
  have h := ev_eqStruct (P := Try.prog) (c := c) 9999 (t := 30) #[Value.int .i64 (x0), U (hi (x1)), U (lo (x1))] #[Value.int .i64 (y0), U (hi (y1)), U (lo (y1))] rfl si_30 (fun f => if f.offset = 0 then ((x0 : Int) == y0) else if f.offset = 1 then (((hi (x1)).toNat : Int) == ((hi (y1)).toNat : Int)) else (((lo (x1)).toNat : Int) == ((lo (y1)).toNat : Int)))
    (fun f hf => by
      simp only [List.mem_cons, List.not_mem_nil, or_false] at hf
      rcases hf with rfl | rfl | rfl
      · exact ⟨by decide, _, _, ev_partS (P := Try.prog) (t := 3) rfl (by intro fs h; cases h) (by intro n e h; cases h) _ _ rfl, ev_partS (P := Try.prog) (t := 3) rfl (by intro fs h; cases h) (by intro n e h; cases h) _ _ rfl, ev_eqInt _ _ _ rfl⟩
      · exact ⟨by decide, _, _, ev_partS (P := Try.prog) (t := 28) rfl (by intro fs h; cases h) (by intro n e h; cases h) _ _ rfl, ev_partS (P := Try.prog) (t := 28) rfl (by intro fs h; cases h) (by intro n e h; cases h) _ _ rfl, ev_eqInt _ _ _ rfl⟩
      · exact ⟨by decide, _, _, ev_partS (P := Try.prog) (t := 28) rfl (by intro fs h; cases h) (by intro n e h; cases h) _ _ rfl, ev_partS (P := Try.prog) (t := 28) rfl (by intro fs h; cases h) (by intro n e h; cases h) _ _ rfl, ev_eqInt _ _ _ rfl⟩)
  rw [← word_beq x1 y1]; rw [show Op.equal 30 (.agg #[Value.int .i64 (x0), U (hi (x1)), U (lo (x1))]) (.agg #[Value.int .i64 (y0), U (hi (y1)), U (lo (y1))]) = Op.equalIn (9999 + 1) 30 (.agg #[Value.int .i64 (x0), U (hi (x1)), U (lo (x1))]) (.agg #[Value.int .i64 (y0), U (hi (y1)), U (lo (y1))]) from rfl, h]
  first | (simp; done) | simp [Bool.and_assoc]
def shunterlaw07_reads_v1_k6 (N : Nat) (x_0 : List UInt8) (x_1 : Int) (x_2 : Int) (x_3 : Int) (o_0 : Int) (o_2 : Int) (n3_ : Int) (rv5_ : List UInt8) (m4__1 : Int) (m4__2 : Int) : Option ((List UInt8) × Int × Int × Int × Bool × (List UInt8) × Int × Int) := ck ((0 : Int) ≤ ((BitVec.ofInt 64 (o_0)).toNat : Int)) ((shunterref07_Take_v1_m N x_0 x_1 x_2 x_3 (shlI (1 : Int) (((BitVec.ofInt 64 (o_0)).toNat : Int)).toNat) o_2).bind fun r11 => some (r11.1, r11.2.1, r11.2.2.1, r11.2.2.2.1, ((n3_ : Int) == r11.2.2.2.2), rv5_, m4__1, m4__2))
def shunterlaw07_reads_v1_k14 (r70 : (List (Int × BitVec 128)) × (List UInt8) × Int × Int) (want7_ : List (Int × BitVec 128)) (i12_ : Int) (rec_shunterlaw07_reads_v1_l13 : Bool → Int → Option ((List UInt8) × Int × Int × Int × Bool × (List UInt8) × Int × Int)) : Option ((List UInt8) × Int × Int × Int × Bool × (List UInt8) × Int × Int) := ck (0 ≤ i12_ ∧ i12_ < ((r70.1).length : Int)) (ck (0 ≤ i12_ ∧ i12_ < ((want7_).length : Int)) (ck ((-9223372036854775808 ≤ (i12_ + 1) ∧ (i12_ + 1) ≤ 9223372036854775807)) (rec_shunterlaw07_reads_v1_l13 (((((r70.1)[(i12_).toNat]!).1) == (((want7_)[(i12_).toNat]!).1)) && ((((r70.1)[(i12_).toNat]!).2) == (((want7_)[(i12_).toNat]!).2))) ((i12_ + 1)))))
def shunterlaw07_reads_v1_l13 (r70 : (List (Int × BitVec 128)) × (List UInt8) × Int × Int) (want7_ : List (Int × BitVec 128)) (m9__0 : List UInt8) (m9__1 : Int) (m9__2 : Int) (m9__3 : Int) : Nat → Bool → Int → Option ((List UInt8) × Int × Int × Int × Bool × (List UInt8) × Int × Int)
  | 0, _, _ => none
  | n114 + 1, same11_, i12_ => if (i12_ : Int) < ((want7_).length : Int) then if (same11_) = true then shunterlaw07_reads_v1_k14 r70 want7_ i12_ (shunterlaw07_reads_v1_l13 r70 want7_ m9__0 m9__1 m9__2 m9__3 n114)  else some (m9__0, m9__1, m9__2, m9__3, same11_, r70.2.1, r70.2.2.1, r70.2.2.2) else some (m9__0, m9__1, m9__2, m9__3, same11_, r70.2.1, r70.2.2.1, r70.2.2.2)
def shunterlaw07_reads_v1_l10 (N : Nat) (r70 : (List (Int × BitVec 128)) × (List UInt8) × Int × Int) (r79 : (List UInt8) × Int × Int × Int × Int) : Nat → List (Int × BitVec 128) → Int → List UInt8 → Int → Int → Int → Option ((List UInt8) × Int × Int × Int × Bool × (List UInt8) × Int × Int)
  | 0, _, _, _, _, _, _ => none
  | n87 + 1, want7_, i8_, m9__0, m9__1, m9__2, m9__3 => if (i8_ : Int) < r79.2.2.2.2 then (shunterref07_TakeVec_v1_m N m9__0 m9__1 m9__2 m9__3).bind fun r95 => ck ((want7_).length + ([(r95.2.2.2.2.1, r95.2.2.2.2.2)]).length ≤ 5864062014805) (ck ((-9223372036854775808 ≤ (i8_ + 1) ∧ (i8_ + 1) ≤ 9223372036854775807)) ((shunterlaw07_reads_v1_l10 N r70 r79 n87) ((want7_ ++ ([(r95.2.2.2.2.1, r95.2.2.2.2.2)]))) ((i8_ + 1)) (r95.1) (r95.2.1) (r95.2.2.1) (r95.2.2.2.1))) else if (m9__2 : Int) ≠ 0 then some (m9__0, m9__1, m9__2, m9__3, ((((r70.1).length : Int) : Int) == 0), r70.2.1, r70.2.2.1, r70.2.2.2) else shunterlaw07_reads_v1_l13 r70 want7_ m9__0 m9__1 m9__2 m9__3 N (((((r70.1).length : Int) : Int) == ((want7_).length : Int))) (0)
def shunterlaw07_reads_v1_k22 (r127 : (List Int) × (List UInt8) × Int × Int) (want15_ : List Int) (i20_ : Int) (rec_shunterlaw07_reads_v1_l21 : Bool → Int → Option ((List UInt8) × Int × Int × Int × Bool × (List UInt8) × Int × Int)) : Option ((List UInt8) × Int × Int × Int × Bool × (List UInt8) × Int × Int) := ck (0 ≤ i20_ ∧ i20_ < ((r127.1).length : Int)) (ck (0 ≤ i20_ ∧ i20_ < ((want15_).length : Int)) (ck ((-9223372036854775808 ≤ (i20_ + 1) ∧ (i20_ + 1) ≤ 9223372036854775807)) (rec_shunterlaw07_reads_v1_l21 ((((r127.1)[(i20_).toNat]! : Int) == (want15_)[(i20_).toNat]!)) ((i20_ + 1)))))
def shunterlaw07_reads_v1_l21 (r127 : (List Int) × (List UInt8) × Int × Int) (want15_ : List Int) (m17__0 : List UInt8) (m17__1 : Int) (m17__2 : Int) (m17__3 : Int) : Nat → Bool → Int → Option ((List UInt8) × Int × Int × Int × Bool × (List UInt8) × Int × Int)
  | 0, _, _ => none
  | n170 + 1, same19_, i20_ => if (i20_ : Int) < ((want15_).length : Int) then if (same19_) = true then shunterlaw07_reads_v1_k22 r127 want15_ i20_ (shunterlaw07_reads_v1_l21 r127 want15_ m17__0 m17__1 m17__2 m17__3 n170)  else some (m17__0, m17__1, m17__2, m17__3, same19_, r127.2.1, r127.2.2.1, r127.2.2.2) else some (m17__0, m17__1, m17__2, m17__3, same19_, r127.2.1, r127.2.2.1, r127.2.2.2)
def shunterlaw07_reads_v1_l18 (N : Nat) (o_3 : Int) (r127 : (List Int) × (List UInt8) × Int × Int) (r136 : (List UInt8) × Int × Int × Int × Int) : Nat → List Int → Int → List UInt8 → Int → Int → Int → Option ((List UInt8) × Int × Int × Int × Bool × (List UInt8) × Int × Int)
  | 0, _, _, _, _, _, _ => none
  | n144 + 1, want15_, i16_, m17__0, m17__1, m17__2, m17__3 => if (i16_ : Int) < r136.2.2.2.2 then (shunterref07_Take_v1_m N m17__0 m17__1 m17__2 m17__3 1 o_3).bind fun r151 => ck ((want15_).length + ([r151.2.2.2.2]).length ≤ 17592186044416) (ck ((-9223372036854775808 ≤ (i16_ + 1) ∧ (i16_ + 1) ≤ 9223372036854775807)) ((shunterlaw07_reads_v1_l18 N o_3 r127 r136 n144) ((want15_ ++ ([r151.2.2.2.2]))) ((i16_ + 1)) (r151.1) (r151.2.1) (r151.2.2.1) (r151.2.2.2.1))) else if (m17__2 : Int) ≠ 0 then some (m17__0, m17__1, m17__2, m17__3, ((((r127.1).length : Int) : Int) == 0), r127.2.1, r127.2.2.1, r127.2.2.2) else shunterlaw07_reads_v1_l21 r127 want15_ m17__0 m17__1 m17__2 m17__3 N (((((r127.1).length : Int) : Int) == ((want15_).length : Int))) (0)
def shunterlaw07_reads_v1_k24 (x_0 : List UInt8) (x_1 : Int) (x_2 : Int) (x_3 : Int) (o_1 : Int) (r183 : (List UInt8) × Int × Int) (x23_ : Bool) : Option ((List UInt8) × Int × Int × Int × Bool × (List UInt8) × Int × Int) := if (x23_) = true then some (x_0, x_1, o_1, x_1, true, r183.1, r183.2.1, r183.2.2) else some (x_0, x_1, x_2, x_3, true, r183.1, r183.2.1, r183.2.2)
def shunterlaw07_reads_v1_k2 (N : Nat) (r_0 : List UInt8) (r_1 : Int) (r_2 : Int) (x_0 : List UInt8) (x_1 : Int) (x_2 : Int) (x_3 : Int) (o_0 : Int) (o_1 : Int) (o_2 : Int) (o_3 : Int) (x1_ : Bool) : Option ((List UInt8) × Int × Int × Int × Bool × (List UInt8) × Int × Int) := if (x1_) = true then if (o_0 : Int) = 0 then (wire_Reader_Byte_v2_m N r_0 r_1 r_2 o_2).bind fun r18 => ck ((r18.2.1).length = (r_0).length) (shunterlaw07_reads_v1_k6 N x_0 x_1 x_2 x_3 o_0 o_2 (r18.1) (r18.2.1) (r18.2.2.1) (r18.2.2.2)) else if (o_0 : Int) = 1 then (wire_Reader_Two_v1_m N r_0 r_1 r_2 o_2).bind fun r25 => ck ((r25.2.1).length = (r_0).length) (shunterlaw07_reads_v1_k6 N x_0 x_1 x_2 x_3 o_0 o_2 (r25.1) (r25.2.1) (r25.2.2.1) (r25.2.2.2)) else (wire_Reader_Four_v1_m N r_0 r_1 r_2 o_2).bind fun r30 => ck ((r30.2.1).length = (r_0).length) (shunterlaw07_reads_v1_k6 N x_0 x_1 x_2 x_3 o_0 o_2 (r30.1) (r30.2.1) (r30.2.2.1) (r30.2.2.2)) else if (o_0 : Int) = 3 then (wire_Reader_Vec_v1_m N r_0 r_1 r_2).bind fun r38 => ck ((r38.2.2.1).length = (r_0).length) ((shunterref07_TakeVec_v1_m N x_0 x_1 x_2 x_3).bind fun r45 => some (r45.1, r45.2.1, r45.2.2.1, r45.2.2.2.1, ((r38.1) == (r45.2.2.2.2.1)) && ((r38.2.1) == (r45.2.2.2.2.2)), r38.2.2.1, r38.2.2.2.1, r38.2.2.2.2)) else if (o_0 : Int) = 4 then (wire_Reader_Name_v1_m N r_0 r_1 r_2).bind fun r55 => ck ((r55.2.1).length = (r_0).length) ((shunterref07_TakeName_v1_m N x_0 x_1 x_2 x_3).bind fun r61 => some (r61.1, r61.2.1, r61.2.2.1, r61.2.2.2.1, (r55.1) == (r61.2.2.2.2), r55.2.1, r55.2.2.1, r55.2.2.2)) else if (o_0 : Int) = 5 then (wire_Reader_Vecs_v1_m N r_0 r_1 r_2 o_2).bind fun r70 => ck ((r70.2.1).length = (r_0).length) ((shunterref07_Count_v1_m N x_0 x_1 x_2 x_3 o_2).bind fun r79 => shunterlaw07_reads_v1_l10 N r70 r79 N ([]) (0) (r79.1) (r79.2.1) (r79.2.2.1) (r79.2.2.2.1)) else if (o_0 : Int) = 6 then (wire_Reader_Numbers_v1_m N r_0 r_1 r_2 o_2 o_3).bind fun r127 => ck ((r127.2.1).length = (r_0).length) ((shunterref07_Count_v1_m N x_0 x_1 x_2 x_3 o_2).bind fun r136 => shunterlaw07_reads_v1_l18 N o_3 r127 r136 N ([]) (0) (r136.1) (r136.2.1) (r136.2.2.1) (r136.2.2.2.1)) else if (o_0 : Int) = 7 then (wire_Reader_Fail_v1_m N r_0 r_1 r_2 o_1).bind fun r183 => ck ((r183.1).length = (r_0).length) (if (x_2 : Int) = 0 then shunterlaw07_reads_v1_k24 x_0 x_1 x_2 x_3 o_1 r183 (((o_1 : Int) != 0)) else shunterlaw07_reads_v1_k24 x_0 x_1 x_2 x_3 o_1 r183 (false)) else some (x_0, x_1, x_2, x_3, true, r_0, r_1, r_2)
def shunterlaw07_reads_v1_m (N : Nat) (r_0 : List UInt8) (r_1 : Int) (r_2 : Int) (x_0 : List UInt8) (x_1 : Int) (x_2 : Int) (x_3 : Int) (o_0 : Int) (o_1 : Int) (o_2 : Int) (o_3 : Int) (_ : Int) (_ : BitVec 128) (_ : List UInt8) (_ : List (Int × BitVec 128)) (_ : List Int) : Option ((List UInt8) × Int × Int × Int × Bool × (List UInt8) × Int × Int) := if (o_0 : Int) = 0 then shunterlaw07_reads_v1_k2 N r_0 r_1 r_2 x_0 x_1 x_2 x_3 o_0 o_1 o_2 o_3 (((o_0 : Int) == 0)) else if (o_0 : Int) = 1 then shunterlaw07_reads_v1_k2 N r_0 r_1 r_2 x_0 x_1 x_2 x_3 o_0 o_1 o_2 o_3 (((o_0 : Int) == 1)) else shunterlaw07_reads_v1_k2 N r_0 r_1 r_2 x_0 x_1 x_2 x_3 o_0 o_1 o_2 o_3 (((o_0 : Int) == 2))
set_option maxRecDepth 100000 in
set_option maxHeartbeats 8000000 in
theorem shunterlaw07_reads_v1_g (N : Nat) (r_0 : List UInt8) (r_1 : Int) (r_2 : Int) (x_0 : List UInt8) (x_1 : Int) (x_2 : Int) (x_3 : Int) (o_0 : Int) (o_1 : Int) (o_2 : Int) (o_3 : Int) (o_4 : Int) (o_5 : BitVec 128) (o_6 : List UInt8) (o_7 : List (Int × BitVec 128)) (o_8 : List Int) (r : (List UInt8) × Int × Int × Int × Bool × (List UInt8) × Int × Int) (hM : shunterlaw07_reads_v1_m N r_0 r_1 r_2 x_0 x_1 x_2 x_3 o_0 o_1 o_2 o_3 o_4 o_5 o_6 o_7 o_8 = some r) (ro : Addr → Option Value) (br : Nat) (r_0v : Value) (Sr_0 : List Bl) (hr_0 : Sl 5 encY r_0v r_0 Sr_0) (x_0v : Value) (hx_0 : Rd encY ro x_0v x_0) (o_7v : Value) (_ho_7 : Rd enc_30 ro o_7v o_7) (o_8v : Value) (_ho_8 : Rd encI ro o_8v o_8) : Does Try.prog 10 #[Value.pointer (some ⟨br, 0, none⟩), Value.agg #[x_0v, Value.int .i64 (x_1), Value.int .i64 (x_2), Value.int .i64 (x_3)], Value.agg #[Value.int .i64 (o_0), Value.int .i64 (o_1), Value.int .i64 (o_2), Value.int .i64 (o_3), Value.int .i64 (o_4), U (hi (o_5)), U (lo (o_5)), Value.string (⟨(o_6).toArray⟩), o_7v, o_8v]] ro (List.flatten [[(br, 69, #[r_0v, Value.int .i64 (r_1), Value.int .i64 (r_2)])], Sr_0]) (pO (List.flatten [[(br, 69, #[r_0v, Value.int .i64 (r_1), Value.int .i64 (r_2)])], Sr_0]) (oR encY ro r.1 fun s_0 => (oI 5 encY r_0v r.2.2.2.2.2.1 (oE (Value.tuple #[Value.agg #[s_0, Value.int .i64 (r.2.1), Value.int .i64 (r.2.2.1), Value.int .i64 (r.2.2.2.1)], Value.bool (r.2.2.2.2.1)]) [[(br, 69, #[r_0v, Value.int .i64 (r.2.2.2.2.2.2.1), Value.int .i64 (r.2.2.2.2.2.2.2)])]])))) := by
  unfold shunterlaw07_reads_v1_m at hM
  refine doesO_of_A follows Try.func10 rfl 241 rfl (upd (upd (upd (fun _ => undef) 2 (Value.agg #[Value.int .i64 (o_0), Value.int .i64 (o_1), Value.int .i64 (o_2), Value.int .i64 (o_3), Value.int .i64 (o_4), U (hi (o_5)), U (lo (o_5)), Value.string (⟨(o_6).toArray⟩), o_7v, o_8v])) 1 (Value.agg #[x_0v, Value.int .i64 (x_1), Value.int .i64 (x_2), Value.int .i64 (x_3)])) 0 (Value.pointer (some ⟨br, 0, none⟩))) (by funext k; match k with | 0 => rfl | 1 => rfl | 2 => rfl | k + 3 => rfl) (fun _ _ h_ _ => h_) (fun base0_ => ?_)
  refine A_seq fun K1 hK1 => ?_
  refine A_reg ?_
  refine r_a (39, #[x_0v, Value.int .i64 (x_1), Value.int .i64 (x_2), Value.int .i64 (x_3)]) rfl rfl rfl (fun b2 => ?_) (.inr rfl)
  refine r_a (34, #[Value.int .i64 (o_0), Value.int .i64 (o_1), Value.int .i64 (o_2), Value.int .i64 (o_3), Value.int .i64 (o_4), U (hi (o_5)), U (lo (o_5)), Value.string (⟨(o_6).toArray⟩), o_7v, o_8v]) rfl rfl rfl (fun b3 => ?_) (.inr rfl)
  refine r_a (39, #[Value.slice none 0 0, Value.int .i64 (0), Value.int .i64 (0), Value.int .i64 (0)]) rfl rfl rfl (fun b4 => ?_) (.inr rfl)
  refine r_v (Value.bool (false)) rfl rfl rfl rfl ?_
  refine lx_nil ?_
  refine hK1 _ _ ?_; try clear hK1 K1
  refine A_seq fun K5 hK5 => ?_
  refine A_seq fun K6 hK6 => ?_
  refine A_reg ?_
  refine r_v (Value.pointer (some ⟨b3, 0, none⟩)) rfl rfl rfl rfl ?_
  refine r_l (Value.int .i64 (o_0)) 1 _ _ _ _ rfl rfl rfl rfl rfl ?_
  refine lx_nil ?_
  refine hK6 _ _ ?_; try clear hK6 K6
  refine A_block ?_
  refine A_cut (fun tt ll => ∃ (x1_ : Bool), (shunterlaw07_reads_v1_k2 N r_0 r_1 r_2 x_0 x_1 x_2 x_3 o_0 o_1 o_2 o_3 x1_ = some r) ∧ Is [(0, Value.pointer (some ⟨br, 0, none⟩)), (4, Value.pointer (some ⟨b2, 0, none⟩)), (5, Value.pointer (some ⟨b3, 0, none⟩)), (6, Value.pointer (some ⟨b4, 0, none⟩)), (33, Value.int .i64 (o_0)), (34, Value.bool (x1_))] (List.flatten [[(b4, 39, #[Value.slice none 0 0, Value.int .i64 (0), Value.int .i64 (0), Value.int .i64 (0)])], [(b3, 34, #[Value.int .i64 (o_0), Value.int .i64 (o_1), Value.int .i64 (o_2), Value.int .i64 (o_3), Value.int .i64 (o_4), U (hi (o_5)), U (lo (o_5)), Value.string (⟨(o_6).toArray⟩), o_7v, o_8v])], [(b2, 39, #[x_0v, Value.int .i64 (x_1), Value.int .i64 (x_2), Value.int .i64 (x_3)])], [(br, 69, #[r_0v, Value.int .i64 (r_1), Value.int .i64 (r_2)])], Sr_0]) tt ll) ?_ ?_
  · refine A_seq fun K194 hK194 => ?_
    refine A_reg ?_
    refine r_v (Value.bool (((o_0 : Int) == 0))) rfl rfl rfl rfl ?_
    refine r_v (Value.bool (((o_0 : Int) == 0))) rfl rfl rfl rfl ?_
    refine lx_nil ?_
    refine hK194 _ _ ?_; try clear hK194 K194
    refine A_cond (((o_0 : Int) == 0)) rfl (fun hc195 => ?_) (fun hc195 => ?_)
    · replace hM := ifp (eq_of_beq hc195) hM
      refine A_skip ?_
      refine fg _ (Sub.pick [[(b4, 39, #[Value.slice none 0 0, Value.int .i64 (0), Value.int .i64 (0), Value.int .i64 (0)])], [(b3, 34, #[Value.int .i64 (o_0), Value.int .i64 (o_1), Value.int .i64 (o_2), Value.int .i64 (o_3), Value.int .i64 (o_4), U (hi (o_5)), U (lo (o_5)), Value.string (⟨(o_6).toArray⟩), o_7v, o_8v])], [(b2, 39, #[x_0v, Value.int .i64 (x_1), Value.int .i64 (x_2), Value.int .i64 (x_3)])], [(br, 69, #[r_0v, Value.int .i64 (r_1), Value.int .i64 (r_2)])], Sr_0] [0, 1, 2, 3, 4] rfl) ?_
      exact ⟨((o_0 : Int) == 0), hM, is_mk rfl rfl⟩
    · replace hM := ifn (ne_of_beq_false hc195) hM
      refine A_seq fun K196 hK196 => ?_
      refine A_reg ?_
      refine r_v (Value.bool (((o_0 : Int) == 1))) rfl rfl rfl rfl ?_
      refine r_v (Value.bool (((o_0 : Int) == 1))) rfl rfl rfl rfl ?_
      refine lx_nil ?_
      refine hK196 _ _ ?_; try clear hK196 K196
      refine A_cond (((o_0 : Int) == 1)) rfl (fun hc197 => ?_) (fun hc197 => ?_)
      · replace hM := ifp (eq_of_beq hc197) hM
        refine A_skip ?_
        refine fg _ (Sub.pick [[(b4, 39, #[Value.slice none 0 0, Value.int .i64 (0), Value.int .i64 (0), Value.int .i64 (0)])], [(b3, 34, #[Value.int .i64 (o_0), Value.int .i64 (o_1), Value.int .i64 (o_2), Value.int .i64 (o_3), Value.int .i64 (o_4), U (hi (o_5)), U (lo (o_5)), Value.string (⟨(o_6).toArray⟩), o_7v, o_8v])], [(b2, 39, #[x_0v, Value.int .i64 (x_1), Value.int .i64 (x_2), Value.int .i64 (x_3)])], [(br, 69, #[r_0v, Value.int .i64 (r_1), Value.int .i64 (r_2)])], Sr_0] [0, 1, 2, 3, 4] rfl) ?_
        exact ⟨((o_0 : Int) == 1), hM, is_mk rfl rfl⟩
      · replace hM := ifn (ne_of_beq_false hc197) hM
        refine A_reg ?_
        refine r_v (Value.bool (((o_0 : Int) == 2))) rfl rfl rfl rfl ?_
        refine r_v (Value.bool (((o_0 : Int) == 2))) rfl rfl rfl rfl ?_
        refine lx_nil ?_
        refine fg _ (Sub.pick [[(b4, 39, #[Value.slice none 0 0, Value.int .i64 (0), Value.int .i64 (0), Value.int .i64 (0)])], [(b3, 34, #[Value.int .i64 (o_0), Value.int .i64 (o_1), Value.int .i64 (o_2), Value.int .i64 (o_3), Value.int .i64 (o_4), U (hi (o_5)), U (lo (o_5)), Value.string (⟨(o_6).toArray⟩), o_7v, o_8v])], [(b2, 39, #[x_0v, Value.int .i64 (x_1), Value.int .i64 (x_2), Value.int .i64 (x_3)])], [(br, 69, #[r_0v, Value.int .i64 (r_1), Value.int .i64 (r_2)])], Sr_0] [0, 1, 2, 3, 4] rfl) ?_
        exact ⟨((o_0 : Int) == 2), hM, is_mk rfl rfl⟩
  · clear hM; rintro t l ⟨x1_, hM, ⟨T, rfl⟩, rfl⟩
    unfold shunterlaw07_reads_v1_k2 at hM
    refine A_cond (x1_) rfl (fun hc7 => ?_) (fun hc7 => ?_)
    · replace hM := ifp hc7 hM
      refine A_seq fun K8 hK8 => ?_
      refine A_reg ?_
      refine r_v (Value.int .i64 (0)) rfl rfl rfl rfl ?_
      refine r_v (Value.int .i64 (0)) rfl rfl rfl rfl ?_
      refine lx_nil ?_
      refine hK8 _ _ ?_; try clear hK8 K8
      refine A_cut (fun tt ll => ∃ (n3_ : Int) (rv5_ : List UInt8) (m4__1 : Int) (m4__2 : Int), (shunterlaw07_reads_v1_k6 N x_0 x_1 x_2 x_3 o_0 o_2 n3_ rv5_ m4__1 m4__2 = some r) ∧ ∃ (Srv5_ : List Bl), Sl 5 encY r_0v rv5_ Srv5_ ∧ Is [(4, Value.pointer (some ⟨b2, 0, none⟩)), (5, Value.pointer (some ⟨b3, 0, none⟩)), (6, Value.pointer (some ⟨b4, 0, none⟩)), (8, Value.int .i64 (n3_))] (List.flatten [[(b4, 39, #[Value.slice none 0 0, Value.int .i64 (0), Value.int .i64 (0), Value.int .i64 (0)])], [(b3, 34, #[Value.int .i64 (o_0), Value.int .i64 (o_1), Value.int .i64 (o_2), Value.int .i64 (o_3), Value.int .i64 (o_4), U (hi (o_5)), U (lo (o_5)), Value.string (⟨(o_6).toArray⟩), o_7v, o_8v])], [(b2, 39, #[x_0v, Value.int .i64 (x_1), Value.int .i64 (x_2), Value.int .i64 (x_3)])], [(br, 69, #[r_0v, Value.int .i64 (m4__1), Value.int .i64 (m4__2)])], Srv5_]) tt ll) ?_ ?_
      · refine A_seq fun K16 hK16 => ?_
        refine A_reg ?_
        refine r_v (Value.pointer (some ⟨b3, 0, none⟩)) rfl rfl rfl rfl ?_
        refine r_l (Value.int .i64 (o_0)) 1 _ _ _ _ rfl rfl rfl rfl rfl ?_
        refine r_v (Value.bool (((o_0 : Int) == 0))) rfl rfl rfl rfl ?_
        refine lx_nil ?_
        refine hK16 _ _ ?_; try clear hK16 K16
        refine A_cond (((o_0 : Int) == 0)) rfl (fun hc17 => ?_) (fun hc17 => ?_)
        · replace hM := ifp (eq_of_beq hc17) hM
          refine A_regC [(some 44, true)] (conG Try.prog [(44, fun _ _ v_ L_ U_ => ∀ u0_, wire_Reader_Byte_v2_m N r_0 r_1 r_2 o_2 = some u0_ → (pO (List.flatten [[(br, 69, #[r_0v, Value.int .i64 (r_1), Value.int .i64 (r_2)])], Sr_0]) (oI 5 encY r_0v u0_.2.1 (oE (Value.int .i64 (u0_.1)) [[(br, 69, #[r_0v, Value.int .i64 (u0_.2.2.1), Value.int .i64 (u0_.2.2.2)])]]))) v_ L_ U_)]) ?_
          refine r_v (Value.pointer (some ⟨br, 0, none⟩)) rfl rfl rfl rfl ?_
          refine r_v (Value.pointer (some ⟨b3, 2, none⟩)) rfl rfl rfl rfl ?_
          refine r_l (Value.int .i64 (o_2)) 1 _ _ _ _ rfl rfl rfl rfl rfl ?_
          replace hM := bind_sm hM; obtain ⟨r18, hr19, hM⟩ := hM
          replace hM := ck_some hM; obtain ⟨ck20, hM⟩ := hM
          refine r_gm (Ls := [[(b4, 39, #[Value.slice none 0 0, Value.int .i64 (0), Value.int .i64 (0), Value.int .i64 (0)])], [(b3, 34, #[Value.int .i64 (o_0), Value.int .i64 (o_1), Value.int .i64 (o_2), Value.int .i64 (o_3), Value.int .i64 (o_4), U (hi (o_5)), U (lo (o_5)), Value.string (⟨(o_6).toArray⟩), o_7v, o_8v])], [(b2, 39, #[x_0v, Value.int .i64 (x_1), Value.int .i64 (x_2), Value.int .i64 (x_3)])], [(br, 69, #[r_0v, Value.int .i64 (r_1), Value.int .i64 (r_2)])], Sr_0]) (FL := [[(br, 69, #[r_0v, Value.int .i64 (r_1), Value.int .i64 (r_2)])], Sr_0]) (RL := [[(b4, 39, #[Value.slice none 0 0, Value.int .i64 (0), Value.int .i64 (0), Value.int .i64 (0)])], [(b3, 34, #[Value.int .i64 (o_0), Value.int .i64 (o_1), Value.int .i64 (o_2), Value.int .i64 (o_3), Value.int .i64 (o_4), U (hi (o_5)), U (lo (o_5)), Value.string (⟨(o_6).toArray⟩), o_7v, o_8v])], [(b2, 39, #[x_0v, Value.int .i64 (x_1), Value.int .i64 (x_2), Value.int .i64 (x_3)])]]) [3, 4] (oI 5 encY r_0v r18.2.1 (oE (Value.int .i64 (r18.1)) [[(br, 69, #[r_0v, Value.int .i64 (r18.2.2.1), Value.int .i64 (r18.2.2.2)])]])) (some 44) 19 _ rfl rfl rfl rfl rfl (ev_callF rfl call_19 rfl) (fun own_ nw_ hn_ hs_ => wire_Reader_Byte_v2_g N r_0 r_1 r_2 o_2 _ hr19 _ br r_0v Sr_0 hr_0) (fun _ _ v_ L_ U_ => ⟨fun h_ => h_ _ hr19, fun h_ => by intro _ e_; cases Option.some.inj (e_.symm.trans hr19); exact h_⟩) (fun h_ => nomatch h_) ?_
          rintro _ _ ⟨S21, _, H22, ⟨rfl, rfl⟩, rfl⟩
          refine lx_perm (Ls := [[(b4, 39, #[Value.slice none 0 0, Value.int .i64 (0), Value.int .i64 (0), Value.int .i64 (0)])], [(b3, 34, #[Value.int .i64 (o_0), Value.int .i64 (o_1), Value.int .i64 (o_2), Value.int .i64 (o_3), Value.int .i64 (o_4), U (hi (o_5)), U (lo (o_5)), Value.string (⟨(o_6).toArray⟩), o_7v, o_8v])], [(b2, 39, #[x_0v, Value.int .i64 (x_1), Value.int .i64 (x_2), Value.int .i64 (x_3)])], S21, [(br, 69, #[r_0v, Value.int .i64 (r18.2.2.1), Value.int .i64 (r18.2.2.2)])]]) (Ls' := [[(b4, 39, #[Value.slice none 0 0, Value.int .i64 (0), Value.int .i64 (0), Value.int .i64 (0)])], [(b3, 34, #[Value.int .i64 (o_0), Value.int .i64 (o_1), Value.int .i64 (o_2), Value.int .i64 (o_3), Value.int .i64 (o_4), U (hi (o_5)), U (lo (o_5)), Value.string (⟨(o_6).toArray⟩), o_7v, o_8v])], [(b2, 39, #[x_0v, Value.int .i64 (x_1), Value.int .i64 (x_2), Value.int .i64 (x_3)])], [(br, 69, #[r_0v, Value.int .i64 (r18.2.2.1), Value.int .i64 (r18.2.2.2)])], S21]) [0, 1, 2, 4, 3] rfl rfl ?_
          refine r_v (Value.int .i64 (r18.1)) rfl rfl rfl rfl ?_
          refine lx_nil ?_
          refine fg _ (Sub.pick [[(b4, 39, #[Value.slice none 0 0, Value.int .i64 (0), Value.int .i64 (0), Value.int .i64 (0)])], [(b3, 34, #[Value.int .i64 (o_0), Value.int .i64 (o_1), Value.int .i64 (o_2), Value.int .i64 (o_3), Value.int .i64 (o_4), U (hi (o_5)), U (lo (o_5)), Value.string (⟨(o_6).toArray⟩), o_7v, o_8v])], [(b2, 39, #[x_0v, Value.int .i64 (x_1), Value.int .i64 (x_2), Value.int .i64 (x_3)])], [(br, 69, #[r_0v, Value.int .i64 (r18.2.2.1), Value.int .i64 (r18.2.2.2)])], S21] [0, 1, 2, 3, 4] rfl) ?_
          exact ⟨r18.1, r18.2.1, r18.2.2.1, r18.2.2.2, hM, S21, H22, is_mk rfl rfl⟩
        · replace hM := ifn (ne_of_beq_false hc17) hM
          refine A_seq fun K23 hK23 => ?_
          refine A_reg ?_
          refine r_v (Value.pointer (some ⟨b3, 0, none⟩)) rfl rfl rfl rfl ?_
          refine r_l (Value.int .i64 (o_0)) 1 _ _ _ _ rfl rfl rfl rfl rfl ?_
          refine r_v (Value.bool (((o_0 : Int) == 1))) rfl rfl rfl rfl ?_
          refine lx_nil ?_
          refine hK23 _ _ ?_; try clear hK23 K23
          refine A_cond (((o_0 : Int) == 1)) rfl (fun hc24 => ?_) (fun hc24 => ?_)
          · replace hM := ifp (eq_of_beq hc24) hM
            refine A_regC [(some 51, true)] (conG Try.prog [(51, fun _ _ v_ L_ U_ => ∀ u0_, wire_Reader_Two_v1_m N r_0 r_1 r_2 o_2 = some u0_ → (pO (List.flatten [[(br, 69, #[r_0v, Value.int .i64 (r_1), Value.int .i64 (r_2)])], Sr_0]) (oI 5 encY r_0v u0_.2.1 (oE (Value.int .i64 (u0_.1)) [[(br, 69, #[r_0v, Value.int .i64 (u0_.2.2.1), Value.int .i64 (u0_.2.2.2)])]]))) v_ L_ U_)]) ?_
            refine r_v (Value.pointer (some ⟨br, 0, none⟩)) rfl rfl rfl rfl ?_
            refine r_v (Value.pointer (some ⟨b3, 2, none⟩)) rfl rfl rfl rfl ?_
            refine r_l (Value.int .i64 (o_2)) 1 _ _ _ _ rfl rfl rfl rfl rfl ?_
            replace hM := bind_sm hM; obtain ⟨r25, hr26, hM⟩ := hM
            replace hM := ck_some hM; obtain ⟨ck27, hM⟩ := hM
            refine r_gm (Ls := [[(b4, 39, #[Value.slice none 0 0, Value.int .i64 (0), Value.int .i64 (0), Value.int .i64 (0)])], [(b3, 34, #[Value.int .i64 (o_0), Value.int .i64 (o_1), Value.int .i64 (o_2), Value.int .i64 (o_3), Value.int .i64 (o_4), U (hi (o_5)), U (lo (o_5)), Value.string (⟨(o_6).toArray⟩), o_7v, o_8v])], [(b2, 39, #[x_0v, Value.int .i64 (x_1), Value.int .i64 (x_2), Value.int .i64 (x_3)])], [(br, 69, #[r_0v, Value.int .i64 (r_1), Value.int .i64 (r_2)])], Sr_0]) (FL := [[(br, 69, #[r_0v, Value.int .i64 (r_1), Value.int .i64 (r_2)])], Sr_0]) (RL := [[(b4, 39, #[Value.slice none 0 0, Value.int .i64 (0), Value.int .i64 (0), Value.int .i64 (0)])], [(b3, 34, #[Value.int .i64 (o_0), Value.int .i64 (o_1), Value.int .i64 (o_2), Value.int .i64 (o_3), Value.int .i64 (o_4), U (hi (o_5)), U (lo (o_5)), Value.string (⟨(o_6).toArray⟩), o_7v, o_8v])], [(b2, 39, #[x_0v, Value.int .i64 (x_1), Value.int .i64 (x_2), Value.int .i64 (x_3)])]]) [3, 4] (oI 5 encY r_0v r25.2.1 (oE (Value.int .i64 (r25.1)) [[(br, 69, #[r_0v, Value.int .i64 (r25.2.2.1), Value.int .i64 (r25.2.2.2)])]])) (some 51) 20 _ rfl rfl rfl rfl rfl (ev_callF rfl call_20 rfl) (fun own_ nw_ hn_ hs_ => wire_Reader_Two_v1_g N r_0 r_1 r_2 o_2 _ hr26 _ br r_0v Sr_0 hr_0) (fun _ _ v_ L_ U_ => ⟨fun h_ => h_ _ hr26, fun h_ => by intro _ e_; cases Option.some.inj (e_.symm.trans hr26); exact h_⟩) (fun h_ => nomatch h_) ?_
            rintro _ _ ⟨S28, _, H29, ⟨rfl, rfl⟩, rfl⟩
            refine lx_perm (Ls := [[(b4, 39, #[Value.slice none 0 0, Value.int .i64 (0), Value.int .i64 (0), Value.int .i64 (0)])], [(b3, 34, #[Value.int .i64 (o_0), Value.int .i64 (o_1), Value.int .i64 (o_2), Value.int .i64 (o_3), Value.int .i64 (o_4), U (hi (o_5)), U (lo (o_5)), Value.string (⟨(o_6).toArray⟩), o_7v, o_8v])], [(b2, 39, #[x_0v, Value.int .i64 (x_1), Value.int .i64 (x_2), Value.int .i64 (x_3)])], S28, [(br, 69, #[r_0v, Value.int .i64 (r25.2.2.1), Value.int .i64 (r25.2.2.2)])]]) (Ls' := [[(b4, 39, #[Value.slice none 0 0, Value.int .i64 (0), Value.int .i64 (0), Value.int .i64 (0)])], [(b3, 34, #[Value.int .i64 (o_0), Value.int .i64 (o_1), Value.int .i64 (o_2), Value.int .i64 (o_3), Value.int .i64 (o_4), U (hi (o_5)), U (lo (o_5)), Value.string (⟨(o_6).toArray⟩), o_7v, o_8v])], [(b2, 39, #[x_0v, Value.int .i64 (x_1), Value.int .i64 (x_2), Value.int .i64 (x_3)])], [(br, 69, #[r_0v, Value.int .i64 (r25.2.2.1), Value.int .i64 (r25.2.2.2)])], S28]) [0, 1, 2, 4, 3] rfl rfl ?_
            refine r_v (Value.int .i64 (r25.1)) rfl rfl rfl rfl ?_
            refine lx_nil ?_
            refine fg _ (Sub.pick [[(b4, 39, #[Value.slice none 0 0, Value.int .i64 (0), Value.int .i64 (0), Value.int .i64 (0)])], [(b3, 34, #[Value.int .i64 (o_0), Value.int .i64 (o_1), Value.int .i64 (o_2), Value.int .i64 (o_3), Value.int .i64 (o_4), U (hi (o_5)), U (lo (o_5)), Value.string (⟨(o_6).toArray⟩), o_7v, o_8v])], [(b2, 39, #[x_0v, Value.int .i64 (x_1), Value.int .i64 (x_2), Value.int .i64 (x_3)])], [(br, 69, #[r_0v, Value.int .i64 (r25.2.2.1), Value.int .i64 (r25.2.2.2)])], S28] [0, 1, 2, 3, 4] rfl) ?_
            exact ⟨r25.1, r25.2.1, r25.2.2.1, r25.2.2.2, hM, S28, H29, is_mk rfl rfl⟩
          · replace hM := ifn (ne_of_beq_false hc24) hM
            refine A_regC [(some 55, true)] (conG Try.prog [(55, fun _ _ v_ L_ U_ => ∀ u0_, wire_Reader_Four_v1_m N r_0 r_1 r_2 o_2 = some u0_ → (pO (List.flatten [[(br, 69, #[r_0v, Value.int .i64 (r_1), Value.int .i64 (r_2)])], Sr_0]) (oI 5 encY r_0v u0_.2.1 (oE (Value.int .i64 (u0_.1)) [[(br, 69, #[r_0v, Value.int .i64 (u0_.2.2.1), Value.int .i64 (u0_.2.2.2)])]]))) v_ L_ U_)]) ?_
            refine r_v (Value.pointer (some ⟨br, 0, none⟩)) rfl rfl rfl rfl ?_
            refine r_v (Value.pointer (some ⟨b3, 2, none⟩)) rfl rfl rfl rfl ?_
            refine r_l (Value.int .i64 (o_2)) 1 _ _ _ _ rfl rfl rfl rfl rfl ?_
            replace hM := bind_sm hM; obtain ⟨r30, hr31, hM⟩ := hM
            replace hM := ck_some hM; obtain ⟨ck32, hM⟩ := hM
            refine r_gm (Ls := [[(b4, 39, #[Value.slice none 0 0, Value.int .i64 (0), Value.int .i64 (0), Value.int .i64 (0)])], [(b3, 34, #[Value.int .i64 (o_0), Value.int .i64 (o_1), Value.int .i64 (o_2), Value.int .i64 (o_3), Value.int .i64 (o_4), U (hi (o_5)), U (lo (o_5)), Value.string (⟨(o_6).toArray⟩), o_7v, o_8v])], [(b2, 39, #[x_0v, Value.int .i64 (x_1), Value.int .i64 (x_2), Value.int .i64 (x_3)])], [(br, 69, #[r_0v, Value.int .i64 (r_1), Value.int .i64 (r_2)])], Sr_0]) (FL := [[(br, 69, #[r_0v, Value.int .i64 (r_1), Value.int .i64 (r_2)])], Sr_0]) (RL := [[(b4, 39, #[Value.slice none 0 0, Value.int .i64 (0), Value.int .i64 (0), Value.int .i64 (0)])], [(b3, 34, #[Value.int .i64 (o_0), Value.int .i64 (o_1), Value.int .i64 (o_2), Value.int .i64 (o_3), Value.int .i64 (o_4), U (hi (o_5)), U (lo (o_5)), Value.string (⟨(o_6).toArray⟩), o_7v, o_8v])], [(b2, 39, #[x_0v, Value.int .i64 (x_1), Value.int .i64 (x_2), Value.int .i64 (x_3)])]]) [3, 4] (oI 5 encY r_0v r30.2.1 (oE (Value.int .i64 (r30.1)) [[(br, 69, #[r_0v, Value.int .i64 (r30.2.2.1), Value.int .i64 (r30.2.2.2)])]])) (some 55) 21 _ rfl rfl rfl rfl rfl (ev_callF rfl call_21 rfl) (fun own_ nw_ hn_ hs_ => wire_Reader_Four_v1_g N r_0 r_1 r_2 o_2 _ hr31 _ br r_0v Sr_0 hr_0) (fun _ _ v_ L_ U_ => ⟨fun h_ => h_ _ hr31, fun h_ => by intro _ e_; cases Option.some.inj (e_.symm.trans hr31); exact h_⟩) (fun h_ => nomatch h_) ?_
            rintro _ _ ⟨S33, _, H34, ⟨rfl, rfl⟩, rfl⟩
            refine lx_perm (Ls := [[(b4, 39, #[Value.slice none 0 0, Value.int .i64 (0), Value.int .i64 (0), Value.int .i64 (0)])], [(b3, 34, #[Value.int .i64 (o_0), Value.int .i64 (o_1), Value.int .i64 (o_2), Value.int .i64 (o_3), Value.int .i64 (o_4), U (hi (o_5)), U (lo (o_5)), Value.string (⟨(o_6).toArray⟩), o_7v, o_8v])], [(b2, 39, #[x_0v, Value.int .i64 (x_1), Value.int .i64 (x_2), Value.int .i64 (x_3)])], S33, [(br, 69, #[r_0v, Value.int .i64 (r30.2.2.1), Value.int .i64 (r30.2.2.2)])]]) (Ls' := [[(b4, 39, #[Value.slice none 0 0, Value.int .i64 (0), Value.int .i64 (0), Value.int .i64 (0)])], [(b3, 34, #[Value.int .i64 (o_0), Value.int .i64 (o_1), Value.int .i64 (o_2), Value.int .i64 (o_3), Value.int .i64 (o_4), U (hi (o_5)), U (lo (o_5)), Value.string (⟨(o_6).toArray⟩), o_7v, o_8v])], [(b2, 39, #[x_0v, Value.int .i64 (x_1), Value.int .i64 (x_2), Value.int .i64 (x_3)])], [(br, 69, #[r_0v, Value.int .i64 (r30.2.2.1), Value.int .i64 (r30.2.2.2)])], S33]) [0, 1, 2, 4, 3] rfl rfl ?_
            refine r_v (Value.int .i64 (r30.1)) rfl rfl rfl rfl ?_
            refine lx_nil ?_
            refine fg _ (Sub.pick [[(b4, 39, #[Value.slice none 0 0, Value.int .i64 (0), Value.int .i64 (0), Value.int .i64 (0)])], [(b3, 34, #[Value.int .i64 (o_0), Value.int .i64 (o_1), Value.int .i64 (o_2), Value.int .i64 (o_3), Value.int .i64 (o_4), U (hi (o_5)), U (lo (o_5)), Value.string (⟨(o_6).toArray⟩), o_7v, o_8v])], [(b2, 39, #[x_0v, Value.int .i64 (x_1), Value.int .i64 (x_2), Value.int .i64 (x_3)])], [(br, 69, #[r_0v, Value.int .i64 (r30.2.2.1), Value.int .i64 (r30.2.2.2)])], S33] [0, 1, 2, 3, 4] rfl) ?_
            exact ⟨r30.1, r30.2.1, r30.2.2.1, r30.2.2.2, hM, S33, H34, is_mk rfl rfl⟩
      · clear hM; rintro t l ⟨n3_, rv5_, m4__1, m4__2, hM, Srv5_, hrv5_, ⟨T, rfl⟩, rfl⟩
        unfold shunterlaw07_reads_v1_k6 at hM
        refine A_seq fun K9 hK9 => ?_
        refine A_regC [(some 64, true)] (conG Try.prog [(64, fun _ _ v_ L_ U_ => ∀ u0_, shunterref07_Take_v1_m N x_0 x_1 x_2 x_3 (shlI (1 : Int) (((BitVec.ofInt 64 (o_0)).toNat : Int)).toNat) o_2 = some u0_ → (pO (List.flatten []) (oR encY ro u0_.1 fun s_0 => (oE (Value.tuple #[Value.agg #[s_0, Value.int .i64 (u0_.2.1), Value.int .i64 (u0_.2.2.1), Value.int .i64 (u0_.2.2.2.1)], Value.int .i64 (u0_.2.2.2.2)]) []))) v_ L_ U_)]) ?_
        refine r_l (Value.agg #[x_0v, Value.int .i64 (x_1), Value.int .i64 (x_2), Value.int .i64 (x_3)]) 2 _ _ _ _ rfl rfl rfl rfl rfl ?_
        refine r_v (Value.pointer (some ⟨b3, 0, none⟩)) rfl rfl rfl rfl ?_
        refine r_l (Value.int .i64 (o_0)) 1 _ _ _ _ rfl rfl rfl rfl rfl ?_
        refine r_w (U (BitVec.ofInt 64 (o_0))) rfl rfl (U_wrapI (o_0)) (fun _ => rfl) ?_
        replace hM := ck_some hM; obtain ⟨ck10, hM⟩ := hM
        refine r_v (Value.int .i64 ((shlI (1 : Int) (((BitVec.ofInt 64 (o_0)).toNat : Int)).toNat))) rfl rfl rfl (ev_shlI (x := 1) rfl rfl ck10) ?_
        refine r_v (Value.pointer (some ⟨b3, 2, none⟩)) rfl rfl rfl rfl ?_
        refine r_l (Value.int .i64 (o_2)) 1 _ _ _ _ rfl rfl rfl rfl rfl ?_
        replace hM := bind_sm hM; obtain ⟨r11, hr12, hM⟩ := hM
        refine r_gm (Ls := [[(b4, 39, #[Value.slice none 0 0, Value.int .i64 (0), Value.int .i64 (0), Value.int .i64 (0)])], [(b3, 34, #[Value.int .i64 (o_0), Value.int .i64 (o_1), Value.int .i64 (o_2), Value.int .i64 (o_3), Value.int .i64 (o_4), U (hi (o_5)), U (lo (o_5)), Value.string (⟨(o_6).toArray⟩), o_7v, o_8v])], [(b2, 39, #[x_0v, Value.int .i64 (x_1), Value.int .i64 (x_2), Value.int .i64 (x_3)])], [(br, 69, #[r_0v, Value.int .i64 (m4__1), Value.int .i64 (m4__2)])], Srv5_]) (FL := []) (RL := [[(b4, 39, #[Value.slice none 0 0, Value.int .i64 (0), Value.int .i64 (0), Value.int .i64 (0)])], [(b3, 34, #[Value.int .i64 (o_0), Value.int .i64 (o_1), Value.int .i64 (o_2), Value.int .i64 (o_3), Value.int .i64 (o_4), U (hi (o_5)), U (lo (o_5)), Value.string (⟨(o_6).toArray⟩), o_7v, o_8v])], [(b2, 39, #[x_0v, Value.int .i64 (x_1), Value.int .i64 (x_2), Value.int .i64 (x_3)])], [(br, 69, #[r_0v, Value.int .i64 (m4__1), Value.int .i64 (m4__2)])], Srv5_]) [] (oR encY ro r11.1 fun s_0 => (oE (Value.tuple #[Value.agg #[s_0, Value.int .i64 (r11.2.1), Value.int .i64 (r11.2.2.1), Value.int .i64 (r11.2.2.2.1)], Value.int .i64 (r11.2.2.2.2)]) [])) (some 64) 35 _ rfl rfl rfl rfl rfl (ev_callF rfl call_35 rfl) (fun own_ nw_ hn_ hs_ => DoesI.ro_mono (ro_sans (Ls := [[(b4, 39, #[Value.slice none 0 0, Value.int .i64 (0), Value.int .i64 (0), Value.int .i64 (0)])], [(b3, 34, #[Value.int .i64 (o_0), Value.int .i64 (o_1), Value.int .i64 (o_2), Value.int .i64 (o_3), Value.int .i64 (o_4), U (hi (o_5)), U (lo (o_5)), Value.string (⟨(o_6).toArray⟩), o_7v, o_8v])], [(b2, 39, #[x_0v, Value.int .i64 (x_1), Value.int .i64 (x_2), Value.int .i64 (x_3)])], [(br, 69, #[r_0v, Value.int .i64 (m4__1), Value.int .i64 (m4__2)])], Srv5_]) (is := []) rfl hs_) (shunterref07_Take_v1_g N x_0 x_1 x_2 x_3 (shlI (1 : Int) (((BitVec.ofInt 64 (o_0)).toNat : Int)).toNat) o_2 _ hr12 ro x_0v hx_0)) (fun _ _ v_ L_ U_ => ⟨fun h_ => h_ _ hr12, fun h_ => by intro _ e_; cases Option.some.inj (e_.symm.trans hr12); exact h_⟩) (fun h_ => nomatch h_) ?_
        rintro _ _ ⟨s13, hs14, ⟨rfl, rfl⟩⟩
        refine lx_perm (Ls := [[(b4, 39, #[Value.slice none 0 0, Value.int .i64 (0), Value.int .i64 (0), Value.int .i64 (0)])], [(b3, 34, #[Value.int .i64 (o_0), Value.int .i64 (o_1), Value.int .i64 (o_2), Value.int .i64 (o_3), Value.int .i64 (o_4), U (hi (o_5)), U (lo (o_5)), Value.string (⟨(o_6).toArray⟩), o_7v, o_8v])], [(b2, 39, #[x_0v, Value.int .i64 (x_1), Value.int .i64 (x_2), Value.int .i64 (x_3)])], [(br, 69, #[r_0v, Value.int .i64 (m4__1), Value.int .i64 (m4__2)])], Srv5_]) (Ls' := [[(b4, 39, #[Value.slice none 0 0, Value.int .i64 (0), Value.int .i64 (0), Value.int .i64 (0)])], [(b3, 34, #[Value.int .i64 (o_0), Value.int .i64 (o_1), Value.int .i64 (o_2), Value.int .i64 (o_3), Value.int .i64 (o_4), U (hi (o_5)), U (lo (o_5)), Value.string (⟨(o_6).toArray⟩), o_7v, o_8v])], [(b2, 39, #[x_0v, Value.int .i64 (x_1), Value.int .i64 (x_2), Value.int .i64 (x_3)])], [(br, 69, #[r_0v, Value.int .i64 (m4__1), Value.int .i64 (m4__2)])], Srv5_]) [0, 1, 2, 3, 4] rfl rfl ?_
        refine r_v (Value.tuple #[Value.agg #[s13, Value.int .i64 (r11.2.1), Value.int .i64 (r11.2.2.1), Value.int .i64 (r11.2.2.2.1)], Value.int .i64 (r11.2.2.2.2)]) rfl rfl rfl rfl ?_
        refine r_v (Value.agg #[s13, Value.int .i64 (r11.2.1), Value.int .i64 (r11.2.2.1), Value.int .i64 (r11.2.2.2.1)]) rfl rfl rfl rfl ?_
        refine r_v (Value.int .i64 (r11.2.2.2.2)) rfl rfl rfl rfl ?_
        refine r_s (List.flatten [[(b4, 39, #[Value.slice none 0 0, Value.int .i64 (0), Value.int .i64 (0), Value.int .i64 (0)])], [(b3, 34, #[Value.int .i64 (o_0), Value.int .i64 (o_1), Value.int .i64 (o_2), Value.int .i64 (o_3), Value.int .i64 (o_4), U (hi (o_5)), U (lo (o_5)), Value.string (⟨(o_6).toArray⟩), o_7v, o_8v])], [(b2, 39, #[s13, Value.int .i64 (r11.2.1), Value.int .i64 (r11.2.2.1), Value.int .i64 (r11.2.2.2.1)])], [(br, 69, #[r_0v, Value.int .i64 (m4__1), Value.int .i64 (m4__2)])], Srv5_]) 2 _ _ _ (#[x_0v, Value.int .i64 (x_1), Value.int .i64 (x_2), Value.int .i64 (x_3)]) (#[s13, Value.int .i64 (r11.2.1), Value.int .i64 (r11.2.2.1), Value.int .i64 (r11.2.2.2.1)]) (#[s13, Value.int .i64 (r11.2.1), Value.int .i64 (r11.2.2.1), Value.int .i64 (r11.2.2.2.1)]) rfl rfl rfl rfl (.ofS rfl rfl (all_cons' (Shp.one (Rd.shp hs14)) (all_cons' rfl (all_cons' rfl (all_cons' rfl all_nil'))))) rfl rfl ?_
        refine r_v (Value.int .i64 (r11.2.2.2.2)) rfl rfl rfl rfl ?_
        refine lx_nil ?_
        refine hK9 _ _ ?_; try clear hK9 K9
        refine A_seq fun K15 hK15 => ?_
        refine A_reg ?_
        refine r_l (Value.agg #[s13, Value.int .i64 (r11.2.1), Value.int .i64 (r11.2.2.1), Value.int .i64 (r11.2.2.2.1)]) 2 _ _ _ _ rfl rfl rfl rfl rfl ?_
        refine r_v (Value.int .i64 (n3_)) rfl rfl rfl rfl ?_
        refine r_v (Value.int .i64 (r11.2.2.2.2)) rfl rfl rfl rfl ?_
        refine r_v (Value.bool (((n3_ : Int) == r11.2.2.2.2))) rfl rfl rfl rfl ?_
        refine r_s (List.flatten [[(b4, 39, #[s13, Value.int .i64 (r11.2.1), Value.int .i64 (r11.2.2.1), Value.int .i64 (r11.2.2.2.1)])], [(b3, 34, #[Value.int .i64 (o_0), Value.int .i64 (o_1), Value.int .i64 (o_2), Value.int .i64 (o_3), Value.int .i64 (o_4), U (hi (o_5)), U (lo (o_5)), Value.string (⟨(o_6).toArray⟩), o_7v, o_8v])], [(b2, 39, #[s13, Value.int .i64 (r11.2.1), Value.int .i64 (r11.2.2.1), Value.int .i64 (r11.2.2.2.1)])], [(br, 69, #[r_0v, Value.int .i64 (m4__1), Value.int .i64 (m4__2)])], Srv5_]) 0 _ _ _ (#[Value.slice none 0 0, Value.int .i64 (0), Value.int .i64 (0), Value.int .i64 (0)]) (#[s13, Value.int .i64 (r11.2.1), Value.int .i64 (r11.2.2.1), Value.int .i64 (r11.2.2.2.1)]) (#[s13, Value.int .i64 (r11.2.1), Value.int .i64 (r11.2.2.1), Value.int .i64 (r11.2.2.2.1)]) rfl rfl rfl rfl (.ofS rfl rfl (all_cons' (Shp.one (Rd.shp hs14)) (all_cons' rfl (all_cons' rfl (all_cons' rfl all_nil'))))) rfl rfl ?_
        refine r_v (Value.bool (((n3_ : Int) == r11.2.2.2.2))) rfl rfl rfl rfl ?_
        refine lx_nil ?_
        refine hK15 _ _ ?_; try clear hK15 K15
        obtain rfl := Option.some.inj hM
        refine A_ret (fun hn => endsO (v0 := Value.tuple #[Value.agg #[s13, Value.int .i64 (r11.2.1), Value.int .i64 (r11.2.2.1), Value.int .i64 (r11.2.2.2.1)], Value.bool (((n3_ : Int) == r11.2.2.2.2))]) (O := [Srv5_, [(br, 69, #[r_0v, Value.int .i64 (m4__1), Value.int .i64 (m4__2)])]]) (res2 (res_cell hn 0 rfl rfl rfl) rfl) (Sub.pick [[(b4, 39, #[s13, Value.int .i64 (r11.2.1), Value.int .i64 (r11.2.2.1), Value.int .i64 (r11.2.2.2.1)])], [(b3, 34, #[Value.int .i64 (o_0), Value.int .i64 (o_1), Value.int .i64 (o_2), Value.int .i64 (o_3), Value.int .i64 (o_4), U (hi (o_5)), U (lo (o_5)), Value.string (⟨(o_6).toArray⟩), o_7v, o_8v])], [(b2, 39, #[s13, Value.int .i64 (r11.2.1), Value.int .i64 (r11.2.2.1), Value.int .i64 (r11.2.2.2.1)])], [(br, 69, #[r_0v, Value.int .i64 (m4__1), Value.int .i64 (m4__2)])], Srv5_] [4, 3] rfl) ⟨s13, hs14, ⟨Srv5_, _, hrv5_, ⟨rfl, rfl⟩, rfl⟩⟩)
    · replace hM := ifn (Bool.eq_false_iff.1 hc7) hM
      refine A_seq fun K35 hK35 => ?_
      refine A_reg ?_
      refine r_v (Value.bool (((o_0 : Int) == 3))) rfl rfl rfl rfl ?_
      refine r_v (Value.bool (((o_0 : Int) == 3))) rfl rfl rfl rfl ?_
      refine lx_nil ?_
      refine hK35 _ _ ?_; try clear hK35 K35
      refine A_cond (((o_0 : Int) == 3)) rfl (fun hc36 => ?_) (fun hc36 => ?_)
      · replace hM := ifp (eq_of_beq hc36) hM
        refine A_seq fun K37 hK37 => ?_
        refine A_regC [(some 74, true)] (conG Try.prog [(74, fun _ _ v_ L_ U_ => ∀ u0_, wire_Reader_Vec_v1_m N r_0 r_1 r_2 = some u0_ → (pO (List.flatten [[(br, 69, #[r_0v, Value.int .i64 (r_1), Value.int .i64 (r_2)])], Sr_0]) (oI 5 encY r_0v u0_.2.2.1 (oE (Value.agg #[Value.int .i64 (u0_.1), U (hi (u0_.2.1)), U (lo (u0_.2.1))]) [[(br, 69, #[r_0v, Value.int .i64 (u0_.2.2.2.1), Value.int .i64 (u0_.2.2.2.2)])]]))) v_ L_ U_)]) ?_
        refine r_v (Value.pointer (some ⟨br, 0, none⟩)) rfl rfl rfl rfl ?_
        replace hM := bind_sm hM; obtain ⟨r38, hr39, hM⟩ := hM
        replace hM := ck_some hM; obtain ⟨ck40, hM⟩ := hM
        refine r_gm (Ls := [[(b4, 39, #[Value.slice none 0 0, Value.int .i64 (0), Value.int .i64 (0), Value.int .i64 (0)])], [(b3, 34, #[Value.int .i64 (o_0), Value.int .i64 (o_1), Value.int .i64 (o_2), Value.int .i64 (o_3), Value.int .i64 (o_4), U (hi (o_5)), U (lo (o_5)), Value.string (⟨(o_6).toArray⟩), o_7v, o_8v])], [(b2, 39, #[x_0v, Value.int .i64 (x_1), Value.int .i64 (x_2), Value.int .i64 (x_3)])], [(br, 69, #[r_0v, Value.int .i64 (r_1), Value.int .i64 (r_2)])], Sr_0]) (FL := [[(br, 69, #[r_0v, Value.int .i64 (r_1), Value.int .i64 (r_2)])], Sr_0]) (RL := [[(b4, 39, #[Value.slice none 0 0, Value.int .i64 (0), Value.int .i64 (0), Value.int .i64 (0)])], [(b3, 34, #[Value.int .i64 (o_0), Value.int .i64 (o_1), Value.int .i64 (o_2), Value.int .i64 (o_3), Value.int .i64 (o_4), U (hi (o_5)), U (lo (o_5)), Value.string (⟨(o_6).toArray⟩), o_7v, o_8v])], [(b2, 39, #[x_0v, Value.int .i64 (x_1), Value.int .i64 (x_2), Value.int .i64 (x_3)])]]) [3, 4] (oI 5 encY r_0v r38.2.2.1 (oE (Value.agg #[Value.int .i64 (r38.1), U (hi (r38.2.1)), U (lo (r38.2.1))]) [[(br, 69, #[r_0v, Value.int .i64 (r38.2.2.2.1), Value.int .i64 (r38.2.2.2.2)])]])) (some 74) 22 _ rfl rfl rfl rfl rfl (ev_callF rfl call_22 rfl) (fun own_ nw_ hn_ hs_ => wire_Reader_Vec_v1_g N r_0 r_1 r_2 _ hr39 _ br r_0v Sr_0 hr_0) (fun _ _ v_ L_ U_ => ⟨fun h_ => h_ _ hr39, fun h_ => by intro _ e_; cases Option.some.inj (e_.symm.trans hr39); exact h_⟩) (fun h_ => nomatch h_) ?_
        rintro _ _ ⟨S41, _, H42, ⟨rfl, rfl⟩, rfl⟩
        refine lx_perm (Ls := [[(b4, 39, #[Value.slice none 0 0, Value.int .i64 (0), Value.int .i64 (0), Value.int .i64 (0)])], [(b3, 34, #[Value.int .i64 (o_0), Value.int .i64 (o_1), Value.int .i64 (o_2), Value.int .i64 (o_3), Value.int .i64 (o_4), U (hi (o_5)), U (lo (o_5)), Value.string (⟨(o_6).toArray⟩), o_7v, o_8v])], [(b2, 39, #[x_0v, Value.int .i64 (x_1), Value.int .i64 (x_2), Value.int .i64 (x_3)])], S41, [(br, 69, #[r_0v, Value.int .i64 (r38.2.2.2.1), Value.int .i64 (r38.2.2.2.2)])]]) (Ls' := [[(b4, 39, #[Value.slice none 0 0, Value.int .i64 (0), Value.int .i64 (0), Value.int .i64 (0)])], [(b3, 34, #[Value.int .i64 (o_0), Value.int .i64 (o_1), Value.int .i64 (o_2), Value.int .i64 (o_3), Value.int .i64 (o_4), U (hi (o_5)), U (lo (o_5)), Value.string (⟨(o_6).toArray⟩), o_7v, o_8v])], [(b2, 39, #[x_0v, Value.int .i64 (x_1), Value.int .i64 (x_2), Value.int .i64 (x_3)])], [(br, 69, #[r_0v, Value.int .i64 (r38.2.2.2.1), Value.int .i64 (r38.2.2.2.2)])], S41]) [0, 1, 2, 4, 3] rfl rfl ?_
        refine r_a (30, #[Value.int .i64 (0), U (0#64), U (0#64)]) rfl rfl rfl (fun b43 => ?_) (.inr rfl)
        refine r_s (List.flatten [[(b43, 30, #[Value.int .i64 (r38.1), U (hi (r38.2.1)), U (lo (r38.2.1))])], [(b4, 39, #[Value.slice none 0 0, Value.int .i64 (0), Value.int .i64 (0), Value.int .i64 (0)])], [(b3, 34, #[Value.int .i64 (o_0), Value.int .i64 (o_1), Value.int .i64 (o_2), Value.int .i64 (o_3), Value.int .i64 (o_4), U (hi (o_5)), U (lo (o_5)), Value.string (⟨(o_6).toArray⟩), o_7v, o_8v])], [(b2, 39, #[x_0v, Value.int .i64 (x_1), Value.int .i64 (x_2), Value.int .i64 (x_3)])], [(br, 69, #[r_0v, Value.int .i64 (r38.2.2.2.1), Value.int .i64 (r38.2.2.2.2)])], S41]) 0 _ _ _ (#[Value.int .i64 (0), U (0#64), U (0#64)]) (#[Value.int .i64 (r38.1), U (hi (r38.2.1)), U (lo (r38.2.1))]) (#[Value.int .i64 (r38.1), U (hi (r38.2.1)), U (lo (r38.2.1))]) rfl rfl rfl rfl (.of rfl rfl) rfl rfl ?_
        refine lx_nil ?_
        refine hK37 _ _ ?_; try clear hK37 K37
        refine A_seq fun K44 hK44 => ?_
        refine A_regC [(some 77, true)] (conG Try.prog [(77, fun _ _ v_ L_ U_ => ∀ u0_, shunterref07_TakeVec_v1_m N x_0 x_1 x_2 x_3 = some u0_ → (pO (List.flatten []) (oR encY ro u0_.1 fun s_0 => (oE (Value.tuple #[Value.agg #[s_0, Value.int .i64 (u0_.2.1), Value.int .i64 (u0_.2.2.1), Value.int .i64 (u0_.2.2.2.1)], Value.agg #[Value.int .i64 (u0_.2.2.2.2.1), U (hi (u0_.2.2.2.2.2)), U (lo (u0_.2.2.2.2.2))]]) []))) v_ L_ U_)]) ?_
        refine r_l (Value.agg #[x_0v, Value.int .i64 (x_1), Value.int .i64 (x_2), Value.int .i64 (x_3)]) 3 _ _ _ _ rfl rfl rfl rfl rfl ?_
        replace hM := bind_sm hM; obtain ⟨r45, hr46, hM⟩ := hM
        refine r_gm (Ls := [[(b43, 30, #[Value.int .i64 (r38.1), U (hi (r38.2.1)), U (lo (r38.2.1))])], [(b4, 39, #[Value.slice none 0 0, Value.int .i64 (0), Value.int .i64 (0), Value.int .i64 (0)])], [(b3, 34, #[Value.int .i64 (o_0), Value.int .i64 (o_1), Value.int .i64 (o_2), Value.int .i64 (o_3), Value.int .i64 (o_4), U (hi (o_5)), U (lo (o_5)), Value.string (⟨(o_6).toArray⟩), o_7v, o_8v])], [(b2, 39, #[x_0v, Value.int .i64 (x_1), Value.int .i64 (x_2), Value.int .i64 (x_3)])], [(br, 69, #[r_0v, Value.int .i64 (r38.2.2.2.1), Value.int .i64 (r38.2.2.2.2)])], S41]) (FL := []) (RL := [[(b43, 30, #[Value.int .i64 (r38.1), U (hi (r38.2.1)), U (lo (r38.2.1))])], [(b4, 39, #[Value.slice none 0 0, Value.int .i64 (0), Value.int .i64 (0), Value.int .i64 (0)])], [(b3, 34, #[Value.int .i64 (o_0), Value.int .i64 (o_1), Value.int .i64 (o_2), Value.int .i64 (o_3), Value.int .i64 (o_4), U (hi (o_5)), U (lo (o_5)), Value.string (⟨(o_6).toArray⟩), o_7v, o_8v])], [(b2, 39, #[x_0v, Value.int .i64 (x_1), Value.int .i64 (x_2), Value.int .i64 (x_3)])], [(br, 69, #[r_0v, Value.int .i64 (r38.2.2.2.1), Value.int .i64 (r38.2.2.2.2)])], S41]) [] (oR encY ro r45.1 fun s_0 => (oE (Value.tuple #[Value.agg #[s_0, Value.int .i64 (r45.2.1), Value.int .i64 (r45.2.2.1), Value.int .i64 (r45.2.2.2.1)], Value.agg #[Value.int .i64 (r45.2.2.2.2.1), U (hi (r45.2.2.2.2.2)), U (lo (r45.2.2.2.2.2))]]) [])) (some 77) 36 _ rfl rfl rfl rfl rfl (ev_callF rfl call_36 rfl) (fun own_ nw_ hn_ hs_ => DoesI.ro_mono (ro_sans (Ls := [[(b43, 30, #[Value.int .i64 (r38.1), U (hi (r38.2.1)), U (lo (r38.2.1))])], [(b4, 39, #[Value.slice none 0 0, Value.int .i64 (0), Value.int .i64 (0), Value.int .i64 (0)])], [(b3, 34, #[Value.int .i64 (o_0), Value.int .i64 (o_1), Value.int .i64 (o_2), Value.int .i64 (o_3), Value.int .i64 (o_4), U (hi (o_5)), U (lo (o_5)), Value.string (⟨(o_6).toArray⟩), o_7v, o_8v])], [(b2, 39, #[x_0v, Value.int .i64 (x_1), Value.int .i64 (x_2), Value.int .i64 (x_3)])], [(br, 69, #[r_0v, Value.int .i64 (r38.2.2.2.1), Value.int .i64 (r38.2.2.2.2)])], S41]) (is := []) rfl hs_) (shunterref07_TakeVec_v1_g N x_0 x_1 x_2 x_3 _ hr46 ro x_0v hx_0)) (fun _ _ v_ L_ U_ => ⟨fun h_ => h_ _ hr46, fun h_ => by intro _ e_; cases Option.some.inj (e_.symm.trans hr46); exact h_⟩) (fun h_ => nomatch h_) ?_
        rintro _ _ ⟨s47, hs48, ⟨rfl, rfl⟩⟩
        refine lx_perm (Ls := [[(b43, 30, #[Value.int .i64 (r38.1), U (hi (r38.2.1)), U (lo (r38.2.1))])], [(b4, 39, #[Value.slice none 0 0, Value.int .i64 (0), Value.int .i64 (0), Value.int .i64 (0)])], [(b3, 34, #[Value.int .i64 (o_0), Value.int .i64 (o_1), Value.int .i64 (o_2), Value.int .i64 (o_3), Value.int .i64 (o_4), U (hi (o_5)), U (lo (o_5)), Value.string (⟨(o_6).toArray⟩), o_7v, o_8v])], [(b2, 39, #[x_0v, Value.int .i64 (x_1), Value.int .i64 (x_2), Value.int .i64 (x_3)])], [(br, 69, #[r_0v, Value.int .i64 (r38.2.2.2.1), Value.int .i64 (r38.2.2.2.2)])], S41]) (Ls' := [[(b43, 30, #[Value.int .i64 (r38.1), U (hi (r38.2.1)), U (lo (r38.2.1))])], [(b4, 39, #[Value.slice none 0 0, Value.int .i64 (0), Value.int .i64 (0), Value.int .i64 (0)])], [(b3, 34, #[Value.int .i64 (o_0), Value.int .i64 (o_1), Value.int .i64 (o_2), Value.int .i64 (o_3), Value.int .i64 (o_4), U (hi (o_5)), U (lo (o_5)), Value.string (⟨(o_6).toArray⟩), o_7v, o_8v])], [(b2, 39, #[x_0v, Value.int .i64 (x_1), Value.int .i64 (x_2), Value.int .i64 (x_3)])], [(br, 69, #[r_0v, Value.int .i64 (r38.2.2.2.1), Value.int .i64 (r38.2.2.2.2)])], S41]) [0, 1, 2, 3, 4, 5] rfl rfl ?_
        refine r_v (Value.tuple #[Value.agg #[s47, Value.int .i64 (r45.2.1), Value.int .i64 (r45.2.2.1), Value.int .i64 (r45.2.2.2.1)], Value.agg #[Value.int .i64 (r45.2.2.2.2.1), U (hi (r45.2.2.2.2.2)), U (lo (r45.2.2.2.2.2))]]) rfl rfl rfl rfl ?_
        refine r_v (Value.agg #[s47, Value.int .i64 (r45.2.1), Value.int .i64 (r45.2.2.1), Value.int .i64 (r45.2.2.2.1)]) rfl rfl rfl rfl ?_
        refine r_v (Value.agg #[Value.int .i64 (r45.2.2.2.2.1), U (hi (r45.2.2.2.2.2)), U (lo (r45.2.2.2.2.2))]) rfl rfl rfl rfl ?_
        refine r_a (39, #[Value.slice none 0 0, Value.int .i64 (0), Value.int .i64 (0), Value.int .i64 (0)]) rfl rfl rfl (fun b49 => ?_) (.inr rfl)
        refine r_a (30, #[Value.int .i64 (0), U (0#64), U (0#64)]) rfl rfl rfl (fun b50 => ?_) (.inr rfl)
        refine r_s (List.flatten [[(b50, 30, #[Value.int .i64 (0), U (0#64), U (0#64)])], [(b49, 39, #[s47, Value.int .i64 (r45.2.1), Value.int .i64 (r45.2.2.1), Value.int .i64 (r45.2.2.2.1)])], [(b43, 30, #[Value.int .i64 (r38.1), U (hi (r38.2.1)), U (lo (r38.2.1))])], [(b4, 39, #[Value.slice none 0 0, Value.int .i64 (0), Value.int .i64 (0), Value.int .i64 (0)])], [(b3, 34, #[Value.int .i64 (o_0), Value.int .i64 (o_1), Value.int .i64 (o_2), Value.int .i64 (o_3), Value.int .i64 (o_4), U (hi (o_5)), U (lo (o_5)), Value.string (⟨(o_6).toArray⟩), o_7v, o_8v])], [(b2, 39, #[x_0v, Value.int .i64 (x_1), Value.int .i64 (x_2), Value.int .i64 (x_3)])], [(br, 69, #[r_0v, Value.int .i64 (r38.2.2.2.1), Value.int .i64 (r38.2.2.2.2)])], S41]) 1 _ _ _ (#[Value.slice none 0 0, Value.int .i64 (0), Value.int .i64 (0), Value.int .i64 (0)]) (#[s47, Value.int .i64 (r45.2.1), Value.int .i64 (r45.2.2.1), Value.int .i64 (r45.2.2.2.1)]) (#[s47, Value.int .i64 (r45.2.1), Value.int .i64 (r45.2.2.1), Value.int .i64 (r45.2.2.2.1)]) rfl rfl rfl rfl (.ofS rfl rfl (all_cons' (Shp.one (Rd.shp hs48)) (all_cons' rfl (all_cons' rfl (all_cons' rfl all_nil'))))) rfl rfl ?_
        refine r_s (List.flatten [[(b50, 30, #[Value.int .i64 (r45.2.2.2.2.1), U (hi (r45.2.2.2.2.2)), U (lo (r45.2.2.2.2.2))])], [(b49, 39, #[s47, Value.int .i64 (r45.2.1), Value.int .i64 (r45.2.2.1), Value.int .i64 (r45.2.2.2.1)])], [(b43, 30, #[Value.int .i64 (r38.1), U (hi (r38.2.1)), U (lo (r38.2.1))])], [(b4, 39, #[Value.slice none 0 0, Value.int .i64 (0), Value.int .i64 (0), Value.int .i64 (0)])], [(b3, 34, #[Value.int .i64 (o_0), Value.int .i64 (o_1), Value.int .i64 (o_2), Value.int .i64 (o_3), Value.int .i64 (o_4), U (hi (o_5)), U (lo (o_5)), Value.string (⟨(o_6).toArray⟩), o_7v, o_8v])], [(b2, 39, #[x_0v, Value.int .i64 (x_1), Value.int .i64 (x_2), Value.int .i64 (x_3)])], [(br, 69, #[r_0v, Value.int .i64 (r38.2.2.2.1), Value.int .i64 (r38.2.2.2.2)])], S41]) 0 _ _ _ (#[Value.int .i64 (0), U (0#64), U (0#64)]) (#[Value.int .i64 (r45.2.2.2.2.1), U (hi (r45.2.2.2.2.2)), U (lo (r45.2.2.2.2.2))]) (#[Value.int .i64 (r45.2.2.2.2.1), U (hi (r45.2.2.2.2.2)), U (lo (r45.2.2.2.2.2))]) rfl rfl rfl rfl (.of rfl rfl) rfl rfl ?_
        refine lx_nil ?_
        refine hK44 _ _ ?_; try clear hK44 K44
        refine A_seq fun K51 hK51 => ?_
        refine A_draw [(6, 10), (6, 12)] (by decide +kernel) (fun hn => (sep_cons hn 3 2 rfl rfl rfl rfl rfl (sep_cons hn 3 0 rfl rfl rfl rfl rfl sep_nil))) ?_
        refine r_l (Value.agg #[s47, Value.int .i64 (r45.2.1), Value.int .i64 (r45.2.2.1), Value.int .i64 (r45.2.2.2.1)]) 1 _ _ _ _ rfl rfl rfl rfl rfl ?_
        refine r_l (Value.agg #[Value.int .i64 (r38.1), U (hi (r38.2.1)), U (lo (r38.2.1))]) 2 _ _ _ _ rfl rfl rfl rfl rfl ?_
        refine r_l (Value.agg #[Value.int .i64 (r45.2.2.2.2.1), U (hi (r45.2.2.2.2.2)), U (lo (r45.2.2.2.2.2))]) 0 _ _ _ _ rfl rfl rfl rfl rfl ?_
        refine r_v (Value.bool (((r38.1) == (r45.2.2.2.2.1)) && ((r38.2.1) == (r45.2.2.2.2.2)))) rfl rfl rfl (ev_binEq rfl rfl eg_30 (eqst_30 (r38.1) (r45.2.2.2.2.1) (r38.2.1) (r45.2.2.2.2.2))) ?_
        refine r_s (List.flatten [[(b50, 30, #[Value.int .i64 (r45.2.2.2.2.1), U (hi (r45.2.2.2.2.2)), U (lo (r45.2.2.2.2.2))])], [(b49, 39, #[s47, Value.int .i64 (r45.2.1), Value.int .i64 (r45.2.2.1), Value.int .i64 (r45.2.2.2.1)])], [(b43, 30, #[Value.int .i64 (r38.1), U (hi (r38.2.1)), U (lo (r38.2.1))])], [(b4, 39, #[s47, Value.int .i64 (r45.2.1), Value.int .i64 (r45.2.2.1), Value.int .i64 (r45.2.2.2.1)])], [(b3, 34, #[Value.int .i64 (o_0), Value.int .i64 (o_1), Value.int .i64 (o_2), Value.int .i64 (o_3), Value.int .i64 (o_4), U (hi (o_5)), U (lo (o_5)), Value.string (⟨(o_6).toArray⟩), o_7v, o_8v])], [(b2, 39, #[x_0v, Value.int .i64 (x_1), Value.int .i64 (x_2), Value.int .i64 (x_3)])], [(br, 69, #[r_0v, Value.int .i64 (r38.2.2.2.1), Value.int .i64 (r38.2.2.2.2)])], S41]) 3 _ _ _ (#[Value.slice none 0 0, Value.int .i64 (0), Value.int .i64 (0), Value.int .i64 (0)]) (#[s47, Value.int .i64 (r45.2.1), Value.int .i64 (r45.2.2.1), Value.int .i64 (r45.2.2.2.1)]) (#[s47, Value.int .i64 (r45.2.1), Value.int .i64 (r45.2.2.1), Value.int .i64 (r45.2.2.2.1)]) rfl rfl rfl rfl (.ofS rfl rfl (all_cons' (Shp.one (Rd.shp hs48)) (all_cons' rfl (all_cons' rfl (all_cons' rfl all_nil'))))) rfl rfl ?_
        refine r_v (Value.bool (((r38.1) == (r45.2.2.2.2.1)) && ((r38.2.1) == (r45.2.2.2.2.2)))) rfl rfl rfl rfl ?_
        refine lx_nil ?_
        refine hK51 _ _ ?_; try clear hK51 K51
        obtain rfl := Option.some.inj hM
        refine A_ret (fun hn => endsO (v0 := Value.tuple #[Value.agg #[s47, Value.int .i64 (r45.2.1), Value.int .i64 (r45.2.2.1), Value.int .i64 (r45.2.2.2.1)], Value.bool (((r38.1) == (r45.2.2.2.2.1)) && ((r38.2.1) == (r45.2.2.2.2.2)))]) (O := [S41, [(br, 69, #[r_0v, Value.int .i64 (r38.2.2.2.1), Value.int .i64 (r38.2.2.2.2)])]]) (res2 (res_cell hn 3 rfl rfl rfl) rfl) (Sub.pick [[(b50, 30, #[Value.int .i64 (r45.2.2.2.2.1), U (hi (r45.2.2.2.2.2)), U (lo (r45.2.2.2.2.2))])], [(b49, 39, #[s47, Value.int .i64 (r45.2.1), Value.int .i64 (r45.2.2.1), Value.int .i64 (r45.2.2.2.1)])], [(b43, 30, #[Value.int .i64 (r38.1), U (hi (r38.2.1)), U (lo (r38.2.1))])], [(b4, 39, #[s47, Value.int .i64 (r45.2.1), Value.int .i64 (r45.2.2.1), Value.int .i64 (r45.2.2.2.1)])], [(b3, 34, #[Value.int .i64 (o_0), Value.int .i64 (o_1), Value.int .i64 (o_2), Value.int .i64 (o_3), Value.int .i64 (o_4), U (hi (o_5)), U (lo (o_5)), Value.string (⟨(o_6).toArray⟩), o_7v, o_8v])], [(b2, 39, #[x_0v, Value.int .i64 (x_1), Value.int .i64 (x_2), Value.int .i64 (x_3)])], [(br, 69, #[r_0v, Value.int .i64 (r38.2.2.2.1), Value.int .i64 (r38.2.2.2.2)])], S41] [7, 6] rfl) ⟨s47, hs48, ⟨S41, _, H42, ⟨rfl, rfl⟩, rfl⟩⟩)
      · replace hM := ifn (ne_of_beq_false hc36) hM
        refine A_seq fun K52 hK52 => ?_
        refine A_reg ?_
        refine r_v (Value.bool (((o_0 : Int) == 4))) rfl rfl rfl rfl ?_
        refine r_v (Value.bool (((o_0 : Int) == 4))) rfl rfl rfl rfl ?_
        refine lx_nil ?_
        refine hK52 _ _ ?_; try clear hK52 K52
        refine A_cond (((o_0 : Int) == 4)) rfl (fun hc53 => ?_) (fun hc53 => ?_)
        · replace hM := ifp (eq_of_beq hc53) hM
          refine A_seq fun K54 hK54 => ?_
          refine A_regC [(some 87, true)] (conG Try.prog [(87, fun _ _ v_ L_ U_ => ∀ u0_, wire_Reader_Name_v1_m N r_0 r_1 r_2 = some u0_ → (pO (List.flatten [[(br, 69, #[r_0v, Value.int .i64 (r_1), Value.int .i64 (r_2)])], Sr_0]) (oI 5 encY r_0v u0_.2.1 (oE (Value.string (⟨(u0_.1).toArray⟩)) [[(br, 69, #[r_0v, Value.int .i64 (u0_.2.2.1), Value.int .i64 (u0_.2.2.2)])]]))) v_ L_ U_)]) ?_
          refine r_v (Value.pointer (some ⟨br, 0, none⟩)) rfl rfl rfl rfl ?_
          replace hM := bind_sm hM; obtain ⟨r55, hr56, hM⟩ := hM
          replace hM := ck_some hM; obtain ⟨ck57, hM⟩ := hM
          refine r_gm (Ls := [[(b4, 39, #[Value.slice none 0 0, Value.int .i64 (0), Value.int .i64 (0), Value.int .i64 (0)])], [(b3, 34, #[Value.int .i64 (o_0), Value.int .i64 (o_1), Value.int .i64 (o_2), Value.int .i64 (o_3), Value.int .i64 (o_4), U (hi (o_5)), U (lo (o_5)), Value.string (⟨(o_6).toArray⟩), o_7v, o_8v])], [(b2, 39, #[x_0v, Value.int .i64 (x_1), Value.int .i64 (x_2), Value.int .i64 (x_3)])], [(br, 69, #[r_0v, Value.int .i64 (r_1), Value.int .i64 (r_2)])], Sr_0]) (FL := [[(br, 69, #[r_0v, Value.int .i64 (r_1), Value.int .i64 (r_2)])], Sr_0]) (RL := [[(b4, 39, #[Value.slice none 0 0, Value.int .i64 (0), Value.int .i64 (0), Value.int .i64 (0)])], [(b3, 34, #[Value.int .i64 (o_0), Value.int .i64 (o_1), Value.int .i64 (o_2), Value.int .i64 (o_3), Value.int .i64 (o_4), U (hi (o_5)), U (lo (o_5)), Value.string (⟨(o_6).toArray⟩), o_7v, o_8v])], [(b2, 39, #[x_0v, Value.int .i64 (x_1), Value.int .i64 (x_2), Value.int .i64 (x_3)])]]) [3, 4] (oI 5 encY r_0v r55.2.1 (oE (Value.string (⟨(r55.1).toArray⟩)) [[(br, 69, #[r_0v, Value.int .i64 (r55.2.2.1), Value.int .i64 (r55.2.2.2)])]])) (some 87) 23 _ rfl rfl rfl rfl rfl (ev_callF rfl call_23 rfl) (fun own_ nw_ hn_ hs_ => wire_Reader_Name_v1_g N r_0 r_1 r_2 _ hr56 _ br r_0v Sr_0 hr_0) (fun _ _ v_ L_ U_ => ⟨fun h_ => h_ _ hr56, fun h_ => by intro _ e_; cases Option.some.inj (e_.symm.trans hr56); exact h_⟩) (fun h_ => nomatch h_) ?_
          rintro _ _ ⟨S58, _, H59, ⟨rfl, rfl⟩, rfl⟩
          refine lx_perm (Ls := [[(b4, 39, #[Value.slice none 0 0, Value.int .i64 (0), Value.int .i64 (0), Value.int .i64 (0)])], [(b3, 34, #[Value.int .i64 (o_0), Value.int .i64 (o_1), Value.int .i64 (o_2), Value.int .i64 (o_3), Value.int .i64 (o_4), U (hi (o_5)), U (lo (o_5)), Value.string (⟨(o_6).toArray⟩), o_7v, o_8v])], [(b2, 39, #[x_0v, Value.int .i64 (x_1), Value.int .i64 (x_2), Value.int .i64 (x_3)])], S58, [(br, 69, #[r_0v, Value.int .i64 (r55.2.2.1), Value.int .i64 (r55.2.2.2)])]]) (Ls' := [[(b4, 39, #[Value.slice none 0 0, Value.int .i64 (0), Value.int .i64 (0), Value.int .i64 (0)])], [(b3, 34, #[Value.int .i64 (o_0), Value.int .i64 (o_1), Value.int .i64 (o_2), Value.int .i64 (o_3), Value.int .i64 (o_4), U (hi (o_5)), U (lo (o_5)), Value.string (⟨(o_6).toArray⟩), o_7v, o_8v])], [(b2, 39, #[x_0v, Value.int .i64 (x_1), Value.int .i64 (x_2), Value.int .i64 (x_3)])], [(br, 69, #[r_0v, Value.int .i64 (r55.2.2.1), Value.int .i64 (r55.2.2.2)])], S58]) [0, 1, 2, 4, 3] rfl rfl ?_
          refine r_v (Value.string (⟨(r55.1).toArray⟩)) rfl rfl rfl rfl ?_
          refine lx_nil ?_
          refine hK54 _ _ ?_; try clear hK54 K54
          refine A_seq fun K60 hK60 => ?_
          refine A_regC [(some 90, true)] (conG Try.prog [(90, fun _ _ v_ L_ U_ => ∀ u0_, shunterref07_TakeName_v1_m N x_0 x_1 x_2 x_3 = some u0_ → (pO (List.flatten []) (oR encY ro u0_.1 fun s_0 => (oE (Value.tuple #[Value.agg #[s_0, Value.int .i64 (u0_.2.1), Value.int .i64 (u0_.2.2.1), Value.int .i64 (u0_.2.2.2.1)], Value.string (⟨(u0_.2.2.2.2).toArray⟩)]) []))) v_ L_ U_)]) ?_
          refine r_l (Value.agg #[x_0v, Value.int .i64 (x_1), Value.int .i64 (x_2), Value.int .i64 (x_3)]) 2 _ _ _ _ rfl rfl rfl rfl rfl ?_
          replace hM := bind_sm hM; obtain ⟨r61, hr62, hM⟩ := hM
          refine r_gm (Ls := [[(b4, 39, #[Value.slice none 0 0, Value.int .i64 (0), Value.int .i64 (0), Value.int .i64 (0)])], [(b3, 34, #[Value.int .i64 (o_0), Value.int .i64 (o_1), Value.int .i64 (o_2), Value.int .i64 (o_3), Value.int .i64 (o_4), U (hi (o_5)), U (lo (o_5)), Value.string (⟨(o_6).toArray⟩), o_7v, o_8v])], [(b2, 39, #[x_0v, Value.int .i64 (x_1), Value.int .i64 (x_2), Value.int .i64 (x_3)])], [(br, 69, #[r_0v, Value.int .i64 (r55.2.2.1), Value.int .i64 (r55.2.2.2)])], S58]) (FL := []) (RL := [[(b4, 39, #[Value.slice none 0 0, Value.int .i64 (0), Value.int .i64 (0), Value.int .i64 (0)])], [(b3, 34, #[Value.int .i64 (o_0), Value.int .i64 (o_1), Value.int .i64 (o_2), Value.int .i64 (o_3), Value.int .i64 (o_4), U (hi (o_5)), U (lo (o_5)), Value.string (⟨(o_6).toArray⟩), o_7v, o_8v])], [(b2, 39, #[x_0v, Value.int .i64 (x_1), Value.int .i64 (x_2), Value.int .i64 (x_3)])], [(br, 69, #[r_0v, Value.int .i64 (r55.2.2.1), Value.int .i64 (r55.2.2.2)])], S58]) [] (oR encY ro r61.1 fun s_0 => (oE (Value.tuple #[Value.agg #[s_0, Value.int .i64 (r61.2.1), Value.int .i64 (r61.2.2.1), Value.int .i64 (r61.2.2.2.1)], Value.string (⟨(r61.2.2.2.2).toArray⟩)]) [])) (some 90) 37 _ rfl rfl rfl rfl rfl (ev_callF rfl call_37 rfl) (fun own_ nw_ hn_ hs_ => DoesI.ro_mono (ro_sans (Ls := [[(b4, 39, #[Value.slice none 0 0, Value.int .i64 (0), Value.int .i64 (0), Value.int .i64 (0)])], [(b3, 34, #[Value.int .i64 (o_0), Value.int .i64 (o_1), Value.int .i64 (o_2), Value.int .i64 (o_3), Value.int .i64 (o_4), U (hi (o_5)), U (lo (o_5)), Value.string (⟨(o_6).toArray⟩), o_7v, o_8v])], [(b2, 39, #[x_0v, Value.int .i64 (x_1), Value.int .i64 (x_2), Value.int .i64 (x_3)])], [(br, 69, #[r_0v, Value.int .i64 (r55.2.2.1), Value.int .i64 (r55.2.2.2)])], S58]) (is := []) rfl hs_) (shunterref07_TakeName_v1_g N x_0 x_1 x_2 x_3 _ hr62 ro x_0v hx_0)) (fun _ _ v_ L_ U_ => ⟨fun h_ => h_ _ hr62, fun h_ => by intro _ e_; cases Option.some.inj (e_.symm.trans hr62); exact h_⟩) (fun h_ => nomatch h_) ?_
          rintro _ _ ⟨s63, hs64, ⟨rfl, rfl⟩⟩
          refine lx_perm (Ls := [[(b4, 39, #[Value.slice none 0 0, Value.int .i64 (0), Value.int .i64 (0), Value.int .i64 (0)])], [(b3, 34, #[Value.int .i64 (o_0), Value.int .i64 (o_1), Value.int .i64 (o_2), Value.int .i64 (o_3), Value.int .i64 (o_4), U (hi (o_5)), U (lo (o_5)), Value.string (⟨(o_6).toArray⟩), o_7v, o_8v])], [(b2, 39, #[x_0v, Value.int .i64 (x_1), Value.int .i64 (x_2), Value.int .i64 (x_3)])], [(br, 69, #[r_0v, Value.int .i64 (r55.2.2.1), Value.int .i64 (r55.2.2.2)])], S58]) (Ls' := [[(b4, 39, #[Value.slice none 0 0, Value.int .i64 (0), Value.int .i64 (0), Value.int .i64 (0)])], [(b3, 34, #[Value.int .i64 (o_0), Value.int .i64 (o_1), Value.int .i64 (o_2), Value.int .i64 (o_3), Value.int .i64 (o_4), U (hi (o_5)), U (lo (o_5)), Value.string (⟨(o_6).toArray⟩), o_7v, o_8v])], [(b2, 39, #[x_0v, Value.int .i64 (x_1), Value.int .i64 (x_2), Value.int .i64 (x_3)])], [(br, 69, #[r_0v, Value.int .i64 (r55.2.2.1), Value.int .i64 (r55.2.2.2)])], S58]) [0, 1, 2, 3, 4] rfl rfl ?_
          refine r_v (Value.tuple #[Value.agg #[s63, Value.int .i64 (r61.2.1), Value.int .i64 (r61.2.2.1), Value.int .i64 (r61.2.2.2.1)], Value.string (⟨(r61.2.2.2.2).toArray⟩)]) rfl rfl rfl rfl ?_
          refine r_v (Value.agg #[s63, Value.int .i64 (r61.2.1), Value.int .i64 (r61.2.2.1), Value.int .i64 (r61.2.2.2.1)]) rfl rfl rfl rfl ?_
          refine r_v (Value.string (⟨(r61.2.2.2.2).toArray⟩)) rfl rfl rfl rfl ?_
          refine r_a (39, #[Value.slice none 0 0, Value.int .i64 (0), Value.int .i64 (0), Value.int .i64 (0)]) rfl rfl rfl (fun b65 => ?_) (.inr rfl)
          refine r_s (List.flatten [[(b65, 39, #[s63, Value.int .i64 (r61.2.1), Value.int .i64 (r61.2.2.1), Value.int .i64 (r61.2.2.2.1)])], [(b4, 39, #[Value.slice none 0 0, Value.int .i64 (0), Value.int .i64 (0), Value.int .i64 (0)])], [(b3, 34, #[Value.int .i64 (o_0), Value.int .i64 (o_1), Value.int .i64 (o_2), Value.int .i64 (o_3), Value.int .i64 (o_4), U (hi (o_5)), U (lo (o_5)), Value.string (⟨(o_6).toArray⟩), o_7v, o_8v])], [(b2, 39, #[x_0v, Value.int .i64 (x_1), Value.int .i64 (x_2), Value.int .i64 (x_3)])], [(br, 69, #[r_0v, Value.int .i64 (r55.2.2.1), Value.int .i64 (r55.2.2.2)])], S58]) 0 _ _ _ (#[Value.slice none 0 0, Value.int .i64 (0), Value.int .i64 (0), Value.int .i64 (0)]) (#[s63, Value.int .i64 (r61.2.1), Value.int .i64 (r61.2.2.1), Value.int .i64 (r61.2.2.2.1)]) (#[s63, Value.int .i64 (r61.2.1), Value.int .i64 (r61.2.2.1), Value.int .i64 (r61.2.2.2.1)]) rfl rfl rfl rfl (.ofS rfl rfl (all_cons' (Shp.one (Rd.shp hs64)) (all_cons' rfl (all_cons' rfl (all_cons' rfl all_nil'))))) rfl rfl ?_
          refine r_v (Value.string (⟨(r61.2.2.2.2).toArray⟩)) rfl rfl rfl rfl ?_
          refine lx_nil ?_
          refine hK60 _ _ ?_; try clear hK60 K60
          refine A_seq fun K66 hK66 => ?_
          refine A_reg ?_
          refine r_l (Value.agg #[s63, Value.int .i64 (r61.2.1), Value.int .i64 (r61.2.2.1), Value.int .i64 (r61.2.2.2.1)]) 0 _ _ _ _ rfl rfl rfl rfl rfl ?_
          refine r_v (Value.string (⟨(r55.1).toArray⟩)) rfl rfl rfl rfl ?_
          refine r_v (Value.string (⟨(r61.2.2.2.2).toArray⟩)) rfl rfl rfl rfl ?_
          refine r_v (Value.bool ((r55.1) == (r61.2.2.2.2))) rfl rfl rfl (ev_eqS rfl rfl) ?_
          refine r_s (List.flatten [[(b65, 39, #[s63, Value.int .i64 (r61.2.1), Value.int .i64 (r61.2.2.1), Value.int .i64 (r61.2.2.2.1)])], [(b4, 39, #[s63, Value.int .i64 (r61.2.1), Value.int .i64 (r61.2.2.1), Value.int .i64 (r61.2.2.2.1)])], [(b3, 34, #[Value.int .i64 (o_0), Value.int .i64 (o_1), Value.int .i64 (o_2), Value.int .i64 (o_3), Value.int .i64 (o_4), U (hi (o_5)), U (lo (o_5)), Value.string (⟨(o_6).toArray⟩), o_7v, o_8v])], [(b2, 39, #[x_0v, Value.int .i64 (x_1), Value.int .i64 (x_2), Value.int .i64 (x_3)])], [(br, 69, #[r_0v, Value.int .i64 (r55.2.2.1), Value.int .i64 (r55.2.2.2)])], S58]) 1 _ _ _ (#[Value.slice none 0 0, Value.int .i64 (0), Value.int .i64 (0), Value.int .i64 (0)]) (#[s63, Value.int .i64 (r61.2.1), Value.int .i64 (r61.2.2.1), Value.int .i64 (r61.2.2.2.1)]) (#[s63, Value.int .i64 (r61.2.1), Value.int .i64 (r61.2.2.1), Value.int .i64 (r61.2.2.2.1)]) rfl rfl rfl rfl (.ofS rfl rfl (all_cons' (Shp.one (Rd.shp hs64)) (all_cons' rfl (all_cons' rfl (all_cons' rfl all_nil'))))) rfl rfl ?_
          refine r_v (Value.bool ((r55.1) == (r61.2.2.2.2))) rfl rfl rfl rfl ?_
          refine lx_nil ?_
          refine hK66 _ _ ?_; try clear hK66 K66
          obtain rfl := Option.some.inj hM
          refine A_ret (fun hn => endsO (v0 := Value.tuple #[Value.agg #[s63, Value.int .i64 (r61.2.1), Value.int .i64 (r61.2.2.1), Value.int .i64 (r61.2.2.2.1)], Value.bool ((r55.1) == (r61.2.2.2.2))]) (O := [S58, [(br, 69, #[r_0v, Value.int .i64 (r55.2.2.1), Value.int .i64 (r55.2.2.2)])]]) (res2 (res_cell hn 1 rfl rfl rfl) rfl) (Sub.pick [[(b65, 39, #[s63, Value.int .i64 (r61.2.1), Value.int .i64 (r61.2.2.1), Value.int .i64 (r61.2.2.2.1)])], [(b4, 39, #[s63, Value.int .i64 (r61.2.1), Value.int .i64 (r61.2.2.1), Value.int .i64 (r61.2.2.2.1)])], [(b3, 34, #[Value.int .i64 (o_0), Value.int .i64 (o_1), Value.int .i64 (o_2), Value.int .i64 (o_3), Value.int .i64 (o_4), U (hi (o_5)), U (lo (o_5)), Value.string (⟨(o_6).toArray⟩), o_7v, o_8v])], [(b2, 39, #[x_0v, Value.int .i64 (x_1), Value.int .i64 (x_2), Value.int .i64 (x_3)])], [(br, 69, #[r_0v, Value.int .i64 (r55.2.2.1), Value.int .i64 (r55.2.2.2)])], S58] [5, 4] rfl) ⟨s63, hs64, ⟨S58, _, H59, ⟨rfl, rfl⟩, rfl⟩⟩)
        · replace hM := ifn (ne_of_beq_false hc53) hM
          refine A_seq fun K67 hK67 => ?_
          refine A_reg ?_
          refine r_v (Value.bool (((o_0 : Int) == 5))) rfl rfl rfl rfl ?_
          refine r_v (Value.bool (((o_0 : Int) == 5))) rfl rfl rfl rfl ?_
          refine lx_nil ?_
          refine hK67 _ _ ?_; try clear hK67 K67
          refine A_cond (((o_0 : Int) == 5)) rfl (fun hc68 => ?_) (fun hc68 => ?_)
          · replace hM := ifp (eq_of_beq hc68) hM
            refine A_seq fun K69 hK69 => ?_
            refine A_regC [(some 102, true)] (conG Try.prog [(102, fun _ _ v_ L_ U_ => ∀ u0_, wire_Reader_Vecs_v1_m N r_0 r_1 r_2 o_2 = some u0_ → (pO (List.flatten [[(br, 69, #[r_0v, Value.int .i64 (r_1), Value.int .i64 (r_2)])], Sr_0]) (oS 30 enc_30 u0_.1 fun s_0 => (oI 5 encY r_0v u0_.2.1 (oE (s_0) [[(br, 69, #[r_0v, Value.int .i64 (u0_.2.2.1), Value.int .i64 (u0_.2.2.2)])]])))) v_ L_ U_)]) ?_
            refine r_v (Value.pointer (some ⟨br, 0, none⟩)) rfl rfl rfl rfl ?_
            refine r_v (Value.pointer (some ⟨b3, 2, none⟩)) rfl rfl rfl rfl ?_
            refine r_l (Value.int .i64 (o_2)) 1 _ _ _ _ rfl rfl rfl rfl rfl ?_
            replace hM := bind_sm hM; obtain ⟨r70, hr71, hM⟩ := hM
            replace hM := ck_some hM; obtain ⟨ck72, hM⟩ := hM
            refine r_gm (Ls := [[(b4, 39, #[Value.slice none 0 0, Value.int .i64 (0), Value.int .i64 (0), Value.int .i64 (0)])], [(b3, 34, #[Value.int .i64 (o_0), Value.int .i64 (o_1), Value.int .i64 (o_2), Value.int .i64 (o_3), Value.int .i64 (o_4), U (hi (o_5)), U (lo (o_5)), Value.string (⟨(o_6).toArray⟩), o_7v, o_8v])], [(b2, 39, #[x_0v, Value.int .i64 (x_1), Value.int .i64 (x_2), Value.int .i64 (x_3)])], [(br, 69, #[r_0v, Value.int .i64 (r_1), Value.int .i64 (r_2)])], Sr_0]) (FL := [[(br, 69, #[r_0v, Value.int .i64 (r_1), Value.int .i64 (r_2)])], Sr_0]) (RL := [[(b4, 39, #[Value.slice none 0 0, Value.int .i64 (0), Value.int .i64 (0), Value.int .i64 (0)])], [(b3, 34, #[Value.int .i64 (o_0), Value.int .i64 (o_1), Value.int .i64 (o_2), Value.int .i64 (o_3), Value.int .i64 (o_4), U (hi (o_5)), U (lo (o_5)), Value.string (⟨(o_6).toArray⟩), o_7v, o_8v])], [(b2, 39, #[x_0v, Value.int .i64 (x_1), Value.int .i64 (x_2), Value.int .i64 (x_3)])]]) [3, 4] (oS 30 enc_30 r70.1 fun s_0 => (oI 5 encY r_0v r70.2.1 (oE (s_0) [[(br, 69, #[r_0v, Value.int .i64 (r70.2.2.1), Value.int .i64 (r70.2.2.2)])]]))) (some 102) 38 _ rfl rfl rfl rfl rfl (ev_callF rfl call_38 rfl) (fun own_ nw_ hn_ hs_ => wire_Reader_Vecs_v1_g N r_0 r_1 r_2 o_2 _ hr71 _ br r_0v Sr_0 hr_0) (fun _ _ v_ L_ U_ => ⟨fun h_ => h_ _ hr71, fun h_ => by intro _ e_; cases Option.some.inj (e_.symm.trans hr71); exact h_⟩) (fun h_ => nomatch h_) ?_
            rintro s75 _ ⟨_, S76, _, H77, ⟨S73, _, H74, ⟨rfl, rfl⟩, rfl⟩, rfl⟩
            refine lx_perm (Ls := [[(b4, 39, #[Value.slice none 0 0, Value.int .i64 (0), Value.int .i64 (0), Value.int .i64 (0)])], [(b3, 34, #[Value.int .i64 (o_0), Value.int .i64 (o_1), Value.int .i64 (o_2), Value.int .i64 (o_3), Value.int .i64 (o_4), U (hi (o_5)), U (lo (o_5)), Value.string (⟨(o_6).toArray⟩), o_7v, o_8v])], [(b2, 39, #[x_0v, Value.int .i64 (x_1), Value.int .i64 (x_2), Value.int .i64 (x_3)])], S76, S73, [(br, 69, #[r_0v, Value.int .i64 (r70.2.2.1), Value.int .i64 (r70.2.2.2)])]]) (Ls' := [[(b4, 39, #[Value.slice none 0 0, Value.int .i64 (0), Value.int .i64 (0), Value.int .i64 (0)])], [(b3, 34, #[Value.int .i64 (o_0), Value.int .i64 (o_1), Value.int .i64 (o_2), Value.int .i64 (o_3), Value.int .i64 (o_4), U (hi (o_5)), U (lo (o_5)), Value.string (⟨(o_6).toArray⟩), o_7v, o_8v])], [(b2, 39, #[x_0v, Value.int .i64 (x_1), Value.int .i64 (x_2), Value.int .i64 (x_3)])], [(br, 69, #[r_0v, Value.int .i64 (r70.2.2.1), Value.int .i64 (r70.2.2.2)])], S76, S73]) [0, 1, 2, 5, 3, 4] rfl rfl ?_
            refine r_v (s75) rfl rfl rfl rfl ?_
            refine lx_nil ?_
            refine hK69 _ _ ?_; try clear hK69 K69
            refine A_seq fun K78 hK78 => ?_
            refine A_regC [(some 107, true)] (conG Try.prog [(107, fun _ _ v_ L_ U_ => ∀ u0_, shunterref07_Count_v1_m N x_0 x_1 x_2 x_3 o_2 = some u0_ → (pO (List.flatten []) (oR encY ro u0_.1 fun s_0 => (oE (Value.tuple #[Value.agg #[s_0, Value.int .i64 (u0_.2.1), Value.int .i64 (u0_.2.2.1), Value.int .i64 (u0_.2.2.2.1)], Value.int .i64 (u0_.2.2.2.2)]) []))) v_ L_ U_)]) ?_
            refine r_l (Value.agg #[x_0v, Value.int .i64 (x_1), Value.int .i64 (x_2), Value.int .i64 (x_3)]) 2 _ _ _ _ rfl rfl rfl rfl rfl ?_
            refine r_v (Value.pointer (some ⟨b3, 2, none⟩)) rfl rfl rfl rfl ?_
            refine r_l (Value.int .i64 (o_2)) 1 _ _ _ _ rfl rfl rfl rfl rfl ?_
            replace hM := bind_sm hM; obtain ⟨r79, hr80, hM⟩ := hM
            refine r_gm (Ls := [[(b4, 39, #[Value.slice none 0 0, Value.int .i64 (0), Value.int .i64 (0), Value.int .i64 (0)])], [(b3, 34, #[Value.int .i64 (o_0), Value.int .i64 (o_1), Value.int .i64 (o_2), Value.int .i64 (o_3), Value.int .i64 (o_4), U (hi (o_5)), U (lo (o_5)), Value.string (⟨(o_6).toArray⟩), o_7v, o_8v])], [(b2, 39, #[x_0v, Value.int .i64 (x_1), Value.int .i64 (x_2), Value.int .i64 (x_3)])], [(br, 69, #[r_0v, Value.int .i64 (r70.2.2.1), Value.int .i64 (r70.2.2.2)])], S76, S73]) (FL := []) (RL := [[(b4, 39, #[Value.slice none 0 0, Value.int .i64 (0), Value.int .i64 (0), Value.int .i64 (0)])], [(b3, 34, #[Value.int .i64 (o_0), Value.int .i64 (o_1), Value.int .i64 (o_2), Value.int .i64 (o_3), Value.int .i64 (o_4), U (hi (o_5)), U (lo (o_5)), Value.string (⟨(o_6).toArray⟩), o_7v, o_8v])], [(b2, 39, #[x_0v, Value.int .i64 (x_1), Value.int .i64 (x_2), Value.int .i64 (x_3)])], [(br, 69, #[r_0v, Value.int .i64 (r70.2.2.1), Value.int .i64 (r70.2.2.2)])], S76, S73]) [] (oR encY ro r79.1 fun s_0 => (oE (Value.tuple #[Value.agg #[s_0, Value.int .i64 (r79.2.1), Value.int .i64 (r79.2.2.1), Value.int .i64 (r79.2.2.2.1)], Value.int .i64 (r79.2.2.2.2)]) [])) (some 107) 39 _ rfl rfl rfl rfl rfl (ev_callF rfl call_39 rfl) (fun own_ nw_ hn_ hs_ => DoesI.ro_mono (ro_sans (Ls := [[(b4, 39, #[Value.slice none 0 0, Value.int .i64 (0), Value.int .i64 (0), Value.int .i64 (0)])], [(b3, 34, #[Value.int .i64 (o_0), Value.int .i64 (o_1), Value.int .i64 (o_2), Value.int .i64 (o_3), Value.int .i64 (o_4), U (hi (o_5)), U (lo (o_5)), Value.string (⟨(o_6).toArray⟩), o_7v, o_8v])], [(b2, 39, #[x_0v, Value.int .i64 (x_1), Value.int .i64 (x_2), Value.int .i64 (x_3)])], [(br, 69, #[r_0v, Value.int .i64 (r70.2.2.1), Value.int .i64 (r70.2.2.2)])], S76, S73]) (is := []) rfl hs_) (shunterref07_Count_v1_g N x_0 x_1 x_2 x_3 o_2 _ hr80 ro x_0v hx_0)) (fun _ _ v_ L_ U_ => ⟨fun h_ => h_ _ hr80, fun h_ => by intro _ e_; cases Option.some.inj (e_.symm.trans hr80); exact h_⟩) (fun h_ => nomatch h_) ?_
            rintro _ _ ⟨s81, hs82, ⟨rfl, rfl⟩⟩
            refine lx_perm (Ls := [[(b4, 39, #[Value.slice none 0 0, Value.int .i64 (0), Value.int .i64 (0), Value.int .i64 (0)])], [(b3, 34, #[Value.int .i64 (o_0), Value.int .i64 (o_1), Value.int .i64 (o_2), Value.int .i64 (o_3), Value.int .i64 (o_4), U (hi (o_5)), U (lo (o_5)), Value.string (⟨(o_6).toArray⟩), o_7v, o_8v])], [(b2, 39, #[x_0v, Value.int .i64 (x_1), Value.int .i64 (x_2), Value.int .i64 (x_3)])], [(br, 69, #[r_0v, Value.int .i64 (r70.2.2.1), Value.int .i64 (r70.2.2.2)])], S76, S73]) (Ls' := [[(b4, 39, #[Value.slice none 0 0, Value.int .i64 (0), Value.int .i64 (0), Value.int .i64 (0)])], [(b3, 34, #[Value.int .i64 (o_0), Value.int .i64 (o_1), Value.int .i64 (o_2), Value.int .i64 (o_3), Value.int .i64 (o_4), U (hi (o_5)), U (lo (o_5)), Value.string (⟨(o_6).toArray⟩), o_7v, o_8v])], [(b2, 39, #[x_0v, Value.int .i64 (x_1), Value.int .i64 (x_2), Value.int .i64 (x_3)])], [(br, 69, #[r_0v, Value.int .i64 (r70.2.2.1), Value.int .i64 (r70.2.2.2)])], S76, S73]) [0, 1, 2, 3, 4, 5] rfl rfl ?_
            refine r_v (Value.tuple #[Value.agg #[s81, Value.int .i64 (r79.2.1), Value.int .i64 (r79.2.2.1), Value.int .i64 (r79.2.2.2.1)], Value.int .i64 (r79.2.2.2.2)]) rfl rfl rfl rfl ?_
            refine r_v (Value.agg #[s81, Value.int .i64 (r79.2.1), Value.int .i64 (r79.2.2.1), Value.int .i64 (r79.2.2.2.1)]) rfl rfl rfl rfl ?_
            refine r_v (Value.int .i64 (r79.2.2.2.2)) rfl rfl rfl rfl ?_
            refine r_a (39, #[Value.slice none 0 0, Value.int .i64 (0), Value.int .i64 (0), Value.int .i64 (0)]) rfl rfl rfl (fun b83 => ?_) (.inr rfl)
            refine r_s (List.flatten [[(b83, 39, #[s81, Value.int .i64 (r79.2.1), Value.int .i64 (r79.2.2.1), Value.int .i64 (r79.2.2.2.1)])], [(b4, 39, #[Value.slice none 0 0, Value.int .i64 (0), Value.int .i64 (0), Value.int .i64 (0)])], [(b3, 34, #[Value.int .i64 (o_0), Value.int .i64 (o_1), Value.int .i64 (o_2), Value.int .i64 (o_3), Value.int .i64 (o_4), U (hi (o_5)), U (lo (o_5)), Value.string (⟨(o_6).toArray⟩), o_7v, o_8v])], [(b2, 39, #[x_0v, Value.int .i64 (x_1), Value.int .i64 (x_2), Value.int .i64 (x_3)])], [(br, 69, #[r_0v, Value.int .i64 (r70.2.2.1), Value.int .i64 (r70.2.2.2)])], S76, S73]) 0 _ _ _ (#[Value.slice none 0 0, Value.int .i64 (0), Value.int .i64 (0), Value.int .i64 (0)]) (#[s81, Value.int .i64 (r79.2.1), Value.int .i64 (r79.2.2.1), Value.int .i64 (r79.2.2.2.1)]) (#[s81, Value.int .i64 (r79.2.1), Value.int .i64 (r79.2.2.1), Value.int .i64 (r79.2.2.2.1)]) rfl rfl rfl rfl (.ofS rfl rfl (all_cons' (Shp.one (Rd.shp hs82)) (all_cons' rfl (all_cons' rfl (all_cons' rfl all_nil'))))) rfl rfl ?_
            refine r_v (Value.int .i64 (r79.2.2.2.2)) rfl rfl rfl rfl ?_
            refine lx_nil ?_
            refine hK78 _ _ ?_; try clear hK78 K78
            refine A_seq fun K84 hK84 => ?_
            refine A_reg ?_
            refine r_v (Value.slice none 0 0) rfl rfl rfl rfl ?_
            refine lx_nil ?_
            refine hK84 _ _ ?_; try clear hK84 K84
            refine A_seq fun K85 hK85 => ?_
            refine A_seq fun K86 hK86 => ?_
            refine A_reg ?_
            refine r_v (Value.int .i64 (0)) rfl rfl rfl rfl ?_
            refine lx_nil ?_
            refine hK86 _ _ ?_; try clear hK86 K86
            refine A_block ?_
            refine A_forget _ (Sub.pickE (Ls := [[(b83, 39, #[s81, Value.int .i64 (r79.2.1), Value.int .i64 (r79.2.2.1), Value.int .i64 (r79.2.2.2.1)])], [(b4, 39, #[Value.slice none 0 0, Value.int .i64 (0), Value.int .i64 (0), Value.int .i64 (0)])], [(b3, 34, #[Value.int .i64 (o_0), Value.int .i64 (o_1), Value.int .i64 (o_2), Value.int .i64 (o_3), Value.int .i64 (o_4), U (hi (o_5)), U (lo (o_5)), Value.string (⟨(o_6).toArray⟩), o_7v, o_8v])], [(b2, 39, #[x_0v, Value.int .i64 (x_1), Value.int .i64 (x_2), Value.int .i64 (x_3)])], [(br, 69, #[r_0v, Value.int .i64 (r70.2.2.1), Value.int .i64 (r70.2.2.2)])], S76, S73, []]) (Ls0 := [[(b83, 39, #[s81, Value.int .i64 (r79.2.1), Value.int .i64 (r79.2.2.1), Value.int .i64 (r79.2.2.2.1)])], [(b4, 39, #[Value.slice none 0 0, Value.int .i64 (0), Value.int .i64 (0), Value.int .i64 (0)])], [(b3, 34, #[Value.int .i64 (o_0), Value.int .i64 (o_1), Value.int .i64 (o_2), Value.int .i64 (o_3), Value.int .i64 (o_4), U (hi (o_5)), U (lo (o_5)), Value.string (⟨(o_6).toArray⟩), o_7v, o_8v])], [(b2, 39, #[x_0v, Value.int .i64 (x_1), Value.int .i64 (x_2), Value.int .i64 (x_3)])], [(br, 69, #[r_0v, Value.int .i64 (r70.2.2.1), Value.int .i64 (r70.2.2.2)])], S76, S73]) rfl [0, 1, 4, 5, 6, 7] rfl) ?_
            refine A_loop (fun tt ll nn => ∃ (n87 : Nat) (want7_ : List (Int × BitVec 128)) (i8_ : Int) (m9__0 : List UInt8) (m9__1 : Int) (m9__2 : Int) (m9__3 : Int), (shunterlaw07_reads_v1_l10 N r70 r79 n87 want7_ i8_ m9__0 m9__1 m9__2 m9__3 = some r) ∧ ∃ (vwant7_ : Value) (Swant7_ : List Bl), Sl 30 enc_30 vwant7_ want7_ Swant7_ ∧ ∃ (vm9__0 : Value), Rd encY ro vm9__0 m9__0 ∧ Is [(6, Value.pointer (some ⟨b4, 0, none⟩)), (16, s75), (17, Value.pointer (some ⟨b83, 0, none⟩)), (18, Value.int .i64 (r79.2.2.2.2)), (19, vwant7_), (20, Value.int .i64 (i8_))] (List.flatten [[(b83, 39, #[vm9__0, Value.int .i64 (m9__1), Value.int .i64 (m9__2), Value.int .i64 (m9__3)])], [(b4, 39, #[Value.slice none 0 0, Value.int .i64 (0), Value.int .i64 (0), Value.int .i64 (0)])], [(br, 69, #[r_0v, Value.int .i64 (r70.2.2.1), Value.int .i64 (r70.2.2.2)])], S76, S73, Swant7_]) tt ll ∧ nn = n87 + 1) (N + 1) ?_ ?_
            · exact ⟨N, [], 0, r79.1, r79.2.1, r79.2.2.1, r79.2.2.2.1, hM, Value.slice none 0 0, [], Sl.nil, s81, hs82, is_mk rfl rfl, rfl⟩
            · clear hM; rintro t l _ ⟨n87, want7_, i8_, m9__0, m9__1, m9__2, m9__3, hM, vwant7_, Swant7_, hwant7_, vm9__0, hm9__0, ⟨⟨T, rfl⟩, rfl⟩, rfl⟩
              rcases n87 with _ | n87
              · exact absurd hM (by simp [shunterlaw07_reads_v1_l10])
              rw [shunterlaw07_reads_v1_l10] at hM
              refine A_seq fun K88 hK88 => ?_
              refine A_seq fun K89 hK89 => ?_
              refine A_reg ?_
              refine r_v (Value.int .i64 (i8_)) rfl rfl rfl rfl ?_
              refine r_v (Value.int .i64 (r79.2.2.2.2)) rfl rfl rfl rfl ?_
              refine r_v (Value.bool (decide ((i8_ : Int) < r79.2.2.2.2))) rfl rfl rfl rfl ?_
              refine lx_nil ?_
              refine hK89 _ _ ?_; try clear hK89 K89
              refine A_cond (decide ((i8_ : Int) < r79.2.2.2.2)) rfl (fun hc90 => ?_) (fun hc90 => ?_)
              · replace hM := ifp (of_decide_eq_true hc90) hM
                refine A_skip ?_
                refine hK88 _ _ ?_; try clear hK88 K88
                refine A_seq fun K91 hK91 => ?_
                refine A_block ?_
                refine A_seq fun K92 hK92 => ?_
                refine A_reg ?_
                refine r_v (Value.agg #[Value.int .i64 (0), U (0#64), U (0#64)]) rfl rfl rfl (ev_buildS rfl rfl rfl rfl) ?_
                refine r_a (30, #[Value.int .i64 (0), U (0#64), U (0#64)]) rfl rfl rfl (fun b93 => ?_) (.inr rfl)
                refine r_s (List.flatten [[(b93, 30, #[Value.int .i64 (0), U (0#64), U (0#64)])], [(b83, 39, #[vm9__0, Value.int .i64 (m9__1), Value.int .i64 (m9__2), Value.int .i64 (m9__3)])], [(b4, 39, #[Value.slice none 0 0, Value.int .i64 (0), Value.int .i64 (0), Value.int .i64 (0)])], [(br, 69, #[r_0v, Value.int .i64 (r70.2.2.1), Value.int .i64 (r70.2.2.2)])], S76, S73, Swant7_]) 0 _ _ _ (#[Value.int .i64 (0), U (0#64), U (0#64)]) (#[Value.int .i64 (0), U (0#64), U (0#64)]) (#[Value.int .i64 (0), U (0#64), U (0#64)]) rfl rfl rfl rfl (.of rfl rfl) rfl rfl ?_
                refine lx_nil ?_
                refine hK92 _ _ ?_; try clear hK92 K92
                refine A_seq fun K94 hK94 => ?_
                refine A_regC [(some 118, true)] (conG Try.prog [(118, fun _ _ v_ L_ U_ => ∀ u0_, shunterref07_TakeVec_v1_m N m9__0 m9__1 m9__2 m9__3 = some u0_ → (pO (List.flatten []) (oR encY ro u0_.1 fun s_0 => (oE (Value.tuple #[Value.agg #[s_0, Value.int .i64 (u0_.2.1), Value.int .i64 (u0_.2.2.1), Value.int .i64 (u0_.2.2.2.1)], Value.agg #[Value.int .i64 (u0_.2.2.2.2.1), U (hi (u0_.2.2.2.2.2)), U (lo (u0_.2.2.2.2.2))]]) []))) v_ L_ U_)]) ?_
                refine r_l (Value.agg #[vm9__0, Value.int .i64 (m9__1), Value.int .i64 (m9__2), Value.int .i64 (m9__3)]) 1 _ _ _ _ rfl rfl rfl rfl rfl ?_
                replace hM := bind_sm hM; obtain ⟨r95, hr96, hM⟩ := hM
                refine r_gm (Ls := [[(b93, 30, #[Value.int .i64 (0), U (0#64), U (0#64)])], [(b83, 39, #[vm9__0, Value.int .i64 (m9__1), Value.int .i64 (m9__2), Value.int .i64 (m9__3)])], [(b4, 39, #[Value.slice none 0 0, Value.int .i64 (0), Value.int .i64 (0), Value.int .i64 (0)])], [(br, 69, #[r_0v, Value.int .i64 (r70.2.2.1), Value.int .i64 (r70.2.2.2)])], S76, S73, Swant7_]) (FL := []) (RL := [[(b93, 30, #[Value.int .i64 (0), U (0#64), U (0#64)])], [(b83, 39, #[vm9__0, Value.int .i64 (m9__1), Value.int .i64 (m9__2), Value.int .i64 (m9__3)])], [(b4, 39, #[Value.slice none 0 0, Value.int .i64 (0), Value.int .i64 (0), Value.int .i64 (0)])], [(br, 69, #[r_0v, Value.int .i64 (r70.2.2.1), Value.int .i64 (r70.2.2.2)])], S76, S73, Swant7_]) [] (oR encY ro r95.1 fun s_0 => (oE (Value.tuple #[Value.agg #[s_0, Value.int .i64 (r95.2.1), Value.int .i64 (r95.2.2.1), Value.int .i64 (r95.2.2.2.1)], Value.agg #[Value.int .i64 (r95.2.2.2.2.1), U (hi (r95.2.2.2.2.2)), U (lo (r95.2.2.2.2.2))]]) [])) (some 118) 36 _ rfl rfl rfl rfl rfl (ev_callF rfl call_36 rfl) (fun own_ nw_ hn_ hs_ => DoesI.ro_mono (ro_sans (Ls := [[(b93, 30, #[Value.int .i64 (0), U (0#64), U (0#64)])], [(b83, 39, #[vm9__0, Value.int .i64 (m9__1), Value.int .i64 (m9__2), Value.int .i64 (m9__3)])], [(b4, 39, #[Value.slice none 0 0, Value.int .i64 (0), Value.int .i64 (0), Value.int .i64 (0)])], [(br, 69, #[r_0v, Value.int .i64 (r70.2.2.1), Value.int .i64 (r70.2.2.2)])], S76, S73, Swant7_]) (is := []) rfl hs_) (shunterref07_TakeVec_v1_g N m9__0 m9__1 m9__2 m9__3 _ hr96 ro vm9__0 hm9__0)) (fun _ _ v_ L_ U_ => ⟨fun h_ => h_ _ hr96, fun h_ => by intro _ e_; cases Option.some.inj (e_.symm.trans hr96); exact h_⟩) (fun h_ => nomatch h_) ?_
                rintro _ _ ⟨s97, hs98, ⟨rfl, rfl⟩⟩
                refine lx_perm (Ls := [[(b93, 30, #[Value.int .i64 (0), U (0#64), U (0#64)])], [(b83, 39, #[vm9__0, Value.int .i64 (m9__1), Value.int .i64 (m9__2), Value.int .i64 (m9__3)])], [(b4, 39, #[Value.slice none 0 0, Value.int .i64 (0), Value.int .i64 (0), Value.int .i64 (0)])], [(br, 69, #[r_0v, Value.int .i64 (r70.2.2.1), Value.int .i64 (r70.2.2.2)])], S76, S73, Swant7_]) (Ls' := [[(b93, 30, #[Value.int .i64 (0), U (0#64), U (0#64)])], [(b83, 39, #[vm9__0, Value.int .i64 (m9__1), Value.int .i64 (m9__2), Value.int .i64 (m9__3)])], [(b4, 39, #[Value.slice none 0 0, Value.int .i64 (0), Value.int .i64 (0), Value.int .i64 (0)])], [(br, 69, #[r_0v, Value.int .i64 (r70.2.2.1), Value.int .i64 (r70.2.2.2)])], S76, S73, Swant7_]) [0, 1, 2, 3, 4, 5, 6] rfl rfl ?_
                refine r_v (Value.tuple #[Value.agg #[s97, Value.int .i64 (r95.2.1), Value.int .i64 (r95.2.2.1), Value.int .i64 (r95.2.2.2.1)], Value.agg #[Value.int .i64 (r95.2.2.2.2.1), U (hi (r95.2.2.2.2.2)), U (lo (r95.2.2.2.2.2))]]) rfl rfl rfl rfl ?_
                refine r_v (Value.agg #[s97, Value.int .i64 (r95.2.1), Value.int .i64 (r95.2.2.1), Value.int .i64 (r95.2.2.2.1)]) rfl rfl rfl rfl ?_
                refine r_v (Value.agg #[Value.int .i64 (r95.2.2.2.2.1), U (hi (r95.2.2.2.2.2)), U (lo (r95.2.2.2.2.2))]) rfl rfl rfl rfl ?_
                refine r_s (List.flatten [[(b93, 30, #[Value.int .i64 (0), U (0#64), U (0#64)])], [(b83, 39, #[s97, Value.int .i64 (r95.2.1), Value.int .i64 (r95.2.2.1), Value.int .i64 (r95.2.2.2.1)])], [(b4, 39, #[Value.slice none 0 0, Value.int .i64 (0), Value.int .i64 (0), Value.int .i64 (0)])], [(br, 69, #[r_0v, Value.int .i64 (r70.2.2.1), Value.int .i64 (r70.2.2.2)])], S76, S73, Swant7_]) 1 _ _ _ (#[vm9__0, Value.int .i64 (m9__1), Value.int .i64 (m9__2), Value.int .i64 (m9__3)]) (#[s97, Value.int .i64 (r95.2.1), Value.int .i64 (r95.2.2.1), Value.int .i64 (r95.2.2.2.1)]) (#[s97, Value.int .i64 (r95.2.1), Value.int .i64 (r95.2.2.1), Value.int .i64 (r95.2.2.2.1)]) rfl rfl rfl rfl (.ofS rfl rfl (all_cons' (Shp.one (Rd.shp hs98)) (all_cons' rfl (all_cons' rfl (all_cons' rfl all_nil'))))) rfl rfl ?_
                refine r_s (List.flatten [[(b93, 30, #[Value.int .i64 (r95.2.2.2.2.1), U (hi (r95.2.2.2.2.2)), U (lo (r95.2.2.2.2.2))])], [(b83, 39, #[s97, Value.int .i64 (r95.2.1), Value.int .i64 (r95.2.2.1), Value.int .i64 (r95.2.2.2.1)])], [(b4, 39, #[Value.slice none 0 0, Value.int .i64 (0), Value.int .i64 (0), Value.int .i64 (0)])], [(br, 69, #[r_0v, Value.int .i64 (r70.2.2.1), Value.int .i64 (r70.2.2.2)])], S76, S73, Swant7_]) 0 _ _ _ (#[Value.int .i64 (0), U (0#64), U (0#64)]) (#[Value.int .i64 (r95.2.2.2.2.1), U (hi (r95.2.2.2.2.2)), U (lo (r95.2.2.2.2.2))]) (#[Value.int .i64 (r95.2.2.2.2.1), U (hi (r95.2.2.2.2.2)), U (lo (r95.2.2.2.2.2))]) rfl rfl rfl rfl (.of rfl rfl) rfl rfl ?_
                refine lx_nil ?_
                refine hK94 _ _ ?_; try clear hK94 K94
                refine A_regC [(some 123, false), (some 124, true)] (conG Try.prog []) ?_
                refine r_v (vwant7_) rfl rfl rfl rfl ?_
                refine r_l (Value.agg #[Value.int .i64 (r95.2.2.2.2.1), U (hi (r95.2.2.2.2.2)), U (lo (r95.2.2.2.2.2))]) 0 _ _ _ _ rfl rfl rfl rfl rfl ?_
                refine r_bs (cs0 := []) (Ls := [[(b93, 30, #[Value.int .i64 (r95.2.2.2.2.1), U (hi (r95.2.2.2.2.2)), U (lo (r95.2.2.2.2.2))])], [(b83, 39, #[s97, Value.int .i64 (r95.2.1), Value.int .i64 (r95.2.2.1), Value.int .i64 (r95.2.2.2.1)])], [(b4, 39, #[Value.slice none 0 0, Value.int .i64 (0), Value.int .i64 (0), Value.int .i64 (0)])], [(br, 69, #[r_0v, Value.int .i64 (r70.2.2.1), Value.int .i64 (r70.2.2.2)])], S76, S73, Swant7_]) 30 enc_30 [(r95.2.2.2.2.1, r95.2.2.2.2.2)] [Value.int .i64 (r95.2.2.2.2.1), U (hi (r95.2.2.2.2.2)), U (lo (r95.2.2.2.2.2))] [Value.int .i64 (0), U (0#64), U (0#64)] rfl rfl rfl rfl rfl rfl rfl (by kernel_rfl) (by kernel_rfl) rfl rfl rfl (fun s99 S100 H101 => ?_)
                replace hM := ck_some hM; obtain ⟨ck102, hM⟩ := hM
                refine r_app (cs0 := []) (Ls := [[(b93, 30, #[Value.int .i64 (r95.2.2.2.2.1), U (hi (r95.2.2.2.2.2)), U (lo (r95.2.2.2.2.2))])], [(b83, 39, #[s97, Value.int .i64 (r95.2.1), Value.int .i64 (r95.2.2.1), Value.int .i64 (r95.2.2.2.1)])], [(b4, 39, #[Value.slice none 0 0, Value.int .i64 (0), Value.int .i64 (0), Value.int .i64 (0)])], [(br, 69, #[r_0v, Value.int .i64 (r70.2.2.1), Value.int .i64 (r70.2.2.2)])], S76, S73, Swant7_, S100]) 6 (En := enc_30) rfl rfl rfl rfl rfl hwant7_ rfl (rd_own H101 (mem_chunk (Ls := [[(b93, 30, #[Value.int .i64 (r95.2.2.2.2.1), U (hi (r95.2.2.2.2.2)), U (lo (r95.2.2.2.2.2))])], [(b83, 39, #[s97, Value.int .i64 (r95.2.1), Value.int .i64 (r95.2.2.1), Value.int .i64 (r95.2.2.2.1)])], [(b4, 39, #[Value.slice none 0 0, Value.int .i64 (0), Value.int .i64 (0), Value.int .i64 (0)])], [(br, 69, #[r_0v, Value.int .i64 (r70.2.2.1), Value.int .i64 (r70.2.2.2)])], S76, S73, Swant7_, S100]) (k := 7) rfl rfl)) rfl rfl rfl rfl rfl (app_b ck102 rfl) (app_m ck102 rfl) rfl (fun s103 S104 H105 => ?_)
                refine r_v (s103) rfl rfl rfl rfl ?_
                refine lx_nil ?_
                refine hK91 _ _ ?_; try clear hK91 K91
                refine A_reg ?_
                refine r_v (Value.int .i64 (i8_)) rfl rfl rfl rfl ?_
                replace hM := ck_some hM; obtain ⟨ck106, hM⟩ := hM
                refine r_v (Value.int .i64 ((i8_ + 1))) rfl rfl (wi64 rfl ck106.1 ck106.2) rfl ?_
                refine r_v (Value.int .i64 ((i8_ + 1))) rfl rfl rfl rfl ?_
                refine lx_nil ?_
                refine fg _ (Sub.pick [[(b93, 30, #[Value.int .i64 (r95.2.2.2.2.1), U (hi (r95.2.2.2.2.2)), U (lo (r95.2.2.2.2.2))])], [(b83, 39, #[s97, Value.int .i64 (r95.2.1), Value.int .i64 (r95.2.2.1), Value.int .i64 (r95.2.2.2.1)])], [(b4, 39, #[Value.slice none 0 0, Value.int .i64 (0), Value.int .i64 (0), Value.int .i64 (0)])], [(br, 69, #[r_0v, Value.int .i64 (r70.2.2.1), Value.int .i64 (r70.2.2.2)])], S76, S73, S104, S100] [1, 2, 3, 4, 5, 6] rfl) ?_
                exact ⟨n87 + 1, by omega, n87, (want7_ ++ ([(r95.2.2.2.2.1, r95.2.2.2.2.2)])), (i8_ + 1), r95.1, r95.2.1, r95.2.2.1, r95.2.2.2.1, hM, s103, S104, H105, s97, hs98, is_mk rfl rfl, rfl⟩
              · replace hM := ifn (of_decide_eq_false hc90) hM
                refine A_exit ?_
                refine hK85 _ _ ?_; try clear hK85 K85
                refine A_seq fun K107 hK107 => ?_
                refine A_seq fun K108 hK108 => ?_
                refine A_reg ?_
                refine r_v (Value.pointer (some ⟨b83, 2, none⟩)) rfl rfl rfl rfl ?_
                refine r_l (Value.int .i64 (m9__2)) 0 _ _ _ _ rfl rfl rfl rfl rfl ?_
                refine r_v (Value.bool (((m9__2 : Int) != 0))) rfl rfl rfl rfl ?_
                refine lx_nil ?_
                refine hK108 _ _ ?_; try clear hK108 K108
                refine A_cond (((m9__2 : Int) != 0)) rfl (fun hc109 => ?_) (fun hc109 => ?_)
                · replace hM := ifp (bne_iff_ne.1 hc109) hM
                  refine A_seq fun K110 hK110 => ?_
                  refine A_reg ?_
                  refine r_l (Value.agg #[vm9__0, Value.int .i64 (m9__1), Value.int .i64 (m9__2), Value.int .i64 (m9__3)]) 0 _ _ _ _ rfl rfl rfl rfl rfl ?_
                  refine r_v (s75) rfl rfl rfl rfl ?_
                  refine r_v (Value.int .i64 (((r70.1).length : Int))) rfl rfl rfl (ev_lenSl rfl rfl rfl (Sl.shp H77)) ?_
                  refine r_v (Value.bool (((((r70.1).length : Int) : Int) == 0))) rfl rfl rfl rfl ?_
                  refine r_s (List.flatten [[(b83, 39, #[vm9__0, Value.int .i64 (m9__1), Value.int .i64 (m9__2), Value.int .i64 (m9__3)])], [(b4, 39, #[vm9__0, Value.int .i64 (m9__1), Value.int .i64 (m9__2), Value.int .i64 (m9__3)])], [(br, 69, #[r_0v, Value.int .i64 (r70.2.2.1), Value.int .i64 (r70.2.2.2)])], S76, S73, Swant7_]) 1 _ _ _ (#[Value.slice none 0 0, Value.int .i64 (0), Value.int .i64 (0), Value.int .i64 (0)]) (#[vm9__0, Value.int .i64 (m9__1), Value.int .i64 (m9__2), Value.int .i64 (m9__3)]) (#[vm9__0, Value.int .i64 (m9__1), Value.int .i64 (m9__2), Value.int .i64 (m9__3)]) rfl rfl rfl rfl (.ofS rfl rfl (all_cons' (Shp.one (Rd.shp hm9__0)) (all_cons' rfl (all_cons' rfl (all_cons' rfl all_nil'))))) rfl rfl ?_
                  refine r_v (Value.bool (((((r70.1).length : Int) : Int) == 0))) rfl rfl rfl rfl ?_
                  refine lx_nil ?_
                  refine hK110 _ _ ?_; try clear hK110 K110
                  obtain rfl := Option.some.inj hM
                  refine A_ret (fun hn => endsO (v0 := Value.tuple #[Value.agg #[vm9__0, Value.int .i64 (m9__1), Value.int .i64 (m9__2), Value.int .i64 (m9__3)], Value.bool (((((r70.1).length : Int) : Int) == 0))]) (O := [S73, [(br, 69, #[r_0v, Value.int .i64 (r70.2.2.1), Value.int .i64 (r70.2.2.2)])]]) (res2 (res_cell hn 1 rfl rfl rfl) rfl) (Sub.pick [[(b83, 39, #[vm9__0, Value.int .i64 (m9__1), Value.int .i64 (m9__2), Value.int .i64 (m9__3)])], [(b4, 39, #[vm9__0, Value.int .i64 (m9__1), Value.int .i64 (m9__2), Value.int .i64 (m9__3)])], [(br, 69, #[r_0v, Value.int .i64 (r70.2.2.1), Value.int .i64 (r70.2.2.2)])], S76, S73, Swant7_] [4, 2] rfl) ⟨vm9__0, hm9__0, ⟨S73, _, H74, ⟨rfl, rfl⟩, rfl⟩⟩)
                · replace hM := ifn (bne_f hc109) hM
                  refine A_skip ?_
                  refine hK107 _ _ ?_; try clear hK107 K107
                  refine A_seq fun K111 hK111 => ?_
                  refine A_reg ?_
                  refine r_v (s75) rfl rfl rfl rfl ?_
                  refine r_v (Value.int .i64 (((r70.1).length : Int))) rfl rfl rfl (ev_lenSl rfl rfl rfl (Sl.shp H77)) ?_
                  refine r_v (vwant7_) rfl rfl rfl rfl ?_
                  refine r_v (Value.int .i64 (((want7_).length : Int))) rfl rfl rfl (ev_lenSl rfl rfl rfl (Sl.shp hwant7_)) ?_
                  refine r_v (Value.bool (((((r70.1).length : Int) : Int) == ((want7_).length : Int)))) rfl rfl rfl rfl ?_
                  refine r_v (Value.bool (((((r70.1).length : Int) : Int) == ((want7_).length : Int)))) rfl rfl rfl rfl ?_
                  refine lx_nil ?_
                  refine hK111 _ _ ?_; try clear hK111 K111
                  refine A_seq fun K112 hK112 => ?_
                  refine A_seq fun K113 hK113 => ?_
                  refine A_reg ?_
                  refine r_v (Value.int .i64 (0)) rfl rfl rfl rfl ?_
                  refine lx_nil ?_
                  refine hK113 _ _ ?_; try clear hK113 K113
                  refine A_block ?_
                  refine A_forget _ (Sub.pick [[(b83, 39, #[vm9__0, Value.int .i64 (m9__1), Value.int .i64 (m9__2), Value.int .i64 (m9__3)])], [(b4, 39, #[Value.slice none 0 0, Value.int .i64 (0), Value.int .i64 (0), Value.int .i64 (0)])], [(br, 69, #[r_0v, Value.int .i64 (r70.2.2.1), Value.int .i64 (r70.2.2.2)])], S76, S73, Swant7_] [0, 1, 2, 3, 4, 5] rfl) ?_
                  refine A_loop (fun tt ll nn => ∃ (n114 : Nat) (same11_ : Bool) (i12_ : Int), (shunterlaw07_reads_v1_l13 r70 want7_ m9__0 m9__1 m9__2 m9__3 n114 same11_ i12_ = some r) ∧ Is [(6, Value.pointer (some ⟨b4, 0, none⟩)), (16, s75), (17, Value.pointer (some ⟨b83, 0, none⟩)), (19, vwant7_), (22, Value.bool (same11_)), (23, Value.int .i64 (i12_))] (List.flatten [[(b83, 39, #[vm9__0, Value.int .i64 (m9__1), Value.int .i64 (m9__2), Value.int .i64 (m9__3)])], [(b4, 39, #[Value.slice none 0 0, Value.int .i64 (0), Value.int .i64 (0), Value.int .i64 (0)])], [(br, 69, #[r_0v, Value.int .i64 (r70.2.2.1), Value.int .i64 (r70.2.2.2)])], S76, S73, Swant7_]) tt ll ∧ nn = n114 + 1) (N + 1) ?_ ?_
                  · exact ⟨N, ((((r70.1).length : Int) : Int) == ((want7_).length : Int)), 0, hM, is_mk rfl rfl, rfl⟩
                  · clear hM; rintro t l _ ⟨n114, same11_, i12_, hM, ⟨⟨T, rfl⟩, rfl⟩, rfl⟩
                    rcases n114 with _ | n114
                    · exact absurd hM (by simp [shunterlaw07_reads_v1_l13])
                    rw [shunterlaw07_reads_v1_l13] at hM
                    refine A_cut (fun tt ll => (shunterlaw07_reads_v1_k14 r70 want7_ i12_ (shunterlaw07_reads_v1_l13 r70 want7_ m9__0 m9__1 m9__2 m9__3 n114)  = some r) ∧ Is [(6, Value.pointer (some ⟨b4, 0, none⟩)), (16, s75), (17, Value.pointer (some ⟨b83, 0, none⟩)), (19, vwant7_), (23, Value.int .i64 (i12_))] (List.flatten [[(b83, 39, #[vm9__0, Value.int .i64 (m9__1), Value.int .i64 (m9__2), Value.int .i64 (m9__3)])], [(b4, 39, #[Value.slice none 0 0, Value.int .i64 (0), Value.int .i64 (0), Value.int .i64 (0)])], [(br, 69, #[r_0v, Value.int .i64 (r70.2.2.1), Value.int .i64 (r70.2.2.2)])], S76, S73, Swant7_]) tt ll) ?_ ?_
                    · refine A_seq fun K119 hK119 => ?_
                      refine A_reg ?_
                      refine r_v (Value.int .i64 (i12_)) rfl rfl rfl rfl ?_
                      refine r_v (vwant7_) rfl rfl rfl rfl ?_
                      refine r_v (Value.int .i64 (((want7_).length : Int))) rfl rfl rfl (ev_lenSl rfl rfl rfl (Sl.shp hwant7_)) ?_
                      refine r_v (Value.bool (decide ((i12_ : Int) < ((want7_).length : Int)))) rfl rfl rfl rfl ?_
                      refine r_v (Value.bool (decide ((i12_ : Int) < ((want7_).length : Int)))) rfl rfl rfl rfl ?_
                      rcases hg120 : (decide ((i12_ : Int) < ((want7_).length : Int))) with _ | _
                      · replace hM := ifn (of_decide_eq_false hg120) hM
                        refine r_n false rfl (by decide) rfl ?_
                        refine r_v (Value.bool (false)) rfl rfl rfl rfl ?_
                        refine lx_nil ?_
                        refine hK119 _ _ ?_; try clear hK119 K119
                        refine A_cond false rfl (fun h_ => nomatch h_) (fun _ => ?_)
                        refine A_exit ?_
                        refine hK112 _ _ ?_; try clear hK112 K112
                        refine A_seq fun K121 hK121 => ?_
                        refine A_reg ?_
                        refine r_l (Value.agg #[vm9__0, Value.int .i64 (m9__1), Value.int .i64 (m9__2), Value.int .i64 (m9__3)]) 0 _ _ _ _ rfl rfl rfl rfl rfl ?_
                        refine r_v (Value.bool (same11_)) rfl rfl rfl rfl ?_
                        refine r_s (List.flatten [[(b83, 39, #[vm9__0, Value.int .i64 (m9__1), Value.int .i64 (m9__2), Value.int .i64 (m9__3)])], [(b4, 39, #[vm9__0, Value.int .i64 (m9__1), Value.int .i64 (m9__2), Value.int .i64 (m9__3)])], [(br, 69, #[r_0v, Value.int .i64 (r70.2.2.1), Value.int .i64 (r70.2.2.2)])], S76, S73, Swant7_]) 1 _ _ _ (#[Value.slice none 0 0, Value.int .i64 (0), Value.int .i64 (0), Value.int .i64 (0)]) (#[vm9__0, Value.int .i64 (m9__1), Value.int .i64 (m9__2), Value.int .i64 (m9__3)]) (#[vm9__0, Value.int .i64 (m9__1), Value.int .i64 (m9__2), Value.int .i64 (m9__3)]) rfl rfl rfl rfl (.ofS rfl rfl (all_cons' (Shp.one (Rd.shp hm9__0)) (all_cons' rfl (all_cons' rfl (all_cons' rfl all_nil'))))) rfl rfl ?_
                        refine r_v (Value.bool (same11_)) rfl rfl rfl rfl ?_
                        refine lx_nil ?_
                        refine hK121 _ _ ?_; try clear hK121 K121
                        obtain rfl := Option.some.inj hM
                        refine A_ret (fun hn => endsO (v0 := Value.tuple #[Value.agg #[vm9__0, Value.int .i64 (m9__1), Value.int .i64 (m9__2), Value.int .i64 (m9__3)], Value.bool (same11_)]) (O := [S73, [(br, 69, #[r_0v, Value.int .i64 (r70.2.2.1), Value.int .i64 (r70.2.2.2)])]]) (res2 (res_cell hn 1 rfl rfl rfl) rfl) (Sub.pick [[(b83, 39, #[vm9__0, Value.int .i64 (m9__1), Value.int .i64 (m9__2), Value.int .i64 (m9__3)])], [(b4, 39, #[vm9__0, Value.int .i64 (m9__1), Value.int .i64 (m9__2), Value.int .i64 (m9__3)])], [(br, 69, #[r_0v, Value.int .i64 (r70.2.2.1), Value.int .i64 (r70.2.2.2)])], S76, S73, Swant7_] [4, 2] rfl) ⟨vm9__0, hm9__0, ⟨S73, _, H74, ⟨rfl, rfl⟩, rfl⟩⟩)
                      · replace hM := ifp (of_decide_eq_true hg120) hM
                        refine r_y rfl ?_
                        refine r_v (Value.bool (same11_)) rfl rfl rfl rfl ?_
                        refine r_v (Value.bool (same11_)) rfl rfl rfl rfl ?_
                        refine lx_nil ?_
                        refine hK119 _ _ ?_; try clear hK119 K119
                        refine A_cond (same11_) rfl (fun hc122 => ?_) (fun hc122 => ?_)
                        · replace hM := ifp hc122 hM
                          refine A_skip ?_
                          refine fg _ (Sub.pick [[(b83, 39, #[vm9__0, Value.int .i64 (m9__1), Value.int .i64 (m9__2), Value.int .i64 (m9__3)])], [(b4, 39, #[Value.slice none 0 0, Value.int .i64 (0), Value.int .i64 (0), Value.int .i64 (0)])], [(br, 69, #[r_0v, Value.int .i64 (r70.2.2.1), Value.int .i64 (r70.2.2.2)])], S76, S73, Swant7_] [0, 1, 2, 3, 4, 5] rfl) ?_
                          exact ⟨hM, is_mk rfl rfl⟩
                        · replace hM := ifn (Bool.eq_false_iff.1 hc122) hM
                          refine A_exit ?_
                          refine hK112 _ _ ?_; try clear hK112 K112
                          refine A_seq fun K123 hK123 => ?_
                          refine A_reg ?_
                          refine r_l (Value.agg #[vm9__0, Value.int .i64 (m9__1), Value.int .i64 (m9__2), Value.int .i64 (m9__3)]) 0 _ _ _ _ rfl rfl rfl rfl rfl ?_
                          refine r_v (Value.bool (same11_)) rfl rfl rfl rfl ?_
                          refine r_s (List.flatten [[(b83, 39, #[vm9__0, Value.int .i64 (m9__1), Value.int .i64 (m9__2), Value.int .i64 (m9__3)])], [(b4, 39, #[vm9__0, Value.int .i64 (m9__1), Value.int .i64 (m9__2), Value.int .i64 (m9__3)])], [(br, 69, #[r_0v, Value.int .i64 (r70.2.2.1), Value.int .i64 (r70.2.2.2)])], S76, S73, Swant7_]) 1 _ _ _ (#[Value.slice none 0 0, Value.int .i64 (0), Value.int .i64 (0), Value.int .i64 (0)]) (#[vm9__0, Value.int .i64 (m9__1), Value.int .i64 (m9__2), Value.int .i64 (m9__3)]) (#[vm9__0, Value.int .i64 (m9__1), Value.int .i64 (m9__2), Value.int .i64 (m9__3)]) rfl rfl rfl rfl (.ofS rfl rfl (all_cons' (Shp.one (Rd.shp hm9__0)) (all_cons' rfl (all_cons' rfl (all_cons' rfl all_nil'))))) rfl rfl ?_
                          refine r_v (Value.bool (same11_)) rfl rfl rfl rfl ?_
                          refine lx_nil ?_
                          refine hK123 _ _ ?_; try clear hK123 K123
                          obtain rfl := Option.some.inj hM
                          refine A_ret (fun hn => endsO (v0 := Value.tuple #[Value.agg #[vm9__0, Value.int .i64 (m9__1), Value.int .i64 (m9__2), Value.int .i64 (m9__3)], Value.bool (same11_)]) (O := [S73, [(br, 69, #[r_0v, Value.int .i64 (r70.2.2.1), Value.int .i64 (r70.2.2.2)])]]) (res2 (res_cell hn 1 rfl rfl rfl) rfl) (Sub.pick [[(b83, 39, #[vm9__0, Value.int .i64 (m9__1), Value.int .i64 (m9__2), Value.int .i64 (m9__3)])], [(b4, 39, #[vm9__0, Value.int .i64 (m9__1), Value.int .i64 (m9__2), Value.int .i64 (m9__3)])], [(br, 69, #[r_0v, Value.int .i64 (r70.2.2.1), Value.int .i64 (r70.2.2.2)])], S76, S73, Swant7_] [4, 2] rfl) ⟨vm9__0, hm9__0, ⟨S73, _, H74, ⟨rfl, rfl⟩, rfl⟩⟩)
                    · clear hM; rintro t l ⟨hM, ⟨T, rfl⟩, rfl⟩
                      unfold shunterlaw07_reads_v1_k14 at hM
                      refine A_seq fun K115 hK115 => ?_
                      refine A_block ?_
                      refine A_draw [] (by decide +kernel) (fun hn => sep_nil) ?_
                      refine r_v (s75) rfl rfl rfl rfl ?_
                      refine r_v (Value.int .i64 (i12_)) rfl rfl rfl rfl ?_
                      replace hM := ck_some hM; obtain ⟨ck116, hM⟩ := hM
                      refine r_v (elA s75 ((i12_).toNat * 3)) rfl rfl rfl (ev_v (ev_idxSl rfl rfl rfl (Sl.shp H77) ck116)) ?_
                      refine r_le (Value.agg #[Value.int .i64 (((r70.1)[(i12_).toNat]!).1), U (hi (((r70.1)[(i12_).toNat]!).2)), U (lo (((r70.1)[(i12_).toNat]!).2))]) (En := enc_30) ((r70.1)[(i12_).toNat]!) ((i12_).toNat) 0 rfl rfl (rd_own H77 (mem_chunk (Ls := [[(b83, 39, #[vm9__0, Value.int .i64 (m9__1), Value.int .i64 (m9__2), Value.int .i64 (m9__3)])], [(b4, 39, #[Value.slice none 0 0, Value.int .i64 (0), Value.int .i64 (0), Value.int .i64 (0)])], [(br, 69, #[r_0v, Value.int .i64 (r70.2.2.1), Value.int .i64 (r70.2.2.2)])], S76, S73, Swant7_]) (k := 3) rfl rfl)) (get_of ck116) rfl ?_
                      refine r_v (vwant7_) rfl rfl rfl rfl ?_
                      refine r_v (Value.int .i64 (i12_)) rfl rfl rfl rfl ?_
                      replace hM := ck_some hM; obtain ⟨ck117, hM⟩ := hM
                      refine r_v (elA vwant7_ ((i12_).toNat * 3)) rfl rfl rfl (ev_v (ev_idxSl rfl rfl rfl (Sl.shp hwant7_) ck117)) ?_
                      refine r_le (Value.agg #[Value.int .i64 (((want7_)[(i12_).toNat]!).1), U (hi (((want7_)[(i12_).toNat]!).2)), U (lo (((want7_)[(i12_).toNat]!).2))]) (En := enc_30) ((want7_)[(i12_).toNat]!) ((i12_).toNat) 0 rfl rfl (rd_own hwant7_ (mem_chunk (Ls := [[(b83, 39, #[vm9__0, Value.int .i64 (m9__1), Value.int .i64 (m9__2), Value.int .i64 (m9__3)])], [(b4, 39, #[Value.slice none 0 0, Value.int .i64 (0), Value.int .i64 (0), Value.int .i64 (0)])], [(br, 69, #[r_0v, Value.int .i64 (r70.2.2.1), Value.int .i64 (r70.2.2.2)])], S76, S73, Swant7_]) (k := 5) rfl rfl)) (get_of ck117) rfl ?_
                      refine r_v (Value.bool (((((r70.1)[(i12_).toNat]!).1) == (((want7_)[(i12_).toNat]!).1)) && ((((r70.1)[(i12_).toNat]!).2) == (((want7_)[(i12_).toNat]!).2)))) rfl rfl rfl (ev_binEq rfl rfl eg_30 (eqst_30 (((r70.1)[(i12_).toNat]!).1) (((want7_)[(i12_).toNat]!).1) (((r70.1)[(i12_).toNat]!).2) (((want7_)[(i12_).toNat]!).2))) ?_
                      refine r_v (Value.bool (((((r70.1)[(i12_).toNat]!).1) == (((want7_)[(i12_).toNat]!).1)) && ((((r70.1)[(i12_).toNat]!).2) == (((want7_)[(i12_).toNat]!).2)))) rfl rfl rfl rfl ?_
                      refine lx_nil ?_
                      refine hK115 _ _ ?_; try clear hK115 K115
                      refine A_reg ?_
                      refine r_v (Value.int .i64 (i12_)) rfl rfl rfl rfl ?_
                      replace hM := ck_some hM; obtain ⟨ck118, hM⟩ := hM
                      refine r_v (Value.int .i64 ((i12_ + 1))) rfl rfl (wi64 rfl ck118.1 ck118.2) rfl ?_
                      refine r_v (Value.int .i64 ((i12_ + 1))) rfl rfl rfl rfl ?_
                      refine lx_nil ?_
                      refine fg _ (Sub.pick [[(b83, 39, #[vm9__0, Value.int .i64 (m9__1), Value.int .i64 (m9__2), Value.int .i64 (m9__3)])], [(b4, 39, #[Value.slice none 0 0, Value.int .i64 (0), Value.int .i64 (0), Value.int .i64 (0)])], [(br, 69, #[r_0v, Value.int .i64 (r70.2.2.1), Value.int .i64 (r70.2.2.2)])], S76, S73, Swant7_] [0, 1, 2, 3, 4, 5] rfl) ?_
                      exact ⟨n114 + 1, by omega, n114, ((((r70.1)[(i12_).toNat]!).1) == (((want7_)[(i12_).toNat]!).1)) && ((((r70.1)[(i12_).toNat]!).2) == (((want7_)[(i12_).toNat]!).2)), (i12_ + 1), hM, is_mk rfl rfl, rfl⟩
          · replace hM := ifn (ne_of_beq_false hc68) hM
            refine A_seq fun K124 hK124 => ?_
            refine A_reg ?_
            refine r_v (Value.bool (((o_0 : Int) == 6))) rfl rfl rfl rfl ?_
            refine r_v (Value.bool (((o_0 : Int) == 6))) rfl rfl rfl rfl ?_
            refine lx_nil ?_
            refine hK124 _ _ ?_; try clear hK124 K124
            refine A_cond (((o_0 : Int) == 6)) rfl (fun hc125 => ?_) (fun hc125 => ?_)
            · replace hM := ifp (eq_of_beq hc125) hM
              refine A_seq fun K126 hK126 => ?_
              refine A_regC [(some 164, true)] (conG Try.prog [(164, fun _ _ v_ L_ U_ => ∀ u0_, wire_Reader_Numbers_v1_m N r_0 r_1 r_2 o_2 o_3 = some u0_ → (pO (List.flatten [[(br, 69, #[r_0v, Value.int .i64 (r_1), Value.int .i64 (r_2)])], Sr_0]) (oS 3 encI u0_.1 fun s_0 => (oI 5 encY r_0v u0_.2.1 (oE (s_0) [[(br, 69, #[r_0v, Value.int .i64 (u0_.2.2.1), Value.int .i64 (u0_.2.2.2)])]])))) v_ L_ U_)]) ?_
              refine r_v (Value.pointer (some ⟨br, 0, none⟩)) rfl rfl rfl rfl ?_
              refine r_v (Value.pointer (some ⟨b3, 2, none⟩)) rfl rfl rfl rfl ?_
              refine r_l (Value.int .i64 (o_2)) 1 _ _ _ _ rfl rfl rfl rfl rfl ?_
              refine r_v (Value.pointer (some ⟨b3, 3, none⟩)) rfl rfl rfl rfl ?_
              refine r_l (Value.int .i64 (o_3)) 1 _ _ _ _ rfl rfl rfl rfl rfl ?_
              replace hM := bind_sm hM; obtain ⟨r127, hr128, hM⟩ := hM
              replace hM := ck_some hM; obtain ⟨ck129, hM⟩ := hM
              refine r_gm (Ls := [[(b4, 39, #[Value.slice none 0 0, Value.int .i64 (0), Value.int .i64 (0), Value.int .i64 (0)])], [(b3, 34, #[Value.int .i64 (o_0), Value.int .i64 (o_1), Value.int .i64 (o_2), Value.int .i64 (o_3), Value.int .i64 (o_4), U (hi (o_5)), U (lo (o_5)), Value.string (⟨(o_6).toArray⟩), o_7v, o_8v])], [(b2, 39, #[x_0v, Value.int .i64 (x_1), Value.int .i64 (x_2), Value.int .i64 (x_3)])], [(br, 69, #[r_0v, Value.int .i64 (r_1), Value.int .i64 (r_2)])], Sr_0]) (FL := [[(br, 69, #[r_0v, Value.int .i64 (r_1), Value.int .i64 (r_2)])], Sr_0]) (RL := [[(b4, 39, #[Value.slice none 0 0, Value.int .i64 (0), Value.int .i64 (0), Value.int .i64 (0)])], [(b3, 34, #[Value.int .i64 (o_0), Value.int .i64 (o_1), Value.int .i64 (o_2), Value.int .i64 (o_3), Value.int .i64 (o_4), U (hi (o_5)), U (lo (o_5)), Value.string (⟨(o_6).toArray⟩), o_7v, o_8v])], [(b2, 39, #[x_0v, Value.int .i64 (x_1), Value.int .i64 (x_2), Value.int .i64 (x_3)])]]) [3, 4] (oS 3 encI r127.1 fun s_0 => (oI 5 encY r_0v r127.2.1 (oE (s_0) [[(br, 69, #[r_0v, Value.int .i64 (r127.2.2.1), Value.int .i64 (r127.2.2.2)])]]))) (some 164) 40 _ rfl rfl rfl rfl rfl (ev_callF rfl call_40 rfl) (fun own_ nw_ hn_ hs_ => wire_Reader_Numbers_v1_g N r_0 r_1 r_2 o_2 o_3 _ hr128 _ br r_0v Sr_0 hr_0) (fun _ _ v_ L_ U_ => ⟨fun h_ => h_ _ hr128, fun h_ => by intro _ e_; cases Option.some.inj (e_.symm.trans hr128); exact h_⟩) (fun h_ => nomatch h_) ?_
              rintro s132 _ ⟨_, S133, _, H134, ⟨S130, _, H131, ⟨rfl, rfl⟩, rfl⟩, rfl⟩
              refine lx_perm (Ls := [[(b4, 39, #[Value.slice none 0 0, Value.int .i64 (0), Value.int .i64 (0), Value.int .i64 (0)])], [(b3, 34, #[Value.int .i64 (o_0), Value.int .i64 (o_1), Value.int .i64 (o_2), Value.int .i64 (o_3), Value.int .i64 (o_4), U (hi (o_5)), U (lo (o_5)), Value.string (⟨(o_6).toArray⟩), o_7v, o_8v])], [(b2, 39, #[x_0v, Value.int .i64 (x_1), Value.int .i64 (x_2), Value.int .i64 (x_3)])], S133, S130, [(br, 69, #[r_0v, Value.int .i64 (r127.2.2.1), Value.int .i64 (r127.2.2.2)])]]) (Ls' := [[(b4, 39, #[Value.slice none 0 0, Value.int .i64 (0), Value.int .i64 (0), Value.int .i64 (0)])], [(b3, 34, #[Value.int .i64 (o_0), Value.int .i64 (o_1), Value.int .i64 (o_2), Value.int .i64 (o_3), Value.int .i64 (o_4), U (hi (o_5)), U (lo (o_5)), Value.string (⟨(o_6).toArray⟩), o_7v, o_8v])], [(b2, 39, #[x_0v, Value.int .i64 (x_1), Value.int .i64 (x_2), Value.int .i64 (x_3)])], [(br, 69, #[r_0v, Value.int .i64 (r127.2.2.1), Value.int .i64 (r127.2.2.2)])], S133, S130]) [0, 1, 2, 5, 3, 4] rfl rfl ?_
              refine r_v (s132) rfl rfl rfl rfl ?_
              refine lx_nil ?_
              refine hK126 _ _ ?_; try clear hK126 K126
              refine A_seq fun K135 hK135 => ?_
              refine A_regC [(some 169, true)] (conG Try.prog [(169, fun _ _ v_ L_ U_ => ∀ u0_, shunterref07_Count_v1_m N x_0 x_1 x_2 x_3 o_2 = some u0_ → (pO (List.flatten []) (oR encY ro u0_.1 fun s_0 => (oE (Value.tuple #[Value.agg #[s_0, Value.int .i64 (u0_.2.1), Value.int .i64 (u0_.2.2.1), Value.int .i64 (u0_.2.2.2.1)], Value.int .i64 (u0_.2.2.2.2)]) []))) v_ L_ U_)]) ?_
              refine r_l (Value.agg #[x_0v, Value.int .i64 (x_1), Value.int .i64 (x_2), Value.int .i64 (x_3)]) 2 _ _ _ _ rfl rfl rfl rfl rfl ?_
              refine r_v (Value.pointer (some ⟨b3, 2, none⟩)) rfl rfl rfl rfl ?_
              refine r_l (Value.int .i64 (o_2)) 1 _ _ _ _ rfl rfl rfl rfl rfl ?_
              replace hM := bind_sm hM; obtain ⟨r136, hr137, hM⟩ := hM
              refine r_gm (Ls := [[(b4, 39, #[Value.slice none 0 0, Value.int .i64 (0), Value.int .i64 (0), Value.int .i64 (0)])], [(b3, 34, #[Value.int .i64 (o_0), Value.int .i64 (o_1), Value.int .i64 (o_2), Value.int .i64 (o_3), Value.int .i64 (o_4), U (hi (o_5)), U (lo (o_5)), Value.string (⟨(o_6).toArray⟩), o_7v, o_8v])], [(b2, 39, #[x_0v, Value.int .i64 (x_1), Value.int .i64 (x_2), Value.int .i64 (x_3)])], [(br, 69, #[r_0v, Value.int .i64 (r127.2.2.1), Value.int .i64 (r127.2.2.2)])], S133, S130]) (FL := []) (RL := [[(b4, 39, #[Value.slice none 0 0, Value.int .i64 (0), Value.int .i64 (0), Value.int .i64 (0)])], [(b3, 34, #[Value.int .i64 (o_0), Value.int .i64 (o_1), Value.int .i64 (o_2), Value.int .i64 (o_3), Value.int .i64 (o_4), U (hi (o_5)), U (lo (o_5)), Value.string (⟨(o_6).toArray⟩), o_7v, o_8v])], [(b2, 39, #[x_0v, Value.int .i64 (x_1), Value.int .i64 (x_2), Value.int .i64 (x_3)])], [(br, 69, #[r_0v, Value.int .i64 (r127.2.2.1), Value.int .i64 (r127.2.2.2)])], S133, S130]) [] (oR encY ro r136.1 fun s_0 => (oE (Value.tuple #[Value.agg #[s_0, Value.int .i64 (r136.2.1), Value.int .i64 (r136.2.2.1), Value.int .i64 (r136.2.2.2.1)], Value.int .i64 (r136.2.2.2.2)]) [])) (some 169) 39 _ rfl rfl rfl rfl rfl (ev_callF rfl call_39 rfl) (fun own_ nw_ hn_ hs_ => DoesI.ro_mono (ro_sans (Ls := [[(b4, 39, #[Value.slice none 0 0, Value.int .i64 (0), Value.int .i64 (0), Value.int .i64 (0)])], [(b3, 34, #[Value.int .i64 (o_0), Value.int .i64 (o_1), Value.int .i64 (o_2), Value.int .i64 (o_3), Value.int .i64 (o_4), U (hi (o_5)), U (lo (o_5)), Value.string (⟨(o_6).toArray⟩), o_7v, o_8v])], [(b2, 39, #[x_0v, Value.int .i64 (x_1), Value.int .i64 (x_2), Value.int .i64 (x_3)])], [(br, 69, #[r_0v, Value.int .i64 (r127.2.2.1), Value.int .i64 (r127.2.2.2)])], S133, S130]) (is := []) rfl hs_) (shunterref07_Count_v1_g N x_0 x_1 x_2 x_3 o_2 _ hr137 ro x_0v hx_0)) (fun _ _ v_ L_ U_ => ⟨fun h_ => h_ _ hr137, fun h_ => by intro _ e_; cases Option.some.inj (e_.symm.trans hr137); exact h_⟩) (fun h_ => nomatch h_) ?_
              rintro _ _ ⟨s138, hs139, ⟨rfl, rfl⟩⟩
              refine lx_perm (Ls := [[(b4, 39, #[Value.slice none 0 0, Value.int .i64 (0), Value.int .i64 (0), Value.int .i64 (0)])], [(b3, 34, #[Value.int .i64 (o_0), Value.int .i64 (o_1), Value.int .i64 (o_2), Value.int .i64 (o_3), Value.int .i64 (o_4), U (hi (o_5)), U (lo (o_5)), Value.string (⟨(o_6).toArray⟩), o_7v, o_8v])], [(b2, 39, #[x_0v, Value.int .i64 (x_1), Value.int .i64 (x_2), Value.int .i64 (x_3)])], [(br, 69, #[r_0v, Value.int .i64 (r127.2.2.1), Value.int .i64 (r127.2.2.2)])], S133, S130]) (Ls' := [[(b4, 39, #[Value.slice none 0 0, Value.int .i64 (0), Value.int .i64 (0), Value.int .i64 (0)])], [(b3, 34, #[Value.int .i64 (o_0), Value.int .i64 (o_1), Value.int .i64 (o_2), Value.int .i64 (o_3), Value.int .i64 (o_4), U (hi (o_5)), U (lo (o_5)), Value.string (⟨(o_6).toArray⟩), o_7v, o_8v])], [(b2, 39, #[x_0v, Value.int .i64 (x_1), Value.int .i64 (x_2), Value.int .i64 (x_3)])], [(br, 69, #[r_0v, Value.int .i64 (r127.2.2.1), Value.int .i64 (r127.2.2.2)])], S133, S130]) [0, 1, 2, 3, 4, 5] rfl rfl ?_
              refine r_v (Value.tuple #[Value.agg #[s138, Value.int .i64 (r136.2.1), Value.int .i64 (r136.2.2.1), Value.int .i64 (r136.2.2.2.1)], Value.int .i64 (r136.2.2.2.2)]) rfl rfl rfl rfl ?_
              refine r_v (Value.agg #[s138, Value.int .i64 (r136.2.1), Value.int .i64 (r136.2.2.1), Value.int .i64 (r136.2.2.2.1)]) rfl rfl rfl rfl ?_
              refine r_v (Value.int .i64 (r136.2.2.2.2)) rfl rfl rfl rfl ?_
              refine r_a (39, #[Value.slice none 0 0, Value.int .i64 (0), Value.int .i64 (0), Value.int .i64 (0)]) rfl rfl rfl (fun b140 => ?_) (.inr rfl)
              refine r_s (List.flatten [[(b140, 39, #[s138, Value.int .i64 (r136.2.1), Value.int .i64 (r136.2.2.1), Value.int .i64 (r136.2.2.2.1)])], [(b4, 39, #[Value.slice none 0 0, Value.int .i64 (0), Value.int .i64 (0), Value.int .i64 (0)])], [(b3, 34, #[Value.int .i64 (o_0), Value.int .i64 (o_1), Value.int .i64 (o_2), Value.int .i64 (o_3), Value.int .i64 (o_4), U (hi (o_5)), U (lo (o_5)), Value.string (⟨(o_6).toArray⟩), o_7v, o_8v])], [(b2, 39, #[x_0v, Value.int .i64 (x_1), Value.int .i64 (x_2), Value.int .i64 (x_3)])], [(br, 69, #[r_0v, Value.int .i64 (r127.2.2.1), Value.int .i64 (r127.2.2.2)])], S133, S130]) 0 _ _ _ (#[Value.slice none 0 0, Value.int .i64 (0), Value.int .i64 (0), Value.int .i64 (0)]) (#[s138, Value.int .i64 (r136.2.1), Value.int .i64 (r136.2.2.1), Value.int .i64 (r136.2.2.2.1)]) (#[s138, Value.int .i64 (r136.2.1), Value.int .i64 (r136.2.2.1), Value.int .i64 (r136.2.2.2.1)]) rfl rfl rfl rfl (.ofS rfl rfl (all_cons' (Shp.one (Rd.shp hs139)) (all_cons' rfl (all_cons' rfl (all_cons' rfl all_nil'))))) rfl rfl ?_
              refine r_v (Value.int .i64 (r136.2.2.2.2)) rfl rfl rfl rfl ?_
              refine lx_nil ?_
              refine hK135 _ _ ?_; try clear hK135 K135
              refine A_seq fun K141 hK141 => ?_
              refine A_reg ?_
              refine r_v (Value.slice none 0 0) rfl rfl rfl rfl ?_
              refine lx_nil ?_
              refine hK141 _ _ ?_; try clear hK141 K141
              refine A_seq fun K142 hK142 => ?_
              refine A_seq fun K143 hK143 => ?_
              refine A_reg ?_
              refine r_v (Value.int .i64 (0)) rfl rfl rfl rfl ?_
              refine lx_nil ?_
              refine hK143 _ _ ?_; try clear hK143 K143
              refine A_block ?_
              refine A_forget _ (Sub.pickE (Ls := [[(b140, 39, #[s138, Value.int .i64 (r136.2.1), Value.int .i64 (r136.2.2.1), Value.int .i64 (r136.2.2.2.1)])], [(b4, 39, #[Value.slice none 0 0, Value.int .i64 (0), Value.int .i64 (0), Value.int .i64 (0)])], [(b3, 34, #[Value.int .i64 (o_0), Value.int .i64 (o_1), Value.int .i64 (o_2), Value.int .i64 (o_3), Value.int .i64 (o_4), U (hi (o_5)), U (lo (o_5)), Value.string (⟨(o_6).toArray⟩), o_7v, o_8v])], [(b2, 39, #[x_0v, Value.int .i64 (x_1), Value.int .i64 (x_2), Value.int .i64 (x_3)])], [(br, 69, #[r_0v, Value.int .i64 (r127.2.2.1), Value.int .i64 (r127.2.2.2)])], S133, S130, []]) (Ls0 := [[(b140, 39, #[s138, Value.int .i64 (r136.2.1), Value.int .i64 (r136.2.2.1), Value.int .i64 (r136.2.2.2.1)])], [(b4, 39, #[Value.slice none 0 0, Value.int .i64 (0), Value.int .i64 (0), Value.int .i64 (0)])], [(b3, 34, #[Value.int .i64 (o_0), Value.int .i64 (o_1), Value.int .i64 (o_2), Value.int .i64 (o_3), Value.int .i64 (o_4), U (hi (o_5)), U (lo (o_5)), Value.string (⟨(o_6).toArray⟩), o_7v, o_8v])], [(b2, 39, #[x_0v, Value.int .i64 (x_1), Value.int .i64 (x_2), Value.int .i64 (x_3)])], [(br, 69, #[r_0v, Value.int .i64 (r127.2.2.1), Value.int .i64 (r127.2.2.2)])], S133, S130]) rfl [0, 1, 2, 4, 5, 6, 7] rfl) ?_
              refine A_loop (fun tt ll nn => ∃ (n144 : Nat) (want15_ : List Int) (i16_ : Int) (m17__0 : List UInt8) (m17__1 : Int) (m17__2 : Int) (m17__3 : Int), (shunterlaw07_reads_v1_l18 N o_3 r127 r136 n144 want15_ i16_ m17__0 m17__1 m17__2 m17__3 = some r) ∧ ∃ (vwant15_ : Value) (Swant15_ : List Bl), Sl 3 encI vwant15_ want15_ Swant15_ ∧ ∃ (vm17__0 : Value), Rd encY ro vm17__0 m17__0 ∧ Is [(5, Value.pointer (some ⟨b3, 0, none⟩)), (6, Value.pointer (some ⟨b4, 0, none⟩)), (24, s132), (25, Value.pointer (some ⟨b140, 0, none⟩)), (26, Value.int .i64 (r136.2.2.2.2)), (27, vwant15_), (28, Value.int .i64 (i16_))] (List.flatten [[(b140, 39, #[vm17__0, Value.int .i64 (m17__1), Value.int .i64 (m17__2), Value.int .i64 (m17__3)])], [(b4, 39, #[Value.slice none 0 0, Value.int .i64 (0), Value.int .i64 (0), Value.int .i64 (0)])], [(b3, 34, #[Value.int .i64 (o_0), Value.int .i64 (o_1), Value.int .i64 (o_2), Value.int .i64 (o_3), Value.int .i64 (o_4), U (hi (o_5)), U (lo (o_5)), Value.string (⟨(o_6).toArray⟩), o_7v, o_8v])], [(br, 69, #[r_0v, Value.int .i64 (r127.2.2.1), Value.int .i64 (r127.2.2.2)])], S133, S130, Swant15_]) tt ll ∧ nn = n144 + 1) (N + 1) ?_ ?_
              · exact ⟨N, [], 0, r136.1, r136.2.1, r136.2.2.1, r136.2.2.2.1, hM, Value.slice none 0 0, [], Sl.nil, s138, hs139, is_mk rfl rfl, rfl⟩
              · clear hM; rintro t l _ ⟨n144, want15_, i16_, m17__0, m17__1, m17__2, m17__3, hM, vwant15_, Swant15_, hwant15_, vm17__0, hm17__0, ⟨⟨T, rfl⟩, rfl⟩, rfl⟩
                rcases n144 with _ | n144
                · exact absurd hM (by simp [shunterlaw07_reads_v1_l18])
                rw [shunterlaw07_reads_v1_l18] at hM
                refine A_seq fun K145 hK145 => ?_
                refine A_seq fun K146 hK146 => ?_
                refine A_reg ?_
                refine r_v (Value.int .i64 (i16_)) rfl rfl rfl rfl ?_
                refine r_v (Value.int .i64 (r136.2.2.2.2)) rfl rfl rfl rfl ?_
                refine r_v (Value.bool (decide ((i16_ : Int) < r136.2.2.2.2))) rfl rfl rfl rfl ?_
                refine lx_nil ?_
                refine hK146 _ _ ?_; try clear hK146 K146
                refine A_cond (decide ((i16_ : Int) < r136.2.2.2.2)) rfl (fun hc147 => ?_) (fun hc147 => ?_)
                · replace hM := ifp (of_decide_eq_true hc147) hM
                  refine A_skip ?_
                  refine hK145 _ _ ?_; try clear hK145 K145
                  refine A_seq fun K148 hK148 => ?_
                  refine A_block ?_
                  refine A_seq fun K149 hK149 => ?_
                  refine A_reg ?_
                  refine r_v (Value.int .i64 (0)) rfl rfl rfl rfl ?_
                  refine lx_nil ?_
                  refine hK149 _ _ ?_; try clear hK149 K149
                  refine A_seq fun K150 hK150 => ?_
                  refine A_regC [(some 181, true)] (conG Try.prog [(181, fun _ _ v_ L_ U_ => ∀ u0_, shunterref07_Take_v1_m N m17__0 m17__1 m17__2 m17__3 1 o_3 = some u0_ → (pO (List.flatten []) (oR encY ro u0_.1 fun s_0 => (oE (Value.tuple #[Value.agg #[s_0, Value.int .i64 (u0_.2.1), Value.int .i64 (u0_.2.2.1), Value.int .i64 (u0_.2.2.2.1)], Value.int .i64 (u0_.2.2.2.2)]) []))) v_ L_ U_)]) ?_
                  refine r_l (Value.agg #[vm17__0, Value.int .i64 (m17__1), Value.int .i64 (m17__2), Value.int .i64 (m17__3)]) 0 _ _ _ _ rfl rfl rfl rfl rfl ?_
                  refine r_v (Value.pointer (some ⟨b3, 3, none⟩)) rfl rfl rfl rfl ?_
                  refine r_l (Value.int .i64 (o_3)) 2 _ _ _ _ rfl rfl rfl rfl rfl ?_
                  replace hM := bind_sm hM; obtain ⟨r151, hr152, hM⟩ := hM
                  refine r_gm (Ls := [[(b140, 39, #[vm17__0, Value.int .i64 (m17__1), Value.int .i64 (m17__2), Value.int .i64 (m17__3)])], [(b4, 39, #[Value.slice none 0 0, Value.int .i64 (0), Value.int .i64 (0), Value.int .i64 (0)])], [(b3, 34, #[Value.int .i64 (o_0), Value.int .i64 (o_1), Value.int .i64 (o_2), Value.int .i64 (o_3), Value.int .i64 (o_4), U (hi (o_5)), U (lo (o_5)), Value.string (⟨(o_6).toArray⟩), o_7v, o_8v])], [(br, 69, #[r_0v, Value.int .i64 (r127.2.2.1), Value.int .i64 (r127.2.2.2)])], S133, S130, Swant15_]) (FL := []) (RL := [[(b140, 39, #[vm17__0, Value.int .i64 (m17__1), Value.int .i64 (m17__2), Value.int .i64 (m17__3)])], [(b4, 39, #[Value.slice none 0 0, Value.int .i64 (0), Value.int .i64 (0), Value.int .i64 (0)])], [(b3, 34, #[Value.int .i64 (o_0), Value.int .i64 (o_1), Value.int .i64 (o_2), Value.int .i64 (o_3), Value.int .i64 (o_4), U (hi (o_5)), U (lo (o_5)), Value.string (⟨(o_6).toArray⟩), o_7v, o_8v])], [(br, 69, #[r_0v, Value.int .i64 (r127.2.2.1), Value.int .i64 (r127.2.2.2)])], S133, S130, Swant15_]) [] (oR encY ro r151.1 fun s_0 => (oE (Value.tuple #[Value.agg #[s_0, Value.int .i64 (r151.2.1), Value.int .i64 (r151.2.2.1), Value.int .i64 (r151.2.2.2.1)], Value.int .i64 (r151.2.2.2.2)]) [])) (some 181) 35 _ rfl rfl rfl rfl rfl (ev_callF rfl call_35 rfl) (fun own_ nw_ hn_ hs_ => DoesI.ro_mono (ro_sans (Ls := [[(b140, 39, #[vm17__0, Value.int .i64 (m17__1), Value.int .i64 (m17__2), Value.int .i64 (m17__3)])], [(b4, 39, #[Value.slice none 0 0, Value.int .i64 (0), Value.int .i64 (0), Value.int .i64 (0)])], [(b3, 34, #[Value.int .i64 (o_0), Value.int .i64 (o_1), Value.int .i64 (o_2), Value.int .i64 (o_3), Value.int .i64 (o_4), U (hi (o_5)), U (lo (o_5)), Value.string (⟨(o_6).toArray⟩), o_7v, o_8v])], [(br, 69, #[r_0v, Value.int .i64 (r127.2.2.1), Value.int .i64 (r127.2.2.2)])], S133, S130, Swant15_]) (is := []) rfl hs_) (shunterref07_Take_v1_g N m17__0 m17__1 m17__2 m17__3 1 o_3 _ hr152 ro vm17__0 hm17__0)) (fun _ _ v_ L_ U_ => ⟨fun h_ => h_ _ hr152, fun h_ => by intro _ e_; cases Option.some.inj (e_.symm.trans hr152); exact h_⟩) (fun h_ => nomatch h_) ?_
                  rintro _ _ ⟨s153, hs154, ⟨rfl, rfl⟩⟩
                  refine lx_perm (Ls := [[(b140, 39, #[vm17__0, Value.int .i64 (m17__1), Value.int .i64 (m17__2), Value.int .i64 (m17__3)])], [(b4, 39, #[Value.slice none 0 0, Value.int .i64 (0), Value.int .i64 (0), Value.int .i64 (0)])], [(b3, 34, #[Value.int .i64 (o_0), Value.int .i64 (o_1), Value.int .i64 (o_2), Value.int .i64 (o_3), Value.int .i64 (o_4), U (hi (o_5)), U (lo (o_5)), Value.string (⟨(o_6).toArray⟩), o_7v, o_8v])], [(br, 69, #[r_0v, Value.int .i64 (r127.2.2.1), Value.int .i64 (r127.2.2.2)])], S133, S130, Swant15_]) (Ls' := [[(b140, 39, #[vm17__0, Value.int .i64 (m17__1), Value.int .i64 (m17__2), Value.int .i64 (m17__3)])], [(b4, 39, #[Value.slice none 0 0, Value.int .i64 (0), Value.int .i64 (0), Value.int .i64 (0)])], [(b3, 34, #[Value.int .i64 (o_0), Value.int .i64 (o_1), Value.int .i64 (o_2), Value.int .i64 (o_3), Value.int .i64 (o_4), U (hi (o_5)), U (lo (o_5)), Value.string (⟨(o_6).toArray⟩), o_7v, o_8v])], [(br, 69, #[r_0v, Value.int .i64 (r127.2.2.1), Value.int .i64 (r127.2.2.2)])], S133, S130, Swant15_]) [0, 1, 2, 3, 4, 5, 6] rfl rfl ?_
                  refine r_v (Value.tuple #[Value.agg #[s153, Value.int .i64 (r151.2.1), Value.int .i64 (r151.2.2.1), Value.int .i64 (r151.2.2.2.1)], Value.int .i64 (r151.2.2.2.2)]) rfl rfl rfl rfl ?_
                  refine r_v (Value.agg #[s153, Value.int .i64 (r151.2.1), Value.int .i64 (r151.2.2.1), Value.int .i64 (r151.2.2.2.1)]) rfl rfl rfl rfl ?_
                  refine r_v (Value.int .i64 (r151.2.2.2.2)) rfl rfl rfl rfl ?_
                  refine r_s (List.flatten [[(b140, 39, #[s153, Value.int .i64 (r151.2.1), Value.int .i64 (r151.2.2.1), Value.int .i64 (r151.2.2.2.1)])], [(b4, 39, #[Value.slice none 0 0, Value.int .i64 (0), Value.int .i64 (0), Value.int .i64 (0)])], [(b3, 34, #[Value.int .i64 (o_0), Value.int .i64 (o_1), Value.int .i64 (o_2), Value.int .i64 (o_3), Value.int .i64 (o_4), U (hi (o_5)), U (lo (o_5)), Value.string (⟨(o_6).toArray⟩), o_7v, o_8v])], [(br, 69, #[r_0v, Value.int .i64 (r127.2.2.1), Value.int .i64 (r127.2.2.2)])], S133, S130, Swant15_]) 0 _ _ _ (#[vm17__0, Value.int .i64 (m17__1), Value.int .i64 (m17__2), Value.int .i64 (m17__3)]) (#[s153, Value.int .i64 (r151.2.1), Value.int .i64 (r151.2.2.1), Value.int .i64 (r151.2.2.2.1)]) (#[s153, Value.int .i64 (r151.2.1), Value.int .i64 (r151.2.2.1), Value.int .i64 (r151.2.2.2.1)]) rfl rfl rfl rfl (.ofS rfl rfl (all_cons' (Shp.one (Rd.shp hs154)) (all_cons' rfl (all_cons' rfl (all_cons' rfl all_nil'))))) rfl rfl ?_
                  refine r_v (Value.int .i64 (r151.2.2.2.2)) rfl rfl rfl rfl ?_
                  refine lx_nil ?_
                  refine hK150 _ _ ?_; try clear hK150 K150
                  refine A_regC [(some 186, false), (some 187, true)] (conG Try.prog []) ?_
                  refine r_v (vwant15_) rfl rfl rfl rfl ?_
                  refine r_v (Value.int .i64 (r151.2.2.2.2)) rfl rfl rfl rfl ?_
                  refine r_bs (cs0 := []) (Ls := [[(b140, 39, #[s153, Value.int .i64 (r151.2.1), Value.int .i64 (r151.2.2.1), Value.int .i64 (r151.2.2.2.1)])], [(b4, 39, #[Value.slice none 0 0, Value.int .i64 (0), Value.int .i64 (0), Value.int .i64 (0)])], [(b3, 34, #[Value.int .i64 (o_0), Value.int .i64 (o_1), Value.int .i64 (o_2), Value.int .i64 (o_3), Value.int .i64 (o_4), U (hi (o_5)), U (lo (o_5)), Value.string (⟨(o_6).toArray⟩), o_7v, o_8v])], [(br, 69, #[r_0v, Value.int .i64 (r127.2.2.1), Value.int .i64 (r127.2.2.2)])], S133, S130, Swant15_]) 3 encI [r151.2.2.2.2] [Value.int .i64 (r151.2.2.2.2)] [Value.int .i64 (0)] rfl rfl rfl rfl rfl rfl rfl (by kernel_rfl) (by kernel_rfl) rfl rfl rfl (fun s155 S156 H157 => ?_)
                  replace hM := ck_some hM; obtain ⟨ck158, hM⟩ := hM
                  refine r_app (cs0 := []) (Ls := [[(b140, 39, #[s153, Value.int .i64 (r151.2.1), Value.int .i64 (r151.2.2.1), Value.int .i64 (r151.2.2.2.1)])], [(b4, 39, #[Value.slice none 0 0, Value.int .i64 (0), Value.int .i64 (0), Value.int .i64 (0)])], [(b3, 34, #[Value.int .i64 (o_0), Value.int .i64 (o_1), Value.int .i64 (o_2), Value.int .i64 (o_3), Value.int .i64 (o_4), U (hi (o_5)), U (lo (o_5)), Value.string (⟨(o_6).toArray⟩), o_7v, o_8v])], [(br, 69, #[r_0v, Value.int .i64 (r127.2.2.1), Value.int .i64 (r127.2.2.2)])], S133, S130, Swant15_, S156]) 6 (En := encI) rfl rfl rfl rfl rfl hwant15_ rfl (rd_own H157 (mem_chunk (Ls := [[(b140, 39, #[s153, Value.int .i64 (r151.2.1), Value.int .i64 (r151.2.2.1), Value.int .i64 (r151.2.2.2.1)])], [(b4, 39, #[Value.slice none 0 0, Value.int .i64 (0), Value.int .i64 (0), Value.int .i64 (0)])], [(b3, 34, #[Value.int .i64 (o_0), Value.int .i64 (o_1), Value.int .i64 (o_2), Value.int .i64 (o_3), Value.int .i64 (o_4), U (hi (o_5)), U (lo (o_5)), Value.string (⟨(o_6).toArray⟩), o_7v, o_8v])], [(br, 69, #[r_0v, Value.int .i64 (r127.2.2.1), Value.int .i64 (r127.2.2.2)])], S133, S130, Swant15_, S156]) (k := 7) rfl rfl)) rfl rfl rfl rfl rfl (app_b ck158 rfl) (app_m ck158 rfl) rfl (fun s159 S160 H161 => ?_)
                  refine r_v (s159) rfl rfl rfl rfl ?_
                  refine lx_nil ?_
                  refine hK148 _ _ ?_; try clear hK148 K148
                  refine A_reg ?_
                  refine r_v (Value.int .i64 (i16_)) rfl rfl rfl rfl ?_
                  replace hM := ck_some hM; obtain ⟨ck162, hM⟩ := hM
                  refine r_v (Value.int .i64 ((i16_ + 1))) rfl rfl (wi64 rfl ck162.1 ck162.2) rfl ?_
                  refine r_v (Value.int .i64 ((i16_ + 1))) rfl rfl rfl rfl ?_
                  refine lx_nil ?_
                  refine fg _ (Sub.pick [[(b140, 39, #[s153, Value.int .i64 (r151.2.1), Value.int .i64 (r151.2.2.1), Value.int .i64 (r151.2.2.2.1)])], [(b4, 39, #[Value.slice none 0 0, Value.int .i64 (0), Value.int .i64 (0), Value.int .i64 (0)])], [(b3, 34, #[Value.int .i64 (o_0), Value.int .i64 (o_1), Value.int .i64 (o_2), Value.int .i64 (o_3), Value.int .i64 (o_4), U (hi (o_5)), U (lo (o_5)), Value.string (⟨(o_6).toArray⟩), o_7v, o_8v])], [(br, 69, #[r_0v, Value.int .i64 (r127.2.2.1), Value.int .i64 (r127.2.2.2)])], S133, S130, S160, S156] [0, 1, 2, 3, 4, 5, 6] rfl) ?_
                  exact ⟨n144 + 1, by omega, n144, (want15_ ++ ([r151.2.2.2.2])), (i16_ + 1), r151.1, r151.2.1, r151.2.2.1, r151.2.2.2.1, hM, s159, S160, H161, s153, hs154, is_mk rfl rfl, rfl⟩
                · replace hM := ifn (of_decide_eq_false hc147) hM
                  refine A_exit ?_
                  refine hK142 _ _ ?_; try clear hK142 K142
                  refine A_seq fun K163 hK163 => ?_
                  refine A_seq fun K164 hK164 => ?_
                  refine A_reg ?_
                  refine r_v (Value.pointer (some ⟨b140, 2, none⟩)) rfl rfl rfl rfl ?_
                  refine r_l (Value.int .i64 (m17__2)) 0 _ _ _ _ rfl rfl rfl rfl rfl ?_
                  refine r_v (Value.bool (((m17__2 : Int) != 0))) rfl rfl rfl rfl ?_
                  refine lx_nil ?_
                  refine hK164 _ _ ?_; try clear hK164 K164
                  refine A_cond (((m17__2 : Int) != 0)) rfl (fun hc165 => ?_) (fun hc165 => ?_)
                  · replace hM := ifp (bne_iff_ne.1 hc165) hM
                    refine A_seq fun K166 hK166 => ?_
                    refine A_reg ?_
                    refine r_l (Value.agg #[vm17__0, Value.int .i64 (m17__1), Value.int .i64 (m17__2), Value.int .i64 (m17__3)]) 0 _ _ _ _ rfl rfl rfl rfl rfl ?_
                    refine r_v (s132) rfl rfl rfl rfl ?_
                    refine r_v (Value.int .i64 (((r127.1).length : Int))) rfl rfl rfl (ev_lenSl rfl rfl rfl (Sl.shp H134)) ?_
                    refine r_v (Value.bool (((((r127.1).length : Int) : Int) == 0))) rfl rfl rfl rfl ?_
                    refine r_s (List.flatten [[(b140, 39, #[vm17__0, Value.int .i64 (m17__1), Value.int .i64 (m17__2), Value.int .i64 (m17__3)])], [(b4, 39, #[vm17__0, Value.int .i64 (m17__1), Value.int .i64 (m17__2), Value.int .i64 (m17__3)])], [(b3, 34, #[Value.int .i64 (o_0), Value.int .i64 (o_1), Value.int .i64 (o_2), Value.int .i64 (o_3), Value.int .i64 (o_4), U (hi (o_5)), U (lo (o_5)), Value.string (⟨(o_6).toArray⟩), o_7v, o_8v])], [(br, 69, #[r_0v, Value.int .i64 (r127.2.2.1), Value.int .i64 (r127.2.2.2)])], S133, S130, Swant15_]) 1 _ _ _ (#[Value.slice none 0 0, Value.int .i64 (0), Value.int .i64 (0), Value.int .i64 (0)]) (#[vm17__0, Value.int .i64 (m17__1), Value.int .i64 (m17__2), Value.int .i64 (m17__3)]) (#[vm17__0, Value.int .i64 (m17__1), Value.int .i64 (m17__2), Value.int .i64 (m17__3)]) rfl rfl rfl rfl (.ofS rfl rfl (all_cons' (Shp.one (Rd.shp hm17__0)) (all_cons' rfl (all_cons' rfl (all_cons' rfl all_nil'))))) rfl rfl ?_
                    refine r_v (Value.bool (((((r127.1).length : Int) : Int) == 0))) rfl rfl rfl rfl ?_
                    refine lx_nil ?_
                    refine hK166 _ _ ?_; try clear hK166 K166
                    obtain rfl := Option.some.inj hM
                    refine A_ret (fun hn => endsO (v0 := Value.tuple #[Value.agg #[vm17__0, Value.int .i64 (m17__1), Value.int .i64 (m17__2), Value.int .i64 (m17__3)], Value.bool (((((r127.1).length : Int) : Int) == 0))]) (O := [S130, [(br, 69, #[r_0v, Value.int .i64 (r127.2.2.1), Value.int .i64 (r127.2.2.2)])]]) (res2 (res_cell hn 1 rfl rfl rfl) rfl) (Sub.pick [[(b140, 39, #[vm17__0, Value.int .i64 (m17__1), Value.int .i64 (m17__2), Value.int .i64 (m17__3)])], [(b4, 39, #[vm17__0, Value.int .i64 (m17__1), Value.int .i64 (m17__2), Value.int .i64 (m17__3)])], [(b3, 34, #[Value.int .i64 (o_0), Value.int .i64 (o_1), Value.int .i64 (o_2), Value.int .i64 (o_3), Value.int .i64 (o_4), U (hi (o_5)), U (lo (o_5)), Value.string (⟨(o_6).toArray⟩), o_7v, o_8v])], [(br, 69, #[r_0v, Value.int .i64 (r127.2.2.1), Value.int .i64 (r127.2.2.2)])], S133, S130, Swant15_] [5, 3] rfl) ⟨vm17__0, hm17__0, ⟨S130, _, H131, ⟨rfl, rfl⟩, rfl⟩⟩)
                  · replace hM := ifn (bne_f hc165) hM
                    refine A_skip ?_
                    refine hK163 _ _ ?_; try clear hK163 K163
                    refine A_seq fun K167 hK167 => ?_
                    refine A_reg ?_
                    refine r_v (s132) rfl rfl rfl rfl ?_
                    refine r_v (Value.int .i64 (((r127.1).length : Int))) rfl rfl rfl (ev_lenSl rfl rfl rfl (Sl.shp H134)) ?_
                    refine r_v (vwant15_) rfl rfl rfl rfl ?_
                    refine r_v (Value.int .i64 (((want15_).length : Int))) rfl rfl rfl (ev_lenSl rfl rfl rfl (Sl.shp hwant15_)) ?_
                    refine r_v (Value.bool (((((r127.1).length : Int) : Int) == ((want15_).length : Int)))) rfl rfl rfl rfl ?_
                    refine r_v (Value.bool (((((r127.1).length : Int) : Int) == ((want15_).length : Int)))) rfl rfl rfl rfl ?_
                    refine lx_nil ?_
                    refine hK167 _ _ ?_; try clear hK167 K167
                    refine A_seq fun K168 hK168 => ?_
                    refine A_seq fun K169 hK169 => ?_
                    refine A_reg ?_
                    refine r_v (Value.int .i64 (0)) rfl rfl rfl rfl ?_
                    refine lx_nil ?_
                    refine hK169 _ _ ?_; try clear hK169 K169
                    refine A_block ?_
                    refine A_forget _ (Sub.pick [[(b140, 39, #[vm17__0, Value.int .i64 (m17__1), Value.int .i64 (m17__2), Value.int .i64 (m17__3)])], [(b4, 39, #[Value.slice none 0 0, Value.int .i64 (0), Value.int .i64 (0), Value.int .i64 (0)])], [(b3, 34, #[Value.int .i64 (o_0), Value.int .i64 (o_1), Value.int .i64 (o_2), Value.int .i64 (o_3), Value.int .i64 (o_4), U (hi (o_5)), U (lo (o_5)), Value.string (⟨(o_6).toArray⟩), o_7v, o_8v])], [(br, 69, #[r_0v, Value.int .i64 (r127.2.2.1), Value.int .i64 (r127.2.2.2)])], S133, S130, Swant15_] [0, 1, 3, 4, 5, 6] rfl) ?_
                    refine A_loop (fun tt ll nn => ∃ (n170 : Nat) (same19_ : Bool) (i20_ : Int), (shunterlaw07_reads_v1_l21 r127 want15_ m17__0 m17__1 m17__2 m17__3 n170 same19_ i20_ = some r) ∧ Is [(6, Value.pointer (some ⟨b4, 0, none⟩)), (24, s132), (25, Value.pointer (some ⟨b140, 0, none⟩)), (27, vwant15_), (30, Value.bool (same19_)), (31, Value.int .i64 (i20_))] (List.flatten [[(b140, 39, #[vm17__0, Value.int .i64 (m17__1), Value.int .i64 (m17__2), Value.int .i64 (m17__3)])], [(b4, 39, #[Value.slice none 0 0, Value.int .i64 (0), Value.int .i64 (0), Value.int .i64 (0)])], [(br, 69, #[r_0v, Value.int .i64 (r127.2.2.1), Value.int .i64 (r127.2.2.2)])], S133, S130, Swant15_]) tt ll ∧ nn = n170 + 1) (N + 1) ?_ ?_
                    · exact ⟨N, ((((r127.1).length : Int) : Int) == ((want15_).length : Int)), 0, hM, is_mk rfl rfl, rfl⟩
                    · clear hM; rintro t l _ ⟨n170, same19_, i20_, hM, ⟨⟨T, rfl⟩, rfl⟩, rfl⟩
                      rcases n170 with _ | n170
                      · exact absurd hM (by simp [shunterlaw07_reads_v1_l21])
                      rw [shunterlaw07_reads_v1_l21] at hM
                      refine A_cut (fun tt ll => (shunterlaw07_reads_v1_k22 r127 want15_ i20_ (shunterlaw07_reads_v1_l21 r127 want15_ m17__0 m17__1 m17__2 m17__3 n170)  = some r) ∧ Is [(6, Value.pointer (some ⟨b4, 0, none⟩)), (24, s132), (25, Value.pointer (some ⟨b140, 0, none⟩)), (27, vwant15_), (31, Value.int .i64 (i20_))] (List.flatten [[(b140, 39, #[vm17__0, Value.int .i64 (m17__1), Value.int .i64 (m17__2), Value.int .i64 (m17__3)])], [(b4, 39, #[Value.slice none 0 0, Value.int .i64 (0), Value.int .i64 (0), Value.int .i64 (0)])], [(br, 69, #[r_0v, Value.int .i64 (r127.2.2.1), Value.int .i64 (r127.2.2.2)])], S133, S130, Swant15_]) tt ll) ?_ ?_
                      · refine A_seq fun K175 hK175 => ?_
                        refine A_reg ?_
                        refine r_v (Value.int .i64 (i20_)) rfl rfl rfl rfl ?_
                        refine r_v (vwant15_) rfl rfl rfl rfl ?_
                        refine r_v (Value.int .i64 (((want15_).length : Int))) rfl rfl rfl (ev_lenSl rfl rfl rfl (Sl.shp hwant15_)) ?_
                        refine r_v (Value.bool (decide ((i20_ : Int) < ((want15_).length : Int)))) rfl rfl rfl rfl ?_
                        refine r_v (Value.bool (decide ((i20_ : Int) < ((want15_).length : Int)))) rfl rfl rfl rfl ?_
                        rcases hg176 : (decide ((i20_ : Int) < ((want15_).length : Int))) with _ | _
                        · replace hM := ifn (of_decide_eq_false hg176) hM
                          refine r_n false rfl (by decide) rfl ?_
                          refine r_v (Value.bool (false)) rfl rfl rfl rfl ?_
                          refine lx_nil ?_
                          refine hK175 _ _ ?_; try clear hK175 K175
                          refine A_cond false rfl (fun h_ => nomatch h_) (fun _ => ?_)
                          refine A_exit ?_
                          refine hK168 _ _ ?_; try clear hK168 K168
                          refine A_seq fun K177 hK177 => ?_
                          refine A_reg ?_
                          refine r_l (Value.agg #[vm17__0, Value.int .i64 (m17__1), Value.int .i64 (m17__2), Value.int .i64 (m17__3)]) 0 _ _ _ _ rfl rfl rfl rfl rfl ?_
                          refine r_v (Value.bool (same19_)) rfl rfl rfl rfl ?_
                          refine r_s (List.flatten [[(b140, 39, #[vm17__0, Value.int .i64 (m17__1), Value.int .i64 (m17__2), Value.int .i64 (m17__3)])], [(b4, 39, #[vm17__0, Value.int .i64 (m17__1), Value.int .i64 (m17__2), Value.int .i64 (m17__3)])], [(br, 69, #[r_0v, Value.int .i64 (r127.2.2.1), Value.int .i64 (r127.2.2.2)])], S133, S130, Swant15_]) 1 _ _ _ (#[Value.slice none 0 0, Value.int .i64 (0), Value.int .i64 (0), Value.int .i64 (0)]) (#[vm17__0, Value.int .i64 (m17__1), Value.int .i64 (m17__2), Value.int .i64 (m17__3)]) (#[vm17__0, Value.int .i64 (m17__1), Value.int .i64 (m17__2), Value.int .i64 (m17__3)]) rfl rfl rfl rfl (.ofS rfl rfl (all_cons' (Shp.one (Rd.shp hm17__0)) (all_cons' rfl (all_cons' rfl (all_cons' rfl all_nil'))))) rfl rfl ?_
                          refine r_v (Value.bool (same19_)) rfl rfl rfl rfl ?_
                          refine lx_nil ?_
                          refine hK177 _ _ ?_; try clear hK177 K177
                          obtain rfl := Option.some.inj hM
                          refine A_ret (fun hn => endsO (v0 := Value.tuple #[Value.agg #[vm17__0, Value.int .i64 (m17__1), Value.int .i64 (m17__2), Value.int .i64 (m17__3)], Value.bool (same19_)]) (O := [S130, [(br, 69, #[r_0v, Value.int .i64 (r127.2.2.1), Value.int .i64 (r127.2.2.2)])]]) (res2 (res_cell hn 1 rfl rfl rfl) rfl) (Sub.pick [[(b140, 39, #[vm17__0, Value.int .i64 (m17__1), Value.int .i64 (m17__2), Value.int .i64 (m17__3)])], [(b4, 39, #[vm17__0, Value.int .i64 (m17__1), Value.int .i64 (m17__2), Value.int .i64 (m17__3)])], [(br, 69, #[r_0v, Value.int .i64 (r127.2.2.1), Value.int .i64 (r127.2.2.2)])], S133, S130, Swant15_] [4, 2] rfl) ⟨vm17__0, hm17__0, ⟨S130, _, H131, ⟨rfl, rfl⟩, rfl⟩⟩)
                        · replace hM := ifp (of_decide_eq_true hg176) hM
                          refine r_y rfl ?_
                          refine r_v (Value.bool (same19_)) rfl rfl rfl rfl ?_
                          refine r_v (Value.bool (same19_)) rfl rfl rfl rfl ?_
                          refine lx_nil ?_
                          refine hK175 _ _ ?_; try clear hK175 K175
                          refine A_cond (same19_) rfl (fun hc178 => ?_) (fun hc178 => ?_)
                          · replace hM := ifp hc178 hM
                            refine A_skip ?_
                            refine fg _ (Sub.pick [[(b140, 39, #[vm17__0, Value.int .i64 (m17__1), Value.int .i64 (m17__2), Value.int .i64 (m17__3)])], [(b4, 39, #[Value.slice none 0 0, Value.int .i64 (0), Value.int .i64 (0), Value.int .i64 (0)])], [(br, 69, #[r_0v, Value.int .i64 (r127.2.2.1), Value.int .i64 (r127.2.2.2)])], S133, S130, Swant15_] [0, 1, 2, 3, 4, 5] rfl) ?_
                            exact ⟨hM, is_mk rfl rfl⟩
                          · replace hM := ifn (Bool.eq_false_iff.1 hc178) hM
                            refine A_exit ?_
                            refine hK168 _ _ ?_; try clear hK168 K168
                            refine A_seq fun K179 hK179 => ?_
                            refine A_reg ?_
                            refine r_l (Value.agg #[vm17__0, Value.int .i64 (m17__1), Value.int .i64 (m17__2), Value.int .i64 (m17__3)]) 0 _ _ _ _ rfl rfl rfl rfl rfl ?_
                            refine r_v (Value.bool (same19_)) rfl rfl rfl rfl ?_
                            refine r_s (List.flatten [[(b140, 39, #[vm17__0, Value.int .i64 (m17__1), Value.int .i64 (m17__2), Value.int .i64 (m17__3)])], [(b4, 39, #[vm17__0, Value.int .i64 (m17__1), Value.int .i64 (m17__2), Value.int .i64 (m17__3)])], [(br, 69, #[r_0v, Value.int .i64 (r127.2.2.1), Value.int .i64 (r127.2.2.2)])], S133, S130, Swant15_]) 1 _ _ _ (#[Value.slice none 0 0, Value.int .i64 (0), Value.int .i64 (0), Value.int .i64 (0)]) (#[vm17__0, Value.int .i64 (m17__1), Value.int .i64 (m17__2), Value.int .i64 (m17__3)]) (#[vm17__0, Value.int .i64 (m17__1), Value.int .i64 (m17__2), Value.int .i64 (m17__3)]) rfl rfl rfl rfl (.ofS rfl rfl (all_cons' (Shp.one (Rd.shp hm17__0)) (all_cons' rfl (all_cons' rfl (all_cons' rfl all_nil'))))) rfl rfl ?_
                            refine r_v (Value.bool (same19_)) rfl rfl rfl rfl ?_
                            refine lx_nil ?_
                            refine hK179 _ _ ?_; try clear hK179 K179
                            obtain rfl := Option.some.inj hM
                            refine A_ret (fun hn => endsO (v0 := Value.tuple #[Value.agg #[vm17__0, Value.int .i64 (m17__1), Value.int .i64 (m17__2), Value.int .i64 (m17__3)], Value.bool (same19_)]) (O := [S130, [(br, 69, #[r_0v, Value.int .i64 (r127.2.2.1), Value.int .i64 (r127.2.2.2)])]]) (res2 (res_cell hn 1 rfl rfl rfl) rfl) (Sub.pick [[(b140, 39, #[vm17__0, Value.int .i64 (m17__1), Value.int .i64 (m17__2), Value.int .i64 (m17__3)])], [(b4, 39, #[vm17__0, Value.int .i64 (m17__1), Value.int .i64 (m17__2), Value.int .i64 (m17__3)])], [(br, 69, #[r_0v, Value.int .i64 (r127.2.2.1), Value.int .i64 (r127.2.2.2)])], S133, S130, Swant15_] [4, 2] rfl) ⟨vm17__0, hm17__0, ⟨S130, _, H131, ⟨rfl, rfl⟩, rfl⟩⟩)
                      · clear hM; rintro t l ⟨hM, ⟨T, rfl⟩, rfl⟩
                        unfold shunterlaw07_reads_v1_k22 at hM
                        refine A_seq fun K171 hK171 => ?_
                        refine A_block ?_
                        refine A_draw [] (by decide +kernel) (fun hn => sep_nil) ?_
                        refine r_v (s132) rfl rfl rfl rfl ?_
                        refine r_v (Value.int .i64 (i20_)) rfl rfl rfl rfl ?_
                        replace hM := ck_some hM; obtain ⟨ck172, hM⟩ := hM
                        refine r_v (elA s132 ((i20_).toNat * 1)) rfl rfl rfl (ev_v (ev_idxSl rfl rfl rfl (Sl.shp H134) ck172)) ?_
                        refine r_le (Value.int .i64 ((r127.1)[(i20_).toNat]!)) (En := encI) ((r127.1)[(i20_).toNat]!) ((i20_).toNat) 0 rfl rfl (rd_own H134 (mem_chunk (Ls := [[(b140, 39, #[vm17__0, Value.int .i64 (m17__1), Value.int .i64 (m17__2), Value.int .i64 (m17__3)])], [(b4, 39, #[Value.slice none 0 0, Value.int .i64 (0), Value.int .i64 (0), Value.int .i64 (0)])], [(br, 69, #[r_0v, Value.int .i64 (r127.2.2.1), Value.int .i64 (r127.2.2.2)])], S133, S130, Swant15_]) (k := 3) rfl rfl)) (get_of ck172) rfl ?_
                        refine r_v (vwant15_) rfl rfl rfl rfl ?_
                        refine r_v (Value.int .i64 (i20_)) rfl rfl rfl rfl ?_
                        replace hM := ck_some hM; obtain ⟨ck173, hM⟩ := hM
                        refine r_v (elA vwant15_ ((i20_).toNat * 1)) rfl rfl rfl (ev_v (ev_idxSl rfl rfl rfl (Sl.shp hwant15_) ck173)) ?_
                        refine r_le (Value.int .i64 ((want15_)[(i20_).toNat]!)) (En := encI) ((want15_)[(i20_).toNat]!) ((i20_).toNat) 0 rfl rfl (rd_own hwant15_ (mem_chunk (Ls := [[(b140, 39, #[vm17__0, Value.int .i64 (m17__1), Value.int .i64 (m17__2), Value.int .i64 (m17__3)])], [(b4, 39, #[Value.slice none 0 0, Value.int .i64 (0), Value.int .i64 (0), Value.int .i64 (0)])], [(br, 69, #[r_0v, Value.int .i64 (r127.2.2.1), Value.int .i64 (r127.2.2.2)])], S133, S130, Swant15_]) (k := 5) rfl rfl)) (get_of ck173) rfl ?_
                        refine r_v (Value.bool ((((r127.1)[(i20_).toNat]! : Int) == (want15_)[(i20_).toNat]!))) rfl rfl rfl rfl ?_
                        refine r_v (Value.bool ((((r127.1)[(i20_).toNat]! : Int) == (want15_)[(i20_).toNat]!))) rfl rfl rfl rfl ?_
                        refine lx_nil ?_
                        refine hK171 _ _ ?_; try clear hK171 K171
                        refine A_reg ?_
                        refine r_v (Value.int .i64 (i20_)) rfl rfl rfl rfl ?_
                        replace hM := ck_some hM; obtain ⟨ck174, hM⟩ := hM
                        refine r_v (Value.int .i64 ((i20_ + 1))) rfl rfl (wi64 rfl ck174.1 ck174.2) rfl ?_
                        refine r_v (Value.int .i64 ((i20_ + 1))) rfl rfl rfl rfl ?_
                        refine lx_nil ?_
                        refine fg _ (Sub.pick [[(b140, 39, #[vm17__0, Value.int .i64 (m17__1), Value.int .i64 (m17__2), Value.int .i64 (m17__3)])], [(b4, 39, #[Value.slice none 0 0, Value.int .i64 (0), Value.int .i64 (0), Value.int .i64 (0)])], [(br, 69, #[r_0v, Value.int .i64 (r127.2.2.1), Value.int .i64 (r127.2.2.2)])], S133, S130, Swant15_] [0, 1, 2, 3, 4, 5] rfl) ?_
                        exact ⟨n170 + 1, by omega, n170, (((r127.1)[(i20_).toNat]! : Int) == (want15_)[(i20_).toNat]!), (i20_ + 1), hM, is_mk rfl rfl, rfl⟩
            · replace hM := ifn (ne_of_beq_false hc125) hM
              refine A_seq fun K180 hK180 => ?_
              refine A_reg ?_
              refine r_v (Value.bool (((o_0 : Int) == 7))) rfl rfl rfl rfl ?_
              refine r_v (Value.bool (((o_0 : Int) == 7))) rfl rfl rfl rfl ?_
              refine lx_nil ?_
              refine hK180 _ _ ?_; try clear hK180 K180
              refine A_cond (((o_0 : Int) == 7)) rfl (fun hc181 => ?_) (fun hc181 => ?_)
              · replace hM := ifp (eq_of_beq hc181) hM
                refine A_seq fun K182 hK182 => ?_
                refine A_regC [(some 225, true)] (conG Try.prog [(225, fun _ _ v_ L_ U_ => ∀ u0_, wire_Reader_Fail_v1_m N r_0 r_1 r_2 o_1 = some u0_ → (pO (List.flatten [[(br, 69, #[r_0v, Value.int .i64 (r_1), Value.int .i64 (r_2)])], Sr_0]) (oI 5 encY r_0v u0_.1 (oE (Value.tuple #[]) [[(br, 69, #[r_0v, Value.int .i64 (u0_.2.1), Value.int .i64 (u0_.2.2)])]]))) v_ L_ U_)]) ?_
                refine r_v (Value.pointer (some ⟨br, 0, none⟩)) rfl rfl rfl rfl ?_
                refine r_v (Value.pointer (some ⟨b3, 1, none⟩)) rfl rfl rfl rfl ?_
                refine r_l (Value.int .i64 (o_1)) 1 _ _ _ _ rfl rfl rfl rfl rfl ?_
                replace hM := bind_sm hM; obtain ⟨r183, hr184, hM⟩ := hM
                replace hM := ck_some hM; obtain ⟨ck185, hM⟩ := hM
                refine r_gm (Ls := [[(b4, 39, #[Value.slice none 0 0, Value.int .i64 (0), Value.int .i64 (0), Value.int .i64 (0)])], [(b3, 34, #[Value.int .i64 (o_0), Value.int .i64 (o_1), Value.int .i64 (o_2), Value.int .i64 (o_3), Value.int .i64 (o_4), U (hi (o_5)), U (lo (o_5)), Value.string (⟨(o_6).toArray⟩), o_7v, o_8v])], [(b2, 39, #[x_0v, Value.int .i64 (x_1), Value.int .i64 (x_2), Value.int .i64 (x_3)])], [(br, 69, #[r_0v, Value.int .i64 (r_1), Value.int .i64 (r_2)])], Sr_0]) (FL := [[(br, 69, #[r_0v, Value.int .i64 (r_1), Value.int .i64 (r_2)])], Sr_0]) (RL := [[(b4, 39, #[Value.slice none 0 0, Value.int .i64 (0), Value.int .i64 (0), Value.int .i64 (0)])], [(b3, 34, #[Value.int .i64 (o_0), Value.int .i64 (o_1), Value.int .i64 (o_2), Value.int .i64 (o_3), Value.int .i64 (o_4), U (hi (o_5)), U (lo (o_5)), Value.string (⟨(o_6).toArray⟩), o_7v, o_8v])], [(b2, 39, #[x_0v, Value.int .i64 (x_1), Value.int .i64 (x_2), Value.int .i64 (x_3)])]]) [3, 4] (oI 5 encY r_0v r183.1 (oE (Value.tuple #[]) [[(br, 69, #[r_0v, Value.int .i64 (r183.2.1), Value.int .i64 (r183.2.2)])]])) (some 225) 41 _ rfl rfl rfl rfl rfl (ev_callF rfl call_41 rfl) (fun own_ nw_ hn_ hs_ => wire_Reader_Fail_v1_g N r_0 r_1 r_2 o_1 _ hr184 _ br r_0v Sr_0 hr_0) (fun _ _ v_ L_ U_ => ⟨fun h_ => h_ _ hr184, fun h_ => by intro _ e_; cases Option.some.inj (e_.symm.trans hr184); exact h_⟩) (fun h_ => nomatch h_) ?_
                rintro _ _ ⟨S186, _, H187, ⟨rfl, rfl⟩, rfl⟩
                refine lx_perm (Ls := [[(b4, 39, #[Value.slice none 0 0, Value.int .i64 (0), Value.int .i64 (0), Value.int .i64 (0)])], [(b3, 34, #[Value.int .i64 (o_0), Value.int .i64 (o_1), Value.int .i64 (o_2), Value.int .i64 (o_3), Value.int .i64 (o_4), U (hi (o_5)), U (lo (o_5)), Value.string (⟨(o_6).toArray⟩), o_7v, o_8v])], [(b2, 39, #[x_0v, Value.int .i64 (x_1), Value.int .i64 (x_2), Value.int .i64 (x_3)])], S186, [(br, 69, #[r_0v, Value.int .i64 (r183.2.1), Value.int .i64 (r183.2.2)])]]) (Ls' := [[(b4, 39, #[Value.slice none 0 0, Value.int .i64 (0), Value.int .i64 (0), Value.int .i64 (0)])], [(b3, 34, #[Value.int .i64 (o_0), Value.int .i64 (o_1), Value.int .i64 (o_2), Value.int .i64 (o_3), Value.int .i64 (o_4), U (hi (o_5)), U (lo (o_5)), Value.string (⟨(o_6).toArray⟩), o_7v, o_8v])], [(b2, 39, #[x_0v, Value.int .i64 (x_1), Value.int .i64 (x_2), Value.int .i64 (x_3)])], [(br, 69, #[r_0v, Value.int .i64 (r183.2.1), Value.int .i64 (r183.2.2)])], S186]) [0, 1, 2, 4, 3] rfl rfl ?_
                refine lx_nil ?_
                refine hK182 _ _ ?_; try clear hK182 K182
                refine A_cut (fun tt ll => ∃ (x23_ : Bool), (shunterlaw07_reads_v1_k24 x_0 x_1 x_2 x_3 o_1 r183 x23_ = some r) ∧ Is [(4, Value.pointer (some ⟨b2, 0, none⟩)), (5, Value.pointer (some ⟨b3, 0, none⟩)), (6, Value.pointer (some ⟨b4, 0, none⟩)), (233, Value.bool (x23_))] (List.flatten [[(b4, 39, #[Value.slice none 0 0, Value.int .i64 (0), Value.int .i64 (0), Value.int .i64 (0)])], [(b3, 34, #[Value.int .i64 (o_0), Value.int .i64 (o_1), Value.int .i64 (o_2), Value.int .i64 (o_3), Value.int .i64 (o_4), U (hi (o_5)), U (lo (o_5)), Value.string (⟨(o_6).toArray⟩), o_7v, o_8v])], [(b2, 39, #[x_0v, Value.int .i64 (x_1), Value.int .i64 (x_2), Value.int .i64 (x_3)])], [(br, 69, #[r_0v, Value.int .i64 (r183.2.1), Value.int .i64 (r183.2.2)])], S186]) tt ll) ?_ ?_
                · refine A_reg ?_
                  refine r_v (Value.pointer (some ⟨b2, 2, none⟩)) rfl rfl rfl rfl ?_
                  refine r_l (Value.int .i64 (x_2)) 2 _ _ _ _ rfl rfl rfl rfl rfl ?_
                  refine r_v (Value.bool (((x_2 : Int) == 0))) rfl rfl rfl rfl ?_
                  refine r_v (Value.bool (((x_2 : Int) == 0))) rfl rfl rfl rfl ?_
                  rcases hg192 : (((x_2 : Int) == 0)) with _ | _
                  · replace hM := ifn (ne_of_beq_false hg192) hM
                    refine r_n false rfl (by decide) rfl ?_
                    refine r_n false rfl (by decide) rfl ?_
                    refine r_n false rfl (by decide) rfl ?_
                    refine r_v (Value.bool (false)) rfl rfl rfl rfl ?_
                    refine lx_nil ?_
                    refine fg _ (Sub.pick [[(b4, 39, #[Value.slice none 0 0, Value.int .i64 (0), Value.int .i64 (0), Value.int .i64 (0)])], [(b3, 34, #[Value.int .i64 (o_0), Value.int .i64 (o_1), Value.int .i64 (o_2), Value.int .i64 (o_3), Value.int .i64 (o_4), U (hi (o_5)), U (lo (o_5)), Value.string (⟨(o_6).toArray⟩), o_7v, o_8v])], [(b2, 39, #[x_0v, Value.int .i64 (x_1), Value.int .i64 (x_2), Value.int .i64 (x_3)])], [(br, 69, #[r_0v, Value.int .i64 (r183.2.1), Value.int .i64 (r183.2.2)])], S186] [0, 1, 2, 3, 4] rfl) ?_
                    exact ⟨false, hM, is_mk (by first | rfl | (simp only [hg192]; done) | (simp only [hg192]; rfl) | (simp only [app_hl]; rfl)) rfl⟩
                  · replace hM := ifp (eq_of_beq hg192) hM
                    refine r_y rfl ?_
                    refine r_v (Value.pointer (some ⟨b3, 1, none⟩)) rfl rfl rfl rfl ?_
                    refine r_y rfl ?_
                    refine r_l (Value.int .i64 (o_1)) 1 _ _ _ _ rfl rfl rfl rfl rfl ?_
                    refine r_y rfl ?_
                    refine r_v (Value.bool (((o_1 : Int) != 0))) rfl rfl rfl rfl ?_
                    refine r_v (Value.bool (((o_1 : Int) != 0))) rfl rfl rfl rfl ?_
                    refine lx_nil ?_
                    refine fg _ (Sub.pick [[(b4, 39, #[Value.slice none 0 0, Value.int .i64 (0), Value.int .i64 (0), Value.int .i64 (0)])], [(b3, 34, #[Value.int .i64 (o_0), Value.int .i64 (o_1), Value.int .i64 (o_2), Value.int .i64 (o_3), Value.int .i64 (o_4), U (hi (o_5)), U (lo (o_5)), Value.string (⟨(o_6).toArray⟩), o_7v, o_8v])], [(b2, 39, #[x_0v, Value.int .i64 (x_1), Value.int .i64 (x_2), Value.int .i64 (x_3)])], [(br, 69, #[r_0v, Value.int .i64 (r183.2.1), Value.int .i64 (r183.2.2)])], S186] [0, 1, 2, 3, 4] rfl) ?_
                    exact ⟨((o_1 : Int) != 0), hM, is_mk (by first | rfl | (simp only [hg192]; done) | (simp only [hg192]; rfl) | (simp only [app_hl]; rfl)) rfl⟩
                · clear hM; rintro t l ⟨x23_, hM, ⟨T, rfl⟩, rfl⟩
                  unfold shunterlaw07_reads_v1_k24 at hM
                  refine A_cond (x23_) rfl (fun hc188 => ?_) (fun hc188 => ?_)
                  · replace hM := ifp hc188 hM
                    refine A_seq fun K189 hK189 => ?_
                    refine A_reg ?_
                    refine r_v (Value.pointer (some ⟨b3, 1, none⟩)) rfl rfl rfl rfl ?_
                    refine r_l (Value.int .i64 (o_1)) 1 _ _ _ _ rfl rfl rfl rfl rfl ?_
                    refine r_v (Value.pointer (some ⟨b2, 2, none⟩)) rfl rfl rfl rfl ?_
                    refine r_s (List.flatten [[(b4, 39, #[Value.slice none 0 0, Value.int .i64 (0), Value.int .i64 (0), Value.int .i64 (0)])], [(b3, 34, #[Value.int .i64 (o_0), Value.int .i64 (o_1), Value.int .i64 (o_2), Value.int .i64 (o_3), Value.int .i64 (o_4), U (hi (o_5)), U (lo (o_5)), Value.string (⟨(o_6).toArray⟩), o_7v, o_8v])], [(b2, 39, #[x_0v, Value.int .i64 (x_1), Value.int .i64 (o_1), Value.int .i64 (x_3)])], [(br, 69, #[r_0v, Value.int .i64 (r183.2.1), Value.int .i64 (r183.2.2)])], S186]) 2 _ _ _ (#[x_0v, Value.int .i64 (x_1), Value.int .i64 (x_2), Value.int .i64 (x_3)]) (#[Value.int .i64 (o_1)]) (#[x_0v, Value.int .i64 (x_1), Value.int .i64 (o_1), Value.int .i64 (x_3)]) rfl rfl rfl rfl (.of rfl rfl) rfl rfl ?_
                    refine lx_nil ?_
                    refine hK189 _ _ ?_; try clear hK189 K189
                    refine A_reg ?_
                    refine r_v (Value.pointer (some ⟨b2, 1, none⟩)) rfl rfl rfl rfl ?_
                    refine r_l (Value.int .i64 (x_1)) 2 _ _ _ _ rfl rfl rfl rfl rfl ?_
                    refine r_v (Value.pointer (some ⟨b2, 3, none⟩)) rfl rfl rfl rfl ?_
                    refine r_s (List.flatten [[(b4, 39, #[Value.slice none 0 0, Value.int .i64 (0), Value.int .i64 (0), Value.int .i64 (0)])], [(b3, 34, #[Value.int .i64 (o_0), Value.int .i64 (o_1), Value.int .i64 (o_2), Value.int .i64 (o_3), Value.int .i64 (o_4), U (hi (o_5)), U (lo (o_5)), Value.string (⟨(o_6).toArray⟩), o_7v, o_8v])], [(b2, 39, #[x_0v, Value.int .i64 (x_1), Value.int .i64 (o_1), Value.int .i64 (x_1)])], [(br, 69, #[r_0v, Value.int .i64 (r183.2.1), Value.int .i64 (r183.2.2)])], S186]) 2 _ _ _ (#[x_0v, Value.int .i64 (x_1), Value.int .i64 (o_1), Value.int .i64 (x_3)]) (#[Value.int .i64 (x_1)]) (#[x_0v, Value.int .i64 (x_1), Value.int .i64 (o_1), Value.int .i64 (x_1)]) rfl rfl rfl rfl (.of rfl rfl) rfl rfl ?_
                    refine lx_nil ?_
                    refine hK5 _ _ ?_; try clear hK5 K5
                    refine A_seq fun K190 hK190 => ?_
                    refine A_reg ?_
                    refine r_l (Value.agg #[x_0v, Value.int .i64 (x_1), Value.int .i64 (o_1), Value.int .i64 (x_1)]) 2 _ _ _ _ rfl rfl rfl rfl rfl ?_
                    refine r_s (List.flatten [[(b4, 39, #[x_0v, Value.int .i64 (x_1), Value.int .i64 (o_1), Value.int .i64 (x_1)])], [(b3, 34, #[Value.int .i64 (o_0), Value.int .i64 (o_1), Value.int .i64 (o_2), Value.int .i64 (o_3), Value.int .i64 (o_4), U (hi (o_5)), U (lo (o_5)), Value.string (⟨(o_6).toArray⟩), o_7v, o_8v])], [(b2, 39, #[x_0v, Value.int .i64 (x_1), Value.int .i64 (o_1), Value.int .i64 (x_1)])], [(br, 69, #[r_0v, Value.int .i64 (r183.2.1), Value.int .i64 (r183.2.2)])], S186]) 0 _ _ _ (#[Value.slice none 0 0, Value.int .i64 (0), Value.int .i64 (0), Value.int .i64 (0)]) (#[x_0v, Value.int .i64 (x_1), Value.int .i64 (o_1), Value.int .i64 (x_1)]) (#[x_0v, Value.int .i64 (x_1), Value.int .i64 (o_1), Value.int .i64 (x_1)]) rfl rfl rfl rfl (.ofS rfl rfl (all_cons' (Shp.one (Rd.shp hx_0)) (all_cons' rfl (all_cons' rfl (all_cons' rfl all_nil'))))) rfl rfl ?_
                    refine r_v (Value.bool (true)) rfl rfl rfl rfl ?_
                    refine lx_nil ?_
                    refine hK190 _ _ ?_; try clear hK190 K190
                    obtain rfl := Option.some.inj hM
                    refine A_ret (fun hn => endsO (v0 := Value.tuple #[Value.agg #[x_0v, Value.int .i64 (x_1), Value.int .i64 (o_1), Value.int .i64 (x_1)], Value.bool (true)]) (O := [S186, [(br, 69, #[r_0v, Value.int .i64 (r183.2.1), Value.int .i64 (r183.2.2)])]]) (res2 (res_cell hn 0 rfl rfl rfl) rfl) (Sub.pick [[(b4, 39, #[x_0v, Value.int .i64 (x_1), Value.int .i64 (o_1), Value.int .i64 (x_1)])], [(b3, 34, #[Value.int .i64 (o_0), Value.int .i64 (o_1), Value.int .i64 (o_2), Value.int .i64 (o_3), Value.int .i64 (o_4), U (hi (o_5)), U (lo (o_5)), Value.string (⟨(o_6).toArray⟩), o_7v, o_8v])], [(b2, 39, #[x_0v, Value.int .i64 (x_1), Value.int .i64 (o_1), Value.int .i64 (x_1)])], [(br, 69, #[r_0v, Value.int .i64 (r183.2.1), Value.int .i64 (r183.2.2)])], S186] [4, 3] rfl) ⟨x_0v, hx_0, ⟨S186, _, H187, ⟨rfl, rfl⟩, rfl⟩⟩)
                  · replace hM := ifn (Bool.eq_false_iff.1 hc188) hM
                    refine A_skip ?_
                    refine hK5 _ _ ?_; try clear hK5 K5
                    refine A_seq fun K191 hK191 => ?_
                    refine A_reg ?_
                    refine r_l (Value.agg #[x_0v, Value.int .i64 (x_1), Value.int .i64 (x_2), Value.int .i64 (x_3)]) 2 _ _ _ _ rfl rfl rfl rfl rfl ?_
                    refine r_s (List.flatten [[(b4, 39, #[x_0v, Value.int .i64 (x_1), Value.int .i64 (x_2), Value.int .i64 (x_3)])], [(b3, 34, #[Value.int .i64 (o_0), Value.int .i64 (o_1), Value.int .i64 (o_2), Value.int .i64 (o_3), Value.int .i64 (o_4), U (hi (o_5)), U (lo (o_5)), Value.string (⟨(o_6).toArray⟩), o_7v, o_8v])], [(b2, 39, #[x_0v, Value.int .i64 (x_1), Value.int .i64 (x_2), Value.int .i64 (x_3)])], [(br, 69, #[r_0v, Value.int .i64 (r183.2.1), Value.int .i64 (r183.2.2)])], S186]) 0 _ _ _ (#[Value.slice none 0 0, Value.int .i64 (0), Value.int .i64 (0), Value.int .i64 (0)]) (#[x_0v, Value.int .i64 (x_1), Value.int .i64 (x_2), Value.int .i64 (x_3)]) (#[x_0v, Value.int .i64 (x_1), Value.int .i64 (x_2), Value.int .i64 (x_3)]) rfl rfl rfl rfl (.ofS rfl rfl (all_cons' (Shp.one (Rd.shp hx_0)) (all_cons' rfl (all_cons' rfl (all_cons' rfl all_nil'))))) rfl rfl ?_
                    refine r_v (Value.bool (true)) rfl rfl rfl rfl ?_
                    refine lx_nil ?_
                    refine hK191 _ _ ?_; try clear hK191 K191
                    obtain rfl := Option.some.inj hM
                    refine A_ret (fun hn => endsO (v0 := Value.tuple #[Value.agg #[x_0v, Value.int .i64 (x_1), Value.int .i64 (x_2), Value.int .i64 (x_3)], Value.bool (true)]) (O := [S186, [(br, 69, #[r_0v, Value.int .i64 (r183.2.1), Value.int .i64 (r183.2.2)])]]) (res2 (res_cell hn 0 rfl rfl rfl) rfl) (Sub.pick [[(b4, 39, #[x_0v, Value.int .i64 (x_1), Value.int .i64 (x_2), Value.int .i64 (x_3)])], [(b3, 34, #[Value.int .i64 (o_0), Value.int .i64 (o_1), Value.int .i64 (o_2), Value.int .i64 (o_3), Value.int .i64 (o_4), U (hi (o_5)), U (lo (o_5)), Value.string (⟨(o_6).toArray⟩), o_7v, o_8v])], [(b2, 39, #[x_0v, Value.int .i64 (x_1), Value.int .i64 (x_2), Value.int .i64 (x_3)])], [(br, 69, #[r_0v, Value.int .i64 (r183.2.1), Value.int .i64 (r183.2.2)])], S186] [4, 3] rfl) ⟨x_0v, hx_0, ⟨S186, _, H187, ⟨rfl, rfl⟩, rfl⟩⟩)
              · replace hM := ifn (ne_of_beq_false hc181) hM
                refine A_skip ?_
                refine hK5 _ _ ?_; try clear hK5 K5
                refine A_seq fun K193 hK193 => ?_
                refine A_reg ?_
                refine r_l (Value.agg #[x_0v, Value.int .i64 (x_1), Value.int .i64 (x_2), Value.int .i64 (x_3)]) 2 _ _ _ _ rfl rfl rfl rfl rfl ?_
                refine r_s (List.flatten [[(b4, 39, #[x_0v, Value.int .i64 (x_1), Value.int .i64 (x_2), Value.int .i64 (x_3)])], [(b3, 34, #[Value.int .i64 (o_0), Value.int .i64 (o_1), Value.int .i64 (o_2), Value.int .i64 (o_3), Value.int .i64 (o_4), U (hi (o_5)), U (lo (o_5)), Value.string (⟨(o_6).toArray⟩), o_7v, o_8v])], [(b2, 39, #[x_0v, Value.int .i64 (x_1), Value.int .i64 (x_2), Value.int .i64 (x_3)])], [(br, 69, #[r_0v, Value.int .i64 (r_1), Value.int .i64 (r_2)])], Sr_0]) 0 _ _ _ (#[Value.slice none 0 0, Value.int .i64 (0), Value.int .i64 (0), Value.int .i64 (0)]) (#[x_0v, Value.int .i64 (x_1), Value.int .i64 (x_2), Value.int .i64 (x_3)]) (#[x_0v, Value.int .i64 (x_1), Value.int .i64 (x_2), Value.int .i64 (x_3)]) rfl rfl rfl rfl (.ofS rfl rfl (all_cons' (Shp.one (Rd.shp hx_0)) (all_cons' rfl (all_cons' rfl (all_cons' rfl all_nil'))))) rfl rfl ?_
                refine r_v (Value.bool (true)) rfl rfl rfl rfl ?_
                refine lx_nil ?_
                refine hK193 _ _ ?_; try clear hK193 K193
                obtain rfl := Option.some.inj hM
                refine A_ret (fun hn => endsO (v0 := Value.tuple #[Value.agg #[x_0v, Value.int .i64 (x_1), Value.int .i64 (x_2), Value.int .i64 (x_3)], Value.bool (true)]) (O := [Sr_0, [(br, 69, #[r_0v, Value.int .i64 (r_1), Value.int .i64 (r_2)])]]) (res2 (res_cell hn 0 rfl rfl rfl) rfl) (Sub.pick [[(b4, 39, #[x_0v, Value.int .i64 (x_1), Value.int .i64 (x_2), Value.int .i64 (x_3)])], [(b3, 34, #[Value.int .i64 (o_0), Value.int .i64 (o_1), Value.int .i64 (o_2), Value.int .i64 (o_3), Value.int .i64 (o_4), U (hi (o_5)), U (lo (o_5)), Value.string (⟨(o_6).toArray⟩), o_7v, o_8v])], [(b2, 39, #[x_0v, Value.int .i64 (x_1), Value.int .i64 (x_2), Value.int .i64 (x_3)])], [(br, 69, #[r_0v, Value.int .i64 (r_1), Value.int .i64 (r_2)])], Sr_0] [4, 3] rfl) ⟨x_0v, hx_0, ⟨Sr_0, _, hr_0, ⟨rfl, rfl⟩, rfl⟩⟩)
end Go.Proofs.Ytdgejbbelmhbdaa
