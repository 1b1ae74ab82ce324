/- models of functions and their walks -/
import Derived.Test.YtmiabhodfcidcaaBa
namespace Go.Proofs.Ytmiabhodfcidcaa
open Go Go.RowKit Go.Eng
def bits_Row_Len_v1_m (_ : Nat) (_ : List UInt8) (r_1 : Int) : Option (Int) := some (r_1)
set_option maxRecDepth 100000 in
set_option maxHeartbeats 400000 in
theorem bits_Row_Len_v1_g (N : Nat) (r_0 : List UInt8) (r_1 : Int) (r : Int) (hM : bits_Row_Len_v1_m N r_0 r_1 = some r) (ro : Addr → Option Value) (br : Nat) (r_0v : Value) (_hr_0 : Rd encY ro r_0v r_0) (hbr : Blk ro br [r_0v, Value.int .i64 (r_1)]) : Does Try.prog 19 #[Value.pointer (some ⟨br, 0, none⟩)] ro [] (pV (Value.int .i64 (r))) := by
  unfold bits_Row_Len_v1_m at hM
  refine does_of_A follows Try.func19 rfl 9 rfl (upd (fun _ => undef) 0 (Value.pointer (some ⟨br, 0, none⟩))) (by funext k; match k with | 0 => rfl | k + 1 => rfl) (fun base0_ => ?_)
  refine A_seq fun K1 hK1 => ?_
  refine A_reg ?_
  refine r_v (Value.int .i64 (0)) rfl rfl rfl rfl ?_
  refine lx_nil ?_
  refine hK1 _ _ ?_; try clear hK1 K1
  refine A_seq fun K2 hK2 => ?_
  refine A_seq fun K3 hK3 => ?_
  refine A_reg ?_
  refine r_v (Value.pointer (some ⟨br, 0, none⟩)) rfl rfl rfl rfl ?_
  refine r_v (Value.bool (false)) rfl rfl rfl rfl ?_
  refine lx_nil ?_
  refine hK3 _ _ ?_; try clear hK3 K3
  refine A_cond false rfl (fun h_ => nomatch h_) (fun _ => ?_)
  refine A_skip ?_
  refine hK2 _ _ ?_; try clear hK2 K2
  refine A_seq fun K4 hK4 => ?_
  refine A_reg ?_
  refine r_v (Value.pointer (some ⟨br, 0, none⟩)) rfl rfl rfl rfl ?_
  refine r_v (Value.pointer (some ⟨br, 0, none⟩)) rfl rfl rfl rfl ?_
  refine r_v (Value.pointer (some ⟨br, 1, none⟩)) rfl rfl rfl rfl ?_
  refine r_lb (Value.int .i64 (r_1)) (vs := [r_0v, Value.int .i64 (r_1)]) (o := 1) rfl rfl (blk_ro hbr) rfl ?_
  refine r_v (Value.int .i64 (r_1)) rfl rfl rfl rfl ?_
  refine lx_nil ?_
  refine hK4 _ _ ?_; try clear hK4 K4
  obtain rfl := Option.some.inj hM
  refine A_ret (fun hn => endsV (v0 := Value.int .i64 (r_1)) rfl (res1 rfl))
def bits_Row_All_v1_m (N : Nat) (r_0 : List UInt8) (_ : Int) : Option (List UInt8) := (bits_fresh_m N r_0).bind fun r5 => some (r5)
set_option maxRecDepth 100000 in
set_option maxHeartbeats 400000 in
theorem bits_Row_All_v1_g (N : Nat) (r_0 : List UInt8) (r_1 : Int) (r : List UInt8) (hM : bits_Row_All_v1_m N r_0 r_1 = some r) (ro : Addr → Option Value) (br : Nat) (r_0v : Value) (hr_0 : Rd encY ro r_0v r_0) (hbr : Blk ro br [r_0v, Value.int .i64 (r_1)]) : Does Try.prog 20 #[Value.pointer (some ⟨br, 0, none⟩)] ro [] (p1 (fun s_ => s_) 5 encY r) := by
  unfold bits_Row_All_v1_m at hM
  refine does_of_A follows Try.func20 rfl 10 rfl (upd (fun _ => undef) 0 (Value.pointer (some ⟨br, 0, none⟩))) (by funext k; match k with | 0 => rfl | k + 1 => rfl) (fun base0_ => ?_)
  refine A_seq fun K1 hK1 => ?_
  refine A_reg ?_
  refine r_v (Value.slice none 0 0) rfl rfl rfl rfl ?_
  refine lx_nil ?_
  refine hK1 _ _ ?_; try clear hK1 K1
  refine A_seq fun K2 hK2 => ?_
  refine A_seq fun K3 hK3 => ?_
  refine A_reg ?_
  refine r_v (Value.pointer (some ⟨br, 0, none⟩)) rfl rfl rfl rfl ?_
  refine r_v (Value.bool (false)) rfl rfl rfl rfl ?_
  refine lx_nil ?_
  refine hK3 _ _ ?_; try clear hK3 K3
  refine A_cond false rfl (fun h_ => nomatch h_) (fun _ => ?_)
  refine A_skip ?_
  refine hK2 _ _ ?_; try clear hK2 K2
  refine A_seq fun K4 hK4 => ?_
  refine A_regC [(some 9, false)] (conG Try.prog [(9, fun v_ L_ U_ => ∀ u0_, bits_fresh_m N r_0 = some u0_ → (p1 (fun s_ => s_) 5 encY (u0_)) v_ L_ U_)]) ?_
  refine r_v (Value.pointer (some ⟨br, 0, none⟩)) rfl rfl rfl rfl ?_
  refine r_v (Value.pointer (some ⟨br, 0, none⟩)) rfl rfl rfl rfl ?_
  refine r_v (Value.pointer (some ⟨br, 0, none⟩)) rfl rfl rfl rfl ?_
  refine r_lb (r_0v) (vs := [r_0v, Value.int .i64 (r_1)]) (o := 0) rfl rfl (blk_ro hbr) rfl ?_
  replace hM := bind_sm hM; obtain ⟨r5, hr6, hM⟩ := hM
  refine r_g1 (Ls := []) (fun s7 => s7) 5 encY (r5) 38 _ rfl rfl rfl (ev_callF rfl call_38 rfl) (fun own_ nw_ hs_ => bits_fresh_g N r_0 _ hr6 hs_.view r_0v ((rd_ro hr_0) own_ nw_ hs_)) (fun _ _ v_ L_ U_ => ⟨fun h_ => h_ _ hr6, fun h_ => by intro _ e_; cases Option.some.inj (e_.symm.trans hr6); exact h_⟩) (fun s7 S8 H9 => ?_)
  refine r_v (s7) rfl rfl rfl rfl ?_
  refine lx_nil ?_
  refine hK4 _ _ ?_; try clear hK4 K4
  obtain rfl := Option.some.inj hM
  refine A_ret (fun hn => ends1 (v0 := s7) H9 (sub_one (Sub.pick [S8] [0] rfl)) rfl (res1 rfl))
def bits_Take_m (N : Nat) (b : List UInt8) : Option ((List UInt8) × Int) := (bits_fresh_m N b).bind fun r3 => some (r3, 0)
set_option maxRecDepth 100000 in
set_option maxHeartbeats 400000 in
theorem bits_Take_g (N : Nat) (b : List UInt8) (r : (List UInt8) × Int) (hM : bits_Take_m N b = some r) (ro : Addr → Option Value) (bv : Value) (hb : Rd encY ro bv b) : Does Try.prog 22 #[bv] ro [] (pO [] (oS 5 encY r.1 fun s_0 => (oB 81 #[s_0, Value.int .i64 (r.2)] fun b_0 => (oE (Value.pointer (some ⟨b_0, 0, none⟩)) [])))) := by
  unfold bits_Take_m at hM
  refine doesO_of_A follows Try.func22 rfl 8 rfl (upd (fun _ => undef) 0 (bv)) (by funext k; match k with | 0 => rfl | k + 1 => rfl) (fun _ _ h_ _ => h_) (fun base0_ => ?_)
  refine A_seq fun K1 hK1 => ?_
  refine A_reg ?_
  refine r_v (Value.pointer none) rfl rfl rfl rfl ?_
  refine lx_nil ?_
  refine hK1 _ _ ?_; try clear hK1 K1
  refine A_seq fun K2 hK2 => ?_
  refine A_regC [(some 4, false)] (conG Try.prog [(4, fun v_ L_ U_ => ∀ u0_, bits_fresh_m N b = some u0_ → (p1 (fun s_ => s_) 5 encY (u0_)) v_ L_ U_)]) ?_
  refine r_v (bv) rfl rfl rfl rfl ?_
  replace hM := bind_sm hM; obtain ⟨r3, hr4, hM⟩ := hM
  refine r_g1 (Ls := []) (fun s5 => s5) 5 encY (r3) 38 _ rfl rfl rfl (ev_callF rfl call_38 rfl) (fun own_ nw_ hs_ => bits_fresh_g N b _ hr4 hs_.view bv ((rd_ro hb) own_ nw_ hs_)) (fun _ _ v_ L_ U_ => ⟨fun h_ => h_ _ hr4, fun h_ => by intro _ e_; cases Option.some.inj (e_.symm.trans hr4); exact h_⟩) (fun s5 S6 H7 => ?_)
  refine r_v (Value.agg #[s5, Value.int .i64 (0)]) rfl rfl rfl (ev_buildSC rfl rfl rfl (pc_cons (cells_sl rfl (Sl.shp H7)) pc_nil) rfl) ?_
  refine r_v (Value.agg #[s5, Value.int .i64 (0)]) rfl rfl rfl (ev_buildSC rfl rfl rfl (pc_cons rfl pc_nil) rfl) ?_
  refine r_a (81, #[s5, Value.int .i64 (0)]) rfl rfl rfl (fun b8 => ?_) (.inr rfl)
  refine r_v (Value.pointer (some ⟨b8, 0, none⟩)) rfl rfl rfl rfl ?_
  refine lx_nil ?_
  refine hK2 _ _ ?_; try clear hK2 K2
  obtain rfl := Option.some.inj hM
  refine A_ret (fun hn => endsO (v0 := Value.pointer (some ⟨b8, 0, none⟩)) (O := [S6, [(b8, 81, #[s5, Value.int .i64 (0)])]]) (res1 rfl) (Sub.pick [[(b8, 81, #[s5, Value.int .i64 (0)])], S6] [1, 0] rfl) ⟨s5, S6, _, H7, ⟨b8, _, ⟨rfl, rfl⟩, rfl⟩, rfl⟩)
def bits_stock_left_v1_m (_ : Nat) (s_0 : List UInt8) (s_1 : Int) : Option (Int) := ck ((-9223372036854775808 ≤ (8 * ((s_0).length : Int)) ∧ (8 * ((s_0).length : Int)) ≤ 9223372036854775807)) (ck ((-9223372036854775808 ≤ ((8 * ((s_0).length : Int)) - s_1) ∧ ((8 * ((s_0).length : Int)) - s_1) ≤ 9223372036854775807)) (some (((8 * ((s_0).length : Int)) - s_1))))
set_option maxRecDepth 100000 in
set_option maxHeartbeats 400000 in
theorem bits_stock_left_v1_g (N : Nat) (s_0 : List UInt8) (s_1 : Int) (r : Int) (hM : bits_stock_left_v1_m N s_0 s_1 = some r) (ro : Addr → Option Value) (bs : Nat) (s_0v : Value) (hs_0 : Rd encY ro s_0v s_0) (hbs : Blk ro bs [s_0v, Value.int .i64 (s_1)]) : Does Try.prog 44 #[Value.pointer (some ⟨bs, 0, none⟩)] ro [] (pV (Value.int .i64 (r))) := by
  unfold bits_stock_left_v1_m at hM
  refine does_of_A follows Try.func44 rfl 14 rfl (upd (fun _ => undef) 0 (Value.pointer (some ⟨bs, 0, none⟩))) (by funext k; match k with | 0 => rfl | k + 1 => rfl) (fun base0_ => ?_)
  refine A_seq fun K1 hK1 => ?_
  refine A_reg ?_
  refine r_v (Value.int .i64 (0)) rfl rfl rfl rfl ?_
  refine lx_nil ?_
  refine hK1 _ _ ?_; try clear hK1 K1
  refine A_seq fun K2 hK2 => ?_
  refine A_draw [] (by decide +kernel) (fun hn => sep_nil) ?_
  refine r_v (Value.pointer (some ⟨bs, 0, none⟩)) rfl rfl rfl rfl ?_
  refine r_v (Value.pointer (some ⟨bs, 0, none⟩)) rfl rfl rfl rfl ?_
  refine r_v (Value.pointer (some ⟨bs, 0, none⟩)) rfl rfl rfl rfl ?_
  refine r_lb (s_0v) (vs := [s_0v, Value.int .i64 (s_1)]) (o := 0) rfl rfl (blk_ro hbs) rfl ?_
  refine r_v (Value.int .i64 (((s_0).length : Int))) rfl rfl rfl (ev_lenSl rfl rfl rfl (Rd.shp hs_0)) ?_
  replace hM := ck_some hM; obtain ⟨ck3, hM⟩ := hM
  refine r_v (Value.int .i64 ((8 * ((s_0).length : Int)))) rfl rfl (wi64 rfl ck3.1 ck3.2) rfl ?_
  refine r_v (Value.pointer (some ⟨bs, 0, none⟩)) rfl rfl rfl rfl ?_
  refine r_v (Value.pointer (some ⟨bs, 0, none⟩)) rfl rfl rfl rfl ?_
  refine r_v (Value.pointer (some ⟨bs, 1, none⟩)) rfl rfl rfl rfl ?_
  refine r_lb (Value.int .i64 (s_1)) (vs := [s_0v, Value.int .i64 (s_1)]) (o := 1) rfl rfl (blk_ro hbs) rfl ?_
  replace hM := ck_some hM; obtain ⟨ck4, hM⟩ := hM
  refine r_v (Value.int .i64 (((8 * ((s_0).length : Int)) - s_1))) rfl rfl (wi64 rfl ck4.1 ck4.2) rfl ?_
  refine r_v (Value.int .i64 (((8 * ((s_0).length : Int)) - s_1))) rfl rfl rfl rfl ?_
  refine lx_nil ?_
  refine hK2 _ _ ?_; try clear hK2 K2
  obtain rfl := Option.some.inj hM
  refine A_ret (fun hn => endsV (v0 := Value.int .i64 (((8 * ((s_0).length : Int)) - s_1))) rfl (res1 rfl))
def bits_Taker_Bytes_v1_m (N : Nat) (t_0 : List UInt8) (t_1 : Int) (n : Int) : Option ((List UInt8) × Int × (List UInt8) × Int) := ck (0 ≤ t_1 ∧ t_1 ≤ 9223372036854775807) (if ((t_1) % 8 : Int) ≠ 0 then some ([], 13, t_0, t_1) else if (n : Int) < 0 then some ([], 7, t_0, t_1) else (bits_stock_left_v1_m N t_0 t_1).bind fun r15 => ck (0 ≤ r15 ∧ r15 ≤ 9223372036854775807) (if (n : Int) > (r15) / 8 then some ([], 3, t_0, t_1) else ck (0 ≤ t_1 ∧ t_1 ≤ 9223372036854775807) (ck ((-9223372036854775808 ≤ (8 * n) ∧ (8 * n) ≤ 9223372036854775807)) (ck ((-9223372036854775808 ≤ (t_1 + (8 * n)) ∧ (t_1 + (8 * n)) ≤ 9223372036854775807)) (ck ((-9223372036854775808 ≤ ((t_1) / 8 + n) ∧ ((t_1) / 8 + n) ≤ 9223372036854775807)) (ck (0 ≤ (t_1) / 8 ∧ (t_1) / 8 ≤ ((t_1) / 8 + n) ∧ ((t_1) / 8 + n) ≤ ((t_0).length : Int)) ((bits_fresh_m N (((t_0).take ((((t_1) / 8 + n)).toNat)).drop (((t_1) / 8).toNat))).bind fun r28 => some (r28, 0, t_0, (t_1 + (8 * n))))))))))
set_option maxRecDepth 100000 in
set_option maxHeartbeats 400000 in
theorem bits_Taker_Bytes_v1_g (N : Nat) (t_0 : List UInt8) (t_1 : Int) (n : Int) (r : (List UInt8) × Int × (List UInt8) × Int) (hM : bits_Taker_Bytes_v1_m N t_0 t_1 n = some r) (ro : Addr → Option Value) (bt : Nat) (t_0v : Value) (St_0 : List Bl) (ht_0 : Sl 5 encY t_0v t_0 St_0) : Does Try.prog 23 #[Value.pointer (some ⟨bt, 0, none⟩), Value.int .i64 (n)] ro (List.flatten [[(bt, 81, #[t_0v, Value.int .i64 (t_1)])], St_0]) (pO (List.flatten [[(bt, 81, #[t_0v, Value.int .i64 (t_1)])], St_0]) (oS 5 encY r.1 fun s_0 => (oI 5 encY t_0v r.2.2.1 (oE (Value.tuple #[s_0, Value.int .i64 (r.2.1)]) [[(bt, 81, #[t_0v, Value.int .i64 (r.2.2.2)])]])))) := by
  unfold bits_Taker_Bytes_v1_m at hM
  refine doesO_of_A follows Try.func23 rfl 53 rfl (upd (upd (fun _ => undef) 1 (Value.int .i64 (n))) 0 (Value.pointer (some ⟨bt, 0, none⟩))) (by funext k; match k with | 0 => rfl | 1 => rfl | k + 2 => rfl) (fun _ _ h_ _ => h_) (fun base0_ => ?_)
  refine A_seq fun K1 hK1 => ?_
  refine A_reg ?_
  refine r_v (Value.slice none 0 0) rfl rfl rfl rfl ?_
  refine r_v (Value.int .i64 (0)) rfl rfl rfl rfl ?_
  refine lx_nil ?_
  refine hK1 _ _ ?_; try clear hK1 K1
  refine A_seq fun K2 hK2 => ?_
  refine A_seq fun K3 hK3 => ?_
  refine A_reg ?_
  refine r_v (Value.pointer (some ⟨bt, 0, none⟩)) rfl rfl rfl rfl ?_
  refine r_v (Value.bool (false)) rfl rfl rfl rfl ?_
  refine lx_nil ?_
  refine hK3 _ _ ?_; try clear hK3 K3
  refine A_cond false rfl (fun h_ => nomatch h_) (fun _ => ?_)
  refine A_skip ?_
  refine hK2 _ _ ?_; try clear hK2 K2
  refine A_seq fun K4 hK4 => ?_
  refine A_seq fun K5 hK5 => ?_
  refine A_reg ?_
  refine r_v (Value.pointer (some ⟨bt, 0, none⟩)) rfl rfl rfl rfl ?_
  refine r_v (Value.pointer (some ⟨bt, 0, none⟩)) rfl rfl rfl rfl ?_
  refine r_v (Value.pointer (some ⟨bt, 0, none⟩)) rfl rfl rfl rfl ?_
  refine r_v (Value.pointer (some ⟨bt, 1, none⟩)) rfl rfl rfl rfl ?_
  refine r_l (Value.int .i64 (t_1)) 0 _ _ _ _ rfl rfl rfl rfl rfl ?_
  replace hM := ck_some hM; obtain ⟨ck6, hM⟩ := hM
  refine r_v (Value.int .i64 ((t_1) % 8)) rfl rfl (rem_i64 ck6.1) rfl ?_
  refine r_v (Value.bool ((((t_1) % 8 : Int) != 0))) rfl rfl rfl rfl ?_
  refine lx_nil ?_
  refine hK5 _ _ ?_; try clear hK5 K5
  refine A_cond ((((t_1) % 8 : Int) != 0)) rfl (fun hc7 => ?_) (fun hc7 => ?_)
  · replace hM := ifp (bne_iff_ne.1 hc7) hM
    refine A_seq fun K8 hK8 => ?_
    refine A_reg ?_
    refine r_v (Value.slice none 0 0) rfl rfl rfl rfl ?_
    refine r_v (Value.int .i64 (13)) rfl rfl rfl rfl ?_
    refine lx_nil ?_
    refine hK8 _ _ ?_; try clear hK8 K8
    obtain rfl := Option.some.inj hM
    refine A_ret (fun hn => endsO (v0 := Value.tuple #[Value.slice none 0 0, Value.int .i64 (13)]) (O := [[], St_0, [(bt, 81, #[t_0v, Value.int .i64 (t_1)])]]) (res2 rfl rfl) (Sub.pickE (Ls := [[(bt, 81, #[t_0v, Value.int .i64 (t_1)])], St_0, []]) (Ls0 := [[(bt, 81, #[t_0v, Value.int .i64 (t_1)])], St_0]) rfl [2, 1, 0] rfl) ⟨Value.slice none 0 0, [], _, Sl.nil, ⟨St_0, _, ht_0, ⟨rfl, rfl⟩, rfl⟩, rfl⟩)
  · replace hM := ifn (bne_f hc7) hM
    refine A_skip ?_
    refine hK4 _ _ ?_; try clear hK4 K4
    refine A_seq fun K9 hK9 => ?_
    refine A_seq fun K10 hK10 => ?_
    refine A_reg ?_
    refine r_v (Value.int .i64 (n)) rfl rfl rfl rfl ?_
    refine r_v (Value.bool (decide ((n : Int) < 0))) rfl rfl rfl rfl ?_
    refine lx_nil ?_
    refine hK10 _ _ ?_; try clear hK10 K10
    refine A_cond (decide ((n : Int) < 0)) rfl (fun hc11 => ?_) (fun hc11 => ?_)
    · replace hM := ifp (of_decide_eq_true hc11) hM
      refine A_seq fun K12 hK12 => ?_
      refine A_reg ?_
      refine r_v (Value.slice none 0 0) rfl rfl rfl rfl ?_
      refine r_v (Value.int .i64 (7)) rfl rfl rfl rfl ?_
      refine lx_nil ?_
      refine hK12 _ _ ?_; try clear hK12 K12
      obtain rfl := Option.some.inj hM
      refine A_ret (fun hn => endsO (v0 := Value.tuple #[Value.slice none 0 0, Value.int .i64 (7)]) (O := [[], St_0, [(bt, 81, #[t_0v, Value.int .i64 (t_1)])]]) (res2 rfl rfl) (Sub.pickE (Ls := [[(bt, 81, #[t_0v, Value.int .i64 (t_1)])], St_0, []]) (Ls0 := [[(bt, 81, #[t_0v, Value.int .i64 (t_1)])], St_0]) rfl [2, 1, 0] rfl) ⟨Value.slice none 0 0, [], _, Sl.nil, ⟨St_0, _, ht_0, ⟨rfl, rfl⟩, rfl⟩, rfl⟩)
    · replace hM := ifn (of_decide_eq_false hc11) hM
      refine A_skip ?_
      refine hK9 _ _ ?_; try clear hK9 K9
      refine A_seq fun K13 hK13 => ?_
      refine A_seq fun K14 hK14 => ?_
      refine A_regC [(some 22, false)] (conG Try.prog [(22, fun v_ L_ U_ => ∀ u0_, bits_stock_left_v1_m N t_0 t_1 = some u0_ → (pV (Value.int .i64 (u0_))) v_ L_ U_)]) ?_
      refine r_v (Value.int .i64 (n)) rfl rfl rfl rfl ?_
      refine r_v (Value.pointer (some ⟨bt, 0, none⟩)) rfl rfl rfl rfl ?_
      refine r_v (Value.pointer (some ⟨bt, 0, none⟩)) rfl rfl rfl rfl ?_
      refine r_v (Value.pointer (some ⟨bt, 0, none⟩)) rfl rfl rfl rfl ?_
      replace hM := bind_sm hM; obtain ⟨r15, hr16, hM⟩ := hM
      refine r_gv (Value.int .i64 (r15)) 44 _ rfl rfl rfl (ev_callF rfl call_44 rfl) (fun own_ nw_ hs_ => bits_stock_left_v1_g N t_0 t_1 _ hr16 hs_.view bt t_0v ((rd_own ht_0 (mem_chunk (Ls := [[(bt, 81, #[t_0v, Value.int .i64 (t_1)])], St_0]) (k := 1) rfl rfl)) own_ nw_ hs_) (blk_own 0 rfl rfl own_ nw_ hs_)) (fun _ _ v_ L_ U_ => ⟨fun h_ => h_ _ hr16, fun h_ => by intro _ e_; cases Option.some.inj (e_.symm.trans hr16); exact h_⟩) ?_
      replace hM := ck_some hM; obtain ⟨ck17, hM⟩ := hM
      refine r_v (Value.int .i64 ((r15) / 8)) rfl rfl (quo_i64 ck17.1 (by decide) ck17.2) rfl ?_
      refine r_v (Value.bool (decide ((n : Int) > (r15) / 8))) rfl rfl rfl rfl ?_
      refine lx_nil ?_
      refine hK14 _ _ ?_; try clear hK14 K14
      refine A_cond (decide ((n : Int) > (r15) / 8)) rfl (fun hc18 => ?_) (fun hc18 => ?_)
      · replace hM := ifp (of_decide_eq_true hc18) hM
        refine A_seq fun K19 hK19 => ?_
        refine A_reg ?_
        refine r_v (Value.slice none 0 0) rfl rfl rfl rfl ?_
        refine r_v (Value.int .i64 (3)) rfl rfl rfl rfl ?_
        refine lx_nil ?_
        refine hK19 _ _ ?_; try clear hK19 K19
        obtain rfl := Option.some.inj hM
        refine A_ret (fun hn => endsO (v0 := Value.tuple #[Value.slice none 0 0, Value.int .i64 (3)]) (O := [[], St_0, [(bt, 81, #[t_0v, Value.int .i64 (t_1)])]]) (res2 rfl rfl) (Sub.pickE (Ls := [[(bt, 81, #[t_0v, Value.int .i64 (t_1)])], St_0, []]) (Ls0 := [[(bt, 81, #[t_0v, Value.int .i64 (t_1)])], St_0]) rfl [2, 1, 0] rfl) ⟨Value.slice none 0 0, [], _, Sl.nil, ⟨St_0, _, ht_0, ⟨rfl, rfl⟩, rfl⟩, rfl⟩)
      · replace hM := ifn (of_decide_eq_false hc18) hM
        refine A_skip ?_
        refine hK13 _ _ ?_; try clear hK13 K13
        refine A_seq fun K20 hK20 => ?_
        refine A_reg ?_
        refine r_v (Value.pointer (some ⟨bt, 0, none⟩)) rfl rfl rfl rfl ?_
        refine r_v (Value.pointer (some ⟨bt, 0, none⟩)) rfl rfl rfl rfl ?_
        refine r_v (Value.pointer (some ⟨bt, 0, none⟩)) rfl rfl rfl rfl ?_
        refine r_v (Value.pointer (some ⟨bt, 1, none⟩)) rfl rfl rfl rfl ?_
        refine r_l (Value.int .i64 (t_1)) 0 _ _ _ _ rfl rfl rfl rfl rfl ?_
        replace hM := ck_some hM; obtain ⟨ck21, hM⟩ := hM
        refine r_v (Value.int .i64 ((t_1) / 8)) rfl rfl (quo_i64 ck21.1 (by decide) ck21.2) rfl ?_
        refine r_v (Value.int .i64 ((t_1) / 8)) rfl rfl rfl rfl ?_
        refine lx_nil ?_
        refine hK20 _ _ ?_; try clear hK20 K20
        refine A_gen [(0, Value.pointer (some ⟨bt, 0, none⟩)), (1, Value.int .i64 (n)), (6, Value.int .i64 ((t_1) / 8))] rfl (fun T => ?_)
        refine A_seq fun K22 hK22 => ?_
        refine A_reg ?_
        refine r_v (Value.pointer (some ⟨bt, 0, none⟩)) rfl rfl rfl rfl ?_
        refine r_v (Value.pointer (some ⟨bt, 0, none⟩)) rfl rfl rfl rfl ?_
        refine r_v (Value.pointer (some ⟨bt, 0, none⟩)) rfl rfl rfl rfl ?_
        refine r_v (Value.pointer (some ⟨bt, 1, none⟩)) rfl rfl rfl rfl ?_
        refine r_l (Value.int .i64 (t_1)) 0 _ _ _ _ rfl rfl rfl rfl rfl ?_
        refine r_v (Value.int .i64 (n)) rfl rfl rfl rfl ?_
        replace hM := ck_some hM; obtain ⟨ck23, hM⟩ := hM
        refine r_v (Value.int .i64 ((8 * n))) rfl rfl (wi64 rfl ck23.1 ck23.2) rfl ?_
        replace hM := ck_some hM; obtain ⟨ck24, hM⟩ := hM
        refine r_v (Value.int .i64 ((t_1 + (8 * n)))) rfl rfl (wi64 rfl ck24.1 ck24.2) rfl ?_
        refine r_v (Value.pointer (some ⟨bt, 0, none⟩)) rfl rfl rfl rfl ?_
        refine r_v (Value.pointer (some ⟨bt, 0, none⟩)) rfl rfl rfl rfl ?_
        refine r_v (Value.pointer (some ⟨bt, 1, none⟩)) rfl rfl rfl rfl ?_
        refine r_s (List.flatten [[(bt, 81, #[t_0v, Value.int .i64 ((t_1 + (8 * n)))])], St_0]) 0 _ _ _ (#[t_0v, Value.int .i64 (t_1)]) (#[Value.int .i64 ((t_1 + (8 * n)))]) (#[t_0v, Value.int .i64 ((t_1 + (8 * n)))]) rfl rfl rfl rfl (.of rfl rfl) rfl rfl ?_
        refine lx_nil ?_
        refine hK22 _ _ ?_; try clear hK22 K22
        refine A_seq fun K25 hK25 => ?_
        refine A_regC [(some 52, false)] (conG Try.prog [(52, fun v_ L_ U_ => ∀ u0_, bits_fresh_m N (((t_0).take ((((t_1) / 8 + n)).toNat)).drop (((t_1) / 8).toNat)) = some u0_ → (p1 (fun s_ => s_) 5 encY (u0_)) v_ L_ U_)]) ?_
        refine r_v (Value.pointer (some ⟨bt, 0, none⟩)) rfl rfl rfl rfl ?_
        refine r_v (Value.pointer (some ⟨bt, 0, none⟩)) rfl rfl rfl rfl ?_
        refine r_v (Value.pointer (some ⟨bt, 0, none⟩)) rfl rfl rfl rfl ?_
        refine r_v (Value.pointer (some ⟨bt, 0, none⟩)) rfl rfl rfl rfl ?_
        refine r_l (t_0v) 0 _ _ _ _ rfl rfl rfl rfl rfl ?_
        refine r_v (Value.int .i64 ((t_1) / 8)) rfl rfl rfl rfl ?_
        refine r_v (Value.int .i64 ((t_1) / 8)) rfl rfl rfl rfl ?_
        refine r_v (Value.int .i64 (n)) rfl rfl rfl rfl ?_
        replace hM := ck_some hM; obtain ⟨ck26, hM⟩ := hM
        refine r_v (Value.int .i64 (((t_1) / 8 + n))) rfl rfl (wi64 rfl ck26.1 ck26.2) rfl ?_
        replace hM := ck_some hM; obtain ⟨ck27, hM⟩ := hM
        refine r_v (subA t_0v (((t_1) / 8).toNat) ((((t_1) / 8 + n)).toNat) 1) rfl rfl rfl (ev_v (ev_subSl rfl rfl rfl rfl rfl (Sl.shp ht_0) ck27)) ?_
        replace hM := bind_sm hM; obtain ⟨r28, hr29, hM⟩ := hM
        refine r_g1 (Ls := [[(bt, 81, #[t_0v, Value.int .i64 ((t_1 + (8 * n)))])], St_0]) (fun s30 => s30) 5 encY (r28) 38 _ rfl rfl rfl (ev_callF rfl call_38 rfl) (fun own_ nw_ hs_ => bits_fresh_g N (((t_0).take ((((t_1) / 8 + n)).toNat)).drop (((t_1) / 8).toNat)) _ hr29 hs_.view (subA t_0v (((t_1) / 8).toNat) ((((t_1) / 8 + n)).toNat) 1) ((rd_sub (rd_own ht_0 (mem_chunk (Ls := [[(bt, 81, #[t_0v, Value.int .i64 ((t_1 + (8 * n)))])], St_0]) (k := 1) rfl rfl)) (toNat_le ck27) (toNat_len ck27.2.2)) own_ nw_ hs_)) (fun _ _ v_ L_ U_ => ⟨fun h_ => h_ _ hr29, fun h_ => by intro _ e_; cases Option.some.inj (e_.symm.trans hr29); exact h_⟩) (fun s30 S31 H32 => ?_)
        refine r_v (s30) rfl rfl rfl rfl ?_
        refine r_v (Value.int .i64 (0)) rfl rfl rfl rfl ?_
        refine lx_nil ?_
        refine hK25 _ _ ?_; try clear hK25 K25
        obtain rfl := Option.some.inj hM
        refine A_ret (fun hn => endsO (v0 := Value.tuple #[s30, Value.int .i64 (0)]) (O := [S31, St_0, [(bt, 81, #[t_0v, Value.int .i64 ((t_1 + (8 * n)))])]]) (res2 rfl rfl) (Sub.pick [[(bt, 81, #[t_0v, Value.int .i64 ((t_1 + (8 * n)))])], St_0, S31] [2, 1, 0] rfl) ⟨s30, S31, _, H32, ⟨St_0, _, ht_0, ⟨rfl, rfl⟩, rfl⟩, rfl⟩)
def bits_Taker_Look_v1_m (N : Nat) (t_0 : List UInt8) (t_1 : Int) (ahead : Int) (w : Int) : Option (Int × (BitVec 128) × Int) := (bits_mayWidth_m N w).bind fun r7 => if (r7) = true then if (ahead : Int) < 0 then some (0, (0#64) ++ (0#64), 7) else (bits_stock_left_v1_m N t_0 t_1).bind fun r17 => ck ((-9223372036854775808 ≤ (r17 - w) ∧ (r17 - w) ≤ 9223372036854775807)) (if (ahead : Int) > (r17 - w) then some (0, (0#64) ++ (0#64), 3) else ck ((-9223372036854775808 ≤ (t_1 + ahead) ∧ (t_1 + ahead) ≤ 9223372036854775807)) ((bits_Get_m N t_0 (t_1 + ahead) w).bind fun r24 => some (r24.1, r24.2.1, r24.2.2))) else some (0, (0#64) ++ (0#64), 9)
set_option maxRecDepth 100000 in
set_option maxHeartbeats 400000 in
theorem bits_Taker_Look_v1_g (N : Nat) (t_0 : List UInt8) (t_1 : Int) (ahead : Int) (w : Int) (r : Int × (BitVec 128) × Int) (hM : bits_Taker_Look_v1_m N t_0 t_1 ahead w = some r) (ro : Addr → Option Value) (bt : Nat) (t_0v : Value) (ht_0 : Rd encY ro t_0v t_0) (hbt : Blk ro bt [t_0v, Value.int .i64 (t_1)]) : Does Try.prog 24 #[Value.pointer (some ⟨bt, 0, none⟩), Value.int .i64 (ahead), Value.int .i64 (w)] ro [] (pV (Value.tuple #[Value.agg #[Value.int .i64 (r.1), U (hi (r.2.1)), U (lo (r.2.1))], Value.int .i64 (r.2.2)])) := by
  unfold bits_Taker_Look_v1_m at hM
  refine does_of_A follows Try.func24 rfl 43 rfl (upd (upd (upd (fun _ => undef) 2 (Value.int .i64 (w))) 1 (Value.int .i64 (ahead))) 0 (Value.pointer (some ⟨bt, 0, none⟩))) (by funext k; match k with | 0 => rfl | 1 => rfl | 2 => rfl | k + 3 => rfl) (fun base0_ => ?_)
  refine A_seq fun K1 hK1 => ?_
  refine A_reg ?_
  refine r_a (26, #[Value.int .i64 (0), U (0#64), U (0#64)]) rfl rfl rfl (fun b2 => ?_) (.inr rfl)
  refine r_v (Value.int .i64 (0)) rfl rfl rfl rfl ?_
  refine lx_nil ?_
  refine hK1 _ _ ?_; try clear hK1 K1
  refine A_seq fun K3 hK3 => ?_
  refine A_seq fun K4 hK4 => ?_
  refine A_reg ?_
  refine r_v (Value.pointer (some ⟨bt, 0, none⟩)) rfl rfl rfl rfl ?_
  refine r_v (Value.bool (false)) rfl rfl rfl rfl ?_
  refine lx_nil ?_
  refine hK4 _ _ ?_; try clear hK4 K4
  refine A_cond false rfl (fun h_ => nomatch h_) (fun _ => ?_)
  refine A_skip ?_
  refine hK3 _ _ ?_; try clear hK3 K3
  refine A_seq fun K5 hK5 => ?_
  refine A_seq fun K6 hK6 => ?_
  refine A_reg ?_
  refine r_v (Value.int .i64 (w)) rfl rfl rfl rfl ?_
  replace hM := bind_sm hM; obtain ⟨r7, hr8, hM⟩ := hM
  refine r_c (Value.bool (r7)) rfl _ _ (ev_callF rfl call_29 rfl) (bits_mayWidth_g N w _ hr8) ?_
  refine r_v (Value.bool (!(r7))) rfl rfl rfl rfl ?_
  refine lx_nil ?_
  refine hK6 _ _ ?_; try clear hK6 K6
  refine A_cond (!(r7)) rfl (fun hc9 => ?_) (fun hc9 => ?_)
  · replace hM := ifn (Bool.eq_false_iff.1 (not_t hc9)) hM
    refine A_seq fun K10 hK10 => ?_
    refine A_reg ?_
    refine r_v (Value.agg #[Value.int .i64 (0), U (0#64), U (0#64)]) rfl rfl rfl (ev_buildS rfl rfl rfl rfl) ?_
    refine r_s [(b2, 26, #[Value.int .i64 (0), U (0#64), U (0#64)])] 0 _ _ _ (#[Value.int .i64 (0), U (0#64), U (0#64)]) (#[Value.int .i64 (0), U (0#64), U (0#64)]) (#[Value.int .i64 (0), U (0#64), U (0#64)]) rfl rfl rfl rfl (.of rfl rfl) rfl rfl ?_
    refine r_v (Value.int .i64 (9)) rfl rfl rfl rfl ?_
    refine lx_nil ?_
    refine hK10 _ _ ?_; try clear hK10 K10
    obtain rfl := Option.some.inj hM
    refine A_ret (fun hn => endsV (v0 := Value.tuple #[Value.agg #[Value.int .i64 (0), U (0#64), U (0#64)], Value.int .i64 (9)]) (by first | rfl | simp only [app_hl]) (res2 (res_cell hn 0 rfl rfl rfl) rfl))
  · replace hM := ifp (not_f hc9) hM
    refine A_skip ?_
    refine hK5 _ _ ?_; try clear hK5 K5
    refine A_seq fun K11 hK11 => ?_
    refine A_seq fun K12 hK12 => ?_
    refine A_reg ?_
    refine r_v (Value.int .i64 (ahead)) rfl rfl rfl rfl ?_
    refine r_v (Value.bool (decide ((ahead : Int) < 0))) rfl rfl rfl rfl ?_
    refine lx_nil ?_
    refine hK12 _ _ ?_; try clear hK12 K12
    refine A_cond (decide ((ahead : Int) < 0)) rfl (fun hc13 => ?_) (fun hc13 => ?_)
    · replace hM := ifp (of_decide_eq_true hc13) hM
      refine A_seq fun K14 hK14 => ?_
      refine A_reg ?_
      refine r_v (Value.agg #[Value.int .i64 (0), U (0#64), U (0#64)]) rfl rfl rfl (ev_buildS rfl rfl rfl rfl) ?_
      refine r_s [(b2, 26, #[Value.int .i64 (0), U (0#64), U (0#64)])] 0 _ _ _ (#[Value.int .i64 (0), U (0#64), U (0#64)]) (#[Value.int .i64 (0), U (0#64), U (0#64)]) (#[Value.int .i64 (0), U (0#64), U (0#64)]) rfl rfl rfl rfl (.of rfl rfl) rfl rfl ?_
      refine r_v (Value.int .i64 (7)) rfl rfl rfl rfl ?_
      refine lx_nil ?_
      refine hK14 _ _ ?_; try clear hK14 K14
      obtain rfl := Option.some.inj hM
      refine A_ret (fun hn => endsV (v0 := Value.tuple #[Value.agg #[Value.int .i64 (0), U (0#64), U (0#64)], Value.int .i64 (7)]) (by first | rfl | simp only [app_hl]) (res2 (res_cell hn 0 rfl rfl rfl) rfl))
    · replace hM := ifn (of_decide_eq_false hc13) hM
      refine A_skip ?_
      refine hK11 _ _ ?_; try clear hK11 K11
      refine A_seq fun K15 hK15 => ?_
      refine A_seq fun K16 hK16 => ?_
      refine A_regC [(some 22, false)] (conG Try.prog [(22, fun v_ L_ U_ => ∀ u0_, bits_stock_left_v1_m N t_0 t_1 = some u0_ → (pV (Value.int .i64 (u0_))) v_ L_ U_)]) ?_
      refine r_v (Value.int .i64 (ahead)) rfl rfl rfl rfl ?_
      refine r_v (Value.pointer (some ⟨bt, 0, none⟩)) rfl rfl rfl rfl ?_
      refine r_v (Value.pointer (some ⟨bt, 0, none⟩)) rfl rfl rfl rfl ?_
      refine r_v (Value.pointer (some ⟨bt, 0, none⟩)) rfl rfl rfl rfl ?_
      replace hM := bind_sm hM; obtain ⟨r17, hr18, hM⟩ := hM
      refine r_gv (Value.int .i64 (r17)) 44 _ rfl rfl rfl (ev_callF rfl call_44 rfl) (fun own_ nw_ hs_ => bits_stock_left_v1_g N t_0 t_1 _ hr18 hs_.view bt t_0v ((rd_ro ht_0) own_ nw_ hs_) (blk_ro hbt own_ nw_ hs_)) (fun _ _ v_ L_ U_ => ⟨fun h_ => h_ _ hr18, fun h_ => by intro _ e_; cases Option.some.inj (e_.symm.trans hr18); exact h_⟩) ?_
      refine r_v (Value.int .i64 (w)) rfl rfl rfl rfl ?_
      replace hM := ck_some hM; obtain ⟨ck19, hM⟩ := hM
      refine r_v (Value.int .i64 ((r17 - w))) rfl rfl (wi64 rfl ck19.1 ck19.2) rfl ?_
      refine r_v (Value.bool (decide ((ahead : Int) > (r17 - w)))) rfl rfl rfl rfl ?_
      refine lx_nil ?_
      refine hK16 _ _ ?_; try clear hK16 K16
      refine A_cond (decide ((ahead : Int) > (r17 - w))) rfl (fun hc20 => ?_) (fun hc20 => ?_)
      · replace hM := ifp (of_decide_eq_true hc20) hM
        refine A_seq fun K21 hK21 => ?_
        refine A_reg ?_
        refine r_v (Value.agg #[Value.int .i64 (0), U (0#64), U (0#64)]) rfl rfl rfl (ev_buildS rfl rfl rfl rfl) ?_
        refine r_s [(b2, 26, #[Value.int .i64 (0), U (0#64), U (0#64)])] 0 _ _ _ (#[Value.int .i64 (0), U (0#64), U (0#64)]) (#[Value.int .i64 (0), U (0#64), U (0#64)]) (#[Value.int .i64 (0), U (0#64), U (0#64)]) rfl rfl rfl rfl (.of rfl rfl) rfl rfl ?_
        refine r_v (Value.int .i64 (3)) rfl rfl rfl rfl ?_
        refine lx_nil ?_
        refine hK21 _ _ ?_; try clear hK21 K21
        obtain rfl := Option.some.inj hM
        refine A_ret (fun hn => endsV (v0 := Value.tuple #[Value.agg #[Value.int .i64 (0), U (0#64), U (0#64)], Value.int .i64 (3)]) (by first | rfl | simp only [app_hl]) (res2 (res_cell hn 0 rfl rfl rfl) rfl))
      · replace hM := ifn (of_decide_eq_false hc20) hM
        refine A_skip ?_
        refine hK15 _ _ ?_; try clear hK15 K15
        refine A_seq fun K22 hK22 => ?_
        refine A_drawR [(some 40, false)] (conG Try.prog [(40, fun v_ L_ U_ => ∀ u0_, bits_Get_m N t_0 (t_1 + ahead) w = some u0_ → (pV (Value.tuple #[Value.agg #[Value.int .i64 (u0_.1), U (hi (u0_.2.1)), U (lo (u0_.2.1))], Value.int .i64 (u0_.2.2)])) v_ L_ U_)]) [] (by decide +kernel) (fun hn => sep_nil) ?_
        refine r_v (Value.pointer (some ⟨bt, 0, none⟩)) rfl rfl rfl rfl ?_
        refine r_v (Value.pointer (some ⟨bt, 0, none⟩)) rfl rfl rfl rfl ?_
        refine r_v (Value.pointer (some ⟨bt, 0, none⟩)) rfl rfl rfl rfl ?_
        refine r_v (Value.pointer (some ⟨bt, 0, none⟩)) rfl rfl rfl rfl ?_
        refine r_lb (t_0v) (vs := [t_0v, Value.int .i64 (t_1)]) (o := 0) rfl rfl (blk_ro hbt) rfl ?_
        refine r_v (Value.pointer (some ⟨bt, 0, none⟩)) rfl rfl rfl rfl ?_
        refine r_v (Value.pointer (some ⟨bt, 0, none⟩)) rfl rfl rfl rfl ?_
        refine r_v (Value.pointer (some ⟨bt, 0, none⟩)) rfl rfl rfl rfl ?_
        refine r_v (Value.pointer (some ⟨bt, 1, none⟩)) rfl rfl rfl rfl ?_
        refine r_lb (Value.int .i64 (t_1)) (vs := [t_0v, Value.int .i64 (t_1)]) (o := 1) rfl rfl (blk_ro hbt) rfl ?_
        refine r_v (Value.int .i64 (ahead)) rfl rfl rfl rfl ?_
        replace hM := ck_some hM; obtain ⟨ck23, hM⟩ := hM
        refine r_v (Value.int .i64 ((t_1 + ahead))) rfl rfl (wi64 rfl ck23.1 ck23.2) rfl ?_
        refine r_v (Value.int .i64 (w)) rfl rfl rfl rfl ?_
        replace hM := bind_sm hM; obtain ⟨r24, hr25, hM⟩ := hM
        refine r_gv (Value.tuple #[Value.agg #[Value.int .i64 (r24.1), U (hi (r24.2.1)), U (lo (r24.2.1))], Value.int .i64 (r24.2.2)]) 10 _ rfl rfl rfl (ev_callF rfl call_10 rfl) (fun own_ nw_ hs_ => bits_Get_g N t_0 (t_1 + ahead) w _ hr25 hs_.view t_0v ((rd_ro ht_0) own_ nw_ hs_)) (fun _ _ v_ L_ U_ => ⟨fun h_ => h_ _ hr25, fun h_ => by intro _ e_; cases Option.some.inj (e_.symm.trans hr25); exact h_⟩) ?_
        refine r_v (Value.agg #[Value.int .i64 (r24.1), U (hi (r24.2.1)), U (lo (r24.2.1))]) rfl rfl rfl rfl ?_
        refine r_v (Value.int .i64 (r24.2.2)) rfl rfl rfl rfl ?_
        refine r_s [(b2, 26, #[Value.int .i64 (r24.1), U (hi (r24.2.1)), U (lo (r24.2.1))])] 0 _ _ _ (#[Value.int .i64 (0), U (0#64), U (0#64)]) (#[Value.int .i64 (r24.1), U (hi (r24.2.1)), U (lo (r24.2.1))]) (#[Value.int .i64 (r24.1), U (hi (r24.2.1)), U (lo (r24.2.1))]) rfl rfl rfl rfl (.of rfl rfl) rfl rfl ?_
        refine r_v (Value.int .i64 (r24.2.2)) rfl rfl rfl rfl ?_
        refine lx_nil ?_
        refine hK22 _ _ ?_; try clear hK22 K22
        refine A_gen [(6, Value.pointer (some ⟨b2, 0, none⟩)), (7, Value.int .i64 (r24.2.2))] rfl (fun T => ?_)
        obtain rfl := Option.some.inj hM
        refine A_ret (fun hn => endsV (v0 := Value.tuple #[Value.agg #[Value.int .i64 (r24.1), U (hi (r24.2.1)), U (lo (r24.2.1))], Value.int .i64 (r24.2.2)]) rfl (res2 (res_cell hn 0 rfl rfl rfl) rfl))
def bits_Taker_Vec_v1_m (N : Nat) (t_0 : List UInt8) (t_1 : Int) (w : Int) : Option (Int × (BitVec 128) × Int × (List UInt8) × Int) := (bits_Taker_Look_v1_m N t_0 t_1 0 w).bind fun r4 => if (r4.2.2 : Int) ≠ 0 then some (0, (0#64) ++ (0#64), r4.2.2, t_0, t_1) else ck ((-9223372036854775808 ≤ (t_1 + w) ∧ (t_1 + w) ≤ 9223372036854775807)) (some (r4.1, r4.2.1, 0, t_0, (t_1 + w)))
set_option maxRecDepth 100000 in
set_option maxHeartbeats 400000 in
theorem bits_Taker_Vec_v1_g (N : Nat) (t_0 : List UInt8) (t_1 : Int) (w : Int) (r : Int × (BitVec 128) × Int × (List UInt8) × Int) (hM : bits_Taker_Vec_v1_m N t_0 t_1 w = some r) (ro : Addr → Option Value) (bt : Nat) (t_0v : Value) (St_0 : List Bl) (ht_0 : Sl 5 encY t_0v t_0 St_0) : Does Try.prog 26 #[Value.pointer (some ⟨bt, 0, none⟩), Value.int .i64 (w)] ro (List.flatten [[(bt, 81, #[t_0v, Value.int .i64 (t_1)])], St_0]) (pO (List.flatten [[(bt, 81, #[t_0v, Value.int .i64 (t_1)])], St_0]) (oI 5 encY t_0v r.2.2.2.1 (oE (Value.tuple #[Value.agg #[Value.int .i64 (r.1), U (hi (r.2.1)), U (lo (r.2.1))], Value.int .i64 (r.2.2.1)]) [[(bt, 81, #[t_0v, Value.int .i64 (r.2.2.2.2)])]]))) := by
  unfold bits_Taker_Vec_v1_m at hM
  refine doesO_of_A follows Try.func26 rfl 29 rfl (upd (upd (fun _ => undef) 1 (Value.int .i64 (w))) 0 (Value.pointer (some ⟨bt, 0, none⟩))) (by funext k; match k with | 0 => rfl | 1 => rfl | k + 2 => rfl) (fun _ _ h_ _ => h_) (fun base0_ => ?_)
  refine A_seq fun K1 hK1 => ?_
  refine A_reg ?_
  refine r_a (26, #[Value.int .i64 (0), U (0#64), U (0#64)]) rfl rfl rfl (fun b2 => ?_) (.inr rfl)
  refine r_v (Value.int .i64 (0)) rfl rfl rfl rfl ?_
  refine lx_nil ?_
  refine hK1 _ _ ?_; try clear hK1 K1
  refine A_seq fun K3 hK3 => ?_
  refine A_regC [(some 11, false)] (conG Try.prog [(11, fun v_ L_ U_ => ∀ u0_, bits_Taker_Look_v1_m N t_0 t_1 0 w = some u0_ → (pV (Value.tuple #[Value.agg #[Value.int .i64 (u0_.1), U (hi (u0_.2.1)), U (lo (u0_.2.1))], Value.int .i64 (u0_.2.2)])) v_ L_ U_)]) ?_
  refine r_v (Value.pointer (some ⟨bt, 0, none⟩)) rfl rfl rfl rfl ?_
  refine r_v (Value.int .i64 (w)) rfl rfl rfl rfl ?_
  replace hM := bind_sm hM; obtain ⟨r4, hr5, hM⟩ := hM
  refine r_gv (Value.tuple #[Value.agg #[Value.int .i64 (r4.1), U (hi (r4.2.1)), U (lo (r4.2.1))], Value.int .i64 (r4.2.2)]) 24 _ rfl rfl rfl (ev_callF rfl call_24 rfl) (fun own_ nw_ hs_ => bits_Taker_Look_v1_g N t_0 t_1 0 w _ hr5 hs_.view bt t_0v ((rd_own ht_0 (mem_chunk (Ls := [[(b2, 26, #[Value.int .i64 (0), U (0#64), U (0#64)])], [(bt, 81, #[t_0v, Value.int .i64 (t_1)])], St_0]) (k := 2) rfl rfl)) own_ nw_ hs_) (blk_own 1 rfl rfl own_ nw_ hs_)) (fun _ _ v_ L_ U_ => ⟨fun h_ => h_ _ hr5, fun h_ => by intro _ e_; cases Option.some.inj (e_.symm.trans hr5); exact h_⟩) ?_
  refine r_v (Value.tuple #[Value.agg #[Value.int .i64 (r4.1), U (hi (r4.2.1)), U (lo (r4.2.1))], Value.int .i64 (r4.2.2)]) rfl rfl rfl rfl ?_
  refine r_v (Value.agg #[Value.int .i64 (r4.1), U (hi (r4.2.1)), U (lo (r4.2.1))]) rfl rfl rfl rfl ?_
  refine r_v (Value.int .i64 (r4.2.2)) rfl rfl rfl rfl ?_
  refine r_a (26, #[Value.int .i64 (0), U (0#64), U (0#64)]) rfl rfl rfl (fun b6 => ?_) (.inr rfl)
  refine r_s (List.flatten [[(b6, 26, #[Value.int .i64 (r4.1), U (hi (r4.2.1)), U (lo (r4.2.1))])], [(b2, 26, #[Value.int .i64 (0), U (0#64), U (0#64)])], [(bt, 81, #[t_0v, Value.int .i64 (t_1)])], St_0]) 0 _ _ _ (#[Value.int .i64 (0), U (0#64), U (0#64)]) (#[Value.int .i64 (r4.1), U (hi (r4.2.1)), U (lo (r4.2.1))]) (#[Value.int .i64 (r4.1), U (hi (r4.2.1)), U (lo (r4.2.1))]) rfl rfl rfl rfl (.of rfl rfl) rfl rfl ?_
  refine r_v (Value.int .i64 (r4.2.2)) rfl rfl rfl rfl ?_
  refine lx_nil ?_
  refine hK3 _ _ ?_; try clear hK3 K3
  refine A_seq fun K7 hK7 => ?_
  refine A_seq fun K8 hK8 => ?_
  refine A_reg ?_
  refine r_v (Value.int .i64 (r4.2.2)) rfl rfl rfl rfl ?_
  refine r_v (Value.bool (((r4.2.2 : Int) != 0))) rfl rfl rfl rfl ?_
  refine lx_nil ?_
  refine hK8 _ _ ?_; try clear hK8 K8
  refine A_cond (((r4.2.2 : Int) != 0)) rfl (fun hc9 => ?_) (fun hc9 => ?_)
  · replace hM := ifp (bne_iff_ne.1 hc9) hM
    refine A_seq fun K10 hK10 => ?_
    refine A_reg ?_
    refine r_v (Value.agg #[Value.int .i64 (0), U (0#64), U (0#64)]) rfl rfl rfl (ev_buildS rfl rfl rfl rfl) ?_
    refine r_v (Value.int .i64 (r4.2.2)) rfl rfl rfl rfl ?_
    refine r_s (List.flatten [[(b6, 26, #[Value.int .i64 (r4.1), U (hi (r4.2.1)), U (lo (r4.2.1))])], [(b2, 26, #[Value.int .i64 (0), U (0#64), U (0#64)])], [(bt, 81, #[t_0v, Value.int .i64 (t_1)])], St_0]) 1 _ _ _ (#[Value.int .i64 (0), U (0#64), U (0#64)]) (#[Value.int .i64 (0), U (0#64), U (0#64)]) (#[Value.int .i64 (0), U (0#64), U (0#64)]) rfl rfl rfl rfl (.of rfl rfl) rfl rfl ?_
    refine r_v (Value.int .i64 (r4.2.2)) rfl rfl rfl rfl ?_
    refine lx_nil ?_
    refine hK10 _ _ ?_; try clear hK10 K10
    obtain rfl := Option.some.inj hM
    refine A_ret (fun hn => endsO (v0 := Value.tuple #[Value.agg #[Value.int .i64 (0), U (0#64), U (0#64)], Value.int .i64 (r4.2.2)]) (O := [St_0, [(bt, 81, #[t_0v, Value.int .i64 (t_1)])]]) (by first | exact (res2 (res_cell hn 1 rfl rfl rfl) rfl) | (simp only [app_hl]; exact (res2 (res_cell hn 1 rfl rfl rfl) rfl))) (Sub.pick [[(b6, 26, #[Value.int .i64 (r4.1), U (hi (r4.2.1)), U (lo (r4.2.1))])], [(b2, 26, #[Value.int .i64 (0), U (0#64), U (0#64)])], [(bt, 81, #[t_0v, Value.int .i64 (t_1)])], St_0] [3, 2] rfl) (by first | exact ⟨St_0, _, ht_0, ⟨rfl, rfl⟩, rfl⟩ | (simp only [app_hl]; exact ⟨St_0, _, ht_0, ⟨rfl, rfl⟩, rfl⟩)))
  · replace hM := ifn (bne_f hc9) hM
    refine A_skip ?_
    refine hK7 _ _ ?_; try clear hK7 K7
    refine A_seq fun K11 hK11 => ?_
    refine A_reg ?_
    refine r_v (Value.pointer (some ⟨bt, 0, none⟩)) rfl rfl rfl rfl ?_
    refine r_v (Value.pointer (some ⟨bt, 0, none⟩)) rfl rfl rfl rfl ?_
    refine r_v (Value.pointer (some ⟨bt, 0, none⟩)) rfl rfl rfl rfl ?_
    refine r_v (Value.pointer (some ⟨bt, 1, none⟩)) rfl rfl rfl rfl ?_
    refine r_l (Value.int .i64 (t_1)) 2 _ _ _ _ rfl rfl rfl rfl rfl ?_
    refine r_v (Value.int .i64 (w)) rfl rfl rfl rfl ?_
    replace hM := ck_some hM; obtain ⟨ck12, hM⟩ := hM
    refine r_v (Value.int .i64 ((t_1 + w))) rfl rfl (wi64 rfl ck12.1 ck12.2) rfl ?_
    refine r_v (Value.pointer (some ⟨bt, 0, none⟩)) rfl rfl rfl rfl ?_
    refine r_v (Value.pointer (some ⟨bt, 0, none⟩)) rfl rfl rfl rfl ?_
    refine r_v (Value.pointer (some ⟨bt, 1, none⟩)) rfl rfl rfl rfl ?_
    refine r_s (List.flatten [[(b6, 26, #[Value.int .i64 (r4.1), U (hi (r4.2.1)), U (lo (r4.2.1))])], [(b2, 26, #[Value.int .i64 (0), U (0#64), U (0#64)])], [(bt, 81, #[t_0v, Value.int .i64 ((t_1 + w))])], St_0]) 2 _ _ _ (#[t_0v, Value.int .i64 (t_1)]) (#[Value.int .i64 ((t_1 + w))]) (#[t_0v, Value.int .i64 ((t_1 + w))]) rfl rfl rfl rfl (.of rfl rfl) rfl rfl ?_
    refine lx_nil ?_
    refine hK11 _ _ ?_; try clear hK11 K11
    refine A_seq fun K13 hK13 => ?_
    refine A_reg ?_
    refine r_l (Value.agg #[Value.int .i64 (r4.1), U (hi (r4.2.1)), U (lo (r4.2.1))]) 0 _ _ _ _ rfl rfl rfl rfl rfl ?_
    refine r_s (List.flatten [[(b6, 26, #[Value.int .i64 (r4.1), U (hi (r4.2.1)), U (lo (r4.2.1))])], [(b2, 26, #[Value.int .i64 (r4.1), U (hi (r4.2.1)), U (lo (r4.2.1))])], [(bt, 81, #[t_0v, Value.int .i64 ((t_1 + w))])], St_0]) 1 _ _ _ (#[Value.int .i64 (0), U (0#64), U (0#64)]) (#[Value.int .i64 (r4.1), U (hi (r4.2.1)), U (lo (r4.2.1))]) (#[Value.int .i64 (r4.1), U (hi (r4.2.1)), U (lo (r4.2.1))]) rfl rfl rfl rfl (.of rfl rfl) rfl rfl ?_
    refine r_v (Value.int .i64 (0)) rfl rfl rfl rfl ?_
    refine lx_nil ?_
    refine hK13 _ _ ?_; try clear hK13 K13
    obtain rfl := Option.some.inj hM
    refine A_ret (fun hn => endsO (v0 := Value.tuple #[Value.agg #[Value.int .i64 (r4.1), U (hi (r4.2.1)), U (lo (r4.2.1))], Value.int .i64 (0)]) (O := [St_0, [(bt, 81, #[t_0v, Value.int .i64 ((t_1 + w))])]]) (res2 (res_cell hn 1 rfl rfl rfl) rfl) (Sub.pick [[(b6, 26, #[Value.int .i64 (r4.1), U (hi (r4.2.1)), U (lo (r4.2.1))])], [(b2, 26, #[Value.int .i64 (r4.1), U (hi (r4.2.1)), U (lo (r4.2.1))])], [(bt, 81, #[t_0v, Value.int .i64 ((t_1 + w))])], St_0] [3, 2] rfl) ⟨St_0, _, ht_0, ⟨rfl, rfl⟩, rfl⟩)
def bits_Taker_At_v1_m (_ : Nat) (_ : List UInt8) (t_1 : Int) : Option (Int) := some (t_1)
set_option maxRecDepth 100000 in
set_option maxHeartbeats 400000 in
theorem bits_Taker_At_v1_g (N : Nat) (t_0 : List UInt8) (t_1 : Int) (r : Int) (hM : bits_Taker_At_v1_m N t_0 t_1 = some r) (ro : Addr → Option Value) (bt : Nat) (t_0v : Value) (_ht_0 : Rd encY ro t_0v t_0) (hbt : Blk ro bt [t_0v, Value.int .i64 (t_1)]) : Does Try.prog 27 #[Value.pointer (some ⟨bt, 0, none⟩)] ro [] (pV (Value.int .i64 (r))) := by
  unfold bits_Taker_At_v1_m at hM
  refine does_of_A follows Try.func27 rfl 10 rfl (upd (fun _ => undef) 0 (Value.pointer (some ⟨bt, 0, none⟩))) (by funext k; match k with | 0 => rfl | k + 1 => rfl) (fun base0_ => ?_)
  refine A_seq fun K1 hK1 => ?_
  refine A_reg ?_
  refine r_v (Value.int .i64 (0)) rfl rfl rfl rfl ?_
  refine lx_nil ?_
  refine hK1 _ _ ?_; try clear hK1 K1
  refine A_seq fun K2 hK2 => ?_
  refine A_seq fun K3 hK3 => ?_
  refine A_reg ?_
  refine r_v (Value.pointer (some ⟨bt, 0, none⟩)) rfl rfl rfl rfl ?_
  refine r_v (Value.bool (false)) rfl rfl rfl rfl ?_
  refine lx_nil ?_
  refine hK3 _ _ ?_; try clear hK3 K3
  refine A_cond false rfl (fun h_ => nomatch h_) (fun _ => ?_)
  refine A_skip ?_
  refine hK2 _ _ ?_; try clear hK2 K2
  refine A_seq fun K4 hK4 => ?_
  refine A_reg ?_
  refine r_v (Value.pointer (some ⟨bt, 0, none⟩)) rfl rfl rfl rfl ?_
  refine r_v (Value.pointer (some ⟨bt, 0, none⟩)) rfl rfl rfl rfl ?_
  refine r_v (Value.pointer (some ⟨bt, 0, none⟩)) rfl rfl rfl rfl ?_
  refine r_v (Value.pointer (some ⟨bt, 1, none⟩)) rfl rfl rfl rfl ?_
  refine r_lb (Value.int .i64 (t_1)) (vs := [t_0v, Value.int .i64 (t_1)]) (o := 1) rfl rfl (blk_ro hbt) rfl ?_
  refine r_v (Value.int .i64 (t_1)) rfl rfl rfl rfl ?_
  refine lx_nil ?_
  refine hK4 _ _ ?_; try clear hK4 K4
  obtain rfl := Option.some.inj hM
  refine A_ret (fun hn => endsV (v0 := Value.int .i64 (t_1)) rfl (res1 rfl))
def bits_Taker_Left_v1_m (N : Nat) (t_0 : List UInt8) (t_1 : Int) : Option (Int) := (bits_stock_left_v1_m N t_0 t_1).bind fun r5 => some (r5)
set_option maxRecDepth 100000 in
set_option maxHeartbeats 400000 in
theorem bits_Taker_Left_v1_g (N : Nat) (t_0 : List UInt8) (t_1 : Int) (r : Int) (hM : bits_Taker_Left_v1_m N t_0 t_1 = some r) (ro : Addr → Option Value) (bt : Nat) (t_0v : Value) (ht_0 : Rd encY ro t_0v t_0) (hbt : Blk ro bt [t_0v, Value.int .i64 (t_1)]) : Does Try.prog 28 #[Value.pointer (some ⟨bt, 0, none⟩)] ro [] (pV (Value.int .i64 (r))) := by
  unfold bits_Taker_Left_v1_m at hM
  refine does_of_A follows Try.func28 rfl 9 rfl (upd (fun _ => undef) 0 (Value.pointer (some ⟨bt, 0, none⟩))) (by funext k; match k with | 0 => rfl | k + 1 => rfl) (fun base0_ => ?_)
  refine A_seq fun K1 hK1 => ?_
  refine A_reg ?_
  refine r_v (Value.int .i64 (0)) rfl rfl rfl rfl ?_
  refine lx_nil ?_
  refine hK1 _ _ ?_; try clear hK1 K1
  refine A_seq fun K2 hK2 => ?_
  refine A_seq fun K3 hK3 => ?_
  refine A_reg ?_
  refine r_v (Value.pointer (some ⟨bt, 0, none⟩)) rfl rfl rfl rfl ?_
  refine r_v (Value.bool (false)) rfl rfl rfl rfl ?_
  refine lx_nil ?_
  refine hK3 _ _ ?_; try clear hK3 K3
  refine A_cond false rfl (fun h_ => nomatch h_) (fun _ => ?_)
  refine A_skip ?_
  refine hK2 _ _ ?_; try clear hK2 K2
  refine A_seq fun K4 hK4 => ?_
  refine A_regC [(some 8, false)] (conG Try.prog [(8, fun v_ L_ U_ => ∀ u0_, bits_stock_left_v1_m N t_0 t_1 = some u0_ → (pV (Value.int .i64 (u0_))) v_ L_ U_)]) ?_
  refine r_v (Value.pointer (some ⟨bt, 0, none⟩)) rfl rfl rfl rfl ?_
  refine r_v (Value.pointer (some ⟨bt, 0, none⟩)) rfl rfl rfl rfl ?_
  refine r_v (Value.pointer (some ⟨bt, 0, none⟩)) rfl rfl rfl rfl ?_
  replace hM := bind_sm hM; obtain ⟨r5, hr6, hM⟩ := hM
  refine r_gv (Value.int .i64 (r5)) 44 _ rfl rfl rfl (ev_callF rfl call_44 rfl) (fun own_ nw_ hs_ => bits_stock_left_v1_g N t_0 t_1 _ hr6 hs_.view bt t_0v ((rd_ro ht_0) own_ nw_ hs_) (blk_ro hbt own_ nw_ hs_)) (fun _ _ v_ L_ U_ => ⟨fun h_ => h_ _ hr6, fun h_ => by intro _ e_; cases Option.some.inj (e_.symm.trans hr6); exact h_⟩) ?_
  refine r_v (Value.int .i64 (r5)) rfl rfl rfl rfl ?_
  refine lx_nil ?_
  refine hK4 _ _ ?_; try clear hK4 K4
  obtain rfl := Option.some.inj hM
  refine A_ret (fun hn => endsV (v0 := Value.int .i64 (r5)) rfl (res1 rfl))
def bits_Taker_Look_v2_m (_ : Nat) (_ : Int) (_ : Int) : Option (Int × (BitVec 128) × Int) := some (0, (0#64) ++ (0#64), 1)
set_option maxRecDepth 100000 in
set_option maxHeartbeats 400000 in
theorem bits_Taker_Look_v2_g (N : Nat) (ahead : Int) (w : Int) (r : Int × (BitVec 128) × Int) (hM : bits_Taker_Look_v2_m N ahead w = some r) : Gives Try.prog 24 #[Value.pointer none, Value.int .i64 (ahead), Value.int .i64 (w)] (Value.tuple #[Value.agg #[Value.int .i64 (r.1), U (hi (r.2.1)), U (lo (r.2.1))], Value.int .i64 (r.2.2)]) := by
  unfold bits_Taker_Look_v2_m at hM
  refine gives_of_A follows Try.func24 rfl 43 rfl (upd (upd (upd (fun _ => undef) 2 (Value.int .i64 (w))) 1 (Value.int .i64 (ahead))) 0 (Value.pointer none)) (by funext k; match k with | 0 => rfl | 1 => rfl | 2 => rfl | k + 3 => rfl) (fun base0_ => ?_)
  refine A_seq fun K1 hK1 => ?_
  refine A_reg ?_
  refine r_a (26, #[Value.int .i64 (0), U (0#64), U (0#64)]) rfl rfl rfl (fun b2 => ?_) (.inr rfl)
  refine r_v (Value.int .i64 (0)) rfl rfl rfl rfl ?_
  refine lx_nil ?_
  refine hK1 _ _ ?_; try clear hK1 K1
  refine A_seq fun K3 hK3 => ?_
  refine A_seq fun K4 hK4 => ?_
  refine A_reg ?_
  refine r_v (Value.pointer none) rfl rfl rfl rfl ?_
  refine r_v (Value.bool (true)) rfl rfl rfl rfl ?_
  refine lx_nil ?_
  refine hK4 _ _ ?_; try clear hK4 K4
  refine A_cond true rfl (fun _ => ?_) (fun h_ => nomatch h_)
  refine A_seq fun K5 hK5 => ?_
  refine A_reg ?_
  refine r_v (Value.agg #[Value.int .i64 (0), U (0#64), U (0#64)]) rfl rfl rfl (ev_buildS rfl rfl rfl rfl) ?_
  refine r_s [(b2, 26, #[Value.int .i64 (0), U (0#64), U (0#64)])] 0 _ _ _ (#[Value.int .i64 (0), U (0#64), U (0#64)]) (#[Value.int .i64 (0), U (0#64), U (0#64)]) (#[Value.int .i64 (0), U (0#64), U (0#64)]) rfl rfl rfl rfl (.of rfl rfl) rfl rfl ?_
  refine r_v (Value.int .i64 (1)) rfl rfl rfl rfl ?_
  refine lx_nil ?_
  refine hK5 _ _ ?_; try clear hK5 K5
  obtain rfl := Option.some.inj hM
  refine A_ret (fun hn => ends_eq (v0 := Value.tuple #[Value.agg #[Value.int .i64 (0), U (0#64), U (0#64)], Value.int .i64 (1)]) (by first | rfl | simp only [app_hl]) (res2 (res_cell hn 0 rfl rfl rfl) rfl))
def bits_Taker_Vec_v2_m (N : Nat) (w : Int) : Option (Int × (BitVec 128) × Int) := (bits_Taker_Look_v2_m N 0 w).bind fun r4 => if (r4.2.2 : Int) ≠ 0 then some (0, (0#64) ++ (0#64), r4.2.2) else none
set_option maxRecDepth 100000 in
set_option maxHeartbeats 400000 in
theorem bits_Taker_Vec_v2_g (N : Nat) (w : Int) (r : Int × (BitVec 128) × Int) (hM : bits_Taker_Vec_v2_m N w = some r) : Gives Try.prog 26 #[Value.pointer none, Value.int .i64 (w)] (Value.tuple #[Value.agg #[Value.int .i64 (r.1), U (hi (r.2.1)), U (lo (r.2.1))], Value.int .i64 (r.2.2)]) := by
  unfold bits_Taker_Vec_v2_m at hM
  refine gives_of_A follows Try.func26 rfl 29 rfl (upd (upd (fun _ => undef) 1 (Value.int .i64 (w))) 0 (Value.pointer none)) (by funext k; match k with | 0 => rfl | 1 => rfl | k + 2 => rfl) (fun base0_ => ?_)
  refine A_seq fun K1 hK1 => ?_
  refine A_reg ?_
  refine r_a (26, #[Value.int .i64 (0), U (0#64), U (0#64)]) rfl rfl rfl (fun b2 => ?_) (.inr rfl)
  refine r_v (Value.int .i64 (0)) rfl rfl rfl rfl ?_
  refine lx_nil ?_
  refine hK1 _ _ ?_; try clear hK1 K1
  refine A_seq fun K3 hK3 => ?_
  refine A_reg ?_
  refine r_v (Value.pointer none) rfl rfl rfl rfl ?_
  refine r_v (Value.int .i64 (w)) rfl rfl rfl rfl ?_
  replace hM := bind_sm hM; obtain ⟨r4, hr5, hM⟩ := hM
  refine r_c (Value.tuple #[Value.agg #[Value.int .i64 (r4.1), U (hi (r4.2.1)), U (lo (r4.2.1))], Value.int .i64 (r4.2.2)]) rfl _ _ (ev_callF rfl call_24 rfl) (bits_Taker_Look_v2_g N 0 w _ hr5) ?_
  refine r_v (Value.tuple #[Value.agg #[Value.int .i64 (r4.1), U (hi (r4.2.1)), U (lo (r4.2.1))], Value.int .i64 (r4.2.2)]) rfl rfl rfl rfl ?_
  refine r_v (Value.agg #[Value.int .i64 (r4.1), U (hi (r4.2.1)), U (lo (r4.2.1))]) rfl rfl rfl rfl ?_
  refine r_v (Value.int .i64 (r4.2.2)) rfl rfl rfl rfl ?_
  refine r_a (26, #[Value.int .i64 (0), U (0#64), U (0#64)]) rfl rfl rfl (fun b6 => ?_) (.inr rfl)
  refine r_s [(b6, 26, #[Value.int .i64 (r4.1), U (hi (r4.2.1)), U (lo (r4.2.1))]), (b2, 26, #[Value.int .i64 (0), U (0#64), U (0#64)])] 0 _ _ _ (#[Value.int .i64 (0), U (0#64), U (0#64)]) (#[Value.int .i64 (r4.1), U (hi (r4.2.1)), U (lo (r4.2.1))]) (#[Value.int .i64 (r4.1), U (hi (r4.2.1)), U (lo (r4.2.1))]) rfl rfl rfl rfl (.of rfl rfl) rfl rfl ?_
  refine r_v (Value.int .i64 (r4.2.2)) rfl rfl rfl rfl ?_
  refine lx_nil ?_
  refine hK3 _ _ ?_; try clear hK3 K3
  refine A_seq fun K7 hK7 => ?_
  refine A_seq fun K8 hK8 => ?_
  refine A_reg ?_
  refine r_v (Value.int .i64 (r4.2.2)) rfl rfl rfl rfl ?_
  refine r_v (Value.bool (((r4.2.2 : Int) != 0))) rfl rfl rfl rfl ?_
  refine lx_nil ?_
  refine hK8 _ _ ?_; try clear hK8 K8
  refine A_cond (((r4.2.2 : Int) != 0)) rfl (fun hc9 => ?_) (fun hc9 => ?_)
  · replace hM := ifp (bne_iff_ne.1 hc9) hM
    refine A_seq fun K10 hK10 => ?_
    refine A_reg ?_
    refine r_v (Value.agg #[Value.int .i64 (0), U (0#64), U (0#64)]) rfl rfl rfl (ev_buildS rfl rfl rfl rfl) ?_
    refine r_v (Value.int .i64 (r4.2.2)) rfl rfl rfl rfl ?_
    refine r_s [(b6, 26, #[Value.int .i64 (r4.1), U (hi (r4.2.1)), U (lo (r4.2.1))]), (b2, 26, #[Value.int .i64 (0), U (0#64), U (0#64)])] 1 _ _ _ (#[Value.int .i64 (0), U (0#64), U (0#64)]) (#[Value.int .i64 (0), U (0#64), U (0#64)]) (#[Value.int .i64 (0), U (0#64), U (0#64)]) rfl rfl rfl rfl (.of rfl rfl) rfl rfl ?_
    refine r_v (Value.int .i64 (r4.2.2)) rfl rfl rfl rfl ?_
    refine lx_nil ?_
    refine hK10 _ _ ?_; try clear hK10 K10
    obtain rfl := Option.some.inj hM
    refine A_ret (fun hn => ends_eq (v0 := Value.tuple #[Value.agg #[Value.int .i64 (0), U (0#64), U (0#64)], Value.int .i64 (r4.2.2)]) (by first | rfl | simp only [app_hl]) (res2 (res_cell hn 1 rfl rfl rfl) rfl))
  · replace hM := ifn (bne_f hc9) hM
    refine A_skip ?_
    refine hK7 _ _ ?_; try clear hK7 K7
    refine A_seq fun K11 hK11 => ?_
    refine A_reg ?_
    refine r_v (Value.pointer none) rfl rfl rfl rfl ?_
    cases hM
def bits_Taker_Bytes_v2_m (_ : Nat) (_ : Int) : Option ((List UInt8) × Int) := some ([], 1)
set_option maxRecDepth 100000 in
set_option maxHeartbeats 400000 in
theorem bits_Taker_Bytes_v2_g (N : Nat) (n : Int) (r : (List UInt8) × Int) (hM : bits_Taker_Bytes_v2_m N n = some r) (ro : Addr → Option Value)  : Does Try.prog 23 #[Value.pointer none, Value.int .i64 (n)] ro [] (p1 (fun s_ => Value.tuple #[s_, Value.int .i64 (r.2)]) 5 encY r.1) := by
  unfold bits_Taker_Bytes_v2_m at hM
  refine does_of_A follows Try.func23 rfl 53 rfl (upd (upd (fun _ => undef) 1 (Value.int .i64 (n))) 0 (Value.pointer none)) (by funext k; match k with | 0 => rfl | 1 => rfl | k + 2 => rfl) (fun base0_ => ?_)
  refine A_seq fun K1 hK1 => ?_
  refine A_reg ?_
  refine r_v (Value.slice none 0 0) rfl rfl rfl rfl ?_
  refine r_v (Value.int .i64 (0)) rfl rfl rfl rfl ?_
  refine lx_nil ?_
  refine hK1 _ _ ?_; try clear hK1 K1
  refine A_seq fun K2 hK2 => ?_
  refine A_seq fun K3 hK3 => ?_
  refine A_reg ?_
  refine r_v (Value.pointer none) rfl rfl rfl rfl ?_
  refine r_v (Value.bool (true)) rfl rfl rfl rfl ?_
  refine lx_nil ?_
  refine hK3 _ _ ?_; try clear hK3 K3
  refine A_cond true rfl (fun _ => ?_) (fun h_ => nomatch h_)
  refine A_seq fun K4 hK4 => ?_
  refine A_reg ?_
  refine r_v (Value.slice none 0 0) rfl rfl rfl rfl ?_
  refine r_v (Value.int .i64 (1)) rfl rfl rfl rfl ?_
  refine lx_nil ?_
  refine hK4 _ _ ?_; try clear hK4 K4
  obtain rfl := Option.some.inj hM
  refine A_ret (fun hn => ends1 (v0 := Value.tuple #[Value.slice none 0 0, Value.int .i64 (1)]) Sl.nil (Sub.nil _) rfl (res2 rfl rfl))
def bits_Row_Add_v2_k1  : Option (Int) := none
def bits_Row_Add_v2_m (_ : Nat) (_ : Int) (_ : BitVec 128) : Option (Int) := some (1)
set_option maxRecDepth 100000 in
set_option maxHeartbeats 400000 in
theorem bits_Row_Add_v2_g (N : Nat) (v_0 : Int) (v_1 : BitVec 128) (r : Int) (hM : bits_Row_Add_v2_m N v_0 v_1 = some r) : Gives Try.prog 16 #[Value.pointer none, Value.agg #[Value.int .i64 (v_0), U (hi (v_1)), U (lo (v_1))]] (Value.int .i64 (r)) := by
  unfold bits_Row_Add_v2_m at hM
  refine gives_of_A follows Try.func16 rfl 60 rfl (upd (upd (fun _ => undef) 1 (Value.agg #[Value.int .i64 (v_0), U (hi (v_1)), U (lo (v_1))])) 0 (Value.pointer none)) (by funext k; match k with | 0 => rfl | 1 => rfl | k + 2 => rfl) (fun base0_ => ?_)
  refine A_seq fun K1 hK1 => ?_
  refine A_reg ?_
  refine r_a (26, #[Value.int .i64 (v_0), U (hi (v_1)), U (lo (v_1))]) rfl rfl rfl (fun b2 => ?_) (.inr rfl)
  refine r_v (Value.int .i64 (0)) rfl rfl rfl rfl ?_
  refine lx_nil ?_
  refine hK1 _ _ ?_; try clear hK1 K1
  refine A_cut (fun tt ll => (bits_Row_Add_v2_k1  = some r) ∧ Is [(0, Value.pointer none), (3, Value.pointer (some ⟨b2, 0, none⟩))] [(b2, 26, #[Value.int .i64 (v_0), U (hi (v_1)), U (lo (v_1))])] tt ll) ?_ ?_
  · refine A_seq fun K5 hK5 => ?_
    refine A_reg ?_
    refine r_v (Value.pointer none) rfl rfl rfl rfl ?_
    refine r_v (Value.bool (true)) rfl rfl rfl rfl ?_
    refine r_v (Value.bool (true)) rfl rfl rfl rfl ?_
    refine r_n true rfl (by decide) rfl ?_
    refine r_n true rfl (by decide) rfl ?_
    refine r_n true rfl (by decide) rfl ?_
    refine r_v (Value.bool (true)) rfl rfl rfl rfl ?_
    refine lx_nil ?_
    refine hK5 _ _ ?_; try clear hK5 K5
    refine A_cond true rfl (fun _ => ?_) (fun h_ => nomatch h_)
    refine A_seq fun K6 hK6 => ?_
    refine A_reg ?_
    refine r_v (Value.int .i64 (1)) rfl rfl rfl rfl ?_
    refine lx_nil ?_
    refine hK6 _ _ ?_; try clear hK6 K6
    obtain rfl := Option.some.inj hM
    refine A_ret (fun hn => ends_eq (v0 := Value.int .i64 (1)) rfl (res1 rfl))
  · clear hM; rintro t l ⟨hM, ⟨T, rfl⟩, rfl⟩
    unfold bits_Row_Add_v2_k1 at hM
    refine A_seq fun K3 hK3 => ?_
    refine A_seq fun K4 hK4 => ?_
    refine A_draw [] (by decide +kernel) (fun hn => sep_nil) ?_
    refine r_v (Value.pointer (some ⟨b2, 0, none⟩)) rfl rfl rfl rfl ?_
    refine r_l (Value.int .i64 (v_0)) 0 _ _ _ _ rfl rfl rfl rfl rfl ?_
    refine r_v (Value.pointer none) rfl rfl rfl rfl ?_
    cases hM
def bits_Row_Bytes_v2_m (_ : Nat) (_ : List UInt8) : Option (Int) := some (1)
set_option maxRecDepth 100000 in
set_option maxHeartbeats 400000 in
theorem bits_Row_Bytes_v2_g (N : Nat) (b : List UInt8) (r : Int) (hM : bits_Row_Bytes_v2_m N b = some r) (ro : Addr → Option Value) (bv : Value) (_hb : Rd encY ro bv b) : Does Try.prog 14 #[Value.pointer none, bv] ro [] (pV (Value.int .i64 (r))) := by
  unfold bits_Row_Bytes_v2_m at hM
  refine does_of_A follows Try.func14 rfl 41 rfl (upd (upd (fun _ => undef) 1 (bv)) 0 (Value.pointer none)) (by funext k; match k with | 0 => rfl | 1 => rfl | k + 2 => rfl) (fun base0_ => ?_)
  refine A_seq fun K1 hK1 => ?_
  refine A_reg ?_
  refine r_v (Value.int .i64 (0)) rfl rfl rfl rfl ?_
  refine lx_nil ?_
  refine hK1 _ _ ?_; try clear hK1 K1
  refine A_seq fun K2 hK2 => ?_
  refine A_seq fun K3 hK3 => ?_
  refine A_reg ?_
  refine r_v (Value.pointer none) rfl rfl rfl rfl ?_
  refine r_v (Value.bool (true)) rfl rfl rfl rfl ?_
  refine lx_nil ?_
  refine hK3 _ _ ?_; try clear hK3 K3
  refine A_cond true rfl (fun _ => ?_) (fun h_ => nomatch h_)
  refine A_seq fun K4 hK4 => ?_
  refine A_reg ?_
  refine r_v (Value.int .i64 (1)) rfl rfl rfl rfl ?_
  refine lx_nil ?_
  refine hK4 _ _ ?_; try clear hK4 K4
  obtain rfl := Option.some.inj hM
  refine A_ret (fun hn => endsV (v0 := Value.int .i64 (1)) rfl (res1 rfl))
def bits_Row_Len_v2_m (_ : Nat) : Option (Int) := some (0)
set_option maxRecDepth 100000 in
set_option maxHeartbeats 400000 in
theorem bits_Row_Len_v2_g (N : Nat) (r : Int) (hM : bits_Row_Len_v2_m N = some r) : Gives Try.prog 19 #[Value.pointer none] (Value.int .i64 (r)) := by
  unfold bits_Row_Len_v2_m at hM
  refine gives_of_A follows Try.func19 rfl 9 rfl (upd (fun _ => undef) 0 (Value.pointer none)) (by funext k; match k with | 0 => rfl | k + 1 => rfl) (fun base0_ => ?_)
  refine A_seq fun K1 hK1 => ?_
  refine A_reg ?_
  refine r_v (Value.int .i64 (0)) rfl rfl rfl rfl ?_
  refine lx_nil ?_
  refine hK1 _ _ ?_; try clear hK1 K1
  refine A_seq fun K2 hK2 => ?_
  refine A_seq fun K3 hK3 => ?_
  refine A_reg ?_
  refine r_v (Value.pointer none) rfl rfl rfl rfl ?_
  refine r_v (Value.bool (true)) rfl rfl rfl rfl ?_
  refine lx_nil ?_
  refine hK3 _ _ ?_; try clear hK3 K3
  refine A_cond true rfl (fun _ => ?_) (fun h_ => nomatch h_)
  refine A_seq fun K4 hK4 => ?_
  refine A_reg ?_
  refine r_v (Value.int .i64 (0)) rfl rfl rfl rfl ?_
  refine lx_nil ?_
  refine hK4 _ _ ?_; try clear hK4 K4
  obtain rfl := Option.some.inj hM
  refine A_ret (fun hn => ends_eq (v0 := Value.int .i64 (0)) rfl (res1 rfl))
def bits_Row_All_v2_m (_ : Nat) : Option (List UInt8) := some ([])
set_option maxRecDepth 100000 in
set_option maxHeartbeats 400000 in
theorem bits_Row_All_v2_g (N : Nat) (r : List UInt8) (hM : bits_Row_All_v2_m N = some r) (ro : Addr → Option Value)  : Does Try.prog 20 #[Value.pointer none] ro [] (p1 (fun s_ => s_) 5 encY r) := by
  unfold bits_Row_All_v2_m at hM
  refine does_of_A follows Try.func20 rfl 10 rfl (upd (fun _ => undef) 0 (Value.pointer none)) (by funext k; match k with | 0 => rfl | k + 1 => rfl) (fun base0_ => ?_)
  refine A_seq fun K1 hK1 => ?_
  refine A_reg ?_
  refine r_v (Value.slice none 0 0) rfl rfl rfl rfl ?_
  refine lx_nil ?_
  refine hK1 _ _ ?_; try clear hK1 K1
  refine A_seq fun K2 hK2 => ?_
  refine A_seq fun K3 hK3 => ?_
  refine A_reg ?_
  refine r_v (Value.pointer none) rfl rfl rfl rfl ?_
  refine r_v (Value.bool (true)) rfl rfl rfl rfl ?_
  refine lx_nil ?_
  refine hK3 _ _ ?_; try clear hK3 K3
  refine A_cond true rfl (fun _ => ?_) (fun h_ => nomatch h_)
  refine A_seq fun K4 hK4 => ?_
  refine A_reg ?_
  refine r_v (Value.slice none 0 0) rfl rfl rfl rfl ?_
  refine lx_nil ?_
  refine hK4 _ _ ?_; try clear hK4 K4
  obtain rfl := Option.some.inj hM
  refine A_ret (fun hn => ends1 (v0 := Value.slice none 0 0) Sl.nil (Sub.nil _) rfl (res1 rfl))
def bits_Taker_At_v2_m (_ : Nat) : Option (Int) := some (0)
set_option maxRecDepth 100000 in
set_option maxHeartbeats 400000 in
theorem bits_Taker_At_v2_g (N : Nat) (r : Int) (hM : bits_Taker_At_v2_m N = some r) : Gives Try.prog 27 #[Value.pointer none] (Value.int .i64 (r)) := by
  unfold bits_Taker_At_v2_m at hM
  refine gives_of_A follows Try.func27 rfl 10 rfl (upd (fun _ => undef) 0 (Value.pointer none)) (by funext k; match k with | 0 => rfl | k + 1 => rfl) (fun base0_ => ?_)
  refine A_seq fun K1 hK1 => ?_
  refine A_reg ?_
  refine r_v (Value.int .i64 (0)) rfl rfl rfl rfl ?_
  refine lx_nil ?_
  refine hK1 _ _ ?_; try clear hK1 K1
  refine A_seq fun K2 hK2 => ?_
  refine A_seq fun K3 hK3 => ?_
  refine A_reg ?_
  refine r_v (Value.pointer none) rfl rfl rfl rfl ?_
  refine r_v (Value.bool (true)) rfl rfl rfl rfl ?_
  refine lx_nil ?_
  refine hK3 _ _ ?_; try clear hK3 K3
  refine A_cond true rfl (fun _ => ?_) (fun h_ => nomatch h_)
  refine A_seq fun K4 hK4 => ?_
  refine A_reg ?_
  refine r_v (Value.int .i64 (0)) rfl rfl rfl rfl ?_
  refine lx_nil ?_
  refine hK4 _ _ ?_; try clear hK4 K4
  obtain rfl := Option.some.inj hM
  refine A_ret (fun hn => ends_eq (v0 := Value.int .i64 (0)) rfl (res1 rfl))
def bits_Taker_Left_v2_m (_ : Nat) : Option (Int) := some (0)
set_option maxRecDepth 100000 in
set_option maxHeartbeats 400000 in
theorem bits_Taker_Left_v2_g (N : Nat) (r : Int) (hM : bits_Taker_Left_v2_m N = some r) : Gives Try.prog 28 #[Value.pointer none] (Value.int .i64 (r)) := by
  unfold bits_Taker_Left_v2_m at hM
  refine gives_of_A follows Try.func28 rfl 9 rfl (upd (fun _ => undef) 0 (Value.pointer none)) (by funext k; match k with | 0 => rfl | k + 1 => rfl) (fun base0_ => ?_)
  refine A_seq fun K1 hK1 => ?_
  refine A_reg ?_
  refine r_v (Value.int .i64 (0)) rfl rfl rfl rfl ?_
  refine lx_nil ?_
  refine hK1 _ _ ?_; try clear hK1 K1
  refine A_seq fun K2 hK2 => ?_
  refine A_seq fun K3 hK3 => ?_
  refine A_reg ?_
  refine r_v (Value.pointer none) rfl rfl rfl rfl ?_
  refine r_v (Value.bool (true)) rfl rfl rfl rfl ?_
  refine lx_nil ?_
  refine hK3 _ _ ?_; try clear hK3 K3
  refine A_cond true rfl (fun _ => ?_) (fun h_ => nomatch h_)
  refine A_seq fun K4 hK4 => ?_
  refine A_reg ?_
  refine r_v (Value.int .i64 (0)) rfl rfl rfl rfl ?_
  refine lx_nil ?_
  refine hK4 _ _ ?_; try clear hK4 K4
  obtain rfl := Option.some.inj hM
  refine A_ret (fun hn => ends_eq (v0 := Value.int .i64 (0)) rfl (res1 rfl))
end Go.Proofs.Ytmiabhodfcidcaa
