/- models of functions and their walks -/
import Derived.Test.YtdgejbbelmhbdaaBa
namespace Go.Proofs.Ytdgejbbelmhbdaa
open Go Go.RowKit Go.Eng
def wire_Read_m (N : Nat) (b : List UInt8) : Option ((List UInt8) × Int × Int) := (slices_Clone___byte_byte__m N b).bind fun r3 => some (r3, 0, 0)
set_option maxRecDepth 100000 in
set_option maxHeartbeats 8000000 in
theorem wire_Read_g (N : Nat) (b : List UInt8) (r : (List UInt8) × Int × Int) (hM : wire_Read_m N b = some r) (ro : Addr → Option Value) (bv : Value) (hb : Rd encY ro bv b) : Does Try.prog 9 #[bv] ro [] (pO [] (oS 5 encY r.1 fun s_0 => (oB 69 #[s_0, Value.int .i64 (r.2.1), Value.int .i64 (r.2.2)] fun b_0 => (oE (Value.pointer (some ⟨b_0, 0, none⟩)) [])))) := by
  unfold wire_Read_m at hM
  refine doesO_of_A follows Try.func9 rfl 7 rfl (upd (fun _ => undef) 0 (bv)) (by funext k; match k with | 0 => rfl | k + 1 => rfl) (fun _ _ h_ _ => h_) (fun base0_ => ?_)
  refine A_seq fun K1 hK1 => ?_
  refine A_reg ?_
  refine r_v (Value.pointer none) rfl rfl rfl rfl ?_
  refine lx_nil ?_
  refine hK1 _ _ ?_; try clear hK1 K1
  refine A_seq fun K2 hK2 => ?_
  refine A_regC [(some 4, false)] (conG Try.prog [(4, fun _ _ v_ L_ U_ => ∀ u0_, slices_Clone___byte_byte__m N b = some u0_ → (p1 (fun s_ => s_) 5 encY (u0_)) v_ L_ U_)]) ?_
  refine r_v (bv) rfl rfl rfl rfl ?_
  replace hM := bind_sm hM; obtain ⟨r3, hr4, hM⟩ := hM
  refine r_g1 (Ls := []) (fun s5 => s5) 5 encY (r3) 34 _ rfl rfl rfl (ev_callF rfl call_34 rfl) (fun own_ nw_ hs_ => slices_Clone___byte_byte__g N b _ hr4 hs_.view bv ((rd_ro hb) own_ nw_ hs_)) (fun _ _ v_ L_ U_ => ⟨fun h_ => h_ _ hr4, fun h_ => by intro _ e_; cases Option.some.inj (e_.symm.trans hr4); exact h_⟩) (fun s5 S6 H7 => ?_)
  refine r_v (Value.agg #[s5, Value.int .i64 (0), Value.int .i64 (0)]) rfl rfl rfl (ev_buildSC rfl rfl rfl (pc_cons (cells_sl rfl (Sl.shp H7)) pc_nil) rfl) ?_
  refine r_a (69, #[s5, Value.int .i64 (0), Value.int .i64 (0)]) rfl rfl rfl (fun b8 => ?_) (.inr rfl)
  refine r_v (Value.pointer (some ⟨b8, 0, none⟩)) rfl rfl rfl rfl ?_
  refine lx_nil ?_
  refine hK2 _ _ ?_; try clear hK2 K2
  obtain rfl := Option.some.inj hM
  refine A_ret (fun hn => endsO (v0 := Value.pointer (some ⟨b8, 0, none⟩)) (O := [S6, [(b8, 69, #[s5, Value.int .i64 (0), Value.int .i64 (0)])]]) (res1 rfl) (Sub.pick [[(b8, 69, #[s5, Value.int .i64 (0), Value.int .i64 (0)])], S6] [1, 0] rfl) ⟨s5, S6, _, H7, ⟨b8, _, ⟨rfl, rfl⟩, rfl⟩, rfl⟩)
def wire_Reader_Bad_v1_m (_ : Nat) (_ : List UInt8) (_ : Int) (r_2 : Int) : Option (Bool) := some (((r_2 : Int) != 0))
set_option maxRecDepth 100000 in
set_option maxHeartbeats 8000000 in
theorem wire_Reader_Bad_v1_g (N : Nat) (r_0 : List UInt8) (r_1 : Int) (r_2 : Int) (r : Bool) (hM : wire_Reader_Bad_v1_m N r_0 r_1 r_2 = some r) (ro : Addr → Option Value) (br : Nat) (r_0v : Value) (_hr_0 : Rd encY ro r_0v r_0) (hbr : Blk ro br [r_0v, Value.int .i64 (r_1), Value.int .i64 (r_2)]) : Does Try.prog 13 #[Value.pointer (some ⟨br, 0, none⟩)] ro [] (pV (Value.bool (r))) := by
  unfold wire_Reader_Bad_v1_m at hM
  refine does_of_A follows Try.func13 rfl 13 rfl (upd (fun _ => undef) 0 (Value.pointer (some ⟨br, 0, none⟩))) (by funext k; match k with | 0 => rfl | k + 1 => rfl) (fun base0_ => ?_)
  refine A_seq fun K1 hK1 => ?_
  refine A_reg ?_
  refine r_v (Value.bool (false)) rfl rfl rfl rfl ?_
  refine lx_nil ?_
  refine hK1 _ _ ?_; try clear hK1 K1
  refine A_seq fun K2 hK2 => ?_
  refine A_reg ?_
  refine r_v (Value.pointer (some ⟨br, 0, none⟩)) rfl rfl rfl rfl ?_
  refine r_v (Value.bool (false)) rfl rfl rfl rfl ?_
  refine r_v (Value.bool (false)) rfl rfl rfl rfl ?_
  refine r_y rfl ?_
  refine r_v (Value.pointer (some ⟨br, 0, none⟩)) rfl rfl rfl rfl ?_
  refine r_y rfl ?_
  refine r_v (Value.pointer (some ⟨br, 0, none⟩)) rfl rfl rfl rfl ?_
  refine r_y rfl ?_
  refine r_v (Value.pointer (some ⟨br, 1, none⟩)) rfl rfl rfl rfl ?_
  refine r_y rfl ?_
  refine r_v (Value.pointer (some ⟨br, 2, none⟩)) rfl rfl rfl rfl ?_
  refine r_y rfl ?_
  refine r_lb (Value.int .i64 (r_2)) (vs := [r_0v, Value.int .i64 (r_1), Value.int .i64 (r_2)]) (o := 2) rfl rfl (blk_ro hbr) rfl ?_
  refine r_y rfl ?_
  refine r_v (Value.bool (((r_2 : Int) != 0))) rfl rfl rfl rfl ?_
  refine r_v (Value.bool (((r_2 : Int) != 0))) rfl rfl rfl rfl ?_
  refine r_v (Value.bool (((r_2 : Int) != 0))) rfl rfl rfl rfl ?_
  refine lx_nil ?_
  refine hK2 _ _ ?_; try clear hK2 K2
  obtain rfl := Option.some.inj hM
  refine A_ret (fun hn => endsV (v0 := Value.bool (((r_2 : Int) != 0))) rfl (res1 rfl))
def word_Or_m (_ : Nat) (a : BitVec 128) (b : BitVec 128) : Option (BitVec 128) := some ((hi (a) ||| hi (b)) ++ (lo (a) ||| lo (b)))
set_option maxRecDepth 100000 in
set_option maxHeartbeats 8000000 in
theorem word_Or_g (N : Nat) (a : BitVec 128) (b : BitVec 128) (r : BitVec 128) (hM : word_Or_m N a b = some r) : Gives Try.prog 79 #[Value.agg #[U (hi (a)), U (lo (a))], Value.agg #[U (hi (b)), U (lo (b))]] (Value.agg #[U (hi (r)), U (lo (r))]) := by
  unfold word_Or_m at hM
  refine gives_of_A follows Try.func79 rfl 16 rfl (upd (upd (fun _ => undef) 1 (Value.agg #[U (hi (b)), U (lo (b))])) 0 (Value.agg #[U (hi (a)), U (lo (a))])) (by funext k; match k with | 0 => rfl | 1 => rfl | k + 2 => rfl) (fun base0_ => ?_)
  refine A_seq fun K1 hK1 => ?_
  refine A_reg ?_
  refine r_a (111, #[U (hi (a)), U (lo (a))]) rfl rfl rfl (fun b2 => ?_) (.inr rfl)
  refine r_a (111, #[U (hi (b)), U (lo (b))]) rfl rfl rfl (fun b3 => ?_) (.inr rfl)
  refine r_a (111, #[U (0#64), U (0#64)]) rfl rfl rfl (fun b4 => ?_) (.inr rfl)
  refine lx_nil ?_
  refine hK1 _ _ ?_; try clear hK1 K1
  refine A_seq fun K5 hK5 => ?_
  refine A_reg ?_
  refine r_v (Value.pointer (some ⟨b2, 0, none⟩)) rfl rfl rfl rfl ?_
  refine r_l (U (hi (a))) 2 _ _ _ _ rfl rfl rfl rfl rfl ?_
  refine r_v (Value.pointer (some ⟨b3, 0, none⟩)) rfl rfl rfl rfl ?_
  refine r_l (U (hi (b))) 1 _ _ _ _ rfl rfl rfl rfl rfl ?_
  refine r_v (U ((hi (a) ||| hi (b)))) rfl rfl (U_or (hi (a)) (hi (b))) rfl ?_
  refine r_v (Value.pointer (some ⟨b2, 1, none⟩)) rfl rfl rfl rfl ?_
  refine r_l (U (lo (a))) 2 _ _ _ _ rfl rfl rfl rfl rfl ?_
  refine r_v (Value.pointer (some ⟨b3, 1, none⟩)) rfl rfl rfl rfl ?_
  refine r_l (U (lo (b))) 1 _ _ _ _ rfl rfl rfl rfl rfl ?_
  refine r_v (U ((lo (a) ||| lo (b)))) rfl rfl (U_or (lo (a)) (lo (b))) rfl ?_
  refine r_v (Value.agg #[U ((hi (a) ||| hi (b))), U ((lo (a) ||| lo (b)))]) rfl rfl rfl (ev_buildS rfl rfl rfl rfl) ?_
  refine r_s [(b4, 111, #[U ((hi (a) ||| hi (b))), U ((lo (a) ||| lo (b)))]), (b3, 111, #[U (hi (b)), U (lo (b))]), (b2, 111, #[U (hi (a)), U (lo (a))])] 0 _ _ _ (#[U (0#64), U (0#64)]) (#[U ((hi (a) ||| hi (b))), U ((lo (a) ||| lo (b)))]) (#[U ((hi (a) ||| hi (b))), U ((lo (a) ||| lo (b)))]) rfl rfl rfl rfl (.of rfl rfl) rfl rfl ?_
  refine lx_nil ?_
  refine hK5 _ _ ?_; try clear hK5 K5
  obtain rfl := Option.some.inj hM
  refine A_ret (fun hn => ends_eq (v0 := Value.agg #[U ((hi (a) ||| hi (b))), U ((lo (a) ||| lo (b)))]) (by first | rfl | (simp only [app_hl]; done) | simp only [app_hl]) (res1 (res_cell hn 0 rfl rfl rfl)))
def wire_wordOf_l3 (N : Nat) (b : List UInt8) : Nat → Int → BitVec 128 → Option (BitVec 128)
  | 0, _, _ => none
  | n7 + 1, x1_, m2_ => if (x1_ : Int) < ((b).length : Int) then ck (0 ≤ x1_ ∧ x1_ < ((b).length : Int)) (ck (-9223372036854775808 ≤ (8 : Int) ∧ (8 : Int) ≤ 9223372036854775807) ((word_Or_m N (shiftI (m2_) (8)) ((0#64) ++ (BitVec.ofNat 64 ((b)[(x1_).toNat]!).toNat))).bind fun r15 => ck ((-9223372036854775808 ≤ (x1_ + 1) ∧ (x1_ + 1) ≤ 9223372036854775807)) ((wire_wordOf_l3 N b n7) ((x1_ + 1)) (r15)))) else some (m2_)
def wire_wordOf_m (N : Nat) (b : List UInt8) : Option (BitVec 128) := wire_wordOf_l3 N b N (0) ((0#64) ++ (0#64))
set_option maxRecDepth 100000 in
set_option maxHeartbeats 8000000 in
theorem wire_wordOf_g (N : Nat) (b : List UInt8) (r : BitVec 128) (hM : wire_wordOf_m N b = some r) (ro : Addr → Option Value) (bv : Value) (hb : Rd encY ro bv b) : Does Try.prog 70 #[bv] ro [] (pV (Value.agg #[U (hi (r)), U (lo (r))])) := by
  unfold wire_wordOf_m at hM
  refine does_of_A follows Try.func70 rfl 20 rfl (upd (fun _ => undef) 0 (bv)) (by funext k; match k with | 0 => rfl | k + 1 => rfl) (fun base0_ => ?_)
  refine A_seq fun K1 hK1 => ?_
  refine A_reg ?_
  refine r_a (111, #[U (0#64), U (0#64)]) rfl rfl rfl (fun b2 => ?_) (.inr rfl)
  refine lx_nil ?_
  refine hK1 _ _ ?_; try clear hK1 K1
  refine A_seq fun K3 hK3 => ?_
  refine A_reg ?_
  refine r_a (111, #[U (0#64), U (0#64)]) rfl rfl rfl (fun b4 => ?_) (.inr rfl)
  refine lx_nil ?_
  refine hK3 _ _ ?_; try clear hK3 K3
  refine A_seq fun K5 hK5 => ?_
  refine A_seq fun K6 hK6 => ?_
  refine A_reg ?_
  refine r_v (bv) rfl rfl rfl rfl ?_
  refine r_v (Value.int .i64 (((b).length : Int))) rfl rfl rfl (ev_lenSl rfl rfl rfl (Rd.shp hb)) ?_
  refine r_v (Value.int .i64 (0)) rfl rfl rfl rfl ?_
  refine lx_nil ?_
  refine hK6 _ _ ?_; try clear hK6 K6
  refine A_block ?_
  refine A_loop (fun tt ll nn => ∃ (n7 : Nat) (x1_ : Int) (m2_ : BitVec 128), (wire_wordOf_l3 N b n7 x1_ m2_ = some r) ∧ Is [(2, Value.pointer (some ⟨b2, 0, none⟩)), (3, Value.pointer (some ⟨b4, 0, none⟩)), (6, bv), (7, Value.int .i64 (((b).length : Int))), (8, Value.int .i64 (x1_))] [(b4, 111, #[U (hi (m2_)), U (lo (m2_))]), (b2, 111, #[U (0#64), U (0#64)])] tt ll ∧ nn = n7 + 1) (N + 1) ?_ ?_
  · exact ⟨N, 0, (0#64) ++ (0#64), hM, is_mk rfl (by first | rfl | simp only [app_hl]), rfl⟩
  · clear hM; rintro t l _ ⟨n7, x1_, m2_, hM, ⟨⟨T, rfl⟩, rfl⟩, rfl⟩
    rcases n7 with _ | n7
    · exact absurd hM (by simp [wire_wordOf_l3])
    rw [wire_wordOf_l3] at hM
    refine A_seq fun K8 hK8 => ?_
    refine A_reg ?_
    refine r_v (Value.bool (decide ((x1_ : Int) < ((b).length : Int)))) rfl rfl rfl rfl ?_
    refine lx_nil ?_
    refine hK8 _ _ ?_; try clear hK8 K8
    refine A_seq fun K9 hK9 => ?_
    refine A_cond (decide ((x1_ : Int) < ((b).length : Int))) rfl (fun hc10 => ?_) (fun hc10 => ?_)
    · replace hM := ifp (of_decide_eq_true hc10) hM
      refine A_skip ?_
      refine hK9 _ _ ?_; try clear hK9 K9
      refine A_seq fun K11 hK11 => ?_
      refine A_block ?_
      refine A_seq fun K12 hK12 => ?_
      refine A_reg ?_
      replace hM := ck_some hM; obtain ⟨ck13, hM⟩ := hM
      refine r_v (elA bv ((x1_).toNat * 1)) rfl rfl rfl (ev_v (ev_idxSl rfl rfl rfl (Rd.shp hb) ck13)) ?_
      refine r_le (Value.int .u8 (((((b)[(x1_).toNat]!).toNat : Nat) : Int))) (En := encY) ((b)[(x1_).toNat]!) ((x1_).toNat) 0 rfl rfl (rd_ro hb) (get_of ck13) rfl ?_
      refine r_v (Value.int .u8 (((((b)[(x1_).toNat]!).toNat : Nat) : Int))) rfl rfl rfl rfl ?_
      refine lx_nil ?_
      refine hK12 _ _ ?_; try clear hK12 K12
      refine A_reg ?_
      refine r_l (Value.agg #[U (hi (m2_)), U (lo (m2_))]) 0 _ _ _ _ rfl rfl rfl rfl rfl ?_
      replace hM := ck_some hM; obtain ⟨ck14, hM⟩ := hM
      refine r_c (Value.agg #[U (hi (shiftI (m2_) (8))), U (lo (shiftI (m2_) (8)))]) rfl _ _ (ev_callF rfl call_80 rfl) (shl_g (m2_) (8) ck14.1 ck14.2) ?_
      refine r_v (Value.int .u8 (((((b)[(x1_).toNat]!).toNat : Nat) : Int))) rfl rfl rfl rfl ?_
      refine r_w (U (BitVec.ofNat 64 ((b)[(x1_).toNat]!).toNat)) rfl rfl (u8_u64 ((b)[(x1_).toNat]!)) (fun _ => rfl) ?_
      refine r_v (Value.agg #[U (0#64), U (BitVec.ofNat 64 ((b)[(x1_).toNat]!).toNat)]) rfl rfl rfl (ev_buildS rfl rfl rfl rfl) ?_
      replace hM := bind_sm hM; obtain ⟨r15, hr16, hM⟩ := hM
      refine r_c (Value.agg #[U (hi (r15)), U (lo (r15))]) rfl _ _ (ev_callF rfl call_79 rfl) (by have h_ := (word_Or_g N (shiftI (m2_) (8)) ((0#64) ++ (BitVec.ofNat 64 ((b)[(x1_).toNat]!).toNat)) _ hr16); simp only [app_hl] at h_; exact h_) ?_
      refine r_s [(b4, 111, #[U (hi (r15)), U (lo (r15))]), (b2, 111, #[U (0#64), U (0#64)])] 0 _ _ _ (#[U (hi (m2_)), U (lo (m2_))]) (#[U (hi (r15)), U (lo (r15))]) (#[U (hi (r15)), U (lo (r15))]) rfl rfl rfl rfl (.of rfl rfl) rfl rfl ?_
      refine lx_nil ?_
      refine hK11 _ _ ?_; try clear hK11 K11
      refine A_reg ?_
      replace hM := ck_some hM; obtain ⟨ck17, hM⟩ := hM
      refine r_v (Value.int .i64 ((x1_ + 1))) rfl rfl (wi64 rfl ck17.1 ck17.2) rfl ?_
      refine r_v (Value.int .i64 ((x1_ + 1))) rfl rfl rfl rfl ?_
      refine lx_nil ?_
      refine fg _ (Sub.of (List.Sublist.cons_cons _ (List.Sublist.cons_cons _ (List.Sublist.slnil)))) ?_
      exact ⟨n7 + 1, by omega, n7, (x1_ + 1), r15, hM, is_mk rfl (by first | rfl | simp only [app_hl]), rfl⟩
    · replace hM := ifn (of_decide_eq_false hc10) hM
      refine A_exit ?_
      refine hK5 _ _ ?_; try clear hK5 K5
      refine A_seq fun K18 hK18 => ?_
      refine A_reg ?_
      refine r_l (Value.agg #[U (hi (m2_)), U (lo (m2_))]) 0 _ _ _ _ rfl rfl rfl rfl rfl ?_
      refine r_s [(b4, 111, #[U (hi (m2_)), U (lo (m2_))]), (b2, 111, #[U (hi (m2_)), U (lo (m2_))])] 1 _ _ _ (#[U (0#64), U (0#64)]) (#[U (hi (m2_)), U (lo (m2_))]) (#[U (hi (m2_)), U (lo (m2_))]) rfl rfl rfl rfl (.of rfl rfl) rfl rfl ?_
      refine lx_nil ?_
      refine hK18 _ _ ?_; try clear hK18 K18
      obtain rfl := Option.some.inj hM
      refine A_ret (fun hn => endsV (v0 := Value.agg #[U (hi (m2_)), U (lo (m2_))]) rfl (res1 (res_cell hn 1 rfl rfl rfl)))
def wire_Reader_number_1_v1_m (N : Nat) (b : List UInt8) (c1_ : Int) (c2_ : Int) (c3_ : Int) : Option (Int × Int × Int) := if (((b).length : Int) : Int) < c1_ then some (0, 0, 3) else ck (0 ≤ c1_ ∧ c1_ ≤ ((b).length : Int)) ((wire_wordOf_m N (((b).take ((c1_).toNat)).drop (0))).bind fun r8 => ck ((((lo (r8)).toNat : Nat) : Int) ≤ 9223372036854775807) (if ((((lo (r8)).toNat : Nat) : Int) : Int) > c2_ then some (0, 0, c3_) else some ((((lo (r8)).toNat : Nat) : Int), c1_, 0)))
set_option maxRecDepth 100000 in
set_option maxHeartbeats 8000000 in
theorem wire_Reader_number_1_v1_g (N : Nat) (b : List UInt8) (c1_ : Int) (c2_ : Int) (c3_ : Int) (r : Int × Int × Int) (hM : wire_Reader_number_1_v1_m N b c1_ c2_ c3_ = some r) (ro : Addr → Option Value) (bv : Value) (hb : Rd encY ro bv b) (bc1_ : Nat) (hbc1_ : Blk ro bc1_ [Value.int .i64 (c1_)]) (bc2_ : Nat) (hbc2_ : Blk ro bc2_ [Value.int .i64 (c2_)]) (bc3_ : Nat) (hbc3_ : Blk ro bc3_ [Value.int .i64 (c3_)]) : Does Try.prog 69 #[bv, Value.pointer (some ⟨bc1_, 0, none⟩), Value.pointer (some ⟨bc2_, 0, none⟩), Value.pointer (some ⟨bc3_, 0, none⟩)] ro [] (pV (Value.tuple #[Value.int .i64 (r.1), Value.int .i64 (r.2.1), Value.int .i64 (r.2.2)])) := by
  unfold wire_Reader_number_1_v1_m at hM
  refine does_of_A follows Try.func69 rfl 25 rfl (upd (upd (upd (upd (fun _ => undef) 3 (Value.pointer (some ⟨bc3_, 0, none⟩))) 2 (Value.pointer (some ⟨bc2_, 0, none⟩))) 1 (Value.pointer (some ⟨bc1_, 0, none⟩))) 0 (bv)) (by funext k; match k with | 0 => rfl | 1 => rfl | 2 => rfl | 3 => rfl | k + 4 => rfl) (fun base0_ => ?_)
  refine A_seq fun K1 hK1 => ?_
  refine A_reg ?_
  refine r_v (Value.int .i64 (0)) rfl rfl rfl rfl ?_
  refine r_v (Value.int .i64 (0)) rfl rfl rfl rfl ?_
  refine r_v (Value.int .i64 (0)) rfl rfl rfl rfl ?_
  refine lx_nil ?_
  refine hK1 _ _ ?_; try clear hK1 K1
  refine A_seq fun K2 hK2 => ?_
  refine A_seq fun K3 hK3 => ?_
  refine A_reg ?_
  refine r_v (bv) rfl rfl rfl rfl ?_
  refine r_v (Value.int .i64 (((b).length : Int))) rfl rfl rfl (ev_lenSl rfl rfl rfl (Rd.shp hb)) ?_
  refine r_lb (Value.int .i64 (c1_)) (vs := [Value.int .i64 (c1_)]) (o := 0) rfl rfl (blk_ro hbc1_) rfl ?_
  refine r_v (Value.bool (decide ((((b).length : Int) : Int) < c1_))) rfl rfl rfl rfl ?_
  refine lx_nil ?_
  refine hK3 _ _ ?_; try clear hK3 K3
  refine A_cond (decide ((((b).length : Int) : Int) < c1_)) rfl (fun hc4 => ?_) (fun hc4 => ?_)
  · replace hM := ifp (of_decide_eq_true hc4) hM
    refine A_seq fun K5 hK5 => ?_
    refine A_reg ?_
    refine r_v (Value.int .i64 (0)) rfl rfl rfl rfl ?_
    refine r_v (Value.int .i64 (0)) rfl rfl rfl rfl ?_
    refine r_v (Value.int .i64 (3)) rfl rfl rfl rfl ?_
    refine lx_nil ?_
    refine hK5 _ _ ?_; try clear hK5 K5
    obtain rfl := Option.some.inj hM
    refine A_ret (fun hn => endsV (v0 := Value.tuple #[Value.int .i64 (0), Value.int .i64 (0), Value.int .i64 (3)]) rfl (res3 rfl rfl rfl))
  · replace hM := ifn (of_decide_eq_false hc4) hM
    refine A_skip ?_
    refine hK2 _ _ ?_; try clear hK2 K2
    refine A_seq fun K6 hK6 => ?_
    refine A_regC [(some 16, false)] (conG Try.prog [(16, fun _ _ v_ L_ U_ => ∀ u0_, wire_wordOf_m N (((b).take ((c1_).toNat)).drop (0)) = some u0_ → (pV (Value.agg #[U (hi (u0_)), U (lo (u0_))])) v_ L_ U_)]) ?_
    refine r_v (bv) rfl rfl rfl rfl ?_
    refine r_lb (Value.int .i64 (c1_)) (vs := [Value.int .i64 (c1_)]) (o := 0) rfl rfl (blk_ro hbc1_) rfl ?_
    replace hM := ck_some hM; obtain ⟨ck7, hM⟩ := hM
    refine r_v (subA bv (0) ((c1_).toNat) 1) rfl rfl rfl (ev_v (ev_subSl2 rfl rfl rfl rfl (Rd.shp hb) ck7)) ?_
    replace hM := bind_sm hM; obtain ⟨r8, hr9, hM⟩ := hM
    refine r_gv (Value.agg #[U (hi (r8)), U (lo (r8))]) 70 _ rfl rfl rfl (ev_callF rfl call_70 rfl) (fun own_ nw_ hs_ => wire_wordOf_g N (((b).take ((c1_).toNat)).drop (0)) _ hr9 hs_.view (subA bv (0) ((c1_).toNat) 1) ((rd_sub (rd_ro hb) (Nat.zero_le _) (toNat_len ck7.2)) own_ nw_ hs_)) (fun _ _ v_ L_ U_ => ⟨fun h_ => h_ _ hr9, fun h_ => by intro _ e_; cases Option.some.inj (e_.symm.trans hr9); exact h_⟩) ?_
    refine r_v (U (lo (r8))) rfl rfl rfl rfl ?_
    replace hM := ck_some hM; obtain ⟨ck10, hM⟩ := hM
    refine r_w (Value.int .i64 ((((lo (r8)).toNat : Nat) : Int))) rfl rfl (wi64 rfl (by omega) ck10) (fun _ => rfl) ?_
    refine r_v (Value.int .i64 ((((lo (r8)).toNat : Nat) : Int))) rfl rfl rfl rfl ?_
    refine lx_nil ?_
    refine hK6 _ _ ?_; try clear hK6 K6
    refine A_seq fun K11 hK11 => ?_
    refine A_seq fun K12 hK12 => ?_
    refine A_reg ?_
    refine r_v (Value.int .i64 ((((lo (r8)).toNat : Nat) : Int))) rfl rfl rfl rfl ?_
    refine r_lb (Value.int .i64 (c2_)) (vs := [Value.int .i64 (c2_)]) (o := 0) rfl rfl (blk_ro hbc2_) rfl ?_
    refine r_v (Value.bool (decide (((((lo (r8)).toNat : Nat) : Int) : Int) > c2_))) rfl rfl rfl rfl ?_
    refine lx_nil ?_
    refine hK12 _ _ ?_; try clear hK12 K12
    refine A_cond (decide (((((lo (r8)).toNat : Nat) : Int) : Int) > c2_)) rfl (fun hc13 => ?_) (fun hc13 => ?_)
    · replace hM := ifp (of_decide_eq_true hc13) hM
      refine A_seq fun K14 hK14 => ?_
      refine A_draw [] (by decide +kernel) (fun hn => sep_nil) ?_
      refine r_lb (Value.int .i64 (c3_)) (vs := [Value.int .i64 (c3_)]) (o := 0) rfl rfl (blk_ro hbc3_) rfl ?_
      refine r_v (Value.int .i64 (0)) rfl rfl rfl rfl ?_
      refine r_v (Value.int .i64 (0)) rfl rfl rfl rfl ?_
      refine r_v (Value.int .i64 (c3_)) rfl rfl rfl rfl ?_
      refine lx_nil ?_
      refine hK14 _ _ ?_; try clear hK14 K14
      obtain rfl := Option.some.inj hM
      refine A_ret (fun hn => endsV (v0 := Value.tuple #[Value.int .i64 (0), Value.int .i64 (0), Value.int .i64 (c3_)]) rfl (res3 rfl rfl rfl))
    · replace hM := ifn (of_decide_eq_false hc13) hM
      refine A_skip ?_
      refine hK11 _ _ ?_; try clear hK11 K11
      refine A_seq fun K15 hK15 => ?_
      refine A_draw [] (by decide +kernel) (fun hn => sep_nil) ?_
      refine r_v (Value.int .i64 ((((lo (r8)).toNat : Nat) : Int))) rfl rfl rfl rfl ?_
      refine r_lb (Value.int .i64 (c1_)) (vs := [Value.int .i64 (c1_)]) (o := 0) rfl rfl (blk_ro hbc1_) rfl ?_
      refine r_v (Value.int .i64 ((((lo (r8)).toNat : Nat) : Int))) rfl rfl rfl rfl ?_
      refine r_v (Value.int .i64 (c1_)) rfl rfl rfl rfl ?_
      refine r_v (Value.int .i64 (0)) rfl rfl rfl rfl ?_
      refine lx_nil ?_
      refine hK15 _ _ ?_; try clear hK15 K15
      obtain rfl := Option.some.inj hM
      refine A_ret (fun hn => endsV (v0 := Value.tuple #[Value.int .i64 ((((lo (r8)).toNat : Nat) : Int)), Value.int .i64 (c1_), Value.int .i64 (0)]) rfl (res3 rfl rfl rfl))
def wire_spot_fail_v2_m (_ : Nat) (s_0 : List UInt8) (s_1 : Int) (s_2 : Int) (e' : Int) : Option ((List UInt8) × Int × Int) := if (s_2 : Int) = 0 then some (s_0, s_1, e') else some (s_0, s_1, s_2)
set_option maxRecDepth 100000 in
set_option maxHeartbeats 8000000 in
theorem wire_spot_fail_v2_g (N : Nat) (s_0 : List UInt8) (s_1 : Int) (s_2 : Int) (e' : Int) (r : (List UInt8) × Int × Int) (hM : wire_spot_fail_v2_m N s_0 s_1 s_2 e' = some r) (ro : Addr → Option Value) (bs : Nat) (s_0v : Value) (Ss_0 : List Bl) (hs_0 : Sl 5 encY s_0v s_0 Ss_0) : Does Try.prog 66 #[Value.pointer (some ⟨bs, 1, none⟩), Value.int .i64 (e')] ro (List.flatten [[(bs, 69, #[s_0v, Value.int .i64 (s_1), Value.int .i64 (s_2)])], Ss_0]) (pO (List.flatten [[(bs, 69, #[s_0v, Value.int .i64 (s_1), Value.int .i64 (s_2)])], Ss_0]) (oI 5 encY s_0v r.1 (oE (Value.tuple #[]) [[(bs, 69, #[s_0v, Value.int .i64 (r.2.1), Value.int .i64 (r.2.2)])]]))) := by
  unfold wire_spot_fail_v2_m at hM
  refine doesO_of_A follows Try.func66 rfl 13 rfl (upd (upd (fun _ => undef) 1 (Value.int .i64 (e'))) 0 (Value.pointer (some ⟨bs, 1, none⟩))) (by funext k; match k with | 0 => rfl | 1 => rfl | k + 2 => rfl) (fun _ _ h_ _ => h_) (fun base0_ => ?_)
  refine A_seq fun K1 hK1 => ?_
  refine A_reg ?_
  refine r_v (Value.pointer (some ⟨bs, 1, none⟩)) rfl rfl rfl rfl ?_
  refine r_v (Value.pointer (some ⟨bs, 1, none⟩)) rfl rfl rfl rfl ?_
  refine r_v (Value.pointer (some ⟨bs, 2, none⟩)) rfl rfl rfl rfl ?_
  refine r_l (Value.int .i64 (s_2)) 0 _ _ _ _ rfl rfl rfl rfl rfl ?_
  refine r_v (Value.bool (((s_2 : Int) == 0))) rfl rfl rfl rfl ?_
  refine lx_nil ?_
  refine hK1 _ _ ?_; try clear hK1 K1
  refine A_cond (((s_2 : Int) == 0)) rfl (fun hc2 => ?_) (fun hc2 => ?_)
  · replace hM := ifp (eq_of_beq hc2) hM
    refine A_reg ?_
    refine r_v (Value.pointer (some ⟨bs, 1, none⟩)) rfl rfl rfl rfl ?_
    refine r_v (Value.int .i64 (e')) rfl rfl rfl rfl ?_
    refine r_v (Value.pointer (some ⟨bs, 1, none⟩)) rfl rfl rfl rfl ?_
    refine r_v (Value.pointer (some ⟨bs, 2, none⟩)) rfl rfl rfl rfl ?_
    refine r_s (List.flatten [[(bs, 69, #[s_0v, Value.int .i64 (s_1), Value.int .i64 (e')])], Ss_0]) 0 _ _ _ (#[s_0v, Value.int .i64 (s_1), Value.int .i64 (s_2)]) (#[Value.int .i64 (e')]) (#[s_0v, Value.int .i64 (s_1), Value.int .i64 (e')]) rfl rfl rfl rfl (.of rfl rfl) rfl rfl ?_
    refine lx_nil ?_
    obtain rfl := Option.some.inj hM
    refine endsN (v0 := Value.tuple #[]) (O := [Ss_0, [(bs, 69, #[s_0v, Value.int .i64 (s_1), Value.int .i64 (e')])]]) rfl (Sub.pick [[(bs, 69, #[s_0v, Value.int .i64 (s_1), Value.int .i64 (e')])], Ss_0] [1, 0] rfl) ⟨Ss_0, _, hs_0, ⟨rfl, rfl⟩, rfl⟩
  · replace hM := ifn (ne_of_beq_false hc2) hM
    refine A_skip ?_
    obtain rfl := Option.some.inj hM
    refine endsN (v0 := Value.tuple #[]) (O := [Ss_0, [(bs, 69, #[s_0v, Value.int .i64 (s_1), Value.int .i64 (s_2)])]]) rfl (Sub.pick [[(bs, 69, #[s_0v, Value.int .i64 (s_1), Value.int .i64 (s_2)])], Ss_0] [1, 0] rfl) ⟨Ss_0, _, hs_0, ⟨rfl, rfl⟩, rfl⟩
def wire_take_int__v2_m (N : Nat) (r_0 : List UInt8) (r_1 : Int) (r_2 : Int) (first0_ : Int) (first1_ : Int) (first2_ : Int) : Option (Int × (List UInt8) × Int × Int) := (wire_Reader_Bad_v1_m N r_0 r_1 r_2).bind fun r5 => if (r5) = true then some (0, r_0, r_1, r_2) else ck (0 ≤ r_1 ∧ r_1 ≤ ((r_0).length : Int)) ((wire_Reader_number_1_v1_m N (((r_0).take ((r_0).length)).drop ((r_1).toNat)) first0_ first1_ first2_).bind fun r11 => if (r11.2.2 : Int) ≠ 0 then (wire_spot_fail_v2_m N r_0 r_1 r_2 r11.2.2).bind fun r17 => ck ((r17.1).length = (r_0).length) (some (0, r17.1, r17.2.1, r17.2.2)) else ck ((-9223372036854775808 ≤ (r_1 + r11.2.1) ∧ (r_1 + r11.2.1) ≤ 9223372036854775807)) (some (r11.1, r_0, (r_1 + r11.2.1), r_2)))
set_option maxRecDepth 100000 in
set_option maxHeartbeats 8000000 in
theorem wire_take_int__v2_g (N : Nat) (r_0 : List UInt8) (r_1 : Int) (r_2 : Int) (first0_ : Int) (first1_ : Int) (first2_ : Int) (r : Int × (List UInt8) × Int × Int) (hM : wire_take_int__v2_m N r_0 r_1 r_2 first0_ first1_ first2_ = some r) (ro : Addr → Option Value) (br : Nat) (r_0v : Value) (Sr_0 : List Bl) (hr_0 : Sl 5 encY r_0v r_0 Sr_0) (bfirst0_ : Nat) (hbfirst0_ : Blk ro bfirst0_ [Value.int .i64 (first0_)]) (bfirst1_ : Nat) (hbfirst1_ : Blk ro bfirst1_ [Value.int .i64 (first1_)]) (bfirst2_ : Nat) (hbfirst2_ : Blk ro bfirst2_ [Value.int .i64 (first2_)]) : Does Try.prog 68 #[Value.pointer (some ⟨br, 0, none⟩), Value.func (.func 69) #[] #[Value.pointer (some ⟨bfirst0_, 0, none⟩), Value.pointer (some ⟨bfirst1_, 0, none⟩), Value.pointer (some ⟨bfirst2_, 0, none⟩)]] ro (List.flatten [[(br, 69, #[r_0v, Value.int .i64 (r_1), Value.int .i64 (r_2)])], Sr_0]) (pO (List.flatten [[(br, 69, #[r_0v, Value.int .i64 (r_1), Value.int .i64 (r_2)])], Sr_0]) (oI 5 encY r_0v r.2.1 (oE (Value.int .i64 (r.1)) [[(br, 69, #[r_0v, Value.int .i64 (r.2.2.1), Value.int .i64 (r.2.2.2)])]]))) := by
  unfold wire_take_int__v2_m at hM
  refine doesO_of_A follows Try.func68 rfl 47 rfl (upd (upd (fun _ => undef) 1 (Value.func (.func 69) #[] #[Value.pointer (some ⟨bfirst0_, 0, none⟩), Value.pointer (some ⟨bfirst1_, 0, none⟩), Value.pointer (some ⟨bfirst2_, 0, none⟩)])) 0 (Value.pointer (some ⟨br, 0, none⟩))) (by funext k; match k with | 0 => rfl | 1 => rfl | k + 2 => rfl) (fun _ _ h_ _ => h_) (fun base0_ => ?_)
  refine A_seq fun K1 hK1 => ?_
  refine A_reg ?_
  refine r_v (Value.int .i64 (0)) rfl rfl rfl rfl ?_
  refine lx_nil ?_
  refine hK1 _ _ ?_; try clear hK1 K1
  refine A_seq fun K2 hK2 => ?_
  refine A_reg ?_
  refine r_v (Value.int .i64 (0)) rfl rfl rfl rfl ?_
  refine lx_nil ?_
  refine hK2 _ _ ?_; try clear hK2 K2
  refine A_seq fun K3 hK3 => ?_
  refine A_seq fun K4 hK4 => ?_
  refine A_regC [(some 10, false)] (conG Try.prog [(10, fun _ _ v_ L_ U_ => ∀ u0_, wire_Reader_Bad_v1_m N r_0 r_1 r_2 = some u0_ → (pV (Value.bool (u0_))) v_ L_ U_)]) ?_
  refine r_v (Value.pointer (some ⟨br, 0, none⟩)) rfl rfl rfl rfl ?_
  replace hM := bind_sm hM; obtain ⟨r5, hr6, hM⟩ := hM
  refine r_gv (Value.bool (r5)) 13 _ rfl rfl rfl (ev_callF rfl call_13 rfl) (fun own_ nw_ hs_ => wire_Reader_Bad_v1_g N r_0 r_1 r_2 _ hr6 hs_.view br r_0v ((rd_own hr_0 (mem_chunk (Ls := [[(br, 69, #[r_0v, Value.int .i64 (r_1), Value.int .i64 (r_2)])], Sr_0]) (k := 1) rfl rfl)) own_ nw_ hs_) (blk_own 0 rfl rfl own_ nw_ hs_)) (fun _ _ v_ L_ U_ => ⟨fun h_ => h_ _ hr6, fun h_ => by intro _ e_; cases Option.some.inj (e_.symm.trans hr6); exact h_⟩) ?_
  refine lx_nil ?_
  refine hK4 _ _ ?_; try clear hK4 K4
  refine A_cond (r5) rfl (fun hc7 => ?_) (fun hc7 => ?_)
  · replace hM := ifp hc7 hM
    refine A_seq fun K8 hK8 => ?_
    refine A_reg ?_
    refine r_v (Value.int .i64 (0)) rfl rfl rfl rfl ?_
    refine r_v (Value.int .i64 (0)) rfl rfl rfl rfl ?_
    refine lx_nil ?_
    refine hK8 _ _ ?_; try clear hK8 K8
    obtain rfl := Option.some.inj hM
    refine A_ret (fun hn => endsO (v0 := Value.int .i64 (0)) (O := [Sr_0, [(br, 69, #[r_0v, Value.int .i64 (r_1), Value.int .i64 (r_2)])]]) (res1 rfl) (Sub.pick [[(br, 69, #[r_0v, Value.int .i64 (r_1), Value.int .i64 (r_2)])], Sr_0] [1, 0] rfl) ⟨Sr_0, _, hr_0, ⟨rfl, rfl⟩, rfl⟩)
  · replace hM := ifn (Bool.eq_false_iff.1 hc7) hM
    refine A_skip ?_
    refine hK3 _ _ ?_; try clear hK3 K3
    refine A_seq fun K9 hK9 => ?_
    refine A_drawR [(some 24, false)] (conG Try.prog [(24, fun _ _ v_ L_ U_ => ∀ u0_, wire_Reader_number_1_v1_m N (((r_0).take ((r_0).length)).drop ((r_1).toNat)) first0_ first1_ first2_ = some u0_ → (pV (Value.tuple #[Value.int .i64 (u0_.1), Value.int .i64 (u0_.2.1), Value.int .i64 (u0_.2.2)])) v_ L_ U_)]) [] (by decide +kernel) (fun hn => sep_nil) ?_
    refine r_v (Value.func (.func 69) #[] #[Value.pointer (some ⟨bfirst0_, 0, none⟩), Value.pointer (some ⟨bfirst1_, 0, none⟩), Value.pointer (some ⟨bfirst2_, 0, none⟩)]) rfl rfl rfl rfl ?_
    refine r_v (Value.pointer (some ⟨br, 0, none⟩)) rfl rfl rfl rfl ?_
    refine r_v (Value.pointer (some ⟨br, 0, none⟩)) rfl rfl rfl rfl ?_
    refine r_v (Value.pointer (some ⟨br, 0, none⟩)) rfl rfl rfl rfl ?_
    refine r_l (r_0v) 0 _ _ _ _ rfl rfl rfl rfl rfl ?_
    refine r_v (Value.pointer (some ⟨br, 0, none⟩)) rfl rfl rfl rfl ?_
    refine r_v (Value.pointer (some ⟨br, 0, none⟩)) rfl rfl rfl rfl ?_
    refine r_v (Value.pointer (some ⟨br, 1, none⟩)) rfl rfl rfl rfl ?_
    refine r_v (Value.pointer (some ⟨br, 1, none⟩)) rfl rfl rfl rfl ?_
    refine r_l (Value.int .i64 (r_1)) 0 _ _ _ _ rfl rfl rfl rfl rfl ?_
    replace hM := ck_some hM; obtain ⟨ck10, hM⟩ := hM
    refine r_v (subA r_0v ((r_1).toNat) ((r_0).length) 1) rfl rfl rfl (ev_v (ev_subSl1 rfl rfl rfl rfl (Sl.shp hr_0) ck10)) ?_
    replace hM := bind_sm hM; obtain ⟨r11, hr12, hM⟩ := hM
    refine r_gv (Value.tuple #[Value.int .i64 (r11.1), Value.int .i64 (r11.2.1), Value.int .i64 (r11.2.2)]) 69 _ rfl rfl rfl (ev_callV (caps := [Value.pointer (some ⟨bfirst0_, 0, none⟩), Value.pointer (some ⟨bfirst1_, 0, none⟩), Value.pointer (some ⟨bfirst2_, 0, none⟩)]) rfl call_69 rfl) (fun own_ nw_ hs_ => wire_Reader_number_1_v1_g N (((r_0).take ((r_0).length)).drop ((r_1).toNat)) first0_ first1_ first2_ _ hr12 hs_.view (subA r_0v ((r_1).toNat) ((r_0).length) 1) ((rd_sub (rd_own hr_0 (mem_chunk (Ls := [[(br, 69, #[r_0v, Value.int .i64 (r_1), Value.int .i64 (r_2)])], Sr_0]) (k := 1) rfl rfl)) (toNat_len ck10.2) (Nat.le_refl _)) own_ nw_ hs_) bfirst0_ (blk_ro hbfirst0_ own_ nw_ hs_) bfirst1_ (blk_ro hbfirst1_ own_ nw_ hs_) bfirst2_ (blk_ro hbfirst2_ own_ nw_ hs_)) (fun _ _ v_ L_ U_ => ⟨fun h_ => h_ _ hr12, fun h_ => by intro _ e_; cases Option.some.inj (e_.symm.trans hr12); exact h_⟩) ?_
    refine r_v (Value.tuple #[Value.int .i64 (r11.1), Value.int .i64 (r11.2.1), Value.int .i64 (r11.2.2)]) rfl rfl rfl rfl ?_
    refine r_v (Value.int .i64 (r11.1)) rfl rfl rfl rfl ?_
    refine r_v (Value.int .i64 (r11.2.1)) rfl rfl rfl rfl ?_
    refine r_v (Value.int .i64 (r11.2.2)) rfl rfl rfl rfl ?_
    refine r_v (Value.int .i64 (r11.1)) rfl rfl rfl rfl ?_
    refine r_v (Value.int .i64 (r11.2.1)) rfl rfl rfl rfl ?_
    refine r_v (Value.int .i64 (r11.2.2)) rfl rfl rfl rfl ?_
    refine lx_nil ?_
    refine hK9 _ _ ?_; try clear hK9 K9
    refine A_seq fun K13 hK13 => ?_
    refine A_seq fun K14 hK14 => ?_
    refine A_reg ?_
    refine r_v (Value.int .i64 (r11.2.2)) rfl rfl rfl rfl ?_
    refine r_v (Value.bool (((r11.2.2 : Int) != 0))) rfl rfl rfl rfl ?_
    refine lx_nil ?_
    refine hK14 _ _ ?_; try clear hK14 K14
    refine A_cond (((r11.2.2 : Int) != 0)) rfl (fun hc15 => ?_) (fun hc15 => ?_)
    · replace hM := ifp (bne_iff_ne.1 hc15) hM
      refine A_seq fun K16 hK16 => ?_
      refine A_regC [(some 34, true)] (conG Try.prog [(34, fun _ _ v_ L_ U_ => ∀ u0_, wire_spot_fail_v2_m N r_0 r_1 r_2 r11.2.2 = some u0_ → (pO (List.flatten [[(br, 69, #[r_0v, Value.int .i64 (r_1), Value.int .i64 (r_2)])], Sr_0]) (oI 5 encY r_0v u0_.1 (oE (Value.tuple #[]) [[(br, 69, #[r_0v, Value.int .i64 (u0_.2.1), Value.int .i64 (u0_.2.2)])]]))) v_ L_ U_)]) ?_
      refine r_v (Value.pointer (some ⟨br, 0, none⟩)) rfl rfl rfl rfl ?_
      refine r_v (Value.pointer (some ⟨br, 0, none⟩)) rfl rfl rfl rfl ?_
      refine r_v (Value.pointer (some ⟨br, 1, none⟩)) rfl rfl rfl rfl ?_
      refine r_v (Value.int .i64 (r11.2.2)) rfl rfl rfl rfl ?_
      replace hM := bind_sm hM; obtain ⟨r17, hr18, hM⟩ := hM
      replace hM := ck_some hM; obtain ⟨ck19, hM⟩ := hM
      refine r_gm (Ls := [[(br, 69, #[r_0v, Value.int .i64 (r_1), Value.int .i64 (r_2)])], Sr_0]) (FL := [[(br, 69, #[r_0v, Value.int .i64 (r_1), Value.int .i64 (r_2)])], Sr_0]) (RL := []) [0, 1] (oI 5 encY r_0v r17.1 (oE (Value.tuple #[]) [[(br, 69, #[r_0v, Value.int .i64 (r17.2.1), Value.int .i64 (r17.2.2)])]])) (some 34) 66 _ rfl rfl rfl rfl rfl (ev_callF rfl call_66 rfl) (fun own_ nw_ hn_ hs_ => wire_spot_fail_v2_g N r_0 r_1 r_2 r11.2.2 _ hr18 _ br r_0v Sr_0 hr_0) (fun _ _ v_ L_ U_ => ⟨fun h_ => h_ _ hr18, fun h_ => by intro _ e_; cases Option.some.inj (e_.symm.trans hr18); exact h_⟩) (fun h_ => nomatch h_) ?_
      rintro _ _ ⟨S20, _, H21, ⟨rfl, rfl⟩, rfl⟩
      refine lx_perm (Ls := [S20, [(br, 69, #[r_0v, Value.int .i64 (r17.2.1), Value.int .i64 (r17.2.2)])]]) (Ls' := [[(br, 69, #[r_0v, Value.int .i64 (r17.2.1), Value.int .i64 (r17.2.2)])], S20]) [1, 0] rfl rfl ?_
      refine lx_nil ?_
      refine hK16 _ _ ?_; try clear hK16 K16
      refine A_gen [(5, Value.int .i64 (0))] rfl (fun T => ?_)
      refine A_seq fun K22 hK22 => ?_
      refine A_reg ?_
      refine r_v (Value.int .i64 (0)) rfl rfl rfl rfl ?_
      refine r_v (Value.int .i64 (0)) rfl rfl rfl rfl ?_
      refine lx_nil ?_
      refine hK22 _ _ ?_; try clear hK22 K22
      obtain rfl := Option.some.inj hM
      refine A_ret (fun hn => endsO (v0 := Value.int .i64 (0)) (O := [S20, [(br, 69, #[r_0v, Value.int .i64 (r17.2.1), Value.int .i64 (r17.2.2)])]]) (res1 rfl) (Sub.pick [[(br, 69, #[r_0v, Value.int .i64 (r17.2.1), Value.int .i64 (r17.2.2)])], S20] [1, 0] rfl) ⟨S20, _, H21, ⟨rfl, rfl⟩, rfl⟩)
    · replace hM := ifn (bne_f hc15) hM
      refine A_skip ?_
      refine hK13 _ _ ?_; try clear hK13 K13
      refine A_seq fun K23 hK23 => ?_
      refine A_reg ?_
      refine r_v (Value.pointer (some ⟨br, 0, none⟩)) rfl rfl rfl rfl ?_
      refine r_v (Value.pointer (some ⟨br, 0, none⟩)) rfl rfl rfl rfl ?_
      refine r_v (Value.pointer (some ⟨br, 1, none⟩)) rfl rfl rfl rfl ?_
      refine r_v (Value.pointer (some ⟨br, 1, none⟩)) rfl rfl rfl rfl ?_
      refine r_l (Value.int .i64 (r_1)) 0 _ _ _ _ rfl rfl rfl rfl rfl ?_
      refine r_v (Value.int .i64 (r11.2.1)) rfl rfl rfl rfl ?_
      replace hM := ck_some hM; obtain ⟨ck24, hM⟩ := hM
      refine r_v (Value.int .i64 ((r_1 + r11.2.1))) rfl rfl (wi64 rfl ck24.1 ck24.2) rfl ?_
      refine r_v (Value.pointer (some ⟨br, 0, none⟩)) rfl rfl rfl rfl ?_
      refine r_v (Value.pointer (some ⟨br, 1, none⟩)) rfl rfl rfl rfl ?_
      refine r_v (Value.pointer (some ⟨br, 1, none⟩)) rfl rfl rfl rfl ?_
      refine r_s (List.flatten [[(br, 69, #[r_0v, Value.int .i64 ((r_1 + r11.2.1)), Value.int .i64 (r_2)])], Sr_0]) 0 _ _ _ (#[r_0v, Value.int .i64 (r_1), Value.int .i64 (r_2)]) (#[Value.int .i64 ((r_1 + r11.2.1))]) (#[r_0v, Value.int .i64 ((r_1 + r11.2.1)), Value.int .i64 (r_2)]) rfl rfl rfl rfl (.of rfl rfl) rfl rfl ?_
      refine lx_nil ?_
      refine hK23 _ _ ?_; try clear hK23 K23
      refine A_gen [(6, Value.int .i64 (r11.1))] rfl (fun T => ?_)
      refine A_seq fun K25 hK25 => ?_
      refine A_reg ?_
      refine r_v (Value.int .i64 (r11.1)) rfl rfl rfl rfl ?_
      refine r_v (Value.int .i64 (r11.1)) rfl rfl rfl rfl ?_
      refine lx_nil ?_
      refine hK25 _ _ ?_; try clear hK25 K25
      obtain rfl := Option.some.inj hM
      refine A_ret (fun hn => endsO (v0 := Value.int .i64 (r11.1)) (O := [Sr_0, [(br, 69, #[r_0v, Value.int .i64 ((r_1 + r11.2.1)), Value.int .i64 (r_2)])]]) (res1 rfl) (Sub.pick [[(br, 69, #[r_0v, Value.int .i64 ((r_1 + r11.2.1)), Value.int .i64 (r_2)])], Sr_0] [1, 0] rfl) ⟨Sr_0, _, hr_0, ⟨rfl, rfl⟩, rfl⟩)
def wire_Reader_number_v2_m (N : Nat) (r_0 : List UInt8) (r_1 : Int) (r_2 : Int) (count : Int) (most : Int) (e' : Int) : Option (Int × (List UInt8) × Int × Int) := (wire_take_int__v2_m N r_0 r_1 r_2 count most e').bind fun r6 => ck ((r6.2.1).length = (r_0).length) (some (r6.1, r6.2.1, r6.2.2.1, r6.2.2.2))
set_option maxRecDepth 100000 in
set_option maxHeartbeats 8000000 in
theorem wire_Reader_number_v2_g (N : Nat) (r_0 : List UInt8) (r_1 : Int) (r_2 : Int) (count : Int) (most : Int) (e' : Int) (r : Int × (List UInt8) × Int × Int) (hM : wire_Reader_number_v2_m N r_0 r_1 r_2 count most e' = some r) (ro : Addr → Option Value) (br : Nat) (r_0v : Value) (Sr_0 : List Bl) (hr_0 : Sl 5 encY r_0v r_0 Sr_0) : Does Try.prog 47 #[Value.pointer (some ⟨br, 0, none⟩), Value.int .i64 (count), Value.int .i64 (most), Value.int .i64 (e')] ro (List.flatten [[(br, 69, #[r_0v, Value.int .i64 (r_1), Value.int .i64 (r_2)])], Sr_0]) (pO (List.flatten [[(br, 69, #[r_0v, Value.int .i64 (r_1), Value.int .i64 (r_2)])], Sr_0]) (oI 5 encY r_0v r.2.1 (oE (Value.int .i64 (r.1)) [[(br, 69, #[r_0v, Value.int .i64 (r.2.2.1), Value.int .i64 (r.2.2.2)])]]))) := by
  unfold wire_Reader_number_v2_m at hM
  refine doesO_of_A follows Try.func47 rfl 12 rfl (upd (upd (upd (upd (fun _ => undef) 3 (Value.int .i64 (e'))) 2 (Value.int .i64 (most))) 1 (Value.int .i64 (count))) 0 (Value.pointer (some ⟨br, 0, none⟩))) (by funext k; match k with | 0 => rfl | 1 => rfl | 2 => rfl | 3 => rfl | k + 4 => rfl) (fun _ _ h_ _ => h_) (fun base0_ => ?_)
  refine A_seq fun K1 hK1 => ?_
  refine A_reg ?_
  refine r_a (3, #[Value.int .i64 (count)]) rfl rfl rfl (fun b2 => ?_) (.inr rfl)
  refine r_a (3, #[Value.int .i64 (most)]) rfl rfl rfl (fun b3 => ?_) (.inr rfl)
  refine r_a (37, #[Value.int .i64 (e')]) rfl rfl rfl (fun b4 => ?_) (.inr rfl)
  refine r_v (Value.int .i64 (0)) rfl rfl rfl rfl ?_
  refine lx_nil ?_
  refine hK1 _ _ ?_; try clear hK1 K1
  refine A_seq fun K5 hK5 => ?_
  refine A_regC [(some 11, true)] (conG Try.prog [(11, fun _ _ v_ L_ U_ => ∀ u0_, wire_take_int__v2_m N r_0 r_1 r_2 count most e' = some u0_ → (pO (List.flatten [[(br, 69, #[r_0v, Value.int .i64 (r_1), Value.int .i64 (r_2)])], Sr_0]) (oI 5 encY r_0v u0_.2.1 (oE (Value.int .i64 (u0_.1)) [[(br, 69, #[r_0v, Value.int .i64 (u0_.2.2.1), Value.int .i64 (u0_.2.2.2)])]]))) v_ L_ U_)]) ?_
  refine r_v (Value.pointer (some ⟨br, 0, none⟩)) rfl rfl rfl rfl ?_
  refine r_v (Value.func (.func 69) #[] #[Value.pointer (some ⟨b2, 0, none⟩), Value.pointer (some ⟨b3, 0, none⟩), Value.pointer (some ⟨b4, 0, none⟩)]) rfl rfl rfl (ev_mkF rfl) ?_
  replace hM := bind_sm hM; obtain ⟨r6, hr7, hM⟩ := hM
  replace hM := ck_some hM; obtain ⟨ck8, hM⟩ := hM
  refine r_gm (Ls := [[(b4, 37, #[Value.int .i64 (e')])], [(b3, 3, #[Value.int .i64 (most)])], [(b2, 3, #[Value.int .i64 (count)])], [(br, 69, #[r_0v, Value.int .i64 (r_1), Value.int .i64 (r_2)])], Sr_0]) (FL := [[(br, 69, #[r_0v, Value.int .i64 (r_1), Value.int .i64 (r_2)])], Sr_0]) (RL := [[(b4, 37, #[Value.int .i64 (e')])], [(b3, 3, #[Value.int .i64 (most)])], [(b2, 3, #[Value.int .i64 (count)])]]) [3, 4] (oI 5 encY r_0v r6.2.1 (oE (Value.int .i64 (r6.1)) [[(br, 69, #[r_0v, Value.int .i64 (r6.2.2.1), Value.int .i64 (r6.2.2.2)])]])) (some 11) 68 _ rfl rfl rfl rfl rfl (ev_callF rfl call_68 rfl) (fun own_ nw_ hn_ hs_ => wire_take_int__v2_g N r_0 r_1 r_2 count most e' _ hr7 _ br r_0v Sr_0 hr_0 b2 (blk_sans (Ls := [[(b4, 37, #[Value.int .i64 (e')])], [(b3, 3, #[Value.int .i64 (most)])], [(b2, 3, #[Value.int .i64 (count)])], [(br, 69, #[r_0v, Value.int .i64 (r_1), Value.int .i64 (r_2)])], Sr_0]) (is := [3, 4]) 2 rfl rfl hn_ hs_) b3 (blk_sans (Ls := [[(b4, 37, #[Value.int .i64 (e')])], [(b3, 3, #[Value.int .i64 (most)])], [(b2, 3, #[Value.int .i64 (count)])], [(br, 69, #[r_0v, Value.int .i64 (r_1), Value.int .i64 (r_2)])], Sr_0]) (is := [3, 4]) 1 rfl rfl hn_ hs_) b4 (blk_sans (Ls := [[(b4, 37, #[Value.int .i64 (e')])], [(b3, 3, #[Value.int .i64 (most)])], [(b2, 3, #[Value.int .i64 (count)])], [(br, 69, #[r_0v, Value.int .i64 (r_1), Value.int .i64 (r_2)])], Sr_0]) (is := [3, 4]) 0 rfl rfl hn_ hs_)) (fun _ _ v_ L_ U_ => ⟨fun h_ => h_ _ hr7, fun h_ => by intro _ e_; cases Option.some.inj (e_.symm.trans hr7); exact h_⟩) (fun h_ => nomatch h_) ?_
  rintro _ _ ⟨S9, _, H10, ⟨rfl, rfl⟩, rfl⟩
  refine lx_perm (Ls := [[(b4, 37, #[Value.int .i64 (e')])], [(b3, 3, #[Value.int .i64 (most)])], [(b2, 3, #[Value.int .i64 (count)])], S9, [(br, 69, #[r_0v, Value.int .i64 (r6.2.2.1), Value.int .i64 (r6.2.2.2)])]]) (Ls' := [[(b4, 37, #[Value.int .i64 (e')])], [(b3, 3, #[Value.int .i64 (most)])], [(b2, 3, #[Value.int .i64 (count)])], [(br, 69, #[r_0v, Value.int .i64 (r6.2.2.1), Value.int .i64 (r6.2.2.2)])], S9]) [0, 1, 2, 4, 3] rfl rfl ?_
  refine r_v (Value.int .i64 (r6.1)) rfl rfl rfl rfl ?_
  refine lx_nil ?_
  refine hK5 _ _ ?_; try clear hK5 K5
  obtain rfl := Option.some.inj hM
  refine A_ret (fun hn => endsO (v0 := Value.int .i64 (r6.1)) (O := [S9, [(br, 69, #[r_0v, Value.int .i64 (r6.2.2.1), Value.int .i64 (r6.2.2.2)])]]) (res1 rfl) (Sub.pick [[(b4, 37, #[Value.int .i64 (e')])], [(b3, 3, #[Value.int .i64 (most)])], [(b2, 3, #[Value.int .i64 (count)])], [(br, 69, #[r_0v, Value.int .i64 (r6.2.2.1), Value.int .i64 (r6.2.2.2)])], S9] [4, 3] rfl) ⟨S9, _, H10, ⟨rfl, rfl⟩, rfl⟩)
def wire_Reader_Byte_v2_m (N : Nat) (r_0 : List UInt8) (r_1 : Int) (r_2 : Int) (most : Int) : Option (Int × (List UInt8) × Int × Int) := (wire_Reader_number_v2_m N r_0 r_1 r_2 1 most 7).bind fun r3 => ck ((r3.2.1).length = (r_0).length) (some (r3.1, r3.2.1, r3.2.2.1, r3.2.2.2))
set_option maxRecDepth 100000 in
set_option maxHeartbeats 8000000 in
theorem wire_Reader_Byte_v2_g (N : Nat) (r_0 : List UInt8) (r_1 : Int) (r_2 : Int) (most : Int) (r : Int × (List UInt8) × Int × Int) (hM : wire_Reader_Byte_v2_m N r_0 r_1 r_2 most = some r) (ro : Addr → Option Value) (br : Nat) (r_0v : Value) (Sr_0 : List Bl) (hr_0 : Sl 5 encY r_0v r_0 Sr_0) : Does Try.prog 19 #[Value.pointer (some ⟨br, 0, none⟩), Value.int .i64 (most)] ro (List.flatten [[(br, 69, #[r_0v, Value.int .i64 (r_1), Value.int .i64 (r_2)])], Sr_0]) (pO (List.flatten [[(br, 69, #[r_0v, Value.int .i64 (r_1), Value.int .i64 (r_2)])], Sr_0]) (oI 5 encY r_0v r.2.1 (oE (Value.int .i64 (r.1)) [[(br, 69, #[r_0v, Value.int .i64 (r.2.2.1), Value.int .i64 (r.2.2.2)])]]))) := by
  unfold wire_Reader_Byte_v2_m at hM
  refine doesO_of_A follows Try.func19 rfl 8 rfl (upd (upd (fun _ => undef) 1 (Value.int .i64 (most))) 0 (Value.pointer (some ⟨br, 0, none⟩))) (by funext k; match k with | 0 => rfl | 1 => rfl | k + 2 => rfl) (fun _ _ h_ _ => h_) (fun base0_ => ?_)
  refine A_seq fun K1 hK1 => ?_
  refine A_reg ?_
  refine r_v (Value.int .i64 (0)) rfl rfl rfl rfl ?_
  refine lx_nil ?_
  refine hK1 _ _ ?_; try clear hK1 K1
  refine A_seq fun K2 hK2 => ?_
  refine A_regC [(some 7, true)] (conG Try.prog [(7, fun _ _ v_ L_ U_ => ∀ u0_, wire_Reader_number_v2_m N r_0 r_1 r_2 1 most 7 = some u0_ → (pO (List.flatten [[(br, 69, #[r_0v, Value.int .i64 (r_1), Value.int .i64 (r_2)])], Sr_0]) (oI 5 encY r_0v u0_.2.1 (oE (Value.int .i64 (u0_.1)) [[(br, 69, #[r_0v, Value.int .i64 (u0_.2.2.1), Value.int .i64 (u0_.2.2.2)])]]))) v_ L_ U_)]) ?_
  refine r_v (Value.pointer (some ⟨br, 0, none⟩)) rfl rfl rfl rfl ?_
  refine r_v (Value.int .i64 (most)) rfl rfl rfl rfl ?_
  replace hM := bind_sm hM; obtain ⟨r3, hr4, hM⟩ := hM
  replace hM := ck_some hM; obtain ⟨ck5, hM⟩ := hM
  refine r_gm (Ls := [[(br, 69, #[r_0v, Value.int .i64 (r_1), Value.int .i64 (r_2)])], Sr_0]) (FL := [[(br, 69, #[r_0v, Value.int .i64 (r_1), Value.int .i64 (r_2)])], Sr_0]) (RL := []) [0, 1] (oI 5 encY r_0v r3.2.1 (oE (Value.int .i64 (r3.1)) [[(br, 69, #[r_0v, Value.int .i64 (r3.2.2.1), Value.int .i64 (r3.2.2.2)])]])) (some 7) 47 _ rfl rfl rfl rfl rfl (ev_callF rfl call_47 rfl) (fun own_ nw_ hn_ hs_ => wire_Reader_number_v2_g N r_0 r_1 r_2 1 most 7 _ hr4 _ br r_0v Sr_0 hr_0) (fun _ _ v_ L_ U_ => ⟨fun h_ => h_ _ hr4, fun h_ => by intro _ e_; cases Option.some.inj (e_.symm.trans hr4); exact h_⟩) (fun h_ => nomatch h_) ?_
  rintro _ _ ⟨S6, _, H7, ⟨rfl, rfl⟩, rfl⟩
  refine lx_perm (Ls := [S6, [(br, 69, #[r_0v, Value.int .i64 (r3.2.2.1), Value.int .i64 (r3.2.2.2)])]]) (Ls' := [[(br, 69, #[r_0v, Value.int .i64 (r3.2.2.1), Value.int .i64 (r3.2.2.2)])], S6]) [1, 0] rfl rfl ?_
  refine r_v (Value.int .i64 (r3.1)) rfl rfl rfl rfl ?_
  refine lx_nil ?_
  refine hK2 _ _ ?_; try clear hK2 K2
  obtain rfl := Option.some.inj hM
  refine A_ret (fun hn => endsO (v0 := Value.int .i64 (r3.1)) (O := [S6, [(br, 69, #[r_0v, Value.int .i64 (r3.2.2.1), Value.int .i64 (r3.2.2.2)])]]) (res1 rfl) (Sub.pick [[(br, 69, #[r_0v, Value.int .i64 (r3.2.2.1), Value.int .i64 (r3.2.2.2)])], S6] [1, 0] rfl) ⟨S6, _, H7, ⟨rfl, rfl⟩, rfl⟩)
def wire_Reader_Two_v1_m (N : Nat) (r_0 : List UInt8) (r_1 : Int) (r_2 : Int) (most : Int) : Option (Int × (List UInt8) × Int × Int) := (wire_Reader_number_v2_m N r_0 r_1 r_2 2 most 7).bind fun r3 => ck ((r3.2.1).length = (r_0).length) (some (r3.1, r3.2.1, r3.2.2.1, r3.2.2.2))
set_option maxRecDepth 100000 in
set_option maxHeartbeats 8000000 in
theorem wire_Reader_Two_v1_g (N : Nat) (r_0 : List UInt8) (r_1 : Int) (r_2 : Int) (most : Int) (r : Int × (List UInt8) × Int × Int) (hM : wire_Reader_Two_v1_m N r_0 r_1 r_2 most = some r) (ro : Addr → Option Value) (br : Nat) (r_0v : Value) (Sr_0 : List Bl) (hr_0 : Sl 5 encY r_0v r_0 Sr_0) : Does Try.prog 20 #[Value.pointer (some ⟨br, 0, none⟩), Value.int .i64 (most)] ro (List.flatten [[(br, 69, #[r_0v, Value.int .i64 (r_1), Value.int .i64 (r_2)])], Sr_0]) (pO (List.flatten [[(br, 69, #[r_0v, Value.int .i64 (r_1), Value.int .i64 (r_2)])], Sr_0]) (oI 5 encY r_0v r.2.1 (oE (Value.int .i64 (r.1)) [[(br, 69, #[r_0v, Value.int .i64 (r.2.2.1), Value.int .i64 (r.2.2.2)])]]))) := by
  unfold wire_Reader_Two_v1_m at hM
  refine doesO_of_A follows Try.func20 rfl 8 rfl (upd (upd (fun _ => undef) 1 (Value.int .i64 (most))) 0 (Value.pointer (some ⟨br, 0, none⟩))) (by funext k; match k with | 0 => rfl | 1 => rfl | k + 2 => rfl) (fun _ _ h_ _ => h_) (fun base0_ => ?_)
  refine A_seq fun K1 hK1 => ?_
  refine A_reg ?_
  refine r_v (Value.int .i64 (0)) rfl rfl rfl rfl ?_
  refine lx_nil ?_
  refine hK1 _ _ ?_; try clear hK1 K1
  refine A_seq fun K2 hK2 => ?_
  refine A_regC [(some 7, true)] (conG Try.prog [(7, fun _ _ v_ L_ U_ => ∀ u0_, wire_Reader_number_v2_m N r_0 r_1 r_2 2 most 7 = some u0_ → (pO (List.flatten [[(br, 69, #[r_0v, Value.int .i64 (r_1), Value.int .i64 (r_2)])], Sr_0]) (oI 5 encY r_0v u0_.2.1 (oE (Value.int .i64 (u0_.1)) [[(br, 69, #[r_0v, Value.int .i64 (u0_.2.2.1), Value.int .i64 (u0_.2.2.2)])]]))) v_ L_ U_)]) ?_
  refine r_v (Value.pointer (some ⟨br, 0, none⟩)) rfl rfl rfl rfl ?_
  refine r_v (Value.int .i64 (most)) rfl rfl rfl rfl ?_
  replace hM := bind_sm hM; obtain ⟨r3, hr4, hM⟩ := hM
  replace hM := ck_some hM; obtain ⟨ck5, hM⟩ := hM
  refine r_gm (Ls := [[(br, 69, #[r_0v, Value.int .i64 (r_1), Value.int .i64 (r_2)])], Sr_0]) (FL := [[(br, 69, #[r_0v, Value.int .i64 (r_1), Value.int .i64 (r_2)])], Sr_0]) (RL := []) [0, 1] (oI 5 encY r_0v r3.2.1 (oE (Value.int .i64 (r3.1)) [[(br, 69, #[r_0v, Value.int .i64 (r3.2.2.1), Value.int .i64 (r3.2.2.2)])]])) (some 7) 47 _ rfl rfl rfl rfl rfl (ev_callF rfl call_47 rfl) (fun own_ nw_ hn_ hs_ => wire_Reader_number_v2_g N r_0 r_1 r_2 2 most 7 _ hr4 _ br r_0v Sr_0 hr_0) (fun _ _ v_ L_ U_ => ⟨fun h_ => h_ _ hr4, fun h_ => by intro _ e_; cases Option.some.inj (e_.symm.trans hr4); exact h_⟩) (fun h_ => nomatch h_) ?_
  rintro _ _ ⟨S6, _, H7, ⟨rfl, rfl⟩, rfl⟩
  refine lx_perm (Ls := [S6, [(br, 69, #[r_0v, Value.int .i64 (r3.2.2.1), Value.int .i64 (r3.2.2.2)])]]) (Ls' := [[(br, 69, #[r_0v, Value.int .i64 (r3.2.2.1), Value.int .i64 (r3.2.2.2)])], S6]) [1, 0] rfl rfl ?_
  refine r_v (Value.int .i64 (r3.1)) rfl rfl rfl rfl ?_
  refine lx_nil ?_
  refine hK2 _ _ ?_; try clear hK2 K2
  obtain rfl := Option.some.inj hM
  refine A_ret (fun hn => endsO (v0 := Value.int .i64 (r3.1)) (O := [S6, [(br, 69, #[r_0v, Value.int .i64 (r3.2.2.1), Value.int .i64 (r3.2.2.2)])]]) (res1 rfl) (Sub.pick [[(br, 69, #[r_0v, Value.int .i64 (r3.2.2.1), Value.int .i64 (r3.2.2.2)])], S6] [1, 0] rfl) ⟨S6, _, H7, ⟨rfl, rfl⟩, rfl⟩)
def wire_Reader_Four_v1_m (N : Nat) (r_0 : List UInt8) (r_1 : Int) (r_2 : Int) (most : Int) : Option (Int × (List UInt8) × Int × Int) := (wire_Reader_number_v2_m N r_0 r_1 r_2 4 most 7).bind fun r3 => ck ((r3.2.1).length = (r_0).length) (some (r3.1, r3.2.1, r3.2.2.1, r3.2.2.2))
set_option maxRecDepth 100000 in
set_option maxHeartbeats 8000000 in
theorem wire_Reader_Four_v1_g (N : Nat) (r_0 : List UInt8) (r_1 : Int) (r_2 : Int) (most : Int) (r : Int × (List UInt8) × Int × Int) (hM : wire_Reader_Four_v1_m N r_0 r_1 r_2 most = some r) (ro : Addr → Option Value) (br : Nat) (r_0v : Value) (Sr_0 : List Bl) (hr_0 : Sl 5 encY r_0v r_0 Sr_0) : Does Try.prog 21 #[Value.pointer (some ⟨br, 0, none⟩), Value.int .i64 (most)] ro (List.flatten [[(br, 69, #[r_0v, Value.int .i64 (r_1), Value.int .i64 (r_2)])], Sr_0]) (pO (List.flatten [[(br, 69, #[r_0v, Value.int .i64 (r_1), Value.int .i64 (r_2)])], Sr_0]) (oI 5 encY r_0v r.2.1 (oE (Value.int .i64 (r.1)) [[(br, 69, #[r_0v, Value.int .i64 (r.2.2.1), Value.int .i64 (r.2.2.2)])]]))) := by
  unfold wire_Reader_Four_v1_m at hM
  refine doesO_of_A follows Try.func21 rfl 8 rfl (upd (upd (fun _ => undef) 1 (Value.int .i64 (most))) 0 (Value.pointer (some ⟨br, 0, none⟩))) (by funext k; match k with | 0 => rfl | 1 => rfl | k + 2 => rfl) (fun _ _ h_ _ => h_) (fun base0_ => ?_)
  refine A_seq fun K1 hK1 => ?_
  refine A_reg ?_
  refine r_v (Value.int .i64 (0)) rfl rfl rfl rfl ?_
  refine lx_nil ?_
  refine hK1 _ _ ?_; try clear hK1 K1
  refine A_seq fun K2 hK2 => ?_
  refine A_regC [(some 7, true)] (conG Try.prog [(7, fun _ _ v_ L_ U_ => ∀ u0_, wire_Reader_number_v2_m N r_0 r_1 r_2 4 most 7 = some u0_ → (pO (List.flatten [[(br, 69, #[r_0v, Value.int .i64 (r_1), Value.int .i64 (r_2)])], Sr_0]) (oI 5 encY r_0v u0_.2.1 (oE (Value.int .i64 (u0_.1)) [[(br, 69, #[r_0v, Value.int .i64 (u0_.2.2.1), Value.int .i64 (u0_.2.2.2)])]]))) v_ L_ U_)]) ?_
  refine r_v (Value.pointer (some ⟨br, 0, none⟩)) rfl rfl rfl rfl ?_
  refine r_v (Value.int .i64 (most)) rfl rfl rfl rfl ?_
  replace hM := bind_sm hM; obtain ⟨r3, hr4, hM⟩ := hM
  replace hM := ck_some hM; obtain ⟨ck5, hM⟩ := hM
  refine r_gm (Ls := [[(br, 69, #[r_0v, Value.int .i64 (r_1), Value.int .i64 (r_2)])], Sr_0]) (FL := [[(br, 69, #[r_0v, Value.int .i64 (r_1), Value.int .i64 (r_2)])], Sr_0]) (RL := []) [0, 1] (oI 5 encY r_0v r3.2.1 (oE (Value.int .i64 (r3.1)) [[(br, 69, #[r_0v, Value.int .i64 (r3.2.2.1), Value.int .i64 (r3.2.2.2)])]])) (some 7) 47 _ rfl rfl rfl rfl rfl (ev_callF rfl call_47 rfl) (fun own_ nw_ hn_ hs_ => wire_Reader_number_v2_g N r_0 r_1 r_2 4 most 7 _ hr4 _ br r_0v Sr_0 hr_0) (fun _ _ v_ L_ U_ => ⟨fun h_ => h_ _ hr4, fun h_ => by intro _ e_; cases Option.some.inj (e_.symm.trans hr4); exact h_⟩) (fun h_ => nomatch h_) ?_
  rintro _ _ ⟨S6, _, H7, ⟨rfl, rfl⟩, rfl⟩
  refine lx_perm (Ls := [S6, [(br, 69, #[r_0v, Value.int .i64 (r3.2.2.1), Value.int .i64 (r3.2.2.2)])]]) (Ls' := [[(br, 69, #[r_0v, Value.int .i64 (r3.2.2.1), Value.int .i64 (r3.2.2.2)])], S6]) [1, 0] rfl rfl ?_
  refine r_v (Value.int .i64 (r3.1)) rfl rfl rfl rfl ?_
  refine lx_nil ?_
  refine hK2 _ _ ?_; try clear hK2 K2
  obtain rfl := Option.some.inj hM
  refine A_ret (fun hn => endsO (v0 := Value.int .i64 (r3.1)) (O := [S6, [(br, 69, #[r_0v, Value.int .i64 (r3.2.2.1), Value.int .i64 (r3.2.2.2)])]]) (res1 rfl) (Sub.pick [[(br, 69, #[r_0v, Value.int .i64 (r3.2.2.1), Value.int .i64 (r3.2.2.2)])], S6] [1, 0] rfl) ⟨S6, _, H7, ⟨rfl, rfl⟩, rfl⟩)
def shunterref07_fail_v1_k2 (r_0 : List UInt8) (r_1 : Int) (r_2 : Int) (r_3 : Int) (e' : Int) (at' : Int) (x1_ : Bool) : Option ((List UInt8) × Int × Int × Int) := if (x1_) = true then some (r_0, r_1, e', at') else some (r_0, r_1, r_2, r_3)
def shunterref07_fail_v1_m (_ : Nat) (r_0 : List UInt8) (r_1 : Int) (r_2 : Int) (r_3 : Int) (e' : Int) (at' : Int) : Option ((List UInt8) × Int × Int × Int) := if (r_2 : Int) = 0 then shunterref07_fail_v1_k2 r_0 r_1 r_2 r_3 e' at' (((e' : Int) != 0)) else shunterref07_fail_v1_k2 r_0 r_1 r_2 r_3 e' at' (false)
set_option maxRecDepth 100000 in
set_option maxHeartbeats 8000000 in
theorem shunterref07_fail_v1_g (N : Nat) (r_0 : List UInt8) (r_1 : Int) (r_2 : Int) (r_3 : Int) (e' : Int) (at' : Int) (r : (List UInt8) × Int × Int × Int) (hM : shunterref07_fail_v1_m N r_0 r_1 r_2 r_3 e' at' = some r) (ro : Addr → Option Value) (r_0v : Value) (hr_0 : Rd encY ro r_0v r_0) : Does Try.prog 60 #[Value.agg #[r_0v, Value.int .i64 (r_1), Value.int .i64 (r_2), Value.int .i64 (r_3)], Value.int .i64 (e'), Value.int .i64 (at')] ro [] (pO [] (oR encY ro r.1 fun s_0 => (oE (Value.agg #[s_0, Value.int .i64 (r.2.1), Value.int .i64 (r.2.2.1), Value.int .i64 (r.2.2.2)]) []))) := by
  unfold shunterref07_fail_v1_m at hM
  refine doesO_of_A follows Try.func60 rfl 19 rfl (upd (upd (upd (fun _ => undef) 2 (Value.int .i64 (at'))) 1 (Value.int .i64 (e'))) 0 (Value.agg #[r_0v, Value.int .i64 (r_1), Value.int .i64 (r_2), Value.int .i64 (r_3)])) (by funext k; match k with | 0 => rfl | 1 => rfl | 2 => rfl | k + 3 => rfl) (fun _ _ h_ _ => h_) (fun base0_ => ?_)
  refine A_seq fun K1 hK1 => ?_
  refine A_reg ?_
  refine r_a (39, #[r_0v, Value.int .i64 (r_1), Value.int .i64 (r_2), Value.int .i64 (r_3)]) rfl rfl rfl (fun b2 => ?_) (.inr rfl)
  refine r_a (39, #[Value.slice none 0 0, Value.int .i64 (0), Value.int .i64 (0), Value.int .i64 (0)]) rfl rfl rfl (fun b3 => ?_) (.inr rfl)
  refine lx_nil ?_
  refine hK1 _ _ ?_; try clear hK1 K1
  refine A_seq fun K4 hK4 => ?_
  refine A_cut (fun tt ll => ∃ (x1_ : Bool), (shunterref07_fail_v1_k2 r_0 r_1 r_2 r_3 e' at' x1_ = some r) ∧ Is [(1, Value.int .i64 (e')), (2, Value.int .i64 (at')), (3, Value.pointer (some ⟨b2, 0, none⟩)), (6, Value.pointer (some ⟨b3, 0, none⟩)), (13, Value.bool (x1_))] [(b3, 39, #[Value.slice none 0 0, Value.int .i64 (0), Value.int .i64 (0), Value.int .i64 (0)]), (b2, 39, #[r_0v, Value.int .i64 (r_1), Value.int .i64 (r_2), Value.int .i64 (r_3)])] tt ll) ?_ ?_
  · refine A_reg ?_
    refine r_v (Value.pointer (some ⟨b2, 2, none⟩)) rfl rfl rfl rfl ?_
    refine r_l (Value.int .i64 (r_2)) 1 _ _ _ _ rfl rfl rfl rfl rfl ?_
    refine r_v (Value.bool (((r_2 : Int) == 0))) rfl rfl rfl rfl ?_
    refine r_v (Value.bool (((r_2 : Int) == 0))) rfl rfl rfl rfl ?_
    rcases hg9 : (((r_2 : Int) == 0)) with _ | _
    · replace hM := ifn (ne_of_beq_false hg9) hM
      refine r_n false rfl (by decide) rfl ?_
      refine r_n false rfl (by decide) rfl ?_
      refine r_v (Value.bool (false)) rfl rfl rfl rfl ?_
      refine lx_nil ?_
      refine fg _ (Sub.of (List.Sublist.cons_cons _ (List.Sublist.cons_cons _ (List.Sublist.slnil)))) ?_
      exact ⟨false, hM, is_mk (by first | rfl | (simp only [hg9]; done) | (simp only [hg9]; rfl) | (simp only [app_hl]; rfl)) rfl⟩
    · replace hM := ifp (eq_of_beq hg9) hM
      refine r_y rfl ?_
      refine r_v (Value.int .i64 (e')) rfl rfl rfl rfl ?_
      refine r_y rfl ?_
      refine r_v (Value.bool (((e' : Int) != 0))) rfl rfl rfl rfl ?_
      refine r_v (Value.bool (((e' : Int) != 0))) rfl rfl rfl rfl ?_
      refine lx_nil ?_
      refine fg _ (Sub.of (List.Sublist.cons_cons _ (List.Sublist.cons_cons _ (List.Sublist.slnil)))) ?_
      exact ⟨((e' : Int) != 0), hM, is_mk (by first | rfl | (simp only [hg9]; done) | (simp only [hg9]; rfl) | (simp only [app_hl]; rfl)) rfl⟩
  · clear hM; rintro t l ⟨x1_, hM, ⟨T, rfl⟩, rfl⟩
    unfold shunterref07_fail_v1_k2 at hM
    refine A_cond (x1_) rfl (fun hc5 => ?_) (fun hc5 => ?_)
    · replace hM := ifp hc5 hM
      refine A_seq fun K6 hK6 => ?_
      refine A_reg ?_
      refine r_v (Value.int .i64 (e')) rfl rfl rfl rfl ?_
      refine r_v (Value.pointer (some ⟨b2, 2, none⟩)) rfl rfl rfl rfl ?_
      refine r_s [(b3, 39, #[Value.slice none 0 0, Value.int .i64 (0), Value.int .i64 (0), Value.int .i64 (0)]), (b2, 39, #[r_0v, Value.int .i64 (r_1), Value.int .i64 (e'), Value.int .i64 (r_3)])] 1 _ _ _ (#[r_0v, Value.int .i64 (r_1), Value.int .i64 (r_2), Value.int .i64 (r_3)]) (#[Value.int .i64 (e')]) (#[r_0v, Value.int .i64 (r_1), Value.int .i64 (e'), Value.int .i64 (r_3)]) rfl rfl rfl rfl (.of rfl rfl) rfl rfl ?_
      refine lx_nil ?_
      refine hK6 _ _ ?_; try clear hK6 K6
      refine A_reg ?_
      refine r_v (Value.int .i64 (at')) rfl rfl rfl rfl ?_
      refine r_v (Value.pointer (some ⟨b2, 3, none⟩)) rfl rfl rfl rfl ?_
      refine r_s [(b3, 39, #[Value.slice none 0 0, Value.int .i64 (0), Value.int .i64 (0), Value.int .i64 (0)]), (b2, 39, #[r_0v, Value.int .i64 (r_1), Value.int .i64 (e'), Value.int .i64 (at')])] 1 _ _ _ (#[r_0v, Value.int .i64 (r_1), Value.int .i64 (e'), Value.int .i64 (r_3)]) (#[Value.int .i64 (at')]) (#[r_0v, Value.int .i64 (r_1), Value.int .i64 (e'), Value.int .i64 (at')]) rfl rfl rfl rfl (.of rfl rfl) rfl rfl ?_
      refine lx_nil ?_
      refine hK4 _ _ ?_; try clear hK4 K4
      refine A_seq fun K7 hK7 => ?_
      refine A_reg ?_
      refine r_l (Value.agg #[r_0v, Value.int .i64 (r_1), Value.int .i64 (e'), Value.int .i64 (at')]) 1 _ _ _ _ rfl rfl rfl rfl rfl ?_
      refine r_s [(b3, 39, #[r_0v, Value.int .i64 (r_1), Value.int .i64 (e'), Value.int .i64 (at')]), (b2, 39, #[r_0v, Value.int .i64 (r_1), Value.int .i64 (e'), Value.int .i64 (at')])] 0 _ _ _ (#[Value.slice none 0 0, Value.int .i64 (0), Value.int .i64 (0), Value.int .i64 (0)]) (#[r_0v, Value.int .i64 (r_1), Value.int .i64 (e'), Value.int .i64 (at')]) (#[r_0v, Value.int .i64 (r_1), Value.int .i64 (e'), Value.int .i64 (at')]) rfl rfl rfl rfl (.ofS rfl rfl (all_cons' (Shp.one (Rd.shp hr_0)) (all_cons' rfl (all_cons' rfl (all_cons' rfl all_nil'))))) rfl rfl ?_
      refine lx_nil ?_
      refine hK7 _ _ ?_; try clear hK7 K7
      obtain rfl := Option.some.inj hM
      refine A_ret (fun hn => endsO (v0 := Value.agg #[r_0v, Value.int .i64 (r_1), Value.int .i64 (e'), Value.int .i64 (at')]) (O := []) (res1 (res_cell hn 0 rfl rfl rfl)) (Sub.nil _) ⟨r_0v, hr_0, ⟨rfl, rfl⟩⟩)
    · replace hM := ifn (Bool.eq_false_iff.1 hc5) hM
      refine A_skip ?_
      refine hK4 _ _ ?_; try clear hK4 K4
      refine A_seq fun K8 hK8 => ?_
      refine A_reg ?_
      refine r_l (Value.agg #[r_0v, Value.int .i64 (r_1), Value.int .i64 (r_2), Value.int .i64 (r_3)]) 1 _ _ _ _ rfl rfl rfl rfl rfl ?_
      refine r_s [(b3, 39, #[r_0v, Value.int .i64 (r_1), Value.int .i64 (r_2), Value.int .i64 (r_3)]), (b2, 39, #[r_0v, Value.int .i64 (r_1), Value.int .i64 (r_2), Value.int .i64 (r_3)])] 0 _ _ _ (#[Value.slice none 0 0, Value.int .i64 (0), Value.int .i64 (0), Value.int .i64 (0)]) (#[r_0v, Value.int .i64 (r_1), Value.int .i64 (r_2), Value.int .i64 (r_3)]) (#[r_0v, Value.int .i64 (r_1), Value.int .i64 (r_2), Value.int .i64 (r_3)]) rfl rfl rfl rfl (.ofS rfl rfl (all_cons' (Shp.one (Rd.shp hr_0)) (all_cons' rfl (all_cons' rfl (all_cons' rfl all_nil'))))) rfl rfl ?_
      refine lx_nil ?_
      refine hK8 _ _ ?_; try clear hK8 K8
      obtain rfl := Option.some.inj hM
      refine A_ret (fun hn => endsO (v0 := Value.agg #[r_0v, Value.int .i64 (r_1), Value.int .i64 (r_2), Value.int .i64 (r_3)]) (O := []) (res1 (res_cell hn 0 rfl rfl rfl)) (Sub.nil _) ⟨r_0v, hr_0, ⟨rfl, rfl⟩⟩)
def shunterref03_Bits_l7 (i2_ : Int) (rec_shunterref03_Bits_l3 : List Bool → Int → Option (List Bool)) : Nat → List Bool → Int → Int → Option (List Bool)
  | 0, _, _, _ => none
  | n13 + 1, l4_, n5_, k6_ => if (k6_ : Int) ≥ 1 then ck ((l4_).length + ([decide ((n5_ : Int) ≥ k6_)]).length ≤ 140737488355328) (if (n5_ : Int) ≥ k6_ then ck ((-9223372036854775808 ≤ (n5_ - k6_) ∧ (n5_ - k6_) ≤ 9223372036854775807)) (ck (0 ≤ k6_ ∧ k6_ ≤ 9223372036854775807) ((shunterref03_Bits_l7 i2_ rec_shunterref03_Bits_l3 n13) ((l4_ ++ ([decide ((n5_ : Int) ≥ k6_)]))) ((n5_ - k6_)) ((k6_) / 2))) else ck (0 ≤ k6_ ∧ k6_ ≤ 9223372036854775807) ((shunterref03_Bits_l7 i2_ rec_shunterref03_Bits_l3 n13) ((l4_ ++ ([decide ((n5_ : Int) ≥ k6_)]))) (n5_) ((k6_) / 2))) else ck ((-9223372036854775808 ≤ (i2_ + 1) ∧ (i2_ + 1) ≤ 9223372036854775807)) (rec_shunterref03_Bits_l3 (l4_) ((i2_ + 1)))
def shunterref03_Bits_l3 (N : Nat) (b : List UInt8) : Nat → List Bool → Int → Option (List Bool)
  | 0, _, _ => none
  | n5 + 1, l1_, i2_ => if (i2_ : Int) < ((b).length : Int) then ck (0 ≤ i2_ ∧ i2_ < ((b).length : Int)) (shunterref03_Bits_l7 i2_ (shunterref03_Bits_l3 N b n5) N (l1_) (((((b)[(i2_).toNat]!).toNat : Nat) : Int)) (128)) else some (l1_)
def shunterref03_Bits_m (N : Nat) (b : List UInt8) : Option (List Bool) := shunterref03_Bits_l3 N b N ([]) (0)
set_option maxRecDepth 100000 in
set_option maxHeartbeats 8000000 in
theorem shunterref03_Bits_g (N : Nat) (b : List UInt8) (r : List Bool) (hM : shunterref03_Bits_m N b = some r) (ro : Addr → Option Value) (bv : Value) (hb : Rd encY ro bv b) : Does Try.prog 62 #[bv] ro [] (p1 (fun s_ => s_) 4 encB r) := by
  unfold shunterref03_Bits_m at hM
  refine does_of_A follows Try.func62 rfl 35 rfl (upd (fun _ => undef) 0 (bv)) (by funext k; match k with | 0 => rfl | k + 1 => rfl) (fun base0_ => ?_)
  refine A_seq fun K1 hK1 => ?_
  refine A_reg ?_
  refine r_v (Value.slice none 0 0) rfl rfl rfl rfl ?_
  refine lx_nil ?_
  refine hK1 _ _ ?_; try clear hK1 K1
  refine A_seq fun K2 hK2 => ?_
  refine A_reg ?_
  refine r_v (Value.slice none 0 0) rfl rfl rfl rfl ?_
  refine lx_nil ?_
  refine hK2 _ _ ?_; try clear hK2 K2
  refine A_seq fun K3 hK3 => ?_
  refine A_seq fun K4 hK4 => ?_
  refine A_reg ?_
  refine r_v (Value.int .i64 (0)) rfl rfl rfl rfl ?_
  refine lx_nil ?_
  refine hK4 _ _ ?_; try clear hK4 K4
  refine A_block ?_
  refine A_forget _ (Sub.pickE (Ls := [[]]) (Ls0 := []) rfl [0] rfl) ?_
  refine A_loop (fun tt ll nn => ∃ (n5 : Nat) (l1_ : List Bool) (i2_ : Int), (shunterref03_Bits_l3 N b n5 l1_ i2_ = some r) ∧ ∃ (vl1_ : Value) (Sl1_ : List Bl), Sl 4 encB vl1_ l1_ Sl1_ ∧ Is [(0, bv), (3, vl1_), (4, Value.int .i64 (i2_))] (List.flatten [Sl1_]) tt ll ∧ nn = n5 + 1) (N + 1) ?_ ?_
  · exact ⟨N, [], 0, hM, Value.slice none 0 0, [], Sl.nil, is_mk rfl rfl, rfl⟩
  · clear hM; rintro t l _ ⟨n5, l1_, i2_, hM, vl1_, Sl1_, hl1_, ⟨⟨T, rfl⟩, rfl⟩, rfl⟩
    rcases n5 with _ | n5
    · exact absurd hM (by simp [shunterref03_Bits_l3])
    rw [shunterref03_Bits_l3] at hM
    refine A_seq fun K6 hK6 => ?_
    refine A_seq fun K7 hK7 => ?_
    refine A_reg ?_
    refine r_v (Value.int .i64 (i2_)) rfl rfl rfl rfl ?_
    refine r_v (bv) rfl rfl rfl rfl ?_
    refine r_v (Value.int .i64 (((b).length : Int))) rfl rfl rfl (ev_lenSl rfl rfl rfl (Rd.shp hb)) ?_
    refine r_v (Value.bool (decide ((i2_ : Int) < ((b).length : Int)))) rfl rfl rfl rfl ?_
    refine lx_nil ?_
    refine hK7 _ _ ?_; try clear hK7 K7
    refine A_cond (decide ((i2_ : Int) < ((b).length : Int))) rfl (fun hc8 => ?_) (fun hc8 => ?_)
    · replace hM := ifp (of_decide_eq_true hc8) hM
      refine A_skip ?_
      refine hK6 _ _ ?_; try clear hK6 K6
      refine A_seq fun K9 hK9 => ?_
      refine A_block ?_
      refine A_seq fun K10 hK10 => ?_
      refine A_reg ?_
      refine r_v (bv) rfl rfl rfl rfl ?_
      refine r_v (Value.int .i64 (i2_)) rfl rfl rfl rfl ?_
      replace hM := ck_some hM; obtain ⟨ck11, hM⟩ := hM
      refine r_v (elA bv ((i2_).toNat * 1)) rfl rfl rfl (ev_v (ev_idxSl rfl rfl rfl (Rd.shp hb) ck11)) ?_
      refine r_le (Value.int .u8 (((((b)[(i2_).toNat]!).toNat : Nat) : Int))) (En := encY) ((b)[(i2_).toNat]!) ((i2_).toNat) 0 rfl rfl (rd_ro hb) (get_of ck11) rfl ?_
      refine r_w (Value.int .i64 (((((b)[(i2_).toNat]!).toNat : Nat) : Int))) rfl rfl (u8_i64 ((b)[(i2_).toNat]!)) (fun _ => rfl) ?_
      refine r_v (Value.int .i64 (((((b)[(i2_).toNat]!).toNat : Nat) : Int))) rfl rfl rfl rfl ?_
      refine lx_nil ?_
      refine hK10 _ _ ?_; try clear hK10 K10
      refine A_seq fun K12 hK12 => ?_
      refine A_reg ?_
      refine r_v (Value.int .i64 (128)) rfl rfl rfl rfl ?_
      refine lx_nil ?_
      refine hK12 _ _ ?_; try clear hK12 K12
      refine A_block ?_
      refine A_forget _ (Sub.pick [Sl1_] [0] rfl) ?_
      refine A_loop (fun tt ll nn => ∃ (n13 : Nat) (l4_ : List Bool) (n5_ : Int) (k6_ : Int), (shunterref03_Bits_l7 i2_ (shunterref03_Bits_l3 N b n5) n13 l4_ n5_ k6_ = some r) ∧ ∃ (vl4_ : Value) (Sl4_ : List Bl), Sl 4 encB vl4_ l4_ Sl4_ ∧ Is [(0, bv), (3, vl4_), (4, Value.int .i64 (i2_)), (5, Value.int .i64 (n5_)), (6, Value.int .i64 (k6_))] (List.flatten [Sl4_]) tt ll ∧ nn = n13 + 1) (N + 1) ?_ ?_
      · exact ⟨N, l1_, ((((b)[(i2_).toNat]!).toNat : Nat) : Int), 128, hM, vl1_, Sl1_, hl1_, is_mk rfl rfl, rfl⟩
      · clear hM; rintro t l _ ⟨n13, l4_, n5_, k6_, hM, vl4_, Sl4_, hl4_, ⟨⟨T, rfl⟩, rfl⟩, rfl⟩
        rcases n13 with _ | n13
        · exact absurd hM (by simp [shunterref03_Bits_l7])
        rw [shunterref03_Bits_l7] at hM
        refine A_seq fun K14 hK14 => ?_
        refine A_seq fun K15 hK15 => ?_
        refine A_reg ?_
        refine r_v (Value.int .i64 (k6_)) rfl rfl rfl rfl ?_
        refine r_v (Value.bool (decide ((k6_ : Int) ≥ 1))) rfl rfl rfl rfl ?_
        refine lx_nil ?_
        refine hK15 _ _ ?_; try clear hK15 K15
        refine A_cond (decide ((k6_ : Int) ≥ 1)) rfl (fun hc16 => ?_) (fun hc16 => ?_)
        · replace hM := ifp (of_decide_eq_true hc16) hM
          refine A_skip ?_
          refine hK14 _ _ ?_; try clear hK14 K14
          refine A_seq fun K17 hK17 => ?_
          refine A_block ?_
          refine A_seq fun K18 hK18 => ?_
          refine A_regC [(some 26, false), (some 27, true)] (conG Try.prog []) ?_
          refine r_v (vl4_) rfl rfl rfl rfl ?_
          refine r_v (Value.int .i64 (n5_)) rfl rfl rfl rfl ?_
          refine r_v (Value.int .i64 (k6_)) rfl rfl rfl rfl ?_
          refine r_v (Value.bool (decide ((n5_ : Int) ≥ k6_))) rfl rfl rfl rfl ?_
          refine r_bs (cs0 := []) (Ls := [Sl4_]) 4 encB [decide ((n5_ : Int) ≥ k6_)] [Value.bool (decide ((n5_ : Int) ≥ k6_))] [Value.bool (false)] rfl rfl rfl rfl rfl rfl rfl (by kernel_rfl) (by kernel_rfl) rfl rfl rfl (fun s19 S20 H21 => ?_)
          replace hM := ck_some hM; obtain ⟨ck22, hM⟩ := hM
          refine r_app (cs0 := []) (Ls := [Sl4_, S20]) 0 (En := encB) rfl rfl rfl rfl rfl hl4_ rfl (rd_own H21 (mem_chunk (Ls := [Sl4_, S20]) (k := 1) rfl rfl)) rfl rfl rfl rfl rfl (app_b ck22 rfl) (app_m ck22 rfl) rfl (fun s23 S24 H25 => ?_)
          refine r_v (s23) rfl rfl rfl rfl ?_
          refine lx_nil ?_
          refine hK18 _ _ ?_; try clear hK18 K18
          refine A_seq fun K26 hK26 => ?_
          refine A_reg ?_
          refine r_v (Value.int .i64 (n5_)) rfl rfl rfl rfl ?_
          refine r_v (Value.int .i64 (k6_)) rfl rfl rfl rfl ?_
          refine r_v (Value.bool (decide ((n5_ : Int) ≥ k6_))) rfl rfl rfl rfl ?_
          refine lx_nil ?_
          refine hK26 _ _ ?_; try clear hK26 K26
          refine A_cond (decide ((n5_ : Int) ≥ k6_)) rfl (fun hc27 => ?_) (fun hc27 => ?_)
          · replace hM := ifp (of_decide_eq_true hc27) hM
            refine A_reg ?_
            refine r_v (Value.int .i64 (n5_)) rfl rfl rfl rfl ?_
            refine r_v (Value.int .i64 (k6_)) rfl rfl rfl rfl ?_
            replace hM := ck_some hM; obtain ⟨ck28, hM⟩ := hM
            refine r_v (Value.int .i64 ((n5_ - k6_))) rfl rfl (wi64 rfl ck28.1 ck28.2) rfl ?_
            refine r_v (Value.int .i64 ((n5_ - k6_))) rfl rfl rfl rfl ?_
            refine lx_nil ?_
            refine hK17 _ _ ?_; try clear hK17 K17
            refine A_reg ?_
            refine r_v (Value.int .i64 (k6_)) rfl rfl rfl rfl ?_
            replace hM := ck_some hM; obtain ⟨ck29, hM⟩ := hM
            refine r_v (Value.int .i64 ((k6_) / 2)) rfl rfl (quo_i64 ck29.1 (by decide) ck29.2) rfl ?_
            refine r_v (Value.int .i64 ((k6_) / 2)) rfl rfl rfl rfl ?_
            refine lx_nil ?_
            refine fg _ (Sub.pick [S24, S20] [0] rfl) ?_
            exact ⟨n13 + 1, by omega, n13, (l4_ ++ ([decide ((n5_ : Int) ≥ k6_)])), (n5_ - k6_), (k6_) / 2, hM, s23, S24, H25, is_mk rfl rfl, rfl⟩
          · replace hM := ifn (of_decide_eq_false hc27) hM
            refine A_skip ?_
            refine hK17 _ _ ?_; try clear hK17 K17
            refine A_reg ?_
            refine r_v (Value.int .i64 (k6_)) rfl rfl rfl rfl ?_
            replace hM := ck_some hM; obtain ⟨ck30, hM⟩ := hM
            refine r_v (Value.int .i64 ((k6_) / 2)) rfl rfl (quo_i64 ck30.1 (by decide) ck30.2) rfl ?_
            refine r_v (Value.int .i64 ((k6_) / 2)) rfl rfl rfl rfl ?_
            refine lx_nil ?_
            refine fg _ (Sub.pick [S24, S20] [0] rfl) ?_
            exact ⟨n13 + 1, by omega, n13, (l4_ ++ ([decide ((n5_ : Int) ≥ k6_)])), n5_, (k6_) / 2, hM, s23, S24, H25, is_mk rfl rfl, rfl⟩
        · replace hM := ifn (of_decide_eq_false hc16) hM
          refine A_exit ?_
          refine hK9 _ _ ?_; try clear hK9 K9
          refine A_reg ?_
          refine r_v (Value.int .i64 (i2_)) rfl rfl rfl rfl ?_
          replace hM := ck_some hM; obtain ⟨ck31, hM⟩ := hM
          refine r_v (Value.int .i64 ((i2_ + 1))) rfl rfl (wi64 rfl ck31.1 ck31.2) rfl ?_
          refine r_v (Value.int .i64 ((i2_ + 1))) rfl rfl rfl rfl ?_
          refine lx_nil ?_
          refine fg _ (Sub.pick [Sl4_] [0] rfl) ?_
          exact ⟨n5 + 1, by omega, n5, l4_, (i2_ + 1), hM, vl4_, Sl4_, hl4_, is_mk rfl rfl, rfl⟩
    · replace hM := ifn (of_decide_eq_false hc8) hM
      refine A_exit ?_
      refine hK3 _ _ ?_; try clear hK3 K3
      refine A_seq fun K32 hK32 => ?_
      refine A_reg ?_
      refine r_v (vl1_) rfl rfl rfl rfl ?_
      refine r_v (vl1_) rfl rfl rfl rfl ?_
      refine lx_nil ?_
      refine hK32 _ _ ?_; try clear hK32 K32
      obtain rfl := Option.some.inj hM
      refine A_ret (fun hn => ends1 (v0 := vl1_) hl1_ (sub_one (Sub.pick [Sl1_] [0] rfl)) rfl (res1 rfl))
def shunterref01_Halves_k6 (r' : BitVec 128) (lo2_ : BitVec 64) (i3_ : Int) (rec_shunterref01_Halves_l4 : BitVec 64 → BitVec 64 → Int → Option ((BitVec 64) × (BitVec 64))) (hi5_ : BitVec 64) : Option ((BitVec 64) × (BitVec 64)) := ck (0 ≤ i3_ ∧ i3_ < 128) (if ((r').getLsbD ((i3_).toNat)) = true then ck ((-9223372036854775808 ≤ (i3_ - 1) ∧ (i3_ - 1) ≤ 9223372036854775807)) (rec_shunterref01_Halves_l4 (hi5_) (((2#64 * lo2_) + 1#64)) ((i3_ - 1))) else ck ((-9223372036854775808 ≤ (i3_ - 1) ∧ (i3_ - 1) ≤ 9223372036854775807)) (rec_shunterref01_Halves_l4 (hi5_) ((2#64 * lo2_)) ((i3_ - 1))))
def shunterref01_Halves_l4 (r' : BitVec 128) : Nat → BitVec 64 → BitVec 64 → Int → Option ((BitVec 64) × (BitVec 64))
  | 0, _, _, _ => none
  | n6 + 1, hi1_, lo2_, i3_ => if (i3_ : Int) ≥ 0 then ck ((-9223372036854775808 ≤ (i3_ + 64) ∧ (i3_ + 64) ≤ 9223372036854775807)) (ck (0 ≤ (i3_ + 64) ∧ (i3_ + 64) < 128) (if ((r').getLsbD (((i3_ + 64)).toNat)) = true then shunterref01_Halves_k6 r' lo2_ i3_ (shunterref01_Halves_l4 r' n6) (((2#64 * hi1_) + 1#64)) else shunterref01_Halves_k6 r' lo2_ i3_ (shunterref01_Halves_l4 r' n6) ((2#64 * hi1_)))) else some (hi1_, lo2_)
def shunterref01_Halves_m (N : Nat) (r' : BitVec 128) : Option ((BitVec 64) × (BitVec 64)) := shunterref01_Halves_l4 r' N (0#64) (0#64) (63)
set_option maxRecDepth 100000 in
set_option maxHeartbeats 8000000 in
theorem shunterref01_Halves_g (N : Nat) (r' : BitVec 128) (r : (BitVec 64) × (BitVec 64)) (hM : shunterref01_Halves_m N r' = some r) : Gives Try.prog 85 #[Value.agg (rowF (BitVec.getLsbD (r')))] (Value.tuple #[U (r.1), U (r.2)]) := by
  unfold shunterref01_Halves_m at hM
  refine gives_of_A follows Try.func85 rfl 28 rfl (upd (fun _ => undef) 0 (Value.agg (rowF (BitVec.getLsbD (r'))))) (by funext k; match k with | 0 => rfl | k + 1 => rfl) (fun base0_ => ?_)
  refine A_seq fun K1 hK1 => ?_
  refine A_reg ?_
  refine r_a (87, rowF (BitVec.getLsbD (r'))) rfl rfl rfl (fun b2 => ?_) (.inr rfl)
  refine r_v (U (0#64)) rfl rfl rfl rfl ?_
  refine r_v (U (0#64)) rfl rfl rfl rfl ?_
  refine lx_nil ?_
  refine hK1 _ _ ?_; try clear hK1 K1
  refine A_seq fun K3 hK3 => ?_
  refine A_reg ?_
  refine r_v (U (0#64)) rfl rfl rfl rfl ?_
  refine r_v (U (0#64)) rfl rfl rfl rfl ?_
  refine lx_nil ?_
  refine hK3 _ _ ?_; try clear hK3 K3
  refine A_seq fun K4 hK4 => ?_
  refine A_seq fun K5 hK5 => ?_
  refine A_reg ?_
  refine r_v (Value.int .i64 (63)) rfl rfl rfl rfl ?_
  refine lx_nil ?_
  refine hK5 _ _ ?_; try clear hK5 K5
  refine A_block ?_
  refine A_loop (fun tt ll nn => ∃ (n6 : Nat) (hi1_ : BitVec 64) (lo2_ : BitVec 64) (i3_ : Int), (shunterref01_Halves_l4 r' n6 hi1_ lo2_ i3_ = some r) ∧ Is [(1, Value.pointer (some ⟨b2, 0, none⟩)), (4, U (hi1_)), (5, U (lo2_)), (6, Value.int .i64 (i3_))] [(b2, 87, rowF (BitVec.getLsbD (r')))] tt ll ∧ nn = n6 + 1) (N + 1) ?_ ?_
  · exact ⟨N, 0#64, 0#64, 63, hM, is_mk rfl rfl, rfl⟩
  · clear hM; rintro t l _ ⟨n6, hi1_, lo2_, i3_, hM, ⟨⟨T, rfl⟩, rfl⟩, rfl⟩
    rcases n6 with _ | n6
    · exact absurd hM (by simp [shunterref01_Halves_l4])
    rw [shunterref01_Halves_l4] at hM
    refine A_seq fun K7 hK7 => ?_
    refine A_seq fun K8 hK8 => ?_
    refine A_reg ?_
    refine r_v (Value.int .i64 (i3_)) rfl rfl rfl rfl ?_
    refine r_v (Value.bool (decide ((i3_ : Int) ≥ 0))) rfl rfl rfl rfl ?_
    refine lx_nil ?_
    refine hK8 _ _ ?_; try clear hK8 K8
    refine A_cond (decide ((i3_ : Int) ≥ 0)) rfl (fun hc9 => ?_) (fun hc9 => ?_)
    · replace hM := ifp (of_decide_eq_true hc9) hM
      refine A_skip ?_
      refine hK7 _ _ ?_; try clear hK7 K7
      refine A_seq fun K10 hK10 => ?_
      refine A_block ?_
      refine A_seq fun K11 hK11 => ?_
      refine A_reg ?_
      refine r_v (U (hi1_)) rfl rfl rfl rfl ?_
      refine r_v (U ((2#64 * hi1_))) rfl rfl (U_mul (2#64) (hi1_)) rfl ?_
      refine r_v (U ((2#64 * hi1_))) rfl rfl rfl rfl ?_
      refine lx_nil ?_
      refine hK11 _ _ ?_; try clear hK11 K11
      refine A_seq fun K12 hK12 => ?_
      refine A_reg ?_
      refine r_v (U (lo2_)) rfl rfl rfl rfl ?_
      refine r_v (U ((2#64 * lo2_))) rfl rfl (U_mul (2#64) (lo2_)) rfl ?_
      refine r_v (U ((2#64 * lo2_))) rfl rfl rfl rfl ?_
      refine lx_nil ?_
      refine hK12 _ _ ?_; try clear hK12 K12
      refine A_cut (fun tt ll => ∃ (hi5_ : BitVec 64), (shunterref01_Halves_k6 r' lo2_ i3_ (shunterref01_Halves_l4 r' n6) hi5_ = some r) ∧ Is [(1, Value.pointer (some ⟨b2, 0, none⟩)), (4, U (hi5_)), (5, U ((2#64 * lo2_))), (6, Value.int .i64 (i3_))] [(b2, 87, rowF (BitVec.getLsbD (r')))] tt ll) ?_ ?_
      · refine A_seq fun K19 hK19 => ?_
        refine A_reg ?_
        refine r_v (Value.int .i64 (i3_)) rfl rfl rfl rfl ?_
        replace hM := ck_some hM; obtain ⟨ck20, hM⟩ := hM
        refine r_v (Value.int .i64 ((i3_ + 64))) rfl rfl (wi64 rfl ck20.1 ck20.2) rfl ?_
        replace hM := ck_some hM; obtain ⟨ck21, hM⟩ := hM
        have hx22 := fun c => ev_v (ev_idxI (P := Try.prog) (c := c) (t := 87) (b := b2) (off := 0) (k := .i64) rfl rfl rfl ck21)
        simp only [Nat.zero_add] at hx22
        have ck21n : ((i3_ + 64)).toNat < 128 := by omega
        refine r_v (Value.pointer (some ⟨b2, ((i3_ + 64)).toNat, none⟩)) rfl rfl rfl (hx22 _) ?_
        refine r_l (Value.bool ((r').getLsbD (((i3_ + 64)).toNat))) 0 _ _ _ _ rfl rfl rfl rfl (ld_row1 rfl _ ck21n) ?_
        refine lx_nil ?_
        refine hK19 _ _ ?_; try clear hK19 K19
        refine A_cond ((r').getLsbD (((i3_ + 64)).toNat)) rfl (fun hc23 => ?_) (fun hc23 => ?_)
        · replace hM := ifp hc23 hM
          refine A_reg ?_
          refine r_v (U ((2#64 * hi1_))) rfl rfl rfl rfl ?_
          refine r_v (U (((2#64 * hi1_) + 1#64))) rfl rfl (U_add ((2#64 * hi1_)) (1#64)) rfl ?_
          refine r_v (U (((2#64 * hi1_) + 1#64))) rfl rfl rfl rfl ?_
          refine lx_nil ?_
          refine fg _ (Sub.of (List.Sublist.cons_cons _ (List.Sublist.slnil))) ?_
          exact ⟨((2#64 * hi1_) + 1#64), hM, is_mk rfl rfl⟩
        · replace hM := ifn (Bool.eq_false_iff.1 hc23) hM
          refine A_skip ?_
          refine fg _ (Sub.of (List.Sublist.cons_cons _ (List.Sublist.slnil))) ?_
          exact ⟨(2#64 * hi1_), hM, is_mk rfl rfl⟩
      · clear hM; rintro t l ⟨hi5_, hM, ⟨T, rfl⟩, rfl⟩
        unfold shunterref01_Halves_k6 at hM
        refine A_seq fun K13 hK13 => ?_
        refine A_reg ?_
        refine r_v (Value.int .i64 (i3_)) rfl rfl rfl rfl ?_
        replace hM := ck_some hM; obtain ⟨ck14, hM⟩ := hM
        have hx15 := fun c => ev_v (ev_idxI (P := Try.prog) (c := c) (t := 87) (b := b2) (off := 0) (k := .i64) rfl rfl rfl ck14)
        simp only [Nat.zero_add] at hx15
        have ck14n : (i3_).toNat < 128 := by omega
        refine r_v (Value.pointer (some ⟨b2, (i3_).toNat, none⟩)) rfl rfl rfl (hx15 _) ?_
        refine r_l (Value.bool ((r').getLsbD ((i3_).toNat))) 0 _ _ _ _ rfl rfl rfl rfl (ld_row1 rfl _ ck14n) ?_
        refine lx_nil ?_
        refine hK13 _ _ ?_; try clear hK13 K13
        refine A_cond ((r').getLsbD ((i3_).toNat)) rfl (fun hc16 => ?_) (fun hc16 => ?_)
        · replace hM := ifp hc16 hM
          refine A_reg ?_
          refine r_v (U ((2#64 * lo2_))) rfl rfl rfl rfl ?_
          refine r_v (U (((2#64 * lo2_) + 1#64))) rfl rfl (U_add ((2#64 * lo2_)) (1#64)) rfl ?_
          refine r_v (U (((2#64 * lo2_) + 1#64))) rfl rfl rfl rfl ?_
          refine lx_nil ?_
          refine hK10 _ _ ?_; try clear hK10 K10
          refine A_reg ?_
          refine r_v (Value.int .i64 (i3_)) rfl rfl rfl rfl ?_
          replace hM := ck_some hM; obtain ⟨ck17, hM⟩ := hM
          refine r_v (Value.int .i64 ((i3_ - 1))) rfl rfl (wi64 rfl ck17.1 ck17.2) rfl ?_
          refine r_v (Value.int .i64 ((i3_ - 1))) rfl rfl rfl rfl ?_
          refine lx_nil ?_
          refine fg _ (Sub.of (List.Sublist.cons_cons _ (List.Sublist.slnil))) ?_
          exact ⟨n6 + 1, by omega, n6, hi5_, ((2#64 * lo2_) + 1#64), (i3_ - 1), hM, is_mk rfl rfl, rfl⟩
        · replace hM := ifn (Bool.eq_false_iff.1 hc16) hM
          refine A_skip ?_
          refine hK10 _ _ ?_; try clear hK10 K10
          refine A_reg ?_
          refine r_v (Value.int .i64 (i3_)) rfl rfl rfl rfl ?_
          replace hM := ck_some hM; obtain ⟨ck18, hM⟩ := hM
          refine r_v (Value.int .i64 ((i3_ - 1))) rfl rfl (wi64 rfl ck18.1 ck18.2) rfl ?_
          refine r_v (Value.int .i64 ((i3_ - 1))) rfl rfl rfl rfl ?_
          refine lx_nil ?_
          refine fg _ (Sub.of (List.Sublist.cons_cons _ (List.Sublist.slnil))) ?_
          exact ⟨n6 + 1, by omega, n6, hi5_, (2#64 * lo2_), (i3_ - 1), hM, is_mk rfl rfl, rfl⟩
    · replace hM := ifn (of_decide_eq_false hc9) hM
      refine A_exit ?_
      refine hK4 _ _ ?_; try clear hK4 K4
      refine A_seq fun K24 hK24 => ?_
      refine A_reg ?_
      refine r_v (U (hi1_)) rfl rfl rfl rfl ?_
      refine r_v (U (lo2_)) rfl rfl rfl rfl ?_
      refine r_v (U (hi1_)) rfl rfl rfl rfl ?_
      refine r_v (U (lo2_)) rfl rfl rfl rfl ?_
      refine lx_nil ?_
      refine hK24 _ _ ?_; try clear hK24 K24
      obtain rfl := Option.some.inj hM
      refine A_ret (fun hn => ends_eq (v0 := Value.tuple #[U (hi1_), U (lo2_)]) rfl (res2 rfl rfl))
def shunterref02_Of_k2 (N : Nat) (l' : List Bool) (m1_ : BitVec 128) : Option (Int × (BitVec 128)) := (shunterref01_Halves_m N m1_).bind fun r6 => some (((l').length : Int), (r6.1) ++ (r6.2))
def shunterref02_Of_k6 (l' : List Bool) (i3_ : Int) (m4_ : BitVec 128) (rec_shunterref02_Of_l5 : Int → BitVec 128 → Option (Int × (BitVec 128))) : Option (Int × (BitVec 128)) := ck (0 ≤ i3_ ∧ i3_ < ((l').length : Int)) (ck (0 ≤ i3_ ∧ i3_ < 128) (ck ((-9223372036854775808 ≤ (i3_ + 1) ∧ (i3_ + 1) ≤ 9223372036854775807)) (rec_shunterref02_Of_l5 ((i3_ + 1)) (setb (m4_) ((i3_).toNat) ((l')[(i3_).toNat]!)))))
def shunterref02_Of_l5 (N : Nat) (l' : List Bool) : Nat → Int → BitVec 128 → Option (Int × (BitVec 128))
  | 0, _, _ => none
  | n10 + 1, i3_, m4_ => if (i3_ : Int) < ((l').length : Int) then if (i3_ : Int) < 128 then shunterref02_Of_k6 l' i3_ m4_ (shunterref02_Of_l5 N l' n10)  else shunterref02_Of_k2 N l' (m4_) else shunterref02_Of_k2 N l' (m4_)
def shunterref02_Of_m (N : Nat) (l' : List Bool) : Option (Int × (BitVec 128)) := shunterref02_Of_l5 N l' N (0) (0#128)
set_option maxRecDepth 100000 in
set_option maxHeartbeats 8000000 in
theorem shunterref02_Of_g (N : Nat) (l' : List Bool) (r : Int × (BitVec 128)) (hM : shunterref02_Of_m N l' = some r) (ro : Addr → Option Value) (l'v : Value) (hl' : Rd encB ro l'v l') : Does Try.prog 77 #[l'v] ro [] (pV (Value.agg #[Value.int .i64 (r.1), U (hi (r.2)), U (lo (r.2))])) := by
  unfold shunterref02_Of_m at hM
  refine does_of_A follows Try.func77 rfl 33 rfl (upd (fun _ => undef) 0 (l'v)) (by funext k; match k with | 0 => rfl | k + 1 => rfl) (fun base0_ => ?_)
  refine A_seq fun K1 hK1 => ?_
  refine A_reg ?_
  refine r_a (30, #[Value.int .i64 (0), U (0#64), U (0#64)]) rfl rfl rfl (fun b2 => ?_) (.inr rfl)
  refine lx_nil ?_
  refine hK1 _ _ ?_; try clear hK1 K1
  refine A_seq fun K3 hK3 => ?_
  refine A_reg ?_
  refine r_a (87, rowF (BitVec.getLsbD (0#128))) rfl rfl ((zrow z_87).trans (congrArg (fun x => some (87, x)) row_zero)) (fun b4 => ?_) (.inr rfl)
  refine lx_nil ?_
  refine hK3 _ _ ?_; try clear hK3 K3
  refine A_cut (fun tt ll => ∃ (m1_ : BitVec 128), (shunterref02_Of_k2 N l' m1_ = some r) ∧ Is [(0, l'v), (2, Value.pointer (some ⟨b2, 0, none⟩)), (3, Value.pointer (some ⟨b4, 0, none⟩))] [(b4, 87, rowF (BitVec.getLsbD (m1_))), (b2, 30, #[Value.int .i64 (0), U (0#64), U (0#64)])] tt ll) ?_ ?_
  · refine A_seq fun K9 hK9 => ?_
    refine A_reg ?_
    refine r_v (Value.int .i64 (0)) rfl rfl rfl rfl ?_
    refine lx_nil ?_
    refine hK9 _ _ ?_; try clear hK9 K9
    refine A_block ?_
    refine A_loop (fun tt ll nn => ∃ (n10 : Nat) (i3_ : Int) (m4_ : BitVec 128), (shunterref02_Of_l5 N l' n10 i3_ m4_ = some r) ∧ Is [(0, l'v), (2, Value.pointer (some ⟨b2, 0, none⟩)), (3, Value.pointer (some ⟨b4, 0, none⟩)), (4, Value.int .i64 (i3_))] [(b4, 87, rowF (BitVec.getLsbD (m4_))), (b2, 30, #[Value.int .i64 (0), U (0#64), U (0#64)])] tt ll ∧ nn = n10 + 1) (N + 1) ?_ ?_
    · exact ⟨N, 0, 0#128, hM, is_mk rfl (by first | rfl | simp only [app_hl]), rfl⟩
    · clear hM; rintro t l _ ⟨n10, i3_, m4_, hM, ⟨⟨T, rfl⟩, rfl⟩, rfl⟩
      rcases n10 with _ | n10
      · exact absurd hM (by simp [shunterref02_Of_l5])
      rw [shunterref02_Of_l5] at hM
      refine A_cut (fun tt ll => (shunterref02_Of_k6 l' i3_ m4_ (shunterref02_Of_l5 N l' n10)  = some r) ∧ Is [(0, l'v), (2, Value.pointer (some ⟨b2, 0, none⟩)), (3, Value.pointer (some ⟨b4, 0, none⟩)), (4, Value.int .i64 (i3_))] [(b4, 87, rowF (BitVec.getLsbD (m4_))), (b2, 30, #[Value.int .i64 (0), U (0#64), U (0#64)])] tt ll) ?_ ?_
      · refine A_seq fun K16 hK16 => ?_
        refine A_reg ?_
        refine r_v (Value.int .i64 (i3_)) rfl rfl rfl rfl ?_
        refine r_v (l'v) rfl rfl rfl rfl ?_
        refine r_v (Value.int .i64 (((l').length : Int))) rfl rfl rfl (ev_lenSl rfl rfl rfl (Rd.shp hl')) ?_
        refine r_v (Value.bool (decide ((i3_ : Int) < ((l').length : Int)))) rfl rfl rfl rfl ?_
        refine r_v (Value.bool (decide ((i3_ : Int) < ((l').length : Int)))) rfl rfl rfl rfl ?_
        rcases hg17 : (decide ((i3_ : Int) < ((l').length : Int))) with _ | _
        · replace hM := ifn (of_decide_eq_false hg17) hM
          refine r_n false rfl (by decide) rfl ?_
          refine r_n false rfl (by decide) rfl ?_
          refine r_v (Value.bool (false)) rfl rfl rfl rfl ?_
          refine lx_nil ?_
          refine hK16 _ _ ?_; try clear hK16 K16
          refine A_cond false rfl (fun h_ => nomatch h_) (fun _ => ?_)
          refine A_exit ?_
          refine fg _ (Sub.of (List.Sublist.cons_cons _ (List.Sublist.cons_cons _ (List.Sublist.slnil)))) ?_
          exact ⟨m4_, hM, is_mk rfl (by first | rfl | simp only [app_hl])⟩
        · replace hM := ifp (of_decide_eq_true hg17) hM
          refine r_y rfl ?_
          refine r_v (Value.int .i64 (i3_)) rfl rfl rfl rfl ?_
          refine r_y rfl ?_
          refine r_v (Value.bool (decide ((i3_ : Int) < 128))) rfl rfl rfl rfl ?_
          refine r_v (Value.bool (decide ((i3_ : Int) < 128))) rfl rfl rfl rfl ?_
          refine lx_nil ?_
          refine hK16 _ _ ?_; try clear hK16 K16
          refine A_cond (decide ((i3_ : Int) < 128)) rfl (fun hc18 => ?_) (fun hc18 => ?_)
          · replace hM := ifp (of_decide_eq_true hc18) hM
            refine A_skip ?_
            refine fg _ (Sub.of (List.Sublist.cons_cons _ (List.Sublist.cons_cons _ (List.Sublist.slnil)))) ?_
            exact ⟨hM, is_mk rfl (by first | rfl | simp only [app_hl])⟩
          · replace hM := ifn (of_decide_eq_false hc18) hM
            refine A_exit ?_
            refine fg _ (Sub.of (List.Sublist.cons_cons _ (List.Sublist.cons_cons _ (List.Sublist.slnil)))) ?_
            exact ⟨m4_, hM, is_mk rfl (by first | rfl | simp only [app_hl])⟩
      · clear hM; rintro t l ⟨hM, ⟨T, rfl⟩, rfl⟩
        unfold shunterref02_Of_k6 at hM
        refine A_seq fun K11 hK11 => ?_
        refine A_block ?_
        refine A_reg ?_
        refine r_v (Value.int .i64 (i3_)) rfl rfl rfl rfl ?_
        refine r_v (l'v) rfl rfl rfl rfl ?_
        refine r_v (Value.int .i64 (i3_)) rfl rfl rfl rfl ?_
        replace hM := ck_some hM; obtain ⟨ck12, hM⟩ := hM
        refine r_v (elA l'v ((i3_).toNat * 1)) rfl rfl rfl (ev_v (ev_idxSl rfl rfl rfl (Rd.shp hl') ck12)) ?_
        refine r_le (Value.bool ((l')[(i3_).toNat]!)) (En := encB) ((l')[(i3_).toNat]!) ((i3_).toNat) 0 rfl rfl (rd_ro hl') (get_of ck12) rfl ?_
        replace hM := ck_some hM; obtain ⟨ck13, hM⟩ := hM
        have hx14 := fun c => ev_v (ev_idxI (P := Try.prog) (c := c) (t := 87) (b := b4) (off := 0) (k := .i64) rfl rfl rfl ck13)
        simp only [Nat.zero_add] at hx14
        have ck13n : (i3_).toNat < 128 := by omega
        refine r_v (Value.pointer (some ⟨b4, (i3_).toNat, none⟩)) rfl rfl rfl (hx14 _) ?_
        refine r_s [(b4, 87, rowF (BitVec.getLsbD (setb (m4_) ((i3_).toNat) ((l')[(i3_).toNat]!)))), (b2, 30, #[Value.int .i64 (0), U (0#64), U (0#64)])] 0 _ _ _ (rowF (BitVec.getLsbD (m4_))) (#[Value.bool ((l')[(i3_).toNat]!)]) (rowF (BitVec.getLsbD (setb (m4_) ((i3_).toNat) ((l')[(i3_).toNat]!)))) rfl rfl rfl rfl (stok_row1 rfl rfl _ _ ck13n) ((splice_row1 _ _ _).trans (rowF_setb _ _ _ ck13n)) rfl ?_
        refine lx_nil ?_
        refine hK11 _ _ ?_; try clear hK11 K11
        refine A_reg ?_
        refine r_v (Value.int .i64 (i3_)) rfl rfl rfl rfl ?_
        replace hM := ck_some hM; obtain ⟨ck15, hM⟩ := hM
        refine r_v (Value.int .i64 ((i3_ + 1))) rfl rfl (wi64 rfl ck15.1 ck15.2) rfl ?_
        refine r_v (Value.int .i64 ((i3_ + 1))) rfl rfl rfl rfl ?_
        refine lx_nil ?_
        refine fg _ (Sub.of (List.Sublist.cons_cons _ (List.Sublist.cons_cons _ (List.Sublist.slnil)))) ?_
        exact ⟨n10 + 1, by omega, n10, (i3_ + 1), setb (m4_) ((i3_).toNat) ((l')[(i3_).toNat]!), hM, is_mk rfl (by first | rfl | simp only [app_hl]), rfl⟩
  · clear hM; rintro t l ⟨m1_, hM, ⟨T, rfl⟩, rfl⟩
    unfold shunterref02_Of_k2 at hM
    refine A_seq fun K5 hK5 => ?_
    refine A_reg ?_
    refine r_l (Value.agg (rowF (BitVec.getLsbD (m1_)))) 0 _ _ _ _ rfl rfl rfl rfl (ld_rows rfl rfl rfl _) ?_
    replace hM := bind_sm hM; obtain ⟨r6, hr7, hM⟩ := hM
    refine r_c (Value.tuple #[U (r6.1), U (r6.2)]) rfl _ _ (ev_callF rfl call_85 rfl) (shunterref01_Halves_g N m1_ _ hr7) ?_
    refine r_v (Value.tuple #[U (r6.1), U (r6.2)]) rfl rfl rfl rfl ?_
    refine r_v (U (r6.1)) rfl rfl rfl rfl ?_
    refine r_v (U (r6.2)) rfl rfl rfl rfl ?_
    refine r_v (U (r6.1)) rfl rfl rfl rfl ?_
    refine r_v (U (r6.2)) rfl rfl rfl rfl ?_
    refine lx_nil ?_
    refine hK5 _ _ ?_; try clear hK5 K5
    refine A_seq fun K8 hK8 => ?_
    refine A_reg ?_
    refine r_v (l'v) rfl rfl rfl rfl ?_
    refine r_v (Value.int .i64 (((l').length : Int))) rfl rfl rfl (ev_lenSl rfl rfl rfl (Rd.shp hl')) ?_
    refine r_v (U (r6.1)) rfl rfl rfl rfl ?_
    refine r_v (U (r6.2)) rfl rfl rfl rfl ?_
    refine r_v (Value.agg #[Value.int .i64 (((l').length : Int)), U (r6.1), U (r6.2)]) rfl rfl rfl (ev_buildS rfl rfl rfl rfl) ?_
    refine r_s [(b4, 87, rowF (BitVec.getLsbD (m1_))), (b2, 30, #[Value.int .i64 (((l').length : Int)), U (r6.1), U (r6.2)])] 1 _ _ _ (#[Value.int .i64 (0), U (0#64), U (0#64)]) (#[Value.int .i64 (((l').length : Int)), U (r6.1), U (r6.2)]) (#[Value.int .i64 (((l').length : Int)), U (r6.1), U (r6.2)]) rfl rfl rfl rfl (.of rfl rfl) rfl rfl ?_
    refine lx_nil ?_
    refine hK8 _ _ ?_; try clear hK8 K8
    obtain rfl := Option.some.inj hM
    refine A_ret (fun hn => endsV (v0 := Value.agg #[Value.int .i64 (((l').length : Int)), U (r6.1), U (r6.2)]) (by first | rfl | (simp only [app_hl]; done) | simp only [app_hl]) (res1 (res_cell hn 1 rfl rfl rfl)))
def shunterref03_Vec_l3 (N : Nat) (l' : List Bool) : Nat → List Bool → Int → Option (Int × (BitVec 128))
  | 0, _, _ => none
  | n7 + 1, low1_, i2_ => if (i2_ : Int) ≥ 0 then ck (0 ≤ i2_ ∧ i2_ < ((l').length : Int)) (ck ((low1_).length + ([(l')[(i2_).toNat]!]).length ≤ 140737488355328) (ck ((-9223372036854775808 ≤ (i2_ - 1) ∧ (i2_ - 1) ≤ 9223372036854775807)) ((shunterref03_Vec_l3 N l' n7) ((low1_ ++ ([(l')[(i2_).toNat]!]))) ((i2_ - 1))))) else (shunterref02_Of_m N low1_).bind fun r22 => some (r22.1, r22.2)
def shunterref03_Vec_m (N : Nat) (l' : List Bool) : Option (Int × (BitVec 128)) := ck ((-9223372036854775808 ≤ (((l').length : Int) - 1) ∧ (((l').length : Int) - 1) ≤ 9223372036854775807)) (shunterref03_Vec_l3 N l' N ([]) ((((l').length : Int) - 1)))
set_option maxRecDepth 100000 in
set_option maxHeartbeats 8000000 in
theorem shunterref03_Vec_g (N : Nat) (l' : List Bool) (r : Int × (BitVec 128)) (hM : shunterref03_Vec_m N l' = some r) (ro : Addr → Option Value) (l'v : Value) (hl' : Rd encB ro l'v l') : Does Try.prog 61 #[l'v] ro [] (pV (Value.agg #[Value.int .i64 (r.1), U (hi (r.2)), U (lo (r.2))])) := by
  unfold shunterref03_Vec_m at hM
  refine does_of_A follows Try.func61 rfl 21 rfl (upd (fun _ => undef) 0 (l'v)) (by funext k; match k with | 0 => rfl | k + 1 => rfl) (fun base0_ => ?_)
  refine A_seq fun K1 hK1 => ?_
  refine A_reg ?_
  refine r_a (30, #[Value.int .i64 (0), U (0#64), U (0#64)]) rfl rfl rfl (fun b2 => ?_) (.inr rfl)
  refine lx_nil ?_
  refine hK1 _ _ ?_; try clear hK1 K1
  refine A_seq fun K3 hK3 => ?_
  refine A_reg ?_
  refine r_v (Value.slice none 0 0) rfl rfl rfl rfl ?_
  refine lx_nil ?_
  refine hK3 _ _ ?_; try clear hK3 K3
  refine A_seq fun K4 hK4 => ?_
  refine A_seq fun K5 hK5 => ?_
  refine A_reg ?_
  refine r_v (l'v) rfl rfl rfl rfl ?_
  refine r_v (Value.int .i64 (((l').length : Int))) rfl rfl rfl (ev_lenSl rfl rfl rfl (Rd.shp hl')) ?_
  replace hM := ck_some hM; obtain ⟨ck6, hM⟩ := hM
  refine r_v (Value.int .i64 ((((l').length : Int) - 1))) rfl rfl (wi64 rfl ck6.1 ck6.2) rfl ?_
  refine r_v (Value.int .i64 ((((l').length : Int) - 1))) rfl rfl rfl rfl ?_
  refine lx_nil ?_
  refine hK5 _ _ ?_; try clear hK5 K5
  refine A_block ?_
  refine A_forget _ (Sub.pickE (Ls := [[(b2, 30, #[Value.int .i64 (0), U (0#64), U (0#64)])], []]) (Ls0 := [[(b2, 30, #[Value.int .i64 (0), U (0#64), U (0#64)])]]) rfl [0, 1] rfl) ?_
  refine A_loop (fun tt ll nn => ∃ (n7 : Nat) (low1_ : List Bool) (i2_ : Int), (shunterref03_Vec_l3 N l' n7 low1_ i2_ = some r) ∧ ∃ (vlow1_ : Value) (Slow1_ : List Bl), Sl 4 encB vlow1_ low1_ Slow1_ ∧ Is [(0, l'v), (2, Value.pointer (some ⟨b2, 0, none⟩)), (3, vlow1_), (4, Value.int .i64 (i2_))] (List.flatten [[(b2, 30, #[Value.int .i64 (0), U (0#64), U (0#64)])], Slow1_]) tt ll ∧ nn = n7 + 1) (N + 1) ?_ ?_
  · exact ⟨N, [], (((l').length : Int) - 1), hM, Value.slice none 0 0, [], Sl.nil, is_mk rfl (by first | rfl | simp only [app_hl]), rfl⟩
  · clear hM; rintro t l _ ⟨n7, low1_, i2_, hM, vlow1_, Slow1_, hlow1_, ⟨⟨T, rfl⟩, rfl⟩, rfl⟩
    rcases n7 with _ | n7
    · exact absurd hM (by simp [shunterref03_Vec_l3])
    rw [shunterref03_Vec_l3] at hM
    refine A_seq fun K8 hK8 => ?_
    refine A_seq fun K9 hK9 => ?_
    refine A_reg ?_
    refine r_v (Value.int .i64 (i2_)) rfl rfl rfl rfl ?_
    refine r_v (Value.bool (decide ((i2_ : Int) ≥ 0))) rfl rfl rfl rfl ?_
    refine lx_nil ?_
    refine hK9 _ _ ?_; try clear hK9 K9
    refine A_cond (decide ((i2_ : Int) ≥ 0)) rfl (fun hc10 => ?_) (fun hc10 => ?_)
    · replace hM := ifp (of_decide_eq_true hc10) hM
      refine A_skip ?_
      refine hK8 _ _ ?_; try clear hK8 K8
      refine A_seq fun K11 hK11 => ?_
      refine A_block ?_
      refine A_regC [(some 17, false), (some 18, true)] (conG Try.prog []) ?_
      refine r_v (vlow1_) rfl rfl rfl rfl ?_
      refine r_v (l'v) rfl rfl rfl rfl ?_
      refine r_v (Value.int .i64 (i2_)) rfl rfl rfl rfl ?_
      replace hM := ck_some hM; obtain ⟨ck12, hM⟩ := hM
      refine r_v (elA l'v ((i2_).toNat * 1)) rfl rfl rfl (ev_v (ev_idxSl rfl rfl rfl (Rd.shp hl') ck12)) ?_
      refine r_le (Value.bool ((l')[(i2_).toNat]!)) (En := encB) ((l')[(i2_).toNat]!) ((i2_).toNat) 0 rfl rfl (rd_ro hl') (get_of ck12) rfl ?_
      refine r_bs (cs0 := []) (Ls := [[(b2, 30, #[Value.int .i64 (0), U (0#64), U (0#64)])], Slow1_]) 4 encB [(l')[(i2_).toNat]!] [Value.bool ((l')[(i2_).toNat]!)] [Value.bool (false)] rfl rfl rfl rfl rfl rfl rfl (by kernel_rfl) (by kernel_rfl) rfl rfl rfl (fun s13 S14 H15 => ?_)
      replace hM := ck_some hM; obtain ⟨ck16, hM⟩ := hM
      refine r_app (cs0 := []) (Ls := [[(b2, 30, #[Value.int .i64 (0), U (0#64), U (0#64)])], Slow1_, S14]) 1 (En := encB) rfl rfl rfl rfl rfl hlow1_ rfl (rd_own H15 (mem_chunk (Ls := [[(b2, 30, #[Value.int .i64 (0), U (0#64), U (0#64)])], Slow1_, S14]) (k := 2) rfl rfl)) rfl rfl rfl rfl rfl (app_b ck16 rfl) (app_m ck16 rfl) rfl (fun s17 S18 H19 => ?_)
      refine r_v (s17) rfl rfl rfl rfl ?_
      refine lx_nil ?_
      refine hK11 _ _ ?_; try clear hK11 K11
      refine A_reg ?_
      refine r_v (Value.int .i64 (i2_)) rfl rfl rfl rfl ?_
      replace hM := ck_some hM; obtain ⟨ck20, hM⟩ := hM
      refine r_v (Value.int .i64 ((i2_ - 1))) rfl rfl (wi64 rfl ck20.1 ck20.2) rfl ?_
      refine r_v (Value.int .i64 ((i2_ - 1))) rfl rfl rfl rfl ?_
      refine lx_nil ?_
      refine fg _ (Sub.pick [[(b2, 30, #[Value.int .i64 (0), U (0#64), U (0#64)])], S18, S14] [0, 1] rfl) ?_
      exact ⟨n7 + 1, by omega, n7, (low1_ ++ ([(l')[(i2_).toNat]!])), (i2_ - 1), hM, s17, S18, H19, is_mk rfl (by first | rfl | simp only [app_hl]), rfl⟩
    · replace hM := ifn (of_decide_eq_false hc10) hM
      refine A_exit ?_
      refine hK4 _ _ ?_; try clear hK4 K4
      refine A_seq fun K21 hK21 => ?_
      refine A_regC [(some 20, false)] (conG Try.prog [(20, fun _ _ v_ L_ U_ => ∀ u0_, shunterref02_Of_m N low1_ = some u0_ → (pV (Value.agg #[Value.int .i64 (u0_.1), U (hi (u0_.2)), U (lo (u0_.2))])) v_ L_ U_)]) ?_
      refine r_v (vlow1_) rfl rfl rfl rfl ?_
      replace hM := bind_sm hM; obtain ⟨r22, hr23, hM⟩ := hM
      refine r_gv (Value.agg #[Value.int .i64 (r22.1), U (hi (r22.2)), U (lo (r22.2))]) 77 _ rfl rfl rfl (ev_callF rfl call_77 rfl) (fun own_ nw_ hs_ => shunterref02_Of_g N low1_ _ hr23 hs_.view vlow1_ ((rd_own hlow1_ (mem_chunk (Ls := [[(b2, 30, #[Value.int .i64 (0), U (0#64), U (0#64)])], Slow1_]) (k := 1) rfl rfl)) own_ nw_ hs_)) (fun _ _ v_ L_ U_ => ⟨fun h_ => h_ _ hr23, fun h_ => by intro _ e_; cases Option.some.inj (e_.symm.trans hr23); exact h_⟩) ?_
      refine r_s (List.flatten [[(b2, 30, #[Value.int .i64 (r22.1), U (hi (r22.2)), U (lo (r22.2))])], Slow1_]) 0 _ _ _ (#[Value.int .i64 (0), U (0#64), U (0#64)]) (#[Value.int .i64 (r22.1), U (hi (r22.2)), U (lo (r22.2))]) (#[Value.int .i64 (r22.1), U (hi (r22.2)), U (lo (r22.2))]) rfl rfl rfl rfl (.of rfl rfl) rfl rfl ?_
      refine lx_nil ?_
      refine hK21 _ _ ?_; try clear hK21 K21
      obtain rfl := Option.some.inj hM
      refine A_ret (fun hn => endsV (v0 := Value.agg #[Value.int .i64 (r22.1), U (hi (r22.2)), U (lo (r22.2))]) rfl (res1 (res_cell hn 0 rfl rfl rfl)))
def shunterref07_Take_v1_m (N : Nat) (r_0 : List UInt8) (r_1 : Int) (r_2 : Int) (r_3 : Int) (size : Int) (most : Int) : Option ((List UInt8) × Int × Int × Int × Int) := if (r_2 : Int) ≠ 0 then some (r_0, r_1, r_2, r_3, 0) else if (((r_0).length : Int) : Int) < size then (shunterref07_fail_v1_m N r_0 r_1 r_2 r_3 3 r_1).bind fun r12 => some (r12.1, r12.2.1, r12.2.2.1, r12.2.2.2, 0) else ck (0 ≤ size ∧ size ≤ ((r_0).length : Int)) ((shunterref03_Bits_m N (((r_0).take ((size).toNat)).drop (0))).bind fun r18 => (shunterref03_Vec_m N r18).bind fun r23 => ck ((((lo (r23.2)).toNat : Nat) : Int) ≤ 9223372036854775807) (if ((((lo (r23.2)).toNat : Nat) : Int) : Int) > most then (shunterref07_fail_v1_m N r_0 r_1 r_2 r_3 7 r_1).bind fun r32 => some (r32.1, r32.2.1, r32.2.2.1, r32.2.2.2, 0) else ck (0 ≤ size ∧ size ≤ ((r_0).length : Int)) (ck ((-9223372036854775808 ≤ (r_1 + size) ∧ (r_1 + size) ≤ 9223372036854775807)) (some (((r_0).take ((r_0).length)).drop ((size).toNat), (r_1 + size), r_2, r_3, (((lo (r23.2)).toNat : Nat) : Int))))))
set_option maxRecDepth 100000 in
set_option maxHeartbeats 8000000 in
theorem shunterref07_Take_v1_g (N : Nat) (r_0 : List UInt8) (r_1 : Int) (r_2 : Int) (r_3 : Int) (size : Int) (most : Int) (r : (List UInt8) × Int × Int × Int × Int) (hM : shunterref07_Take_v1_m N r_0 r_1 r_2 r_3 size most = some r) (ro : Addr → Option Value) (r_0v : Value) (hr_0 : Rd encY ro r_0v r_0) : Does Try.prog 35 #[Value.agg #[r_0v, Value.int .i64 (r_1), Value.int .i64 (r_2), Value.int .i64 (r_3)], Value.int .i64 (size), Value.int .i64 (most)] ro [] (pO [] (oR encY ro r.1 fun s_0 => (oE (Value.tuple #[Value.agg #[s_0, Value.int .i64 (r.2.1), Value.int .i64 (r.2.2.1), Value.int .i64 (r.2.2.2.1)], Value.int .i64 (r.2.2.2.2)]) []))) := by
  unfold shunterref07_Take_v1_m at hM
  refine doesO_of_A follows Try.func35 rfl 51 rfl (upd (upd (upd (fun _ => undef) 2 (Value.int .i64 (most))) 1 (Value.int .i64 (size))) 0 (Value.agg #[r_0v, Value.int .i64 (r_1), Value.int .i64 (r_2), Value.int .i64 (r_3)])) (by funext k; match k with | 0 => rfl | 1 => rfl | 2 => rfl | k + 3 => rfl) (fun _ _ h_ _ => h_) (fun base0_ => ?_)
  refine A_seq fun K1 hK1 => ?_
  refine A_reg ?_
  refine r_a (39, #[r_0v, Value.int .i64 (r_1), Value.int .i64 (r_2), Value.int .i64 (r_3)]) rfl rfl rfl (fun b2 => ?_) (.inr rfl)
  refine r_a (39, #[Value.slice none 0 0, Value.int .i64 (0), Value.int .i64 (0), Value.int .i64 (0)]) rfl rfl rfl (fun b3 => ?_) (.inr rfl)
  refine r_v (Value.int .i64 (0)) rfl rfl rfl rfl ?_
  refine lx_nil ?_
  refine hK1 _ _ ?_; try clear hK1 K1
  refine A_seq fun K4 hK4 => ?_
  refine A_seq fun K5 hK5 => ?_
  refine A_reg ?_
  refine r_v (Value.pointer (some ⟨b2, 2, none⟩)) rfl rfl rfl rfl ?_
  refine r_l (Value.int .i64 (r_2)) 1 _ _ _ _ rfl rfl rfl rfl rfl ?_
  refine r_v (Value.bool (((r_2 : Int) != 0))) rfl rfl rfl rfl ?_
  refine lx_nil ?_
  refine hK5 _ _ ?_; try clear hK5 K5
  refine A_cond (((r_2 : Int) != 0)) rfl (fun hc6 => ?_) (fun hc6 => ?_)
  · replace hM := ifp (bne_iff_ne.1 hc6) hM
    refine A_seq fun K7 hK7 => ?_
    refine A_reg ?_
    refine r_l (Value.agg #[r_0v, Value.int .i64 (r_1), Value.int .i64 (r_2), Value.int .i64 (r_3)]) 1 _ _ _ _ rfl rfl rfl rfl rfl ?_
    refine r_s [(b3, 39, #[r_0v, Value.int .i64 (r_1), Value.int .i64 (r_2), Value.int .i64 (r_3)]), (b2, 39, #[r_0v, Value.int .i64 (r_1), Value.int .i64 (r_2), Value.int .i64 (r_3)])] 0 _ _ _ (#[Value.slice none 0 0, Value.int .i64 (0), Value.int .i64 (0), Value.int .i64 (0)]) (#[r_0v, Value.int .i64 (r_1), Value.int .i64 (r_2), Value.int .i64 (r_3)]) (#[r_0v, Value.int .i64 (r_1), Value.int .i64 (r_2), Value.int .i64 (r_3)]) rfl rfl rfl rfl (.ofS rfl rfl (all_cons' (Shp.one (Rd.shp hr_0)) (all_cons' rfl (all_cons' rfl (all_cons' rfl all_nil'))))) rfl rfl ?_
    refine r_v (Value.int .i64 (0)) rfl rfl rfl rfl ?_
    refine lx_nil ?_
    refine hK7 _ _ ?_; try clear hK7 K7
    obtain rfl := Option.some.inj hM
    refine A_ret (fun hn => endsO (v0 := Value.tuple #[Value.agg #[r_0v, Value.int .i64 (r_1), Value.int .i64 (r_2), Value.int .i64 (r_3)], Value.int .i64 (0)]) (O := []) (res2 (res_cell hn 0 rfl rfl rfl) rfl) (Sub.nil _) ⟨r_0v, hr_0, ⟨rfl, rfl⟩⟩)
  · replace hM := ifn (bne_f hc6) hM
    refine A_skip ?_
    refine hK4 _ _ ?_; try clear hK4 K4
    refine A_seq fun K8 hK8 => ?_
    refine A_seq fun K9 hK9 => ?_
    refine A_reg ?_
    refine r_v (Value.pointer (some ⟨b2, 0, none⟩)) rfl rfl rfl rfl ?_
    refine r_l (r_0v) 1 _ _ _ _ rfl rfl rfl rfl rfl ?_
    refine r_v (Value.int .i64 (((r_0).length : Int))) rfl rfl rfl (ev_lenSl rfl rfl rfl (Rd.shp hr_0)) ?_
    refine r_v (Value.int .i64 (size)) rfl rfl rfl rfl ?_
    refine r_v (Value.bool (decide ((((r_0).length : Int) : Int) < size))) rfl rfl rfl rfl ?_
    refine lx_nil ?_
    refine hK9 _ _ ?_; try clear hK9 K9
    refine A_cond (decide ((((r_0).length : Int) : Int) < size)) rfl (fun hc10 => ?_) (fun hc10 => ?_)
    · replace hM := ifp (of_decide_eq_true hc10) hM
      refine A_seq fun K11 hK11 => ?_
      refine A_regC [(some 22, true)] (conG Try.prog [(22, fun _ _ v_ L_ U_ => ∀ u0_, shunterref07_fail_v1_m N r_0 r_1 r_2 r_3 3 r_1 = some u0_ → (pO (List.flatten []) (oR encY ro u0_.1 fun s_0 => (oE (Value.agg #[s_0, Value.int .i64 (u0_.2.1), Value.int .i64 (u0_.2.2.1), Value.int .i64 (u0_.2.2.2)]) []))) v_ L_ U_)]) ?_
      refine r_l (Value.agg #[r_0v, Value.int .i64 (r_1), Value.int .i64 (r_2), Value.int .i64 (r_3)]) 1 _ _ _ _ rfl rfl rfl rfl rfl ?_
      refine r_v (Value.pointer (some ⟨b2, 1, none⟩)) rfl rfl rfl rfl ?_
      refine r_l (Value.int .i64 (r_1)) 1 _ _ _ _ rfl rfl rfl rfl rfl ?_
      replace hM := bind_sm hM; obtain ⟨r12, hr13, hM⟩ := hM
      refine r_gm (Ls := [[(b3, 39, #[Value.slice none 0 0, Value.int .i64 (0), Value.int .i64 (0), Value.int .i64 (0)])], [(b2, 39, #[r_0v, Value.int .i64 (r_1), Value.int .i64 (r_2), Value.int .i64 (r_3)])]]) (FL := []) (RL := [[(b3, 39, #[Value.slice none 0 0, Value.int .i64 (0), Value.int .i64 (0), Value.int .i64 (0)])], [(b2, 39, #[r_0v, Value.int .i64 (r_1), Value.int .i64 (r_2), Value.int .i64 (r_3)])]]) [] (oR encY ro r12.1 fun s_0 => (oE (Value.agg #[s_0, Value.int .i64 (r12.2.1), Value.int .i64 (r12.2.2.1), Value.int .i64 (r12.2.2.2)]) [])) (some 22) 60 _ rfl rfl rfl rfl rfl (ev_callF rfl call_60 rfl) (fun own_ nw_ hn_ hs_ => DoesI.ro_mono (ro_sans (Ls := [[(b3, 39, #[Value.slice none 0 0, Value.int .i64 (0), Value.int .i64 (0), Value.int .i64 (0)])], [(b2, 39, #[r_0v, Value.int .i64 (r_1), Value.int .i64 (r_2), Value.int .i64 (r_3)])]]) (is := []) rfl hs_) (shunterref07_fail_v1_g N r_0 r_1 r_2 r_3 3 r_1 _ hr13 ro r_0v hr_0)) (fun _ _ v_ L_ U_ => ⟨fun h_ => h_ _ hr13, fun h_ => by intro _ e_; cases Option.some.inj (e_.symm.trans hr13); exact h_⟩) (fun h_ => nomatch h_) ?_
      rintro _ _ ⟨s14, hs15, ⟨rfl, rfl⟩⟩
      refine lx_perm (Ls := [[(b3, 39, #[Value.slice none 0 0, Value.int .i64 (0), Value.int .i64 (0), Value.int .i64 (0)])], [(b2, 39, #[r_0v, Value.int .i64 (r_1), Value.int .i64 (r_2), Value.int .i64 (r_3)])]]) (Ls' := [[(b3, 39, #[Value.slice none 0 0, Value.int .i64 (0), Value.int .i64 (0), Value.int .i64 (0)])], [(b2, 39, #[r_0v, Value.int .i64 (r_1), Value.int .i64 (r_2), Value.int .i64 (r_3)])]]) [0, 1] rfl rfl ?_
      refine r_s [(b3, 39, #[s14, Value.int .i64 (r12.2.1), Value.int .i64 (r12.2.2.1), Value.int .i64 (r12.2.2.2)]), (b2, 39, #[r_0v, Value.int .i64 (r_1), Value.int .i64 (r_2), Value.int .i64 (r_3)])] 0 _ _ _ (#[Value.slice none 0 0, Value.int .i64 (0), Value.int .i64 (0), Value.int .i64 (0)]) (#[s14, Value.int .i64 (r12.2.1), Value.int .i64 (r12.2.2.1), Value.int .i64 (r12.2.2.2)]) (#[s14, Value.int .i64 (r12.2.1), Value.int .i64 (r12.2.2.1), Value.int .i64 (r12.2.2.2)]) rfl rfl rfl rfl (.ofS rfl rfl (all_cons' (Shp.one (Rd.shp hs15)) (all_cons' rfl (all_cons' rfl (all_cons' rfl all_nil'))))) rfl rfl ?_
      refine r_v (Value.int .i64 (0)) rfl rfl rfl rfl ?_
      refine lx_nil ?_
      refine hK11 _ _ ?_; try clear hK11 K11
      obtain rfl := Option.some.inj hM
      refine A_ret (fun hn => endsO (v0 := Value.tuple #[Value.agg #[s14, Value.int .i64 (r12.2.1), Value.int .i64 (r12.2.2.1), Value.int .i64 (r12.2.2.2)], Value.int .i64 (0)]) (O := []) (res2 (res_cell hn 0 rfl rfl rfl) rfl) (Sub.nil _) ⟨s14, hs15, ⟨rfl, rfl⟩⟩)
    · replace hM := ifn (of_decide_eq_false hc10) hM
      refine A_skip ?_
      refine hK8 _ _ ?_; try clear hK8 K8
      refine A_seq fun K16 hK16 => ?_
      refine A_regC [(some 27, false), (some 28, false)] (conG Try.prog [(27, fun _ _ v_ L_ U_ => ∀ u0_, shunterref03_Bits_m N (((r_0).take ((size).toNat)).drop (0)) = some u0_ → (p1 (fun s_ => s_) 4 encB (u0_)) v_ L_ U_), (28, fun _ _ v_ L_ U_ => ∀ u0_, shunterref03_Bits_m N (((r_0).take ((size).toNat)).drop (0)) = some u0_ → ∀ u1_, shunterref03_Vec_m N u0_ = some u1_ → (pV (Value.agg #[Value.int .i64 (u1_.1), U (hi (u1_.2)), U (lo (u1_.2))])) v_ L_ U_)]) ?_
      refine r_v (Value.pointer (some ⟨b2, 0, none⟩)) rfl rfl rfl rfl ?_
      refine r_l (r_0v) 1 _ _ _ _ rfl rfl rfl rfl rfl ?_
      refine r_v (Value.int .i64 (size)) rfl rfl rfl rfl ?_
      replace hM := ck_some hM; obtain ⟨ck17, hM⟩ := hM
      refine r_v (subA r_0v (0) ((size).toNat) 1) rfl rfl rfl (ev_v (ev_subSl2 rfl rfl rfl rfl (Rd.shp hr_0) ck17)) ?_
      replace hM := bind_sm hM; obtain ⟨r18, hr19, hM⟩ := hM
      refine r_g1 (Ls := [[(b3, 39, #[Value.slice none 0 0, Value.int .i64 (0), Value.int .i64 (0), Value.int .i64 (0)])], [(b2, 39, #[r_0v, Value.int .i64 (r_1), Value.int .i64 (r_2), Value.int .i64 (r_3)])]]) (fun s20 => s20) 4 encB (r18) 62 _ rfl rfl rfl (ev_callF rfl call_62 rfl) (fun own_ nw_ hs_ => shunterref03_Bits_g N (((r_0).take ((size).toNat)).drop (0)) _ hr19 hs_.view (subA r_0v (0) ((size).toNat) 1) ((rd_sub (rd_ro hr_0) (Nat.zero_le _) (toNat_len ck17.2)) own_ nw_ hs_)) (fun _ _ v_ L_ U_ => ⟨fun h_ => h_ _ hr19, fun h_ => by intro _ e_; cases Option.some.inj (e_.symm.trans hr19); exact h_⟩) (fun s20 S21 H22 => ?_)
      replace hM := bind_sm hM; obtain ⟨r23, hr24, hM⟩ := hM
      refine r_gv (Value.agg #[Value.int .i64 (r23.1), U (hi (r23.2)), U (lo (r23.2))]) 61 _ rfl rfl rfl (ev_callF rfl call_61 rfl) (fun own_ nw_ hs_ => shunterref03_Vec_g N r18 _ hr24 hs_.view s20 ((rd_own H22 (mem_chunk (Ls := [[(b3, 39, #[Value.slice none 0 0, Value.int .i64 (0), Value.int .i64 (0), Value.int .i64 (0)])], [(b2, 39, #[r_0v, Value.int .i64 (r_1), Value.int .i64 (r_2), Value.int .i64 (r_3)])], S21]) (k := 2) rfl rfl)) own_ nw_ hs_)) (fun _ _ v_ L_ U_ => ⟨fun h_ => h_ _ hr19 _ hr24, fun h_ => by intro _ e_; cases Option.some.inj (e_.symm.trans hr19); intro _ e_; cases Option.some.inj (e_.symm.trans hr24); exact h_⟩) ?_
      refine r_a (30, #[Value.int .i64 (0), U (0#64), U (0#64)]) rfl rfl rfl (fun b25 => ?_) (.inr rfl)
      refine r_s (List.flatten [[(b25, 30, #[Value.int .i64 (r23.1), U (hi (r23.2)), U (lo (r23.2))])], [(b3, 39, #[Value.slice none 0 0, Value.int .i64 (0), Value.int .i64 (0), Value.int .i64 (0)])], [(b2, 39, #[r_0v, Value.int .i64 (r_1), Value.int .i64 (r_2), Value.int .i64 (r_3)])], S21]) 0 _ _ _ (#[Value.int .i64 (0), U (0#64), U (0#64)]) (#[Value.int .i64 (r23.1), U (hi (r23.2)), U (lo (r23.2))]) (#[Value.int .i64 (r23.1), U (hi (r23.2)), U (lo (r23.2))]) rfl rfl rfl rfl (.of rfl rfl) rfl rfl ?_
      refine lx_nil ?_
      refine hK16 _ _ ?_; try clear hK16 K16
      refine A_seq fun K26 hK26 => ?_
      refine A_reg ?_
      refine r_v (Value.pointer (some ⟨b25, 2, none⟩)) rfl rfl rfl rfl ?_
      refine r_l (U (lo (r23.2))) 0 _ _ _ _ rfl rfl rfl rfl rfl ?_
      replace hM := ck_some hM; obtain ⟨ck27, hM⟩ := hM
      refine r_w (Value.int .i64 ((((lo (r23.2)).toNat : Nat) : Int))) rfl rfl (wi64 rfl (by omega) ck27) (fun _ => rfl) ?_
      refine r_v (Value.int .i64 ((((lo (r23.2)).toNat : Nat) : Int))) rfl rfl rfl rfl ?_
      refine lx_nil ?_
      refine hK26 _ _ ?_; try clear hK26 K26
      refine A_seq fun K28 hK28 => ?_
      refine A_seq fun K29 hK29 => ?_
      refine A_reg ?_
      refine r_v (Value.int .i64 ((((lo (r23.2)).toNat : Nat) : Int))) rfl rfl rfl rfl ?_
      refine r_v (Value.int .i64 (most)) rfl rfl rfl rfl ?_
      refine r_v (Value.bool (decide (((((lo (r23.2)).toNat : Nat) : Int) : Int) > most))) rfl rfl rfl rfl ?_
      refine lx_nil ?_
      refine hK29 _ _ ?_; try clear hK29 K29
      refine A_cond (decide (((((lo (r23.2)).toNat : Nat) : Int) : Int) > most)) rfl (fun hc30 => ?_) (fun hc30 => ?_)
      · replace hM := ifp (of_decide_eq_true hc30) hM
        refine A_seq fun K31 hK31 => ?_
        refine A_regC [(some 38, true)] (conG Try.prog [(38, fun _ _ v_ L_ U_ => ∀ u0_, shunterref07_fail_v1_m N r_0 r_1 r_2 r_3 7 r_1 = some u0_ → (pO (List.flatten []) (oR encY ro u0_.1 fun s_0 => (oE (Value.agg #[s_0, Value.int .i64 (u0_.2.1), Value.int .i64 (u0_.2.2.1), Value.int .i64 (u0_.2.2.2)]) []))) v_ L_ U_)]) ?_
        refine r_l (Value.agg #[r_0v, Value.int .i64 (r_1), Value.int .i64 (r_2), Value.int .i64 (r_3)]) 2 _ _ _ _ rfl rfl rfl rfl rfl ?_
        refine r_v (Value.pointer (some ⟨b2, 1, none⟩)) rfl rfl rfl rfl ?_
        refine r_l (Value.int .i64 (r_1)) 2 _ _ _ _ rfl rfl rfl rfl rfl ?_
        replace hM := bind_sm hM; obtain ⟨r32, hr33, hM⟩ := hM
        refine r_gm (Ls := [[(b25, 30, #[Value.int .i64 (r23.1), U (hi (r23.2)), U (lo (r23.2))])], [(b3, 39, #[Value.slice none 0 0, Value.int .i64 (0), Value.int .i64 (0), Value.int .i64 (0)])], [(b2, 39, #[r_0v, Value.int .i64 (r_1), Value.int .i64 (r_2), Value.int .i64 (r_3)])], S21]) (FL := []) (RL := [[(b25, 30, #[Value.int .i64 (r23.1), U (hi (r23.2)), U (lo (r23.2))])], [(b3, 39, #[Value.slice none 0 0, Value.int .i64 (0), Value.int .i64 (0), Value.int .i64 (0)])], [(b2, 39, #[r_0v, Value.int .i64 (r_1), Value.int .i64 (r_2), Value.int .i64 (r_3)])], S21]) [] (oR encY ro r32.1 fun s_0 => (oE (Value.agg #[s_0, Value.int .i64 (r32.2.1), Value.int .i64 (r32.2.2.1), Value.int .i64 (r32.2.2.2)]) [])) (some 38) 60 _ rfl rfl rfl rfl rfl (ev_callF rfl call_60 rfl) (fun own_ nw_ hn_ hs_ => DoesI.ro_mono (ro_sans (Ls := [[(b25, 30, #[Value.int .i64 (r23.1), U (hi (r23.2)), U (lo (r23.2))])], [(b3, 39, #[Value.slice none 0 0, Value.int .i64 (0), Value.int .i64 (0), Value.int .i64 (0)])], [(b2, 39, #[r_0v, Value.int .i64 (r_1), Value.int .i64 (r_2), Value.int .i64 (r_3)])], S21]) (is := []) rfl hs_) (shunterref07_fail_v1_g N r_0 r_1 r_2 r_3 7 r_1 _ hr33 ro r_0v hr_0)) (fun _ _ v_ L_ U_ => ⟨fun h_ => h_ _ hr33, fun h_ => by intro _ e_; cases Option.some.inj (e_.symm.trans hr33); exact h_⟩) (fun h_ => nomatch h_) ?_
        rintro _ _ ⟨s34, hs35, ⟨rfl, rfl⟩⟩
        refine lx_perm (Ls := [[(b25, 30, #[Value.int .i64 (r23.1), U (hi (r23.2)), U (lo (r23.2))])], [(b3, 39, #[Value.slice none 0 0, Value.int .i64 (0), Value.int .i64 (0), Value.int .i64 (0)])], [(b2, 39, #[r_0v, Value.int .i64 (r_1), Value.int .i64 (r_2), Value.int .i64 (r_3)])], S21]) (Ls' := [[(b25, 30, #[Value.int .i64 (r23.1), U (hi (r23.2)), U (lo (r23.2))])], [(b3, 39, #[Value.slice none 0 0, Value.int .i64 (0), Value.int .i64 (0), Value.int .i64 (0)])], [(b2, 39, #[r_0v, Value.int .i64 (r_1), Value.int .i64 (r_2), Value.int .i64 (r_3)])], S21]) [0, 1, 2, 3] rfl rfl ?_
        refine r_s (List.flatten [[(b25, 30, #[Value.int .i64 (r23.1), U (hi (r23.2)), U (lo (r23.2))])], [(b3, 39, #[s34, Value.int .i64 (r32.2.1), Value.int .i64 (r32.2.2.1), Value.int .i64 (r32.2.2.2)])], [(b2, 39, #[r_0v, Value.int .i64 (r_1), Value.int .i64 (r_2), Value.int .i64 (r_3)])], S21]) 1 _ _ _ (#[Value.slice none 0 0, Value.int .i64 (0), Value.int .i64 (0), Value.int .i64 (0)]) (#[s34, Value.int .i64 (r32.2.1), Value.int .i64 (r32.2.2.1), Value.int .i64 (r32.2.2.2)]) (#[s34, Value.int .i64 (r32.2.1), Value.int .i64 (r32.2.2.1), Value.int .i64 (r32.2.2.2)]) rfl rfl rfl rfl (.ofS rfl rfl (all_cons' (Shp.one (Rd.shp hs35)) (all_cons' rfl (all_cons' rfl (all_cons' rfl all_nil'))))) rfl rfl ?_
        refine r_v (Value.int .i64 (0)) rfl rfl rfl rfl ?_
        refine lx_nil ?_
        refine hK31 _ _ ?_; try clear hK31 K31
        refine A_gen [(6, Value.pointer (some ⟨b3, 0, none⟩)), (7, Value.int .i64 (0))] rfl (fun T => ?_)
        obtain rfl := Option.some.inj hM
        refine A_ret (fun hn => endsO (v0 := Value.tuple #[Value.agg #[s34, Value.int .i64 (r32.2.1), Value.int .i64 (r32.2.2.1), Value.int .i64 (r32.2.2.2)], Value.int .i64 (0)]) (O := []) (res2 (res_cell hn 1 rfl rfl rfl) rfl) (Sub.nil _) ⟨s34, hs35, ⟨rfl, rfl⟩⟩)
      · replace hM := ifn (of_decide_eq_false hc30) hM
        refine A_skip ?_
        refine hK28 _ _ ?_; try clear hK28 K28
        refine A_seq fun K36 hK36 => ?_
        refine A_reg ?_
        refine r_v (Value.pointer (some ⟨b2, 0, none⟩)) rfl rfl rfl rfl ?_
        refine r_l (r_0v) 2 _ _ _ _ rfl rfl rfl rfl rfl ?_
        refine r_v (Value.int .i64 (size)) rfl rfl rfl rfl ?_
        replace hM := ck_some hM; obtain ⟨ck37, hM⟩ := hM
        refine r_v (subA r_0v ((size).toNat) ((r_0).length) 1) rfl rfl rfl (ev_v (ev_subSl1 rfl rfl rfl rfl (Rd.shp hr_0) ck37)) ?_
        refine r_v (Value.pointer (some ⟨b2, 0, none⟩)) rfl rfl rfl rfl ?_
        refine r_s (List.flatten [[(b25, 30, #[Value.int .i64 (r23.1), U (hi (r23.2)), U (lo (r23.2))])], [(b3, 39, #[Value.slice none 0 0, Value.int .i64 (0), Value.int .i64 (0), Value.int .i64 (0)])], [(b2, 39, #[subA r_0v ((size).toNat) ((r_0).length) 1, Value.int .i64 (r_1), Value.int .i64 (r_2), Value.int .i64 (r_3)])], S21]) 2 _ _ _ (#[r_0v, Value.int .i64 (r_1), Value.int .i64 (r_2), Value.int .i64 (r_3)]) (#[subA r_0v ((size).toNat) ((r_0).length) 1]) (#[subA r_0v ((size).toNat) ((r_0).length) 1, Value.int .i64 (r_1), Value.int .i64 (r_2), Value.int .i64 (r_3)]) rfl rfl rfl (cells_sl rfl (shp_len (Shp.sub (Rd.shp hr_0) (toNat_len ck37.2) (Nat.le_refl _)) (len_td (Nat.le_refl _)))) (.ofS rfl rfl (all_cons' (Shp.one (shp_len (Shp.sub (Rd.shp hr_0) (toNat_len ck37.2) (Nat.le_refl _)) (len_td (Nat.le_refl _)))) all_nil')) rfl rfl ?_
        refine lx_nil ?_
        refine hK36 _ _ ?_; try clear hK36 K36
        refine A_gen [(1, Value.int .i64 (size)), (3, Value.pointer (some ⟨b2, 0, none⟩)), (6, Value.pointer (some ⟨b3, 0, none⟩)), (9, Value.int .i64 ((((lo (r23.2)).toNat : Nat) : Int)))] rfl (fun T => ?_)
        refine A_seq fun K38 hK38 => ?_
        refine A_reg ?_
        refine r_v (Value.pointer (some ⟨b2, 1, none⟩)) rfl rfl rfl rfl ?_
        refine r_l (Value.int .i64 (r_1)) 2 _ _ _ _ rfl rfl rfl rfl rfl ?_
        refine r_v (Value.int .i64 (size)) rfl rfl rfl rfl ?_
        replace hM := ck_some hM; obtain ⟨ck39, hM⟩ := hM
        refine r_v (Value.int .i64 ((r_1 + size))) rfl rfl (wi64 rfl ck39.1 ck39.2) rfl ?_
        refine r_v (Value.pointer (some ⟨b2, 1, none⟩)) rfl rfl rfl rfl ?_
        refine r_s (List.flatten [[(b25, 30, #[Value.int .i64 (r23.1), U (hi (r23.2)), U (lo (r23.2))])], [(b3, 39, #[Value.slice none 0 0, Value.int .i64 (0), Value.int .i64 (0), Value.int .i64 (0)])], [(b2, 39, #[subA r_0v ((size).toNat) ((r_0).length) 1, Value.int .i64 ((r_1 + size)), Value.int .i64 (r_2), Value.int .i64 (r_3)])], S21]) 2 _ _ _ (#[subA r_0v ((size).toNat) ((r_0).length) 1, Value.int .i64 (r_1), Value.int .i64 (r_2), Value.int .i64 (r_3)]) (#[Value.int .i64 ((r_1 + size))]) (#[subA r_0v ((size).toNat) ((r_0).length) 1, Value.int .i64 ((r_1 + size)), Value.int .i64 (r_2), Value.int .i64 (r_3)]) rfl rfl rfl rfl (.of rfl rfl) rfl rfl ?_
        refine lx_nil ?_
        refine hK38 _ _ ?_; try clear hK38 K38
        refine A_seq fun K40 hK40 => ?_
        refine A_reg ?_
        refine r_l (Value.agg #[subA r_0v ((size).toNat) ((r_0).length) 1, Value.int .i64 ((r_1 + size)), Value.int .i64 (r_2), Value.int .i64 (r_3)]) 2 _ _ _ _ rfl rfl rfl rfl rfl ?_
        refine r_v (Value.int .i64 ((((lo (r23.2)).toNat : Nat) : Int))) rfl rfl rfl rfl ?_
        refine r_s (List.flatten [[(b25, 30, #[Value.int .i64 (r23.1), U (hi (r23.2)), U (lo (r23.2))])], [(b3, 39, #[subA r_0v ((size).toNat) ((r_0).length) 1, Value.int .i64 ((r_1 + size)), Value.int .i64 (r_2), Value.int .i64 (r_3)])], [(b2, 39, #[subA r_0v ((size).toNat) ((r_0).length) 1, Value.int .i64 ((r_1 + size)), Value.int .i64 (r_2), Value.int .i64 (r_3)])], S21]) 1 _ _ _ (#[Value.slice none 0 0, Value.int .i64 (0), Value.int .i64 (0), Value.int .i64 (0)]) (#[subA r_0v ((size).toNat) ((r_0).length) 1, Value.int .i64 ((r_1 + size)), Value.int .i64 (r_2), Value.int .i64 (r_3)]) (#[subA r_0v ((size).toNat) ((r_0).length) 1, Value.int .i64 ((r_1 + size)), Value.int .i64 (r_2), Value.int .i64 (r_3)]) rfl rfl rfl rfl (.ofS rfl rfl (all_cons' (Shp.one (shp_len (Shp.sub (Rd.shp hr_0) (toNat_len ck37.2) (Nat.le_refl _)) (len_td (Nat.le_refl _)))) (all_cons' rfl (all_cons' rfl (all_cons' rfl all_nil'))))) rfl rfl ?_
        refine r_v (Value.int .i64 ((((lo (r23.2)).toNat : Nat) : Int))) rfl rfl rfl rfl ?_
        refine lx_nil ?_
        refine hK40 _ _ ?_; try clear hK40 K40
        obtain rfl := Option.some.inj hM
        refine A_ret (fun hn => endsO (v0 := Value.tuple #[Value.agg #[subA r_0v ((size).toNat) ((r_0).length) 1, Value.int .i64 ((r_1 + size)), Value.int .i64 (r_2), Value.int .i64 (r_3)], Value.int .i64 ((((lo (r23.2)).toNat : Nat) : Int))]) (O := []) (res2 (res_cell hn 1 rfl rfl rfl) rfl) (Sub.nil _) ⟨subA r_0v ((size).toNat) ((r_0).length) 1, (Rd.sub hr_0 (toNat_len ck37.2) (Nat.le_refl _)), ⟨rfl, rfl⟩⟩)
def vec_New_m (N : Nat) (w : Int) (hi' : BitVec 64) (lo' : BitVec 64) : Option (Int × (BitVec 128) × Int) := (vec_mayWidth_m N w).bind fun r5 => if (r5) = true then (vec_May_m N w ((hi') ++ (lo'))).bind fun r13 => if (r13) = true then some (w, (hi') ++ (lo'), 0) else some (0, (0#64) ++ (0#64), 7) else some (0, (0#64) ++ (0#64), 9)
set_option maxRecDepth 100000 in
set_option maxHeartbeats 8000000 in
theorem vec_New_g (N : Nat) (w : Int) (hi' : BitVec 64) (lo' : BitVec 64) (r : Int × (BitVec 128) × Int) (hM : vec_New_m N w hi' lo' = some r) : Gives Try.prog 72 #[Value.int .i64 (w), U (hi'), U (lo')] (Value.tuple #[Value.agg #[Value.int .i64 (r.1), U (hi (r.2.1)), U (lo (r.2.1))], Value.int .i64 (r.2.2)]) := by
  unfold vec_New_m at hM
  refine gives_of_A follows Try.func72 rfl 22 rfl (upd (upd (upd (fun _ => undef) 2 (U (lo'))) 1 (U (hi'))) 0 (Value.int .i64 (w))) (by funext k; match k with | 0 => rfl | 1 => rfl | 2 => rfl | k + 3 => rfl) (fun base0_ => ?_)
  refine A_seq fun K1 hK1 => ?_
  refine A_reg ?_
  refine r_a (30, #[Value.int .i64 (0), U (0#64), U (0#64)]) rfl rfl rfl (fun b2 => ?_) (.inr rfl)
  refine r_v (Value.int .i64 (0)) rfl rfl rfl rfl ?_
  refine lx_nil ?_
  refine hK1 _ _ ?_; try clear hK1 K1
  refine A_seq fun K3 hK3 => ?_
  refine A_seq fun K4 hK4 => ?_
  refine A_reg ?_
  refine r_v (Value.int .i64 (w)) rfl rfl rfl rfl ?_
  replace hM := bind_sm hM; obtain ⟨r5, hr6, hM⟩ := hM
  refine r_c (Value.bool (r5)) rfl _ _ (ev_callF rfl call_81 rfl) (vec_mayWidth_g N w _ hr6) ?_
  refine r_v (Value.bool (!(r5))) rfl rfl rfl rfl ?_
  refine lx_nil ?_
  refine hK4 _ _ ?_; try clear hK4 K4
  refine A_cond (!(r5)) rfl (fun hc7 => ?_) (fun hc7 => ?_)
  · replace hM := ifn (Bool.eq_false_iff.1 (not_t hc7)) hM
    refine A_seq fun K8 hK8 => ?_
    refine A_reg ?_
    refine r_v (Value.agg #[Value.int .i64 (0), U (0#64), U (0#64)]) rfl rfl rfl (ev_buildS rfl rfl rfl rfl) ?_
    refine r_s [(b2, 30, #[Value.int .i64 (0), U (0#64), U (0#64)])] 0 _ _ _ (#[Value.int .i64 (0), U (0#64), U (0#64)]) (#[Value.int .i64 (0), U (0#64), U (0#64)]) (#[Value.int .i64 (0), U (0#64), U (0#64)]) rfl rfl rfl rfl (.of rfl rfl) rfl rfl ?_
    refine r_v (Value.int .i64 (9)) rfl rfl rfl rfl ?_
    refine lx_nil ?_
    refine hK8 _ _ ?_; try clear hK8 K8
    obtain rfl := Option.some.inj hM
    refine A_ret (fun hn => ends_eq (v0 := Value.tuple #[Value.agg #[Value.int .i64 (0), U (0#64), U (0#64)], Value.int .i64 (9)]) (by first | rfl | (simp only [app_hl]; done) | simp only [app_hl]) (res2 (res_cell hn 0 rfl rfl rfl) rfl))
  · replace hM := ifp (not_f hc7) hM
    refine A_skip ?_
    refine hK3 _ _ ?_; try clear hK3 K3
    refine A_seq fun K9 hK9 => ?_
    refine A_reg ?_
    refine r_v (Value.int .i64 (w)) rfl rfl rfl rfl ?_
    refine r_v (U (hi')) rfl rfl rfl rfl ?_
    refine r_v (U (lo')) rfl rfl rfl rfl ?_
    refine r_v (Value.agg #[Value.int .i64 (w), U (hi'), U (lo')]) rfl rfl rfl (ev_buildS rfl rfl rfl rfl) ?_
    refine r_a (30, #[Value.int .i64 (0), U (0#64), U (0#64)]) rfl rfl rfl (fun b10 => ?_) (.inr rfl)
    refine r_s [(b10, 30, #[Value.int .i64 (w), U (hi'), U (lo')]), (b2, 30, #[Value.int .i64 (0), U (0#64), U (0#64)])] 0 _ _ _ (#[Value.int .i64 (0), U (0#64), U (0#64)]) (#[Value.int .i64 (w), U (hi'), U (lo')]) (#[Value.int .i64 (w), U (hi'), U (lo')]) rfl rfl rfl rfl (.of rfl rfl) rfl rfl ?_
    refine lx_nil ?_
    refine hK9 _ _ ?_; try clear hK9 K9
    refine A_seq fun K11 hK11 => ?_
    refine A_seq fun K12 hK12 => ?_
    refine A_reg ?_
    refine r_l (Value.agg #[Value.int .i64 (w), U (hi'), U (lo')]) 0 _ _ _ _ rfl rfl rfl rfl rfl ?_
    replace hM := bind_sm hM; obtain ⟨r13, hr14, hM⟩ := hM
    refine r_c (Value.bool (r13)) rfl _ _ (ev_callF rfl call_74 rfl) (by have h_ := (vec_May_g N w ((hi') ++ (lo')) _ hr14); simp only [app_hl] at h_; exact h_) ?_
    refine r_v (Value.bool (!(r13))) rfl rfl rfl rfl ?_
    refine lx_nil ?_
    refine hK12 _ _ ?_; try clear hK12 K12
    refine A_cond (!(r13)) rfl (fun hc15 => ?_) (fun hc15 => ?_)
    · replace hM := ifn (Bool.eq_false_iff.1 (not_t hc15)) hM
      refine A_seq fun K16 hK16 => ?_
      refine A_reg ?_
      refine r_v (Value.agg #[Value.int .i64 (0), U (0#64), U (0#64)]) rfl rfl rfl (ev_buildS rfl rfl rfl rfl) ?_
      refine r_s [(b10, 30, #[Value.int .i64 (w), U (hi'), U (lo')]), (b2, 30, #[Value.int .i64 (0), U (0#64), U (0#64)])] 1 _ _ _ (#[Value.int .i64 (0), U (0#64), U (0#64)]) (#[Value.int .i64 (0), U (0#64), U (0#64)]) (#[Value.int .i64 (0), U (0#64), U (0#64)]) rfl rfl rfl rfl (.of rfl rfl) rfl rfl ?_
      refine r_v (Value.int .i64 (7)) rfl rfl rfl rfl ?_
      refine lx_nil ?_
      refine hK16 _ _ ?_; try clear hK16 K16
      obtain rfl := Option.some.inj hM
      refine A_ret (fun hn => ends_eq (v0 := Value.tuple #[Value.agg #[Value.int .i64 (0), U (0#64), U (0#64)], Value.int .i64 (7)]) (by first | rfl | (simp only [app_hl]; done) | simp only [app_hl]) (res2 (res_cell hn 1 rfl rfl rfl) rfl))
    · replace hM := ifp (not_f hc15) hM
      refine A_skip ?_
      refine hK11 _ _ ?_; try clear hK11 K11
      refine A_seq fun K17 hK17 => ?_
      refine A_reg ?_
      refine r_l (Value.agg #[Value.int .i64 (w), U (hi'), U (lo')]) 0 _ _ _ _ rfl rfl rfl rfl rfl ?_
      refine r_s [(b10, 30, #[Value.int .i64 (w), U (hi'), U (lo')]), (b2, 30, #[Value.int .i64 (w), U (hi'), U (lo')])] 1 _ _ _ (#[Value.int .i64 (0), U (0#64), U (0#64)]) (#[Value.int .i64 (w), U (hi'), U (lo')]) (#[Value.int .i64 (w), U (hi'), U (lo')]) rfl rfl rfl rfl (.of rfl rfl) rfl rfl ?_
      refine r_v (Value.int .i64 (0)) rfl rfl rfl rfl ?_
      refine lx_nil ?_
      refine hK17 _ _ ?_; try clear hK17 K17
      obtain rfl := Option.some.inj hM
      refine A_ret (fun hn => ends_eq (v0 := Value.tuple #[Value.agg #[Value.int .i64 (w), U (hi'), U (lo')], Value.int .i64 (0)]) (by first | rfl | (simp only [app_hl]; done) | simp only [app_hl]) (res2 (res_cell hn 1 rfl rfl rfl) rfl))
def wire_rowOf_k1 (N : Nat) (b : List UInt8) : Option (Int × (BitVec 128) × Int × Int) := (wire_holding_m N ((((b)[((0 : Int)).toNat]!).toNat : Nat) : Int)).bind fun r10 => ck ((-9223372036854775808 ≤ (1 + r10) ∧ (1 + r10) ≤ 9223372036854775807)) (if (((b).length : Int) : Int) < (1 + r10) then some (0, (0#64) ++ (0#64), 0, 3) else ck (0 ≤ (1 : Int) ∧ (1 : Int) ≤ (1 + r10) ∧ (1 + r10) ≤ ((b).length : Int)) ((wire_wordOf_m N (((b).take (((1 + r10)).toNat)).drop (((1 : Int)).toNat))).bind fun r19 => (vec_New_m N ((((b)[((0 : Int)).toNat]!).toNat : Nat) : Int) (hi (r19)) (lo (r19))).bind fun r23 => if (r23.2.2 : Int) ≠ 0 then some (0, (0#64) ++ (0#64), 0, 4) else some (r23.1, r23.2.1, (1 + r10), 0)))
def wire_rowOf_m (N : Nat) (b : List UInt8) : Option (Int × (BitVec 128) × Int × Int) := if (((b).length : Int) : Int) = 0 then some (0, (0#64) ++ (0#64), 0, 3) else ck (0 ≤ (0 : Int) ∧ (0 : Int) < ((b).length : Int)) (if (((((b)[((0 : Int)).toNat]!).toNat : Nat) : Int) : Int) < 1 then some (0, (0#64) ++ (0#64), 0, 9) else if (((((b)[((0 : Int)).toNat]!).toNat : Nat) : Int) : Int) > 128 then some (0, (0#64) ++ (0#64), 0, 9) else wire_rowOf_k1 N b )
set_option maxRecDepth 100000 in
set_option maxHeartbeats 8000000 in
theorem wire_rowOf_g (N : Nat) (b : List UInt8) (r : Int × (BitVec 128) × Int × Int) (hM : wire_rowOf_m N b = some r) (ro : Addr → Option Value) (bv : Value) (hb : Rd encY ro bv b) : Does Try.prog 49 #[bv] ro [] (pV (Value.tuple #[Value.agg #[Value.int .i64 (r.1), U (hi (r.2.1)), U (lo (r.2.1))], Value.int .i64 (r.2.2.1), Value.int .i64 (r.2.2.2)])) := by
  unfold wire_rowOf_m at hM
  refine does_of_A follows Try.func49 rfl 51 rfl (upd (fun _ => undef) 0 (bv)) (by funext k; match k with | 0 => rfl | k + 1 => rfl) (fun base0_ => ?_)
  refine A_seq fun K1 hK1 => ?_
  refine A_reg ?_
  refine r_a (30, #[Value.int .i64 (0), U (0#64), U (0#64)]) rfl rfl rfl (fun b2 => ?_) (.inr rfl)
  refine r_v (Value.int .i64 (0)) rfl rfl rfl rfl ?_
  refine r_v (Value.int .i64 (0)) rfl rfl rfl rfl ?_
  refine lx_nil ?_
  refine hK1 _ _ ?_; try clear hK1 K1
  refine A_seq fun K3 hK3 => ?_
  refine A_seq fun K4 hK4 => ?_
  refine A_reg ?_
  refine r_v (bv) rfl rfl rfl rfl ?_
  refine r_v (Value.int .i64 (((b).length : Int))) rfl rfl rfl (ev_lenSl rfl rfl rfl (Rd.shp hb)) ?_
  refine r_v (Value.bool (((((b).length : Int) : Int) == 0))) rfl rfl rfl rfl ?_
  refine lx_nil ?_
  refine hK4 _ _ ?_; try clear hK4 K4
  refine A_cond (((((b).length : Int) : Int) == 0)) rfl (fun hc5 => ?_) (fun hc5 => ?_)
  · replace hM := ifp (eq_of_beq hc5) hM
    refine A_seq fun K6 hK6 => ?_
    refine A_reg ?_
    refine r_v (Value.agg #[Value.int .i64 (0), U (0#64), U (0#64)]) rfl rfl rfl (ev_buildS rfl rfl rfl rfl) ?_
    refine r_s [(b2, 30, #[Value.int .i64 (0), U (0#64), U (0#64)])] 0 _ _ _ (#[Value.int .i64 (0), U (0#64), U (0#64)]) (#[Value.int .i64 (0), U (0#64), U (0#64)]) (#[Value.int .i64 (0), U (0#64), U (0#64)]) rfl rfl rfl rfl (.of rfl rfl) rfl rfl ?_
    refine r_v (Value.int .i64 (0)) rfl rfl rfl rfl ?_
    refine r_v (Value.int .i64 (3)) rfl rfl rfl rfl ?_
    refine lx_nil ?_
    refine hK6 _ _ ?_; try clear hK6 K6
    obtain rfl := Option.some.inj hM
    refine A_ret (fun hn => endsV (v0 := Value.tuple #[Value.agg #[Value.int .i64 (0), U (0#64), U (0#64)], Value.int .i64 (0), Value.int .i64 (3)]) (by first | rfl | (simp only [app_hl]; done) | simp only [app_hl]) (res3 (res_cell hn 0 rfl rfl rfl) rfl rfl))
  · replace hM := ifn (ne_of_beq_false hc5) hM
    refine A_skip ?_
    refine hK3 _ _ ?_; try clear hK3 K3
    refine A_seq fun K7 hK7 => ?_
    refine A_reg ?_
    refine r_v (bv) rfl rfl rfl rfl ?_
    replace hM := ck_some hM; obtain ⟨ck8, hM⟩ := hM
    refine r_v (elA bv (((0 : Int)).toNat * 1)) rfl rfl rfl (ev_v (ev_idxSl rfl rfl rfl (Rd.shp hb) ck8)) ?_
    refine r_le (Value.int .u8 (((((b)[((0 : Int)).toNat]!).toNat : Nat) : Int))) (En := encY) ((b)[((0 : Int)).toNat]!) (((0 : Int)).toNat) 0 rfl rfl (rd_ro hb) (get_of ck8) rfl ?_
    refine r_w (Value.int .i64 (((((b)[((0 : Int)).toNat]!).toNat : Nat) : Int))) rfl rfl (u8_i64 ((b)[((0 : Int)).toNat]!)) (fun _ => rfl) ?_
    refine r_v (Value.int .i64 (((((b)[((0 : Int)).toNat]!).toNat : Nat) : Int))) rfl rfl rfl rfl ?_
    refine lx_nil ?_
    refine hK7 _ _ ?_; try clear hK7 K7
    refine A_cut (fun tt ll => (wire_rowOf_k1 N b  = some r) ∧ Is [(0, bv), (2, Value.pointer (some ⟨b2, 0, none⟩)), (5, Value.int .i64 (((((b)[((0 : Int)).toNat]!).toNat : Nat) : Int)))] [(b2, 30, #[Value.int .i64 (0), U (0#64), U (0#64)])] tt ll) ?_ ?_
    · refine A_seq fun K31 hK31 => ?_
      refine A_reg ?_
      refine r_v (Value.int .i64 (((((b)[((0 : Int)).toNat]!).toNat : Nat) : Int))) rfl rfl rfl rfl ?_
      refine r_v (Value.bool (decide ((((((b)[((0 : Int)).toNat]!).toNat : Nat) : Int) : Int) < 1))) rfl rfl rfl rfl ?_
      refine r_v (Value.bool (decide ((((((b)[((0 : Int)).toNat]!).toNat : Nat) : Int) : Int) < 1))) rfl rfl rfl rfl ?_
      rcases hg32 : (decide ((((((b)[((0 : Int)).toNat]!).toNat : Nat) : Int) : Int) < 1)) with _ | _
      · replace hM := ifn (of_decide_eq_false hg32) hM
        refine r_y rfl ?_
        refine r_v (Value.int .i64 (((((b)[((0 : Int)).toNat]!).toNat : Nat) : Int))) rfl rfl rfl rfl ?_
        refine r_y rfl ?_
        refine r_v (Value.bool (decide ((((((b)[((0 : Int)).toNat]!).toNat : Nat) : Int) : Int) > 128))) rfl rfl rfl rfl ?_
        refine r_v (Value.bool (decide ((((((b)[((0 : Int)).toNat]!).toNat : Nat) : Int) : Int) > 128))) rfl rfl rfl rfl ?_
        refine lx_nil ?_
        refine hK31 _ _ ?_; try clear hK31 K31
        refine A_cond (decide ((((((b)[((0 : Int)).toNat]!).toNat : Nat) : Int) : Int) > 128)) rfl (fun hc33 => ?_) (fun hc33 => ?_)
        · replace hM := ifp (of_decide_eq_true hc33) hM
          refine A_seq fun K34 hK34 => ?_
          refine A_reg ?_
          refine r_v (Value.agg #[Value.int .i64 (0), U (0#64), U (0#64)]) rfl rfl rfl (ev_buildS rfl rfl rfl rfl) ?_
          refine r_s [(b2, 30, #[Value.int .i64 (0), U (0#64), U (0#64)])] 0 _ _ _ (#[Value.int .i64 (0), U (0#64), U (0#64)]) (#[Value.int .i64 (0), U (0#64), U (0#64)]) (#[Value.int .i64 (0), U (0#64), U (0#64)]) rfl rfl rfl rfl (.of rfl rfl) rfl rfl ?_
          refine r_v (Value.int .i64 (0)) rfl rfl rfl rfl ?_
          refine r_v (Value.int .i64 (9)) rfl rfl rfl rfl ?_
          refine lx_nil ?_
          refine hK34 _ _ ?_; try clear hK34 K34
          obtain rfl := Option.some.inj hM
          refine A_ret (fun hn => endsV (v0 := Value.tuple #[Value.agg #[Value.int .i64 (0), U (0#64), U (0#64)], Value.int .i64 (0), Value.int .i64 (9)]) (by first | rfl | (simp only [app_hl]; done) | simp only [app_hl]) (res3 (res_cell hn 0 rfl rfl rfl) rfl rfl))
        · replace hM := ifn (of_decide_eq_false hc33) hM
          refine A_skip ?_
          refine fg _ (Sub.of (List.Sublist.cons_cons _ (List.Sublist.slnil))) ?_
          exact ⟨hM, is_mk rfl (by first | rfl | simp only [app_hl])⟩
      · replace hM := ifp (of_decide_eq_true hg32) hM
        refine r_n true rfl (by decide) rfl ?_
        refine r_n true rfl (by decide) rfl ?_
        refine r_v (Value.bool (true)) rfl rfl rfl rfl ?_
        refine lx_nil ?_
        refine hK31 _ _ ?_; try clear hK31 K31
        refine A_cond true rfl (fun _ => ?_) (fun h_ => nomatch h_)
        refine A_seq fun K35 hK35 => ?_
        refine A_reg ?_
        refine r_v (Value.agg #[Value.int .i64 (0), U (0#64), U (0#64)]) rfl rfl rfl (ev_buildS rfl rfl rfl rfl) ?_
        refine r_s [(b2, 30, #[Value.int .i64 (0), U (0#64), U (0#64)])] 0 _ _ _ (#[Value.int .i64 (0), U (0#64), U (0#64)]) (#[Value.int .i64 (0), U (0#64), U (0#64)]) (#[Value.int .i64 (0), U (0#64), U (0#64)]) rfl rfl rfl rfl (.of rfl rfl) rfl rfl ?_
        refine r_v (Value.int .i64 (0)) rfl rfl rfl rfl ?_
        refine r_v (Value.int .i64 (9)) rfl rfl rfl rfl ?_
        refine lx_nil ?_
        refine hK35 _ _ ?_; try clear hK35 K35
        obtain rfl := Option.some.inj hM
        refine A_ret (fun hn => endsV (v0 := Value.tuple #[Value.agg #[Value.int .i64 (0), U (0#64), U (0#64)], Value.int .i64 (0), Value.int .i64 (9)]) (by first | rfl | (simp only [app_hl]; done) | simp only [app_hl]) (res3 (res_cell hn 0 rfl rfl rfl) rfl rfl))
    · clear hM; rintro t l ⟨hM, ⟨T, rfl⟩, rfl⟩
      unfold wire_rowOf_k1 at hM
      refine A_seq fun K9 hK9 => ?_
      refine A_reg ?_
      refine r_v (Value.int .i64 (((((b)[((0 : Int)).toNat]!).toNat : Nat) : Int))) rfl rfl rfl rfl ?_
      replace hM := bind_sm hM; obtain ⟨r10, hr11, hM⟩ := hM
      refine r_c (Value.int .i64 (r10)) rfl _ _ (ev_callF rfl call_71 rfl) (wire_holding_g N ((((b)[((0 : Int)).toNat]!).toNat : Nat) : Int) _ hr11) ?_
      replace hM := ck_some hM; obtain ⟨ck12, hM⟩ := hM
      refine r_v (Value.int .i64 ((1 + r10))) rfl rfl (wi64 rfl ck12.1 ck12.2) rfl ?_
      refine r_v (Value.int .i64 ((1 + r10))) rfl rfl rfl rfl ?_
      refine lx_nil ?_
      refine hK9 _ _ ?_; try clear hK9 K9
      refine A_seq fun K13 hK13 => ?_
      refine A_seq fun K14 hK14 => ?_
      refine A_reg ?_
      refine r_v (bv) rfl rfl rfl rfl ?_
      refine r_v (Value.int .i64 (((b).length : Int))) rfl rfl rfl (ev_lenSl rfl rfl rfl (Rd.shp hb)) ?_
      refine r_v (Value.int .i64 ((1 + r10))) rfl rfl rfl rfl ?_
      refine r_v (Value.bool (decide ((((b).length : Int) : Int) < (1 + r10)))) rfl rfl rfl rfl ?_
      refine lx_nil ?_
      refine hK14 _ _ ?_; try clear hK14 K14
      refine A_cond (decide ((((b).length : Int) : Int) < (1 + r10))) rfl (fun hc15 => ?_) (fun hc15 => ?_)
      · replace hM := ifp (of_decide_eq_true hc15) hM
        refine A_seq fun K16 hK16 => ?_
        refine A_reg ?_
        refine r_v (Value.agg #[Value.int .i64 (0), U (0#64), U (0#64)]) rfl rfl rfl (ev_buildS rfl rfl rfl rfl) ?_
        refine r_s [(b2, 30, #[Value.int .i64 (0), U (0#64), U (0#64)])] 0 _ _ _ (#[Value.int .i64 (0), U (0#64), U (0#64)]) (#[Value.int .i64 (0), U (0#64), U (0#64)]) (#[Value.int .i64 (0), U (0#64), U (0#64)]) rfl rfl rfl rfl (.of rfl rfl) rfl rfl ?_
        refine r_v (Value.int .i64 (0)) rfl rfl rfl rfl ?_
        refine r_v (Value.int .i64 (3)) rfl rfl rfl rfl ?_
        refine lx_nil ?_
        refine hK16 _ _ ?_; try clear hK16 K16
        obtain rfl := Option.some.inj hM
        refine A_ret (fun hn => endsV (v0 := Value.tuple #[Value.agg #[Value.int .i64 (0), U (0#64), U (0#64)], Value.int .i64 (0), Value.int .i64 (3)]) (by first | rfl | (simp only [app_hl]; done) | simp only [app_hl]) (res3 (res_cell hn 0 rfl rfl rfl) rfl rfl))
      · replace hM := ifn (of_decide_eq_false hc15) hM
        refine A_skip ?_
        refine hK13 _ _ ?_; try clear hK13 K13
        refine A_seq fun K17 hK17 => ?_
        refine A_regC [(some 36, false)] (conG Try.prog [(36, fun _ _ v_ L_ U_ => ∀ u0_, wire_wordOf_m N (((b).take (((1 + r10)).toNat)).drop (((1 : Int)).toNat)) = some u0_ → (pV (Value.agg #[U (hi (u0_)), U (lo (u0_))])) v_ L_ U_)]) ?_
        refine r_v (bv) rfl rfl rfl rfl ?_
        refine r_v (Value.int .i64 ((1 + r10))) rfl rfl rfl rfl ?_
        replace hM := ck_some hM; obtain ⟨ck18, hM⟩ := hM
        refine r_v (subA bv (((1 : Int)).toNat) (((1 + r10)).toNat) 1) rfl rfl rfl (ev_v (ev_subSl rfl rfl rfl rfl rfl (Rd.shp hb) ck18)) ?_
        replace hM := bind_sm hM; obtain ⟨r19, hr20, hM⟩ := hM
        refine r_gv (Value.agg #[U (hi (r19)), U (lo (r19))]) 70 _ rfl rfl rfl (ev_callF rfl call_70 rfl) (fun own_ nw_ hs_ => wire_wordOf_g N (((b).take (((1 + r10)).toNat)).drop (((1 : Int)).toNat)) _ hr20 hs_.view (subA bv (((1 : Int)).toNat) (((1 + r10)).toNat) 1) ((rd_sub (rd_ro hb) (toNat_le ck18) (toNat_len ck18.2.2)) own_ nw_ hs_)) (fun _ _ v_ L_ U_ => ⟨fun h_ => h_ _ hr20, fun h_ => by intro _ e_; cases Option.some.inj (e_.symm.trans hr20); exact h_⟩) ?_
        refine r_a (111, #[U (0#64), U (0#64)]) rfl rfl rfl (fun b21 => ?_) (.inr rfl)
        refine r_s [(b21, 111, #[U (hi (r19)), U (lo (r19))]), (b2, 30, #[Value.int .i64 (0), U (0#64), U (0#64)])] 0 _ _ _ (#[U (0#64), U (0#64)]) (#[U (hi (r19)), U (lo (r19))]) (#[U (hi (r19)), U (lo (r19))]) rfl rfl rfl rfl (.of rfl rfl) rfl rfl ?_
        refine lx_nil ?_
        refine hK17 _ _ ?_; try clear hK17 K17
        refine A_seq fun K22 hK22 => ?_
        refine A_reg ?_
        refine r_v (Value.int .i64 (((((b)[((0 : Int)).toNat]!).toNat : Nat) : Int))) rfl rfl rfl rfl ?_
        refine r_v (Value.pointer (some ⟨b21, 0, none⟩)) rfl rfl rfl rfl ?_
        refine r_l (U (hi (r19))) 0 _ _ _ _ rfl rfl rfl rfl rfl ?_
        refine r_v (Value.pointer (some ⟨b21, 1, none⟩)) rfl rfl rfl rfl ?_
        refine r_l (U (lo (r19))) 0 _ _ _ _ rfl rfl rfl rfl rfl ?_
        replace hM := bind_sm hM; obtain ⟨r23, hr24, hM⟩ := hM
        refine r_c (Value.tuple #[Value.agg #[Value.int .i64 (r23.1), U (hi (r23.2.1)), U (lo (r23.2.1))], Value.int .i64 (r23.2.2)]) rfl _ _ (ev_callF rfl call_72 rfl) (vec_New_g N ((((b)[((0 : Int)).toNat]!).toNat : Nat) : Int) (hi (r19)) (lo (r19)) _ hr24) ?_
        refine r_v (Value.tuple #[Value.agg #[Value.int .i64 (r23.1), U (hi (r23.2.1)), U (lo (r23.2.1))], Value.int .i64 (r23.2.2)]) rfl rfl rfl rfl ?_
        refine r_v (Value.agg #[Value.int .i64 (r23.1), U (hi (r23.2.1)), U (lo (r23.2.1))]) rfl rfl rfl rfl ?_
        refine r_v (Value.int .i64 (r23.2.2)) rfl rfl rfl rfl ?_
        refine r_a (30, #[Value.int .i64 (0), U (0#64), U (0#64)]) rfl rfl rfl (fun b25 => ?_) (.inr rfl)
        refine r_s [(b25, 30, #[Value.int .i64 (r23.1), U (hi (r23.2.1)), U (lo (r23.2.1))]), (b21, 111, #[U (hi (r19)), U (lo (r19))]), (b2, 30, #[Value.int .i64 (0), U (0#64), U (0#64)])] 0 _ _ _ (#[Value.int .i64 (0), U (0#64), U (0#64)]) (#[Value.int .i64 (r23.1), U (hi (r23.2.1)), U (lo (r23.2.1))]) (#[Value.int .i64 (r23.1), U (hi (r23.2.1)), U (lo (r23.2.1))]) rfl rfl rfl rfl (.of rfl rfl) rfl rfl ?_
        refine r_v (Value.int .i64 (r23.2.2)) rfl rfl rfl rfl ?_
        refine lx_nil ?_
        refine hK22 _ _ ?_; try clear hK22 K22
        refine A_seq fun K26 hK26 => ?_
        refine A_seq fun K27 hK27 => ?_
        refine A_reg ?_
        refine r_v (Value.int .i64 (r23.2.2)) rfl rfl rfl rfl ?_
        refine r_v (Value.bool (((r23.2.2 : Int) != 0))) rfl rfl rfl rfl ?_
        refine lx_nil ?_
        refine hK27 _ _ ?_; try clear hK27 K27
        refine A_cond (((r23.2.2 : Int) != 0)) rfl (fun hc28 => ?_) (fun hc28 => ?_)
        · replace hM := ifp (bne_iff_ne.1 hc28) hM
          refine A_seq fun K29 hK29 => ?_
          refine A_reg ?_
          refine r_v (Value.agg #[Value.int .i64 (0), U (0#64), U (0#64)]) rfl rfl rfl (ev_buildS rfl rfl rfl rfl) ?_
          refine r_s [(b25, 30, #[Value.int .i64 (r23.1), U (hi (r23.2.1)), U (lo (r23.2.1))]), (b21, 111, #[U (hi (r19)), U (lo (r19))]), (b2, 30, #[Value.int .i64 (0), U (0#64), U (0#64)])] 2 _ _ _ (#[Value.int .i64 (0), U (0#64), U (0#64)]) (#[Value.int .i64 (0), U (0#64), U (0#64)]) (#[Value.int .i64 (0), U (0#64), U (0#64)]) rfl rfl rfl rfl (.of rfl rfl) rfl rfl ?_
          refine r_v (Value.int .i64 (0)) rfl rfl rfl rfl ?_
          refine r_v (Value.int .i64 (4)) rfl rfl rfl rfl ?_
          refine lx_nil ?_
          refine hK29 _ _ ?_; try clear hK29 K29
          refine A_gen [(2, Value.pointer (some ⟨b2, 0, none⟩)), (3, Value.int .i64 (0)), (4, Value.int .i64 (4))] rfl (fun T => ?_)
          obtain rfl := Option.some.inj hM
          refine A_ret (fun hn => endsV (v0 := Value.tuple #[Value.agg #[Value.int .i64 (0), U (0#64), U (0#64)], Value.int .i64 (0), Value.int .i64 (4)]) (by first | rfl | (simp only [app_hl]; done) | simp only [app_hl]) (res3 (res_cell hn 2 rfl rfl rfl) rfl rfl))
        · replace hM := ifn (bne_f hc28) hM
          refine A_skip ?_
          refine hK26 _ _ ?_; try clear hK26 K26
          refine A_gen [(2, Value.pointer (some ⟨b2, 0, none⟩)), (6, Value.int .i64 ((1 + r10))), (8, Value.pointer (some ⟨b25, 0, none⟩))] rfl (fun T => ?_)
          refine A_seq fun K30 hK30 => ?_
          refine A_reg ?_
          refine r_l (Value.agg #[Value.int .i64 (r23.1), U (hi (r23.2.1)), U (lo (r23.2.1))]) 0 _ _ _ _ rfl rfl rfl rfl rfl ?_
          refine r_v (Value.int .i64 ((1 + r10))) rfl rfl rfl rfl ?_
          refine r_s [(b25, 30, #[Value.int .i64 (r23.1), U (hi (r23.2.1)), U (lo (r23.2.1))]), (b21, 111, #[U (hi (r19)), U (lo (r19))]), (b2, 30, #[Value.int .i64 (r23.1), U (hi (r23.2.1)), U (lo (r23.2.1))])] 2 _ _ _ (#[Value.int .i64 (0), U (0#64), U (0#64)]) (#[Value.int .i64 (r23.1), U (hi (r23.2.1)), U (lo (r23.2.1))]) (#[Value.int .i64 (r23.1), U (hi (r23.2.1)), U (lo (r23.2.1))]) rfl rfl rfl rfl (.of rfl rfl) rfl rfl ?_
          refine r_v (Value.int .i64 ((1 + r10))) rfl rfl rfl rfl ?_
          refine r_v (Value.int .i64 (0)) rfl rfl rfl rfl ?_
          refine lx_nil ?_
          refine hK30 _ _ ?_; try clear hK30 K30
          obtain rfl := Option.some.inj hM
          refine A_ret (fun hn => endsV (v0 := Value.tuple #[Value.agg #[Value.int .i64 (r23.1), U (hi (r23.2.1)), U (lo (r23.2.1))], Value.int .i64 ((1 + r10)), Value.int .i64 (0)]) rfl (res3 (res_cell hn 2 rfl rfl rfl) rfl rfl))
end Go.Proofs.Ytdgejbbelmhbdaa
