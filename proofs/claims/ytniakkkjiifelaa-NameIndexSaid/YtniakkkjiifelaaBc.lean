/- models of functions and their walks -/
import Derived.Test.YtniakkkjiifelaaBb
namespace Go.Proofs.Ytniakkkjiifelaa
open Go Go.RowKit Go.Eng
def shunterref05_Place_l8 (N : Nat) (s : List UInt8) (at3_ : Int) : Nat → Int → Int → Int → Option (Int × Int)
  | 0, _, _, _ => none
  | n5 + 1, line5_, from6_, i7_ => if (i7_ : Int) < at3_ then ck ((0 : Int) ≤ i7_ ∧ i7_ < ((s).length : Int)) (if ((byteAt (s) (i7_)) : Int) = 10 then ck ((-9223372036854775808 ≤ (line5_ + 1) ∧ (line5_ + 1) ≤ 9223372036854775807)) (ck ((-9223372036854775808 ≤ (i7_ + 1) ∧ (i7_ + 1) ≤ 9223372036854775807)) (ck ((-9223372036854775808 ≤ (i7_ + 1) ∧ (i7_ + 1) ≤ 9223372036854775807)) ((shunterref05_Place_l8 N s at3_ n5) ((line5_ + 1)) ((i7_ + 1)) ((i7_ + 1))))) else ck ((-9223372036854775808 ≤ (i7_ + 1) ∧ (i7_ + 1) ≤ 9223372036854775807)) ((shunterref05_Place_l8 N s at3_ n5) (line5_) (from6_) ((i7_ + 1)))) else ck (0 ≤ from6_ ∧ from6_ ≤ at3_ ∧ at3_ ≤ ((s).length : Int)) ((shunterref05_Runes_m N (((s).take (at3_).toNat).drop (from6_).toNat)).bind fun r20 => ck ((-9223372036854775808 ≤ (((r20).length : Int) + 1) ∧ (((r20).length : Int) + 1) ≤ 9223372036854775807)) (some (line5_, (((r20).length : Int) + 1))))
def shunterref05_Place_k4 (N : Nat) (s : List UInt8) (at3_ : Int) : Option (Int × Int) := shunterref05_Place_l8 N s at3_ N (1) (0) (0)
def shunterref05_Place_k2 (N : Nat) (s : List UInt8) (at1_ : Int) : Option (Int × Int) := if (at1_ : Int) > ((s).length : Int) then shunterref05_Place_k4 N s (((s).length : Int)) else shunterref05_Place_k4 N s (at1_)
def shunterref05_Place_m (N : Nat) (s : List UInt8) (at' : Int) : Option (Int × Int) := if (at' : Int) < 0 then shunterref05_Place_k2 N s (0) else shunterref05_Place_k2 N s (at')
set_option maxRecDepth 100000 in
set_option maxHeartbeats 400000 in
theorem shunterref05_Place_g (N : Nat) (s : List UInt8) (at' : Int) (r : Int × Int) (hM : shunterref05_Place_m N s at' = some r) : Gives Try.prog 29 #[Value.string (⟨(s).toArray⟩), Value.int .i64 (at')] (Value.tuple #[Value.int .i64 (r.1), Value.int .i64 (r.2)]) := by
  unfold shunterref05_Place_m at hM
  refine gives_of_A follows Try.func29 rfl 38 rfl (upd (upd (fun _ => undef) 1 (Value.int .i64 (at'))) 0 (Value.string (⟨(s).toArray⟩))) (by funext k; match k with | 0 => rfl | 1 => rfl | k + 2 => rfl) (fun base0_ => ?_)
  refine A_seq fun K1 hK1 => ?_
  refine A_reg ?_
  refine r_v (Value.int .i64 (0)) rfl rfl rfl rfl ?_
  refine r_v (Value.int .i64 (0)) rfl rfl rfl rfl ?_
  refine lx_nil ?_
  refine hK1 _ _ ?_; try clear hK1 K1
  refine A_cut (fun tt ll => ∃ (at1_ : Int), (shunterref05_Place_k2 N s at1_ = some r) ∧ Is [(0, Value.string (⟨(s).toArray⟩)), (1, Value.int .i64 (at1_))] [] tt ll) ?_ ?_
  · refine A_seq fun K28 hK28 => ?_
    refine A_reg ?_
    refine r_v (Value.int .i64 (at')) rfl rfl rfl rfl ?_
    refine r_v (Value.bool (decide ((at' : Int) < 0))) rfl rfl rfl rfl ?_
    refine lx_nil ?_
    refine hK28 _ _ ?_; try clear hK28 K28
    refine A_cond (decide ((at' : Int) < 0)) rfl (fun hc29 => ?_) (fun hc29 => ?_)
    · replace hM := ifp (of_decide_eq_true hc29) hM
      refine A_reg ?_
      refine r_v (Value.int .i64 (0)) rfl rfl rfl rfl ?_
      refine lx_nil ?_
      refine fg _ (Sub.of (List.Sublist.slnil)) ?_
      exact ⟨0, hM, is_mk rfl rfl⟩
    · replace hM := ifn (of_decide_eq_false hc29) hM
      refine A_skip ?_
      refine fg _ (Sub.of (List.Sublist.slnil)) ?_
      exact ⟨at', hM, is_mk rfl rfl⟩
  · clear hM; rintro t l ⟨at1_, hM, ⟨T, rfl⟩, rfl⟩
    unfold shunterref05_Place_k2 at hM
    refine A_cut (fun tt ll => ∃ (at3_ : Int), (shunterref05_Place_k4 N s at3_ = some r) ∧ Is [(0, Value.string (⟨(s).toArray⟩)), (1, Value.int .i64 (at3_))] [] tt ll) ?_ ?_
    · refine A_seq fun K26 hK26 => ?_
      refine A_reg ?_
      refine r_v (Value.int .i64 (at1_)) rfl rfl rfl rfl ?_
      refine r_v (Value.string (⟨(s).toArray⟩)) rfl rfl rfl rfl ?_
      refine r_v (Value.int .i64 (((s).length : Int))) rfl rfl rfl (ev_lenS rfl rfl rfl) ?_
      refine r_v (Value.bool (decide ((at1_ : Int) > ((s).length : Int)))) rfl rfl rfl rfl ?_
      refine lx_nil ?_
      refine hK26 _ _ ?_; try clear hK26 K26
      refine A_cond (decide ((at1_ : Int) > ((s).length : Int))) rfl (fun hc27 => ?_) (fun hc27 => ?_)
      · replace hM := ifp (of_decide_eq_true hc27) hM
        refine A_reg ?_
        refine r_v (Value.string (⟨(s).toArray⟩)) rfl rfl rfl rfl ?_
        refine r_v (Value.int .i64 (((s).length : Int))) rfl rfl rfl (ev_lenS rfl rfl rfl) ?_
        refine r_v (Value.int .i64 (((s).length : Int))) rfl rfl rfl rfl ?_
        refine lx_nil ?_
        refine fg _ (Sub.of (List.Sublist.slnil)) ?_
        exact ⟨((s).length : Int), hM, is_mk rfl rfl⟩
      · replace hM := ifn (of_decide_eq_false hc27) hM
        refine A_skip ?_
        refine fg _ (Sub.of (List.Sublist.slnil)) ?_
        exact ⟨at1_, hM, is_mk rfl rfl⟩
    · clear hM; rintro t l ⟨at3_, hM, ⟨T, rfl⟩, rfl⟩
      unfold shunterref05_Place_k4 at hM
      refine A_seq fun K2 hK2 => ?_
      refine A_reg ?_
      refine r_v (Value.int .i64 (1)) rfl rfl rfl rfl ?_
      refine r_v (Value.int .i64 (0)) rfl rfl rfl rfl ?_
      refine lx_nil ?_
      refine hK2 _ _ ?_; try clear hK2 K2
      refine A_seq fun K3 hK3 => ?_
      refine A_seq fun K4 hK4 => ?_
      refine A_reg ?_
      refine r_v (Value.int .i64 (0)) rfl rfl rfl rfl ?_
      refine lx_nil ?_
      refine hK4 _ _ ?_; try clear hK4 K4
      refine A_block ?_
      refine A_loop (fun tt ll nn => ∃ (n5 : Nat) (line5_ : Int) (from6_ : Int) (i7_ : Int), (shunterref05_Place_l8 N s at3_ n5 line5_ from6_ i7_ = some r) ∧ Is [(0, Value.string (⟨(s).toArray⟩)), (1, Value.int .i64 (at3_)), (6, Value.int .i64 (line5_)), (7, Value.int .i64 (from6_)), (8, Value.int .i64 (i7_))] [] tt ll ∧ nn = n5 + 1) (N + 1) ?_ ?_
      · exact ⟨N, 1, 0, 0, hM, is_mk rfl rfl, rfl⟩
      · clear hM; rintro t l _ ⟨n5, line5_, from6_, i7_, hM, ⟨⟨T, rfl⟩, rfl⟩, rfl⟩
        rcases n5 with _ | n5
        · exact absurd hM (by simp [shunterref05_Place_l8])
        rw [shunterref05_Place_l8] at hM
        refine A_seq fun K6 hK6 => ?_
        refine A_seq fun K7 hK7 => ?_
        refine A_reg ?_
        refine r_v (Value.int .i64 (i7_)) rfl rfl rfl rfl ?_
        refine r_v (Value.int .i64 (at3_)) rfl rfl rfl rfl ?_
        refine r_v (Value.bool (decide ((i7_ : Int) < at3_))) rfl rfl rfl rfl ?_
        refine lx_nil ?_
        refine hK7 _ _ ?_; try clear hK7 K7
        refine A_cond (decide ((i7_ : Int) < at3_)) rfl (fun hc8 => ?_) (fun hc8 => ?_)
        · replace hM := ifp (of_decide_eq_true hc8) hM
          refine A_skip ?_
          refine hK6 _ _ ?_; try clear hK6 K6
          refine A_seq fun K9 hK9 => ?_
          refine A_block ?_
          refine A_seq fun K10 hK10 => ?_
          refine A_reg ?_
          refine r_v (Value.string (⟨(s).toArray⟩)) rfl rfl rfl rfl ?_
          refine r_v (Value.int .i64 (i7_)) rfl rfl rfl rfl ?_
          replace hM := ck_some hM; obtain ⟨ck11, hM⟩ := hM
          refine r_v (Value.int .u8 ((byteAt (s) (i7_)))) rfl rfl rfl (ev_v (ev_indexS rfl ck11)) ?_
          refine r_v (Value.bool ((((byteAt (s) (i7_)) : Int) == 10))) rfl rfl rfl rfl ?_
          refine lx_nil ?_
          refine hK10 _ _ ?_; try clear hK10 K10
          refine A_cond ((((byteAt (s) (i7_)) : Int) == 10)) rfl (fun hc12 => ?_) (fun hc12 => ?_)
          · replace hM := ifp (eq_of_beq hc12) hM
            refine A_seq fun K13 hK13 => ?_
            refine A_reg ?_
            refine r_v (Value.int .i64 (line5_)) rfl rfl rfl rfl ?_
            replace hM := ck_some hM; obtain ⟨ck14, hM⟩ := hM
            refine r_v (Value.int .i64 ((line5_ + 1))) rfl rfl (wi64 rfl ck14.1 ck14.2) rfl ?_
            refine r_v (Value.int .i64 ((line5_ + 1))) rfl rfl rfl rfl ?_
            refine lx_nil ?_
            refine hK13 _ _ ?_; try clear hK13 K13
            refine A_reg ?_
            refine r_v (Value.int .i64 (i7_)) rfl rfl rfl rfl ?_
            replace hM := ck_some hM; obtain ⟨ck15, hM⟩ := hM
            refine r_v (Value.int .i64 ((i7_ + 1))) rfl rfl (wi64 rfl ck15.1 ck15.2) rfl ?_
            refine r_v (Value.int .i64 ((i7_ + 1))) rfl rfl rfl rfl ?_
            refine lx_nil ?_
            refine hK9 _ _ ?_; try clear hK9 K9
            refine A_reg ?_
            refine r_v (Value.int .i64 (i7_)) rfl rfl rfl rfl ?_
            replace hM := ck_some hM; obtain ⟨ck16, hM⟩ := hM
            refine r_v (Value.int .i64 ((i7_ + 1))) rfl rfl (wi64 rfl ck16.1 ck16.2) rfl ?_
            refine r_v (Value.int .i64 ((i7_ + 1))) rfl rfl rfl rfl ?_
            refine lx_nil ?_
            refine fg _ (Sub.of (List.Sublist.slnil)) ?_
            exact ⟨n5 + 1, by omega, n5, (line5_ + 1), (i7_ + 1), (i7_ + 1), hM, is_mk rfl rfl, rfl⟩
          · replace hM := ifn (ne_of_beq_false hc12) hM
            refine A_skip ?_
            refine hK9 _ _ ?_; try clear hK9 K9
            refine A_reg ?_
            refine r_v (Value.int .i64 (i7_)) rfl rfl rfl rfl ?_
            replace hM := ck_some hM; obtain ⟨ck17, hM⟩ := hM
            refine r_v (Value.int .i64 ((i7_ + 1))) rfl rfl (wi64 rfl ck17.1 ck17.2) rfl ?_
            refine r_v (Value.int .i64 ((i7_ + 1))) rfl rfl rfl rfl ?_
            refine lx_nil ?_
            refine fg _ (Sub.of (List.Sublist.slnil)) ?_
            exact ⟨n5 + 1, by omega, n5, line5_, from6_, (i7_ + 1), hM, is_mk rfl rfl, rfl⟩
        · replace hM := ifn (of_decide_eq_false hc8) hM
          refine A_exit ?_
          refine hK3 _ _ ?_; try clear hK3 K3
          refine A_seq fun K18 hK18 => ?_
          refine A_regC [(some 35, false)] (conG Try.prog [(35, fun v_ L_ U_ => ∀ u0_, shunterref05_Runes_m N (((s).take (at3_).toNat).drop (from6_).toNat) = some u0_ → (p1 (fun s_ => s_) 3 encI (u0_)) v_ L_ U_)]) ?_
          refine r_v (Value.int .i64 (line5_)) rfl rfl rfl rfl ?_
          refine r_v (Value.string (⟨(s).toArray⟩)) rfl rfl rfl rfl ?_
          refine r_v (Value.int .i64 (from6_)) rfl rfl rfl rfl ?_
          refine r_v (Value.int .i64 (at3_)) rfl rfl rfl rfl ?_
          replace hM := ck_some hM; obtain ⟨ck19, hM⟩ := hM
          refine r_v (Value.string (⟨(((s).take (at3_).toNat).drop (from6_).toNat).toArray⟩)) rfl rfl rfl (ev_v (ev_sliceS rfl ck19)) ?_
          replace hM := bind_sm hM; obtain ⟨r20, hr21, hM⟩ := hM
          refine r_g1 (Ls := []) (fun s22 => s22) 3 encI (r20) 10 _ rfl rfl rfl (ev_callF rfl call_10 rfl) (fun own_ nw_ hs_ => shunterref05_Runes_g N (((s).take (at3_).toNat).drop (from6_).toNat) _ hr21 hs_.view ) (fun _ _ v_ L_ U_ => ⟨fun h_ => h_ _ hr21, fun h_ => by intro _ e_; cases Option.some.inj (e_.symm.trans hr21); exact h_⟩) (fun s22 S23 H24 => ?_)
          refine r_v (Value.int .i64 (((r20).length : Int))) rfl rfl rfl (ev_lenSl rfl rfl rfl (Sl.shp H24)) ?_
          replace hM := ck_some hM; obtain ⟨ck25, hM⟩ := hM
          refine r_v (Value.int .i64 ((((r20).length : Int) + 1))) rfl rfl (wi64 rfl ck25.1 ck25.2) rfl ?_
          refine r_v (Value.int .i64 (line5_)) rfl rfl rfl rfl ?_
          refine r_v (Value.int .i64 ((((r20).length : Int) + 1))) rfl rfl rfl rfl ?_
          refine lx_nil ?_
          refine hK18 _ _ ?_; try clear hK18 K18
          obtain rfl := Option.some.inj hM
          refine A_ret (fun hn => ends_eq (v0 := Value.tuple #[Value.int .i64 (line5_), Value.int .i64 ((((r20).length : Int) + 1))]) rfl (res2 rfl rfl))
def name_Index_1_v1_m (N : Nat) (other : List UInt8) (c1_ : List UInt8) : Option (Bool) := (name_Key_m N other).bind fun r3 => some ((r3) == (c1_))
set_option maxRecDepth 100000 in
set_option maxHeartbeats 400000 in
theorem name_Index_1_v1_g (N : Nat) (other : List UInt8) (c1_ : List UInt8) (r : Bool) (hM : name_Index_1_v1_m N other c1_ = some r) (ro : Addr → Option Value) (bc1_ : Nat) (hbc1_ : Blk ro bc1_ [Value.string (⟨(c1_).toArray⟩)]) : Does Try.prog 40 #[Value.string (⟨(other).toArray⟩), Value.pointer (some ⟨bc1_, 0, none⟩)] ro [] (pV (Value.bool (r))) := by
  unfold name_Index_1_v1_m at hM
  refine does_of_A follows Try.func40 rfl 8 rfl (upd (upd (fun _ => undef) 1 (Value.pointer (some ⟨bc1_, 0, none⟩))) 0 (Value.string (⟨(other).toArray⟩))) (by funext k; match k with | 0 => rfl | 1 => rfl | k + 2 => rfl) (fun base0_ => ?_)
  refine A_seq fun K1 hK1 => ?_
  refine A_reg ?_
  refine r_v (Value.bool (false)) rfl rfl rfl rfl ?_
  refine lx_nil ?_
  refine hK1 _ _ ?_; try clear hK1 K1
  refine A_seq fun K2 hK2 => ?_
  refine A_draw [] (by decide +kernel) (fun hn => sep_nil) ?_
  refine r_v (Value.string (⟨(other).toArray⟩)) rfl rfl rfl rfl ?_
  replace hM := bind_sm hM; obtain ⟨r3, hr4, hM⟩ := hM
  refine r_c (Value.string (⟨(r3).toArray⟩)) rfl _ _ (ev_callF rfl call_23 rfl) (name_Key_g N other _ hr4) ?_
  refine r_lb (Value.string (⟨(c1_).toArray⟩)) (vs := [Value.string (⟨(c1_).toArray⟩)]) (o := 0) rfl rfl (blk_ro hbc1_) rfl ?_
  refine r_v (Value.bool ((r3) == (c1_))) rfl rfl rfl (ev_eqS rfl rfl) ?_
  refine r_v (Value.bool ((r3) == (c1_))) rfl rfl rfl rfl ?_
  refine lx_nil ?_
  refine hK2 _ _ ?_; try clear hK2 K2
  obtain rfl := Option.some.inj hM
  refine A_ret (fun hn => endsV (v0 := Value.bool ((r3) == (c1_))) rfl (res1 rfl))
def slices_IndexFunc___string_string__v1_l2 (N : Nat) (s : List (List UInt8)) (f0_ : List UInt8) : Nat → Int → Option (Int)
  | 0, _ => none
  | n4 + 1, x1_ => if (x1_ : Int) < ((s).length : Int) then ck (0 ≤ x1_ ∧ x1_ < ((s).length : Int)) ((name_Index_1_v1_m N ((s)[(x1_).toNat]!) f0_).bind fun r12 => if (r12) = true then some (x1_) else ck ((-9223372036854775808 ≤ (x1_ + 1) ∧ (x1_ + 1) ≤ 9223372036854775807)) ((slices_IndexFunc___string_string__v1_l2 N s f0_ n4) ((x1_ + 1)))) else some (-1)
def slices_IndexFunc___string_string__v1_m (N : Nat) (s : List (List UInt8)) (f0_ : List UInt8) : Option (Int) := slices_IndexFunc___string_string__v1_l2 N s f0_ N (0)
set_option maxRecDepth 100000 in
set_option maxHeartbeats 400000 in
theorem slices_IndexFunc___string_string__v1_g (N : Nat) (s : List (List UInt8)) (f0_ : List UInt8) (r : Int) (hM : slices_IndexFunc___string_string__v1_m N s f0_ = some r) (ro : Addr → Option Value) (sv : Value) (hs : Rd encS ro sv s) (bf0_ : Nat) (hbf0_ : Blk ro bf0_ [Value.string (⟨(f0_).toArray⟩)]) : Does Try.prog 39 #[sv, Value.func (.func 40) #[] #[Value.pointer (some ⟨bf0_, 0, none⟩)]] ro [] (pV (Value.int .i64 (r))) := by
  unfold slices_IndexFunc___string_string__v1_m at hM
  refine does_of_A follows Try.func39 rfl 19 rfl (upd (upd (fun _ => undef) 1 (Value.func (.func 40) #[] #[Value.pointer (some ⟨bf0_, 0, none⟩)])) 0 (sv)) (by funext k; match k with | 0 => rfl | 1 => rfl | k + 2 => rfl) (fun base0_ => ?_)
  refine A_seq fun K1 hK1 => ?_
  refine A_reg ?_
  refine r_v (Value.int .i64 (0)) rfl rfl rfl rfl ?_
  refine lx_nil ?_
  refine hK1 _ _ ?_; try clear hK1 K1
  refine A_seq fun K2 hK2 => ?_
  refine A_seq fun K3 hK3 => ?_
  refine A_reg ?_
  refine r_v (sv) rfl rfl rfl rfl ?_
  refine r_v (Value.int .i64 (((s).length : Int))) rfl rfl rfl (ev_lenSl rfl rfl rfl (Rd.shp hs)) ?_
  refine r_v (Value.int .i64 (0)) rfl rfl rfl rfl ?_
  refine lx_nil ?_
  refine hK3 _ _ ?_; try clear hK3 K3
  refine A_block ?_
  refine A_loop (fun tt ll nn => ∃ (n4 : Nat) (x1_ : Int), (slices_IndexFunc___string_string__v1_l2 N s f0_ n4 x1_ = some r) ∧ Is [(0, sv), (1, Value.func (.func 40) #[] #[Value.pointer (some ⟨bf0_, 0, none⟩)]), (7, Value.int .i64 (((s).length : Int))), (8, Value.int .i64 (x1_))] [] tt ll ∧ nn = n4 + 1) (N + 1) ?_ ?_
  · exact ⟨N, 0, hM, is_mk rfl rfl, rfl⟩
  · clear hM; rintro t l _ ⟨n4, x1_, hM, ⟨⟨T, rfl⟩, rfl⟩, rfl⟩
    rcases n4 with _ | n4
    · exact absurd hM (by simp [slices_IndexFunc___string_string__v1_l2])
    rw [slices_IndexFunc___string_string__v1_l2] at hM
    refine A_seq fun K5 hK5 => ?_
    refine A_reg ?_
    refine r_v (Value.bool (decide ((x1_ : Int) < ((s).length : Int)))) rfl rfl rfl rfl ?_
    refine lx_nil ?_
    refine hK5 _ _ ?_; try clear hK5 K5
    refine A_seq fun K6 hK6 => ?_
    refine A_cond (decide ((x1_ : Int) < ((s).length : Int))) rfl (fun hc7 => ?_) (fun hc7 => ?_)
    · replace hM := ifp (of_decide_eq_true hc7) hM
      refine A_skip ?_
      refine hK6 _ _ ?_; try clear hK6 K6
      refine A_seq fun K8 hK8 => ?_
      refine A_block ?_
      refine A_seq fun K9 hK9 => ?_
      refine A_reg ?_
      refine r_v (Value.int .i64 (x1_)) rfl rfl rfl rfl ?_
      refine r_v (Value.int .i64 (x1_)) rfl rfl rfl rfl ?_
      refine lx_nil ?_
      refine hK9 _ _ ?_; try clear hK9 K9
      refine A_seq fun K10 hK10 => ?_
      refine A_regC [(some 16, false)] (conG Try.prog [(16, fun v_ L_ U_ => ∀ u0_, name_Index_1_v1_m N ((s)[(x1_).toNat]!) f0_ = some u0_ → (pV (Value.bool (u0_))) v_ L_ U_)]) ?_
      refine r_v (Value.func (.func 40) #[] #[Value.pointer (some ⟨bf0_, 0, none⟩)]) rfl rfl rfl rfl ?_
      refine r_v (sv) rfl rfl rfl rfl ?_
      refine r_v (Value.int .i64 (x1_)) rfl rfl rfl rfl ?_
      replace hM := ck_some hM; obtain ⟨ck11, hM⟩ := hM
      refine r_v (elA sv ((x1_).toNat * 1)) rfl rfl rfl (ev_v (ev_idxSl rfl rfl rfl (Rd.shp hs) ck11)) ?_
      refine r_le (Value.string (⟨((s)[(x1_).toNat]!).toArray⟩)) (En := encS) ((s)[(x1_).toNat]!) ((x1_).toNat) 0 rfl rfl (rd_ro hs) (get_of ck11) rfl ?_
      replace hM := bind_sm hM; obtain ⟨r12, hr13, hM⟩ := hM
      refine r_gv (Value.bool (r12)) 40 _ rfl rfl rfl (ev_callV (caps := [Value.pointer (some ⟨bf0_, 0, none⟩)]) rfl call_40 rfl) (fun own_ nw_ hs_ => name_Index_1_v1_g N ((s)[(x1_).toNat]!) f0_ _ hr13 hs_.view bf0_ (blk_ro hbf0_ own_ nw_ hs_)) (fun _ _ v_ L_ U_ => ⟨fun h_ => h_ _ hr13, fun h_ => by intro _ e_; cases Option.some.inj (e_.symm.trans hr13); exact h_⟩) ?_
      refine lx_nil ?_
      refine hK10 _ _ ?_; try clear hK10 K10
      refine A_cond (r12) rfl (fun hc14 => ?_) (fun hc14 => ?_)
      · replace hM := ifp hc14 hM
        refine A_seq fun K15 hK15 => ?_
        refine A_reg ?_
        refine r_v (Value.int .i64 (x1_)) rfl rfl rfl rfl ?_
        refine r_v (Value.int .i64 (x1_)) rfl rfl rfl rfl ?_
        refine lx_nil ?_
        refine hK15 _ _ ?_; try clear hK15 K15
        obtain rfl := Option.some.inj hM
        refine A_ret (fun hn => endsV (v0 := Value.int .i64 (x1_)) rfl (res1 rfl))
      · replace hM := ifn (Bool.eq_false_iff.1 hc14) hM
        refine A_skip ?_
        refine hK8 _ _ ?_; try clear hK8 K8
        refine A_reg ?_
        replace hM := ck_some hM; obtain ⟨ck16, hM⟩ := hM
        refine r_v (Value.int .i64 ((x1_ + 1))) rfl rfl (wi64 rfl ck16.1 ck16.2) rfl ?_
        refine r_v (Value.int .i64 ((x1_ + 1))) rfl rfl rfl rfl ?_
        refine lx_nil ?_
        refine fg _ (Sub.of (List.Sublist.slnil)) ?_
        exact ⟨n4 + 1, by omega, n4, (x1_ + 1), hM, is_mk rfl rfl, rfl⟩
    · replace hM := ifn (of_decide_eq_false hc7) hM
      refine A_exit ?_
      refine hK2 _ _ ?_; try clear hK2 K2
      refine A_seq fun K17 hK17 => ?_
      refine A_reg ?_
      refine r_v (Value.int .i64 (-1)) rfl rfl rfl rfl ?_
      refine lx_nil ?_
      refine hK17 _ _ ?_; try clear hK17 K17
      obtain rfl := Option.some.inj hM
      refine A_ret (fun hn => endsV (v0 := Value.int .i64 (-1)) rfl (res1 rfl))
def name_Index_m (N : Nat) (l' : List (List UInt8)) (s : List UInt8) : Option (Int) := (name_Key_m N s).bind fun r3 => (slices_IndexFunc___string_string__v1_m N l' r3).bind fun r7 => some (r7)
set_option maxRecDepth 100000 in
set_option maxHeartbeats 400000 in
theorem name_Index_g (N : Nat) (l' : List (List UInt8)) (s : List UInt8) (r : Int) (hM : name_Index_m N l' s = some r) (ro : Addr → Option Value) (l'v : Value) (hl' : Rd encS ro l'v l') : Does Try.prog 30 #[l'v, Value.string (⟨(s).toArray⟩)] ro [] (pV (Value.int .i64 (r))) := by
  unfold name_Index_m at hM
  refine does_of_A follows Try.func30 rfl 11 rfl (upd (upd (fun _ => undef) 1 (Value.string (⟨(s).toArray⟩))) 0 (l'v)) (by funext k; match k with | 0 => rfl | 1 => rfl | k + 2 => rfl) (fun base0_ => ?_)
  refine A_seq fun K1 hK1 => ?_
  refine A_reg ?_
  refine r_v (Value.int .i64 (0)) rfl rfl rfl rfl ?_
  refine lx_nil ?_
  refine hK1 _ _ ?_; try clear hK1 K1
  refine A_seq fun K2 hK2 => ?_
  refine A_reg ?_
  refine r_v (Value.string (⟨(s).toArray⟩)) rfl rfl rfl rfl ?_
  replace hM := bind_sm hM; obtain ⟨r3, hr4, hM⟩ := hM
  refine r_c (Value.string (⟨(r3).toArray⟩)) rfl _ _ (ev_callF rfl call_23 rfl) (name_Key_g N s _ hr4) ?_
  refine r_a (9, #[Value.string (⟨#[]⟩)]) rfl rfl rfl (fun b5 => ?_) (.inr rfl)
  refine r_s [(b5, 9, #[Value.string (⟨(r3).toArray⟩)])] 0 _ _ _ (#[Value.string (⟨#[]⟩)]) (#[Value.string (⟨(r3).toArray⟩)]) (#[Value.string (⟨(r3).toArray⟩)]) rfl rfl rfl rfl (.of rfl rfl) rfl rfl ?_
  refine lx_nil ?_
  refine hK2 _ _ ?_; try clear hK2 K2
  refine A_seq fun K6 hK6 => ?_
  refine A_regC [(some 10, false)] (conG Try.prog [(10, fun v_ L_ U_ => ∀ u0_, slices_IndexFunc___string_string__v1_m N l' r3 = some u0_ → (pV (Value.int .i64 (u0_))) v_ L_ U_)]) ?_
  refine r_v (l'v) rfl rfl rfl rfl ?_
  refine r_v (Value.func (.func 40) #[] #[Value.pointer (some ⟨b5, 0, none⟩)]) rfl rfl rfl (ev_mkF rfl) ?_
  replace hM := bind_sm hM; obtain ⟨r7, hr8, hM⟩ := hM
  refine r_gv (Value.int .i64 (r7)) 39 _ rfl rfl rfl (ev_callF rfl call_39 rfl) (fun own_ nw_ hs_ => slices_IndexFunc___string_string__v1_g N l' r3 _ hr8 hs_.view l'v ((rd_ro hl') own_ nw_ hs_) b5 (blk_own 0 rfl rfl own_ nw_ hs_)) (fun _ _ v_ L_ U_ => ⟨fun h_ => h_ _ hr8, fun h_ => by intro _ e_; cases Option.some.inj (e_.symm.trans hr8); exact h_⟩) ?_
  refine r_v (Value.int .i64 (r7)) rfl rfl rfl rfl ?_
  refine lx_nil ?_
  refine hK6 _ _ ?_; try clear hK6 K6
  obtain rfl := Option.some.inj hM
  refine A_ret (fun hn => endsV (v0 := Value.int .i64 (r7)) rfl (res1 rfl))
end Go.Proofs.Ytniakkkjiifelaa
