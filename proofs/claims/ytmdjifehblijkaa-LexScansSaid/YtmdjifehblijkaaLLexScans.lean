/- models of functions and their walks -/
import Derived.Test.YtmdjifehblijkaaBd
namespace Go.Proofs.Ytmdjifehblijkaa
open Go Go.RowKit Go.Eng
def shunterlaw06_LexScans_l4 (N : Nat) (r3 : (List (Int × List UInt8 × Int × Int × BitVec 128 × Int)) × Sum25) (r12 : (List (Int × List UInt8 × Int × Int × BitVec 128 × Int)) × Int × Int) : Nat → Int → Option (Bool)
  | 0, _ => none
  | n22 + 1, i3_ => if (i3_ : Int) < ((r3.1).length : Int) then ck (0 ≤ i3_ ∧ i3_ < ((r3.1).length : Int)) (ck (0 ≤ i3_ ∧ i3_ < ((r12.1).length : Int)) ((shunterlaw06_alike_m N (((r3.1)[(i3_).toNat]!).1) (((r3.1)[(i3_).toNat]!).2.1) (((r3.1)[(i3_).toNat]!).2.2.1) (((r3.1)[(i3_).toNat]!).2.2.2.1) (((r3.1)[(i3_).toNat]!).2.2.2.2.1) (((r3.1)[(i3_).toNat]!).2.2.2.2.2) (((r12.1)[(i3_).toNat]!).1) (((r12.1)[(i3_).toNat]!).2.1) (((r12.1)[(i3_).toNat]!).2.2.1) (((r12.1)[(i3_).toNat]!).2.2.2.1) (((r12.1)[(i3_).toNat]!).2.2.2.2.1) (((r12.1)[(i3_).toNat]!).2.2.2.2.2)).bind fun r30 => if (r30) = true then ck (0 ≤ i3_ ∧ i3_ < ((r3.1).length : Int)) (ck (0 ≤ i3_ ∧ i3_ < ((r12.1).length : Int)) (if (((r3.1)[(i3_).toNat]!).2.2.2.2.2 : Int) ≠ ((r12.1)[(i3_).toNat]!).2.2.2.2.2 then some (false) else ck ((-9223372036854775808 ≤ (i3_ + 1) ∧ (i3_ + 1) ≤ 9223372036854775807)) ((shunterlaw06_LexScans_l4 N r3 r12 n22) ((i3_ + 1))))) else some (false))) else (shunterlaw06_lives_m N ).bind fun r40 => some (r40)
def shunterlaw06_LexScans_k2 (N : Nat) (r3 : (List (Int × List UInt8 × Int × Int × BitVec 128 × Int)) × Sum25) (r12 : (List (Int × List UInt8 × Int × Int × BitVec 128 × Int)) × Int × Int) : Option (Bool) := shunterlaw06_LexScans_l4 N r3 r12 N (0)
def shunterlaw06_LexScans_l7 (N : Nat) (r3 : (List (Int × List UInt8 × Int × Int × BitVec 128 × Int)) × Sum25) (r13 : (List (Int × List UInt8 × Int × Int × BitVec 128 × Int)) × Int × Int) : Nat → Int → Option (Bool)
  | 0, _ => none
  | n23 + 1, i6_ => if (i6_ : Int) < ((r3.1).length : Int) then ck (0 ≤ i6_ ∧ i6_ < ((r3.1).length : Int)) (ck (0 ≤ i6_ ∧ i6_ < ((r13.1).length : Int)) ((shunterlaw06_alike_m N (((r3.1)[(i6_).toNat]!).1) (((r3.1)[(i6_).toNat]!).2.1) (((r3.1)[(i6_).toNat]!).2.2.1) (((r3.1)[(i6_).toNat]!).2.2.2.1) (((r3.1)[(i6_).toNat]!).2.2.2.2.1) (((r3.1)[(i6_).toNat]!).2.2.2.2.2) (((r13.1)[(i6_).toNat]!).1) (((r13.1)[(i6_).toNat]!).2.1) (((r13.1)[(i6_).toNat]!).2.2.1) (((r13.1)[(i6_).toNat]!).2.2.2.1) (((r13.1)[(i6_).toNat]!).2.2.2.2.1) (((r13.1)[(i6_).toNat]!).2.2.2.2.2)).bind fun r31 => if (r31) = true then ck (0 ≤ i6_ ∧ i6_ < ((r3.1).length : Int)) (ck (0 ≤ i6_ ∧ i6_ < ((r13.1).length : Int)) (if (((r3.1)[(i6_).toNat]!).2.2.2.2.2 : Int) ≠ ((r13.1)[(i6_).toNat]!).2.2.2.2.2 then some (false) else ck ((-9223372036854775808 ≤ (i6_ + 1) ∧ (i6_ + 1) ≤ 9223372036854775807)) ((shunterlaw06_LexScans_l7 N r3 r13 n23) ((i6_ + 1))))) else some (false))) else (shunterlaw06_lives_m N ).bind fun r41 => some (r41)
def shunterlaw06_LexScans_k5 (N : Nat) (r3 : (List (Int × List UInt8 × Int × Int × BitVec 128 × Int)) × Sum25) (r13 : (List (Int × List UInt8 × Int × Int × BitVec 128 × Int)) × Int × Int) : Option (Bool) := shunterlaw06_LexScans_l7 N r3 r13 N (0)
def shunterlaw06_LexScans_k1 (N : Nat) (s : List UInt8) : Option (Bool) := (lex_Scan_m N s).bind fun r3 => Sum25.on r3.2 ((shunterref06_Scan_m N s).bind fun r12 => (lex_Why_v1_m N ).bind fun r18 => if (r18.1 : Int) ≠ r12.2.2 then some (false) else if (r18.2 : Int) ≠ r12.2.1 then some (false) else if (((r3.1).length : Int) : Int) ≠ ((r12.1).length : Int) then some (false) else if (true) ≠ (((r12.2.2 : Int) == 0)) then some (false) else shunterlaw06_LexScans_k2 N r3 r12 ) (fun x9_0 x10_1 => (shunterref06_Scan_m N s).bind fun r13 => (lex_Why_v2_m N x9_0 x10_1).bind fun r19 => if (r19.1 : Int) ≠ r13.2.2 then some (false) else if (r19.2 : Int) ≠ r13.2.1 then some (false) else if (((r3.1).length : Int) : Int) ≠ ((r13.1).length : Int) then some (false) else if (false) ≠ (((r13.2.2 : Int) == 0)) then some (false) else shunterlaw06_LexScans_k5 N r3 r13 )
def shunterlaw06_LexScans_m (N : Nat) (s : List UInt8) : Option (Bool) := if (((s).length : Int) : Int) > 1500 then if (((s).length : Int) : Int) ≤ 16384 then (shunterlaw06_lives_m N ).bind fun r64 => some (r64) else if (((s).length : Int) : Int) > 20000 then (shunterlaw06_lives_m N ).bind fun r61 => some (r61) else shunterlaw06_LexScans_k1 N s  else if (((s).length : Int) : Int) > 20000 then (shunterlaw06_lives_m N ).bind fun r56 => some (r56) else shunterlaw06_LexScans_k1 N s 
set_option maxRecDepth 100000 in
set_option maxHeartbeats 8000000 in
theorem shunterlaw06_LexScans_g (N : Nat) (s : List UInt8) (r : Bool) (hM : shunterlaw06_LexScans_m N s = some r) : Gives Try.prog 3 #[Value.string (⟨(s).toArray⟩)] (Value.bool (r)) := by
  unfold shunterlaw06_LexScans_m at hM
  refine gives_of_A follows Try.func3 rfl 93 rfl (upd (fun _ => undef) 0 (Value.string (⟨(s).toArray⟩))) (by funext k; match k with | 0 => rfl | k + 1 => rfl) (fun base0_ => ?_)
  refine A_seq fun K1 hK1 => ?_
  refine A_reg ?_
  refine r_v (Value.bool (false)) rfl rfl rfl rfl ?_
  refine lx_nil ?_
  refine hK1 _ _ ?_; try clear hK1 K1
  refine A_cut (fun tt ll => (shunterlaw06_LexScans_k1 N s  = some r) ∧ Is [(0, Value.string (⟨(s).toArray⟩))] [] tt ll) ?_ ?_
  · refine A_seq fun K52 hK52 => ?_
    refine A_reg ?_
    refine r_v (Value.string (⟨(s).toArray⟩)) rfl rfl rfl rfl ?_
    refine r_v (Value.int .i64 (((s).length : Int))) rfl rfl rfl (ev_lenS rfl rfl rfl) ?_
    refine r_v (Value.bool (decide ((((s).length : Int) : Int) > 1500))) rfl rfl rfl rfl ?_
    refine r_v (Value.bool (decide ((((s).length : Int) : Int) > 1500))) rfl rfl rfl rfl ?_
    rcases hg53 : (decide ((((s).length : Int) : Int) > 1500)) with _ | _
    · replace hM := ifn (of_decide_eq_false hg53) hM
      refine r_n false rfl (by decide) rfl ?_
      refine r_n false rfl (by decide) rfl ?_
      refine r_n false rfl (by decide) rfl ?_
      refine r_v (Value.bool (false)) rfl rfl rfl rfl ?_
      refine r_v (Value.bool (false)) rfl rfl rfl rfl ?_
      refine r_y rfl ?_
      refine r_v (Value.string (⟨(s).toArray⟩)) rfl rfl rfl rfl ?_
      refine r_y rfl ?_
      refine r_v (Value.int .i64 (((s).length : Int))) rfl rfl rfl (ev_lenS rfl rfl rfl) ?_
      refine r_y rfl ?_
      refine r_v (Value.bool (decide ((((s).length : Int) : Int) > 20000))) rfl rfl rfl rfl ?_
      refine r_v (Value.bool (decide ((((s).length : Int) : Int) > 20000))) rfl rfl rfl rfl ?_
      refine lx_nil ?_
      refine hK52 _ _ ?_; try clear hK52 K52
      refine A_cond (decide ((((s).length : Int) : Int) > 20000)) rfl (fun hc54 => ?_) (fun hc54 => ?_)
      · replace hM := ifp (of_decide_eq_true hc54) hM
        refine A_seq fun K55 hK55 => ?_
        refine A_reg ?_
        replace hM := bind_sm hM; obtain ⟨r56, hr57, hM⟩ := hM
        refine r_c (Value.bool (r56)) rfl _ _ (ev_callF rfl call_5 rfl) (shunterlaw06_lives_g N  _ hr57) ?_
        refine r_v (Value.bool (r56)) rfl rfl rfl rfl ?_
        refine lx_nil ?_
        refine hK55 _ _ ?_; try clear hK55 K55
        obtain rfl := Option.some.inj hM
        refine A_ret (fun hn => ends_eq (v0 := Value.bool (r56)) rfl (res1 rfl))
      · replace hM := ifn (of_decide_eq_false hc54) hM
        refine A_skip ?_
        refine fg _ (Sub.of (List.Sublist.slnil)) ?_
        exact ⟨hM, is_mk rfl rfl⟩
    · replace hM := ifp (of_decide_eq_true hg53) hM
      refine r_y rfl ?_
      refine r_v (Value.string (⟨(s).toArray⟩)) rfl rfl rfl rfl ?_
      refine r_y rfl ?_
      refine r_v (Value.int .i64 (((s).length : Int))) rfl rfl rfl (ev_lenS rfl rfl rfl) ?_
      refine r_y rfl ?_
      refine r_v (Value.bool (decide ((((s).length : Int) : Int) ≤ 16384))) rfl rfl rfl rfl ?_
      refine r_v (Value.bool (decide ((((s).length : Int) : Int) ≤ 16384))) rfl rfl rfl rfl ?_
      refine r_v (Value.bool (decide ((((s).length : Int) : Int) ≤ 16384))) rfl rfl rfl rfl ?_
      rcases hg58 : (decide ((((s).length : Int) : Int) ≤ 16384)) with _ | _
      · replace hM := ifn (of_decide_eq_false hg58) hM
        refine r_y rfl ?_
        refine r_v (Value.string (⟨(s).toArray⟩)) rfl rfl rfl rfl ?_
        refine r_y rfl ?_
        refine r_v (Value.int .i64 (((s).length : Int))) rfl rfl rfl (ev_lenS rfl rfl rfl) ?_
        refine r_y rfl ?_
        refine r_v (Value.bool (decide ((((s).length : Int) : Int) > 20000))) rfl rfl rfl rfl ?_
        refine r_v (Value.bool (decide ((((s).length : Int) : Int) > 20000))) rfl rfl rfl rfl ?_
        refine lx_nil ?_
        refine hK52 _ _ ?_; try clear hK52 K52
        refine A_cond (decide ((((s).length : Int) : Int) > 20000)) rfl (fun hc59 => ?_) (fun hc59 => ?_)
        · replace hM := ifp (of_decide_eq_true hc59) hM
          refine A_seq fun K60 hK60 => ?_
          refine A_reg ?_
          replace hM := bind_sm hM; obtain ⟨r61, hr62, hM⟩ := hM
          refine r_c (Value.bool (r61)) rfl _ _ (ev_callF rfl call_5 rfl) (shunterlaw06_lives_g N  _ hr62) ?_
          refine r_v (Value.bool (r61)) rfl rfl rfl rfl ?_
          refine lx_nil ?_
          refine hK60 _ _ ?_; try clear hK60 K60
          obtain rfl := Option.some.inj hM
          refine A_ret (fun hn => ends_eq (v0 := Value.bool (r61)) rfl (res1 rfl))
        · replace hM := ifn (of_decide_eq_false hc59) hM
          refine A_skip ?_
          refine fg _ (Sub.of (List.Sublist.slnil)) ?_
          exact ⟨hM, is_mk rfl rfl⟩
      · replace hM := ifp (of_decide_eq_true hg58) hM
        refine r_n true rfl (by decide) rfl ?_
        refine r_n true rfl (by decide) rfl ?_
        refine r_n true rfl (by decide) rfl ?_
        refine r_v (Value.bool (true)) rfl rfl rfl rfl ?_
        refine lx_nil ?_
        refine hK52 _ _ ?_; try clear hK52 K52
        refine A_cond true rfl (fun _ => ?_) (fun h_ => nomatch h_)
        refine A_seq fun K63 hK63 => ?_
        refine A_reg ?_
        replace hM := bind_sm hM; obtain ⟨r64, hr65, hM⟩ := hM
        refine r_c (Value.bool (r64)) rfl _ _ (ev_callF rfl call_5 rfl) (shunterlaw06_lives_g N  _ hr65) ?_
        refine r_v (Value.bool (r64)) rfl rfl rfl rfl ?_
        refine lx_nil ?_
        refine hK63 _ _ ?_; try clear hK63 K63
        obtain rfl := Option.some.inj hM
        refine A_ret (fun hn => ends_eq (v0 := Value.bool (r64)) rfl (res1 rfl))
  · clear hM; rintro t l ⟨hM, ⟨T, rfl⟩, rfl⟩
    unfold shunterlaw06_LexScans_k1 at hM
    refine A_seq fun K2 hK2 => ?_
    refine A_regC [(some 27, true)] (conG Try.prog [(27, fun v_ L_ U_ => ∀ u0_, lex_Scan_m N s = some u0_ → (pO (List.flatten []) (oS 40 enc_40 u0_.1 fun s_0 => (Sum25.onP u0_.2 (oE (Value.tuple #[s_0, Value.nilIface]) []) (fun y0_0 y0_1 => (oB 47 #[Value.int .i64 (y0_0), Value.int .i64 (y0_1)] fun bs_0 => (oE (Value.tuple #[s_0, Value.iface 45 (Value.pointer (some ⟨bs_0, 0, none⟩))]) [])))))) v_ L_ U_)]) ?_
    refine r_v (Value.string (⟨(s).toArray⟩)) rfl rfl rfl rfl ?_
    replace hM := bind_sm hM; obtain ⟨r3, hr4, hM⟩ := hM
    refine r_gm (Ls := []) (FL := []) (RL := []) [] (oS 40 enc_40 r3.1 fun s_0 => (Sum25.onP r3.2 (oE (Value.tuple #[s_0, Value.nilIface]) []) (fun y0_0 y0_1 => (oB 47 #[Value.int .i64 (y0_0), Value.int .i64 (y0_1)] fun bs_0 => (oE (Value.tuple #[s_0, Value.iface 45 (Value.pointer (some ⟨bs_0, 0, none⟩))]) []))))) (some 27) 6 _ rfl rfl rfl rfl rfl (ev_callF rfl call_6 rfl) (fun own_ nw_ hn_ hs_ => lex_Scan_g N s _ hr4 _ ) (fun _ _ v_ L_ U_ => ⟨fun h_ => h_ _ hr4, fun h_ => by intro _ e_; cases Option.some.inj (e_.symm.trans hr4); exact h_⟩) (fun h_ => nomatch h_) ?_
    rintro _ _ ⟨s5, S6, _, H7, hp_, rfl⟩
    rcases Sum25.cases r3.2 with hx8 | ⟨x9_0, x10_1, hx8⟩
    · obtain ⟨rfl, rfl⟩ := Sum25.onP_nil hx8 hp_
      replace hM := Sum25.on_nil hx8 hM
      refine lx_perm (Ls := [S6]) (Ls' := [S6]) [0] rfl rfl ?_
      refine r_v (Value.tuple #[s5, Value.nilIface]) rfl rfl rfl rfl ?_
      refine r_v (s5) rfl rfl rfl rfl ?_
      refine r_v (Value.nilIface) rfl rfl rfl rfl ?_
      refine r_v (s5) rfl rfl rfl rfl ?_
      refine r_v (Value.nilIface) rfl rfl rfl rfl ?_
      refine lx_nil ?_
      refine hK2 _ _ ?_; try clear hK2 K2
      refine A_seq fun K11 hK11 => ?_
      refine A_regC [(some 32, false)] (conG Try.prog [(32, fun v_ L_ U_ => ∀ u0_, shunterref06_Scan_m N s = some u0_ → (p1 (fun s_ => Value.tuple #[s_, Value.int .i64 (u0_.2.1), Value.int .i64 (u0_.2.2)]) 42 enc_42 (u0_.1)) v_ L_ U_)]) ?_
      refine r_v (Value.string (⟨(s).toArray⟩)) rfl rfl rfl rfl ?_
      replace hM := bind_sm hM; obtain ⟨r12, hr13, hM⟩ := hM
      refine r_g1 (Ls := [S6]) (fun s14 => Value.tuple #[s14, Value.int .i64 (r12.2.1), Value.int .i64 (r12.2.2)]) 42 enc_42 (r12.1) 7 _ rfl rfl rfl (ev_callF rfl call_7 rfl) (fun own_ nw_ hs_ => shunterref06_Scan_g N s _ hr13 hs_.view ) (fun _ _ v_ L_ U_ => ⟨fun h_ => h_ _ hr13, fun h_ => by intro _ e_; cases Option.some.inj (e_.symm.trans hr13); exact h_⟩) (fun s14 S15 H16 => ?_)
      refine r_v (Value.tuple #[s14, Value.int .i64 (r12.2.1), Value.int .i64 (r12.2.2)]) rfl rfl rfl rfl ?_
      refine r_v (s14) rfl rfl rfl rfl ?_
      refine r_v (Value.int .i64 (r12.2.1)) rfl rfl rfl rfl ?_
      refine r_v (Value.int .i64 (r12.2.2)) rfl rfl rfl rfl ?_
      refine r_v (s14) rfl rfl rfl rfl ?_
      refine r_v (Value.int .i64 (r12.2.1)) rfl rfl rfl rfl ?_
      refine r_v (Value.int .i64 (r12.2.2)) rfl rfl rfl rfl ?_
      refine lx_nil ?_
      refine hK11 _ _ ?_; try clear hK11 K11
      refine A_seq fun K17 hK17 => ?_
      refine A_reg ?_
      refine r_v (Value.nilIface) rfl rfl rfl rfl ?_
      replace hM := bind_sm hM; obtain ⟨r18, hr19, hM⟩ := hM
      refine r_c (Value.tuple #[Value.int .i64 (r18.1), Value.int .i64 (r18.2)]) rfl _ _ (ev_callF rfl call_8 rfl) (lex_Why_v1_g N  _ hr19) ?_
      refine r_v (Value.tuple #[Value.int .i64 (r18.1), Value.int .i64 (r18.2)]) rfl rfl rfl rfl ?_
      refine r_v (Value.int .i64 (r18.1)) rfl rfl rfl rfl ?_
      refine r_v (Value.int .i64 (r18.2)) rfl rfl rfl rfl ?_
      refine r_v (Value.int .i64 (r18.1)) rfl rfl rfl rfl ?_
      refine r_v (Value.int .i64 (r18.2)) rfl rfl rfl rfl ?_
      refine lx_nil ?_
      refine hK17 _ _ ?_; try clear hK17 K17
      refine A_cut (fun tt ll => (shunterlaw06_LexScans_k2 N r3 r12  = some r) ∧ Is [(3, s5), (5, s14)] (List.flatten [S6, S15]) tt ll) ?_ ?_
      · refine A_seq fun K42 hK42 => ?_
        refine A_reg ?_
        refine r_v (Value.int .i64 (r18.1)) rfl rfl rfl rfl ?_
        refine r_v (Value.int .i64 (r12.2.2)) rfl rfl rfl rfl ?_
        refine r_v (Value.bool (((r18.1 : Int) != r12.2.2))) rfl rfl rfl rfl ?_
        refine r_v (Value.bool (((r18.1 : Int) != r12.2.2))) rfl rfl rfl rfl ?_
        rcases hg43 : (((r18.1 : Int) != r12.2.2)) with _ | _
        · replace hM := ifn (bne_f hg43) hM
          refine r_y rfl ?_
          refine r_v (Value.int .i64 (r18.2)) rfl rfl rfl rfl ?_
          refine r_y rfl ?_
          refine r_v (Value.int .i64 (r12.2.1)) rfl rfl rfl rfl ?_
          refine r_y rfl ?_
          refine r_v (Value.bool (((r18.2 : Int) != r12.2.1))) rfl rfl rfl rfl ?_
          refine r_v (Value.bool (((r18.2 : Int) != r12.2.1))) rfl rfl rfl rfl ?_
          refine r_v (Value.bool (((r18.2 : Int) != r12.2.1))) rfl rfl rfl rfl ?_
          rcases hg44 : (((r18.2 : Int) != r12.2.1)) with _ | _
          · replace hM := ifn (bne_f hg44) hM
            refine r_y rfl ?_
            refine r_v (s5) rfl rfl rfl rfl ?_
            refine r_y rfl ?_
            refine r_v (Value.int .i64 (((r3.1).length : Int))) rfl rfl rfl (ev_lenSl rfl rfl rfl (Sl.shp H7)) ?_
            refine r_y rfl ?_
            refine r_v (s14) rfl rfl rfl rfl ?_
            refine r_y rfl ?_
            refine r_v (Value.int .i64 (((r12.1).length : Int))) rfl rfl rfl (ev_lenSl rfl rfl rfl (Sl.shp H16)) ?_
            refine r_y rfl ?_
            refine r_v (Value.bool (((((r3.1).length : Int) : Int) != ((r12.1).length : Int)))) rfl rfl rfl rfl ?_
            refine r_v (Value.bool (((((r3.1).length : Int) : Int) != ((r12.1).length : Int)))) rfl rfl rfl rfl ?_
            refine r_v (Value.bool (((((r3.1).length : Int) : Int) != ((r12.1).length : Int)))) rfl rfl rfl rfl ?_
            rcases hg45 : (((((r3.1).length : Int) : Int) != ((r12.1).length : Int))) with _ | _
            · replace hM := ifn (bne_f hg45) hM
              refine r_y rfl ?_
              refine r_v (Value.nilIface) rfl rfl rfl rfl ?_
              refine r_y rfl ?_
              refine r_v (Value.bool (true)) rfl rfl rfl rfl ?_
              refine r_y rfl ?_
              refine r_v (Value.int .i64 (r12.2.2)) rfl rfl rfl rfl ?_
              refine r_y rfl ?_
              refine r_v (Value.bool (((r12.2.2 : Int) == 0))) rfl rfl rfl rfl ?_
              refine r_y rfl ?_
              refine r_v (Value.bool ((true) != (((r12.2.2 : Int) == 0)))) rfl rfl rfl (ev_binBn rfl rfl rfl) ?_
              refine r_v (Value.bool ((true) != (((r12.2.2 : Int) == 0)))) rfl rfl rfl rfl ?_
              refine lx_nil ?_
              refine hK42 _ _ ?_; try clear hK42 K42
              refine A_gen [(3, s5), (5, s14), (62, Value.bool ((true) != (((r12.2.2 : Int) == 0))))] rfl (fun T => ?_)
              refine A_cond ((true) != (((r12.2.2 : Int) == 0))) rfl (fun hc46 => ?_) (fun hc46 => ?_)
              · replace hM := ifp (bne_iff_ne.1 hc46) hM
                refine A_seq fun K47 hK47 => ?_
                refine A_reg ?_
                refine r_v (Value.bool (false)) rfl rfl rfl rfl ?_
                refine lx_nil ?_
                refine hK47 _ _ ?_; try clear hK47 K47
                obtain rfl := Option.some.inj hM
                refine A_ret (fun hn => ends_eq (v0 := Value.bool (false)) rfl (res1 rfl))
              · replace hM := ifn (bne_f hc46) hM
                refine A_skip ?_
                refine fg _ (Sub.pick [S6, S15] [0, 1] rfl) ?_
                exact ⟨hM, is_mk rfl rfl⟩
            · replace hM := ifp (bne_iff_ne.1 hg45) hM
              refine r_n true rfl (by decide) rfl ?_
              refine r_n true rfl (by decide) rfl ?_
              refine r_n true rfl (by decide) rfl ?_
              refine r_n true rfl (by decide) rfl ?_
              refine r_n true rfl (by decide) rfl ?_
              refine r_v (Value.bool (true)) rfl rfl rfl rfl ?_
              refine lx_nil ?_
              refine hK42 _ _ ?_; try clear hK42 K42
              refine A_gen [(3, s5), (5, s14), (62, Value.bool (true))] rfl (fun T => ?_)
              refine A_cond true rfl (fun _ => ?_) (fun h_ => nomatch h_)
              refine A_seq fun K48 hK48 => ?_
              refine A_reg ?_
              refine r_v (Value.bool (false)) rfl rfl rfl rfl ?_
              refine lx_nil ?_
              refine hK48 _ _ ?_; try clear hK48 K48
              obtain rfl := Option.some.inj hM
              refine A_ret (fun hn => ends_eq (v0 := Value.bool (false)) rfl (res1 rfl))
          · replace hM := ifp (bne_iff_ne.1 hg44) hM
            refine r_n true rfl (by decide) rfl ?_
            refine r_n true rfl (by decide) rfl ?_
            refine r_n true rfl (by decide) rfl ?_
            refine r_n true rfl (by decide) rfl ?_
            refine r_n true rfl (by decide) rfl ?_
            refine r_v (Value.bool (true)) rfl rfl rfl rfl ?_
            refine r_v (Value.bool (true)) rfl rfl rfl rfl ?_
            refine r_n true rfl (by decide) rfl ?_
            refine r_n true rfl (by decide) rfl ?_
            refine r_n true rfl (by decide) rfl ?_
            refine r_n true rfl (by decide) rfl ?_
            refine r_n true rfl (by decide) rfl ?_
            refine r_v (Value.bool (true)) rfl rfl rfl rfl ?_
            refine lx_nil ?_
            refine hK42 _ _ ?_; try clear hK42 K42
            refine A_gen [(3, s5), (5, s14), (62, Value.bool (true))] rfl (fun T => ?_)
            refine A_cond true rfl (fun _ => ?_) (fun h_ => nomatch h_)
            refine A_seq fun K49 hK49 => ?_
            refine A_reg ?_
            refine r_v (Value.bool (false)) rfl rfl rfl rfl ?_
            refine lx_nil ?_
            refine hK49 _ _ ?_; try clear hK49 K49
            obtain rfl := Option.some.inj hM
            refine A_ret (fun hn => ends_eq (v0 := Value.bool (false)) rfl (res1 rfl))
        · replace hM := ifp (bne_iff_ne.1 hg43) hM
          refine r_n true rfl (by decide) rfl ?_
          refine r_n true rfl (by decide) rfl ?_
          refine r_n true rfl (by decide) rfl ?_
          refine r_v (Value.bool (true)) rfl rfl rfl rfl ?_
          refine r_v (Value.bool (true)) rfl rfl rfl rfl ?_
          refine r_n true rfl (by decide) rfl ?_
          refine r_n true rfl (by decide) rfl ?_
          refine r_n true rfl (by decide) rfl ?_
          refine r_n true rfl (by decide) rfl ?_
          refine r_n true rfl (by decide) rfl ?_
          refine r_v (Value.bool (true)) rfl rfl rfl rfl ?_
          refine r_v (Value.bool (true)) rfl rfl rfl rfl ?_
          refine r_n true rfl (by decide) rfl ?_
          refine r_n true rfl (by decide) rfl ?_
          refine r_n true rfl (by decide) rfl ?_
          refine r_n true rfl (by decide) rfl ?_
          refine r_n true rfl (by decide) rfl ?_
          refine r_v (Value.bool (true)) rfl rfl rfl rfl ?_
          refine lx_nil ?_
          refine hK42 _ _ ?_; try clear hK42 K42
          refine A_gen [(3, s5), (5, s14), (62, Value.bool (true))] rfl (fun T => ?_)
          refine A_cond true rfl (fun _ => ?_) (fun h_ => nomatch h_)
          refine A_seq fun K50 hK50 => ?_
          refine A_reg ?_
          refine r_v (Value.bool (false)) rfl rfl rfl rfl ?_
          refine lx_nil ?_
          refine hK50 _ _ ?_; try clear hK50 K50
          obtain rfl := Option.some.inj hM
          refine A_ret (fun hn => ends_eq (v0 := Value.bool (false)) rfl (res1 rfl))
      · clear hM; rintro t l ⟨hM, ⟨T, rfl⟩, rfl⟩
        unfold shunterlaw06_LexScans_k2 at hM
        refine A_seq fun K20 hK20 => ?_
        refine A_seq fun K21 hK21 => ?_
        refine A_reg ?_
        refine r_v (Value.int .i64 (0)) rfl rfl rfl rfl ?_
        refine lx_nil ?_
        refine hK21 _ _ ?_; try clear hK21 K21
        refine A_block ?_
        refine A_forget _ (Sub.pick [S6, S15] [0, 1] rfl) ?_
        refine A_loop (fun tt ll nn => ∃ (n22 : Nat) (i3_ : Int), (shunterlaw06_LexScans_l4 N r3 r12 n22 i3_ = some r) ∧ Is [(3, s5), (5, s14), (10, Value.int .i64 (i3_))] (List.flatten [S6, S15]) tt ll ∧ nn = n22 + 1) (N + 1) ?_ ?_
        · exact ⟨N, 0, hM, is_mk rfl rfl, rfl⟩
        · clear hM; rintro t l _ ⟨n22, i3_, hM, ⟨⟨T, rfl⟩, rfl⟩, rfl⟩
          rcases n22 with _ | n22
          · exact absurd hM (by simp [shunterlaw06_LexScans_l4])
          rw [shunterlaw06_LexScans_l4] at hM
          refine A_seq fun K23 hK23 => ?_
          refine A_seq fun K24 hK24 => ?_
          refine A_reg ?_
          refine r_v (Value.int .i64 (i3_)) rfl rfl rfl rfl ?_
          refine r_v (s5) rfl rfl rfl rfl ?_
          refine r_v (Value.int .i64 (((r3.1).length : Int))) rfl rfl rfl (ev_lenSl rfl rfl rfl (Sl.shp H7)) ?_
          refine r_v (Value.bool (decide ((i3_ : Int) < ((r3.1).length : Int)))) rfl rfl rfl rfl ?_
          refine lx_nil ?_
          refine hK24 _ _ ?_; try clear hK24 K24
          refine A_cond (decide ((i3_ : Int) < ((r3.1).length : Int))) rfl (fun hc25 => ?_) (fun hc25 => ?_)
          · replace hM := ifp (of_decide_eq_true hc25) hM
            refine A_skip ?_
            refine hK23 _ _ ?_; try clear hK23 K23
            refine A_seq fun K26 hK26 => ?_
            refine A_block ?_
            refine A_seq fun K27 hK27 => ?_
            refine A_draw [] (by decide +kernel) (fun hn => sep_nil) ?_
            refine r_v (s5) rfl rfl rfl rfl ?_
            refine r_v (Value.int .i64 (i3_)) rfl rfl rfl rfl ?_
            replace hM := ck_some hM; obtain ⟨ck28, hM⟩ := hM
            refine r_v (elA s5 ((i3_).toNat * 7)) rfl rfl rfl (ev_v (ev_idxSl rfl rfl rfl (Sl.shp H7) ck28)) ?_
            refine r_le (Value.agg #[Value.int .i64 (((r3.1)[(i3_).toNat]!).1), Value.string (⟨(((r3.1)[(i3_).toNat]!).2.1).toArray⟩), Value.int .i64 (((r3.1)[(i3_).toNat]!).2.2.1), Value.int .i64 (((r3.1)[(i3_).toNat]!).2.2.2.1), U (hi (((r3.1)[(i3_).toNat]!).2.2.2.2.1)), U (lo (((r3.1)[(i3_).toNat]!).2.2.2.2.1)), Value.int .i64 (((r3.1)[(i3_).toNat]!).2.2.2.2.2)]) (En := enc_40) ((r3.1)[(i3_).toNat]!) ((i3_).toNat) 0 rfl rfl (rd_own H7 (mem_chunk (Ls := [S6, S15]) (k := 0) rfl rfl)) (get_of ck28) rfl ?_
            refine r_v (s14) rfl rfl rfl rfl ?_
            refine r_v (Value.int .i64 (i3_)) rfl rfl rfl rfl ?_
            replace hM := ck_some hM; obtain ⟨ck29, hM⟩ := hM
            refine r_v (elA s14 ((i3_).toNat * 7)) rfl rfl rfl (ev_v (ev_idxSl rfl rfl rfl (Sl.shp H16) ck29)) ?_
            refine r_le (Value.agg #[Value.int .i64 (((r12.1)[(i3_).toNat]!).1), Value.string (⟨(((r12.1)[(i3_).toNat]!).2.1).toArray⟩), Value.int .i64 (((r12.1)[(i3_).toNat]!).2.2.1), Value.int .i64 (((r12.1)[(i3_).toNat]!).2.2.2.1), U (hi (((r12.1)[(i3_).toNat]!).2.2.2.2.1)), U (lo (((r12.1)[(i3_).toNat]!).2.2.2.2.1)), Value.int .i64 (((r12.1)[(i3_).toNat]!).2.2.2.2.2)]) (En := enc_42) ((r12.1)[(i3_).toNat]!) ((i3_).toNat) 0 rfl rfl (rd_own H16 (mem_chunk (Ls := [S6, S15]) (k := 1) rfl rfl)) (get_of ck29) rfl ?_
            replace hM := bind_sm hM; obtain ⟨r30, hr31, hM⟩ := hM
            refine r_c (Value.bool (r30)) rfl _ _ (ev_callF rfl call_9 rfl) (shunterlaw06_alike_g N (((r3.1)[(i3_).toNat]!).1) (((r3.1)[(i3_).toNat]!).2.1) (((r3.1)[(i3_).toNat]!).2.2.1) (((r3.1)[(i3_).toNat]!).2.2.2.1) (((r3.1)[(i3_).toNat]!).2.2.2.2.1) (((r3.1)[(i3_).toNat]!).2.2.2.2.2) (((r12.1)[(i3_).toNat]!).1) (((r12.1)[(i3_).toNat]!).2.1) (((r12.1)[(i3_).toNat]!).2.2.1) (((r12.1)[(i3_).toNat]!).2.2.2.1) (((r12.1)[(i3_).toNat]!).2.2.2.2.1) (((r12.1)[(i3_).toNat]!).2.2.2.2.2) _ hr31) ?_
            refine r_v (Value.bool (!(r30))) rfl rfl rfl rfl ?_
            refine r_v (Value.bool (!(r30))) rfl rfl rfl rfl ?_
            rcases hg32 : (!(r30)) with _ | _
            · replace hM := ifp (not_f hg32) hM
              refine r_y rfl ?_
              refine r_v (s5) rfl rfl rfl rfl ?_
              refine r_y rfl ?_
              refine r_v (Value.int .i64 (i3_)) rfl rfl rfl rfl ?_
              refine r_y rfl ?_
              replace hM := ck_some hM; obtain ⟨ck33, hM⟩ := hM
              refine r_v (elA s5 ((i3_).toNat * 7)) rfl rfl rfl (ev_v (ev_idxSl rfl rfl rfl (Sl.shp H7) ck33)) ?_
              refine r_y rfl ?_
              refine r_v (elA s5 ((i3_).toNat * 7 + 6)) rfl rfl rfl (ev_v (ev_fieldX rfl rfl rfl rfl rfl rfl (Sl.shp H7) (pos_of ck33))) ?_
              refine r_y rfl ?_
              refine r_le (Value.int .i64 (((r3.1)[(i3_).toNat]!).2.2.2.2.2)) (En := enc_40) ((r3.1)[(i3_).toNat]!) ((i3_).toNat) 6 rfl rfl (rd_own H7 (mem_chunk (Ls := [S6, S15]) (k := 0) rfl rfl)) (get_of ck33) rfl ?_
              refine r_y rfl ?_
              refine r_v (s14) rfl rfl rfl rfl ?_
              refine r_y rfl ?_
              refine r_v (Value.int .i64 (i3_)) rfl rfl rfl rfl ?_
              refine r_y rfl ?_
              replace hM := ck_some hM; obtain ⟨ck34, hM⟩ := hM
              refine r_v (elA s14 ((i3_).toNat * 7)) rfl rfl rfl (ev_v (ev_idxSl rfl rfl rfl (Sl.shp H16) ck34)) ?_
              refine r_y rfl ?_
              refine r_v (elA s14 ((i3_).toNat * 7 + 6)) rfl rfl rfl (ev_v (ev_fieldX rfl rfl rfl rfl rfl rfl (Sl.shp H16) (pos_of ck34))) ?_
              refine r_y rfl ?_
              refine r_le (Value.int .i64 (((r12.1)[(i3_).toNat]!).2.2.2.2.2)) (En := enc_42) ((r12.1)[(i3_).toNat]!) ((i3_).toNat) 6 rfl rfl (rd_own H16 (mem_chunk (Ls := [S6, S15]) (k := 1) rfl rfl)) (get_of ck34) rfl ?_
              refine r_y rfl ?_
              refine r_v (Value.bool (((((r3.1)[(i3_).toNat]!).2.2.2.2.2 : Int) != ((r12.1)[(i3_).toNat]!).2.2.2.2.2))) rfl rfl rfl rfl ?_
              refine r_v (Value.bool (((((r3.1)[(i3_).toNat]!).2.2.2.2.2 : Int) != ((r12.1)[(i3_).toNat]!).2.2.2.2.2))) rfl rfl rfl rfl ?_
              refine lx_nil ?_
              refine hK27 _ _ ?_; try clear hK27 K27
              refine A_gen [(3, s5), (5, s14), (10, Value.int .i64 (i3_)), (91, Value.bool (((((r3.1)[(i3_).toNat]!).2.2.2.2.2 : Int) != ((r12.1)[(i3_).toNat]!).2.2.2.2.2)))] rfl (fun T => ?_)
              refine A_cond (((((r3.1)[(i3_).toNat]!).2.2.2.2.2 : Int) != ((r12.1)[(i3_).toNat]!).2.2.2.2.2)) rfl (fun hc35 => ?_) (fun hc35 => ?_)
              · replace hM := ifp (bne_iff_ne.1 hc35) hM
                refine A_seq fun K36 hK36 => ?_
                refine A_reg ?_
                refine r_v (Value.bool (false)) rfl rfl rfl rfl ?_
                refine lx_nil ?_
                refine hK36 _ _ ?_; try clear hK36 K36
                obtain rfl := Option.some.inj hM
                refine A_ret (fun hn => ends_eq (v0 := Value.bool (false)) rfl (res1 rfl))
              · replace hM := ifn (bne_f hc35) hM
                refine A_skip ?_
                refine hK26 _ _ ?_; try clear hK26 K26
                refine A_reg ?_
                refine r_v (Value.int .i64 (i3_)) rfl rfl rfl rfl ?_
                replace hM := ck_some hM; obtain ⟨ck37, hM⟩ := hM
                refine r_v (Value.int .i64 ((i3_ + 1))) rfl rfl (wi64 rfl ck37.1 ck37.2) rfl ?_
                refine r_v (Value.int .i64 ((i3_ + 1))) rfl rfl rfl rfl ?_
                refine lx_nil ?_
                refine fg _ (Sub.pick [S6, S15] [0, 1] rfl) ?_
                exact ⟨n22 + 1, by omega, n22, (i3_ + 1), hM, is_mk (by first | rfl | (simp only [hg32]; done) | (simp only [hg32]; rfl) | (simp only [app_hl]; rfl)) rfl, rfl⟩
            · replace hM := ifn (Bool.eq_false_iff.1 (not_t hg32)) hM
              refine r_n true rfl (by decide) rfl ?_
              refine r_n true rfl (by decide) rfl ?_
              refine r_n true rfl (by decide) rfl ?_
              refine r_n true rfl (by decide) rfl ?_
              refine r_n true rfl (by decide) rfl ?_
              refine r_n true rfl (by decide) rfl ?_
              refine r_n true rfl (by decide) rfl ?_
              refine r_n true rfl (by decide) rfl ?_
              refine r_n true rfl (by decide) rfl ?_
              refine r_n true rfl (by decide) rfl ?_
              refine r_n true rfl (by decide) rfl ?_
              refine r_v (Value.bool (true)) rfl rfl rfl rfl ?_
              refine lx_nil ?_
              refine hK27 _ _ ?_; try clear hK27 K27
              refine A_gen [(3, s5), (5, s14), (10, Value.int .i64 (i3_)), (91, Value.bool (true))] rfl (fun T => ?_)
              refine A_cond true rfl (fun _ => ?_) (fun h_ => nomatch h_)
              refine A_seq fun K38 hK38 => ?_
              refine A_reg ?_
              refine r_v (Value.bool (false)) rfl rfl rfl rfl ?_
              refine lx_nil ?_
              refine hK38 _ _ ?_; try clear hK38 K38
              obtain rfl := Option.some.inj hM
              refine A_ret (fun hn => ends_eq (v0 := Value.bool (false)) rfl (res1 rfl))
          · replace hM := ifn (of_decide_eq_false hc25) hM
            refine A_exit ?_
            refine hK20 _ _ ?_; try clear hK20 K20
            refine A_seq fun K39 hK39 => ?_
            refine A_reg ?_
            replace hM := bind_sm hM; obtain ⟨r40, hr41, hM⟩ := hM
            refine r_c (Value.bool (r40)) rfl _ _ (ev_callF rfl call_5 rfl) (shunterlaw06_lives_g N  _ hr41) ?_
            refine r_v (Value.bool (r40)) rfl rfl rfl rfl ?_
            refine lx_nil ?_
            refine hK39 _ _ ?_; try clear hK39 K39
            obtain rfl := Option.some.inj hM
            refine A_ret (fun hn => ends_eq (v0 := Value.bool (r40)) rfl (res1 rfl))
    · obtain ⟨b11, _, ⟨rfl, rfl⟩, rfl⟩ := Sum25.onP_t45 hx8 hp_
      replace hM := Sum25.on_t45 hx8 hM
      refine lx_perm (Ls := [S6, [(b11, 47, #[Value.int .i64 (x9_0), Value.int .i64 (x10_1)])]]) (Ls' := [[(b11, 47, #[Value.int .i64 (x9_0), Value.int .i64 (x10_1)])], S6]) [1, 0] rfl rfl ?_
      refine r_v (Value.tuple #[s5, Value.iface 45 (Value.pointer (some ⟨b11, 0, none⟩))]) rfl rfl rfl rfl ?_
      refine r_v (s5) rfl rfl rfl rfl ?_
      refine r_v (Value.iface 45 (Value.pointer (some ⟨b11, 0, none⟩))) rfl rfl rfl rfl ?_
      refine r_v (s5) rfl rfl rfl rfl ?_
      refine r_v (Value.iface 45 (Value.pointer (some ⟨b11, 0, none⟩))) rfl rfl rfl rfl ?_
      refine lx_nil ?_
      refine hK2 _ _ ?_; try clear hK2 K2
      refine A_seq fun K12 hK12 => ?_
      refine A_regC [(some 32, false)] (conG Try.prog [(32, fun v_ L_ U_ => ∀ u0_, shunterref06_Scan_m N s = some u0_ → (p1 (fun s_ => Value.tuple #[s_, Value.int .i64 (u0_.2.1), Value.int .i64 (u0_.2.2)]) 42 enc_42 (u0_.1)) v_ L_ U_)]) ?_
      refine r_v (Value.string (⟨(s).toArray⟩)) rfl rfl rfl rfl ?_
      replace hM := bind_sm hM; obtain ⟨r13, hr14, hM⟩ := hM
      refine r_g1 (Ls := [[(b11, 47, #[Value.int .i64 (x9_0), Value.int .i64 (x10_1)])], S6]) (fun s15 => Value.tuple #[s15, Value.int .i64 (r13.2.1), Value.int .i64 (r13.2.2)]) 42 enc_42 (r13.1) 7 _ rfl rfl rfl (ev_callF rfl call_7 rfl) (fun own_ nw_ hs_ => shunterref06_Scan_g N s _ hr14 hs_.view ) (fun _ _ v_ L_ U_ => ⟨fun h_ => h_ _ hr14, fun h_ => by intro _ e_; cases Option.some.inj (e_.symm.trans hr14); exact h_⟩) (fun s15 S16 H17 => ?_)
      refine r_v (Value.tuple #[s15, Value.int .i64 (r13.2.1), Value.int .i64 (r13.2.2)]) rfl rfl rfl rfl ?_
      refine r_v (s15) rfl rfl rfl rfl ?_
      refine r_v (Value.int .i64 (r13.2.1)) rfl rfl rfl rfl ?_
      refine r_v (Value.int .i64 (r13.2.2)) rfl rfl rfl rfl ?_
      refine r_v (s15) rfl rfl rfl rfl ?_
      refine r_v (Value.int .i64 (r13.2.1)) rfl rfl rfl rfl ?_
      refine r_v (Value.int .i64 (r13.2.2)) rfl rfl rfl rfl ?_
      refine lx_nil ?_
      refine hK12 _ _ ?_; try clear hK12 K12
      refine A_seq fun K18 hK18 => ?_
      refine A_regC [(some 38, false)] (conG Try.prog [(38, fun v_ L_ U_ => ∀ u0_, lex_Why_v2_m N x9_0 x10_1 = some u0_ → (pV (Value.tuple #[Value.int .i64 (u0_.1), Value.int .i64 (u0_.2)])) v_ L_ U_)]) ?_
      refine r_v (Value.iface 45 (Value.pointer (some ⟨b11, 0, none⟩))) rfl rfl rfl rfl ?_
      replace hM := bind_sm hM; obtain ⟨r19, hr20, hM⟩ := hM
      refine r_gv (Value.tuple #[Value.int .i64 (r19.1), Value.int .i64 (r19.2)]) 8 _ rfl rfl rfl (ev_callF rfl call_8 rfl) (fun own_ nw_ hs_ => lex_Why_v2_g N x9_0 x10_1 _ hr20 hs_.view b11 (blk_own 0 rfl rfl own_ nw_ hs_)) (fun _ _ v_ L_ U_ => ⟨fun h_ => h_ _ hr20, fun h_ => by intro _ e_; cases Option.some.inj (e_.symm.trans hr20); exact h_⟩) ?_
      refine r_v (Value.tuple #[Value.int .i64 (r19.1), Value.int .i64 (r19.2)]) rfl rfl rfl rfl ?_
      refine r_v (Value.int .i64 (r19.1)) rfl rfl rfl rfl ?_
      refine r_v (Value.int .i64 (r19.2)) rfl rfl rfl rfl ?_
      refine r_v (Value.int .i64 (r19.1)) rfl rfl rfl rfl ?_
      refine r_v (Value.int .i64 (r19.2)) rfl rfl rfl rfl ?_
      refine lx_nil ?_
      refine hK18 _ _ ?_; try clear hK18 K18
      refine A_cut (fun tt ll => (shunterlaw06_LexScans_k5 N r3 r13  = some r) ∧ Is [(3, s5), (5, s15)] (List.flatten [S6, S16]) tt ll) ?_ ?_
      · refine A_seq fun K43 hK43 => ?_
        refine A_reg ?_
        refine r_v (Value.int .i64 (r19.1)) rfl rfl rfl rfl ?_
        refine r_v (Value.int .i64 (r13.2.2)) rfl rfl rfl rfl ?_
        refine r_v (Value.bool (((r19.1 : Int) != r13.2.2))) rfl rfl rfl rfl ?_
        refine r_v (Value.bool (((r19.1 : Int) != r13.2.2))) rfl rfl rfl rfl ?_
        rcases hg44 : (((r19.1 : Int) != r13.2.2)) with _ | _
        · replace hM := ifn (bne_f hg44) hM
          refine r_y rfl ?_
          refine r_v (Value.int .i64 (r19.2)) rfl rfl rfl rfl ?_
          refine r_y rfl ?_
          refine r_v (Value.int .i64 (r13.2.1)) rfl rfl rfl rfl ?_
          refine r_y rfl ?_
          refine r_v (Value.bool (((r19.2 : Int) != r13.2.1))) rfl rfl rfl rfl ?_
          refine r_v (Value.bool (((r19.2 : Int) != r13.2.1))) rfl rfl rfl rfl ?_
          refine r_v (Value.bool (((r19.2 : Int) != r13.2.1))) rfl rfl rfl rfl ?_
          rcases hg45 : (((r19.2 : Int) != r13.2.1)) with _ | _
          · replace hM := ifn (bne_f hg45) hM
            refine r_y rfl ?_
            refine r_v (s5) rfl rfl rfl rfl ?_
            refine r_y rfl ?_
            refine r_v (Value.int .i64 (((r3.1).length : Int))) rfl rfl rfl (ev_lenSl rfl rfl rfl (Sl.shp H7)) ?_
            refine r_y rfl ?_
            refine r_v (s15) rfl rfl rfl rfl ?_
            refine r_y rfl ?_
            refine r_v (Value.int .i64 (((r13.1).length : Int))) rfl rfl rfl (ev_lenSl rfl rfl rfl (Sl.shp H17)) ?_
            refine r_y rfl ?_
            refine r_v (Value.bool (((((r3.1).length : Int) : Int) != ((r13.1).length : Int)))) rfl rfl rfl rfl ?_
            refine r_v (Value.bool (((((r3.1).length : Int) : Int) != ((r13.1).length : Int)))) rfl rfl rfl rfl ?_
            refine r_v (Value.bool (((((r3.1).length : Int) : Int) != ((r13.1).length : Int)))) rfl rfl rfl rfl ?_
            rcases hg46 : (((((r3.1).length : Int) : Int) != ((r13.1).length : Int))) with _ | _
            · replace hM := ifn (bne_f hg46) hM
              refine r_y rfl ?_
              refine r_v (Value.iface 45 (Value.pointer (some ⟨b11, 0, none⟩))) rfl rfl rfl rfl ?_
              refine r_y rfl ?_
              refine r_v (Value.bool (false)) rfl rfl rfl rfl ?_
              refine r_y rfl ?_
              refine r_v (Value.int .i64 (r13.2.2)) rfl rfl rfl rfl ?_
              refine r_y rfl ?_
              refine r_v (Value.bool (((r13.2.2 : Int) == 0))) rfl rfl rfl rfl ?_
              refine r_y rfl ?_
              refine r_v (Value.bool ((false) != (((r13.2.2 : Int) == 0)))) rfl rfl rfl (ev_binBn rfl rfl rfl) ?_
              refine r_v (Value.bool ((false) != (((r13.2.2 : Int) == 0)))) rfl rfl rfl rfl ?_
              refine lx_nil ?_
              refine hK43 _ _ ?_; try clear hK43 K43
              refine A_gen [(3, s5), (5, s15), (62, Value.bool ((false) != (((r13.2.2 : Int) == 0))))] rfl (fun T => ?_)
              refine A_cond ((false) != (((r13.2.2 : Int) == 0))) rfl (fun hc47 => ?_) (fun hc47 => ?_)
              · replace hM := ifp (bne_iff_ne.1 hc47) hM
                refine A_seq fun K48 hK48 => ?_
                refine A_reg ?_
                refine r_v (Value.bool (false)) rfl rfl rfl rfl ?_
                refine lx_nil ?_
                refine hK48 _ _ ?_; try clear hK48 K48
                obtain rfl := Option.some.inj hM
                refine A_ret (fun hn => ends_eq (v0 := Value.bool (false)) rfl (res1 rfl))
              · replace hM := ifn (bne_f hc47) hM
                refine A_skip ?_
                refine fg _ (Sub.pick [[(b11, 47, #[Value.int .i64 (x9_0), Value.int .i64 (x10_1)])], S6, S16] [1, 2] rfl) ?_
                exact ⟨hM, is_mk rfl rfl⟩
            · replace hM := ifp (bne_iff_ne.1 hg46) hM
              refine r_n true rfl (by decide) rfl ?_
              refine r_n true rfl (by decide) rfl ?_
              refine r_n true rfl (by decide) rfl ?_
              refine r_n true rfl (by decide) rfl ?_
              refine r_n true rfl (by decide) rfl ?_
              refine r_v (Value.bool (true)) rfl rfl rfl rfl ?_
              refine lx_nil ?_
              refine hK43 _ _ ?_; try clear hK43 K43
              refine A_gen [(3, s5), (5, s15), (62, Value.bool (true))] rfl (fun T => ?_)
              refine A_cond true rfl (fun _ => ?_) (fun h_ => nomatch h_)
              refine A_seq fun K49 hK49 => ?_
              refine A_reg ?_
              refine r_v (Value.bool (false)) rfl rfl rfl rfl ?_
              refine lx_nil ?_
              refine hK49 _ _ ?_; try clear hK49 K49
              obtain rfl := Option.some.inj hM
              refine A_ret (fun hn => ends_eq (v0 := Value.bool (false)) rfl (res1 rfl))
          · replace hM := ifp (bne_iff_ne.1 hg45) hM
            refine r_n true rfl (by decide) rfl ?_
            refine r_n true rfl (by decide) rfl ?_
            refine r_n true rfl (by decide) rfl ?_
            refine r_n true rfl (by decide) rfl ?_
            refine r_n true rfl (by decide) rfl ?_
            refine r_v (Value.bool (true)) rfl rfl rfl rfl ?_
            refine r_v (Value.bool (true)) rfl rfl rfl rfl ?_
            refine r_n true rfl (by decide) rfl ?_
            refine r_n true rfl (by decide) rfl ?_
            refine r_n true rfl (by decide) rfl ?_
            refine r_n true rfl (by decide) rfl ?_
            refine r_n true rfl (by decide) rfl ?_
            refine r_v (Value.bool (true)) rfl rfl rfl rfl ?_
            refine lx_nil ?_
            refine hK43 _ _ ?_; try clear hK43 K43
            refine A_gen [(3, s5), (5, s15), (62, Value.bool (true))] rfl (fun T => ?_)
            refine A_cond true rfl (fun _ => ?_) (fun h_ => nomatch h_)
            refine A_seq fun K50 hK50 => ?_
            refine A_reg ?_
            refine r_v (Value.bool (false)) rfl rfl rfl rfl ?_
            refine lx_nil ?_
            refine hK50 _ _ ?_; try clear hK50 K50
            obtain rfl := Option.some.inj hM
            refine A_ret (fun hn => ends_eq (v0 := Value.bool (false)) rfl (res1 rfl))
        · replace hM := ifp (bne_iff_ne.1 hg44) hM
          refine r_n true rfl (by decide) rfl ?_
          refine r_n true rfl (by decide) rfl ?_
          refine r_n true rfl (by decide) rfl ?_
          refine r_v (Value.bool (true)) rfl rfl rfl rfl ?_
          refine r_v (Value.bool (true)) rfl rfl rfl rfl ?_
          refine r_n true rfl (by decide) rfl ?_
          refine r_n true rfl (by decide) rfl ?_
          refine r_n true rfl (by decide) rfl ?_
          refine r_n true rfl (by decide) rfl ?_
          refine r_n true rfl (by decide) rfl ?_
          refine r_v (Value.bool (true)) rfl rfl rfl rfl ?_
          refine r_v (Value.bool (true)) rfl rfl rfl rfl ?_
          refine r_n true rfl (by decide) rfl ?_
          refine r_n true rfl (by decide) rfl ?_
          refine r_n true rfl (by decide) rfl ?_
          refine r_n true rfl (by decide) rfl ?_
          refine r_n true rfl (by decide) rfl ?_
          refine r_v (Value.bool (true)) rfl rfl rfl rfl ?_
          refine lx_nil ?_
          refine hK43 _ _ ?_; try clear hK43 K43
          refine A_gen [(3, s5), (5, s15), (62, Value.bool (true))] rfl (fun T => ?_)
          refine A_cond true rfl (fun _ => ?_) (fun h_ => nomatch h_)
          refine A_seq fun K51 hK51 => ?_
          refine A_reg ?_
          refine r_v (Value.bool (false)) rfl rfl rfl rfl ?_
          refine lx_nil ?_
          refine hK51 _ _ ?_; try clear hK51 K51
          obtain rfl := Option.some.inj hM
          refine A_ret (fun hn => ends_eq (v0 := Value.bool (false)) rfl (res1 rfl))
      · clear hM; rintro t l ⟨hM, ⟨T, rfl⟩, rfl⟩
        unfold shunterlaw06_LexScans_k5 at hM
        refine A_seq fun K21 hK21 => ?_
        refine A_seq fun K22 hK22 => ?_
        refine A_reg ?_
        refine r_v (Value.int .i64 (0)) rfl rfl rfl rfl ?_
        refine lx_nil ?_
        refine hK22 _ _ ?_; try clear hK22 K22
        refine A_block ?_
        refine A_forget _ (Sub.pick [S6, S16] [0, 1] rfl) ?_
        refine A_loop (fun tt ll nn => ∃ (n23 : Nat) (i6_ : Int), (shunterlaw06_LexScans_l7 N r3 r13 n23 i6_ = some r) ∧ Is [(3, s5), (5, s15), (10, Value.int .i64 (i6_))] (List.flatten [S6, S16]) tt ll ∧ nn = n23 + 1) (N + 1) ?_ ?_
        · exact ⟨N, 0, hM, is_mk rfl rfl, rfl⟩
        · clear hM; rintro t l _ ⟨n23, i6_, hM, ⟨⟨T, rfl⟩, rfl⟩, rfl⟩
          rcases n23 with _ | n23
          · exact absurd hM (by simp [shunterlaw06_LexScans_l7])
          rw [shunterlaw06_LexScans_l7] at hM
          refine A_seq fun K24 hK24 => ?_
          refine A_seq fun K25 hK25 => ?_
          refine A_reg ?_
          refine r_v (Value.int .i64 (i6_)) rfl rfl rfl rfl ?_
          refine r_v (s5) rfl rfl rfl rfl ?_
          refine r_v (Value.int .i64 (((r3.1).length : Int))) rfl rfl rfl (ev_lenSl rfl rfl rfl (Sl.shp H7)) ?_
          refine r_v (Value.bool (decide ((i6_ : Int) < ((r3.1).length : Int)))) rfl rfl rfl rfl ?_
          refine lx_nil ?_
          refine hK25 _ _ ?_; try clear hK25 K25
          refine A_cond (decide ((i6_ : Int) < ((r3.1).length : Int))) rfl (fun hc26 => ?_) (fun hc26 => ?_)
          · replace hM := ifp (of_decide_eq_true hc26) hM
            refine A_skip ?_
            refine hK24 _ _ ?_; try clear hK24 K24
            refine A_seq fun K27 hK27 => ?_
            refine A_block ?_
            refine A_seq fun K28 hK28 => ?_
            refine A_draw [] (by decide +kernel) (fun hn => sep_nil) ?_
            refine r_v (s5) rfl rfl rfl rfl ?_
            refine r_v (Value.int .i64 (i6_)) rfl rfl rfl rfl ?_
            replace hM := ck_some hM; obtain ⟨ck29, hM⟩ := hM
            refine r_v (elA s5 ((i6_).toNat * 7)) rfl rfl rfl (ev_v (ev_idxSl rfl rfl rfl (Sl.shp H7) ck29)) ?_
            refine r_le (Value.agg #[Value.int .i64 (((r3.1)[(i6_).toNat]!).1), Value.string (⟨(((r3.1)[(i6_).toNat]!).2.1).toArray⟩), Value.int .i64 (((r3.1)[(i6_).toNat]!).2.2.1), Value.int .i64 (((r3.1)[(i6_).toNat]!).2.2.2.1), U (hi (((r3.1)[(i6_).toNat]!).2.2.2.2.1)), U (lo (((r3.1)[(i6_).toNat]!).2.2.2.2.1)), Value.int .i64 (((r3.1)[(i6_).toNat]!).2.2.2.2.2)]) (En := enc_40) ((r3.1)[(i6_).toNat]!) ((i6_).toNat) 0 rfl rfl (rd_own H7 (mem_chunk (Ls := [S6, S16]) (k := 0) rfl rfl)) (get_of ck29) rfl ?_
            refine r_v (s15) rfl rfl rfl rfl ?_
            refine r_v (Value.int .i64 (i6_)) rfl rfl rfl rfl ?_
            replace hM := ck_some hM; obtain ⟨ck30, hM⟩ := hM
            refine r_v (elA s15 ((i6_).toNat * 7)) rfl rfl rfl (ev_v (ev_idxSl rfl rfl rfl (Sl.shp H17) ck30)) ?_
            refine r_le (Value.agg #[Value.int .i64 (((r13.1)[(i6_).toNat]!).1), Value.string (⟨(((r13.1)[(i6_).toNat]!).2.1).toArray⟩), Value.int .i64 (((r13.1)[(i6_).toNat]!).2.2.1), Value.int .i64 (((r13.1)[(i6_).toNat]!).2.2.2.1), U (hi (((r13.1)[(i6_).toNat]!).2.2.2.2.1)), U (lo (((r13.1)[(i6_).toNat]!).2.2.2.2.1)), Value.int .i64 (((r13.1)[(i6_).toNat]!).2.2.2.2.2)]) (En := enc_42) ((r13.1)[(i6_).toNat]!) ((i6_).toNat) 0 rfl rfl (rd_own H17 (mem_chunk (Ls := [S6, S16]) (k := 1) rfl rfl)) (get_of ck30) rfl ?_
            replace hM := bind_sm hM; obtain ⟨r31, hr32, hM⟩ := hM
            refine r_c (Value.bool (r31)) rfl _ _ (ev_callF rfl call_9 rfl) (shunterlaw06_alike_g N (((r3.1)[(i6_).toNat]!).1) (((r3.1)[(i6_).toNat]!).2.1) (((r3.1)[(i6_).toNat]!).2.2.1) (((r3.1)[(i6_).toNat]!).2.2.2.1) (((r3.1)[(i6_).toNat]!).2.2.2.2.1) (((r3.1)[(i6_).toNat]!).2.2.2.2.2) (((r13.1)[(i6_).toNat]!).1) (((r13.1)[(i6_).toNat]!).2.1) (((r13.1)[(i6_).toNat]!).2.2.1) (((r13.1)[(i6_).toNat]!).2.2.2.1) (((r13.1)[(i6_).toNat]!).2.2.2.2.1) (((r13.1)[(i6_).toNat]!).2.2.2.2.2) _ hr32) ?_
            refine r_v (Value.bool (!(r31))) rfl rfl rfl rfl ?_
            refine r_v (Value.bool (!(r31))) rfl rfl rfl rfl ?_
            rcases hg33 : (!(r31)) with _ | _
            · replace hM := ifp (not_f hg33) hM
              refine r_y rfl ?_
              refine r_v (s5) rfl rfl rfl rfl ?_
              refine r_y rfl ?_
              refine r_v (Value.int .i64 (i6_)) rfl rfl rfl rfl ?_
              refine r_y rfl ?_
              replace hM := ck_some hM; obtain ⟨ck34, hM⟩ := hM
              refine r_v (elA s5 ((i6_).toNat * 7)) rfl rfl rfl (ev_v (ev_idxSl rfl rfl rfl (Sl.shp H7) ck34)) ?_
              refine r_y rfl ?_
              refine r_v (elA s5 ((i6_).toNat * 7 + 6)) rfl rfl rfl (ev_v (ev_fieldX rfl rfl rfl rfl rfl rfl (Sl.shp H7) (pos_of ck34))) ?_
              refine r_y rfl ?_
              refine r_le (Value.int .i64 (((r3.1)[(i6_).toNat]!).2.2.2.2.2)) (En := enc_40) ((r3.1)[(i6_).toNat]!) ((i6_).toNat) 6 rfl rfl (rd_own H7 (mem_chunk (Ls := [S6, S16]) (k := 0) rfl rfl)) (get_of ck34) rfl ?_
              refine r_y rfl ?_
              refine r_v (s15) rfl rfl rfl rfl ?_
              refine r_y rfl ?_
              refine r_v (Value.int .i64 (i6_)) rfl rfl rfl rfl ?_
              refine r_y rfl ?_
              replace hM := ck_some hM; obtain ⟨ck35, hM⟩ := hM
              refine r_v (elA s15 ((i6_).toNat * 7)) rfl rfl rfl (ev_v (ev_idxSl rfl rfl rfl (Sl.shp H17) ck35)) ?_
              refine r_y rfl ?_
              refine r_v (elA s15 ((i6_).toNat * 7 + 6)) rfl rfl rfl (ev_v (ev_fieldX rfl rfl rfl rfl rfl rfl (Sl.shp H17) (pos_of ck35))) ?_
              refine r_y rfl ?_
              refine r_le (Value.int .i64 (((r13.1)[(i6_).toNat]!).2.2.2.2.2)) (En := enc_42) ((r13.1)[(i6_).toNat]!) ((i6_).toNat) 6 rfl rfl (rd_own H17 (mem_chunk (Ls := [S6, S16]) (k := 1) rfl rfl)) (get_of ck35) rfl ?_
              refine r_y rfl ?_
              refine r_v (Value.bool (((((r3.1)[(i6_).toNat]!).2.2.2.2.2 : Int) != ((r13.1)[(i6_).toNat]!).2.2.2.2.2))) rfl rfl rfl rfl ?_
              refine r_v (Value.bool (((((r3.1)[(i6_).toNat]!).2.2.2.2.2 : Int) != ((r13.1)[(i6_).toNat]!).2.2.2.2.2))) rfl rfl rfl rfl ?_
              refine lx_nil ?_
              refine hK28 _ _ ?_; try clear hK28 K28
              refine A_gen [(3, s5), (5, s15), (10, Value.int .i64 (i6_)), (91, Value.bool (((((r3.1)[(i6_).toNat]!).2.2.2.2.2 : Int) != ((r13.1)[(i6_).toNat]!).2.2.2.2.2)))] rfl (fun T => ?_)
              refine A_cond (((((r3.1)[(i6_).toNat]!).2.2.2.2.2 : Int) != ((r13.1)[(i6_).toNat]!).2.2.2.2.2)) rfl (fun hc36 => ?_) (fun hc36 => ?_)
              · replace hM := ifp (bne_iff_ne.1 hc36) hM
                refine A_seq fun K37 hK37 => ?_
                refine A_reg ?_
                refine r_v (Value.bool (false)) rfl rfl rfl rfl ?_
                refine lx_nil ?_
                refine hK37 _ _ ?_; try clear hK37 K37
                obtain rfl := Option.some.inj hM
                refine A_ret (fun hn => ends_eq (v0 := Value.bool (false)) rfl (res1 rfl))
              · replace hM := ifn (bne_f hc36) hM
                refine A_skip ?_
                refine hK27 _ _ ?_; try clear hK27 K27
                refine A_reg ?_
                refine r_v (Value.int .i64 (i6_)) rfl rfl rfl rfl ?_
                replace hM := ck_some hM; obtain ⟨ck38, hM⟩ := hM
                refine r_v (Value.int .i64 ((i6_ + 1))) rfl rfl (wi64 rfl ck38.1 ck38.2) rfl ?_
                refine r_v (Value.int .i64 ((i6_ + 1))) rfl rfl rfl rfl ?_
                refine lx_nil ?_
                refine fg _ (Sub.pick [S6, S16] [0, 1] rfl) ?_
                exact ⟨n23 + 1, by omega, n23, (i6_ + 1), hM, is_mk (by first | rfl | (simp only [hg33]; done) | (simp only [hg33]; rfl) | (simp only [app_hl]; rfl)) rfl, rfl⟩
            · replace hM := ifn (Bool.eq_false_iff.1 (not_t hg33)) hM
              refine r_n true rfl (by decide) rfl ?_
              refine r_n true rfl (by decide) rfl ?_
              refine r_n true rfl (by decide) rfl ?_
              refine r_n true rfl (by decide) rfl ?_
              refine r_n true rfl (by decide) rfl ?_
              refine r_n true rfl (by decide) rfl ?_
              refine r_n true rfl (by decide) rfl ?_
              refine r_n true rfl (by decide) rfl ?_
              refine r_n true rfl (by decide) rfl ?_
              refine r_n true rfl (by decide) rfl ?_
              refine r_n true rfl (by decide) rfl ?_
              refine r_v (Value.bool (true)) rfl rfl rfl rfl ?_
              refine lx_nil ?_
              refine hK28 _ _ ?_; try clear hK28 K28
              refine A_gen [(3, s5), (5, s15), (10, Value.int .i64 (i6_)), (91, Value.bool (true))] rfl (fun T => ?_)
              refine A_cond true rfl (fun _ => ?_) (fun h_ => nomatch h_)
              refine A_seq fun K39 hK39 => ?_
              refine A_reg ?_
              refine r_v (Value.bool (false)) rfl rfl rfl rfl ?_
              refine lx_nil ?_
              refine hK39 _ _ ?_; try clear hK39 K39
              obtain rfl := Option.some.inj hM
              refine A_ret (fun hn => ends_eq (v0 := Value.bool (false)) rfl (res1 rfl))
          · replace hM := ifn (of_decide_eq_false hc26) hM
            refine A_exit ?_
            refine hK21 _ _ ?_; try clear hK21 K21
            refine A_seq fun K40 hK40 => ?_
            refine A_reg ?_
            replace hM := bind_sm hM; obtain ⟨r41, hr42, hM⟩ := hM
            refine r_c (Value.bool (r41)) rfl _ _ (ev_callF rfl call_5 rfl) (shunterlaw06_lives_g N  _ hr42) ?_
            refine r_v (Value.bool (r41)) rfl rfl rfl rfl ?_
            refine lx_nil ?_
            refine hK40 _ _ ?_; try clear hK40 K40
            obtain rfl := Option.some.inj hM
            refine A_ret (fun hn => ends_eq (v0 := Value.bool (r41)) rfl (res1 rfl))
end Go.Proofs.Ytmdjifehblijkaa
