/- models of functions and their walks -/
import Derived.Test.YtmdjifehblijkaaDoorBc
namespace Go.Proofs.YtmdjifehblijkaaDoor
open Go Go.RowKit Go.Eng
def shunterlaw06_LexBack_l3 (N : Nat) (r9 : (List (Int × List UInt8 × Int × Int × BitVec 128 × Int)) × Sum25) (r20 : List UInt8) (r29 : (List (Int × List UInt8 × Int × Int × BitVec 128 × Int)) × Sum25) : Nat → Int → Option (Bool)
  | 0, _ => none
  | n39 + 1, i2_ => if (i2_ : Int) < ((r9.1).length : Int) then ck (0 ≤ i2_ ∧ i2_ < ((r29.1).length : Int)) (ck (0 ≤ i2_ ∧ i2_ < ((r9.1).length : Int)) (if (((r29.1)[(i2_).toNat]!).1 : Int) ≠ ((r9.1)[(i2_).toNat]!).1 then some (false) else ck (0 ≤ i2_ ∧ i2_ < ((r29.1).length : Int)) (ck (0 ≤ i2_ ∧ i2_ < ((r9.1).length : Int)) (if (((r29.1)[(i2_).toNat]!).2.1) ≠ (((r9.1)[(i2_).toNat]!).2.1) then some (false) else ck (0 ≤ i2_ ∧ i2_ < ((r29.1).length : Int)) (ck (0 ≤ i2_ ∧ i2_ < ((r9.1).length : Int)) (if (((r29.1)[(i2_).toNat]!).2.2.1 : Int) ≠ ((r9.1)[(i2_).toNat]!).2.2.1 then some (false) else ck (0 ≤ i2_ ∧ i2_ < ((r29.1).length : Int)) (ck (0 ≤ i2_ ∧ i2_ < ((r9.1).length : Int)) (if (((((r29.1)[(i2_).toNat]!).2.2.2.1) == (((r9.1)[(i2_).toNat]!).2.2.2.1)) && ((((r29.1)[(i2_).toNat]!).2.2.2.2.1) == (((r9.1)[(i2_).toNat]!).2.2.2.2.1))) = true then ck ((-9223372036854775808 ≤ (i2_ + 1) ∧ (i2_ + 1) ≤ 9223372036854775807)) ((shunterlaw06_LexBack_l3 N r9 r20 r29 n39) ((i2_ + 1))) else some (false))))))))) else (lex_Join_m N r29.1).bind fun r63 => if (r63) = (r20) then (shunterlaw06_lives_m N ).bind fun r66 => some (r66) else some (false)
def shunterlaw06_LexBack_k1 (N : Nat) (r9 : (List (Int × List UInt8 × Int × Int × BitVec 128 × Int)) × Sum25) (r20 : List UInt8) (r29 : (List (Int × List UInt8 × Int × Int × BitVec 128 × Int)) × Sum25) : Option (Bool) := shunterlaw06_LexBack_l3 N r9 r20 r29 N (0)
def shunterlaw06_LexBack_m (N : Nat) (s : List UInt8) : Option (Bool) := if (((s).length : Int) : Int) > 1500 then (shunterlaw06_lives_m N ).bind fun r6 => some (r6) else (lex_Scan_m N s).bind fun r9 => Sum25.on r9.2 ((lex_Join_m N r9.1).bind fun r20 => if (((r20).length : Int) : Int) > 16384 then (shunterlaw06_lives_m N ).bind fun r26 => some (r26) else (lex_Scan_m N r20).bind fun r29 => Sum25.on r29.2 (if (((r29.1).length : Int) : Int) ≠ ((r9.1).length : Int) then some (false) else shunterlaw06_LexBack_k1 N r9 r20 r29 ) (fun x35_0 x36_1 => some (false))) (fun x15_0 x16_1 => if (((r9.1).length : Int) : Int) = 0 then (shunterlaw06_lives_m N ).bind fun r22 => some (r22) else some (false))
set_option maxRecDepth 100000 in
set_option maxHeartbeats 8000000 in
theorem shunterlaw06_LexBack_g (N : Nat) (s : List UInt8) (r : Bool) (hM : shunterlaw06_LexBack_m N s = some r) (ro : Addr → Option Value)  : DoesI Tryd.prog 5 #[Value.string (⟨(s).toArray⟩)] MemI ro [] (pV (Value.bool (r))) := by
  unfold shunterlaw06_LexBack_m at hM
  refine doesI_of_A follows Tryd.func5 rfl 109 rfl (upd (fun _ => undef) 0 (Value.string (⟨(s).toArray⟩))) (by funext k; match k with | 0 => rfl | k + 1 => rfl) memI_kept (fun base0_ => ?_)
  refine A_seq fun K1 hK1 => ?_
  refine A_reg ?_
  refine r_v (Value.bool (false)) rfl rfl rfl rfl ?_
  refine lx_nil ?_
  refine hK1 _ _ ?_; try clear hK1 K1
  refine A_seq fun K2 hK2 => ?_
  refine A_seq fun K3 hK3 => ?_
  refine A_reg ?_
  refine r_v (Value.string (⟨(s).toArray⟩)) rfl rfl rfl rfl ?_
  refine r_v (Value.int .i64 (((s).length : Int))) rfl rfl rfl (ev_lenS rfl rfl rfl) ?_
  refine r_v (Value.bool (decide ((((s).length : Int) : Int) > 1500))) rfl rfl rfl rfl ?_
  refine lx_nil ?_
  refine hK3 _ _ ?_; try clear hK3 K3
  refine A_cond (decide ((((s).length : Int) : Int) > 1500)) rfl (fun hc4 => ?_) (fun hc4 => ?_)
  · replace hM := ifp (of_decide_eq_true hc4) hM
    refine A_seq fun K5 hK5 => ?_
    refine A_reg ?_
    replace hM := bind_sm hM; obtain ⟨r6, hr7, hM⟩ := hM
    refine r_c (Value.bool (r6)) rfl _ _ (ev_callF rfl call_6 rfl) (shunterlaw06_lives_g N  _ hr7) ?_
    refine r_v (Value.bool (r6)) rfl rfl rfl rfl ?_
    refine lx_nil ?_
    refine hK5 _ _ ?_; try clear hK5 K5
    obtain rfl := Option.some.inj hM
    refine A_ret (fun hn => endsV (v0 := Value.bool (r6)) rfl (res1 rfl))
  · replace hM := ifn (of_decide_eq_false hc4) hM
    refine A_skip ?_
    refine hK2 _ _ ?_; try clear hK2 K2
    refine A_seq fun K8 hK8 => ?_
    refine A_regC [(some 15, true)] (conG Tryd.prog [(15, fun v_ L_ U_ => ∀ u0_, lex_Scan_m N s = some u0_ → (pO (List.flatten []) (oS 47 enc_47 u0_.1 fun s_0 => (Sum25.onP u0_.2 (oE (Value.tuple #[s_0, Value.nilIface]) []) (fun y0_0 y0_1 => (oB 36 #[Value.int .i64 (y0_0), Value.int .i64 (y0_1)] fun bs_0 => (oE (Value.tuple #[s_0, Value.iface 31 (Value.pointer (some ⟨bs_0, 0, none⟩))]) [])))))) v_ L_ U_)]) ?_
    refine r_v (Value.string (⟨(s).toArray⟩)) rfl rfl rfl rfl ?_
    replace hM := bind_sm hM; obtain ⟨r9, hr10, hM⟩ := hM
    refine r_gm (Ls := []) (FL := []) (RL := []) [] (oS 47 enc_47 r9.1 fun s_0 => (Sum25.onP r9.2 (oE (Value.tuple #[s_0, Value.nilIface]) []) (fun y0_0 y0_1 => (oB 36 #[Value.int .i64 (y0_0), Value.int .i64 (y0_1)] fun bs_0 => (oE (Value.tuple #[s_0, Value.iface 31 (Value.pointer (some ⟨bs_0, 0, none⟩))]) []))))) (some 15) 7 _ rfl rfl rfl rfl rfl (ev_callF rfl call_7 rfl) (fun own_ nw_ hn_ hs_ => (Does.inv (lex_Scan_g N s _ hr10 _ ) _)) (fun _ _ v_ L_ U_ => ⟨fun h_ => h_ _ hr10, fun h_ => by intro _ e_; cases Option.some.inj (e_.symm.trans hr10); exact h_⟩) (fun h_ => nomatch h_) ?_
    rintro _ _ ⟨s11, S12, _, H13, hp_, rfl⟩
    rcases Sum25.cases r9.2 with hx14 | ⟨x15_0, x16_1, hx14⟩
    · obtain ⟨rfl, rfl⟩ := Sum25.onP_nil hx14 hp_
      replace hM := Sum25.on_nil hx14 hM
      refine lx_perm (Ls := [S12]) (Ls' := [S12]) [0] rfl rfl ?_
      refine r_v (Value.tuple #[s11, Value.nilIface]) rfl rfl rfl rfl ?_
      refine r_v (s11) rfl rfl rfl rfl ?_
      refine r_v (Value.nilIface) rfl rfl rfl rfl ?_
      refine r_v (s11) rfl rfl rfl rfl ?_
      refine r_v (Value.nilIface) rfl rfl rfl rfl ?_
      refine lx_nil ?_
      refine hK8 _ _ ?_; try clear hK8 K8
      refine A_seq fun K17 hK17 => ?_
      refine A_seq fun K18 hK18 => ?_
      refine A_reg ?_
      refine r_v (Value.nilIface) rfl rfl rfl rfl ?_
      refine r_v (Value.bool (false)) rfl rfl rfl rfl ?_
      refine lx_nil ?_
      refine hK18 _ _ ?_; try clear hK18 K18
      refine A_cond false rfl (fun h_ => nomatch h_) (fun _ => ?_)
      refine A_skip ?_
      refine hK17 _ _ ?_; try clear hK17 K17
      refine A_seq fun K19 hK19 => ?_
      refine A_regC [(some 27, false)] (conG Tryd.prog [(27, fun v_ L_ U_ => ∀ u0_, lex_Join_m N r9.1 = some u0_ → (pV (Value.string (⟨(u0_).toArray⟩))) v_ L_ U_)]) ?_
      refine r_v (s11) rfl rfl rfl rfl ?_
      replace hM := bind_sm hM; obtain ⟨r20, hr21, hM⟩ := hM
      refine r_gv (Value.string (⟨(r20).toArray⟩)) 14 _ rfl rfl rfl (ev_callF rfl call_14 rfl) (fun own_ nw_ hs_ => lex_Join_g N r9.1 _ hr21 hs_.view s11 ((rd_own H13 (mem_chunk (Ls := [S12]) (k := 0) rfl rfl)) own_ nw_ hs_)) (fun _ _ v_ L_ U_ => ⟨fun h_ => h_ _ hr21, fun h_ => by intro _ e_; cases Option.some.inj (e_.symm.trans hr21); exact h_⟩) ?_
      refine r_v (Value.string (⟨(r20).toArray⟩)) rfl rfl rfl rfl ?_
      refine lx_nil ?_
      refine hK19 _ _ ?_; try clear hK19 K19
      refine A_seq fun K22 hK22 => ?_
      refine A_seq fun K23 hK23 => ?_
      refine A_reg ?_
      refine r_v (Value.string (⟨(r20).toArray⟩)) rfl rfl rfl rfl ?_
      refine r_v (Value.int .i64 (((r20).length : Int))) rfl rfl rfl (ev_lenS rfl rfl rfl) ?_
      refine r_v (Value.bool (decide ((((r20).length : Int) : Int) > 16384))) rfl rfl rfl rfl ?_
      refine lx_nil ?_
      refine hK23 _ _ ?_; try clear hK23 K23
      refine A_cond (decide ((((r20).length : Int) : Int) > 16384)) rfl (fun hc24 => ?_) (fun hc24 => ?_)
      · replace hM := ifp (of_decide_eq_true hc24) hM
        refine A_seq fun K25 hK25 => ?_
        refine A_reg ?_
        replace hM := bind_sm hM; obtain ⟨r26, hr27, hM⟩ := hM
        refine r_c (Value.bool (r26)) rfl _ _ (ev_callF rfl call_6 rfl) (shunterlaw06_lives_g N  _ hr27) ?_
        refine r_v (Value.bool (r26)) rfl rfl rfl rfl ?_
        refine lx_nil ?_
        refine hK25 _ _ ?_; try clear hK25 K25
        obtain rfl := Option.some.inj hM
        refine A_ret (fun hn => endsV (v0 := Value.bool (r26)) rfl (res1 rfl))
      · replace hM := ifn (of_decide_eq_false hc24) hM
        refine A_skip ?_
        refine hK22 _ _ ?_; try clear hK22 K22
        refine A_seq fun K28 hK28 => ?_
        refine A_regC [(some 34, true)] (conG Tryd.prog [(34, fun v_ L_ U_ => ∀ u0_, lex_Scan_m N r20 = some u0_ → (pO (List.flatten []) (oS 47 enc_47 u0_.1 fun s_0 => (Sum25.onP u0_.2 (oE (Value.tuple #[s_0, Value.nilIface]) []) (fun y0_0 y0_1 => (oB 36 #[Value.int .i64 (y0_0), Value.int .i64 (y0_1)] fun bs_0 => (oE (Value.tuple #[s_0, Value.iface 31 (Value.pointer (some ⟨bs_0, 0, none⟩))]) [])))))) v_ L_ U_)]) ?_
        refine r_v (Value.string (⟨(r20).toArray⟩)) rfl rfl rfl rfl ?_
        replace hM := bind_sm hM; obtain ⟨r29, hr30, hM⟩ := hM
        refine r_gm (Ls := [S12]) (FL := []) (RL := [S12]) [] (oS 47 enc_47 r29.1 fun s_0 => (Sum25.onP r29.2 (oE (Value.tuple #[s_0, Value.nilIface]) []) (fun y0_0 y0_1 => (oB 36 #[Value.int .i64 (y0_0), Value.int .i64 (y0_1)] fun bs_0 => (oE (Value.tuple #[s_0, Value.iface 31 (Value.pointer (some ⟨bs_0, 0, none⟩))]) []))))) (some 34) 7 _ rfl rfl rfl rfl rfl (ev_callF rfl call_7 rfl) (fun own_ nw_ hn_ hs_ => (Does.inv (lex_Scan_g N r20 _ hr30 _ ) _)) (fun _ _ v_ L_ U_ => ⟨fun h_ => h_ _ hr30, fun h_ => by intro _ e_; cases Option.some.inj (e_.symm.trans hr30); exact h_⟩) (fun h_ => nomatch h_) ?_
        rintro _ _ ⟨s31, S32, _, H33, hp_, rfl⟩
        rcases Sum25.cases r29.2 with hx34 | ⟨x35_0, x36_1, hx34⟩
        · obtain ⟨rfl, rfl⟩ := Sum25.onP_nil hx34 hp_
          replace hM := Sum25.on_nil hx34 hM
          refine lx_perm (Ls := [S12, S32]) (Ls' := [S12, S32]) [0, 1] rfl rfl ?_
          refine r_v (Value.tuple #[s31, Value.nilIface]) rfl rfl rfl rfl ?_
          refine r_v (s31) rfl rfl rfl rfl ?_
          refine r_v (Value.nilIface) rfl rfl rfl rfl ?_
          refine r_v (s31) rfl rfl rfl rfl ?_
          refine r_v (Value.nilIface) rfl rfl rfl rfl ?_
          refine lx_nil ?_
          refine hK28 _ _ ?_; try clear hK28 K28
          refine A_cut (fun tt ll => (shunterlaw06_LexBack_k1 N r9 r20 r29  = some r) ∧ Is [(3, s11), (5, Value.string (⟨(r20).toArray⟩)), (6, s31)] (List.flatten [S12, S32]) tt ll) ?_ ?_
          · refine A_seq fun K68 hK68 => ?_
            refine A_reg ?_
            refine r_v (Value.nilIface) rfl rfl rfl rfl ?_
            refine r_v (Value.bool (false)) rfl rfl rfl rfl ?_
            refine r_v (Value.bool (false)) rfl rfl rfl rfl ?_
            refine r_y rfl ?_
            refine r_v (s31) rfl rfl rfl rfl ?_
            refine r_y rfl ?_
            refine r_v (Value.int .i64 (((r29.1).length : Int))) rfl rfl rfl (ev_lenSl rfl rfl rfl (Sl.shp H33)) ?_
            refine r_y rfl ?_
            refine r_v (s11) rfl rfl rfl rfl ?_
            refine r_y rfl ?_
            refine r_v (Value.int .i64 (((r9.1).length : Int))) rfl rfl rfl (ev_lenSl rfl rfl rfl (Sl.shp H13)) ?_
            refine r_y rfl ?_
            refine r_v (Value.bool (((((r29.1).length : Int) : Int) != ((r9.1).length : Int)))) rfl rfl rfl rfl ?_
            refine r_v (Value.bool (((((r29.1).length : Int) : Int) != ((r9.1).length : Int)))) rfl rfl rfl rfl ?_
            refine lx_nil ?_
            refine hK68 _ _ ?_; try clear hK68 K68
            refine A_gen [(3, s11), (5, Value.string (⟨(r20).toArray⟩)), (6, s31), (45, Value.bool (((((r29.1).length : Int) : Int) != ((r9.1).length : Int))))] rfl (fun T => ?_)
            refine A_cond (((((r29.1).length : Int) : Int) != ((r9.1).length : Int))) rfl (fun hc69 => ?_) (fun hc69 => ?_)
            · replace hM := ifp (bne_iff_ne.1 hc69) hM
              refine A_seq fun K70 hK70 => ?_
              refine A_reg ?_
              refine r_v (Value.bool (false)) rfl rfl rfl rfl ?_
              refine lx_nil ?_
              refine hK70 _ _ ?_; try clear hK70 K70
              obtain rfl := Option.some.inj hM
              refine A_ret (fun hn => endsV (v0 := Value.bool (false)) rfl (res1 rfl))
            · replace hM := ifn (bne_f hc69) hM
              refine A_skip ?_
              refine fg _ (Sub.pick [S12, S32] [0, 1] rfl) ?_
              exact ⟨hM, is_mk rfl rfl⟩
          · clear hM; rintro t l ⟨hM, ⟨T, rfl⟩, rfl⟩
            unfold shunterlaw06_LexBack_k1 at hM
            refine A_seq fun K37 hK37 => ?_
            refine A_seq fun K38 hK38 => ?_
            refine A_reg ?_
            refine r_v (Value.int .i64 (0)) rfl rfl rfl rfl ?_
            refine lx_nil ?_
            refine hK38 _ _ ?_; try clear hK38 K38
            refine A_block ?_
            refine A_forget _ (Sub.pick [S12, S32] [0, 1] rfl) ?_
            refine A_loop (fun tt ll nn => ∃ (n39 : Nat) (i2_ : Int), (shunterlaw06_LexBack_l3 N r9 r20 r29 n39 i2_ = some r) ∧ Is [(3, s11), (5, Value.string (⟨(r20).toArray⟩)), (6, s31), (8, Value.int .i64 (i2_))] (List.flatten [S12, S32]) tt ll ∧ nn = n39 + 1) (N + 1) ?_ ?_
            · exact ⟨N, 0, hM, is_mk rfl rfl, rfl⟩
            · clear hM; rintro t l _ ⟨n39, i2_, hM, ⟨⟨T, rfl⟩, rfl⟩, rfl⟩
              rcases n39 with _ | n39
              · exact absurd hM (by simp [shunterlaw06_LexBack_l3])
              rw [shunterlaw06_LexBack_l3] at hM
              refine A_seq fun K40 hK40 => ?_
              refine A_seq fun K41 hK41 => ?_
              refine A_reg ?_
              refine r_v (Value.int .i64 (i2_)) rfl rfl rfl rfl ?_
              refine r_v (s11) rfl rfl rfl rfl ?_
              refine r_v (Value.int .i64 (((r9.1).length : Int))) rfl rfl rfl (ev_lenSl rfl rfl rfl (Sl.shp H13)) ?_
              refine r_v (Value.bool (decide ((i2_ : Int) < ((r9.1).length : Int)))) rfl rfl rfl rfl ?_
              refine lx_nil ?_
              refine hK41 _ _ ?_; try clear hK41 K41
              refine A_cond (decide ((i2_ : Int) < ((r9.1).length : Int))) rfl (fun hc42 => ?_) (fun hc42 => ?_)
              · replace hM := ifp (of_decide_eq_true hc42) hM
                refine A_skip ?_
                refine hK40 _ _ ?_; try clear hK40 K40
                refine A_seq fun K43 hK43 => ?_
                refine A_block ?_
                refine A_seq fun K44 hK44 => ?_
                refine A_draw [] (by decide +kernel) (fun hn => sep_nil) ?_
                refine r_v (s31) rfl rfl rfl rfl ?_
                refine r_v (Value.int .i64 (i2_)) rfl rfl rfl rfl ?_
                replace hM := ck_some hM; obtain ⟨ck45, hM⟩ := hM
                refine r_v (elA s31 ((i2_).toNat * 7)) rfl rfl rfl (ev_v (ev_idxSl rfl rfl rfl (Sl.shp H33) ck45)) ?_
                refine r_v (elA s31 ((i2_).toNat * 7 + 0)) rfl rfl rfl (ev_v (ev_fieldX rfl rfl rfl rfl rfl rfl (Sl.shp H33) (pos_of ck45))) ?_
                refine r_le (Value.int .i64 (((r29.1)[(i2_).toNat]!).1)) (En := enc_47) ((r29.1)[(i2_).toNat]!) ((i2_).toNat) 0 rfl rfl (rd_own H33 (mem_chunk (Ls := [S12, S32]) (k := 1) rfl rfl)) (get_of ck45) rfl ?_
                refine r_v (s11) rfl rfl rfl rfl ?_
                refine r_v (Value.int .i64 (i2_)) rfl rfl rfl rfl ?_
                replace hM := ck_some hM; obtain ⟨ck46, hM⟩ := hM
                refine r_v (elA s11 ((i2_).toNat * 7)) rfl rfl rfl (ev_v (ev_idxSl rfl rfl rfl (Sl.shp H13) ck46)) ?_
                refine r_v (elA s11 ((i2_).toNat * 7 + 0)) rfl rfl rfl (ev_v (ev_fieldX rfl rfl rfl rfl rfl rfl (Sl.shp H13) (pos_of ck46))) ?_
                refine r_le (Value.int .i64 (((r9.1)[(i2_).toNat]!).1)) (En := enc_47) ((r9.1)[(i2_).toNat]!) ((i2_).toNat) 0 rfl rfl (rd_own H13 (mem_chunk (Ls := [S12, S32]) (k := 0) rfl rfl)) (get_of ck46) rfl ?_
                refine r_v (Value.bool (((((r29.1)[(i2_).toNat]!).1 : Int) != ((r9.1)[(i2_).toNat]!).1))) rfl rfl rfl rfl ?_
                refine r_v (Value.bool (((((r29.1)[(i2_).toNat]!).1 : Int) != ((r9.1)[(i2_).toNat]!).1))) rfl rfl rfl rfl ?_
                rcases hg47 : (((((r29.1)[(i2_).toNat]!).1 : Int) != ((r9.1)[(i2_).toNat]!).1)) with _ | _
                · replace hM := ifn (bne_f hg47) hM
                  refine r_y rfl ?_
                  refine r_v (s31) rfl rfl rfl rfl ?_
                  refine r_y rfl ?_
                  refine r_v (Value.int .i64 (i2_)) rfl rfl rfl rfl ?_
                  refine r_y rfl ?_
                  replace hM := ck_some hM; obtain ⟨ck48, hM⟩ := hM
                  refine r_v (elA s31 ((i2_).toNat * 7)) rfl rfl rfl (ev_v (ev_idxSl rfl rfl rfl (Sl.shp H33) ck48)) ?_
                  refine r_y rfl ?_
                  refine r_v (elA s31 ((i2_).toNat * 7 + 1)) rfl rfl rfl (ev_v (ev_fieldX rfl rfl rfl rfl rfl rfl (Sl.shp H33) (pos_of ck48))) ?_
                  refine r_y rfl ?_
                  refine r_le (Value.string (⟨(((r29.1)[(i2_).toNat]!).2.1).toArray⟩)) (En := enc_47) ((r29.1)[(i2_).toNat]!) ((i2_).toNat) 1 rfl rfl (rd_own H33 (mem_chunk (Ls := [S12, S32]) (k := 1) rfl rfl)) (get_of ck48) rfl ?_
                  refine r_y rfl ?_
                  refine r_v (s11) rfl rfl rfl rfl ?_
                  refine r_y rfl ?_
                  refine r_v (Value.int .i64 (i2_)) rfl rfl rfl rfl ?_
                  refine r_y rfl ?_
                  replace hM := ck_some hM; obtain ⟨ck49, hM⟩ := hM
                  refine r_v (elA s11 ((i2_).toNat * 7)) rfl rfl rfl (ev_v (ev_idxSl rfl rfl rfl (Sl.shp H13) ck49)) ?_
                  refine r_y rfl ?_
                  refine r_v (elA s11 ((i2_).toNat * 7 + 1)) rfl rfl rfl (ev_v (ev_fieldX rfl rfl rfl rfl rfl rfl (Sl.shp H13) (pos_of ck49))) ?_
                  refine r_y rfl ?_
                  refine r_le (Value.string (⟨(((r9.1)[(i2_).toNat]!).2.1).toArray⟩)) (En := enc_47) ((r9.1)[(i2_).toNat]!) ((i2_).toNat) 1 rfl rfl (rd_own H13 (mem_chunk (Ls := [S12, S32]) (k := 0) rfl rfl)) (get_of ck49) rfl ?_
                  refine r_y rfl ?_
                  refine r_v (Value.bool ((((r29.1)[(i2_).toNat]!).2.1) != (((r9.1)[(i2_).toNat]!).2.1))) rfl rfl rfl (ev_neS rfl rfl) ?_
                  refine r_v (Value.bool ((((r29.1)[(i2_).toNat]!).2.1) != (((r9.1)[(i2_).toNat]!).2.1))) rfl rfl rfl rfl ?_
                  refine r_v (Value.bool ((((r29.1)[(i2_).toNat]!).2.1) != (((r9.1)[(i2_).toNat]!).2.1))) rfl rfl rfl rfl ?_
                  rcases hg50 : ((((r29.1)[(i2_).toNat]!).2.1) != (((r9.1)[(i2_).toNat]!).2.1)) with _ | _
                  · replace hM := ifn (bne_f hg50) hM
                    refine r_y rfl ?_
                    refine r_v (s31) rfl rfl rfl rfl ?_
                    refine r_y rfl ?_
                    refine r_v (Value.int .i64 (i2_)) rfl rfl rfl rfl ?_
                    refine r_y rfl ?_
                    replace hM := ck_some hM; obtain ⟨ck51, hM⟩ := hM
                    refine r_v (elA s31 ((i2_).toNat * 7)) rfl rfl rfl (ev_v (ev_idxSl rfl rfl rfl (Sl.shp H33) ck51)) ?_
                    refine r_y rfl ?_
                    refine r_v (elA s31 ((i2_).toNat * 7 + 2)) rfl rfl rfl (ev_v (ev_fieldX rfl rfl rfl rfl rfl rfl (Sl.shp H33) (pos_of ck51))) ?_
                    refine r_y rfl ?_
                    refine r_le (Value.int .i64 (((r29.1)[(i2_).toNat]!).2.2.1)) (En := enc_47) ((r29.1)[(i2_).toNat]!) ((i2_).toNat) 2 rfl rfl (rd_own H33 (mem_chunk (Ls := [S12, S32]) (k := 1) rfl rfl)) (get_of ck51) rfl ?_
                    refine r_y rfl ?_
                    refine r_v (s11) rfl rfl rfl rfl ?_
                    refine r_y rfl ?_
                    refine r_v (Value.int .i64 (i2_)) rfl rfl rfl rfl ?_
                    refine r_y rfl ?_
                    replace hM := ck_some hM; obtain ⟨ck52, hM⟩ := hM
                    refine r_v (elA s11 ((i2_).toNat * 7)) rfl rfl rfl (ev_v (ev_idxSl rfl rfl rfl (Sl.shp H13) ck52)) ?_
                    refine r_y rfl ?_
                    refine r_v (elA s11 ((i2_).toNat * 7 + 2)) rfl rfl rfl (ev_v (ev_fieldX rfl rfl rfl rfl rfl rfl (Sl.shp H13) (pos_of ck52))) ?_
                    refine r_y rfl ?_
                    refine r_le (Value.int .i64 (((r9.1)[(i2_).toNat]!).2.2.1)) (En := enc_47) ((r9.1)[(i2_).toNat]!) ((i2_).toNat) 2 rfl rfl (rd_own H13 (mem_chunk (Ls := [S12, S32]) (k := 0) rfl rfl)) (get_of ck52) rfl ?_
                    refine r_y rfl ?_
                    refine r_v (Value.bool (((((r29.1)[(i2_).toNat]!).2.2.1 : Int) != ((r9.1)[(i2_).toNat]!).2.2.1))) rfl rfl rfl rfl ?_
                    refine r_v (Value.bool (((((r29.1)[(i2_).toNat]!).2.2.1 : Int) != ((r9.1)[(i2_).toNat]!).2.2.1))) rfl rfl rfl rfl ?_
                    refine r_v (Value.bool (((((r29.1)[(i2_).toNat]!).2.2.1 : Int) != ((r9.1)[(i2_).toNat]!).2.2.1))) rfl rfl rfl rfl ?_
                    rcases hg53 : (((((r29.1)[(i2_).toNat]!).2.2.1 : Int) != ((r9.1)[(i2_).toNat]!).2.2.1)) with _ | _
                    · replace hM := ifn (bne_f hg53) hM
                      refine r_y rfl ?_
                      refine r_v (s31) rfl rfl rfl rfl ?_
                      refine r_y rfl ?_
                      refine r_v (Value.int .i64 (i2_)) rfl rfl rfl rfl ?_
                      refine r_y rfl ?_
                      replace hM := ck_some hM; obtain ⟨ck54, hM⟩ := hM
                      refine r_v (elA s31 ((i2_).toNat * 7)) rfl rfl rfl (ev_v (ev_idxSl rfl rfl rfl (Sl.shp H33) ck54)) ?_
                      refine r_y rfl ?_
                      refine r_v (elA s31 ((i2_).toNat * 7 + 3)) rfl rfl rfl (ev_v (ev_fieldX rfl rfl rfl rfl rfl rfl (Sl.shp H33) (pos_of ck54))) ?_
                      refine r_y rfl ?_
                      refine r_le (Value.agg #[Value.int .i64 (((r29.1)[(i2_).toNat]!).2.2.2.1), U (hi (((r29.1)[(i2_).toNat]!).2.2.2.2.1)), U (lo (((r29.1)[(i2_).toNat]!).2.2.2.2.1))]) (En := enc_47) ((r29.1)[(i2_).toNat]!) ((i2_).toNat) 3 rfl rfl (rd_own H33 (mem_chunk (Ls := [S12, S32]) (k := 1) rfl rfl)) (get_of ck54) rfl ?_
                      refine r_y rfl ?_
                      refine r_v (s11) rfl rfl rfl rfl ?_
                      refine r_y rfl ?_
                      refine r_v (Value.int .i64 (i2_)) rfl rfl rfl rfl ?_
                      refine r_y rfl ?_
                      replace hM := ck_some hM; obtain ⟨ck55, hM⟩ := hM
                      refine r_v (elA s11 ((i2_).toNat * 7)) rfl rfl rfl (ev_v (ev_idxSl rfl rfl rfl (Sl.shp H13) ck55)) ?_
                      refine r_y rfl ?_
                      refine r_v (elA s11 ((i2_).toNat * 7 + 3)) rfl rfl rfl (ev_v (ev_fieldX rfl rfl rfl rfl rfl rfl (Sl.shp H13) (pos_of ck55))) ?_
                      refine r_y rfl ?_
                      refine r_le (Value.agg #[Value.int .i64 (((r9.1)[(i2_).toNat]!).2.2.2.1), U (hi (((r9.1)[(i2_).toNat]!).2.2.2.2.1)), U (lo (((r9.1)[(i2_).toNat]!).2.2.2.2.1))]) (En := enc_47) ((r9.1)[(i2_).toNat]!) ((i2_).toNat) 3 rfl rfl (rd_own H13 (mem_chunk (Ls := [S12, S32]) (k := 0) rfl rfl)) (get_of ck55) rfl ?_
                      refine r_y rfl ?_
                      refine r_v (Value.bool (!(((((r29.1)[(i2_).toNat]!).2.2.2.1) == (((r9.1)[(i2_).toNat]!).2.2.2.1)) && ((((r29.1)[(i2_).toNat]!).2.2.2.2.1) == (((r9.1)[(i2_).toNat]!).2.2.2.2.1))))) rfl rfl rfl (ev_binNe rfl rfl eg_42 (eqst_42 (((r29.1)[(i2_).toNat]!).2.2.2.1) (((r9.1)[(i2_).toNat]!).2.2.2.1) (((r29.1)[(i2_).toNat]!).2.2.2.2.1) (((r9.1)[(i2_).toNat]!).2.2.2.2.1))) ?_
                      refine r_v (Value.bool (!(((((r29.1)[(i2_).toNat]!).2.2.2.1) == (((r9.1)[(i2_).toNat]!).2.2.2.1)) && ((((r29.1)[(i2_).toNat]!).2.2.2.2.1) == (((r9.1)[(i2_).toNat]!).2.2.2.2.1))))) rfl rfl rfl rfl ?_
                      refine lx_nil ?_
                      refine hK44 _ _ ?_; try clear hK44 K44
                      refine A_gen [(3, s11), (5, Value.string (⟨(r20).toArray⟩)), (6, s31), (8, Value.int .i64 (i2_)), (101, Value.bool (!(((((r29.1)[(i2_).toNat]!).2.2.2.1) == (((r9.1)[(i2_).toNat]!).2.2.2.1)) && ((((r29.1)[(i2_).toNat]!).2.2.2.2.1) == (((r9.1)[(i2_).toNat]!).2.2.2.2.1)))))] rfl (fun T => ?_)
                      refine A_cond (!(((((r29.1)[(i2_).toNat]!).2.2.2.1) == (((r9.1)[(i2_).toNat]!).2.2.2.1)) && ((((r29.1)[(i2_).toNat]!).2.2.2.2.1) == (((r9.1)[(i2_).toNat]!).2.2.2.2.1)))) rfl (fun hc56 => ?_) (fun hc56 => ?_)
                      · replace hM := ifn (Bool.eq_false_iff.1 (not_t hc56)) hM
                        refine A_seq fun K57 hK57 => ?_
                        refine A_reg ?_
                        refine r_v (Value.bool (false)) rfl rfl rfl rfl ?_
                        refine lx_nil ?_
                        refine hK57 _ _ ?_; try clear hK57 K57
                        obtain rfl := Option.some.inj hM
                        refine A_ret (fun hn => endsV (v0 := Value.bool (false)) rfl (res1 rfl))
                      · replace hM := ifp (not_f hc56) hM
                        refine A_skip ?_
                        refine hK43 _ _ ?_; try clear hK43 K43
                        refine A_reg ?_
                        refine r_v (Value.int .i64 (i2_)) rfl rfl rfl rfl ?_
                        replace hM := ck_some hM; obtain ⟨ck58, hM⟩ := hM
                        refine r_v (Value.int .i64 ((i2_ + 1))) rfl rfl (wi64 rfl ck58.1 ck58.2) rfl ?_
                        refine r_v (Value.int .i64 ((i2_ + 1))) rfl rfl rfl rfl ?_
                        refine lx_nil ?_
                        refine fg _ (Sub.pick [S12, S32] [0, 1] rfl) ?_
                        exact ⟨n39 + 1, by omega, n39, (i2_ + 1), hM, is_mk (by first | rfl | (simp only [hg47, hg50, hg53]; done) | (simp only [hg47, hg50, hg53]; rfl) | (simp only [app_hl]; rfl)) rfl, rfl⟩
                    · replace hM := ifp (bne_iff_ne.1 hg53) hM
                      refine r_n true rfl (by decide) rfl ?_
                      refine r_n true rfl (by decide) rfl ?_
                      refine r_n true rfl (by decide) rfl ?_
                      refine r_n true rfl (by decide) rfl ?_
                      refine r_n true rfl (by decide) rfl ?_
                      refine r_n true rfl (by decide) rfl ?_
                      refine r_n true rfl (by decide) rfl ?_
                      refine r_n true rfl (by decide) rfl ?_
                      refine r_n true rfl (by decide) rfl ?_
                      refine r_n true rfl (by decide) rfl ?_
                      refine r_n true rfl (by decide) rfl ?_
                      refine r_v (Value.bool (true)) rfl rfl rfl rfl ?_
                      refine lx_nil ?_
                      refine hK44 _ _ ?_; try clear hK44 K44
                      refine A_gen [(3, s11), (5, Value.string (⟨(r20).toArray⟩)), (6, s31), (8, Value.int .i64 (i2_)), (101, Value.bool (true))] rfl (fun T => ?_)
                      refine A_cond true rfl (fun _ => ?_) (fun h_ => nomatch h_)
                      refine A_seq fun K59 hK59 => ?_
                      refine A_reg ?_
                      refine r_v (Value.bool (false)) rfl rfl rfl rfl ?_
                      refine lx_nil ?_
                      refine hK59 _ _ ?_; try clear hK59 K59
                      obtain rfl := Option.some.inj hM
                      refine A_ret (fun hn => endsV (v0 := Value.bool (false)) rfl (res1 rfl))
                  · replace hM := ifp (bne_iff_ne.1 hg50) hM
                    refine r_n true rfl (by decide) rfl ?_
                    refine r_n true rfl (by decide) rfl ?_
                    refine r_n true rfl (by decide) rfl ?_
                    refine r_n true rfl (by decide) rfl ?_
                    refine r_n true rfl (by decide) rfl ?_
                    refine r_n true rfl (by decide) rfl ?_
                    refine r_n true rfl (by decide) rfl ?_
                    refine r_n true rfl (by decide) rfl ?_
                    refine r_n true rfl (by decide) rfl ?_
                    refine r_n true rfl (by decide) rfl ?_
                    refine r_n true rfl (by decide) rfl ?_
                    refine r_v (Value.bool (true)) rfl rfl rfl rfl ?_
                    refine r_v (Value.bool (true)) rfl rfl rfl rfl ?_
                    refine r_n true rfl (by decide) rfl ?_
                    refine r_n true rfl (by decide) rfl ?_
                    refine r_n true rfl (by decide) rfl ?_
                    refine r_n true rfl (by decide) rfl ?_
                    refine r_n true rfl (by decide) rfl ?_
                    refine r_n true rfl (by decide) rfl ?_
                    refine r_n true rfl (by decide) rfl ?_
                    refine r_n true rfl (by decide) rfl ?_
                    refine r_n true rfl (by decide) rfl ?_
                    refine r_n true rfl (by decide) rfl ?_
                    refine r_n true rfl (by decide) rfl ?_
                    refine r_v (Value.bool (true)) rfl rfl rfl rfl ?_
                    refine lx_nil ?_
                    refine hK44 _ _ ?_; try clear hK44 K44
                    refine A_gen [(3, s11), (5, Value.string (⟨(r20).toArray⟩)), (6, s31), (8, Value.int .i64 (i2_)), (101, Value.bool (true))] rfl (fun T => ?_)
                    refine A_cond true rfl (fun _ => ?_) (fun h_ => nomatch h_)
                    refine A_seq fun K60 hK60 => ?_
                    refine A_reg ?_
                    refine r_v (Value.bool (false)) rfl rfl rfl rfl ?_
                    refine lx_nil ?_
                    refine hK60 _ _ ?_; try clear hK60 K60
                    obtain rfl := Option.some.inj hM
                    refine A_ret (fun hn => endsV (v0 := Value.bool (false)) rfl (res1 rfl))
                · replace hM := ifp (bne_iff_ne.1 hg47) hM
                  refine r_n true rfl (by decide) rfl ?_
                  refine r_n true rfl (by decide) rfl ?_
                  refine r_n true rfl (by decide) rfl ?_
                  refine r_n true rfl (by decide) rfl ?_
                  refine r_n true rfl (by decide) rfl ?_
                  refine r_n true rfl (by decide) rfl ?_
                  refine r_n true rfl (by decide) rfl ?_
                  refine r_n true rfl (by decide) rfl ?_
                  refine r_n true rfl (by decide) rfl ?_
                  refine r_n true rfl (by decide) rfl ?_
                  refine r_n true rfl (by decide) rfl ?_
                  refine r_v (Value.bool (true)) rfl rfl rfl rfl ?_
                  refine r_v (Value.bool (true)) rfl rfl rfl rfl ?_
                  refine r_n true rfl (by decide) rfl ?_
                  refine r_n true rfl (by decide) rfl ?_
                  refine r_n true rfl (by decide) rfl ?_
                  refine r_n true rfl (by decide) rfl ?_
                  refine r_n true rfl (by decide) rfl ?_
                  refine r_n true rfl (by decide) rfl ?_
                  refine r_n true rfl (by decide) rfl ?_
                  refine r_n true rfl (by decide) rfl ?_
                  refine r_n true rfl (by decide) rfl ?_
                  refine r_n true rfl (by decide) rfl ?_
                  refine r_n true rfl (by decide) rfl ?_
                  refine r_v (Value.bool (true)) rfl rfl rfl rfl ?_
                  refine r_v (Value.bool (true)) rfl rfl rfl rfl ?_
                  refine r_n true rfl (by decide) rfl ?_
                  refine r_n true rfl (by decide) rfl ?_
                  refine r_n true rfl (by decide) rfl ?_
                  refine r_n true rfl (by decide) rfl ?_
                  refine r_n true rfl (by decide) rfl ?_
                  refine r_n true rfl (by decide) rfl ?_
                  refine r_n true rfl (by decide) rfl ?_
                  refine r_n true rfl (by decide) rfl ?_
                  refine r_n true rfl (by decide) rfl ?_
                  refine r_n true rfl (by decide) rfl ?_
                  refine r_n true rfl (by decide) rfl ?_
                  refine r_v (Value.bool (true)) rfl rfl rfl rfl ?_
                  refine lx_nil ?_
                  refine hK44 _ _ ?_; try clear hK44 K44
                  refine A_gen [(3, s11), (5, Value.string (⟨(r20).toArray⟩)), (6, s31), (8, Value.int .i64 (i2_)), (101, Value.bool (true))] rfl (fun T => ?_)
                  refine A_cond true rfl (fun _ => ?_) (fun h_ => nomatch h_)
                  refine A_seq fun K61 hK61 => ?_
                  refine A_reg ?_
                  refine r_v (Value.bool (false)) rfl rfl rfl rfl ?_
                  refine lx_nil ?_
                  refine hK61 _ _ ?_; try clear hK61 K61
                  obtain rfl := Option.some.inj hM
                  refine A_ret (fun hn => endsV (v0 := Value.bool (false)) rfl (res1 rfl))
              · replace hM := ifn (of_decide_eq_false hc42) hM
                refine A_exit ?_
                refine hK37 _ _ ?_; try clear hK37 K37
                refine A_seq fun K62 hK62 => ?_
                refine A_regC [(some 103, false)] (conG Tryd.prog [(103, fun v_ L_ U_ => ∀ u0_, lex_Join_m N r29.1 = some u0_ → (pV (Value.string (⟨(u0_).toArray⟩))) v_ L_ U_)]) ?_
                refine r_v (s31) rfl rfl rfl rfl ?_
                replace hM := bind_sm hM; obtain ⟨r63, hr64, hM⟩ := hM
                refine r_gv (Value.string (⟨(r63).toArray⟩)) 14 _ rfl rfl rfl (ev_callF rfl call_14 rfl) (fun own_ nw_ hs_ => lex_Join_g N r29.1 _ hr64 hs_.view s31 ((rd_own H33 (mem_chunk (Ls := [S12, S32]) (k := 1) rfl rfl)) own_ nw_ hs_)) (fun _ _ v_ L_ U_ => ⟨fun h_ => h_ _ hr64, fun h_ => by intro _ e_; cases Option.some.inj (e_.symm.trans hr64); exact h_⟩) ?_
                refine r_v (Value.string (⟨(r20).toArray⟩)) rfl rfl rfl rfl ?_
                refine r_v (Value.bool ((r63) == (r20))) rfl rfl rfl (ev_eqS rfl rfl) ?_
                refine r_v (Value.bool ((r63) == (r20))) rfl rfl rfl rfl ?_
                rcases hg65 : ((r63) == (r20)) with _ | _
                · replace hM := ifn (ne_of_beq_false hg65) hM
                  refine r_n false rfl (by decide) rfl ?_
                  refine r_v (Value.bool (false)) rfl rfl rfl rfl ?_
                  refine r_v (Value.bool (false)) rfl rfl rfl rfl ?_
                  refine lx_nil ?_
                  refine hK62 _ _ ?_; try clear hK62 K62
                  obtain rfl := Option.some.inj hM
                  refine A_ret (fun hn => endsV (v0 := Value.bool (false)) rfl (res1 rfl))
                · replace hM := ifp (eq_of_beq hg65) hM
                  refine r_y rfl ?_
                  replace hM := bind_sm hM; obtain ⟨r66, hr67, hM⟩ := hM
                  refine r_c (Value.bool (r66)) rfl _ _ (ev_callF rfl call_6 rfl) (shunterlaw06_lives_g N  _ hr67) ?_
                  refine r_v (Value.bool (r66)) rfl rfl rfl rfl ?_
                  refine r_v (Value.bool (r66)) rfl rfl rfl rfl ?_
                  refine lx_nil ?_
                  refine hK62 _ _ ?_; try clear hK62 K62
                  obtain rfl := Option.some.inj hM
                  refine A_ret (fun hn => endsV (v0 := Value.bool (r66)) rfl (res1 rfl))
        · obtain ⟨b37, _, ⟨rfl, rfl⟩, rfl⟩ := Sum25.onP_t31 hx34 hp_
          replace hM := Sum25.on_t31 hx34 hM
          refine lx_perm (Ls := [S12, S32, [(b37, 36, #[Value.int .i64 (x35_0), Value.int .i64 (x36_1)])]]) (Ls' := [[(b37, 36, #[Value.int .i64 (x35_0), Value.int .i64 (x36_1)])], S12, S32]) [2, 0, 1] rfl rfl ?_
          refine r_v (Value.tuple #[s31, Value.iface 31 (Value.pointer (some ⟨b37, 0, none⟩))]) rfl rfl rfl rfl ?_
          refine r_v (s31) rfl rfl rfl rfl ?_
          refine r_v (Value.iface 31 (Value.pointer (some ⟨b37, 0, none⟩))) rfl rfl rfl rfl ?_
          refine r_v (s31) rfl rfl rfl rfl ?_
          refine r_v (Value.iface 31 (Value.pointer (some ⟨b37, 0, none⟩))) rfl rfl rfl rfl ?_
          refine lx_nil ?_
          refine hK28 _ _ ?_; try clear hK28 K28
          refine A_seq fun K38 hK38 => ?_
          refine A_seq fun K39 hK39 => ?_
          refine A_reg ?_
          refine r_v (Value.iface 31 (Value.pointer (some ⟨b37, 0, none⟩))) rfl rfl rfl rfl ?_
          refine r_v (Value.bool (true)) rfl rfl rfl rfl ?_
          refine r_v (Value.bool (true)) rfl rfl rfl rfl ?_
          refine r_n true rfl (by decide) rfl ?_
          refine r_n true rfl (by decide) rfl ?_
          refine r_n true rfl (by decide) rfl ?_
          refine r_n true rfl (by decide) rfl ?_
          refine r_n true rfl (by decide) rfl ?_
          refine r_v (Value.bool (true)) rfl rfl rfl rfl ?_
          refine lx_nil ?_
          refine hK39 _ _ ?_; try clear hK39 K39
          refine A_gen [(3, s11), (5, Value.string (⟨(r20).toArray⟩)), (6, s31), (45, Value.bool (true))] rfl (fun T => ?_)
          refine A_cond true rfl (fun _ => ?_) (fun h_ => nomatch h_)
          refine A_seq fun K40 hK40 => ?_
          refine A_reg ?_
          refine r_v (Value.bool (false)) rfl rfl rfl rfl ?_
          refine lx_nil ?_
          refine hK40 _ _ ?_; try clear hK40 K40
          obtain rfl := Option.some.inj hM
          refine A_ret (fun hn => endsV (v0 := Value.bool (false)) rfl (res1 rfl))
    · obtain ⟨b17, _, ⟨rfl, rfl⟩, rfl⟩ := Sum25.onP_t31 hx14 hp_
      replace hM := Sum25.on_t31 hx14 hM
      refine lx_perm (Ls := [S12, [(b17, 36, #[Value.int .i64 (x15_0), Value.int .i64 (x16_1)])]]) (Ls' := [[(b17, 36, #[Value.int .i64 (x15_0), Value.int .i64 (x16_1)])], S12]) [1, 0] rfl rfl ?_
      refine r_v (Value.tuple #[s11, Value.iface 31 (Value.pointer (some ⟨b17, 0, none⟩))]) rfl rfl rfl rfl ?_
      refine r_v (s11) rfl rfl rfl rfl ?_
      refine r_v (Value.iface 31 (Value.pointer (some ⟨b17, 0, none⟩))) rfl rfl rfl rfl ?_
      refine r_v (s11) rfl rfl rfl rfl ?_
      refine r_v (Value.iface 31 (Value.pointer (some ⟨b17, 0, none⟩))) rfl rfl rfl rfl ?_
      refine lx_nil ?_
      refine hK8 _ _ ?_; try clear hK8 K8
      refine A_seq fun K18 hK18 => ?_
      refine A_seq fun K19 hK19 => ?_
      refine A_reg ?_
      refine r_v (Value.iface 31 (Value.pointer (some ⟨b17, 0, none⟩))) rfl rfl rfl rfl ?_
      refine r_v (Value.bool (true)) rfl rfl rfl rfl ?_
      refine lx_nil ?_
      refine hK19 _ _ ?_; try clear hK19 K19
      refine A_cond true rfl (fun _ => ?_) (fun h_ => nomatch h_)
      refine A_seq fun K20 hK20 => ?_
      refine A_reg ?_
      refine r_v (s11) rfl rfl rfl rfl ?_
      refine r_v (Value.int .i64 (((r9.1).length : Int))) rfl rfl rfl (ev_lenSl rfl rfl rfl (Sl.shp H13)) ?_
      refine r_v (Value.bool (((((r9.1).length : Int) : Int) == 0))) rfl rfl rfl rfl ?_
      refine r_v (Value.bool (((((r9.1).length : Int) : Int) == 0))) rfl rfl rfl rfl ?_
      rcases hg21 : (((((r9.1).length : Int) : Int) == 0)) with _ | _
      · replace hM := ifn (ne_of_beq_false hg21) hM
        refine r_n false rfl (by decide) rfl ?_
        refine r_v (Value.bool (false)) rfl rfl rfl rfl ?_
        refine r_v (Value.bool (false)) rfl rfl rfl rfl ?_
        refine lx_nil ?_
        refine hK20 _ _ ?_; try clear hK20 K20
        obtain rfl := Option.some.inj hM
        refine A_ret (fun hn => endsV (v0 := Value.bool (false)) rfl (res1 rfl))
      · replace hM := ifp (eq_of_beq hg21) hM
        refine r_y rfl ?_
        replace hM := bind_sm hM; obtain ⟨r22, hr23, hM⟩ := hM
        refine r_c (Value.bool (r22)) rfl _ _ (ev_callF rfl call_6 rfl) (shunterlaw06_lives_g N  _ hr23) ?_
        refine r_v (Value.bool (r22)) rfl rfl rfl rfl ?_
        refine r_v (Value.bool (r22)) rfl rfl rfl rfl ?_
        refine lx_nil ?_
        refine hK20 _ _ ?_; try clear hK20 K20
        obtain rfl := Option.some.inj hM
        refine A_ret (fun hn => endsV (v0 := Value.bool (r22)) rfl (res1 rfl))
end Go.Proofs.YtmdjifehblijkaaDoor
