/- models of functions and their walks -/
import Derived.Test.YtolfjcihohjknaaBa
namespace Go.Proofs.Ytolfjcihohjknaa
open Go Go.RowKit Go.Eng
def shunterlaw04_SumPieces_l4 (N : Nat) (pieces : List (List UInt8)) : Nat → List UInt8 → Int → UInt16 → UInt8 → Bool → Option (Bool)
  | 0, _, _, _, _, _ => none
  | n13 + 1, all1_, i2_, m3__0, m3__1, m3__2 => if (i2_ : Int) < ((pieces).length : Int) then ck (0 ≤ i2_ ∧ i2_ < ((pieces).length : Int)) (if ((((pieces)[(i2_).toNat]!).length : Int) : Int) > 200 then (shunterlaw04_lives_m N ).bind fun r26 => some (r26) else ck (0 ≤ i2_ ∧ i2_ < ((pieces).length : Int)) ((sum_Adder_Add_v1_m N m3__0 m3__1 m3__2 ((pieces)[(i2_).toNat]!)).bind fun r33 => ck (0 ≤ i2_ ∧ i2_ < ((pieces).length : Int)) (ck ((all1_).length + ((pieces)[(i2_).toNat]!).length ≤ 140737488355328) ((sum_Adder_Sum_v1_m N r33.1 r33.2.1 r33.2.2).bind fun r45 => (sum_Of_m N (all1_ ++ ((pieces)[(i2_).toNat]!))).bind fun r47 => if (((r45.toNat : Nat) : Int) : Int) ≠ ((r47.toNat : Nat) : Int) then some (false) else ck ((-9223372036854775808 ≤ (i2_ + 1) ∧ (i2_ + 1) ≤ 9223372036854775807)) ((shunterlaw04_SumPieces_l4 N pieces n13) ((all1_ ++ ((pieces)[(i2_).toNat]!))) ((i2_ + 1)) (r33.1) (r33.2.1) (r33.2.2)))))) else (sum_Adder_Add_v2_m N all1_).bind fun r54 => (sum_Adder_Total_v2_m N ).bind fun r57 => if (((r57.toNat : Nat) : Int) : Int) = 0 then (sum_Adder_Sum_v2_m N ).bind fun r60 => if (((r60.toNat : Nat) : Int) : Int) = 65535 then (shunterlaw04_lives_m N ).bind fun r63 => some (r63) else some (false) else some (false)
def shunterlaw04_SumPieces_m (N : Nat) (pieces : List (List UInt8)) : Option (Bool) := if (((pieces).length : Int) : Int) > 40 then (shunterlaw04_lives_m N ).bind fun r6 => some (r6) else shunterlaw04_SumPieces_l4 N pieces N ([]) (0) ((0 : UInt16)) ((0 : UInt8)) (false)
set_option maxRecDepth 100000 in
set_option maxHeartbeats 400000 in
theorem shunterlaw04_SumPieces_g (N : Nat) (pieces : List (List UInt8)) (r : Bool) (hM : shunterlaw04_SumPieces_m N pieces = some r) (ro : Addr → Option Value) (piecesv : Value) (hpieces : RdN encr_22 ro piecesv pieces) : Does Try.prog 4 #[piecesv] ro [] (pV (Value.bool (r))) := by
  unfold shunterlaw04_SumPieces_m at hM
  refine does_of_A follows Try.func4 rfl 53 rfl (upd (fun _ => undef) 0 (piecesv)) (by funext k; match k with | 0 => rfl | k + 1 => rfl) (fun base0_ => ?_)
  refine A_seq fun K1 hK1 => ?_
  refine A_reg ?_
  refine r_v (Value.bool (false)) rfl rfl rfl rfl ?_
  refine lx_nil ?_
  refine hK1 _ _ ?_; try clear hK1 K1
  refine A_seq fun K2 hK2 => ?_
  refine A_seq fun K3 hK3 => ?_
  refine A_reg ?_
  refine r_v (piecesv) rfl rfl rfl rfl ?_
  refine r_v (Value.int .i64 (((pieces).length : Int))) rfl rfl rfl (ev_lenSl rfl rfl rfl (RdN.shp hpieces)) ?_
  refine r_v (Value.bool (decide ((((pieces).length : Int) : Int) > 40))) rfl rfl rfl rfl ?_
  refine lx_nil ?_
  refine hK3 _ _ ?_; try clear hK3 K3
  refine A_cond (decide ((((pieces).length : Int) : Int) > 40)) rfl (fun hc4 => ?_) (fun hc4 => ?_)
  · replace hM := ifp (of_decide_eq_true hc4) hM
    refine A_seq fun K5 hK5 => ?_
    refine A_reg ?_
    replace hM := bind_sm hM; obtain ⟨r6, hr7, hM⟩ := hM
    refine r_c (Value.bool (r6)) rfl _ _ (ev_callF rfl call_8 rfl) (shunterlaw04_lives_g N  _ hr7) ?_
    refine r_v (Value.bool (r6)) rfl rfl rfl rfl ?_
    refine lx_nil ?_
    refine hK5 _ _ ?_; try clear hK5 K5
    obtain rfl := Option.some.inj hM
    refine A_ret (fun hn => endsV (v0 := Value.bool (r6)) rfl (res1 rfl))
  · replace hM := ifn (of_decide_eq_false hc4) hM
    refine A_skip ?_
    refine hK2 _ _ ?_; try clear hK2 K2
    refine A_seq fun K8 hK8 => ?_
    refine A_reg ?_
    refine r_a (26, #[Value.int .u16 (0), Value.int .u8 (0), Value.bool (false)]) rfl rfl rfl (fun b9 => ?_) (.inr rfl)
    refine lx_nil ?_
    refine hK8 _ _ ?_; try clear hK8 K8
    refine A_seq fun K10 hK10 => ?_
    refine A_reg ?_
    refine r_v (Value.slice none 0 0) rfl rfl rfl rfl ?_
    refine lx_nil ?_
    refine hK10 _ _ ?_; try clear hK10 K10
    refine A_seq fun K11 hK11 => ?_
    refine A_seq fun K12 hK12 => ?_
    refine A_reg ?_
    refine r_v (Value.int .i64 (0)) rfl rfl rfl rfl ?_
    refine lx_nil ?_
    refine hK12 _ _ ?_; try clear hK12 K12
    refine A_block ?_
    refine A_forget _ (Sub.pickE (Ls := [[(b9, 26, #[Value.int .u16 (0), Value.int .u8 (0), Value.bool (false)])], []]) (Ls0 := [[(b9, 26, #[Value.int .u16 (0), Value.int .u8 (0), Value.bool (false)])]]) rfl [0, 1] rfl) ?_
    refine A_loop (fun tt ll nn => ∃ (n13 : Nat) (all1_ : List UInt8) (i2_ : Int) (m3__0 : UInt16) (m3__1 : UInt8) (m3__2 : Bool), (shunterlaw04_SumPieces_l4 N pieces n13 all1_ i2_ m3__0 m3__1 m3__2 = some r) ∧ ∃ (vall1_ : Value) (Sall1_ : List Bl), Sl 5 encY vall1_ all1_ Sall1_ ∧ Is [(0, piecesv), (3, Value.pointer (some ⟨b9, 0, none⟩)), (4, vall1_), (5, Value.int .i64 (i2_))] (List.flatten [[(b9, 26, #[Value.int .u16 (((m3__0.toNat : Nat) : Int)), Value.int .u8 (((m3__1.toNat : Nat) : Int)), Value.bool (m3__2)])], Sall1_]) tt ll ∧ nn = n13 + 1) (N + 1) ?_ ?_
    · exact ⟨N, [], 0, (0 : UInt16), (0 : UInt8), false, hM, Value.slice none 0 0, [], Sl.nil, is_mk rfl rfl, rfl⟩
    · clear hM; rintro t l _ ⟨n13, all1_, i2_, m3__0, m3__1, m3__2, hM, vall1_, Sall1_, hall1_, ⟨⟨T, rfl⟩, rfl⟩, rfl⟩
      rcases n13 with _ | n13
      · exact absurd hM (by simp [shunterlaw04_SumPieces_l4])
      rw [shunterlaw04_SumPieces_l4] at hM
      refine A_seq fun K14 hK14 => ?_
      refine A_seq fun K15 hK15 => ?_
      refine A_reg ?_
      refine r_v (Value.int .i64 (i2_)) rfl rfl rfl rfl ?_
      refine r_v (piecesv) rfl rfl rfl rfl ?_
      refine r_v (Value.int .i64 (((pieces).length : Int))) rfl rfl rfl (ev_lenSl rfl rfl rfl (RdN.shp hpieces)) ?_
      refine r_v (Value.bool (decide ((i2_ : Int) < ((pieces).length : Int)))) rfl rfl rfl rfl ?_
      refine lx_nil ?_
      refine hK15 _ _ ?_; try clear hK15 K15
      refine A_cond (decide ((i2_ : Int) < ((pieces).length : Int))) rfl (fun hc16 => ?_) (fun hc16 => ?_)
      · replace hM := ifp (of_decide_eq_true hc16) hM
        refine A_skip ?_
        refine hK14 _ _ ?_; try clear hK14 K14
        refine A_seq fun K17 hK17 => ?_
        refine A_block ?_
        refine A_seq fun K18 hK18 => ?_
        refine A_seq fun K19 hK19 => ?_
        refine A_reg ?_
        refine r_v (piecesv) rfl rfl rfl rfl ?_
        refine r_v (Value.int .i64 (i2_)) rfl rfl rfl rfl ?_
        replace hM := ck_some hM; obtain ⟨ck20, hM⟩ := hM
        obtain ⟨_, ⟨s21, hs22, rfl⟩, hat23⟩ := RdN.at (E := encr_22) hpieces (get_of ck20)
        refine r_v (elA piecesv ((i2_).toNat * 1)) rfl rfl rfl (ev_v (ev_idxSl rfl rfl rfl (RdN.shp hpieces) ck20)) ?_
        refine r_at (s21) (vs := [s21]) ((i2_).toNat * 1) 0 rfl rfl (fun own_ nw_ hs_ => At.mono hs_.ro_cell hat23) rfl ?_
        refine r_v (Value.int .i64 ((((pieces)[(i2_).toNat]!).length : Int))) rfl rfl rfl (ev_lenSl rfl rfl rfl (Rd.shp hs22)) ?_
        refine r_v (Value.bool (decide (((((pieces)[(i2_).toNat]!).length : Int) : Int) > 200))) rfl rfl rfl rfl ?_
        refine lx_nil ?_
        refine hK19 _ _ ?_; try clear hK19 K19
        refine A_cond (decide (((((pieces)[(i2_).toNat]!).length : Int) : Int) > 200)) rfl (fun hc24 => ?_) (fun hc24 => ?_)
        · replace hM := ifp (of_decide_eq_true hc24) hM
          refine A_seq fun K25 hK25 => ?_
          refine A_reg ?_
          replace hM := bind_sm hM; obtain ⟨r26, hr27, hM⟩ := hM
          refine r_c (Value.bool (r26)) rfl _ _ (ev_callF rfl call_8 rfl) (shunterlaw04_lives_g N  _ hr27) ?_
          refine r_v (Value.bool (r26)) rfl rfl rfl rfl ?_
          refine lx_nil ?_
          refine hK25 _ _ ?_; try clear hK25 K25
          obtain rfl := Option.some.inj hM
          refine A_ret (fun hn => endsV (v0 := Value.bool (r26)) rfl (res1 rfl))
        · replace hM := ifn (of_decide_eq_false hc24) hM
          refine A_skip ?_
          refine hK18 _ _ ?_; try clear hK18 K18
          refine A_seq fun K28 hK28 => ?_
          refine A_regC [(some 28, true)] (conG Try.prog [(28, fun v_ L_ U_ => ∀ u0_, sum_Adder_Add_v1_m N m3__0 m3__1 m3__2 ((pieces)[(i2_).toNat]!) = some u0_ → (pO (List.flatten [[(b9, 26, #[Value.int .u16 (((m3__0.toNat : Nat) : Int)), Value.int .u8 (((m3__1.toNat : Nat) : Int)), Value.bool (m3__2)])]]) (oE (Value.tuple #[]) [[(b9, 26, #[Value.int .u16 (((u0_.1.toNat : Nat) : Int)), Value.int .u8 (((u0_.2.1.toNat : Nat) : Int)), Value.bool (u0_.2.2)])]])) v_ L_ U_)]) ?_
          refine r_v (piecesv) rfl rfl rfl rfl ?_
          refine r_v (Value.int .i64 (i2_)) rfl rfl rfl rfl ?_
          replace hM := ck_some hM; obtain ⟨ck29, hM⟩ := hM
          obtain ⟨_, ⟨s30, hs31, rfl⟩, hat32⟩ := RdN.at (E := encr_22) hpieces (get_of ck29)
          refine r_v (elA piecesv ((i2_).toNat * 1)) rfl rfl rfl (ev_v (ev_idxSl rfl rfl rfl (RdN.shp hpieces) ck29)) ?_
          refine r_at (s30) (vs := [s30]) ((i2_).toNat * 1) 0 rfl rfl (fun own_ nw_ hs_ => At.mono hs_.ro_cell hat32) rfl ?_
          replace hM := bind_sm hM; obtain ⟨r33, hr34, hM⟩ := hM
          refine r_gm (Ls := [[(b9, 26, #[Value.int .u16 (((m3__0.toNat : Nat) : Int)), Value.int .u8 (((m3__1.toNat : Nat) : Int)), Value.bool (m3__2)])], Sall1_]) (FL := [[(b9, 26, #[Value.int .u16 (((m3__0.toNat : Nat) : Int)), Value.int .u8 (((m3__1.toNat : Nat) : Int)), Value.bool (m3__2)])]]) (RL := [Sall1_]) [0] (oE (Value.tuple #[]) [[(b9, 26, #[Value.int .u16 (((r33.1.toNat : Nat) : Int)), Value.int .u8 (((r33.2.1.toNat : Nat) : Int)), Value.bool (r33.2.2)])]]) (some 28) 9 _ rfl rfl rfl rfl rfl (ev_callF rfl call_9 rfl) (fun own_ nw_ hn_ hs_ => sum_Adder_Add_v1_g N m3__0 m3__1 m3__2 ((pieces)[(i2_).toNat]!) _ hr34 _ b9 s30 (Rd.mono (ro_sans (Ls := [[(b9, 26, #[Value.int .u16 (((m3__0.toNat : Nat) : Int)), Value.int .u8 (((m3__1.toNat : Nat) : Int)), Value.bool (m3__2)])], Sall1_]) (is := [0]) rfl hs_) hs31)) (fun _ _ v_ L_ U_ => ⟨fun h_ => h_ _ hr34, fun h_ => by intro _ e_; cases Option.some.inj (e_.symm.trans hr34); exact h_⟩) (NiceO.sub (R := ([(b9, 26, #[Value.int .u16 (((m3__0.toNat : Nat) : Int)), Value.int .u8 (((m3__1.toNat : Nat) : Int)), Value.bool (m3__2)])] ++ [])) (niceE rfl) (Sub.pick [[(b9, 26, #[Value.int .u16 (((m3__0.toNat : Nat) : Int)), Value.int .u8 (((m3__1.toNat : Nat) : Int)), Value.bool (m3__2)])]] [0] rfl)) ?_
          rintro _ _ ⟨rfl, rfl⟩
          refine lx_perm (Ls := [Sall1_, [(b9, 26, #[Value.int .u16 (((r33.1.toNat : Nat) : Int)), Value.int .u8 (((r33.2.1.toNat : Nat) : Int)), Value.bool (r33.2.2)])]]) (Ls' := [[(b9, 26, #[Value.int .u16 (((r33.1.toNat : Nat) : Int)), Value.int .u8 (((r33.2.1.toNat : Nat) : Int)), Value.bool (r33.2.2)])], Sall1_]) [1, 0] rfl rfl ?_
          refine lx_nil ?_
          refine hK28 _ _ ?_; try clear hK28 K28
          refine A_seq fun K35 hK35 => ?_
          refine A_regC [(some 34, true)] (conG Try.prog []) ?_
          refine r_v (vall1_) rfl rfl rfl rfl ?_
          refine r_v (piecesv) rfl rfl rfl rfl ?_
          refine r_v (Value.int .i64 (i2_)) rfl rfl rfl rfl ?_
          replace hM := ck_some hM; obtain ⟨ck36, hM⟩ := hM
          obtain ⟨_, ⟨s37, hs38, rfl⟩, hat39⟩ := RdN.at (E := encr_22) hpieces (get_of ck36)
          refine r_v (elA piecesv ((i2_).toNat * 1)) rfl rfl rfl (ev_v (ev_idxSl rfl rfl rfl (RdN.shp hpieces) ck36)) ?_
          refine r_at (s37) (vs := [s37]) ((i2_).toNat * 1) 0 rfl rfl (fun own_ nw_ hs_ => At.mono hs_.ro_cell hat39) rfl ?_
          replace hM := ck_some hM; obtain ⟨ck40, hM⟩ := hM
          refine r_app (cs0 := []) (Ls := [[(b9, 26, #[Value.int .u16 (((r33.1.toNat : Nat) : Int)), Value.int .u8 (((r33.2.1.toNat : Nat) : Int)), Value.bool (r33.2.2)])], Sall1_]) 1 (En := encY) rfl rfl rfl rfl rfl hall1_ rfl (rd_ro hs38) rfl rfl rfl rfl rfl (app_b ck40 rfl) (app_m ck40 rfl) rfl (fun s41 S42 H43 => ?_)
          refine r_v (s41) rfl rfl rfl rfl ?_
          refine lx_nil ?_
          refine hK35 _ _ ?_; try clear hK35 K35
          refine A_seq fun K44 hK44 => ?_
          refine A_regC [(some 35, false), (some 37, false)] (conG Try.prog [(35, fun v_ L_ U_ => ∀ u0_, sum_Adder_Sum_v1_m N r33.1 r33.2.1 r33.2.2 = some u0_ → (pV (Value.int .u16 (((u0_.toNat : Nat) : Int)))) v_ L_ U_), (37, fun v_ L_ U_ => ∀ u0_, sum_Of_m N (all1_ ++ ((pieces)[(i2_).toNat]!)) = some u0_ → (pV (Value.int .u16 (((u0_.toNat : Nat) : Int)))) v_ L_ U_)]) ?_
          replace hM := bind_sm hM; obtain ⟨r45, hr46, hM⟩ := hM
          refine r_gv (Value.int .u16 (((r45.toNat : Nat) : Int))) 12 _ rfl rfl rfl (ev_callF rfl call_12 rfl) (fun own_ nw_ hs_ => sum_Adder_Sum_v1_g N r33.1 r33.2.1 r33.2.2 _ hr46 hs_.view b9 (blk_own 0 rfl rfl own_ nw_ hs_)) (fun _ _ v_ L_ U_ => ⟨fun h_ => h_ _ hr46, fun h_ => by intro _ e_; cases Option.some.inj (e_.symm.trans hr46); exact h_⟩) ?_
          refine r_v (s41) rfl rfl rfl rfl ?_
          replace hM := bind_sm hM; obtain ⟨r47, hr48, hM⟩ := hM
          refine r_gv (Value.int .u16 (((r47.toNat : Nat) : Int))) 13 _ rfl rfl rfl (ev_callF rfl call_13 rfl) (fun own_ nw_ hs_ => sum_Of_g N (all1_ ++ ((pieces)[(i2_).toNat]!)) _ hr48 hs_.view s41 ((rd_own H43 (mem_chunk (Ls := [[(b9, 26, #[Value.int .u16 (((r33.1.toNat : Nat) : Int)), Value.int .u8 (((r33.2.1.toNat : Nat) : Int)), Value.bool (r33.2.2)])], S42]) (k := 1) rfl rfl)) own_ nw_ hs_)) (fun _ _ v_ L_ U_ => ⟨fun h_ => h_ _ hr48, fun h_ => by intro _ e_; cases Option.some.inj (e_.symm.trans hr48); exact h_⟩) ?_
          refine r_v (Value.bool (((((r45.toNat : Nat) : Int) : Int) != ((r47.toNat : Nat) : Int)))) rfl rfl rfl rfl ?_
          refine lx_nil ?_
          refine hK44 _ _ ?_; try clear hK44 K44
          refine A_cond (((((r45.toNat : Nat) : Int) : Int) != ((r47.toNat : Nat) : Int))) rfl (fun hc49 => ?_) (fun hc49 => ?_)
          · replace hM := ifp (bne_iff_ne.1 hc49) hM
            refine A_seq fun K50 hK50 => ?_
            refine A_reg ?_
            refine r_v (Value.bool (false)) rfl rfl rfl rfl ?_
            refine lx_nil ?_
            refine hK50 _ _ ?_; try clear hK50 K50
            refine A_gen [(2, Value.bool (false))] rfl (fun T => ?_)
            obtain rfl := Option.some.inj hM
            refine A_ret (fun hn => endsV (v0 := Value.bool (false)) rfl (res1 rfl))
          · replace hM := ifn (bne_f hc49) hM
            refine A_skip ?_
            refine hK17 _ _ ?_; try clear hK17 K17
            refine A_reg ?_
            refine r_v (Value.int .i64 (i2_)) rfl rfl rfl rfl ?_
            replace hM := ck_some hM; obtain ⟨ck51, hM⟩ := hM
            refine r_v (Value.int .i64 ((i2_ + 1))) rfl rfl (wi64 rfl ck51.1 ck51.2) rfl ?_
            refine r_v (Value.int .i64 ((i2_ + 1))) rfl rfl rfl rfl ?_
            refine lx_nil ?_
            refine fg _ (Sub.pick [[(b9, 26, #[Value.int .u16 (((r33.1.toNat : Nat) : Int)), Value.int .u8 (((r33.2.1.toNat : Nat) : Int)), Value.bool (r33.2.2)])], S42] [0, 1] rfl) ?_
            exact ⟨n13 + 1, by omega, n13, (all1_ ++ ((pieces)[(i2_).toNat]!)), (i2_ + 1), r33.1, r33.2.1, r33.2.2, hM, s41, S42, H43, is_mk rfl rfl, rfl⟩
      · replace hM := ifn (of_decide_eq_false hc16) hM
        refine A_exit ?_
        refine hK11 _ _ ?_; try clear hK11 K11
        refine A_seq fun K52 hK52 => ?_
        refine A_reg ?_
        refine r_v (Value.pointer none) rfl rfl rfl rfl ?_
        refine lx_nil ?_
        refine hK52 _ _ ?_; try clear hK52 K52
        refine A_seq fun K53 hK53 => ?_
        refine A_regC [(some 41, false)] (conG Try.prog [(41, fun v_ L_ U_ => (pV (Value.tuple #[])) v_ L_ U_)]) ?_
        refine r_v (Value.pointer none) rfl rfl rfl rfl ?_
        refine r_v (vall1_) rfl rfl rfl rfl ?_
        replace hM := bind_sm hM; obtain ⟨r54, hr55, hM⟩ := hM
        refine r_gv (Value.tuple #[]) 9 _ rfl rfl rfl (ev_callF rfl call_9 rfl) (fun own_ nw_ hs_ => sum_Adder_Add_v2_g N all1_ _ hr55 hs_.view vall1_ ((rd_own hall1_ (mem_chunk (Ls := [[(b9, 26, #[Value.int .u16 (((m3__0.toNat : Nat) : Int)), Value.int .u8 (((m3__1.toNat : Nat) : Int)), Value.bool (m3__2)])], Sall1_]) (k := 1) rfl rfl)) own_ nw_ hs_)) (fun _ _ _ _ _ => Iff.rfl) ?_
        refine lx_nil ?_
        refine hK53 _ _ ?_; try clear hK53 K53
        refine A_seq fun K56 hK56 => ?_
        refine A_reg ?_
        refine r_v (Value.pointer none) rfl rfl rfl rfl ?_
        replace hM := bind_sm hM; obtain ⟨r57, hr58, hM⟩ := hM
        refine r_c (Value.int .u16 (((r57.toNat : Nat) : Int))) rfl _ _ (ev_callF rfl call_11 rfl) (sum_Adder_Total_v2_g N  _ hr58) ?_
        refine r_v (Value.bool (((((r57.toNat : Nat) : Int) : Int) == 0))) rfl rfl rfl rfl ?_
        refine r_v (Value.bool (((((r57.toNat : Nat) : Int) : Int) == 0))) rfl rfl rfl rfl ?_
        rcases hg59 : (((((r57.toNat : Nat) : Int) : Int) == 0)) with _ | _
        · replace hM := ifn (ne_of_beq_false hg59) hM
          refine r_n false rfl (by decide) rfl ?_
          refine r_n false rfl (by decide) rfl ?_
          refine r_n false rfl (by decide) rfl ?_
          refine r_v (Value.bool (false)) rfl rfl rfl rfl ?_
          refine r_v (Value.bool (false)) rfl rfl rfl rfl ?_
          refine r_n false rfl (by decide) rfl ?_
          refine r_v (Value.bool (false)) rfl rfl rfl rfl ?_
          refine r_v (Value.bool (false)) rfl rfl rfl rfl ?_
          refine lx_nil ?_
          refine hK56 _ _ ?_; try clear hK56 K56
          obtain rfl := Option.some.inj hM
          refine A_ret (fun hn => endsV (v0 := Value.bool (false)) rfl (res1 rfl))
        · replace hM := ifp (eq_of_beq hg59) hM
          refine r_y rfl ?_
          refine r_v (Value.pointer none) rfl rfl rfl rfl ?_
          refine r_y rfl ?_
          replace hM := bind_sm hM; obtain ⟨r60, hr61, hM⟩ := hM
          refine r_c (Value.int .u16 (((r60.toNat : Nat) : Int))) rfl _ _ (ev_callF rfl call_12 rfl) (sum_Adder_Sum_v2_g N  _ hr61) ?_
          refine r_y rfl ?_
          refine r_v (Value.bool (((((r60.toNat : Nat) : Int) : Int) == 65535))) rfl rfl rfl rfl ?_
          refine r_v (Value.bool (((((r60.toNat : Nat) : Int) : Int) == 65535))) rfl rfl rfl rfl ?_
          refine r_v (Value.bool (((((r60.toNat : Nat) : Int) : Int) == 65535))) rfl rfl rfl rfl ?_
          rcases hg62 : (((((r60.toNat : Nat) : Int) : Int) == 65535)) with _ | _
          · replace hM := ifn (ne_of_beq_false hg62) hM
            refine r_n false rfl (by decide) rfl ?_
            refine r_v (Value.bool (false)) rfl rfl rfl rfl ?_
            refine r_v (Value.bool (false)) rfl rfl rfl rfl ?_
            refine lx_nil ?_
            refine hK56 _ _ ?_; try clear hK56 K56
            obtain rfl := Option.some.inj hM
            refine A_ret (fun hn => endsV (v0 := Value.bool (false)) rfl (res1 rfl))
          · replace hM := ifp (eq_of_beq hg62) hM
            refine r_y rfl ?_
            replace hM := bind_sm hM; obtain ⟨r63, hr64, hM⟩ := hM
            refine r_c (Value.bool (r63)) rfl _ _ (ev_callF rfl call_8 rfl) (shunterlaw04_lives_g N  _ hr64) ?_
            refine r_v (Value.bool (r63)) rfl rfl rfl rfl ?_
            refine r_v (Value.bool (r63)) rfl rfl rfl rfl ?_
            refine lx_nil ?_
            refine hK56 _ _ ?_; try clear hK56 K56
            obtain rfl := Option.some.inj hM
            refine A_ret (fun hn => endsV (v0 := Value.bool (r63)) rfl (res1 rfl))
end Go.Proofs.Ytolfjcihohjknaa
