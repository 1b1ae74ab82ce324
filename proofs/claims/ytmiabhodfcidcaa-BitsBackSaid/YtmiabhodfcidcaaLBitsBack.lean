/- models of functions and their walks -/
import Derived.Test.YtmiabhodfcidcaaBb
namespace Go.Proofs.Ytmiabhodfcidcaa
open Go Go.RowKit Go.Eng
def shunterlaw03_BitsBack_l9 (N : Nat) (l' : List (Int × BitVec 128)) (n1_ : Int) : Nat → Int → List UInt8 → Int → Option (Bool)
  | 0, _, _, _ => none
  | n44 + 1, i6_, s8_, m7__1 => if (i6_ : Int) < ((l').length : Int) then ck (0 ≤ i6_ ∧ i6_ < ((l').length : Int)) ((shunterref02_May_m N (((l')[(i6_).toNat]!).1) (((l')[(i6_).toNat]!).2)).bind fun r52 => if (r52) = true then ck (0 ≤ i6_ ∧ i6_ < ((l').length : Int)) ((bits_Taker_Vec_v1_m N s8_ m7__1 (((l')[(i6_).toNat]!).1)).bind fun r58 => ck ((r58.2.2.2.1).length = (s8_).length) (ck (0 ≤ i6_ ∧ i6_ < ((l').length : Int)) (if (((r58.1) == (((l')[(i6_).toNat]!).1)) && ((r58.2.1) == (((l')[(i6_).toNat]!).2))) = true then if (r58.2.2.1 : Int) ≠ 0 then some (false) else ck ((-9223372036854775808 ≤ (i6_ + 1) ∧ (i6_ + 1) ≤ 9223372036854775807)) ((shunterlaw03_BitsBack_l9 N l' n1_ n44) ((i6_ + 1)) (r58.2.2.2.1) (r58.2.2.2.2)) else some (false)))) else ck ((-9223372036854775808 ≤ (i6_ + 1) ∧ (i6_ + 1) ≤ 9223372036854775807)) ((shunterlaw03_BitsBack_l9 N l' n1_ n44) ((i6_ + 1)) (s8_) (m7__1))) else (bits_Taker_Left_v1_m N s8_ m7__1).bind fun r72 => if (r72 : Int) < 8 then (bits_Taker_At_v1_m N s8_ m7__1).bind fun r75 => if (r75 : Int) = n1_ then (shunterlaw03_lives_m N ).bind fun r78 => some (r78) else some (false) else some (false)
def shunterlaw03_BitsBack_k5 (N : Nat) (l' : List (Int × BitVec 128)) (n1_ : Int) (r36 : (List UInt8) × Int) : Option (Bool) := shunterlaw03_BitsBack_l9 N l' n1_ N (0) (r36.1) (r36.2)
def shunterlaw03_BitsBack_l4 (N : Nat) (l' : List (Int × BitVec 128)) : Nat → Int → Int → List UInt8 → Int → Option (Bool)
  | 0, _, _, _, _ => none
  | n13 + 1, n1_, i2_, m3__0, m3__1 => if (i2_ : Int) < ((l').length : Int) then ck (0 ≤ i2_ ∧ i2_ < ((l').length : Int)) ((bits_Row_Add_v1_m N m3__0 m3__1 (((l')[(i2_).toNat]!).1) (((l')[(i2_).toNat]!).2)).bind fun r20 => if (r20.1 : Int) = 0 then ck (0 ≤ i2_ ∧ i2_ < ((l').length : Int)) (ck ((-9223372036854775808 ≤ (n1_ + ((l')[(i2_).toNat]!).1) ∧ (n1_ + ((l')[(i2_).toNat]!).1) ≤ 9223372036854775807)) (ck ((-9223372036854775808 ≤ (i2_ + 1) ∧ (i2_ + 1) ≤ 9223372036854775807)) ((shunterlaw03_BitsBack_l4 N l' n13) ((n1_ + ((l')[(i2_).toNat]!).1)) ((i2_ + 1)) (r20.2.1) (r20.2.2)))) else ck ((-9223372036854775808 ≤ (i2_ + 1) ∧ (i2_ + 1) ≤ 9223372036854775807)) ((shunterlaw03_BitsBack_l4 N l' n13) (n1_) ((i2_ + 1)) (r20.2.1) (r20.2.2))) else (bits_Row_All_v1_m N m3__0 m3__1).bind fun r31 => (bits_Take_m N r31).bind fun r36 => (bits_Row_Len_v1_m N m3__0 m3__1).bind fun r81 => if (r81 : Int) ≠ n1_ then some (false) else shunterlaw03_BitsBack_k5 N l' n1_ r36 
def shunterlaw03_BitsBack_m (N : Nat) (l' : List (Int × BitVec 128)) : Option (Bool) := if (((l').length : Int) : Int) > 60 then (shunterlaw03_lives_m N ).bind fun r6 => some (r6) else shunterlaw03_BitsBack_l4 N l' N (0) (0) ([]) (0)
set_option maxRecDepth 100000 in
set_option maxHeartbeats 400000 in
theorem shunterlaw03_BitsBack_g (N : Nat) (l' : List (Int × BitVec 128)) (r : Bool) (hM : shunterlaw03_BitsBack_m N l' = some r) (ro : Addr → Option Value) (l'v : Value) (hl' : Rd enc_26 ro l'v l') : Does Try.prog 7 #[l'v] ro [] (pV (Value.bool (r))) := by
  unfold shunterlaw03_BitsBack_m at hM
  refine does_of_A follows Try.func7 rfl 86 rfl (upd (fun _ => undef) 0 (l'v)) (by funext k; match k with | 0 => rfl | k + 1 => rfl) (fun base0_ => ?_)
  refine A_seq fun K1 hK1 => ?_
  refine A_reg ?_
  refine r_v (Value.bool (false)) rfl rfl rfl rfl ?_
  refine lx_nil ?_
  refine hK1 _ _ ?_; try clear hK1 K1
  refine A_seq fun K2 hK2 => ?_
  refine A_seq fun K3 hK3 => ?_
  refine A_reg ?_
  refine r_v (l'v) rfl rfl rfl rfl ?_
  refine r_v (Value.int .i64 (((l').length : Int))) rfl rfl rfl (ev_lenSl rfl rfl rfl (Rd.shp hl')) ?_
  refine r_v (Value.bool (decide ((((l').length : Int) : Int) > 60))) rfl rfl rfl rfl ?_
  refine lx_nil ?_
  refine hK3 _ _ ?_; try clear hK3 K3
  refine A_cond (decide ((((l').length : Int) : Int) > 60)) rfl (fun hc4 => ?_) (fun hc4 => ?_)
  · replace hM := ifp (of_decide_eq_true hc4) hM
    refine A_seq fun K5 hK5 => ?_
    refine A_reg ?_
    replace hM := bind_sm hM; obtain ⟨r6, hr7, hM⟩ := hM
    refine r_c (Value.bool (r6)) rfl _ _ (ev_callF rfl call_9 rfl) (shunterlaw03_lives_g N  _ hr7) ?_
    refine r_v (Value.bool (r6)) rfl rfl rfl rfl ?_
    refine lx_nil ?_
    refine hK5 _ _ ?_; try clear hK5 K5
    obtain rfl := Option.some.inj hM
    refine A_ret (fun hn => endsV (v0 := Value.bool (r6)) rfl (res1 rfl))
  · replace hM := ifn (of_decide_eq_false hc4) hM
    refine A_skip ?_
    refine hK2 _ _ ?_; try clear hK2 K2
    refine A_seq fun K8 hK8 => ?_
    refine A_reg ?_
    refine r_a (36, #[Value.slice none 0 0, Value.int .i64 (0)]) rfl rfl rfl (fun b9 => ?_) (.inr rfl)
    refine lx_nil ?_
    refine hK8 _ _ ?_; try clear hK8 K8
    refine A_seq fun K10 hK10 => ?_
    refine A_reg ?_
    refine r_v (Value.int .i64 (0)) rfl rfl rfl rfl ?_
    refine lx_nil ?_
    refine hK10 _ _ ?_; try clear hK10 K10
    refine A_seq fun K11 hK11 => ?_
    refine A_seq fun K12 hK12 => ?_
    refine A_reg ?_
    refine r_v (Value.int .i64 (0)) rfl rfl rfl rfl ?_
    refine lx_nil ?_
    refine hK12 _ _ ?_; try clear hK12 K12
    refine A_block ?_
    refine A_forget _ (Sub.pickE (Ls := [[(b9, 36, #[Value.slice none 0 0, Value.int .i64 (0)])], []]) (Ls0 := [[(b9, 36, #[Value.slice none 0 0, Value.int .i64 (0)])]]) rfl [0, 1] rfl) ?_
    refine A_loop (fun tt ll nn => ∃ (n13 : Nat) (n1_ : Int) (i2_ : Int) (m3__0 : List UInt8) (m3__1 : Int), (shunterlaw03_BitsBack_l4 N l' n13 n1_ i2_ m3__0 m3__1 = some r) ∧ ∃ (vm3__0 : Value) (Sm3__0 : List Bl), Sl 5 encY vm3__0 m3__0 Sm3__0 ∧ Is [(0, l'v), (3, Value.pointer (some ⟨b9, 0, none⟩)), (4, Value.int .i64 (n1_)), (5, Value.int .i64 (i2_))] (List.flatten [[(b9, 36, #[vm3__0, Value.int .i64 (m3__1)])], Sm3__0]) tt ll ∧ nn = n13 + 1) (N + 1) ?_ ?_
    · exact ⟨N, 0, 0, [], 0, hM, Value.slice none 0 0, [], Sl.nil, is_mk rfl rfl, rfl⟩
    · clear hM; rintro t l _ ⟨n13, n1_, i2_, m3__0, m3__1, hM, vm3__0, Sm3__0, hm3__0, ⟨⟨T, rfl⟩, rfl⟩, rfl⟩
      rcases n13 with _ | n13
      · exact absurd hM (by simp [shunterlaw03_BitsBack_l4])
      rw [shunterlaw03_BitsBack_l4] at hM
      refine A_seq fun K14 hK14 => ?_
      refine A_seq fun K15 hK15 => ?_
      refine A_reg ?_
      refine r_v (Value.int .i64 (i2_)) rfl rfl rfl rfl ?_
      refine r_v (l'v) rfl rfl rfl rfl ?_
      refine r_v (Value.int .i64 (((l').length : Int))) rfl rfl rfl (ev_lenSl rfl rfl rfl (Rd.shp hl')) ?_
      refine r_v (Value.bool (decide ((i2_ : Int) < ((l').length : Int)))) rfl rfl rfl rfl ?_
      refine lx_nil ?_
      refine hK15 _ _ ?_; try clear hK15 K15
      refine A_cond (decide ((i2_ : Int) < ((l').length : Int))) rfl (fun hc16 => ?_) (fun hc16 => ?_)
      · replace hM := ifp (of_decide_eq_true hc16) hM
        refine A_skip ?_
        refine hK14 _ _ ?_; try clear hK14 K14
        refine A_seq fun K17 hK17 => ?_
        refine A_block ?_
        refine A_seq fun K18 hK18 => ?_
        refine A_regC [(some 24, true)] (conG Try.prog [(24, fun v_ L_ U_ => ∀ u0_, bits_Row_Add_v1_m N m3__0 m3__1 (((l')[(i2_).toNat]!).1) (((l')[(i2_).toNat]!).2) = some u0_ → (pO (List.flatten [[(b9, 36, #[vm3__0, Value.int .i64 (m3__1)])], Sm3__0]) (oS 5 encY u0_.2.1 fun s_0 => (oE (Value.int .i64 (u0_.1)) [[(b9, 36, #[s_0, Value.int .i64 (u0_.2.2)])]]))) v_ L_ U_)]) ?_
        refine r_v (l'v) rfl rfl rfl rfl ?_
        refine r_v (Value.int .i64 (i2_)) rfl rfl rfl rfl ?_
        replace hM := ck_some hM; obtain ⟨ck19, hM⟩ := hM
        refine r_v (elA l'v ((i2_).toNat * 3)) rfl rfl rfl (ev_v (ev_idxSl rfl rfl rfl (Rd.shp hl') ck19)) ?_
        refine r_le (Value.agg #[Value.int .i64 (((l')[(i2_).toNat]!).1), U (hi (((l')[(i2_).toNat]!).2)), U (lo (((l')[(i2_).toNat]!).2))]) (En := enc_26) ((l')[(i2_).toNat]!) ((i2_).toNat) 0 rfl rfl (rd_ro hl') (get_of ck19) rfl ?_
        replace hM := bind_sm hM; obtain ⟨r20, hr21, hM⟩ := hM
        refine r_gm (Ls := [[(b9, 36, #[vm3__0, Value.int .i64 (m3__1)])], Sm3__0]) (FL := [[(b9, 36, #[vm3__0, Value.int .i64 (m3__1)])], Sm3__0]) (RL := []) [0, 1] (oS 5 encY r20.2.1 fun s_0 => (oE (Value.int .i64 (r20.1)) [[(b9, 36, #[s_0, Value.int .i64 (r20.2.2)])]])) (some 24) 16 _ rfl rfl rfl rfl rfl (ev_callF rfl call_16 rfl) (fun own_ nw_ hn_ hs_ => bits_Row_Add_v1_g N m3__0 m3__1 (((l')[(i2_).toNat]!).1) (((l')[(i2_).toNat]!).2) _ hr21 _ b9 vm3__0 Sm3__0 hm3__0) (fun _ _ v_ L_ U_ => ⟨fun h_ => h_ _ hr21, fun h_ => by intro _ e_; cases Option.some.inj (e_.symm.trans hr21); exact h_⟩) (NiceO.sub (R := ([(b9, 36, #[vm3__0, Value.int .i64 (m3__1)])] ++ [])) (niceS fun s_0 => (niceE rfl)) (Sub.pick [[(b9, 36, #[vm3__0, Value.int .i64 (m3__1)])], Sm3__0] [0] rfl)) ?_
        rintro _ _ ⟨s22, S23, _, H24, ⟨rfl, rfl⟩, rfl⟩
        refine lx_perm (Ls := [S23, [(b9, 36, #[s22, Value.int .i64 (r20.2.2)])]]) (Ls' := [[(b9, 36, #[s22, Value.int .i64 (r20.2.2)])], S23]) [1, 0] rfl rfl ?_
        refine r_v (Value.bool (((r20.1 : Int) == 0))) rfl rfl rfl rfl ?_
        refine lx_nil ?_
        refine hK18 _ _ ?_; try clear hK18 K18
        refine A_cond (((r20.1 : Int) == 0)) rfl (fun hc25 => ?_) (fun hc25 => ?_)
        · replace hM := ifp (eq_of_beq hc25) hM
          refine A_reg ?_
          refine r_v (Value.int .i64 (n1_)) rfl rfl rfl rfl ?_
          refine r_v (l'v) rfl rfl rfl rfl ?_
          refine r_v (Value.int .i64 (i2_)) rfl rfl rfl rfl ?_
          replace hM := ck_some hM; obtain ⟨ck26, hM⟩ := hM
          refine r_v (elA l'v ((i2_).toNat * 3)) rfl rfl rfl (ev_v (ev_idxSl rfl rfl rfl (Rd.shp hl') ck26)) ?_
          refine r_v (elA l'v ((i2_).toNat * 3 + 0)) rfl rfl rfl (ev_v (ev_fieldX rfl rfl rfl rfl rfl rfl (Rd.shp hl') (pos_of ck26))) ?_
          refine r_le (Value.int .i64 (((l')[(i2_).toNat]!).1)) (En := enc_26) ((l')[(i2_).toNat]!) ((i2_).toNat) 0 rfl rfl (rd_ro hl') (get_of ck26) rfl ?_
          replace hM := ck_some hM; obtain ⟨ck27, hM⟩ := hM
          refine r_v (Value.int .i64 ((n1_ + ((l')[(i2_).toNat]!).1))) rfl rfl (wi64 rfl ck27.1 ck27.2) rfl ?_
          refine r_v (Value.int .i64 ((n1_ + ((l')[(i2_).toNat]!).1))) rfl rfl rfl rfl ?_
          refine lx_nil ?_
          refine hK17 _ _ ?_; try clear hK17 K17
          refine A_reg ?_
          refine r_v (Value.int .i64 (i2_)) rfl rfl rfl rfl ?_
          replace hM := ck_some hM; obtain ⟨ck28, hM⟩ := hM
          refine r_v (Value.int .i64 ((i2_ + 1))) rfl rfl (wi64 rfl ck28.1 ck28.2) rfl ?_
          refine r_v (Value.int .i64 ((i2_ + 1))) rfl rfl rfl rfl ?_
          refine lx_nil ?_
          refine fg _ (Sub.pick [[(b9, 36, #[s22, Value.int .i64 (r20.2.2)])], S23] [0, 1] rfl) ?_
          exact ⟨n13 + 1, by omega, n13, (n1_ + ((l')[(i2_).toNat]!).1), (i2_ + 1), r20.2.1, r20.2.2, hM, s22, S23, H24, is_mk rfl rfl, rfl⟩
        · replace hM := ifn (ne_of_beq_false hc25) hM
          refine A_skip ?_
          refine hK17 _ _ ?_; try clear hK17 K17
          refine A_reg ?_
          refine r_v (Value.int .i64 (i2_)) rfl rfl rfl rfl ?_
          replace hM := ck_some hM; obtain ⟨ck29, hM⟩ := hM
          refine r_v (Value.int .i64 ((i2_ + 1))) rfl rfl (wi64 rfl ck29.1 ck29.2) rfl ?_
          refine r_v (Value.int .i64 ((i2_ + 1))) rfl rfl rfl rfl ?_
          refine lx_nil ?_
          refine fg _ (Sub.pick [[(b9, 36, #[s22, Value.int .i64 (r20.2.2)])], S23] [0, 1] rfl) ?_
          exact ⟨n13 + 1, by omega, n13, n1_, (i2_ + 1), r20.2.1, r20.2.2, hM, s22, S23, H24, is_mk rfl rfl, rfl⟩
      · replace hM := ifn (of_decide_eq_false hc16) hM
        refine A_exit ?_
        refine hK11 _ _ ?_; try clear hK11 K11
        refine A_seq fun K30 hK30 => ?_
        refine A_regC [(some 33, false), (some 34, true)] (conG Try.prog [(33, fun v_ L_ U_ => ∀ u0_, bits_Row_All_v1_m N m3__0 m3__1 = some u0_ → (p1 (fun s_ => s_) 5 encY (u0_)) v_ L_ U_), (34, fun v_ L_ U_ => ∀ u0_, bits_Row_All_v1_m N m3__0 m3__1 = some u0_ → ∀ u1_, bits_Take_m N u0_ = some u1_ → (pO (List.flatten []) (oS 5 encY u1_.1 fun s_0 => (oB 81 #[s_0, Value.int .i64 (u1_.2)] fun b_0 => (oE (Value.pointer (some ⟨b_0, 0, none⟩)) [])))) v_ L_ U_)]) ?_
        replace hM := bind_sm hM; obtain ⟨r31, hr32, hM⟩ := hM
        refine r_g1 (Ls := [[(b9, 36, #[vm3__0, Value.int .i64 (m3__1)])], Sm3__0]) (fun s33 => s33) 5 encY (r31) 20 _ rfl rfl rfl (ev_callF rfl call_20 rfl) (fun own_ nw_ hs_ => bits_Row_All_v1_g N m3__0 m3__1 _ hr32 hs_.view b9 vm3__0 ((rd_own hm3__0 (mem_chunk (Ls := [[(b9, 36, #[vm3__0, Value.int .i64 (m3__1)])], Sm3__0]) (k := 1) rfl rfl)) own_ nw_ hs_) (blk_own 0 rfl rfl own_ nw_ hs_)) (fun _ _ v_ L_ U_ => ⟨fun h_ => h_ _ hr32, fun h_ => by intro _ e_; cases Option.some.inj (e_.symm.trans hr32); exact h_⟩) (fun s33 S34 H35 => ?_)
        replace hM := bind_sm hM; obtain ⟨r36, hr37, hM⟩ := hM
        refine r_gm (Ls := [[(b9, 36, #[vm3__0, Value.int .i64 (m3__1)])], Sm3__0, S34]) (FL := []) (RL := [[(b9, 36, #[vm3__0, Value.int .i64 (m3__1)])], Sm3__0, S34]) [] (oS 5 encY r36.1 fun s_0 => (oB 81 #[s_0, Value.int .i64 (r36.2)] fun b_0 => (oE (Value.pointer (some ⟨b_0, 0, none⟩)) []))) (some 34) 22 _ rfl rfl rfl rfl rfl (ev_callF rfl call_22 rfl) (fun own_ nw_ hn_ hs_ => bits_Take_g N r31 _ hr37 _ s33 (rd_sans (Ls := [[(b9, 36, #[vm3__0, Value.int .i64 (m3__1)])], Sm3__0, S34]) (is := []) 2 H35 rfl rfl hn_ hs_)) (fun _ _ v_ L_ U_ => ⟨fun h_ => h_ _ hr32 _ hr37, fun h_ => by intro _ e_; cases Option.some.inj (e_.symm.trans hr32); intro _ e_; cases Option.some.inj (e_.symm.trans hr37); exact h_⟩) (NiceO.sub (R := []) (niceS fun s_0 => (niceB fun b_0 => (niceE rfl))) (Sub.pick [] [] rfl)) ?_
        rintro _ _ ⟨s39, S40, _, H41, ⟨b38, _, ⟨rfl, rfl⟩, rfl⟩, rfl⟩
        refine lx_perm (Ls := [[(b9, 36, #[vm3__0, Value.int .i64 (m3__1)])], Sm3__0, S34, S40, [(b38, 81, #[s39, Value.int .i64 (r36.2)])]]) (Ls' := [[(b9, 36, #[vm3__0, Value.int .i64 (m3__1)])], [(b38, 81, #[s39, Value.int .i64 (r36.2)])], Sm3__0, S34, S40]) [0, 4, 1, 2, 3] rfl rfl ?_
        refine r_v (Value.pointer (some ⟨b38, 0, none⟩)) rfl rfl rfl rfl ?_
        refine lx_nil ?_
        refine hK30 _ _ ?_; try clear hK30 K30
        refine A_cut (fun tt ll => (shunterlaw03_BitsBack_k5 N l' n1_ r36  = some r) ∧ Is [(0, l'v), (4, Value.int .i64 (n1_)), (6, Value.pointer (some ⟨b38, 0, none⟩))] (List.flatten [[(b38, 81, #[s39, Value.int .i64 (r36.2)])], S40]) tt ll) ?_ ?_
        · refine A_seq fun K80 hK80 => ?_
          refine A_regC [(some 38, false)] (conG Try.prog [(38, fun v_ L_ U_ => ∀ u0_, bits_Row_Len_v1_m N m3__0 m3__1 = some u0_ → (pV (Value.int .i64 (u0_))) v_ L_ U_)]) ?_
          refine r_v (Value.pointer (some ⟨b38, 0, none⟩)) rfl rfl rfl rfl ?_
          refine r_v (Value.bool (false)) rfl rfl rfl rfl ?_
          refine r_v (Value.bool (false)) rfl rfl rfl rfl ?_
          refine r_y rfl ?_
          replace hM := bind_sm hM; obtain ⟨r81, hr82, hM⟩ := hM
          refine r_gv (Value.int .i64 (r81)) 19 _ rfl rfl rfl (ev_callF rfl call_19 rfl) (fun own_ nw_ hs_ => bits_Row_Len_v1_g N m3__0 m3__1 _ hr82 hs_.view b9 vm3__0 ((rd_own hm3__0 (mem_chunk (Ls := [[(b9, 36, #[vm3__0, Value.int .i64 (m3__1)])], [(b38, 81, #[s39, Value.int .i64 (r36.2)])], Sm3__0, S34, S40]) (k := 2) rfl rfl)) own_ nw_ hs_) (blk_own 0 rfl rfl own_ nw_ hs_)) (fun _ _ v_ L_ U_ => ⟨fun h_ => h_ _ hr82, fun h_ => by intro _ e_; cases Option.some.inj (e_.symm.trans hr82); exact h_⟩) ?_
          refine r_y rfl ?_
          refine r_v (Value.int .i64 (n1_)) rfl rfl rfl rfl ?_
          refine r_y rfl ?_
          refine r_v (Value.bool (((r81 : Int) != n1_))) rfl rfl rfl rfl ?_
          refine r_v (Value.bool (((r81 : Int) != n1_))) rfl rfl rfl rfl ?_
          refine lx_nil ?_
          refine hK80 _ _ ?_; try clear hK80 K80
          refine A_cond (((r81 : Int) != n1_)) rfl (fun hc83 => ?_) (fun hc83 => ?_)
          · replace hM := ifp (bne_iff_ne.1 hc83) hM
            refine A_seq fun K84 hK84 => ?_
            refine A_reg ?_
            refine r_v (Value.bool (false)) rfl rfl rfl rfl ?_
            refine lx_nil ?_
            refine hK84 _ _ ?_; try clear hK84 K84
            obtain rfl := Option.some.inj hM
            refine A_ret (fun hn => endsV (v0 := Value.bool (false)) rfl (res1 rfl))
          · replace hM := ifn (bne_f hc83) hM
            refine A_skip ?_
            refine fg _ (Sub.pick [[(b9, 36, #[vm3__0, Value.int .i64 (m3__1)])], [(b38, 81, #[s39, Value.int .i64 (r36.2)])], Sm3__0, S34, S40] [1, 4] rfl) ?_
            exact ⟨hM, is_mk rfl rfl⟩
        · clear hM; rintro t l ⟨hM, ⟨T, rfl⟩, rfl⟩
          unfold shunterlaw03_BitsBack_k5 at hM
          refine A_seq fun K42 hK42 => ?_
          refine A_seq fun K43 hK43 => ?_
          refine A_reg ?_
          refine r_v (Value.int .i64 (0)) rfl rfl rfl rfl ?_
          refine lx_nil ?_
          refine hK43 _ _ ?_; try clear hK43 K43
          refine A_block ?_
          refine A_forget _ (Sub.pick [[(b38, 81, #[s39, Value.int .i64 (r36.2)])], S40] [0, 1] rfl) ?_
          refine A_loop (fun tt ll nn => ∃ (n44 : Nat) (i6_ : Int) (s8_ : List UInt8) (m7__1 : Int), (shunterlaw03_BitsBack_l9 N l' n1_ n44 i6_ s8_ m7__1 = some r) ∧ ∃ (Ss8_ : List Bl), Sl 5 encY s39 s8_ Ss8_ ∧ Is [(0, l'v), (4, Value.int .i64 (n1_)), (6, Value.pointer (some ⟨b38, 0, none⟩)), (7, Value.int .i64 (i6_))] (List.flatten [[(b38, 81, #[s39, Value.int .i64 (m7__1)])], Ss8_]) tt ll ∧ nn = n44 + 1) (N + 1) ?_ ?_
          · exact ⟨N, 0, r36.1, r36.2, hM, S40, H41, is_mk rfl rfl, rfl⟩
          · clear hM; rintro t l _ ⟨n44, i6_, s8_, m7__1, hM, Ss8_, hs8_, ⟨⟨T, rfl⟩, rfl⟩, rfl⟩
            rcases n44 with _ | n44
            · exact absurd hM (by simp [shunterlaw03_BitsBack_l9])
            rw [shunterlaw03_BitsBack_l9] at hM
            refine A_seq fun K45 hK45 => ?_
            refine A_seq fun K46 hK46 => ?_
            refine A_reg ?_
            refine r_v (Value.int .i64 (i6_)) rfl rfl rfl rfl ?_
            refine r_v (l'v) rfl rfl rfl rfl ?_
            refine r_v (Value.int .i64 (((l').length : Int))) rfl rfl rfl (ev_lenSl rfl rfl rfl (Rd.shp hl')) ?_
            refine r_v (Value.bool (decide ((i6_ : Int) < ((l').length : Int)))) rfl rfl rfl rfl ?_
            refine lx_nil ?_
            refine hK46 _ _ ?_; try clear hK46 K46
            refine A_cond (decide ((i6_ : Int) < ((l').length : Int))) rfl (fun hc47 => ?_) (fun hc47 => ?_)
            · replace hM := ifp (of_decide_eq_true hc47) hM
              refine A_skip ?_
              refine hK45 _ _ ?_; try clear hK45 K45
              refine A_seq fun K48 hK48 => ?_
              refine A_block ?_
              refine A_seq fun K49 hK49 => ?_
              refine A_seq fun K50 hK50 => ?_
              refine A_reg ?_
              refine r_v (l'v) rfl rfl rfl rfl ?_
              refine r_v (Value.int .i64 (i6_)) rfl rfl rfl rfl ?_
              replace hM := ck_some hM; obtain ⟨ck51, hM⟩ := hM
              refine r_v (elA l'v ((i6_).toNat * 3)) rfl rfl rfl (ev_v (ev_idxSl rfl rfl rfl (Rd.shp hl') ck51)) ?_
              refine r_le (Value.agg #[Value.int .i64 (((l')[(i6_).toNat]!).1), U (hi (((l')[(i6_).toNat]!).2)), U (lo (((l')[(i6_).toNat]!).2))]) (En := enc_26) ((l')[(i6_).toNat]!) ((i6_).toNat) 0 rfl rfl (rd_ro hl') (get_of ck51) rfl ?_
              replace hM := bind_sm hM; obtain ⟨r52, hr53, hM⟩ := hM
              refine r_c (Value.bool (r52)) rfl _ _ (ev_callF rfl call_17 rfl) (shunterref02_May_g N (((l')[(i6_).toNat]!).1) (((l')[(i6_).toNat]!).2) _ hr53) ?_
              refine r_v (Value.bool (!(r52))) rfl rfl rfl rfl ?_
              refine lx_nil ?_
              refine hK50 _ _ ?_; try clear hK50 K50
              refine A_cond (!(r52)) rfl (fun hc54 => ?_) (fun hc54 => ?_)
              · replace hM := ifn (Bool.eq_false_iff.1 (not_t hc54)) hM
                refine A_exit ?_
                refine hK48 _ _ ?_; try clear hK48 K48
                refine A_reg ?_
                refine r_v (Value.int .i64 (i6_)) rfl rfl rfl rfl ?_
                replace hM := ck_some hM; obtain ⟨ck55, hM⟩ := hM
                refine r_v (Value.int .i64 ((i6_ + 1))) rfl rfl (wi64 rfl ck55.1 ck55.2) rfl ?_
                refine r_v (Value.int .i64 ((i6_ + 1))) rfl rfl rfl rfl ?_
                refine lx_nil ?_
                refine fg _ (Sub.pick [[(b38, 81, #[s39, Value.int .i64 (m7__1)])], Ss8_] [0, 1] rfl) ?_
                exact ⟨n44 + 1, by omega, n44, (i6_ + 1), s8_, m7__1, hM, Ss8_, hs8_, is_mk rfl rfl, rfl⟩
              · replace hM := ifp (not_f hc54) hM
                refine A_skip ?_
                refine hK49 _ _ ?_; try clear hK49 K49
                refine A_seq fun K56 hK56 => ?_
                refine A_regC [(some 61, true)] (conG Try.prog [(61, fun v_ L_ U_ => ∀ u0_, bits_Taker_Vec_v1_m N s8_ m7__1 (((l')[(i6_).toNat]!).1) = some u0_ → (pO (List.flatten [[(b38, 81, #[s39, Value.int .i64 (m7__1)])], Ss8_]) (oI 5 encY s39 u0_.2.2.2.1 (oE (Value.tuple #[Value.agg #[Value.int .i64 (u0_.1), U (hi (u0_.2.1)), U (lo (u0_.2.1))], Value.int .i64 (u0_.2.2.1)]) [[(b38, 81, #[s39, Value.int .i64 (u0_.2.2.2.2)])]]))) v_ L_ U_)]) ?_
                refine r_v (Value.pointer (some ⟨b38, 0, none⟩)) rfl rfl rfl rfl ?_
                refine r_v (l'v) rfl rfl rfl rfl ?_
                refine r_v (Value.int .i64 (i6_)) rfl rfl rfl rfl ?_
                replace hM := ck_some hM; obtain ⟨ck57, hM⟩ := hM
                refine r_v (elA l'v ((i6_).toNat * 3)) rfl rfl rfl (ev_v (ev_idxSl rfl rfl rfl (Rd.shp hl') ck57)) ?_
                refine r_v (elA l'v ((i6_).toNat * 3 + 0)) rfl rfl rfl (ev_v (ev_fieldX rfl rfl rfl rfl rfl rfl (Rd.shp hl') (pos_of ck57))) ?_
                refine r_le (Value.int .i64 (((l')[(i6_).toNat]!).1)) (En := enc_26) ((l')[(i6_).toNat]!) ((i6_).toNat) 0 rfl rfl (rd_ro hl') (get_of ck57) rfl ?_
                replace hM := bind_sm hM; obtain ⟨r58, hr59, hM⟩ := hM
                replace hM := ck_some hM; obtain ⟨ck60, hM⟩ := hM
                refine r_gm (Ls := [[(b38, 81, #[s39, Value.int .i64 (m7__1)])], Ss8_]) (FL := [[(b38, 81, #[s39, Value.int .i64 (m7__1)])], Ss8_]) (RL := []) [0, 1] (oI 5 encY s39 r58.2.2.2.1 (oE (Value.tuple #[Value.agg #[Value.int .i64 (r58.1), U (hi (r58.2.1)), U (lo (r58.2.1))], Value.int .i64 (r58.2.2.1)]) [[(b38, 81, #[s39, Value.int .i64 (r58.2.2.2.2)])]])) (some 61) 26 _ rfl rfl rfl rfl rfl (ev_callF rfl call_26 rfl) (fun own_ nw_ hn_ hs_ => bits_Taker_Vec_v1_g N s8_ m7__1 (((l')[(i6_).toNat]!).1) _ hr59 _ b38 s39 Ss8_ hs8_) (fun _ _ v_ L_ U_ => ⟨fun h_ => h_ _ hr59, fun h_ => by intro _ e_; cases Option.some.inj (e_.symm.trans hr59); exact h_⟩) (NiceO.sub (R := (Ss8_ ++ ([(b38, 81, #[s39, Value.int .i64 (m7__1)])] ++ []))) (niceI hs8_ ck60 (niceE rfl)) (Sub.pick [[(b38, 81, #[s39, Value.int .i64 (m7__1)])], Ss8_] [1, 0] rfl)) ?_
                rintro _ _ ⟨S61, _, H62, ⟨rfl, rfl⟩, rfl⟩
                refine lx_perm (Ls := [S61, [(b38, 81, #[s39, Value.int .i64 (r58.2.2.2.2)])]]) (Ls' := [[(b38, 81, #[s39, Value.int .i64 (r58.2.2.2.2)])], S61]) [1, 0] rfl rfl ?_
                refine r_v (Value.tuple #[Value.agg #[Value.int .i64 (r58.1), U (hi (r58.2.1)), U (lo (r58.2.1))], Value.int .i64 (r58.2.2.1)]) rfl rfl rfl rfl ?_
                refine r_v (Value.agg #[Value.int .i64 (r58.1), U (hi (r58.2.1)), U (lo (r58.2.1))]) rfl rfl rfl rfl ?_
                refine r_v (Value.int .i64 (r58.2.2.1)) rfl rfl rfl rfl ?_
                refine r_a (26, #[Value.int .i64 (0), U (0#64), U (0#64)]) rfl rfl rfl (fun b63 => ?_) (.inr rfl)
                refine r_s (List.flatten [[(b63, 26, #[Value.int .i64 (r58.1), U (hi (r58.2.1)), U (lo (r58.2.1))])], [(b38, 81, #[s39, Value.int .i64 (r58.2.2.2.2)])], S61]) 0 _ _ _ (#[Value.int .i64 (0), U (0#64), U (0#64)]) (#[Value.int .i64 (r58.1), U (hi (r58.2.1)), U (lo (r58.2.1))]) (#[Value.int .i64 (r58.1), U (hi (r58.2.1)), U (lo (r58.2.1))]) rfl rfl rfl rfl (.of rfl rfl) rfl rfl ?_
                refine r_v (Value.int .i64 (r58.2.2.1)) rfl rfl rfl rfl ?_
                refine lx_nil ?_
                refine hK56 _ _ ?_; try clear hK56 K56
                refine A_seq fun K64 hK64 => ?_
                refine A_draw [] (by decide +kernel) (fun hn => sep_nil) ?_
                refine r_l (Value.agg #[Value.int .i64 (r58.1), U (hi (r58.2.1)), U (lo (r58.2.1))]) 0 _ _ _ _ rfl rfl rfl rfl rfl ?_
                refine r_v (l'v) rfl rfl rfl rfl ?_
                refine r_v (Value.int .i64 (i6_)) rfl rfl rfl rfl ?_
                replace hM := ck_some hM; obtain ⟨ck65, hM⟩ := hM
                refine r_v (elA l'v ((i6_).toNat * 3)) rfl rfl rfl (ev_v (ev_idxSl rfl rfl rfl (Rd.shp hl') ck65)) ?_
                refine r_le (Value.agg #[Value.int .i64 (((l')[(i6_).toNat]!).1), U (hi (((l')[(i6_).toNat]!).2)), U (lo (((l')[(i6_).toNat]!).2))]) (En := enc_26) ((l')[(i6_).toNat]!) ((i6_).toNat) 0 rfl rfl (rd_ro hl') (get_of ck65) rfl ?_
                refine r_v (Value.bool (!(((r58.1) == (((l')[(i6_).toNat]!).1)) && ((r58.2.1) == (((l')[(i6_).toNat]!).2))))) rfl rfl rfl (ev_binNe rfl rfl eg_26 (eqst_26 (r58.1) (((l')[(i6_).toNat]!).1) (r58.2.1) (((l')[(i6_).toNat]!).2))) ?_
                refine r_v (Value.bool (!(((r58.1) == (((l')[(i6_).toNat]!).1)) && ((r58.2.1) == (((l')[(i6_).toNat]!).2))))) rfl rfl rfl rfl ?_
                rcases hg66 : (!(((r58.1) == (((l')[(i6_).toNat]!).1)) && ((r58.2.1) == (((l')[(i6_).toNat]!).2)))) with _ | _
                · replace hM := ifp (not_f hg66) hM
                  refine r_y rfl ?_
                  refine r_v (Value.int .i64 (r58.2.2.1)) rfl rfl rfl rfl ?_
                  refine r_y rfl ?_
                  refine r_v (Value.bool (((r58.2.2.1 : Int) != 0))) rfl rfl rfl rfl ?_
                  refine r_v (Value.bool (((r58.2.2.1 : Int) != 0))) rfl rfl rfl rfl ?_
                  refine lx_nil ?_
                  refine hK64 _ _ ?_; try clear hK64 K64
                  refine A_gen [(0, l'v), (4, Value.int .i64 (n1_)), (6, Value.pointer (some ⟨b38, 0, none⟩)), (7, Value.int .i64 (i6_)), (73, Value.bool (((r58.2.2.1 : Int) != 0)))] rfl (fun T => ?_)
                  refine A_cond (((r58.2.2.1 : Int) != 0)) rfl (fun hc67 => ?_) (fun hc67 => ?_)
                  · replace hM := ifp (bne_iff_ne.1 hc67) hM
                    refine A_seq fun K68 hK68 => ?_
                    refine A_reg ?_
                    refine r_v (Value.bool (false)) rfl rfl rfl rfl ?_
                    refine lx_nil ?_
                    refine hK68 _ _ ?_; try clear hK68 K68
                    obtain rfl := Option.some.inj hM
                    refine A_ret (fun hn => endsV (v0 := Value.bool (false)) rfl (res1 rfl))
                  · replace hM := ifn (bne_f hc67) hM
                    refine A_skip ?_
                    refine hK48 _ _ ?_; try clear hK48 K48
                    refine A_reg ?_
                    refine r_v (Value.int .i64 (i6_)) rfl rfl rfl rfl ?_
                    replace hM := ck_some hM; obtain ⟨ck69, hM⟩ := hM
                    refine r_v (Value.int .i64 ((i6_ + 1))) rfl rfl (wi64 rfl ck69.1 ck69.2) rfl ?_
                    refine r_v (Value.int .i64 ((i6_ + 1))) rfl rfl rfl rfl ?_
                    refine lx_nil ?_
                    refine fg _ (Sub.pick [[(b63, 26, #[Value.int .i64 (r58.1), U (hi (r58.2.1)), U (lo (r58.2.1))])], [(b38, 81, #[s39, Value.int .i64 (r58.2.2.2.2)])], S61] [1, 2] rfl) ?_
                    exact ⟨n44 + 1, by omega, n44, (i6_ + 1), r58.2.2.2.1, r58.2.2.2.2, hM, S61, H62, is_mk rfl rfl, rfl⟩
                · replace hM := ifn (Bool.eq_false_iff.1 (not_t hg66)) hM
                  refine r_n true rfl (by decide) rfl ?_
                  refine r_n true rfl (by decide) rfl ?_
                  refine r_v (Value.bool (true)) rfl rfl rfl rfl ?_
                  refine lx_nil ?_
                  refine hK64 _ _ ?_; try clear hK64 K64
                  refine A_gen [(0, l'v), (4, Value.int .i64 (n1_)), (6, Value.pointer (some ⟨b38, 0, none⟩)), (7, Value.int .i64 (i6_)), (73, Value.bool (true))] rfl (fun T => ?_)
                  refine A_cond true rfl (fun _ => ?_) (fun h_ => nomatch h_)
                  refine A_seq fun K70 hK70 => ?_
                  refine A_reg ?_
                  refine r_v (Value.bool (false)) rfl rfl rfl rfl ?_
                  refine lx_nil ?_
                  refine hK70 _ _ ?_; try clear hK70 K70
                  obtain rfl := Option.some.inj hM
                  refine A_ret (fun hn => endsV (v0 := Value.bool (false)) rfl (res1 rfl))
            · replace hM := ifn (of_decide_eq_false hc47) hM
              refine A_exit ?_
              refine hK42 _ _ ?_; try clear hK42 K42
              refine A_seq fun K71 hK71 => ?_
              refine A_regC [(some 75, false), (some 79, false)] (conG Try.prog [(75, fun v_ L_ U_ => ∀ u0_, bits_Taker_Left_v1_m N s8_ m7__1 = some u0_ → (pV (Value.int .i64 (u0_))) v_ L_ U_), (79, fun v_ L_ U_ => ∀ u0_, bits_Taker_At_v1_m N s8_ m7__1 = some u0_ → (pV (Value.int .i64 (u0_))) v_ L_ U_)]) ?_
              refine r_v (Value.pointer (some ⟨b38, 0, none⟩)) rfl rfl rfl rfl ?_
              replace hM := bind_sm hM; obtain ⟨r72, hr73, hM⟩ := hM
              refine r_gv (Value.int .i64 (r72)) 28 _ rfl rfl rfl (ev_callF rfl call_28 rfl) (fun own_ nw_ hs_ => bits_Taker_Left_v1_g N s8_ m7__1 _ hr73 hs_.view b38 s39 ((rd_own hs8_ (mem_chunk (Ls := [[(b38, 81, #[s39, Value.int .i64 (m7__1)])], Ss8_]) (k := 1) rfl rfl)) own_ nw_ hs_) (blk_own 0 rfl rfl own_ nw_ hs_)) (fun _ _ v_ L_ U_ => ⟨fun h_ => h_ _ hr73, fun h_ => by intro _ e_; cases Option.some.inj (e_.symm.trans hr73); exact h_⟩) ?_
              refine r_v (Value.bool (decide ((r72 : Int) < 8))) rfl rfl rfl rfl ?_
              refine r_v (Value.bool (decide ((r72 : Int) < 8))) rfl rfl rfl rfl ?_
              rcases hg74 : (decide ((r72 : Int) < 8)) with _ | _
              · replace hM := ifn (of_decide_eq_false hg74) hM
                refine r_n false rfl (by decide) rfl ?_
                refine r_n false rfl (by decide) rfl ?_
                refine r_n false rfl (by decide) rfl ?_
                refine r_n false rfl (by decide) rfl ?_
                refine r_v (Value.bool (false)) rfl rfl rfl rfl ?_
                refine r_v (Value.bool (false)) rfl rfl rfl rfl ?_
                refine r_n false rfl (by decide) rfl ?_
                refine r_v (Value.bool (false)) rfl rfl rfl rfl ?_
                refine r_v (Value.bool (false)) rfl rfl rfl rfl ?_
                refine lx_nil ?_
                refine hK71 _ _ ?_; try clear hK71 K71
                obtain rfl := Option.some.inj hM
                refine A_ret (fun hn => endsV (v0 := Value.bool (false)) rfl (res1 rfl))
              · replace hM := ifp (of_decide_eq_true hg74) hM
                refine r_y rfl ?_
                refine r_v (Value.pointer (some ⟨b38, 0, none⟩)) rfl rfl rfl rfl ?_
                refine r_y rfl ?_
                replace hM := bind_sm hM; obtain ⟨r75, hr76, hM⟩ := hM
                refine r_gv (Value.int .i64 (r75)) 27 _ rfl rfl rfl (ev_callF rfl call_27 rfl) (fun own_ nw_ hs_ => bits_Taker_At_v1_g N s8_ m7__1 _ hr76 hs_.view b38 s39 ((rd_own hs8_ (mem_chunk (Ls := [[(b38, 81, #[s39, Value.int .i64 (m7__1)])], Ss8_]) (k := 1) rfl rfl)) own_ nw_ hs_) (blk_own 0 rfl rfl own_ nw_ hs_)) (fun _ _ v_ L_ U_ => ⟨fun h_ => h_ _ hr76, fun h_ => by intro _ e_; cases Option.some.inj (e_.symm.trans hr76); exact h_⟩) ?_
                refine r_y rfl ?_
                refine r_v (Value.int .i64 (n1_)) rfl rfl rfl rfl ?_
                refine r_y rfl ?_
                refine r_v (Value.bool (((r75 : Int) == n1_))) rfl rfl rfl rfl ?_
                refine r_v (Value.bool (((r75 : Int) == n1_))) rfl rfl rfl rfl ?_
                refine r_v (Value.bool (((r75 : Int) == n1_))) rfl rfl rfl rfl ?_
                rcases hg77 : (((r75 : Int) == n1_)) with _ | _
                · replace hM := ifn (ne_of_beq_false hg77) hM
                  refine r_n false rfl (by decide) rfl ?_
                  refine r_v (Value.bool (false)) rfl rfl rfl rfl ?_
                  refine r_v (Value.bool (false)) rfl rfl rfl rfl ?_
                  refine lx_nil ?_
                  refine hK71 _ _ ?_; try clear hK71 K71
                  obtain rfl := Option.some.inj hM
                  refine A_ret (fun hn => endsV (v0 := Value.bool (false)) rfl (res1 rfl))
                · replace hM := ifp (eq_of_beq hg77) hM
                  refine r_y rfl ?_
                  replace hM := bind_sm hM; obtain ⟨r78, hr79, hM⟩ := hM
                  refine r_c (Value.bool (r78)) rfl _ _ (ev_callF rfl call_9 rfl) (shunterlaw03_lives_g N  _ hr79) ?_
                  refine r_v (Value.bool (r78)) rfl rfl rfl rfl ?_
                  refine r_v (Value.bool (r78)) rfl rfl rfl rfl ?_
                  refine lx_nil ?_
                  refine hK71 _ _ ?_; try clear hK71 K71
                  obtain rfl := Option.some.inj hM
                  refine A_ret (fun hn => endsV (v0 := Value.bool (r78)) rfl (res1 rfl))
end Go.Proofs.Ytmiabhodfcidcaa
