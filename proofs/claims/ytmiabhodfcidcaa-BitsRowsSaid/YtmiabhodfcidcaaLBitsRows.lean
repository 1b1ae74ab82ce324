/- models of functions and their walks -/
import Derived.Test.YtmiabhodfcidcaaBb
namespace Go.Proofs.Ytmiabhodfcidcaa
open Go Go.RowKit Go.Eng
def shunterlaw03_BitsRows_k9 (N : Nat) (i2_ : Int) (rec_shunterlaw03_BitsRows_l4 : List Bool → Int → List UInt8 → Int → Option (Bool)) (l5_ : List Bool) (e6_ : Int) (want7_ : Int) (m8__0 : List UInt8) (m8__1 : Int) : Option (Bool) := if (e6_ : Int) ≠ want7_ then some (false) else (bits_Row_Len_v1_m N m8__0 m8__1).bind fun r31 => if (r31 : Int) ≠ ((l5_).length : Int) then some (false) else (bits_Row_All_v1_m N m8__0 m8__1).bind fun r34 => (shunterref03_Bytes_m N l5_).bind fun r39 => if (r34) ≠ (r39) then some (false) else ck ((-9223372036854775808 ≤ (i2_ + 1) ∧ (i2_ + 1) ≤ 9223372036854775807)) (rec_shunterlaw03_BitsRows_l4 (l5_) ((i2_ + 1)) (m8__0) (m8__1))
def shunterlaw03_BitsRows_l4 (N : Nat) (ops : List (Int × Int × Int × (BitVec 128) × (List UInt8))) : Nat → List Bool → Int → List UInt8 → Int → Option (Bool)
  | 0, _, _, _, _ => none
  | n13 + 1, l1_, i2_, m3__0, m3__1 => if (i2_ : Int) < ((ops).length : Int) then ck (0 ≤ i2_ ∧ i2_ < ((ops).length : Int)) (if ((((ops)[(i2_).toNat]!.2.2.2.2).length : Int) : Int) > 200 then (shunterlaw03_lives_m N ).bind fun r26 => some (r26) else ck (0 ≤ i2_ ∧ i2_ < ((ops).length : Int)) (if ((ops)[(i2_).toNat]!.1 : Int) = 1 then ck (0 ≤ i2_ ∧ i2_ < ((ops).length : Int)) ((bits_Row_Bytes_v1_m N m3__0 m3__1 ((ops)[(i2_).toNat]!.2.2.2.2)).bind fun r60 => ck (0 ≤ ((l1_).length : Int) ∧ ((l1_).length : Int) ≤ 9223372036854775807) (if ((((l1_).length : Int)) % 8 : Int) ≠ 0 then shunterlaw03_BitsRows_k9 N i2_ (shunterlaw03_BitsRows_l4 N ops n13) (l1_) (r60.1) (13) (r60.2.1) (r60.2.2) else ck (0 ≤ i2_ ∧ i2_ < ((ops).length : Int)) ((shunterref03_Bits_m N ((ops)[(i2_).toNat]!.2.2.2.2)).bind fun r72 => ck ((l1_).length + (r72).length ≤ 140737488355328) (shunterlaw03_BitsRows_k9 N i2_ (shunterlaw03_BitsRows_l4 N ops n13) ((l1_ ++ r72)) (r60.1) (0) (r60.2.1) (r60.2.2))))) else ck (0 ≤ i2_ ∧ i2_ < ((ops).length : Int)) ((bits_Row_Add_v1_m N m3__0 m3__1 ((ops)[(i2_).toNat]!.2.2.1) ((ops)[(i2_).toNat]!.2.2.2.1)).bind fun r86 => ck (0 ≤ i2_ ∧ i2_ < ((ops).length : Int)) ((shunterref02_May_m N ((ops)[(i2_).toNat]!.2.2.1) ((ops)[(i2_).toNat]!.2.2.2.1)).bind fun r96 => if (r96) = true then ck (0 ≤ i2_ ∧ i2_ < ((ops).length : Int)) ((shunterref03_Of_m N ((ops)[(i2_).toNat]!.2.2.1) ((ops)[(i2_).toNat]!.2.2.2.1)).bind fun r103 => ck ((l1_).length + (r103).length ≤ 140737488355328) (shunterlaw03_BitsRows_k9 N i2_ (shunterlaw03_BitsRows_l4 N ops n13) ((l1_ ++ r103)) (r86.1) (0) (r86.2.1) (r86.2.2))) else shunterlaw03_BitsRows_k9 N i2_ (shunterlaw03_BitsRows_l4 N ops n13) (l1_) (r86.1) (1) (r86.2.1) (r86.2.2))))) else (shunterlaw03_lives_m N ).bind fun r113 => some (r113)
def shunterlaw03_BitsRows_m (N : Nat) (ops : List (Int × Int × Int × (BitVec 128) × (List UInt8))) : Option (Bool) := if (((ops).length : Int) : Int) > 30 then (shunterlaw03_lives_m N ).bind fun r6 => some (r6) else shunterlaw03_BitsRows_l4 N ops N ([]) (0) ([]) (0)
set_option maxRecDepth 100000 in
set_option maxHeartbeats 400000 in
theorem shunterlaw03_BitsRows_g (N : Nat) (ops : List (Int × Int × Int × (BitVec 128) × (List UInt8))) (r : Bool) (hM : shunterlaw03_BitsRows_m N ops = some r) (ro : Addr → Option Value) (opsv : Value) (hops : RdN encr_39 ro opsv ops) : Does Try.prog 5 #[opsv] ro [] (pV (Value.bool (r))) := by
  unfold shunterlaw03_BitsRows_m at hM
  refine does_of_A follows Try.func5 rfl 89 rfl (upd (fun _ => undef) 0 (opsv)) (by funext k; match k with | 0 => rfl | k + 1 => rfl) (fun base0_ => ?_)
  refine A_seq fun K1 hK1 => ?_
  refine A_reg ?_
  refine r_v (Value.bool (false)) rfl rfl rfl rfl ?_
  refine lx_nil ?_
  refine hK1 _ _ ?_; try clear hK1 K1
  refine A_seq fun K2 hK2 => ?_
  refine A_seq fun K3 hK3 => ?_
  refine A_reg ?_
  refine r_v (opsv) rfl rfl rfl rfl ?_
  refine r_v (Value.int .i64 (((ops).length : Int))) rfl rfl rfl (ev_lenSl rfl rfl rfl (RdN.shp hops)) ?_
  refine r_v (Value.bool (decide ((((ops).length : Int) : Int) > 30))) rfl rfl rfl rfl ?_
  refine lx_nil ?_
  refine hK3 _ _ ?_; try clear hK3 K3
  refine A_cond (decide ((((ops).length : Int) : Int) > 30)) rfl (fun hc4 => ?_) (fun hc4 => ?_)
  · replace hM := ifp (of_decide_eq_true hc4) hM
    refine A_seq fun K5 hK5 => ?_
    refine A_reg ?_
    replace hM := bind_sm hM; obtain ⟨r6, hr7, hM⟩ := hM
    refine r_c (Value.bool (r6)) rfl _ _ (ev_callF rfl call_9 rfl) (shunterlaw03_lives_g N  _ hr7) ?_
    refine r_v (Value.bool (r6)) rfl rfl rfl rfl ?_
    refine lx_nil ?_
    refine hK5 _ _ ?_; try clear hK5 K5
    obtain rfl := Option.some.inj hM
    refine A_ret (fun hn => endsV (v0 := Value.bool (r6)) rfl (res1 rfl))
  · replace hM := ifn (of_decide_eq_false hc4) hM
    refine A_skip ?_
    refine hK2 _ _ ?_; try clear hK2 K2
    refine A_seq fun K8 hK8 => ?_
    refine A_reg ?_
    refine r_a (36, #[Value.slice none 0 0, Value.int .i64 (0)]) rfl rfl rfl (fun b9 => ?_) (.inr rfl)
    refine lx_nil ?_
    refine hK8 _ _ ?_; try clear hK8 K8
    refine A_seq fun K10 hK10 => ?_
    refine A_reg ?_
    refine r_v (Value.slice none 0 0) rfl rfl rfl rfl ?_
    refine lx_nil ?_
    refine hK10 _ _ ?_; try clear hK10 K10
    refine A_seq fun K11 hK11 => ?_
    refine A_seq fun K12 hK12 => ?_
    refine A_reg ?_
    refine r_v (Value.int .i64 (0)) rfl rfl rfl rfl ?_
    refine lx_nil ?_
    refine hK12 _ _ ?_; try clear hK12 K12
    refine A_block ?_
    refine A_forget _ (Sub.pickE (Ls := [[(b9, 36, #[Value.slice none 0 0, Value.int .i64 (0)])], [], []]) (Ls0 := [[(b9, 36, #[Value.slice none 0 0, Value.int .i64 (0)])]]) rfl [0, 1, 2] rfl) ?_
    refine A_loop (fun tt ll nn => ∃ (n13 : Nat) (l1_ : List Bool) (i2_ : Int) (m3__0 : List UInt8) (m3__1 : Int), (shunterlaw03_BitsRows_l4 N ops n13 l1_ i2_ m3__0 m3__1 = some r) ∧ ∃ (vl1_ : Value) (Sl1_ : List Bl), Sl 4 encB vl1_ l1_ Sl1_ ∧ ∃ (vm3__0 : Value) (Sm3__0 : List Bl), Sl 5 encY vm3__0 m3__0 Sm3__0 ∧ Is [(0, opsv), (3, Value.pointer (some ⟨b9, 0, none⟩)), (4, vl1_), (5, Value.int .i64 (i2_))] (List.flatten [[(b9, 36, #[vm3__0, Value.int .i64 (m3__1)])], Sl1_, Sm3__0]) tt ll ∧ nn = n13 + 1) (N + 1) ?_ ?_
    · exact ⟨N, [], 0, [], 0, hM, Value.slice none 0 0, [], Sl.nil, Value.slice none 0 0, [], Sl.nil, is_mk rfl rfl, rfl⟩
    · clear hM; rintro t l _ ⟨n13, l1_, i2_, m3__0, m3__1, hM, vl1_, Sl1_, hl1_, vm3__0, Sm3__0, hm3__0, ⟨⟨T, rfl⟩, rfl⟩, rfl⟩
      rcases n13 with _ | n13
      · exact absurd hM (by simp [shunterlaw03_BitsRows_l4])
      rw [shunterlaw03_BitsRows_l4] at hM
      refine A_seq fun K14 hK14 => ?_
      refine A_seq fun K15 hK15 => ?_
      refine A_reg ?_
      refine r_v (Value.int .i64 (i2_)) rfl rfl rfl rfl ?_
      refine r_v (opsv) rfl rfl rfl rfl ?_
      refine r_v (Value.int .i64 (((ops).length : Int))) rfl rfl rfl (ev_lenSl rfl rfl rfl (RdN.shp hops)) ?_
      refine r_v (Value.bool (decide ((i2_ : Int) < ((ops).length : Int)))) rfl rfl rfl rfl ?_
      refine lx_nil ?_
      refine hK15 _ _ ?_; try clear hK15 K15
      refine A_cond (decide ((i2_ : Int) < ((ops).length : Int))) rfl (fun hc16 => ?_) (fun hc16 => ?_)
      · replace hM := ifp (of_decide_eq_true hc16) hM
        refine A_skip ?_
        refine hK14 _ _ ?_; try clear hK14 K14
        refine A_seq fun K17 hK17 => ?_
        refine A_block ?_
        refine A_seq fun K18 hK18 => ?_
        refine A_seq fun K19 hK19 => ?_
        refine A_reg ?_
        refine r_v (opsv) rfl rfl rfl rfl ?_
        refine r_v (Value.int .i64 (i2_)) rfl rfl rfl rfl ?_
        replace hM := ck_some hM; obtain ⟨ck20, hM⟩ := hM
        obtain ⟨_, ⟨s21, hs22, rfl⟩, hat23⟩ := RdN.at (E := encr_39) hops (get_of ck20)
        refine r_v (elA opsv ((i2_).toNat * 6)) rfl rfl rfl (ev_v (ev_idxSl rfl rfl rfl (RdN.shp hops) ck20)) ?_
        refine r_v (elA opsv ((i2_).toNat * 6 + 5)) rfl rfl rfl (ev_v (ev_fieldX rfl rfl rfl rfl rfl rfl (RdN.shp hops) (pos_of ck20))) ?_
        refine r_at (s21) (vs := [Value.int .i64 ((ops)[(i2_).toNat]!.1), Value.int .i64 ((ops)[(i2_).toNat]!.2.1), Value.int .i64 ((ops)[(i2_).toNat]!.2.2.1), U (hi ((ops)[(i2_).toNat]!.2.2.2.1)), U (lo ((ops)[(i2_).toNat]!.2.2.2.1)), s21]) ((i2_).toNat * 6) 5 rfl rfl (fun own_ nw_ hs_ => At.mono hs_.ro_cell hat23) rfl ?_
        refine r_v (Value.int .i64 ((((ops)[(i2_).toNat]!.2.2.2.2).length : Int))) rfl rfl rfl (ev_lenSl rfl rfl rfl (Rd.shp hs22)) ?_
        refine r_v (Value.bool (decide (((((ops)[(i2_).toNat]!.2.2.2.2).length : Int) : Int) > 200))) rfl rfl rfl rfl ?_
        refine lx_nil ?_
        refine hK19 _ _ ?_; try clear hK19 K19
        refine A_cond (decide (((((ops)[(i2_).toNat]!.2.2.2.2).length : Int) : Int) > 200)) rfl (fun hc24 => ?_) (fun hc24 => ?_)
        · replace hM := ifp (of_decide_eq_true hc24) hM
          refine A_seq fun K25 hK25 => ?_
          refine A_reg ?_
          replace hM := bind_sm hM; obtain ⟨r26, hr27, hM⟩ := hM
          refine r_c (Value.bool (r26)) rfl _ _ (ev_callF rfl call_9 rfl) (shunterlaw03_lives_g N  _ hr27) ?_
          refine r_v (Value.bool (r26)) rfl rfl rfl rfl ?_
          refine lx_nil ?_
          refine hK25 _ _ ?_; try clear hK25 K25
          obtain rfl := Option.some.inj hM
          refine A_ret (fun hn => endsV (v0 := Value.bool (r26)) rfl (res1 rfl))
        · replace hM := ifn (of_decide_eq_false hc24) hM
          refine A_skip ?_
          refine hK18 _ _ ?_; try clear hK18 K18
          refine A_seq fun K28 hK28 => ?_
          refine A_reg ?_
          refine r_v (Value.int .i64 (0)) rfl rfl rfl rfl ?_
          refine r_v (Value.int .i64 (0)) rfl rfl rfl rfl ?_
          refine lx_nil ?_
          refine hK28 _ _ ?_; try clear hK28 K28
          refine A_cut (fun tt ll => ∃ (l5_ : List Bool) (e6_ : Int) (want7_ : Int) (m8__0 : List UInt8) (m8__1 : Int), (shunterlaw03_BitsRows_k9 N i2_ (shunterlaw03_BitsRows_l4 N ops n13) l5_ e6_ want7_ m8__0 m8__1 = some r) ∧ ∃ (vl5_ : Value) (Sl5_ : List Bl), Sl 4 encB vl5_ l5_ Sl5_ ∧ ∃ (vm8__0 : Value) (Sm8__0 : List Bl), Sl 5 encY vm8__0 m8__0 Sm8__0 ∧ Is [(0, opsv), (3, Value.pointer (some ⟨b9, 0, none⟩)), (4, vl5_), (5, Value.int .i64 (i2_)), (6, Value.int .i64 (e6_)), (7, Value.int .i64 (want7_))] (List.flatten [[(b9, 36, #[vm8__0, Value.int .i64 (m8__1)])], Sl5_, Sm8__0]) tt ll) ?_ ?_
          · refine A_seq fun K49 hK49 => ?_
            refine A_reg ?_
            refine r_v (opsv) rfl rfl rfl rfl ?_
            refine r_v (Value.int .i64 (i2_)) rfl rfl rfl rfl ?_
            replace hM := ck_some hM; obtain ⟨ck50, hM⟩ := hM
            obtain ⟨_, ⟨s51, hs52, rfl⟩, hat53⟩ := RdN.at (E := encr_39) hops (get_of ck50)
            refine r_v (elA opsv ((i2_).toNat * 6)) rfl rfl rfl (ev_v (ev_idxSl rfl rfl rfl (RdN.shp hops) ck50)) ?_
            refine r_v (elA opsv ((i2_).toNat * 6 + 0)) rfl rfl rfl (ev_v (ev_fieldX rfl rfl rfl rfl rfl rfl (RdN.shp hops) (pos_of ck50))) ?_
            refine r_at (Value.int .i64 ((ops)[(i2_).toNat]!.1)) (vs := [Value.int .i64 ((ops)[(i2_).toNat]!.1), Value.int .i64 ((ops)[(i2_).toNat]!.2.1), Value.int .i64 ((ops)[(i2_).toNat]!.2.2.1), U (hi ((ops)[(i2_).toNat]!.2.2.2.1)), U (lo ((ops)[(i2_).toNat]!.2.2.2.1)), s51]) ((i2_).toNat * 6) 0 rfl rfl (fun own_ nw_ hs_ => At.mono hs_.ro_cell hat53) rfl ?_
            refine r_v (Value.bool ((((ops)[(i2_).toNat]!.1 : Int) == 1))) rfl rfl rfl rfl ?_
            refine lx_nil ?_
            refine hK49 _ _ ?_; try clear hK49 K49
            refine A_cond ((((ops)[(i2_).toNat]!.1 : Int) == 1)) rfl (fun hc54 => ?_) (fun hc54 => ?_)
            · replace hM := ifp (eq_of_beq hc54) hM
              refine A_seq fun K55 hK55 => ?_
              refine A_regC [(some 37, true)] (conG Try.prog [(37, fun v_ L_ U_ => ∀ u0_, bits_Row_Bytes_v1_m N m3__0 m3__1 ((ops)[(i2_).toNat]!.2.2.2.2) = some u0_ → (pO (List.flatten [[(b9, 36, #[vm3__0, Value.int .i64 (m3__1)])], Sm3__0]) (oS 5 encY u0_.2.1 fun s_0 => (oE (Value.int .i64 (u0_.1)) [[(b9, 36, #[s_0, Value.int .i64 (u0_.2.2)])]]))) v_ L_ U_)]) ?_
              refine r_v (opsv) rfl rfl rfl rfl ?_
              refine r_v (Value.int .i64 (i2_)) rfl rfl rfl rfl ?_
              replace hM := ck_some hM; obtain ⟨ck56, hM⟩ := hM
              obtain ⟨_, ⟨s57, hs58, rfl⟩, hat59⟩ := RdN.at (E := encr_39) hops (get_of ck56)
              refine r_v (elA opsv ((i2_).toNat * 6)) rfl rfl rfl (ev_v (ev_idxSl rfl rfl rfl (RdN.shp hops) ck56)) ?_
              refine r_v (elA opsv ((i2_).toNat * 6 + 5)) rfl rfl rfl (ev_v (ev_fieldX rfl rfl rfl rfl rfl rfl (RdN.shp hops) (pos_of ck56))) ?_
              refine r_at (s57) (vs := [Value.int .i64 ((ops)[(i2_).toNat]!.1), Value.int .i64 ((ops)[(i2_).toNat]!.2.1), Value.int .i64 ((ops)[(i2_).toNat]!.2.2.1), U (hi ((ops)[(i2_).toNat]!.2.2.2.1)), U (lo ((ops)[(i2_).toNat]!.2.2.2.1)), s57]) ((i2_).toNat * 6) 5 rfl rfl (fun own_ nw_ hs_ => At.mono hs_.ro_cell hat59) rfl ?_
              replace hM := bind_sm hM; obtain ⟨r60, hr61, hM⟩ := hM
              refine r_gm (Ls := [[(b9, 36, #[vm3__0, Value.int .i64 (m3__1)])], Sl1_, Sm3__0]) (FL := [[(b9, 36, #[vm3__0, Value.int .i64 (m3__1)])], Sm3__0]) (RL := [Sl1_]) [0, 2] (oS 5 encY r60.2.1 fun s_0 => (oE (Value.int .i64 (r60.1)) [[(b9, 36, #[s_0, Value.int .i64 (r60.2.2)])]])) (some 37) 14 _ rfl rfl rfl rfl rfl (ev_callF rfl call_14 rfl) (fun own_ nw_ hn_ hs_ => bits_Row_Bytes_v1_g N m3__0 m3__1 ((ops)[(i2_).toNat]!.2.2.2.2) _ hr61 _ b9 vm3__0 Sm3__0 hm3__0 s57 (Rd.mono (ro_sans (Ls := [[(b9, 36, #[vm3__0, Value.int .i64 (m3__1)])], Sl1_, Sm3__0]) (is := [0, 2]) rfl hs_) hs58)) (fun _ _ v_ L_ U_ => ⟨fun h_ => h_ _ hr61, fun h_ => by intro _ e_; cases Option.some.inj (e_.symm.trans hr61); exact h_⟩) (NiceO.sub (R := ([(b9, 36, #[vm3__0, Value.int .i64 (m3__1)])] ++ [])) (niceS fun s_0 => (niceE rfl)) (Sub.pick [[(b9, 36, #[vm3__0, Value.int .i64 (m3__1)])], Sm3__0] [0] rfl)) ?_
              rintro _ _ ⟨s62, S63, _, H64, ⟨rfl, rfl⟩, rfl⟩
              refine lx_perm (Ls := [Sl1_, S63, [(b9, 36, #[s62, Value.int .i64 (r60.2.2)])]]) (Ls' := [[(b9, 36, #[s62, Value.int .i64 (r60.2.2)])], Sl1_, S63]) [2, 0, 1] rfl rfl ?_
              refine r_v (Value.int .i64 (r60.1)) rfl rfl rfl rfl ?_
              refine lx_nil ?_
              refine hK55 _ _ ?_; try clear hK55 K55
              refine A_seq fun K65 hK65 => ?_
              refine A_reg ?_
              refine r_v (vl1_) rfl rfl rfl rfl ?_
              refine r_v (Value.int .i64 (((l1_).length : Int))) rfl rfl rfl (ev_lenSl rfl rfl rfl (Sl.shp hl1_)) ?_
              replace hM := ck_some hM; obtain ⟨ck66, hM⟩ := hM
              refine r_v (Value.int .i64 ((((l1_).length : Int)) % 8)) rfl rfl (rem_i64 ck66.1) rfl ?_
              refine r_v (Value.bool ((((((l1_).length : Int)) % 8 : Int) != 0))) rfl rfl rfl rfl ?_
              refine lx_nil ?_
              refine hK65 _ _ ?_; try clear hK65 K65
              refine A_gen [(0, opsv), (3, Value.pointer (some ⟨b9, 0, none⟩)), (4, vl1_), (5, Value.int .i64 (i2_)), (6, Value.int .i64 (r60.1)), (7, Value.int .i64 (0)), (41, Value.bool ((((((l1_).length : Int)) % 8 : Int) != 0)))] rfl (fun T => ?_)
              refine A_cond ((((((l1_).length : Int)) % 8 : Int) != 0)) rfl (fun hc67 => ?_) (fun hc67 => ?_)
              · replace hM := ifp (bne_iff_ne.1 hc67) hM
                refine A_reg ?_
                refine r_v (Value.int .i64 (13)) rfl rfl rfl rfl ?_
                refine lx_nil ?_
                refine fg _ (Sub.pick [[(b9, 36, #[s62, Value.int .i64 (r60.2.2)])], Sl1_, S63] [0, 1, 2] rfl) ?_
                exact ⟨l1_, r60.1, 13, r60.2.1, r60.2.2, hM, vl1_, Sl1_, hl1_, s62, S63, H64, is_mk rfl rfl⟩
              · replace hM := ifn (bne_f hc67) hM
                refine A_regC [(some 48, false), (some 49, true)] (conG Try.prog [(48, fun v_ L_ U_ => ∀ u0_, shunterref03_Bits_m N ((ops)[(i2_).toNat]!.2.2.2.2) = some u0_ → (p1 (fun s_ => s_) 4 encB (u0_)) v_ L_ U_)]) ?_
                refine r_v (vl1_) rfl rfl rfl rfl ?_
                refine r_v (opsv) rfl rfl rfl rfl ?_
                refine r_v (Value.int .i64 (i2_)) rfl rfl rfl rfl ?_
                replace hM := ck_some hM; obtain ⟨ck68, hM⟩ := hM
                obtain ⟨_, ⟨s69, hs70, rfl⟩, hat71⟩ := RdN.at (E := encr_39) hops (get_of ck68)
                refine r_v (elA opsv ((i2_).toNat * 6)) rfl rfl rfl (ev_v (ev_idxSl rfl rfl rfl (RdN.shp hops) ck68)) ?_
                refine r_v (elA opsv ((i2_).toNat * 6 + 5)) rfl rfl rfl (ev_v (ev_fieldX rfl rfl rfl rfl rfl rfl (RdN.shp hops) (pos_of ck68))) ?_
                refine r_at (s69) (vs := [Value.int .i64 ((ops)[(i2_).toNat]!.1), Value.int .i64 ((ops)[(i2_).toNat]!.2.1), Value.int .i64 ((ops)[(i2_).toNat]!.2.2.1), U (hi ((ops)[(i2_).toNat]!.2.2.2.1)), U (lo ((ops)[(i2_).toNat]!.2.2.2.1)), s69]) ((i2_).toNat * 6) 5 rfl rfl (fun own_ nw_ hs_ => At.mono hs_.ro_cell hat71) rfl ?_
                replace hM := bind_sm hM; obtain ⟨r72, hr73, hM⟩ := hM
                refine r_g1 (Ls := [[(b9, 36, #[s62, Value.int .i64 (r60.2.2)])], Sl1_, S63]) (fun s74 => s74) 4 encB (r72) 15 _ rfl rfl rfl (ev_callF rfl call_15 rfl) (fun own_ nw_ hs_ => shunterref03_Bits_g N ((ops)[(i2_).toNat]!.2.2.2.2) _ hr73 hs_.view s69 ((rd_ro hs70) own_ nw_ hs_)) (fun _ _ v_ L_ U_ => ⟨fun h_ => h_ _ hr73, fun h_ => by intro _ e_; cases Option.some.inj (e_.symm.trans hr73); exact h_⟩) (fun s74 S75 H76 => ?_)
                replace hM := ck_some hM; obtain ⟨ck77, hM⟩ := hM
                refine r_app (cs0 := [(48, fun v_ L_ U_ => ∀ u0_, shunterref03_Bits_m N ((ops)[(i2_).toNat]!.2.2.2.2) = some u0_ → (p1 (fun s_ => s_) 4 encB (u0_)) v_ L_ U_)]) (Ls := [[(b9, 36, #[s62, Value.int .i64 (r60.2.2)])], Sl1_, S63, S75]) 1 (En := encB) rfl rfl rfl rfl rfl hl1_ rfl (rd_own H76 (mem_chunk (Ls := [[(b9, 36, #[s62, Value.int .i64 (r60.2.2)])], Sl1_, S63, S75]) (k := 3) rfl rfl)) rfl rfl rfl rfl rfl (app_b ck77 rfl) (app_m ck77 rfl) rfl (fun s78 S79 H80 => ?_)
                refine r_v (s78) rfl rfl rfl rfl ?_
                refine lx_nil ?_
                refine fg _ (Sub.pick [[(b9, 36, #[s62, Value.int .i64 (r60.2.2)])], S79, S63, S75] [0, 1, 2] rfl) ?_
                exact ⟨(l1_ ++ r72), r60.1, 0, r60.2.1, r60.2.2, hM, s78, S79, H80, s62, S63, H64, is_mk rfl rfl⟩
            · replace hM := ifn (ne_of_beq_false hc54) hM
              refine A_seq fun K81 hK81 => ?_
              refine A_regC [(some 55, true)] (conG Try.prog [(55, fun v_ L_ U_ => ∀ u0_, bits_Row_Add_v1_m N m3__0 m3__1 ((ops)[(i2_).toNat]!.2.2.1) ((ops)[(i2_).toNat]!.2.2.2.1) = some u0_ → (pO (List.flatten [[(b9, 36, #[vm3__0, Value.int .i64 (m3__1)])], Sm3__0]) (oS 5 encY u0_.2.1 fun s_0 => (oE (Value.int .i64 (u0_.1)) [[(b9, 36, #[s_0, Value.int .i64 (u0_.2.2)])]]))) v_ L_ U_)]) ?_
              refine r_v (opsv) rfl rfl rfl rfl ?_
              refine r_v (Value.int .i64 (i2_)) rfl rfl rfl rfl ?_
              replace hM := ck_some hM; obtain ⟨ck82, hM⟩ := hM
              obtain ⟨_, ⟨s83, hs84, rfl⟩, hat85⟩ := RdN.at (E := encr_39) hops (get_of ck82)
              refine r_v (elA opsv ((i2_).toNat * 6)) rfl rfl rfl (ev_v (ev_idxSl rfl rfl rfl (RdN.shp hops) ck82)) ?_
              refine r_v (elA opsv ((i2_).toNat * 6 + 2)) rfl rfl rfl (ev_v (ev_fieldX rfl rfl rfl rfl rfl rfl (RdN.shp hops) (pos_of ck82))) ?_
              refine r_at (Value.agg #[Value.int .i64 ((ops)[(i2_).toNat]!.2.2.1), U (hi ((ops)[(i2_).toNat]!.2.2.2.1)), U (lo ((ops)[(i2_).toNat]!.2.2.2.1))]) (vs := [Value.int .i64 ((ops)[(i2_).toNat]!.1), Value.int .i64 ((ops)[(i2_).toNat]!.2.1), Value.int .i64 ((ops)[(i2_).toNat]!.2.2.1), U (hi ((ops)[(i2_).toNat]!.2.2.2.1)), U (lo ((ops)[(i2_).toNat]!.2.2.2.1)), s83]) ((i2_).toNat * 6) 2 rfl rfl (fun own_ nw_ hs_ => At.mono hs_.ro_cell hat85) rfl ?_
              replace hM := bind_sm hM; obtain ⟨r86, hr87, hM⟩ := hM
              refine r_gm (Ls := [[(b9, 36, #[vm3__0, Value.int .i64 (m3__1)])], Sl1_, Sm3__0]) (FL := [[(b9, 36, #[vm3__0, Value.int .i64 (m3__1)])], Sm3__0]) (RL := [Sl1_]) [0, 2] (oS 5 encY r86.2.1 fun s_0 => (oE (Value.int .i64 (r86.1)) [[(b9, 36, #[s_0, Value.int .i64 (r86.2.2)])]])) (some 55) 16 _ rfl rfl rfl rfl rfl (ev_callF rfl call_16 rfl) (fun own_ nw_ hn_ hs_ => bits_Row_Add_v1_g N m3__0 m3__1 ((ops)[(i2_).toNat]!.2.2.1) ((ops)[(i2_).toNat]!.2.2.2.1) _ hr87 _ b9 vm3__0 Sm3__0 hm3__0) (fun _ _ v_ L_ U_ => ⟨fun h_ => h_ _ hr87, fun h_ => by intro _ e_; cases Option.some.inj (e_.symm.trans hr87); exact h_⟩) (NiceO.sub (R := ([(b9, 36, #[vm3__0, Value.int .i64 (m3__1)])] ++ [])) (niceS fun s_0 => (niceE rfl)) (Sub.pick [[(b9, 36, #[vm3__0, Value.int .i64 (m3__1)])], Sm3__0] [0] rfl)) ?_
              rintro _ _ ⟨s88, S89, _, H90, ⟨rfl, rfl⟩, rfl⟩
              refine lx_perm (Ls := [Sl1_, S89, [(b9, 36, #[s88, Value.int .i64 (r86.2.2)])]]) (Ls' := [[(b9, 36, #[s88, Value.int .i64 (r86.2.2)])], Sl1_, S89]) [2, 0, 1] rfl rfl ?_
              refine r_v (Value.int .i64 (r86.1)) rfl rfl rfl rfl ?_
              refine lx_nil ?_
              refine hK81 _ _ ?_; try clear hK81 K81
              refine A_seq fun K91 hK91 => ?_
              refine A_reg ?_
              refine r_v (opsv) rfl rfl rfl rfl ?_
              refine r_v (Value.int .i64 (i2_)) rfl rfl rfl rfl ?_
              replace hM := ck_some hM; obtain ⟨ck92, hM⟩ := hM
              obtain ⟨_, ⟨s93, hs94, rfl⟩, hat95⟩ := RdN.at (E := encr_39) hops (get_of ck92)
              refine r_v (elA opsv ((i2_).toNat * 6)) rfl rfl rfl (ev_v (ev_idxSl rfl rfl rfl (RdN.shp hops) ck92)) ?_
              refine r_v (elA opsv ((i2_).toNat * 6 + 2)) rfl rfl rfl (ev_v (ev_fieldX rfl rfl rfl rfl rfl rfl (RdN.shp hops) (pos_of ck92))) ?_
              refine r_at (Value.agg #[Value.int .i64 ((ops)[(i2_).toNat]!.2.2.1), U (hi ((ops)[(i2_).toNat]!.2.2.2.1)), U (lo ((ops)[(i2_).toNat]!.2.2.2.1))]) (vs := [Value.int .i64 ((ops)[(i2_).toNat]!.1), Value.int .i64 ((ops)[(i2_).toNat]!.2.1), Value.int .i64 ((ops)[(i2_).toNat]!.2.2.1), U (hi ((ops)[(i2_).toNat]!.2.2.2.1)), U (lo ((ops)[(i2_).toNat]!.2.2.2.1)), s93]) ((i2_).toNat * 6) 2 rfl rfl (fun own_ nw_ hs_ => At.mono hs_.ro_cell hat95) rfl ?_
              replace hM := bind_sm hM; obtain ⟨r96, hr97, hM⟩ := hM
              refine r_c (Value.bool (r96)) rfl _ _ (ev_callF rfl call_17 rfl) (shunterref02_May_g N ((ops)[(i2_).toNat]!.2.2.1) ((ops)[(i2_).toNat]!.2.2.2.1) _ hr97) ?_
              refine r_v (Value.bool (!(r96))) rfl rfl rfl rfl ?_
              refine lx_nil ?_
              refine hK91 _ _ ?_; try clear hK91 K91
              refine A_gen [(0, opsv), (3, Value.pointer (some ⟨b9, 0, none⟩)), (4, vl1_), (5, Value.int .i64 (i2_)), (6, Value.int .i64 (r86.1)), (7, Value.int .i64 (0)), (62, Value.bool (!(r96)))] rfl (fun T => ?_)
              refine A_cond (!(r96)) rfl (fun hc98 => ?_) (fun hc98 => ?_)
              · replace hM := ifn (Bool.eq_false_iff.1 (not_t hc98)) hM
                refine A_reg ?_
                refine r_v (Value.int .i64 (1)) rfl rfl rfl rfl ?_
                refine lx_nil ?_
                refine fg _ (Sub.pick [[(b9, 36, #[s88, Value.int .i64 (r86.2.2)])], Sl1_, S89] [0, 1, 2] rfl) ?_
                exact ⟨l1_, r86.1, 1, r86.2.1, r86.2.2, hM, vl1_, Sl1_, hl1_, s88, S89, H90, is_mk rfl rfl⟩
              · replace hM := ifp (not_f hc98) hM
                refine A_regC [(some 69, false), (some 70, true)] (conG Try.prog [(69, fun v_ L_ U_ => ∀ u0_, shunterref03_Of_m N ((ops)[(i2_).toNat]!.2.2.1) ((ops)[(i2_).toNat]!.2.2.2.1) = some u0_ → (p1 (fun s_ => s_) 4 encB (u0_)) v_ L_ U_)]) ?_
                refine r_v (vl1_) rfl rfl rfl rfl ?_
                refine r_v (opsv) rfl rfl rfl rfl ?_
                refine r_v (Value.int .i64 (i2_)) rfl rfl rfl rfl ?_
                replace hM := ck_some hM; obtain ⟨ck99, hM⟩ := hM
                obtain ⟨_, ⟨s100, hs101, rfl⟩, hat102⟩ := RdN.at (E := encr_39) hops (get_of ck99)
                refine r_v (elA opsv ((i2_).toNat * 6)) rfl rfl rfl (ev_v (ev_idxSl rfl rfl rfl (RdN.shp hops) ck99)) ?_
                refine r_v (elA opsv ((i2_).toNat * 6 + 2)) rfl rfl rfl (ev_v (ev_fieldX rfl rfl rfl rfl rfl rfl (RdN.shp hops) (pos_of ck99))) ?_
                refine r_at (Value.agg #[Value.int .i64 ((ops)[(i2_).toNat]!.2.2.1), U (hi ((ops)[(i2_).toNat]!.2.2.2.1)), U (lo ((ops)[(i2_).toNat]!.2.2.2.1))]) (vs := [Value.int .i64 ((ops)[(i2_).toNat]!.1), Value.int .i64 ((ops)[(i2_).toNat]!.2.1), Value.int .i64 ((ops)[(i2_).toNat]!.2.2.1), U (hi ((ops)[(i2_).toNat]!.2.2.2.1)), U (lo ((ops)[(i2_).toNat]!.2.2.2.1)), s100]) ((i2_).toNat * 6) 2 rfl rfl (fun own_ nw_ hs_ => At.mono hs_.ro_cell hat102) rfl ?_
                replace hM := bind_sm hM; obtain ⟨r103, hr104, hM⟩ := hM
                refine r_g1 (Ls := [[(b9, 36, #[s88, Value.int .i64 (r86.2.2)])], Sl1_, S89]) (fun s105 => s105) 4 encB (r103) 18 _ rfl rfl rfl (ev_callF rfl call_18 rfl) (fun own_ nw_ hs_ => shunterref03_Of_g N ((ops)[(i2_).toNat]!.2.2.1) ((ops)[(i2_).toNat]!.2.2.2.1) _ hr104 hs_.view ) (fun _ _ v_ L_ U_ => ⟨fun h_ => h_ _ hr104, fun h_ => by intro _ e_; cases Option.some.inj (e_.symm.trans hr104); exact h_⟩) (fun s105 S106 H107 => ?_)
                replace hM := ck_some hM; obtain ⟨ck108, hM⟩ := hM
                refine r_app (cs0 := [(69, fun v_ L_ U_ => ∀ u0_, shunterref03_Of_m N ((ops)[(i2_).toNat]!.2.2.1) ((ops)[(i2_).toNat]!.2.2.2.1) = some u0_ → (p1 (fun s_ => s_) 4 encB (u0_)) v_ L_ U_)]) (Ls := [[(b9, 36, #[s88, Value.int .i64 (r86.2.2)])], Sl1_, S89, S106]) 1 (En := encB) rfl rfl rfl rfl rfl hl1_ rfl (rd_own H107 (mem_chunk (Ls := [[(b9, 36, #[s88, Value.int .i64 (r86.2.2)])], Sl1_, S89, S106]) (k := 3) rfl rfl)) rfl rfl rfl rfl rfl (app_b ck108 rfl) (app_m ck108 rfl) rfl (fun s109 S110 H111 => ?_)
                refine r_v (s109) rfl rfl rfl rfl ?_
                refine lx_nil ?_
                refine fg _ (Sub.pick [[(b9, 36, #[s88, Value.int .i64 (r86.2.2)])], S110, S89, S106] [0, 1, 2] rfl) ?_
                exact ⟨(l1_ ++ r103), r86.1, 0, r86.2.1, r86.2.2, hM, s109, S110, H111, s88, S89, H90, is_mk rfl rfl⟩
          · clear hM; rintro t l ⟨l5_, e6_, want7_, m8__0, m8__1, hM, vl5_, Sl5_, hl5_, vm8__0, Sm8__0, hm8__0, ⟨T, rfl⟩, rfl⟩
            unfold shunterlaw03_BitsRows_k9 at hM
            refine A_seq fun K29 hK29 => ?_
            refine A_drawR [(some 75, false), (some 81, false), (some 84, false)] (conG Try.prog [(75, fun v_ L_ U_ => ∀ u0_, bits_Row_Len_v1_m N m8__0 m8__1 = some u0_ → (pV (Value.int .i64 (u0_))) v_ L_ U_), (81, fun v_ L_ U_ => ∀ u0_, bits_Row_All_v1_m N m8__0 m8__1 = some u0_ → (p1 (fun s_ => s_) 5 encY (u0_)) v_ L_ U_), (84, fun v_ L_ U_ => ∀ u0_, shunterref03_Bytes_m N l5_ = some u0_ → (p1 (fun s_ => s_) 5 encY (u0_)) v_ L_ U_)]) [] (by decide +kernel) (fun hn => sep_nil) ?_
            refine r_v (Value.int .i64 (e6_)) rfl rfl rfl rfl ?_
            refine r_v (Value.int .i64 (want7_)) rfl rfl rfl rfl ?_
            refine r_v (Value.bool (((e6_ : Int) != want7_))) rfl rfl rfl rfl ?_
            refine r_v (Value.bool (((e6_ : Int) != want7_))) rfl rfl rfl rfl ?_
            rcases hg30 : (((e6_ : Int) != want7_)) with _ | _
            · replace hM := ifn (bne_f hg30) hM
              refine r_y rfl ?_
              replace hM := bind_sm hM; obtain ⟨r31, hr32, hM⟩ := hM
              refine r_gv (Value.int .i64 (r31)) 19 _ rfl rfl rfl (ev_callF rfl call_19 rfl) (fun own_ nw_ hs_ => bits_Row_Len_v1_g N m8__0 m8__1 _ hr32 hs_.view b9 vm8__0 ((rd_own hm8__0 (mem_chunk (Ls := [[(b9, 36, #[vm8__0, Value.int .i64 (m8__1)])], Sl5_, Sm8__0]) (k := 2) rfl rfl)) own_ nw_ hs_) (blk_own 0 rfl rfl own_ nw_ hs_)) (fun _ _ v_ L_ U_ => ⟨fun h_ => h_ _ hr32, fun h_ => by intro _ e_; cases Option.some.inj (e_.symm.trans hr32); exact h_⟩) ?_
              refine r_y rfl ?_
              refine r_v (vl5_) rfl rfl rfl rfl ?_
              refine r_y rfl ?_
              refine r_v (Value.int .i64 (((l5_).length : Int))) rfl rfl rfl (ev_lenSl rfl rfl rfl (Sl.shp hl5_)) ?_
              refine r_y rfl ?_
              refine r_v (Value.bool (((r31 : Int) != ((l5_).length : Int)))) rfl rfl rfl rfl ?_
              refine r_v (Value.bool (((r31 : Int) != ((l5_).length : Int)))) rfl rfl rfl rfl ?_
              refine r_v (Value.bool (((r31 : Int) != ((l5_).length : Int)))) rfl rfl rfl rfl ?_
              rcases hg33 : (((r31 : Int) != ((l5_).length : Int))) with _ | _
              · replace hM := ifn (bne_f hg33) hM
                refine r_y rfl ?_
                replace hM := bind_sm hM; obtain ⟨r34, hr35, hM⟩ := hM
                refine r_g1 (Ls := [[(b9, 36, #[vm8__0, Value.int .i64 (m8__1)])], Sl5_, Sm8__0]) (fun s36 => s36) 5 encY (r34) 20 _ rfl rfl rfl (ev_callF rfl call_20 rfl) (fun own_ nw_ hs_ => bits_Row_All_v1_g N m8__0 m8__1 _ hr35 hs_.view b9 vm8__0 ((rd_own hm8__0 (mem_chunk (Ls := [[(b9, 36, #[vm8__0, Value.int .i64 (m8__1)])], Sl5_, Sm8__0]) (k := 2) rfl rfl)) own_ nw_ hs_) (blk_own 0 rfl rfl own_ nw_ hs_)) (fun _ _ v_ L_ U_ => ⟨fun h_ => h_ _ hr35, fun h_ => by intro _ e_; cases Option.some.inj (e_.symm.trans hr35); exact h_⟩) (fun s36 S37 H38 => ?_)
                refine r_y rfl ?_
                refine r_stl (e := 5) (r34) rfl rfl rfl rfl rfl (rd_own H38 (mem_chunk (Ls := [[(b9, 36, #[vm8__0, Value.int .i64 (m8__1)])], Sl5_, Sm8__0, S37]) (k := 3) rfl rfl)) ?_
                refine r_y rfl ?_
                refine r_v (vl5_) rfl rfl rfl rfl ?_
                refine r_y rfl ?_
                replace hM := bind_sm hM; obtain ⟨r39, hr40, hM⟩ := hM
                refine r_g1 (Ls := [[(b9, 36, #[vm8__0, Value.int .i64 (m8__1)])], Sl5_, Sm8__0, S37]) (fun s41 => s41) 5 encY (r39) 21 _ rfl rfl rfl (ev_callF rfl call_21 rfl) (fun own_ nw_ hs_ => shunterref03_Bytes_g N l5_ _ hr40 hs_.view vl5_ ((rd_own hl5_ (mem_chunk (Ls := [[(b9, 36, #[vm8__0, Value.int .i64 (m8__1)])], Sl5_, Sm8__0, S37]) (k := 1) rfl rfl)) own_ nw_ hs_)) (fun _ _ v_ L_ U_ => ⟨fun h_ => h_ _ hr40, fun h_ => by intro _ e_; cases Option.some.inj (e_.symm.trans hr40); exact h_⟩) (fun s41 S42 H43 => ?_)
                refine r_y rfl ?_
                refine r_stl (e := 5) (r39) rfl rfl rfl rfl rfl (rd_own H43 (mem_chunk (Ls := [[(b9, 36, #[vm8__0, Value.int .i64 (m8__1)])], Sl5_, Sm8__0, S37, S42]) (k := 4) rfl rfl)) ?_
                refine r_y rfl ?_
                refine r_v (Value.bool ((r34) != (r39))) rfl rfl rfl (ev_neS rfl rfl) ?_
                refine r_v (Value.bool ((r34) != (r39))) rfl rfl rfl rfl ?_
                refine lx_nil ?_
                refine hK29 _ _ ?_; try clear hK29 K29
                refine A_cond ((r34) != (r39)) rfl (fun hc44 => ?_) (fun hc44 => ?_)
                · replace hM := ifp (bne_iff_ne.1 hc44) hM
                  refine A_seq fun K45 hK45 => ?_
                  refine A_reg ?_
                  refine r_v (Value.bool (false)) rfl rfl rfl rfl ?_
                  refine lx_nil ?_
                  refine hK45 _ _ ?_; try clear hK45 K45
                  obtain rfl := Option.some.inj hM
                  refine A_ret (fun hn => endsV (v0 := Value.bool (false)) rfl (res1 rfl))
                · replace hM := ifn (bne_f hc44) hM
                  refine A_skip ?_
                  refine hK17 _ _ ?_; try clear hK17 K17
                  refine A_reg ?_
                  refine r_v (Value.int .i64 (i2_)) rfl rfl rfl rfl ?_
                  replace hM := ck_some hM; obtain ⟨ck46, hM⟩ := hM
                  refine r_v (Value.int .i64 ((i2_ + 1))) rfl rfl (wi64 rfl ck46.1 ck46.2) rfl ?_
                  refine r_v (Value.int .i64 ((i2_ + 1))) rfl rfl rfl rfl ?_
                  refine lx_nil ?_
                  refine fg _ (Sub.pick [[(b9, 36, #[vm8__0, Value.int .i64 (m8__1)])], Sl5_, Sm8__0, S37, S42] [0, 1, 2] rfl) ?_
                  exact ⟨n13 + 1, by omega, n13, l5_, (i2_ + 1), m8__0, m8__1, hM, vl5_, Sl5_, hl5_, vm8__0, Sm8__0, hm8__0, is_mk rfl rfl, rfl⟩
              · replace hM := ifp (bne_iff_ne.1 hg33) hM
                refine r_n true rfl (by decide) rfl ?_
                refine r_n true rfl (by decide) rfl ?_
                refine r_n true rfl (by decide) rfl ?_
                refine r_n true rfl (by decide) rfl ?_
                refine r_n true rfl (by decide) rfl ?_
                refine r_n true rfl (by decide) rfl ?_
                refine r_v (Value.bool (true)) rfl rfl rfl rfl ?_
                refine lx_nil ?_
                refine hK29 _ _ ?_; try clear hK29 K29
                refine A_cond true rfl (fun _ => ?_) (fun h_ => nomatch h_)
                refine A_seq fun K47 hK47 => ?_
                refine A_reg ?_
                refine r_v (Value.bool (false)) rfl rfl rfl rfl ?_
                refine lx_nil ?_
                refine hK47 _ _ ?_; try clear hK47 K47
                obtain rfl := Option.some.inj hM
                refine A_ret (fun hn => endsV (v0 := Value.bool (false)) rfl (res1 rfl))
            · replace hM := ifp (bne_iff_ne.1 hg30) hM
              refine r_n true rfl (by decide) rfl ?_
              refine r_n true rfl (by decide) rfl ?_
              refine r_n true rfl (by decide) rfl ?_
              refine r_n true rfl (by decide) rfl ?_
              refine r_v (Value.bool (true)) rfl rfl rfl rfl ?_
              refine r_v (Value.bool (true)) rfl rfl rfl rfl ?_
              refine r_n true rfl (by decide) rfl ?_
              refine r_n true rfl (by decide) rfl ?_
              refine r_n true rfl (by decide) rfl ?_
              refine r_n true rfl (by decide) rfl ?_
              refine r_n true rfl (by decide) rfl ?_
              refine r_n true rfl (by decide) rfl ?_
              refine r_v (Value.bool (true)) rfl rfl rfl rfl ?_
              refine lx_nil ?_
              refine hK29 _ _ ?_; try clear hK29 K29
              refine A_cond true rfl (fun _ => ?_) (fun h_ => nomatch h_)
              refine A_seq fun K48 hK48 => ?_
              refine A_reg ?_
              refine r_v (Value.bool (false)) rfl rfl rfl rfl ?_
              refine lx_nil ?_
              refine hK48 _ _ ?_; try clear hK48 K48
              obtain rfl := Option.some.inj hM
              refine A_ret (fun hn => endsV (v0 := Value.bool (false)) rfl (res1 rfl))
      · replace hM := ifn (of_decide_eq_false hc16) hM
        refine A_exit ?_
        refine hK11 _ _ ?_; try clear hK11 K11
        refine A_seq fun K112 hK112 => ?_
        refine A_reg ?_
        replace hM := bind_sm hM; obtain ⟨r113, hr114, hM⟩ := hM
        refine r_c (Value.bool (r113)) rfl _ _ (ev_callF rfl call_9 rfl) (shunterlaw03_lives_g N  _ hr114) ?_
        refine r_v (Value.bool (r113)) rfl rfl rfl rfl ?_
        refine lx_nil ?_
        refine hK112 _ _ ?_; try clear hK112 K112
        obtain rfl := Option.some.inj hM
        refine A_ret (fun hn => endsV (v0 := Value.bool (r113)) rfl (res1 rfl))
end Go.Proofs.Ytmiabhodfcidcaa
