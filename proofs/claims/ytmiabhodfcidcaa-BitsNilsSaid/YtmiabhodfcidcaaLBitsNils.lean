/- models of functions and their walks -/
import Derived.Test.YtmiabhodfcidcaaBb
namespace Go.Proofs.Ytmiabhodfcidcaa
open Go Go.RowKit Go.Eng
def shunterlaw03_BitsNils_k1 (N : Nat) : Option (Bool) := ck (0 ≤ (9216 : Int) ∧ (9216 : Int) ≤ 140737488355328) ((bits_Row_Bytes_v1_m N ([]) 0 (List.replicate ((9216 : Int)).toNat (0 : UInt8))).bind fun r27 => ck (0 ≤ (1 : Int) ∧ (1 : Int) ≤ (((List.replicate ((9216 : Int)).toNat (0 : UInt8))).length : Int)) ((bits_Row_Bytes_v1_m N r27.2.1 r27.2.2 ((((List.replicate ((9216 : Int)).toNat (0 : UInt8))).take (((1 : Int)).toNat)).drop (0))).bind fun r34 => (bits_Row_Add_v1_m N r34.2.1 r34.2.2 1 ((0#64) ++ (0#64))).bind fun r40 => (bits_Take_m N (List.replicate ((9216 : Int)).toNat (0 : UInt8))).bind fun r46 => (bits_Taker_Bytes_v1_m N r46.1 r46.2 (-1)).bind fun r53 => ck ((r53.2.2.1).length = (r46.1).length) (if (r27.1 : Int) = 0 then if (r34.1 : Int) = 2 then if (r40.1 : Int) = 2 then if (r53.2.1 : Int) = 7 then (bits_Row_Len_v1_m N r40.2.1 r40.2.2).bind fun r66 => if (r66 : Int) = 73728 then (bits_Row_Bytes_v1_m N r40.2.1 r40.2.2 ([])).bind fun r69 => if (r69.1 : Int) = 0 then (shunterlaw03_lives_m N ).bind fun r75 => some (r75) else some (false) else some (false) else some (false) else some (false) else some (false) else some (false))))
def shunterlaw03_BitsNils_m (N : Nat) (v_0 : Int) (v_1 : BitVec 128) (b : List UInt8) : Option (Bool) := (bits_Taker_Vec_v2_m N v_0).bind fun r6 => (bits_Taker_Bytes_v2_m N 1).bind fun r10 => (bits_Taker_Look_v2_m N 0 1).bind fun r16 => (bits_Row_Add_v2_m N v_0 v_1).bind fun r78 => if (r78 : Int) ≠ 1 then some (false) else (bits_Row_Bytes_v2_m N b).bind fun r81 => if (r81 : Int) ≠ 1 then some (false) else (bits_Row_Len_v2_m N ).bind fun r84 => if (r84 : Int) ≠ 0 then some (false) else (bits_Row_All_v2_m N ).bind fun r87 => if (((r87).length : Int) : Int) ≠ 0 then some (false) else if (r6.2.2 : Int) ≠ 1 then some (false) else if (r10.2 : Int) ≠ 1 then some (false) else if (r16.2.2 : Int) ≠ 1 then some (false) else (bits_Taker_At_v2_m N ).bind fun r96 => if (r96 : Int) ≠ 0 then some (false) else (bits_Taker_Left_v2_m N ).bind fun r99 => if (r99 : Int) ≠ 0 then some (false) else shunterlaw03_BitsNils_k1 N 
set_option maxRecDepth 100000 in
set_option maxHeartbeats 400000 in
theorem shunterlaw03_BitsNils_g (N : Nat) (v_0 : Int) (v_1 : BitVec 128) (b : List UInt8) (r : Bool) (hM : shunterlaw03_BitsNils_m N v_0 v_1 b = some r) (ro : Addr → Option Value) (bv : Value) (hb : Rd encY ro bv b) : Does Try.prog 8 #[Value.agg #[Value.int .i64 (v_0), U (hi (v_1)), U (lo (v_1))], bv] ro [] (pV (Value.bool (r))) := by
  unfold shunterlaw03_BitsNils_m at hM
  refine does_of_A follows Try.func8 rfl 121 rfl (upd (upd (fun _ => undef) 1 (bv)) 0 (Value.agg #[Value.int .i64 (v_0), U (hi (v_1)), U (lo (v_1))])) (by funext k; match k with | 0 => rfl | 1 => rfl | k + 2 => rfl) (fun base0_ => ?_)
  refine A_seq fun K1 hK1 => ?_
  refine A_reg ?_
  refine r_a (26, #[Value.int .i64 (v_0), U (hi (v_1)), U (lo (v_1))]) rfl rfl rfl (fun b2 => ?_) (.inr rfl)
  refine r_v (Value.bool (false)) rfl rfl rfl rfl ?_
  refine lx_nil ?_
  refine hK1 _ _ ?_; try clear hK1 K1
  refine A_seq fun K3 hK3 => ?_
  refine A_reg ?_
  refine r_v (Value.pointer none) rfl rfl rfl rfl ?_
  refine lx_nil ?_
  refine hK3 _ _ ?_; try clear hK3 K3
  refine A_seq fun K4 hK4 => ?_
  refine A_reg ?_
  refine r_v (Value.pointer none) rfl rfl rfl rfl ?_
  refine lx_nil ?_
  refine hK4 _ _ ?_; try clear hK4 K4
  refine A_seq fun K5 hK5 => ?_
  refine A_reg ?_
  refine r_v (Value.pointer none) rfl rfl rfl rfl ?_
  refine r_v (Value.pointer (some ⟨b2, 0, none⟩)) rfl rfl rfl rfl ?_
  refine r_l (Value.int .i64 (v_0)) 0 _ _ _ _ rfl rfl rfl rfl rfl ?_
  replace hM := bind_sm hM; obtain ⟨r6, hr7, hM⟩ := hM
  refine r_c (Value.tuple #[Value.agg #[Value.int .i64 (r6.1), U (hi (r6.2.1)), U (lo (r6.2.1))], Value.int .i64 (r6.2.2)]) rfl _ _ (ev_callF rfl call_26 rfl) (bits_Taker_Vec_v2_g N v_0 _ hr7) ?_
  refine r_v (Value.tuple #[Value.agg #[Value.int .i64 (r6.1), U (hi (r6.2.1)), U (lo (r6.2.1))], Value.int .i64 (r6.2.2)]) rfl rfl rfl rfl ?_
  refine r_v (Value.agg #[Value.int .i64 (r6.1), U (hi (r6.2.1)), U (lo (r6.2.1))]) rfl rfl rfl rfl ?_
  refine r_v (Value.int .i64 (r6.2.2)) rfl rfl rfl rfl ?_
  refine r_a (26, #[Value.int .i64 (0), U (0#64), U (0#64)]) rfl rfl rfl (fun b8 => ?_) (.inr rfl)
  refine r_s [(b8, 26, #[Value.int .i64 (r6.1), U (hi (r6.2.1)), U (lo (r6.2.1))]), (b2, 26, #[Value.int .i64 (v_0), U (hi (v_1)), U (lo (v_1))])] 0 _ _ _ (#[Value.int .i64 (0), U (0#64), U (0#64)]) (#[Value.int .i64 (r6.1), U (hi (r6.2.1)), U (lo (r6.2.1))]) (#[Value.int .i64 (r6.1), U (hi (r6.2.1)), U (lo (r6.2.1))]) rfl rfl rfl rfl (.of rfl rfl) rfl rfl ?_
  refine r_v (Value.int .i64 (r6.2.2)) rfl rfl rfl rfl ?_
  refine lx_nil ?_
  refine hK5 _ _ ?_; try clear hK5 K5
  refine A_seq fun K9 hK9 => ?_
  refine A_regC [(some 30, false)] (conG Try.prog [(30, fun v_ L_ U_ => ∀ u0_, bits_Taker_Bytes_v2_m N 1 = some u0_ → (p1 (fun s_ => Value.tuple #[s_, Value.int .i64 (u0_.2)]) 5 encY (u0_.1)) v_ L_ U_)]) ?_
  refine r_v (Value.pointer none) rfl rfl rfl rfl ?_
  replace hM := bind_sm hM; obtain ⟨r10, hr11, hM⟩ := hM
  refine r_g1 (Ls := [[(b8, 26, #[Value.int .i64 (r6.1), U (hi (r6.2.1)), U (lo (r6.2.1))])], [(b2, 26, #[Value.int .i64 (v_0), U (hi (v_1)), U (lo (v_1))])]]) (fun s12 => Value.tuple #[s12, Value.int .i64 (r10.2)]) 5 encY (r10.1) 23 _ rfl rfl rfl (ev_callF rfl call_23 rfl) (fun own_ nw_ hs_ => bits_Taker_Bytes_v2_g N 1 _ hr11 hs_.view ) (fun _ _ v_ L_ U_ => ⟨fun h_ => h_ _ hr11, fun h_ => by intro _ e_; cases Option.some.inj (e_.symm.trans hr11); exact h_⟩) (fun s12 S13 H14 => ?_)
  refine r_v (Value.tuple #[s12, Value.int .i64 (r10.2)]) rfl rfl rfl rfl ?_
  refine r_v (s12) rfl rfl rfl rfl ?_
  refine r_v (Value.int .i64 (r10.2)) rfl rfl rfl rfl ?_
  refine r_v (s12) rfl rfl rfl rfl ?_
  refine r_v (Value.int .i64 (r10.2)) rfl rfl rfl rfl ?_
  refine lx_nil ?_
  refine hK9 _ _ ?_; try clear hK9 K9
  refine A_seq fun K15 hK15 => ?_
  refine A_reg ?_
  refine r_v (Value.pointer none) rfl rfl rfl rfl ?_
  replace hM := bind_sm hM; obtain ⟨r16, hr17, hM⟩ := hM
  refine r_c (Value.tuple #[Value.agg #[Value.int .i64 (r16.1), U (hi (r16.2.1)), U (lo (r16.2.1))], Value.int .i64 (r16.2.2)]) rfl _ _ (ev_callF rfl call_24 rfl) (bits_Taker_Look_v2_g N 0 1 _ hr17) ?_
  refine r_v (Value.tuple #[Value.agg #[Value.int .i64 (r16.1), U (hi (r16.2.1)), U (lo (r16.2.1))], Value.int .i64 (r16.2.2)]) rfl rfl rfl rfl ?_
  refine r_v (Value.agg #[Value.int .i64 (r16.1), U (hi (r16.2.1)), U (lo (r16.2.1))]) rfl rfl rfl rfl ?_
  refine r_v (Value.int .i64 (r16.2.2)) rfl rfl rfl rfl ?_
  refine r_a (26, #[Value.int .i64 (0), U (0#64), U (0#64)]) rfl rfl rfl (fun b18 => ?_) (.inr rfl)
  refine r_s (List.flatten [[(b18, 26, #[Value.int .i64 (r16.1), U (hi (r16.2.1)), U (lo (r16.2.1))])], [(b8, 26, #[Value.int .i64 (r6.1), U (hi (r6.2.1)), U (lo (r6.2.1))])], [(b2, 26, #[Value.int .i64 (v_0), U (hi (v_1)), U (lo (v_1))])], S13]) 0 _ _ _ (#[Value.int .i64 (0), U (0#64), U (0#64)]) (#[Value.int .i64 (r16.1), U (hi (r16.2.1)), U (lo (r16.2.1))]) (#[Value.int .i64 (r16.1), U (hi (r16.2.1)), U (lo (r16.2.1))]) rfl rfl rfl rfl (.of rfl rfl) rfl rfl ?_
  refine r_v (Value.int .i64 (r16.2.2)) rfl rfl rfl rfl ?_
  refine lx_nil ?_
  refine hK15 _ _ ?_; try clear hK15 K15
  refine A_cut (fun tt ll => (shunterlaw03_BitsNils_k1 N  = some r) ∧ Is [] [] tt ll) ?_ ?_
  · refine A_seq fun K77 hK77 => ?_
    refine A_regC [(some 45, false), (some 55, false)] (conG Try.prog [(45, fun v_ L_ U_ => ∀ u0_, bits_Row_Bytes_v2_m N b = some u0_ → (pV (Value.int .i64 (u0_))) v_ L_ U_), (55, fun v_ L_ U_ => ∀ u0_, bits_Row_All_v2_m N  = some u0_ → (p1 (fun s_ => s_) 5 encY (u0_)) v_ L_ U_)]) ?_
    refine r_v (Value.pointer none) rfl rfl rfl rfl ?_
    refine r_l (Value.agg #[Value.int .i64 (v_0), U (hi (v_1)), U (lo (v_1))]) 2 _ _ _ _ rfl rfl rfl rfl rfl ?_
    replace hM := bind_sm hM; obtain ⟨r78, hr79, hM⟩ := hM
    refine r_c (Value.int .i64 (r78)) rfl _ _ (ev_callF rfl call_16 rfl) (bits_Row_Add_v2_g N v_0 v_1 _ hr79) ?_
    refine r_v (Value.bool (((r78 : Int) != 1))) rfl rfl rfl rfl ?_
    refine r_v (Value.bool (((r78 : Int) != 1))) rfl rfl rfl rfl ?_
    rcases hg80 : (((r78 : Int) != 1)) with _ | _
    · replace hM := ifn (bne_f hg80) hM
      refine r_y rfl ?_
      refine r_v (Value.pointer none) rfl rfl rfl rfl ?_
      refine r_y rfl ?_
      refine r_v (bv) rfl rfl rfl rfl ?_
      refine r_y rfl ?_
      replace hM := bind_sm hM; obtain ⟨r81, hr82, hM⟩ := hM
      refine r_gv (Value.int .i64 (r81)) 14 _ rfl rfl rfl (ev_callF rfl call_14 rfl) (fun own_ nw_ hs_ => bits_Row_Bytes_v2_g N b _ hr82 hs_.view bv ((rd_ro hb) own_ nw_ hs_)) (fun _ _ v_ L_ U_ => ⟨fun h_ => h_ _ hr82, fun h_ => by intro _ e_; cases Option.some.inj (e_.symm.trans hr82); exact h_⟩) ?_
      refine r_y rfl ?_
      refine r_v (Value.bool (((r81 : Int) != 1))) rfl rfl rfl rfl ?_
      refine r_v (Value.bool (((r81 : Int) != 1))) rfl rfl rfl rfl ?_
      refine r_v (Value.bool (((r81 : Int) != 1))) rfl rfl rfl rfl ?_
      rcases hg83 : (((r81 : Int) != 1)) with _ | _
      · replace hM := ifn (bne_f hg83) hM
        refine r_y rfl ?_
        refine r_v (Value.pointer none) rfl rfl rfl rfl ?_
        refine r_y rfl ?_
        replace hM := bind_sm hM; obtain ⟨r84, hr85, hM⟩ := hM
        refine r_c (Value.int .i64 (r84)) rfl _ _ (ev_callF rfl call_19 rfl) (bits_Row_Len_v2_g N  _ hr85) ?_
        refine r_y rfl ?_
        refine r_v (Value.bool (((r84 : Int) != 0))) rfl rfl rfl rfl ?_
        refine r_v (Value.bool (((r84 : Int) != 0))) rfl rfl rfl rfl ?_
        refine r_v (Value.bool (((r84 : Int) != 0))) rfl rfl rfl rfl ?_
        rcases hg86 : (((r84 : Int) != 0)) with _ | _
        · replace hM := ifn (bne_f hg86) hM
          refine r_y rfl ?_
          refine r_v (Value.pointer none) rfl rfl rfl rfl ?_
          refine r_y rfl ?_
          replace hM := bind_sm hM; obtain ⟨r87, hr88, hM⟩ := hM
          refine r_g1 (Ls := [[(b18, 26, #[Value.int .i64 (r16.1), U (hi (r16.2.1)), U (lo (r16.2.1))])], [(b8, 26, #[Value.int .i64 (r6.1), U (hi (r6.2.1)), U (lo (r6.2.1))])], [(b2, 26, #[Value.int .i64 (v_0), U (hi (v_1)), U (lo (v_1))])], S13]) (fun s89 => s89) 5 encY (r87) 20 _ rfl rfl rfl (ev_callF rfl call_20 rfl) (fun own_ nw_ hs_ => bits_Row_All_v2_g N  _ hr88 hs_.view ) (fun _ _ v_ L_ U_ => ⟨fun h_ => h_ _ hr88, fun h_ => by intro _ e_; cases Option.some.inj (e_.symm.trans hr88); exact h_⟩) (fun s89 S90 H91 => ?_)
          refine r_y rfl ?_
          refine r_v (Value.int .i64 (((r87).length : Int))) rfl rfl rfl (ev_lenSl rfl rfl rfl (Sl.shp H91)) ?_
          refine r_y rfl ?_
          refine r_v (Value.bool (((((r87).length : Int) : Int) != 0))) rfl rfl rfl rfl ?_
          refine r_v (Value.bool (((((r87).length : Int) : Int) != 0))) rfl rfl rfl rfl ?_
          refine r_v (Value.bool (((((r87).length : Int) : Int) != 0))) rfl rfl rfl rfl ?_
          rcases hg92 : (((((r87).length : Int) : Int) != 0)) with _ | _
          · replace hM := ifn (bne_f hg92) hM
            refine r_y rfl ?_
            refine r_v (Value.int .i64 (r6.2.2)) rfl rfl rfl rfl ?_
            refine r_y rfl ?_
            refine r_v (Value.bool (((r6.2.2 : Int) != 1))) rfl rfl rfl rfl ?_
            refine r_v (Value.bool (((r6.2.2 : Int) != 1))) rfl rfl rfl rfl ?_
            refine r_v (Value.bool (((r6.2.2 : Int) != 1))) rfl rfl rfl rfl ?_
            rcases hg93 : (((r6.2.2 : Int) != 1)) with _ | _
            · replace hM := ifn (bne_f hg93) hM
              refine r_y rfl ?_
              refine r_v (Value.int .i64 (r10.2)) rfl rfl rfl rfl ?_
              refine r_y rfl ?_
              refine r_v (Value.bool (((r10.2 : Int) != 1))) rfl rfl rfl rfl ?_
              refine r_v (Value.bool (((r10.2 : Int) != 1))) rfl rfl rfl rfl ?_
              refine r_v (Value.bool (((r10.2 : Int) != 1))) rfl rfl rfl rfl ?_
              rcases hg94 : (((r10.2 : Int) != 1)) with _ | _
              · replace hM := ifn (bne_f hg94) hM
                refine r_y rfl ?_
                refine r_v (Value.int .i64 (r16.2.2)) rfl rfl rfl rfl ?_
                refine r_y rfl ?_
                refine r_v (Value.bool (((r16.2.2 : Int) != 1))) rfl rfl rfl rfl ?_
                refine r_v (Value.bool (((r16.2.2 : Int) != 1))) rfl rfl rfl rfl ?_
                refine r_v (Value.bool (((r16.2.2 : Int) != 1))) rfl rfl rfl rfl ?_
                rcases hg95 : (((r16.2.2 : Int) != 1)) with _ | _
                · replace hM := ifn (bne_f hg95) hM
                  refine r_y rfl ?_
                  refine r_v (Value.pointer none) rfl rfl rfl rfl ?_
                  refine r_y rfl ?_
                  replace hM := bind_sm hM; obtain ⟨r96, hr97, hM⟩ := hM
                  refine r_c (Value.int .i64 (r96)) rfl _ _ (ev_callF rfl call_27 rfl) (bits_Taker_At_v2_g N  _ hr97) ?_
                  refine r_y rfl ?_
                  refine r_v (Value.bool (((r96 : Int) != 0))) rfl rfl rfl rfl ?_
                  refine r_v (Value.bool (((r96 : Int) != 0))) rfl rfl rfl rfl ?_
                  refine r_v (Value.bool (((r96 : Int) != 0))) rfl rfl rfl rfl ?_
                  rcases hg98 : (((r96 : Int) != 0)) with _ | _
                  · replace hM := ifn (bne_f hg98) hM
                    refine r_y rfl ?_
                    refine r_v (Value.pointer none) rfl rfl rfl rfl ?_
                    refine r_y rfl ?_
                    replace hM := bind_sm hM; obtain ⟨r99, hr100, hM⟩ := hM
                    refine r_c (Value.int .i64 (r99)) rfl _ _ (ev_callF rfl call_28 rfl) (bits_Taker_Left_v2_g N  _ hr100) ?_
                    refine r_y rfl ?_
                    refine r_v (Value.bool (((r99 : Int) != 0))) rfl rfl rfl rfl ?_
                    refine r_v (Value.bool (((r99 : Int) != 0))) rfl rfl rfl rfl ?_
                    refine lx_nil ?_
                    refine hK77 _ _ ?_; try clear hK77 K77
                    refine A_gen [(80, Value.bool (((r99 : Int) != 0)))] rfl (fun T => ?_)
                    refine A_cond (((r99 : Int) != 0)) rfl (fun hc101 => ?_) (fun hc101 => ?_)
                    · replace hM := ifp (bne_iff_ne.1 hc101) hM
                      refine A_seq fun K102 hK102 => ?_
                      refine A_reg ?_
                      refine r_v (Value.bool (false)) rfl rfl rfl rfl ?_
                      refine lx_nil ?_
                      refine hK102 _ _ ?_; try clear hK102 K102
                      obtain rfl := Option.some.inj hM
                      refine A_ret (fun hn => endsV (v0 := Value.bool (false)) rfl (res1 rfl))
                    · replace hM := ifn (bne_f hc101) hM
                      refine A_skip ?_
                      refine fg _ (Sub.pick [[(b18, 26, #[Value.int .i64 (r16.1), U (hi (r16.2.1)), U (lo (r16.2.1))])], [(b8, 26, #[Value.int .i64 (r6.1), U (hi (r6.2.1)), U (lo (r6.2.1))])], [(b2, 26, #[Value.int .i64 (v_0), U (hi (v_1)), U (lo (v_1))])], S13, S90] [] rfl) ?_
                      exact ⟨hM, is_mk rfl rfl⟩
                  · replace hM := ifp (bne_iff_ne.1 hg98) hM
                    refine r_n true rfl (by decide) rfl ?_
                    refine r_n true rfl (by decide) rfl ?_
                    refine r_n true rfl (by decide) rfl ?_
                    refine r_v (Value.bool (true)) rfl rfl rfl rfl ?_
                    refine lx_nil ?_
                    refine hK77 _ _ ?_; try clear hK77 K77
                    refine A_gen [(80, Value.bool (true))] rfl (fun T => ?_)
                    refine A_cond true rfl (fun _ => ?_) (fun h_ => nomatch h_)
                    refine A_seq fun K103 hK103 => ?_
                    refine A_reg ?_
                    refine r_v (Value.bool (false)) rfl rfl rfl rfl ?_
                    refine lx_nil ?_
                    refine hK103 _ _ ?_; try clear hK103 K103
                    obtain rfl := Option.some.inj hM
                    refine A_ret (fun hn => endsV (v0 := Value.bool (false)) rfl (res1 rfl))
                · replace hM := ifp (bne_iff_ne.1 hg95) hM
                  refine r_n true rfl (by decide) rfl ?_
                  refine r_n true rfl (by decide) rfl ?_
                  refine r_n true rfl (by decide) rfl ?_
                  refine r_v (Value.bool (true)) rfl rfl rfl rfl ?_
                  refine r_v (Value.bool (true)) rfl rfl rfl rfl ?_
                  refine r_n true rfl (by decide) rfl ?_
                  refine r_n true rfl (by decide) rfl ?_
                  refine r_n true rfl (by decide) rfl ?_
                  refine r_v (Value.bool (true)) rfl rfl rfl rfl ?_
                  refine lx_nil ?_
                  refine hK77 _ _ ?_; try clear hK77 K77
                  refine A_gen [(80, Value.bool (true))] rfl (fun T => ?_)
                  refine A_cond true rfl (fun _ => ?_) (fun h_ => nomatch h_)
                  refine A_seq fun K104 hK104 => ?_
                  refine A_reg ?_
                  refine r_v (Value.bool (false)) rfl rfl rfl rfl ?_
                  refine lx_nil ?_
                  refine hK104 _ _ ?_; try clear hK104 K104
                  obtain rfl := Option.some.inj hM
                  refine A_ret (fun hn => endsV (v0 := Value.bool (false)) rfl (res1 rfl))
              · replace hM := ifp (bne_iff_ne.1 hg94) hM
                refine r_n true rfl (by decide) rfl ?_
                refine r_n true rfl (by decide) rfl ?_
                refine r_v (Value.bool (true)) rfl rfl rfl rfl ?_
                refine r_v (Value.bool (true)) rfl rfl rfl rfl ?_
                refine r_n true rfl (by decide) rfl ?_
                refine r_n true rfl (by decide) rfl ?_
                refine r_n true rfl (by decide) rfl ?_
                refine r_v (Value.bool (true)) rfl rfl rfl rfl ?_
                refine r_v (Value.bool (true)) rfl rfl rfl rfl ?_
                refine r_n true rfl (by decide) rfl ?_
                refine r_n true rfl (by decide) rfl ?_
                refine r_n true rfl (by decide) rfl ?_
                refine r_v (Value.bool (true)) rfl rfl rfl rfl ?_
                refine lx_nil ?_
                refine hK77 _ _ ?_; try clear hK77 K77
                refine A_gen [(80, Value.bool (true))] rfl (fun T => ?_)
                refine A_cond true rfl (fun _ => ?_) (fun h_ => nomatch h_)
                refine A_seq fun K105 hK105 => ?_
                refine A_reg ?_
                refine r_v (Value.bool (false)) rfl rfl rfl rfl ?_
                refine lx_nil ?_
                refine hK105 _ _ ?_; try clear hK105 K105
                obtain rfl := Option.some.inj hM
                refine A_ret (fun hn => endsV (v0 := Value.bool (false)) rfl (res1 rfl))
            · replace hM := ifp (bne_iff_ne.1 hg93) hM
              refine r_n true rfl (by decide) rfl ?_
              refine r_n true rfl (by decide) rfl ?_
              refine r_v (Value.bool (true)) rfl rfl rfl rfl ?_
              refine r_v (Value.bool (true)) rfl rfl rfl rfl ?_
              refine r_n true rfl (by decide) rfl ?_
              refine r_n true rfl (by decide) rfl ?_
              refine r_v (Value.bool (true)) rfl rfl rfl rfl ?_
              refine r_v (Value.bool (true)) rfl rfl rfl rfl ?_
              refine r_n true rfl (by decide) rfl ?_
              refine r_n true rfl (by decide) rfl ?_
              refine r_n true rfl (by decide) rfl ?_
              refine r_v (Value.bool (true)) rfl rfl rfl rfl ?_
              refine r_v (Value.bool (true)) rfl rfl rfl rfl ?_
              refine r_n true rfl (by decide) rfl ?_
              refine r_n true rfl (by decide) rfl ?_
              refine r_n true rfl (by decide) rfl ?_
              refine r_v (Value.bool (true)) rfl rfl rfl rfl ?_
              refine lx_nil ?_
              refine hK77 _ _ ?_; try clear hK77 K77
              refine A_gen [(80, Value.bool (true))] rfl (fun T => ?_)
              refine A_cond true rfl (fun _ => ?_) (fun h_ => nomatch h_)
              refine A_seq fun K106 hK106 => ?_
              refine A_reg ?_
              refine r_v (Value.bool (false)) rfl rfl rfl rfl ?_
              refine lx_nil ?_
              refine hK106 _ _ ?_; try clear hK106 K106
              obtain rfl := Option.some.inj hM
              refine A_ret (fun hn => endsV (v0 := Value.bool (false)) rfl (res1 rfl))
          · replace hM := ifp (bne_iff_ne.1 hg92) hM
            refine r_n true rfl (by decide) rfl ?_
            refine r_n true rfl (by decide) rfl ?_
            refine r_v (Value.bool (true)) rfl rfl rfl rfl ?_
            refine r_v (Value.bool (true)) rfl rfl rfl rfl ?_
            refine r_n true rfl (by decide) rfl ?_
            refine r_n true rfl (by decide) rfl ?_
            refine r_v (Value.bool (true)) rfl rfl rfl rfl ?_
            refine r_v (Value.bool (true)) rfl rfl rfl rfl ?_
            refine r_n true rfl (by decide) rfl ?_
            refine r_n true rfl (by decide) rfl ?_
            refine r_v (Value.bool (true)) rfl rfl rfl rfl ?_
            refine r_v (Value.bool (true)) rfl rfl rfl rfl ?_
            refine r_n true rfl (by decide) rfl ?_
            refine r_n true rfl (by decide) rfl ?_
            refine r_n true rfl (by decide) rfl ?_
            refine r_v (Value.bool (true)) rfl rfl rfl rfl ?_
            refine r_v (Value.bool (true)) rfl rfl rfl rfl ?_
            refine r_n true rfl (by decide) rfl ?_
            refine r_n true rfl (by decide) rfl ?_
            refine r_n true rfl (by decide) rfl ?_
            refine r_v (Value.bool (true)) rfl rfl rfl rfl ?_
            refine lx_nil ?_
            refine hK77 _ _ ?_; try clear hK77 K77
            refine A_gen [(80, Value.bool (true))] rfl (fun T => ?_)
            refine A_cond true rfl (fun _ => ?_) (fun h_ => nomatch h_)
            refine A_seq fun K107 hK107 => ?_
            refine A_reg ?_
            refine r_v (Value.bool (false)) rfl rfl rfl rfl ?_
            refine lx_nil ?_
            refine hK107 _ _ ?_; try clear hK107 K107
            obtain rfl := Option.some.inj hM
            refine A_ret (fun hn => endsV (v0 := Value.bool (false)) rfl (res1 rfl))
        · replace hM := ifp (bne_iff_ne.1 hg86) hM
          refine r_n true rfl (by decide) rfl ?_
          refine r_n true rfl (by decide) rfl ?_
          refine r_n true rfl (by decide) rfl ?_
          refine r_n true rfl (by decide) rfl ?_
          refine r_v (Value.bool (true)) rfl rfl rfl rfl ?_
          refine r_v (Value.bool (true)) rfl rfl rfl rfl ?_
          refine r_n true rfl (by decide) rfl ?_
          refine r_n true rfl (by decide) rfl ?_
          refine r_v (Value.bool (true)) rfl rfl rfl rfl ?_
          refine r_v (Value.bool (true)) rfl rfl rfl rfl ?_
          refine r_n true rfl (by decide) rfl ?_
          refine r_n true rfl (by decide) rfl ?_
          refine r_v (Value.bool (true)) rfl rfl rfl rfl ?_
          refine r_v (Value.bool (true)) rfl rfl rfl rfl ?_
          refine r_n true rfl (by decide) rfl ?_
          refine r_n true rfl (by decide) rfl ?_
          refine r_v (Value.bool (true)) rfl rfl rfl rfl ?_
          refine r_v (Value.bool (true)) rfl rfl rfl rfl ?_
          refine r_n true rfl (by decide) rfl ?_
          refine r_n true rfl (by decide) rfl ?_
          refine r_n true rfl (by decide) rfl ?_
          refine r_v (Value.bool (true)) rfl rfl rfl rfl ?_
          refine r_v (Value.bool (true)) rfl rfl rfl rfl ?_
          refine r_n true rfl (by decide) rfl ?_
          refine r_n true rfl (by decide) rfl ?_
          refine r_n true rfl (by decide) rfl ?_
          refine r_v (Value.bool (true)) rfl rfl rfl rfl ?_
          refine lx_nil ?_
          refine hK77 _ _ ?_; try clear hK77 K77
          refine A_gen [(80, Value.bool (true))] rfl (fun T => ?_)
          refine A_cond true rfl (fun _ => ?_) (fun h_ => nomatch h_)
          refine A_seq fun K108 hK108 => ?_
          refine A_reg ?_
          refine r_v (Value.bool (false)) rfl rfl rfl rfl ?_
          refine lx_nil ?_
          refine hK108 _ _ ?_; try clear hK108 K108
          obtain rfl := Option.some.inj hM
          refine A_ret (fun hn => endsV (v0 := Value.bool (false)) rfl (res1 rfl))
      · replace hM := ifp (bne_iff_ne.1 hg83) hM
        refine r_n true rfl (by decide) rfl ?_
        refine r_n true rfl (by decide) rfl ?_
        refine r_n true rfl (by decide) rfl ?_
        refine r_v (Value.bool (true)) rfl rfl rfl rfl ?_
        refine r_v (Value.bool (true)) rfl rfl rfl rfl ?_
        refine r_n true rfl (by decide) rfl ?_
        refine r_n true rfl (by decide) rfl ?_
        refine r_n true rfl (by decide) rfl ?_
        refine r_n true rfl (by decide) rfl ?_
        refine r_v (Value.bool (true)) rfl rfl rfl rfl ?_
        refine r_v (Value.bool (true)) rfl rfl rfl rfl ?_
        refine r_n true rfl (by decide) rfl ?_
        refine r_n true rfl (by decide) rfl ?_
        refine r_v (Value.bool (true)) rfl rfl rfl rfl ?_
        refine r_v (Value.bool (true)) rfl rfl rfl rfl ?_
        refine r_n true rfl (by decide) rfl ?_
        refine r_n true rfl (by decide) rfl ?_
        refine r_v (Value.bool (true)) rfl rfl rfl rfl ?_
        refine r_v (Value.bool (true)) rfl rfl rfl rfl ?_
        refine r_n true rfl (by decide) rfl ?_
        refine r_n true rfl (by decide) rfl ?_
        refine r_v (Value.bool (true)) rfl rfl rfl rfl ?_
        refine r_v (Value.bool (true)) rfl rfl rfl rfl ?_
        refine r_n true rfl (by decide) rfl ?_
        refine r_n true rfl (by decide) rfl ?_
        refine r_n true rfl (by decide) rfl ?_
        refine r_v (Value.bool (true)) rfl rfl rfl rfl ?_
        refine r_v (Value.bool (true)) rfl rfl rfl rfl ?_
        refine r_n true rfl (by decide) rfl ?_
        refine r_n true rfl (by decide) rfl ?_
        refine r_n true rfl (by decide) rfl ?_
        refine r_v (Value.bool (true)) rfl rfl rfl rfl ?_
        refine lx_nil ?_
        refine hK77 _ _ ?_; try clear hK77 K77
        refine A_gen [(80, Value.bool (true))] rfl (fun T => ?_)
        refine A_cond true rfl (fun _ => ?_) (fun h_ => nomatch h_)
        refine A_seq fun K109 hK109 => ?_
        refine A_reg ?_
        refine r_v (Value.bool (false)) rfl rfl rfl rfl ?_
        refine lx_nil ?_
        refine hK109 _ _ ?_; try clear hK109 K109
        obtain rfl := Option.some.inj hM
        refine A_ret (fun hn => endsV (v0 := Value.bool (false)) rfl (res1 rfl))
    · replace hM := ifp (bne_iff_ne.1 hg80) hM
      refine r_n true rfl (by decide) rfl ?_
      refine r_n true rfl (by decide) rfl ?_
      refine r_n true rfl (by decide) rfl ?_
      refine r_n true rfl (by decide) rfl ?_
      refine r_v (Value.bool (true)) rfl rfl rfl rfl ?_
      refine r_v (Value.bool (true)) rfl rfl rfl rfl ?_
      refine r_n true rfl (by decide) rfl ?_
      refine r_n true rfl (by decide) rfl ?_
      refine r_n true rfl (by decide) rfl ?_
      refine r_v (Value.bool (true)) rfl rfl rfl rfl ?_
      refine r_v (Value.bool (true)) rfl rfl rfl rfl ?_
      refine r_n true rfl (by decide) rfl ?_
      refine r_n true rfl (by decide) rfl ?_
      refine r_n true rfl (by decide) rfl ?_
      refine r_n true rfl (by decide) rfl ?_
      refine r_v (Value.bool (true)) rfl rfl rfl rfl ?_
      refine r_v (Value.bool (true)) rfl rfl rfl rfl ?_
      refine r_n true rfl (by decide) rfl ?_
      refine r_n true rfl (by decide) rfl ?_
      refine r_v (Value.bool (true)) rfl rfl rfl rfl ?_
      refine r_v (Value.bool (true)) rfl rfl rfl rfl ?_
      refine r_n true rfl (by decide) rfl ?_
      refine r_n true rfl (by decide) rfl ?_
      refine r_v (Value.bool (true)) rfl rfl rfl rfl ?_
      refine r_v (Value.bool (true)) rfl rfl rfl rfl ?_
      refine r_n true rfl (by decide) rfl ?_
      refine r_n true rfl (by decide) rfl ?_
      refine r_v (Value.bool (true)) rfl rfl rfl rfl ?_
      refine r_v (Value.bool (true)) rfl rfl rfl rfl ?_
      refine r_n true rfl (by decide) rfl ?_
      refine r_n true rfl (by decide) rfl ?_
      refine r_n true rfl (by decide) rfl ?_
      refine r_v (Value.bool (true)) rfl rfl rfl rfl ?_
      refine r_v (Value.bool (true)) rfl rfl rfl rfl ?_
      refine r_n true rfl (by decide) rfl ?_
      refine r_n true rfl (by decide) rfl ?_
      refine r_n true rfl (by decide) rfl ?_
      refine r_v (Value.bool (true)) rfl rfl rfl rfl ?_
      refine lx_nil ?_
      refine hK77 _ _ ?_; try clear hK77 K77
      refine A_gen [(80, Value.bool (true))] rfl (fun T => ?_)
      refine A_cond true rfl (fun _ => ?_) (fun h_ => nomatch h_)
      refine A_seq fun K110 hK110 => ?_
      refine A_reg ?_
      refine r_v (Value.bool (false)) rfl rfl rfl rfl ?_
      refine lx_nil ?_
      refine hK110 _ _ ?_; try clear hK110 K110
      obtain rfl := Option.some.inj hM
      refine A_ret (fun hn => endsV (v0 := Value.bool (false)) rfl (res1 rfl))
  · clear hM; rintro t l ⟨hM, ⟨T, rfl⟩, rfl⟩
    unfold shunterlaw03_BitsNils_k1 at hM
    refine A_seq fun K19 hK19 => ?_
    refine A_reg ?_
    refine r_a (36, #[Value.slice none 0 0, Value.int .i64 (0)]) rfl rfl rfl (fun b20 => ?_) (.inr rfl)
    refine lx_nil ?_
    refine hK19 _ _ ?_; try clear hK19 K19
    refine A_seq fun K21 hK21 => ?_
    refine A_regC [(some 81, false)] (conG Try.prog [(81, fun v_ L_ U_ => (p1 (fun v => v) 5 encY (List.replicate ((9216 : Int)).toNat (0 : UInt8))) v_ L_ U_)]) ?_
    replace hM := ck_some hM; obtain ⟨ck22, hM⟩ := hM
    refine r_mk (Ls := [[(b20, 36, #[Value.slice none 0 0, Value.int .i64 (0)])]]) 5 encY ((0 : UInt8)) ((9216 : Int)) rfl rfl rfl rfl rfl rfl rfl rfl rfl rfl 140737488355328 rfl ck22 (fun _ _ _ _ _ => Iff.rfl) (fun s23 S24 H25 => ?_)
    refine r_v (s23) rfl rfl rfl rfl ?_
    refine lx_nil ?_
    refine hK21 _ _ ?_; try clear hK21 K21
    refine A_seq fun K26 hK26 => ?_
    refine A_regC [(some 83, true)] (conG Try.prog [(83, fun v_ L_ U_ => ∀ u0_, bits_Row_Bytes_v1_m N ([]) 0 (List.replicate ((9216 : Int)).toNat (0 : UInt8)) = some u0_ → (pO (List.flatten [[(b20, 36, #[Value.slice none 0 0, Value.int .i64 (0)])], []]) (oS 5 encY u0_.2.1 fun s_0 => (oE (Value.int .i64 (u0_.1)) [[(b20, 36, #[s_0, Value.int .i64 (u0_.2.2)])]]))) v_ L_ U_)]) ?_
    refine r_v (s23) rfl rfl rfl rfl ?_
    refine lx_nilp [[(b20, 36, #[Value.slice none 0 0, Value.int .i64 (0)])], S24] ?_
    replace hM := bind_sm hM; obtain ⟨r27, hr28, hM⟩ := hM
    refine r_gm (Ls := [[(b20, 36, #[Value.slice none 0 0, Value.int .i64 (0)])], S24, []]) (FL := [[(b20, 36, #[Value.slice none 0 0, Value.int .i64 (0)])], []]) (RL := [S24]) [0, 2] (oS 5 encY r27.2.1 fun s_0 => (oE (Value.int .i64 (r27.1)) [[(b20, 36, #[s_0, Value.int .i64 (r27.2.2)])]])) (some 83) 14 _ rfl rfl rfl rfl rfl (ev_callF rfl call_14 rfl) (fun own_ nw_ hn_ hs_ => bits_Row_Bytes_v1_g N ([]) 0 (List.replicate ((9216 : Int)).toNat (0 : UInt8)) _ hr28 _ b20 (Value.slice none 0 0) [] Sl.nil s23 (rd_sans (Ls := [[(b20, 36, #[Value.slice none 0 0, Value.int .i64 (0)])], S24, []]) (is := [0, 2]) 1 H25 rfl rfl hn_ hs_)) (fun _ _ v_ L_ U_ => ⟨fun h_ => h_ _ hr28, fun h_ => by intro _ e_; cases Option.some.inj (e_.symm.trans hr28); exact h_⟩) (NiceO.sub (R := ([(b20, 36, #[Value.slice none 0 0, Value.int .i64 (0)])] ++ [])) (niceS fun s_0 => (niceE rfl)) (Sub.pick [[(b20, 36, #[Value.slice none 0 0, Value.int .i64 (0)])], []] [0] rfl)) ?_
    rintro _ _ ⟨s29, S30, _, H31, ⟨rfl, rfl⟩, rfl⟩
    refine lx_perm (Ls := [S24, S30, [(b20, 36, #[s29, Value.int .i64 (r27.2.2)])]]) (Ls' := [[(b20, 36, #[s29, Value.int .i64 (r27.2.2)])], S24, S30]) [2, 0, 1] rfl rfl ?_
    refine r_v (Value.int .i64 (r27.1)) rfl rfl rfl rfl ?_
    refine lx_nil ?_
    refine hK26 _ _ ?_; try clear hK26 K26
    refine A_seq fun K32 hK32 => ?_
    refine A_regC [(some 86, true)] (conG Try.prog [(86, fun v_ L_ U_ => ∀ u0_, bits_Row_Bytes_v1_m N r27.2.1 r27.2.2 ((((List.replicate ((9216 : Int)).toNat (0 : UInt8))).take (((1 : Int)).toNat)).drop (0)) = some u0_ → (pO (List.flatten [[(b20, 36, #[s29, Value.int .i64 (r27.2.2)])], S30]) (oS 5 encY u0_.2.1 fun s_0 => (oE (Value.int .i64 (u0_.1)) [[(b20, 36, #[s_0, Value.int .i64 (u0_.2.2)])]]))) v_ L_ U_)]) ?_
    refine r_v (s23) rfl rfl rfl rfl ?_
    replace hM := ck_some hM; obtain ⟨ck33, hM⟩ := hM
    refine r_v (subA s23 (0) (((1 : Int)).toNat) 1) rfl rfl rfl (ev_v (ev_subSl2 rfl rfl rfl rfl (Sl.shp H25) ck33)) ?_
    replace hM := bind_sm hM; obtain ⟨r34, hr35, hM⟩ := hM
    refine r_gm (Ls := [[(b20, 36, #[s29, Value.int .i64 (r27.2.2)])], S24, S30]) (FL := [[(b20, 36, #[s29, Value.int .i64 (r27.2.2)])], S30]) (RL := [S24]) [0, 2] (oS 5 encY r34.2.1 fun s_0 => (oE (Value.int .i64 (r34.1)) [[(b20, 36, #[s_0, Value.int .i64 (r34.2.2)])]])) (some 86) 14 _ rfl rfl rfl rfl rfl (ev_callF rfl call_14 rfl) (fun own_ nw_ hn_ hs_ => bits_Row_Bytes_v1_g N r27.2.1 r27.2.2 ((((List.replicate ((9216 : Int)).toNat (0 : UInt8))).take (((1 : Int)).toNat)).drop (0)) _ hr35 _ b20 s29 S30 H31 (subA s23 (0) (((1 : Int)).toNat) 1) (Rd.sub (rd_sans (Ls := [[(b20, 36, #[s29, Value.int .i64 (r27.2.2)])], S24, S30]) (is := [0, 2]) 1 H25 rfl rfl hn_ hs_) (Nat.zero_le _) (toNat_len ck33.2))) (fun _ _ v_ L_ U_ => ⟨fun h_ => h_ _ hr35, fun h_ => by intro _ e_; cases Option.some.inj (e_.symm.trans hr35); exact h_⟩) (NiceO.sub (R := ([(b20, 36, #[s29, Value.int .i64 (r27.2.2)])] ++ [])) (niceS fun s_0 => (niceE rfl)) (Sub.pick [[(b20, 36, #[s29, Value.int .i64 (r27.2.2)])], S30] [0] rfl)) ?_
    rintro _ _ ⟨s36, S37, _, H38, ⟨rfl, rfl⟩, rfl⟩
    refine lx_perm (Ls := [S24, S37, [(b20, 36, #[s36, Value.int .i64 (r34.2.2)])]]) (Ls' := [[(b20, 36, #[s36, Value.int .i64 (r34.2.2)])], S24, S37]) [2, 0, 1] rfl rfl ?_
    refine r_v (Value.int .i64 (r34.1)) rfl rfl rfl rfl ?_
    refine lx_nil ?_
    refine hK32 _ _ ?_; try clear hK32 K32
    refine A_seq fun K39 hK39 => ?_
    refine A_regC [(some 88, true)] (conG Try.prog [(88, fun v_ L_ U_ => ∀ u0_, bits_Row_Add_v1_m N r34.2.1 r34.2.2 1 ((0#64) ++ (0#64)) = some u0_ → (pO (List.flatten [[(b20, 36, #[s36, Value.int .i64 (r34.2.2)])], S37]) (oS 5 encY u0_.2.1 fun s_0 => (oE (Value.int .i64 (u0_.1)) [[(b20, 36, #[s_0, Value.int .i64 (u0_.2.2)])]]))) v_ L_ U_)]) ?_
    refine r_v (Value.agg #[Value.int .i64 (1), U (0#64), U (0#64)]) rfl rfl rfl (ev_buildS rfl rfl rfl rfl) ?_
    replace hM := bind_sm hM; obtain ⟨r40, hr41, hM⟩ := hM
    refine r_gm (Ls := [[(b20, 36, #[s36, Value.int .i64 (r34.2.2)])], S24, S37]) (FL := [[(b20, 36, #[s36, Value.int .i64 (r34.2.2)])], S37]) (RL := [S24]) [0, 2] (oS 5 encY r40.2.1 fun s_0 => (oE (Value.int .i64 (r40.1)) [[(b20, 36, #[s_0, Value.int .i64 (r40.2.2)])]])) (some 88) 16 _ rfl rfl rfl rfl rfl (ev_callF rfl call_16 rfl) (fun own_ nw_ hn_ hs_ => (by have h_ := bits_Row_Add_v1_g N r34.2.1 r34.2.2 1 ((0#64) ++ (0#64)) _ hr41 (sans hs_.view (([[(b20, 36, #[s36, Value.int .i64 (r34.2.2)])], S37]).flatten.map (·.1))) b20 s36 S37 H38; simp only [app_hl] at h_; exact h_)) (fun _ _ v_ L_ U_ => ⟨fun h_ => h_ _ hr41, fun h_ => by intro _ e_; cases Option.some.inj (e_.symm.trans hr41); exact h_⟩) (NiceO.sub (R := ([(b20, 36, #[s36, Value.int .i64 (r34.2.2)])] ++ [])) (niceS fun s_0 => (niceE rfl)) (Sub.pick [[(b20, 36, #[s36, Value.int .i64 (r34.2.2)])], S37] [0] rfl)) ?_
    rintro _ _ ⟨s42, S43, _, H44, ⟨rfl, rfl⟩, rfl⟩
    refine lx_perm (Ls := [S24, S43, [(b20, 36, #[s42, Value.int .i64 (r40.2.2)])]]) (Ls' := [[(b20, 36, #[s42, Value.int .i64 (r40.2.2)])], S24, S43]) [2, 0, 1] rfl rfl ?_
    refine r_v (Value.int .i64 (r40.1)) rfl rfl rfl rfl ?_
    refine lx_nil ?_
    refine hK39 _ _ ?_; try clear hK39 K39
    refine A_seq fun K45 hK45 => ?_
    refine A_regC [(some 90, true)] (conG Try.prog [(90, fun v_ L_ U_ => ∀ u0_, bits_Take_m N (List.replicate ((9216 : Int)).toNat (0 : UInt8)) = some u0_ → (pO (List.flatten []) (oS 5 encY u0_.1 fun s_0 => (oB 81 #[s_0, Value.int .i64 (u0_.2)] fun b_0 => (oE (Value.pointer (some ⟨b_0, 0, none⟩)) [])))) v_ L_ U_)]) ?_
    refine r_v (s23) rfl rfl rfl rfl ?_
    replace hM := bind_sm hM; obtain ⟨r46, hr47, hM⟩ := hM
    refine r_gm (Ls := [[(b20, 36, #[s42, Value.int .i64 (r40.2.2)])], S24, S43]) (FL := []) (RL := [[(b20, 36, #[s42, Value.int .i64 (r40.2.2)])], S24, S43]) [] (oS 5 encY r46.1 fun s_0 => (oB 81 #[s_0, Value.int .i64 (r46.2)] fun b_0 => (oE (Value.pointer (some ⟨b_0, 0, none⟩)) []))) (some 90) 22 _ rfl rfl rfl rfl rfl (ev_callF rfl call_22 rfl) (fun own_ nw_ hn_ hs_ => bits_Take_g N (List.replicate ((9216 : Int)).toNat (0 : UInt8)) _ hr47 _ s23 (rd_sans (Ls := [[(b20, 36, #[s42, Value.int .i64 (r40.2.2)])], S24, S43]) (is := []) 1 H25 rfl rfl hn_ hs_)) (fun _ _ v_ L_ U_ => ⟨fun h_ => h_ _ hr47, fun h_ => by intro _ e_; cases Option.some.inj (e_.symm.trans hr47); exact h_⟩) (NiceO.sub (R := []) (niceS fun s_0 => (niceB fun b_0 => (niceE rfl))) (Sub.pick [] [] rfl)) ?_
    rintro _ _ ⟨s49, S50, _, H51, ⟨b48, _, ⟨rfl, rfl⟩, rfl⟩, rfl⟩
    refine lx_perm (Ls := [[(b20, 36, #[s42, Value.int .i64 (r40.2.2)])], S24, S43, S50, [(b48, 81, #[s49, Value.int .i64 (r46.2)])]]) (Ls' := [[(b20, 36, #[s42, Value.int .i64 (r40.2.2)])], [(b48, 81, #[s49, Value.int .i64 (r46.2)])], S24, S43, S50]) [0, 4, 1, 2, 3] rfl rfl ?_
    refine r_v (Value.pointer (some ⟨b48, 0, none⟩)) rfl rfl rfl rfl ?_
    refine lx_nil ?_
    refine hK45 _ _ ?_; try clear hK45 K45
    refine A_seq fun K52 hK52 => ?_
    refine A_regC [(some 93, true)] (conG Try.prog [(93, fun v_ L_ U_ => ∀ u0_, bits_Taker_Bytes_v1_m N r46.1 r46.2 (-1) = some u0_ → (pO (List.flatten [[(b48, 81, #[s49, Value.int .i64 (r46.2)])], S50]) (oS 5 encY u0_.1 fun s_0 => (oI 5 encY s49 u0_.2.2.1 (oE (Value.tuple #[s_0, Value.int .i64 (u0_.2.1)]) [[(b48, 81, #[s49, Value.int .i64 (u0_.2.2.2)])]])))) v_ L_ U_)]) ?_
    refine r_v (Value.pointer (some ⟨b48, 0, none⟩)) rfl rfl rfl rfl ?_
    replace hM := bind_sm hM; obtain ⟨r53, hr54, hM⟩ := hM
    replace hM := ck_some hM; obtain ⟨ck55, hM⟩ := hM
    refine r_gm (Ls := [[(b20, 36, #[s42, Value.int .i64 (r40.2.2)])], [(b48, 81, #[s49, Value.int .i64 (r46.2)])], S24, S43, S50]) (FL := [[(b48, 81, #[s49, Value.int .i64 (r46.2)])], S50]) (RL := [[(b20, 36, #[s42, Value.int .i64 (r40.2.2)])], S24, S43]) [1, 4] (oS 5 encY r53.1 fun s_0 => (oI 5 encY s49 r53.2.2.1 (oE (Value.tuple #[s_0, Value.int .i64 (r53.2.1)]) [[(b48, 81, #[s49, Value.int .i64 (r53.2.2.2)])]]))) (some 93) 23 _ rfl rfl rfl rfl rfl (ev_callF rfl call_23 rfl) (fun own_ nw_ hn_ hs_ => bits_Taker_Bytes_v1_g N r46.1 r46.2 (-1) _ hr54 _ b48 s49 S50 H51) (fun _ _ v_ L_ U_ => ⟨fun h_ => h_ _ hr54, fun h_ => by intro _ e_; cases Option.some.inj (e_.symm.trans hr54); exact h_⟩) (NiceO.sub (R := (S50 ++ ([(b48, 81, #[s49, Value.int .i64 (r46.2)])] ++ []))) (niceS fun s_0 => (niceI H51 ck55 (niceE rfl))) (Sub.pick [[(b48, 81, #[s49, Value.int .i64 (r46.2)])], S50] [1, 0] rfl)) ?_
    rintro _ _ ⟨s58, S59, _, H60, ⟨S56, _, H57, ⟨rfl, rfl⟩, rfl⟩, rfl⟩
    refine lx_perm (Ls := [[(b20, 36, #[s42, Value.int .i64 (r40.2.2)])], S24, S43, S59, S56, [(b48, 81, #[s49, Value.int .i64 (r53.2.2.2)])]]) (Ls' := [[(b20, 36, #[s42, Value.int .i64 (r40.2.2)])], [(b48, 81, #[s49, Value.int .i64 (r53.2.2.2)])], S24, S43, S59, S56]) [0, 5, 1, 2, 3, 4] rfl rfl ?_
    refine r_v (Value.tuple #[s58, Value.int .i64 (r53.2.1)]) rfl rfl rfl rfl ?_
    refine r_v (s58) rfl rfl rfl rfl ?_
    refine r_v (Value.int .i64 (r53.2.1)) rfl rfl rfl rfl ?_
    refine r_v (s58) rfl rfl rfl rfl ?_
    refine r_v (Value.int .i64 (r53.2.1)) rfl rfl rfl rfl ?_
    refine lx_nil ?_
    refine hK52 _ _ ?_; try clear hK52 K52
    refine A_seq fun K61 hK61 => ?_
    refine A_regC [(some 111, false), (some 115, true)] (conG Try.prog [(111, fun v_ L_ U_ => ∀ u0_, bits_Row_Len_v1_m N r40.2.1 r40.2.2 = some u0_ → (pV (Value.int .i64 (u0_))) v_ L_ U_), (115, fun v_ L_ U_ => ∀ u0_, bits_Row_Bytes_v1_m N r40.2.1 r40.2.2 ([]) = some u0_ → (pO (List.flatten [[(b20, 36, #[s42, Value.int .i64 (r40.2.2)])], S43]) (oS 5 encY u0_.2.1 fun s_0 => (oE (Value.int .i64 (u0_.1)) [[(b20, 36, #[s_0, Value.int .i64 (u0_.2.2)])]]))) v_ L_ U_)]) ?_
    refine r_v (Value.int .i64 (r27.1)) rfl rfl rfl rfl ?_
    refine r_v (Value.bool (((r27.1 : Int) == 0))) rfl rfl rfl rfl ?_
    refine r_v (Value.bool (((r27.1 : Int) == 0))) rfl rfl rfl rfl ?_
    rcases hg62 : (((r27.1 : Int) == 0)) with _ | _
    · replace hM := ifn (ne_of_beq_false hg62) hM
      refine r_n false rfl (by decide) rfl ?_
      refine r_n false rfl (by decide) rfl ?_
      refine r_v (Value.bool (false)) rfl rfl rfl rfl ?_
      refine r_v (Value.bool (false)) rfl rfl rfl rfl ?_
      refine r_n false rfl (by decide) rfl ?_
      refine r_n false rfl (by decide) rfl ?_
      refine r_v (Value.bool (false)) rfl rfl rfl rfl ?_
      refine r_v (Value.bool (false)) rfl rfl rfl rfl ?_
      refine r_n false rfl (by decide) rfl ?_
      refine r_n false rfl (by decide) rfl ?_
      refine r_v (Value.bool (false)) rfl rfl rfl rfl ?_
      refine r_v (Value.bool (false)) rfl rfl rfl rfl ?_
      refine r_n false rfl (by decide) rfl ?_
      refine r_n false rfl (by decide) rfl ?_
      refine r_v (Value.bool (false)) rfl rfl rfl rfl ?_
      refine r_v (Value.bool (false)) rfl rfl rfl rfl ?_
      refine r_n false rfl (by decide) rfl ?_
      refine r_n false rfl (by decide) rfl ?_
      refine r_v (Value.bool (false)) rfl rfl rfl rfl ?_
      refine r_v (Value.bool (false)) rfl rfl rfl rfl ?_
      refine r_n false rfl (by decide) rfl ?_
      refine r_v (Value.bool (false)) rfl rfl rfl rfl ?_
      refine r_v (Value.bool (false)) rfl rfl rfl rfl ?_
      refine lx_nil ?_
      refine hK61 _ _ ?_; try clear hK61 K61
      refine A_gen [(4, Value.bool (false))] rfl (fun T => ?_)
      obtain rfl := Option.some.inj hM
      refine A_ret (fun hn => endsV (v0 := Value.bool (false)) rfl (res1 rfl))
    · replace hM := ifp (eq_of_beq hg62) hM
      refine r_y rfl ?_
      refine r_v (Value.int .i64 (r34.1)) rfl rfl rfl rfl ?_
      refine r_y rfl ?_
      refine r_v (Value.bool (((r34.1 : Int) == 2))) rfl rfl rfl rfl ?_
      refine r_v (Value.bool (((r34.1 : Int) == 2))) rfl rfl rfl rfl ?_
      refine r_v (Value.bool (((r34.1 : Int) == 2))) rfl rfl rfl rfl ?_
      rcases hg63 : (((r34.1 : Int) == 2)) with _ | _
      · replace hM := ifn (ne_of_beq_false hg63) hM
        refine r_n false rfl (by decide) rfl ?_
        refine r_n false rfl (by decide) rfl ?_
        refine r_v (Value.bool (false)) rfl rfl rfl rfl ?_
        refine r_v (Value.bool (false)) rfl rfl rfl rfl ?_
        refine r_n false rfl (by decide) rfl ?_
        refine r_n false rfl (by decide) rfl ?_
        refine r_v (Value.bool (false)) rfl rfl rfl rfl ?_
        refine r_v (Value.bool (false)) rfl rfl rfl rfl ?_
        refine r_n false rfl (by decide) rfl ?_
        refine r_n false rfl (by decide) rfl ?_
        refine r_v (Value.bool (false)) rfl rfl rfl rfl ?_
        refine r_v (Value.bool (false)) rfl rfl rfl rfl ?_
        refine r_n false rfl (by decide) rfl ?_
        refine r_n false rfl (by decide) rfl ?_
        refine r_v (Value.bool (false)) rfl rfl rfl rfl ?_
        refine r_v (Value.bool (false)) rfl rfl rfl rfl ?_
        refine r_n false rfl (by decide) rfl ?_
        refine r_v (Value.bool (false)) rfl rfl rfl rfl ?_
        refine r_v (Value.bool (false)) rfl rfl rfl rfl ?_
        refine lx_nil ?_
        refine hK61 _ _ ?_; try clear hK61 K61
        refine A_gen [(4, Value.bool (false))] rfl (fun T => ?_)
        obtain rfl := Option.some.inj hM
        refine A_ret (fun hn => endsV (v0 := Value.bool (false)) rfl (res1 rfl))
      · replace hM := ifp (eq_of_beq hg63) hM
        refine r_y rfl ?_
        refine r_v (Value.int .i64 (r40.1)) rfl rfl rfl rfl ?_
        refine r_y rfl ?_
        refine r_v (Value.bool (((r40.1 : Int) == 2))) rfl rfl rfl rfl ?_
        refine r_v (Value.bool (((r40.1 : Int) == 2))) rfl rfl rfl rfl ?_
        refine r_v (Value.bool (((r40.1 : Int) == 2))) rfl rfl rfl rfl ?_
        rcases hg64 : (((r40.1 : Int) == 2)) with _ | _
        · replace hM := ifn (ne_of_beq_false hg64) hM
          refine r_n false rfl (by decide) rfl ?_
          refine r_n false rfl (by decide) rfl ?_
          refine r_v (Value.bool (false)) rfl rfl rfl rfl ?_
          refine r_v (Value.bool (false)) rfl rfl rfl rfl ?_
          refine r_n false rfl (by decide) rfl ?_
          refine r_n false rfl (by decide) rfl ?_
          refine r_v (Value.bool (false)) rfl rfl rfl rfl ?_
          refine r_v (Value.bool (false)) rfl rfl rfl rfl ?_
          refine r_n false rfl (by decide) rfl ?_
          refine r_n false rfl (by decide) rfl ?_
          refine r_v (Value.bool (false)) rfl rfl rfl rfl ?_
          refine r_v (Value.bool (false)) rfl rfl rfl rfl ?_
          refine r_n false rfl (by decide) rfl ?_
          refine r_v (Value.bool (false)) rfl rfl rfl rfl ?_
          refine r_v (Value.bool (false)) rfl rfl rfl rfl ?_
          refine lx_nil ?_
          refine hK61 _ _ ?_; try clear hK61 K61
          refine A_gen [(4, Value.bool (false))] rfl (fun T => ?_)
          obtain rfl := Option.some.inj hM
          refine A_ret (fun hn => endsV (v0 := Value.bool (false)) rfl (res1 rfl))
        · replace hM := ifp (eq_of_beq hg64) hM
          refine r_y rfl ?_
          refine r_v (Value.int .i64 (r53.2.1)) rfl rfl rfl rfl ?_
          refine r_y rfl ?_
          refine r_v (Value.bool (((r53.2.1 : Int) == 7))) rfl rfl rfl rfl ?_
          refine r_v (Value.bool (((r53.2.1 : Int) == 7))) rfl rfl rfl rfl ?_
          refine r_v (Value.bool (((r53.2.1 : Int) == 7))) rfl rfl rfl rfl ?_
          rcases hg65 : (((r53.2.1 : Int) == 7)) with _ | _
          · replace hM := ifn (ne_of_beq_false hg65) hM
            refine r_n false rfl (by decide) rfl ?_
            refine r_n false rfl (by decide) rfl ?_
            refine r_v (Value.bool (false)) rfl rfl rfl rfl ?_
            refine r_v (Value.bool (false)) rfl rfl rfl rfl ?_
            refine r_n false rfl (by decide) rfl ?_
            refine r_n false rfl (by decide) rfl ?_
            refine r_v (Value.bool (false)) rfl rfl rfl rfl ?_
            refine r_v (Value.bool (false)) rfl rfl rfl rfl ?_
            refine r_n false rfl (by decide) rfl ?_
            refine r_v (Value.bool (false)) rfl rfl rfl rfl ?_
            refine r_v (Value.bool (false)) rfl rfl rfl rfl ?_
            refine lx_nil ?_
            refine hK61 _ _ ?_; try clear hK61 K61
            refine A_gen [(4, Value.bool (false))] rfl (fun T => ?_)
            obtain rfl := Option.some.inj hM
            refine A_ret (fun hn => endsV (v0 := Value.bool (false)) rfl (res1 rfl))
          · replace hM := ifp (eq_of_beq hg65) hM
            refine r_y rfl ?_
            replace hM := bind_sm hM; obtain ⟨r66, hr67, hM⟩ := hM
            refine r_gv (Value.int .i64 (r66)) 19 _ rfl rfl rfl (ev_callF rfl call_19 rfl) (fun own_ nw_ hs_ => bits_Row_Len_v1_g N r40.2.1 r40.2.2 _ hr67 hs_.view b20 s42 ((rd_own H44 (mem_chunk (Ls := [[(b20, 36, #[s42, Value.int .i64 (r40.2.2)])], [(b48, 81, #[s49, Value.int .i64 (r53.2.2.2)])], S24, S43, S59, S56]) (k := 3) rfl rfl)) own_ nw_ hs_) (blk_own 0 rfl rfl own_ nw_ hs_)) (fun _ _ v_ L_ U_ => ⟨fun h_ => h_ _ hr67, fun h_ => by intro _ e_; cases Option.some.inj (e_.symm.trans hr67); exact h_⟩) ?_
            refine r_y rfl ?_
            refine r_v (Value.bool (((r66 : Int) == 73728))) rfl rfl rfl rfl ?_
            refine r_v (Value.bool (((r66 : Int) == 73728))) rfl rfl rfl rfl ?_
            refine r_v (Value.bool (((r66 : Int) == 73728))) rfl rfl rfl rfl ?_
            rcases hg68 : (((r66 : Int) == 73728)) with _ | _
            · replace hM := ifn (ne_of_beq_false hg68) hM
              refine r_n false rfl (by decide) rfl ?_
              refine r_n false rfl (by decide) rfl ?_
              refine r_v (Value.bool (false)) rfl rfl rfl rfl ?_
              refine r_v (Value.bool (false)) rfl rfl rfl rfl ?_
              refine r_n false rfl (by decide) rfl ?_
              refine r_v (Value.bool (false)) rfl rfl rfl rfl ?_
              refine r_v (Value.bool (false)) rfl rfl rfl rfl ?_
              refine lx_nil ?_
              refine hK61 _ _ ?_; try clear hK61 K61
              refine A_gen [(4, Value.bool (false))] rfl (fun T => ?_)
              obtain rfl := Option.some.inj hM
              refine A_ret (fun hn => endsV (v0 := Value.bool (false)) rfl (res1 rfl))
            · replace hM := ifp (eq_of_beq hg68) hM
              refine r_y rfl ?_
              replace hM := bind_sm hM; obtain ⟨r69, hr70, hM⟩ := hM
              refine r_gm (Ls := [[(b20, 36, #[s42, Value.int .i64 (r40.2.2)])], [(b48, 81, #[s49, Value.int .i64 (r53.2.2.2)])], S24, S43, S59, S56]) (FL := [[(b20, 36, #[s42, Value.int .i64 (r40.2.2)])], S43]) (RL := [[(b48, 81, #[s49, Value.int .i64 (r53.2.2.2)])], S24, S59, S56]) [0, 3] (oS 5 encY r69.2.1 fun s_0 => (oE (Value.int .i64 (r69.1)) [[(b20, 36, #[s_0, Value.int .i64 (r69.2.2)])]])) (some 115) 14 _ rfl rfl rfl rfl rfl (ev_callF rfl call_14 rfl) (fun own_ nw_ hn_ hs_ => bits_Row_Bytes_v1_g N r40.2.1 r40.2.2 ([]) _ hr70 _ b20 s42 S43 H44 (Value.slice none 0 0) (.inl ⟨rfl, rfl⟩)) (fun _ _ v_ L_ U_ => ⟨fun h_ => h_ _ hr70, fun h_ => by intro _ e_; cases Option.some.inj (e_.symm.trans hr70); exact h_⟩) (NiceO.sub (R := ([(b20, 36, #[s42, Value.int .i64 (r40.2.2)])] ++ [])) (niceS fun s_0 => (niceE rfl)) (Sub.pick [[(b20, 36, #[s42, Value.int .i64 (r40.2.2)])], S43] [0] rfl)) ?_
              rintro _ _ ⟨s71, S72, _, H73, ⟨rfl, rfl⟩, rfl⟩
              refine lx_perm (Ls := [[(b48, 81, #[s49, Value.int .i64 (r53.2.2.2)])], S24, S59, S56, S72, [(b20, 36, #[s71, Value.int .i64 (r69.2.2)])]]) (Ls' := [[(b48, 81, #[s49, Value.int .i64 (r53.2.2.2)])], [(b20, 36, #[s71, Value.int .i64 (r69.2.2)])], S24, S59, S56, S72]) [0, 5, 1, 2, 3, 4] rfl rfl ?_
              refine r_y rfl ?_
              refine r_v (Value.bool (((r69.1 : Int) == 0))) rfl rfl rfl rfl ?_
              refine r_v (Value.bool (((r69.1 : Int) == 0))) rfl rfl rfl rfl ?_
              refine r_v (Value.bool (((r69.1 : Int) == 0))) rfl rfl rfl rfl ?_
              rcases hg74 : (((r69.1 : Int) == 0)) with _ | _
              · replace hM := ifn (ne_of_beq_false hg74) hM
                refine r_n false rfl (by decide) rfl ?_
                refine r_v (Value.bool (false)) rfl rfl rfl rfl ?_
                refine r_v (Value.bool (false)) rfl rfl rfl rfl ?_
                refine lx_nil ?_
                refine hK61 _ _ ?_; try clear hK61 K61
                refine A_gen [(4, Value.bool (false))] rfl (fun T => ?_)
                obtain rfl := Option.some.inj hM
                refine A_ret (fun hn => endsV (v0 := Value.bool (false)) rfl (res1 rfl))
              · replace hM := ifp (eq_of_beq hg74) hM
                refine r_y rfl ?_
                replace hM := bind_sm hM; obtain ⟨r75, hr76, hM⟩ := hM
                refine r_c (Value.bool (r75)) rfl _ _ (ev_callF rfl call_9 rfl) (shunterlaw03_lives_g N  _ hr76) ?_
                refine r_v (Value.bool (r75)) rfl rfl rfl rfl ?_
                refine r_v (Value.bool (r75)) rfl rfl rfl rfl ?_
                refine lx_nil ?_
                refine hK61 _ _ ?_; try clear hK61 K61
                refine A_gen [(4, Value.bool (r75))] rfl (fun T => ?_)
                obtain rfl := Option.some.inj hM
                refine A_ret (fun hn => endsV (v0 := Value.bool (r75)) rfl (res1 rfl))
end Go.Proofs.Ytmiabhodfcidcaa
