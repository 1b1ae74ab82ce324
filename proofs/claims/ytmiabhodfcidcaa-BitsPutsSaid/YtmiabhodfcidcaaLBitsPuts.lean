/- models of functions and their walks -/
import Derived.Test.YtmiabhodfcidcaaBb
namespace Go.Proofs.Ytmiabhodfcidcaa
open Go Go.RowKit Go.Eng
def shunterlaw03_BitsPuts_k1 (N : Nat) (b : List UInt8) (at' : Int) (v_0 : Int) (v_1 : BitVec 128) (r11 : (List UInt8) × Int) : Option (Bool) := if (r11.2 : Int) ≠ 0 then if (((r11.1).length : Int) : Int) = 0 then (shunterlaw03_lives_m N ).bind fun r27 => some (r27) else some (false) else (bits_Get_m N r11.1 at' v_0).bind fun r30 => if (((r30.1) == (v_0)) && ((r30.2.1) == (v_1))) = true then if (r30.2.2 : Int) = 0 then if (((r11.1).length : Int) : Int) = ((b).length : Int) then (shunterlaw03_lives_m N ).bind fun r37 => some (r37) else some (false) else some (false) else some (false)
def shunterlaw03_BitsPuts_m (N : Nat) (b : List UInt8) (at' : Int) (v_0 : Int) (v_1 : BitVec 128) : Option (Bool) := if (((b).length : Int) : Int) > 200 then (shunterlaw03_lives_m N ).bind fun r7 => some (r7) else (bits_Put_m N b at' v_0 v_1).bind fun r11 => (shunterref03_Put_m N b at' v_0 v_1).bind fun r17 => if (r11.1) ≠ (r17.1) then some (false) else if (r11.2 : Int) ≠ r17.2 then some (false) else if (b) ≠ (b) then some (false) else shunterlaw03_BitsPuts_k1 N b at' v_0 v_1 r11 
set_option maxRecDepth 100000 in
set_option maxHeartbeats 400000 in
theorem shunterlaw03_BitsPuts_g (N : Nat) (b : List UInt8) (at' : Int) (v_0 : Int) (v_1 : BitVec 128) (r : Bool) (hM : shunterlaw03_BitsPuts_m N b at' v_0 v_1 = some r) (ro : Addr → Option Value) (bv : Value) (hb : Rd encY ro bv b) : Does Try.prog 4 #[bv, Value.int .i64 (at'), Value.agg #[Value.int .i64 (v_0), U (hi (v_1)), U (lo (v_1))]] ro [] (pV (Value.bool (r))) := by
  unfold shunterlaw03_BitsPuts_m at hM
  refine does_of_A follows Try.func4 rfl 83 rfl (upd (upd (upd (fun _ => undef) 2 (Value.agg #[Value.int .i64 (v_0), U (hi (v_1)), U (lo (v_1))])) 1 (Value.int .i64 (at'))) 0 (bv)) (by funext k; match k with | 0 => rfl | 1 => rfl | 2 => rfl | k + 3 => rfl) (fun base0_ => ?_)
  refine A_seq fun K1 hK1 => ?_
  refine A_reg ?_
  refine r_a (26, #[Value.int .i64 (v_0), U (hi (v_1)), U (lo (v_1))]) rfl rfl rfl (fun b2 => ?_) (.inr rfl)
  refine r_v (Value.bool (false)) rfl rfl rfl rfl ?_
  refine lx_nil ?_
  refine hK1 _ _ ?_; try clear hK1 K1
  refine A_seq fun K3 hK3 => ?_
  refine A_seq fun K4 hK4 => ?_
  refine A_reg ?_
  refine r_v (bv) rfl rfl rfl rfl ?_
  refine r_v (Value.int .i64 (((b).length : Int))) rfl rfl rfl (ev_lenSl rfl rfl rfl (Rd.shp hb)) ?_
  refine r_v (Value.bool (decide ((((b).length : Int) : Int) > 200))) rfl rfl rfl rfl ?_
  refine lx_nil ?_
  refine hK4 _ _ ?_; try clear hK4 K4
  refine A_cond (decide ((((b).length : Int) : Int) > 200)) rfl (fun hc5 => ?_) (fun hc5 => ?_)
  · replace hM := ifp (of_decide_eq_true hc5) hM
    refine A_seq fun K6 hK6 => ?_
    refine A_reg ?_
    replace hM := bind_sm hM; obtain ⟨r7, hr8, hM⟩ := hM
    refine r_c (Value.bool (r7)) rfl _ _ (ev_callF rfl call_9 rfl) (shunterlaw03_lives_g N  _ hr8) ?_
    refine r_v (Value.bool (r7)) rfl rfl rfl rfl ?_
    refine lx_nil ?_
    refine hK6 _ _ ?_; try clear hK6 K6
    obtain rfl := Option.some.inj hM
    refine A_ret (fun hn => endsV (v0 := Value.bool (r7)) rfl (res1 rfl))
  · replace hM := ifn (of_decide_eq_false hc5) hM
    refine A_skip ?_
    refine hK3 _ _ ?_; try clear hK3 K3
    refine A_seq fun K9 hK9 => ?_
    refine A_reg ?_
    refine r_v (bv) rfl rfl rfl rfl ?_
    refine r_stl (e := 5) (b) rfl rfl rfl rfl rfl (rd_ro hb) ?_
    refine r_v (Value.string (⟨(b).toArray⟩)) rfl rfl rfl rfl ?_
    refine lx_nil ?_
    refine hK9 _ _ ?_; try clear hK9 K9
    refine A_seq fun K10 hK10 => ?_
    refine A_regC [(some 24, false)] (conG Try.prog [(24, fun v_ L_ U_ => ∀ u0_, bits_Put_m N b at' v_0 v_1 = some u0_ → (p1 (fun s_ => Value.tuple #[s_, Value.int .i64 (u0_.2)]) 5 encY (u0_.1)) v_ L_ U_)]) ?_
    refine r_v (bv) rfl rfl rfl rfl ?_
    refine r_v (Value.int .i64 (at')) rfl rfl rfl rfl ?_
    refine r_l (Value.agg #[Value.int .i64 (v_0), U (hi (v_1)), U (lo (v_1))]) 0 _ _ _ _ rfl rfl rfl rfl rfl ?_
    replace hM := bind_sm hM; obtain ⟨r11, hr12, hM⟩ := hM
    refine r_g1 (Ls := [[(b2, 26, #[Value.int .i64 (v_0), U (hi (v_1)), U (lo (v_1))])]]) (fun s13 => Value.tuple #[s13, Value.int .i64 (r11.2)]) 5 encY (r11.1) 12 _ rfl rfl rfl (ev_callF rfl call_12 rfl) (fun own_ nw_ hs_ => bits_Put_g N b at' v_0 v_1 _ hr12 hs_.view bv ((rd_ro hb) own_ nw_ hs_)) (fun _ _ v_ L_ U_ => ⟨fun h_ => h_ _ hr12, fun h_ => by intro _ e_; cases Option.some.inj (e_.symm.trans hr12); exact h_⟩) (fun s13 S14 H15 => ?_)
    refine r_v (Value.tuple #[s13, Value.int .i64 (r11.2)]) rfl rfl rfl rfl ?_
    refine r_v (s13) rfl rfl rfl rfl ?_
    refine r_v (Value.int .i64 (r11.2)) rfl rfl rfl rfl ?_
    refine r_v (s13) rfl rfl rfl rfl ?_
    refine r_v (Value.int .i64 (r11.2)) rfl rfl rfl rfl ?_
    refine lx_nil ?_
    refine hK10 _ _ ?_; try clear hK10 K10
    refine A_seq fun K16 hK16 => ?_
    refine A_regC [(some 31, false)] (conG Try.prog [(31, fun v_ L_ U_ => ∀ u0_, shunterref03_Put_m N b at' v_0 v_1 = some u0_ → (p1 (fun s_ => Value.tuple #[s_, Value.int .i64 (u0_.2)]) 5 encY (u0_.1)) v_ L_ U_)]) ?_
    refine r_v (bv) rfl rfl rfl rfl ?_
    refine r_v (Value.int .i64 (at')) rfl rfl rfl rfl ?_
    refine r_l (Value.agg #[Value.int .i64 (v_0), U (hi (v_1)), U (lo (v_1))]) 0 _ _ _ _ rfl rfl rfl rfl rfl ?_
    replace hM := bind_sm hM; obtain ⟨r17, hr18, hM⟩ := hM
    refine r_g1 (Ls := [[(b2, 26, #[Value.int .i64 (v_0), U (hi (v_1)), U (lo (v_1))])], S14]) (fun s19 => Value.tuple #[s19, Value.int .i64 (r17.2)]) 5 encY (r17.1) 13 _ rfl rfl rfl (ev_callF rfl call_13 rfl) (fun own_ nw_ hs_ => shunterref03_Put_g N b at' v_0 v_1 _ hr18 hs_.view bv ((rd_ro hb) own_ nw_ hs_)) (fun _ _ v_ L_ U_ => ⟨fun h_ => h_ _ hr18, fun h_ => by intro _ e_; cases Option.some.inj (e_.symm.trans hr18); exact h_⟩) (fun s19 S20 H21 => ?_)
    refine r_v (Value.tuple #[s19, Value.int .i64 (r17.2)]) rfl rfl rfl rfl ?_
    refine r_v (s19) rfl rfl rfl rfl ?_
    refine r_v (Value.int .i64 (r17.2)) rfl rfl rfl rfl ?_
    refine r_v (s19) rfl rfl rfl rfl ?_
    refine r_v (Value.int .i64 (r17.2)) rfl rfl rfl rfl ?_
    refine lx_nil ?_
    refine hK16 _ _ ?_; try clear hK16 K16
    refine A_cut (fun tt ll => (shunterlaw03_BitsPuts_k1 N b at' v_0 v_1 r11  = some r) ∧ Is [(0, bv), (1, Value.int .i64 (at')), (5, Value.pointer (some ⟨b2, 0, none⟩)), (8, s13), (9, Value.int .i64 (r11.2))] (List.flatten [[(b2, 26, #[Value.int .i64 (v_0), U (hi (v_1)), U (lo (v_1))])], S14]) tt ll) ?_ ?_
    · refine A_seq fun K39 hK39 => ?_
      refine A_reg ?_
      refine r_v (s13) rfl rfl rfl rfl ?_
      refine r_stl (e := 5) (r11.1) rfl rfl rfl rfl rfl (rd_own H15 (mem_chunk (Ls := [[(b2, 26, #[Value.int .i64 (v_0), U (hi (v_1)), U (lo (v_1))])], S14, S20]) (k := 1) rfl rfl)) ?_
      refine r_v (s19) rfl rfl rfl rfl ?_
      refine r_stl (e := 5) (r17.1) rfl rfl rfl rfl rfl (rd_own H21 (mem_chunk (Ls := [[(b2, 26, #[Value.int .i64 (v_0), U (hi (v_1)), U (lo (v_1))])], S14, S20]) (k := 2) rfl rfl)) ?_
      refine r_v (Value.bool ((r11.1) != (r17.1))) rfl rfl rfl (ev_neS rfl rfl) ?_
      refine r_v (Value.bool ((r11.1) != (r17.1))) rfl rfl rfl rfl ?_
      rcases hg40 : ((r11.1) != (r17.1)) with _ | _
      · replace hM := ifn (bne_f hg40) hM
        refine r_y rfl ?_
        refine r_v (Value.int .i64 (r11.2)) rfl rfl rfl rfl ?_
        refine r_y rfl ?_
        refine r_v (Value.int .i64 (r17.2)) rfl rfl rfl rfl ?_
        refine r_y rfl ?_
        refine r_v (Value.bool (((r11.2 : Int) != r17.2))) rfl rfl rfl rfl ?_
        refine r_v (Value.bool (((r11.2 : Int) != r17.2))) rfl rfl rfl rfl ?_
        refine r_v (Value.bool (((r11.2 : Int) != r17.2))) rfl rfl rfl rfl ?_
        rcases hg41 : (((r11.2 : Int) != r17.2)) with _ | _
        · replace hM := ifn (bne_f hg41) hM
          refine r_y rfl ?_
          refine r_v (bv) rfl rfl rfl rfl ?_
          refine r_y rfl ?_
          refine r_stl (e := 5) (b) rfl rfl rfl rfl rfl (rd_ro hb) ?_
          refine r_y rfl ?_
          refine r_v (Value.string (⟨(b).toArray⟩)) rfl rfl rfl rfl ?_
          refine r_y rfl ?_
          refine r_v (Value.bool ((b) != (b))) rfl rfl rfl (ev_neS rfl rfl) ?_
          refine r_v (Value.bool ((b) != (b))) rfl rfl rfl rfl ?_
          refine lx_nil ?_
          refine hK39 _ _ ?_; try clear hK39 K39
          refine A_gen [(0, bv), (1, Value.int .i64 (at')), (5, Value.pointer (some ⟨b2, 0, none⟩)), (8, s13), (9, Value.int .i64 (r11.2)), (49, Value.bool ((b) != (b)))] rfl (fun T => ?_)
          refine A_cond ((b) != (b)) rfl (fun hc42 => ?_) (fun hc42 => ?_)
          · replace hM := ifp (bne_iff_ne.1 hc42) hM
            refine A_seq fun K43 hK43 => ?_
            refine A_reg ?_
            refine r_v (Value.bool (false)) rfl rfl rfl rfl ?_
            refine lx_nil ?_
            refine hK43 _ _ ?_; try clear hK43 K43
            obtain rfl := Option.some.inj hM
            refine A_ret (fun hn => endsV (v0 := Value.bool (false)) rfl (res1 rfl))
          · replace hM := ifn (bne_f hc42) hM
            refine A_skip ?_
            refine fg _ (Sub.pick [[(b2, 26, #[Value.int .i64 (v_0), U (hi (v_1)), U (lo (v_1))])], S14, S20] [0, 1] rfl) ?_
            exact ⟨hM, is_mk rfl rfl⟩
        · replace hM := ifp (bne_iff_ne.1 hg41) hM
          refine r_n true rfl (by decide) rfl ?_
          refine r_n true rfl (by decide) rfl ?_
          refine r_n true rfl (by decide) rfl ?_
          refine r_n true rfl (by decide) rfl ?_
          refine r_v (Value.bool (true)) rfl rfl rfl rfl ?_
          refine lx_nil ?_
          refine hK39 _ _ ?_; try clear hK39 K39
          refine A_gen [(0, bv), (1, Value.int .i64 (at')), (5, Value.pointer (some ⟨b2, 0, none⟩)), (8, s13), (9, Value.int .i64 (r11.2)), (49, Value.bool (true))] rfl (fun T => ?_)
          refine A_cond true rfl (fun _ => ?_) (fun h_ => nomatch h_)
          refine A_seq fun K44 hK44 => ?_
          refine A_reg ?_
          refine r_v (Value.bool (false)) rfl rfl rfl rfl ?_
          refine lx_nil ?_
          refine hK44 _ _ ?_; try clear hK44 K44
          obtain rfl := Option.some.inj hM
          refine A_ret (fun hn => endsV (v0 := Value.bool (false)) rfl (res1 rfl))
      · replace hM := ifp (bne_iff_ne.1 hg40) hM
        refine r_n true rfl (by decide) rfl ?_
        refine r_n true rfl (by decide) rfl ?_
        refine r_n true rfl (by decide) rfl ?_
        refine r_v (Value.bool (true)) rfl rfl rfl rfl ?_
        refine r_v (Value.bool (true)) rfl rfl rfl rfl ?_
        refine r_n true rfl (by decide) rfl ?_
        refine r_n true rfl (by decide) rfl ?_
        refine r_n true rfl (by decide) rfl ?_
        refine r_n true rfl (by decide) rfl ?_
        refine r_v (Value.bool (true)) rfl rfl rfl rfl ?_
        refine lx_nil ?_
        refine hK39 _ _ ?_; try clear hK39 K39
        refine A_gen [(0, bv), (1, Value.int .i64 (at')), (5, Value.pointer (some ⟨b2, 0, none⟩)), (8, s13), (9, Value.int .i64 (r11.2)), (49, Value.bool (true))] rfl (fun T => ?_)
        refine A_cond true rfl (fun _ => ?_) (fun h_ => nomatch h_)
        refine A_seq fun K45 hK45 => ?_
        refine A_reg ?_
        refine r_v (Value.bool (false)) rfl rfl rfl rfl ?_
        refine lx_nil ?_
        refine hK45 _ _ ?_; try clear hK45 K45
        obtain rfl := Option.some.inj hM
        refine A_ret (fun hn => endsV (v0 := Value.bool (false)) rfl (res1 rfl))
    · clear hM; rintro t l ⟨hM, ⟨T, rfl⟩, rfl⟩
      unfold shunterlaw03_BitsPuts_k1 at hM
      refine A_seq fun K22 hK22 => ?_
      refine A_seq fun K23 hK23 => ?_
      refine A_reg ?_
      refine r_v (Value.int .i64 (r11.2)) rfl rfl rfl rfl ?_
      refine r_v (Value.bool (((r11.2 : Int) != 0))) rfl rfl rfl rfl ?_
      refine lx_nil ?_
      refine hK23 _ _ ?_; try clear hK23 K23
      refine A_cond (((r11.2 : Int) != 0)) rfl (fun hc24 => ?_) (fun hc24 => ?_)
      · replace hM := ifp (bne_iff_ne.1 hc24) hM
        refine A_seq fun K25 hK25 => ?_
        refine A_reg ?_
        refine r_v (s13) rfl rfl rfl rfl ?_
        refine r_v (Value.int .i64 (((r11.1).length : Int))) rfl rfl rfl (ev_lenSl rfl rfl rfl (Sl.shp H15)) ?_
        refine r_v (Value.bool (((((r11.1).length : Int) : Int) == 0))) rfl rfl rfl rfl ?_
        refine r_v (Value.bool (((((r11.1).length : Int) : Int) == 0))) rfl rfl rfl rfl ?_
        rcases hg26 : (((((r11.1).length : Int) : Int) == 0)) with _ | _
        · replace hM := ifn (ne_of_beq_false hg26) hM
          refine r_n false rfl (by decide) rfl ?_
          refine r_v (Value.bool (false)) rfl rfl rfl rfl ?_
          refine r_v (Value.bool (false)) rfl rfl rfl rfl ?_
          refine lx_nil ?_
          refine hK25 _ _ ?_; try clear hK25 K25
          obtain rfl := Option.some.inj hM
          refine A_ret (fun hn => endsV (v0 := Value.bool (false)) rfl (res1 rfl))
        · replace hM := ifp (eq_of_beq hg26) hM
          refine r_y rfl ?_
          replace hM := bind_sm hM; obtain ⟨r27, hr28, hM⟩ := hM
          refine r_c (Value.bool (r27)) rfl _ _ (ev_callF rfl call_9 rfl) (shunterlaw03_lives_g N  _ hr28) ?_
          refine r_v (Value.bool (r27)) rfl rfl rfl rfl ?_
          refine r_v (Value.bool (r27)) rfl rfl rfl rfl ?_
          refine lx_nil ?_
          refine hK25 _ _ ?_; try clear hK25 K25
          obtain rfl := Option.some.inj hM
          refine A_ret (fun hn => endsV (v0 := Value.bool (r27)) rfl (res1 rfl))
      · replace hM := ifn (bne_f hc24) hM
        refine A_skip ?_
        refine hK22 _ _ ?_; try clear hK22 K22
        refine A_seq fun K29 hK29 => ?_
        refine A_regC [(some 63, false)] (conG Try.prog [(63, fun v_ L_ U_ => ∀ u0_, bits_Get_m N r11.1 at' v_0 = some u0_ → (pV (Value.tuple #[Value.agg #[Value.int .i64 (u0_.1), U (hi (u0_.2.1)), U (lo (u0_.2.1))], Value.int .i64 (u0_.2.2)])) v_ L_ U_)]) ?_
        refine r_v (s13) rfl rfl rfl rfl ?_
        refine r_v (Value.int .i64 (at')) rfl rfl rfl rfl ?_
        refine r_v (Value.pointer (some ⟨b2, 0, none⟩)) rfl rfl rfl rfl ?_
        refine r_l (Value.int .i64 (v_0)) 0 _ _ _ _ rfl rfl rfl rfl rfl ?_
        replace hM := bind_sm hM; obtain ⟨r30, hr31, hM⟩ := hM
        refine r_gv (Value.tuple #[Value.agg #[Value.int .i64 (r30.1), U (hi (r30.2.1)), U (lo (r30.2.1))], Value.int .i64 (r30.2.2)]) 10 _ rfl rfl rfl (ev_callF rfl call_10 rfl) (fun own_ nw_ hs_ => bits_Get_g N r11.1 at' v_0 _ hr31 hs_.view s13 ((rd_own H15 (mem_chunk (Ls := [[(b2, 26, #[Value.int .i64 (v_0), U (hi (v_1)), U (lo (v_1))])], S14]) (k := 1) rfl rfl)) own_ nw_ hs_)) (fun _ _ v_ L_ U_ => ⟨fun h_ => h_ _ hr31, fun h_ => by intro _ e_; cases Option.some.inj (e_.symm.trans hr31); exact h_⟩) ?_
        refine r_v (Value.tuple #[Value.agg #[Value.int .i64 (r30.1), U (hi (r30.2.1)), U (lo (r30.2.1))], Value.int .i64 (r30.2.2)]) rfl rfl rfl rfl ?_
        refine r_v (Value.agg #[Value.int .i64 (r30.1), U (hi (r30.2.1)), U (lo (r30.2.1))]) rfl rfl rfl rfl ?_
        refine r_v (Value.int .i64 (r30.2.2)) rfl rfl rfl rfl ?_
        refine r_a (26, #[Value.int .i64 (0), U (0#64), U (0#64)]) rfl rfl rfl (fun b32 => ?_) (.inr rfl)
        refine r_s (List.flatten [[(b32, 26, #[Value.int .i64 (r30.1), U (hi (r30.2.1)), U (lo (r30.2.1))])], [(b2, 26, #[Value.int .i64 (v_0), U (hi (v_1)), U (lo (v_1))])], S14]) 0 _ _ _ (#[Value.int .i64 (0), U (0#64), U (0#64)]) (#[Value.int .i64 (r30.1), U (hi (r30.2.1)), U (lo (r30.2.1))]) (#[Value.int .i64 (r30.1), U (hi (r30.2.1)), U (lo (r30.2.1))]) rfl rfl rfl rfl (.of rfl rfl) rfl rfl ?_
        refine r_v (Value.int .i64 (r30.2.2)) rfl rfl rfl rfl ?_
        refine lx_nil ?_
        refine hK29 _ _ ?_; try clear hK29 K29
        refine A_seq fun K33 hK33 => ?_
        refine A_reg ?_
        refine r_l (Value.agg #[Value.int .i64 (r30.1), U (hi (r30.2.1)), U (lo (r30.2.1))]) 0 _ _ _ _ rfl rfl rfl rfl rfl ?_
        refine r_l (Value.agg #[Value.int .i64 (v_0), U (hi (v_1)), U (lo (v_1))]) 1 _ _ _ _ rfl rfl rfl rfl rfl ?_
        refine r_v (Value.bool (((r30.1) == (v_0)) && ((r30.2.1) == (v_1)))) rfl rfl rfl (ev_binEq rfl rfl eg_26 (eqst_26 (r30.1) (v_0) (r30.2.1) (v_1))) ?_
        refine r_v (Value.bool (((r30.1) == (v_0)) && ((r30.2.1) == (v_1)))) rfl rfl rfl rfl ?_
        rcases hg34 : (((r30.1) == (v_0)) && ((r30.2.1) == (v_1))) with _ | _
        · replace hM := ifn (Bool.eq_false_iff.1 hg34) hM
          refine r_n false rfl (by decide) rfl ?_
          refine r_n false rfl (by decide) rfl ?_
          refine r_v (Value.bool (false)) rfl rfl rfl rfl ?_
          refine r_v (Value.bool (false)) rfl rfl rfl rfl ?_
          refine r_n false rfl (by decide) rfl ?_
          refine r_n false rfl (by decide) rfl ?_
          refine r_n false rfl (by decide) rfl ?_
          refine r_n false rfl (by decide) rfl ?_
          refine r_n false rfl (by decide) rfl ?_
          refine r_v (Value.bool (false)) rfl rfl rfl rfl ?_
          refine r_v (Value.bool (false)) rfl rfl rfl rfl ?_
          refine r_n false rfl (by decide) rfl ?_
          refine r_v (Value.bool (false)) rfl rfl rfl rfl ?_
          refine r_v (Value.bool (false)) rfl rfl rfl rfl ?_
          refine lx_nil ?_
          refine hK33 _ _ ?_; try clear hK33 K33
          refine A_gen [(6, Value.bool (false))] rfl (fun T => ?_)
          obtain rfl := Option.some.inj hM
          refine A_ret (fun hn => endsV (v0 := Value.bool (false)) rfl (res1 rfl))
        · replace hM := ifp hg34 hM
          refine r_y rfl ?_
          refine r_v (Value.int .i64 (r30.2.2)) rfl rfl rfl rfl ?_
          refine r_y rfl ?_
          refine r_v (Value.bool (((r30.2.2 : Int) == 0))) rfl rfl rfl rfl ?_
          refine r_v (Value.bool (((r30.2.2 : Int) == 0))) rfl rfl rfl rfl ?_
          refine r_v (Value.bool (((r30.2.2 : Int) == 0))) rfl rfl rfl rfl ?_
          rcases hg35 : (((r30.2.2 : Int) == 0)) with _ | _
          · replace hM := ifn (ne_of_beq_false hg35) hM
            refine r_n false rfl (by decide) rfl ?_
            refine r_n false rfl (by decide) rfl ?_
            refine r_n false rfl (by decide) rfl ?_
            refine r_n false rfl (by decide) rfl ?_
            refine r_n false rfl (by decide) rfl ?_
            refine r_v (Value.bool (false)) rfl rfl rfl rfl ?_
            refine r_v (Value.bool (false)) rfl rfl rfl rfl ?_
            refine r_n false rfl (by decide) rfl ?_
            refine r_v (Value.bool (false)) rfl rfl rfl rfl ?_
            refine r_v (Value.bool (false)) rfl rfl rfl rfl ?_
            refine lx_nil ?_
            refine hK33 _ _ ?_; try clear hK33 K33
            refine A_gen [(6, Value.bool (false))] rfl (fun T => ?_)
            obtain rfl := Option.some.inj hM
            refine A_ret (fun hn => endsV (v0 := Value.bool (false)) rfl (res1 rfl))
          · replace hM := ifp (eq_of_beq hg35) hM
            refine r_y rfl ?_
            refine r_v (s13) rfl rfl rfl rfl ?_
            refine r_y rfl ?_
            refine r_v (Value.int .i64 (((r11.1).length : Int))) rfl rfl rfl (ev_lenSl rfl rfl rfl (Sl.shp H15)) ?_
            refine r_y rfl ?_
            refine r_v (bv) rfl rfl rfl rfl ?_
            refine r_y rfl ?_
            refine r_v (Value.int .i64 (((b).length : Int))) rfl rfl rfl (ev_lenSl rfl rfl rfl (Rd.shp hb)) ?_
            refine r_y rfl ?_
            refine r_v (Value.bool (((((r11.1).length : Int) : Int) == ((b).length : Int)))) rfl rfl rfl rfl ?_
            refine r_v (Value.bool (((((r11.1).length : Int) : Int) == ((b).length : Int)))) rfl rfl rfl rfl ?_
            refine r_v (Value.bool (((((r11.1).length : Int) : Int) == ((b).length : Int)))) rfl rfl rfl rfl ?_
            rcases hg36 : (((((r11.1).length : Int) : Int) == ((b).length : Int))) with _ | _
            · replace hM := ifn (ne_of_beq_false hg36) hM
              refine r_n false rfl (by decide) rfl ?_
              refine r_v (Value.bool (false)) rfl rfl rfl rfl ?_
              refine r_v (Value.bool (false)) rfl rfl rfl rfl ?_
              refine lx_nil ?_
              refine hK33 _ _ ?_; try clear hK33 K33
              refine A_gen [(6, Value.bool (false))] rfl (fun T => ?_)
              obtain rfl := Option.some.inj hM
              refine A_ret (fun hn => endsV (v0 := Value.bool (false)) rfl (res1 rfl))
            · replace hM := ifp (eq_of_beq hg36) hM
              refine r_y rfl ?_
              replace hM := bind_sm hM; obtain ⟨r37, hr38, hM⟩ := hM
              refine r_c (Value.bool (r37)) rfl _ _ (ev_callF rfl call_9 rfl) (shunterlaw03_lives_g N  _ hr38) ?_
              refine r_v (Value.bool (r37)) rfl rfl rfl rfl ?_
              refine r_v (Value.bool (r37)) rfl rfl rfl rfl ?_
              refine lx_nil ?_
              refine hK33 _ _ ?_; try clear hK33 K33
              refine A_gen [(6, Value.bool (r37))] rfl (fun T => ?_)
              obtain rfl := Option.some.inj hM
              refine A_ret (fun hn => endsV (v0 := Value.bool (r37)) rfl (res1 rfl))
end Go.Proofs.Ytmiabhodfcidcaa
