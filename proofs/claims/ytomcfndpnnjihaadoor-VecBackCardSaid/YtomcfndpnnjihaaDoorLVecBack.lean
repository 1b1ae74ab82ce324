/- models of functions and their walks -/
import Derived.Test.YtomcfndpnnjihaaDoorVt
namespace Go.Proofs.YtomcfndpnnjihaaDoor
open Go Go.RowKit Go.Eng
def shunterlaw02_VecBack_k2 (N : Nat) (a_0 : Int) (a_1 : BitVec 128) (b_0 : Int) (b_1 : BitVec 128) : Option (Bool) := (vec_Add_m N (a_0) (a_1) (b_0) (b_1)).bind fun r22 => if (r22.2.2 : Int) ≠ 0 then (vec_May_m N (b_0) (b_1)).bind fun r29 => if (((r22.2.2 : Int) == 1)) = (!(r29)) then (shunterlaw02_lives_m N ).bind fun r32 => some (r32) else some (false) else (vec_Sub_m N (r22.1) (r22.2.1) (b_0) (b_1)).bind fun r35 => (vec_AddSat_m N (a_0) (a_1) (b_0) (b_1)).bind fun r39 => (vec_Less_m N (r22.1) (r22.2.1) (a_0) (a_1)).bind fun r43 => (vec_Word_m N (r39.1) (r39.2.1)).bind fun r47 => (vec_Word_m N (r22.1) (r22.2.1)).bind fun r49 => if (r35.2.2 : Int) = 0 then if (((r35.1) == (a_0)) && ((r35.2.1) == (a_1))) = true then if (r39.2.2 : Int) = 0 then if (r43.2.2 : Int) = 0 then (vec_May_m N (r22.1) (r22.2.1)).bind fun r56 => if (r56) = true then (vec_May_m N (r39.1) (r39.2.1)).bind fun r59 => if (r59) = true then if ((r47) == (r49)) = ((lo (r43.2.1)) == (0#64)) then (shunterlaw02_lives_m N ).bind fun r63 => some (r63) else some (false) else some (false) else some (false) else some (false) else some (false) else some (false) else some (false)
def shunterlaw02_VecBack_k4 (N : Nat) (a_0 : Int) (a_1 : BitVec 128) (b_0 : Int) (b_1 : BitVec 128) (at' : Int) (x3_ : Bool) : Option (Bool) := if (x3_) = true then ck ((-9223372036854775808 ≤ (a_0 - 1) ∧ (a_0 - 1) ≤ 9223372036854775807)) ((vec_Slice_m N (a_0) (a_1) ((a_0 - 1)) (at')).bind fun r68 => ck ((-9223372036854775808 ≤ (at' - 1) ∧ (at' - 1) ≤ 9223372036854775807)) ((vec_Slice_m N (a_0) (a_1) ((at' - 1)) (0)).bind fun r73 => (vec_Cat_m N (r68.1) (r68.2.1) (r73.1) (r73.2.1)).bind fun r77 => (vec_Shr_m N (a_0) (a_1) (at')).bind fun r81 => (vec_Cast_m N (r68.1) (r68.2.1) (a_0)).bind fun r85 => if (r68.2.2 : Int) ≠ 0 then some (false) else if (r73.2.2 : Int) ≠ 0 then some (false) else if (r77.2.2 : Int) ≠ 0 then some (false) else if (((r77.1) == (a_0)) && ((r77.2.1) == (a_1))) = true then if (r81.2.2 : Int) ≠ 0 then some (false) else if (r85.2.2 : Int) ≠ 0 then some (false) else if (((r81.1) == (r85.1)) && ((r81.2.1) == (r85.2.1))) = true then (vec_May_m N (r68.1) (r68.2.1)).bind fun r96 => if (r96) = true then (vec_May_m N (r73.1) (r73.2.1)).bind fun r99 => if (r99) = true then shunterlaw02_VecBack_k2 N a_0 a_1 b_0 b_1  else some (false) else some (false) else some (false) else some (false))) else shunterlaw02_VecBack_k2 N a_0 a_1 b_0 b_1 
def shunterlaw02_VecBack_k1 (N : Nat) (a_0 : Int) (a_1 : BitVec 128) (b_0 : Int) (b_1 : BitVec 128) (at' : Int) : Option (Bool) := if (at' : Int) ≥ 1 then shunterlaw02_VecBack_k4 N a_0 a_1 b_0 b_1 at' (decide ((at' : Int) < a_0)) else shunterlaw02_VecBack_k4 N a_0 a_1 b_0 b_1 at' (false)
def shunterlaw02_VecBack_m (N : Nat) (a_0 : Int) (a_1 : BitVec 128) (b_0 : Int) (b_1 : BitVec 128) (at' : Int) : Option (Bool) := (vec_May_m N (a_0) (a_1)).bind fun r6 => if (r6) = true then (vec_TextI_m N a_0 a_1).bind fun r16 => (vec_Parse_m N r16).bind fun r18 => if (((r18.1) == (a_0)) && ((r18.2.1) == (a_1))) = true then if (r18.2.2 : Int) ≠ 0 then some (false) else if (((len128 ((hi (a_1)) ++ (lo (a_1))) : Nat) : Int) : Int) > a_0 then some (false) else shunterlaw02_VecBack_k1 N a_0 a_1 b_0 b_1 at'  else some (false) else (vec_TextI_m N a_0 a_1).bind fun r10 => if (r10) = ([]) then (shunterlaw02_lives_m N ).bind fun r13 => some (r13) else some (false)
set_option maxRecDepth 100000 in
set_option maxHeartbeats 400000 in
theorem shunterlaw02_VecBack_g (N : Nat) (a_0 : Int) (a_1 : BitVec 128) (b_0 : Int) (b_1 : BitVec 128) (at' : Int) (r : Bool) (hM : shunterlaw02_VecBack_m N a_0 a_1 b_0 b_1 at' = some r) (ro : Addr → Option Value)  : DoesI Tryd.prog 9 #[Value.agg #[Value.int .i64 (a_0), U (hi (a_1)), U (lo (a_1))], Value.agg #[Value.int .i64 (b_0), U (hi (b_1)), U (lo (b_1))], Value.int .i64 (at')] MemI ro [] (pV (Value.bool (r))) := by
  unfold shunterlaw02_VecBack_m at hM
  refine doesI_of_A follows Tryd.func9 rfl 215 rfl (upd (upd (upd (fun _ => undef) 2 (Value.int .i64 (at'))) 1 (Value.agg #[Value.int .i64 (b_0), U (hi (b_1)), U (lo (b_1))])) 0 (Value.agg #[Value.int .i64 (a_0), U (hi (a_1)), U (lo (a_1))])) (by funext k; match k with | 0 => rfl | 1 => rfl | 2 => rfl | k + 3 => rfl) memI_kept (fun base0_ => ?_)
  refine A_seq fun K1 hK1 => ?_
  refine A_reg ?_
  refine r_a (24, #[Value.int .i64 (a_0), U (hi (a_1)), U (lo (a_1))]) rfl rfl rfl (fun b2 => ?_) (.inr rfl)
  refine r_a (24, #[Value.int .i64 (b_0), U (hi (b_1)), U (lo (b_1))]) rfl rfl rfl (fun b3 => ?_) (.inr rfl)
  refine r_v (Value.bool (false)) rfl rfl rfl rfl ?_
  refine lx_nil ?_
  refine hK1 _ _ ?_; try clear hK1 K1
  refine A_seq fun K4 hK4 => ?_
  refine A_seq fun K5 hK5 => ?_
  refine A_reg ?_
  refine r_l (Value.agg #[Value.int .i64 (a_0), U (hi (a_1)), U (lo (a_1))]) 1 _ _ _ _ rfl rfl rfl rfl rfl ?_
  replace hM := bind_sm hM; obtain ⟨r6, hr7, hM⟩ := hM
  refine r_c (Value.bool (r6)) rfl _ _ (ev_callF rfl call_13 rfl) (vec_May_g N (a_0) (a_1) _ hr7) ?_
  refine r_v (Value.bool (!(r6))) rfl rfl rfl rfl ?_
  refine lx_nil ?_
  refine hK5 _ _ ?_; try clear hK5 K5
  refine A_cond (!(r6)) rfl (fun hc8 => ?_) (fun hc8 => ?_)
  · replace hM := ifn (Bool.eq_false_iff.1 (not_t hc8)) hM
    refine A_seq fun K9 hK9 => ?_
    refine A_regC [(some 32, false)] (conG Tryd.prog [(32, fun v_ L_ U_ => ∀ u0_, vec_TextI_m N a_0 a_1 = some u0_ → (pV (Value.string (⟨(u0_).toArray⟩))) v_ L_ U_)]) ?_
    refine r_l (Value.agg #[Value.int .i64 (a_0), U (hi (a_1)), U (lo (a_1))]) 1 _ _ _ _ rfl rfl rfl rfl rfl ?_
    replace hM := bind_sm hM; obtain ⟨r10, hr11, hM⟩ := hM
    refine r_gv (Value.string (⟨(r10).toArray⟩)) 47 _ rfl rfl rfl (ev_callF rfl call_47 rfl) (fun own_ nw_ hs_ => vec_TextI_g N a_0 a_1 _ hr11 hs_.view ) (fun _ _ v_ L_ U_ => ⟨fun h_ => h_ _ hr11, fun h_ => by intro _ e_; cases Option.some.inj (e_.symm.trans hr11); exact h_⟩) ?_
    refine r_v (Value.bool ((r10) == ([]))) rfl rfl rfl (ev_eqS rfl rfl) ?_
    refine r_v (Value.bool ((r10) == ([]))) rfl rfl rfl rfl ?_
    rcases hg12 : ((r10) == ([])) with _ | _
    · replace hM := ifn (ne_of_beq_false hg12) hM
      refine r_n false rfl (by decide) rfl ?_
      refine r_v (Value.bool (false)) rfl rfl rfl rfl ?_
      refine r_v (Value.bool (false)) rfl rfl rfl rfl ?_
      refine lx_nil ?_
      refine hK9 _ _ ?_; try clear hK9 K9
      obtain rfl := Option.some.inj hM
      refine A_ret (fun hn => endsV (v0 := Value.bool (false)) rfl (res1 rfl))
    · replace hM := ifp (eq_of_beq hg12) hM
      refine r_y rfl ?_
      replace hM := bind_sm hM; obtain ⟨r13, hr14, hM⟩ := hM
      refine r_c (Value.bool (r13)) rfl _ _ (ev_callF rfl call_16 rfl) (shunterlaw02_lives_g N  _ hr14) ?_
      refine r_v (Value.bool (r13)) rfl rfl rfl rfl ?_
      refine r_v (Value.bool (r13)) rfl rfl rfl rfl ?_
      refine lx_nil ?_
      refine hK9 _ _ ?_; try clear hK9 K9
      obtain rfl := Option.some.inj hM
      refine A_ret (fun hn => endsV (v0 := Value.bool (r13)) rfl (res1 rfl))
  · replace hM := ifp (not_f hc8) hM
    refine A_skip ?_
    refine hK4 _ _ ?_; try clear hK4 K4
    refine A_seq fun K15 hK15 => ?_
    refine A_regC [(some 39, false), (some 40, false)] (conG Tryd.prog [(39, fun v_ L_ U_ => ∀ u0_, vec_TextI_m N a_0 a_1 = some u0_ → (pV (Value.string (⟨(u0_).toArray⟩))) v_ L_ U_), (40, fun v_ L_ U_ => ∀ u0_, vec_TextI_m N a_0 a_1 = some u0_ → ∀ u1_, vec_Parse_m N u0_ = some u1_ → (pV (Value.tuple #[Value.agg #[Value.int .i64 (u1_.1), U (hi (u1_.2.1)), U (lo (u1_.2.1))], Value.int .i64 (u1_.2.2)])) v_ L_ U_)]) ?_
    refine r_l (Value.agg #[Value.int .i64 (a_0), U (hi (a_1)), U (lo (a_1))]) 1 _ _ _ _ rfl rfl rfl rfl rfl ?_
    replace hM := bind_sm hM; obtain ⟨r16, hr17, hM⟩ := hM
    refine r_gv (Value.string (⟨(r16).toArray⟩)) 47 _ rfl rfl rfl (ev_callF rfl call_47 rfl) (fun own_ nw_ hs_ => vec_TextI_g N a_0 a_1 _ hr17 hs_.view ) (fun _ _ v_ L_ U_ => ⟨fun h_ => h_ _ hr17, fun h_ => by intro _ e_; cases Option.some.inj (e_.symm.trans hr17); exact h_⟩) ?_
    replace hM := bind_sm hM; obtain ⟨r18, hr19, hM⟩ := hM
    refine r_gv (Value.tuple #[Value.agg #[Value.int .i64 (r18.1), U (hi (r18.2.1)), U (lo (r18.2.1))], Value.int .i64 (r18.2.2)]) 45 _ rfl rfl rfl (ev_callF rfl call_45 rfl) (fun own_ nw_ hs_ => vec_Parse_g N r16 _ hr19 hs_.view ) (fun _ _ v_ L_ U_ => ⟨fun h_ => h_ _ hr17 _ hr19, fun h_ => by intro _ e_; cases Option.some.inj (e_.symm.trans hr17); intro _ e_; cases Option.some.inj (e_.symm.trans hr19); exact h_⟩) ?_
    refine r_v (Value.tuple #[Value.agg #[Value.int .i64 (r18.1), U (hi (r18.2.1)), U (lo (r18.2.1))], Value.int .i64 (r18.2.2)]) rfl rfl rfl rfl ?_
    refine r_v (Value.agg #[Value.int .i64 (r18.1), U (hi (r18.2.1)), U (lo (r18.2.1))]) rfl rfl rfl rfl ?_
    refine r_v (Value.int .i64 (r18.2.2)) rfl rfl rfl rfl ?_
    refine r_a (24, #[Value.int .i64 (0), U (0#64), U (0#64)]) rfl rfl rfl (fun b20 => ?_) (.inr rfl)
    refine r_s [(b20, 24, #[Value.int .i64 (r18.1), U (hi (r18.2.1)), U (lo (r18.2.1))]), (b3, 24, #[Value.int .i64 (b_0), U (hi (b_1)), U (lo (b_1))]), (b2, 24, #[Value.int .i64 (a_0), U (hi (a_1)), U (lo (a_1))])] 0 _ _ _ (#[Value.int .i64 (0), U (0#64), U (0#64)]) (#[Value.int .i64 (r18.1), U (hi (r18.2.1)), U (lo (r18.2.1))]) (#[Value.int .i64 (r18.1), U (hi (r18.2.1)), U (lo (r18.2.1))]) rfl rfl rfl rfl (.of rfl rfl) rfl rfl ?_
    refine r_v (Value.int .i64 (r18.2.2)) rfl rfl rfl rfl ?_
    refine lx_nil ?_
    refine hK15 _ _ ?_; try clear hK15 K15
    refine A_cut (fun tt ll => (shunterlaw02_VecBack_k1 N a_0 a_1 b_0 b_1 at'  = some r) ∧ Is [(2, Value.int .i64 (at')), (3, Value.pointer (some ⟨b2, 0, none⟩)), (4, Value.pointer (some ⟨b3, 0, none⟩))] [(b3, 24, #[Value.int .i64 (b_0), U (hi (b_1)), U (lo (b_1))]), (b2, 24, #[Value.int .i64 (a_0), U (hi (a_1)), U (lo (a_1))])] tt ll) ?_ ?_
    · refine A_seq fun K112 hK112 => ?_
      refine A_draw [] (by decide +kernel) (fun hn => sep_nil) ?_
      refine r_l (Value.agg #[Value.int .i64 (r18.1), U (hi (r18.2.1)), U (lo (r18.2.1))]) 0 _ _ _ _ rfl rfl rfl rfl rfl ?_
      refine r_l (Value.agg #[Value.int .i64 (a_0), U (hi (a_1)), U (lo (a_1))]) 2 _ _ _ _ rfl rfl rfl rfl rfl ?_
      refine r_v (Value.bool (!(((r18.1) == (a_0)) && ((r18.2.1) == (a_1))))) rfl rfl rfl (ev_binNe rfl rfl eg_24 (eqst_24 (r18.1) (a_0) (r18.2.1) (a_1))) ?_
      refine r_v (Value.bool (!(((r18.1) == (a_0)) && ((r18.2.1) == (a_1))))) rfl rfl rfl rfl ?_
      rcases hg113 : (!(((r18.1) == (a_0)) && ((r18.2.1) == (a_1)))) with _ | _
      · replace hM := ifp (not_f hg113) hM
        refine r_y rfl ?_
        refine r_v (Value.int .i64 (r18.2.2)) rfl rfl rfl rfl ?_
        refine r_y rfl ?_
        refine r_v (Value.bool (((r18.2.2 : Int) != 0))) rfl rfl rfl rfl ?_
        refine r_v (Value.bool (((r18.2.2 : Int) != 0))) rfl rfl rfl rfl ?_
        refine r_v (Value.bool (((r18.2.2 : Int) != 0))) rfl rfl rfl rfl ?_
        rcases hg114 : (((r18.2.2 : Int) != 0)) with _ | _
        · replace hM := ifn (bne_f hg114) hM
          refine r_y rfl ?_
          refine r_v (Value.pointer (some ⟨b2, 1, none⟩)) rfl rfl rfl rfl ?_
          refine r_y rfl ?_
          refine r_l (U (hi (a_1))) 2 _ _ _ _ rfl rfl rfl rfl rfl ?_
          refine r_y rfl ?_
          refine r_v (Value.pointer (some ⟨b2, 2, none⟩)) rfl rfl rfl rfl ?_
          refine r_y rfl ?_
          refine r_l (U (lo (a_1))) 2 _ _ _ _ rfl rfl rfl rfl rfl ?_
          refine r_y rfl ?_
          refine r_c (Value.agg (rowF (BitVec.getLsbD ((hi (a_1)) ++ (lo (a_1)))))) rfl _ _ (ev_callF rfl call_50 rfl) (of_g (hi (a_1)) (lo (a_1))) ?_
          refine r_y rfl ?_
          refine r_c (Value.int .i64 (((len128 ((hi (a_1)) ++ (lo (a_1))) : Nat) : Int))) rfl _ _ (ev_callF rfl call_49 rfl) (rlen_g ((hi (a_1)) ++ (lo (a_1)))) ?_
          refine r_y rfl ?_
          refine r_v (Value.pointer (some ⟨b2, 0, none⟩)) rfl rfl rfl rfl ?_
          refine r_y rfl ?_
          refine r_l (Value.int .i64 (a_0)) 2 _ _ _ _ rfl rfl rfl rfl rfl ?_
          refine r_y rfl ?_
          refine r_v (Value.bool (decide ((((len128 ((hi (a_1)) ++ (lo (a_1))) : Nat) : Int) : Int) > a_0))) rfl rfl rfl rfl ?_
          refine r_v (Value.bool (decide ((((len128 ((hi (a_1)) ++ (lo (a_1))) : Nat) : Int) : Int) > a_0))) rfl rfl rfl rfl ?_
          refine lx_nil ?_
          refine hK112 _ _ ?_; try clear hK112 K112
          refine A_gen [(2, Value.int .i64 (at')), (3, Value.pointer (some ⟨b2, 0, none⟩)), (4, Value.pointer (some ⟨b3, 0, none⟩)), (60, Value.bool (decide ((((len128 ((hi (a_1)) ++ (lo (a_1))) : Nat) : Int) : Int) > a_0)))] rfl (fun T => ?_)
          refine A_cond (decide ((((len128 ((hi (a_1)) ++ (lo (a_1))) : Nat) : Int) : Int) > a_0)) rfl (fun hc115 => ?_) (fun hc115 => ?_)
          · replace hM := ifp (of_decide_eq_true hc115) hM
            refine A_seq fun K116 hK116 => ?_
            refine A_reg ?_
            refine r_v (Value.bool (false)) rfl rfl rfl rfl ?_
            refine lx_nil ?_
            refine hK116 _ _ ?_; try clear hK116 K116
            obtain rfl := Option.some.inj hM
            refine A_ret (fun hn => endsV (v0 := Value.bool (false)) rfl (res1 rfl))
          · replace hM := ifn (of_decide_eq_false hc115) hM
            refine A_skip ?_
            refine fg _ (Sub.of (List.Sublist.cons _ (List.Sublist.cons_cons _ (List.Sublist.cons_cons _ (List.Sublist.slnil))))) ?_
            exact ⟨hM, is_mk rfl rfl⟩
        · replace hM := ifp (bne_iff_ne.1 hg114) hM
          refine r_n true rfl (by decide) rfl ?_
          refine r_n true rfl (by decide) rfl ?_
          refine r_n true rfl (by decide) rfl ?_
          refine r_n true rfl (by decide) rfl ?_
          refine r_n true rfl (by decide) rfl ?_
          refine r_n true rfl (by decide) rfl ?_
          refine r_n true rfl (by decide) rfl ?_
          refine r_n true rfl (by decide) rfl ?_
          refine r_n true rfl (by decide) rfl ?_
          refine r_v (Value.bool (true)) rfl rfl rfl rfl ?_
          refine lx_nil ?_
          refine hK112 _ _ ?_; try clear hK112 K112
          refine A_gen [(2, Value.int .i64 (at')), (3, Value.pointer (some ⟨b2, 0, none⟩)), (4, Value.pointer (some ⟨b3, 0, none⟩)), (60, Value.bool (true))] rfl (fun T => ?_)
          refine A_cond true rfl (fun _ => ?_) (fun h_ => nomatch h_)
          refine A_seq fun K117 hK117 => ?_
          refine A_reg ?_
          refine r_v (Value.bool (false)) rfl rfl rfl rfl ?_
          refine lx_nil ?_
          refine hK117 _ _ ?_; try clear hK117 K117
          obtain rfl := Option.some.inj hM
          refine A_ret (fun hn => endsV (v0 := Value.bool (false)) rfl (res1 rfl))
      · replace hM := ifn (Bool.eq_false_iff.1 (not_t hg113)) hM
        refine r_n true rfl (by decide) rfl ?_
        refine r_n true rfl (by decide) rfl ?_
        refine r_v (Value.bool (true)) rfl rfl rfl rfl ?_
        refine r_v (Value.bool (true)) rfl rfl rfl rfl ?_
        refine r_n true rfl (by decide) rfl ?_
        refine r_n true rfl (by decide) rfl ?_
        refine r_n true rfl (by decide) rfl ?_
        refine r_n true rfl (by decide) rfl ?_
        refine r_n true rfl (by decide) rfl ?_
        refine r_n true rfl (by decide) rfl ?_
        refine r_n true rfl (by decide) rfl ?_
        refine r_n true rfl (by decide) rfl ?_
        refine r_n true rfl (by decide) rfl ?_
        refine r_v (Value.bool (true)) rfl rfl rfl rfl ?_
        refine lx_nil ?_
        refine hK112 _ _ ?_; try clear hK112 K112
        refine A_gen [(2, Value.int .i64 (at')), (3, Value.pointer (some ⟨b2, 0, none⟩)), (4, Value.pointer (some ⟨b3, 0, none⟩)), (60, Value.bool (true))] rfl (fun T => ?_)
        refine A_cond true rfl (fun _ => ?_) (fun h_ => nomatch h_)
        refine A_seq fun K118 hK118 => ?_
        refine A_reg ?_
        refine r_v (Value.bool (false)) rfl rfl rfl rfl ?_
        refine lx_nil ?_
        refine hK118 _ _ ?_; try clear hK118 K118
        obtain rfl := Option.some.inj hM
        refine A_ret (fun hn => endsV (v0 := Value.bool (false)) rfl (res1 rfl))
    · clear hM; rintro t l ⟨hM, ⟨T, rfl⟩, rfl⟩
      unfold shunterlaw02_VecBack_k1 at hM
      refine A_cut (fun tt ll => (shunterlaw02_VecBack_k2 N a_0 a_1 b_0 b_1  = some r) ∧ Is [(3, Value.pointer (some ⟨b2, 0, none⟩)), (4, Value.pointer (some ⟨b3, 0, none⟩))] [(b3, 24, #[Value.int .i64 (b_0), U (hi (b_1)), U (lo (b_1))]), (b2, 24, #[Value.int .i64 (a_0), U (hi (a_1)), U (lo (a_1))])] tt ll) ?_ ?_
      · refine A_cut (fun tt ll => ∃ (x3_ : Bool), (shunterlaw02_VecBack_k4 N a_0 a_1 b_0 b_1 at' x3_ = some r) ∧ Is [(2, Value.int .i64 (at')), (3, Value.pointer (some ⟨b2, 0, none⟩)), (4, Value.pointer (some ⟨b3, 0, none⟩)), (68, Value.bool (x3_))] [(b3, 24, #[Value.int .i64 (b_0), U (hi (b_1)), U (lo (b_1))]), (b2, 24, #[Value.int .i64 (a_0), U (hi (a_1)), U (lo (a_1))])] tt ll) ?_ ?_
        · refine A_reg ?_
          refine r_v (Value.int .i64 (at')) rfl rfl rfl rfl ?_
          refine r_v (Value.bool (decide ((at' : Int) ≥ 1))) rfl rfl rfl rfl ?_
          refine r_v (Value.bool (decide ((at' : Int) ≥ 1))) rfl rfl rfl rfl ?_
          rcases hg111 : (decide ((at' : Int) ≥ 1)) with _ | _
          · replace hM := ifn (of_decide_eq_false hg111) hM
            refine r_n false rfl (by decide) rfl ?_
            refine r_n false rfl (by decide) rfl ?_
            refine r_n false rfl (by decide) rfl ?_
            refine r_n false rfl (by decide) rfl ?_
            refine r_v (Value.bool (false)) rfl rfl rfl rfl ?_
            refine lx_nil ?_
            refine fg _ (Sub.of (List.Sublist.cons_cons _ (List.Sublist.cons_cons _ (List.Sublist.slnil)))) ?_
            exact ⟨false, hM, is_mk rfl rfl⟩
          · replace hM := ifp (of_decide_eq_true hg111) hM
            refine r_y rfl ?_
            refine r_v (Value.int .i64 (at')) rfl rfl rfl rfl ?_
            refine r_y rfl ?_
            refine r_v (Value.pointer (some ⟨b2, 0, none⟩)) rfl rfl rfl rfl ?_
            refine r_y rfl ?_
            refine r_l (Value.int .i64 (a_0)) 1 _ _ _ _ rfl rfl rfl rfl rfl ?_
            refine r_y rfl ?_
            refine r_v (Value.bool (decide ((at' : Int) < a_0))) rfl rfl rfl rfl ?_
            refine r_v (Value.bool (decide ((at' : Int) < a_0))) rfl rfl rfl rfl ?_
            refine lx_nil ?_
            refine fg _ (Sub.of (List.Sublist.cons_cons _ (List.Sublist.cons_cons _ (List.Sublist.slnil)))) ?_
            exact ⟨decide ((at' : Int) < a_0), hM, is_mk rfl rfl⟩
        · clear hM; rintro t l ⟨x3_, hM, ⟨T, rfl⟩, rfl⟩
          unfold shunterlaw02_VecBack_k4 at hM
          refine A_cond (x3_) rfl (fun hc65 => ?_) (fun hc65 => ?_)
          · replace hM := ifp hc65 hM
            refine A_seq fun K66 hK66 => ?_
            refine A_reg ?_
            refine r_l (Value.agg #[Value.int .i64 (a_0), U (hi (a_1)), U (lo (a_1))]) 1 _ _ _ _ rfl rfl rfl rfl rfl ?_
            refine r_v (Value.pointer (some ⟨b2, 0, none⟩)) rfl rfl rfl rfl ?_
            refine r_l (Value.int .i64 (a_0)) 1 _ _ _ _ rfl rfl rfl rfl rfl ?_
            replace hM := ck_some hM; obtain ⟨ck67, hM⟩ := hM
            refine r_v (Value.int .i64 ((a_0 - 1))) rfl rfl (wi64 rfl ck67.1 ck67.2) rfl ?_
            refine r_v (Value.int .i64 (at')) rfl rfl rfl rfl ?_
            replace hM := bind_sm hM; obtain ⟨r68, hr69, hM⟩ := hM
            refine r_c (Value.tuple #[Value.agg #[Value.int .i64 (r68.1), U (hi (r68.2.1)), U (lo (r68.2.1))], Value.int .i64 (r68.2.2)]) rfl _ _ (ev_callF rfl call_37 rfl) (vec_Slice_g N (a_0) (a_1) ((a_0 - 1)) (at') _ hr69) ?_
            refine r_v (Value.tuple #[Value.agg #[Value.int .i64 (r68.1), U (hi (r68.2.1)), U (lo (r68.2.1))], Value.int .i64 (r68.2.2)]) rfl rfl rfl rfl ?_
            refine r_v (Value.agg #[Value.int .i64 (r68.1), U (hi (r68.2.1)), U (lo (r68.2.1))]) rfl rfl rfl rfl ?_
            refine r_v (Value.int .i64 (r68.2.2)) rfl rfl rfl rfl ?_
            refine r_a (24, #[Value.int .i64 (0), U (0#64), U (0#64)]) rfl rfl rfl (fun b70 => ?_) (.inr rfl)
            refine r_s [(b70, 24, #[Value.int .i64 (r68.1), U (hi (r68.2.1)), U (lo (r68.2.1))]), (b3, 24, #[Value.int .i64 (b_0), U (hi (b_1)), U (lo (b_1))]), (b2, 24, #[Value.int .i64 (a_0), U (hi (a_1)), U (lo (a_1))])] 0 _ _ _ (#[Value.int .i64 (0), U (0#64), U (0#64)]) (#[Value.int .i64 (r68.1), U (hi (r68.2.1)), U (lo (r68.2.1))]) (#[Value.int .i64 (r68.1), U (hi (r68.2.1)), U (lo (r68.2.1))]) rfl rfl rfl rfl (.of rfl rfl) rfl rfl ?_
            refine r_v (Value.int .i64 (r68.2.2)) rfl rfl rfl rfl ?_
            refine lx_nil ?_
            refine hK66 _ _ ?_; try clear hK66 K66
            refine A_seq fun K71 hK71 => ?_
            refine A_reg ?_
            refine r_l (Value.agg #[Value.int .i64 (a_0), U (hi (a_1)), U (lo (a_1))]) 2 _ _ _ _ rfl rfl rfl rfl rfl ?_
            refine r_v (Value.int .i64 (at')) rfl rfl rfl rfl ?_
            replace hM := ck_some hM; obtain ⟨ck72, hM⟩ := hM
            refine r_v (Value.int .i64 ((at' - 1))) rfl rfl (wi64 rfl ck72.1 ck72.2) rfl ?_
            replace hM := bind_sm hM; obtain ⟨r73, hr74, hM⟩ := hM
            refine r_c (Value.tuple #[Value.agg #[Value.int .i64 (r73.1), U (hi (r73.2.1)), U (lo (r73.2.1))], Value.int .i64 (r73.2.2)]) rfl _ _ (ev_callF rfl call_37 rfl) (vec_Slice_g N (a_0) (a_1) ((at' - 1)) (0) _ hr74) ?_
            refine r_v (Value.tuple #[Value.agg #[Value.int .i64 (r73.1), U (hi (r73.2.1)), U (lo (r73.2.1))], Value.int .i64 (r73.2.2)]) rfl rfl rfl rfl ?_
            refine r_v (Value.agg #[Value.int .i64 (r73.1), U (hi (r73.2.1)), U (lo (r73.2.1))]) rfl rfl rfl rfl ?_
            refine r_v (Value.int .i64 (r73.2.2)) rfl rfl rfl rfl ?_
            refine r_a (24, #[Value.int .i64 (0), U (0#64), U (0#64)]) rfl rfl rfl (fun b75 => ?_) (.inr rfl)
            refine r_s [(b75, 24, #[Value.int .i64 (r73.1), U (hi (r73.2.1)), U (lo (r73.2.1))]), (b70, 24, #[Value.int .i64 (r68.1), U (hi (r68.2.1)), U (lo (r68.2.1))]), (b3, 24, #[Value.int .i64 (b_0), U (hi (b_1)), U (lo (b_1))]), (b2, 24, #[Value.int .i64 (a_0), U (hi (a_1)), U (lo (a_1))])] 0 _ _ _ (#[Value.int .i64 (0), U (0#64), U (0#64)]) (#[Value.int .i64 (r73.1), U (hi (r73.2.1)), U (lo (r73.2.1))]) (#[Value.int .i64 (r73.1), U (hi (r73.2.1)), U (lo (r73.2.1))]) rfl rfl rfl rfl (.of rfl rfl) rfl rfl ?_
            refine r_v (Value.int .i64 (r73.2.2)) rfl rfl rfl rfl ?_
            refine lx_nil ?_
            refine hK71 _ _ ?_; try clear hK71 K71
            refine A_seq fun K76 hK76 => ?_
            refine A_reg ?_
            refine r_l (Value.agg #[Value.int .i64 (r68.1), U (hi (r68.2.1)), U (lo (r68.2.1))]) 1 _ _ _ _ rfl rfl rfl rfl rfl ?_
            refine r_l (Value.agg #[Value.int .i64 (r73.1), U (hi (r73.2.1)), U (lo (r73.2.1))]) 0 _ _ _ _ rfl rfl rfl rfl rfl ?_
            replace hM := bind_sm hM; obtain ⟨r77, hr78, hM⟩ := hM
            refine r_c (Value.tuple #[Value.agg #[Value.int .i64 (r77.1), U (hi (r77.2.1)), U (lo (r77.2.1))], Value.int .i64 (r77.2.2)]) rfl _ _ (ev_callF rfl call_39 rfl) (vec_Cat_g N (r68.1) (r68.2.1) (r73.1) (r73.2.1) _ hr78) ?_
            refine r_v (Value.tuple #[Value.agg #[Value.int .i64 (r77.1), U (hi (r77.2.1)), U (lo (r77.2.1))], Value.int .i64 (r77.2.2)]) rfl rfl rfl rfl ?_
            refine r_v (Value.agg #[Value.int .i64 (r77.1), U (hi (r77.2.1)), U (lo (r77.2.1))]) rfl rfl rfl rfl ?_
            refine r_v (Value.int .i64 (r77.2.2)) rfl rfl rfl rfl ?_
            refine r_a (24, #[Value.int .i64 (0), U (0#64), U (0#64)]) rfl rfl rfl (fun b79 => ?_) (.inr rfl)
            refine r_s [(b79, 24, #[Value.int .i64 (r77.1), U (hi (r77.2.1)), U (lo (r77.2.1))]), (b75, 24, #[Value.int .i64 (r73.1), U (hi (r73.2.1)), U (lo (r73.2.1))]), (b70, 24, #[Value.int .i64 (r68.1), U (hi (r68.2.1)), U (lo (r68.2.1))]), (b3, 24, #[Value.int .i64 (b_0), U (hi (b_1)), U (lo (b_1))]), (b2, 24, #[Value.int .i64 (a_0), U (hi (a_1)), U (lo (a_1))])] 0 _ _ _ (#[Value.int .i64 (0), U (0#64), U (0#64)]) (#[Value.int .i64 (r77.1), U (hi (r77.2.1)), U (lo (r77.2.1))]) (#[Value.int .i64 (r77.1), U (hi (r77.2.1)), U (lo (r77.2.1))]) rfl rfl rfl rfl (.of rfl rfl) rfl rfl ?_
            refine r_v (Value.int .i64 (r77.2.2)) rfl rfl rfl rfl ?_
            refine lx_nil ?_
            refine hK76 _ _ ?_; try clear hK76 K76
            refine A_seq fun K80 hK80 => ?_
            refine A_reg ?_
            refine r_l (Value.agg #[Value.int .i64 (a_0), U (hi (a_1)), U (lo (a_1))]) 4 _ _ _ _ rfl rfl rfl rfl rfl ?_
            refine r_v (Value.int .i64 (at')) rfl rfl rfl rfl ?_
            replace hM := bind_sm hM; obtain ⟨r81, hr82, hM⟩ := hM
            refine r_c (Value.tuple #[Value.agg #[Value.int .i64 (r81.1), U (hi (r81.2.1)), U (lo (r81.2.1))], Value.int .i64 (r81.2.2)]) rfl _ _ (ev_callF rfl call_32 rfl) (vec_Shr_g N (a_0) (a_1) (at') _ hr82) ?_
            refine r_v (Value.tuple #[Value.agg #[Value.int .i64 (r81.1), U (hi (r81.2.1)), U (lo (r81.2.1))], Value.int .i64 (r81.2.2)]) rfl rfl rfl rfl ?_
            refine r_v (Value.agg #[Value.int .i64 (r81.1), U (hi (r81.2.1)), U (lo (r81.2.1))]) rfl rfl rfl rfl ?_
            refine r_v (Value.int .i64 (r81.2.2)) rfl rfl rfl rfl ?_
            refine r_a (24, #[Value.int .i64 (0), U (0#64), U (0#64)]) rfl rfl rfl (fun b83 => ?_) (.inr rfl)
            refine r_s [(b83, 24, #[Value.int .i64 (r81.1), U (hi (r81.2.1)), U (lo (r81.2.1))]), (b79, 24, #[Value.int .i64 (r77.1), U (hi (r77.2.1)), U (lo (r77.2.1))]), (b75, 24, #[Value.int .i64 (r73.1), U (hi (r73.2.1)), U (lo (r73.2.1))]), (b70, 24, #[Value.int .i64 (r68.1), U (hi (r68.2.1)), U (lo (r68.2.1))]), (b3, 24, #[Value.int .i64 (b_0), U (hi (b_1)), U (lo (b_1))]), (b2, 24, #[Value.int .i64 (a_0), U (hi (a_1)), U (lo (a_1))])] 0 _ _ _ (#[Value.int .i64 (0), U (0#64), U (0#64)]) (#[Value.int .i64 (r81.1), U (hi (r81.2.1)), U (lo (r81.2.1))]) (#[Value.int .i64 (r81.1), U (hi (r81.2.1)), U (lo (r81.2.1))]) rfl rfl rfl rfl (.of rfl rfl) rfl rfl ?_
            refine r_v (Value.int .i64 (r81.2.2)) rfl rfl rfl rfl ?_
            refine lx_nil ?_
            refine hK80 _ _ ?_; try clear hK80 K80
            refine A_gen [(3, Value.pointer (some ⟨b2, 0, none⟩)), (4, Value.pointer (some ⟨b3, 0, none⟩)), (9, Value.pointer (some ⟨b70, 0, none⟩)), (10, Value.int .i64 (r68.2.2)), (11, Value.pointer (some ⟨b75, 0, none⟩)), (12, Value.int .i64 (r73.2.2)), (13, Value.pointer (some ⟨b79, 0, none⟩)), (14, Value.int .i64 (r77.2.2)), (15, Value.pointer (some ⟨b83, 0, none⟩)), (16, Value.int .i64 (r81.2.2))] rfl (fun T => ?_)
            refine A_seq fun K84 hK84 => ?_
            refine A_reg ?_
            refine r_l (Value.agg #[Value.int .i64 (r68.1), U (hi (r68.2.1)), U (lo (r68.2.1))]) 3 _ _ _ _ rfl rfl rfl rfl rfl ?_
            refine r_v (Value.pointer (some ⟨b2, 0, none⟩)) rfl rfl rfl rfl ?_
            refine r_l (Value.int .i64 (a_0)) 5 _ _ _ _ rfl rfl rfl rfl rfl ?_
            replace hM := bind_sm hM; obtain ⟨r85, hr86, hM⟩ := hM
            refine r_c (Value.tuple #[Value.agg #[Value.int .i64 (r85.1), U (hi (r85.2.1)), U (lo (r85.2.1))], Value.int .i64 (r85.2.2)]) rfl _ _ (ev_callF rfl call_33 rfl) (vec_Cast_g N (r68.1) (r68.2.1) (a_0) _ hr86) ?_
            refine r_v (Value.tuple #[Value.agg #[Value.int .i64 (r85.1), U (hi (r85.2.1)), U (lo (r85.2.1))], Value.int .i64 (r85.2.2)]) rfl rfl rfl rfl ?_
            refine r_v (Value.agg #[Value.int .i64 (r85.1), U (hi (r85.2.1)), U (lo (r85.2.1))]) rfl rfl rfl rfl ?_
            refine r_v (Value.int .i64 (r85.2.2)) rfl rfl rfl rfl ?_
            refine r_a (24, #[Value.int .i64 (0), U (0#64), U (0#64)]) rfl rfl rfl (fun b87 => ?_) (.inr rfl)
            refine r_s [(b87, 24, #[Value.int .i64 (r85.1), U (hi (r85.2.1)), U (lo (r85.2.1))]), (b83, 24, #[Value.int .i64 (r81.1), U (hi (r81.2.1)), U (lo (r81.2.1))]), (b79, 24, #[Value.int .i64 (r77.1), U (hi (r77.2.1)), U (lo (r77.2.1))]), (b75, 24, #[Value.int .i64 (r73.1), U (hi (r73.2.1)), U (lo (r73.2.1))]), (b70, 24, #[Value.int .i64 (r68.1), U (hi (r68.2.1)), U (lo (r68.2.1))]), (b3, 24, #[Value.int .i64 (b_0), U (hi (b_1)), U (lo (b_1))]), (b2, 24, #[Value.int .i64 (a_0), U (hi (a_1)), U (lo (a_1))])] 0 _ _ _ (#[Value.int .i64 (0), U (0#64), U (0#64)]) (#[Value.int .i64 (r85.1), U (hi (r85.2.1)), U (lo (r85.2.1))]) (#[Value.int .i64 (r85.1), U (hi (r85.2.1)), U (lo (r85.2.1))]) rfl rfl rfl rfl (.of rfl rfl) rfl rfl ?_
            refine r_v (Value.int .i64 (r85.2.2)) rfl rfl rfl rfl ?_
            refine lx_nil ?_
            refine hK84 _ _ ?_; try clear hK84 K84
            refine A_seq fun K88 hK88 => ?_
            refine A_reg ?_
            refine r_v (Value.int .i64 (r68.2.2)) rfl rfl rfl rfl ?_
            refine r_v (Value.bool (((r68.2.2 : Int) != 0))) rfl rfl rfl rfl ?_
            refine r_v (Value.bool (((r68.2.2 : Int) != 0))) rfl rfl rfl rfl ?_
            rcases hg89 : (((r68.2.2 : Int) != 0)) with _ | _
            · replace hM := ifn (bne_f hg89) hM
              refine r_y rfl ?_
              refine r_v (Value.int .i64 (r73.2.2)) rfl rfl rfl rfl ?_
              refine r_y rfl ?_
              refine r_v (Value.bool (((r73.2.2 : Int) != 0))) rfl rfl rfl rfl ?_
              refine r_v (Value.bool (((r73.2.2 : Int) != 0))) rfl rfl rfl rfl ?_
              refine r_v (Value.bool (((r73.2.2 : Int) != 0))) rfl rfl rfl rfl ?_
              rcases hg90 : (((r73.2.2 : Int) != 0)) with _ | _
              · replace hM := ifn (bne_f hg90) hM
                refine r_y rfl ?_
                refine r_v (Value.int .i64 (r77.2.2)) rfl rfl rfl rfl ?_
                refine r_y rfl ?_
                refine r_v (Value.bool (((r77.2.2 : Int) != 0))) rfl rfl rfl rfl ?_
                refine r_v (Value.bool (((r77.2.2 : Int) != 0))) rfl rfl rfl rfl ?_
                refine r_v (Value.bool (((r77.2.2 : Int) != 0))) rfl rfl rfl rfl ?_
                rcases hg91 : (((r77.2.2 : Int) != 0)) with _ | _
                · replace hM := ifn (bne_f hg91) hM
                  refine r_y rfl ?_
                  refine r_l (Value.agg #[Value.int .i64 (r77.1), U (hi (r77.2.1)), U (lo (r77.2.1))]) 2 _ _ _ _ rfl rfl rfl rfl rfl ?_
                  refine r_y rfl ?_
                  refine r_l (Value.agg #[Value.int .i64 (a_0), U (hi (a_1)), U (lo (a_1))]) 6 _ _ _ _ rfl rfl rfl rfl rfl ?_
                  refine r_y rfl ?_
                  refine r_v (Value.bool (!(((r77.1) == (a_0)) && ((r77.2.1) == (a_1))))) rfl rfl rfl (ev_binNe rfl rfl eg_24 (eqst_24 (r77.1) (a_0) (r77.2.1) (a_1))) ?_
                  refine r_v (Value.bool (!(((r77.1) == (a_0)) && ((r77.2.1) == (a_1))))) rfl rfl rfl rfl ?_
                  refine r_v (Value.bool (!(((r77.1) == (a_0)) && ((r77.2.1) == (a_1))))) rfl rfl rfl rfl ?_
                  rcases hg92 : (!(((r77.1) == (a_0)) && ((r77.2.1) == (a_1)))) with _ | _
                  · replace hM := ifp (not_f hg92) hM
                    refine r_y rfl ?_
                    refine r_v (Value.int .i64 (r81.2.2)) rfl rfl rfl rfl ?_
                    refine r_y rfl ?_
                    refine r_v (Value.bool (((r81.2.2 : Int) != 0))) rfl rfl rfl rfl ?_
                    refine r_v (Value.bool (((r81.2.2 : Int) != 0))) rfl rfl rfl rfl ?_
                    refine r_v (Value.bool (((r81.2.2 : Int) != 0))) rfl rfl rfl rfl ?_
                    rcases hg93 : (((r81.2.2 : Int) != 0)) with _ | _
                    · replace hM := ifn (bne_f hg93) hM
                      refine r_y rfl ?_
                      refine r_v (Value.int .i64 (r85.2.2)) rfl rfl rfl rfl ?_
                      refine r_y rfl ?_
                      refine r_v (Value.bool (((r85.2.2 : Int) != 0))) rfl rfl rfl rfl ?_
                      refine r_v (Value.bool (((r85.2.2 : Int) != 0))) rfl rfl rfl rfl ?_
                      refine r_v (Value.bool (((r85.2.2 : Int) != 0))) rfl rfl rfl rfl ?_
                      rcases hg94 : (((r85.2.2 : Int) != 0)) with _ | _
                      · replace hM := ifn (bne_f hg94) hM
                        refine r_y rfl ?_
                        refine r_l (Value.agg #[Value.int .i64 (r81.1), U (hi (r81.2.1)), U (lo (r81.2.1))]) 1 _ _ _ _ rfl rfl rfl rfl rfl ?_
                        refine r_y rfl ?_
                        refine r_l (Value.agg #[Value.int .i64 (r85.1), U (hi (r85.2.1)), U (lo (r85.2.1))]) 0 _ _ _ _ rfl rfl rfl rfl rfl ?_
                        refine r_y rfl ?_
                        refine r_v (Value.bool (!(((r81.1) == (r85.1)) && ((r81.2.1) == (r85.2.1))))) rfl rfl rfl (ev_binNe rfl rfl eg_24 (eqst_24 (r81.1) (r85.1) (r81.2.1) (r85.2.1))) ?_
                        refine r_v (Value.bool (!(((r81.1) == (r85.1)) && ((r81.2.1) == (r85.2.1))))) rfl rfl rfl rfl ?_
                        refine r_v (Value.bool (!(((r81.1) == (r85.1)) && ((r81.2.1) == (r85.2.1))))) rfl rfl rfl rfl ?_
                        rcases hg95 : (!(((r81.1) == (r85.1)) && ((r81.2.1) == (r85.2.1)))) with _ | _
                        · replace hM := ifp (not_f hg95) hM
                          refine r_y rfl ?_
                          refine r_l (Value.agg #[Value.int .i64 (r68.1), U (hi (r68.2.1)), U (lo (r68.2.1))]) 4 _ _ _ _ rfl rfl rfl rfl rfl ?_
                          refine r_y rfl ?_
                          replace hM := bind_sm hM; obtain ⟨r96, hr97, hM⟩ := hM
                          refine r_c (Value.bool (r96)) rfl _ _ (ev_callF rfl call_13 rfl) (vec_May_g N (r68.1) (r68.2.1) _ hr97) ?_
                          refine r_y rfl ?_
                          refine r_v (Value.bool (!(r96))) rfl rfl rfl rfl ?_
                          refine r_v (Value.bool (!(r96))) rfl rfl rfl rfl ?_
                          refine r_v (Value.bool (!(r96))) rfl rfl rfl rfl ?_
                          rcases hg98 : (!(r96)) with _ | _
                          · replace hM := ifp (not_f hg98) hM
                            refine r_y rfl ?_
                            refine r_l (Value.agg #[Value.int .i64 (r73.1), U (hi (r73.2.1)), U (lo (r73.2.1))]) 3 _ _ _ _ rfl rfl rfl rfl rfl ?_
                            refine r_y rfl ?_
                            replace hM := bind_sm hM; obtain ⟨r99, hr100, hM⟩ := hM
                            refine r_c (Value.bool (r99)) rfl _ _ (ev_callF rfl call_13 rfl) (vec_May_g N (r73.1) (r73.2.1) _ hr100) ?_
                            refine r_y rfl ?_
                            refine r_v (Value.bool (!(r99))) rfl rfl rfl rfl ?_
                            refine r_v (Value.bool (!(r99))) rfl rfl rfl rfl ?_
                            refine lx_nil ?_
                            refine hK88 _ _ ?_; try clear hK88 K88
                            refine A_gen [(3, Value.pointer (some ⟨b2, 0, none⟩)), (4, Value.pointer (some ⟨b3, 0, none⟩)), (141, Value.bool (!(r99)))] rfl (fun T => ?_)
                            refine A_cond (!(r99)) rfl (fun hc101 => ?_) (fun hc101 => ?_)
                            · replace hM := ifn (Bool.eq_false_iff.1 (not_t hc101)) hM
                              refine A_seq fun K102 hK102 => ?_
                              refine A_reg ?_
                              refine r_v (Value.bool (false)) rfl rfl rfl rfl ?_
                              refine lx_nil ?_
                              refine hK102 _ _ ?_; try clear hK102 K102
                              obtain rfl := Option.some.inj hM
                              refine A_ret (fun hn => endsV (v0 := Value.bool (false)) rfl (res1 rfl))
                            · replace hM := ifp (not_f hc101) hM
                              refine A_skip ?_
                              refine fg _ (Sub.of (List.Sublist.cons _ (List.Sublist.cons _ (List.Sublist.cons _ (List.Sublist.cons _ (List.Sublist.cons _ (List.Sublist.cons_cons _ (List.Sublist.cons_cons _ (List.Sublist.slnil))))))))) ?_
                              exact ⟨hM, is_mk rfl rfl⟩
                          · replace hM := ifn (Bool.eq_false_iff.1 (not_t hg98)) hM
                            refine r_n true rfl (by decide) rfl ?_
                            refine r_n true rfl (by decide) rfl ?_
                            refine r_n true rfl (by decide) rfl ?_
                            refine r_v (Value.bool (true)) rfl rfl rfl rfl ?_
                            refine lx_nil ?_
                            refine hK88 _ _ ?_; try clear hK88 K88
                            refine A_gen [(3, Value.pointer (some ⟨b2, 0, none⟩)), (4, Value.pointer (some ⟨b3, 0, none⟩)), (141, Value.bool (true))] rfl (fun T => ?_)
                            refine A_cond true rfl (fun _ => ?_) (fun h_ => nomatch h_)
                            refine A_seq fun K103 hK103 => ?_
                            refine A_reg ?_
                            refine r_v (Value.bool (false)) rfl rfl rfl rfl ?_
                            refine lx_nil ?_
                            refine hK103 _ _ ?_; try clear hK103 K103
                            obtain rfl := Option.some.inj hM
                            refine A_ret (fun hn => endsV (v0 := Value.bool (false)) rfl (res1 rfl))
                        · replace hM := ifn (Bool.eq_false_iff.1 (not_t hg95)) hM
                          refine r_n true rfl (by decide) rfl ?_
                          refine r_n true rfl (by decide) rfl ?_
                          refine r_n true rfl (by decide) rfl ?_
                          refine r_v (Value.bool (true)) rfl rfl rfl rfl ?_
                          refine r_v (Value.bool (true)) rfl rfl rfl rfl ?_
                          refine r_n true rfl (by decide) rfl ?_
                          refine r_n true rfl (by decide) rfl ?_
                          refine r_n true rfl (by decide) rfl ?_
                          refine r_v (Value.bool (true)) rfl rfl rfl rfl ?_
                          refine lx_nil ?_
                          refine hK88 _ _ ?_; try clear hK88 K88
                          refine A_gen [(3, Value.pointer (some ⟨b2, 0, none⟩)), (4, Value.pointer (some ⟨b3, 0, none⟩)), (141, Value.bool (true))] rfl (fun T => ?_)
                          refine A_cond true rfl (fun _ => ?_) (fun h_ => nomatch h_)
                          refine A_seq fun K104 hK104 => ?_
                          refine A_reg ?_
                          refine r_v (Value.bool (false)) rfl rfl rfl rfl ?_
                          refine lx_nil ?_
                          refine hK104 _ _ ?_; try clear hK104 K104
                          obtain rfl := Option.some.inj hM
                          refine A_ret (fun hn => endsV (v0 := Value.bool (false)) rfl (res1 rfl))
                      · replace hM := ifp (bne_iff_ne.1 hg94) hM
                        refine r_n true rfl (by decide) rfl ?_
                        refine r_n true rfl (by decide) rfl ?_
                        refine r_n true rfl (by decide) rfl ?_
                        refine r_v (Value.bool (true)) rfl rfl rfl rfl ?_
                        refine r_v (Value.bool (true)) rfl rfl rfl rfl ?_
                        refine r_n true rfl (by decide) rfl ?_
                        refine r_n true rfl (by decide) rfl ?_
                        refine r_n true rfl (by decide) rfl ?_
                        refine r_v (Value.bool (true)) rfl rfl rfl rfl ?_
                        refine r_v (Value.bool (true)) rfl rfl rfl rfl ?_
                        refine r_n true rfl (by decide) rfl ?_
                        refine r_n true rfl (by decide) rfl ?_
                        refine r_n true rfl (by decide) rfl ?_
                        refine r_v (Value.bool (true)) rfl rfl rfl rfl ?_
                        refine lx_nil ?_
                        refine hK88 _ _ ?_; try clear hK88 K88
                        refine A_gen [(3, Value.pointer (some ⟨b2, 0, none⟩)), (4, Value.pointer (some ⟨b3, 0, none⟩)), (141, Value.bool (true))] rfl (fun T => ?_)
                        refine A_cond true rfl (fun _ => ?_) (fun h_ => nomatch h_)
                        refine A_seq fun K105 hK105 => ?_
                        refine A_reg ?_
                        refine r_v (Value.bool (false)) rfl rfl rfl rfl ?_
                        refine lx_nil ?_
                        refine hK105 _ _ ?_; try clear hK105 K105
                        obtain rfl := Option.some.inj hM
                        refine A_ret (fun hn => endsV (v0 := Value.bool (false)) rfl (res1 rfl))
                    · replace hM := ifp (bne_iff_ne.1 hg93) hM
                      refine r_n true rfl (by decide) rfl ?_
                      refine r_n true rfl (by decide) rfl ?_
                      refine r_v (Value.bool (true)) rfl rfl rfl rfl ?_
                      refine r_v (Value.bool (true)) rfl rfl rfl rfl ?_
                      refine r_n true rfl (by decide) rfl ?_
                      refine r_n true rfl (by decide) rfl ?_
                      refine r_n true rfl (by decide) rfl ?_
                      refine r_v (Value.bool (true)) rfl rfl rfl rfl ?_
                      refine r_v (Value.bool (true)) rfl rfl rfl rfl ?_
                      refine r_n true rfl (by decide) rfl ?_
                      refine r_n true rfl (by decide) rfl ?_
                      refine r_n true rfl (by decide) rfl ?_
                      refine r_v (Value.bool (true)) rfl rfl rfl rfl ?_
                      refine r_v (Value.bool (true)) rfl rfl rfl rfl ?_
                      refine r_n true rfl (by decide) rfl ?_
                      refine r_n true rfl (by decide) rfl ?_
                      refine r_n true rfl (by decide) rfl ?_
                      refine r_v (Value.bool (true)) rfl rfl rfl rfl ?_
                      refine lx_nil ?_
                      refine hK88 _ _ ?_; try clear hK88 K88
                      refine A_gen [(3, Value.pointer (some ⟨b2, 0, none⟩)), (4, Value.pointer (some ⟨b3, 0, none⟩)), (141, Value.bool (true))] rfl (fun T => ?_)
                      refine A_cond true rfl (fun _ => ?_) (fun h_ => nomatch h_)
                      refine A_seq fun K106 hK106 => ?_
                      refine A_reg ?_
                      refine r_v (Value.bool (false)) rfl rfl rfl rfl ?_
                      refine lx_nil ?_
                      refine hK106 _ _ ?_; try clear hK106 K106
                      obtain rfl := Option.some.inj hM
                      refine A_ret (fun hn => endsV (v0 := Value.bool (false)) rfl (res1 rfl))
                  · replace hM := ifn (Bool.eq_false_iff.1 (not_t hg92)) hM
                    refine r_n true rfl (by decide) rfl ?_
                    refine r_n true rfl (by decide) rfl ?_
                    refine r_v (Value.bool (true)) rfl rfl rfl rfl ?_
                    refine r_v (Value.bool (true)) rfl rfl rfl rfl ?_
                    refine r_n true rfl (by decide) rfl ?_
                    refine r_n true rfl (by decide) rfl ?_
                    refine r_v (Value.bool (true)) rfl rfl rfl rfl ?_
                    refine r_v (Value.bool (true)) rfl rfl rfl rfl ?_
                    refine r_n true rfl (by decide) rfl ?_
                    refine r_n true rfl (by decide) rfl ?_
                    refine r_n true rfl (by decide) rfl ?_
                    refine r_v (Value.bool (true)) rfl rfl rfl rfl ?_
                    refine r_v (Value.bool (true)) rfl rfl rfl rfl ?_
                    refine r_n true rfl (by decide) rfl ?_
                    refine r_n true rfl (by decide) rfl ?_
                    refine r_n true rfl (by decide) rfl ?_
                    refine r_v (Value.bool (true)) rfl rfl rfl rfl ?_
                    refine r_v (Value.bool (true)) rfl rfl rfl rfl ?_
                    refine r_n true rfl (by decide) rfl ?_
                    refine r_n true rfl (by decide) rfl ?_
                    refine r_n true rfl (by decide) rfl ?_
                    refine r_v (Value.bool (true)) rfl rfl rfl rfl ?_
                    refine lx_nil ?_
                    refine hK88 _ _ ?_; try clear hK88 K88
                    refine A_gen [(3, Value.pointer (some ⟨b2, 0, none⟩)), (4, Value.pointer (some ⟨b3, 0, none⟩)), (141, Value.bool (true))] rfl (fun T => ?_)
                    refine A_cond true rfl (fun _ => ?_) (fun h_ => nomatch h_)
                    refine A_seq fun K107 hK107 => ?_
                    refine A_reg ?_
                    refine r_v (Value.bool (false)) rfl rfl rfl rfl ?_
                    refine lx_nil ?_
                    refine hK107 _ _ ?_; try clear hK107 K107
                    obtain rfl := Option.some.inj hM
                    refine A_ret (fun hn => endsV (v0 := Value.bool (false)) rfl (res1 rfl))
                · replace hM := ifp (bne_iff_ne.1 hg91) hM
                  refine r_n true rfl (by decide) rfl ?_
                  refine r_n true rfl (by decide) rfl ?_
                  refine r_n true rfl (by decide) rfl ?_
                  refine r_v (Value.bool (true)) rfl rfl rfl rfl ?_
                  refine r_v (Value.bool (true)) rfl rfl rfl rfl ?_
                  refine r_n true rfl (by decide) rfl ?_
                  refine r_n true rfl (by decide) rfl ?_
                  refine r_v (Value.bool (true)) rfl rfl rfl rfl ?_
                  refine r_v (Value.bool (true)) rfl rfl rfl rfl ?_
                  refine r_n true rfl (by decide) rfl ?_
                  refine r_n true rfl (by decide) rfl ?_
                  refine r_v (Value.bool (true)) rfl rfl rfl rfl ?_
                  refine r_v (Value.bool (true)) rfl rfl rfl rfl ?_
                  refine r_n true rfl (by decide) rfl ?_
                  refine r_n true rfl (by decide) rfl ?_
                  refine r_n true rfl (by decide) rfl ?_
                  refine r_v (Value.bool (true)) rfl rfl rfl rfl ?_
                  refine r_v (Value.bool (true)) rfl rfl rfl rfl ?_
                  refine r_n true rfl (by decide) rfl ?_
                  refine r_n true rfl (by decide) rfl ?_
                  refine r_n true rfl (by decide) rfl ?_
                  refine r_v (Value.bool (true)) rfl rfl rfl rfl ?_
                  refine r_v (Value.bool (true)) rfl rfl rfl rfl ?_
                  refine r_n true rfl (by decide) rfl ?_
                  refine r_n true rfl (by decide) rfl ?_
                  refine r_n true rfl (by decide) rfl ?_
                  refine r_v (Value.bool (true)) rfl rfl rfl rfl ?_
                  refine lx_nil ?_
                  refine hK88 _ _ ?_; try clear hK88 K88
                  refine A_gen [(3, Value.pointer (some ⟨b2, 0, none⟩)), (4, Value.pointer (some ⟨b3, 0, none⟩)), (141, Value.bool (true))] rfl (fun T => ?_)
                  refine A_cond true rfl (fun _ => ?_) (fun h_ => nomatch h_)
                  refine A_seq fun K108 hK108 => ?_
                  refine A_reg ?_
                  refine r_v (Value.bool (false)) rfl rfl rfl rfl ?_
                  refine lx_nil ?_
                  refine hK108 _ _ ?_; try clear hK108 K108
                  obtain rfl := Option.some.inj hM
                  refine A_ret (fun hn => endsV (v0 := Value.bool (false)) rfl (res1 rfl))
              · replace hM := ifp (bne_iff_ne.1 hg90) hM
                refine r_n true rfl (by decide) rfl ?_
                refine r_n true rfl (by decide) rfl ?_
                refine r_v (Value.bool (true)) rfl rfl rfl rfl ?_
                refine r_v (Value.bool (true)) rfl rfl rfl rfl ?_
                refine r_n true rfl (by decide) rfl ?_
                refine r_n true rfl (by decide) rfl ?_
                refine r_n true rfl (by decide) rfl ?_
                refine r_v (Value.bool (true)) rfl rfl rfl rfl ?_
                refine r_v (Value.bool (true)) rfl rfl rfl rfl ?_
                refine r_n true rfl (by decide) rfl ?_
                refine r_n true rfl (by decide) rfl ?_
                refine r_v (Value.bool (true)) rfl rfl rfl rfl ?_
                refine r_v (Value.bool (true)) rfl rfl rfl rfl ?_
                refine r_n true rfl (by decide) rfl ?_
                refine r_n true rfl (by decide) rfl ?_
                refine r_v (Value.bool (true)) rfl rfl rfl rfl ?_
                refine r_v (Value.bool (true)) rfl rfl rfl rfl ?_
                refine r_n true rfl (by decide) rfl ?_
                refine r_n true rfl (by decide) rfl ?_
                refine r_n true rfl (by decide) rfl ?_
                refine r_v (Value.bool (true)) rfl rfl rfl rfl ?_
                refine r_v (Value.bool (true)) rfl rfl rfl rfl ?_
                refine r_n true rfl (by decide) rfl ?_
                refine r_n true rfl (by decide) rfl ?_
                refine r_n true rfl (by decide) rfl ?_
                refine r_v (Value.bool (true)) rfl rfl rfl rfl ?_
                refine r_v (Value.bool (true)) rfl rfl rfl rfl ?_
                refine r_n true rfl (by decide) rfl ?_
                refine r_n true rfl (by decide) rfl ?_
                refine r_n true rfl (by decide) rfl ?_
                refine r_v (Value.bool (true)) rfl rfl rfl rfl ?_
                refine lx_nil ?_
                refine hK88 _ _ ?_; try clear hK88 K88
                refine A_gen [(3, Value.pointer (some ⟨b2, 0, none⟩)), (4, Value.pointer (some ⟨b3, 0, none⟩)), (141, Value.bool (true))] rfl (fun T => ?_)
                refine A_cond true rfl (fun _ => ?_) (fun h_ => nomatch h_)
                refine A_seq fun K109 hK109 => ?_
                refine A_reg ?_
                refine r_v (Value.bool (false)) rfl rfl rfl rfl ?_
                refine lx_nil ?_
                refine hK109 _ _ ?_; try clear hK109 K109
                obtain rfl := Option.some.inj hM
                refine A_ret (fun hn => endsV (v0 := Value.bool (false)) rfl (res1 rfl))
            · replace hM := ifp (bne_iff_ne.1 hg89) hM
              refine r_n true rfl (by decide) rfl ?_
              refine r_n true rfl (by decide) rfl ?_
              refine r_v (Value.bool (true)) rfl rfl rfl rfl ?_
              refine r_v (Value.bool (true)) rfl rfl rfl rfl ?_
              refine r_n true rfl (by decide) rfl ?_
              refine r_n true rfl (by decide) rfl ?_
              refine r_v (Value.bool (true)) rfl rfl rfl rfl ?_
              refine r_v (Value.bool (true)) rfl rfl rfl rfl ?_
              refine r_n true rfl (by decide) rfl ?_
              refine r_n true rfl (by decide) rfl ?_
              refine r_n true rfl (by decide) rfl ?_
              refine r_v (Value.bool (true)) rfl rfl rfl rfl ?_
              refine r_v (Value.bool (true)) rfl rfl rfl rfl ?_
              refine r_n true rfl (by decide) rfl ?_
              refine r_n true rfl (by decide) rfl ?_
              refine r_v (Value.bool (true)) rfl rfl rfl rfl ?_
              refine r_v (Value.bool (true)) rfl rfl rfl rfl ?_
              refine r_n true rfl (by decide) rfl ?_
              refine r_n true rfl (by decide) rfl ?_
              refine r_v (Value.bool (true)) rfl rfl rfl rfl ?_
              refine r_v (Value.bool (true)) rfl rfl rfl rfl ?_
              refine r_n true rfl (by decide) rfl ?_
              refine r_n true rfl (by decide) rfl ?_
              refine r_n true rfl (by decide) rfl ?_
              refine r_v (Value.bool (true)) rfl rfl rfl rfl ?_
              refine r_v (Value.bool (true)) rfl rfl rfl rfl ?_
              refine r_n true rfl (by decide) rfl ?_
              refine r_n true rfl (by decide) rfl ?_
              refine r_n true rfl (by decide) rfl ?_
              refine r_v (Value.bool (true)) rfl rfl rfl rfl ?_
              refine r_v (Value.bool (true)) rfl rfl rfl rfl ?_
              refine r_n true rfl (by decide) rfl ?_
              refine r_n true rfl (by decide) rfl ?_
              refine r_n true rfl (by decide) rfl ?_
              refine r_v (Value.bool (true)) rfl rfl rfl rfl ?_
              refine lx_nil ?_
              refine hK88 _ _ ?_; try clear hK88 K88
              refine A_gen [(3, Value.pointer (some ⟨b2, 0, none⟩)), (4, Value.pointer (some ⟨b3, 0, none⟩)), (141, Value.bool (true))] rfl (fun T => ?_)
              refine A_cond true rfl (fun _ => ?_) (fun h_ => nomatch h_)
              refine A_seq fun K110 hK110 => ?_
              refine A_reg ?_
              refine r_v (Value.bool (false)) rfl rfl rfl rfl ?_
              refine lx_nil ?_
              refine hK110 _ _ ?_; try clear hK110 K110
              obtain rfl := Option.some.inj hM
              refine A_ret (fun hn => endsV (v0 := Value.bool (false)) rfl (res1 rfl))
          · replace hM := ifn (Bool.eq_false_iff.1 hc65) hM
            refine A_skip ?_
            refine fg _ (Sub.of (List.Sublist.cons_cons _ (List.Sublist.cons_cons _ (List.Sublist.slnil)))) ?_
            exact ⟨hM, is_mk rfl rfl⟩
      · clear hM; rintro t l ⟨hM, ⟨T, rfl⟩, rfl⟩
        unfold shunterlaw02_VecBack_k2 at hM
        refine A_seq fun K21 hK21 => ?_
        refine A_reg ?_
        refine r_l (Value.agg #[Value.int .i64 (a_0), U (hi (a_1)), U (lo (a_1))]) 1 _ _ _ _ rfl rfl rfl rfl rfl ?_
        refine r_l (Value.agg #[Value.int .i64 (b_0), U (hi (b_1)), U (lo (b_1))]) 0 _ _ _ _ rfl rfl rfl rfl rfl ?_
        replace hM := bind_sm hM; obtain ⟨r22, hr23, hM⟩ := hM
        refine r_c (Value.tuple #[Value.agg #[Value.int .i64 (r22.1), U (hi (r22.2.1)), U (lo (r22.2.1))], Value.int .i64 (r22.2.2)]) rfl _ _ (ev_callF rfl call_19 rfl) (vec_Add_g N (a_0) (a_1) (b_0) (b_1) _ hr23) ?_
        refine r_v (Value.tuple #[Value.agg #[Value.int .i64 (r22.1), U (hi (r22.2.1)), U (lo (r22.2.1))], Value.int .i64 (r22.2.2)]) rfl rfl rfl rfl ?_
        refine r_v (Value.agg #[Value.int .i64 (r22.1), U (hi (r22.2.1)), U (lo (r22.2.1))]) rfl rfl rfl rfl ?_
        refine r_v (Value.int .i64 (r22.2.2)) rfl rfl rfl rfl ?_
        refine r_a (24, #[Value.int .i64 (0), U (0#64), U (0#64)]) rfl rfl rfl (fun b24 => ?_) (.inr rfl)
        refine r_s [(b24, 24, #[Value.int .i64 (r22.1), U (hi (r22.2.1)), U (lo (r22.2.1))]), (b3, 24, #[Value.int .i64 (b_0), U (hi (b_1)), U (lo (b_1))]), (b2, 24, #[Value.int .i64 (a_0), U (hi (a_1)), U (lo (a_1))])] 0 _ _ _ (#[Value.int .i64 (0), U (0#64), U (0#64)]) (#[Value.int .i64 (r22.1), U (hi (r22.2.1)), U (lo (r22.2.1))]) (#[Value.int .i64 (r22.1), U (hi (r22.2.1)), U (lo (r22.2.1))]) rfl rfl rfl rfl (.of rfl rfl) rfl rfl ?_
        refine r_v (Value.int .i64 (r22.2.2)) rfl rfl rfl rfl ?_
        refine lx_nil ?_
        refine hK21 _ _ ?_; try clear hK21 K21
        refine A_seq fun K25 hK25 => ?_
        refine A_seq fun K26 hK26 => ?_
        refine A_reg ?_
        refine r_v (Value.int .i64 (r22.2.2)) rfl rfl rfl rfl ?_
        refine r_v (Value.bool (((r22.2.2 : Int) != 0))) rfl rfl rfl rfl ?_
        refine lx_nil ?_
        refine hK26 _ _ ?_; try clear hK26 K26
        refine A_cond (((r22.2.2 : Int) != 0)) rfl (fun hc27 => ?_) (fun hc27 => ?_)
        · replace hM := ifp (bne_iff_ne.1 hc27) hM
          refine A_seq fun K28 hK28 => ?_
          refine A_reg ?_
          refine r_v (Value.int .i64 (r22.2.2)) rfl rfl rfl rfl ?_
          refine r_v (Value.bool (((r22.2.2 : Int) == 1))) rfl rfl rfl rfl ?_
          refine r_l (Value.agg #[Value.int .i64 (b_0), U (hi (b_1)), U (lo (b_1))]) 1 _ _ _ _ rfl rfl rfl rfl rfl ?_
          replace hM := bind_sm hM; obtain ⟨r29, hr30, hM⟩ := hM
          refine r_c (Value.bool (r29)) rfl _ _ (ev_callF rfl call_13 rfl) (vec_May_g N (b_0) (b_1) _ hr30) ?_
          refine r_v (Value.bool (!(r29))) rfl rfl rfl rfl ?_
          refine r_v (Value.bool ((((r22.2.2 : Int) == 1)) == (!(r29)))) rfl rfl rfl (ev_binB rfl rfl rfl) ?_
          refine r_v (Value.bool ((((r22.2.2 : Int) == 1)) == (!(r29)))) rfl rfl rfl rfl ?_
          rcases hg31 : ((((r22.2.2 : Int) == 1)) == (!(r29))) with _ | _
          · replace hM := ifn (ne_of_beq_false hg31) hM
            refine r_n false rfl (by decide) rfl ?_
            refine r_v (Value.bool (false)) rfl rfl rfl rfl ?_
            refine r_v (Value.bool (false)) rfl rfl rfl rfl ?_
            refine lx_nil ?_
            refine hK28 _ _ ?_; try clear hK28 K28
            obtain rfl := Option.some.inj hM
            refine A_ret (fun hn => endsV (v0 := Value.bool (false)) rfl (res1 rfl))
          · replace hM := ifp (eq_of_beq hg31) hM
            refine r_y rfl ?_
            replace hM := bind_sm hM; obtain ⟨r32, hr33, hM⟩ := hM
            refine r_c (Value.bool (r32)) rfl _ _ (ev_callF rfl call_16 rfl) (shunterlaw02_lives_g N  _ hr33) ?_
            refine r_v (Value.bool (r32)) rfl rfl rfl rfl ?_
            refine r_v (Value.bool (r32)) rfl rfl rfl rfl ?_
            refine lx_nil ?_
            refine hK28 _ _ ?_; try clear hK28 K28
            obtain rfl := Option.some.inj hM
            refine A_ret (fun hn => endsV (v0 := Value.bool (r32)) rfl (res1 rfl))
        · replace hM := ifn (bne_f hc27) hM
          refine A_skip ?_
          refine hK25 _ _ ?_; try clear hK25 K25
          refine A_seq fun K34 hK34 => ?_
          refine A_reg ?_
          refine r_l (Value.agg #[Value.int .i64 (r22.1), U (hi (r22.2.1)), U (lo (r22.2.1))]) 0 _ _ _ _ rfl rfl rfl rfl rfl ?_
          refine r_l (Value.agg #[Value.int .i64 (b_0), U (hi (b_1)), U (lo (b_1))]) 1 _ _ _ _ rfl rfl rfl rfl rfl ?_
          replace hM := bind_sm hM; obtain ⟨r35, hr36, hM⟩ := hM
          refine r_c (Value.tuple #[Value.agg #[Value.int .i64 (r35.1), U (hi (r35.2.1)), U (lo (r35.2.1))], Value.int .i64 (r35.2.2)]) rfl _ _ (ev_callF rfl call_20 rfl) (vec_Sub_g N (r22.1) (r22.2.1) (b_0) (b_1) _ hr36) ?_
          refine r_v (Value.tuple #[Value.agg #[Value.int .i64 (r35.1), U (hi (r35.2.1)), U (lo (r35.2.1))], Value.int .i64 (r35.2.2)]) rfl rfl rfl rfl ?_
          refine r_v (Value.agg #[Value.int .i64 (r35.1), U (hi (r35.2.1)), U (lo (r35.2.1))]) rfl rfl rfl rfl ?_
          refine r_v (Value.int .i64 (r35.2.2)) rfl rfl rfl rfl ?_
          refine r_a (24, #[Value.int .i64 (0), U (0#64), U (0#64)]) rfl rfl rfl (fun b37 => ?_) (.inr rfl)
          refine r_s [(b37, 24, #[Value.int .i64 (r35.1), U (hi (r35.2.1)), U (lo (r35.2.1))]), (b24, 24, #[Value.int .i64 (r22.1), U (hi (r22.2.1)), U (lo (r22.2.1))]), (b3, 24, #[Value.int .i64 (b_0), U (hi (b_1)), U (lo (b_1))]), (b2, 24, #[Value.int .i64 (a_0), U (hi (a_1)), U (lo (a_1))])] 0 _ _ _ (#[Value.int .i64 (0), U (0#64), U (0#64)]) (#[Value.int .i64 (r35.1), U (hi (r35.2.1)), U (lo (r35.2.1))]) (#[Value.int .i64 (r35.1), U (hi (r35.2.1)), U (lo (r35.2.1))]) rfl rfl rfl rfl (.of rfl rfl) rfl rfl ?_
          refine r_v (Value.int .i64 (r35.2.2)) rfl rfl rfl rfl ?_
          refine lx_nil ?_
          refine hK34 _ _ ?_; try clear hK34 K34
          refine A_seq fun K38 hK38 => ?_
          refine A_reg ?_
          refine r_l (Value.agg #[Value.int .i64 (a_0), U (hi (a_1)), U (lo (a_1))]) 3 _ _ _ _ rfl rfl rfl rfl rfl ?_
          refine r_l (Value.agg #[Value.int .i64 (b_0), U (hi (b_1)), U (lo (b_1))]) 2 _ _ _ _ rfl rfl rfl rfl rfl ?_
          replace hM := bind_sm hM; obtain ⟨r39, hr40, hM⟩ := hM
          refine r_c (Value.tuple #[Value.agg #[Value.int .i64 (r39.1), U (hi (r39.2.1)), U (lo (r39.2.1))], Value.int .i64 (r39.2.2)]) rfl _ _ (ev_callF rfl call_21 rfl) (vec_AddSat_g N (a_0) (a_1) (b_0) (b_1) _ hr40) ?_
          refine r_v (Value.tuple #[Value.agg #[Value.int .i64 (r39.1), U (hi (r39.2.1)), U (lo (r39.2.1))], Value.int .i64 (r39.2.2)]) rfl rfl rfl rfl ?_
          refine r_v (Value.agg #[Value.int .i64 (r39.1), U (hi (r39.2.1)), U (lo (r39.2.1))]) rfl rfl rfl rfl ?_
          refine r_v (Value.int .i64 (r39.2.2)) rfl rfl rfl rfl ?_
          refine r_a (24, #[Value.int .i64 (0), U (0#64), U (0#64)]) rfl rfl rfl (fun b41 => ?_) (.inr rfl)
          refine r_s [(b41, 24, #[Value.int .i64 (r39.1), U (hi (r39.2.1)), U (lo (r39.2.1))]), (b37, 24, #[Value.int .i64 (r35.1), U (hi (r35.2.1)), U (lo (r35.2.1))]), (b24, 24, #[Value.int .i64 (r22.1), U (hi (r22.2.1)), U (lo (r22.2.1))]), (b3, 24, #[Value.int .i64 (b_0), U (hi (b_1)), U (lo (b_1))]), (b2, 24, #[Value.int .i64 (a_0), U (hi (a_1)), U (lo (a_1))])] 0 _ _ _ (#[Value.int .i64 (0), U (0#64), U (0#64)]) (#[Value.int .i64 (r39.1), U (hi (r39.2.1)), U (lo (r39.2.1))]) (#[Value.int .i64 (r39.1), U (hi (r39.2.1)), U (lo (r39.2.1))]) rfl rfl rfl rfl (.of rfl rfl) rfl rfl ?_
          refine r_v (Value.int .i64 (r39.2.2)) rfl rfl rfl rfl ?_
          refine lx_nil ?_
          refine hK38 _ _ ?_; try clear hK38 K38
          refine A_seq fun K42 hK42 => ?_
          refine A_reg ?_
          refine r_l (Value.agg #[Value.int .i64 (r22.1), U (hi (r22.2.1)), U (lo (r22.2.1))]) 2 _ _ _ _ rfl rfl rfl rfl rfl ?_
          refine r_l (Value.agg #[Value.int .i64 (a_0), U (hi (a_1)), U (lo (a_1))]) 4 _ _ _ _ rfl rfl rfl rfl rfl ?_
          replace hM := bind_sm hM; obtain ⟨r43, hr44, hM⟩ := hM
          refine r_c (Value.tuple #[Value.agg #[Value.int .i64 (r43.1), U (hi (r43.2.1)), U (lo (r43.2.1))], Value.int .i64 (r43.2.2)]) rfl _ _ (ev_callF rfl call_27 rfl) (vec_Less_g N (r22.1) (r22.2.1) (a_0) (a_1) _ hr44) ?_
          refine r_v (Value.tuple #[Value.agg #[Value.int .i64 (r43.1), U (hi (r43.2.1)), U (lo (r43.2.1))], Value.int .i64 (r43.2.2)]) rfl rfl rfl rfl ?_
          refine r_v (Value.agg #[Value.int .i64 (r43.1), U (hi (r43.2.1)), U (lo (r43.2.1))]) rfl rfl rfl rfl ?_
          refine r_v (Value.int .i64 (r43.2.2)) rfl rfl rfl rfl ?_
          refine r_a (24, #[Value.int .i64 (0), U (0#64), U (0#64)]) rfl rfl rfl (fun b45 => ?_) (.inr rfl)
          refine r_s [(b45, 24, #[Value.int .i64 (r43.1), U (hi (r43.2.1)), U (lo (r43.2.1))]), (b41, 24, #[Value.int .i64 (r39.1), U (hi (r39.2.1)), U (lo (r39.2.1))]), (b37, 24, #[Value.int .i64 (r35.1), U (hi (r35.2.1)), U (lo (r35.2.1))]), (b24, 24, #[Value.int .i64 (r22.1), U (hi (r22.2.1)), U (lo (r22.2.1))]), (b3, 24, #[Value.int .i64 (b_0), U (hi (b_1)), U (lo (b_1))]), (b2, 24, #[Value.int .i64 (a_0), U (hi (a_1)), U (lo (a_1))])] 0 _ _ _ (#[Value.int .i64 (0), U (0#64), U (0#64)]) (#[Value.int .i64 (r43.1), U (hi (r43.2.1)), U (lo (r43.2.1))]) (#[Value.int .i64 (r43.1), U (hi (r43.2.1)), U (lo (r43.2.1))]) rfl rfl rfl rfl (.of rfl rfl) rfl rfl ?_
          refine r_v (Value.int .i64 (r43.2.2)) rfl rfl rfl rfl ?_
          refine lx_nil ?_
          refine hK42 _ _ ?_; try clear hK42 K42
          refine A_gen [(3, Value.pointer (some ⟨b2, 0, none⟩)), (19, Value.pointer (some ⟨b24, 0, none⟩)), (21, Value.pointer (some ⟨b37, 0, none⟩)), (22, Value.int .i64 (r35.2.2)), (23, Value.pointer (some ⟨b41, 0, none⟩)), (24, Value.int .i64 (r39.2.2)), (25, Value.pointer (some ⟨b45, 0, none⟩)), (26, Value.int .i64 (r43.2.2))] rfl (fun T => ?_)
          refine A_seq fun K46 hK46 => ?_
          refine A_draw [] (by decide +kernel) (fun hn => sep_nil) ?_
          refine r_l (Value.agg #[Value.int .i64 (r39.1), U (hi (r39.2.1)), U (lo (r39.2.1))]) 1 _ _ _ _ rfl rfl rfl rfl rfl ?_
          replace hM := bind_sm hM; obtain ⟨r47, hr48, hM⟩ := hM
          refine r_c (Value.agg #[U (hi (r47)), U (lo (r47))]) rfl _ _ (ev_callF rfl call_14 rfl) (vec_Word_g N (r39.1) (r39.2.1) _ hr48) ?_
          refine r_l (Value.agg #[Value.int .i64 (r22.1), U (hi (r22.2.1)), U (lo (r22.2.1))]) 3 _ _ _ _ rfl rfl rfl rfl rfl ?_
          replace hM := bind_sm hM; obtain ⟨r49, hr50, hM⟩ := hM
          refine r_c (Value.agg #[U (hi (r49)), U (lo (r49))]) rfl _ _ (ev_callF rfl call_14 rfl) (vec_Word_g N (r22.1) (r22.2.1) _ hr50) ?_
          refine r_v (Value.bool ((r47) == (r49))) rfl rfl rfl (ev_binEq rfl rfl eg_31 (eqword_31 (r47) (r49))) ?_
          refine r_v (Value.bool ((r47) == (r49))) rfl rfl rfl rfl ?_
          refine lx_nil ?_
          refine hK46 _ _ ?_; try clear hK46 K46
          refine A_seq fun K51 hK51 => ?_
          refine A_reg ?_
          refine r_v (Value.int .i64 (r35.2.2)) rfl rfl rfl rfl ?_
          refine r_v (Value.bool (((r35.2.2 : Int) == 0))) rfl rfl rfl rfl ?_
          refine r_v (Value.bool (((r35.2.2 : Int) == 0))) rfl rfl rfl rfl ?_
          rcases hg52 : (((r35.2.2 : Int) == 0)) with _ | _
          · replace hM := ifn (ne_of_beq_false hg52) hM
            refine r_n false rfl (by decide) rfl ?_
            refine r_n false rfl (by decide) rfl ?_
            refine r_n false rfl (by decide) rfl ?_
            refine r_v (Value.bool (false)) rfl rfl rfl rfl ?_
            refine r_v (Value.bool (false)) rfl rfl rfl rfl ?_
            refine r_n false rfl (by decide) rfl ?_
            refine r_n false rfl (by decide) rfl ?_
            refine r_v (Value.bool (false)) rfl rfl rfl rfl ?_
            refine r_v (Value.bool (false)) rfl rfl rfl rfl ?_
            refine r_n false rfl (by decide) rfl ?_
            refine r_n false rfl (by decide) rfl ?_
            refine r_v (Value.bool (false)) rfl rfl rfl rfl ?_
            refine r_v (Value.bool (false)) rfl rfl rfl rfl ?_
            refine r_n false rfl (by decide) rfl ?_
            refine r_n false rfl (by decide) rfl ?_
            refine r_v (Value.bool (false)) rfl rfl rfl rfl ?_
            refine r_v (Value.bool (false)) rfl rfl rfl rfl ?_
            refine r_n false rfl (by decide) rfl ?_
            refine r_n false rfl (by decide) rfl ?_
            refine r_v (Value.bool (false)) rfl rfl rfl rfl ?_
            refine r_v (Value.bool (false)) rfl rfl rfl rfl ?_
            refine r_n false rfl (by decide) rfl ?_
            refine r_n false rfl (by decide) rfl ?_
            refine r_n false rfl (by decide) rfl ?_
            refine r_n false rfl (by decide) rfl ?_
            refine r_n false rfl (by decide) rfl ?_
            refine r_v (Value.bool (false)) rfl rfl rfl rfl ?_
            refine r_v (Value.bool (false)) rfl rfl rfl rfl ?_
            refine r_n false rfl (by decide) rfl ?_
            refine r_v (Value.bool (false)) rfl rfl rfl rfl ?_
            refine r_v (Value.bool (false)) rfl rfl rfl rfl ?_
            refine lx_nil ?_
            refine hK51 _ _ ?_; try clear hK51 K51
            refine A_gen [(6, Value.bool (false))] rfl (fun T => ?_)
            obtain rfl := Option.some.inj hM
            refine A_ret (fun hn => endsV (v0 := Value.bool (false)) rfl (res1 rfl))
          · replace hM := ifp (eq_of_beq hg52) hM
            refine r_y rfl ?_
            refine r_l (Value.agg #[Value.int .i64 (r35.1), U (hi (r35.2.1)), U (lo (r35.2.1))]) 2 _ _ _ _ rfl rfl rfl rfl rfl ?_
            refine r_y rfl ?_
            refine r_l (Value.agg #[Value.int .i64 (a_0), U (hi (a_1)), U (lo (a_1))]) 5 _ _ _ _ rfl rfl rfl rfl rfl ?_
            refine r_y rfl ?_
            refine r_v (Value.bool (((r35.1) == (a_0)) && ((r35.2.1) == (a_1)))) rfl rfl rfl (ev_binEq rfl rfl eg_24 (eqst_24 (r35.1) (a_0) (r35.2.1) (a_1))) ?_
            refine r_v (Value.bool (((r35.1) == (a_0)) && ((r35.2.1) == (a_1)))) rfl rfl rfl rfl ?_
            refine r_v (Value.bool (((r35.1) == (a_0)) && ((r35.2.1) == (a_1)))) rfl rfl rfl rfl ?_
            rcases hg53 : (((r35.1) == (a_0)) && ((r35.2.1) == (a_1))) with _ | _
            · replace hM := ifn (Bool.eq_false_iff.1 hg53) hM
              refine r_n false rfl (by decide) rfl ?_
              refine r_n false rfl (by decide) rfl ?_
              refine r_v (Value.bool (false)) rfl rfl rfl rfl ?_
              refine r_v (Value.bool (false)) rfl rfl rfl rfl ?_
              refine r_n false rfl (by decide) rfl ?_
              refine r_n false rfl (by decide) rfl ?_
              refine r_v (Value.bool (false)) rfl rfl rfl rfl ?_
              refine r_v (Value.bool (false)) rfl rfl rfl rfl ?_
              refine r_n false rfl (by decide) rfl ?_
              refine r_n false rfl (by decide) rfl ?_
              refine r_v (Value.bool (false)) rfl rfl rfl rfl ?_
              refine r_v (Value.bool (false)) rfl rfl rfl rfl ?_
              refine r_n false rfl (by decide) rfl ?_
              refine r_n false rfl (by decide) rfl ?_
              refine r_v (Value.bool (false)) rfl rfl rfl rfl ?_
              refine r_v (Value.bool (false)) rfl rfl rfl rfl ?_
              refine r_n false rfl (by decide) rfl ?_
              refine r_n false rfl (by decide) rfl ?_
              refine r_n false rfl (by decide) rfl ?_
              refine r_n false rfl (by decide) rfl ?_
              refine r_n false rfl (by decide) rfl ?_
              refine r_v (Value.bool (false)) rfl rfl rfl rfl ?_
              refine r_v (Value.bool (false)) rfl rfl rfl rfl ?_
              refine r_n false rfl (by decide) rfl ?_
              refine r_v (Value.bool (false)) rfl rfl rfl rfl ?_
              refine r_v (Value.bool (false)) rfl rfl rfl rfl ?_
              refine lx_nil ?_
              refine hK51 _ _ ?_; try clear hK51 K51
              refine A_gen [(6, Value.bool (false))] rfl (fun T => ?_)
              obtain rfl := Option.some.inj hM
              refine A_ret (fun hn => endsV (v0 := Value.bool (false)) rfl (res1 rfl))
            · replace hM := ifp hg53 hM
              refine r_y rfl ?_
              refine r_v (Value.int .i64 (r39.2.2)) rfl rfl rfl rfl ?_
              refine r_y rfl ?_
              refine r_v (Value.bool (((r39.2.2 : Int) == 0))) rfl rfl rfl rfl ?_
              refine r_v (Value.bool (((r39.2.2 : Int) == 0))) rfl rfl rfl rfl ?_
              refine r_v (Value.bool (((r39.2.2 : Int) == 0))) rfl rfl rfl rfl ?_
              rcases hg54 : (((r39.2.2 : Int) == 0)) with _ | _
              · replace hM := ifn (ne_of_beq_false hg54) hM
                refine r_n false rfl (by decide) rfl ?_
                refine r_n false rfl (by decide) rfl ?_
                refine r_v (Value.bool (false)) rfl rfl rfl rfl ?_
                refine r_v (Value.bool (false)) rfl rfl rfl rfl ?_
                refine r_n false rfl (by decide) rfl ?_
                refine r_n false rfl (by decide) rfl ?_
                refine r_v (Value.bool (false)) rfl rfl rfl rfl ?_
                refine r_v (Value.bool (false)) rfl rfl rfl rfl ?_
                refine r_n false rfl (by decide) rfl ?_
                refine r_n false rfl (by decide) rfl ?_
                refine r_v (Value.bool (false)) rfl rfl rfl rfl ?_
                refine r_v (Value.bool (false)) rfl rfl rfl rfl ?_
                refine r_n false rfl (by decide) rfl ?_
                refine r_n false rfl (by decide) rfl ?_
                refine r_n false rfl (by decide) rfl ?_
                refine r_n false rfl (by decide) rfl ?_
                refine r_n false rfl (by decide) rfl ?_
                refine r_v (Value.bool (false)) rfl rfl rfl rfl ?_
                refine r_v (Value.bool (false)) rfl rfl rfl rfl ?_
                refine r_n false rfl (by decide) rfl ?_
                refine r_v (Value.bool (false)) rfl rfl rfl rfl ?_
                refine r_v (Value.bool (false)) rfl rfl rfl rfl ?_
                refine lx_nil ?_
                refine hK51 _ _ ?_; try clear hK51 K51
                refine A_gen [(6, Value.bool (false))] rfl (fun T => ?_)
                obtain rfl := Option.some.inj hM
                refine A_ret (fun hn => endsV (v0 := Value.bool (false)) rfl (res1 rfl))
              · replace hM := ifp (eq_of_beq hg54) hM
                refine r_y rfl ?_
                refine r_v (Value.int .i64 (r43.2.2)) rfl rfl rfl rfl ?_
                refine r_y rfl ?_
                refine r_v (Value.bool (((r43.2.2 : Int) == 0))) rfl rfl rfl rfl ?_
                refine r_v (Value.bool (((r43.2.2 : Int) == 0))) rfl rfl rfl rfl ?_
                refine r_v (Value.bool (((r43.2.2 : Int) == 0))) rfl rfl rfl rfl ?_
                rcases hg55 : (((r43.2.2 : Int) == 0)) with _ | _
                · replace hM := ifn (ne_of_beq_false hg55) hM
                  refine r_n false rfl (by decide) rfl ?_
                  refine r_n false rfl (by decide) rfl ?_
                  refine r_v (Value.bool (false)) rfl rfl rfl rfl ?_
                  refine r_v (Value.bool (false)) rfl rfl rfl rfl ?_
                  refine r_n false rfl (by decide) rfl ?_
                  refine r_n false rfl (by decide) rfl ?_
                  refine r_v (Value.bool (false)) rfl rfl rfl rfl ?_
                  refine r_v (Value.bool (false)) rfl rfl rfl rfl ?_
                  refine r_n false rfl (by decide) rfl ?_
                  refine r_n false rfl (by decide) rfl ?_
                  refine r_n false rfl (by decide) rfl ?_
                  refine r_n false rfl (by decide) rfl ?_
                  refine r_n false rfl (by decide) rfl ?_
                  refine r_v (Value.bool (false)) rfl rfl rfl rfl ?_
                  refine r_v (Value.bool (false)) rfl rfl rfl rfl ?_
                  refine r_n false rfl (by decide) rfl ?_
                  refine r_v (Value.bool (false)) rfl rfl rfl rfl ?_
                  refine r_v (Value.bool (false)) rfl rfl rfl rfl ?_
                  refine lx_nil ?_
                  refine hK51 _ _ ?_; try clear hK51 K51
                  refine A_gen [(6, Value.bool (false))] rfl (fun T => ?_)
                  obtain rfl := Option.some.inj hM
                  refine A_ret (fun hn => endsV (v0 := Value.bool (false)) rfl (res1 rfl))
                · replace hM := ifp (eq_of_beq hg55) hM
                  refine r_y rfl ?_
                  refine r_l (Value.agg #[Value.int .i64 (r22.1), U (hi (r22.2.1)), U (lo (r22.2.1))]) 3 _ _ _ _ rfl rfl rfl rfl rfl ?_
                  refine r_y rfl ?_
                  replace hM := bind_sm hM; obtain ⟨r56, hr57, hM⟩ := hM
                  refine r_c (Value.bool (r56)) rfl _ _ (ev_callF rfl call_13 rfl) (vec_May_g N (r22.1) (r22.2.1) _ hr57) ?_
                  refine r_v (Value.bool (r56)) rfl rfl rfl rfl ?_
                  refine r_v (Value.bool (r56)) rfl rfl rfl rfl ?_
                  rcases hg58 : (r56) with _ | _
                  · replace hM := ifn (Bool.eq_false_iff.1 hg58) hM
                    refine r_n false rfl (by decide) rfl ?_
                    refine r_n false rfl (by decide) rfl ?_
                    refine r_v (Value.bool (false)) rfl rfl rfl rfl ?_
                    refine r_v (Value.bool (false)) rfl rfl rfl rfl ?_
                    refine r_n false rfl (by decide) rfl ?_
                    refine r_n false rfl (by decide) rfl ?_
                    refine r_n false rfl (by decide) rfl ?_
                    refine r_n false rfl (by decide) rfl ?_
                    refine r_n false rfl (by decide) rfl ?_
                    refine r_v (Value.bool (false)) rfl rfl rfl rfl ?_
                    refine r_v (Value.bool (false)) rfl rfl rfl rfl ?_
                    refine r_n false rfl (by decide) rfl ?_
                    refine r_v (Value.bool (false)) rfl rfl rfl rfl ?_
                    refine r_v (Value.bool (false)) rfl rfl rfl rfl ?_
                    refine lx_nil ?_
                    refine hK51 _ _ ?_; try clear hK51 K51
                    refine A_gen [(6, Value.bool (false))] rfl (fun T => ?_)
                    obtain rfl := Option.some.inj hM
                    refine A_ret (fun hn => endsV (v0 := Value.bool (false)) rfl (res1 rfl))
                  · replace hM := ifp hg58 hM
                    refine r_y rfl ?_
                    refine r_l (Value.agg #[Value.int .i64 (r39.1), U (hi (r39.2.1)), U (lo (r39.2.1))]) 1 _ _ _ _ rfl rfl rfl rfl rfl ?_
                    refine r_y rfl ?_
                    replace hM := bind_sm hM; obtain ⟨r59, hr60, hM⟩ := hM
                    refine r_c (Value.bool (r59)) rfl _ _ (ev_callF rfl call_13 rfl) (vec_May_g N (r39.1) (r39.2.1) _ hr60) ?_
                    refine r_v (Value.bool (r59)) rfl rfl rfl rfl ?_
                    refine r_v (Value.bool (r59)) rfl rfl rfl rfl ?_
                    rcases hg61 : (r59) with _ | _
                    · replace hM := ifn (Bool.eq_false_iff.1 hg61) hM
                      refine r_n false rfl (by decide) rfl ?_
                      refine r_n false rfl (by decide) rfl ?_
                      refine r_n false rfl (by decide) rfl ?_
                      refine r_n false rfl (by decide) rfl ?_
                      refine r_n false rfl (by decide) rfl ?_
                      refine r_v (Value.bool (false)) rfl rfl rfl rfl ?_
                      refine r_v (Value.bool (false)) rfl rfl rfl rfl ?_
                      refine r_n false rfl (by decide) rfl ?_
                      refine r_v (Value.bool (false)) rfl rfl rfl rfl ?_
                      refine r_v (Value.bool (false)) rfl rfl rfl rfl ?_
                      refine lx_nil ?_
                      refine hK51 _ _ ?_; try clear hK51 K51
                      refine A_gen [(6, Value.bool (false))] rfl (fun T => ?_)
                      obtain rfl := Option.some.inj hM
                      refine A_ret (fun hn => endsV (v0 := Value.bool (false)) rfl (res1 rfl))
                    · replace hM := ifp hg61 hM
                      refine r_y rfl ?_
                      refine r_v (Value.bool ((r47) == (r49))) rfl rfl rfl rfl ?_
                      refine r_y rfl ?_
                      refine r_v (Value.pointer (some ⟨b45, 2, none⟩)) rfl rfl rfl rfl ?_
                      refine r_y rfl ?_
                      refine r_l (U (lo (r43.2.1))) 0 _ _ _ _ rfl rfl rfl rfl rfl ?_
                      refine r_y rfl ?_
                      refine r_v (Value.bool ((lo (r43.2.1)) == (0#64))) rfl rfl (U_eq (lo (r43.2.1)) (0#64)) rfl ?_
                      refine r_y rfl ?_
                      refine r_v (Value.bool (((r47) == (r49)) == ((lo (r43.2.1)) == (0#64)))) rfl rfl rfl (ev_binB rfl rfl rfl) ?_
                      refine r_v (Value.bool (((r47) == (r49)) == ((lo (r43.2.1)) == (0#64)))) rfl rfl rfl rfl ?_
                      refine r_v (Value.bool (((r47) == (r49)) == ((lo (r43.2.1)) == (0#64)))) rfl rfl rfl rfl ?_
                      rcases hg62 : (((r47) == (r49)) == ((lo (r43.2.1)) == (0#64))) with _ | _
                      · replace hM := ifn (ne_of_beq_false hg62) hM
                        refine r_n false rfl (by decide) rfl ?_
                        refine r_v (Value.bool (false)) rfl rfl rfl rfl ?_
                        refine r_v (Value.bool (false)) rfl rfl rfl rfl ?_
                        refine lx_nil ?_
                        refine hK51 _ _ ?_; try clear hK51 K51
                        refine A_gen [(6, Value.bool (false))] rfl (fun T => ?_)
                        obtain rfl := Option.some.inj hM
                        refine A_ret (fun hn => endsV (v0 := Value.bool (false)) rfl (res1 rfl))
                      · replace hM := ifp (eq_of_beq hg62) hM
                        refine r_y rfl ?_
                        replace hM := bind_sm hM; obtain ⟨r63, hr64, hM⟩ := hM
                        refine r_c (Value.bool (r63)) rfl _ _ (ev_callF rfl call_16 rfl) (shunterlaw02_lives_g N  _ hr64) ?_
                        refine r_v (Value.bool (r63)) rfl rfl rfl rfl ?_
                        refine r_v (Value.bool (r63)) rfl rfl rfl rfl ?_
                        refine lx_nil ?_
                        refine hK51 _ _ ?_; try clear hK51 K51
                        refine A_gen [(6, Value.bool (r63))] rfl (fun T => ?_)
                        obtain rfl := Option.some.inj hM
                        refine A_ret (fun hn => endsV (v0 := Value.bool (r63)) rfl (res1 rfl))
end Go.Proofs.YtomcfndpnnjihaaDoor
