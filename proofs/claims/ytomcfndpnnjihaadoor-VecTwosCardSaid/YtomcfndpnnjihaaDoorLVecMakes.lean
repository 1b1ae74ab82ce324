/- models of functions and their walks -/
import Derived.Test.YtomcfndpnnjihaaDoorVc
namespace Go.Proofs.YtomcfndpnnjihaaDoor
open Go Go.RowKit Go.Eng
def shunterlaw02_VecMakes_k4 (N : Nat) (w : Int) (hi' : BitVec 64) (lo' : BitVec 64) (r5 : Bool) (r8 : Int × (BitVec 128) × Int) (r12 : Int × (BitVec 128) × Int) : Option (Bool) := if (r5) = true then if (((r8.1) == (w)) && ((r8.2.1) == ((hi') ++ (lo')))) = true then if (r8.2.2 : Int) = 0 then if (((r12.1) == (r8.1)) && ((r12.2.1) == (r8.2.1))) = true then (shunterlaw02_lives_m N ).bind fun r42 => some (r42) else some (false) else some (false) else some (false) else if (((r8.1) == (0)) && ((r8.2.1) == ((0#64) ++ (0#64)))) = true then if (r8.2.2 : Int) = 7 then (shunterlaw02_lives_m N ).bind fun r36 => some (r36) else some (false) else some (false)
def shunterlaw02_VecMakes_k3 (N : Nat) (w : Int) (hi' : BitVec 64) (lo' : BitVec 64) (r5 : Bool) (r8 : Int × (BitVec 128) × Int) (r12 : Int × (BitVec 128) × Int) (x2_ : Bool) : Option (Bool) := if (x2_) = true then if (((r8.1) == (0)) && ((r8.2.1) == ((0#64) ++ (0#64)))) = true then if (r8.2.2 : Int) = 9 then if (((r12.1) == (0)) && ((r12.2.1) == ((0#64) ++ (0#64)))) = true then if (r12.2.2 : Int) = 9 then (shunterlaw02_lives_m N ).bind fun r22 => some (r22) else some (false) else some (false) else some (false) else some (false) else (shunterref02_Bits_m N 128 ((hi') ++ (lo'))).bind fun r25 => if (r12.2.2 : Int) ≠ 0 then some (false) else ck (0 ≤ w ∧ w ≤ ((r25).length : Int)) ((shunterref02_Of_m N (((r25).take ((w).toNat)).drop (0))).bind fun r47 => if (((r12.1) == (r47.1)) && ((r12.2.1) == (r47.2))) = true then shunterlaw02_VecMakes_k4 N w hi' lo' r5 r8 r12  else some (false))
def shunterlaw02_VecMakes_k1 (N : Nat) (w : Int) (hi' : BitVec 64) (lo' : BitVec 64) (r5 : Bool) (r8 : Int × (BitVec 128) × Int) (r12 : Int × (BitVec 128) × Int) : Option (Bool) := if (w : Int) < 1 then shunterlaw02_VecMakes_k3 N w hi' lo' r5 r8 r12 (true) else shunterlaw02_VecMakes_k3 N w hi' lo' r5 r8 r12 (decide ((w : Int) > 128))
def shunterlaw02_VecMakes_m (N : Nat) (w : Int) (hi' : BitVec 64) (lo' : BitVec 64) : Option (Bool) := (shunterref02_May_m N (w) ((hi') ++ (lo'))).bind fun r5 => (vec_New_m N (w) (hi') (lo')).bind fun r8 => (vec_Cut_m N (w) ((hi') ++ (lo'))).bind fun r12 => (vec_May_m N (w) ((hi') ++ (lo'))).bind fun r54 => if (r54) ≠ (r5) then some (false) else (vec_Word_m N (w) ((hi') ++ (lo'))).bind fun r57 => if (r57) = ((hi') ++ (lo')) then (vec_Truth_m N (true)).bind fun r60 => if (((r60.1) == (1)) && ((r60.2) == ((0#64) ++ (1#64)))) = true then (vec_Truth_m N (false)).bind fun r63 => if (((r63.1) == (1)) && ((r63.2) == ((0#64) ++ (0#64)))) = true then shunterlaw02_VecMakes_k1 N w hi' lo' r5 r8 r12  else some (false) else some (false) else some (false)
set_option maxRecDepth 100000 in
set_option maxHeartbeats 400000 in
theorem shunterlaw02_VecMakes_g (N : Nat) (w : Int) (hi' : BitVec 64) (lo' : BitVec 64) (r : Bool) (hM : shunterlaw02_VecMakes_m N w hi' lo' = some r) : Gives Tryd.prog 3 #[Value.int .i64 (w), U (hi'), U (lo')] (Value.bool (r)) := by
  unfold shunterlaw02_VecMakes_m at hM
  refine gives_of_A follows Tryd.func3 rfl 123 rfl (upd (upd (upd (fun _ => undef) 2 (U (lo'))) 1 (U (hi'))) 0 (Value.int .i64 (w))) (by funext k; match k with | 0 => rfl | 1 => rfl | 2 => rfl | k + 3 => rfl) (fun base0_ => ?_)
  refine A_seq fun K1 hK1 => ?_
  refine A_reg ?_
  refine r_v (Value.bool (false)) rfl rfl rfl rfl ?_
  refine lx_nil ?_
  refine hK1 _ _ ?_; try clear hK1 K1
  refine A_seq fun K2 hK2 => ?_
  refine A_reg ?_
  refine r_v (Value.int .i64 (w)) rfl rfl rfl rfl ?_
  refine r_v (U (hi')) rfl rfl rfl rfl ?_
  refine r_v (U (lo')) rfl rfl rfl rfl ?_
  refine r_v (Value.agg #[Value.int .i64 (w), U (hi'), U (lo')]) rfl rfl rfl (ev_buildS rfl rfl rfl rfl) ?_
  refine r_a (24, #[Value.int .i64 (0), U (0#64), U (0#64)]) rfl rfl rfl (fun b3 => ?_) (.inr rfl)
  refine r_s [(b3, 24, #[Value.int .i64 (w), U (hi'), U (lo')])] 0 _ _ _ (#[Value.int .i64 (0), U (0#64), U (0#64)]) (#[Value.int .i64 (w), U (hi'), U (lo')]) (#[Value.int .i64 (w), U (hi'), U (lo')]) rfl rfl rfl rfl (.of rfl rfl) rfl rfl ?_
  refine lx_nil ?_
  refine hK2 _ _ ?_; try clear hK2 K2
  refine A_seq fun K4 hK4 => ?_
  refine A_reg ?_
  refine r_l (Value.agg #[Value.int .i64 (w), U (hi'), U (lo')]) 0 _ _ _ _ rfl rfl rfl rfl rfl ?_
  replace hM := bind_sm hM; obtain ⟨r5, hr6, hM⟩ := hM
  refine r_c (Value.bool (r5)) rfl _ _ (ev_callF rfl call_10 rfl) (by have h_ := (shunterref02_May_g N (w) ((hi') ++ (lo')) _ hr6); simp only [app_hl] at h_; exact h_) ?_
  refine r_v (Value.bool (r5)) rfl rfl rfl rfl ?_
  refine lx_nil ?_
  refine hK4 _ _ ?_; try clear hK4 K4
  refine A_seq fun K7 hK7 => ?_
  refine A_reg ?_
  refine r_v (Value.int .i64 (w)) rfl rfl rfl rfl ?_
  refine r_v (U (hi')) rfl rfl rfl rfl ?_
  refine r_v (U (lo')) rfl rfl rfl rfl ?_
  replace hM := bind_sm hM; obtain ⟨r8, hr9, hM⟩ := hM
  refine r_c (Value.tuple #[Value.agg #[Value.int .i64 (r8.1), U (hi (r8.2.1)), U (lo (r8.2.1))], Value.int .i64 (r8.2.2)]) rfl _ _ (ev_callF rfl call_11 rfl) (vec_New_g N (w) (hi') (lo') _ hr9) ?_
  refine r_v (Value.tuple #[Value.agg #[Value.int .i64 (r8.1), U (hi (r8.2.1)), U (lo (r8.2.1))], Value.int .i64 (r8.2.2)]) rfl rfl rfl rfl ?_
  refine r_v (Value.agg #[Value.int .i64 (r8.1), U (hi (r8.2.1)), U (lo (r8.2.1))]) rfl rfl rfl rfl ?_
  refine r_v (Value.int .i64 (r8.2.2)) rfl rfl rfl rfl ?_
  refine r_a (24, #[Value.int .i64 (0), U (0#64), U (0#64)]) rfl rfl rfl (fun b10 => ?_) (.inr rfl)
  refine r_s [(b10, 24, #[Value.int .i64 (r8.1), U (hi (r8.2.1)), U (lo (r8.2.1))]), (b3, 24, #[Value.int .i64 (w), U (hi'), U (lo')])] 0 _ _ _ (#[Value.int .i64 (0), U (0#64), U (0#64)]) (#[Value.int .i64 (r8.1), U (hi (r8.2.1)), U (lo (r8.2.1))]) (#[Value.int .i64 (r8.1), U (hi (r8.2.1)), U (lo (r8.2.1))]) rfl rfl rfl rfl (.of rfl rfl) rfl rfl ?_
  refine r_v (Value.int .i64 (r8.2.2)) rfl rfl rfl rfl ?_
  refine lx_nil ?_
  refine hK7 _ _ ?_; try clear hK7 K7
  refine A_seq fun K11 hK11 => ?_
  refine A_reg ?_
  refine r_v (Value.int .i64 (w)) rfl rfl rfl rfl ?_
  refine r_v (U (hi')) rfl rfl rfl rfl ?_
  refine r_v (U (lo')) rfl rfl rfl rfl ?_
  refine r_v (Value.agg #[U (hi'), U (lo')]) rfl rfl rfl (ev_buildS rfl rfl rfl rfl) ?_
  replace hM := bind_sm hM; obtain ⟨r12, hr13, hM⟩ := hM
  refine r_c (Value.tuple #[Value.agg #[Value.int .i64 (r12.1), U (hi (r12.2.1)), U (lo (r12.2.1))], Value.int .i64 (r12.2.2)]) rfl _ _ (ev_callF rfl call_12 rfl) (by have h_ := (vec_Cut_g N (w) ((hi') ++ (lo')) _ hr13); simp only [app_hl] at h_; exact h_) ?_
  refine r_v (Value.tuple #[Value.agg #[Value.int .i64 (r12.1), U (hi (r12.2.1)), U (lo (r12.2.1))], Value.int .i64 (r12.2.2)]) rfl rfl rfl rfl ?_
  refine r_v (Value.agg #[Value.int .i64 (r12.1), U (hi (r12.2.1)), U (lo (r12.2.1))]) rfl rfl rfl rfl ?_
  refine r_v (Value.int .i64 (r12.2.2)) rfl rfl rfl rfl ?_
  refine r_a (24, #[Value.int .i64 (0), U (0#64), U (0#64)]) rfl rfl rfl (fun b14 => ?_) (.inr rfl)
  refine r_s [(b14, 24, #[Value.int .i64 (r12.1), U (hi (r12.2.1)), U (lo (r12.2.1))]), (b10, 24, #[Value.int .i64 (r8.1), U (hi (r8.2.1)), U (lo (r8.2.1))]), (b3, 24, #[Value.int .i64 (w), U (hi'), U (lo')])] 0 _ _ _ (#[Value.int .i64 (0), U (0#64), U (0#64)]) (#[Value.int .i64 (r12.1), U (hi (r12.2.1)), U (lo (r12.2.1))]) (#[Value.int .i64 (r12.1), U (hi (r12.2.1)), U (lo (r12.2.1))]) rfl rfl rfl rfl (.of rfl rfl) rfl rfl ?_
  refine r_v (Value.int .i64 (r12.2.2)) rfl rfl rfl rfl ?_
  refine lx_nil ?_
  refine hK11 _ _ ?_; try clear hK11 K11
  refine A_cut (fun tt ll => (shunterlaw02_VecMakes_k1 N w hi' lo' r5 r8 r12  = some r) ∧ Is [(0, Value.int .i64 (w)), (1, U (hi')), (2, U (lo')), (7, Value.pointer (some ⟨b3, 0, none⟩)), (8, Value.bool (r5)), (9, Value.pointer (some ⟨b10, 0, none⟩)), (10, Value.int .i64 (r8.2.2)), (11, Value.pointer (some ⟨b14, 0, none⟩)), (12, Value.int .i64 (r12.2.2))] [(b14, 24, #[Value.int .i64 (r12.1), U (hi (r12.2.1)), U (lo (r12.2.1))]), (b10, 24, #[Value.int .i64 (r8.1), U (hi (r8.2.1)), U (lo (r8.2.1))]), (b3, 24, #[Value.int .i64 (w), U (hi'), U (lo')])] tt ll) ?_ ?_
  · refine A_seq fun K53 hK53 => ?_
    refine A_reg ?_
    refine r_l (Value.agg #[Value.int .i64 (w), U (hi'), U (lo')]) 2 _ _ _ _ rfl rfl rfl rfl rfl ?_
    replace hM := bind_sm hM; obtain ⟨r54, hr55, hM⟩ := hM
    refine r_c (Value.bool (r54)) rfl _ _ (ev_callF rfl call_13 rfl) (by have h_ := (vec_May_g N (w) ((hi') ++ (lo')) _ hr55); simp only [app_hl] at h_; exact h_) ?_
    refine r_v (Value.bool (r5)) rfl rfl rfl rfl ?_
    refine r_v (Value.bool ((r54) != (r5))) rfl rfl rfl (ev_binBn rfl rfl rfl) ?_
    refine r_v (Value.bool ((r54) != (r5))) rfl rfl rfl rfl ?_
    rcases hg56 : ((r54) != (r5)) with _ | _
    · replace hM := ifn (bne_f hg56) hM
      refine r_y rfl ?_
      refine r_l (Value.agg #[Value.int .i64 (w), U (hi'), U (lo')]) 2 _ _ _ _ rfl rfl rfl rfl rfl ?_
      refine r_y rfl ?_
      replace hM := bind_sm hM; obtain ⟨r57, hr58, hM⟩ := hM
      refine r_c (Value.agg #[U (hi (r57)), U (lo (r57))]) rfl _ _ (ev_callF rfl call_14 rfl) (by have h_ := (vec_Word_g N (w) ((hi') ++ (lo')) _ hr58); simp only [app_hl] at h_; exact h_) ?_
      refine r_y rfl ?_
      refine r_v (U (hi')) rfl rfl rfl rfl ?_
      refine r_y rfl ?_
      refine r_v (U (lo')) rfl rfl rfl rfl ?_
      refine r_y rfl ?_
      refine r_v (Value.agg #[U (hi'), U (lo')]) rfl rfl rfl (ev_buildS rfl rfl rfl rfl) ?_
      refine r_y rfl ?_
      refine r_v (Value.bool (!((r57) == ((hi') ++ (lo'))))) rfl rfl rfl (ev_binNe rfl rfl eg_31 (by have h_ := fun c => eqword_31 (c := c) (r57) ((hi') ++ (lo')); simp only [app_hl] at h_; exact h_ _)) ?_
      refine r_v (Value.bool (!((r57) == ((hi') ++ (lo'))))) rfl rfl rfl rfl ?_
      refine r_v (Value.bool (!((r57) == ((hi') ++ (lo'))))) rfl rfl rfl rfl ?_
      rcases hg59 : (!((r57) == ((hi') ++ (lo')))) with _ | _
      · replace hM := ifp (eq_of_beq (not_f hg59)) hM
        refine r_y rfl ?_
        replace hM := bind_sm hM; obtain ⟨r60, hr61, hM⟩ := hM
        refine r_c (Value.agg #[Value.int .i64 (r60.1), U (hi (r60.2)), U (lo (r60.2))]) rfl _ _ (ev_callF rfl call_15 rfl) (vec_Truth_g N (true) _ hr61) ?_
        refine r_y rfl ?_
        refine r_v (Value.agg #[Value.int .i64 (1), U (0#64), U (1#64)]) rfl rfl rfl (ev_buildS rfl rfl rfl rfl) ?_
        refine r_y rfl ?_
        refine r_v (Value.bool (!(((r60.1) == (1)) && ((r60.2) == ((0#64) ++ (1#64)))))) rfl rfl rfl (ev_binNe rfl rfl eg_24 (by have h_ := fun c => eqst_24 (c := c) (r60.1) (1) (r60.2) ((0#64) ++ (1#64)); simp only [app_hl] at h_; exact h_ _)) ?_
        refine r_v (Value.bool (!(((r60.1) == (1)) && ((r60.2) == ((0#64) ++ (1#64)))))) rfl rfl rfl rfl ?_
        refine r_v (Value.bool (!(((r60.1) == (1)) && ((r60.2) == ((0#64) ++ (1#64)))))) rfl rfl rfl rfl ?_
        rcases hg62 : (!(((r60.1) == (1)) && ((r60.2) == ((0#64) ++ (1#64))))) with _ | _
        · replace hM := ifp (not_f hg62) hM
          refine r_y rfl ?_
          replace hM := bind_sm hM; obtain ⟨r63, hr64, hM⟩ := hM
          refine r_c (Value.agg #[Value.int .i64 (r63.1), U (hi (r63.2)), U (lo (r63.2))]) rfl _ _ (ev_callF rfl call_15 rfl) (vec_Truth_g N (false) _ hr64) ?_
          refine r_y rfl ?_
          refine r_v (Value.agg #[Value.int .i64 (1), U (0#64), U (0#64)]) rfl rfl rfl (ev_buildS rfl rfl rfl rfl) ?_
          refine r_y rfl ?_
          refine r_v (Value.bool (!(((r63.1) == (1)) && ((r63.2) == ((0#64) ++ (0#64)))))) rfl rfl rfl (ev_binNe rfl rfl eg_24 (by have h_ := fun c => eqst_24 (c := c) (r63.1) (1) (r63.2) ((0#64) ++ (0#64)); simp only [app_hl] at h_; exact h_ _)) ?_
          refine r_v (Value.bool (!(((r63.1) == (1)) && ((r63.2) == ((0#64) ++ (0#64)))))) rfl rfl rfl rfl ?_
          refine lx_nil ?_
          refine hK53 _ _ ?_; try clear hK53 K53
          refine A_gen [(0, Value.int .i64 (w)), (1, U (hi')), (2, U (lo')), (7, Value.pointer (some ⟨b3, 0, none⟩)), (8, Value.bool (r5)), (9, Value.pointer (some ⟨b10, 0, none⟩)), (10, Value.int .i64 (r8.2.2)), (11, Value.pointer (some ⟨b14, 0, none⟩)), (12, Value.int .i64 (r12.2.2)), (56, Value.bool (!(((r63.1) == (1)) && ((r63.2) == ((0#64) ++ (0#64))))))] rfl (fun T => ?_)
          refine A_cond (!(((r63.1) == (1)) && ((r63.2) == ((0#64) ++ (0#64))))) rfl (fun hc65 => ?_) (fun hc65 => ?_)
          · replace hM := ifn (Bool.eq_false_iff.1 (not_t hc65)) hM
            refine A_seq fun K66 hK66 => ?_
            refine A_reg ?_
            refine r_v (Value.bool (false)) rfl rfl rfl rfl ?_
            refine lx_nil ?_
            refine hK66 _ _ ?_; try clear hK66 K66
            obtain rfl := Option.some.inj hM
            refine A_ret (fun hn => ends_eq (v0 := Value.bool (false)) rfl (res1 rfl))
          · replace hM := ifp (not_f hc65) hM
            refine A_skip ?_
            refine fg _ (Sub.of (List.Sublist.cons_cons _ (List.Sublist.cons_cons _ (List.Sublist.cons_cons _ (List.Sublist.slnil))))) ?_
            exact ⟨hM, is_mk rfl (by first | rfl | simp only [app_hl])⟩
        · replace hM := ifn (Bool.eq_false_iff.1 (not_t hg62)) hM
          refine r_n true rfl (by decide) rfl ?_
          refine r_n true rfl (by decide) rfl ?_
          refine r_n true rfl (by decide) rfl ?_
          refine r_v (Value.bool (true)) rfl rfl rfl rfl ?_
          refine lx_nil ?_
          refine hK53 _ _ ?_; try clear hK53 K53
          refine A_gen [(0, Value.int .i64 (w)), (1, U (hi')), (2, U (lo')), (7, Value.pointer (some ⟨b3, 0, none⟩)), (8, Value.bool (r5)), (9, Value.pointer (some ⟨b10, 0, none⟩)), (10, Value.int .i64 (r8.2.2)), (11, Value.pointer (some ⟨b14, 0, none⟩)), (12, Value.int .i64 (r12.2.2)), (56, Value.bool (true))] rfl (fun T => ?_)
          refine A_cond true rfl (fun _ => ?_) (fun h_ => nomatch h_)
          refine A_seq fun K67 hK67 => ?_
          refine A_reg ?_
          refine r_v (Value.bool (false)) rfl rfl rfl rfl ?_
          refine lx_nil ?_
          refine hK67 _ _ ?_; try clear hK67 K67
          obtain rfl := Option.some.inj hM
          refine A_ret (fun hn => ends_eq (v0 := Value.bool (false)) rfl (res1 rfl))
      · replace hM := ifn (ne_of_beq_false (not_t hg59)) hM
        refine r_n true rfl (by decide) rfl ?_
        refine r_n true rfl (by decide) rfl ?_
        refine r_n true rfl (by decide) rfl ?_
        refine r_v (Value.bool (true)) rfl rfl rfl rfl ?_
        refine r_v (Value.bool (true)) rfl rfl rfl rfl ?_
        refine r_n true rfl (by decide) rfl ?_
        refine r_n true rfl (by decide) rfl ?_
        refine r_n true rfl (by decide) rfl ?_
        refine r_v (Value.bool (true)) rfl rfl rfl rfl ?_
        refine lx_nil ?_
        refine hK53 _ _ ?_; try clear hK53 K53
        refine A_gen [(0, Value.int .i64 (w)), (1, U (hi')), (2, U (lo')), (7, Value.pointer (some ⟨b3, 0, none⟩)), (8, Value.bool (r5)), (9, Value.pointer (some ⟨b10, 0, none⟩)), (10, Value.int .i64 (r8.2.2)), (11, Value.pointer (some ⟨b14, 0, none⟩)), (12, Value.int .i64 (r12.2.2)), (56, Value.bool (true))] rfl (fun T => ?_)
        refine A_cond true rfl (fun _ => ?_) (fun h_ => nomatch h_)
        refine A_seq fun K68 hK68 => ?_
        refine A_reg ?_
        refine r_v (Value.bool (false)) rfl rfl rfl rfl ?_
        refine lx_nil ?_
        refine hK68 _ _ ?_; try clear hK68 K68
        obtain rfl := Option.some.inj hM
        refine A_ret (fun hn => ends_eq (v0 := Value.bool (false)) rfl (res1 rfl))
    · replace hM := ifp (bne_iff_ne.1 hg56) hM
      refine r_n true rfl (by decide) rfl ?_
      refine r_n true rfl (by decide) rfl ?_
      refine r_n true rfl (by decide) rfl ?_
      refine r_n true rfl (by decide) rfl ?_
      refine r_n true rfl (by decide) rfl ?_
      refine r_n true rfl (by decide) rfl ?_
      refine r_v (Value.bool (true)) rfl rfl rfl rfl ?_
      refine r_v (Value.bool (true)) rfl rfl rfl rfl ?_
      refine r_n true rfl (by decide) rfl ?_
      refine r_n true rfl (by decide) rfl ?_
      refine r_n true rfl (by decide) rfl ?_
      refine r_v (Value.bool (true)) rfl rfl rfl rfl ?_
      refine r_v (Value.bool (true)) rfl rfl rfl rfl ?_
      refine r_n true rfl (by decide) rfl ?_
      refine r_n true rfl (by decide) rfl ?_
      refine r_n true rfl (by decide) rfl ?_
      refine r_v (Value.bool (true)) rfl rfl rfl rfl ?_
      refine lx_nil ?_
      refine hK53 _ _ ?_; try clear hK53 K53
      refine A_gen [(0, Value.int .i64 (w)), (1, U (hi')), (2, U (lo')), (7, Value.pointer (some ⟨b3, 0, none⟩)), (8, Value.bool (r5)), (9, Value.pointer (some ⟨b10, 0, none⟩)), (10, Value.int .i64 (r8.2.2)), (11, Value.pointer (some ⟨b14, 0, none⟩)), (12, Value.int .i64 (r12.2.2)), (56, Value.bool (true))] rfl (fun T => ?_)
      refine A_cond true rfl (fun _ => ?_) (fun h_ => nomatch h_)
      refine A_seq fun K69 hK69 => ?_
      refine A_reg ?_
      refine r_v (Value.bool (false)) rfl rfl rfl rfl ?_
      refine lx_nil ?_
      refine hK69 _ _ ?_; try clear hK69 K69
      obtain rfl := Option.some.inj hM
      refine A_ret (fun hn => ends_eq (v0 := Value.bool (false)) rfl (res1 rfl))
  · clear hM; rintro t l ⟨hM, ⟨T, rfl⟩, rfl⟩
    unfold shunterlaw02_VecMakes_k1 at hM
    refine A_seq fun K15 hK15 => ?_
    refine A_cut (fun tt ll => ∃ (x2_ : Bool), (shunterlaw02_VecMakes_k3 N w hi' lo' r5 r8 r12 x2_ = some r) ∧ Is [(0, Value.int .i64 (w)), (1, U (hi')), (2, U (lo')), (7, Value.pointer (some ⟨b3, 0, none⟩)), (8, Value.bool (r5)), (9, Value.pointer (some ⟨b10, 0, none⟩)), (10, Value.int .i64 (r8.2.2)), (11, Value.pointer (some ⟨b14, 0, none⟩)), (12, Value.int .i64 (r12.2.2)), (62, Value.bool (x2_))] [(b14, 24, #[Value.int .i64 (r12.1), U (hi (r12.2.1)), U (lo (r12.2.1))]), (b10, 24, #[Value.int .i64 (r8.1), U (hi (r8.2.1)), U (lo (r8.2.1))]), (b3, 24, #[Value.int .i64 (w), U (hi'), U (lo')])] tt ll) ?_ ?_
    · refine A_reg ?_
      refine r_v (Value.int .i64 (w)) rfl rfl rfl rfl ?_
      refine r_v (Value.bool (decide ((w : Int) < 1))) rfl rfl rfl rfl ?_
      refine r_v (Value.bool (decide ((w : Int) < 1))) rfl rfl rfl rfl ?_
      rcases hg52 : (decide ((w : Int) < 1)) with _ | _
      · replace hM := ifn (of_decide_eq_false hg52) hM
        refine r_y rfl ?_
        refine r_v (Value.int .i64 (w)) rfl rfl rfl rfl ?_
        refine r_y rfl ?_
        refine r_v (Value.bool (decide ((w : Int) > 128))) rfl rfl rfl rfl ?_
        refine r_v (Value.bool (decide ((w : Int) > 128))) rfl rfl rfl rfl ?_
        refine lx_nil ?_
        refine fg _ (Sub.of (List.Sublist.cons_cons _ (List.Sublist.cons_cons _ (List.Sublist.cons_cons _ (List.Sublist.slnil))))) ?_
        exact ⟨decide ((w : Int) > 128), hM, is_mk rfl (by first | rfl | simp only [app_hl])⟩
      · replace hM := ifp (of_decide_eq_true hg52) hM
        refine r_n true rfl (by decide) rfl ?_
        refine r_n true rfl (by decide) rfl ?_
        refine r_v (Value.bool (true)) rfl rfl rfl rfl ?_
        refine lx_nil ?_
        refine fg _ (Sub.of (List.Sublist.cons_cons _ (List.Sublist.cons_cons _ (List.Sublist.cons_cons _ (List.Sublist.slnil))))) ?_
        exact ⟨true, hM, is_mk rfl (by first | rfl | simp only [app_hl])⟩
    · clear hM; rintro t l ⟨x2_, hM, ⟨T, rfl⟩, rfl⟩
      unfold shunterlaw02_VecMakes_k3 at hM
      refine A_cond (x2_) rfl (fun hc16 => ?_) (fun hc16 => ?_)
      · replace hM := ifp hc16 hM
        refine A_seq fun K17 hK17 => ?_
        refine A_reg ?_
        refine r_l (Value.agg #[Value.int .i64 (r8.1), U (hi (r8.2.1)), U (lo (r8.2.1))]) 1 _ _ _ _ rfl rfl rfl rfl rfl ?_
        refine r_v (Value.agg #[Value.int .i64 (0), U (0#64), U (0#64)]) rfl rfl rfl (ev_buildS rfl rfl rfl rfl) ?_
        refine r_v (Value.bool (((r8.1) == (0)) && ((r8.2.1) == ((0#64) ++ (0#64))))) rfl rfl rfl (ev_binEq rfl rfl eg_24 (by have h_ := fun c => eqst_24 (c := c) (r8.1) (0) (r8.2.1) ((0#64) ++ (0#64)); simp only [app_hl] at h_; exact h_ _)) ?_
        refine r_v (Value.bool (((r8.1) == (0)) && ((r8.2.1) == ((0#64) ++ (0#64))))) rfl rfl rfl rfl ?_
        rcases hg18 : (((r8.1) == (0)) && ((r8.2.1) == ((0#64) ++ (0#64)))) with _ | _
        · replace hM := ifn (Bool.eq_false_iff.1 hg18) hM
          refine r_n false rfl (by decide) rfl ?_
          refine r_n false rfl (by decide) rfl ?_
          refine r_v (Value.bool (false)) rfl rfl rfl rfl ?_
          refine r_v (Value.bool (false)) rfl rfl rfl rfl ?_
          refine r_n false rfl (by decide) rfl ?_
          refine r_n false rfl (by decide) rfl ?_
          refine r_n false rfl (by decide) rfl ?_
          refine r_v (Value.bool (false)) rfl rfl rfl rfl ?_
          refine r_v (Value.bool (false)) rfl rfl rfl rfl ?_
          refine r_n false rfl (by decide) rfl ?_
          refine r_n false rfl (by decide) rfl ?_
          refine r_v (Value.bool (false)) rfl rfl rfl rfl ?_
          refine r_v (Value.bool (false)) rfl rfl rfl rfl ?_
          refine r_n false rfl (by decide) rfl ?_
          refine r_v (Value.bool (false)) rfl rfl rfl rfl ?_
          refine r_v (Value.bool (false)) rfl rfl rfl rfl ?_
          refine lx_nil ?_
          refine hK17 _ _ ?_; try clear hK17 K17
          refine A_gen [(6, Value.bool (false))] rfl (fun T => ?_)
          obtain rfl := Option.some.inj hM
          refine A_ret (fun hn => ends_eq (v0 := Value.bool (false)) rfl (res1 rfl))
        · replace hM := ifp hg18 hM
          refine r_y rfl ?_
          refine r_v (Value.int .i64 (r8.2.2)) rfl rfl rfl rfl ?_
          refine r_y rfl ?_
          refine r_v (Value.bool (((r8.2.2 : Int) == 9))) rfl rfl rfl rfl ?_
          refine r_v (Value.bool (((r8.2.2 : Int) == 9))) rfl rfl rfl rfl ?_
          refine r_v (Value.bool (((r8.2.2 : Int) == 9))) rfl rfl rfl rfl ?_
          rcases hg19 : (((r8.2.2 : Int) == 9)) with _ | _
          · replace hM := ifn (ne_of_beq_false hg19) hM
            refine r_n false rfl (by decide) rfl ?_
            refine r_n false rfl (by decide) rfl ?_
            refine r_n false rfl (by decide) rfl ?_
            refine r_v (Value.bool (false)) rfl rfl rfl rfl ?_
            refine r_v (Value.bool (false)) rfl rfl rfl rfl ?_
            refine r_n false rfl (by decide) rfl ?_
            refine r_n false rfl (by decide) rfl ?_
            refine r_v (Value.bool (false)) rfl rfl rfl rfl ?_
            refine r_v (Value.bool (false)) rfl rfl rfl rfl ?_
            refine r_n false rfl (by decide) rfl ?_
            refine r_v (Value.bool (false)) rfl rfl rfl rfl ?_
            refine r_v (Value.bool (false)) rfl rfl rfl rfl ?_
            refine lx_nil ?_
            refine hK17 _ _ ?_; try clear hK17 K17
            refine A_gen [(6, Value.bool (false))] rfl (fun T => ?_)
            obtain rfl := Option.some.inj hM
            refine A_ret (fun hn => ends_eq (v0 := Value.bool (false)) rfl (res1 rfl))
          · replace hM := ifp (eq_of_beq hg19) hM
            refine r_y rfl ?_
            refine r_l (Value.agg #[Value.int .i64 (r12.1), U (hi (r12.2.1)), U (lo (r12.2.1))]) 0 _ _ _ _ rfl rfl rfl rfl rfl ?_
            refine r_y rfl ?_
            refine r_v (Value.agg #[Value.int .i64 (0), U (0#64), U (0#64)]) rfl rfl rfl (ev_buildS rfl rfl rfl rfl) ?_
            refine r_y rfl ?_
            refine r_v (Value.bool (((r12.1) == (0)) && ((r12.2.1) == ((0#64) ++ (0#64))))) rfl rfl rfl (ev_binEq rfl rfl eg_24 (by have h_ := fun c => eqst_24 (c := c) (r12.1) (0) (r12.2.1) ((0#64) ++ (0#64)); simp only [app_hl] at h_; exact h_ _)) ?_
            refine r_v (Value.bool (((r12.1) == (0)) && ((r12.2.1) == ((0#64) ++ (0#64))))) rfl rfl rfl rfl ?_
            refine r_v (Value.bool (((r12.1) == (0)) && ((r12.2.1) == ((0#64) ++ (0#64))))) rfl rfl rfl rfl ?_
            rcases hg20 : (((r12.1) == (0)) && ((r12.2.1) == ((0#64) ++ (0#64)))) with _ | _
            · replace hM := ifn (Bool.eq_false_iff.1 hg20) hM
              refine r_n false rfl (by decide) rfl ?_
              refine r_n false rfl (by decide) rfl ?_
              refine r_v (Value.bool (false)) rfl rfl rfl rfl ?_
              refine r_v (Value.bool (false)) rfl rfl rfl rfl ?_
              refine r_n false rfl (by decide) rfl ?_
              refine r_v (Value.bool (false)) rfl rfl rfl rfl ?_
              refine r_v (Value.bool (false)) rfl rfl rfl rfl ?_
              refine lx_nil ?_
              refine hK17 _ _ ?_; try clear hK17 K17
              refine A_gen [(6, Value.bool (false))] rfl (fun T => ?_)
              obtain rfl := Option.some.inj hM
              refine A_ret (fun hn => ends_eq (v0 := Value.bool (false)) rfl (res1 rfl))
            · replace hM := ifp hg20 hM
              refine r_y rfl ?_
              refine r_v (Value.int .i64 (r12.2.2)) rfl rfl rfl rfl ?_
              refine r_y rfl ?_
              refine r_v (Value.bool (((r12.2.2 : Int) == 9))) rfl rfl rfl rfl ?_
              refine r_v (Value.bool (((r12.2.2 : Int) == 9))) rfl rfl rfl rfl ?_
              refine r_v (Value.bool (((r12.2.2 : Int) == 9))) rfl rfl rfl rfl ?_
              rcases hg21 : (((r12.2.2 : Int) == 9)) with _ | _
              · replace hM := ifn (ne_of_beq_false hg21) hM
                refine r_n false rfl (by decide) rfl ?_
                refine r_v (Value.bool (false)) rfl rfl rfl rfl ?_
                refine r_v (Value.bool (false)) rfl rfl rfl rfl ?_
                refine lx_nil ?_
                refine hK17 _ _ ?_; try clear hK17 K17
                refine A_gen [(6, Value.bool (false))] rfl (fun T => ?_)
                obtain rfl := Option.some.inj hM
                refine A_ret (fun hn => ends_eq (v0 := Value.bool (false)) rfl (res1 rfl))
              · replace hM := ifp (eq_of_beq hg21) hM
                refine r_y rfl ?_
                replace hM := bind_sm hM; obtain ⟨r22, hr23, hM⟩ := hM
                refine r_c (Value.bool (r22)) rfl _ _ (ev_callF rfl call_16 rfl) (shunterlaw02_lives_g N  _ hr23) ?_
                refine r_v (Value.bool (r22)) rfl rfl rfl rfl ?_
                refine r_v (Value.bool (r22)) rfl rfl rfl rfl ?_
                refine lx_nil ?_
                refine hK17 _ _ ?_; try clear hK17 K17
                refine A_gen [(6, Value.bool (r22))] rfl (fun T => ?_)
                obtain rfl := Option.some.inj hM
                refine A_ret (fun hn => ends_eq (v0 := Value.bool (r22)) rfl (res1 rfl))
      · replace hM := ifn (Bool.eq_false_iff.1 hc16) hM
        refine A_skip ?_
        refine hK15 _ _ ?_; try clear hK15 K15
        refine A_seq fun K24 hK24 => ?_
        refine A_regC [(some 85, false)] (conG Tryd.prog [(85, fun v_ L_ U_ => ∀ u0_, shunterref02_Bits_m N 128 ((hi') ++ (lo')) = some u0_ → (p1 (fun s_ => s_) 4 encB (u0_)) v_ L_ U_)]) ?_
        refine r_v (U (hi')) rfl rfl rfl rfl ?_
        refine r_v (U (lo')) rfl rfl rfl rfl ?_
        refine r_v (Value.agg #[Value.int .i64 (128), U (hi'), U (lo')]) rfl rfl rfl (ev_buildS rfl rfl rfl rfl) ?_
        replace hM := bind_sm hM; obtain ⟨r25, hr26, hM⟩ := hM
        refine r_g1 (Ls := [[(b14, 24, #[Value.int .i64 (r12.1), U (hi (r12.2.1)), U (lo (r12.2.1))])], [(b10, 24, #[Value.int .i64 (r8.1), U (hi (r8.2.1)), U (lo (r8.2.1))])], [(b3, 24, #[Value.int .i64 (w), U (hi'), U (lo')])]]) (fun s27 => s27) 4 encB (r25) 17 _ rfl rfl rfl (ev_callF rfl call_17 rfl) (fun own_ nw_ hs_ => (by have h_ := shunterref02_Bits_g N 128 ((hi') ++ (lo')) _ hr26 hs_.view ; simp only [app_hl] at h_; exact h_)) (fun _ _ v_ L_ U_ => ⟨fun h_ => h_ _ hr26, fun h_ => by intro _ e_; cases Option.some.inj (e_.symm.trans hr26); exact h_⟩) (fun s27 S28 H29 => ?_)
        refine r_v (s27) rfl rfl rfl rfl ?_
        refine lx_nil ?_
        refine hK24 _ _ ?_; try clear hK24 K24
        refine A_cut (fun tt ll => (shunterlaw02_VecMakes_k4 N w hi' lo' r5 r8 r12  = some r) ∧ Is [(7, Value.pointer (some ⟨b3, 0, none⟩)), (8, Value.bool (r5)), (9, Value.pointer (some ⟨b10, 0, none⟩)), (10, Value.int .i64 (r8.2.2)), (11, Value.pointer (some ⟨b14, 0, none⟩))] [(b14, 24, #[Value.int .i64 (r12.1), U (hi (r12.2.1)), U (lo (r12.2.1))]), (b10, 24, #[Value.int .i64 (r8.1), U (hi (r8.2.1)), U (lo (r8.2.1))]), (b3, 24, #[Value.int .i64 (w), U (hi'), U (lo')])] tt ll) ?_ ?_
        · refine A_seq fun K44 hK44 => ?_
          refine A_drawR [(some 93, false)] (conG Tryd.prog [(93, fun v_ L_ U_ => ∀ u0_, shunterref02_Of_m N (((r25).take ((w).toNat)).drop (0)) = some u0_ → (pV (Value.agg #[Value.int .i64 (u0_.1), U (hi (u0_.2)), U (lo (u0_.2))])) v_ L_ U_)]) [] (by decide +kernel) (fun hn => sep_nil) ?_
          refine r_v (Value.int .i64 (r12.2.2)) rfl rfl rfl rfl ?_
          refine r_v (Value.bool (((r12.2.2 : Int) != 0))) rfl rfl rfl rfl ?_
          refine r_v (Value.bool (((r12.2.2 : Int) != 0))) rfl rfl rfl rfl ?_
          rcases hg45 : (((r12.2.2 : Int) != 0)) with _ | _
          · replace hM := ifn (bne_f hg45) hM
            refine r_y rfl ?_
            refine r_l (Value.agg #[Value.int .i64 (r12.1), U (hi (r12.2.1)), U (lo (r12.2.1))]) 0 _ _ _ _ rfl rfl rfl rfl rfl ?_
            refine r_y rfl ?_
            refine r_v (s27) rfl rfl rfl rfl ?_
            refine r_y rfl ?_
            refine r_v (Value.int .i64 (w)) rfl rfl rfl rfl ?_
            refine r_y rfl ?_
            replace hM := ck_some hM; obtain ⟨ck46, hM⟩ := hM
            refine r_v (subA s27 (0) ((w).toNat) 1) rfl rfl rfl (ev_v (ev_subSl2 rfl rfl rfl rfl (Sl.shp H29) ck46)) ?_
            refine r_y rfl ?_
            replace hM := bind_sm hM; obtain ⟨r47, hr48, hM⟩ := hM
            refine r_gv (Value.agg #[Value.int .i64 (r47.1), U (hi (r47.2)), U (lo (r47.2))]) 18 _ rfl rfl rfl (ev_callF rfl call_18 rfl) (fun own_ nw_ hs_ => shunterref02_Of_g N (((r25).take ((w).toNat)).drop (0)) _ hr48 hs_.view (subA s27 (0) ((w).toNat) 1) ((rd_sub (rd_own H29 (mem_chunk (Ls := [[(b14, 24, #[Value.int .i64 (r12.1), U (hi (r12.2.1)), U (lo (r12.2.1))])], [(b10, 24, #[Value.int .i64 (r8.1), U (hi (r8.2.1)), U (lo (r8.2.1))])], [(b3, 24, #[Value.int .i64 (w), U (hi'), U (lo')])], S28]) (k := 3) rfl rfl)) (Nat.zero_le _) (toNat_len ck46.2)) own_ nw_ hs_)) (fun _ _ v_ L_ U_ => ⟨fun h_ => h_ _ hr48, fun h_ => by intro _ e_; cases Option.some.inj (e_.symm.trans hr48); exact h_⟩) ?_
            refine r_y rfl ?_
            refine r_v (Value.bool (!(((r12.1) == (r47.1)) && ((r12.2.1) == (r47.2))))) rfl rfl rfl (ev_binNe rfl rfl eg_24 (eqst_24 (r12.1) (r47.1) (r12.2.1) (r47.2))) ?_
            refine r_v (Value.bool (!(((r12.1) == (r47.1)) && ((r12.2.1) == (r47.2))))) rfl rfl rfl rfl ?_
            refine lx_nil ?_
            refine hK44 _ _ ?_; try clear hK44 K44
            refine A_cond (!(((r12.1) == (r47.1)) && ((r12.2.1) == (r47.2)))) rfl (fun hc49 => ?_) (fun hc49 => ?_)
            · replace hM := ifn (Bool.eq_false_iff.1 (not_t hc49)) hM
              refine A_seq fun K50 hK50 => ?_
              refine A_reg ?_
              refine r_v (Value.bool (false)) rfl rfl rfl rfl ?_
              refine lx_nil ?_
              refine hK50 _ _ ?_; try clear hK50 K50
              obtain rfl := Option.some.inj hM
              refine A_ret (fun hn => ends_eq (v0 := Value.bool (false)) rfl (res1 rfl))
            · replace hM := ifp (not_f hc49) hM
              refine A_skip ?_
              refine fg _ (Sub.pick [[(b14, 24, #[Value.int .i64 (r12.1), U (hi (r12.2.1)), U (lo (r12.2.1))])], [(b10, 24, #[Value.int .i64 (r8.1), U (hi (r8.2.1)), U (lo (r8.2.1))])], [(b3, 24, #[Value.int .i64 (w), U (hi'), U (lo')])], S28] [0, 1, 2] rfl) ?_
              exact ⟨hM, is_mk rfl (by first | rfl | simp only [app_hl])⟩
          · replace hM := ifp (bne_iff_ne.1 hg45) hM
            refine r_n true rfl (by decide) rfl ?_
            refine r_n true rfl (by decide) rfl ?_
            refine r_n true rfl (by decide) rfl ?_
            refine r_n true rfl (by decide) rfl ?_
            refine r_n true rfl (by decide) rfl ?_
            refine r_n true rfl (by decide) rfl ?_
            refine r_v (Value.bool (true)) rfl rfl rfl rfl ?_
            refine lx_nil ?_
            refine hK44 _ _ ?_; try clear hK44 K44
            refine A_cond true rfl (fun _ => ?_) (fun h_ => nomatch h_)
            refine A_seq fun K51 hK51 => ?_
            refine A_reg ?_
            refine r_v (Value.bool (false)) rfl rfl rfl rfl ?_
            refine lx_nil ?_
            refine hK51 _ _ ?_; try clear hK51 K51
            obtain rfl := Option.some.inj hM
            refine A_ret (fun hn => ends_eq (v0 := Value.bool (false)) rfl (res1 rfl))
        · clear hM; rintro t l ⟨hM, ⟨T, rfl⟩, rfl⟩
          unfold shunterlaw02_VecMakes_k4 at hM
          refine A_seq fun K30 hK30 => ?_
          refine A_seq fun K31 hK31 => ?_
          refine A_reg ?_
          refine r_v (Value.bool (r5)) rfl rfl rfl rfl ?_
          refine r_v (Value.bool (!(r5))) rfl rfl rfl rfl ?_
          refine lx_nil ?_
          refine hK31 _ _ ?_; try clear hK31 K31
          refine A_cond (!(r5)) rfl (fun hc32 => ?_) (fun hc32 => ?_)
          · replace hM := ifn (Bool.eq_false_iff.1 (not_t hc32)) hM
            refine A_seq fun K33 hK33 => ?_
            refine A_reg ?_
            refine r_l (Value.agg #[Value.int .i64 (r8.1), U (hi (r8.2.1)), U (lo (r8.2.1))]) 1 _ _ _ _ rfl rfl rfl rfl rfl ?_
            refine r_v (Value.agg #[Value.int .i64 (0), U (0#64), U (0#64)]) rfl rfl rfl (ev_buildS rfl rfl rfl rfl) ?_
            refine r_v (Value.bool (((r8.1) == (0)) && ((r8.2.1) == ((0#64) ++ (0#64))))) rfl rfl rfl (ev_binEq rfl rfl eg_24 (by have h_ := fun c => eqst_24 (c := c) (r8.1) (0) (r8.2.1) ((0#64) ++ (0#64)); simp only [app_hl] at h_; exact h_ _)) ?_
            refine r_v (Value.bool (((r8.1) == (0)) && ((r8.2.1) == ((0#64) ++ (0#64))))) rfl rfl rfl rfl ?_
            rcases hg34 : (((r8.1) == (0)) && ((r8.2.1) == ((0#64) ++ (0#64)))) with _ | _
            · replace hM := ifn (Bool.eq_false_iff.1 hg34) hM
              refine r_n false rfl (by decide) rfl ?_
              refine r_n false rfl (by decide) rfl ?_
              refine r_v (Value.bool (false)) rfl rfl rfl rfl ?_
              refine r_v (Value.bool (false)) rfl rfl rfl rfl ?_
              refine r_n false rfl (by decide) rfl ?_
              refine r_v (Value.bool (false)) rfl rfl rfl rfl ?_
              refine r_v (Value.bool (false)) rfl rfl rfl rfl ?_
              refine lx_nil ?_
              refine hK33 _ _ ?_; try clear hK33 K33
              obtain rfl := Option.some.inj hM
              refine A_ret (fun hn => ends_eq (v0 := Value.bool (false)) rfl (res1 rfl))
            · replace hM := ifp hg34 hM
              refine r_y rfl ?_
              refine r_v (Value.int .i64 (r8.2.2)) rfl rfl rfl rfl ?_
              refine r_y rfl ?_
              refine r_v (Value.bool (((r8.2.2 : Int) == 7))) rfl rfl rfl rfl ?_
              refine r_v (Value.bool (((r8.2.2 : Int) == 7))) rfl rfl rfl rfl ?_
              refine r_v (Value.bool (((r8.2.2 : Int) == 7))) rfl rfl rfl rfl ?_
              rcases hg35 : (((r8.2.2 : Int) == 7)) with _ | _
              · replace hM := ifn (ne_of_beq_false hg35) hM
                refine r_n false rfl (by decide) rfl ?_
                refine r_v (Value.bool (false)) rfl rfl rfl rfl ?_
                refine r_v (Value.bool (false)) rfl rfl rfl rfl ?_
                refine lx_nil ?_
                refine hK33 _ _ ?_; try clear hK33 K33
                obtain rfl := Option.some.inj hM
                refine A_ret (fun hn => ends_eq (v0 := Value.bool (false)) rfl (res1 rfl))
              · replace hM := ifp (eq_of_beq hg35) hM
                refine r_y rfl ?_
                replace hM := bind_sm hM; obtain ⟨r36, hr37, hM⟩ := hM
                refine r_c (Value.bool (r36)) rfl _ _ (ev_callF rfl call_16 rfl) (shunterlaw02_lives_g N  _ hr37) ?_
                refine r_v (Value.bool (r36)) rfl rfl rfl rfl ?_
                refine r_v (Value.bool (r36)) rfl rfl rfl rfl ?_
                refine lx_nil ?_
                refine hK33 _ _ ?_; try clear hK33 K33
                obtain rfl := Option.some.inj hM
                refine A_ret (fun hn => ends_eq (v0 := Value.bool (r36)) rfl (res1 rfl))
          · replace hM := ifp (not_f hc32) hM
            refine A_skip ?_
            refine hK30 _ _ ?_; try clear hK30 K30
            refine A_seq fun K38 hK38 => ?_
            refine A_reg ?_
            refine r_l (Value.agg #[Value.int .i64 (r8.1), U (hi (r8.2.1)), U (lo (r8.2.1))]) 1 _ _ _ _ rfl rfl rfl rfl rfl ?_
            refine r_l (Value.agg #[Value.int .i64 (w), U (hi'), U (lo')]) 2 _ _ _ _ rfl rfl rfl rfl rfl ?_
            refine r_v (Value.bool (((r8.1) == (w)) && ((r8.2.1) == ((hi') ++ (lo'))))) rfl rfl rfl (ev_binEq rfl rfl eg_24 (by have h_ := fun c => eqst_24 (c := c) (r8.1) (w) (r8.2.1) ((hi') ++ (lo')); simp only [app_hl] at h_; exact h_ _)) ?_
            refine r_v (Value.bool (((r8.1) == (w)) && ((r8.2.1) == ((hi') ++ (lo'))))) rfl rfl rfl rfl ?_
            rcases hg39 : (((r8.1) == (w)) && ((r8.2.1) == ((hi') ++ (lo')))) with _ | _
            · replace hM := ifn (Bool.eq_false_iff.1 hg39) hM
              refine r_n false rfl (by decide) rfl ?_
              refine r_n false rfl (by decide) rfl ?_
              refine r_v (Value.bool (false)) rfl rfl rfl rfl ?_
              refine r_v (Value.bool (false)) rfl rfl rfl rfl ?_
              refine r_n false rfl (by decide) rfl ?_
              refine r_n false rfl (by decide) rfl ?_
              refine r_n false rfl (by decide) rfl ?_
              refine r_v (Value.bool (false)) rfl rfl rfl rfl ?_
              refine r_v (Value.bool (false)) rfl rfl rfl rfl ?_
              refine r_n false rfl (by decide) rfl ?_
              refine r_v (Value.bool (false)) rfl rfl rfl rfl ?_
              refine r_v (Value.bool (false)) rfl rfl rfl rfl ?_
              refine lx_nil ?_
              refine hK38 _ _ ?_; try clear hK38 K38
              obtain rfl := Option.some.inj hM
              refine A_ret (fun hn => ends_eq (v0 := Value.bool (false)) rfl (res1 rfl))
            · replace hM := ifp hg39 hM
              refine r_y rfl ?_
              refine r_v (Value.int .i64 (r8.2.2)) rfl rfl rfl rfl ?_
              refine r_y rfl ?_
              refine r_v (Value.bool (((r8.2.2 : Int) == 0))) rfl rfl rfl rfl ?_
              refine r_v (Value.bool (((r8.2.2 : Int) == 0))) rfl rfl rfl rfl ?_
              refine r_v (Value.bool (((r8.2.2 : Int) == 0))) rfl rfl rfl rfl ?_
              rcases hg40 : (((r8.2.2 : Int) == 0)) with _ | _
              · replace hM := ifn (ne_of_beq_false hg40) hM
                refine r_n false rfl (by decide) rfl ?_
                refine r_n false rfl (by decide) rfl ?_
                refine r_n false rfl (by decide) rfl ?_
                refine r_v (Value.bool (false)) rfl rfl rfl rfl ?_
                refine r_v (Value.bool (false)) rfl rfl rfl rfl ?_
                refine r_n false rfl (by decide) rfl ?_
                refine r_v (Value.bool (false)) rfl rfl rfl rfl ?_
                refine r_v (Value.bool (false)) rfl rfl rfl rfl ?_
                refine lx_nil ?_
                refine hK38 _ _ ?_; try clear hK38 K38
                obtain rfl := Option.some.inj hM
                refine A_ret (fun hn => ends_eq (v0 := Value.bool (false)) rfl (res1 rfl))
              · replace hM := ifp (eq_of_beq hg40) hM
                refine r_y rfl ?_
                refine r_l (Value.agg #[Value.int .i64 (r12.1), U (hi (r12.2.1)), U (lo (r12.2.1))]) 0 _ _ _ _ rfl rfl rfl rfl rfl ?_
                refine r_y rfl ?_
                refine r_l (Value.agg #[Value.int .i64 (r8.1), U (hi (r8.2.1)), U (lo (r8.2.1))]) 1 _ _ _ _ rfl rfl rfl rfl rfl ?_
                refine r_y rfl ?_
                refine r_v (Value.bool (((r12.1) == (r8.1)) && ((r12.2.1) == (r8.2.1)))) rfl rfl rfl (ev_binEq rfl rfl eg_24 (eqst_24 (r12.1) (r8.1) (r12.2.1) (r8.2.1))) ?_
                refine r_v (Value.bool (((r12.1) == (r8.1)) && ((r12.2.1) == (r8.2.1)))) rfl rfl rfl rfl ?_
                refine r_v (Value.bool (((r12.1) == (r8.1)) && ((r12.2.1) == (r8.2.1)))) rfl rfl rfl rfl ?_
                rcases hg41 : (((r12.1) == (r8.1)) && ((r12.2.1) == (r8.2.1))) with _ | _
                · replace hM := ifn (Bool.eq_false_iff.1 hg41) hM
                  refine r_n false rfl (by decide) rfl ?_
                  refine r_v (Value.bool (false)) rfl rfl rfl rfl ?_
                  refine r_v (Value.bool (false)) rfl rfl rfl rfl ?_
                  refine lx_nil ?_
                  refine hK38 _ _ ?_; try clear hK38 K38
                  obtain rfl := Option.some.inj hM
                  refine A_ret (fun hn => ends_eq (v0 := Value.bool (false)) rfl (res1 rfl))
                · replace hM := ifp hg41 hM
                  refine r_y rfl ?_
                  replace hM := bind_sm hM; obtain ⟨r42, hr43, hM⟩ := hM
                  refine r_c (Value.bool (r42)) rfl _ _ (ev_callF rfl call_16 rfl) (shunterlaw02_lives_g N  _ hr43) ?_
                  refine r_v (Value.bool (r42)) rfl rfl rfl rfl ?_
                  refine r_v (Value.bool (r42)) rfl rfl rfl rfl ?_
                  refine lx_nil ?_
                  refine hK38 _ _ ?_; try clear hK38 K38
                  obtain rfl := Option.some.inj hM
                  refine A_ret (fun hn => ends_eq (v0 := Value.bool (r42)) rfl (res1 rfl))
end Go.Proofs.YtomcfndpnnjihaaDoor
