/- models of functions and their walks -/
import Derived.Test.YtolfjcihohjknaaBa
namespace Go.Proofs.Ytolfjcihohjknaa
open Go Go.RowKit Go.Eng
def shunterlaw04_SumPatches_l4 (N : Nat) (b : List UInt8) (i : Int) (fresh : UInt16) (r13 : UInt16) : Nat → Bool → Int → Option (Bool)
  | 0, _, _ => none
  | n50 + 1, some2_, k3_ => if (k3_ : Int) < (((((([] : List UInt8) ++ b)).set (((2 * i)).toNat) ((byteI ((((sr16 fresh (((8#64).toNat : Int)).toNat).toNat : Nat) : Int))))).set ((((2 * i) + 1)).toNat) ((byteI (((fresh.toNat : Nat) : Int))))).length : Int) then if (some2_) = true then ck ((-9223372036854775808 ≤ (k3_ + 1) ∧ (k3_ + 1) ≤ 9223372036854775807)) ((shunterlaw04_SumPatches_l4 N b i fresh r13 n50) (true) ((k3_ + 1))) else ck (0 ≤ k3_ ∧ k3_ < (((((([] : List UInt8) ++ b)).set (((2 * i)).toNat) ((byteI ((((sr16 fresh (((8#64).toNat : Int)).toNat).toNat : Nat) : Int))))).set ((((2 * i) + 1)).toNat) ((byteI (((fresh.toNat : Nat) : Int))))).length : Int)) (ck ((-9223372036854775808 ≤ (k3_ + 1) ∧ (k3_ + 1) ≤ 9223372036854775807)) ((shunterlaw04_SumPatches_l4 N b i fresh r13 n50) ((((((((((([] : List UInt8) ++ b)).set (((2 * i)).toNat) ((byteI ((((sr16 fresh (((8#64).toNat : Int)).toNat).toNat : Nat) : Int))))).set ((((2 * i) + 1)).toNat) ((byteI (((fresh.toNat : Nat) : Int)))))[(k3_).toNat]!).toNat : Nat) : Int) : Int) != 0)) ((k3_ + 1)))) else if (some2_) = true then (sum_Of_m N ((((([] : List UInt8) ++ b)).set (((2 * i)).toNat) ((byteI ((((sr16 fresh (((8#64).toNat : Int)).toNat).toNat : Nat) : Int))))).set ((((2 * i) + 1)).toNat) ((byteI (((fresh.toNat : Nat) : Int)))))).bind fun r61 => if (((r13.toNat : Nat) : Int) : Int) = ((r61.toNat : Nat) : Int) then (shunterlaw04_lives_m N ).bind fun r64 => some (r64) else some (false) else (shunterlaw04_lives_m N ).bind fun r66 => some (r66)
def shunterlaw04_SumPatches_k1 (N : Nat) (b : List UInt8) (i : Int) (fresh : UInt16) : Option (Bool) := ck ((-9223372036854775808 ≤ (2 * i) ∧ (2 * i) ≤ 9223372036854775807)) (ck (0 ≤ (2 * i) ∧ (2 * i) < ((b).length : Int)) (ck ((0 : Int) ≤ ((8#64).toNat : Int)) (ck ((-9223372036854775808 ≤ (2 * i) ∧ (2 * i) ≤ 9223372036854775807)) (ck ((-9223372036854775808 ≤ ((2 * i) + 1) ∧ ((2 * i) + 1) ≤ 9223372036854775807)) (ck (0 ≤ ((2 * i) + 1) ∧ ((2 * i) + 1) < ((b).length : Int)) ((sum_Of_m N b).bind fun r10 => (sum_Patch_m N r10 ((sl16 (int16 (((((b)[((2 * i)).toNat]!).toNat : Nat) : Int))) (((8#64).toNat : Int)).toNat) ||| (int16 (((((b)[(((2 * i) + 1)).toNat]!).toNat : Nat) : Int)))) fresh).bind fun r13 => ck ((-9223372036854775808 ≤ (65535 - ((r10.toNat : Nat) : Int)) ∧ (65535 - ((r10.toNat : Nat) : Int)) ≤ 9223372036854775807)) (ck ((-9223372036854775808 ≤ (65535 - ((((sl16 (int16 (((((b)[((2 * i)).toNat]!).toNat : Nat) : Int))) (((8#64).toNat : Int)).toNat) ||| (int16 (((((b)[(((2 * i) + 1)).toNat]!).toNat : Nat) : Int)))).toNat : Nat) : Int)) ∧ (65535 - ((((sl16 (int16 (((((b)[((2 * i)).toNat]!).toNat : Nat) : Int))) (((8#64).toNat : Int)).toNat) ||| (int16 (((((b)[(((2 * i) + 1)).toNat]!).toNat : Nat) : Int)))).toNat : Nat) : Int)) ≤ 9223372036854775807)) ((shunterref04_Total_m N ([(65535 - ((r10.toNat : Nat) : Int)), (65535 - ((((sl16 (int16 (((((b)[((2 * i)).toNat]!).toNat : Nat) : Int))) (((8#64).toNat : Int)).toNat) ||| (int16 (((((b)[(((2 * i) + 1)).toNat]!).toNat : Nat) : Int)))).toNat : Nat) : Int)), ((fresh.toNat : Nat) : Int)])).bind fun r22 => ck ((-9223372036854775808 ≤ (65535 - r22) ∧ (65535 - r22) ≤ 9223372036854775807)) (if (((r13.toNat : Nat) : Int) : Int) ≠ (65535 - r22) then some (false) else ck ((([] : List UInt8)).length + (b).length ≤ 140737488355328) (ck ((-9223372036854775808 ≤ (2 * i) ∧ (2 * i) ≤ 9223372036854775807)) (ck ((0 : Int) ≤ ((8#64).toNat : Int)) (ck (0 ≤ (2 * i) ∧ (2 * i) < (((([] : List UInt8) ++ b)).length : Int)) (ck ((-9223372036854775808 ≤ (2 * i) ∧ (2 * i) ≤ 9223372036854775807)) (ck ((-9223372036854775808 ≤ ((2 * i) + 1) ∧ ((2 * i) + 1) ≤ 9223372036854775807)) (ck (0 ≤ ((2 * i) + 1) ∧ ((2 * i) + 1) < ((((([] : List UInt8) ++ b)).set (((2 * i)).toNat) ((byteI ((((sr16 fresh (((8#64).toNat : Int)).toNat).toNat : Nat) : Int))))).length : Int)) (shunterlaw04_SumPatches_l4 N b i fresh r13 N (false) (0)))))))))))))))))
def shunterlaw04_SumPatches_m (N : Nat) (b : List UInt8) (i : Int) (fresh : UInt16) : Option (Bool) := if (((b).length : Int) : Int) > 2000 then (shunterlaw04_lives_m N ).bind fun r80 => some (r80) else if (i : Int) < 0 then (shunterlaw04_lives_m N ).bind fun r77 => some (r77) else ck (0 ≤ ((b).length : Int) ∧ ((b).length : Int) ≤ 9223372036854775807) (if (i : Int) ≥ (((b).length : Int)) / 2 then (shunterlaw04_lives_m N ).bind fun r74 => some (r74) else shunterlaw04_SumPatches_k1 N b i fresh )
set_option maxRecDepth 100000 in
set_option maxHeartbeats 400000 in
theorem shunterlaw04_SumPatches_g (N : Nat) (b : List UInt8) (i : Int) (fresh : UInt16) (r : Bool) (hM : shunterlaw04_SumPatches_m N b i fresh = some r) (ro : Addr → Option Value) (bv : Value) (hb : Rd encY ro bv b) : Does Try.prog 7 #[bv, Value.int .i64 (i), Value.int .u16 (((fresh.toNat : Nat) : Int))] ro [] (pV (Value.bool (r))) := by
  unfold shunterlaw04_SumPatches_m at hM
  refine does_of_A follows Try.func7 rfl 105 rfl (upd (upd (upd (fun _ => undef) 2 (Value.int .u16 (((fresh.toNat : Nat) : Int)))) 1 (Value.int .i64 (i))) 0 (bv)) (by funext k; match k with | 0 => rfl | 1 => rfl | 2 => rfl | k + 3 => rfl) (fun base0_ => ?_)
  refine A_seq fun K1 hK1 => ?_
  refine A_reg ?_
  refine r_v (Value.bool (false)) rfl rfl rfl rfl ?_
  refine lx_nil ?_
  refine hK1 _ _ ?_; try clear hK1 K1
  refine A_cut (fun tt ll => (shunterlaw04_SumPatches_k1 N b i fresh  = some r) ∧ Is [(0, bv), (1, Value.int .i64 (i)), (2, Value.int .u16 (((fresh.toNat : Nat) : Int)))] [] tt ll) ?_ ?_
  · refine A_seq fun K68 hK68 => ?_
    refine A_reg ?_
    refine r_v (bv) rfl rfl rfl rfl ?_
    refine r_v (Value.int .i64 (((b).length : Int))) rfl rfl rfl (ev_lenSl rfl rfl rfl (Rd.shp hb)) ?_
    refine r_v (Value.bool (decide ((((b).length : Int) : Int) > 2000))) rfl rfl rfl rfl ?_
    refine r_v (Value.bool (decide ((((b).length : Int) : Int) > 2000))) rfl rfl rfl rfl ?_
    rcases hg69 : (decide ((((b).length : Int) : Int) > 2000)) with _ | _
    · replace hM := ifn (of_decide_eq_false hg69) hM
      refine r_y rfl ?_
      refine r_v (Value.int .i64 (i)) rfl rfl rfl rfl ?_
      refine r_y rfl ?_
      refine r_v (Value.bool (decide ((i : Int) < 0))) rfl rfl rfl rfl ?_
      refine r_v (Value.bool (decide ((i : Int) < 0))) rfl rfl rfl rfl ?_
      refine r_v (Value.bool (decide ((i : Int) < 0))) rfl rfl rfl rfl ?_
      rcases hg70 : (decide ((i : Int) < 0)) with _ | _
      · replace hM := ifn (of_decide_eq_false hg70) hM
        refine r_y rfl ?_
        refine r_v (Value.int .i64 (i)) rfl rfl rfl rfl ?_
        refine r_y rfl ?_
        refine r_v (bv) rfl rfl rfl rfl ?_
        refine r_y rfl ?_
        refine r_v (Value.int .i64 (((b).length : Int))) rfl rfl rfl (ev_lenSl rfl rfl rfl (Rd.shp hb)) ?_
        refine r_y rfl ?_
        replace hM := ck_some hM; obtain ⟨ck71, hM⟩ := hM
        refine r_v (Value.int .i64 ((((b).length : Int)) / 2)) rfl rfl (quo_i64 ck71.1 (by decide) ck71.2) rfl ?_
        refine r_y rfl ?_
        refine r_v (Value.bool (decide ((i : Int) ≥ (((b).length : Int)) / 2))) rfl rfl rfl rfl ?_
        refine r_v (Value.bool (decide ((i : Int) ≥ (((b).length : Int)) / 2))) rfl rfl rfl rfl ?_
        refine lx_nil ?_
        refine hK68 _ _ ?_; try clear hK68 K68
        refine A_cond (decide ((i : Int) ≥ (((b).length : Int)) / 2)) rfl (fun hc72 => ?_) (fun hc72 => ?_)
        · replace hM := ifp (of_decide_eq_true hc72) hM
          refine A_seq fun K73 hK73 => ?_
          refine A_reg ?_
          replace hM := bind_sm hM; obtain ⟨r74, hr75, hM⟩ := hM
          refine r_c (Value.bool (r74)) rfl _ _ (ev_callF rfl call_8 rfl) (shunterlaw04_lives_g N  _ hr75) ?_
          refine r_v (Value.bool (r74)) rfl rfl rfl rfl ?_
          refine lx_nil ?_
          refine hK73 _ _ ?_; try clear hK73 K73
          obtain rfl := Option.some.inj hM
          refine A_ret (fun hn => endsV (v0 := Value.bool (r74)) rfl (res1 rfl))
        · replace hM := ifn (of_decide_eq_false hc72) hM
          refine A_skip ?_
          refine fg _ (Sub.of (List.Sublist.slnil)) ?_
          exact ⟨hM, is_mk rfl rfl⟩
      · replace hM := ifp (of_decide_eq_true hg70) hM
        refine r_n true rfl (by decide) rfl ?_
        refine r_n true rfl (by decide) rfl ?_
        refine r_n true rfl (by decide) rfl ?_
        refine r_n true rfl (by decide) rfl ?_
        refine r_n true rfl (by decide) rfl ?_
        refine r_v (Value.bool (true)) rfl rfl rfl rfl ?_
        refine lx_nil ?_
        refine hK68 _ _ ?_; try clear hK68 K68
        refine A_cond true rfl (fun _ => ?_) (fun h_ => nomatch h_)
        refine A_seq fun K76 hK76 => ?_
        refine A_reg ?_
        replace hM := bind_sm hM; obtain ⟨r77, hr78, hM⟩ := hM
        refine r_c (Value.bool (r77)) rfl _ _ (ev_callF rfl call_8 rfl) (shunterlaw04_lives_g N  _ hr78) ?_
        refine r_v (Value.bool (r77)) rfl rfl rfl rfl ?_
        refine lx_nil ?_
        refine hK76 _ _ ?_; try clear hK76 K76
        obtain rfl := Option.some.inj hM
        refine A_ret (fun hn => endsV (v0 := Value.bool (r77)) rfl (res1 rfl))
    · replace hM := ifp (of_decide_eq_true hg69) hM
      refine r_n true rfl (by decide) rfl ?_
      refine r_n true rfl (by decide) rfl ?_
      refine r_v (Value.bool (true)) rfl rfl rfl rfl ?_
      refine r_v (Value.bool (true)) rfl rfl rfl rfl ?_
      refine r_n true rfl (by decide) rfl ?_
      refine r_n true rfl (by decide) rfl ?_
      refine r_n true rfl (by decide) rfl ?_
      refine r_n true rfl (by decide) rfl ?_
      refine r_n true rfl (by decide) rfl ?_
      refine r_v (Value.bool (true)) rfl rfl rfl rfl ?_
      refine lx_nil ?_
      refine hK68 _ _ ?_; try clear hK68 K68
      refine A_cond true rfl (fun _ => ?_) (fun h_ => nomatch h_)
      refine A_seq fun K79 hK79 => ?_
      refine A_reg ?_
      replace hM := bind_sm hM; obtain ⟨r80, hr81, hM⟩ := hM
      refine r_c (Value.bool (r80)) rfl _ _ (ev_callF rfl call_8 rfl) (shunterlaw04_lives_g N  _ hr81) ?_
      refine r_v (Value.bool (r80)) rfl rfl rfl rfl ?_
      refine lx_nil ?_
      refine hK79 _ _ ?_; try clear hK79 K79
      obtain rfl := Option.some.inj hM
      refine A_ret (fun hn => endsV (v0 := Value.bool (r80)) rfl (res1 rfl))
  · clear hM; rintro t l ⟨hM, ⟨T, rfl⟩, rfl⟩
    unfold shunterlaw04_SumPatches_k1 at hM
    refine A_seq fun K2 hK2 => ?_
    refine A_draw [] (by decide +kernel) (fun hn => sep_nil) ?_
    refine r_v (bv) rfl rfl rfl rfl ?_
    refine r_v (Value.int .i64 (i)) rfl rfl rfl rfl ?_
    replace hM := ck_some hM; obtain ⟨ck3, hM⟩ := hM
    refine r_v (Value.int .i64 ((2 * i))) rfl rfl (wi64 rfl ck3.1 ck3.2) rfl ?_
    replace hM := ck_some hM; obtain ⟨ck4, hM⟩ := hM
    refine r_v (elA bv (((2 * i)).toNat * 1)) rfl rfl rfl (ev_v (ev_idxSl rfl rfl rfl (Rd.shp hb) ck4)) ?_
    refine r_le (Value.int .u8 (((((b)[((2 * i)).toNat]!).toNat : Nat) : Int))) (En := encY) ((b)[((2 * i)).toNat]!) (((2 * i)).toNat) 0 rfl rfl (rd_ro hb) (get_of ck4) rfl ?_
    refine r_w (Value.int .u16 ((((int16 (((((b)[((2 * i)).toNat]!).toNat : Nat) : Int))).toNat : Nat) : Int))) rfl rfl (Z16_wrap (((((b)[((2 * i)).toNat]!).toNat : Nat) : Int))) (fun _ => rfl) ?_
    replace hM := ck_some hM; obtain ⟨ck5, hM⟩ := hM
    refine r_v (Value.int .u16 ((((sl16 (int16 (((((b)[((2 * i)).toNat]!).toNat : Nat) : Int))) (((8#64).toNat : Int)).toNat).toNat : Nat) : Int))) rfl rfl rfl (ev_shlZ16 (x := (int16 (((((b)[((2 * i)).toNat]!).toNat : Nat) : Int)))) rfl rfl ck5) ?_
    refine r_v (bv) rfl rfl rfl rfl ?_
    refine r_v (Value.int .i64 (i)) rfl rfl rfl rfl ?_
    replace hM := ck_some hM; obtain ⟨ck6, hM⟩ := hM
    refine r_v (Value.int .i64 ((2 * i))) rfl rfl (wi64 rfl ck6.1 ck6.2) rfl ?_
    replace hM := ck_some hM; obtain ⟨ck7, hM⟩ := hM
    refine r_v (Value.int .i64 (((2 * i) + 1))) rfl rfl (wi64 rfl ck7.1 ck7.2) rfl ?_
    replace hM := ck_some hM; obtain ⟨ck8, hM⟩ := hM
    refine r_v (elA bv ((((2 * i) + 1)).toNat * 1)) rfl rfl rfl (ev_v (ev_idxSl rfl rfl rfl (Rd.shp hb) ck8)) ?_
    refine r_le (Value.int .u8 (((((b)[(((2 * i) + 1)).toNat]!).toNat : Nat) : Int))) (En := encY) ((b)[(((2 * i) + 1)).toNat]!) ((((2 * i) + 1)).toNat) 0 rfl rfl (rd_ro hb) (get_of ck8) rfl ?_
    refine r_w (Value.int .u16 ((((int16 (((((b)[(((2 * i) + 1)).toNat]!).toNat : Nat) : Int))).toNat : Nat) : Int))) rfl rfl (Z16_wrap (((((b)[(((2 * i) + 1)).toNat]!).toNat : Nat) : Int))) (fun _ => rfl) ?_
    refine r_v (Value.int .u16 (((((sl16 (int16 (((((b)[((2 * i)).toNat]!).toNat : Nat) : Int))) (((8#64).toNat : Int)).toNat) ||| (int16 (((((b)[(((2 * i) + 1)).toNat]!).toNat : Nat) : Int)))).toNat : Nat) : Int))) rfl rfl (Z16_or (sl16 (int16 (((((b)[((2 * i)).toNat]!).toNat : Nat) : Int))) (((8#64).toNat : Int)).toNat) (int16 (((((b)[(((2 * i) + 1)).toNat]!).toNat : Nat) : Int)))) rfl ?_
    refine r_v (Value.int .u16 (((((sl16 (int16 (((((b)[((2 * i)).toNat]!).toNat : Nat) : Int))) (((8#64).toNat : Int)).toNat) ||| (int16 (((((b)[(((2 * i) + 1)).toNat]!).toNat : Nat) : Int)))).toNat : Nat) : Int))) rfl rfl rfl rfl ?_
    refine lx_nil ?_
    refine hK2 _ _ ?_; try clear hK2 K2
    refine A_seq fun K9 hK9 => ?_
    refine A_regC [(some 44, false)] (conG Try.prog [(44, fun v_ L_ U_ => ∀ u0_, sum_Of_m N b = some u0_ → (pV (Value.int .u16 (((u0_.toNat : Nat) : Int)))) v_ L_ U_)]) ?_
    refine r_v (bv) rfl rfl rfl rfl ?_
    replace hM := bind_sm hM; obtain ⟨r10, hr11, hM⟩ := hM
    refine r_gv (Value.int .u16 (((r10.toNat : Nat) : Int))) 13 _ rfl rfl rfl (ev_callF rfl call_13 rfl) (fun own_ nw_ hs_ => sum_Of_g N b _ hr11 hs_.view bv ((rd_ro hb) own_ nw_ hs_)) (fun _ _ v_ L_ U_ => ⟨fun h_ => h_ _ hr11, fun h_ => by intro _ e_; cases Option.some.inj (e_.symm.trans hr11); exact h_⟩) ?_
    refine r_v (Value.int .u16 (((r10.toNat : Nat) : Int))) rfl rfl rfl rfl ?_
    refine lx_nil ?_
    refine hK9 _ _ ?_; try clear hK9 K9
    refine A_seq fun K12 hK12 => ?_
    refine A_reg ?_
    refine r_v (Value.int .u16 (((r10.toNat : Nat) : Int))) rfl rfl rfl rfl ?_
    refine r_v (Value.int .u16 (((((sl16 (int16 (((((b)[((2 * i)).toNat]!).toNat : Nat) : Int))) (((8#64).toNat : Int)).toNat) ||| (int16 (((((b)[(((2 * i) + 1)).toNat]!).toNat : Nat) : Int)))).toNat : Nat) : Int))) rfl rfl rfl rfl ?_
    refine r_v (Value.int .u16 (((fresh.toNat : Nat) : Int))) rfl rfl rfl rfl ?_
    replace hM := bind_sm hM; obtain ⟨r13, hr14, hM⟩ := hM
    refine r_c (Value.int .u16 (((r13.toNat : Nat) : Int))) rfl _ _ (ev_callF rfl call_19 rfl) (sum_Patch_g N r10 ((sl16 (int16 (((((b)[((2 * i)).toNat]!).toNat : Nat) : Int))) (((8#64).toNat : Int)).toNat) ||| (int16 (((((b)[(((2 * i) + 1)).toNat]!).toNat : Nat) : Int)))) fresh _ hr14) ?_
    refine r_v (Value.int .u16 (((r13.toNat : Nat) : Int))) rfl rfl rfl rfl ?_
    refine lx_nil ?_
    refine hK12 _ _ ?_; try clear hK12 K12
    refine A_seq fun K15 hK15 => ?_
    refine A_seq fun K16 hK16 => ?_
    refine A_regC [(some 59, false), (some 60, false)] (conG Try.prog [(60, fun v_ L_ U_ => ∀ u0_, shunterref04_Total_m N ([(65535 - ((r10.toNat : Nat) : Int)), (65535 - ((((sl16 (int16 (((((b)[((2 * i)).toNat]!).toNat : Nat) : Int))) (((8#64).toNat : Int)).toNat) ||| (int16 (((((b)[(((2 * i) + 1)).toNat]!).toNat : Nat) : Int)))).toNat : Nat) : Int)), ((fresh.toNat : Nat) : Int)]) = some u0_ → (pV (Value.int .i64 (u0_))) v_ L_ U_)]) ?_
    refine r_v (Value.int .u16 (((r13.toNat : Nat) : Int))) rfl rfl rfl rfl ?_
    refine r_w (Value.int .i64 (((r13.toNat : Nat) : Int))) rfl rfl (u16_i64 r13) (fun _ => rfl) ?_
    refine r_v (Value.int .u16 (((r10.toNat : Nat) : Int))) rfl rfl rfl rfl ?_
    refine r_w (Value.int .i64 (((r10.toNat : Nat) : Int))) rfl rfl (u16_i64 r10) (fun _ => rfl) ?_
    replace hM := ck_some hM; obtain ⟨ck17, hM⟩ := hM
    refine r_v (Value.int .i64 ((65535 - ((r10.toNat : Nat) : Int)))) rfl rfl (wi64 rfl ck17.1 ck17.2) rfl ?_
    refine r_v (Value.int .u16 (((((sl16 (int16 (((((b)[((2 * i)).toNat]!).toNat : Nat) : Int))) (((8#64).toNat : Int)).toNat) ||| (int16 (((((b)[(((2 * i) + 1)).toNat]!).toNat : Nat) : Int)))).toNat : Nat) : Int))) rfl rfl rfl rfl ?_
    refine r_w (Value.int .i64 (((((sl16 (int16 (((((b)[((2 * i)).toNat]!).toNat : Nat) : Int))) (((8#64).toNat : Int)).toNat) ||| (int16 (((((b)[(((2 * i) + 1)).toNat]!).toNat : Nat) : Int)))).toNat : Nat) : Int))) rfl rfl (u16_i64 ((sl16 (int16 (((((b)[((2 * i)).toNat]!).toNat : Nat) : Int))) (((8#64).toNat : Int)).toNat) ||| (int16 (((((b)[(((2 * i) + 1)).toNat]!).toNat : Nat) : Int))))) (fun _ => rfl) ?_
    replace hM := ck_some hM; obtain ⟨ck18, hM⟩ := hM
    refine r_v (Value.int .i64 ((65535 - ((((sl16 (int16 (((((b)[((2 * i)).toNat]!).toNat : Nat) : Int))) (((8#64).toNat : Int)).toNat) ||| (int16 (((((b)[(((2 * i) + 1)).toNat]!).toNat : Nat) : Int)))).toNat : Nat) : Int)))) rfl rfl (wi64 rfl ck18.1 ck18.2) rfl ?_
    refine r_v (Value.int .u16 (((fresh.toNat : Nat) : Int))) rfl rfl rfl rfl ?_
    refine r_w (Value.int .i64 (((fresh.toNat : Nat) : Int))) rfl rfl (u16_i64 fresh) (fun _ => rfl) ?_
    refine r_bs (cs0 := [(60, fun v_ L_ U_ => ∀ u0_, shunterref04_Total_m N ([(65535 - ((r10.toNat : Nat) : Int)), (65535 - ((((sl16 (int16 (((((b)[((2 * i)).toNat]!).toNat : Nat) : Int))) (((8#64).toNat : Int)).toNat) ||| (int16 (((((b)[(((2 * i) + 1)).toNat]!).toNat : Nat) : Int)))).toNat : Nat) : Int)), ((fresh.toNat : Nat) : Int)]) = some u0_ → (pV (Value.int .i64 (u0_))) v_ L_ U_)]) (Ls := []) 3 encI [(65535 - ((r10.toNat : Nat) : Int)), (65535 - ((((sl16 (int16 (((((b)[((2 * i)).toNat]!).toNat : Nat) : Int))) (((8#64).toNat : Int)).toNat) ||| (int16 (((((b)[(((2 * i) + 1)).toNat]!).toNat : Nat) : Int)))).toNat : Nat) : Int)), ((fresh.toNat : Nat) : Int)] [Value.int .i64 ((65535 - ((r10.toNat : Nat) : Int))), Value.int .i64 ((65535 - ((((sl16 (int16 (((((b)[((2 * i)).toNat]!).toNat : Nat) : Int))) (((8#64).toNat : Int)).toNat) ||| (int16 (((((b)[(((2 * i) + 1)).toNat]!).toNat : Nat) : Int)))).toNat : Nat) : Int))), Value.int .i64 (((fresh.toNat : Nat) : Int))] [Value.int .i64 (0), Value.int .i64 (0), Value.int .i64 (0)] rfl rfl rfl rfl rfl rfl rfl (by kernel_rfl) (by kernel_rfl) rfl rfl rfl (fun s19 S20 H21 => ?_)
    replace hM := bind_sm hM; obtain ⟨r22, hr23, hM⟩ := hM
    refine r_gv (Value.int .i64 (r22)) 20 _ rfl rfl rfl (ev_callF rfl call_20 rfl) (fun own_ nw_ hs_ => shunterref04_Total_g N ([(65535 - ((r10.toNat : Nat) : Int)), (65535 - ((((sl16 (int16 (((((b)[((2 * i)).toNat]!).toNat : Nat) : Int))) (((8#64).toNat : Int)).toNat) ||| (int16 (((((b)[(((2 * i) + 1)).toNat]!).toNat : Nat) : Int)))).toNat : Nat) : Int)), ((fresh.toNat : Nat) : Int)]) _ hr23 hs_.view s19 ((rd_own H21 (mem_chunk (Ls := [S20]) (k := 0) rfl rfl)) own_ nw_ hs_)) (fun _ _ v_ L_ U_ => ⟨fun h_ => h_ _ hr23, fun h_ => by intro _ e_; cases Option.some.inj (e_.symm.trans hr23); exact h_⟩) ?_
    replace hM := ck_some hM; obtain ⟨ck24, hM⟩ := hM
    refine r_v (Value.int .i64 ((65535 - r22))) rfl rfl (wi64 rfl ck24.1 ck24.2) rfl ?_
    refine r_v (Value.bool (((((r13.toNat : Nat) : Int) : Int) != (65535 - r22)))) rfl rfl rfl rfl ?_
    refine lx_nil ?_
    refine hK16 _ _ ?_; try clear hK16 K16
    refine A_gen [(0, bv), (1, Value.int .i64 (i)), (2, Value.int .u16 (((fresh.toNat : Nat) : Int))), (9, Value.int .u16 (((r13.toNat : Nat) : Int))), (62, Value.bool (((((r13.toNat : Nat) : Int) : Int) != (65535 - r22))))] rfl (fun T => ?_)
    refine A_cond (((((r13.toNat : Nat) : Int) : Int) != (65535 - r22))) rfl (fun hc25 => ?_) (fun hc25 => ?_)
    · replace hM := ifp (bne_iff_ne.1 hc25) hM
      refine A_seq fun K26 hK26 => ?_
      refine A_reg ?_
      refine r_v (Value.bool (false)) rfl rfl rfl rfl ?_
      refine lx_nil ?_
      refine hK26 _ _ ?_; try clear hK26 K26
      obtain rfl := Option.some.inj hM
      refine A_ret (fun hn => endsV (v0 := Value.bool (false)) rfl (res1 rfl))
    · replace hM := ifn (bne_f hc25) hM
      refine A_skip ?_
      refine hK15 _ _ ?_; try clear hK15 K15
      refine A_seq fun K27 hK27 => ?_
      refine A_regC [(some 63, false), (some 65, true)] (conG Try.prog []) ?_
      refine r_bs (cs0 := []) (Ls := [S20]) 5 encY ([] : List UInt8) [] [] rfl rfl rfl rfl rfl rfl rfl (by kernel_rfl) (by kernel_rfl) rfl rfl rfl (fun s28 S29 H30 => ?_)
      refine r_v (bv) rfl rfl rfl rfl ?_
      replace hM := ck_some hM; obtain ⟨ck31, hM⟩ := hM
      refine r_app (cs0 := []) (Ls := [S20, S29]) 1 (En := encY) rfl rfl rfl rfl rfl H30 rfl (rd_ro hb) rfl rfl rfl rfl rfl (app_b ck31 rfl) (app_m ck31 rfl) rfl (fun s32 S33 H34 => ?_)
      refine r_v (s32) rfl rfl rfl rfl ?_
      refine lx_nil ?_
      refine hK27 _ _ ?_; try clear hK27 K27
      refine A_seq fun K35 hK35 => ?_
      refine A_reg ?_
      refine r_v (s32) rfl rfl rfl rfl ?_
      refine r_v (Value.int .i64 (i)) rfl rfl rfl rfl ?_
      replace hM := ck_some hM; obtain ⟨ck36, hM⟩ := hM
      refine r_v (Value.int .i64 ((2 * i))) rfl rfl (wi64 rfl ck36.1 ck36.2) rfl ?_
      refine r_v (Value.int .u16 (((fresh.toNat : Nat) : Int))) rfl rfl rfl rfl ?_
      replace hM := ck_some hM; obtain ⟨ck37, hM⟩ := hM
      refine r_v (Value.int .u16 ((((sr16 fresh (((8#64).toNat : Int)).toNat).toNat : Nat) : Int))) rfl rfl rfl (ev_shrZ16 (x := fresh) rfl rfl ck37) ?_
      refine r_w (Value.int .u8 ((((byteI ((((sr16 fresh (((8#64).toNat : Int)).toNat).toNat : Nat) : Int))).toNat : Nat) : Int))) rfl rfl (u8_wrap ((((sr16 fresh (((8#64).toNat : Int)).toNat).toNat : Nat) : Int))) (fun _ => rfl) ?_
      replace hM := ck_some hM; obtain ⟨ck38, hM⟩ := hM
      refine r_v (elA s32 (((2 * i)).toNat * 1)) rfl rfl rfl (ev_v (ev_idxSl rfl rfl rfl (Sl.shp H34) ck38)) ?_
      refine r_se (Ls := [S20, S33]) 1 (En := encY) (((([] : List UInt8) ++ b))[((2 * i)).toNat]!) ((byteI ((((sr16 fresh (((8#64).toNat : Int)).toNat).toNat : Nat) : Int)))) (((2 * i)).toNat) 0 rfl rfl rfl H34 (get_of ck38) rfl rfl rfl (one_all rfl) rfl (fun S39 H40 => ?_)
      refine lx_nil ?_
      refine hK35 _ _ ?_; try clear hK35 K35
      refine A_seq fun K41 hK41 => ?_
      refine A_reg ?_
      refine r_v (s32) rfl rfl rfl rfl ?_
      refine r_v (Value.int .i64 (i)) rfl rfl rfl rfl ?_
      replace hM := ck_some hM; obtain ⟨ck42, hM⟩ := hM
      refine r_v (Value.int .i64 ((2 * i))) rfl rfl (wi64 rfl ck42.1 ck42.2) rfl ?_
      replace hM := ck_some hM; obtain ⟨ck43, hM⟩ := hM
      refine r_v (Value.int .i64 (((2 * i) + 1))) rfl rfl (wi64 rfl ck43.1 ck43.2) rfl ?_
      refine r_v (Value.int .u16 (((fresh.toNat : Nat) : Int))) rfl rfl rfl rfl ?_
      refine r_w (Value.int .u8 ((((byteI (((fresh.toNat : Nat) : Int))).toNat : Nat) : Int))) rfl rfl (u8_wrap (((fresh.toNat : Nat) : Int))) (fun _ => rfl) ?_
      replace hM := ck_some hM; obtain ⟨ck44, hM⟩ := hM
      refine r_v (elA s32 ((((2 * i) + 1)).toNat * 1)) rfl rfl rfl (ev_v (ev_idxSl rfl rfl rfl (Sl.shp H40) ck44)) ?_
      refine r_se (Ls := [S20, S39]) 1 (En := encY) ((((([] : List UInt8) ++ b)).set (((2 * i)).toNat) ((byteI ((((sr16 fresh (((8#64).toNat : Int)).toNat).toNat : Nat) : Int)))))[(((2 * i) + 1)).toNat]!) ((byteI (((fresh.toNat : Nat) : Int)))) ((((2 * i) + 1)).toNat) 0 rfl rfl rfl H40 (get_of ck44) rfl rfl rfl (one_all rfl) rfl (fun S45 H46 => ?_)
      refine lx_nil ?_
      refine hK41 _ _ ?_; try clear hK41 K41
      refine A_seq fun K47 hK47 => ?_
      refine A_reg ?_
      refine r_v (Value.bool (false)) rfl rfl rfl rfl ?_
      refine lx_nil ?_
      refine hK47 _ _ ?_; try clear hK47 K47
      refine A_seq fun K48 hK48 => ?_
      refine A_seq fun K49 hK49 => ?_
      refine A_reg ?_
      refine r_v (Value.int .i64 (0)) rfl rfl rfl rfl ?_
      refine lx_nil ?_
      refine hK49 _ _ ?_; try clear hK49 K49
      refine A_block ?_
      refine A_forget _ (Sub.pick [S20, S45] [1] rfl) ?_
      refine A_loop (fun tt ll nn => ∃ (n50 : Nat) (some2_ : Bool) (k3_ : Int), (shunterlaw04_SumPatches_l4 N b i fresh r13 n50 some2_ k3_ = some r) ∧ Is [(9, Value.int .u16 (((r13.toNat : Nat) : Int))), (10, s32), (11, Value.bool (some2_)), (12, Value.int .i64 (k3_))] (List.flatten [S45]) tt ll ∧ nn = n50 + 1) (N + 1) ?_ ?_
      · exact ⟨N, false, 0, hM, is_mk rfl rfl, rfl⟩
      · clear hM; rintro t l _ ⟨n50, some2_, k3_, hM, ⟨⟨T, rfl⟩, rfl⟩, rfl⟩
        rcases n50 with _ | n50
        · exact absurd hM (by simp [shunterlaw04_SumPatches_l4])
        rw [shunterlaw04_SumPatches_l4] at hM
        refine A_seq fun K51 hK51 => ?_
        refine A_seq fun K52 hK52 => ?_
        refine A_reg ?_
        refine r_v (Value.int .i64 (k3_)) rfl rfl rfl rfl ?_
        refine r_v (s32) rfl rfl rfl rfl ?_
        refine r_v (Value.int .i64 ((((((([] : List UInt8) ++ b)).set (((2 * i)).toNat) ((byteI ((((sr16 fresh (((8#64).toNat : Int)).toNat).toNat : Nat) : Int))))).set ((((2 * i) + 1)).toNat) ((byteI (((fresh.toNat : Nat) : Int))))).length : Int))) rfl rfl rfl (ev_lenSl rfl rfl rfl (Sl.shp H46)) ?_
        refine r_v (Value.bool (decide ((k3_ : Int) < (((((([] : List UInt8) ++ b)).set (((2 * i)).toNat) ((byteI ((((sr16 fresh (((8#64).toNat : Int)).toNat).toNat : Nat) : Int))))).set ((((2 * i) + 1)).toNat) ((byteI (((fresh.toNat : Nat) : Int))))).length : Int)))) rfl rfl rfl rfl ?_
        refine lx_nil ?_
        refine hK52 _ _ ?_; try clear hK52 K52
        refine A_cond (decide ((k3_ : Int) < (((((([] : List UInt8) ++ b)).set (((2 * i)).toNat) ((byteI ((((sr16 fresh (((8#64).toNat : Int)).toNat).toNat : Nat) : Int))))).set ((((2 * i) + 1)).toNat) ((byteI (((fresh.toNat : Nat) : Int))))).length : Int))) rfl (fun hc53 => ?_) (fun hc53 => ?_)
        · replace hM := ifp (of_decide_eq_true hc53) hM
          refine A_skip ?_
          refine hK51 _ _ ?_; try clear hK51 K51
          refine A_seq fun K54 hK54 => ?_
          refine A_block ?_
          refine A_reg ?_
          refine r_v (Value.bool (some2_)) rfl rfl rfl rfl ?_
          refine r_v (Value.bool (some2_)) rfl rfl rfl rfl ?_
          rcases hg55 : (some2_) with _ | _
          · replace hM := ifn (Bool.eq_false_iff.1 hg55) hM
            refine r_y rfl ?_
            refine r_v (s32) rfl rfl rfl rfl ?_
            refine r_y rfl ?_
            refine r_v (Value.int .i64 (k3_)) rfl rfl rfl rfl ?_
            refine r_y rfl ?_
            replace hM := ck_some hM; obtain ⟨ck56, hM⟩ := hM
            refine r_v (elA s32 ((k3_).toNat * 1)) rfl rfl rfl (ev_v (ev_idxSl rfl rfl rfl (Sl.shp H46) ck56)) ?_
            refine r_y rfl ?_
            refine r_le (Value.int .u8 ((((((((([] : List UInt8) ++ b)).set (((2 * i)).toNat) ((byteI ((((sr16 fresh (((8#64).toNat : Int)).toNat).toNat : Nat) : Int))))).set ((((2 * i) + 1)).toNat) ((byteI (((fresh.toNat : Nat) : Int)))))[(k3_).toNat]!).toNat : Nat) : Int))) (En := encY) (((((([] : List UInt8) ++ b)).set (((2 * i)).toNat) ((byteI ((((sr16 fresh (((8#64).toNat : Int)).toNat).toNat : Nat) : Int))))).set ((((2 * i) + 1)).toNat) ((byteI (((fresh.toNat : Nat) : Int)))))[(k3_).toNat]!) ((k3_).toNat) 0 rfl rfl (rd_own H46 (mem_chunk (Ls := [S45]) (k := 0) rfl rfl)) (get_of ck56) rfl ?_
            refine r_y rfl ?_
            refine r_v (Value.bool ((((((((((([] : List UInt8) ++ b)).set (((2 * i)).toNat) ((byteI ((((sr16 fresh (((8#64).toNat : Int)).toNat).toNat : Nat) : Int))))).set ((((2 * i) + 1)).toNat) ((byteI (((fresh.toNat : Nat) : Int)))))[(k3_).toNat]!).toNat : Nat) : Int) : Int) != 0))) rfl rfl rfl rfl ?_
            refine r_v (Value.bool ((((((((((([] : List UInt8) ++ b)).set (((2 * i)).toNat) ((byteI ((((sr16 fresh (((8#64).toNat : Int)).toNat).toNat : Nat) : Int))))).set ((((2 * i) + 1)).toNat) ((byteI (((fresh.toNat : Nat) : Int)))))[(k3_).toNat]!).toNat : Nat) : Int) : Int) != 0))) rfl rfl rfl rfl ?_
            refine r_v (Value.bool ((((((((((([] : List UInt8) ++ b)).set (((2 * i)).toNat) ((byteI ((((sr16 fresh (((8#64).toNat : Int)).toNat).toNat : Nat) : Int))))).set ((((2 * i) + 1)).toNat) ((byteI (((fresh.toNat : Nat) : Int)))))[(k3_).toNat]!).toNat : Nat) : Int) : Int) != 0))) rfl rfl rfl rfl ?_
            refine lx_nil ?_
            refine hK54 _ _ ?_; try clear hK54 K54
            refine A_reg ?_
            refine r_v (Value.int .i64 (k3_)) rfl rfl rfl rfl ?_
            replace hM := ck_some hM; obtain ⟨ck57, hM⟩ := hM
            refine r_v (Value.int .i64 ((k3_ + 1))) rfl rfl (wi64 rfl ck57.1 ck57.2) rfl ?_
            refine r_v (Value.int .i64 ((k3_ + 1))) rfl rfl rfl rfl ?_
            refine lx_nil ?_
            refine fg _ (Sub.pick [S45] [0] rfl) ?_
            exact ⟨n50 + 1, by omega, n50, (((((((((([] : List UInt8) ++ b)).set (((2 * i)).toNat) ((byteI ((((sr16 fresh (((8#64).toNat : Int)).toNat).toNat : Nat) : Int))))).set ((((2 * i) + 1)).toNat) ((byteI (((fresh.toNat : Nat) : Int)))))[(k3_).toNat]!).toNat : Nat) : Int) : Int) != 0), (k3_ + 1), hM, is_mk rfl rfl, rfl⟩
          · replace hM := ifp hg55 hM
            refine r_n true rfl (by decide) rfl ?_
            refine r_n true rfl (by decide) rfl ?_
            refine r_n true rfl (by decide) rfl ?_
            refine r_n true rfl (by decide) rfl ?_
            refine r_n true rfl (by decide) rfl ?_
            refine r_v (Value.bool (true)) rfl rfl rfl rfl ?_
            refine r_v (Value.bool (true)) rfl rfl rfl rfl ?_
            refine lx_nil ?_
            refine hK54 _ _ ?_; try clear hK54 K54
            refine A_reg ?_
            refine r_v (Value.int .i64 (k3_)) rfl rfl rfl rfl ?_
            replace hM := ck_some hM; obtain ⟨ck58, hM⟩ := hM
            refine r_v (Value.int .i64 ((k3_ + 1))) rfl rfl (wi64 rfl ck58.1 ck58.2) rfl ?_
            refine r_v (Value.int .i64 ((k3_ + 1))) rfl rfl rfl rfl ?_
            refine lx_nil ?_
            refine fg _ (Sub.pick [S45] [0] rfl) ?_
            exact ⟨n50 + 1, by omega, n50, true, (k3_ + 1), hM, is_mk rfl rfl, rfl⟩
        · replace hM := ifn (of_decide_eq_false hc53) hM
          refine A_exit ?_
          refine hK48 _ _ ?_; try clear hK48 K48
          refine A_seq fun K59 hK59 => ?_
          refine A_regC [(some 99, false)] (conG Try.prog [(99, fun v_ L_ U_ => ∀ u0_, sum_Of_m N ((((([] : List UInt8) ++ b)).set (((2 * i)).toNat) ((byteI ((((sr16 fresh (((8#64).toNat : Int)).toNat).toNat : Nat) : Int))))).set ((((2 * i) + 1)).toNat) ((byteI (((fresh.toNat : Nat) : Int))))) = some u0_ → (pV (Value.int .u16 (((u0_.toNat : Nat) : Int)))) v_ L_ U_)]) ?_
          refine r_v (Value.bool (some2_)) rfl rfl rfl rfl ?_
          refine r_v (Value.bool (!(some2_))) rfl rfl rfl rfl ?_
          refine r_v (Value.bool (!(some2_))) rfl rfl rfl rfl ?_
          rcases hg60 : (!(some2_)) with _ | _
          · replace hM := ifp (not_f hg60) hM
            refine r_y rfl ?_
            refine r_v (Value.int .u16 (((r13.toNat : Nat) : Int))) rfl rfl rfl rfl ?_
            refine r_y rfl ?_
            refine r_v (s32) rfl rfl rfl rfl ?_
            refine r_y rfl ?_
            replace hM := bind_sm hM; obtain ⟨r61, hr62, hM⟩ := hM
            refine r_gv (Value.int .u16 (((r61.toNat : Nat) : Int))) 13 _ rfl rfl rfl (ev_callF rfl call_13 rfl) (fun own_ nw_ hs_ => sum_Of_g N ((((([] : List UInt8) ++ b)).set (((2 * i)).toNat) ((byteI ((((sr16 fresh (((8#64).toNat : Int)).toNat).toNat : Nat) : Int))))).set ((((2 * i) + 1)).toNat) ((byteI (((fresh.toNat : Nat) : Int))))) _ hr62 hs_.view s32 ((rd_own H46 (mem_chunk (Ls := [S45]) (k := 0) rfl rfl)) own_ nw_ hs_)) (fun _ _ v_ L_ U_ => ⟨fun h_ => h_ _ hr62, fun h_ => by intro _ e_; cases Option.some.inj (e_.symm.trans hr62); exact h_⟩) ?_
            refine r_y rfl ?_
            refine r_v (Value.bool (((((r13.toNat : Nat) : Int) : Int) == ((r61.toNat : Nat) : Int)))) rfl rfl rfl rfl ?_
            refine r_v (Value.bool (((((r13.toNat : Nat) : Int) : Int) == ((r61.toNat : Nat) : Int)))) rfl rfl rfl rfl ?_
            refine r_v (Value.bool (((((r13.toNat : Nat) : Int) : Int) == ((r61.toNat : Nat) : Int)))) rfl rfl rfl rfl ?_
            rcases hg63 : (((((r13.toNat : Nat) : Int) : Int) == ((r61.toNat : Nat) : Int))) with _ | _
            · replace hM := ifn (ne_of_beq_false hg63) hM
              refine r_n false rfl (by decide) rfl ?_
              refine r_v (Value.bool (false)) rfl rfl rfl rfl ?_
              refine r_v (Value.bool (false)) rfl rfl rfl rfl ?_
              refine lx_nil ?_
              refine hK59 _ _ ?_; try clear hK59 K59
              obtain rfl := Option.some.inj hM
              refine A_ret (fun hn => endsV (v0 := Value.bool (false)) rfl (res1 rfl))
            · replace hM := ifp (eq_of_beq hg63) hM
              refine r_y rfl ?_
              replace hM := bind_sm hM; obtain ⟨r64, hr65, hM⟩ := hM
              refine r_c (Value.bool (r64)) rfl _ _ (ev_callF rfl call_8 rfl) (shunterlaw04_lives_g N  _ hr65) ?_
              refine r_v (Value.bool (r64)) rfl rfl rfl rfl ?_
              refine r_v (Value.bool (r64)) rfl rfl rfl rfl ?_
              refine lx_nil ?_
              refine hK59 _ _ ?_; try clear hK59 K59
              obtain rfl := Option.some.inj hM
              refine A_ret (fun hn => endsV (v0 := Value.bool (r64)) rfl (res1 rfl))
          · replace hM := ifn (Bool.eq_false_iff.1 (not_t hg60)) hM
            refine r_n true rfl (by decide) rfl ?_
            refine r_n true rfl (by decide) rfl ?_
            refine r_n true rfl (by decide) rfl ?_
            refine r_n true rfl (by decide) rfl ?_
            refine r_v (Value.bool (true)) rfl rfl rfl rfl ?_
            refine r_v (Value.bool (true)) rfl rfl rfl rfl ?_
            refine r_y rfl ?_
            replace hM := bind_sm hM; obtain ⟨r66, hr67, hM⟩ := hM
            refine r_c (Value.bool (r66)) rfl _ _ (ev_callF rfl call_8 rfl) (shunterlaw04_lives_g N  _ hr67) ?_
            refine r_v (Value.bool (r66)) rfl rfl rfl rfl ?_
            refine r_v (Value.bool (r66)) rfl rfl rfl rfl ?_
            refine lx_nil ?_
            refine hK59 _ _ ?_; try clear hK59 K59
            obtain rfl := Option.some.inj hM
            refine A_ret (fun hn => endsV (v0 := Value.bool (r66)) rfl (res1 rfl))
end Go.Proofs.Ytolfjcihohjknaa
