/- models of functions and their walks -/
import Derived.Test.YtmiabhodfcidcaaBb
namespace Go.Proofs.Ytmiabhodfcidcaa
open Go Go.RowKit Go.Eng
def shunterlaw03_BitsTakes_k10 (N : Nat) (r12 : List Bool) (i3_ : Int) (rec_shunterlaw03_BitsTakes_l6 : Int → Int → List UInt8 → Int → Option (Bool)) (at7_ : Int) (s9_ : List UInt8) (m8__1 : Int) : Option (Bool) := (bits_Taker_At_v1_m N s9_ m8__1).bind fun r35 => if (r35 : Int) ≠ at7_ then some (false) else (bits_Taker_Left_v1_m N s9_ m8__1).bind fun r38 => ck ((-9223372036854775808 ≤ (((r12).length : Int) - at7_) ∧ (((r12).length : Int) - at7_) ≤ 9223372036854775807)) (if (r38 : Int) ≠ (((r12).length : Int) - at7_) then some (false) else ck ((-9223372036854775808 ≤ (i3_ + 1) ∧ (i3_ + 1) ≤ 9223372036854775807)) (rec_shunterlaw03_BitsTakes_l6 (at7_) ((i3_ + 1)) (s9_) (m8__1)))
def shunterlaw03_BitsTakes_k14 (at2_ : Int) (i3_ : Int) (rec_shunterlaw03_BitsTakes_l6 : Int → Int → List UInt8 → Int → Option (Bool)) (r50 : (List UInt8) × Int × (List UInt8) × Int) (want13_ : Int) : Option (Bool) := if (((r50.1).length : Int) : Int) ≠ 0 then some (false) else if (r50.2.1 : Int) ≠ want13_ then some (false) else ck ((-9223372036854775808 ≤ (i3_ + 1) ∧ (i3_ + 1) ≤ 9223372036854775807)) (rec_shunterlaw03_BitsTakes_l6 (at2_) ((i3_ + 1)) (r50.2.2.1) (r50.2.2.2))
def shunterlaw03_BitsTakes_k15 (N : Nat) (ops : List (Int × Int × Int × (BitVec 128) × (List UInt8))) (r12 : List Bool) (at2_ : Int) (i3_ : Int) (rec_shunterlaw03_BitsTakes_l6 : Int → Int → List UInt8 → Int → Option (Bool)) (r50 : (List UInt8) × Int × (List UInt8) × Int) : Option (Bool) := ck ((-9223372036854775808 ≤ (8 * (((ops)[(i3_).toNat]!.2.2.2.2).length : Int)) ∧ (8 * (((ops)[(i3_).toNat]!.2.2.2.2).length : Int)) ≤ 9223372036854775807)) (ck ((-9223372036854775808 ≤ (at2_ + (8 * (((ops)[(i3_).toNat]!.2.2.2.2).length : Int))) ∧ (at2_ + (8 * (((ops)[(i3_).toNat]!.2.2.2.2).length : Int))) ≤ 9223372036854775807)) (shunterlaw03_BitsTakes_k10 N r12 i3_ rec_shunterlaw03_BitsTakes_l6 ((at2_ + (8 * (((ops)[(i3_).toNat]!.2.2.2.2).length : Int)))) (r50.2.2.1) (r50.2.2.2)))
def shunterlaw03_BitsTakes_k12 (N : Nat) (b : List UInt8) (ops : List (Int × Int × Int × (BitVec 128) × (List UInt8))) (r12 : List Bool) (at2_ : Int) (i3_ : Int) (rec_shunterlaw03_BitsTakes_l6 : Int → Int → List UInt8 → Int → Option (Bool)) (r50 : (List UInt8) × Int × (List UInt8) × Int) (x11_ : Bool) : Option (Bool) := if (x11_) = true then ck (0 ≤ at2_ ∧ at2_ ≤ 9223372036854775807) (if ((at2_) % 8 : Int) ≠ 0 then shunterlaw03_BitsTakes_k14 at2_ i3_ rec_shunterlaw03_BitsTakes_l6 r50 (13) else shunterlaw03_BitsTakes_k14 at2_ i3_ rec_shunterlaw03_BitsTakes_l6 r50 (3)) else ck (0 ≤ at2_ ∧ at2_ ≤ 9223372036854775807) (ck (0 ≤ at2_ ∧ at2_ ≤ 9223372036854775807) (ck ((-9223372036854775808 ≤ ((at2_) / 8 + (((ops)[(i3_).toNat]!.2.2.2.2).length : Int)) ∧ ((at2_) / 8 + (((ops)[(i3_).toNat]!.2.2.2.2).length : Int)) ≤ 9223372036854775807)) (ck (0 ≤ (at2_) / 8 ∧ (at2_) / 8 ≤ ((at2_) / 8 + (((ops)[(i3_).toNat]!.2.2.2.2).length : Int)) ∧ ((at2_) / 8 + (((ops)[(i3_).toNat]!.2.2.2.2).length : Int)) ≤ ((b).length : Int)) (if (r50.1) ≠ (((b).take ((((at2_) / 8 + (((ops)[(i3_).toNat]!.2.2.2.2).length : Int))).toNat)).drop (((at2_) / 8).toNat)) then some (false) else if (r50.2.1 : Int) ≠ 0 then some (false) else shunterlaw03_BitsTakes_k15 N ops r12 at2_ i3_ rec_shunterlaw03_BitsTakes_l6 r50 ))))
def shunterlaw03_BitsTakes_k18 (N : Nat) (r12 : List Bool) (at2_ : Int) (i3_ : Int) (s5_ : List UInt8) (m4__1 : Int) (rec_shunterlaw03_BitsTakes_l6 : Int → Int → List UInt8 → Int → Option (Bool)) (r88 : Int × (BitVec 128) × Int) (f16_ : Int) (m17__0 : Int) (m17__1 : BitVec 128) : Option (Bool) := if (((r88.1) == (m17__0)) && ((r88.2.1) == (m17__1))) = true then if (r88.2.2 : Int) ≠ f16_ then some (false) else shunterlaw03_BitsTakes_k10 N r12 i3_ rec_shunterlaw03_BitsTakes_l6 (at2_) (s5_) (m4__1) else some (false)
def shunterlaw03_BitsTakes_k22 (N : Nat) (ops : List (Int × Int × Int × (BitVec 128) × (List UInt8))) (r12 : List Bool) (at2_ : Int) (i3_ : Int) (s5_ : List UInt8) (m4__1 : Int) (rec_shunterlaw03_BitsTakes_l6 : Int → Int → List UInt8 → Int → Option (Bool)) (r88 : Int × (BitVec 128) × Int) (x21_ : Bool) : Option (Bool) := if (x21_) = true then ck ((-9223372036854775808 ≤ (at2_ + (ops)[(i3_).toNat]!.2.1) ∧ (at2_ + (ops)[(i3_).toNat]!.2.1) ≤ 9223372036854775807)) (ck ((-9223372036854775808 ≤ (at2_ + (ops)[(i3_).toNat]!.2.1) ∧ (at2_ + (ops)[(i3_).toNat]!.2.1) ≤ 9223372036854775807)) (ck ((-9223372036854775808 ≤ ((at2_ + (ops)[(i3_).toNat]!.2.1) + (ops)[(i3_).toNat]!.2.2.1) ∧ ((at2_ + (ops)[(i3_).toNat]!.2.1) + (ops)[(i3_).toNat]!.2.2.1) ≤ 9223372036854775807)) (ck (0 ≤ (at2_ + (ops)[(i3_).toNat]!.2.1) ∧ (at2_ + (ops)[(i3_).toNat]!.2.1) ≤ ((at2_ + (ops)[(i3_).toNat]!.2.1) + (ops)[(i3_).toNat]!.2.2.1) ∧ ((at2_ + (ops)[(i3_).toNat]!.2.1) + (ops)[(i3_).toNat]!.2.2.1) ≤ ((r12).length : Int)) ((shunterref03_Vec_m N (((r12).take ((((at2_ + (ops)[(i3_).toNat]!.2.1) + (ops)[(i3_).toNat]!.2.2.1)).toNat)).drop (((at2_ + (ops)[(i3_).toNat]!.2.1)).toNat))).bind fun r107 => shunterlaw03_BitsTakes_k18 N r12 at2_ i3_ s5_ m4__1 rec_shunterlaw03_BitsTakes_l6 r88 (0) (r107.1) (r107.2))))) else shunterlaw03_BitsTakes_k18 N r12 at2_ i3_ s5_ m4__1 rec_shunterlaw03_BitsTakes_l6 r88 (3) (0) ((0#64) ++ (0#64))
def shunterlaw03_BitsTakes_k20 (N : Nat) (ops : List (Int × Int × Int × (BitVec 128) × (List UInt8))) (r12 : List Bool) (at2_ : Int) (i3_ : Int) (s5_ : List UInt8) (m4__1 : Int) (rec_shunterlaw03_BitsTakes_l6 : Int → Int → List UInt8 → Int → Option (Bool)) (r88 : Int × (BitVec 128) × Int) (x19_ : Bool) : Option (Bool) := if (x19_) = true then shunterlaw03_BitsTakes_k18 N r12 at2_ i3_ s5_ m4__1 rec_shunterlaw03_BitsTakes_l6 r88 (9) (0) ((0#64) ++ (0#64)) else if ((ops)[(i3_).toNat]!.2.1 : Int) < 0 then shunterlaw03_BitsTakes_k18 N r12 at2_ i3_ s5_ m4__1 rec_shunterlaw03_BitsTakes_l6 r88 (7) (0) ((0#64) ++ (0#64)) else if ((ops)[(i3_).toNat]!.2.1 : Int) ≤ (((r12).length : Int) - at2_) then ck ((-9223372036854775808 ≤ ((((r12).length : Int) - at2_) - (ops)[(i3_).toNat]!.2.1) ∧ ((((r12).length : Int) - at2_) - (ops)[(i3_).toNat]!.2.1) ≤ 9223372036854775807)) (shunterlaw03_BitsTakes_k22 N ops r12 at2_ i3_ s5_ m4__1 rec_shunterlaw03_BitsTakes_l6 r88 (decide (((ops)[(i3_).toNat]!.2.2.1 : Int) ≤ ((((r12).length : Int) - at2_) - (ops)[(i3_).toNat]!.2.1)))) else shunterlaw03_BitsTakes_k22 N ops r12 at2_ i3_ s5_ m4__1 rec_shunterlaw03_BitsTakes_l6 r88 (false)
def shunterlaw03_BitsTakes_k26 (N : Nat) (r12 : List Bool) (i3_ : Int) (rec_shunterlaw03_BitsTakes_l6 : Int → Int → List UInt8 → Int → Option (Bool)) (r113 : Int × (BitVec 128) × Int × (List UInt8) × Int) (at23_ : Int) (f24_ : Int) (m25__0 : Int) (m25__1 : BitVec 128) : Option (Bool) := if (((r113.1) == (m25__0)) && ((r113.2.1) == (m25__1))) = true then if (r113.2.2.1 : Int) ≠ f24_ then some (false) else shunterlaw03_BitsTakes_k10 N r12 i3_ rec_shunterlaw03_BitsTakes_l6 (at23_) (r113.2.2.2.1) (r113.2.2.2.2) else some (false)
def shunterlaw03_BitsTakes_k28 (N : Nat) (ops : List (Int × Int × Int × (BitVec 128) × (List UInt8))) (r12 : List Bool) (at2_ : Int) (i3_ : Int) (rec_shunterlaw03_BitsTakes_l6 : Int → Int → List UInt8 → Int → Option (Bool)) (r113 : Int × (BitVec 128) × Int × (List UInt8) × Int) (x27_ : Bool) : Option (Bool) := if (x27_) = true then shunterlaw03_BitsTakes_k26 N r12 i3_ rec_shunterlaw03_BitsTakes_l6 r113 (at2_) (9) (0) ((0#64) ++ (0#64)) else if ((ops)[(i3_).toNat]!.2.2.1 : Int) ≤ (((r12).length : Int) - at2_) then ck ((-9223372036854775808 ≤ (at2_ + (ops)[(i3_).toNat]!.2.2.1) ∧ (at2_ + (ops)[(i3_).toNat]!.2.2.1) ≤ 9223372036854775807)) (ck (0 ≤ at2_ ∧ at2_ ≤ (at2_ + (ops)[(i3_).toNat]!.2.2.1) ∧ (at2_ + (ops)[(i3_).toNat]!.2.2.1) ≤ ((r12).length : Int)) ((shunterref03_Vec_m N (((r12).take (((at2_ + (ops)[(i3_).toNat]!.2.2.1)).toNat)).drop ((at2_).toNat))).bind fun r132 => ck ((-9223372036854775808 ≤ (at2_ + (ops)[(i3_).toNat]!.2.2.1) ∧ (at2_ + (ops)[(i3_).toNat]!.2.2.1) ≤ 9223372036854775807)) (shunterlaw03_BitsTakes_k26 N r12 i3_ rec_shunterlaw03_BitsTakes_l6 r113 ((at2_ + (ops)[(i3_).toNat]!.2.2.1)) (0) (r132.1) (r132.2)))) else shunterlaw03_BitsTakes_k26 N r12 i3_ rec_shunterlaw03_BitsTakes_l6 r113 (at2_) (3) (0) ((0#64) ++ (0#64))
def shunterlaw03_BitsTakes_l6 (N : Nat) (b : List UInt8) (ops : List (Int × Int × Int × (BitVec 128) × (List UInt8))) (r12 : List Bool) : Nat → Int → Int → List UInt8 → Int → Option (Bool)
  | 0, _, _, _, _ => none
  | n20 + 1, at2_, i3_, s5_, m4__1 => if (i3_ : Int) < ((ops).length : Int) then ck (0 ≤ i3_ ∧ i3_ < ((ops).length : Int)) (ck ((-9223372036854775808 ≤ (((r12).length : Int) - at2_) ∧ (((r12).length : Int) - at2_) ≤ 9223372036854775807)) (if ((ops)[(i3_).toNat]!.1 : Int) = 1 then (bits_Taker_Bytes_v1_m N s5_ m4__1 (((ops)[(i3_).toNat]!.2.2.2.2).length : Int)).bind fun r50 => ck ((r50.2.2.1).length = (s5_).length) (ck (0 ≤ at2_ ∧ at2_ ≤ 9223372036854775807) (if ((at2_) % 8 : Int) ≠ 0 then shunterlaw03_BitsTakes_k12 N b ops r12 at2_ i3_ (shunterlaw03_BitsTakes_l6 N b ops r12 n20) r50 (true) else ck (0 ≤ (((r12).length : Int) - at2_) ∧ (((r12).length : Int) - at2_) ≤ 9223372036854775807) (shunterlaw03_BitsTakes_k12 N b ops r12 at2_ i3_ (shunterlaw03_BitsTakes_l6 N b ops r12 n20) r50 (decide (((((ops)[(i3_).toNat]!.2.2.2.2).length : Int) : Int) > ((((r12).length : Int) - at2_)) / 8))))) else if ((ops)[(i3_).toNat]!.1 : Int) = 2 then (bits_Taker_Look_v1_m N s5_ m4__1 ((ops)[(i3_).toNat]!.2.1) ((ops)[(i3_).toNat]!.2.2.1)).bind fun r88 => if ((ops)[(i3_).toNat]!.2.2.1 : Int) < 1 then shunterlaw03_BitsTakes_k20 N ops r12 at2_ i3_ s5_ m4__1 (shunterlaw03_BitsTakes_l6 N b ops r12 n20) r88 (true) else shunterlaw03_BitsTakes_k20 N ops r12 at2_ i3_ s5_ m4__1 (shunterlaw03_BitsTakes_l6 N b ops r12 n20) r88 (decide (((ops)[(i3_).toNat]!.2.2.1 : Int) > 128)) else (bits_Taker_Vec_v1_m N s5_ m4__1 ((ops)[(i3_).toNat]!.2.2.1)).bind fun r113 => ck ((r113.2.2.2.1).length = (s5_).length) (if ((ops)[(i3_).toNat]!.2.2.1 : Int) < 1 then shunterlaw03_BitsTakes_k28 N ops r12 at2_ i3_ (shunterlaw03_BitsTakes_l6 N b ops r12 n20) r113 (true) else shunterlaw03_BitsTakes_k28 N ops r12 at2_ i3_ (shunterlaw03_BitsTakes_l6 N b ops r12 n20) r113 (decide (((ops)[(i3_).toNat]!.2.2.1 : Int) > 128))))) else (shunterlaw03_lives_m N ).bind fun r138 => some (r138)
def shunterlaw03_BitsTakes_k1 (N : Nat) (b : List UInt8) (ops : List (Int × Int × Int × (BitVec 128) × (List UInt8))) : Option (Bool) := (bits_Take_m N b).bind fun r3 => (shunterref03_Bits_m N b).bind fun r12 => shunterlaw03_BitsTakes_l6 N b ops r12 N (0) (0) (r3.1) (r3.2)
def shunterlaw03_BitsTakes_m (N : Nat) (b : List UInt8) (ops : List (Int × Int × Int × (BitVec 128) × (List UInt8))) : Option (Bool) := if (((b).length : Int) : Int) > 200 then (shunterlaw03_lives_m N ).bind fun r147 => some (r147) else if (((ops).length : Int) : Int) > 30 then (shunterlaw03_lives_m N ).bind fun r144 => some (r144) else shunterlaw03_BitsTakes_k1 N b ops 
set_option maxRecDepth 100000 in
set_option maxHeartbeats 400000 in
theorem shunterlaw03_BitsTakes_g (N : Nat) (b : List UInt8) (ops : List (Int × Int × Int × (BitVec 128) × (List UInt8))) (r : Bool) (hM : shunterlaw03_BitsTakes_m N b ops = some r) (ro : Addr → Option Value) (bv : Value) (hb : Rd encY ro bv b) (opsv : Value) (hops : RdN encr_39 ro opsv ops) : Does Try.prog 6 #[bv, opsv] ro [] (pV (Value.bool (r))) := by
  unfold shunterlaw03_BitsTakes_m at hM
  refine does_of_A follows Try.func6 rfl 210 rfl (upd (upd (fun _ => undef) 1 (opsv)) 0 (bv)) (by funext k; match k with | 0 => rfl | 1 => rfl | k + 2 => rfl) (fun base0_ => ?_)
  refine A_seq fun K1 hK1 => ?_
  refine A_reg ?_
  refine r_v (Value.bool (false)) rfl rfl rfl rfl ?_
  refine lx_nil ?_
  refine hK1 _ _ ?_; try clear hK1 K1
  refine A_cut (fun tt ll => (shunterlaw03_BitsTakes_k1 N b ops  = some r) ∧ Is [(0, bv), (1, opsv)] [] tt ll) ?_ ?_
  · refine A_seq fun K140 hK140 => ?_
    refine A_reg ?_
    refine r_v (bv) rfl rfl rfl rfl ?_
    refine r_v (Value.int .i64 (((b).length : Int))) rfl rfl rfl (ev_lenSl rfl rfl rfl (Rd.shp hb)) ?_
    refine r_v (Value.bool (decide ((((b).length : Int) : Int) > 200))) rfl rfl rfl rfl ?_
    refine r_v (Value.bool (decide ((((b).length : Int) : Int) > 200))) rfl rfl rfl rfl ?_
    rcases hg141 : (decide ((((b).length : Int) : Int) > 200)) with _ | _
    · replace hM := ifn (of_decide_eq_false hg141) hM
      refine r_y rfl ?_
      refine r_v (opsv) rfl rfl rfl rfl ?_
      refine r_y rfl ?_
      refine r_v (Value.int .i64 (((ops).length : Int))) rfl rfl rfl (ev_lenSl rfl rfl rfl (RdN.shp hops)) ?_
      refine r_y rfl ?_
      refine r_v (Value.bool (decide ((((ops).length : Int) : Int) > 30))) rfl rfl rfl rfl ?_
      refine r_v (Value.bool (decide ((((ops).length : Int) : Int) > 30))) rfl rfl rfl rfl ?_
      refine lx_nil ?_
      refine hK140 _ _ ?_; try clear hK140 K140
      refine A_cond (decide ((((ops).length : Int) : Int) > 30)) rfl (fun hc142 => ?_) (fun hc142 => ?_)
      · replace hM := ifp (of_decide_eq_true hc142) hM
        refine A_seq fun K143 hK143 => ?_
        refine A_reg ?_
        replace hM := bind_sm hM; obtain ⟨r144, hr145, hM⟩ := hM
        refine r_c (Value.bool (r144)) rfl _ _ (ev_callF rfl call_9 rfl) (shunterlaw03_lives_g N  _ hr145) ?_
        refine r_v (Value.bool (r144)) rfl rfl rfl rfl ?_
        refine lx_nil ?_
        refine hK143 _ _ ?_; try clear hK143 K143
        obtain rfl := Option.some.inj hM
        refine A_ret (fun hn => endsV (v0 := Value.bool (r144)) rfl (res1 rfl))
      · replace hM := ifn (of_decide_eq_false hc142) hM
        refine A_skip ?_
        refine fg _ (Sub.of (List.Sublist.slnil)) ?_
        exact ⟨hM, is_mk rfl rfl⟩
    · replace hM := ifp (of_decide_eq_true hg141) hM
      refine r_n true rfl (by decide) rfl ?_
      refine r_n true rfl (by decide) rfl ?_
      refine r_n true rfl (by decide) rfl ?_
      refine r_v (Value.bool (true)) rfl rfl rfl rfl ?_
      refine lx_nil ?_
      refine hK140 _ _ ?_; try clear hK140 K140
      refine A_cond true rfl (fun _ => ?_) (fun h_ => nomatch h_)
      refine A_seq fun K146 hK146 => ?_
      refine A_reg ?_
      replace hM := bind_sm hM; obtain ⟨r147, hr148, hM⟩ := hM
      refine r_c (Value.bool (r147)) rfl _ _ (ev_callF rfl call_9 rfl) (shunterlaw03_lives_g N  _ hr148) ?_
      refine r_v (Value.bool (r147)) rfl rfl rfl rfl ?_
      refine lx_nil ?_
      refine hK146 _ _ ?_; try clear hK146 K146
      obtain rfl := Option.some.inj hM
      refine A_ret (fun hn => endsV (v0 := Value.bool (r147)) rfl (res1 rfl))
  · clear hM; rintro t l ⟨hM, ⟨T, rfl⟩, rfl⟩
    unfold shunterlaw03_BitsTakes_k1 at hM
    refine A_seq fun K2 hK2 => ?_
    refine A_regC [(some 34, true)] (conG Try.prog [(34, fun v_ L_ U_ => ∀ u0_, bits_Take_m N b = some u0_ → (pO (List.flatten []) (oS 5 encY u0_.1 fun s_0 => (oB 81 #[s_0, Value.int .i64 (u0_.2)] fun b_0 => (oE (Value.pointer (some ⟨b_0, 0, none⟩)) [])))) v_ L_ U_)]) ?_
    refine r_v (bv) rfl rfl rfl rfl ?_
    replace hM := bind_sm hM; obtain ⟨r3, hr4, hM⟩ := hM
    refine r_gm (Ls := []) (FL := []) (RL := []) [] (oS 5 encY r3.1 fun s_0 => (oB 81 #[s_0, Value.int .i64 (r3.2)] fun b_0 => (oE (Value.pointer (some ⟨b_0, 0, none⟩)) []))) (some 34) 22 _ rfl rfl rfl rfl rfl (ev_callF rfl call_22 rfl) (fun own_ nw_ hn_ hs_ => bits_Take_g N b _ hr4 _ bv (Rd.mono (ro_sans (Ls := []) (is := []) rfl hs_) hb)) (fun _ _ v_ L_ U_ => ⟨fun h_ => h_ _ hr4, fun h_ => by intro _ e_; cases Option.some.inj (e_.symm.trans hr4); exact h_⟩) (NiceO.sub (R := []) (niceS fun s_0 => (niceB fun b_0 => (niceE rfl))) (Sub.pick [] [] rfl)) ?_
    rintro _ _ ⟨s6, S7, _, H8, ⟨b5, _, ⟨rfl, rfl⟩, rfl⟩, rfl⟩
    refine lx_perm (Ls := [S7, [(b5, 81, #[s6, Value.int .i64 (r3.2)])]]) (Ls' := [[(b5, 81, #[s6, Value.int .i64 (r3.2)])], S7]) [1, 0] rfl rfl ?_
    refine r_v (Value.pointer (some ⟨b5, 0, none⟩)) rfl rfl rfl rfl ?_
    refine lx_nil ?_
    refine hK2 _ _ ?_; try clear hK2 K2
    refine A_seq fun K9 hK9 => ?_
    refine A_seq fun K10 hK10 => ?_
    refine A_reg ?_
    refine r_v (Value.pointer (some ⟨b5, 0, none⟩)) rfl rfl rfl rfl ?_
    refine r_v (Value.bool (false)) rfl rfl rfl rfl ?_
    refine lx_nil ?_
    refine hK10 _ _ ?_; try clear hK10 K10
    refine A_cond false rfl (fun h_ => nomatch h_) (fun _ => ?_)
    refine A_skip ?_
    refine hK9 _ _ ?_; try clear hK9 K9
    refine A_seq fun K11 hK11 => ?_
    refine A_regC [(some 38, false)] (conG Try.prog [(38, fun v_ L_ U_ => ∀ u0_, shunterref03_Bits_m N b = some u0_ → (p1 (fun s_ => s_) 4 encB (u0_)) v_ L_ U_)]) ?_
    refine r_v (bv) rfl rfl rfl rfl ?_
    replace hM := bind_sm hM; obtain ⟨r12, hr13, hM⟩ := hM
    refine r_g1 (Ls := [[(b5, 81, #[s6, Value.int .i64 (r3.2)])], S7]) (fun s14 => s14) 4 encB (r12) 15 _ rfl rfl rfl (ev_callF rfl call_15 rfl) (fun own_ nw_ hs_ => shunterref03_Bits_g N b _ hr13 hs_.view bv ((rd_ro hb) own_ nw_ hs_)) (fun _ _ v_ L_ U_ => ⟨fun h_ => h_ _ hr13, fun h_ => by intro _ e_; cases Option.some.inj (e_.symm.trans hr13); exact h_⟩) (fun s14 S15 H16 => ?_)
    refine r_v (s14) rfl rfl rfl rfl ?_
    refine lx_nil ?_
    refine hK11 _ _ ?_; try clear hK11 K11
    refine A_seq fun K17 hK17 => ?_
    refine A_reg ?_
    refine r_v (Value.int .i64 (0)) rfl rfl rfl rfl ?_
    refine lx_nil ?_
    refine hK17 _ _ ?_; try clear hK17 K17
    refine A_seq fun K18 hK18 => ?_
    refine A_seq fun K19 hK19 => ?_
    refine A_reg ?_
    refine r_v (Value.int .i64 (0)) rfl rfl rfl rfl ?_
    refine lx_nil ?_
    refine hK19 _ _ ?_; try clear hK19 K19
    refine A_block ?_
    refine A_forget _ (Sub.pick [[(b5, 81, #[s6, Value.int .i64 (r3.2)])], S7, S15] [0, 2, 1] rfl) ?_
    refine A_loop (fun tt ll nn => ∃ (n20 : Nat) (at2_ : Int) (i3_ : Int) (s5_ : List UInt8) (m4__1 : Int), (shunterlaw03_BitsTakes_l6 N b ops r12 n20 at2_ i3_ s5_ m4__1 = some r) ∧ ∃ (Ss5_ : List Bl), Sl 5 encY s6 s5_ Ss5_ ∧ Is [(0, bv), (1, opsv), (5, Value.pointer (some ⟨b5, 0, none⟩)), (6, s14), (7, Value.int .i64 (at2_)), (8, Value.int .i64 (i3_))] (List.flatten [[(b5, 81, #[s6, Value.int .i64 (m4__1)])], S15, Ss5_]) tt ll ∧ nn = n20 + 1) (N + 1) ?_ ?_
    · exact ⟨N, 0, 0, r3.1, r3.2, hM, S7, H8, is_mk rfl rfl, rfl⟩
    · clear hM; rintro t l _ ⟨n20, at2_, i3_, s5_, m4__1, hM, Ss5_, hs5_, ⟨⟨T, rfl⟩, rfl⟩, rfl⟩
      rcases n20 with _ | n20
      · exact absurd hM (by simp [shunterlaw03_BitsTakes_l6])
      rw [shunterlaw03_BitsTakes_l6] at hM
      refine A_seq fun K21 hK21 => ?_
      refine A_seq fun K22 hK22 => ?_
      refine A_reg ?_
      refine r_v (Value.int .i64 (i3_)) rfl rfl rfl rfl ?_
      refine r_v (opsv) rfl rfl rfl rfl ?_
      refine r_v (Value.int .i64 (((ops).length : Int))) rfl rfl rfl (ev_lenSl rfl rfl rfl (RdN.shp hops)) ?_
      refine r_v (Value.bool (decide ((i3_ : Int) < ((ops).length : Int)))) rfl rfl rfl rfl ?_
      refine lx_nil ?_
      refine hK22 _ _ ?_; try clear hK22 K22
      refine A_cond (decide ((i3_ : Int) < ((ops).length : Int))) rfl (fun hc23 => ?_) (fun hc23 => ?_)
      · replace hM := ifp (of_decide_eq_true hc23) hM
        refine A_skip ?_
        refine hK21 _ _ ?_; try clear hK21 K21
        refine A_seq fun K24 hK24 => ?_
        refine A_block ?_
        refine A_seq fun K25 hK25 => ?_
        refine A_reg ?_
        refine r_v (opsv) rfl rfl rfl rfl ?_
        refine r_v (Value.int .i64 (i3_)) rfl rfl rfl rfl ?_
        replace hM := ck_some hM; obtain ⟨ck26, hM⟩ := hM
        obtain ⟨_, ⟨s27, hs28, rfl⟩, hat29⟩ := RdN.at (E := encr_39) hops (get_of ck26)
        refine r_v (elA opsv ((i3_).toNat * 6)) rfl rfl rfl (ev_v (ev_idxSl rfl rfl rfl (RdN.shp hops) ck26)) ?_
        refine r_at (Value.agg #[Value.int .i64 ((ops)[(i3_).toNat]!.1), Value.int .i64 ((ops)[(i3_).toNat]!.2.1), Value.int .i64 ((ops)[(i3_).toNat]!.2.2.1), U (hi ((ops)[(i3_).toNat]!.2.2.2.1)), U (lo ((ops)[(i3_).toNat]!.2.2.2.1)), s27]) (vs := [Value.int .i64 ((ops)[(i3_).toNat]!.1), Value.int .i64 ((ops)[(i3_).toNat]!.2.1), Value.int .i64 ((ops)[(i3_).toNat]!.2.2.1), U (hi ((ops)[(i3_).toNat]!.2.2.2.1)), U (lo ((ops)[(i3_).toNat]!.2.2.2.1)), s27]) ((i3_).toNat * 6) 0 rfl rfl (fun own_ nw_ hs_ => At.mono hs_.ro_cell hat29) rfl ?_
        refine r_a (39, #[Value.int .i64 (0), Value.int .i64 (0), Value.int .i64 (0), U (0#64), U (0#64), Value.slice none 0 0]) rfl rfl rfl (fun b30 => ?_) (.inr rfl)
        refine r_s (List.flatten [[(b30, 39, #[Value.int .i64 ((ops)[(i3_).toNat]!.1), Value.int .i64 ((ops)[(i3_).toNat]!.2.1), Value.int .i64 ((ops)[(i3_).toNat]!.2.2.1), U (hi ((ops)[(i3_).toNat]!.2.2.2.1)), U (lo ((ops)[(i3_).toNat]!.2.2.2.1)), s27])], [(b5, 81, #[s6, Value.int .i64 (m4__1)])], S15, Ss5_]) 0 _ _ _ (#[Value.int .i64 (0), Value.int .i64 (0), Value.int .i64 (0), U (0#64), U (0#64), Value.slice none 0 0]) (#[Value.int .i64 ((ops)[(i3_).toNat]!.1), Value.int .i64 ((ops)[(i3_).toNat]!.2.1), Value.int .i64 ((ops)[(i3_).toNat]!.2.2.1), U (hi ((ops)[(i3_).toNat]!.2.2.2.1)), U (lo ((ops)[(i3_).toNat]!.2.2.2.1)), s27]) (#[Value.int .i64 ((ops)[(i3_).toNat]!.1), Value.int .i64 ((ops)[(i3_).toNat]!.2.1), Value.int .i64 ((ops)[(i3_).toNat]!.2.2.1), U (hi ((ops)[(i3_).toNat]!.2.2.2.1)), U (lo ((ops)[(i3_).toNat]!.2.2.2.1)), s27]) rfl rfl rfl rfl (.ofS rfl rfl (all_cons' rfl (all_cons' rfl (all_cons' rfl (all_cons' rfl (all_cons' rfl (all_cons' (Shp.one (Rd.shp hs28)) all_nil'))))))) rfl rfl ?_
        refine lx_nil ?_
        refine hK25 _ _ ?_; try clear hK25 K25
        refine A_seq fun K31 hK31 => ?_
        refine A_reg ?_
        refine r_v (Value.pointer (some ⟨b30, 2, none⟩)) rfl rfl rfl rfl ?_
        refine r_v (Value.pointer (some ⟨b30, 2, none⟩)) rfl rfl rfl rfl ?_
        refine r_l (Value.int .i64 ((ops)[(i3_).toNat]!.2.2.1)) 0 _ _ _ _ rfl rfl rfl rfl rfl ?_
        refine r_v (Value.int .i64 ((ops)[(i3_).toNat]!.2.2.1)) rfl rfl rfl rfl ?_
        refine lx_nil ?_
        refine hK31 _ _ ?_; try clear hK31 K31
        refine A_seq fun K32 hK32 => ?_
        refine A_reg ?_
        refine r_v (s14) rfl rfl rfl rfl ?_
        refine r_v (Value.int .i64 (((r12).length : Int))) rfl rfl rfl (ev_lenSl rfl rfl rfl (Sl.shp H16)) ?_
        refine r_v (Value.int .i64 (at2_)) rfl rfl rfl rfl ?_
        replace hM := ck_some hM; obtain ⟨ck33, hM⟩ := hM
        refine r_v (Value.int .i64 ((((r12).length : Int) - at2_))) rfl rfl (wi64 rfl ck33.1 ck33.2) rfl ?_
        refine r_v (Value.int .i64 ((((r12).length : Int) - at2_))) rfl rfl rfl rfl ?_
        refine lx_nil ?_
        refine hK32 _ _ ?_; try clear hK32 K32
        refine A_cut (fun tt ll => ∃ (at7_ : Int) (s9_ : List UInt8) (m8__1 : Int), (shunterlaw03_BitsTakes_k10 N r12 i3_ (shunterlaw03_BitsTakes_l6 N b ops r12 n20) at7_ s9_ m8__1 = some r) ∧ ∃ (Ss9_ : List Bl), Sl 5 encY s6 s9_ Ss9_ ∧ Is [(0, bv), (1, opsv), (5, Value.pointer (some ⟨b5, 0, none⟩)), (6, s14), (7, Value.int .i64 (at7_)), (8, Value.int .i64 (i3_))] (List.flatten [[(b5, 81, #[s6, Value.int .i64 (m8__1)])], S15, Ss9_]) tt ll) ?_ ?_
        · refine A_seq fun K45 hK45 => ?_
          refine A_reg ?_
          refine r_v (Value.pointer (some ⟨b30, 0, none⟩)) rfl rfl rfl rfl ?_
          refine r_l (Value.int .i64 ((ops)[(i3_).toNat]!.1)) 0 _ _ _ _ rfl rfl rfl rfl rfl ?_
          refine lx_nil ?_
          refine hK45 _ _ ?_; try clear hK45 K45
          refine A_block ?_
          refine A_seq fun K46 hK46 => ?_
          refine A_reg ?_
          refine r_v (Value.bool ((((ops)[(i3_).toNat]!.1 : Int) == 1))) rfl rfl rfl rfl ?_
          refine r_v (Value.bool ((((ops)[(i3_).toNat]!.1 : Int) == 1))) rfl rfl rfl rfl ?_
          refine lx_nil ?_
          refine hK46 _ _ ?_; try clear hK46 K46
          refine A_cond ((((ops)[(i3_).toNat]!.1 : Int) == 1)) rfl (fun hc47 => ?_) (fun hc47 => ?_)
          · replace hM := ifp (eq_of_beq hc47) hM
            refine A_seq fun K48 hK48 => ?_
            refine A_reg ?_
            refine r_v (Value.pointer (some ⟨b30, 5, none⟩)) rfl rfl rfl rfl ?_
            refine r_l (s27) 0 _ _ _ _ rfl rfl rfl rfl rfl ?_
            refine r_v (Value.int .i64 ((((ops)[(i3_).toNat]!.2.2.2.2).length : Int))) rfl rfl rfl (ev_lenSl rfl rfl rfl (Rd.shp hs28)) ?_
            refine r_v (Value.int .i64 ((((ops)[(i3_).toNat]!.2.2.2.2).length : Int))) rfl rfl rfl rfl ?_
            refine lx_nil ?_
            refine hK48 _ _ ?_; try clear hK48 K48
            refine A_seq fun K49 hK49 => ?_
            refine A_regC [(some 100, true)] (conG Try.prog [(100, fun v_ L_ U_ => ∀ u0_, bits_Taker_Bytes_v1_m N s5_ m4__1 (((ops)[(i3_).toNat]!.2.2.2.2).length : Int) = some u0_ → (pO (List.flatten [[(b5, 81, #[s6, Value.int .i64 (m4__1)])], Ss5_]) (oS 5 encY u0_.1 fun s_0 => (oI 5 encY s6 u0_.2.2.1 (oE (Value.tuple #[s_0, Value.int .i64 (u0_.2.1)]) [[(b5, 81, #[s6, Value.int .i64 (u0_.2.2.2)])]])))) v_ L_ U_)]) ?_
            refine r_v (Value.pointer (some ⟨b5, 0, none⟩)) rfl rfl rfl rfl ?_
            refine r_v (Value.int .i64 ((((ops)[(i3_).toNat]!.2.2.2.2).length : Int))) rfl rfl rfl rfl ?_
            replace hM := bind_sm hM; obtain ⟨r50, hr51, hM⟩ := hM
            replace hM := ck_some hM; obtain ⟨ck52, hM⟩ := hM
            refine r_gm (Ls := [[(b30, 39, #[Value.int .i64 ((ops)[(i3_).toNat]!.1), Value.int .i64 ((ops)[(i3_).toNat]!.2.1), Value.int .i64 ((ops)[(i3_).toNat]!.2.2.1), U (hi ((ops)[(i3_).toNat]!.2.2.2.1)), U (lo ((ops)[(i3_).toNat]!.2.2.2.1)), s27])], [(b5, 81, #[s6, Value.int .i64 (m4__1)])], S15, Ss5_]) (FL := [[(b5, 81, #[s6, Value.int .i64 (m4__1)])], Ss5_]) (RL := [[(b30, 39, #[Value.int .i64 ((ops)[(i3_).toNat]!.1), Value.int .i64 ((ops)[(i3_).toNat]!.2.1), Value.int .i64 ((ops)[(i3_).toNat]!.2.2.1), U (hi ((ops)[(i3_).toNat]!.2.2.2.1)), U (lo ((ops)[(i3_).toNat]!.2.2.2.1)), s27])], S15]) [1, 3] (oS 5 encY r50.1 fun s_0 => (oI 5 encY s6 r50.2.2.1 (oE (Value.tuple #[s_0, Value.int .i64 (r50.2.1)]) [[(b5, 81, #[s6, Value.int .i64 (r50.2.2.2)])]]))) (some 100) 23 _ rfl rfl rfl rfl rfl (ev_callF rfl call_23 rfl) (fun own_ nw_ hn_ hs_ => bits_Taker_Bytes_v1_g N s5_ m4__1 (((ops)[(i3_).toNat]!.2.2.2.2).length : Int) _ hr51 _ b5 s6 Ss5_ hs5_) (fun _ _ v_ L_ U_ => ⟨fun h_ => h_ _ hr51, fun h_ => by intro _ e_; cases Option.some.inj (e_.symm.trans hr51); exact h_⟩) (NiceO.sub (R := (Ss5_ ++ ([(b5, 81, #[s6, Value.int .i64 (m4__1)])] ++ []))) (niceS fun s_0 => (niceI hs5_ ck52 (niceE rfl))) (Sub.pick [[(b5, 81, #[s6, Value.int .i64 (m4__1)])], Ss5_] [1, 0] rfl)) ?_
            rintro _ _ ⟨s55, S56, _, H57, ⟨S53, _, H54, ⟨rfl, rfl⟩, rfl⟩, rfl⟩
            refine lx_perm (Ls := [[(b30, 39, #[Value.int .i64 ((ops)[(i3_).toNat]!.1), Value.int .i64 ((ops)[(i3_).toNat]!.2.1), Value.int .i64 ((ops)[(i3_).toNat]!.2.2.1), U (hi ((ops)[(i3_).toNat]!.2.2.2.1)), U (lo ((ops)[(i3_).toNat]!.2.2.2.1)), s27])], S15, S56, S53, [(b5, 81, #[s6, Value.int .i64 (r50.2.2.2)])]]) (Ls' := [[(b30, 39, #[Value.int .i64 ((ops)[(i3_).toNat]!.1), Value.int .i64 ((ops)[(i3_).toNat]!.2.1), Value.int .i64 ((ops)[(i3_).toNat]!.2.2.1), U (hi ((ops)[(i3_).toNat]!.2.2.2.1)), U (lo ((ops)[(i3_).toNat]!.2.2.2.1)), s27])], [(b5, 81, #[s6, Value.int .i64 (r50.2.2.2)])], S15, S56, S53]) [0, 4, 1, 2, 3] rfl rfl ?_
            refine r_v (Value.tuple #[s55, Value.int .i64 (r50.2.1)]) rfl rfl rfl rfl ?_
            refine r_v (s55) rfl rfl rfl rfl ?_
            refine r_v (Value.int .i64 (r50.2.1)) rfl rfl rfl rfl ?_
            refine r_v (s55) rfl rfl rfl rfl ?_
            refine r_v (Value.int .i64 (r50.2.1)) rfl rfl rfl rfl ?_
            refine lx_nil ?_
            refine hK49 _ _ ?_; try clear hK49 K49
            refine A_gen [(0, bv), (1, opsv), (5, Value.pointer (some ⟨b5, 0, none⟩)), (6, s14), (7, Value.int .i64 (at2_)), (8, Value.int .i64 (i3_)), (11, Value.int .i64 ((((r12).length : Int) - at2_))), (12, Value.int .i64 ((((ops)[(i3_).toNat]!.2.2.2.2).length : Int))), (13, s55), (14, Value.int .i64 (r50.2.1))] rfl (fun T => ?_)
            refine A_seq fun K58 hK58 => ?_
            refine A_cut (fun tt ll => ∃ (x11_ : Bool), (shunterlaw03_BitsTakes_k12 N b ops r12 at2_ i3_ (shunterlaw03_BitsTakes_l6 N b ops r12 n20) r50 x11_ = some r) ∧ Is [(0, bv), (1, opsv), (5, Value.pointer (some ⟨b5, 0, none⟩)), (6, s14), (7, Value.int .i64 (at2_)), (8, Value.int .i64 (i3_)), (12, Value.int .i64 ((((ops)[(i3_).toNat]!.2.2.2.2).length : Int))), (13, s55), (14, Value.int .i64 (r50.2.1)), (111, Value.bool (x11_))] (List.flatten [[(b5, 81, #[s6, Value.int .i64 (r50.2.2.2)])], S15, S56, S53]) tt ll) ?_ ?_
            · refine A_reg ?_
              refine r_v (Value.int .i64 (at2_)) rfl rfl rfl rfl ?_
              replace hM := ck_some hM; obtain ⟨ck82, hM⟩ := hM
              refine r_v (Value.int .i64 ((at2_) % 8)) rfl rfl (rem_i64 ck82.1) rfl ?_
              refine r_v (Value.bool ((((at2_) % 8 : Int) != 0))) rfl rfl rfl rfl ?_
              refine r_v (Value.bool ((((at2_) % 8 : Int) != 0))) rfl rfl rfl rfl ?_
              rcases hg83 : ((((at2_) % 8 : Int) != 0)) with _ | _
              · replace hM := ifn (bne_f hg83) hM
                refine r_y rfl ?_
                refine r_v (Value.int .i64 ((((ops)[(i3_).toNat]!.2.2.2.2).length : Int))) rfl rfl rfl rfl ?_
                refine r_y rfl ?_
                refine r_v (Value.int .i64 ((((r12).length : Int) - at2_))) rfl rfl rfl rfl ?_
                refine r_y rfl ?_
                replace hM := ck_some hM; obtain ⟨ck84, hM⟩ := hM
                refine r_v (Value.int .i64 (((((r12).length : Int) - at2_)) / 8)) rfl rfl (quo_i64 ck84.1 (by decide) ck84.2) rfl ?_
                refine r_y rfl ?_
                refine r_v (Value.bool (decide (((((ops)[(i3_).toNat]!.2.2.2.2).length : Int) : Int) > ((((r12).length : Int) - at2_)) / 8))) rfl rfl rfl rfl ?_
                refine r_v (Value.bool (decide (((((ops)[(i3_).toNat]!.2.2.2.2).length : Int) : Int) > ((((r12).length : Int) - at2_)) / 8))) rfl rfl rfl rfl ?_
                refine lx_nil ?_
                refine fg _ (Sub.pick [[(b30, 39, #[Value.int .i64 ((ops)[(i3_).toNat]!.1), Value.int .i64 ((ops)[(i3_).toNat]!.2.1), Value.int .i64 ((ops)[(i3_).toNat]!.2.2.1), U (hi ((ops)[(i3_).toNat]!.2.2.2.1)), U (lo ((ops)[(i3_).toNat]!.2.2.2.1)), s27])], [(b5, 81, #[s6, Value.int .i64 (r50.2.2.2)])], S15, S56, S53] [1, 2, 3, 4] rfl) ?_
                exact ⟨decide (((((ops)[(i3_).toNat]!.2.2.2.2).length : Int) : Int) > ((((r12).length : Int) - at2_)) / 8), hM, is_mk rfl rfl⟩
              · replace hM := ifp (bne_iff_ne.1 hg83) hM
                refine r_n true rfl (by decide) rfl ?_
                refine r_n true rfl (by decide) rfl ?_
                refine r_n true rfl (by decide) rfl ?_
                refine r_n true rfl (by decide) rfl ?_
                refine r_v (Value.bool (true)) rfl rfl rfl rfl ?_
                refine lx_nil ?_
                refine fg _ (Sub.pick [[(b30, 39, #[Value.int .i64 ((ops)[(i3_).toNat]!.1), Value.int .i64 ((ops)[(i3_).toNat]!.2.1), Value.int .i64 ((ops)[(i3_).toNat]!.2.2.1), U (hi ((ops)[(i3_).toNat]!.2.2.2.1)), U (lo ((ops)[(i3_).toNat]!.2.2.2.1)), s27])], [(b5, 81, #[s6, Value.int .i64 (r50.2.2.2)])], S15, S56, S53] [1, 2, 3, 4] rfl) ?_
                exact ⟨true, hM, is_mk rfl rfl⟩
            · clear hM; rintro t l ⟨x11_, hM, ⟨T, rfl⟩, rfl⟩
              unfold shunterlaw03_BitsTakes_k12 at hM
              refine A_cond (x11_) rfl (fun hc59 => ?_) (fun hc59 => ?_)
              · replace hM := ifp hc59 hM
                refine A_seq fun K60 hK60 => ?_
                refine A_reg ?_
                refine r_v (Value.int .i64 (3)) rfl rfl rfl rfl ?_
                refine lx_nil ?_
                refine hK60 _ _ ?_; try clear hK60 K60
                refine A_cut (fun tt ll => ∃ (want13_ : Int), (shunterlaw03_BitsTakes_k14 at2_ i3_ (shunterlaw03_BitsTakes_l6 N b ops r12 n20) r50 want13_ = some r) ∧ Is [(0, bv), (1, opsv), (5, Value.pointer (some ⟨b5, 0, none⟩)), (6, s14), (7, Value.int .i64 (at2_)), (8, Value.int .i64 (i3_)), (13, s55), (14, Value.int .i64 (r50.2.1)), (15, Value.int .i64 (want13_))] (List.flatten [[(b5, 81, #[s6, Value.int .i64 (r50.2.2.2)])], S15, S56, S53]) tt ll) ?_ ?_
                · refine A_seq fun K68 hK68 => ?_
                  refine A_reg ?_
                  refine r_v (Value.int .i64 (at2_)) rfl rfl rfl rfl ?_
                  replace hM := ck_some hM; obtain ⟨ck69, hM⟩ := hM
                  refine r_v (Value.int .i64 ((at2_) % 8)) rfl rfl (rem_i64 ck69.1) rfl ?_
                  refine r_v (Value.bool ((((at2_) % 8 : Int) != 0))) rfl rfl rfl rfl ?_
                  refine lx_nil ?_
                  refine hK68 _ _ ?_; try clear hK68 K68
                  refine A_cond ((((at2_) % 8 : Int) != 0)) rfl (fun hc70 => ?_) (fun hc70 => ?_)
                  · replace hM := ifp (bne_iff_ne.1 hc70) hM
                    refine A_reg ?_
                    refine r_v (Value.int .i64 (13)) rfl rfl rfl rfl ?_
                    refine lx_nil ?_
                    refine fg _ (Sub.pick [[(b5, 81, #[s6, Value.int .i64 (r50.2.2.2)])], S15, S56, S53] [0, 1, 2, 3] rfl) ?_
                    exact ⟨13, hM, is_mk rfl rfl⟩
                  · replace hM := ifn (bne_f hc70) hM
                    refine A_skip ?_
                    refine fg _ (Sub.pick [[(b5, 81, #[s6, Value.int .i64 (r50.2.2.2)])], S15, S56, S53] [0, 1, 2, 3] rfl) ?_
                    exact ⟨3, hM, is_mk rfl rfl⟩
                · clear hM; rintro t l ⟨want13_, hM, ⟨T, rfl⟩, rfl⟩
                  unfold shunterlaw03_BitsTakes_k14 at hM
                  refine A_seq fun K61 hK61 => ?_
                  refine A_seq fun K62 hK62 => ?_
                  refine A_reg ?_
                  refine r_v (s55) rfl rfl rfl rfl ?_
                  refine r_v (Value.int .i64 (((r50.1).length : Int))) rfl rfl rfl (ev_lenSl rfl rfl rfl (Sl.shp H57)) ?_
                  refine r_v (Value.bool (((((r50.1).length : Int) : Int) != 0))) rfl rfl rfl rfl ?_
                  refine r_v (Value.bool (((((r50.1).length : Int) : Int) != 0))) rfl rfl rfl rfl ?_
                  rcases hg63 : (((((r50.1).length : Int) : Int) != 0)) with _ | _
                  · replace hM := ifn (bne_f hg63) hM
                    refine r_y rfl ?_
                    refine r_v (Value.int .i64 (r50.2.1)) rfl rfl rfl rfl ?_
                    refine r_y rfl ?_
                    refine r_v (Value.int .i64 (want13_)) rfl rfl rfl rfl ?_
                    refine r_y rfl ?_
                    refine r_v (Value.bool (((r50.2.1 : Int) != want13_))) rfl rfl rfl rfl ?_
                    refine r_v (Value.bool (((r50.2.1 : Int) != want13_))) rfl rfl rfl rfl ?_
                    refine lx_nil ?_
                    refine hK62 _ _ ?_; try clear hK62 K62
                    refine A_cond (((r50.2.1 : Int) != want13_)) rfl (fun hc64 => ?_) (fun hc64 => ?_)
                    · replace hM := ifp (bne_iff_ne.1 hc64) hM
                      refine A_seq fun K65 hK65 => ?_
                      refine A_reg ?_
                      refine r_v (Value.bool (false)) rfl rfl rfl rfl ?_
                      refine lx_nil ?_
                      refine hK65 _ _ ?_; try clear hK65 K65
                      obtain rfl := Option.some.inj hM
                      refine A_ret (fun hn => endsV (v0 := Value.bool (false)) rfl (res1 rfl))
                    · replace hM := ifn (bne_f hc64) hM
                      refine A_skip ?_
                      refine hK61 _ _ ?_; try clear hK61 K61
                      refine A_exit ?_
                      refine hK24 _ _ ?_; try clear hK24 K24
                      refine A_reg ?_
                      refine r_v (Value.int .i64 (i3_)) rfl rfl rfl rfl ?_
                      replace hM := ck_some hM; obtain ⟨ck66, hM⟩ := hM
                      refine r_v (Value.int .i64 ((i3_ + 1))) rfl rfl (wi64 rfl ck66.1 ck66.2) rfl ?_
                      refine r_v (Value.int .i64 ((i3_ + 1))) rfl rfl rfl rfl ?_
                      refine lx_nil ?_
                      refine fg _ (Sub.pick [[(b5, 81, #[s6, Value.int .i64 (r50.2.2.2)])], S15, S56, S53] [0, 1, 3] rfl) ?_
                      exact ⟨n20 + 1, by omega, n20, at2_, (i3_ + 1), r50.2.2.1, r50.2.2.2, hM, S53, H54, is_mk rfl rfl, rfl⟩
                  · replace hM := ifp (bne_iff_ne.1 hg63) hM
                    refine r_n true rfl (by decide) rfl ?_
                    refine r_n true rfl (by decide) rfl ?_
                    refine r_n true rfl (by decide) rfl ?_
                    refine r_v (Value.bool (true)) rfl rfl rfl rfl ?_
                    refine lx_nil ?_
                    refine hK62 _ _ ?_; try clear hK62 K62
                    refine A_cond true rfl (fun _ => ?_) (fun h_ => nomatch h_)
                    refine A_seq fun K67 hK67 => ?_
                    refine A_reg ?_
                    refine r_v (Value.bool (false)) rfl rfl rfl rfl ?_
                    refine lx_nil ?_
                    refine hK67 _ _ ?_; try clear hK67 K67
                    obtain rfl := Option.some.inj hM
                    refine A_ret (fun hn => endsV (v0 := Value.bool (false)) rfl (res1 rfl))
              · replace hM := ifn (Bool.eq_false_iff.1 hc59) hM
                refine A_skip ?_
                refine hK58 _ _ ?_; try clear hK58 K58
                refine A_cut (fun tt ll => (shunterlaw03_BitsTakes_k15 N ops r12 at2_ i3_ (shunterlaw03_BitsTakes_l6 N b ops r12 n20) r50  = some r) ∧ Is [(0, bv), (1, opsv), (5, Value.pointer (some ⟨b5, 0, none⟩)), (6, s14), (7, Value.int .i64 (at2_)), (8, Value.int .i64 (i3_)), (12, Value.int .i64 ((((ops)[(i3_).toNat]!.2.2.2.2).length : Int)))] (List.flatten [[(b5, 81, #[s6, Value.int .i64 (r50.2.2.2)])], S15, S53]) tt ll) ?_ ?_
                · refine A_seq fun K73 hK73 => ?_
                  refine A_draw [] (by decide +kernel) (fun hn => sep_nil) ?_
                  refine r_v (s55) rfl rfl rfl rfl ?_
                  refine r_stl (e := 5) (r50.1) rfl rfl rfl rfl rfl (rd_own H57 (mem_chunk (Ls := [[(b5, 81, #[s6, Value.int .i64 (r50.2.2.2)])], S15, S56, S53]) (k := 2) rfl rfl)) ?_
                  refine r_v (bv) rfl rfl rfl rfl ?_
                  refine r_v (Value.int .i64 (at2_)) rfl rfl rfl rfl ?_
                  replace hM := ck_some hM; obtain ⟨ck74, hM⟩ := hM
                  refine r_v (Value.int .i64 ((at2_) / 8)) rfl rfl (quo_i64 ck74.1 (by decide) ck74.2) rfl ?_
                  refine r_v (Value.int .i64 (at2_)) rfl rfl rfl rfl ?_
                  replace hM := ck_some hM; obtain ⟨ck75, hM⟩ := hM
                  refine r_v (Value.int .i64 ((at2_) / 8)) rfl rfl (quo_i64 ck75.1 (by decide) ck75.2) rfl ?_
                  refine r_v (Value.int .i64 ((((ops)[(i3_).toNat]!.2.2.2.2).length : Int))) rfl rfl rfl rfl ?_
                  replace hM := ck_some hM; obtain ⟨ck76, hM⟩ := hM
                  refine r_v (Value.int .i64 (((at2_) / 8 + (((ops)[(i3_).toNat]!.2.2.2.2).length : Int)))) rfl rfl (wi64 rfl ck76.1 ck76.2) rfl ?_
                  replace hM := ck_some hM; obtain ⟨ck77, hM⟩ := hM
                  refine r_v (subA bv (((at2_) / 8).toNat) ((((at2_) / 8 + (((ops)[(i3_).toNat]!.2.2.2.2).length : Int))).toNat) 1) rfl rfl rfl (ev_v (ev_subSl rfl rfl rfl rfl rfl (Rd.shp hb) ck77)) ?_
                  refine r_stl (e := 5) (((b).take ((((at2_) / 8 + (((ops)[(i3_).toNat]!.2.2.2.2).length : Int))).toNat)).drop (((at2_) / 8).toNat)) rfl rfl rfl rfl rfl (rd_sub (rd_ro hb) (toNat_le ck77) (toNat_len ck77.2.2)) ?_
                  refine r_v (Value.bool ((r50.1) != (((b).take ((((at2_) / 8 + (((ops)[(i3_).toNat]!.2.2.2.2).length : Int))).toNat)).drop (((at2_) / 8).toNat)))) rfl rfl rfl (ev_neS rfl rfl) ?_
                  refine r_v (Value.bool ((r50.1) != (((b).take ((((at2_) / 8 + (((ops)[(i3_).toNat]!.2.2.2.2).length : Int))).toNat)).drop (((at2_) / 8).toNat)))) rfl rfl rfl rfl ?_
                  rcases hg78 : ((r50.1) != (((b).take ((((at2_) / 8 + (((ops)[(i3_).toNat]!.2.2.2.2).length : Int))).toNat)).drop (((at2_) / 8).toNat))) with _ | _
                  · replace hM := ifn (bne_f hg78) hM
                    refine r_y rfl ?_
                    refine r_v (Value.int .i64 (r50.2.1)) rfl rfl rfl rfl ?_
                    refine r_y rfl ?_
                    refine r_v (Value.bool (((r50.2.1 : Int) != 0))) rfl rfl rfl rfl ?_
                    refine r_v (Value.bool (((r50.2.1 : Int) != 0))) rfl rfl rfl rfl ?_
                    refine lx_nil ?_
                    refine hK73 _ _ ?_; try clear hK73 K73
                    refine A_cond (((r50.2.1 : Int) != 0)) rfl (fun hc79 => ?_) (fun hc79 => ?_)
                    · replace hM := ifp (bne_iff_ne.1 hc79) hM
                      refine A_seq fun K80 hK80 => ?_
                      refine A_reg ?_
                      refine r_v (Value.bool (false)) rfl rfl rfl rfl ?_
                      refine lx_nil ?_
                      refine hK80 _ _ ?_; try clear hK80 K80
                      refine A_gen [(4, Value.bool (false))] rfl (fun T => ?_)
                      obtain rfl := Option.some.inj hM
                      refine A_ret (fun hn => endsV (v0 := Value.bool (false)) rfl (res1 rfl))
                    · replace hM := ifn (bne_f hc79) hM
                      refine A_skip ?_
                      refine fg _ (Sub.pick [[(b5, 81, #[s6, Value.int .i64 (r50.2.2.2)])], S15, S56, S53] [0, 1, 3] rfl) ?_
                      exact ⟨hM, is_mk rfl rfl⟩
                  · replace hM := ifp (bne_iff_ne.1 hg78) hM
                    refine r_n true rfl (by decide) rfl ?_
                    refine r_n true rfl (by decide) rfl ?_
                    refine r_v (Value.bool (true)) rfl rfl rfl rfl ?_
                    refine lx_nil ?_
                    refine hK73 _ _ ?_; try clear hK73 K73
                    refine A_cond true rfl (fun _ => ?_) (fun h_ => nomatch h_)
                    refine A_seq fun K81 hK81 => ?_
                    refine A_reg ?_
                    refine r_v (Value.bool (false)) rfl rfl rfl rfl ?_
                    refine lx_nil ?_
                    refine hK81 _ _ ?_; try clear hK81 K81
                    refine A_gen [(4, Value.bool (false))] rfl (fun T => ?_)
                    obtain rfl := Option.some.inj hM
                    refine A_ret (fun hn => endsV (v0 := Value.bool (false)) rfl (res1 rfl))
                · clear hM; rintro t l ⟨hM, ⟨T, rfl⟩, rfl⟩
                  unfold shunterlaw03_BitsTakes_k15 at hM
                  refine A_reg ?_
                  refine r_v (Value.int .i64 (at2_)) rfl rfl rfl rfl ?_
                  refine r_v (Value.int .i64 ((((ops)[(i3_).toNat]!.2.2.2.2).length : Int))) rfl rfl rfl rfl ?_
                  replace hM := ck_some hM; obtain ⟨ck71, hM⟩ := hM
                  refine r_v (Value.int .i64 ((8 * (((ops)[(i3_).toNat]!.2.2.2.2).length : Int)))) rfl rfl (wi64 rfl ck71.1 ck71.2) rfl ?_
                  replace hM := ck_some hM; obtain ⟨ck72, hM⟩ := hM
                  refine r_v (Value.int .i64 ((at2_ + (8 * (((ops)[(i3_).toNat]!.2.2.2.2).length : Int))))) rfl rfl (wi64 rfl ck72.1 ck72.2) rfl ?_
                  refine r_v (Value.int .i64 ((at2_ + (8 * (((ops)[(i3_).toNat]!.2.2.2.2).length : Int))))) rfl rfl rfl rfl ?_
                  refine lx_nil ?_
                  refine fg _ (Sub.pick [[(b5, 81, #[s6, Value.int .i64 (r50.2.2.2)])], S15, S53] [0, 1, 2] rfl) ?_
                  exact ⟨(at2_ + (8 * (((ops)[(i3_).toNat]!.2.2.2.2).length : Int))), r50.2.2.1, r50.2.2.2, hM, S53, H54, is_mk rfl rfl⟩
          · replace hM := ifn (ne_of_beq_false hc47) hM
            refine A_seq fun K85 hK85 => ?_
            refine A_reg ?_
            refine r_v (Value.bool ((((ops)[(i3_).toNat]!.1 : Int) == 2))) rfl rfl rfl rfl ?_
            refine r_v (Value.bool ((((ops)[(i3_).toNat]!.1 : Int) == 2))) rfl rfl rfl rfl ?_
            refine lx_nil ?_
            refine hK85 _ _ ?_; try clear hK85 K85
            refine A_cond ((((ops)[(i3_).toNat]!.1 : Int) == 2)) rfl (fun hc86 => ?_) (fun hc86 => ?_)
            · replace hM := ifp (eq_of_beq hc86) hM
              refine A_seq fun K87 hK87 => ?_
              refine A_regC [(some 150, false)] (conG Try.prog [(150, fun v_ L_ U_ => ∀ u0_, bits_Taker_Look_v1_m N s5_ m4__1 ((ops)[(i3_).toNat]!.2.1) ((ops)[(i3_).toNat]!.2.2.1) = some u0_ → (pV (Value.tuple #[Value.agg #[Value.int .i64 (u0_.1), U (hi (u0_.2.1)), U (lo (u0_.2.1))], Value.int .i64 (u0_.2.2)])) v_ L_ U_)]) ?_
              refine r_v (Value.pointer (some ⟨b5, 0, none⟩)) rfl rfl rfl rfl ?_
              refine r_v (Value.pointer (some ⟨b30, 1, none⟩)) rfl rfl rfl rfl ?_
              refine r_l (Value.int .i64 ((ops)[(i3_).toNat]!.2.1)) 0 _ _ _ _ rfl rfl rfl rfl rfl ?_
              refine r_v (Value.int .i64 ((ops)[(i3_).toNat]!.2.2.1)) rfl rfl rfl rfl ?_
              replace hM := bind_sm hM; obtain ⟨r88, hr89, hM⟩ := hM
              refine r_gv (Value.tuple #[Value.agg #[Value.int .i64 (r88.1), U (hi (r88.2.1)), U (lo (r88.2.1))], Value.int .i64 (r88.2.2)]) 24 _ rfl rfl rfl (ev_callF rfl call_24 rfl) (fun own_ nw_ hs_ => bits_Taker_Look_v1_g N s5_ m4__1 ((ops)[(i3_).toNat]!.2.1) ((ops)[(i3_).toNat]!.2.2.1) _ hr89 hs_.view b5 s6 ((rd_own hs5_ (mem_chunk (Ls := [[(b30, 39, #[Value.int .i64 ((ops)[(i3_).toNat]!.1), Value.int .i64 ((ops)[(i3_).toNat]!.2.1), Value.int .i64 ((ops)[(i3_).toNat]!.2.2.1), U (hi ((ops)[(i3_).toNat]!.2.2.2.1)), U (lo ((ops)[(i3_).toNat]!.2.2.2.1)), s27])], [(b5, 81, #[s6, Value.int .i64 (m4__1)])], S15, Ss5_]) (k := 3) rfl rfl)) own_ nw_ hs_) (blk_own 1 rfl rfl own_ nw_ hs_)) (fun _ _ v_ L_ U_ => ⟨fun h_ => h_ _ hr89, fun h_ => by intro _ e_; cases Option.some.inj (e_.symm.trans hr89); exact h_⟩) ?_
              refine r_v (Value.tuple #[Value.agg #[Value.int .i64 (r88.1), U (hi (r88.2.1)), U (lo (r88.2.1))], Value.int .i64 (r88.2.2)]) rfl rfl rfl rfl ?_
              refine r_v (Value.agg #[Value.int .i64 (r88.1), U (hi (r88.2.1)), U (lo (r88.2.1))]) rfl rfl rfl rfl ?_
              refine r_v (Value.int .i64 (r88.2.2)) rfl rfl rfl rfl ?_
              refine r_a (26, #[Value.int .i64 (0), U (0#64), U (0#64)]) rfl rfl rfl (fun b90 => ?_) (.inr rfl)
              refine r_s (List.flatten [[(b90, 26, #[Value.int .i64 (r88.1), U (hi (r88.2.1)), U (lo (r88.2.1))])], [(b30, 39, #[Value.int .i64 ((ops)[(i3_).toNat]!.1), Value.int .i64 ((ops)[(i3_).toNat]!.2.1), Value.int .i64 ((ops)[(i3_).toNat]!.2.2.1), U (hi ((ops)[(i3_).toNat]!.2.2.2.1)), U (lo ((ops)[(i3_).toNat]!.2.2.2.1)), s27])], [(b5, 81, #[s6, Value.int .i64 (m4__1)])], S15, Ss5_]) 0 _ _ _ (#[Value.int .i64 (0), U (0#64), U (0#64)]) (#[Value.int .i64 (r88.1), U (hi (r88.2.1)), U (lo (r88.2.1))]) (#[Value.int .i64 (r88.1), U (hi (r88.2.1)), U (lo (r88.2.1))]) rfl rfl rfl rfl (.of rfl rfl) rfl rfl ?_
              refine r_v (Value.int .i64 (r88.2.2)) rfl rfl rfl rfl ?_
              refine lx_nil ?_
              refine hK87 _ _ ?_; try clear hK87 K87
              refine A_gen [(0, bv), (1, opsv), (5, Value.pointer (some ⟨b5, 0, none⟩)), (6, s14), (7, Value.int .i64 (at2_)), (8, Value.int .i64 (i3_)), (9, Value.pointer (some ⟨b30, 0, none⟩)), (10, Value.int .i64 ((ops)[(i3_).toNat]!.2.2.1)), (11, Value.int .i64 ((((r12).length : Int) - at2_))), (16, Value.pointer (some ⟨b90, 0, none⟩)), (17, Value.int .i64 (r88.2.2))] rfl (fun T => ?_)
              refine A_seq fun K91 hK91 => ?_
              refine A_reg ?_
              refine r_v (Value.agg #[Value.int .i64 (0), U (0#64), U (0#64)]) rfl rfl rfl (ev_buildS rfl rfl rfl rfl) ?_
              refine r_a (26, #[Value.int .i64 (0), U (0#64), U (0#64)]) rfl rfl rfl (fun b92 => ?_) (.inr rfl)
              refine r_s (List.flatten [[(b92, 26, #[Value.int .i64 (0), U (0#64), U (0#64)])], [(b90, 26, #[Value.int .i64 (r88.1), U (hi (r88.2.1)), U (lo (r88.2.1))])], [(b30, 39, #[Value.int .i64 ((ops)[(i3_).toNat]!.1), Value.int .i64 ((ops)[(i3_).toNat]!.2.1), Value.int .i64 ((ops)[(i3_).toNat]!.2.2.1), U (hi ((ops)[(i3_).toNat]!.2.2.2.1)), U (lo ((ops)[(i3_).toNat]!.2.2.2.1)), s27])], [(b5, 81, #[s6, Value.int .i64 (m4__1)])], S15, Ss5_]) 0 _ _ _ (#[Value.int .i64 (0), U (0#64), U (0#64)]) (#[Value.int .i64 (0), U (0#64), U (0#64)]) (#[Value.int .i64 (0), U (0#64), U (0#64)]) rfl rfl rfl rfl (.of rfl rfl) rfl rfl ?_
              refine r_v (Value.int .i64 (3)) rfl rfl rfl rfl ?_
              refine lx_nil ?_
              refine hK91 _ _ ?_; try clear hK91 K91
              refine A_cut (fun tt ll => ∃ (f16_ : Int) (m17__0 : Int) (m17__1 : BitVec 128), (shunterlaw03_BitsTakes_k18 N r12 at2_ i3_ s5_ m4__1 (shunterlaw03_BitsTakes_l6 N b ops r12 n20) r88 f16_ m17__0 m17__1 = some r) ∧ Is [(0, bv), (1, opsv), (5, Value.pointer (some ⟨b5, 0, none⟩)), (6, s14), (7, Value.int .i64 (at2_)), (8, Value.int .i64 (i3_)), (16, Value.pointer (some ⟨b90, 0, none⟩)), (17, Value.int .i64 (r88.2.2)), (18, Value.pointer (some ⟨b92, 0, none⟩)), (19, Value.int .i64 (f16_))] (List.flatten [[(b92, 26, #[Value.int .i64 (m17__0), U (hi (m17__1)), U (lo (m17__1))])], [(b90, 26, #[Value.int .i64 (r88.1), U (hi (r88.2.1)), U (lo (r88.2.1))])], [(b5, 81, #[s6, Value.int .i64 (m4__1)])], S15, Ss5_]) tt ll) ?_ ?_
              · refine A_cut (fun tt ll => ∃ (x19_ : Bool), (shunterlaw03_BitsTakes_k20 N ops r12 at2_ i3_ s5_ m4__1 (shunterlaw03_BitsTakes_l6 N b ops r12 n20) r88 x19_ = some r) ∧ Is [(0, bv), (1, opsv), (5, Value.pointer (some ⟨b5, 0, none⟩)), (6, s14), (7, Value.int .i64 (at2_)), (8, Value.int .i64 (i3_)), (9, Value.pointer (some ⟨b30, 0, none⟩)), (10, Value.int .i64 ((ops)[(i3_).toNat]!.2.2.1)), (11, Value.int .i64 ((((r12).length : Int) - at2_))), (16, Value.pointer (some ⟨b90, 0, none⟩)), (17, Value.int .i64 (r88.2.2)), (18, Value.pointer (some ⟨b92, 0, none⟩)), (19, Value.int .i64 (3)), (159, Value.bool (x19_))] (List.flatten [[(b92, 26, #[Value.int .i64 (0), U (0#64), U (0#64)])], [(b90, 26, #[Value.int .i64 (r88.1), U (hi (r88.2.1)), U (lo (r88.2.1))])], [(b30, 39, #[Value.int .i64 ((ops)[(i3_).toNat]!.1), Value.int .i64 ((ops)[(i3_).toNat]!.2.1), Value.int .i64 ((ops)[(i3_).toNat]!.2.2.1), U (hi ((ops)[(i3_).toNat]!.2.2.2.1)), U (lo ((ops)[(i3_).toNat]!.2.2.2.1)), s27])], [(b5, 81, #[s6, Value.int .i64 (m4__1)])], S15, Ss5_]) tt ll) ?_ ?_
                · refine A_reg ?_
                  refine r_v (Value.int .i64 ((ops)[(i3_).toNat]!.2.2.1)) rfl rfl rfl rfl ?_
                  refine r_v (Value.bool (decide (((ops)[(i3_).toNat]!.2.2.1 : Int) < 1))) rfl rfl rfl rfl ?_
                  refine r_v (Value.bool (decide (((ops)[(i3_).toNat]!.2.2.1 : Int) < 1))) rfl rfl rfl rfl ?_
                  rcases hg111 : (decide (((ops)[(i3_).toNat]!.2.2.1 : Int) < 1)) with _ | _
                  · replace hM := ifn (of_decide_eq_false hg111) hM
                    refine r_y rfl ?_
                    refine r_v (Value.int .i64 ((ops)[(i3_).toNat]!.2.2.1)) rfl rfl rfl rfl ?_
                    refine r_y rfl ?_
                    refine r_v (Value.bool (decide (((ops)[(i3_).toNat]!.2.2.1 : Int) > 128))) rfl rfl rfl rfl ?_
                    refine r_v (Value.bool (decide (((ops)[(i3_).toNat]!.2.2.1 : Int) > 128))) rfl rfl rfl rfl ?_
                    refine lx_nil ?_
                    refine fg _ (Sub.pick [[(b92, 26, #[Value.int .i64 (0), U (0#64), U (0#64)])], [(b90, 26, #[Value.int .i64 (r88.1), U (hi (r88.2.1)), U (lo (r88.2.1))])], [(b30, 39, #[Value.int .i64 ((ops)[(i3_).toNat]!.1), Value.int .i64 ((ops)[(i3_).toNat]!.2.1), Value.int .i64 ((ops)[(i3_).toNat]!.2.2.1), U (hi ((ops)[(i3_).toNat]!.2.2.2.1)), U (lo ((ops)[(i3_).toNat]!.2.2.2.1)), s27])], [(b5, 81, #[s6, Value.int .i64 (m4__1)])], S15, Ss5_] [0, 1, 2, 3, 4, 5] rfl) ?_
                    exact ⟨decide (((ops)[(i3_).toNat]!.2.2.1 : Int) > 128), hM, is_mk rfl (by first | rfl | simp only [app_hl])⟩
                  · replace hM := ifp (of_decide_eq_true hg111) hM
                    refine r_n true rfl (by decide) rfl ?_
                    refine r_n true rfl (by decide) rfl ?_
                    refine r_v (Value.bool (true)) rfl rfl rfl rfl ?_
                    refine lx_nil ?_
                    refine fg _ (Sub.pick [[(b92, 26, #[Value.int .i64 (0), U (0#64), U (0#64)])], [(b90, 26, #[Value.int .i64 (r88.1), U (hi (r88.2.1)), U (lo (r88.2.1))])], [(b30, 39, #[Value.int .i64 ((ops)[(i3_).toNat]!.1), Value.int .i64 ((ops)[(i3_).toNat]!.2.1), Value.int .i64 ((ops)[(i3_).toNat]!.2.2.1), U (hi ((ops)[(i3_).toNat]!.2.2.2.1)), U (lo ((ops)[(i3_).toNat]!.2.2.2.1)), s27])], [(b5, 81, #[s6, Value.int .i64 (m4__1)])], S15, Ss5_] [0, 1, 2, 3, 4, 5] rfl) ?_
                    exact ⟨true, hM, is_mk rfl (by first | rfl | simp only [app_hl])⟩
                · clear hM; rintro t l ⟨x19_, hM, ⟨T, rfl⟩, rfl⟩
                  unfold shunterlaw03_BitsTakes_k20 at hM
                  refine A_cond (x19_) rfl (fun hc98 => ?_) (fun hc98 => ?_)
                  · replace hM := ifp hc98 hM
                    refine A_reg ?_
                    refine r_v (Value.int .i64 (9)) rfl rfl rfl rfl ?_
                    refine lx_nil ?_
                    refine fg _ (Sub.pick [[(b92, 26, #[Value.int .i64 (0), U (0#64), U (0#64)])], [(b90, 26, #[Value.int .i64 (r88.1), U (hi (r88.2.1)), U (lo (r88.2.1))])], [(b30, 39, #[Value.int .i64 ((ops)[(i3_).toNat]!.1), Value.int .i64 ((ops)[(i3_).toNat]!.2.1), Value.int .i64 ((ops)[(i3_).toNat]!.2.2.1), U (hi ((ops)[(i3_).toNat]!.2.2.2.1)), U (lo ((ops)[(i3_).toNat]!.2.2.2.1)), s27])], [(b5, 81, #[s6, Value.int .i64 (m4__1)])], S15, Ss5_] [0, 1, 3, 4, 5] rfl) ?_
                    exact ⟨9, 0, (0#64) ++ (0#64), hM, is_mk rfl (by first | rfl | simp only [app_hl])⟩
                  · replace hM := ifn (Bool.eq_false_iff.1 hc98) hM
                    refine A_seq fun K99 hK99 => ?_
                    refine A_reg ?_
                    refine r_v (Value.pointer (some ⟨b30, 1, none⟩)) rfl rfl rfl rfl ?_
                    refine r_l (Value.int .i64 ((ops)[(i3_).toNat]!.2.1)) 2 _ _ _ _ rfl rfl rfl rfl rfl ?_
                    refine r_v (Value.bool (decide (((ops)[(i3_).toNat]!.2.1 : Int) < 0))) rfl rfl rfl rfl ?_
                    refine lx_nil ?_
                    refine hK99 _ _ ?_; try clear hK99 K99
                    refine A_cond (decide (((ops)[(i3_).toNat]!.2.1 : Int) < 0)) rfl (fun hc100 => ?_) (fun hc100 => ?_)
                    · replace hM := ifp (of_decide_eq_true hc100) hM
                      refine A_reg ?_
                      refine r_v (Value.int .i64 (7)) rfl rfl rfl rfl ?_
                      refine lx_nil ?_
                      refine fg _ (Sub.pick [[(b92, 26, #[Value.int .i64 (0), U (0#64), U (0#64)])], [(b90, 26, #[Value.int .i64 (r88.1), U (hi (r88.2.1)), U (lo (r88.2.1))])], [(b30, 39, #[Value.int .i64 ((ops)[(i3_).toNat]!.1), Value.int .i64 ((ops)[(i3_).toNat]!.2.1), Value.int .i64 ((ops)[(i3_).toNat]!.2.2.1), U (hi ((ops)[(i3_).toNat]!.2.2.2.1)), U (lo ((ops)[(i3_).toNat]!.2.2.2.1)), s27])], [(b5, 81, #[s6, Value.int .i64 (m4__1)])], S15, Ss5_] [0, 1, 3, 4, 5] rfl) ?_
                      exact ⟨7, 0, (0#64) ++ (0#64), hM, is_mk rfl (by first | rfl | simp only [app_hl])⟩
                    · replace hM := ifn (of_decide_eq_false hc100) hM
                      refine A_cut (fun tt ll => ∃ (x21_ : Bool), (shunterlaw03_BitsTakes_k22 N ops r12 at2_ i3_ s5_ m4__1 (shunterlaw03_BitsTakes_l6 N b ops r12 n20) r88 x21_ = some r) ∧ Is [(0, bv), (1, opsv), (5, Value.pointer (some ⟨b5, 0, none⟩)), (6, s14), (7, Value.int .i64 (at2_)), (8, Value.int .i64 (i3_)), (9, Value.pointer (some ⟨b30, 0, none⟩)), (10, Value.int .i64 ((ops)[(i3_).toNat]!.2.2.1)), (16, Value.pointer (some ⟨b90, 0, none⟩)), (17, Value.int .i64 (r88.2.2)), (18, Value.pointer (some ⟨b92, 0, none⟩)), (19, Value.int .i64 (3)), (174, Value.bool (x21_))] (List.flatten [[(b92, 26, #[Value.int .i64 (0), U (0#64), U (0#64)])], [(b90, 26, #[Value.int .i64 (r88.1), U (hi (r88.2.1)), U (lo (r88.2.1))])], [(b30, 39, #[Value.int .i64 ((ops)[(i3_).toNat]!.1), Value.int .i64 ((ops)[(i3_).toNat]!.2.1), Value.int .i64 ((ops)[(i3_).toNat]!.2.2.1), U (hi ((ops)[(i3_).toNat]!.2.2.2.1)), U (lo ((ops)[(i3_).toNat]!.2.2.2.1)), s27])], [(b5, 81, #[s6, Value.int .i64 (m4__1)])], S15, Ss5_]) tt ll) ?_ ?_
                      · refine A_reg ?_
                        refine r_v (Value.pointer (some ⟨b30, 1, none⟩)) rfl rfl rfl rfl ?_
                        refine r_l (Value.int .i64 ((ops)[(i3_).toNat]!.2.1)) 2 _ _ _ _ rfl rfl rfl rfl rfl ?_
                        refine r_v (Value.int .i64 ((((r12).length : Int) - at2_))) rfl rfl rfl rfl ?_
                        refine r_v (Value.bool (decide (((ops)[(i3_).toNat]!.2.1 : Int) ≤ (((r12).length : Int) - at2_)))) rfl rfl rfl rfl ?_
                        refine r_v (Value.bool (decide (((ops)[(i3_).toNat]!.2.1 : Int) ≤ (((r12).length : Int) - at2_)))) rfl rfl rfl rfl ?_
                        rcases hg109 : (decide (((ops)[(i3_).toNat]!.2.1 : Int) ≤ (((r12).length : Int) - at2_))) with _ | _
                        · replace hM := ifn (of_decide_eq_false hg109) hM
                          refine r_n false rfl (by decide) rfl ?_
                          refine r_n false rfl (by decide) rfl ?_
                          refine r_n false rfl (by decide) rfl ?_
                          refine r_n false rfl (by decide) rfl ?_
                          refine r_n false rfl (by decide) rfl ?_
                          refine r_n false rfl (by decide) rfl ?_
                          refine r_v (Value.bool (false)) rfl rfl rfl rfl ?_
                          refine lx_nil ?_
                          refine fg _ (Sub.pick [[(b92, 26, #[Value.int .i64 (0), U (0#64), U (0#64)])], [(b90, 26, #[Value.int .i64 (r88.1), U (hi (r88.2.1)), U (lo (r88.2.1))])], [(b30, 39, #[Value.int .i64 ((ops)[(i3_).toNat]!.1), Value.int .i64 ((ops)[(i3_).toNat]!.2.1), Value.int .i64 ((ops)[(i3_).toNat]!.2.2.1), U (hi ((ops)[(i3_).toNat]!.2.2.2.1)), U (lo ((ops)[(i3_).toNat]!.2.2.2.1)), s27])], [(b5, 81, #[s6, Value.int .i64 (m4__1)])], S15, Ss5_] [0, 1, 2, 3, 4, 5] rfl) ?_
                          exact ⟨false, hM, is_mk rfl (by first | rfl | simp only [app_hl])⟩
                        · replace hM := ifp (of_decide_eq_true hg109) hM
                          refine r_y rfl ?_
                          refine r_v (Value.int .i64 ((ops)[(i3_).toNat]!.2.2.1)) rfl rfl rfl rfl ?_
                          refine r_y rfl ?_
                          refine r_v (Value.int .i64 ((((r12).length : Int) - at2_))) rfl rfl rfl rfl ?_
                          refine r_y rfl ?_
                          refine r_v (Value.pointer (some ⟨b30, 1, none⟩)) rfl rfl rfl rfl ?_
                          refine r_y rfl ?_
                          refine r_l (Value.int .i64 ((ops)[(i3_).toNat]!.2.1)) 2 _ _ _ _ rfl rfl rfl rfl rfl ?_
                          refine r_y rfl ?_
                          replace hM := ck_some hM; obtain ⟨ck110, hM⟩ := hM
                          refine r_v (Value.int .i64 (((((r12).length : Int) - at2_) - (ops)[(i3_).toNat]!.2.1))) rfl rfl (wi64 rfl ck110.1 ck110.2) rfl ?_
                          refine r_y rfl ?_
                          refine r_v (Value.bool (decide (((ops)[(i3_).toNat]!.2.2.1 : Int) ≤ ((((r12).length : Int) - at2_) - (ops)[(i3_).toNat]!.2.1)))) rfl rfl rfl rfl ?_
                          refine r_v (Value.bool (decide (((ops)[(i3_).toNat]!.2.2.1 : Int) ≤ ((((r12).length : Int) - at2_) - (ops)[(i3_).toNat]!.2.1)))) rfl rfl rfl rfl ?_
                          refine lx_nil ?_
                          refine fg _ (Sub.pick [[(b92, 26, #[Value.int .i64 (0), U (0#64), U (0#64)])], [(b90, 26, #[Value.int .i64 (r88.1), U (hi (r88.2.1)), U (lo (r88.2.1))])], [(b30, 39, #[Value.int .i64 ((ops)[(i3_).toNat]!.1), Value.int .i64 ((ops)[(i3_).toNat]!.2.1), Value.int .i64 ((ops)[(i3_).toNat]!.2.2.1), U (hi ((ops)[(i3_).toNat]!.2.2.2.1)), U (lo ((ops)[(i3_).toNat]!.2.2.2.1)), s27])], [(b5, 81, #[s6, Value.int .i64 (m4__1)])], S15, Ss5_] [0, 1, 2, 3, 4, 5] rfl) ?_
                          exact ⟨decide (((ops)[(i3_).toNat]!.2.2.1 : Int) ≤ ((((r12).length : Int) - at2_) - (ops)[(i3_).toNat]!.2.1)), hM, is_mk rfl (by first | rfl | simp only [app_hl])⟩
                      · clear hM; rintro t l ⟨x21_, hM, ⟨T, rfl⟩, rfl⟩
                        unfold shunterlaw03_BitsTakes_k22 at hM
                        refine A_cond (x21_) rfl (fun hc101 => ?_) (fun hc101 => ?_)
                        · replace hM := ifp hc101 hM
                          refine A_seq fun K102 hK102 => ?_
                          refine A_regC [(some 187, false)] (conG Try.prog [(187, fun v_ L_ U_ => ∀ u0_, shunterref03_Vec_m N (((r12).take ((((at2_ + (ops)[(i3_).toNat]!.2.1) + (ops)[(i3_).toNat]!.2.2.1)).toNat)).drop (((at2_ + (ops)[(i3_).toNat]!.2.1)).toNat)) = some u0_ → (pV (Value.agg #[Value.int .i64 (u0_.1), U (hi (u0_.2)), U (lo (u0_.2))])) v_ L_ U_)]) ?_
                          refine r_v (s14) rfl rfl rfl rfl ?_
                          refine r_v (Value.int .i64 (at2_)) rfl rfl rfl rfl ?_
                          refine r_v (Value.pointer (some ⟨b30, 1, none⟩)) rfl rfl rfl rfl ?_
                          refine r_l (Value.int .i64 ((ops)[(i3_).toNat]!.2.1)) 2 _ _ _ _ rfl rfl rfl rfl rfl ?_
                          replace hM := ck_some hM; obtain ⟨ck103, hM⟩ := hM
                          refine r_v (Value.int .i64 ((at2_ + (ops)[(i3_).toNat]!.2.1))) rfl rfl (wi64 rfl ck103.1 ck103.2) rfl ?_
                          refine r_v (Value.int .i64 (at2_)) rfl rfl rfl rfl ?_
                          refine r_v (Value.pointer (some ⟨b30, 1, none⟩)) rfl rfl rfl rfl ?_
                          refine r_l (Value.int .i64 ((ops)[(i3_).toNat]!.2.1)) 2 _ _ _ _ rfl rfl rfl rfl rfl ?_
                          replace hM := ck_some hM; obtain ⟨ck104, hM⟩ := hM
                          refine r_v (Value.int .i64 ((at2_ + (ops)[(i3_).toNat]!.2.1))) rfl rfl (wi64 rfl ck104.1 ck104.2) rfl ?_
                          refine r_v (Value.int .i64 ((ops)[(i3_).toNat]!.2.2.1)) rfl rfl rfl rfl ?_
                          replace hM := ck_some hM; obtain ⟨ck105, hM⟩ := hM
                          refine r_v (Value.int .i64 (((at2_ + (ops)[(i3_).toNat]!.2.1) + (ops)[(i3_).toNat]!.2.2.1))) rfl rfl (wi64 rfl ck105.1 ck105.2) rfl ?_
                          replace hM := ck_some hM; obtain ⟨ck106, hM⟩ := hM
                          refine r_v (subA s14 (((at2_ + (ops)[(i3_).toNat]!.2.1)).toNat) ((((at2_ + (ops)[(i3_).toNat]!.2.1) + (ops)[(i3_).toNat]!.2.2.1)).toNat) 1) rfl rfl rfl (ev_v (ev_subSl rfl rfl rfl rfl rfl (Sl.shp H16) ck106)) ?_
                          replace hM := bind_sm hM; obtain ⟨r107, hr108, hM⟩ := hM
                          refine r_gv (Value.agg #[Value.int .i64 (r107.1), U (hi (r107.2)), U (lo (r107.2))]) 25 _ rfl rfl rfl (ev_callF rfl call_25 rfl) (fun own_ nw_ hs_ => shunterref03_Vec_g N (((r12).take ((((at2_ + (ops)[(i3_).toNat]!.2.1) + (ops)[(i3_).toNat]!.2.2.1)).toNat)).drop (((at2_ + (ops)[(i3_).toNat]!.2.1)).toNat)) _ hr108 hs_.view (subA s14 (((at2_ + (ops)[(i3_).toNat]!.2.1)).toNat) ((((at2_ + (ops)[(i3_).toNat]!.2.1) + (ops)[(i3_).toNat]!.2.2.1)).toNat) 1) ((rd_sub (rd_own H16 (mem_chunk (Ls := [[(b92, 26, #[Value.int .i64 (0), U (0#64), U (0#64)])], [(b90, 26, #[Value.int .i64 (r88.1), U (hi (r88.2.1)), U (lo (r88.2.1))])], [(b30, 39, #[Value.int .i64 ((ops)[(i3_).toNat]!.1), Value.int .i64 ((ops)[(i3_).toNat]!.2.1), Value.int .i64 ((ops)[(i3_).toNat]!.2.2.1), U (hi ((ops)[(i3_).toNat]!.2.2.2.1)), U (lo ((ops)[(i3_).toNat]!.2.2.2.1)), s27])], [(b5, 81, #[s6, Value.int .i64 (m4__1)])], S15, Ss5_]) (k := 4) rfl rfl)) (toNat_le ck106) (toNat_len ck106.2.2)) own_ nw_ hs_)) (fun _ _ v_ L_ U_ => ⟨fun h_ => h_ _ hr108, fun h_ => by intro _ e_; cases Option.some.inj (e_.symm.trans hr108); exact h_⟩) ?_
                          refine r_s (List.flatten [[(b92, 26, #[Value.int .i64 (r107.1), U (hi (r107.2)), U (lo (r107.2))])], [(b90, 26, #[Value.int .i64 (r88.1), U (hi (r88.2.1)), U (lo (r88.2.1))])], [(b30, 39, #[Value.int .i64 ((ops)[(i3_).toNat]!.1), Value.int .i64 ((ops)[(i3_).toNat]!.2.1), Value.int .i64 ((ops)[(i3_).toNat]!.2.2.1), U (hi ((ops)[(i3_).toNat]!.2.2.2.1)), U (lo ((ops)[(i3_).toNat]!.2.2.2.1)), s27])], [(b5, 81, #[s6, Value.int .i64 (m4__1)])], S15, Ss5_]) 0 _ _ _ (#[Value.int .i64 (0), U (0#64), U (0#64)]) (#[Value.int .i64 (r107.1), U (hi (r107.2)), U (lo (r107.2))]) (#[Value.int .i64 (r107.1), U (hi (r107.2)), U (lo (r107.2))]) rfl rfl rfl rfl (.of rfl rfl) rfl rfl ?_
                          refine lx_nil ?_
                          refine hK102 _ _ ?_; try clear hK102 K102
                          refine A_reg ?_
                          refine r_v (Value.int .i64 (0)) rfl rfl rfl rfl ?_
                          refine lx_nil ?_
                          refine fg _ (Sub.pick [[(b92, 26, #[Value.int .i64 (r107.1), U (hi (r107.2)), U (lo (r107.2))])], [(b90, 26, #[Value.int .i64 (r88.1), U (hi (r88.2.1)), U (lo (r88.2.1))])], [(b30, 39, #[Value.int .i64 ((ops)[(i3_).toNat]!.1), Value.int .i64 ((ops)[(i3_).toNat]!.2.1), Value.int .i64 ((ops)[(i3_).toNat]!.2.2.1), U (hi ((ops)[(i3_).toNat]!.2.2.2.1)), U (lo ((ops)[(i3_).toNat]!.2.2.2.1)), s27])], [(b5, 81, #[s6, Value.int .i64 (m4__1)])], S15, Ss5_] [0, 1, 3, 4, 5] rfl) ?_
                          exact ⟨0, r107.1, r107.2, hM, is_mk rfl rfl⟩
                        · replace hM := ifn (Bool.eq_false_iff.1 hc101) hM
                          refine A_skip ?_
                          refine fg _ (Sub.pick [[(b92, 26, #[Value.int .i64 (0), U (0#64), U (0#64)])], [(b90, 26, #[Value.int .i64 (r88.1), U (hi (r88.2.1)), U (lo (r88.2.1))])], [(b30, 39, #[Value.int .i64 ((ops)[(i3_).toNat]!.1), Value.int .i64 ((ops)[(i3_).toNat]!.2.1), Value.int .i64 ((ops)[(i3_).toNat]!.2.2.1), U (hi ((ops)[(i3_).toNat]!.2.2.2.1)), U (lo ((ops)[(i3_).toNat]!.2.2.2.1)), s27])], [(b5, 81, #[s6, Value.int .i64 (m4__1)])], S15, Ss5_] [0, 1, 3, 4, 5] rfl) ?_
                          exact ⟨3, 0, (0#64) ++ (0#64), hM, is_mk rfl (by first | rfl | simp only [app_hl])⟩
              · clear hM; rintro t l ⟨f16_, m17__0, m17__1, hM, ⟨T, rfl⟩, rfl⟩
                unfold shunterlaw03_BitsTakes_k18 at hM
                refine A_seq fun K93 hK93 => ?_
                refine A_reg ?_
                refine r_l (Value.agg #[Value.int .i64 (r88.1), U (hi (r88.2.1)), U (lo (r88.2.1))]) 1 _ _ _ _ rfl rfl rfl rfl rfl ?_
                refine r_l (Value.agg #[Value.int .i64 (m17__0), U (hi (m17__1)), U (lo (m17__1))]) 0 _ _ _ _ rfl rfl rfl rfl rfl ?_
                refine r_v (Value.bool (!(((r88.1) == (m17__0)) && ((r88.2.1) == (m17__1))))) rfl rfl rfl (ev_binNe rfl rfl eg_26 (eqst_26 (r88.1) (m17__0) (r88.2.1) (m17__1))) ?_
                refine r_v (Value.bool (!(((r88.1) == (m17__0)) && ((r88.2.1) == (m17__1))))) rfl rfl rfl rfl ?_
                rcases hg94 : (!(((r88.1) == (m17__0)) && ((r88.2.1) == (m17__1)))) with _ | _
                · replace hM := ifp (not_f hg94) hM
                  refine r_y rfl ?_
                  refine r_v (Value.int .i64 (r88.2.2)) rfl rfl rfl rfl ?_
                  refine r_y rfl ?_
                  refine r_v (Value.int .i64 (f16_)) rfl rfl rfl rfl ?_
                  refine r_y rfl ?_
                  refine r_v (Value.bool (((r88.2.2 : Int) != f16_))) rfl rfl rfl rfl ?_
                  refine r_v (Value.bool (((r88.2.2 : Int) != f16_))) rfl rfl rfl rfl ?_
                  refine lx_nil ?_
                  refine hK93 _ _ ?_; try clear hK93 K93
                  refine A_cond (((r88.2.2 : Int) != f16_)) rfl (fun hc95 => ?_) (fun hc95 => ?_)
                  · replace hM := ifp (bne_iff_ne.1 hc95) hM
                    refine A_seq fun K96 hK96 => ?_
                    refine A_reg ?_
                    refine r_v (Value.bool (false)) rfl rfl rfl rfl ?_
                    refine lx_nil ?_
                    refine hK96 _ _ ?_; try clear hK96 K96
                    obtain rfl := Option.some.inj hM
                    refine A_ret (fun hn => endsV (v0 := Value.bool (false)) rfl (res1 rfl))
                  · replace hM := ifn (bne_f hc95) hM
                    refine A_skip ?_
                    refine fg _ (Sub.pick [[(b92, 26, #[Value.int .i64 (m17__0), U (hi (m17__1)), U (lo (m17__1))])], [(b90, 26, #[Value.int .i64 (r88.1), U (hi (r88.2.1)), U (lo (r88.2.1))])], [(b5, 81, #[s6, Value.int .i64 (m4__1)])], S15, Ss5_] [2, 3, 4] rfl) ?_
                    exact ⟨at2_, s5_, m4__1, hM, Ss5_, hs5_, is_mk rfl rfl⟩
                · replace hM := ifn (Bool.eq_false_iff.1 (not_t hg94)) hM
                  refine r_n true rfl (by decide) rfl ?_
                  refine r_n true rfl (by decide) rfl ?_
                  refine r_n true rfl (by decide) rfl ?_
                  refine r_v (Value.bool (true)) rfl rfl rfl rfl ?_
                  refine lx_nil ?_
                  refine hK93 _ _ ?_; try clear hK93 K93
                  refine A_cond true rfl (fun _ => ?_) (fun h_ => nomatch h_)
                  refine A_seq fun K97 hK97 => ?_
                  refine A_reg ?_
                  refine r_v (Value.bool (false)) rfl rfl rfl rfl ?_
                  refine lx_nil ?_
                  refine hK97 _ _ ?_; try clear hK97 K97
                  obtain rfl := Option.some.inj hM
                  refine A_ret (fun hn => endsV (v0 := Value.bool (false)) rfl (res1 rfl))
            · replace hM := ifn (ne_of_beq_false hc86) hM
              refine A_seq fun K112 hK112 => ?_
              refine A_regC [(some 61, true)] (conG Try.prog [(61, fun v_ L_ U_ => ∀ u0_, bits_Taker_Vec_v1_m N s5_ m4__1 ((ops)[(i3_).toNat]!.2.2.1) = some u0_ → (pO (List.flatten [[(b5, 81, #[s6, Value.int .i64 (m4__1)])], Ss5_]) (oI 5 encY s6 u0_.2.2.2.1 (oE (Value.tuple #[Value.agg #[Value.int .i64 (u0_.1), U (hi (u0_.2.1)), U (lo (u0_.2.1))], Value.int .i64 (u0_.2.2.1)]) [[(b5, 81, #[s6, Value.int .i64 (u0_.2.2.2.2)])]]))) v_ L_ U_)]) ?_
              refine r_v (Value.pointer (some ⟨b5, 0, none⟩)) rfl rfl rfl rfl ?_
              refine r_v (Value.int .i64 ((ops)[(i3_).toNat]!.2.2.1)) rfl rfl rfl rfl ?_
              replace hM := bind_sm hM; obtain ⟨r113, hr114, hM⟩ := hM
              replace hM := ck_some hM; obtain ⟨ck115, hM⟩ := hM
              refine r_gm (Ls := [[(b30, 39, #[Value.int .i64 ((ops)[(i3_).toNat]!.1), Value.int .i64 ((ops)[(i3_).toNat]!.2.1), Value.int .i64 ((ops)[(i3_).toNat]!.2.2.1), U (hi ((ops)[(i3_).toNat]!.2.2.2.1)), U (lo ((ops)[(i3_).toNat]!.2.2.2.1)), s27])], [(b5, 81, #[s6, Value.int .i64 (m4__1)])], S15, Ss5_]) (FL := [[(b5, 81, #[s6, Value.int .i64 (m4__1)])], Ss5_]) (RL := [[(b30, 39, #[Value.int .i64 ((ops)[(i3_).toNat]!.1), Value.int .i64 ((ops)[(i3_).toNat]!.2.1), Value.int .i64 ((ops)[(i3_).toNat]!.2.2.1), U (hi ((ops)[(i3_).toNat]!.2.2.2.1)), U (lo ((ops)[(i3_).toNat]!.2.2.2.1)), s27])], S15]) [1, 3] (oI 5 encY s6 r113.2.2.2.1 (oE (Value.tuple #[Value.agg #[Value.int .i64 (r113.1), U (hi (r113.2.1)), U (lo (r113.2.1))], Value.int .i64 (r113.2.2.1)]) [[(b5, 81, #[s6, Value.int .i64 (r113.2.2.2.2)])]])) (some 61) 26 _ rfl rfl rfl rfl rfl (ev_callF rfl call_26 rfl) (fun own_ nw_ hn_ hs_ => bits_Taker_Vec_v1_g N s5_ m4__1 ((ops)[(i3_).toNat]!.2.2.1) _ hr114 _ b5 s6 Ss5_ hs5_) (fun _ _ v_ L_ U_ => ⟨fun h_ => h_ _ hr114, fun h_ => by intro _ e_; cases Option.some.inj (e_.symm.trans hr114); exact h_⟩) (NiceO.sub (R := (Ss5_ ++ ([(b5, 81, #[s6, Value.int .i64 (m4__1)])] ++ []))) (niceI hs5_ ck115 (niceE rfl)) (Sub.pick [[(b5, 81, #[s6, Value.int .i64 (m4__1)])], Ss5_] [1, 0] rfl)) ?_
              rintro _ _ ⟨S116, _, H117, ⟨rfl, rfl⟩, rfl⟩
              refine lx_perm (Ls := [[(b30, 39, #[Value.int .i64 ((ops)[(i3_).toNat]!.1), Value.int .i64 ((ops)[(i3_).toNat]!.2.1), Value.int .i64 ((ops)[(i3_).toNat]!.2.2.1), U (hi ((ops)[(i3_).toNat]!.2.2.2.1)), U (lo ((ops)[(i3_).toNat]!.2.2.2.1)), s27])], S15, S116, [(b5, 81, #[s6, Value.int .i64 (r113.2.2.2.2)])]]) (Ls' := [[(b30, 39, #[Value.int .i64 ((ops)[(i3_).toNat]!.1), Value.int .i64 ((ops)[(i3_).toNat]!.2.1), Value.int .i64 ((ops)[(i3_).toNat]!.2.2.1), U (hi ((ops)[(i3_).toNat]!.2.2.2.1)), U (lo ((ops)[(i3_).toNat]!.2.2.2.1)), s27])], [(b5, 81, #[s6, Value.int .i64 (r113.2.2.2.2)])], S15, S116]) [0, 3, 1, 2] rfl rfl ?_
              refine r_v (Value.tuple #[Value.agg #[Value.int .i64 (r113.1), U (hi (r113.2.1)), U (lo (r113.2.1))], Value.int .i64 (r113.2.2.1)]) rfl rfl rfl rfl ?_
              refine r_v (Value.agg #[Value.int .i64 (r113.1), U (hi (r113.2.1)), U (lo (r113.2.1))]) rfl rfl rfl rfl ?_
              refine r_v (Value.int .i64 (r113.2.2.1)) rfl rfl rfl rfl ?_
              refine r_a (26, #[Value.int .i64 (0), U (0#64), U (0#64)]) rfl rfl rfl (fun b118 => ?_) (.inr rfl)
              refine r_s (List.flatten [[(b118, 26, #[Value.int .i64 (r113.1), U (hi (r113.2.1)), U (lo (r113.2.1))])], [(b30, 39, #[Value.int .i64 ((ops)[(i3_).toNat]!.1), Value.int .i64 ((ops)[(i3_).toNat]!.2.1), Value.int .i64 ((ops)[(i3_).toNat]!.2.2.1), U (hi ((ops)[(i3_).toNat]!.2.2.2.1)), U (lo ((ops)[(i3_).toNat]!.2.2.2.1)), s27])], [(b5, 81, #[s6, Value.int .i64 (r113.2.2.2.2)])], S15, S116]) 0 _ _ _ (#[Value.int .i64 (0), U (0#64), U (0#64)]) (#[Value.int .i64 (r113.1), U (hi (r113.2.1)), U (lo (r113.2.1))]) (#[Value.int .i64 (r113.1), U (hi (r113.2.1)), U (lo (r113.2.1))]) rfl rfl rfl rfl (.of rfl rfl) rfl rfl ?_
              refine r_v (Value.int .i64 (r113.2.2.1)) rfl rfl rfl rfl ?_
              refine lx_nil ?_
              refine hK112 _ _ ?_; try clear hK112 K112
              refine A_gen [(0, bv), (1, opsv), (5, Value.pointer (some ⟨b5, 0, none⟩)), (6, s14), (7, Value.int .i64 (at2_)), (8, Value.int .i64 (i3_)), (10, Value.int .i64 ((ops)[(i3_).toNat]!.2.2.1)), (11, Value.int .i64 ((((r12).length : Int) - at2_))), (20, Value.pointer (some ⟨b118, 0, none⟩)), (21, Value.int .i64 (r113.2.2.1))] rfl (fun T => ?_)
              refine A_seq fun K119 hK119 => ?_
              refine A_reg ?_
              refine r_v (Value.agg #[Value.int .i64 (0), U (0#64), U (0#64)]) rfl rfl rfl (ev_buildS rfl rfl rfl rfl) ?_
              refine r_a (26, #[Value.int .i64 (0), U (0#64), U (0#64)]) rfl rfl rfl (fun b120 => ?_) (.inr rfl)
              refine r_s (List.flatten [[(b120, 26, #[Value.int .i64 (0), U (0#64), U (0#64)])], [(b118, 26, #[Value.int .i64 (r113.1), U (hi (r113.2.1)), U (lo (r113.2.1))])], [(b30, 39, #[Value.int .i64 ((ops)[(i3_).toNat]!.1), Value.int .i64 ((ops)[(i3_).toNat]!.2.1), Value.int .i64 ((ops)[(i3_).toNat]!.2.2.1), U (hi ((ops)[(i3_).toNat]!.2.2.2.1)), U (lo ((ops)[(i3_).toNat]!.2.2.2.1)), s27])], [(b5, 81, #[s6, Value.int .i64 (r113.2.2.2.2)])], S15, S116]) 0 _ _ _ (#[Value.int .i64 (0), U (0#64), U (0#64)]) (#[Value.int .i64 (0), U (0#64), U (0#64)]) (#[Value.int .i64 (0), U (0#64), U (0#64)]) rfl rfl rfl rfl (.of rfl rfl) rfl rfl ?_
              refine r_v (Value.int .i64 (3)) rfl rfl rfl rfl ?_
              refine lx_nil ?_
              refine hK119 _ _ ?_; try clear hK119 K119
              refine A_cut (fun tt ll => ∃ (at23_ : Int) (f24_ : Int) (m25__0 : Int) (m25__1 : BitVec 128), (shunterlaw03_BitsTakes_k26 N r12 i3_ (shunterlaw03_BitsTakes_l6 N b ops r12 n20) r113 at23_ f24_ m25__0 m25__1 = some r) ∧ Is [(0, bv), (1, opsv), (5, Value.pointer (some ⟨b5, 0, none⟩)), (6, s14), (7, Value.int .i64 (at23_)), (8, Value.int .i64 (i3_)), (20, Value.pointer (some ⟨b118, 0, none⟩)), (21, Value.int .i64 (r113.2.2.1)), (22, Value.pointer (some ⟨b120, 0, none⟩)), (23, Value.int .i64 (f24_))] (List.flatten [[(b120, 26, #[Value.int .i64 (m25__0), U (hi (m25__1)), U (lo (m25__1))])], [(b118, 26, #[Value.int .i64 (r113.1), U (hi (r113.2.1)), U (lo (r113.2.1))])], [(b5, 81, #[s6, Value.int .i64 (r113.2.2.2.2)])], S15, S116]) tt ll) ?_ ?_
              · refine A_cut (fun tt ll => ∃ (x27_ : Bool), (shunterlaw03_BitsTakes_k28 N ops r12 at2_ i3_ (shunterlaw03_BitsTakes_l6 N b ops r12 n20) r113 x27_ = some r) ∧ Is [(0, bv), (1, opsv), (5, Value.pointer (some ⟨b5, 0, none⟩)), (6, s14), (7, Value.int .i64 (at2_)), (8, Value.int .i64 (i3_)), (10, Value.int .i64 ((ops)[(i3_).toNat]!.2.2.1)), (11, Value.int .i64 ((((r12).length : Int) - at2_))), (20, Value.pointer (some ⟨b118, 0, none⟩)), (21, Value.int .i64 (r113.2.2.1)), (22, Value.pointer (some ⟨b120, 0, none⟩)), (23, Value.int .i64 (3)), (70, Value.bool (x27_))] (List.flatten [[(b120, 26, #[Value.int .i64 (0), U (0#64), U (0#64)])], [(b118, 26, #[Value.int .i64 (r113.1), U (hi (r113.2.1)), U (lo (r113.2.1))])], [(b5, 81, #[s6, Value.int .i64 (r113.2.2.2.2)])], S15, S116]) tt ll) ?_ ?_
                · refine A_reg ?_
                  refine r_v (Value.int .i64 ((ops)[(i3_).toNat]!.2.2.1)) rfl rfl rfl rfl ?_
                  refine r_v (Value.bool (decide (((ops)[(i3_).toNat]!.2.2.1 : Int) < 1))) rfl rfl rfl rfl ?_
                  refine r_v (Value.bool (decide (((ops)[(i3_).toNat]!.2.2.1 : Int) < 1))) rfl rfl rfl rfl ?_
                  rcases hg136 : (decide (((ops)[(i3_).toNat]!.2.2.1 : Int) < 1)) with _ | _
                  · replace hM := ifn (of_decide_eq_false hg136) hM
                    refine r_y rfl ?_
                    refine r_v (Value.int .i64 ((ops)[(i3_).toNat]!.2.2.1)) rfl rfl rfl rfl ?_
                    refine r_y rfl ?_
                    refine r_v (Value.bool (decide (((ops)[(i3_).toNat]!.2.2.1 : Int) > 128))) rfl rfl rfl rfl ?_
                    refine r_v (Value.bool (decide (((ops)[(i3_).toNat]!.2.2.1 : Int) > 128))) rfl rfl rfl rfl ?_
                    refine lx_nil ?_
                    refine fg _ (Sub.pick [[(b120, 26, #[Value.int .i64 (0), U (0#64), U (0#64)])], [(b118, 26, #[Value.int .i64 (r113.1), U (hi (r113.2.1)), U (lo (r113.2.1))])], [(b30, 39, #[Value.int .i64 ((ops)[(i3_).toNat]!.1), Value.int .i64 ((ops)[(i3_).toNat]!.2.1), Value.int .i64 ((ops)[(i3_).toNat]!.2.2.1), U (hi ((ops)[(i3_).toNat]!.2.2.2.1)), U (lo ((ops)[(i3_).toNat]!.2.2.2.1)), s27])], [(b5, 81, #[s6, Value.int .i64 (r113.2.2.2.2)])], S15, S116] [0, 1, 3, 4, 5] rfl) ?_
                    exact ⟨decide (((ops)[(i3_).toNat]!.2.2.1 : Int) > 128), hM, is_mk rfl (by first | rfl | simp only [app_hl])⟩
                  · replace hM := ifp (of_decide_eq_true hg136) hM
                    refine r_n true rfl (by decide) rfl ?_
                    refine r_n true rfl (by decide) rfl ?_
                    refine r_v (Value.bool (true)) rfl rfl rfl rfl ?_
                    refine lx_nil ?_
                    refine fg _ (Sub.pick [[(b120, 26, #[Value.int .i64 (0), U (0#64), U (0#64)])], [(b118, 26, #[Value.int .i64 (r113.1), U (hi (r113.2.1)), U (lo (r113.2.1))])], [(b30, 39, #[Value.int .i64 ((ops)[(i3_).toNat]!.1), Value.int .i64 ((ops)[(i3_).toNat]!.2.1), Value.int .i64 ((ops)[(i3_).toNat]!.2.2.1), U (hi ((ops)[(i3_).toNat]!.2.2.2.1)), U (lo ((ops)[(i3_).toNat]!.2.2.2.1)), s27])], [(b5, 81, #[s6, Value.int .i64 (r113.2.2.2.2)])], S15, S116] [0, 1, 3, 4, 5] rfl) ?_
                    exact ⟨true, hM, is_mk rfl (by first | rfl | simp only [app_hl])⟩
                · clear hM; rintro t l ⟨x27_, hM, ⟨T, rfl⟩, rfl⟩
                  unfold shunterlaw03_BitsTakes_k28 at hM
                  refine A_cond (x27_) rfl (fun hc126 => ?_) (fun hc126 => ?_)
                  · replace hM := ifp hc126 hM
                    refine A_reg ?_
                    refine r_v (Value.int .i64 (9)) rfl rfl rfl rfl ?_
                    refine lx_nil ?_
                    refine fg _ (Sub.pick [[(b120, 26, #[Value.int .i64 (0), U (0#64), U (0#64)])], [(b118, 26, #[Value.int .i64 (r113.1), U (hi (r113.2.1)), U (lo (r113.2.1))])], [(b5, 81, #[s6, Value.int .i64 (r113.2.2.2.2)])], S15, S116] [0, 1, 2, 3, 4] rfl) ?_
                    exact ⟨at2_, 9, 0, (0#64) ++ (0#64), hM, is_mk rfl (by first | rfl | simp only [app_hl])⟩
                  · replace hM := ifn (Bool.eq_false_iff.1 hc126) hM
                    refine A_seq fun K127 hK127 => ?_
                    refine A_reg ?_
                    refine r_v (Value.int .i64 ((ops)[(i3_).toNat]!.2.2.1)) rfl rfl rfl rfl ?_
                    refine r_v (Value.int .i64 ((((r12).length : Int) - at2_))) rfl rfl rfl rfl ?_
                    refine r_v (Value.bool (decide (((ops)[(i3_).toNat]!.2.2.1 : Int) ≤ (((r12).length : Int) - at2_)))) rfl rfl rfl rfl ?_
                    refine lx_nil ?_
                    refine hK127 _ _ ?_; try clear hK127 K127
                    refine A_cond (decide (((ops)[(i3_).toNat]!.2.2.1 : Int) ≤ (((r12).length : Int) - at2_))) rfl (fun hc128 => ?_) (fun hc128 => ?_)
                    · replace hM := ifp (of_decide_eq_true hc128) hM
                      refine A_seq fun K129 hK129 => ?_
                      refine A_regC [(some 80, false)] (conG Try.prog [(80, fun v_ L_ U_ => ∀ u0_, shunterref03_Vec_m N (((r12).take (((at2_ + (ops)[(i3_).toNat]!.2.2.1)).toNat)).drop ((at2_).toNat)) = some u0_ → (pV (Value.agg #[Value.int .i64 (u0_.1), U (hi (u0_.2)), U (lo (u0_.2))])) v_ L_ U_)]) ?_
                      refine r_v (s14) rfl rfl rfl rfl ?_
                      refine r_v (Value.int .i64 (at2_)) rfl rfl rfl rfl ?_
                      refine r_v (Value.int .i64 (at2_)) rfl rfl rfl rfl ?_
                      refine r_v (Value.int .i64 ((ops)[(i3_).toNat]!.2.2.1)) rfl rfl rfl rfl ?_
                      replace hM := ck_some hM; obtain ⟨ck130, hM⟩ := hM
                      refine r_v (Value.int .i64 ((at2_ + (ops)[(i3_).toNat]!.2.2.1))) rfl rfl (wi64 rfl ck130.1 ck130.2) rfl ?_
                      replace hM := ck_some hM; obtain ⟨ck131, hM⟩ := hM
                      refine r_v (subA s14 ((at2_).toNat) (((at2_ + (ops)[(i3_).toNat]!.2.2.1)).toNat) 1) rfl rfl rfl (ev_v (ev_subSl rfl rfl rfl rfl rfl (Sl.shp H16) ck131)) ?_
                      replace hM := bind_sm hM; obtain ⟨r132, hr133, hM⟩ := hM
                      refine r_gv (Value.agg #[Value.int .i64 (r132.1), U (hi (r132.2)), U (lo (r132.2))]) 25 _ rfl rfl rfl (ev_callF rfl call_25 rfl) (fun own_ nw_ hs_ => shunterref03_Vec_g N (((r12).take (((at2_ + (ops)[(i3_).toNat]!.2.2.1)).toNat)).drop ((at2_).toNat)) _ hr133 hs_.view (subA s14 ((at2_).toNat) (((at2_ + (ops)[(i3_).toNat]!.2.2.1)).toNat) 1) ((rd_sub (rd_own H16 (mem_chunk (Ls := [[(b120, 26, #[Value.int .i64 (0), U (0#64), U (0#64)])], [(b118, 26, #[Value.int .i64 (r113.1), U (hi (r113.2.1)), U (lo (r113.2.1))])], [(b5, 81, #[s6, Value.int .i64 (r113.2.2.2.2)])], S15, S116]) (k := 3) rfl rfl)) (toNat_le ck131) (toNat_len ck131.2.2)) own_ nw_ hs_)) (fun _ _ v_ L_ U_ => ⟨fun h_ => h_ _ hr133, fun h_ => by intro _ e_; cases Option.some.inj (e_.symm.trans hr133); exact h_⟩) ?_
                      refine r_s (List.flatten [[(b120, 26, #[Value.int .i64 (r132.1), U (hi (r132.2)), U (lo (r132.2))])], [(b118, 26, #[Value.int .i64 (r113.1), U (hi (r113.2.1)), U (lo (r113.2.1))])], [(b5, 81, #[s6, Value.int .i64 (r113.2.2.2.2)])], S15, S116]) 0 _ _ _ (#[Value.int .i64 (0), U (0#64), U (0#64)]) (#[Value.int .i64 (r132.1), U (hi (r132.2)), U (lo (r132.2))]) (#[Value.int .i64 (r132.1), U (hi (r132.2)), U (lo (r132.2))]) rfl rfl rfl rfl (.of rfl rfl) rfl rfl ?_
                      refine lx_nil ?_
                      refine hK129 _ _ ?_; try clear hK129 K129
                      refine A_seq fun K134 hK134 => ?_
                      refine A_reg ?_
                      refine r_v (Value.int .i64 (0)) rfl rfl rfl rfl ?_
                      refine lx_nil ?_
                      refine hK134 _ _ ?_; try clear hK134 K134
                      refine A_reg ?_
                      refine r_v (Value.int .i64 (at2_)) rfl rfl rfl rfl ?_
                      refine r_v (Value.int .i64 ((ops)[(i3_).toNat]!.2.2.1)) rfl rfl rfl rfl ?_
                      replace hM := ck_some hM; obtain ⟨ck135, hM⟩ := hM
                      refine r_v (Value.int .i64 ((at2_ + (ops)[(i3_).toNat]!.2.2.1))) rfl rfl (wi64 rfl ck135.1 ck135.2) rfl ?_
                      refine r_v (Value.int .i64 ((at2_ + (ops)[(i3_).toNat]!.2.2.1))) rfl rfl rfl rfl ?_
                      refine lx_nil ?_
                      refine fg _ (Sub.pick [[(b120, 26, #[Value.int .i64 (r132.1), U (hi (r132.2)), U (lo (r132.2))])], [(b118, 26, #[Value.int .i64 (r113.1), U (hi (r113.2.1)), U (lo (r113.2.1))])], [(b5, 81, #[s6, Value.int .i64 (r113.2.2.2.2)])], S15, S116] [0, 1, 2, 3, 4] rfl) ?_
                      exact ⟨(at2_ + (ops)[(i3_).toNat]!.2.2.1), 0, r132.1, r132.2, hM, is_mk rfl rfl⟩
                    · replace hM := ifn (of_decide_eq_false hc128) hM
                      refine A_skip ?_
                      refine fg _ (Sub.pick [[(b120, 26, #[Value.int .i64 (0), U (0#64), U (0#64)])], [(b118, 26, #[Value.int .i64 (r113.1), U (hi (r113.2.1)), U (lo (r113.2.1))])], [(b5, 81, #[s6, Value.int .i64 (r113.2.2.2.2)])], S15, S116] [0, 1, 2, 3, 4] rfl) ?_
                      exact ⟨at2_, 3, 0, (0#64) ++ (0#64), hM, is_mk rfl (by first | rfl | simp only [app_hl])⟩
              · clear hM; rintro t l ⟨at23_, f24_, m25__0, m25__1, hM, ⟨T, rfl⟩, rfl⟩
                unfold shunterlaw03_BitsTakes_k26 at hM
                refine A_seq fun K121 hK121 => ?_
                refine A_reg ?_
                refine r_l (Value.agg #[Value.int .i64 (r113.1), U (hi (r113.2.1)), U (lo (r113.2.1))]) 1 _ _ _ _ rfl rfl rfl rfl rfl ?_
                refine r_l (Value.agg #[Value.int .i64 (m25__0), U (hi (m25__1)), U (lo (m25__1))]) 0 _ _ _ _ rfl rfl rfl rfl rfl ?_
                refine r_v (Value.bool (!(((r113.1) == (m25__0)) && ((r113.2.1) == (m25__1))))) rfl rfl rfl (ev_binNe rfl rfl eg_26 (eqst_26 (r113.1) (m25__0) (r113.2.1) (m25__1))) ?_
                refine r_v (Value.bool (!(((r113.1) == (m25__0)) && ((r113.2.1) == (m25__1))))) rfl rfl rfl rfl ?_
                rcases hg122 : (!(((r113.1) == (m25__0)) && ((r113.2.1) == (m25__1)))) with _ | _
                · replace hM := ifp (not_f hg122) hM
                  refine r_y rfl ?_
                  refine r_v (Value.int .i64 (r113.2.2.1)) rfl rfl rfl rfl ?_
                  refine r_y rfl ?_
                  refine r_v (Value.int .i64 (f24_)) rfl rfl rfl rfl ?_
                  refine r_y rfl ?_
                  refine r_v (Value.bool (((r113.2.2.1 : Int) != f24_))) rfl rfl rfl rfl ?_
                  refine r_v (Value.bool (((r113.2.2.1 : Int) != f24_))) rfl rfl rfl rfl ?_
                  refine lx_nil ?_
                  refine hK121 _ _ ?_; try clear hK121 K121
                  refine A_cond (((r113.2.2.1 : Int) != f24_)) rfl (fun hc123 => ?_) (fun hc123 => ?_)
                  · replace hM := ifp (bne_iff_ne.1 hc123) hM
                    refine A_seq fun K124 hK124 => ?_
                    refine A_reg ?_
                    refine r_v (Value.bool (false)) rfl rfl rfl rfl ?_
                    refine lx_nil ?_
                    refine hK124 _ _ ?_; try clear hK124 K124
                    obtain rfl := Option.some.inj hM
                    refine A_ret (fun hn => endsV (v0 := Value.bool (false)) rfl (res1 rfl))
                  · replace hM := ifn (bne_f hc123) hM
                    refine A_skip ?_
                    refine fg _ (Sub.pick [[(b120, 26, #[Value.int .i64 (m25__0), U (hi (m25__1)), U (lo (m25__1))])], [(b118, 26, #[Value.int .i64 (r113.1), U (hi (r113.2.1)), U (lo (r113.2.1))])], [(b5, 81, #[s6, Value.int .i64 (r113.2.2.2.2)])], S15, S116] [2, 3, 4] rfl) ?_
                    exact ⟨at23_, r113.2.2.2.1, r113.2.2.2.2, hM, S116, H117, is_mk rfl rfl⟩
                · replace hM := ifn (Bool.eq_false_iff.1 (not_t hg122)) hM
                  refine r_n true rfl (by decide) rfl ?_
                  refine r_n true rfl (by decide) rfl ?_
                  refine r_n true rfl (by decide) rfl ?_
                  refine r_v (Value.bool (true)) rfl rfl rfl rfl ?_
                  refine lx_nil ?_
                  refine hK121 _ _ ?_; try clear hK121 K121
                  refine A_cond true rfl (fun _ => ?_) (fun h_ => nomatch h_)
                  refine A_seq fun K125 hK125 => ?_
                  refine A_reg ?_
                  refine r_v (Value.bool (false)) rfl rfl rfl rfl ?_
                  refine lx_nil ?_
                  refine hK125 _ _ ?_; try clear hK125 K125
                  obtain rfl := Option.some.inj hM
                  refine A_ret (fun hn => endsV (v0 := Value.bool (false)) rfl (res1 rfl))
        · clear hM; rintro t l ⟨at7_, s9_, m8__1, hM, Ss9_, hs9_, ⟨T, rfl⟩, rfl⟩
          unfold shunterlaw03_BitsTakes_k10 at hM
          refine A_seq fun K34 hK34 => ?_
          refine A_regC [(some 197, false), (some 202, false)] (conG Try.prog [(197, fun v_ L_ U_ => ∀ u0_, bits_Taker_At_v1_m N s9_ m8__1 = some u0_ → (pV (Value.int .i64 (u0_))) v_ L_ U_), (202, fun v_ L_ U_ => ∀ u0_, bits_Taker_Left_v1_m N s9_ m8__1 = some u0_ → (pV (Value.int .i64 (u0_))) v_ L_ U_)]) ?_
          refine r_v (Value.pointer (some ⟨b5, 0, none⟩)) rfl rfl rfl rfl ?_
          replace hM := bind_sm hM; obtain ⟨r35, hr36, hM⟩ := hM
          refine r_gv (Value.int .i64 (r35)) 27 _ rfl rfl rfl (ev_callF rfl call_27 rfl) (fun own_ nw_ hs_ => bits_Taker_At_v1_g N s9_ m8__1 _ hr36 hs_.view b5 s6 ((rd_own hs9_ (mem_chunk (Ls := [[(b5, 81, #[s6, Value.int .i64 (m8__1)])], S15, Ss9_]) (k := 2) rfl rfl)) own_ nw_ hs_) (blk_own 0 rfl rfl own_ nw_ hs_)) (fun _ _ v_ L_ U_ => ⟨fun h_ => h_ _ hr36, fun h_ => by intro _ e_; cases Option.some.inj (e_.symm.trans hr36); exact h_⟩) ?_
          refine r_v (Value.int .i64 (at7_)) rfl rfl rfl rfl ?_
          refine r_v (Value.bool (((r35 : Int) != at7_))) rfl rfl rfl rfl ?_
          refine r_v (Value.bool (((r35 : Int) != at7_))) rfl rfl rfl rfl ?_
          rcases hg37 : (((r35 : Int) != at7_)) with _ | _
          · replace hM := ifn (bne_f hg37) hM
            refine r_y rfl ?_
            refine r_v (Value.pointer (some ⟨b5, 0, none⟩)) rfl rfl rfl rfl ?_
            refine r_y rfl ?_
            replace hM := bind_sm hM; obtain ⟨r38, hr39, hM⟩ := hM
            refine r_gv (Value.int .i64 (r38)) 28 _ rfl rfl rfl (ev_callF rfl call_28 rfl) (fun own_ nw_ hs_ => bits_Taker_Left_v1_g N s9_ m8__1 _ hr39 hs_.view b5 s6 ((rd_own hs9_ (mem_chunk (Ls := [[(b5, 81, #[s6, Value.int .i64 (m8__1)])], S15, Ss9_]) (k := 2) rfl rfl)) own_ nw_ hs_) (blk_own 0 rfl rfl own_ nw_ hs_)) (fun _ _ v_ L_ U_ => ⟨fun h_ => h_ _ hr39, fun h_ => by intro _ e_; cases Option.some.inj (e_.symm.trans hr39); exact h_⟩) ?_
            refine r_y rfl ?_
            refine r_v (s14) rfl rfl rfl rfl ?_
            refine r_y rfl ?_
            refine r_v (Value.int .i64 (((r12).length : Int))) rfl rfl rfl (ev_lenSl rfl rfl rfl (Sl.shp H16)) ?_
            refine r_y rfl ?_
            refine r_v (Value.int .i64 (at7_)) rfl rfl rfl rfl ?_
            refine r_y rfl ?_
            replace hM := ck_some hM; obtain ⟨ck40, hM⟩ := hM
            refine r_v (Value.int .i64 ((((r12).length : Int) - at7_))) rfl rfl (wi64 rfl ck40.1 ck40.2) rfl ?_
            refine r_y rfl ?_
            refine r_v (Value.bool (((r38 : Int) != (((r12).length : Int) - at7_)))) rfl rfl rfl rfl ?_
            refine r_v (Value.bool (((r38 : Int) != (((r12).length : Int) - at7_)))) rfl rfl rfl rfl ?_
            refine lx_nil ?_
            refine hK34 _ _ ?_; try clear hK34 K34
            refine A_cond (((r38 : Int) != (((r12).length : Int) - at7_))) rfl (fun hc41 => ?_) (fun hc41 => ?_)
            · replace hM := ifp (bne_iff_ne.1 hc41) hM
              refine A_seq fun K42 hK42 => ?_
              refine A_reg ?_
              refine r_v (Value.bool (false)) rfl rfl rfl rfl ?_
              refine lx_nil ?_
              refine hK42 _ _ ?_; try clear hK42 K42
              obtain rfl := Option.some.inj hM
              refine A_ret (fun hn => endsV (v0 := Value.bool (false)) rfl (res1 rfl))
            · replace hM := ifn (bne_f hc41) hM
              refine A_skip ?_
              refine hK24 _ _ ?_; try clear hK24 K24
              refine A_reg ?_
              refine r_v (Value.int .i64 (i3_)) rfl rfl rfl rfl ?_
              replace hM := ck_some hM; obtain ⟨ck43, hM⟩ := hM
              refine r_v (Value.int .i64 ((i3_ + 1))) rfl rfl (wi64 rfl ck43.1 ck43.2) rfl ?_
              refine r_v (Value.int .i64 ((i3_ + 1))) rfl rfl rfl rfl ?_
              refine lx_nil ?_
              refine fg _ (Sub.pick [[(b5, 81, #[s6, Value.int .i64 (m8__1)])], S15, Ss9_] [0, 1, 2] rfl) ?_
              exact ⟨n20 + 1, by omega, n20, at7_, (i3_ + 1), s9_, m8__1, hM, Ss9_, hs9_, is_mk rfl rfl, rfl⟩
          · replace hM := ifp (bne_iff_ne.1 hg37) hM
            refine r_n true rfl (by decide) rfl ?_
            refine r_n true rfl (by decide) rfl ?_
            refine r_n true rfl (by decide) rfl ?_
            refine r_n true rfl (by decide) rfl ?_
            refine r_n true rfl (by decide) rfl ?_
            refine r_n true rfl (by decide) rfl ?_
            refine r_n true rfl (by decide) rfl ?_
            refine r_v (Value.bool (true)) rfl rfl rfl rfl ?_
            refine lx_nil ?_
            refine hK34 _ _ ?_; try clear hK34 K34
            refine A_cond true rfl (fun _ => ?_) (fun h_ => nomatch h_)
            refine A_seq fun K44 hK44 => ?_
            refine A_reg ?_
            refine r_v (Value.bool (false)) rfl rfl rfl rfl ?_
            refine lx_nil ?_
            refine hK44 _ _ ?_; try clear hK44 K44
            obtain rfl := Option.some.inj hM
            refine A_ret (fun hn => endsV (v0 := Value.bool (false)) rfl (res1 rfl))
      · replace hM := ifn (of_decide_eq_false hc23) hM
        refine A_exit ?_
        refine hK18 _ _ ?_; try clear hK18 K18
        refine A_seq fun K137 hK137 => ?_
        refine A_reg ?_
        replace hM := bind_sm hM; obtain ⟨r138, hr139, hM⟩ := hM
        refine r_c (Value.bool (r138)) rfl _ _ (ev_callF rfl call_9 rfl) (shunterlaw03_lives_g N  _ hr139) ?_
        refine r_v (Value.bool (r138)) rfl rfl rfl rfl ?_
        refine lx_nil ?_
        refine hK137 _ _ ?_; try clear hK137 K137
        obtain rfl := Option.some.inj hM
        refine A_ret (fun hn => endsV (v0 := Value.bool (r138)) rfl (res1 rfl))
end Go.Proofs.Ytmiabhodfcidcaa
