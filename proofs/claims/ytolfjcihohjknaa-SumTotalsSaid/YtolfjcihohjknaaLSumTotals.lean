/- models of functions and their walks -/
import Derived.Test.YtolfjcihohjknaaBa
namespace Go.Proofs.Ytolfjcihohjknaa
open Go Go.RowKit Go.Eng
def shunterlaw04_SumTotals_m (N : Nat) (b : List UInt8) : Option (Bool) := if (((b).length : Int) : Int) > 20000 then (shunterlaw04_lives_m N ).bind fun r6 => some (r6) else (sum_Adder_Add_v1_m N (0 : UInt16) (0 : UInt8) false b).bind fun r11 => (shunterref04_Sum_m N b).bind fun r14 => (sum_Adder_Total_v1_m N r11.1 r11.2.1 r11.2.2).bind fun r17 => ck ((-9223372036854775808 ≤ (65535 - r14) ∧ (65535 - r14) ≤ 9223372036854775807)) (if (((r17.toNat : Nat) : Int) : Int) = (65535 - r14) then (sum_Adder_Sum_v1_m N r11.1 r11.2.1 r11.2.2).bind fun r21 => if (((r21.toNat : Nat) : Int) : Int) = r14 then (sum_Of_m N b).bind fun r24 => if (((r24.toNat : Nat) : Int) : Int) = r14 then (sum_Right_m N b).bind fun r27 => if (r27) = (((r14 : Int) == 0)) then (shunterlaw04_lives_m N ).bind fun r30 => some (r30) else some (false) else some (false) else some (false) else some (false))
set_option maxRecDepth 100000 in
set_option maxHeartbeats 400000 in
theorem shunterlaw04_SumTotals_g (N : Nat) (b : List UInt8) (r : Bool) (hM : shunterlaw04_SumTotals_m N b = some r) (ro : Addr → Option Value) (bv : Value) (hb : Rd encY ro bv b) : Does Try.prog 3 #[bv] ro [] (pV (Value.bool (r))) := by
  unfold shunterlaw04_SumTotals_m at hM
  refine does_of_A follows Try.func3 rfl 41 rfl (upd (fun _ => undef) 0 (bv)) (by funext k; match k with | 0 => rfl | k + 1 => rfl) (fun base0_ => ?_)
  refine A_seq fun K1 hK1 => ?_
  refine A_reg ?_
  refine r_v (Value.bool (false)) rfl rfl rfl rfl ?_
  refine lx_nil ?_
  refine hK1 _ _ ?_; try clear hK1 K1
  refine A_seq fun K2 hK2 => ?_
  refine A_seq fun K3 hK3 => ?_
  refine A_reg ?_
  refine r_v (bv) rfl rfl rfl rfl ?_
  refine r_v (Value.int .i64 (((b).length : Int))) rfl rfl rfl (ev_lenSl rfl rfl rfl (Rd.shp hb)) ?_
  refine r_v (Value.bool (decide ((((b).length : Int) : Int) > 20000))) rfl rfl rfl rfl ?_
  refine lx_nil ?_
  refine hK3 _ _ ?_; try clear hK3 K3
  refine A_cond (decide ((((b).length : Int) : Int) > 20000)) rfl (fun hc4 => ?_) (fun hc4 => ?_)
  · replace hM := ifp (of_decide_eq_true hc4) hM
    refine A_seq fun K5 hK5 => ?_
    refine A_reg ?_
    replace hM := bind_sm hM; obtain ⟨r6, hr7, hM⟩ := hM
    refine r_c (Value.bool (r6)) rfl _ _ (ev_callF rfl call_8 rfl) (shunterlaw04_lives_g N  _ hr7) ?_
    refine r_v (Value.bool (r6)) rfl rfl rfl rfl ?_
    refine lx_nil ?_
    refine hK5 _ _ ?_; try clear hK5 K5
    obtain rfl := Option.some.inj hM
    refine A_ret (fun hn => endsV (v0 := Value.bool (r6)) rfl (res1 rfl))
  · replace hM := ifn (of_decide_eq_false hc4) hM
    refine A_skip ?_
    refine hK2 _ _ ?_; try clear hK2 K2
    refine A_seq fun K8 hK8 => ?_
    refine A_reg ?_
    refine r_a (26, #[Value.int .u16 (0), Value.int .u8 (0), Value.bool (false)]) rfl rfl rfl (fun b9 => ?_) (.inr rfl)
    refine lx_nil ?_
    refine hK8 _ _ ?_; try clear hK8 K8
    refine A_seq fun K10 hK10 => ?_
    refine A_regC [(some 10, true)] (conG Try.prog [(10, fun v_ L_ U_ => ∀ u0_, sum_Adder_Add_v1_m N (0 : UInt16) (0 : UInt8) false b = some u0_ → (pO (List.flatten [[(b9, 26, #[Value.int .u16 (0), Value.int .u8 (0), Value.bool (false)])]]) (oE (Value.tuple #[]) [[(b9, 26, #[Value.int .u16 (((u0_.1.toNat : Nat) : Int)), Value.int .u8 (((u0_.2.1.toNat : Nat) : Int)), Value.bool (u0_.2.2)])]])) v_ L_ U_)]) ?_
    refine r_v (bv) rfl rfl rfl rfl ?_
    replace hM := bind_sm hM; obtain ⟨r11, hr12, hM⟩ := hM
    refine r_gm (Ls := [[(b9, 26, #[Value.int .u16 (0), Value.int .u8 (0), Value.bool (false)])]]) (FL := [[(b9, 26, #[Value.int .u16 (0), Value.int .u8 (0), Value.bool (false)])]]) (RL := []) [0] (oE (Value.tuple #[]) [[(b9, 26, #[Value.int .u16 (((r11.1.toNat : Nat) : Int)), Value.int .u8 (((r11.2.1.toNat : Nat) : Int)), Value.bool (r11.2.2)])]]) (some 10) 9 _ rfl rfl rfl rfl rfl (ev_callF rfl call_9 rfl) (fun own_ nw_ hn_ hs_ => sum_Adder_Add_v1_g N (0 : UInt16) (0 : UInt8) false b _ hr12 _ b9 bv (Rd.mono (ro_sans (Ls := [[(b9, 26, #[Value.int .u16 (0), Value.int .u8 (0), Value.bool (false)])]]) (is := [0]) rfl hs_) hb)) (fun _ _ v_ L_ U_ => ⟨fun h_ => h_ _ hr12, fun h_ => by intro _ e_; cases Option.some.inj (e_.symm.trans hr12); exact h_⟩) (NiceO.sub (R := ([(b9, 26, #[Value.int .u16 (0), Value.int .u8 (0), Value.bool (false)])] ++ [])) (niceE rfl) (Sub.pick [[(b9, 26, #[Value.int .u16 (0), Value.int .u8 (0), Value.bool (false)])]] [0] rfl)) ?_
    rintro _ _ ⟨rfl, rfl⟩
    refine lx_perm (Ls := [[(b9, 26, #[Value.int .u16 (((r11.1.toNat : Nat) : Int)), Value.int .u8 (((r11.2.1.toNat : Nat) : Int)), Value.bool (r11.2.2)])]]) (Ls' := [[(b9, 26, #[Value.int .u16 (((r11.1.toNat : Nat) : Int)), Value.int .u8 (((r11.2.1.toNat : Nat) : Int)), Value.bool (r11.2.2)])]]) [0] rfl rfl ?_
    refine lx_nil ?_
    refine hK10 _ _ ?_; try clear hK10 K10
    refine A_seq fun K13 hK13 => ?_
    refine A_regC [(some 12, false)] (conG Try.prog [(12, fun v_ L_ U_ => ∀ u0_, shunterref04_Sum_m N b = some u0_ → (pV (Value.int .i64 (u0_))) v_ L_ U_)]) ?_
    refine r_v (bv) rfl rfl rfl rfl ?_
    replace hM := bind_sm hM; obtain ⟨r14, hr15, hM⟩ := hM
    refine r_gv (Value.int .i64 (r14)) 10 _ rfl rfl rfl (ev_callF rfl call_10 rfl) (fun own_ nw_ hs_ => shunterref04_Sum_g N b _ hr15 hs_.view bv ((rd_ro hb) own_ nw_ hs_)) (fun _ _ v_ L_ U_ => ⟨fun h_ => h_ _ hr15, fun h_ => by intro _ e_; cases Option.some.inj (e_.symm.trans hr15); exact h_⟩) ?_
    refine r_v (Value.int .i64 (r14)) rfl rfl rfl rfl ?_
    refine lx_nil ?_
    refine hK13 _ _ ?_; try clear hK13 K13
    refine A_seq fun K16 hK16 => ?_
    refine A_regC [(some 13, false), (some 19, false), (some 26, false), (some 33, false)] (conG Try.prog [(13, fun v_ L_ U_ => ∀ u0_, sum_Adder_Total_v1_m N r11.1 r11.2.1 r11.2.2 = some u0_ → (pV (Value.int .u16 (((u0_.toNat : Nat) : Int)))) v_ L_ U_), (19, fun v_ L_ U_ => ∀ u0_, sum_Adder_Sum_v1_m N r11.1 r11.2.1 r11.2.2 = some u0_ → (pV (Value.int .u16 (((u0_.toNat : Nat) : Int)))) v_ L_ U_), (26, fun v_ L_ U_ => ∀ u0_, sum_Of_m N b = some u0_ → (pV (Value.int .u16 (((u0_.toNat : Nat) : Int)))) v_ L_ U_), (33, fun v_ L_ U_ => ∀ u0_, sum_Right_m N b = some u0_ → (pV (Value.bool (u0_))) v_ L_ U_)]) ?_
    replace hM := bind_sm hM; obtain ⟨r17, hr18, hM⟩ := hM
    refine r_gv (Value.int .u16 (((r17.toNat : Nat) : Int))) 11 _ rfl rfl rfl (ev_callF rfl call_11 rfl) (fun own_ nw_ hs_ => sum_Adder_Total_v1_g N r11.1 r11.2.1 r11.2.2 _ hr18 hs_.view b9 (blk_own 0 rfl rfl own_ nw_ hs_)) (fun _ _ v_ L_ U_ => ⟨fun h_ => h_ _ hr18, fun h_ => by intro _ e_; cases Option.some.inj (e_.symm.trans hr18); exact h_⟩) ?_
    refine r_w (Value.int .i64 (((r17.toNat : Nat) : Int))) rfl rfl (u16_i64 r17) (fun _ => rfl) ?_
    refine r_v (Value.int .i64 (r14)) rfl rfl rfl rfl ?_
    replace hM := ck_some hM; obtain ⟨ck19, hM⟩ := hM
    refine r_v (Value.int .i64 ((65535 - r14))) rfl rfl (wi64 rfl ck19.1 ck19.2) rfl ?_
    refine r_v (Value.bool (((((r17.toNat : Nat) : Int) : Int) == (65535 - r14)))) rfl rfl rfl rfl ?_
    refine r_v (Value.bool (((((r17.toNat : Nat) : Int) : Int) == (65535 - r14)))) rfl rfl rfl rfl ?_
    rcases hg20 : (((((r17.toNat : Nat) : Int) : Int) == (65535 - r14))) with _ | _
    · replace hM := ifn (ne_of_beq_false hg20) hM
      refine r_n false rfl (by decide) rfl ?_
      refine r_n false rfl (by decide) rfl ?_
      refine r_n false rfl (by decide) rfl ?_
      refine r_n false rfl (by decide) rfl ?_
      refine r_v (Value.bool (false)) rfl rfl rfl rfl ?_
      refine r_v (Value.bool (false)) rfl rfl rfl rfl ?_
      refine r_n false rfl (by decide) rfl ?_
      refine r_n false rfl (by decide) rfl ?_
      refine r_n false rfl (by decide) rfl ?_
      refine r_n false rfl (by decide) rfl ?_
      refine r_n false rfl (by decide) rfl ?_
      refine r_v (Value.bool (false)) rfl rfl rfl rfl ?_
      refine r_v (Value.bool (false)) rfl rfl rfl rfl ?_
      refine r_n false rfl (by decide) rfl ?_
      refine r_n false rfl (by decide) rfl ?_
      refine r_n false rfl (by decide) rfl ?_
      refine r_n false rfl (by decide) rfl ?_
      refine r_n false rfl (by decide) rfl ?_
      refine r_v (Value.bool (false)) rfl rfl rfl rfl ?_
      refine r_v (Value.bool (false)) rfl rfl rfl rfl ?_
      refine r_n false rfl (by decide) rfl ?_
      refine r_v (Value.bool (false)) rfl rfl rfl rfl ?_
      refine r_v (Value.bool (false)) rfl rfl rfl rfl ?_
      refine lx_nil ?_
      refine hK16 _ _ ?_; try clear hK16 K16
      refine A_gen [(2, Value.bool (false))] rfl (fun T => ?_)
      obtain rfl := Option.some.inj hM
      refine A_ret (fun hn => endsV (v0 := Value.bool (false)) rfl (res1 rfl))
    · replace hM := ifp (eq_of_beq hg20) hM
      refine r_y rfl ?_
      replace hM := bind_sm hM; obtain ⟨r21, hr22, hM⟩ := hM
      refine r_gv (Value.int .u16 (((r21.toNat : Nat) : Int))) 12 _ rfl rfl rfl (ev_callF rfl call_12 rfl) (fun own_ nw_ hs_ => sum_Adder_Sum_v1_g N r11.1 r11.2.1 r11.2.2 _ hr22 hs_.view b9 (blk_own 0 rfl rfl own_ nw_ hs_)) (fun _ _ v_ L_ U_ => ⟨fun h_ => h_ _ hr22, fun h_ => by intro _ e_; cases Option.some.inj (e_.symm.trans hr22); exact h_⟩) ?_
      refine r_y rfl ?_
      refine r_w (Value.int .i64 (((r21.toNat : Nat) : Int))) rfl rfl (u16_i64 r21) (fun _ => rfl) ?_
      refine r_y rfl ?_
      refine r_v (Value.int .i64 (r14)) rfl rfl rfl rfl ?_
      refine r_y rfl ?_
      refine r_v (Value.bool (((((r21.toNat : Nat) : Int) : Int) == r14))) rfl rfl rfl rfl ?_
      refine r_v (Value.bool (((((r21.toNat : Nat) : Int) : Int) == r14))) rfl rfl rfl rfl ?_
      refine r_v (Value.bool (((((r21.toNat : Nat) : Int) : Int) == r14))) rfl rfl rfl rfl ?_
      rcases hg23 : (((((r21.toNat : Nat) : Int) : Int) == r14)) with _ | _
      · replace hM := ifn (ne_of_beq_false hg23) hM
        refine r_n false rfl (by decide) rfl ?_
        refine r_n false rfl (by decide) rfl ?_
        refine r_n false rfl (by decide) rfl ?_
        refine r_n false rfl (by decide) rfl ?_
        refine r_n false rfl (by decide) rfl ?_
        refine r_v (Value.bool (false)) rfl rfl rfl rfl ?_
        refine r_v (Value.bool (false)) rfl rfl rfl rfl ?_
        refine r_n false rfl (by decide) rfl ?_
        refine r_n false rfl (by decide) rfl ?_
        refine r_n false rfl (by decide) rfl ?_
        refine r_n false rfl (by decide) rfl ?_
        refine r_n false rfl (by decide) rfl ?_
        refine r_v (Value.bool (false)) rfl rfl rfl rfl ?_
        refine r_v (Value.bool (false)) rfl rfl rfl rfl ?_
        refine r_n false rfl (by decide) rfl ?_
        refine r_v (Value.bool (false)) rfl rfl rfl rfl ?_
        refine r_v (Value.bool (false)) rfl rfl rfl rfl ?_
        refine lx_nil ?_
        refine hK16 _ _ ?_; try clear hK16 K16
        refine A_gen [(2, Value.bool (false))] rfl (fun T => ?_)
        obtain rfl := Option.some.inj hM
        refine A_ret (fun hn => endsV (v0 := Value.bool (false)) rfl (res1 rfl))
      · replace hM := ifp (eq_of_beq hg23) hM
        refine r_y rfl ?_
        refine r_v (bv) rfl rfl rfl rfl ?_
        refine r_y rfl ?_
        replace hM := bind_sm hM; obtain ⟨r24, hr25, hM⟩ := hM
        refine r_gv (Value.int .u16 (((r24.toNat : Nat) : Int))) 13 _ rfl rfl rfl (ev_callF rfl call_13 rfl) (fun own_ nw_ hs_ => sum_Of_g N b _ hr25 hs_.view bv ((rd_ro hb) own_ nw_ hs_)) (fun _ _ v_ L_ U_ => ⟨fun h_ => h_ _ hr25, fun h_ => by intro _ e_; cases Option.some.inj (e_.symm.trans hr25); exact h_⟩) ?_
        refine r_y rfl ?_
        refine r_w (Value.int .i64 (((r24.toNat : Nat) : Int))) rfl rfl (u16_i64 r24) (fun _ => rfl) ?_
        refine r_y rfl ?_
        refine r_v (Value.int .i64 (r14)) rfl rfl rfl rfl ?_
        refine r_y rfl ?_
        refine r_v (Value.bool (((((r24.toNat : Nat) : Int) : Int) == r14))) rfl rfl rfl rfl ?_
        refine r_v (Value.bool (((((r24.toNat : Nat) : Int) : Int) == r14))) rfl rfl rfl rfl ?_
        refine r_v (Value.bool (((((r24.toNat : Nat) : Int) : Int) == r14))) rfl rfl rfl rfl ?_
        rcases hg26 : (((((r24.toNat : Nat) : Int) : Int) == r14)) with _ | _
        · replace hM := ifn (ne_of_beq_false hg26) hM
          refine r_n false rfl (by decide) rfl ?_
          refine r_n false rfl (by decide) rfl ?_
          refine r_n false rfl (by decide) rfl ?_
          refine r_n false rfl (by decide) rfl ?_
          refine r_n false rfl (by decide) rfl ?_
          refine r_v (Value.bool (false)) rfl rfl rfl rfl ?_
          refine r_v (Value.bool (false)) rfl rfl rfl rfl ?_
          refine r_n false rfl (by decide) rfl ?_
          refine r_v (Value.bool (false)) rfl rfl rfl rfl ?_
          refine r_v (Value.bool (false)) rfl rfl rfl rfl ?_
          refine lx_nil ?_
          refine hK16 _ _ ?_; try clear hK16 K16
          refine A_gen [(2, Value.bool (false))] rfl (fun T => ?_)
          obtain rfl := Option.some.inj hM
          refine A_ret (fun hn => endsV (v0 := Value.bool (false)) rfl (res1 rfl))
        · replace hM := ifp (eq_of_beq hg26) hM
          refine r_y rfl ?_
          refine r_v (bv) rfl rfl rfl rfl ?_
          refine r_y rfl ?_
          replace hM := bind_sm hM; obtain ⟨r27, hr28, hM⟩ := hM
          refine r_gv (Value.bool (r27)) 14 _ rfl rfl rfl (ev_callF rfl call_14 rfl) (fun own_ nw_ hs_ => sum_Right_g N b _ hr28 hs_.view bv ((rd_ro hb) own_ nw_ hs_)) (fun _ _ v_ L_ U_ => ⟨fun h_ => h_ _ hr28, fun h_ => by intro _ e_; cases Option.some.inj (e_.symm.trans hr28); exact h_⟩) ?_
          refine r_y rfl ?_
          refine r_v (Value.int .i64 (r14)) rfl rfl rfl rfl ?_
          refine r_y rfl ?_
          refine r_v (Value.bool (((r14 : Int) == 0))) rfl rfl rfl rfl ?_
          refine r_y rfl ?_
          refine r_v (Value.bool ((r27) == (((r14 : Int) == 0)))) rfl rfl rfl (ev_binB rfl rfl rfl) ?_
          refine r_v (Value.bool ((r27) == (((r14 : Int) == 0)))) rfl rfl rfl rfl ?_
          refine r_v (Value.bool ((r27) == (((r14 : Int) == 0)))) rfl rfl rfl rfl ?_
          rcases hg29 : ((r27) == (((r14 : Int) == 0))) with _ | _
          · replace hM := ifn (ne_of_beq_false hg29) hM
            refine r_n false rfl (by decide) rfl ?_
            refine r_v (Value.bool (false)) rfl rfl rfl rfl ?_
            refine r_v (Value.bool (false)) rfl rfl rfl rfl ?_
            refine lx_nil ?_
            refine hK16 _ _ ?_; try clear hK16 K16
            refine A_gen [(2, Value.bool (false))] rfl (fun T => ?_)
            obtain rfl := Option.some.inj hM
            refine A_ret (fun hn => endsV (v0 := Value.bool (false)) rfl (res1 rfl))
          · replace hM := ifp (eq_of_beq hg29) hM
            refine r_y rfl ?_
            replace hM := bind_sm hM; obtain ⟨r30, hr31, hM⟩ := hM
            refine r_c (Value.bool (r30)) rfl _ _ (ev_callF rfl call_8 rfl) (shunterlaw04_lives_g N  _ hr31) ?_
            refine r_v (Value.bool (r30)) rfl rfl rfl rfl ?_
            refine r_v (Value.bool (r30)) rfl rfl rfl rfl ?_
            refine lx_nil ?_
            refine hK16 _ _ ?_; try clear hK16 K16
            refine A_gen [(2, Value.bool (r30))] rfl (fun T => ?_)
            obtain rfl := Option.some.inj hM
            refine A_ret (fun hn => endsV (v0 := Value.bool (r30)) rfl (res1 rfl))
end Go.Proofs.Ytolfjcihohjknaa
