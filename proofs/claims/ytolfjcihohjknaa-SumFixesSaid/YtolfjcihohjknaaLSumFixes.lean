/- models of functions and their walks -/
import Derived.Test.YtolfjcihohjknaaBa
namespace Go.Proofs.Ytolfjcihohjknaa
open Go Go.RowKit Go.Eng
def shunterlaw04_SumFixes_l3 (N : Nat) (b : List UInt8) (at' : Int) (r9 : UInt16 × Bool) (r12 : (List UInt8) × Bool) : Nat → Int → Option (Bool)
  | 0, _ => none
  | n31 + 1, i2_ => if (i2_ : Int) < ((b).length : Int) then if (i2_ : Int) ≠ at' then ck ((-9223372036854775808 ≤ (at' + 1) ∧ (at' + 1) ≤ 9223372036854775807)) (if (i2_ : Int) ≠ (at' + 1) then ck (0 ≤ i2_ ∧ i2_ < ((r12.1).length : Int)) (ck (0 ≤ i2_ ∧ i2_ < ((b).length : Int)) (if (((((r12.1)[(i2_).toNat]!).toNat : Nat) : Int) : Int) ≠ ((((b)[(i2_).toNat]!).toNat : Nat) : Int) then some (false) else ck ((-9223372036854775808 ≤ (i2_ + 1) ∧ (i2_ + 1) ≤ 9223372036854775807)) ((shunterlaw04_SumFixes_l3 N b at' r9 r12 n31) ((i2_ + 1))))) else ck ((-9223372036854775808 ≤ (i2_ + 1) ∧ (i2_ + 1) ≤ 9223372036854775807)) ((shunterlaw04_SumFixes_l3 N b at' r9 r12 n31) ((i2_ + 1)))) else ck ((-9223372036854775808 ≤ (i2_ + 1) ∧ (i2_ + 1) ≤ 9223372036854775807)) ((shunterlaw04_SumFixes_l3 N b at' r9 r12 n31) ((i2_ + 1))) else ck (0 ≤ at' ∧ at' < ((r12.1).length : Int)) (ck (0 ≤ ((r9.1.toNat : Nat) : Int) ∧ ((r9.1.toNat : Nat) : Int) ≤ 9223372036854775807) (if (((((r12.1)[(at').toNat]!).toNat : Nat) : Int) : Int) = (((r9.1.toNat : Nat) : Int)) / 256 then ck ((-9223372036854775808 ≤ (at' + 1) ∧ (at' + 1) ≤ 9223372036854775807)) (ck (0 ≤ (at' + 1) ∧ (at' + 1) < ((r12.1).length : Int)) (ck (0 ≤ ((r9.1.toNat : Nat) : Int) ∧ ((r9.1.toNat : Nat) : Int) ≤ 9223372036854775807) (if (((((r12.1)[((at' + 1)).toNat]!).toNat : Nat) : Int) : Int) = (((r9.1.toNat : Nat) : Int)) % 256 then (shunterlaw04_lives_m N ).bind fun r55 => some (r55) else some (false)))) else some (false)))
def shunterlaw04_SumFixes_k1 (N : Nat) (b : List UInt8) (at' : Int) (r9 : UInt16 × Bool) (r12 : (List UInt8) × Bool) : Option (Bool) := shunterlaw04_SumFixes_l3 N b at' r9 r12 N (0)
def shunterlaw04_SumFixes_m (N : Nat) (b : List UInt8) (at' : Int) : Option (Bool) := if (((b).length : Int) : Int) > 2000 then (shunterlaw04_lives_m N ).bind fun r6 => some (r6) else (sum_Without_m N b at').bind fun r9 => (sum_Fix_m N b at').bind fun r12 => (shunterref04_Place_m N b at').bind fun r19 => if (r19) = true then if (r9.2) = true then if (r12.2) = true then (shunterref04_Without_m N b at').bind fun r60 => if (((r9.1.toNat : Nat) : Int) : Int) ≠ r60 then some (false) else if (((r12.1).length : Int) : Int) ≠ ((b).length : Int) then some (false) else (sum_Right_m N r12.1).bind fun r64 => if (r64) = true then shunterlaw04_SumFixes_k1 N b at' r9 r12  else some (false) else some (false) else some (false) else if (((r9.1.toNat : Nat) : Int) : Int) = 0 then if (r9.2) = true then some (false) else if (((r12.1).length : Int) : Int) = 0 then if (r12.2) = true then some (false) else (shunterlaw04_lives_m N ).bind fun r27 => some (r27) else some (false) else some (false)
set_option maxRecDepth 100000 in
set_option maxHeartbeats 400000 in
theorem shunterlaw04_SumFixes_g (N : Nat) (b : List UInt8) (at' : Int) (r : Bool) (hM : shunterlaw04_SumFixes_m N b at' = some r) (ro : Addr → Option Value) (bv : Value) (hb : Rd encY ro bv b) : Does Try.prog 5 #[bv, Value.int .i64 (at')] ro [] (pV (Value.bool (r))) := by
  unfold shunterlaw04_SumFixes_m at hM
  refine does_of_A follows Try.func5 rfl 124 rfl (upd (upd (fun _ => undef) 1 (Value.int .i64 (at'))) 0 (bv)) (by funext k; match k with | 0 => rfl | 1 => rfl | k + 2 => rfl) (fun base0_ => ?_)
  refine A_seq fun K1 hK1 => ?_
  refine A_reg ?_
  refine r_v (Value.bool (false)) rfl rfl rfl rfl ?_
  refine lx_nil ?_
  refine hK1 _ _ ?_; try clear hK1 K1
  refine A_seq fun K2 hK2 => ?_
  refine A_seq fun K3 hK3 => ?_
  refine A_reg ?_
  refine r_v (bv) rfl rfl rfl rfl ?_
  refine r_v (Value.int .i64 (((b).length : Int))) rfl rfl rfl (ev_lenSl rfl rfl rfl (Rd.shp hb)) ?_
  refine r_v (Value.bool (decide ((((b).length : Int) : Int) > 2000))) rfl rfl rfl rfl ?_
  refine lx_nil ?_
  refine hK3 _ _ ?_; try clear hK3 K3
  refine A_cond (decide ((((b).length : Int) : Int) > 2000)) rfl (fun hc4 => ?_) (fun hc4 => ?_)
  · replace hM := ifp (of_decide_eq_true hc4) hM
    refine A_seq fun K5 hK5 => ?_
    refine A_reg ?_
    replace hM := bind_sm hM; obtain ⟨r6, hr7, hM⟩ := hM
    refine r_c (Value.bool (r6)) rfl _ _ (ev_callF rfl call_8 rfl) (shunterlaw04_lives_g N  _ hr7) ?_
    refine r_v (Value.bool (r6)) rfl rfl rfl rfl ?_
    refine lx_nil ?_
    refine hK5 _ _ ?_; try clear hK5 K5
    obtain rfl := Option.some.inj hM
    refine A_ret (fun hn => endsV (v0 := Value.bool (r6)) rfl (res1 rfl))
  · replace hM := ifn (of_decide_eq_false hc4) hM
    refine A_skip ?_
    refine hK2 _ _ ?_; try clear hK2 K2
    refine A_seq fun K8 hK8 => ?_
    refine A_regC [(some 17, false)] (conG Try.prog [(17, fun v_ L_ U_ => ∀ u0_, sum_Without_m N b at' = some u0_ → (pV (Value.tuple #[Value.int .u16 (((u0_.1.toNat : Nat) : Int)), Value.bool (u0_.2)])) v_ L_ U_)]) ?_
    refine r_v (bv) rfl rfl rfl rfl ?_
    refine r_v (Value.int .i64 (at')) rfl rfl rfl rfl ?_
    replace hM := bind_sm hM; obtain ⟨r9, hr10, hM⟩ := hM
    refine r_gv (Value.tuple #[Value.int .u16 (((r9.1.toNat : Nat) : Int)), Value.bool (r9.2)]) 15 _ rfl rfl rfl (ev_callF rfl call_15 rfl) (fun own_ nw_ hs_ => sum_Without_g N b at' _ hr10 hs_.view bv ((rd_ro hb) own_ nw_ hs_)) (fun _ _ v_ L_ U_ => ⟨fun h_ => h_ _ hr10, fun h_ => by intro _ e_; cases Option.some.inj (e_.symm.trans hr10); exact h_⟩) ?_
    refine r_v (Value.tuple #[Value.int .u16 (((r9.1.toNat : Nat) : Int)), Value.bool (r9.2)]) rfl rfl rfl rfl ?_
    refine r_v (Value.int .u16 (((r9.1.toNat : Nat) : Int))) rfl rfl rfl rfl ?_
    refine r_v (Value.bool (r9.2)) rfl rfl rfl rfl ?_
    refine r_v (Value.int .u16 (((r9.1.toNat : Nat) : Int))) rfl rfl rfl rfl ?_
    refine r_v (Value.bool (r9.2)) rfl rfl rfl rfl ?_
    refine lx_nil ?_
    refine hK8 _ _ ?_; try clear hK8 K8
    refine A_seq fun K11 hK11 => ?_
    refine A_regC [(some 23, false)] (conG Try.prog [(23, fun v_ L_ U_ => ∀ u0_, sum_Fix_m N b at' = some u0_ → (p1 (fun s_ => Value.tuple #[s_, Value.bool (u0_.2)]) 5 encY (u0_.1)) v_ L_ U_)]) ?_
    refine r_v (bv) rfl rfl rfl rfl ?_
    refine r_v (Value.int .i64 (at')) rfl rfl rfl rfl ?_
    replace hM := bind_sm hM; obtain ⟨r12, hr13, hM⟩ := hM
    refine r_g1 (Ls := []) (fun s14 => Value.tuple #[s14, Value.bool (r12.2)]) 5 encY (r12.1) 16 _ rfl rfl rfl (ev_callF rfl call_16 rfl) (fun own_ nw_ hs_ => sum_Fix_g N b at' _ hr13 hs_.view bv ((rd_ro hb) own_ nw_ hs_)) (fun _ _ v_ L_ U_ => ⟨fun h_ => h_ _ hr13, fun h_ => by intro _ e_; cases Option.some.inj (e_.symm.trans hr13); exact h_⟩) (fun s14 S15 H16 => ?_)
    refine r_v (Value.tuple #[s14, Value.bool (r12.2)]) rfl rfl rfl rfl ?_
    refine r_v (s14) rfl rfl rfl rfl ?_
    refine r_v (Value.bool (r12.2)) rfl rfl rfl rfl ?_
    refine r_v (s14) rfl rfl rfl rfl ?_
    refine r_v (Value.bool (r12.2)) rfl rfl rfl rfl ?_
    refine lx_nil ?_
    refine hK11 _ _ ?_; try clear hK11 K11
    refine A_seq fun K17 hK17 => ?_
    refine A_seq fun K18 hK18 => ?_
    refine A_regC [(some 28, false)] (conG Try.prog [(28, fun v_ L_ U_ => ∀ u0_, shunterref04_Place_m N b at' = some u0_ → (pV (Value.bool (u0_))) v_ L_ U_)]) ?_
    refine r_v (bv) rfl rfl rfl rfl ?_
    refine r_v (Value.int .i64 (at')) rfl rfl rfl rfl ?_
    replace hM := bind_sm hM; obtain ⟨r19, hr20, hM⟩ := hM
    refine r_gv (Value.bool (r19)) 17 _ rfl rfl rfl (ev_callF rfl call_17 rfl) (fun own_ nw_ hs_ => shunterref04_Place_g N b at' _ hr20 hs_.view bv ((rd_ro hb) own_ nw_ hs_)) (fun _ _ v_ L_ U_ => ⟨fun h_ => h_ _ hr20, fun h_ => by intro _ e_; cases Option.some.inj (e_.symm.trans hr20); exact h_⟩) ?_
    refine r_v (Value.bool (!(r19))) rfl rfl rfl rfl ?_
    refine lx_nil ?_
    refine hK18 _ _ ?_; try clear hK18 K18
    refine A_cond (!(r19)) rfl (fun hc21 => ?_) (fun hc21 => ?_)
    · replace hM := ifn (Bool.eq_false_iff.1 (not_t hc21)) hM
      refine A_seq fun K22 hK22 => ?_
      refine A_reg ?_
      refine r_v (Value.int .u16 (((r9.1.toNat : Nat) : Int))) rfl rfl rfl rfl ?_
      refine r_v (Value.bool (((((r9.1.toNat : Nat) : Int) : Int) == 0))) rfl rfl rfl rfl ?_
      refine r_v (Value.bool (((((r9.1.toNat : Nat) : Int) : Int) == 0))) rfl rfl rfl rfl ?_
      rcases hg23 : (((((r9.1.toNat : Nat) : Int) : Int) == 0)) with _ | _
      · replace hM := ifn (ne_of_beq_false hg23) hM
        refine r_n false rfl (by decide) rfl ?_
        refine r_n false rfl (by decide) rfl ?_
        refine r_v (Value.bool (false)) rfl rfl rfl rfl ?_
        refine r_v (Value.bool (false)) rfl rfl rfl rfl ?_
        refine r_n false rfl (by decide) rfl ?_
        refine r_n false rfl (by decide) rfl ?_
        refine r_n false rfl (by decide) rfl ?_
        refine r_v (Value.bool (false)) rfl rfl rfl rfl ?_
        refine r_v (Value.bool (false)) rfl rfl rfl rfl ?_
        refine r_n false rfl (by decide) rfl ?_
        refine r_n false rfl (by decide) rfl ?_
        refine r_v (Value.bool (false)) rfl rfl rfl rfl ?_
        refine r_v (Value.bool (false)) rfl rfl rfl rfl ?_
        refine r_n false rfl (by decide) rfl ?_
        refine r_v (Value.bool (false)) rfl rfl rfl rfl ?_
        refine r_v (Value.bool (false)) rfl rfl rfl rfl ?_
        refine lx_nil ?_
        refine hK22 _ _ ?_; try clear hK22 K22
        refine A_gen [(4, Value.bool (false))] rfl (fun T => ?_)
        obtain rfl := Option.some.inj hM
        refine A_ret (fun hn => endsV (v0 := Value.bool (false)) rfl (res1 rfl))
      · replace hM := ifp (eq_of_beq hg23) hM
        refine r_y rfl ?_
        refine r_v (Value.bool (r9.2)) rfl rfl rfl rfl ?_
        refine r_y rfl ?_
        refine r_v (Value.bool (!(r9.2))) rfl rfl rfl rfl ?_
        refine r_v (Value.bool (!(r9.2))) rfl rfl rfl rfl ?_
        refine r_v (Value.bool (!(r9.2))) rfl rfl rfl rfl ?_
        rcases hg24 : (!(r9.2)) with _ | _
        · replace hM := ifp (not_f hg24) hM
          refine r_n false rfl (by decide) rfl ?_
          refine r_n false rfl (by decide) rfl ?_
          refine r_n false rfl (by decide) rfl ?_
          refine r_v (Value.bool (false)) rfl rfl rfl rfl ?_
          refine r_v (Value.bool (false)) rfl rfl rfl rfl ?_
          refine r_n false rfl (by decide) rfl ?_
          refine r_n false rfl (by decide) rfl ?_
          refine r_v (Value.bool (false)) rfl rfl rfl rfl ?_
          refine r_v (Value.bool (false)) rfl rfl rfl rfl ?_
          refine r_n false rfl (by decide) rfl ?_
          refine r_v (Value.bool (false)) rfl rfl rfl rfl ?_
          refine r_v (Value.bool (false)) rfl rfl rfl rfl ?_
          refine lx_nil ?_
          refine hK22 _ _ ?_; try clear hK22 K22
          refine A_gen [(4, Value.bool (false))] rfl (fun T => ?_)
          obtain rfl := Option.some.inj hM
          refine A_ret (fun hn => endsV (v0 := Value.bool (false)) rfl (res1 rfl))
        · replace hM := ifn (Bool.eq_false_iff.1 (not_t hg24)) hM
          refine r_y rfl ?_
          refine r_v (s14) rfl rfl rfl rfl ?_
          refine r_y rfl ?_
          refine r_v (Value.int .i64 (((r12.1).length : Int))) rfl rfl rfl (ev_lenSl rfl rfl rfl (Sl.shp H16)) ?_
          refine r_y rfl ?_
          refine r_v (Value.bool (((((r12.1).length : Int) : Int) == 0))) rfl rfl rfl rfl ?_
          refine r_v (Value.bool (((((r12.1).length : Int) : Int) == 0))) rfl rfl rfl rfl ?_
          refine r_v (Value.bool (((((r12.1).length : Int) : Int) == 0))) rfl rfl rfl rfl ?_
          rcases hg25 : (((((r12.1).length : Int) : Int) == 0)) with _ | _
          · replace hM := ifn (ne_of_beq_false hg25) hM
            refine r_n false rfl (by decide) rfl ?_
            refine r_n false rfl (by decide) rfl ?_
            refine r_v (Value.bool (false)) rfl rfl rfl rfl ?_
            refine r_v (Value.bool (false)) rfl rfl rfl rfl ?_
            refine r_n false rfl (by decide) rfl ?_
            refine r_v (Value.bool (false)) rfl rfl rfl rfl ?_
            refine r_v (Value.bool (false)) rfl rfl rfl rfl ?_
            refine lx_nil ?_
            refine hK22 _ _ ?_; try clear hK22 K22
            refine A_gen [(4, Value.bool (false))] rfl (fun T => ?_)
            obtain rfl := Option.some.inj hM
            refine A_ret (fun hn => endsV (v0 := Value.bool (false)) rfl (res1 rfl))
          · replace hM := ifp (eq_of_beq hg25) hM
            refine r_y rfl ?_
            refine r_v (Value.bool (r12.2)) rfl rfl rfl rfl ?_
            refine r_y rfl ?_
            refine r_v (Value.bool (!(r12.2))) rfl rfl rfl rfl ?_
            refine r_v (Value.bool (!(r12.2))) rfl rfl rfl rfl ?_
            refine r_v (Value.bool (!(r12.2))) rfl rfl rfl rfl ?_
            rcases hg26 : (!(r12.2)) with _ | _
            · replace hM := ifp (not_f hg26) hM
              refine r_n false rfl (by decide) rfl ?_
              refine r_v (Value.bool (false)) rfl rfl rfl rfl ?_
              refine r_v (Value.bool (false)) rfl rfl rfl rfl ?_
              refine lx_nil ?_
              refine hK22 _ _ ?_; try clear hK22 K22
              refine A_gen [(4, Value.bool (false))] rfl (fun T => ?_)
              obtain rfl := Option.some.inj hM
              refine A_ret (fun hn => endsV (v0 := Value.bool (false)) rfl (res1 rfl))
            · replace hM := ifn (Bool.eq_false_iff.1 (not_t hg26)) hM
              refine r_y rfl ?_
              replace hM := bind_sm hM; obtain ⟨r27, hr28, hM⟩ := hM
              refine r_c (Value.bool (r27)) rfl _ _ (ev_callF rfl call_8 rfl) (shunterlaw04_lives_g N  _ hr28) ?_
              refine r_v (Value.bool (r27)) rfl rfl rfl rfl ?_
              refine r_v (Value.bool (r27)) rfl rfl rfl rfl ?_
              refine lx_nil ?_
              refine hK22 _ _ ?_; try clear hK22 K22
              refine A_gen [(4, Value.bool (r27))] rfl (fun T => ?_)
              obtain rfl := Option.some.inj hM
              refine A_ret (fun hn => endsV (v0 := Value.bool (r27)) rfl (res1 rfl))
    · replace hM := ifp (not_f hc21) hM
      refine A_skip ?_
      refine hK17 _ _ ?_; try clear hK17 K17
      refine A_cut (fun tt ll => (shunterlaw04_SumFixes_k1 N b at' r9 r12  = some r) ∧ Is [(0, bv), (1, Value.int .i64 (at')), (5, Value.int .u16 (((r9.1.toNat : Nat) : Int))), (7, s14)] (List.flatten [S15]) tt ll) ?_ ?_
      · refine A_seq fun K57 hK57 => ?_
        refine A_regC [(some 59, false), (some 71, false)] (conG Try.prog [(59, fun v_ L_ U_ => ∀ u0_, shunterref04_Without_m N b at' = some u0_ → (pV (Value.int .i64 (u0_))) v_ L_ U_), (71, fun v_ L_ U_ => ∀ u0_, sum_Right_m N r12.1 = some u0_ → (pV (Value.bool (u0_))) v_ L_ U_)]) ?_
        refine r_v (Value.bool (r9.2)) rfl rfl rfl rfl ?_
        refine r_v (Value.bool (!(r9.2))) rfl rfl rfl rfl ?_
        refine r_v (Value.bool (!(r9.2))) rfl rfl rfl rfl ?_
        rcases hg58 : (!(r9.2)) with _ | _
        · replace hM := ifp (not_f hg58) hM
          refine r_y rfl ?_
          refine r_v (Value.bool (r12.2)) rfl rfl rfl rfl ?_
          refine r_y rfl ?_
          refine r_v (Value.bool (!(r12.2))) rfl rfl rfl rfl ?_
          refine r_v (Value.bool (!(r12.2))) rfl rfl rfl rfl ?_
          refine r_v (Value.bool (!(r12.2))) rfl rfl rfl rfl ?_
          rcases hg59 : (!(r12.2)) with _ | _
          · replace hM := ifp (not_f hg59) hM
            refine r_y rfl ?_
            refine r_v (Value.int .u16 (((r9.1.toNat : Nat) : Int))) rfl rfl rfl rfl ?_
            refine r_y rfl ?_
            refine r_w (Value.int .i64 (((r9.1.toNat : Nat) : Int))) rfl rfl (u16_i64 r9.1) (fun _ => rfl) ?_
            refine r_y rfl ?_
            refine r_v (bv) rfl rfl rfl rfl ?_
            refine r_y rfl ?_
            refine r_v (Value.int .i64 (at')) rfl rfl rfl rfl ?_
            refine r_y rfl ?_
            replace hM := bind_sm hM; obtain ⟨r60, hr61, hM⟩ := hM
            refine r_gv (Value.int .i64 (r60)) 18 _ rfl rfl rfl (ev_callF rfl call_18 rfl) (fun own_ nw_ hs_ => shunterref04_Without_g N b at' _ hr61 hs_.view bv ((rd_ro hb) own_ nw_ hs_)) (fun _ _ v_ L_ U_ => ⟨fun h_ => h_ _ hr61, fun h_ => by intro _ e_; cases Option.some.inj (e_.symm.trans hr61); exact h_⟩) ?_
            refine r_y rfl ?_
            refine r_v (Value.bool (((((r9.1.toNat : Nat) : Int) : Int) != r60))) rfl rfl rfl rfl ?_
            refine r_v (Value.bool (((((r9.1.toNat : Nat) : Int) : Int) != r60))) rfl rfl rfl rfl ?_
            refine r_v (Value.bool (((((r9.1.toNat : Nat) : Int) : Int) != r60))) rfl rfl rfl rfl ?_
            rcases hg62 : (((((r9.1.toNat : Nat) : Int) : Int) != r60)) with _ | _
            · replace hM := ifn (bne_f hg62) hM
              refine r_y rfl ?_
              refine r_v (s14) rfl rfl rfl rfl ?_
              refine r_y rfl ?_
              refine r_v (Value.int .i64 (((r12.1).length : Int))) rfl rfl rfl (ev_lenSl rfl rfl rfl (Sl.shp H16)) ?_
              refine r_y rfl ?_
              refine r_v (bv) rfl rfl rfl rfl ?_
              refine r_y rfl ?_
              refine r_v (Value.int .i64 (((b).length : Int))) rfl rfl rfl (ev_lenSl rfl rfl rfl (Rd.shp hb)) ?_
              refine r_y rfl ?_
              refine r_v (Value.bool (((((r12.1).length : Int) : Int) != ((b).length : Int)))) rfl rfl rfl rfl ?_
              refine r_v (Value.bool (((((r12.1).length : Int) : Int) != ((b).length : Int)))) rfl rfl rfl rfl ?_
              refine r_v (Value.bool (((((r12.1).length : Int) : Int) != ((b).length : Int)))) rfl rfl rfl rfl ?_
              rcases hg63 : (((((r12.1).length : Int) : Int) != ((b).length : Int))) with _ | _
              · replace hM := ifn (bne_f hg63) hM
                refine r_y rfl ?_
                refine r_v (s14) rfl rfl rfl rfl ?_
                refine r_y rfl ?_
                replace hM := bind_sm hM; obtain ⟨r64, hr65, hM⟩ := hM
                refine r_gv (Value.bool (r64)) 14 _ rfl rfl rfl (ev_callF rfl call_14 rfl) (fun own_ nw_ hs_ => sum_Right_g N r12.1 _ hr65 hs_.view s14 ((rd_own H16 (mem_chunk (Ls := [S15]) (k := 0) rfl rfl)) own_ nw_ hs_)) (fun _ _ v_ L_ U_ => ⟨fun h_ => h_ _ hr65, fun h_ => by intro _ e_; cases Option.some.inj (e_.symm.trans hr65); exact h_⟩) ?_
                refine r_y rfl ?_
                refine r_v (Value.bool (!(r64))) rfl rfl rfl rfl ?_
                refine r_v (Value.bool (!(r64))) rfl rfl rfl rfl ?_
                refine lx_nil ?_
                refine hK57 _ _ ?_; try clear hK57 K57
                refine A_gen [(0, bv), (1, Value.int .i64 (at')), (5, Value.int .u16 (((r9.1.toNat : Nat) : Int))), (7, s14), (73, Value.bool (!(r64)))] rfl (fun T => ?_)
                refine A_cond (!(r64)) rfl (fun hc66 => ?_) (fun hc66 => ?_)
                · replace hM := ifn (Bool.eq_false_iff.1 (not_t hc66)) hM
                  refine A_seq fun K67 hK67 => ?_
                  refine A_reg ?_
                  refine r_v (Value.bool (false)) rfl rfl rfl rfl ?_
                  refine lx_nil ?_
                  refine hK67 _ _ ?_; try clear hK67 K67
                  obtain rfl := Option.some.inj hM
                  refine A_ret (fun hn => endsV (v0 := Value.bool (false)) rfl (res1 rfl))
                · replace hM := ifp (not_f hc66) hM
                  refine A_skip ?_
                  refine fg _ (Sub.pick [S15] [0] rfl) ?_
                  exact ⟨hM, is_mk rfl rfl⟩
              · replace hM := ifp (bne_iff_ne.1 hg63) hM
                refine r_n true rfl (by decide) rfl ?_
                refine r_n true rfl (by decide) rfl ?_
                refine r_n true rfl (by decide) rfl ?_
                refine r_v (Value.bool (true)) rfl rfl rfl rfl ?_
                refine lx_nil ?_
                refine hK57 _ _ ?_; try clear hK57 K57
                refine A_gen [(0, bv), (1, Value.int .i64 (at')), (5, Value.int .u16 (((r9.1.toNat : Nat) : Int))), (7, s14), (73, Value.bool (true))] rfl (fun T => ?_)
                refine A_cond true rfl (fun _ => ?_) (fun h_ => nomatch h_)
                refine A_seq fun K68 hK68 => ?_
                refine A_reg ?_
                refine r_v (Value.bool (false)) rfl rfl rfl rfl ?_
                refine lx_nil ?_
                refine hK68 _ _ ?_; try clear hK68 K68
                obtain rfl := Option.some.inj hM
                refine A_ret (fun hn => endsV (v0 := Value.bool (false)) rfl (res1 rfl))
            · replace hM := ifp (bne_iff_ne.1 hg62) hM
              refine r_n true rfl (by decide) rfl ?_
              refine r_n true rfl (by decide) rfl ?_
              refine r_n true rfl (by decide) rfl ?_
              refine r_n true rfl (by decide) rfl ?_
              refine r_n true rfl (by decide) rfl ?_
              refine r_v (Value.bool (true)) rfl rfl rfl rfl ?_
              refine r_v (Value.bool (true)) rfl rfl rfl rfl ?_
              refine r_n true rfl (by decide) rfl ?_
              refine r_n true rfl (by decide) rfl ?_
              refine r_n true rfl (by decide) rfl ?_
              refine r_v (Value.bool (true)) rfl rfl rfl rfl ?_
              refine lx_nil ?_
              refine hK57 _ _ ?_; try clear hK57 K57
              refine A_gen [(0, bv), (1, Value.int .i64 (at')), (5, Value.int .u16 (((r9.1.toNat : Nat) : Int))), (7, s14), (73, Value.bool (true))] rfl (fun T => ?_)
              refine A_cond true rfl (fun _ => ?_) (fun h_ => nomatch h_)
              refine A_seq fun K69 hK69 => ?_
              refine A_reg ?_
              refine r_v (Value.bool (false)) rfl rfl rfl rfl ?_
              refine lx_nil ?_
              refine hK69 _ _ ?_; try clear hK69 K69
              obtain rfl := Option.some.inj hM
              refine A_ret (fun hn => endsV (v0 := Value.bool (false)) rfl (res1 rfl))
          · replace hM := ifn (Bool.eq_false_iff.1 (not_t hg59)) hM
            refine r_n true rfl (by decide) rfl ?_
            refine r_n true rfl (by decide) rfl ?_
            refine r_n true rfl (by decide) rfl ?_
            refine r_n true rfl (by decide) rfl ?_
            refine r_n true rfl (by decide) rfl ?_
            refine r_n true rfl (by decide) rfl ?_
            refine r_v (Value.bool (true)) rfl rfl rfl rfl ?_
            refine r_v (Value.bool (true)) rfl rfl rfl rfl ?_
            refine r_n true rfl (by decide) rfl ?_
            refine r_n true rfl (by decide) rfl ?_
            refine r_n true rfl (by decide) rfl ?_
            refine r_n true rfl (by decide) rfl ?_
            refine r_n true rfl (by decide) rfl ?_
            refine r_v (Value.bool (true)) rfl rfl rfl rfl ?_
            refine r_v (Value.bool (true)) rfl rfl rfl rfl ?_
            refine r_n true rfl (by decide) rfl ?_
            refine r_n true rfl (by decide) rfl ?_
            refine r_n true rfl (by decide) rfl ?_
            refine r_v (Value.bool (true)) rfl rfl rfl rfl ?_
            refine lx_nil ?_
            refine hK57 _ _ ?_; try clear hK57 K57
            refine A_gen [(0, bv), (1, Value.int .i64 (at')), (5, Value.int .u16 (((r9.1.toNat : Nat) : Int))), (7, s14), (73, Value.bool (true))] rfl (fun T => ?_)
            refine A_cond true rfl (fun _ => ?_) (fun h_ => nomatch h_)
            refine A_seq fun K70 hK70 => ?_
            refine A_reg ?_
            refine r_v (Value.bool (false)) rfl rfl rfl rfl ?_
            refine lx_nil ?_
            refine hK70 _ _ ?_; try clear hK70 K70
            obtain rfl := Option.some.inj hM
            refine A_ret (fun hn => endsV (v0 := Value.bool (false)) rfl (res1 rfl))
        · replace hM := ifn (Bool.eq_false_iff.1 (not_t hg58)) hM
          refine r_n true rfl (by decide) rfl ?_
          refine r_n true rfl (by decide) rfl ?_
          refine r_v (Value.bool (true)) rfl rfl rfl rfl ?_
          refine r_v (Value.bool (true)) rfl rfl rfl rfl ?_
          refine r_n true rfl (by decide) rfl ?_
          refine r_n true rfl (by decide) rfl ?_
          refine r_n true rfl (by decide) rfl ?_
          refine r_n true rfl (by decide) rfl ?_
          refine r_n true rfl (by decide) rfl ?_
          refine r_n true rfl (by decide) rfl ?_
          refine r_v (Value.bool (true)) rfl rfl rfl rfl ?_
          refine r_v (Value.bool (true)) rfl rfl rfl rfl ?_
          refine r_n true rfl (by decide) rfl ?_
          refine r_n true rfl (by decide) rfl ?_
          refine r_n true rfl (by decide) rfl ?_
          refine r_n true rfl (by decide) rfl ?_
          refine r_n true rfl (by decide) rfl ?_
          refine r_v (Value.bool (true)) rfl rfl rfl rfl ?_
          refine r_v (Value.bool (true)) rfl rfl rfl rfl ?_
          refine r_n true rfl (by decide) rfl ?_
          refine r_n true rfl (by decide) rfl ?_
          refine r_n true rfl (by decide) rfl ?_
          refine r_v (Value.bool (true)) rfl rfl rfl rfl ?_
          refine lx_nil ?_
          refine hK57 _ _ ?_; try clear hK57 K57
          refine A_gen [(0, bv), (1, Value.int .i64 (at')), (5, Value.int .u16 (((r9.1.toNat : Nat) : Int))), (7, s14), (73, Value.bool (true))] rfl (fun T => ?_)
          refine A_cond true rfl (fun _ => ?_) (fun h_ => nomatch h_)
          refine A_seq fun K71 hK71 => ?_
          refine A_reg ?_
          refine r_v (Value.bool (false)) rfl rfl rfl rfl ?_
          refine lx_nil ?_
          refine hK71 _ _ ?_; try clear hK71 K71
          obtain rfl := Option.some.inj hM
          refine A_ret (fun hn => endsV (v0 := Value.bool (false)) rfl (res1 rfl))
      · clear hM; rintro t l ⟨hM, ⟨T, rfl⟩, rfl⟩
        unfold shunterlaw04_SumFixes_k1 at hM
        refine A_seq fun K29 hK29 => ?_
        refine A_seq fun K30 hK30 => ?_
        refine A_reg ?_
        refine r_v (Value.int .i64 (0)) rfl rfl rfl rfl ?_
        refine lx_nil ?_
        refine hK30 _ _ ?_; try clear hK30 K30
        refine A_block ?_
        refine A_forget _ (Sub.pick [S15] [0] rfl) ?_
        refine A_loop (fun tt ll nn => ∃ (n31 : Nat) (i2_ : Int), (shunterlaw04_SumFixes_l3 N b at' r9 r12 n31 i2_ = some r) ∧ Is [(0, bv), (1, Value.int .i64 (at')), (5, Value.int .u16 (((r9.1.toNat : Nat) : Int))), (7, s14), (9, Value.int .i64 (i2_))] (List.flatten [S15]) tt ll ∧ nn = n31 + 1) (N + 1) ?_ ?_
        · exact ⟨N, 0, hM, is_mk rfl rfl, rfl⟩
        · clear hM; rintro t l _ ⟨n31, i2_, hM, ⟨⟨T, rfl⟩, rfl⟩, rfl⟩
          rcases n31 with _ | n31
          · exact absurd hM (by simp [shunterlaw04_SumFixes_l3])
          rw [shunterlaw04_SumFixes_l3] at hM
          refine A_seq fun K32 hK32 => ?_
          refine A_seq fun K33 hK33 => ?_
          refine A_reg ?_
          refine r_v (Value.int .i64 (i2_)) rfl rfl rfl rfl ?_
          refine r_v (bv) rfl rfl rfl rfl ?_
          refine r_v (Value.int .i64 (((b).length : Int))) rfl rfl rfl (ev_lenSl rfl rfl rfl (Rd.shp hb)) ?_
          refine r_v (Value.bool (decide ((i2_ : Int) < ((b).length : Int)))) rfl rfl rfl rfl ?_
          refine lx_nil ?_
          refine hK33 _ _ ?_; try clear hK33 K33
          refine A_cond (decide ((i2_ : Int) < ((b).length : Int))) rfl (fun hc34 => ?_) (fun hc34 => ?_)
          · replace hM := ifp (of_decide_eq_true hc34) hM
            refine A_skip ?_
            refine hK32 _ _ ?_; try clear hK32 K32
            refine A_seq fun K35 hK35 => ?_
            refine A_block ?_
            refine A_seq fun K36 hK36 => ?_
            refine A_draw [] (by decide +kernel) (fun hn => sep_nil) ?_
            refine r_v (Value.int .i64 (i2_)) rfl rfl rfl rfl ?_
            refine r_v (Value.int .i64 (at')) rfl rfl rfl rfl ?_
            refine r_v (Value.bool (((i2_ : Int) != at'))) rfl rfl rfl rfl ?_
            refine r_v (Value.bool (((i2_ : Int) != at'))) rfl rfl rfl rfl ?_
            rcases hg37 : (((i2_ : Int) != at')) with _ | _
            · replace hM := ifn (bne_f hg37) hM
              refine r_n false rfl (by decide) rfl ?_
              refine r_n false rfl (by decide) rfl ?_
              refine r_n false rfl (by decide) rfl ?_
              refine r_n false rfl (by decide) rfl ?_
              refine r_v (Value.bool (false)) rfl rfl rfl rfl ?_
              refine r_v (Value.bool (false)) rfl rfl rfl rfl ?_
              refine r_n false rfl (by decide) rfl ?_
              refine r_n false rfl (by decide) rfl ?_
              refine r_n false rfl (by decide) rfl ?_
              refine r_n false rfl (by decide) rfl ?_
              refine r_n false rfl (by decide) rfl ?_
              refine r_n false rfl (by decide) rfl ?_
              refine r_n false rfl (by decide) rfl ?_
              refine r_n false rfl (by decide) rfl ?_
              refine r_n false rfl (by decide) rfl ?_
              refine r_v (Value.bool (false)) rfl rfl rfl rfl ?_
              refine lx_nil ?_
              refine hK36 _ _ ?_; try clear hK36 K36
              refine A_cond false rfl (fun h_ => nomatch h_) (fun _ => ?_)
              refine A_skip ?_
              refine hK35 _ _ ?_; try clear hK35 K35
              refine A_reg ?_
              refine r_v (Value.int .i64 (i2_)) rfl rfl rfl rfl ?_
              replace hM := ck_some hM; obtain ⟨ck38, hM⟩ := hM
              refine r_v (Value.int .i64 ((i2_ + 1))) rfl rfl (wi64 rfl ck38.1 ck38.2) rfl ?_
              refine r_v (Value.int .i64 ((i2_ + 1))) rfl rfl rfl rfl ?_
              refine lx_nil ?_
              refine fg _ (Sub.pick [S15] [0] rfl) ?_
              exact ⟨n31 + 1, by omega, n31, (i2_ + 1), hM, is_mk rfl rfl, rfl⟩
            · replace hM := ifp (bne_iff_ne.1 hg37) hM
              refine r_y rfl ?_
              refine r_v (Value.int .i64 (i2_)) rfl rfl rfl rfl ?_
              refine r_y rfl ?_
              refine r_v (Value.int .i64 (at')) rfl rfl rfl rfl ?_
              refine r_y rfl ?_
              replace hM := ck_some hM; obtain ⟨ck39, hM⟩ := hM
              refine r_v (Value.int .i64 ((at' + 1))) rfl rfl (wi64 rfl ck39.1 ck39.2) rfl ?_
              refine r_y rfl ?_
              refine r_v (Value.bool (((i2_ : Int) != (at' + 1)))) rfl rfl rfl rfl ?_
              refine r_v (Value.bool (((i2_ : Int) != (at' + 1)))) rfl rfl rfl rfl ?_
              refine r_v (Value.bool (((i2_ : Int) != (at' + 1)))) rfl rfl rfl rfl ?_
              rcases hg40 : (((i2_ : Int) != (at' + 1))) with _ | _
              · replace hM := ifn (bne_f hg40) hM
                refine r_n false rfl (by decide) rfl ?_
                refine r_n false rfl (by decide) rfl ?_
                refine r_n false rfl (by decide) rfl ?_
                refine r_n false rfl (by decide) rfl ?_
                refine r_n false rfl (by decide) rfl ?_
                refine r_n false rfl (by decide) rfl ?_
                refine r_n false rfl (by decide) rfl ?_
                refine r_n false rfl (by decide) rfl ?_
                refine r_n false rfl (by decide) rfl ?_
                refine r_v (Value.bool (false)) rfl rfl rfl rfl ?_
                refine lx_nil ?_
                refine hK36 _ _ ?_; try clear hK36 K36
                refine A_cond false rfl (fun h_ => nomatch h_) (fun _ => ?_)
                refine A_skip ?_
                refine hK35 _ _ ?_; try clear hK35 K35
                refine A_reg ?_
                refine r_v (Value.int .i64 (i2_)) rfl rfl rfl rfl ?_
                replace hM := ck_some hM; obtain ⟨ck41, hM⟩ := hM
                refine r_v (Value.int .i64 ((i2_ + 1))) rfl rfl (wi64 rfl ck41.1 ck41.2) rfl ?_
                refine r_v (Value.int .i64 ((i2_ + 1))) rfl rfl rfl rfl ?_
                refine lx_nil ?_
                refine fg _ (Sub.pick [S15] [0] rfl) ?_
                exact ⟨n31 + 1, by omega, n31, (i2_ + 1), hM, is_mk rfl rfl, rfl⟩
              · replace hM := ifp (bne_iff_ne.1 hg40) hM
                refine r_y rfl ?_
                refine r_v (s14) rfl rfl rfl rfl ?_
                refine r_y rfl ?_
                refine r_v (Value.int .i64 (i2_)) rfl rfl rfl rfl ?_
                refine r_y rfl ?_
                replace hM := ck_some hM; obtain ⟨ck42, hM⟩ := hM
                refine r_v (elA s14 ((i2_).toNat * 1)) rfl rfl rfl (ev_v (ev_idxSl rfl rfl rfl (Sl.shp H16) ck42)) ?_
                refine r_y rfl ?_
                refine r_le (Value.int .u8 (((((r12.1)[(i2_).toNat]!).toNat : Nat) : Int))) (En := encY) ((r12.1)[(i2_).toNat]!) ((i2_).toNat) 0 rfl rfl (rd_own H16 (mem_chunk (Ls := [S15]) (k := 0) rfl rfl)) (get_of ck42) rfl ?_
                refine r_y rfl ?_
                refine r_v (bv) rfl rfl rfl rfl ?_
                refine r_y rfl ?_
                refine r_v (Value.int .i64 (i2_)) rfl rfl rfl rfl ?_
                refine r_y rfl ?_
                replace hM := ck_some hM; obtain ⟨ck43, hM⟩ := hM
                refine r_v (elA bv ((i2_).toNat * 1)) rfl rfl rfl (ev_v (ev_idxSl rfl rfl rfl (Rd.shp hb) ck43)) ?_
                refine r_y rfl ?_
                refine r_le (Value.int .u8 (((((b)[(i2_).toNat]!).toNat : Nat) : Int))) (En := encY) ((b)[(i2_).toNat]!) ((i2_).toNat) 0 rfl rfl (rd_ro hb) (get_of ck43) rfl ?_
                refine r_y rfl ?_
                refine r_v (Value.bool (((((((r12.1)[(i2_).toNat]!).toNat : Nat) : Int) : Int) != ((((b)[(i2_).toNat]!).toNat : Nat) : Int)))) rfl rfl rfl rfl ?_
                refine r_v (Value.bool (((((((r12.1)[(i2_).toNat]!).toNat : Nat) : Int) : Int) != ((((b)[(i2_).toNat]!).toNat : Nat) : Int)))) rfl rfl rfl rfl ?_
                refine lx_nil ?_
                refine hK36 _ _ ?_; try clear hK36 K36
                refine A_cond (((((((r12.1)[(i2_).toNat]!).toNat : Nat) : Int) : Int) != ((((b)[(i2_).toNat]!).toNat : Nat) : Int))) rfl (fun hc44 => ?_) (fun hc44 => ?_)
                · replace hM := ifp (bne_iff_ne.1 hc44) hM
                  refine A_seq fun K45 hK45 => ?_
                  refine A_reg ?_
                  refine r_v (Value.bool (false)) rfl rfl rfl rfl ?_
                  refine lx_nil ?_
                  refine hK45 _ _ ?_; try clear hK45 K45
                  refine A_gen [(4, Value.bool (false))] rfl (fun T => ?_)
                  obtain rfl := Option.some.inj hM
                  refine A_ret (fun hn => endsV (v0 := Value.bool (false)) rfl (res1 rfl))
                · replace hM := ifn (bne_f hc44) hM
                  refine A_skip ?_
                  refine hK35 _ _ ?_; try clear hK35 K35
                  refine A_reg ?_
                  refine r_v (Value.int .i64 (i2_)) rfl rfl rfl rfl ?_
                  replace hM := ck_some hM; obtain ⟨ck46, hM⟩ := hM
                  refine r_v (Value.int .i64 ((i2_ + 1))) rfl rfl (wi64 rfl ck46.1 ck46.2) rfl ?_
                  refine r_v (Value.int .i64 ((i2_ + 1))) rfl rfl rfl rfl ?_
                  refine lx_nil ?_
                  refine fg _ (Sub.pick [S15] [0] rfl) ?_
                  exact ⟨n31 + 1, by omega, n31, (i2_ + 1), hM, is_mk rfl rfl, rfl⟩
          · replace hM := ifn (of_decide_eq_false hc34) hM
            refine A_exit ?_
            refine hK29 _ _ ?_; try clear hK29 K29
            refine A_seq fun K47 hK47 => ?_
            refine A_reg ?_
            refine r_v (s14) rfl rfl rfl rfl ?_
            refine r_v (Value.int .i64 (at')) rfl rfl rfl rfl ?_
            replace hM := ck_some hM; obtain ⟨ck48, hM⟩ := hM
            refine r_v (elA s14 ((at').toNat * 1)) rfl rfl rfl (ev_v (ev_idxSl rfl rfl rfl (Sl.shp H16) ck48)) ?_
            refine r_le (Value.int .u8 (((((r12.1)[(at').toNat]!).toNat : Nat) : Int))) (En := encY) ((r12.1)[(at').toNat]!) ((at').toNat) 0 rfl rfl (rd_own H16 (mem_chunk (Ls := [S15]) (k := 0) rfl rfl)) (get_of ck48) rfl ?_
            refine r_w (Value.int .i64 (((((r12.1)[(at').toNat]!).toNat : Nat) : Int))) rfl rfl (u8_i64 ((r12.1)[(at').toNat]!)) (fun _ => rfl) ?_
            refine r_v (Value.int .u16 (((r9.1.toNat : Nat) : Int))) rfl rfl rfl rfl ?_
            refine r_w (Value.int .i64 (((r9.1.toNat : Nat) : Int))) rfl rfl (u16_i64 r9.1) (fun _ => rfl) ?_
            replace hM := ck_some hM; obtain ⟨ck49, hM⟩ := hM
            refine r_v (Value.int .i64 ((((r9.1.toNat : Nat) : Int)) / 256)) rfl rfl (quo_i64 ck49.1 (by decide) ck49.2) rfl ?_
            refine r_v (Value.bool (((((((r12.1)[(at').toNat]!).toNat : Nat) : Int) : Int) == (((r9.1.toNat : Nat) : Int)) / 256))) rfl rfl rfl rfl ?_
            refine r_v (Value.bool (((((((r12.1)[(at').toNat]!).toNat : Nat) : Int) : Int) == (((r9.1.toNat : Nat) : Int)) / 256))) rfl rfl rfl rfl ?_
            rcases hg50 : (((((((r12.1)[(at').toNat]!).toNat : Nat) : Int) : Int) == (((r9.1.toNat : Nat) : Int)) / 256)) with _ | _
            · replace hM := ifn (ne_of_beq_false hg50) hM
              refine r_n false rfl (by decide) rfl ?_
              refine r_n false rfl (by decide) rfl ?_
              refine r_n false rfl (by decide) rfl ?_
              refine r_n false rfl (by decide) rfl ?_
              refine r_n false rfl (by decide) rfl ?_
              refine r_n false rfl (by decide) rfl ?_
              refine r_n false rfl (by decide) rfl ?_
              refine r_n false rfl (by decide) rfl ?_
              refine r_n false rfl (by decide) rfl ?_
              refine r_n false rfl (by decide) rfl ?_
              refine r_v (Value.bool (false)) rfl rfl rfl rfl ?_
              refine r_v (Value.bool (false)) rfl rfl rfl rfl ?_
              refine r_n false rfl (by decide) rfl ?_
              refine r_v (Value.bool (false)) rfl rfl rfl rfl ?_
              refine r_v (Value.bool (false)) rfl rfl rfl rfl ?_
              refine lx_nil ?_
              refine hK47 _ _ ?_; try clear hK47 K47
              refine A_gen [(4, Value.bool (false))] rfl (fun T => ?_)
              obtain rfl := Option.some.inj hM
              refine A_ret (fun hn => endsV (v0 := Value.bool (false)) rfl (res1 rfl))
            · replace hM := ifp (eq_of_beq hg50) hM
              refine r_y rfl ?_
              refine r_v (s14) rfl rfl rfl rfl ?_
              refine r_y rfl ?_
              refine r_v (Value.int .i64 (at')) rfl rfl rfl rfl ?_
              refine r_y rfl ?_
              replace hM := ck_some hM; obtain ⟨ck51, hM⟩ := hM
              refine r_v (Value.int .i64 ((at' + 1))) rfl rfl (wi64 rfl ck51.1 ck51.2) rfl ?_
              refine r_y rfl ?_
              replace hM := ck_some hM; obtain ⟨ck52, hM⟩ := hM
              refine r_v (elA s14 (((at' + 1)).toNat * 1)) rfl rfl rfl (ev_v (ev_idxSl rfl rfl rfl (Sl.shp H16) ck52)) ?_
              refine r_y rfl ?_
              refine r_le (Value.int .u8 (((((r12.1)[((at' + 1)).toNat]!).toNat : Nat) : Int))) (En := encY) ((r12.1)[((at' + 1)).toNat]!) (((at' + 1)).toNat) 0 rfl rfl (rd_own H16 (mem_chunk (Ls := [S15]) (k := 0) rfl rfl)) (get_of ck52) rfl ?_
              refine r_y rfl ?_
              refine r_w (Value.int .i64 (((((r12.1)[((at' + 1)).toNat]!).toNat : Nat) : Int))) rfl rfl (u8_i64 ((r12.1)[((at' + 1)).toNat]!)) (fun _ => rfl) ?_
              refine r_y rfl ?_
              refine r_v (Value.int .u16 (((r9.1.toNat : Nat) : Int))) rfl rfl rfl rfl ?_
              refine r_y rfl ?_
              refine r_w (Value.int .i64 (((r9.1.toNat : Nat) : Int))) rfl rfl (u16_i64 r9.1) (fun _ => rfl) ?_
              refine r_y rfl ?_
              replace hM := ck_some hM; obtain ⟨ck53, hM⟩ := hM
              refine r_v (Value.int .i64 ((((r9.1.toNat : Nat) : Int)) % 256)) rfl rfl (rem_i64 ck53.1) rfl ?_
              refine r_y rfl ?_
              refine r_v (Value.bool (((((((r12.1)[((at' + 1)).toNat]!).toNat : Nat) : Int) : Int) == (((r9.1.toNat : Nat) : Int)) % 256))) rfl rfl rfl rfl ?_
              refine r_v (Value.bool (((((((r12.1)[((at' + 1)).toNat]!).toNat : Nat) : Int) : Int) == (((r9.1.toNat : Nat) : Int)) % 256))) rfl rfl rfl rfl ?_
              refine r_v (Value.bool (((((((r12.1)[((at' + 1)).toNat]!).toNat : Nat) : Int) : Int) == (((r9.1.toNat : Nat) : Int)) % 256))) rfl rfl rfl rfl ?_
              rcases hg54 : (((((((r12.1)[((at' + 1)).toNat]!).toNat : Nat) : Int) : Int) == (((r9.1.toNat : Nat) : Int)) % 256)) with _ | _
              · replace hM := ifn (ne_of_beq_false hg54) hM
                refine r_n false rfl (by decide) rfl ?_
                refine r_v (Value.bool (false)) rfl rfl rfl rfl ?_
                refine r_v (Value.bool (false)) rfl rfl rfl rfl ?_
                refine lx_nil ?_
                refine hK47 _ _ ?_; try clear hK47 K47
                refine A_gen [(4, Value.bool (false))] rfl (fun T => ?_)
                obtain rfl := Option.some.inj hM
                refine A_ret (fun hn => endsV (v0 := Value.bool (false)) rfl (res1 rfl))
              · replace hM := ifp (eq_of_beq hg54) hM
                refine r_y rfl ?_
                replace hM := bind_sm hM; obtain ⟨r55, hr56, hM⟩ := hM
                refine r_c (Value.bool (r55)) rfl _ _ (ev_callF rfl call_8 rfl) (shunterlaw04_lives_g N  _ hr56) ?_
                refine r_v (Value.bool (r55)) rfl rfl rfl rfl ?_
                refine r_v (Value.bool (r55)) rfl rfl rfl rfl ?_
                refine lx_nil ?_
                refine hK47 _ _ ?_; try clear hK47 K47
                refine A_gen [(4, Value.bool (r55))] rfl (fun T => ?_)
                obtain rfl := Option.some.inj hM
                refine A_ret (fun hn => endsV (v0 := Value.bool (r55)) rfl (res1 rfl))
end Go.Proofs.Ytolfjcihohjknaa
