/- models of functions and their walks -/
import Derived.Test.YtniakkkjiifelaaBc
namespace Go.Proofs.Ytniakkkjiifelaa
open Go Go.RowKit Go.Eng
def shunterlaw05_NameIndex_l4 (N : Nat) (l' : List (List UInt8)) (s : List UInt8) : Nat → Int → Int → Option (Bool)
  | 0, _, _ => none
  | n6 + 1, want2_, i3_ => if (i3_ : Int) ≥ 0 then ck (0 ≤ i3_ ∧ i3_ < ((l').length : Int)) (if ((((l')[(i3_).toNat]!).length : Int) : Int) > 300 then (shunterlaw05_lives_m N ).bind fun r16 => some (r16) else ck (0 ≤ i3_ ∧ i3_ < ((l').length : Int)) ((name_Alike_m N ((l')[(i3_).toNat]!) s).bind fun r20 => if (r20) = true then ck ((-9223372036854775808 ≤ (i3_ - 1) ∧ (i3_ - 1) ≤ 9223372036854775807)) ((shunterlaw05_NameIndex_l4 N l' s n6) (i3_) ((i3_ - 1))) else ck ((-9223372036854775808 ≤ (i3_ - 1) ∧ (i3_ - 1) ≤ 9223372036854775807)) ((shunterlaw05_NameIndex_l4 N l' s n6) (want2_) ((i3_ - 1))))) else (name_Index_m N l' s).bind fun r26 => if (r26 : Int) = want2_ then (shunterlaw05_lives_m N ).bind fun r29 => some (r29) else some (false)
def shunterlaw05_NameIndex_k1 (N : Nat) (l' : List (List UInt8)) (s : List UInt8) : Option (Bool) := ck ((-9223372036854775808 ≤ (((l').length : Int) - 1) ∧ (((l').length : Int) - 1) ≤ 9223372036854775807)) (shunterlaw05_NameIndex_l4 N l' s N (-1) ((((l').length : Int) - 1)))
def shunterlaw05_NameIndex_m (N : Nat) (l' : List (List UInt8)) (s : List UInt8) : Option (Bool) := if (((l').length : Int) : Int) > 30 then (shunterlaw05_lives_m N ).bind fun r38 => some (r38) else if (((s).length : Int) : Int) > 300 then (shunterlaw05_lives_m N ).bind fun r35 => some (r35) else shunterlaw05_NameIndex_k1 N l' s 
set_option maxRecDepth 100000 in
set_option maxHeartbeats 400000 in
theorem shunterlaw05_NameIndex_g (N : Nat) (l' : List (List UInt8)) (s : List UInt8) (r : Bool) (hM : shunterlaw05_NameIndex_m N l' s = some r) (ro : Addr → Option Value) (l'v : Value) (hl' : Rd encS ro l'v l') : Does Try.prog 8 #[l'v, Value.string (⟨(s).toArray⟩)] ro [] (pV (Value.bool (r))) := by
  unfold shunterlaw05_NameIndex_m at hM
  refine does_of_A follows Try.func8 rfl 45 rfl (upd (upd (fun _ => undef) 1 (Value.string (⟨(s).toArray⟩))) 0 (l'v)) (by funext k; match k with | 0 => rfl | 1 => rfl | k + 2 => rfl) (fun base0_ => ?_)
  refine A_seq fun K1 hK1 => ?_
  refine A_reg ?_
  refine r_v (Value.bool (false)) rfl rfl rfl rfl ?_
  refine lx_nil ?_
  refine hK1 _ _ ?_; try clear hK1 K1
  refine A_cut (fun tt ll => (shunterlaw05_NameIndex_k1 N l' s  = some r) ∧ Is [(0, l'v), (1, Value.string (⟨(s).toArray⟩))] [] tt ll) ?_ ?_
  · refine A_seq fun K31 hK31 => ?_
    refine A_reg ?_
    refine r_v (l'v) rfl rfl rfl rfl ?_
    refine r_v (Value.int .i64 (((l').length : Int))) rfl rfl rfl (ev_lenSl rfl rfl rfl (Rd.shp hl')) ?_
    refine r_v (Value.bool (decide ((((l').length : Int) : Int) > 30))) rfl rfl rfl rfl ?_
    refine r_v (Value.bool (decide ((((l').length : Int) : Int) > 30))) rfl rfl rfl rfl ?_
    rcases hg32 : (decide ((((l').length : Int) : Int) > 30)) with _ | _
    · replace hM := ifn (of_decide_eq_false hg32) hM
      refine r_y rfl ?_
      refine r_v (Value.string (⟨(s).toArray⟩)) rfl rfl rfl rfl ?_
      refine r_y rfl ?_
      refine r_v (Value.int .i64 (((s).length : Int))) rfl rfl rfl (ev_lenS rfl rfl rfl) ?_
      refine r_y rfl ?_
      refine r_v (Value.bool (decide ((((s).length : Int) : Int) > 300))) rfl rfl rfl rfl ?_
      refine r_v (Value.bool (decide ((((s).length : Int) : Int) > 300))) rfl rfl rfl rfl ?_
      refine lx_nil ?_
      refine hK31 _ _ ?_; try clear hK31 K31
      refine A_cond (decide ((((s).length : Int) : Int) > 300)) rfl (fun hc33 => ?_) (fun hc33 => ?_)
      · replace hM := ifp (of_decide_eq_true hc33) hM
        refine A_seq fun K34 hK34 => ?_
        refine A_reg ?_
        replace hM := bind_sm hM; obtain ⟨r35, hr36, hM⟩ := hM
        refine r_c (Value.bool (r35)) rfl _ _ (ev_callF rfl call_9 rfl) (shunterlaw05_lives_g N  _ hr36) ?_
        refine r_v (Value.bool (r35)) rfl rfl rfl rfl ?_
        refine lx_nil ?_
        refine hK34 _ _ ?_; try clear hK34 K34
        obtain rfl := Option.some.inj hM
        refine A_ret (fun hn => endsV (v0 := Value.bool (r35)) rfl (res1 rfl))
      · replace hM := ifn (of_decide_eq_false hc33) hM
        refine A_skip ?_
        refine fg _ (Sub.of (List.Sublist.slnil)) ?_
        exact ⟨hM, is_mk rfl rfl⟩
    · replace hM := ifp (of_decide_eq_true hg32) hM
      refine r_n true rfl (by decide) rfl ?_
      refine r_n true rfl (by decide) rfl ?_
      refine r_n true rfl (by decide) rfl ?_
      refine r_v (Value.bool (true)) rfl rfl rfl rfl ?_
      refine lx_nil ?_
      refine hK31 _ _ ?_; try clear hK31 K31
      refine A_cond true rfl (fun _ => ?_) (fun h_ => nomatch h_)
      refine A_seq fun K37 hK37 => ?_
      refine A_reg ?_
      replace hM := bind_sm hM; obtain ⟨r38, hr39, hM⟩ := hM
      refine r_c (Value.bool (r38)) rfl _ _ (ev_callF rfl call_9 rfl) (shunterlaw05_lives_g N  _ hr39) ?_
      refine r_v (Value.bool (r38)) rfl rfl rfl rfl ?_
      refine lx_nil ?_
      refine hK37 _ _ ?_; try clear hK37 K37
      obtain rfl := Option.some.inj hM
      refine A_ret (fun hn => endsV (v0 := Value.bool (r38)) rfl (res1 rfl))
  · clear hM; rintro t l ⟨hM, ⟨T, rfl⟩, rfl⟩
    unfold shunterlaw05_NameIndex_k1 at hM
    refine A_seq fun K2 hK2 => ?_
    refine A_reg ?_
    refine r_v (Value.int .i64 (-1)) rfl rfl rfl rfl ?_
    refine lx_nil ?_
    refine hK2 _ _ ?_; try clear hK2 K2
    refine A_seq fun K3 hK3 => ?_
    refine A_seq fun K4 hK4 => ?_
    refine A_reg ?_
    refine r_v (l'v) rfl rfl rfl rfl ?_
    refine r_v (Value.int .i64 (((l').length : Int))) rfl rfl rfl (ev_lenSl rfl rfl rfl (Rd.shp hl')) ?_
    replace hM := ck_some hM; obtain ⟨ck5, hM⟩ := hM
    refine r_v (Value.int .i64 ((((l').length : Int) - 1))) rfl rfl (wi64 rfl ck5.1 ck5.2) rfl ?_
    refine r_v (Value.int .i64 ((((l').length : Int) - 1))) rfl rfl rfl rfl ?_
    refine lx_nil ?_
    refine hK4 _ _ ?_; try clear hK4 K4
    refine A_block ?_
    refine A_loop (fun tt ll nn => ∃ (n6 : Nat) (want2_ : Int) (i3_ : Int), (shunterlaw05_NameIndex_l4 N l' s n6 want2_ i3_ = some r) ∧ Is [(0, l'v), (1, Value.string (⟨(s).toArray⟩)), (5, Value.int .i64 (want2_)), (6, Value.int .i64 (i3_))] [] tt ll ∧ nn = n6 + 1) (N + 1) ?_ ?_
    · exact ⟨N, -1, (((l').length : Int) - 1), hM, is_mk rfl rfl, rfl⟩
    · clear hM; rintro t l _ ⟨n6, want2_, i3_, hM, ⟨⟨T, rfl⟩, rfl⟩, rfl⟩
      rcases n6 with _ | n6
      · exact absurd hM (by simp [shunterlaw05_NameIndex_l4])
      rw [shunterlaw05_NameIndex_l4] at hM
      refine A_seq fun K7 hK7 => ?_
      refine A_seq fun K8 hK8 => ?_
      refine A_reg ?_
      refine r_v (Value.int .i64 (i3_)) rfl rfl rfl rfl ?_
      refine r_v (Value.bool (decide ((i3_ : Int) ≥ 0))) rfl rfl rfl rfl ?_
      refine lx_nil ?_
      refine hK8 _ _ ?_; try clear hK8 K8
      refine A_cond (decide ((i3_ : Int) ≥ 0)) rfl (fun hc9 => ?_) (fun hc9 => ?_)
      · replace hM := ifp (of_decide_eq_true hc9) hM
        refine A_skip ?_
        refine hK7 _ _ ?_; try clear hK7 K7
        refine A_seq fun K10 hK10 => ?_
        refine A_block ?_
        refine A_seq fun K11 hK11 => ?_
        refine A_seq fun K12 hK12 => ?_
        refine A_reg ?_
        refine r_v (l'v) rfl rfl rfl rfl ?_
        refine r_v (Value.int .i64 (i3_)) rfl rfl rfl rfl ?_
        replace hM := ck_some hM; obtain ⟨ck13, hM⟩ := hM
        refine r_v (elA l'v ((i3_).toNat * 1)) rfl rfl rfl (ev_v (ev_idxSl rfl rfl rfl (Rd.shp hl') ck13)) ?_
        refine r_le (Value.string (⟨((l')[(i3_).toNat]!).toArray⟩)) (En := encS) ((l')[(i3_).toNat]!) ((i3_).toNat) 0 rfl rfl (rd_ro hl') (get_of ck13) rfl ?_
        refine r_v (Value.int .i64 ((((l')[(i3_).toNat]!).length : Int))) rfl rfl rfl (ev_lenS rfl rfl rfl) ?_
        refine r_v (Value.bool (decide (((((l')[(i3_).toNat]!).length : Int) : Int) > 300))) rfl rfl rfl rfl ?_
        refine lx_nil ?_
        refine hK12 _ _ ?_; try clear hK12 K12
        refine A_cond (decide (((((l')[(i3_).toNat]!).length : Int) : Int) > 300)) rfl (fun hc14 => ?_) (fun hc14 => ?_)
        · replace hM := ifp (of_decide_eq_true hc14) hM
          refine A_seq fun K15 hK15 => ?_
          refine A_reg ?_
          replace hM := bind_sm hM; obtain ⟨r16, hr17, hM⟩ := hM
          refine r_c (Value.bool (r16)) rfl _ _ (ev_callF rfl call_9 rfl) (shunterlaw05_lives_g N  _ hr17) ?_
          refine r_v (Value.bool (r16)) rfl rfl rfl rfl ?_
          refine lx_nil ?_
          refine hK15 _ _ ?_; try clear hK15 K15
          obtain rfl := Option.some.inj hM
          refine A_ret (fun hn => endsV (v0 := Value.bool (r16)) rfl (res1 rfl))
        · replace hM := ifn (of_decide_eq_false hc14) hM
          refine A_skip ?_
          refine hK11 _ _ ?_; try clear hK11 K11
          refine A_seq fun K18 hK18 => ?_
          refine A_reg ?_
          refine r_v (l'v) rfl rfl rfl rfl ?_
          refine r_v (Value.int .i64 (i3_)) rfl rfl rfl rfl ?_
          replace hM := ck_some hM; obtain ⟨ck19, hM⟩ := hM
          refine r_v (elA l'v ((i3_).toNat * 1)) rfl rfl rfl (ev_v (ev_idxSl rfl rfl rfl (Rd.shp hl') ck19)) ?_
          refine r_le (Value.string (⟨((l')[(i3_).toNat]!).toArray⟩)) (En := encS) ((l')[(i3_).toNat]!) ((i3_).toNat) 0 rfl rfl (rd_ro hl') (get_of ck19) rfl ?_
          refine r_v (Value.string (⟨(s).toArray⟩)) rfl rfl rfl rfl ?_
          replace hM := bind_sm hM; obtain ⟨r20, hr21, hM⟩ := hM
          refine r_c (Value.bool (r20)) rfl _ _ (ev_callF rfl call_25 rfl) (name_Alike_g N ((l')[(i3_).toNat]!) s _ hr21) ?_
          refine lx_nil ?_
          refine hK18 _ _ ?_; try clear hK18 K18
          refine A_cond (r20) rfl (fun hc22 => ?_) (fun hc22 => ?_)
          · replace hM := ifp hc22 hM
            refine A_reg ?_
            refine r_v (Value.int .i64 (i3_)) rfl rfl rfl rfl ?_
            refine r_v (Value.int .i64 (i3_)) rfl rfl rfl rfl ?_
            refine lx_nil ?_
            refine hK10 _ _ ?_; try clear hK10 K10
            refine A_reg ?_
            refine r_v (Value.int .i64 (i3_)) rfl rfl rfl rfl ?_
            replace hM := ck_some hM; obtain ⟨ck23, hM⟩ := hM
            refine r_v (Value.int .i64 ((i3_ - 1))) rfl rfl (wi64 rfl ck23.1 ck23.2) rfl ?_
            refine r_v (Value.int .i64 ((i3_ - 1))) rfl rfl rfl rfl ?_
            refine lx_nil ?_
            refine fg _ (Sub.of (List.Sublist.slnil)) ?_
            exact ⟨n6 + 1, by omega, n6, i3_, (i3_ - 1), hM, is_mk rfl rfl, rfl⟩
          · replace hM := ifn (Bool.eq_false_iff.1 hc22) hM
            refine A_skip ?_
            refine hK10 _ _ ?_; try clear hK10 K10
            refine A_reg ?_
            refine r_v (Value.int .i64 (i3_)) rfl rfl rfl rfl ?_
            replace hM := ck_some hM; obtain ⟨ck24, hM⟩ := hM
            refine r_v (Value.int .i64 ((i3_ - 1))) rfl rfl (wi64 rfl ck24.1 ck24.2) rfl ?_
            refine r_v (Value.int .i64 ((i3_ - 1))) rfl rfl rfl rfl ?_
            refine lx_nil ?_
            refine fg _ (Sub.of (List.Sublist.slnil)) ?_
            exact ⟨n6 + 1, by omega, n6, want2_, (i3_ - 1), hM, is_mk rfl rfl, rfl⟩
      · replace hM := ifn (of_decide_eq_false hc9) hM
        refine A_exit ?_
        refine hK3 _ _ ?_; try clear hK3 K3
        refine A_seq fun K25 hK25 => ?_
        refine A_regC [(some 39, false)] (conG Try.prog [(39, fun v_ L_ U_ => ∀ u0_, name_Index_m N l' s = some u0_ → (pV (Value.int .i64 (u0_))) v_ L_ U_)]) ?_
        refine r_v (l'v) rfl rfl rfl rfl ?_
        refine r_v (Value.string (⟨(s).toArray⟩)) rfl rfl rfl rfl ?_
        replace hM := bind_sm hM; obtain ⟨r26, hr27, hM⟩ := hM
        refine r_gv (Value.int .i64 (r26)) 30 _ rfl rfl rfl (ev_callF rfl call_30 rfl) (fun own_ nw_ hs_ => name_Index_g N l' s _ hr27 hs_.view l'v ((rd_ro hl') own_ nw_ hs_)) (fun _ _ v_ L_ U_ => ⟨fun h_ => h_ _ hr27, fun h_ => by intro _ e_; cases Option.some.inj (e_.symm.trans hr27); exact h_⟩) ?_
        refine r_v (Value.int .i64 (want2_)) rfl rfl rfl rfl ?_
        refine r_v (Value.bool (((r26 : Int) == want2_))) rfl rfl rfl rfl ?_
        refine r_v (Value.bool (((r26 : Int) == want2_))) rfl rfl rfl rfl ?_
        rcases hg28 : (((r26 : Int) == want2_)) with _ | _
        · replace hM := ifn (ne_of_beq_false hg28) hM
          refine r_n false rfl (by decide) rfl ?_
          refine r_v (Value.bool (false)) rfl rfl rfl rfl ?_
          refine r_v (Value.bool (false)) rfl rfl rfl rfl ?_
          refine lx_nil ?_
          refine hK25 _ _ ?_; try clear hK25 K25
          obtain rfl := Option.some.inj hM
          refine A_ret (fun hn => endsV (v0 := Value.bool (false)) rfl (res1 rfl))
        · replace hM := ifp (eq_of_beq hg28) hM
          refine r_y rfl ?_
          replace hM := bind_sm hM; obtain ⟨r29, hr30, hM⟩ := hM
          refine r_c (Value.bool (r29)) rfl _ _ (ev_callF rfl call_9 rfl) (shunterlaw05_lives_g N  _ hr30) ?_
          refine r_v (Value.bool (r29)) rfl rfl rfl rfl ?_
          refine r_v (Value.bool (r29)) rfl rfl rfl rfl ?_
          refine lx_nil ?_
          refine hK25 _ _ ?_; try clear hK25 K25
          obtain rfl := Option.some.inj hM
          refine A_ret (fun hn => endsV (v0 := Value.bool (r29)) rfl (res1 rfl))
end Go.Proofs.Ytniakkkjiifelaa
