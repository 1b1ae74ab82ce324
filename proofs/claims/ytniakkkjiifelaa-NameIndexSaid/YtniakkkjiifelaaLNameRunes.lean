/- models of functions and their walks -/
import Derived.Test.YtniakkkjiifelaaBc
namespace Go.Proofs.Ytniakkkjiifelaa
open Go Go.RowKit Go.Eng
def shunterlaw05_NameRunes_l3 (N : Nat) (r9 : List Int) (r15 : List Int) : Nat → Int → Option (Bool)
  | 0, _ => none
  | n22 + 1, i2_ => if (i2_ : Int) < ((r9).length : Int) then ck (0 ≤ i2_ ∧ i2_ < ((r15).length : Int)) (ck ((-9223372036854775808 ≤ (r15)[(i2_).toNat]! ∧ (r15)[(i2_).toNat]! ≤ 9223372036854775807)) (ck (0 ≤ i2_ ∧ i2_ < ((r9).length : Int)) (if ((r15)[(i2_).toNat]! : Int) ≠ (r9)[(i2_).toNat]! then some (false) else ck ((-9223372036854775808 ≤ (i2_ + 1) ∧ (i2_ + 1) ≤ 9223372036854775807)) ((shunterlaw05_NameRunes_l3 N r9 r15 n22) ((i2_ + 1)))))) else (shunterlaw05_lives_m N ).bind fun r35 => some (r35)
def shunterlaw05_NameRunes_k1 (N : Nat) (r9 : List Int) (r15 : List Int) : Option (Bool) := shunterlaw05_NameRunes_l3 N r9 r15 N (0)
def shunterlaw05_NameRunes_m (N : Nat) (s : List UInt8) (n : Int) : Option (Bool) := if (((s).length : Int) : Int) > 500 then (shunterlaw05_lives_m N ).bind fun r6 => some (r6) else (shunterref05_Runes_m N s).bind fun r9 => (name_Runes_m N s).bind fun r15 => if (((r15).length : Int) : Int) ≠ ((r9).length : Int) then some (false) else (name_Len_m N s).bind fun r39 => if (r39 : Int) ≠ ((r9).length : Int) then some (false) else (name_Clip_m N s n).bind fun r42 => (shunterref05_Clip_m N s n).bind fun r44 => if (r42) ≠ (r44) then some (false) else shunterlaw05_NameRunes_k1 N r9 r15 
set_option maxRecDepth 100000 in
set_option maxHeartbeats 400000 in
theorem shunterlaw05_NameRunes_g (N : Nat) (s : List UInt8) (n : Int) (r : Bool) (hM : shunterlaw05_NameRunes_m N s n = some r) : Gives Try.prog 3 #[Value.string (⟨(s).toArray⟩), Value.int .i64 (n)] (Value.bool (r)) := by
  unfold shunterlaw05_NameRunes_m at hM
  refine gives_of_A follows Try.func3 rfl 54 rfl (upd (upd (fun _ => undef) 1 (Value.int .i64 (n))) 0 (Value.string (⟨(s).toArray⟩))) (by funext k; match k with | 0 => rfl | 1 => rfl | k + 2 => rfl) (fun base0_ => ?_)
  refine A_seq fun K1 hK1 => ?_
  refine A_reg ?_
  refine r_v (Value.bool (false)) rfl rfl rfl rfl ?_
  refine lx_nil ?_
  refine hK1 _ _ ?_; try clear hK1 K1
  refine A_seq fun K2 hK2 => ?_
  refine A_seq fun K3 hK3 => ?_
  refine A_reg ?_
  refine r_v (Value.string (⟨(s).toArray⟩)) rfl rfl rfl rfl ?_
  refine r_v (Value.int .i64 (((s).length : Int))) rfl rfl rfl (ev_lenS rfl rfl rfl) ?_
  refine r_v (Value.bool (decide ((((s).length : Int) : Int) > 500))) rfl rfl rfl rfl ?_
  refine lx_nil ?_
  refine hK3 _ _ ?_; try clear hK3 K3
  refine A_cond (decide ((((s).length : Int) : Int) > 500)) rfl (fun hc4 => ?_) (fun hc4 => ?_)
  · replace hM := ifp (of_decide_eq_true hc4) hM
    refine A_seq fun K5 hK5 => ?_
    refine A_reg ?_
    replace hM := bind_sm hM; obtain ⟨r6, hr7, hM⟩ := hM
    refine r_c (Value.bool (r6)) rfl _ _ (ev_callF rfl call_9 rfl) (shunterlaw05_lives_g N  _ hr7) ?_
    refine r_v (Value.bool (r6)) rfl rfl rfl rfl ?_
    refine lx_nil ?_
    refine hK5 _ _ ?_; try clear hK5 K5
    obtain rfl := Option.some.inj hM
    refine A_ret (fun hn => ends_eq (v0 := Value.bool (r6)) rfl (res1 rfl))
  · replace hM := ifn (of_decide_eq_false hc4) hM
    refine A_skip ?_
    refine hK2 _ _ ?_; try clear hK2 K2
    refine A_seq fun K8 hK8 => ?_
    refine A_regC [(some 13, false)] (conG Try.prog [(13, fun v_ L_ U_ => ∀ u0_, shunterref05_Runes_m N s = some u0_ → (p1 (fun s_ => s_) 3 encI (u0_)) v_ L_ U_)]) ?_
    refine r_v (Value.string (⟨(s).toArray⟩)) rfl rfl rfl rfl ?_
    replace hM := bind_sm hM; obtain ⟨r9, hr10, hM⟩ := hM
    refine r_g1 (Ls := []) (fun s11 => s11) 3 encI (r9) 10 _ rfl rfl rfl (ev_callF rfl call_10 rfl) (fun own_ nw_ hs_ => shunterref05_Runes_g N s _ hr10 hs_.view ) (fun _ _ v_ L_ U_ => ⟨fun h_ => h_ _ hr10, fun h_ => by intro _ e_; cases Option.some.inj (e_.symm.trans hr10); exact h_⟩) (fun s11 S12 H13 => ?_)
    refine r_v (s11) rfl rfl rfl rfl ?_
    refine lx_nil ?_
    refine hK8 _ _ ?_; try clear hK8 K8
    refine A_seq fun K14 hK14 => ?_
    refine A_regC [(some 15, false)] (conG Try.prog [(15, fun v_ L_ U_ => ∀ u0_, name_Runes_m N s = some u0_ → (p1 (fun s_ => s_) 21 encI32 (u0_)) v_ L_ U_)]) ?_
    refine r_v (Value.string (⟨(s).toArray⟩)) rfl rfl rfl rfl ?_
    replace hM := bind_sm hM; obtain ⟨r15, hr16, hM⟩ := hM
    refine r_g1 (Ls := [S12]) (fun s17 => s17) 21 encI32 (r15) 11 _ rfl rfl rfl (ev_callF rfl call_11 rfl) (fun own_ nw_ hs_ => name_Runes_g N s _ hr16 hs_.view ) (fun _ _ v_ L_ U_ => ⟨fun h_ => h_ _ hr16, fun h_ => by intro _ e_; cases Option.some.inj (e_.symm.trans hr16); exact h_⟩) (fun s17 S18 H19 => ?_)
    refine r_v (s17) rfl rfl rfl rfl ?_
    refine lx_nil ?_
    refine hK14 _ _ ?_; try clear hK14 K14
    refine A_cut (fun tt ll => (shunterlaw05_NameRunes_k1 N r9 r15  = some r) ∧ Is [(5, s11), (6, s17)] (List.flatten [S12, S18]) tt ll) ?_ ?_
    · refine A_seq fun K37 hK37 => ?_
      refine A_reg ?_
      refine r_v (s17) rfl rfl rfl rfl ?_
      refine r_v (Value.int .i64 (((r15).length : Int))) rfl rfl rfl (ev_lenSl rfl rfl rfl (Sl.shp H19)) ?_
      refine r_v (s11) rfl rfl rfl rfl ?_
      refine r_v (Value.int .i64 (((r9).length : Int))) rfl rfl rfl (ev_lenSl rfl rfl rfl (Sl.shp H13)) ?_
      refine r_v (Value.bool (((((r15).length : Int) : Int) != ((r9).length : Int)))) rfl rfl rfl rfl ?_
      refine r_v (Value.bool (((((r15).length : Int) : Int) != ((r9).length : Int)))) rfl rfl rfl rfl ?_
      rcases hg38 : (((((r15).length : Int) : Int) != ((r9).length : Int))) with _ | _
      · replace hM := ifn (bne_f hg38) hM
        refine r_y rfl ?_
        refine r_v (Value.string (⟨(s).toArray⟩)) rfl rfl rfl rfl ?_
        refine r_y rfl ?_
        replace hM := bind_sm hM; obtain ⟨r39, hr40, hM⟩ := hM
        refine r_c (Value.int .i64 (r39)) rfl _ _ (ev_callF rfl call_12 rfl) (name_Len_g N s _ hr40) ?_
        refine r_y rfl ?_
        refine r_v (s11) rfl rfl rfl rfl ?_
        refine r_y rfl ?_
        refine r_v (Value.int .i64 (((r9).length : Int))) rfl rfl rfl (ev_lenSl rfl rfl rfl (Sl.shp H13)) ?_
        refine r_y rfl ?_
        refine r_v (Value.bool (((r39 : Int) != ((r9).length : Int)))) rfl rfl rfl rfl ?_
        refine r_v (Value.bool (((r39 : Int) != ((r9).length : Int)))) rfl rfl rfl rfl ?_
        refine r_v (Value.bool (((r39 : Int) != ((r9).length : Int)))) rfl rfl rfl rfl ?_
        rcases hg41 : (((r39 : Int) != ((r9).length : Int))) with _ | _
        · replace hM := ifn (bne_f hg41) hM
          refine r_y rfl ?_
          refine r_v (Value.string (⟨(s).toArray⟩)) rfl rfl rfl rfl ?_
          refine r_y rfl ?_
          refine r_v (Value.int .i64 (n)) rfl rfl rfl rfl ?_
          refine r_y rfl ?_
          replace hM := bind_sm hM; obtain ⟨r42, hr43, hM⟩ := hM
          refine r_c (Value.string (⟨(r42).toArray⟩)) rfl _ _ (ev_callF rfl call_13 rfl) (name_Clip_g N s n _ hr43) ?_
          refine r_y rfl ?_
          refine r_v (Value.string (⟨(s).toArray⟩)) rfl rfl rfl rfl ?_
          refine r_y rfl ?_
          refine r_v (Value.int .i64 (n)) rfl rfl rfl rfl ?_
          refine r_y rfl ?_
          replace hM := bind_sm hM; obtain ⟨r44, hr45, hM⟩ := hM
          refine r_c (Value.string (⟨(r44).toArray⟩)) rfl _ _ (ev_callF rfl call_14 rfl) (shunterref05_Clip_g N s n _ hr45) ?_
          refine r_y rfl ?_
          refine r_v (Value.bool ((r42) != (r44))) rfl rfl rfl (ev_neS rfl rfl) ?_
          refine r_v (Value.bool ((r42) != (r44))) rfl rfl rfl rfl ?_
          refine lx_nil ?_
          refine hK37 _ _ ?_; try clear hK37 K37
          refine A_gen [(5, s11), (6, s17), (36, Value.bool ((r42) != (r44)))] rfl (fun T => ?_)
          refine A_cond ((r42) != (r44)) rfl (fun hc46 => ?_) (fun hc46 => ?_)
          · replace hM := ifp (bne_iff_ne.1 hc46) hM
            refine A_seq fun K47 hK47 => ?_
            refine A_reg ?_
            refine r_v (Value.bool (false)) rfl rfl rfl rfl ?_
            refine lx_nil ?_
            refine hK47 _ _ ?_; try clear hK47 K47
            obtain rfl := Option.some.inj hM
            refine A_ret (fun hn => ends_eq (v0 := Value.bool (false)) rfl (res1 rfl))
          · replace hM := ifn (bne_f hc46) hM
            refine A_skip ?_
            refine fg _ (Sub.pick [S12, S18] [0, 1] rfl) ?_
            exact ⟨hM, is_mk rfl rfl⟩
        · replace hM := ifp (bne_iff_ne.1 hg41) hM
          refine r_n true rfl (by decide) rfl ?_
          refine r_n true rfl (by decide) rfl ?_
          refine r_n true rfl (by decide) rfl ?_
          refine r_n true rfl (by decide) rfl ?_
          refine r_n true rfl (by decide) rfl ?_
          refine r_n true rfl (by decide) rfl ?_
          refine r_n true rfl (by decide) rfl ?_
          refine r_v (Value.bool (true)) rfl rfl rfl rfl ?_
          refine lx_nil ?_
          refine hK37 _ _ ?_; try clear hK37 K37
          refine A_gen [(5, s11), (6, s17), (36, Value.bool (true))] rfl (fun T => ?_)
          refine A_cond true rfl (fun _ => ?_) (fun h_ => nomatch h_)
          refine A_seq fun K48 hK48 => ?_
          refine A_reg ?_
          refine r_v (Value.bool (false)) rfl rfl rfl rfl ?_
          refine lx_nil ?_
          refine hK48 _ _ ?_; try clear hK48 K48
          obtain rfl := Option.some.inj hM
          refine A_ret (fun hn => ends_eq (v0 := Value.bool (false)) rfl (res1 rfl))
      · replace hM := ifp (bne_iff_ne.1 hg38) hM
        refine r_n true rfl (by decide) rfl ?_
        refine r_n true rfl (by decide) rfl ?_
        refine r_n true rfl (by decide) rfl ?_
        refine r_n true rfl (by decide) rfl ?_
        refine r_n true rfl (by decide) rfl ?_
        refine r_v (Value.bool (true)) rfl rfl rfl rfl ?_
        refine r_v (Value.bool (true)) rfl rfl rfl rfl ?_
        refine r_n true rfl (by decide) rfl ?_
        refine r_n true rfl (by decide) rfl ?_
        refine r_n true rfl (by decide) rfl ?_
        refine r_n true rfl (by decide) rfl ?_
        refine r_n true rfl (by decide) rfl ?_
        refine r_n true rfl (by decide) rfl ?_
        refine r_n true rfl (by decide) rfl ?_
        refine r_v (Value.bool (true)) rfl rfl rfl rfl ?_
        refine lx_nil ?_
        refine hK37 _ _ ?_; try clear hK37 K37
        refine A_gen [(5, s11), (6, s17), (36, Value.bool (true))] rfl (fun T => ?_)
        refine A_cond true rfl (fun _ => ?_) (fun h_ => nomatch h_)
        refine A_seq fun K49 hK49 => ?_
        refine A_reg ?_
        refine r_v (Value.bool (false)) rfl rfl rfl rfl ?_
        refine lx_nil ?_
        refine hK49 _ _ ?_; try clear hK49 K49
        obtain rfl := Option.some.inj hM
        refine A_ret (fun hn => ends_eq (v0 := Value.bool (false)) rfl (res1 rfl))
    · clear hM; rintro t l ⟨hM, ⟨T, rfl⟩, rfl⟩
      unfold shunterlaw05_NameRunes_k1 at hM
      refine A_seq fun K20 hK20 => ?_
      refine A_seq fun K21 hK21 => ?_
      refine A_reg ?_
      refine r_v (Value.int .i64 (0)) rfl rfl rfl rfl ?_
      refine lx_nil ?_
      refine hK21 _ _ ?_; try clear hK21 K21
      refine A_block ?_
      refine A_forget _ (Sub.pick [S12, S18] [0, 1] rfl) ?_
      refine A_loop (fun tt ll nn => ∃ (n22 : Nat) (i2_ : Int), (shunterlaw05_NameRunes_l3 N r9 r15 n22 i2_ = some r) ∧ Is [(5, s11), (6, s17), (7, Value.int .i64 (i2_))] (List.flatten [S12, S18]) tt ll ∧ nn = n22 + 1) (N + 1) ?_ ?_
      · exact ⟨N, 0, hM, is_mk rfl rfl, rfl⟩
      · clear hM; rintro t l _ ⟨n22, i2_, hM, ⟨⟨T, rfl⟩, rfl⟩, rfl⟩
        rcases n22 with _ | n22
        · exact absurd hM (by simp [shunterlaw05_NameRunes_l3])
        rw [shunterlaw05_NameRunes_l3] at hM
        refine A_seq fun K23 hK23 => ?_
        refine A_seq fun K24 hK24 => ?_
        refine A_reg ?_
        refine r_v (Value.int .i64 (i2_)) rfl rfl rfl rfl ?_
        refine r_v (s11) rfl rfl rfl rfl ?_
        refine r_v (Value.int .i64 (((r9).length : Int))) rfl rfl rfl (ev_lenSl rfl rfl rfl (Sl.shp H13)) ?_
        refine r_v (Value.bool (decide ((i2_ : Int) < ((r9).length : Int)))) rfl rfl rfl rfl ?_
        refine lx_nil ?_
        refine hK24 _ _ ?_; try clear hK24 K24
        refine A_cond (decide ((i2_ : Int) < ((r9).length : Int))) rfl (fun hc25 => ?_) (fun hc25 => ?_)
        · replace hM := ifp (of_decide_eq_true hc25) hM
          refine A_skip ?_
          refine hK23 _ _ ?_; try clear hK23 K23
          refine A_seq fun K26 hK26 => ?_
          refine A_block ?_
          refine A_seq fun K27 hK27 => ?_
          refine A_draw [] (by decide +kernel) (fun hn => sep_nil) ?_
          refine r_v (s17) rfl rfl rfl rfl ?_
          refine r_v (Value.int .i64 (i2_)) rfl rfl rfl rfl ?_
          replace hM := ck_some hM; obtain ⟨ck28, hM⟩ := hM
          refine r_v (elA s17 ((i2_).toNat * 1)) rfl rfl rfl (ev_v (ev_idxSl rfl rfl rfl (Sl.shp H19) ck28)) ?_
          refine r_le (Value.int .i32 ((r15)[(i2_).toNat]!)) (En := encI32) ((r15)[(i2_).toNat]!) ((i2_).toNat) 0 rfl rfl (rd_own H19 (mem_chunk (Ls := [S12, S18]) (k := 1) rfl rfl)) (get_of ck28) rfl ?_
          replace hM := ck_some hM; obtain ⟨ck29, hM⟩ := hM
          refine r_w (Value.int .i64 ((r15)[(i2_).toNat]!)) rfl rfl (wi64 rfl ck29.1 ck29.2) (fun _ => rfl) ?_
          refine r_v (s11) rfl rfl rfl rfl ?_
          refine r_v (Value.int .i64 (i2_)) rfl rfl rfl rfl ?_
          replace hM := ck_some hM; obtain ⟨ck30, hM⟩ := hM
          refine r_v (elA s11 ((i2_).toNat * 1)) rfl rfl rfl (ev_v (ev_idxSl rfl rfl rfl (Sl.shp H13) ck30)) ?_
          refine r_le (Value.int .i64 ((r9)[(i2_).toNat]!)) (En := encI) ((r9)[(i2_).toNat]!) ((i2_).toNat) 0 rfl rfl (rd_own H13 (mem_chunk (Ls := [S12, S18]) (k := 0) rfl rfl)) (get_of ck30) rfl ?_
          refine r_v (Value.bool ((((r15)[(i2_).toNat]! : Int) != (r9)[(i2_).toNat]!))) rfl rfl rfl rfl ?_
          refine lx_nil ?_
          refine hK27 _ _ ?_; try clear hK27 K27
          refine A_cond ((((r15)[(i2_).toNat]! : Int) != (r9)[(i2_).toNat]!)) rfl (fun hc31 => ?_) (fun hc31 => ?_)
          · replace hM := ifp (bne_iff_ne.1 hc31) hM
            refine A_seq fun K32 hK32 => ?_
            refine A_reg ?_
            refine r_v (Value.bool (false)) rfl rfl rfl rfl ?_
            refine lx_nil ?_
            refine hK32 _ _ ?_; try clear hK32 K32
            obtain rfl := Option.some.inj hM
            refine A_ret (fun hn => ends_eq (v0 := Value.bool (false)) rfl (res1 rfl))
          · replace hM := ifn (bne_f hc31) hM
            refine A_skip ?_
            refine hK26 _ _ ?_; try clear hK26 K26
            refine A_reg ?_
            refine r_v (Value.int .i64 (i2_)) rfl rfl rfl rfl ?_
            replace hM := ck_some hM; obtain ⟨ck33, hM⟩ := hM
            refine r_v (Value.int .i64 ((i2_ + 1))) rfl rfl (wi64 rfl ck33.1 ck33.2) rfl ?_
            refine r_v (Value.int .i64 ((i2_ + 1))) rfl rfl rfl rfl ?_
            refine lx_nil ?_
            refine fg _ (Sub.pick [S12, S18] [0, 1] rfl) ?_
            exact ⟨n22 + 1, by omega, n22, (i2_ + 1), hM, is_mk rfl rfl, rfl⟩
        · replace hM := ifn (of_decide_eq_false hc25) hM
          refine A_exit ?_
          refine hK20 _ _ ?_; try clear hK20 K20
          refine A_seq fun K34 hK34 => ?_
          refine A_reg ?_
          replace hM := bind_sm hM; obtain ⟨r35, hr36, hM⟩ := hM
          refine r_c (Value.bool (r35)) rfl _ _ (ev_callF rfl call_9 rfl) (shunterlaw05_lives_g N  _ hr36) ?_
          refine r_v (Value.bool (r35)) rfl rfl rfl rfl ?_
          refine lx_nil ?_
          refine hK34 _ _ ?_; try clear hK34 K34
          obtain rfl := Option.some.inj hM
          refine A_ret (fun hn => ends_eq (v0 := Value.bool (r35)) rfl (res1 rfl))
end Go.Proofs.Ytniakkkjiifelaa
