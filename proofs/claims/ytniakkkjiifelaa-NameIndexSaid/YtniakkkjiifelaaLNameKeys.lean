/- models of functions and their walks -/
import Derived.Test.YtniakkkjiifelaaBc
namespace Go.Proofs.Ytniakkkjiifelaa
open Go Go.RowKit Go.Eng
def shunterlaw05_NameKeys_l3 (N : Nat) (a : List UInt8) (b : List UInt8) (r3 : List Int) (r11 : List Int) : Nat → Int → Option (Bool)
  | 0, _ => none
  | n22 + 1, i2_ => if (i2_ : Int) < ((r3).length : Int) then ck (0 ≤ i2_ ∧ i2_ < ((r11).length : Int)) (ck (0 ≤ i2_ ∧ i2_ < ((r3).length : Int)) (if ((r11)[(i2_).toNat]! : Int) ≠ (r3)[(i2_).toNat]! then some (false) else ck ((-9223372036854775808 ≤ (i2_ + 1) ∧ (i2_ + 1) ≤ 9223372036854775807)) ((shunterlaw05_NameKeys_l3 N a b r3 r11 n22) ((i2_ + 1))))) else (shunterref05_Keys_m N a).bind fun r34 => (shunterref05_Keys_m N b).bind fun r39 => (shunterref05_Order_m N r34 r39).bind fun r44 => (name_Alike_m N a b).bind fun r47 => if (r47) = (((r44 : Int) == 0)) then (name_Less_m N a b).bind fun r50 => (shunterref05_Less_m N a b).bind fun r52 => if (r50) = (r52) then (shunterlaw05_lives_m N ).bind fun r55 => some (r55) else some (false) else some (false)
def shunterlaw05_NameKeys_k1 (N : Nat) (a : List UInt8) (b : List UInt8) : Option (Bool) := (shunterref05_Keys_m N a).bind fun r3 => (name_Key_m N a).bind fun r9 => (shunterref05_Runes_m N r9).bind fun r11 => if (((r11).length : Int) : Int) ≠ ((r3).length : Int) then some (false) else shunterlaw05_NameKeys_l3 N a b r3 r11 N (0)
def shunterlaw05_NameKeys_m (N : Nat) (a : List UInt8) (b : List UInt8) : Option (Bool) := if (((a).length : Int) : Int) > 500 then (shunterlaw05_lives_m N ).bind fun r64 => some (r64) else if (((b).length : Int) : Int) > 500 then (shunterlaw05_lives_m N ).bind fun r61 => some (r61) else shunterlaw05_NameKeys_k1 N a b 
set_option maxRecDepth 100000 in
set_option maxHeartbeats 400000 in
theorem shunterlaw05_NameKeys_g (N : Nat) (a : List UInt8) (b : List UInt8) (r : Bool) (hM : shunterlaw05_NameKeys_m N a b = some r) : Gives Try.prog 5 #[Value.string (⟨(a).toArray⟩), Value.string (⟨(b).toArray⟩)] (Value.bool (r)) := by
  unfold shunterlaw05_NameKeys_m at hM
  refine gives_of_A follows Try.func5 rfl 66 rfl (upd (upd (fun _ => undef) 1 (Value.string (⟨(b).toArray⟩))) 0 (Value.string (⟨(a).toArray⟩))) (by funext k; match k with | 0 => rfl | 1 => rfl | k + 2 => rfl) (fun base0_ => ?_)
  refine A_seq fun K1 hK1 => ?_
  refine A_reg ?_
  refine r_v (Value.bool (false)) rfl rfl rfl rfl ?_
  refine lx_nil ?_
  refine hK1 _ _ ?_; try clear hK1 K1
  refine A_cut (fun tt ll => (shunterlaw05_NameKeys_k1 N a b  = some r) ∧ Is [(0, Value.string (⟨(a).toArray⟩)), (1, Value.string (⟨(b).toArray⟩))] [] tt ll) ?_ ?_
  · refine A_seq fun K57 hK57 => ?_
    refine A_reg ?_
    refine r_v (Value.string (⟨(a).toArray⟩)) rfl rfl rfl rfl ?_
    refine r_v (Value.int .i64 (((a).length : Int))) rfl rfl rfl (ev_lenS rfl rfl rfl) ?_
    refine r_v (Value.bool (decide ((((a).length : Int) : Int) > 500))) rfl rfl rfl rfl ?_
    refine r_v (Value.bool (decide ((((a).length : Int) : Int) > 500))) rfl rfl rfl rfl ?_
    rcases hg58 : (decide ((((a).length : Int) : Int) > 500)) with _ | _
    · replace hM := ifn (of_decide_eq_false hg58) hM
      refine r_y rfl ?_
      refine r_v (Value.string (⟨(b).toArray⟩)) rfl rfl rfl rfl ?_
      refine r_y rfl ?_
      refine r_v (Value.int .i64 (((b).length : Int))) rfl rfl rfl (ev_lenS rfl rfl rfl) ?_
      refine r_y rfl ?_
      refine r_v (Value.bool (decide ((((b).length : Int) : Int) > 500))) rfl rfl rfl rfl ?_
      refine r_v (Value.bool (decide ((((b).length : Int) : Int) > 500))) rfl rfl rfl rfl ?_
      refine lx_nil ?_
      refine hK57 _ _ ?_; try clear hK57 K57
      refine A_cond (decide ((((b).length : Int) : Int) > 500)) rfl (fun hc59 => ?_) (fun hc59 => ?_)
      · replace hM := ifp (of_decide_eq_true hc59) hM
        refine A_seq fun K60 hK60 => ?_
        refine A_reg ?_
        replace hM := bind_sm hM; obtain ⟨r61, hr62, hM⟩ := hM
        refine r_c (Value.bool (r61)) rfl _ _ (ev_callF rfl call_9 rfl) (shunterlaw05_lives_g N  _ hr62) ?_
        refine r_v (Value.bool (r61)) rfl rfl rfl rfl ?_
        refine lx_nil ?_
        refine hK60 _ _ ?_; try clear hK60 K60
        obtain rfl := Option.some.inj hM
        refine A_ret (fun hn => ends_eq (v0 := Value.bool (r61)) rfl (res1 rfl))
      · replace hM := ifn (of_decide_eq_false hc59) hM
        refine A_skip ?_
        refine fg _ (Sub.of (List.Sublist.slnil)) ?_
        exact ⟨hM, is_mk rfl rfl⟩
    · replace hM := ifp (of_decide_eq_true hg58) hM
      refine r_n true rfl (by decide) rfl ?_
      refine r_n true rfl (by decide) rfl ?_
      refine r_n true rfl (by decide) rfl ?_
      refine r_v (Value.bool (true)) rfl rfl rfl rfl ?_
      refine lx_nil ?_
      refine hK57 _ _ ?_; try clear hK57 K57
      refine A_cond true rfl (fun _ => ?_) (fun h_ => nomatch h_)
      refine A_seq fun K63 hK63 => ?_
      refine A_reg ?_
      replace hM := bind_sm hM; obtain ⟨r64, hr65, hM⟩ := hM
      refine r_c (Value.bool (r64)) rfl _ _ (ev_callF rfl call_9 rfl) (shunterlaw05_lives_g N  _ hr65) ?_
      refine r_v (Value.bool (r64)) rfl rfl rfl rfl ?_
      refine lx_nil ?_
      refine hK63 _ _ ?_; try clear hK63 K63
      obtain rfl := Option.some.inj hM
      refine A_ret (fun hn => ends_eq (v0 := Value.bool (r64)) rfl (res1 rfl))
  · clear hM; rintro t l ⟨hM, ⟨T, rfl⟩, rfl⟩
    unfold shunterlaw05_NameKeys_k1 at hM
    refine A_seq fun K2 hK2 => ?_
    refine A_regC [(some 19, false)] (conG Try.prog [(19, fun v_ L_ U_ => ∀ u0_, shunterref05_Keys_m N a = some u0_ → (p1 (fun s_ => s_) 3 encI (u0_)) v_ L_ U_)]) ?_
    refine r_v (Value.string (⟨(a).toArray⟩)) rfl rfl rfl rfl ?_
    replace hM := bind_sm hM; obtain ⟨r3, hr4, hM⟩ := hM
    refine r_g1 (Ls := []) (fun s5 => s5) 3 encI (r3) 22 _ rfl rfl rfl (ev_callF rfl call_22 rfl) (fun own_ nw_ hs_ => shunterref05_Keys_g N a _ hr4 hs_.view ) (fun _ _ v_ L_ U_ => ⟨fun h_ => h_ _ hr4, fun h_ => by intro _ e_; cases Option.some.inj (e_.symm.trans hr4); exact h_⟩) (fun s5 S6 H7 => ?_)
    refine r_v (s5) rfl rfl rfl rfl ?_
    refine lx_nil ?_
    refine hK2 _ _ ?_; try clear hK2 K2
    refine A_seq fun K8 hK8 => ?_
    refine A_regC [(some 22, false)] (conG Try.prog [(22, fun v_ L_ U_ => ∀ u0_, name_Key_m N a = some u0_ → ∀ u1_, shunterref05_Runes_m N u0_ = some u1_ → (p1 (fun s_ => s_) 3 encI (u1_)) v_ L_ U_)]) ?_
    refine r_v (Value.string (⟨(a).toArray⟩)) rfl rfl rfl rfl ?_
    replace hM := bind_sm hM; obtain ⟨r9, hr10, hM⟩ := hM
    refine r_c (Value.string (⟨(r9).toArray⟩)) rfl _ _ (ev_callF rfl call_23 rfl) (name_Key_g N a _ hr10) ?_
    replace hM := bind_sm hM; obtain ⟨r11, hr12, hM⟩ := hM
    refine r_g1 (Ls := [S6]) (fun s13 => s13) 3 encI (r11) 10 _ rfl rfl rfl (ev_callF rfl call_10 rfl) (fun own_ nw_ hs_ => shunterref05_Runes_g N r9 _ hr12 hs_.view ) (fun _ _ v_ L_ U_ => ⟨fun h_ => h_ _ hr10 _ hr12, fun h_ => by intro _ e_; cases Option.some.inj (e_.symm.trans hr10); intro _ e_; cases Option.some.inj (e_.symm.trans hr12); exact h_⟩) (fun s13 S14 H15 => ?_)
    refine r_v (s13) rfl rfl rfl rfl ?_
    refine lx_nil ?_
    refine hK8 _ _ ?_; try clear hK8 K8
    refine A_seq fun K16 hK16 => ?_
    refine A_seq fun K17 hK17 => ?_
    refine A_reg ?_
    refine r_v (s13) rfl rfl rfl rfl ?_
    refine r_v (Value.int .i64 (((r11).length : Int))) rfl rfl rfl (ev_lenSl rfl rfl rfl (Sl.shp H15)) ?_
    refine r_v (s5) rfl rfl rfl rfl ?_
    refine r_v (Value.int .i64 (((r3).length : Int))) rfl rfl rfl (ev_lenSl rfl rfl rfl (Sl.shp H7)) ?_
    refine r_v (Value.bool (((((r11).length : Int) : Int) != ((r3).length : Int)))) rfl rfl rfl rfl ?_
    refine lx_nil ?_
    refine hK17 _ _ ?_; try clear hK17 K17
    refine A_cond (((((r11).length : Int) : Int) != ((r3).length : Int))) rfl (fun hc18 => ?_) (fun hc18 => ?_)
    · replace hM := ifp (bne_iff_ne.1 hc18) hM
      refine A_seq fun K19 hK19 => ?_
      refine A_reg ?_
      refine r_v (Value.bool (false)) rfl rfl rfl rfl ?_
      refine lx_nil ?_
      refine hK19 _ _ ?_; try clear hK19 K19
      obtain rfl := Option.some.inj hM
      refine A_ret (fun hn => ends_eq (v0 := Value.bool (false)) rfl (res1 rfl))
    · replace hM := ifn (bne_f hc18) hM
      refine A_skip ?_
      refine hK16 _ _ ?_; try clear hK16 K16
      refine A_seq fun K20 hK20 => ?_
      refine A_seq fun K21 hK21 => ?_
      refine A_reg ?_
      refine r_v (Value.int .i64 (0)) rfl rfl rfl rfl ?_
      refine lx_nil ?_
      refine hK21 _ _ ?_; try clear hK21 K21
      refine A_block ?_
      refine A_forget _ (Sub.pick [S6, S14] [0, 1] rfl) ?_
      refine A_loop (fun tt ll nn => ∃ (n22 : Nat) (i2_ : Int), (shunterlaw05_NameKeys_l3 N a b r3 r11 n22 i2_ = some r) ∧ Is [(0, Value.string (⟨(a).toArray⟩)), (1, Value.string (⟨(b).toArray⟩)), (5, s5), (6, s13), (7, Value.int .i64 (i2_))] (List.flatten [S6, S14]) tt ll ∧ nn = n22 + 1) (N + 1) ?_ ?_
      · exact ⟨N, 0, hM, is_mk rfl rfl, rfl⟩
      · clear hM; rintro t l _ ⟨n22, i2_, hM, ⟨⟨T, rfl⟩, rfl⟩, rfl⟩
        rcases n22 with _ | n22
        · exact absurd hM (by simp [shunterlaw05_NameKeys_l3])
        rw [shunterlaw05_NameKeys_l3] at hM
        refine A_seq fun K23 hK23 => ?_
        refine A_seq fun K24 hK24 => ?_
        refine A_reg ?_
        refine r_v (Value.int .i64 (i2_)) rfl rfl rfl rfl ?_
        refine r_v (s5) rfl rfl rfl rfl ?_
        refine r_v (Value.int .i64 (((r3).length : Int))) rfl rfl rfl (ev_lenSl rfl rfl rfl (Sl.shp H7)) ?_
        refine r_v (Value.bool (decide ((i2_ : Int) < ((r3).length : Int)))) rfl rfl rfl rfl ?_
        refine lx_nil ?_
        refine hK24 _ _ ?_; try clear hK24 K24
        refine A_cond (decide ((i2_ : Int) < ((r3).length : Int))) rfl (fun hc25 => ?_) (fun hc25 => ?_)
        · replace hM := ifp (of_decide_eq_true hc25) hM
          refine A_skip ?_
          refine hK23 _ _ ?_; try clear hK23 K23
          refine A_seq fun K26 hK26 => ?_
          refine A_block ?_
          refine A_seq fun K27 hK27 => ?_
          refine A_draw [] (by decide +kernel) (fun hn => sep_nil) ?_
          refine r_v (s13) rfl rfl rfl rfl ?_
          refine r_v (Value.int .i64 (i2_)) rfl rfl rfl rfl ?_
          replace hM := ck_some hM; obtain ⟨ck28, hM⟩ := hM
          refine r_v (elA s13 ((i2_).toNat * 1)) rfl rfl rfl (ev_v (ev_idxSl rfl rfl rfl (Sl.shp H15) ck28)) ?_
          refine r_le (Value.int .i64 ((r11)[(i2_).toNat]!)) (En := encI) ((r11)[(i2_).toNat]!) ((i2_).toNat) 0 rfl rfl (rd_own H15 (mem_chunk (Ls := [S6, S14]) (k := 1) rfl rfl)) (get_of ck28) rfl ?_
          refine r_v (s5) rfl rfl rfl rfl ?_
          refine r_v (Value.int .i64 (i2_)) rfl rfl rfl rfl ?_
          replace hM := ck_some hM; obtain ⟨ck29, hM⟩ := hM
          refine r_v (elA s5 ((i2_).toNat * 1)) rfl rfl rfl (ev_v (ev_idxSl rfl rfl rfl (Sl.shp H7) ck29)) ?_
          refine r_le (Value.int .i64 ((r3)[(i2_).toNat]!)) (En := encI) ((r3)[(i2_).toNat]!) ((i2_).toNat) 0 rfl rfl (rd_own H7 (mem_chunk (Ls := [S6, S14]) (k := 0) rfl rfl)) (get_of ck29) rfl ?_
          refine r_v (Value.bool ((((r11)[(i2_).toNat]! : Int) != (r3)[(i2_).toNat]!))) rfl rfl rfl rfl ?_
          refine lx_nil ?_
          refine hK27 _ _ ?_; try clear hK27 K27
          refine A_cond ((((r11)[(i2_).toNat]! : Int) != (r3)[(i2_).toNat]!)) rfl (fun hc30 => ?_) (fun hc30 => ?_)
          · replace hM := ifp (bne_iff_ne.1 hc30) hM
            refine A_seq fun K31 hK31 => ?_
            refine A_reg ?_
            refine r_v (Value.bool (false)) rfl rfl rfl rfl ?_
            refine lx_nil ?_
            refine hK31 _ _ ?_; try clear hK31 K31
            obtain rfl := Option.some.inj hM
            refine A_ret (fun hn => ends_eq (v0 := Value.bool (false)) rfl (res1 rfl))
          · replace hM := ifn (bne_f hc30) hM
            refine A_skip ?_
            refine hK26 _ _ ?_; try clear hK26 K26
            refine A_reg ?_
            refine r_v (Value.int .i64 (i2_)) rfl rfl rfl rfl ?_
            replace hM := ck_some hM; obtain ⟨ck32, hM⟩ := hM
            refine r_v (Value.int .i64 ((i2_ + 1))) rfl rfl (wi64 rfl ck32.1 ck32.2) rfl ?_
            refine r_v (Value.int .i64 ((i2_ + 1))) rfl rfl rfl rfl ?_
            refine lx_nil ?_
            refine fg _ (Sub.pick [S6, S14] [0, 1] rfl) ?_
            exact ⟨n22 + 1, by omega, n22, (i2_ + 1), hM, is_mk rfl rfl, rfl⟩
        · replace hM := ifn (of_decide_eq_false hc25) hM
          refine A_exit ?_
          refine hK20 _ _ ?_; try clear hK20 K20
          refine A_seq fun K33 hK33 => ?_
          refine A_regC [(some 44, false), (some 46, false), (some 47, false)] (conG Try.prog [(44, fun v_ L_ U_ => ∀ u0_, shunterref05_Keys_m N a = some u0_ → (p1 (fun s_ => s_) 3 encI (u0_)) v_ L_ U_), (46, fun v_ L_ U_ => ∀ u0_, shunterref05_Keys_m N b = some u0_ → (p1 (fun s_ => s_) 3 encI (u0_)) v_ L_ U_), (47, fun v_ L_ U_ => ∀ u0_, shunterref05_Keys_m N a = some u0_ → ∀ u1_, shunterref05_Keys_m N b = some u1_ → ∀ u2_, shunterref05_Order_m N u0_ u1_ = some u2_ → (pV (Value.int .i64 (u2_))) v_ L_ U_)]) ?_
          refine r_v (Value.string (⟨(a).toArray⟩)) rfl rfl rfl rfl ?_
          replace hM := bind_sm hM; obtain ⟨r34, hr35, hM⟩ := hM
          refine r_g1 (Ls := [S6, S14]) (fun s36 => s36) 3 encI (r34) 22 _ rfl rfl rfl (ev_callF rfl call_22 rfl) (fun own_ nw_ hs_ => shunterref05_Keys_g N a _ hr35 hs_.view ) (fun _ _ v_ L_ U_ => ⟨fun h_ => h_ _ hr35, fun h_ => by intro _ e_; cases Option.some.inj (e_.symm.trans hr35); exact h_⟩) (fun s36 S37 H38 => ?_)
          refine r_v (Value.string (⟨(b).toArray⟩)) rfl rfl rfl rfl ?_
          replace hM := bind_sm hM; obtain ⟨r39, hr40, hM⟩ := hM
          refine r_g1 (Ls := [S6, S14, S37]) (fun s41 => s41) 3 encI (r39) 22 _ rfl rfl rfl (ev_callF rfl call_22 rfl) (fun own_ nw_ hs_ => shunterref05_Keys_g N b _ hr40 hs_.view ) (fun _ _ v_ L_ U_ => ⟨fun h_ => h_ _ hr40, fun h_ => by intro _ e_; cases Option.some.inj (e_.symm.trans hr40); exact h_⟩) (fun s41 S42 H43 => ?_)
          replace hM := bind_sm hM; obtain ⟨r44, hr45, hM⟩ := hM
          refine r_gv (Value.int .i64 (r44)) 24 _ rfl rfl rfl (ev_callF rfl call_24 rfl) (fun own_ nw_ hs_ => shunterref05_Order_g N r34 r39 _ hr45 hs_.view s36 ((rd_own H38 (mem_chunk (Ls := [S6, S14, S37, S42]) (k := 2) rfl rfl)) own_ nw_ hs_) s41 ((rd_own H43 (mem_chunk (Ls := [S6, S14, S37, S42]) (k := 3) rfl rfl)) own_ nw_ hs_)) (fun _ _ v_ L_ U_ => ⟨fun h_ => h_ _ hr35 _ hr40 _ hr45, fun h_ => by intro _ e_; cases Option.some.inj (e_.symm.trans hr35); intro _ e_; cases Option.some.inj (e_.symm.trans hr40); intro _ e_; cases Option.some.inj (e_.symm.trans hr45); exact h_⟩) ?_
          refine r_v (Value.bool (((r44 : Int) == 0))) rfl rfl rfl rfl ?_
          refine r_v (Value.bool (((r44 : Int) == 0))) rfl rfl rfl rfl ?_
          refine lx_nil ?_
          refine hK33 _ _ ?_; try clear hK33 K33
          refine A_seq fun K46 hK46 => ?_
          refine A_reg ?_
          refine r_v (Value.string (⟨(a).toArray⟩)) rfl rfl rfl rfl ?_
          refine r_v (Value.string (⟨(b).toArray⟩)) rfl rfl rfl rfl ?_
          replace hM := bind_sm hM; obtain ⟨r47, hr48, hM⟩ := hM
          refine r_c (Value.bool (r47)) rfl _ _ (ev_callF rfl call_25 rfl) (name_Alike_g N a b _ hr48) ?_
          refine r_v (Value.bool (((r44 : Int) == 0))) rfl rfl rfl rfl ?_
          refine r_v (Value.bool ((r47) == (((r44 : Int) == 0)))) rfl rfl rfl (ev_binB rfl rfl rfl) ?_
          refine r_v (Value.bool ((r47) == (((r44 : Int) == 0)))) rfl rfl rfl rfl ?_
          rcases hg49 : ((r47) == (((r44 : Int) == 0))) with _ | _
          · replace hM := ifn (ne_of_beq_false hg49) hM
            refine r_n false rfl (by decide) rfl ?_
            refine r_n false rfl (by decide) rfl ?_
            refine r_n false rfl (by decide) rfl ?_
            refine r_n false rfl (by decide) rfl ?_
            refine r_n false rfl (by decide) rfl ?_
            refine r_n false rfl (by decide) rfl ?_
            refine r_n false rfl (by decide) rfl ?_
            refine r_v (Value.bool (false)) rfl rfl rfl rfl ?_
            refine r_v (Value.bool (false)) rfl rfl rfl rfl ?_
            refine r_n false rfl (by decide) rfl ?_
            refine r_v (Value.bool (false)) rfl rfl rfl rfl ?_
            refine r_v (Value.bool (false)) rfl rfl rfl rfl ?_
            refine lx_nil ?_
            refine hK46 _ _ ?_; try clear hK46 K46
            refine A_gen [(4, Value.bool (false))] rfl (fun T => ?_)
            obtain rfl := Option.some.inj hM
            refine A_ret (fun hn => ends_eq (v0 := Value.bool (false)) rfl (res1 rfl))
          · replace hM := ifp (eq_of_beq hg49) hM
            refine r_y rfl ?_
            refine r_v (Value.string (⟨(a).toArray⟩)) rfl rfl rfl rfl ?_
            refine r_y rfl ?_
            refine r_v (Value.string (⟨(b).toArray⟩)) rfl rfl rfl rfl ?_
            refine r_y rfl ?_
            replace hM := bind_sm hM; obtain ⟨r50, hr51, hM⟩ := hM
            refine r_c (Value.bool (r50)) rfl _ _ (ev_callF rfl call_26 rfl) (name_Less_g N a b _ hr51) ?_
            refine r_y rfl ?_
            refine r_v (Value.string (⟨(a).toArray⟩)) rfl rfl rfl rfl ?_
            refine r_y rfl ?_
            refine r_v (Value.string (⟨(b).toArray⟩)) rfl rfl rfl rfl ?_
            refine r_y rfl ?_
            replace hM := bind_sm hM; obtain ⟨r52, hr53, hM⟩ := hM
            refine r_c (Value.bool (r52)) rfl _ _ (ev_callF rfl call_27 rfl) (shunterref05_Less_g N a b _ hr53) ?_
            refine r_y rfl ?_
            refine r_v (Value.bool ((r50) == (r52))) rfl rfl rfl (ev_binB rfl rfl rfl) ?_
            refine r_v (Value.bool ((r50) == (r52))) rfl rfl rfl rfl ?_
            refine r_v (Value.bool ((r50) == (r52))) rfl rfl rfl rfl ?_
            rcases hg54 : ((r50) == (r52)) with _ | _
            · replace hM := ifn (ne_of_beq_false hg54) hM
              refine r_n false rfl (by decide) rfl ?_
              refine r_v (Value.bool (false)) rfl rfl rfl rfl ?_
              refine r_v (Value.bool (false)) rfl rfl rfl rfl ?_
              refine lx_nil ?_
              refine hK46 _ _ ?_; try clear hK46 K46
              refine A_gen [(4, Value.bool (false))] rfl (fun T => ?_)
              obtain rfl := Option.some.inj hM
              refine A_ret (fun hn => ends_eq (v0 := Value.bool (false)) rfl (res1 rfl))
            · replace hM := ifp (eq_of_beq hg54) hM
              refine r_y rfl ?_
              replace hM := bind_sm hM; obtain ⟨r55, hr56, hM⟩ := hM
              refine r_c (Value.bool (r55)) rfl _ _ (ev_callF rfl call_9 rfl) (shunterlaw05_lives_g N  _ hr56) ?_
              refine r_v (Value.bool (r55)) rfl rfl rfl rfl ?_
              refine r_v (Value.bool (r55)) rfl rfl rfl rfl ?_
              refine lx_nil ?_
              refine hK46 _ _ ?_; try clear hK46 K46
              refine A_gen [(4, Value.bool (r55))] rfl (fun T => ?_)
              obtain rfl := Option.some.inj hM
              refine A_ret (fun hn => ends_eq (v0 := Value.bool (r55)) rfl (res1 rfl))
end Go.Proofs.Ytniakkkjiifelaa
