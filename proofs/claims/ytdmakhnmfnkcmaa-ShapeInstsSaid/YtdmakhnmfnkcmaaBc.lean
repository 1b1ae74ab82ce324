/- models of functions and their walks -/
import Derived.Test.YtdmakhnmfnkcmaaBb
namespace Go.Proofs.Ytdmakhnmfnkcmaa
open Go Go.RowKit Go.Eng
abbrev kBc44_0 (b : Nat) (x0 : List UInt8) (x1 : Int) (x2 : Int) : List Bl := [(b, 44, #[vS x0, vI x1, vI x2])]
abbrev kBc24_1 (b : Nat) (x0 : Value) (x1 : Value) (x2 : Int) (x3 : Int) (x4 : Int) (x5 : Int) : List Bl := [(b, 24, #[x0, x1, vI x2, vI x3, vI x4, vI x5])]
abbrev kBc24_2 (b : Nat) (x0 : List UInt8) (x1 : Value) (x2 : Int) (x3 : Int) (x4 : Int) (x5 : Int) : List Bl := [(b, 24, #[vS x0, x1, vI x2, vI x3, vI x4, vI x5])]
def shunterref05_Keys_l3 (N : Nat) : Nat → List Int → Int → Option (List Int)
  | 0, _, _ => none
  | n10 + 1, s1_, i2_ => if i2_ < ((s1_).length : Int) then ck (0 ≤ i2_ ∧ i2_ < ((s1_).length : Int)) ((shunterref05_Fold_m N ((s1_)[(i2_).toNat]!)).bind fun r16 => ck (0 ≤ i2_ ∧ i2_ < ((s1_).length : Int)) (ck (-9223372036854775808 ≤ (i2_ + 1) ∧ (i2_ + 1) ≤ 9223372036854775807) ((shunterref05_Keys_l3 N n10) ((s1_).set ((i2_).toNat) r16) (i2_ + 1)))) else some s1_
def shunterref05_Keys_m (N : Nat) (s : List UInt8) : Option (List Int) := (shunterref05_Runes_m N s).bind fun r3 => shunterref05_Keys_l3 N N r3 0
set_option maxRecDepth 100000 in
set_option maxHeartbeats 8000000 in
theorem shunterref05_Keys_g (N : Nat) (s : List UInt8) (r) (hM : shunterref05_Keys_m N s = some r) (ro : Addr → Option Value) : Does Try.prog 35 #[vS s] ro [] (p1 (fun s_ => s_) 3 encI r) := by
 unfold shunterref05_Keys_m at hM
 refine does_of_A follows Try.func35 rfl 22 rfl (upd (fun _ => undef) 0 (vS s)) (by funext k; match k with | 0 => rfl | k + 1 => rfl) (fun base0_ => ?_)
 refine A_sr <| r_V nS rfl <| lx_nil <| A_sc [(some 6, false)] (conG Try.prog [(6, fun _ _ v_ L_ U_ => ∀ u0_, shunterref05_Runes_m N s = some u0_ → (p1 (fun s_ => s_) 3 encI u0_) v_ L_ U_)]) <| r_V (vS s) rfl ?_
 obtain ⟨r3, hr4, hM⟩ := bind_sm hM
 refine r_g1 (Ls := []) (fun s5 => s5) 3 encI r3 46 _ rfl rfl rfl (ev_callF rfl call_46 rfl) (fun own_ nw_ hs_ => shunterref05_Runes_g N s _ hr4 hs_.view ) (conE hr4) (fun s5 S6 H7 => ?_)
 refine r_V s5 rfl <| lx_nil <| A_seq fun K8 hK8 => A_sr <| r_V (vI 0) rfl <| lx_nil <| A_block <| A_forget _ (Sub.pick [S6] [0] rfl) <| A_loop (fun tt ll nn => ∃ (n10 : Nat) (s1_ : List Int) (i2_ : Int), (shunterref05_Keys_l3 N n10 s1_ i2_ = some r) ∧ ∃ (Ss1_ : List Bl), Sl 3 encI s5 s1_ Ss1_ ∧ Is [(3, s5), (4, vI i2_)] (List.flatten [Ss1_]) tt ll ∧ nn = n10 + 1) (N + 1) ?_ ?_
 ·exact ⟨N, r3, 0, hM, S6, H7, is_mk rfl rfl, rfl⟩
 clear hM; rintro t l _ ⟨n10, s1_, i2_, hM, Ss1_, hs1_, ⟨⟨T, rfl⟩, rfl⟩, rfl⟩
 rcases n10 with _ | n10
 ·exact absurd hM (by simp [shunterref05_Keys_l3])
 rw [shunterref05_Keys_l3] at hM
 refine A_seq fun K11 hK11 => A_sr <| r_R [vI i2_, s5] rfl <| r_W (vI ((s1_).length : Int)) rfl (ev_lenSl rfl rfl rfl (Sl.shp hs1_)) <| r_V (vB (decide (i2_ < ((s1_).length : Int)))) rfl <| lx_nil <| A_cond (decide (i2_ < ((s1_).length : Int))) rfl (fun hc13 => ?_) (fun hc13 => ?_)
 ·replace hM := ifp (of_decide_eq_true hc13) hM
  refine A_skip <| hK11 _ _ ?_; try clear hK11 K11
  refine A_seq fun K14 hK14 => A_block <| A_reg <| r_R [s5, vI i2_, s5, vI i2_] rfl ?_
  obtain ⟨ck15, hM⟩ := ck_some hM
  refine r_W (elA s5 ((i2_).toNat * 1)) rfl (ev_v (ev_idxSl rfl rfl rfl (Sl.shp hs1_) ck15)) <| r_le (vI ((s1_)[(i2_).toNat]!)) (En := encI) ((s1_)[(i2_).toNat]!) ((i2_).toNat) 0 rfl rfl (rd_own hs1_ (mem_chunk (Ls := [Ss1_]) (k := 0) rfl rfl)) (get_of ck15) rfl ?_
  obtain ⟨r16, hr17, hM⟩ := bind_sm hM
  refine r_c (vI r16) rfl _ _ (ev_callF rfl call_47 rfl) (shunterref05_Fold_g N ((s1_)[(i2_).toNat]!) _ hr17) ?_
  obtain ⟨ck18, hM⟩ := ck_some hM
  refine r_W (elA s5 ((i2_).toNat * 1)) rfl (ev_v (ev_idxSl rfl rfl rfl (Sl.shp hs1_) ck18)) <| r_se (Ls := [Ss1_]) 0 (En := encI) ((s1_)[(i2_).toNat]!) r16 ((i2_).toNat) 0 rfl rfl rfl hs1_ (get_of ck18) rfl rfl rfl (one_all rfl) rfl (fun S19 H20 => ?_)
  refine lx_nil <| hK14 _ _ ?_; try clear hK14 K14
  refine A_reg <| r_V (vI i2_) rfl ?_
  obtain ⟨ck21, hM⟩ := ck_some hM
  refine r_X (vI (i2_ + 1)) rfl (wi64 rfl ck21.1 ck21.2) rfl <| r_V (vI (i2_ + 1)) rfl <| lx_nil <| fg _ (Sub.pick [S19] [0] rfl) ?_
  exact ⟨n10 + 1, by omega, n10, (s1_).set ((i2_).toNat) r16, (i2_ + 1), hM, S19, H20, is_mk rfl rfl, rfl⟩
 replace hM := ifn (of_decide_eq_false hc13) hM
 refine A_exit <| hK8 _ _ ?_; try clear hK8 K8
 refine A_sr <| r_R [s5, s5] rfl <| lx_nil ?_
 obtain rfl := Option.some.inj hM
 refine A_ret (fun hn => ends1 (v0 := s5) hs1_ (sub_one (Sub.pick [Ss1_] [0] rfl)) rfl (res1 rfl))
def shunterref05_Order_k1 (a : List Int) (b : List Int) : Option Int := if (((a).length : Int) : Int) < ((b).length : Int) then some (-1) else if (((a).length : Int) : Int) > ((b).length : Int) then some 1 else some 0
def shunterref05_Order_k4 (a : List Int) (b : List Int) (i2_ : Int) (rec_shunterref05_Order_l3 : Int → Option Int) : Option Int := ck (0 ≤ i2_ ∧ i2_ < ((a).length : Int)) (ck (0 ≤ i2_ ∧ i2_ < ((b).length : Int)) (if ((a)[(i2_).toNat]! : Int) < (b)[(i2_).toNat]! then some (-1) else ck (0 ≤ i2_ ∧ i2_ < ((a).length : Int)) (ck (0 ≤ i2_ ∧ i2_ < ((b).length : Int)) (if ((a)[(i2_).toNat]! : Int) > (b)[(i2_).toNat]! then some 1 else ck (-9223372036854775808 ≤ (i2_ + 1) ∧ (i2_ + 1) ≤ 9223372036854775807) (rec_shunterref05_Order_l3 (i2_ + 1))))))
def shunterref05_Order_l3 (a : List Int) (b : List Int) : Nat → Int → Option Int
  | 0, _ => none
  | n12 + 1, i2_ => if i2_ < ((a).length : Int) then if i2_ < ((b).length : Int) then shunterref05_Order_k4 a b i2_ (shunterref05_Order_l3 a b n12)  else shunterref05_Order_k1 a b  else shunterref05_Order_k1 a b 
def shunterref05_Order_m (N : Nat) (a : List Int) (b : List Int) : Option Int := shunterref05_Order_l3 a b N 0
set_option maxRecDepth 100000 in
set_option maxHeartbeats 8000000 in
theorem shunterref05_Order_g (N : Nat) (a b : List Int) (r) (hM : shunterref05_Order_m N a b = some r) (ro : Addr → Option Value) (av : Value) (ha : Rd encI ro av a) (bv : Value) (hb : Rd encI ro bv b) : Does Try.prog 34 #[av, bv] ro [] (pV (vI r)) := by
 unfold shunterref05_Order_m at hM
 refine does_of_A follows Try.func34 rfl 46 rfl (upd (upd (fun _ => undef) 1 bv) 0 av) (by funext k; match k with | 0 => rfl | 1 => rfl | k + 2 => rfl) (fun base0_ => ?_)
 refine A_sr <| r_V (vI 0) rfl <| lx_nil <| A_cut (fun tt ll => (shunterref05_Order_k1 a b  = some r) ∧ Is [(0, av), (1, bv)] [] tt ll) ?_ ?_
 ·refine A_sr <| r_V (vI 0) rfl <| lx_nil <| A_block <| A_loop (fun tt ll nn => ∃ (n12 : Nat) (i2_ : Int), (shunterref05_Order_l3 a b n12 i2_ = some r) ∧ Is [(0, av), (1, bv), (5, vI i2_)] [] tt ll ∧ nn = n12 + 1) (N + 1) ?_ ?_
  ·exact ⟨N, 0, hM, is_mk rfl rfl, rfl⟩
  clear hM; rintro t l _ ⟨n12, i2_, hM, ⟨⟨T, rfl⟩, rfl⟩, rfl⟩
  rcases n12 with _ | n12
  ·exact absurd hM (by simp [shunterref05_Order_l3])
  rw [shunterref05_Order_l3] at hM
  refine A_cut (fun tt ll => (shunterref05_Order_k4 a b i2_ (shunterref05_Order_l3 a b n12)  = some r) ∧ Is [(0, av), (1, bv), (5, vI i2_)] [] tt ll) ?_ ?_
  ·refine A_seq fun K26 hK26 => A_reg <| r_R [vI i2_, av] rfl <| r_W (vI ((a).length : Int)) rfl (ev_lenSl rfl rfl rfl (Rd.shp ha)) <| r_R [vB (decide (i2_ < ((a).length : Int))), vB (decide (i2_ < ((a).length : Int)))] rfl ?_
   rcases hg27 : (decide (i2_ < ((a).length : Int))) with _ | _
   ·replace hM := ifn (of_decide_eq_false hg27) hM
    refine r_R [none, none, none, none, vB false] rfl <| lx_nil <| hK26 _ _ ?_; try clear hK26 K26
    refine A_cond false rfl (fun h_ => nomatch h_) (fun _ => ?_)
    refine A_exit <| fg _ (Sub.of List.Sublist.slnil) ?_
    exact ⟨hM, is_mk rfl rfl⟩
   replace hM := ifp (of_decide_eq_true hg27) hM
   refine r_R [vI i2_, bv] rfl <| r_y rfl <| r_W (vI ((b).length : Int)) rfl (ev_lenSl rfl rfl rfl (Rd.shp hb)) <| r_R [vB (decide (i2_ < ((b).length : Int))), vB (decide (i2_ < ((b).length : Int)))] rfl <| lx_nil <| hK26 _ _ ?_; try clear hK26 K26
   refine A_cond (decide (i2_ < ((b).length : Int))) rfl (fun hc28 => ?_) (fun hc28 => ?_)
   ·replace hM := ifp (of_decide_eq_true hc28) hM
    refine A_skip <| fg _ (Sub.of List.Sublist.slnil) ?_
    exact ⟨hM, is_mk rfl rfl⟩
   replace hM := ifn (of_decide_eq_false hc28) hM
   refine A_exit <| fg _ (Sub.of List.Sublist.slnil) ?_
   exact ⟨hM, is_mk rfl rfl⟩
  clear hM; rintro t l ⟨hM, ⟨T, rfl⟩, rfl⟩
  unfold shunterref05_Order_k4 at hM
  refine A_seq fun K13 hK13 => A_block <| A_seq fun K14 hK14 => A_seq fun K15 hK15 => A_draw [] (by decide +kernel) (fun hn => sep_nil) <| r_R [av, vI i2_] rfl ?_
  obtain ⟨ck16, hM⟩ := ck_some hM
  refine r_W (elA av ((i2_).toNat * 1)) rfl (ev_v (ev_idxSl rfl rfl rfl (Rd.shp ha) ck16)) <| r_le (vI ((a)[(i2_).toNat]!)) (En := encI) ((a)[(i2_).toNat]!) ((i2_).toNat) 0 rfl rfl (rd_ro ha) (get_of ck16) rfl <| r_R [bv, vI i2_] rfl ?_
  obtain ⟨ck17, hM⟩ := ck_some hM
  refine r_W (elA bv ((i2_).toNat * 1)) rfl (ev_v (ev_idxSl rfl rfl rfl (Rd.shp hb) ck17)) <| r_le (vI ((b)[(i2_).toNat]!)) (En := encI) ((b)[(i2_).toNat]!) ((i2_).toNat) 0 rfl rfl (rd_ro hb) (get_of ck17) rfl <| r_V (vB (decide (((a)[(i2_).toNat]! : Int) < (b)[(i2_).toNat]!))) rfl <| lx_nil <| hK15 _ _ ?_; try clear hK15 K15
  refine A_cond (decide (((a)[(i2_).toNat]! : Int) < (b)[(i2_).toNat]!)) rfl (fun hc18 => ?_) (fun hc18 => ?_)
  ·replace hM := ifp (of_decide_eq_true hc18) hM
   refine A_sr <| r_V (vI (-1)) rfl <| lx_nil ?_
   obtain rfl := Option.some.inj hM
   refine A_ret (fun hn => endsV (v0 := vI (-1)) rfl (res1 rfl))
  replace hM := ifn (of_decide_eq_false hc18) hM
  refine A_skip <| hK14 _ _ ?_; try clear hK14 K14
  refine A_seq fun K20 hK20 => A_draw [] (by decide +kernel) (fun hn => sep_nil) <| r_R [av, vI i2_] rfl ?_
  obtain ⟨ck21, hM⟩ := ck_some hM
  refine r_W (elA av ((i2_).toNat * 1)) rfl (ev_v (ev_idxSl rfl rfl rfl (Rd.shp ha) ck21)) <| r_le (vI ((a)[(i2_).toNat]!)) (En := encI) ((a)[(i2_).toNat]!) ((i2_).toNat) 0 rfl rfl (rd_ro ha) (get_of ck21) rfl <| r_R [bv, vI i2_] rfl ?_
  obtain ⟨ck22, hM⟩ := ck_some hM
  refine r_W (elA bv ((i2_).toNat * 1)) rfl (ev_v (ev_idxSl rfl rfl rfl (Rd.shp hb) ck22)) <| r_le (vI ((b)[(i2_).toNat]!)) (En := encI) ((b)[(i2_).toNat]!) ((i2_).toNat) 0 rfl rfl (rd_ro hb) (get_of ck22) rfl <| r_V (vB (decide (((a)[(i2_).toNat]! : Int) > (b)[(i2_).toNat]!))) rfl <| lx_nil <| hK20 _ _ ?_; try clear hK20 K20
  refine A_cond (decide (((a)[(i2_).toNat]! : Int) > (b)[(i2_).toNat]!)) rfl (fun hc23 => ?_) (fun hc23 => ?_)
  ·replace hM := ifp (of_decide_eq_true hc23) hM
   refine A_sr <| r_V (vI 1) rfl <| lx_nil ?_
   obtain rfl := Option.some.inj hM
   refine A_ret (fun hn => endsV (v0 := vI 1) rfl (res1 rfl))
  replace hM := ifn (of_decide_eq_false hc23) hM
  refine A_skip <| hK13 _ _ ?_; try clear hK13 K13
  refine A_reg <| r_V (vI i2_) rfl ?_
  obtain ⟨ck25, hM⟩ := ck_some hM
  refine r_X (vI (i2_ + 1)) rfl (wi64 rfl ck25.1 ck25.2) rfl <| r_V (vI (i2_ + 1)) rfl <| lx_nil <| fg _ (Sub.of List.Sublist.slnil) ?_
  exact ⟨n12 + 1, by omega, n12, (i2_ + 1), hM, is_mk rfl rfl, rfl⟩
 clear hM; rintro t l ⟨hM, ⟨T, rfl⟩, rfl⟩
 unfold shunterref05_Order_k1 at hM
 refine A_seq fun K2 hK2 => A_sr <| r_V av rfl <| r_W (vI ((a).length : Int)) rfl (ev_lenSl rfl rfl rfl (Rd.shp ha)) <| r_V bv rfl <| r_W (vI ((b).length : Int)) rfl (ev_lenSl rfl rfl rfl (Rd.shp hb)) <| r_V (vB (decide ((((a).length : Int) : Int) < ((b).length : Int)))) rfl <| lx_nil <| A_cond (decide ((((a).length : Int) : Int) < ((b).length : Int))) rfl (fun hc4 => ?_) (fun hc4 => ?_)
 ·replace hM := ifp (of_decide_eq_true hc4) hM
  refine A_sr <| r_V (vI (-1)) rfl <| lx_nil ?_
  obtain rfl := Option.some.inj hM
  refine A_ret (fun hn => endsV (v0 := vI (-1)) rfl (res1 rfl))
 replace hM := ifn (of_decide_eq_false hc4) hM
 refine A_skip <| hK2 _ _ ?_; try clear hK2 K2
 refine A_seq fun K6 hK6 => A_sr <| r_V av rfl <| r_W (vI ((a).length : Int)) rfl (ev_lenSl rfl rfl rfl (Rd.shp ha)) <| r_V bv rfl <| r_W (vI ((b).length : Int)) rfl (ev_lenSl rfl rfl rfl (Rd.shp hb)) <| r_V (vB (decide ((((a).length : Int) : Int) > ((b).length : Int)))) rfl <| lx_nil <| A_cond (decide ((((a).length : Int) : Int) > ((b).length : Int))) rfl (fun hc8 => ?_) (fun hc8 => ?_)
 ·replace hM := ifp (of_decide_eq_true hc8) hM
  refine A_sr <| r_V (vI 1) rfl <| lx_nil ?_
  obtain rfl := Option.some.inj hM
  refine A_ret (fun hn => endsV (v0 := vI 1) rfl (res1 rfl))
 replace hM := ifn (of_decide_eq_false hc8) hM
 refine A_skip <| hK6 _ _ ?_; try clear hK6 K6
 refine A_sr <| r_V (vI 0) rfl <| lx_nil ?_
 obtain rfl := Option.some.inj hM
 refine A_ret (fun hn => endsV (v0 := vI 0) rfl (res1 rfl))
def shunterref08_Alike_m (N : Nat) (a : List UInt8) (b : List UInt8) : Option Bool := (shunterref05_Keys_m N a).bind fun r3 => (shunterref05_Keys_m N b).bind fun r8 => (shunterref05_Order_m N r3 r8).bind fun r13 => some (r13 == 0)
set_option maxRecDepth 100000 in
set_option maxHeartbeats 8000000 in
theorem shunterref08_Alike_g (N : Nat) (a b : List UInt8) (r) (hM : shunterref08_Alike_m N a b = some r) : Gives Try.prog 19 #[vS a, vS b] (vB r) := by
 unfold shunterref08_Alike_m at hM
 refine gives_of_A follows Try.func19 rfl 11 rfl (upd (upd (fun _ => undef) 1 (vS b)) 0 (vS a)) (by funext k; match k with | 0 => rfl | 1 => rfl | k + 2 => rfl) (fun base0_ => ?_)
 refine A_sr <| r_V (vB false) rfl <| lx_nil <| A_sc [(some 6, false), (some 8, false), (some 9, false)] (conG Try.prog [(6, fun _ _ v_ L_ U_ => ∀ u0_, shunterref05_Keys_m N a = some u0_ → (p1 (fun s_ => s_) 3 encI u0_) v_ L_ U_), (8, fun _ _ v_ L_ U_ => ∀ u0_, shunterref05_Keys_m N b = some u0_ → (p1 (fun s_ => s_) 3 encI u0_) v_ L_ U_), (9, fun _ _ v_ L_ U_ => ∀ u0_, shunterref05_Keys_m N a = some u0_ → ∀ u1_, shunterref05_Keys_m N b = some u1_ → ∀ u2_, shunterref05_Order_m N u0_ u1_ = some u2_ → (pV (vI u2_)) v_ L_ U_)]) <| r_V (vS a) rfl ?_
 obtain ⟨r3, hr4, hM⟩ := bind_sm hM
 refine r_g1 (Ls := []) (fun s5 => s5) 3 encI r3 35 _ rfl rfl rfl (ev_callF rfl call_35 rfl) (fun own_ nw_ hs_ => shunterref05_Keys_g N a _ hr4 hs_.view ) (conE hr4) (fun s5 S6 H7 => ?_)
 refine r_V (vS b) rfl ?_
 obtain ⟨r8, hr9, hM⟩ := bind_sm hM
 refine r_g1 (Ls := [S6]) (fun s10 => s10) 3 encI r8 35 _ rfl rfl rfl (ev_callF rfl call_35 rfl) (fun own_ nw_ hs_ => shunterref05_Keys_g N b _ hr9 hs_.view ) (conE hr9) (fun s10 S11 H12 => ?_)
 obtain ⟨r13, hr14, hM⟩ := bind_sm hM
 refine r_gv (vI r13) 34 _ rfl rfl rfl (ev_callF rfl call_34 rfl) (fun own_ nw_ hs_ => shunterref05_Order_g N r3 r8 _ hr14 hs_.view s5 ((rd_own H7 (mem_chunk (Ls := [S6, S11]) (k := 0) rfl rfl)) own_ nw_ hs_) s10 ((rd_own H12 (mem_chunk (Ls := [S6, S11]) (k := 1) rfl rfl)) own_ nw_ hs_)) (fun _ _ v_ L_ U_ => ⟨fun h_ => h_ _ hr4 _ hr9 _ hr14, fun h_ => by intro _ e_; cases Option.some.inj (e_.symm.trans hr4); intro _ e_; cases Option.some.inj (e_.symm.trans hr9); intro _ e_; cases Option.some.inj (e_.symm.trans hr14); exact h_⟩) ?_
 refine r_R [vB (r13 == 0), vB (r13 == 0)] rfl <| lx_nil ?_
 obtain rfl := Option.some.inj hM
 refine A_ret (fun hn => ends_eq (v0 := vB (r13 == 0)) rfl (res1 rfl))
def shunterref08_Insts_k5 (l' : List (List UInt8 × Int × Int)) (i1_ : Int) (rec_shunterref08_Insts_l2 : Int → Option Int) : Option Int := ck (0 ≤ i1_ ∧ i1_ < ((l').length : Int)) (if (((l')[(i1_).toNat]!).2.2 : Int) < 0 then some 7 else ck (0 ≤ i1_ ∧ i1_ < ((l').length : Int)) (if (((l')[(i1_).toNat]!).2.2 : Int) > 4 then some 7 else ck (-9223372036854775808 ≤ (i1_ + 1) ∧ (i1_ + 1) ≤ 9223372036854775807) (rec_shunterref08_Insts_l2 (i1_ + 1))))
def shunterref08_Insts_l4 (N : Nat) (headers : List ((List UInt8) × (List (List UInt8 × Int)) × Int × Int × Int × Int)) (l' : List (List UInt8 × Int × Int)) (i1_ : Int) (rec_shunterref08_Insts_l2 : Int → Option Int) : Nat → Int → Option Int
  | 0, _ => none
  | n22 + 1, k3_ => if k3_ < i1_ then ck (0 ≤ k3_ ∧ k3_ < ((l').length : Int)) (ck (0 ≤ i1_ ∧ i1_ < ((l').length : Int)) ((shunterref08_Alike_m N (((l')[(k3_).toNat]!).1) (((l')[(i1_).toNat]!).1)).bind fun r30 => if r30 = true then some 6 else ck (-9223372036854775808 ≤ (k3_ + 1) ∧ (k3_ + 1) ≤ 9223372036854775807) ((shunterref08_Insts_l4 N headers l' i1_ rec_shunterref08_Insts_l2 n22) (k3_ + 1)))) else ck (0 ≤ i1_ ∧ i1_ < ((l').length : Int)) (if (((l')[(i1_).toNat]!).2.1 : Int) < 0 then some 5 else ck (0 ≤ i1_ ∧ i1_ < ((l').length : Int)) (if (((l')[(i1_).toNat]!).2.1 : Int) ≥ ((headers).length : Int) then some 5 else shunterref08_Insts_k5 l' i1_ rec_shunterref08_Insts_l2 ))
def shunterref08_Insts_l2 (N : Nat) (headers : List ((List UInt8) × (List (List UInt8 × Int)) × Int × Int × Int × Int)) (l' : List (List UInt8 × Int × Int)) : Nat → Int → Option Int
  | 0, _ => none
  | n8 + 1, i1_ => if i1_ < ((l').length : Int) then ck (0 ≤ i1_ ∧ i1_ < ((l').length : Int)) ((shunterref08_Plain_m N (((l')[(i1_).toNat]!).1)).bind fun r16 => if r16 = true then shunterref08_Insts_l4 N headers l' i1_ (shunterref08_Insts_l2 N headers l' n8) N 0 else some 4) else (shunterref08_Slots_m N l').bind fun r52 => if (((r52).length : Int) : Int) > 32 then some 8 else some 0
def shunterref08_Insts_m (N : Nat) (headers : List ((List UInt8) × (List (List UInt8 × Int)) × Int × Int × Int × Int)) (l' : List (List UInt8 × Int × Int)) : Option Int := if (((l').length : Int) : Int) > 16 then some 2 else shunterref08_Insts_l2 N headers l' N 0
set_option maxRecDepth 100000 in
set_option maxHeartbeats 8000000 in
theorem shunterref08_Insts_g (N : Nat) (headers : List ((List UInt8) × (List (List UInt8 × Int)) × Int × Int × Int × Int)) (l' : List (List UInt8 × Int × Int)) (r) (hM : shunterref08_Insts_m N headers l' = some r) (ro : Addr → Option Value) (headersv : Value) (hheaders : RdN encr_24 ro headersv headers) (l'v : Value) (hl' : Rd enc_44 ro l'v l') : Does Try.prog 15 #[headersv, l'v] ro [] (pV (vI r)) := by
 unfold shunterref08_Insts_m at hM
 refine does_of_A follows Try.func15 rfl 73 rfl (upd (upd (fun _ => undef) 1 l'v) 0 headersv) (by funext k; match k with | 0 => rfl | 1 => rfl | k + 2 => rfl) (fun base0_ => ?_)
 refine A_sr <| r_V (vI 0) rfl <| lx_nil <| A_seq fun K2 hK2 => A_sr <| r_V l'v rfl <| r_W (vI ((l').length : Int)) rfl (ev_lenSl rfl rfl rfl (Rd.shp hl')) <| r_V (vB (decide ((((l').length : Int) : Int) > 16))) rfl <| lx_nil <| A_cond (decide ((((l').length : Int) : Int) > 16)) rfl (fun hc4 => ?_) (fun hc4 => ?_)
 ·replace hM := ifp (of_decide_eq_true hc4) hM
  refine A_sr <| r_V (vI 2) rfl <| lx_nil ?_
  obtain rfl := Option.some.inj hM
  refine A_ret (fun hn => endsV (v0 := vI 2) rfl (res1 rfl))
 replace hM := ifn (of_decide_eq_false hc4) hM
 refine A_skip <| hK2 _ _ ?_; try clear hK2 K2
 refine A_seq fun K6 hK6 => A_sr <| r_V (vI 0) rfl <| lx_nil <| A_block <| A_loop (fun tt ll nn => ∃ (n8 : Nat) (i1_ : Int), (shunterref08_Insts_l2 N headers l' n8 i1_ = some r) ∧ Is [(0, headersv), (1, l'v), (5, vI i1_)] [] tt ll ∧ nn = n8 + 1) (N + 1) ?_ ?_
 ·exact ⟨N, 0, hM, is_mk rfl rfl, rfl⟩
 clear hM; rintro t l _ ⟨n8, i1_, hM, ⟨⟨T, rfl⟩, rfl⟩, rfl⟩
 rcases n8 with _ | n8
 ·exact absurd hM (by simp [shunterref08_Insts_l2])
 rw [shunterref08_Insts_l2] at hM
 refine A_seq fun K9 hK9 => A_sr <| r_R [vI i1_, l'v] rfl <| r_W (vI ((l').length : Int)) rfl (ev_lenSl rfl rfl rfl (Rd.shp hl')) <| r_V (vB (decide (i1_ < ((l').length : Int)))) rfl <| lx_nil <| A_cond (decide (i1_ < ((l').length : Int))) rfl (fun hc11 => ?_) (fun hc11 => ?_)
 ·replace hM := ifp (of_decide_eq_true hc11) hM
  refine A_skip <| hK9 _ _ ?_; try clear hK9 K9
  refine A_seq fun K12 hK12 => A_block <| A_seq fun K13 hK13 => A_sr <| r_R [l'v, vI i1_] rfl ?_
  obtain ⟨ck15, hM⟩ := ck_some hM
  refine r_W (elA l'v ((i1_).toNat * 3)) rfl (ev_v (ev_idxSl rfl rfl rfl (Rd.shp hl') ck15)) <| r_W (elA l'v ((i1_).toNat * 3 + 0)) rfl (ev_v (ev_fieldX rfl rfl rfl rfl rfl rfl (Rd.shp hl') (pos_of ck15))) <| r_le (vS (((l')[(i1_).toNat]!).1)) (En := enc_44) ((l')[(i1_).toNat]!) ((i1_).toNat) 0 rfl rfl (rd_ro hl') (get_of ck15) rfl ?_
  obtain ⟨r16, hr17, hM⟩ := bind_sm hM
  refine r_c (vB r16) rfl _ _ (ev_callF rfl call_28 rfl) (shunterref08_Plain_g N (((l')[(i1_).toNat]!).1) _ hr17) <| r_V (vB (!(r16))) rfl <| lx_nil <| A_cond (!(r16)) rfl (fun hc18 => ?_) (fun hc18 => ?_)
  ·replace hM := ifn (Bool.eq_false_iff.1 (not_t hc18)) hM
   refine A_sr <| r_V (vI 4) rfl <| lx_nil ?_
   obtain rfl := Option.some.inj hM
   refine A_ret (fun hn => endsV (v0 := vI 4) rfl (res1 rfl))
  replace hM := ifp (not_f hc18) hM
  refine A_skip <| hK13 _ _ ?_; try clear hK13 K13
  refine A_seq fun K20 hK20 => A_sr <| r_V (vI 0) rfl <| lx_nil <| A_block <| A_loop (fun tt ll nn => ∃ (n22 : Nat) (k3_ : Int), (shunterref08_Insts_l4 N headers l' i1_ (shunterref08_Insts_l2 N headers l' n8) n22 k3_ = some r) ∧ Is [(0, headersv), (1, l'v), (5, vI i1_), (6, vI k3_)] [] tt ll ∧ nn = n22 + 1) (N + 1) ?_ ?_
  ·exact ⟨N, 0, hM, is_mk rfl rfl, rfl⟩
  clear hM; rintro t l _ ⟨n22, k3_, hM, ⟨⟨T, rfl⟩, rfl⟩, rfl⟩
  rcases n22 with _ | n22
  ·exact absurd hM (by simp [shunterref08_Insts_l4])
  rw [shunterref08_Insts_l4] at hM
  refine A_seq fun K23 hK23 => A_sr <| r_R [vI k3_, vI i1_, vB (decide (k3_ < i1_))] rfl <| lx_nil <| A_cond (decide (k3_ < i1_)) rfl (fun hc25 => ?_) (fun hc25 => ?_)
  ·replace hM := ifp (of_decide_eq_true hc25) hM
   refine A_skip <| hK23 _ _ ?_; try clear hK23 K23
   refine A_seq fun K26 hK26 => A_block <| A_seq fun K27 hK27 => A_draw [] (by decide +kernel) (fun hn => sep_nil) <| r_R [l'v, vI k3_] rfl ?_
   obtain ⟨ck28, hM⟩ := ck_some hM
   refine r_W (elA l'v ((k3_).toNat * 3)) rfl (ev_v (ev_idxSl rfl rfl rfl (Rd.shp hl') ck28)) <| r_W (elA l'v ((k3_).toNat * 3 + 0)) rfl (ev_v (ev_fieldX rfl rfl rfl rfl rfl rfl (Rd.shp hl') (pos_of ck28))) <| r_le (vS (((l')[(k3_).toNat]!).1)) (En := enc_44) ((l')[(k3_).toNat]!) ((k3_).toNat) 0 rfl rfl (rd_ro hl') (get_of ck28) rfl <| r_R [l'v, vI i1_] rfl ?_
   obtain ⟨ck29, hM⟩ := ck_some hM
   refine r_W (elA l'v ((i1_).toNat * 3)) rfl (ev_v (ev_idxSl rfl rfl rfl (Rd.shp hl') ck29)) <| r_W (elA l'v ((i1_).toNat * 3 + 0)) rfl (ev_v (ev_fieldX rfl rfl rfl rfl rfl rfl (Rd.shp hl') (pos_of ck29))) <| r_le (vS (((l')[(i1_).toNat]!).1)) (En := enc_44) ((l')[(i1_).toNat]!) ((i1_).toNat) 0 rfl rfl (rd_ro hl') (get_of ck29) rfl ?_
   obtain ⟨r30, hr31, hM⟩ := bind_sm hM
   refine r_c (vB r30) rfl _ _ (ev_callF rfl call_19 rfl) (shunterref08_Alike_g N (((l')[(k3_).toNat]!).1) (((l')[(i1_).toNat]!).1) _ hr31) <| lx_nil <| hK27 _ _ ?_; try clear hK27 K27
   refine A_cond r30 rfl (fun hc32 => ?_) (fun hc32 => ?_)
   ·replace hM := ifp hc32 hM
    refine A_sr <| r_V (vI 6) rfl <| lx_nil ?_
    obtain rfl := Option.some.inj hM
    refine A_ret (fun hn => endsV (v0 := vI 6) rfl (res1 rfl))
   replace hM := ifn (Bool.eq_false_iff.1 hc32) hM
   refine A_skip <| hK26 _ _ ?_; try clear hK26 K26
   refine A_reg <| r_V (vI k3_) rfl ?_
   obtain ⟨ck34, hM⟩ := ck_some hM
   refine r_X (vI (k3_ + 1)) rfl (wi64 rfl ck34.1 ck34.2) rfl <| r_V (vI (k3_ + 1)) rfl <| lx_nil <| fg _ (Sub.of List.Sublist.slnil) ?_
   exact ⟨n22 + 1, by omega, n22, (k3_ + 1), hM, is_mk rfl rfl, rfl⟩
  replace hM := ifn (of_decide_eq_false hc25) hM
  refine A_exit <| hK20 _ _ ?_; try clear hK20 K20
  refine A_cut (fun tt ll => (shunterref08_Insts_k5 l' i1_ (shunterref08_Insts_l2 N headers l' n8)  = some r) ∧ Is [(0, headersv), (1, l'v), (5, vI i1_)] [] tt ll) ?_ ?_
  ·refine A_seq fun K43 hK43 => A_reg <| r_R [l'v, vI i1_] rfl ?_
   obtain ⟨ck44, hM⟩ := ck_some hM
   refine r_W (elA l'v ((i1_).toNat * 3)) rfl (ev_v (ev_idxSl rfl rfl rfl (Rd.shp hl') ck44)) <| r_W (elA l'v ((i1_).toNat * 3 + 1)) rfl (ev_v (ev_fieldX rfl rfl rfl rfl rfl rfl (Rd.shp hl') (pos_of ck44))) <| r_le (vI (((l')[(i1_).toNat]!).2.1)) (En := enc_44) ((l')[(i1_).toNat]!) ((i1_).toNat) 1 rfl rfl (rd_ro hl') (get_of ck44) rfl <| r_R [vB (decide ((((l')[(i1_).toNat]!).2.1 : Int) < 0)), vB (decide ((((l')[(i1_).toNat]!).2.1 : Int) < 0))] rfl ?_
   rcases hg45 : (decide ((((l')[(i1_).toNat]!).2.1 : Int) < 0)) with _ | _
   ·replace hM := ifn (of_decide_eq_false hg45) hM
    refine r_R [l'v, vI i1_] rfl <| r_y rfl ?_
    obtain ⟨ck46, hM⟩ := ck_some hM
    refine r_W (elA l'v ((i1_).toNat * 3)) rfl (ev_v (ev_idxSl rfl rfl rfl (Rd.shp hl') ck46)) <| r_y rfl <| r_W (elA l'v ((i1_).toNat * 3 + 1)) rfl (ev_v (ev_fieldX rfl rfl rfl rfl rfl rfl (Rd.shp hl') (pos_of ck46))) <| r_y rfl <| r_le (vI (((l')[(i1_).toNat]!).2.1)) (En := enc_44) ((l')[(i1_).toNat]!) ((i1_).toNat) 1 rfl rfl (rd_ro hl') (get_of ck46) rfl <| r_R [headersv] rfl <| r_y rfl <| r_W (vI ((headers).length : Int)) rfl (ev_lenSl rfl rfl rfl (RdN.shp hheaders)) <| r_R [vB (decide ((((l')[(i1_).toNat]!).2.1 : Int) ≥ ((headers).length : Int))), vB (decide ((((l')[(i1_).toNat]!).2.1 : Int) ≥ ((headers).length : Int)))] rfl <| lx_nil <| hK43 _ _ ?_; try clear hK43 K43
    refine A_cond (decide ((((l')[(i1_).toNat]!).2.1 : Int) ≥ ((headers).length : Int))) rfl (fun hc47 => ?_) (fun hc47 => ?_)
    ·replace hM := ifp (of_decide_eq_true hc47) hM
     refine A_sr <| r_V (vI 5) rfl <| lx_nil ?_
     obtain rfl := Option.some.inj hM
     refine A_ret (fun hn => endsV (v0 := vI 5) rfl (res1 rfl))
    replace hM := ifn (of_decide_eq_false hc47) hM
    refine A_skip <| fg _ (Sub.of List.Sublist.slnil) ?_
    exact ⟨hM, is_mk rfl rfl⟩
   replace hM := ifp (of_decide_eq_true hg45) hM
   refine r_R [none, none, none, none, none, none, none, none, vB true] rfl <| lx_nil <| hK43 _ _ ?_; try clear hK43 K43
   refine A_cond true rfl (fun _ => ?_) (fun h_ => nomatch h_)
   refine A_sr <| r_V (vI 5) rfl <| lx_nil ?_
   obtain rfl := Option.some.inj hM
   refine A_ret (fun hn => endsV (v0 := vI 5) rfl (res1 rfl))
  clear hM; rintro t l ⟨hM, ⟨T, rfl⟩, rfl⟩
  unfold shunterref08_Insts_k5 at hM
  refine A_seq fun K35 hK35 => A_reg <| r_R [l'v, vI i1_] rfl ?_
  obtain ⟨ck36, hM⟩ := ck_some hM
  refine r_W (elA l'v ((i1_).toNat * 3)) rfl (ev_v (ev_idxSl rfl rfl rfl (Rd.shp hl') ck36)) <| r_W (elA l'v ((i1_).toNat * 3 + 2)) rfl (ev_v (ev_fieldX rfl rfl rfl rfl rfl rfl (Rd.shp hl') (pos_of ck36))) <| r_le (vI (((l')[(i1_).toNat]!).2.2)) (En := enc_44) ((l')[(i1_).toNat]!) ((i1_).toNat) 2 rfl rfl (rd_ro hl') (get_of ck36) rfl <| r_R [vB (decide ((((l')[(i1_).toNat]!).2.2 : Int) < 0)), vB (decide ((((l')[(i1_).toNat]!).2.2 : Int) < 0))] rfl ?_
  rcases hg37 : (decide ((((l')[(i1_).toNat]!).2.2 : Int) < 0)) with _ | _
  ·replace hM := ifn (of_decide_eq_false hg37) hM
   refine r_R [l'v, vI i1_] rfl <| r_y rfl ?_
   obtain ⟨ck38, hM⟩ := ck_some hM
   refine r_W (elA l'v ((i1_).toNat * 3)) rfl (ev_v (ev_idxSl rfl rfl rfl (Rd.shp hl') ck38)) <| r_y rfl <| r_W (elA l'v ((i1_).toNat * 3 + 2)) rfl (ev_v (ev_fieldX rfl rfl rfl rfl rfl rfl (Rd.shp hl') (pos_of ck38))) <| r_y rfl <| r_le (vI (((l')[(i1_).toNat]!).2.2)) (En := enc_44) ((l')[(i1_).toNat]!) ((i1_).toNat) 2 rfl rfl (rd_ro hl') (get_of ck38) rfl <| r_R [vB (decide ((((l')[(i1_).toNat]!).2.2 : Int) > 4)), vB (decide ((((l')[(i1_).toNat]!).2.2 : Int) > 4))] rfl <| lx_nil <| hK35 _ _ ?_; try clear hK35 K35
   refine A_cond (decide ((((l')[(i1_).toNat]!).2.2 : Int) > 4)) rfl (fun hc39 => ?_) (fun hc39 => ?_)
   ·replace hM := ifp (of_decide_eq_true hc39) hM
    refine A_sr <| r_V (vI 7) rfl <| lx_nil ?_
    obtain rfl := Option.some.inj hM
    refine A_ret (fun hn => endsV (v0 := vI 7) rfl (res1 rfl))
   replace hM := ifn (of_decide_eq_false hc39) hM
   refine A_skip <| hK12 _ _ ?_; try clear hK12 K12
   refine A_reg <| r_V (vI i1_) rfl ?_
   obtain ⟨ck41, hM⟩ := ck_some hM
   refine r_X (vI (i1_ + 1)) rfl (wi64 rfl ck41.1 ck41.2) rfl <| r_V (vI (i1_ + 1)) rfl <| lx_nil <| fg _ (Sub.of List.Sublist.slnil) ?_
   exact ⟨n8 + 1, by omega, n8, (i1_ + 1), hM, is_mk (by first | rfl | (simp only [hg37]; done) | (simp only [hg37]; rfl) | (simp only [app_hl]; rfl)) rfl, rfl⟩
  replace hM := ifp (of_decide_eq_true hg37) hM
  refine r_R [none, none, none, none, none, none, vB true] rfl <| lx_nil <| hK35 _ _ ?_; try clear hK35 K35
  refine A_cond true rfl (fun _ => ?_) (fun h_ => nomatch h_)
  refine A_sr <| r_V (vI 7) rfl <| lx_nil ?_
  obtain rfl := Option.some.inj hM
  refine A_ret (fun hn => endsV (v0 := vI 7) rfl (res1 rfl))
 replace hM := ifn (of_decide_eq_false hc11) hM
 refine A_exit <| hK6 _ _ ?_; try clear hK6 K6
 refine A_seq fun K50 hK50 => A_sc [(some 70, false)] (conG Try.prog [(70, fun _ _ v_ L_ U_ => ∀ u0_, shunterref08_Slots_m N l' = some u0_ → (p1 (fun s_ => s_) 45 enc_45 u0_) v_ L_ U_)]) <| r_V l'v rfl ?_
 obtain ⟨r52, hr53, hM⟩ := bind_sm hM
 refine r_g1 (Ls := []) (fun s54 => s54) 45 enc_45 r52 13 _ rfl rfl rfl (ev_callF rfl call_13 rfl) (fun own_ nw_ hs_ => shunterref08_Slots_g N l' _ hr53 hs_.view l'v ((rd_ro hl') own_ nw_ hs_)) (conE hr53) (fun s54 S55 H56 => ?_)
 refine r_W (vI ((r52).length : Int)) rfl (ev_lenSl rfl rfl rfl (Sl.shp H56)) <| r_V (vB (decide ((((r52).length : Int) : Int) > 32))) rfl <| lx_nil <| A_cond (decide ((((r52).length : Int) : Int) > 32)) rfl (fun hc57 => ?_) (fun hc57 => ?_)
 ·replace hM := ifp (of_decide_eq_true hc57) hM
  refine A_sr <| r_V (vI 8) rfl <| lx_nil ?_
  obtain rfl := Option.some.inj hM
  refine A_ret (fun hn => endsV (v0 := vI 8) rfl (res1 rfl))
 replace hM := ifn (of_decide_eq_false hc57) hM
 refine A_skip <| hK50 _ _ ?_; try clear hK50 K50
 refine A_sr <| r_V (vI 0) rfl <| lx_nil ?_
 obtain rfl := Option.some.inj hM
 refine A_ret (fun hn => endsV (v0 := vI 0) rfl (res1 rfl))
def shape_Of_l3 (N : Nat) (l' : List (List UInt8 × Int × Int)) : Nat → Int → Int → Option (Int × Int × Bool)
  | 0, _, _ => none
  | n8 + 1, slot1_, x2_ => if x2_ < ((l').length : Int) then ck (0 ≤ x2_ ∧ x2_ < ((l').length : Int)) ((shape_slotsOf_m N (((l')[(x2_).toNat]!).1) (((l')[(x2_).toNat]!).2.1) (((l')[(x2_).toNat]!).2.2)).bind fun r17 => if slot1_ < r17 then some (x2_, slot1_, true) else ck (-9223372036854775808 ≤ (slot1_ - r17) ∧ (slot1_ - r17) ≤ 9223372036854775807) (ck (-9223372036854775808 ≤ (x2_ + 1) ∧ (x2_ + 1) ≤ 9223372036854775807) ((shape_Of_l3 N l' n8) (slot1_ - r17) (x2_ + 1)))) else some (0, 0, false)
def shape_Of_m (N : Nat) (l' : List (List UInt8 × Int × Int)) (slot : Int) : Option (Int × Int × Bool) := if slot < 0 then some (0, 0, false) else shape_Of_l3 N l' N slot 0
set_option maxRecDepth 100000 in
set_option maxHeartbeats 8000000 in
theorem shape_Of_g (N : Nat) (l' : List (List UInt8 × Int × Int)) (slot : Int) (r) (hM : shape_Of_m N l' slot = some r) (ro : Addr → Option Value) (l'v : Value) (hl' : Rd enc_44 ro l'v l') : Does Try.prog 17 #[l'v, vI slot] ro [] (pV (vT #[vI r.1, vI r.2.1, vB r.2.2])) := by
 unfold shape_Of_m at hM
 refine does_of_A follows Try.func17 rfl 30 rfl (upd (upd (fun _ => undef) 1 (vI slot)) 0 l'v) (by funext k; match k with | 0 => rfl | 1 => rfl | k + 2 => rfl) (fun base0_ => ?_)
 refine A_sr <| r_R [vI 0, vI 0, vB false] rfl <| lx_nil <| A_seq fun K2 hK2 => A_sr <| r_R [vI slot, vB (decide (slot < 0))] rfl <| lx_nil <| A_cond (decide (slot < 0)) rfl (fun hc4 => ?_) (fun hc4 => ?_)
 ·replace hM := ifp (of_decide_eq_true hc4) hM
  refine A_sr <| r_R [vI 0, vI 0, vB false] rfl <| lx_nil ?_
  obtain rfl := Option.some.inj hM
  refine A_ret (fun hn => endsV (v0 := vT #[vI 0, vI 0, vB false]) rfl (res3 rfl rfl rfl))
 replace hM := ifn (of_decide_eq_false hc4) hM
 refine A_skip <| hK2 _ _ ?_; try clear hK2 K2
 refine A_seq fun K6 hK6 => A_sr <| r_V l'v rfl <| r_W (vI ((l').length : Int)) rfl (ev_lenSl rfl rfl rfl (Rd.shp hl')) <| r_V (vI 0) rfl <| lx_nil <| A_block <| A_loop (fun tt ll nn => ∃ (n8 : Nat) (slot1_ : Int) (x2_ : Int), (shape_Of_l3 N l' n8 slot1_ x2_ = some r) ∧ Is [(1, vI slot1_), (12, l'v), (13, vI ((l').length : Int)), (14, vI x2_)] [] tt ll ∧ nn = n8 + 1) (N + 1) ?_ ?_
 ·exact ⟨N, slot, 0, hM, is_mk rfl rfl, rfl⟩
 clear hM; rintro t l _ ⟨n8, slot1_, x2_, hM, ⟨⟨T, rfl⟩, rfl⟩, rfl⟩
 rcases n8 with _ | n8
 ·exact absurd hM (by simp [shape_Of_l3])
 rw [shape_Of_l3] at hM
 refine A_sr <| r_V (vB (decide (x2_ < ((l').length : Int)))) rfl <| lx_nil <| A_seq fun K10 hK10 => A_cond (decide (x2_ < ((l').length : Int))) rfl (fun hc11 => ?_) (fun hc11 => ?_)
 ·replace hM := ifp (of_decide_eq_true hc11) hM
  refine A_skip <| hK10 _ _ ?_; try clear hK10 K10
  refine A_seq fun K12 hK12 => A_block <| A_sr <| r_V (vI x2_) rfl ?_
  obtain ⟨ck14, hM⟩ := ck_some hM
  refine r_W (elA l'v ((x2_).toNat * 3)) rfl (ev_v (ev_idxSl rfl rfl rfl (Rd.shp hl') ck14)) <| r_le (vA #[vS (((l')[(x2_).toNat]!).1), vI (((l')[(x2_).toNat]!).2.1), vI (((l')[(x2_).toNat]!).2.2)]) (En := enc_44) ((l')[(x2_).toNat]!) ((x2_).toNat) 0 rfl rfl (rd_ro hl') (get_of ck14) rfl <| r_a (44, #[Value.string (⟨#[]⟩), vI 0, vI 0]) rfl rfl rfl (fun b15 => ?_) (.inr rfl)
  refine r_V (vI x2_) rfl <| r_s (kBc44_0 b15 (((l')[(x2_).toNat]!).1) (((l')[(x2_).toNat]!).2.1) (((l')[(x2_).toNat]!).2.2)) 0 _ _ _ _ _ (#[vS (((l')[(x2_).toNat]!).1), vI (((l')[(x2_).toNat]!).2.1), vI (((l')[(x2_).toNat]!).2.2)]) rfl rfl rfl rfl (.of rfl rfl) rfl rfl <| lx_nil <| A_sr <| r_l (vA #[vS (((l')[(x2_).toNat]!).1), vI (((l')[(x2_).toNat]!).2.1), vI (((l')[(x2_).toNat]!).2.2)]) 0 _ _ _ _ rfl rfl rfl rfl rfl ?_
  obtain ⟨r17, hr18, hM⟩ := bind_sm hM
  refine r_c (vI r17) rfl _ _ (ev_callF rfl call_32 rfl) (shape_slotsOf_g N (((l')[(x2_).toNat]!).1) (((l')[(x2_).toNat]!).2.1) (((l')[(x2_).toNat]!).2.2) _ hr18) <| r_V (vI r17) rfl <| lx_nil <| A_seq fun K19 hK19 => A_sr <| r_R [vI slot1_, vI r17, vB (decide (slot1_ < r17))] rfl <| lx_nil <| A_cond (decide (slot1_ < r17)) rfl (fun hc21 => ?_) (fun hc21 => ?_)
  ·replace hM := ifp (of_decide_eq_true hc21) hM
   refine A_sr <| r_R [vI x2_, vI slot1_, vI x2_, vI slot1_, vB true] rfl <| lx_nil ?_
   obtain rfl := Option.some.inj hM
   refine A_ret (fun hn => endsV (v0 := vT #[vI x2_, vI slot1_, vB true]) rfl (res3 rfl rfl rfl))
  replace hM := ifn (of_decide_eq_false hc21) hM
  refine A_skip <| hK19 _ _ ?_; try clear hK19 K19
  refine A_reg <| r_R [vI slot1_, vI r17] rfl ?_
  obtain ⟨ck23, hM⟩ := ck_some hM
  refine r_X (vI (slot1_ - r17)) rfl (wi64 rfl ck23.1 ck23.2) rfl <| r_V (vI (slot1_ - r17)) rfl <| lx_nil <| hK12 _ _ ?_; try clear hK12 K12
  refine A_reg ?_
  obtain ⟨ck24, hM⟩ := ck_some hM
  refine r_X (vI (x2_ + 1)) rfl (wi64 rfl ck24.1 ck24.2) rfl <| r_V (vI (x2_ + 1)) rfl <| lx_nil <| fg _ (Sub.of (List.Sublist.cons _ List.Sublist.slnil)) ?_
  exact ⟨n8 + 1, by omega, n8, (slot1_ - r17), (x2_ + 1), hM, is_mk rfl rfl, rfl⟩
 replace hM := ifn (of_decide_eq_false hc11) hM
 refine A_exit <| hK6 _ _ ?_; try clear hK6 K6
 refine A_sr <| r_R [vI 0, vI 0, vB false] rfl <| lx_nil ?_
 obtain rfl := Option.some.inj hM
 refine A_ret (fun hn => endsV (v0 := vT #[vI 0, vI 0, vB false]) rfl (res3 rfl rfl rfl))
def internal_stringslite_Clone_m (_ : Nat) (s : List UInt8) : Option (List UInt8) := if (((s).length : Int) : Int) = 0 then some ([]) else ck (0 ≤ ((s).length : Int) ∧ ((s).length : Int) ≤ 140737488355328) (ck (0 ≤ (0 : Int) ∧ (0 : Int) < ((((s).take ((List.replicate (((s).length : Int)).toNat (0 : UInt8))).length ++ ((List.replicate (((s).length : Int)).toNat (0 : UInt8))).drop (s).length)).length : Int)) (ck ((((s).take ((List.replicate (((s).length : Int)).toNat (0 : UInt8))).length ++ ((List.replicate (((s).length : Int)).toNat (0 : UInt8))).drop (s).length)).length ≤ 140737488355328) (some (((s).take ((List.replicate (((s).length : Int)).toNat (0 : UInt8))).length ++ ((List.replicate (((s).length : Int)).toNat (0 : UInt8))).drop (s).length)))))
set_option maxRecDepth 100000 in
set_option maxHeartbeats 8000000 in
theorem internal_stringslite_Clone_g (N : Nat) (s r : List UInt8) (hM : internal_stringslite_Clone_m N s = some r) : Gives Try.prog 55 #[vS s] (vS r) := by
 unfold internal_stringslite_Clone_m at hM
 refine gives_of_A follows Try.func55 rfl 18 rfl (upd (fun _ => undef) 0 (vS s)) (by funext k; match k with | 0 => rfl | k + 1 => rfl) (fun base0_ => ?_)
 refine A_sr <| r_V (Value.string (⟨#[]⟩)) rfl <| lx_nil <| A_seq fun K2 hK2 => A_sr <| r_V (vS s) rfl <| r_W (vI ((s).length : Int)) rfl (ev_lenS rfl rfl rfl) <| r_V (vB (((((s).length : Int) : Int) == 0))) rfl <| lx_nil <| A_cond (((((s).length : Int) : Int) == 0)) rfl (fun hc4 => ?_) (fun hc4 => ?_)
 ·replace hM := ifp (eq_of_beq hc4) hM
  refine A_sr <| r_V (Value.string (⟨#[]⟩)) rfl <| lx_nil ?_
  obtain rfl := Option.some.inj hM
  refine A_ret (fun hn => ends_eq (v0 := Value.string (⟨#[]⟩)) rfl (res1 rfl))
 replace hM := ifn (ne_of_beq_false hc4) hM
 refine A_skip <| hK2 _ _ ?_; try clear hK2 K2
 refine A_sc [(some 9, false)] (conG Try.prog [(9, fun _ _ v_ L_ U_ => (p1 (fun v => v) 5 encY (List.replicate (((s).length : Int)).toNat (0 : UInt8))) v_ L_ U_)]) <| r_V (vS s) rfl <| r_W (vI ((s).length : Int)) rfl (ev_lenS rfl rfl rfl) ?_
 obtain ⟨ck7, hM⟩ := ck_some hM
 refine r_mk (Ls := []) 5 encY (0 : UInt8) ((s).length : Int) rfl rfl rfl rfl rfl rfl rfl rfl rfl rfl 140737488355328 rfl ck7 (fun _ _ _ _ _ => Iff.rfl) (fun s8 S9 H10 => ?_)
 refine r_V s8 rfl <| lx_nil <| A_sc [(some 12, true)] (conG Try.prog [(12, fun _ _ v_ L_ U_ => (pUp (fun v_ U_ => v_ = .int .i64 ((min (s).length ((List.replicate (((s).length : Int)).toNat (0 : UInt8))).length : Nat) : Int) ∧ Sl 5 encY s8 ((s).take ((List.replicate (((s).length : Int)).toNat (0 : UInt8))).length ++ ((List.replicate (((s).length : Int)).toNat (0 : UInt8))).drop (s).length) U_ ∧ U_.map (·.1) = S9.map (·.1))) v_ L_ U_)]) <| r_R [s8, vS s] rfl <| r_cpys (Lo := True) (Ls := [S9]) 0 s rfl rfl rfl rfl rfl rfl H10 rfl rfl rfl (fun _ _ _ _ _ => Iff.rfl) (fun S12 H13 => ?_)
 refine lx_nil <| A_sc [(some 17, true)] (conG Try.prog [(17, fun _ _ v_ L_ U_ => (pUp (fun v_ U_ => v_ = .string ⟨(((s).take ((List.replicate (((s).length : Int)).toNat (0 : UInt8))).length ++ ((List.replicate (((s).length : Int)).toNat (0 : UInt8))).drop (s).length)).toArray⟩ ∧ U_ = deadB S12)) v_ L_ U_)]) <| r_V s8 rfl ?_
 obtain ⟨ck15, hM⟩ := ck_some hM
 refine r_W (elA s8 (((0 : Int)).toNat * 1)) rfl (ev_v (ev_idxSl rfl rfl rfl (Sl.shp H13) ck15)) <| r_V s8 rfl <| r_W (vI (((((s).take ((List.replicate (((s).length : Int)).toNat (0 : UInt8))).length ++ ((List.replicate (((s).length : Int)).toNat (0 : UInt8))).drop (s).length)).length : Int))) rfl (ev_lenSl rfl rfl rfl (Sl.shp H13)) ?_
 obtain ⟨ck16, hM⟩ := ck_some hM
 refine r_uss (Ls := [S12]) 0 (xs := ((s).take ((List.replicate (((s).length : Int)).toNat (0 : UInt8))).length ++ ((List.replicate (((s).length : Int)).toNat (0 : UInt8))).drop (s).length)) rfl rfl rfl rfl rfl rfl (Sl.strict H13 (pos_of ck15)) (usd_of s8 (Sl.strict H13 (pos_of ck15)) (pos_of ck15)) rfl (by kernel_rfl) rfl ck16 (fun _ _ _ _ _ => Iff.rfl) <| lx_perm (Ls := [deadB S12]) (Ls' := []) [] rfl rfl <| r_V (vS (((s).take ((List.replicate (((s).length : Int)).toNat (0 : UInt8))).length ++ ((List.replicate (((s).length : Int)).toNat (0 : UInt8))).drop (s).length))) rfl <| lx_nil ?_
 obtain rfl := Option.some.inj hM
 refine A_ret (fun hn => ends_eq (v0 := vS (((s).take ((List.replicate (((s).length : Int)).toNat (0 : UInt8))).length ++ ((List.replicate (((s).length : Int)).toNat (0 : UInt8))).drop (s).length))) rfl (res1 rfl))
def strings_Clone_m (N : Nat) (s : List UInt8) : Option (List UInt8) := (internal_stringslite_Clone_m N s).bind fun r3 => some r3
set_option maxRecDepth 100000 in
set_option maxHeartbeats 8000000 in
theorem strings_Clone_g (N : Nat) (s r : List UInt8) (hM : strings_Clone_m N s = some r) : Gives Try.prog 44 #[vS s] (vS r) := by
 unfold strings_Clone_m at hM
 refine gives_of_A follows Try.func44 rfl 5 rfl (upd (fun _ => undef) 0 (vS s)) (by funext k; match k with | 0 => rfl | k + 1 => rfl) (fun base0_ => ?_)
 refine A_sr <| r_V (Value.string (⟨#[]⟩)) rfl <| lx_nil <| A_sr <| r_V (vS s) rfl ?_
 obtain ⟨r3, hr4, hM⟩ := bind_sm hM
 refine r_c (vS r3) rfl _ _ (ev_callF rfl call_55 rfl) (internal_stringslite_Clone_g N s _ hr4) <| r_V (vS r3) rfl <| lx_nil ?_
 obtain rfl := Option.some.inj hM
 refine A_ret (fun hn => ends_eq (v0 := vS r3) rfl (res1 rfl))
def slices_Clone___api_Field_api_Field__m (_ : Nat) (s : List (List UInt8 × Int)) : Option (List (List UInt8 × Int)) := ck ((([] : List (List UInt8 × Int))).length + (s).length ≤ 5864062014805) (some (([] : List (List UInt8 × Int)) ++ s))
set_option maxRecDepth 100000 in
set_option maxHeartbeats 8000000 in
theorem slices_Clone___api_Field_api_Field__g (N : Nat) (s r : List (List UInt8 × Int)) (hM : slices_Clone___api_Field_api_Field__m N s = some r) (ro : Addr → Option Value) (sv : Value) (hs : Rd enc_52 ro sv s) : Does Try.prog 45 #[sv] ro [] (p1 (fun s_ => s_) 52 enc_52 r) := by
 unfold slices_Clone___api_Field_api_Field__m at hM
 refine does_of_A follows Try.func45 rfl 8 rfl (upd (fun _ => undef) 0 sv) (by funext k; match k with | 0 => rfl | k + 1 => rfl) (fun base0_ => ?_)
 refine A_sr <| r_V nS rfl <| lx_nil <| A_seq fun K2 hK2 => A_seq fun K3 hK3 => A_reg <| r_V sv rfl ?_
 rcases nilS_or (Rd.shp hs) with ⟨hz4, hl5⟩ | hne6
 ·obtain rfl := hz4; obtain rfl := List.eq_nil_of_length_eq_zero hl5
  replace hM : (some ([])) = some r := (by first | exact hM | (simp at hM ⊢; exact hM))
  refine r_V (.bool true) rfl <| lx_nil <| hK3 _ _ ?_; try clear hK3 K3
  refine A_cond true rfl (fun _ => ?_) (fun h_ => nomatch h_)
  refine A_sr <| r_V nS rfl <| lx_nil ?_
  obtain rfl := Option.some.inj hM
  refine A_ret (fun hn => ends1 (v0 := nS) Sl.nil (Sub.nil _) rfl (res1 rfl))
 refine r_W (.bool false) rfl (ev_eqlNil rfl rfl rfl (Rd.shp hs) hne6) <| lx_nil <| hK3 _ _ ?_; try clear hK3 K3
 refine A_cond false rfl (fun h_ => nomatch h_) (fun _ => ?_)
 refine A_skip <| hK2 _ _ ?_; try clear hK2 K2
 refine A_sc [(some 5, false), (some 7, true)] (conG Try.prog []) <| r_bs (cs0 := []) (Ls := []) 52 enc_52 ([] : List (List UInt8 × Int)) [] [] rfl rfl rfl rfl rfl rfl rfl (by kernel_rfl) (by kernel_rfl) rfl rfl rfl (fun s8 S9 H10 => ?_)
 refine r_V sv rfl ?_
 obtain ⟨ck11, hM⟩ := ck_some hM
 refine r_app (cs0 := []) (Ls := [S9]) 0 (En := enc_52) rfl rfl rfl rfl rfl H10 rfl (rd_ro hs) rfl rfl rfl rfl rfl (app_b ck11 rfl) (app_m ck11 rfl) rfl (fun s12 S13 H14 => ?_)
 refine r_V s12 rfl <| lx_nil ?_
 obtain rfl := Option.some.inj hM
 refine A_ret (fun hn => ends1 (v0 := s12) H14 (sub_one (Sub.pick [S13] [0] rfl)) rfl (res1 rfl))
def shape_fresh_v1_l3 (N : Nat) (h_2 : Int) (h_3 : Int) (h_4 : Int) (h_5 : Int) (r5 : List UInt8) (r8 : List (List UInt8 × Int)) : Nat → Int → List (List UInt8 × Int) → Option ((List UInt8) × (List (List UInt8 × Int)) × Int × Int × Int × Int)
  | 0, _, _ => none
  | n15 + 1, x1_, s2_ => if x1_ < ((r8).length : Int) then ck (0 ≤ x1_ ∧ x1_ < ((s2_).length : Int)) ((strings_Clone_m N (((s2_)[(x1_).toNat]!).1)).bind fun r22 => ck (0 ≤ x1_ ∧ x1_ < ((s2_).length : Int)) (ck (-9223372036854775808 ≤ (x1_ + 1) ∧ (x1_ + 1) ≤ 9223372036854775807) ((shape_fresh_v1_l3 N h_2 h_3 h_4 h_5 r5 r8 n15) (x1_ + 1) ((s2_).set ((x1_).toNat) (r22, ((s2_)[(x1_).toNat]!).2))))) else some (r5, s2_, h_2, h_3, h_4, h_5)
def shape_fresh_v1_m (N : Nat) (h_0 : List UInt8) (h_1 : List (List UInt8 × Int)) (h_2 : Int) (h_3 : Int) (h_4 : Int) (h_5 : Int) : Option ((List UInt8) × (List (List UInt8 × Int)) × Int × Int × Int × Int) := (strings_Clone_m N h_0).bind fun r5 => (slices_Clone___api_Field_api_Field__m N h_1).bind fun r8 => shape_fresh_v1_l3 N h_2 h_3 h_4 h_5 r5 r8 N 0 r8
set_option maxRecDepth 100000 in
set_option maxHeartbeats 8000000 in
theorem shape_fresh_v1_g (N : Nat) (h_0 : List UInt8) (h_1 : List (List UInt8 × Int)) (h_2 : Int) (h_3 : Int) (h_4 : Int) (h_5 : Int) (r) (hM : shape_fresh_v1_m N h_0 h_1 h_2 h_3 h_4 h_5 = some r) (ro : Addr → Option Value) (h_1v : Value) (hh_1 : Rd enc_52 ro h_1v h_1) : Does Try.prog 33 #[vA #[vS h_0, h_1v, vI h_2, vI h_3, vI h_4, vI h_5]] ro [] (p1 (fun s_ => vA #[vS r.1, s_, vI r.2.2.1, vI r.2.2.2.1, vI r.2.2.2.2.1, vI r.2.2.2.2.2]) 52 enc_52 r.2.1) := by
 unfold shape_fresh_v1_m at hM
 refine does_of_A follows Try.func33 rfl 32 rfl (upd (fun _ => undef) 0 (vA #[vS h_0, h_1v, vI h_2, vI h_3, vI h_4, vI h_5])) (by funext k; match k with | 0 => rfl | k + 1 => rfl) (fun base0_ => ?_)
 refine A_sr <| r_a (24, #[vS h_0, h_1v, vI h_2, vI h_3, vI h_4, vI h_5]) rfl rfl rfl (fun b2 => ?_) (.inr rfl)
 refine r_a (24, #[Value.string (⟨#[]⟩), nS, vI 0, vI 0, vI 0, vI 0]) rfl rfl rfl (fun b3 => ?_) (.inr rfl)
 refine lx_nil <| A_sr <| r_V (vP b2 0) rfl <| r_l (vS h_0) 1 _ _ _ _ rfl rfl rfl rfl rfl ?_
 obtain ⟨r5, hr6, hM⟩ := bind_sm hM
 refine r_c (vS r5) rfl _ _ (ev_callF rfl call_44 rfl) (strings_Clone_g N h_0 _ hr6) <| r_V (vP b2 0) rfl <| r_s [(b3, 24, #[Value.string (⟨#[]⟩), nS, vI 0, vI 0, vI 0, vI 0]), (b2, 24, #[vS r5, h_1v, vI h_2, vI h_3, vI h_4, vI h_5])] 1 _ _ _ _ _ (#[vS r5, h_1v, vI h_2, vI h_3, vI h_4, vI h_5]) rfl rfl rfl rfl (.of rfl rfl) rfl rfl <| lx_nil <| A_sc [(some 10, false)] (conG Try.prog [(10, fun _ _ v_ L_ U_ => ∀ u0_, slices_Clone___api_Field_api_Field__m N h_1 = some u0_ → (p1 (fun s_ => s_) 52 enc_52 u0_) v_ L_ U_)]) <| r_V (vP b2 1) rfl <| r_l h_1v 1 _ _ _ _ rfl rfl rfl rfl rfl ?_
 obtain ⟨r8, hr9, hM⟩ := bind_sm hM
 refine r_g1 (Ls := [(kBc24_1 b3 (Value.string (⟨#[]⟩)) nS 0 0 0 0), (kBc24_2 b2 r5 h_1v h_2 h_3 h_4 h_5)]) (fun s10 => s10) 52 enc_52 r8 45 _ rfl rfl rfl (ev_callF rfl call_45 rfl) (fun own_ nw_ hs_ => slices_Clone___api_Field_api_Field__g N h_1 _ hr9 hs_.view h_1v ((rd_ro hh_1) own_ nw_ hs_)) (conE hr9) (fun s10 S11 H12 => ?_)
 refine r_V (vP b2 1) rfl <| r_s (List.flatten [(kBc24_1 b3 (Value.string (⟨#[]⟩)) nS 0 0 0 0), (kBc24_2 b2 r5 s10 h_2 h_3 h_4 h_5), S11]) 1 _ _ _ _ _ (#[vS r5, s10, vI h_2, vI h_3, vI h_4, vI h_5]) rfl rfl rfl (cells_sl rfl (Sl.shp H12)) (.ofS rfl rfl (all_cons' (Shp.one (Sl.shp H12)) all_nil')) rfl rfl <| lx_nil <| A_seq fun K13 hK13 => A_sr <| r_V (vP b2 1) rfl <| r_l s10 1 _ _ _ _ rfl rfl rfl rfl rfl <| r_W (vI ((r8).length : Int)) rfl (ev_lenSl rfl rfl rfl (Sl.shp H12)) <| r_V (vI 0) rfl <| lx_nil <| A_block ?_
 refine A_forget _ (Sub.pick [(kBc24_1 b3 (Value.string (⟨#[]⟩)) nS 0 0 0 0), (kBc24_2 b2 r5 s10 h_2 h_3 h_4 h_5), S11] [0, 1, 2] rfl) <| A_loop (fun tt ll nn => ∃ (n15 : Nat) (x1_ : Int) (s2_ : List (List UInt8 × Int)), (shape_fresh_v1_l3 N h_2 h_3 h_4 h_5 r5 r8 n15 x1_ s2_ = some r) ∧ ∃ (Ss2_ : List Bl), Sl 52 enc_52 s10 s2_ Ss2_ ∧ Is [(1, vP b2 0), (2, vP b3 0), (14, vI ((r8).length : Int)), (15, vI x1_)] (List.flatten [(kBc24_1 b3 (Value.string (⟨#[]⟩)) nS 0 0 0 0), (kBc24_2 b2 r5 s10 h_2 h_3 h_4 h_5), Ss2_]) tt ll ∧ nn = n15 + 1) (N + 1) ?_ ?_
 ·exact ⟨N, 0, r8, hM, S11, H12, is_mk rfl rfl, rfl⟩
 clear hM; rintro t l _ ⟨n15, x1_, s2_, hM, Ss2_, hs2_, ⟨⟨T, rfl⟩, rfl⟩, rfl⟩
 rcases n15 with _ | n15
 ·exact absurd hM (by simp [shape_fresh_v1_l3])
 rw [shape_fresh_v1_l3] at hM
 refine A_sr <| r_V (vB (decide (x1_ < ((r8).length : Int)))) rfl <| lx_nil <| A_seq fun K17 hK17 => A_cond (decide (x1_ < ((r8).length : Int))) rfl (fun hc18 => ?_) (fun hc18 => ?_)
 ·replace hM := ifp (of_decide_eq_true hc18) hM
  refine A_skip <| hK17 _ _ ?_; try clear hK17 K17
  refine A_seq fun K19 hK19 => A_block <| A_sr <| r_R [vI x1_, vI x1_] rfl <| lx_nil <| A_draw [] (by decide +kernel) (fun hn => sep_nil) <| r_V (vP b2 1) rfl <| r_l s10 1 _ _ _ _ rfl rfl rfl rfl rfl <| r_R [vI x1_, vP b2 1] rfl <| r_l s10 1 _ _ _ _ rfl rfl rfl rfl rfl <| r_V (vI x1_) rfl ?_
  obtain ⟨ck21, hM⟩ := ck_some hM
  refine r_W (elA s10 ((x1_).toNat * 2)) rfl (ev_v (ev_idxSl rfl rfl rfl (Sl.shp hs2_) ck21)) <| r_W (elA s10 ((x1_).toNat * 2 + 0)) rfl (ev_v (ev_fieldX rfl rfl rfl rfl rfl rfl (Sl.shp hs2_) (pos_of ck21))) <| r_le (vS (((s2_)[(x1_).toNat]!).1)) (En := enc_52) ((s2_)[(x1_).toNat]!) ((x1_).toNat) 0 rfl rfl (rd_own hs2_ (mem_chunk (Ls := [(kBc24_1 b3 (Value.string (⟨#[]⟩)) nS 0 0 0 0), (kBc24_2 b2 r5 s10 h_2 h_3 h_4 h_5), Ss2_]) (k := 2) rfl rfl)) (get_of ck21) rfl ?_
  obtain ⟨r22, hr23, hM⟩ := bind_sm hM
  refine r_c (vS r22) rfl _ _ (ev_callF rfl call_44 rfl) (strings_Clone_g N (((s2_)[(x1_).toNat]!).1) _ hr23) ?_
  obtain ⟨ck24, hM⟩ := ck_some hM
  refine r_W (elA s10 ((x1_).toNat * 2)) rfl (ev_v (ev_idxSl rfl rfl rfl (Sl.shp hs2_) ck24)) <| r_W (elA s10 ((x1_).toNat * 2 + 0)) rfl (ev_v (ev_fieldX rfl rfl rfl rfl rfl rfl (Sl.shp hs2_) (pos_of ck24))) <| r_se (Ls := [(kBc24_1 b3 (Value.string (⟨#[]⟩)) nS 0 0 0 0), (kBc24_2 b2 r5 s10 h_2 h_3 h_4 h_5), Ss2_]) 2 (En := enc_52) ((s2_)[(x1_).toNat]!) (r22, ((s2_)[(x1_).toNat]!).2) ((x1_).toNat) 0 rfl rfl rfl hs2_ (get_of ck24) rfl rfl rfl (one_all rfl) rfl (fun S25 H26 => ?_)
  refine lx_nil <| hK19 _ _ ?_; try clear hK19 K19
  refine A_reg ?_
  obtain ⟨ck27, hM⟩ := ck_some hM
  refine r_X (vI (x1_ + 1)) rfl (wi64 rfl ck27.1 ck27.2) rfl <| r_V (vI (x1_ + 1)) rfl <| lx_nil <| fg _ (Sub.pick [(kBc24_1 b3 (Value.string (⟨#[]⟩)) nS 0 0 0 0), (kBc24_2 b2 r5 s10 h_2 h_3 h_4 h_5), S25] [0, 1, 2] rfl) ?_
  exact ⟨n15 + 1, by omega, n15, (x1_ + 1), (s2_).set ((x1_).toNat) (r22, ((s2_)[(x1_).toNat]!).2), hM, S25, H26, is_mk rfl rfl, rfl⟩
 replace hM := ifn (of_decide_eq_false hc18) hM
 refine A_exit <| hK13 _ _ ?_; try clear hK13 K13
 refine A_sr <| r_l (vA #[vS r5, s10, vI h_2, vI h_3, vI h_4, vI h_5]) 1 _ _ _ _ rfl rfl rfl rfl rfl <| r_s (List.flatten [(kBc24_2 b3 r5 s10 h_2 h_3 h_4 h_5), (kBc24_2 b2 r5 s10 h_2 h_3 h_4 h_5), Ss2_]) 0 _ _ _ _ _ (#[vS r5, s10, vI h_2, vI h_3, vI h_4, vI h_5]) rfl rfl rfl rfl (.ofS rfl rfl (all_cons' rfl (all_cons' (Shp.one (Sl.shp hs2_)) (all_cons' rfl (all_cons' rfl (all_cons' rfl (all_cons' rfl all_nil'))))))) rfl rfl <| lx_nil ?_
 obtain rfl := Option.some.inj hM
 refine A_ret (fun hn => ends1 (v0 := vA #[vS r5, s10, vI h_2, vI h_3, vI h_4, vI h_5]) hs2_ (sub_one (Sub.pick [(kBc24_2 b3 r5 s10 h_2 h_3 h_4 h_5), (kBc24_2 b2 r5 s10 h_2 h_3 h_4 h_5), Ss2_] [2] rfl)) rfl (res1 (res_cell hn 0 rfl rfl rfl)))
def shape_Header_k1 (N : Nat) (headers : List ((List UInt8) × (List (List UInt8 × Int)) × Int × Int × Int × Int)) (l' : List (List UInt8 × Int × Int)) (r4 : Int × Int × Bool) : Option ((List UInt8) × (List (List UInt8 × Int)) × Int × Int × Int × Int × Bool) := ck (0 ≤ r4.1 ∧ r4.1 < ((l').length : Int)) (ck (0 ≤ ((l')[(r4.1).toNat]!).2.1 ∧ ((l')[(r4.1).toNat]!).2.1 < ((headers).length : Int)) ((shape_fresh_v1_m N ((headers)[(((l')[(r4.1).toNat]!).2.1).toNat]!.1) ((headers)[(((l')[(r4.1).toNat]!).2.1).toNat]!.2.1) ((headers)[(((l')[(r4.1).toNat]!).2.1).toNat]!.2.2.1) ((headers)[(((l')[(r4.1).toNat]!).2.1).toNat]!.2.2.2.1) ((headers)[(((l')[(r4.1).toNat]!).2.1).toNat]!.2.2.2.2.1) ((headers)[(((l')[(r4.1).toNat]!).2.1).toNat]!.2.2.2.2.2)).bind fun r12 => some (r12.1, r12.2.1, r12.2.2.1, r12.2.2.2.1, r12.2.2.2.2.1, r12.2.2.2.2.2, true)))
def shape_Header_m (N : Nat) (headers : List ((List UInt8) × (List (List UInt8 × Int)) × Int × Int × Int × Int)) (l' : List (List UInt8 × Int × Int)) (slot : Int) : Option ((List UInt8) × (List (List UInt8 × Int)) × Int × Int × Int × Int × Bool) := (shape_Of_m N l' slot).bind fun r4 => if r4.2.2 = true then ck (0 ≤ r4.1 ∧ r4.1 < ((l').length : Int)) (ck ((-9223372036854775808 ≤ (((headers).length : Int) - 1) ∧ (((headers).length : Int) - 1) ≤ 9223372036854775807)) ((shape_within_m N (((l')[(r4.1).toNat]!).2.1) 0 (((headers).length : Int) - 1)).bind fun r21 => if r21 = true then shape_Header_k1 N headers l' r4  else some ([], [], 0, 0, 0, 0, false))) else some ([], [], 0, 0, 0, 0, false)
set_option maxRecDepth 100000 in
set_option maxHeartbeats 8000000 in
theorem shape_Header_g (N : Nat) (headers : List ((List UInt8) × (List (List UInt8 × Int)) × Int × Int × Int × Int)) (l' : List (List UInt8 × Int × Int)) (slot : Int) (r) (hM : shape_Header_m N headers l' slot = some r) (ro : Addr → Option Value) (headersv : Value) (hheaders : RdN encr_24 ro headersv headers) (l'v : Value) (hl' : Rd enc_44 ro l'v l') : Does Try.prog 18 #[headersv, l'v, vI slot] ro [] (p1 (fun s_ => vT #[vA #[vS r.1, s_, vI r.2.2.1, vI r.2.2.2.1, vI r.2.2.2.2.1, vI r.2.2.2.2.2.1], vB r.2.2.2.2.2.2]) 52 enc_52 r.2.1) := by
 unfold shape_Header_m at hM
 refine does_of_A follows Try.func18 rfl 42 rfl (upd (upd (upd (fun _ => undef) 2 (vI slot)) 1 l'v) 0 headersv) (by funext k; match k with | 0 => rfl | 1 => rfl | 2 => rfl | k + 3 => rfl) (fun base0_ => ?_)
 refine A_sr <| r_a (24, #[Value.string (⟨#[]⟩), nS, vI 0, vI 0, vI 0, vI 0]) rfl rfl rfl (fun b2 => ?_) (.inr rfl)
 refine r_V (vB false) rfl <| lx_nil <| A_sc [(some 14, false)] (conG Try.prog [(14, fun _ _ v_ L_ U_ => ∀ u0_, shape_Of_m N l' slot = some u0_ → (pV (vT #[vI u0_.1, vI u0_.2.1, vB u0_.2.2])) v_ L_ U_)]) <| r_R [l'v, vI slot] rfl ?_
 obtain ⟨r4, hr5, hM⟩ := bind_sm hM
 refine r_gv (vT #[vI r4.1, vI r4.2.1, vB r4.2.2]) 17 _ rfl rfl rfl (ev_callF rfl call_17 rfl) (fun own_ nw_ hs_ => shape_Of_g N l' slot _ hr5 hs_.view l'v ((rd_ro hl') own_ nw_ hs_)) (conE hr5) <| r_R [vT #[vI r4.1, vI r4.2.1, vB r4.2.2], vI r4.1, vI r4.2.1, vB r4.2.2, vI r4.1, vI r4.2.1, vB r4.2.2] rfl <| lx_nil <| A_cut (fun tt ll => (shape_Header_k1 N headers l' r4  = some r) ∧ Is [(0, headersv), (1, l'v), (6, vP b2 0), (8, vI r4.1)] (kBc24_1 b2 (Value.string (⟨#[]⟩)) nS 0 0 0 0) tt ll) ?_ ?_
 ·refine A_seq fun K17 hK17 => A_reg <| r_R [vB r4.2.2, vB (!(r4.2.2)), vB (!(r4.2.2))] rfl ?_
  rcases hg18 : (!(r4.2.2)) with _ | _
  ·replace hM := ifp (not_f hg18) hM
   refine r_R [l'v, vI r4.1] rfl <| r_y rfl ?_
   obtain ⟨ck19, hM⟩ := ck_some hM
   refine r_W (elA l'v ((r4.1).toNat * 3)) rfl (ev_v (ev_idxSl rfl rfl rfl (Rd.shp hl') ck19)) <| r_y rfl <| r_W (elA l'v ((r4.1).toNat * 3 + 1)) rfl (ev_v (ev_fieldX rfl rfl rfl rfl rfl rfl (Rd.shp hl') (pos_of ck19))) <| r_y rfl <| r_le (vI (((l')[(r4.1).toNat]!).2.1)) (En := enc_44) ((l')[(r4.1).toNat]!) ((r4.1).toNat) 1 rfl rfl (rd_ro hl') (get_of ck19) rfl <| r_R [headersv] rfl <| r_y rfl <| r_W (vI ((headers).length : Int)) rfl (ev_lenSl rfl rfl rfl (RdN.shp hheaders)) <| r_y rfl ?_
   obtain ⟨ck20, hM⟩ := ck_some hM
   refine r_X (vI (((headers).length : Int) - 1)) rfl (wi64 rfl ck20.1 ck20.2) rfl <| r_y rfl ?_
   obtain ⟨r21, hr22, hM⟩ := bind_sm hM
   refine r_c (vB r21) rfl _ _ (ev_callF rfl call_27 rfl) (shape_within_g N (((l')[(r4.1).toNat]!).2.1) 0 (((headers).length : Int) - 1) _ hr22) <| r_R [vB (!(r21)), vB (!(r21))] rfl <| lx_nil <| hK17 _ _ ?_; try clear hK17 K17
   refine A_cond (!(r21)) rfl (fun hc23 => ?_) (fun hc23 => ?_)
   ·replace hM := ifn (Bool.eq_false_iff.1 (not_t hc23)) hM
    refine A_sr <| r_W (vA #[Value.string (⟨#[]⟩), nS, vI 0, vI 0, vI 0, vI 0]) rfl (ev_buildS rfl rfl rfl rfl) <| r_s (kBc24_1 b2 (Value.string (⟨#[]⟩)) nS 0 0 0 0) 0 _ _ _ _ _ (#[Value.string (⟨#[]⟩), nS, vI 0, vI 0, vI 0, vI 0]) rfl rfl rfl rfl (.ofS rfl rfl (all_cons' rfl (all_cons' (Shp.one (.inl ⟨rfl, rfl⟩)) (all_cons' rfl (all_cons' rfl (all_cons' rfl (all_cons' rfl all_nil'))))))) rfl rfl <| r_V (vB false) rfl <| lx_nil <| A_gen [(6, vP b2 0), (7, vB false)] rfl (fun T => ?_)
    obtain rfl := Option.some.inj hM
    refine A_ret (fun hn => ends1 (v0 := vT #[vA #[Value.string (⟨#[]⟩), nS, vI 0, vI 0, vI 0, vI 0], vB false]) Sl.nil (Sub.nil _) rfl (res2 (res_cell hn 0 rfl rfl rfl) rfl))
   replace hM := ifp (not_f hc23) hM
   refine A_skip <| fg _ (Sub.of (List.Sublist.cons_cons _ List.Sublist.slnil)) ?_
   exact ⟨hM, is_mk rfl rfl⟩
  replace hM := ifn (Bool.eq_false_iff.1 (not_t hg18)) hM
  refine r_R [none, none, none, none, none, none, none, none, none, none, vB true] rfl <| lx_nil <| hK17 _ _ ?_; try clear hK17 K17
  refine A_cond true rfl (fun _ => ?_) (fun h_ => nomatch h_)
  refine A_sr <| r_W (vA #[Value.string (⟨#[]⟩), nS, vI 0, vI 0, vI 0, vI 0]) rfl (ev_buildS rfl rfl rfl rfl) <| r_s (kBc24_1 b2 (Value.string (⟨#[]⟩)) nS 0 0 0 0) 0 _ _ _ _ _ (#[Value.string (⟨#[]⟩), nS, vI 0, vI 0, vI 0, vI 0]) rfl rfl rfl rfl (.ofS rfl rfl (all_cons' rfl (all_cons' (Shp.one (.inl ⟨rfl, rfl⟩)) (all_cons' rfl (all_cons' rfl (all_cons' rfl (all_cons' rfl all_nil'))))))) rfl rfl <| r_V (vB false) rfl <| lx_nil <| A_gen [(6, vP b2 0), (7, vB false)] rfl (fun T => ?_)
  obtain rfl := Option.some.inj hM
  refine A_ret (fun hn => ends1 (v0 := vT #[vA #[Value.string (⟨#[]⟩), nS, vI 0, vI 0, vI 0, vI 0], vB false]) Sl.nil (Sub.nil _) rfl (res2 (res_cell hn 0 rfl rfl rfl) rfl))
 clear hM; rintro t l ⟨hM, ⟨T, rfl⟩, rfl⟩
 unfold shape_Header_k1 at hM
 refine A_sc [(some 41, false)] (conG Try.prog [(41, fun _ _ v_ L_ U_ => ∀ u0_, shape_fresh_v1_m N ((headers)[(((l')[(r4.1).toNat]!).2.1).toNat]!.1) ((headers)[(((l')[(r4.1).toNat]!).2.1).toNat]!.2.1) ((headers)[(((l')[(r4.1).toNat]!).2.1).toNat]!.2.2.1) ((headers)[(((l')[(r4.1).toNat]!).2.1).toNat]!.2.2.2.1) ((headers)[(((l')[(r4.1).toNat]!).2.1).toNat]!.2.2.2.2.1) ((headers)[(((l')[(r4.1).toNat]!).2.1).toNat]!.2.2.2.2.2) = some u0_ → (p1 (fun s_ => vA #[vS u0_.1, s_, vI u0_.2.2.1, vI u0_.2.2.2.1, vI u0_.2.2.2.2.1, vI u0_.2.2.2.2.2]) 52 enc_52 u0_.2.1) v_ L_ U_)]) <| r_R [headersv, l'v, vI r4.1] rfl ?_
 obtain ⟨ck7, hM⟩ := ck_some hM
 refine r_W (elA l'v ((r4.1).toNat * 3)) rfl (ev_v (ev_idxSl rfl rfl rfl (Rd.shp hl') ck7)) <| r_W (elA l'v ((r4.1).toNat * 3 + 1)) rfl (ev_v (ev_fieldX rfl rfl rfl rfl rfl rfl (Rd.shp hl') (pos_of ck7))) <| r_le (vI (((l')[(r4.1).toNat]!).2.1)) (En := enc_44) ((l')[(r4.1).toNat]!) ((r4.1).toNat) 1 rfl rfl (rd_ro hl') (get_of ck7) rfl ?_
 obtain ⟨ck8, hM⟩ := ck_some hM
 obtain ⟨_, ⟨s9, hs10, rfl⟩, hat11⟩ := RdN.at (E := encr_24) hheaders (get_of ck8)
 refine r_W (elA headersv ((((l')[(r4.1).toNat]!).2.1).toNat * 6)) rfl (ev_v (ev_idxSl rfl rfl rfl (RdN.shp hheaders) ck8)) ?_
 refine r_at (vA #[vS ((headers)[(((l')[(r4.1).toNat]!).2.1).toNat]!.1), s9, vI ((headers)[(((l')[(r4.1).toNat]!).2.1).toNat]!.2.2.1), vI ((headers)[(((l')[(r4.1).toNat]!).2.1).toNat]!.2.2.2.1), vI ((headers)[(((l')[(r4.1).toNat]!).2.1).toNat]!.2.2.2.2.1), vI ((headers)[(((l')[(r4.1).toNat]!).2.1).toNat]!.2.2.2.2.2)]) (vs := [vS ((headers)[(((l')[(r4.1).toNat]!).2.1).toNat]!.1), s9, vI ((headers)[(((l')[(r4.1).toNat]!).2.1).toNat]!.2.2.1), vI ((headers)[(((l')[(r4.1).toNat]!).2.1).toNat]!.2.2.2.1), vI ((headers)[(((l')[(r4.1).toNat]!).2.1).toNat]!.2.2.2.2.1), vI ((headers)[(((l')[(r4.1).toNat]!).2.1).toNat]!.2.2.2.2.2)]) ((((l')[(r4.1).toNat]!).2.1).toNat * 6) 0 rfl rfl (fun own_ nw_ hs_ => At.mono hs_.ro_cell hat11) rfl ?_
 obtain ⟨r12, hr13, hM⟩ := bind_sm hM
 refine r_g1 (Ls := [(kBc24_1 b2 (Value.string (⟨#[]⟩)) nS 0 0 0 0)]) (fun s14 => vA #[vS r12.1, s14, vI r12.2.2.1, vI r12.2.2.2.1, vI r12.2.2.2.2.1, vI r12.2.2.2.2.2]) 52 enc_52 r12.2.1 33 _ rfl rfl rfl (ev_callF rfl call_33 rfl) (fun own_ nw_ hs_ => shape_fresh_v1_g N ((headers)[(((l')[(r4.1).toNat]!).2.1).toNat]!.1) ((headers)[(((l')[(r4.1).toNat]!).2.1).toNat]!.2.1) ((headers)[(((l')[(r4.1).toNat]!).2.1).toNat]!.2.2.1) ((headers)[(((l')[(r4.1).toNat]!).2.1).toNat]!.2.2.2.1) ((headers)[(((l')[(r4.1).toNat]!).2.1).toNat]!.2.2.2.2.1) ((headers)[(((l')[(r4.1).toNat]!).2.1).toNat]!.2.2.2.2.2) _ hr13 hs_.view s9 ((rd_ro hs10) own_ nw_ hs_)) (conE hr13) (fun s14 S15 H16 => ?_)
 refine r_s (List.flatten [(kBc24_2 b2 r12.1 s14 r12.2.2.1 r12.2.2.2.1 r12.2.2.2.2.1 r12.2.2.2.2.2), S15]) 0 _ _ _ _ _ (#[vS r12.1, s14, vI r12.2.2.1, vI r12.2.2.2.1, vI r12.2.2.2.2.1, vI r12.2.2.2.2.2]) rfl rfl rfl rfl (.ofS rfl rfl (all_cons' rfl (all_cons' (Shp.one (Sl.shp H16)) (all_cons' rfl (all_cons' rfl (all_cons' rfl (all_cons' rfl all_nil'))))))) rfl rfl <| r_V (vB true) rfl <| lx_nil ?_
 obtain rfl := Option.some.inj hM
 refine A_ret (fun hn => ends1 (v0 := vT #[vA #[vS r12.1, s14, vI r12.2.2.1, vI r12.2.2.2.1, vI r12.2.2.2.2.1, vI r12.2.2.2.2.2], vB true]) H16 (sub_one (Sub.pick [(kBc24_2 b2 r12.1 s14 r12.2.2.1 r12.2.2.2.1 r12.2.2.2.2.1 r12.2.2.2.2.2), S15] [1] rfl)) rfl (res2 (res_cell hn 0 rfl rfl rfl) rfl))
def shape_Find_m (N : Nat) (l' : List (List UInt8 × Int × Int)) (s : List UInt8) : Option Int := (shape_instNames_m N l').bind fun r3 => (name_Index_m N r3 s).bind fun r8 => some r8
set_option maxRecDepth 100000 in
set_option maxHeartbeats 8000000 in
theorem shape_Find_g (N : Nat) (l' : List (List UInt8 × Int × Int)) (s : List UInt8) (r) (hM : shape_Find_m N l' s = some r) (ro : Addr → Option Value) (l'v : Value) (hl' : Rd enc_44 ro l'v l') : Does Try.prog 20 #[l'v, vS s] ro [] (pV (vI r)) := by
 unfold shape_Find_m at hM
 refine does_of_A follows Try.func20 rfl 9 rfl (upd (upd (fun _ => undef) 1 (vS s)) 0 l'v) (by funext k; match k with | 0 => rfl | 1 => rfl | k + 2 => rfl) (fun base0_ => ?_)
 refine A_sr <| r_V (vI 0) rfl <| lx_nil <| A_sc [(some 6, false), (some 8, false)] (conG Try.prog [(6, fun _ _ v_ L_ U_ => ∀ u0_, shape_instNames_m N l' = some u0_ → (p1 (fun s_ => s_) 9 encS u0_) v_ L_ U_), (8, fun _ _ v_ L_ U_ => ∀ u0_, shape_instNames_m N l' = some u0_ → ∀ u1_, name_Index_m N u0_ s = some u1_ → (pV (vI u1_)) v_ L_ U_)]) <| r_V l'v rfl ?_
 obtain ⟨r3, hr4, hM⟩ := bind_sm hM
 refine r_g1 (Ls := []) (fun s5 => s5) 9 encS r3 29 _ rfl rfl rfl (ev_callF rfl call_29 rfl) (fun own_ nw_ hs_ => shape_instNames_g N l' _ hr4 hs_.view l'v ((rd_ro hl') own_ nw_ hs_)) (conE hr4) (fun s5 S6 H7 => ?_)
 refine r_V (vS s) rfl ?_
 obtain ⟨r8, hr9, hM⟩ := bind_sm hM
 refine r_gv (vI r8) 36 _ rfl rfl rfl (ev_callF rfl call_36 rfl) (fun own_ nw_ hs_ => name_Index_g N r3 s _ hr9 hs_.view s5 ((rd_own H7 (mem_chunk (Ls := [S6]) (k := 0) rfl rfl)) own_ nw_ hs_)) (fun _ _ v_ L_ U_ => ⟨fun h_ => h_ _ hr4 _ hr9, fun h_ => by intro _ e_; cases Option.some.inj (e_.symm.trans hr4); intro _ e_; cases Option.some.inj (e_.symm.trans hr9); exact h_⟩) ?_
 refine r_V (vI r8) rfl <| lx_nil ?_
 obtain rfl := Option.some.inj hM
 refine A_ret (fun hn => endsV (v0 := vI r8) rfl (res1 rfl))
def shape_First_k1 (N : Nat) (l' : List (List UInt8 × Int × Int)) (i : Int) : Option (Int × Bool) := ck (0 ≤ i ∧ i ≤ ((l').length : Int)) ((shape_Slots_m N (((l').take ((i).toNat)).drop 0)).bind fun r4 => some (r4, true))
def shape_First_m (N : Nat) (l' : List (List UInt8 × Int × Int)) (i : Int) : Option (Int × Bool) := ck ((-9223372036854775808 ≤ (((l').length : Int) - 1) ∧ (((l').length : Int) - 1) ≤ 9223372036854775807)) ((shape_within_m N i 0 (((l').length : Int) - 1)).bind fun r8 => if r8 = true then ck (0 ≤ i ∧ i < ((l').length : Int)) ((shape_slotsOf_m N (((l')[(i).toNat]!).1) (((l')[(i).toNat]!).2.1) (((l')[(i).toNat]!).2.2)).bind fun r12 => if r12 = 0 then some (0, false) else shape_First_k1 N l' i ) else some (0, false))
set_option maxRecDepth 100000 in
set_option maxHeartbeats 8000000 in
theorem shape_First_g (N : Nat) (l' : List (List UInt8 × Int × Int)) (i : Int) (r) (hM : shape_First_m N l' i = some r) (ro : Addr → Option Value) (l'v : Value) (hl' : Rd enc_44 ro l'v l') : Does Try.prog 21 #[l'v, vI i] ro [] (pV (vT #[vI r.1, vB r.2])) := by
 unfold shape_First_m at hM
 refine does_of_A follows Try.func21 rfl 24 rfl (upd (upd (fun _ => undef) 1 (vI i)) 0 l'v) (by funext k; match k with | 0 => rfl | 1 => rfl | k + 2 => rfl) (fun base0_ => ?_)
 refine A_sr <| r_R [vI 0, vB false] rfl <| lx_nil <| A_cut (fun tt ll => (shape_First_k1 N l' i  = some r) ∧ Is [(0, l'v), (1, vI i)] [] tt ll) ?_ ?_
 ·refine A_seq fun K6 hK6 => A_reg <| r_R [vI i, l'v] rfl <| r_W (vI ((l').length : Int)) rfl (ev_lenSl rfl rfl rfl (Rd.shp hl')) ?_
  obtain ⟨ck7, hM⟩ := ck_some hM
  refine r_X (vI (((l').length : Int) - 1)) rfl (wi64 rfl ck7.1 ck7.2) rfl ?_
  obtain ⟨r8, hr9, hM⟩ := bind_sm hM
  refine r_c (vB r8) rfl _ _ (ev_callF rfl call_27 rfl) (shape_within_g N i 0 (((l').length : Int) - 1) _ hr9) <| r_R [vB (!(r8)), vB (!(r8))] rfl ?_
  rcases hg10 : (!(r8)) with _ | _
  ·replace hM := ifp (not_f hg10) hM
   refine r_R [l'v, vI i] rfl <| r_y rfl ?_
   obtain ⟨ck11, hM⟩ := ck_some hM
   refine r_W (elA l'v ((i).toNat * 3)) rfl (ev_v (ev_idxSl rfl rfl rfl (Rd.shp hl') ck11)) <| r_y rfl <| r_le (vA #[vS (((l')[(i).toNat]!).1), vI (((l')[(i).toNat]!).2.1), vI (((l')[(i).toNat]!).2.2)]) (En := enc_44) ((l')[(i).toNat]!) ((i).toNat) 0 rfl rfl (rd_ro hl') (get_of ck11) rfl <| r_y rfl ?_
   obtain ⟨r12, hr13, hM⟩ := bind_sm hM
   refine r_c (vI r12) rfl _ _ (ev_callF rfl call_32 rfl) (shape_slotsOf_g N (((l')[(i).toNat]!).1) (((l')[(i).toNat]!).2.1) (((l')[(i).toNat]!).2.2) _ hr13) <| r_R [vB (r12 == 0), vB (r12 == 0)] rfl <| lx_nil <| hK6 _ _ ?_; try clear hK6 K6
   refine A_cond (r12 == 0) rfl (fun hc14 => ?_) (fun hc14 => ?_)
   ·replace hM := ifp (eq_of_beq hc14) hM
    refine A_sr <| r_R [vI 0, vB false] rfl <| lx_nil ?_
    obtain rfl := Option.some.inj hM
    refine A_ret (fun hn => endsV (v0 := vT #[vI 0, vB false]) rfl (res2 rfl rfl))
   replace hM := ifn (ne_of_beq_false hc14) hM
   refine A_skip <| fg _ (Sub.of List.Sublist.slnil) ?_
   exact ⟨hM, is_mk rfl rfl⟩
  replace hM := ifn (Bool.eq_false_iff.1 (not_t hg10)) hM
  refine r_R [none, none, none, none, none, none, vB true] rfl <| lx_nil <| hK6 _ _ ?_; try clear hK6 K6
  refine A_cond true rfl (fun _ => ?_) (fun h_ => nomatch h_)
  refine A_sr <| r_R [vI 0, vB false] rfl <| lx_nil ?_
  obtain rfl := Option.some.inj hM
  refine A_ret (fun hn => endsV (v0 := vT #[vI 0, vB false]) rfl (res2 rfl rfl))
 clear hM; rintro t l ⟨hM, ⟨T, rfl⟩, rfl⟩
 unfold shape_First_k1 at hM
 refine A_sc [(some 23, false)] (conG Try.prog [(23, fun _ _ v_ L_ U_ => ∀ u0_, shape_Slots_m N (((l').take ((i).toNat)).drop 0) = some u0_ → (pV (vI u0_)) v_ L_ U_)]) <| r_R [l'v, vI i] rfl ?_
 obtain ⟨ck3, hM⟩ := ck_some hM
 refine r_W (subA l'v 0 ((i).toNat) 3) rfl (ev_v (ev_subSl2 rfl rfl rfl rfl (Rd.shp hl') ck3)) ?_
 obtain ⟨r4, hr5, hM⟩ := bind_sm hM
 refine r_gv (vI r4) 16 _ rfl rfl rfl (ev_callF rfl call_16 rfl) (fun own_ nw_ hs_ => shape_Slots_g N (((l').take ((i).toNat)).drop 0) _ hr5 hs_.view (subA l'v 0 ((i).toNat) 3) ((rd_sub (rd_ro hl') (Nat.zero_le _) (toNat_len ck3.2)) own_ nw_ hs_)) (conE hr5) <| r_R [vI r4, vB true] rfl <| lx_nil ?_
 obtain rfl := Option.some.inj hM
 refine A_ret (fun hn => endsV (v0 := vT #[vI r4, vB true]) rfl (res2 rfl rfl))
def shunterlaw08_light_v1_l3 (h_1 : List (List UInt8 × Int)) : Nat → Int → Option Bool
  | 0, _ => none
  | n5 + 1, i2_ => if i2_ < ((h_1).length : Int) then ck (0 ≤ i2_ ∧ i2_ < ((h_1).length : Int)) (if (((((h_1)[(i2_).toNat]!).1).length : Int) : Int) > 200 then some false else ck (-9223372036854775808 ≤ (i2_ + 1) ∧ (i2_ + 1) ≤ 9223372036854775807) ((shunterlaw08_light_v1_l3 h_1 n5) (i2_ + 1))) else some true
def shunterlaw08_light_v1_k1 (N : Nat) (h_1 : List (List UInt8 × Int)) : Option Bool := shunterlaw08_light_v1_l3 h_1 N 0
def shunterlaw08_light_v1_m (N : Nat) (h_0 : List UInt8) (h_1 : List (List UInt8 × Int)) (_ : Int) (_ : Int) (_ : Int) (_ : Int) : Option Bool := if (((h_1).length : Int) : Int) > 40 then some false else if (((h_0).length : Int) : Int) > 200 then some false else shunterlaw08_light_v1_k1 N h_1 
set_option maxRecDepth 100000 in
set_option maxHeartbeats 8000000 in
theorem shunterlaw08_light_v1_g (N : Nat) (h_0 : List UInt8) (h_1 : List (List UInt8 × Int)) (h_2 : Int) (h_3 : Int) (h_4 : Int) (h_5 : Int) (r) (hM : shunterlaw08_light_v1_m N h_0 h_1 h_2 h_3 h_4 h_5 = some r) (ro : Addr → Option Value) (h_1v : Value) (hh_1 : Rd enc_52 ro h_1v h_1) : Does Try.prog 7 #[vA #[vS h_0, h_1v, vI h_2, vI h_3, vI h_4, vI h_5]] ro [] (pV (vB r)) := by
 unfold shunterlaw08_light_v1_m at hM
 refine does_of_A follows Try.func7 rfl 29 rfl (upd (fun _ => undef) 0 (vA #[vS h_0, h_1v, vI h_2, vI h_3, vI h_4, vI h_5])) (by funext k; match k with | 0 => rfl | k + 1 => rfl) (fun base0_ => ?_)
 refine A_sr <| r_a (24, #[vS h_0, h_1v, vI h_2, vI h_3, vI h_4, vI h_5]) rfl rfl rfl (fun b2 => ?_) (.inr rfl)
 refine r_V (vB false) rfl <| lx_nil <| A_cut (fun tt ll => (shunterlaw08_light_v1_k1 N h_1  = some r) ∧ Is [(1, vP b2 0)] (kBc24_2 b2 h_0 h_1v h_2 h_3 h_4 h_5) tt ll) ?_ ?_
 ·refine A_seq fun K16 hK16 => A_reg <| r_V (vP b2 1) rfl <| r_l h_1v 0 _ _ _ _ rfl rfl rfl rfl rfl <| r_W (vI ((h_1).length : Int)) rfl (ev_lenSl rfl rfl rfl (Rd.shp hh_1)) <| r_R [vB (decide ((((h_1).length : Int) : Int) > 40)), vB (decide ((((h_1).length : Int) : Int) > 40))] rfl ?_
  rcases hg17 : (decide ((((h_1).length : Int) : Int) > 40)) with _ | _
  ·replace hM := ifn (of_decide_eq_false hg17) hM
   refine r_R [vP b2 0] rfl <| r_y rfl <| r_l (vS h_0) 0 _ _ _ _ rfl rfl rfl rfl rfl <| r_y rfl <| r_W (vI ((h_0).length : Int)) rfl (ev_lenS rfl rfl rfl) <| r_R [vB (decide ((((h_0).length : Int) : Int) > 200)), vB (decide ((((h_0).length : Int) : Int) > 200))] rfl <| lx_nil <| hK16 _ _ ?_; try clear hK16 K16
   refine A_cond (decide ((((h_0).length : Int) : Int) > 200)) rfl (fun hc18 => ?_) (fun hc18 => ?_)
   ·replace hM := ifp (of_decide_eq_true hc18) hM
    refine A_sr <| r_V (vB false) rfl <| lx_nil ?_
    obtain rfl := Option.some.inj hM
    refine A_ret (fun hn => endsV (v0 := vB false) rfl (res1 rfl))
   replace hM := ifn (of_decide_eq_false hc18) hM
   refine A_skip <| fg _ (Sub.of (List.Sublist.cons_cons _ List.Sublist.slnil)) ?_
   exact ⟨hM, is_mk rfl rfl⟩
  replace hM := ifp (of_decide_eq_true hg17) hM
  refine r_R [none, none, none, none, vB true] rfl <| lx_nil <| hK16 _ _ ?_; try clear hK16 K16
  refine A_cond true rfl (fun _ => ?_) (fun h_ => nomatch h_)
  refine A_sr <| r_V (vB false) rfl <| lx_nil ?_
  obtain rfl := Option.some.inj hM
  refine A_ret (fun hn => endsV (v0 := vB false) rfl (res1 rfl))
 clear hM; rintro t l ⟨hM, ⟨T, rfl⟩, rfl⟩
 unfold shunterlaw08_light_v1_k1 at hM
 refine A_seq fun K3 hK3 => A_sr <| r_V (vI 0) rfl <| lx_nil <| A_block <| A_loop (fun tt ll nn => ∃ (n5 : Nat) (i2_ : Int), (shunterlaw08_light_v1_l3 h_1 n5 i2_ = some r) ∧ Is [(1, vP b2 0), (3, vI i2_)] (kBc24_2 b2 h_0 h_1v h_2 h_3 h_4 h_5) tt ll ∧ nn = n5 + 1) (N + 1) ?_ ?_
 ·exact ⟨N, 0, hM, is_mk rfl rfl, rfl⟩
 clear hM; rintro t l _ ⟨n5, i2_, hM, ⟨⟨T, rfl⟩, rfl⟩, rfl⟩
 rcases n5 with _ | n5
 ·exact absurd hM (by simp [shunterlaw08_light_v1_l3])
 rw [shunterlaw08_light_v1_l3] at hM
 refine A_seq fun K6 hK6 => A_sr <| r_R [vI i2_, vP b2 1] rfl <| r_l h_1v 0 _ _ _ _ rfl rfl rfl rfl rfl <| r_W (vI ((h_1).length : Int)) rfl (ev_lenSl rfl rfl rfl (Rd.shp hh_1)) <| r_V (vB (decide (i2_ < ((h_1).length : Int)))) rfl <| lx_nil <| A_cond (decide (i2_ < ((h_1).length : Int))) rfl (fun hc8 => ?_) (fun hc8 => ?_)
 ·replace hM := ifp (of_decide_eq_true hc8) hM
  refine A_skip <| hK6 _ _ ?_; try clear hK6 K6
  refine A_seq fun K9 hK9 => A_block <| A_sr <| r_V (vP b2 1) rfl <| r_l h_1v 0 _ _ _ _ rfl rfl rfl rfl rfl <| r_V (vI i2_) rfl ?_
  obtain ⟨ck11, hM⟩ := ck_some hM
  refine r_W (elA h_1v ((i2_).toNat * 2)) rfl (ev_v (ev_idxSl rfl rfl rfl (Rd.shp hh_1) ck11)) <| r_W (elA h_1v ((i2_).toNat * 2 + 0)) rfl (ev_v (ev_fieldX rfl rfl rfl rfl rfl rfl (Rd.shp hh_1) (pos_of ck11))) <| r_le (vS (((h_1)[(i2_).toNat]!).1)) (En := enc_52) ((h_1)[(i2_).toNat]!) ((i2_).toNat) 0 rfl rfl (rd_ro hh_1) (get_of ck11) rfl <| r_W (vI (((((h_1)[(i2_).toNat]!).1).length : Int))) rfl (ev_lenS rfl rfl rfl) <| r_V (vB (decide ((((((h_1)[(i2_).toNat]!).1).length : Int) : Int) > 200))) rfl <| lx_nil <| A_cond (decide ((((((h_1)[(i2_).toNat]!).1).length : Int) : Int) > 200)) rfl (fun hc12 => ?_) (fun hc12 => ?_)
  ·replace hM := ifp (of_decide_eq_true hc12) hM
   refine A_sr <| r_V (vB false) rfl <| lx_nil ?_
   obtain rfl := Option.some.inj hM
   refine A_ret (fun hn => endsV (v0 := vB false) rfl (res1 rfl))
  replace hM := ifn (of_decide_eq_false hc12) hM
  refine A_skip <| hK9 _ _ ?_; try clear hK9 K9
  refine A_reg <| r_V (vI i2_) rfl ?_
  obtain ⟨ck14, hM⟩ := ck_some hM
  refine r_X (vI (i2_ + 1)) rfl (wi64 rfl ck14.1 ck14.2) rfl <| r_V (vI (i2_ + 1)) rfl <| lx_nil <| fg _ (Sub.of (List.Sublist.cons_cons _ List.Sublist.slnil)) ?_
  exact ⟨n5 + 1, by omega, n5, (i2_ + 1), hM, is_mk rfl rfl, rfl⟩
 replace hM := ifn (of_decide_eq_false hc8) hM
 refine A_exit <| hK3 _ _ ?_; try clear hK3 K3
 refine A_sr <| r_V (vB true) rfl <| lx_nil ?_
 obtain rfl := Option.some.inj hM
 refine A_ret (fun hn => endsV (v0 := vB true) rfl (res1 rfl))
def shape_Most_v1_m (N : Nat) (h_0 : List UInt8) (h_1 : List (List UInt8 × Int)) (h_2 : Int) (h_3 : Int) (h_4 : Int) (h_5 : Int) : Option Int := (shape_May_v1_m N h_0 h_1 h_2 h_3 h_4 h_5).bind fun r5 => if (r5 : Int) ≠ 0 then some 0 else (shape_width_m N h_1).bind fun r10 => ck (0 ≤ r10 ∧ r10 ≤ 9223372036854775807) (ck (-9223372036854775808 ≤ (r10 / 8 + h_2) ∧ (r10 / 8 + h_2) ≤ 9223372036854775807) (some (r10 / 8 + h_2)))
set_option maxRecDepth 100000 in
set_option maxHeartbeats 8000000 in
theorem shape_Most_v1_g (N : Nat) (h_0 : List UInt8) (h_1 : List (List UInt8 × Int)) (h_2 : Int) (h_3 : Int) (h_4 : Int) (h_5 : Int) (r) (hM : shape_Most_v1_m N h_0 h_1 h_2 h_3 h_4 h_5 = some r) (ro : Addr → Option Value) (h_1v : Value) (hh_1 : Rd enc_52 ro h_1v h_1) : Does Try.prog 26 #[vA #[vS h_0, h_1v, vI h_2, vI h_3, vI h_4, vI h_5]] ro [] (pV (vI r)) := by
 unfold shape_Most_v1_m at hM
 refine does_of_A follows Try.func26 rfl 13 rfl (upd (fun _ => undef) 0 (vA #[vS h_0, h_1v, vI h_2, vI h_3, vI h_4, vI h_5])) (by funext k; match k with | 0 => rfl | k + 1 => rfl) (fun base0_ => ?_)
 refine A_sr <| r_a (24, #[vS h_0, h_1v, vI h_2, vI h_3, vI h_4, vI h_5]) rfl rfl rfl (fun b2 => ?_) (.inr rfl)
 refine r_V (vI 0) rfl <| lx_nil <| A_seq fun K3 hK3 => A_sc [(some 4, false)] (conG Try.prog [(4, fun _ _ v_ L_ U_ => ∀ u0_, shape_May_v1_m N h_0 h_1 h_2 h_3 h_4 h_5 = some u0_ → (pV (vI u0_)) v_ L_ U_)]) <| r_l (vA #[vS h_0, h_1v, vI h_2, vI h_3, vI h_4, vI h_5]) 0 _ _ _ _ rfl rfl rfl rfl rfl ?_
 obtain ⟨r5, hr6, hM⟩ := bind_sm hM
 refine r_gv (vI r5) 22 _ rfl rfl rfl (ev_callF rfl call_22 rfl) (fun own_ nw_ hs_ => shape_May_v1_g N h_0 h_1 h_2 h_3 h_4 h_5 _ hr6 hs_.view h_1v ((rd_ro hh_1) own_ nw_ hs_)) (conE hr6) <| r_V (vB (r5 != 0)) rfl <| lx_nil <| A_cond (r5 != 0) rfl (fun hc7 => ?_) (fun hc7 => ?_)
 ·replace hM := ifp (bne_iff_ne.1 hc7) hM
  refine A_sr <| r_V (vI 0) rfl <| lx_nil ?_
  obtain rfl := Option.some.inj hM
  refine A_ret (fun hn => endsV (v0 := vI 0) rfl (res1 rfl))
 replace hM := ifn (bne_f hc7) hM
 refine A_skip <| hK3 _ _ ?_; try clear hK3 K3
 refine A_seq fun K9 hK9 => A_drawR [(some 8, false)] (conG Try.prog [(8, fun _ _ v_ L_ U_ => ∀ u0_, shape_width_m N h_1 = some u0_ → (pV (vI u0_)) v_ L_ U_)]) [] (by decide +kernel) (fun hn => sep_nil) <| r_V (vP b2 1) rfl <| r_l h_1v 0 _ _ _ _ rfl rfl rfl rfl rfl ?_
 obtain ⟨r10, hr11, hM⟩ := bind_sm hM
 refine r_gv (vI r10) 39 _ rfl rfl rfl (ev_callF rfl call_39 rfl) (fun own_ nw_ hs_ => shape_width_g N h_1 _ hr11 hs_.view h_1v ((rd_ro hh_1) own_ nw_ hs_)) (conE hr11) ?_
 obtain ⟨ck12, hM⟩ := ck_some hM
 refine r_X (vI (r10 / 8)) rfl (quo_i64 ck12.1 (by decide) ck12.2) rfl <| r_V (vP b2 2) rfl <| r_l (vI h_2) 0 _ _ _ _ rfl rfl rfl rfl rfl ?_
 obtain ⟨ck13, hM⟩ := ck_some hM
 refine r_X (vI (r10 / 8 + h_2)) rfl (wi64 rfl ck13.1 ck13.2) rfl <| r_V (vI (r10 / 8 + h_2)) rfl <| lx_nil <| hK9 _ _ ?_; try clear hK9 K9
 obtain rfl := Option.some.inj hM
 refine A_ret (fun hn => endsV (v0 := vI (r10 / 8 + h_2)) rfl (res1 rfl))
end Go.Proofs.Ytdmakhnmfnkcmaa
