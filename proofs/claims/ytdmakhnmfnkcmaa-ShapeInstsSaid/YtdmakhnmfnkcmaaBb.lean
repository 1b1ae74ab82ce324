/- models of functions and their walks -/
import Derived.Test.YtdmakhnmfnkcmaaBa
namespace Go.Proofs.Ytdmakhnmfnkcmaa
open Go Go.RowKit Go.Eng
abbrev kBb44_0 (b : Nat) (x0 : List UInt8) (x1 : Int) (x2 : Int) : List Bl := [(b, 44, #[vS x0, vI x1, vI x2])]
def shape_Slots_l3 (N : Nat) (l' : List (List UInt8 × Int × Int)) : Nat → Int → Int → Option Int
  | 0, _, _ => none
  | n5 + 1, n1_, x2_ => if x2_ < ((l').length : Int) then ck (0 ≤ x2_ ∧ x2_ < ((l').length : Int)) ((shape_slotsOf_m N (((l')[(x2_).toNat]!).1) (((l')[(x2_).toNat]!).2.1) (((l')[(x2_).toNat]!).2.2)).bind fun r13 => ck (-9223372036854775808 ≤ (n1_ + r13) ∧ (n1_ + r13) ≤ 9223372036854775807) (ck (-9223372036854775808 ≤ (x2_ + 1) ∧ (x2_ + 1) ≤ 9223372036854775807) ((shape_Slots_l3 N l' n5) (n1_ + r13) (x2_ + 1)))) else some n1_
def shape_Slots_m (N : Nat) (l' : List (List UInt8 × Int × Int)) : Option Int := shape_Slots_l3 N l' N 0 0
set_option maxRecDepth 100000 in
set_option maxHeartbeats 8000000 in
theorem shape_Slots_g (N : Nat) (l' : List (List UInt8 × Int × Int)) (r) (hM : shape_Slots_m N l' = some r) (ro : Addr → Option Value) (l'v : Value) (hl' : Rd enc_44 ro l'v l') : Does Try.prog 16 #[l'v] ro [] (pV (vI r)) := by
 unfold shape_Slots_m at hM
 refine does_of_A follows Try.func16 rfl 18 rfl (upd (fun _ => undef) 0 l'v) (by funext k; match k with | 0 => rfl | k + 1 => rfl) (fun base0_ => ?_)
 refine A_sr <| r_V (vI 0) rfl <| lx_nil <| A_sr <| r_V (vI 0) rfl <| lx_nil <| A_seq fun K3 hK3 => A_sr <| r_V l'v rfl <| r_W (vI ((l').length : Int)) rfl (ev_lenSl rfl rfl rfl (Rd.shp hl')) <| r_V (vI 0) rfl <| lx_nil <| A_block <| A_loop (fun tt ll nn => ∃ (n5 : Nat) (n1_ : Int) (x2_ : Int), (shape_Slots_l3 N l' n5 n1_ x2_ = some r) ∧ Is [(3, vI n1_), (6, l'v), (7, vI ((l').length : Int)), (8, vI x2_)] [] tt ll ∧ nn = n5 + 1) (N + 1) ?_ ?_
 ·exact ⟨N, 0, 0, hM, is_mk rfl rfl, rfl⟩
 clear hM; rintro t l _ ⟨n5, n1_, x2_, hM, ⟨⟨T, rfl⟩, rfl⟩, rfl⟩
 rcases n5 with _ | n5
 ·exact absurd hM (by simp [shape_Slots_l3])
 rw [shape_Slots_l3] at hM
 refine A_sr <| r_V (vB (decide (x2_ < ((l').length : Int)))) rfl <| lx_nil <| A_seq fun K7 hK7 => A_cond (decide (x2_ < ((l').length : Int))) rfl (fun hc8 => ?_) (fun hc8 => ?_)
 ·replace hM := ifp (of_decide_eq_true hc8) hM
  refine A_skip <| hK7 _ _ ?_; try clear hK7 K7
  refine A_seq fun K9 hK9 => A_block <| A_sr ?_
  obtain ⟨ck11, hM⟩ := ck_some hM
  refine r_W (elA l'v ((x2_).toNat * 3)) rfl (ev_v (ev_idxSl rfl rfl rfl (Rd.shp hl') ck11)) <| r_le (vA #[vS (((l')[(x2_).toNat]!).1), vI (((l')[(x2_).toNat]!).2.1), vI (((l')[(x2_).toNat]!).2.2)]) (En := enc_44) ((l')[(x2_).toNat]!) ((x2_).toNat) 0 rfl rfl (rd_ro hl') (get_of ck11) rfl <| r_a (44, #[Value.string (⟨#[]⟩), vI 0, vI 0]) rfl rfl rfl (fun b12 => ?_) (.inr rfl)
  refine r_s (kBb44_0 b12 (((l')[(x2_).toNat]!).1) (((l')[(x2_).toNat]!).2.1) (((l')[(x2_).toNat]!).2.2)) 0 _ _ _ _ _ (#[vS (((l')[(x2_).toNat]!).1), vI (((l')[(x2_).toNat]!).2.1), vI (((l')[(x2_).toNat]!).2.2)]) rfl rfl rfl rfl (.of rfl rfl) rfl rfl <| lx_nil <| A_reg <| r_V (vI n1_) rfl <| r_l (vA #[vS (((l')[(x2_).toNat]!).1), vI (((l')[(x2_).toNat]!).2.1), vI (((l')[(x2_).toNat]!).2.2)]) 0 _ _ _ _ rfl rfl rfl rfl rfl ?_
  obtain ⟨r13, hr14, hM⟩ := bind_sm hM
  refine r_c (vI r13) rfl _ _ (ev_callF rfl call_32 rfl) (shape_slotsOf_g N (((l')[(x2_).toNat]!).1) (((l')[(x2_).toNat]!).2.1) (((l')[(x2_).toNat]!).2.2) _ hr14) ?_
  obtain ⟨ck15, hM⟩ := ck_some hM
  refine r_X (vI (n1_ + r13)) rfl (wi64 rfl ck15.1 ck15.2) rfl <| r_V (vI (n1_ + r13)) rfl <| lx_nil <| hK9 _ _ ?_; try clear hK9 K9
  refine A_reg ?_
  obtain ⟨ck16, hM⟩ := ck_some hM
  refine r_X (vI (x2_ + 1)) rfl (wi64 rfl ck16.1 ck16.2) rfl <| r_V (vI (x2_ + 1)) rfl <| lx_nil <| fg _ (Sub.of (List.Sublist.cons _ List.Sublist.slnil)) ?_
  exact ⟨n5 + 1, by omega, n5, (n1_ + r13), (x2_ + 1), hM, is_mk rfl rfl, rfl⟩
 replace hM := ifn (of_decide_eq_false hc8) hM
 refine A_exit <| hK3 _ _ ?_; try clear hK3 K3
 refine A_sr <| r_R [vI n1_, vI n1_] rfl <| lx_nil ?_
 obtain rfl := Option.some.inj hM
 refine A_ret (fun hn => endsV (v0 := vI n1_) rfl (res1 rfl))
def shape_Insts_l2 (N : Nat) (headers : List ((List UInt8) × (List (List UInt8 × Int)) × Int × Int × Int × Int)) (l' : List (List UInt8 × Int × Int)) (r7 : List (List UInt8)) : Nat → Int → Option Int
  | 0, _ => none
  | n14 + 1, x1_ => if x1_ < ((l').length : Int) then ck (0 ≤ x1_ ∧ x1_ < ((l').length : Int)) ((shape_mayName_m N r7 x1_).bind fun r24 => if (r24 : Int) ≠ 0 then some r24 else ck ((-9223372036854775808 ≤ (((headers).length : Int) - 1) ∧ (((headers).length : Int) - 1) ≤ 9223372036854775807)) ((shape_within_m N (((l')[(x1_).toNat]!).2.1) 0 (((headers).length : Int) - 1)).bind fun r31 => if r31 = true then (shape_mayDepth_m N (((l')[(x1_).toNat]!).1) (((l')[(x1_).toNat]!).2.1) (((l')[(x1_).toNat]!).2.2)).bind fun r36 => if r36 = true then ck (-9223372036854775808 ≤ (x1_ + 1) ∧ (x1_ + 1) ≤ 9223372036854775807) ((shape_Insts_l2 N headers l' r7 n14) (x1_ + 1)) else some 7 else some 5)) else (shape_Slots_m N l').bind fun r43 => if r43 > 32 then some 8 else some 0
def shape_Insts_m (N : Nat) (headers : List ((List UInt8) × (List (List UInt8 × Int)) × Int × Int × Int × Int)) (l' : List (List UInt8 × Int × Int)) : Option Int := if (((l').length : Int) : Int) > 16 then some 2 else (shape_instNames_m N l').bind fun r7 => shape_Insts_l2 N headers l' r7 N 0
set_option maxRecDepth 100000 in
set_option maxHeartbeats 8000000 in
theorem shape_Insts_g (N : Nat) (headers : List ((List UInt8) × (List (List UInt8 × Int)) × Int × Int × Int × Int)) (l' : List (List UInt8 × Int × Int)) (r) (hM : shape_Insts_m N headers l' = some r) (ro : Addr → Option Value) (headersv : Value) (hheaders : RdN encr_24 ro headersv headers) (l'v : Value) (hl' : Rd enc_44 ro l'v l') : Does Try.prog 14 #[headersv, l'v] ro [] (pV (vI r)) := by
 unfold shape_Insts_m at hM
 refine does_of_A follows Try.func14 rfl 43 rfl (upd (upd (fun _ => undef) 1 l'v) 0 headersv) (by funext k; match k with | 0 => rfl | 1 => rfl | k + 2 => rfl) (fun base0_ => ?_)
 refine A_sr <| r_V (vI 0) rfl <| lx_nil <| A_seq fun K2 hK2 => A_sr <| r_V l'v rfl <| r_W (vI ((l').length : Int)) rfl (ev_lenSl rfl rfl rfl (Rd.shp hl')) <| r_V (vB (decide ((((l').length : Int) : Int) > 16))) rfl <| lx_nil <| A_cond (decide ((((l').length : Int) : Int) > 16)) rfl (fun hc4 => ?_) (fun hc4 => ?_)
 ·replace hM := ifp (of_decide_eq_true hc4) hM
  refine A_sr <| r_V (vI 2) rfl <| lx_nil ?_
  obtain rfl := Option.some.inj hM
  refine A_ret (fun hn => endsV (v0 := vI 2) rfl (res1 rfl))
 replace hM := ifn (of_decide_eq_false hc4) hM
 refine A_skip <| hK2 _ _ ?_; try clear hK2 K2
 refine A_sc [(some 13, false)] (conG Try.prog [(13, fun _ _ v_ L_ U_ => ∀ u0_, shape_instNames_m N l' = some u0_ → (p1 (fun s_ => s_) 9 encS u0_) v_ L_ U_)]) <| r_V l'v rfl ?_
 obtain ⟨r7, hr8, hM⟩ := bind_sm hM
 refine r_g1 (Ls := []) (fun s9 => s9) 9 encS r7 29 _ rfl rfl rfl (ev_callF rfl call_29 rfl) (fun own_ nw_ hs_ => shape_instNames_g N l' _ hr8 hs_.view l'v ((rd_ro hl') own_ nw_ hs_)) (conE hr8) (fun s9 S10 H11 => ?_)
 refine r_V s9 rfl <| lx_nil <| A_seq fun K12 hK12 => A_sr <| r_V l'v rfl <| r_W (vI ((l').length : Int)) rfl (ev_lenSl rfl rfl rfl (Rd.shp hl')) <| r_V (vI 0) rfl <| lx_nil <| A_block <| A_forget _ (Sub.pick [S10] [0] rfl) <| A_loop (fun tt ll nn => ∃ (n14 : Nat) (x1_ : Int), (shape_Insts_l2 N headers l' r7 n14 x1_ = some r) ∧ Is [(0, headersv), (1, l'v), (5, s9), (14, l'v), (15, vI ((l').length : Int)), (16, vI x1_)] (List.flatten [S10]) tt ll ∧ nn = n14 + 1) (N + 1) ?_ ?_
 ·exact ⟨N, 0, hM, is_mk rfl rfl, rfl⟩
 clear hM; rintro t l _ ⟨n14, x1_, hM, ⟨⟨T, rfl⟩, rfl⟩, rfl⟩
 rcases n14 with _ | n14
 ·exact absurd hM (by simp [shape_Insts_l2])
 rw [shape_Insts_l2] at hM
 refine A_sr <| r_V (vB (decide (x1_ < ((l').length : Int)))) rfl <| lx_nil <| A_seq fun K16 hK16 => A_cond (decide (x1_ < ((l').length : Int))) rfl (fun hc17 => ?_) (fun hc17 => ?_)
 ·replace hM := ifp (of_decide_eq_true hc17) hM
  refine A_skip <| hK16 _ _ ?_; try clear hK16 K16
  refine A_seq fun K18 hK18 => A_block <| A_sr <| r_V (vI x1_) rfl ?_
  obtain ⟨ck20, hM⟩ := ck_some hM
  refine r_W (elA l'v ((x1_).toNat * 3)) rfl (ev_v (ev_idxSl rfl rfl rfl (Rd.shp hl') ck20)) <| r_le (vA #[vS (((l')[(x1_).toNat]!).1), vI (((l')[(x1_).toNat]!).2.1), vI (((l')[(x1_).toNat]!).2.2)]) (En := enc_44) ((l')[(x1_).toNat]!) ((x1_).toNat) 0 rfl rfl (rd_ro hl') (get_of ck20) rfl <| r_a (44, #[Value.string (⟨#[]⟩), vI 0, vI 0]) rfl rfl rfl (fun b21 => ?_) (.inr rfl)
  refine r_V (vI x1_) rfl <| r_s (List.flatten [(kBb44_0 b21 (((l')[(x1_).toNat]!).1) (((l')[(x1_).toNat]!).2.1) (((l')[(x1_).toNat]!).2.2)), S10]) 0 _ _ _ _ _ (#[vS (((l')[(x1_).toNat]!).1), vI (((l')[(x1_).toNat]!).2.1), vI (((l')[(x1_).toNat]!).2.2)]) rfl rfl rfl rfl (.of rfl rfl) rfl rfl <| lx_nil <| A_seq fun K22 hK22 => A_sc [(some 23, false)] (conG Try.prog [(23, fun _ _ v_ L_ U_ => ∀ u0_, shape_mayName_m N r7 x1_ = some u0_ → (pV (vI u0_)) v_ L_ U_)]) <| r_R [s9, vI x1_] rfl ?_
  obtain ⟨r24, hr25, hM⟩ := bind_sm hM
  refine r_gv (vI r24) 30 _ rfl rfl rfl (ev_callF rfl call_30 rfl) (fun own_ nw_ hs_ => shape_mayName_g N r7 x1_ _ hr25 hs_.view s9 ((rd_own H11 (mem_chunk (Ls := [(kBb44_0 b21 (((l')[(x1_).toNat]!).1) (((l')[(x1_).toNat]!).2.1) (((l')[(x1_).toNat]!).2.2)), S10]) (k := 1) rfl rfl)) own_ nw_ hs_)) (conE hr25) <| r_V (vI r24) rfl <| lx_nil <| A_sr <| r_R [vI r24, vB (r24 != 0)] rfl <| lx_nil <| A_cond (r24 != 0) rfl (fun hc27 => ?_) (fun hc27 => ?_)
  ·replace hM := ifp (bne_iff_ne.1 hc27) hM
   refine A_sr <| r_R [vI r24, vI r24] rfl <| lx_nil ?_
   obtain rfl := Option.some.inj hM
   refine A_ret (fun hn => endsV (v0 := vI r24) rfl (res1 rfl))
  replace hM := ifn (bne_f hc27) hM
  refine A_skip <| hK22 _ _ ?_; try clear hK22 K22
  refine A_block <| A_sr <| r_V (vP b21 1) rfl <| r_l (vI (((l')[(x1_).toNat]!).2.1)) 0 _ _ _ _ rfl rfl rfl rfl rfl <| r_V headersv rfl <| r_W (vI ((headers).length : Int)) rfl (ev_lenSl rfl rfl rfl (RdN.shp hheaders)) ?_
  obtain ⟨ck30, hM⟩ := ck_some hM
  refine r_X (vI (((headers).length : Int) - 1)) rfl (wi64 rfl ck30.1 ck30.2) rfl ?_
  obtain ⟨r31, hr32, hM⟩ := bind_sm hM
  refine r_c (vB r31) rfl _ _ (ev_callF rfl call_27 rfl) (shape_within_g N (((l')[(x1_).toNat]!).2.1) 0 (((headers).length : Int) - 1) _ hr32) <| r_R [vB (!(r31)), vB (!(r31))] rfl <| lx_nil <| A_cond (!(r31)) rfl (fun hc33 => ?_) (fun hc33 => ?_)
  ·replace hM := ifn (Bool.eq_false_iff.1 (not_t hc33)) hM
   refine A_sr <| r_V (vI 5) rfl <| lx_nil <| A_gen [(4, vI 5)] rfl (fun T => ?_)
   obtain rfl := Option.some.inj hM
   refine A_ret (fun hn => endsV (v0 := vI 5) rfl (res1 rfl))
  replace hM := ifp (not_f hc33) hM
  refine A_sr <| r_l (vA #[vS (((l')[(x1_).toNat]!).1), vI (((l')[(x1_).toNat]!).2.1), vI (((l')[(x1_).toNat]!).2.2)]) 0 _ _ _ _ rfl rfl rfl rfl rfl ?_
  obtain ⟨r36, hr37, hM⟩ := bind_sm hM
  refine r_c (vB r36) rfl _ _ (ev_callF rfl call_31 rfl) (shape_mayDepth_g N (((l')[(x1_).toNat]!).1) (((l')[(x1_).toNat]!).2.1) (((l')[(x1_).toNat]!).2.2) _ hr37) <| r_R [vB (!(r36)), vB (!(r36))] rfl <| lx_nil <| A_cond (!(r36)) rfl (fun hc38 => ?_) (fun hc38 => ?_)
  ·replace hM := ifn (Bool.eq_false_iff.1 (not_t hc38)) hM
   refine A_sr <| r_V (vI 7) rfl <| lx_nil <| A_gen [(4, vI 7)] rfl (fun T => ?_)
   obtain rfl := Option.some.inj hM
   refine A_ret (fun hn => endsV (v0 := vI 7) rfl (res1 rfl))
  replace hM := ifp (not_f hc38) hM
  refine A_skip <| hK18 _ _ ?_; try clear hK18 K18
  refine A_reg ?_
  obtain ⟨ck40, hM⟩ := ck_some hM
  refine r_X (vI (x1_ + 1)) rfl (wi64 rfl ck40.1 ck40.2) rfl <| r_V (vI (x1_ + 1)) rfl <| lx_nil <| fg _ (Sub.pick [(kBb44_0 b21 (((l')[(x1_).toNat]!).1) (((l')[(x1_).toNat]!).2.1) (((l')[(x1_).toNat]!).2.2)), S10] [1] rfl) ?_
  exact ⟨n14 + 1, by omega, n14, (x1_ + 1), hM, is_mk rfl rfl, rfl⟩
 replace hM := ifn (of_decide_eq_false hc17) hM
 refine A_exit <| hK12 _ _ ?_; try clear hK12 K12
 refine A_seq fun K41 hK41 => A_sc [(some 41, false)] (conG Try.prog [(41, fun _ _ v_ L_ U_ => ∀ u0_, shape_Slots_m N l' = some u0_ → (pV (vI u0_)) v_ L_ U_)]) <| r_V l'v rfl ?_
 obtain ⟨r43, hr44, hM⟩ := bind_sm hM
 refine r_gv (vI r43) 16 _ rfl rfl rfl (ev_callF rfl call_16 rfl) (fun own_ nw_ hs_ => shape_Slots_g N l' _ hr44 hs_.view l'v ((rd_ro hl') own_ nw_ hs_)) (conE hr44) <| r_V (vB (decide (r43 > 32))) rfl <| lx_nil <| A_cond (decide (r43 > 32)) rfl (fun hc45 => ?_) (fun hc45 => ?_)
 ·replace hM := ifp (of_decide_eq_true hc45) hM
  refine A_sr <| r_V (vI 8) rfl <| lx_nil ?_
  obtain rfl := Option.some.inj hM
  refine A_ret (fun hn => endsV (v0 := vI 8) rfl (res1 rfl))
 replace hM := ifn (of_decide_eq_false hc45) hM
 refine A_skip <| hK41 _ _ ?_; try clear hK41 K41
 refine A_sr <| r_V (vI 0) rfl <| lx_nil ?_
 obtain rfl := Option.some.inj hM
 refine A_ret (fun hn => endsV (v0 := vI 0) rfl (res1 rfl))
def shunterref05_more_m (_ : Nat) (c : UInt8) : Option Bool := if (((c.toNat : Nat) : Int) : Int) ≥ 128 then some (decide ((((c.toNat : Nat) : Int) : Int) < 192)) else some false
set_option maxRecDepth 100000 in
set_option maxHeartbeats 8000000 in
theorem shunterref05_more_g (N : Nat) (c : UInt8) (r) (hM : shunterref05_more_m N c = some r) : Gives Try.prog 64 #[Value.int .u8 ((c.toNat : Nat) : Int)] (vB r) := by
 unfold shunterref05_more_m at hM
 refine gives_of_A follows Try.func64 rfl 9 rfl (upd (fun _ => undef) 0 (Value.int .u8 ((c.toNat : Nat) : Int))) (by funext k; match k with | 0 => rfl | k + 1 => rfl) (fun base0_ => ?_)
 refine A_sr <| r_V (vB false) rfl <| lx_nil <| A_seq fun K2 hK2 => A_reg <| r_R [Value.int .u8 ((c.toNat : Nat) : Int), vB (decide ((((c.toNat : Nat) : Int) : Int) ≥ 128)), vB (decide ((((c.toNat : Nat) : Int) : Int) ≥ 128))] rfl ?_
 rcases hg3 : (decide ((((c.toNat : Nat) : Int) : Int) ≥ 128)) with _ | _
 ·replace hM := ifn (of_decide_eq_false hg3) hM
  refine r_R [none, none, vB false, vB false] rfl <| lx_nil <| hK2 _ _ ?_; try clear hK2 K2
  obtain rfl := Option.some.inj hM
  refine A_ret (fun hn => ends_eq (v0 := vB false) rfl (res1 rfl))
 replace hM := ifp (of_decide_eq_true hg3) hM
 refine r_R [Value.int .u8 ((c.toNat : Nat) : Int), vB (decide ((((c.toNat : Nat) : Int) : Int) < 192)), vB (decide ((((c.toNat : Nat) : Int) : Int) < 192)), vB (decide ((((c.toNat : Nat) : Int) : Int) < 192))] rfl <| lx_nil <| hK2 _ _ ?_; try clear hK2 K2
 obtain rfl := Option.some.inj hM
 refine A_ret (fun hn => ends_eq (v0 := vB (decide ((((c.toNat : Nat) : Int) : Int) < 192))) rfl (res1 rfl))
def shunterref05_First_k5 (s : List UInt8) (x4_ : Bool) : Option (Int × Int) := if x4_ = true then ck ((-9223372036854775808 ≤ ((((byteN s 0).toNat : Nat) : Int) - 240) ∧ ((((byteN s 0).toNat : Nat) : Int) - 240) ≤ 9223372036854775807)) (ck ((-9223372036854775808 ≤ (262144 * ((((byteN s 0).toNat : Nat) : Int) - 240)) ∧ (262144 * ((((byteN s 0).toNat : Nat) : Int) - 240)) ≤ 9223372036854775807)) (ck ((0 : Int) ≤ 1 ∧ 1 < ((s).length : Int)) (ck ((-9223372036854775808 ≤ ((((byteN s 1).toNat : Nat) : Int) - 128) ∧ ((((byteN s 1).toNat : Nat) : Int) - 128) ≤ 9223372036854775807)) (ck ((-9223372036854775808 ≤ (4096 * ((((byteN s 1).toNat : Nat) : Int) - 128)) ∧ (4096 * ((((byteN s 1).toNat : Nat) : Int) - 128)) ≤ 9223372036854775807)) (ck ((-9223372036854775808 ≤ ((262144 * ((((byteN s 0).toNat : Nat) : Int) - 240)) + (4096 * ((((byteN s 1).toNat : Nat) : Int) - 128))) ∧ ((262144 * ((((byteN s 0).toNat : Nat) : Int) - 240)) + (4096 * ((((byteN s 1).toNat : Nat) : Int) - 128))) ≤ 9223372036854775807)) (ck ((0 : Int) ≤ 2 ∧ 2 < ((s).length : Int)) (ck ((-9223372036854775808 ≤ ((((byteN s 2).toNat : Nat) : Int) - 128) ∧ ((((byteN s 2).toNat : Nat) : Int) - 128) ≤ 9223372036854775807)) (ck ((-9223372036854775808 ≤ (64 * ((((byteN s 2).toNat : Nat) : Int) - 128)) ∧ (64 * ((((byteN s 2).toNat : Nat) : Int) - 128)) ≤ 9223372036854775807)) (ck ((-9223372036854775808 ≤ (((262144 * ((((byteN s 0).toNat : Nat) : Int) - 240)) + (4096 * ((((byteN s 1).toNat : Nat) : Int) - 128))) + (64 * ((((byteN s 2).toNat : Nat) : Int) - 128))) ∧ (((262144 * ((((byteN s 0).toNat : Nat) : Int) - 240)) + (4096 * ((((byteN s 1).toNat : Nat) : Int) - 128))) + (64 * ((((byteN s 2).toNat : Nat) : Int) - 128))) ≤ 9223372036854775807)) (ck ((0 : Int) ≤ 3 ∧ 3 < ((s).length : Int)) (ck ((-9223372036854775808 ≤ ((((262144 * ((((byteN s 0).toNat : Nat) : Int) - 240)) + (4096 * ((((byteN s 1).toNat : Nat) : Int) - 128))) + (64 * ((((byteN s 2).toNat : Nat) : Int) - 128))) + (((byteN s 3).toNat : Nat) : Int)) ∧ ((((262144 * ((((byteN s 0).toNat : Nat) : Int) - 240)) + (4096 * ((((byteN s 1).toNat : Nat) : Int) - 128))) + (64 * ((((byteN s 2).toNat : Nat) : Int) - 128))) + (((byteN s 3).toNat : Nat) : Int)) ≤ 9223372036854775807)) (ck ((-9223372036854775808 ≤ (((((262144 * ((((byteN s 0).toNat : Nat) : Int) - 240)) + (4096 * ((((byteN s 1).toNat : Nat) : Int) - 128))) + (64 * ((((byteN s 2).toNat : Nat) : Int) - 128))) + (((byteN s 3).toNat : Nat) : Int)) - 128) ∧ (((((262144 * ((((byteN s 0).toNat : Nat) : Int) - 240)) + (4096 * ((((byteN s 1).toNat : Nat) : Int) - 128))) + (64 * ((((byteN s 2).toNat : Nat) : Int) - 128))) + (((byteN s 3).toNat : Nat) : Int)) - 128) ≤ 9223372036854775807)) (if ((((((262144 * ((((byteN s 0).toNat : Nat) : Int) - 240)) + (4096 * ((((byteN s 1).toNat : Nat) : Int) - 128))) + (64 * ((((byteN s 2).toNat : Nat) : Int) - 128))) + (((byteN s 3).toNat : Nat) : Int)) - 128) : Int) ≥ 65536 then if ((((((262144 * ((((byteN s 0).toNat : Nat) : Int) - 240)) + (4096 * ((((byteN s 1).toNat : Nat) : Int) - 128))) + (64 * ((((byteN s 2).toNat : Nat) : Int) - 128))) + (((byteN s 3).toNat : Nat) : Int)) - 128) : Int) ≤ 1114111 then some ((((((262144 * ((((byteN s 0).toNat : Nat) : Int) - 240)) + (4096 * ((((byteN s 1).toNat : Nat) : Int) - 128))) + (64 * ((((byteN s 2).toNat : Nat) : Int) - 128))) + (((byteN s 3).toNat : Nat) : Int)) - 128), 4) else some (65533, 1) else some (65533, 1)))))))))))))) else some (65533, 1)
def shunterref05_First_k3 (N : Nat) (s : List UInt8) : Option (Int × Int) := if ((((byteN s 0).toNat : Nat) : Int) : Int) ≥ 240 then if ((((byteN s 0).toNat : Nat) : Int) : Int) < 245 then if (((s).length : Int) : Int) ≥ 4 then ck ((0 : Int) ≤ 1 ∧ 1 < ((s).length : Int)) ((shunterref05_more_m N (byteN s 1)).bind fun r47 => if r47 = true then ck ((0 : Int) ≤ 2 ∧ 2 < ((s).length : Int)) ((shunterref05_more_m N (byteN s 2)).bind fun r51 => if r51 = true then ck ((0 : Int) ≤ 3 ∧ 3 < ((s).length : Int)) ((shunterref05_more_m N (byteN s 3)).bind fun r55 => shunterref05_First_k5 s r55) else shunterref05_First_k5 s false) else shunterref05_First_k5 s false) else shunterref05_First_k5 s false else shunterref05_First_k5 s false else shunterref05_First_k5 s false
def shunterref05_First_k7 (N : Nat) (s : List UInt8) (x6_ : Bool) : Option (Int × Int) := if x6_ = true then ck ((-9223372036854775808 ≤ ((((byteN s 0).toNat : Nat) : Int) - 224) ∧ ((((byteN s 0).toNat : Nat) : Int) - 224) ≤ 9223372036854775807)) (ck ((-9223372036854775808 ≤ (4096 * ((((byteN s 0).toNat : Nat) : Int) - 224)) ∧ (4096 * ((((byteN s 0).toNat : Nat) : Int) - 224)) ≤ 9223372036854775807)) (ck ((0 : Int) ≤ 1 ∧ 1 < ((s).length : Int)) (ck ((-9223372036854775808 ≤ ((((byteN s 1).toNat : Nat) : Int) - 128) ∧ ((((byteN s 1).toNat : Nat) : Int) - 128) ≤ 9223372036854775807)) (ck ((-9223372036854775808 ≤ (64 * ((((byteN s 1).toNat : Nat) : Int) - 128)) ∧ (64 * ((((byteN s 1).toNat : Nat) : Int) - 128)) ≤ 9223372036854775807)) (ck ((-9223372036854775808 ≤ ((4096 * ((((byteN s 0).toNat : Nat) : Int) - 224)) + (64 * ((((byteN s 1).toNat : Nat) : Int) - 128))) ∧ ((4096 * ((((byteN s 0).toNat : Nat) : Int) - 224)) + (64 * ((((byteN s 1).toNat : Nat) : Int) - 128))) ≤ 9223372036854775807)) (ck ((0 : Int) ≤ 2 ∧ 2 < ((s).length : Int)) (ck ((-9223372036854775808 ≤ (((4096 * ((((byteN s 0).toNat : Nat) : Int) - 224)) + (64 * ((((byteN s 1).toNat : Nat) : Int) - 128))) + (((byteN s 2).toNat : Nat) : Int)) ∧ (((4096 * ((((byteN s 0).toNat : Nat) : Int) - 224)) + (64 * ((((byteN s 1).toNat : Nat) : Int) - 128))) + (((byteN s 2).toNat : Nat) : Int)) ≤ 9223372036854775807)) (ck ((-9223372036854775808 ≤ ((((4096 * ((((byteN s 0).toNat : Nat) : Int) - 224)) + (64 * ((((byteN s 1).toNat : Nat) : Int) - 128))) + (((byteN s 2).toNat : Nat) : Int)) - 128) ∧ ((((4096 * ((((byteN s 0).toNat : Nat) : Int) - 224)) + (64 * ((((byteN s 1).toNat : Nat) : Int) - 128))) + (((byteN s 2).toNat : Nat) : Int)) - 128) ≤ 9223372036854775807)) (if (((((4096 * ((((byteN s 0).toNat : Nat) : Int) - 224)) + (64 * ((((byteN s 1).toNat : Nat) : Int) - 128))) + (((byteN s 2).toNat : Nat) : Int)) - 128) : Int) ≥ 2048 then if (((((4096 * ((((byteN s 0).toNat : Nat) : Int) - 224)) + (64 * ((((byteN s 1).toNat : Nat) : Int) - 128))) + (((byteN s 2).toNat : Nat) : Int)) - 128) : Int) < 55296 then some (((((4096 * ((((byteN s 0).toNat : Nat) : Int) - 224)) + (64 * ((((byteN s 1).toNat : Nat) : Int) - 128))) + (((byteN s 2).toNat : Nat) : Int)) - 128), 3) else if (((((4096 * ((((byteN s 0).toNat : Nat) : Int) - 224)) + (64 * ((((byteN s 1).toNat : Nat) : Int) - 128))) + (((byteN s 2).toNat : Nat) : Int)) - 128) : Int) > 57343 then some (((((4096 * ((((byteN s 0).toNat : Nat) : Int) - 224)) + (64 * ((((byteN s 1).toNat : Nat) : Int) - 128))) + (((byteN s 2).toNat : Nat) : Int)) - 128), 3) else shunterref05_First_k3 N s  else shunterref05_First_k3 N s ))))))))) else shunterref05_First_k3 N s 
def shunterref05_First_k2 (N : Nat) (s : List UInt8) (x1_ : Bool) : Option (Int × Int) := if x1_ = true then ck ((-9223372036854775808 ≤ ((((byteN s 0).toNat : Nat) : Int) - 192) ∧ ((((byteN s 0).toNat : Nat) : Int) - 192) ≤ 9223372036854775807)) (ck ((-9223372036854775808 ≤ (64 * ((((byteN s 0).toNat : Nat) : Int) - 192)) ∧ (64 * ((((byteN s 0).toNat : Nat) : Int) - 192)) ≤ 9223372036854775807)) (ck ((0 : Int) ≤ 1 ∧ 1 < ((s).length : Int)) (ck ((-9223372036854775808 ≤ ((64 * ((((byteN s 0).toNat : Nat) : Int) - 192)) + (((byteN s 1).toNat : Nat) : Int)) ∧ ((64 * ((((byteN s 0).toNat : Nat) : Int) - 192)) + (((byteN s 1).toNat : Nat) : Int)) ≤ 9223372036854775807)) (ck ((-9223372036854775808 ≤ (((64 * ((((byteN s 0).toNat : Nat) : Int) - 192)) + (((byteN s 1).toNat : Nat) : Int)) - 128) ∧ (((64 * ((((byteN s 0).toNat : Nat) : Int) - 192)) + (((byteN s 1).toNat : Nat) : Int)) - 128) ≤ 9223372036854775807)) (some ((((64 * ((((byteN s 0).toNat : Nat) : Int) - 192)) + (((byteN s 1).toNat : Nat) : Int)) - 128), 2)))))) else if ((((byteN s 0).toNat : Nat) : Int) : Int) ≥ 224 then if ((((byteN s 0).toNat : Nat) : Int) : Int) < 240 then if (((s).length : Int) : Int) ≥ 3 then ck ((0 : Int) ≤ 1 ∧ 1 < ((s).length : Int)) ((shunterref05_more_m N (byteN s 1)).bind fun r78 => if r78 = true then ck ((0 : Int) ≤ 2 ∧ 2 < ((s).length : Int)) ((shunterref05_more_m N (byteN s 2)).bind fun r82 => shunterref05_First_k7 N s r82) else shunterref05_First_k7 N s false) else shunterref05_First_k7 N s false else shunterref05_First_k7 N s false else shunterref05_First_k7 N s false
def shunterref05_First_m (N : Nat) (s : List UInt8) : Option (Int × Int) := if (((s).length : Int) : Int) = 0 then some (65533, 0) else ck ((0 : Int) ≤ 0 ∧ 0 < ((s).length : Int)) (if ((((byteN s 0).toNat : Nat) : Int) : Int) < 128 then some ((((byteN s 0).toNat : Nat) : Int), 1) else if ((((byteN s 0).toNat : Nat) : Int) : Int) ≥ 194 then if ((((byteN s 0).toNat : Nat) : Int) : Int) < 224 then if (((s).length : Int) : Int) ≥ 2 then ck ((0 : Int) ≤ 1 ∧ 1 < ((s).length : Int)) ((shunterref05_more_m N (byteN s 1)).bind fun r88 => shunterref05_First_k2 N s r88) else shunterref05_First_k2 N s false else shunterref05_First_k2 N s false else shunterref05_First_k2 N s false)
set_option maxRecDepth 100000 in
set_option maxHeartbeats 8000000 in
theorem shunterref05_First_g (N : Nat) (s : List UInt8) (r) (hM : shunterref05_First_m N s = some r) : Gives Try.prog 56 #[vS s] (vT #[vI r.1, vI r.2]) := by
 unfold shunterref05_First_m at hM
 refine gives_of_A follows Try.func56 rfl 139 rfl (upd (fun _ => undef) 0 (vS s)) (by funext k; match k with | 0 => rfl | k + 1 => rfl) (fun base0_ => ?_)
 refine A_sr <| r_R [vI 0, vI 0] rfl <| lx_nil <| A_seq fun K2 hK2 => A_sr <| r_V (vS s) rfl <| r_W (vI ((s).length : Int)) rfl (ev_lenS rfl rfl rfl) <| r_V (vB (((((s).length : Int) : Int) == 0))) rfl <| lx_nil <| A_cond (((((s).length : Int) : Int) == 0)) rfl (fun hc4 => ?_) (fun hc4 => ?_)
 ·replace hM := ifp (eq_of_beq hc4) hM
  refine A_sr <| r_R [vI 65533, vI 0] rfl <| lx_nil ?_
  obtain rfl := Option.some.inj hM
  refine A_ret (fun hn => ends_eq (v0 := vT #[vI 65533, vI 0]) rfl (res2 rfl rfl))
 replace hM := ifn (ne_of_beq_false hc4) hM
 refine A_skip <| hK2 _ _ ?_; try clear hK2 K2
 refine A_sr <| r_V (vS s) rfl ?_
 obtain ⟨ck7, hM⟩ := ck_some hM
 refine r_W (Value.int .u8 (byteAt s 0)) rfl (ev_v (ev_indexS rfl ck7)) <| r_w (vI (((byteN s 0).toNat : Nat) : Int)) rfl rfl (u8_i64 (byteN s 0)) (fun _ => rfl) <| r_V (vI (((byteN s 0).toNat : Nat) : Int)) rfl <| lx_nil <| A_seq fun K8 hK8 => A_sr <| r_R [vI (((byteN s 0).toNat : Nat) : Int), vB (decide (((((byteN s 0).toNat : Nat) : Int) : Int) < 128))] rfl <| lx_nil <| A_cond (decide (((((byteN s 0).toNat : Nat) : Int) : Int) < 128)) rfl (fun hc10 => ?_) (fun hc10 => ?_)
 ·replace hM := ifp (of_decide_eq_true hc10) hM
  refine A_sr <| r_R [vI (((byteN s 0).toNat : Nat) : Int), vI (((byteN s 0).toNat : Nat) : Int), vI 1] rfl <| lx_nil ?_
  obtain rfl := Option.some.inj hM
  refine A_ret (fun hn => ends_eq (v0 := vT #[vI (((byteN s 0).toNat : Nat) : Int), vI 1]) rfl (res2 rfl rfl))
 replace hM := ifn (of_decide_eq_false hc10) hM
 refine A_skip <| hK8 _ _ ?_; try clear hK8 K8
 refine A_seq fun K12 hK12 => A_cut (fun tt ll => ∃ (x1_ : Bool), (shunterref05_First_k2 N s x1_ = some r) ∧ Is [(0, vS s), (4, vI (((byteN s 0).toNat : Nat) : Int)), (31, vB x1_)] [] tt ll) ?_ ?_
 ·refine A_reg <| r_R [vI (((byteN s 0).toNat : Nat) : Int), vB (decide (((((byteN s 0).toNat : Nat) : Int) : Int) ≥ 194)), vB (decide (((((byteN s 0).toNat : Nat) : Int) : Int) ≥ 194))] rfl ?_
  rcases hg84 : (decide (((((byteN s 0).toNat : Nat) : Int) : Int) ≥ 194)) with _ | _
  ·replace hM := ifn (of_decide_eq_false hg84) hM
   refine r_R [none, none, vB false, vB false, none, none, none, vB false, vB false, none, none, none, vB false] rfl <| lx_nil <| fg _ (Sub.of List.Sublist.slnil) ?_
   exact ⟨false, hM, is_mk (by first | rfl | (simp only [hg84]; done) | (simp only [hg84]; rfl) | (simp only [app_hl]; rfl)) rfl⟩
  replace hM := ifp (of_decide_eq_true hg84) hM
  refine r_R [vI (((byteN s 0).toNat : Nat) : Int), vB (decide (((((byteN s 0).toNat : Nat) : Int) : Int) < 224)), vB (decide (((((byteN s 0).toNat : Nat) : Int) : Int) < 224)), vB (decide (((((byteN s 0).toNat : Nat) : Int) : Int) < 224))] rfl ?_
  rcases hg85 : (decide (((((byteN s 0).toNat : Nat) : Int) : Int) < 224)) with _ | _
  ·replace hM := ifn (of_decide_eq_false hg85) hM
   refine r_R [none, none, none, vB false, vB false, none, none, none, vB false] rfl <| lx_nil <| fg _ (Sub.of List.Sublist.slnil) ?_
   exact ⟨false, hM, is_mk (by first | rfl | (simp only [hg84, hg85]; done) | (simp only [hg84, hg85]; rfl) | (simp only [app_hl]; rfl)) rfl⟩
  replace hM := ifp (of_decide_eq_true hg85) hM
  refine r_R [vS s] rfl <| r_y rfl <| r_W (vI ((s).length : Int)) rfl (ev_lenS rfl rfl rfl) <| r_R [vB (decide ((((s).length : Int) : Int) ≥ 2)), vB (decide ((((s).length : Int) : Int) ≥ 2)), vB (decide ((((s).length : Int) : Int) ≥ 2))] rfl ?_
  rcases hg86 : (decide ((((s).length : Int) : Int) ≥ 2)) with _ | _
  ·replace hM := ifn (of_decide_eq_false hg86) hM
   refine r_R [none, none, none, vB false] rfl <| lx_nil <| fg _ (Sub.of List.Sublist.slnil) ?_
   exact ⟨false, hM, is_mk (by first | rfl | (simp only [hg84, hg85, hg86]; done) | (simp only [hg84, hg85, hg86]; rfl) | (simp only [app_hl]; rfl)) rfl⟩
  replace hM := ifp (of_decide_eq_true hg86) hM
  refine r_R [vS s] rfl <| r_y rfl ?_
  obtain ⟨ck87, hM⟩ := ck_some hM
  refine r_W (Value.int .u8 (byteAt s 1)) rfl (ev_v (ev_indexS rfl ck87)) <| r_y rfl ?_
  obtain ⟨r88, hr89, hM⟩ := bind_sm hM
  refine r_c (vB r88) rfl _ _ (ev_callF rfl call_64 rfl) (shunterref05_more_g N (byteN s 1) _ hr89) <| r_V (vB r88) rfl <| lx_nil <| fg _ (Sub.of List.Sublist.slnil) ?_
  exact ⟨r88, hM, is_mk (by first | rfl | (simp only [hg84, hg85, hg86]; done) | (simp only [hg84, hg85, hg86]; rfl) | (simp only [app_hl]; rfl)) rfl⟩
 clear hM; rintro t l ⟨x1_, hM, ⟨T, rfl⟩, rfl⟩
 unfold shunterref05_First_k2 at hM
 refine A_cond x1_ rfl (fun hc13 => ?_) (fun hc13 => ?_)
 ·replace hM := ifp hc13 hM
  refine A_sr <| r_V (vI (((byteN s 0).toNat : Nat) : Int)) rfl ?_
  obtain ⟨ck15, hM⟩ := ck_some hM
  refine r_X (vI (((((byteN s 0).toNat : Nat) : Int) - 192))) rfl (wi64 rfl ck15.1 ck15.2) rfl ?_
  obtain ⟨ck16, hM⟩ := ck_some hM
  refine r_X (vI ((64 * ((((byteN s 0).toNat : Nat) : Int) - 192)))) rfl (wi64 rfl ck16.1 ck16.2) rfl <| r_V (vS s) rfl ?_
  obtain ⟨ck17, hM⟩ := ck_some hM
  refine r_W (Value.int .u8 (byteAt s 1)) rfl (ev_v (ev_indexS rfl ck17)) <| r_w (vI (((byteN s 1).toNat : Nat) : Int)) rfl rfl (u8_i64 (byteN s 1)) (fun _ => rfl) ?_
  obtain ⟨ck18, hM⟩ := ck_some hM
  refine r_X (vI (((64 * ((((byteN s 0).toNat : Nat) : Int) - 192)) + (((byteN s 1).toNat : Nat) : Int)))) rfl (wi64 rfl ck18.1 ck18.2) rfl ?_
  obtain ⟨ck19, hM⟩ := ck_some hM
  refine r_X (vI ((((64 * ((((byteN s 0).toNat : Nat) : Int) - 192)) + (((byteN s 1).toNat : Nat) : Int)) - 128))) rfl (wi64 rfl ck19.1 ck19.2) rfl <| r_R [vI ((((64 * ((((byteN s 0).toNat : Nat) : Int) - 192)) + (((byteN s 1).toNat : Nat) : Int)) - 128)), vI 2] rfl <| lx_nil ?_
  obtain rfl := Option.some.inj hM
  refine A_ret (fun hn => ends_eq (v0 := vT #[vI ((((64 * ((((byteN s 0).toNat : Nat) : Int) - 192)) + (((byteN s 1).toNat : Nat) : Int)) - 128)), vI 2]) rfl (res2 rfl rfl))
 replace hM := ifn (Bool.eq_false_iff.1 hc13) hM
 refine A_skip <| hK12 _ _ ?_; try clear hK12 K12
 refine A_cut (fun tt ll => (shunterref05_First_k3 N s  = some r) ∧ Is [(0, vS s), (4, vI (((byteN s 0).toNat : Nat) : Int))] [] tt ll) ?_ ?_
 ·refine A_cut (fun tt ll => ∃ (x6_ : Bool), (shunterref05_First_k7 N s x6_ = some r) ∧ Is [(0, vS s), (4, vI (((byteN s 0).toNat : Nat) : Int)), (60, vB x6_)] [] tt ll) ?_ ?_
  ·refine A_reg <| r_R [vI (((byteN s 0).toNat : Nat) : Int), vB (decide (((((byteN s 0).toNat : Nat) : Int) : Int) ≥ 224)), vB (decide (((((byteN s 0).toNat : Nat) : Int) : Int) ≥ 224))] rfl ?_
   rcases hg74 : (decide (((((byteN s 0).toNat : Nat) : Int) : Int) ≥ 224)) with _ | _
   ·replace hM := ifn (of_decide_eq_false hg74) hM
    refine r_R [none, none, vB false, vB false, none, none, none, vB false, vB false, none, none, none, vB false, vB false, none, none, none, vB false] rfl <| lx_nil <| fg _ (Sub.of List.Sublist.slnil) ?_
    exact ⟨false, hM, is_mk (by first | rfl | (simp only [hg74]; done) | (simp only [hg74]; rfl) | (simp only [app_hl]; rfl)) rfl⟩
   replace hM := ifp (of_decide_eq_true hg74) hM
   refine r_R [vI (((byteN s 0).toNat : Nat) : Int), vB (decide (((((byteN s 0).toNat : Nat) : Int) : Int) < 240)), vB (decide (((((byteN s 0).toNat : Nat) : Int) : Int) < 240)), vB (decide (((((byteN s 0).toNat : Nat) : Int) : Int) < 240))] rfl ?_
   rcases hg75 : (decide (((((byteN s 0).toNat : Nat) : Int) : Int) < 240)) with _ | _
   ·replace hM := ifn (of_decide_eq_false hg75) hM
    refine r_R [none, none, none, vB false, vB false, none, none, none, vB false, vB false, none, none, none, vB false] rfl <| lx_nil <| fg _ (Sub.of List.Sublist.slnil) ?_
    exact ⟨false, hM, is_mk (by first | rfl | (simp only [hg74, hg75]; done) | (simp only [hg74, hg75]; rfl) | (simp only [app_hl]; rfl)) rfl⟩
   replace hM := ifp (of_decide_eq_true hg75) hM
   refine r_R [vS s] rfl <| r_y rfl <| r_W (vI ((s).length : Int)) rfl (ev_lenS rfl rfl rfl) <| r_R [vB (decide ((((s).length : Int) : Int) ≥ 3)), vB (decide ((((s).length : Int) : Int) ≥ 3)), vB (decide ((((s).length : Int) : Int) ≥ 3))] rfl ?_
   rcases hg76 : (decide ((((s).length : Int) : Int) ≥ 3)) with _ | _
   ·replace hM := ifn (of_decide_eq_false hg76) hM
    refine r_R [none, none, none, vB false, vB false, none, none, none, vB false] rfl <| lx_nil <| fg _ (Sub.of List.Sublist.slnil) ?_
    exact ⟨false, hM, is_mk (by first | rfl | (simp only [hg74, hg75, hg76]; done) | (simp only [hg74, hg75, hg76]; rfl) | (simp only [app_hl]; rfl)) rfl⟩
   replace hM := ifp (of_decide_eq_true hg76) hM
   refine r_R [vS s] rfl <| r_y rfl ?_
   obtain ⟨ck77, hM⟩ := ck_some hM
   refine r_W (Value.int .u8 (byteAt s 1)) rfl (ev_v (ev_indexS rfl ck77)) <| r_y rfl ?_
   obtain ⟨r78, hr79, hM⟩ := bind_sm hM
   refine r_c (vB r78) rfl _ _ (ev_callF rfl call_64 rfl) (shunterref05_more_g N (byteN s 1) _ hr79) <| r_R [vB r78, vB r78] rfl ?_
   rcases hg80 : r78 with _ | _
   ·replace hM := ifn (Bool.eq_false_iff.1 hg80) hM
    refine r_R [none, none, none, vB false] rfl <| lx_nil <| fg _ (Sub.of List.Sublist.slnil) ?_
    exact ⟨false, hM, is_mk (by first | rfl | (simp only [hg74, hg75, hg76, hg80]; done) | (simp only [hg74, hg75, hg76, hg80]; rfl) | (simp only [app_hl]; rfl)) rfl⟩
   replace hM := ifp hg80 hM
   refine r_R [vS s] rfl <| r_y rfl ?_
   obtain ⟨ck81, hM⟩ := ck_some hM
   refine r_W (Value.int .u8 (byteAt s 2)) rfl (ev_v (ev_indexS rfl ck81)) <| r_y rfl ?_
   obtain ⟨r82, hr83, hM⟩ := bind_sm hM
   refine r_c (vB r82) rfl _ _ (ev_callF rfl call_64 rfl) (shunterref05_more_g N (byteN s 2) _ hr83) <| r_V (vB r82) rfl <| lx_nil <| fg _ (Sub.of List.Sublist.slnil) ?_
   exact ⟨r82, hM, is_mk (by first | rfl | (simp only [hg74, hg75, hg76, hg80]; done) | (simp only [hg74, hg75, hg76, hg80]; rfl) | (simp only [app_hl]; rfl)) rfl⟩
  clear hM; rintro t l ⟨x6_, hM, ⟨T, rfl⟩, rfl⟩
  unfold shunterref05_First_k7 at hM
  refine A_cond x6_ rfl (fun hc57 => ?_) (fun hc57 => ?_)
  ·replace hM := ifp hc57 hM
   refine A_seq fun K58 hK58 => A_draw [] (by decide +kernel) (fun hn => sep_nil) <| r_V (vI (((byteN s 0).toNat : Nat) : Int)) rfl ?_
   obtain ⟨ck59, hM⟩ := ck_some hM
   refine r_X (vI (((((byteN s 0).toNat : Nat) : Int) - 224))) rfl (wi64 rfl ck59.1 ck59.2) rfl ?_
   obtain ⟨ck60, hM⟩ := ck_some hM
   refine r_X (vI ((4096 * ((((byteN s 0).toNat : Nat) : Int) - 224)))) rfl (wi64 rfl ck60.1 ck60.2) rfl <| r_V (vS s) rfl ?_
   obtain ⟨ck61, hM⟩ := ck_some hM
   refine r_W (Value.int .u8 (byteAt s 1)) rfl (ev_v (ev_indexS rfl ck61)) <| r_w (vI (((byteN s 1).toNat : Nat) : Int)) rfl rfl (u8_i64 (byteN s 1)) (fun _ => rfl) ?_
   obtain ⟨ck62, hM⟩ := ck_some hM
   refine r_X (vI (((((byteN s 1).toNat : Nat) : Int) - 128))) rfl (wi64 rfl ck62.1 ck62.2) rfl ?_
   obtain ⟨ck63, hM⟩ := ck_some hM
   refine r_X (vI ((64 * ((((byteN s 1).toNat : Nat) : Int) - 128)))) rfl (wi64 rfl ck63.1 ck63.2) rfl ?_
   obtain ⟨ck64, hM⟩ := ck_some hM
   refine r_X (vI (((4096 * ((((byteN s 0).toNat : Nat) : Int) - 224)) + (64 * ((((byteN s 1).toNat : Nat) : Int) - 128))))) rfl (wi64 rfl ck64.1 ck64.2) rfl <| r_V (vS s) rfl ?_
   obtain ⟨ck65, hM⟩ := ck_some hM
   refine r_W (Value.int .u8 (byteAt s 2)) rfl (ev_v (ev_indexS rfl ck65)) <| r_w (vI (((byteN s 2).toNat : Nat) : Int)) rfl rfl (u8_i64 (byteN s 2)) (fun _ => rfl) ?_
   obtain ⟨ck66, hM⟩ := ck_some hM
   refine r_X (vI ((((4096 * ((((byteN s 0).toNat : Nat) : Int) - 224)) + (64 * ((((byteN s 1).toNat : Nat) : Int) - 128))) + (((byteN s 2).toNat : Nat) : Int)))) rfl (wi64 rfl ck66.1 ck66.2) rfl ?_
   obtain ⟨ck67, hM⟩ := ck_some hM
   refine r_X (vI (((((4096 * ((((byteN s 0).toNat : Nat) : Int) - 224)) + (64 * ((((byteN s 1).toNat : Nat) : Int) - 128))) + (((byteN s 2).toNat : Nat) : Int)) - 128))) rfl (wi64 rfl ck67.1 ck67.2) rfl <| r_V (vI (((((4096 * ((((byteN s 0).toNat : Nat) : Int) - 224)) + (64 * ((((byteN s 1).toNat : Nat) : Int) - 128))) + (((byteN s 2).toNat : Nat) : Int)) - 128))) rfl <| lx_nil <| hK58 _ _ ?_; try clear hK58 K58
   refine A_seq fun K68 hK68 => A_reg <| r_R [vI (((((4096 * ((((byteN s 0).toNat : Nat) : Int) - 224)) + (64 * ((((byteN s 1).toNat : Nat) : Int) - 128))) + (((byteN s 2).toNat : Nat) : Int)) - 128)), vB (decide ((((((4096 * ((((byteN s 0).toNat : Nat) : Int) - 224)) + (64 * ((((byteN s 1).toNat : Nat) : Int) - 128))) + (((byteN s 2).toNat : Nat) : Int)) - 128) : Int) ≥ 2048)), vB (decide ((((((4096 * ((((byteN s 0).toNat : Nat) : Int) - 224)) + (64 * ((((byteN s 1).toNat : Nat) : Int) - 128))) + (((byteN s 2).toNat : Nat) : Int)) - 128) : Int) ≥ 2048))] rfl ?_
   rcases hg69 : (decide ((((((4096 * ((((byteN s 0).toNat : Nat) : Int) - 224)) + (64 * ((((byteN s 1).toNat : Nat) : Int) - 128))) + (((byteN s 2).toNat : Nat) : Int)) - 128) : Int) ≥ 2048)) with _ | _
   ·replace hM := ifn (of_decide_eq_false hg69) hM
    refine r_R [none, none, none] rfl <| r_nu rfl rfl <| r_nu rfl rfl <| r_R [none, vB false] rfl <| lx_nil <| hK68 _ _ ?_; try clear hK68 K68
    refine A_cond false rfl (fun h_ => nomatch h_) (fun _ => ?_)
    refine A_skip <| fg _ (Sub.of List.Sublist.slnil) ?_
    exact ⟨hM, is_mk rfl rfl⟩
   replace hM := ifp (of_decide_eq_true hg69) hM
   refine r_R [vI (((((4096 * ((((byteN s 0).toNat : Nat) : Int) - 224)) + (64 * ((((byteN s 1).toNat : Nat) : Int) - 128))) + (((byteN s 2).toNat : Nat) : Int)) - 128)), vB (decide ((((((4096 * ((((byteN s 0).toNat : Nat) : Int) - 224)) + (64 * ((((byteN s 1).toNat : Nat) : Int) - 128))) + (((byteN s 2).toNat : Nat) : Int)) - 128) : Int) < 55296)), vB (decide ((((((4096 * ((((byteN s 0).toNat : Nat) : Int) - 224)) + (64 * ((((byteN s 1).toNat : Nat) : Int) - 128))) + (((byteN s 2).toNat : Nat) : Int)) - 128) : Int) < 55296))] rfl ?_
   rcases hg70 : (decide ((((((4096 * ((((byteN s 0).toNat : Nat) : Int) - 224)) + (64 * ((((byteN s 1).toNat : Nat) : Int) - 128))) + (((byteN s 2).toNat : Nat) : Int)) - 128) : Int) < 55296)) with _ | _
   ·replace hM := ifn (of_decide_eq_false hg70) hM
    refine r_R [vI (((((4096 * ((((byteN s 0).toNat : Nat) : Int) - 224)) + (64 * ((((byteN s 1).toNat : Nat) : Int) - 128))) + (((byteN s 2).toNat : Nat) : Int)) - 128)), vB (decide ((((((4096 * ((((byteN s 0).toNat : Nat) : Int) - 224)) + (64 * ((((byteN s 1).toNat : Nat) : Int) - 128))) + (((byteN s 2).toNat : Nat) : Int)) - 128) : Int) > 57343)), vB (decide ((((((4096 * ((((byteN s 0).toNat : Nat) : Int) - 224)) + (64 * ((((byteN s 1).toNat : Nat) : Int) - 128))) + (((byteN s 2).toNat : Nat) : Int)) - 128) : Int) > 57343)), vB (decide ((((((4096 * ((((byteN s 0).toNat : Nat) : Int) - 224)) + (64 * ((((byteN s 1).toNat : Nat) : Int) - 128))) + (((byteN s 2).toNat : Nat) : Int)) - 128) : Int) > 57343))] rfl ?_
    refine lx_nil <| hK68 _ _ ?_; try clear hK68 K68
    refine A_cond (decide ((((((4096 * ((((byteN s 0).toNat : Nat) : Int) - 224)) + (64 * ((((byteN s 1).toNat : Nat) : Int) - 128))) + (((byteN s 2).toNat : Nat) : Int)) - 128) : Int) > 57343)) rfl (fun hc71 => ?_) (fun hc71 => ?_)
    ·replace hM := ifp (of_decide_eq_true hc71) hM
     refine A_sr <| r_R [vI (((((4096 * ((((byteN s 0).toNat : Nat) : Int) - 224)) + (64 * ((((byteN s 1).toNat : Nat) : Int) - 128))) + (((byteN s 2).toNat : Nat) : Int)) - 128)), vI (((((4096 * ((((byteN s 0).toNat : Nat) : Int) - 224)) + (64 * ((((byteN s 1).toNat : Nat) : Int) - 128))) + (((byteN s 2).toNat : Nat) : Int)) - 128)), vI 3] rfl <| lx_nil <| A_gen [(2, vI (((((4096 * ((((byteN s 0).toNat : Nat) : Int) - 224)) + (64 * ((((byteN s 1).toNat : Nat) : Int) - 128))) + (((byteN s 2).toNat : Nat) : Int)) - 128))), (3, vI 3)] rfl (fun T => ?_)
     obtain rfl := Option.some.inj hM
     refine A_ret (fun hn => ends_eq (v0 := vT #[vI (((((4096 * ((((byteN s 0).toNat : Nat) : Int) - 224)) + (64 * ((((byteN s 1).toNat : Nat) : Int) - 128))) + (((byteN s 2).toNat : Nat) : Int)) - 128)), vI 3]) rfl (res2 rfl rfl))
    replace hM := ifn (of_decide_eq_false hc71) hM
    refine A_skip <| fg _ (Sub.of List.Sublist.slnil) ?_
    exact ⟨hM, is_mk rfl rfl⟩
   replace hM := ifp (of_decide_eq_true hg70) hM
   refine r_R [none, none, vB true, vB true] rfl <| lx_nil <| hK68 _ _ ?_; try clear hK68 K68
   refine A_cond true rfl (fun _ => ?_) (fun h_ => nomatch h_)
   refine A_sr <| r_R [vI (((((4096 * ((((byteN s 0).toNat : Nat) : Int) - 224)) + (64 * ((((byteN s 1).toNat : Nat) : Int) - 128))) + (((byteN s 2).toNat : Nat) : Int)) - 128)), vI (((((4096 * ((((byteN s 0).toNat : Nat) : Int) - 224)) + (64 * ((((byteN s 1).toNat : Nat) : Int) - 128))) + (((byteN s 2).toNat : Nat) : Int)) - 128)), vI 3] rfl <| lx_nil <| A_gen [(2, vI (((((4096 * ((((byteN s 0).toNat : Nat) : Int) - 224)) + (64 * ((((byteN s 1).toNat : Nat) : Int) - 128))) + (((byteN s 2).toNat : Nat) : Int)) - 128))), (3, vI 3)] rfl (fun T => ?_)
   obtain rfl := Option.some.inj hM
   refine A_ret (fun hn => ends_eq (v0 := vT #[vI (((((4096 * ((((byteN s 0).toNat : Nat) : Int) - 224)) + (64 * ((((byteN s 1).toNat : Nat) : Int) - 128))) + (((byteN s 2).toNat : Nat) : Int)) - 128)), vI 3]) rfl (res2 rfl rfl))
  replace hM := ifn (Bool.eq_false_iff.1 hc57) hM
  refine A_skip <| fg _ (Sub.of List.Sublist.slnil) ?_
  exact ⟨hM, is_mk rfl rfl⟩
 clear hM; rintro t l ⟨hM, ⟨T, rfl⟩, rfl⟩
 unfold shunterref05_First_k3 at hM
 refine A_seq fun K20 hK20 => A_cut (fun tt ll => ∃ (x4_ : Bool), (shunterref05_First_k5 s x4_ = some r) ∧ Is [(0, vS s), (4, vI (((byteN s 0).toNat : Nat) : Int)), (111, vB x4_)] [] tt ll) ?_ ?_
 ·refine A_reg <| r_R [vI (((byteN s 0).toNat : Nat) : Int), vB (decide (((((byteN s 0).toNat : Nat) : Int) : Int) ≥ 240)), vB (decide (((((byteN s 0).toNat : Nat) : Int) : Int) ≥ 240))] rfl ?_
  rcases hg43 : (decide (((((byteN s 0).toNat : Nat) : Int) : Int) ≥ 240)) with _ | _
  ·replace hM := ifn (of_decide_eq_false hg43) hM
   refine r_R [none, none, vB false, vB false, none, none, none, vB false, vB false, none, none, none, vB false, vB false, none, none, none, vB false, vB false, none, none, none, vB false] rfl <| lx_nil <| fg _ (Sub.of List.Sublist.slnil) ?_
   exact ⟨false, hM, is_mk (by first | rfl | (simp only [hg43]; done) | (simp only [hg43]; rfl) | (simp only [app_hl]; rfl)) rfl⟩
  replace hM := ifp (of_decide_eq_true hg43) hM
  refine r_R [vI (((byteN s 0).toNat : Nat) : Int), vB (decide (((((byteN s 0).toNat : Nat) : Int) : Int) < 245)), vB (decide (((((byteN s 0).toNat : Nat) : Int) : Int) < 245)), vB (decide (((((byteN s 0).toNat : Nat) : Int) : Int) < 245))] rfl ?_
  rcases hg44 : (decide (((((byteN s 0).toNat : Nat) : Int) : Int) < 245)) with _ | _
  ·replace hM := ifn (of_decide_eq_false hg44) hM
   refine r_R [none, none, none, vB false, vB false, none, none, none, vB false, vB false, none, none, none, vB false, vB false, none, none, none, vB false] rfl <| lx_nil <| fg _ (Sub.of List.Sublist.slnil) ?_
   exact ⟨false, hM, is_mk (by first | rfl | (simp only [hg43, hg44]; done) | (simp only [hg43, hg44]; rfl) | (simp only [app_hl]; rfl)) rfl⟩
  replace hM := ifp (of_decide_eq_true hg44) hM
  refine r_R [vS s] rfl <| r_y rfl <| r_W (vI ((s).length : Int)) rfl (ev_lenS rfl rfl rfl) <| r_R [vB (decide ((((s).length : Int) : Int) ≥ 4)), vB (decide ((((s).length : Int) : Int) ≥ 4)), vB (decide ((((s).length : Int) : Int) ≥ 4))] rfl ?_
  rcases hg45 : (decide ((((s).length : Int) : Int) ≥ 4)) with _ | _
  ·replace hM := ifn (of_decide_eq_false hg45) hM
   refine r_R [none, none, none, vB false, vB false, none, none, none, vB false, vB false, none, none, none, vB false] rfl <| lx_nil <| fg _ (Sub.of List.Sublist.slnil) ?_
   exact ⟨false, hM, is_mk (by first | rfl | (simp only [hg43, hg44, hg45]; done) | (simp only [hg43, hg44, hg45]; rfl) | (simp only [app_hl]; rfl)) rfl⟩
  replace hM := ifp (of_decide_eq_true hg45) hM
  refine r_R [vS s] rfl <| r_y rfl ?_
  obtain ⟨ck46, hM⟩ := ck_some hM
  refine r_W (Value.int .u8 (byteAt s 1)) rfl (ev_v (ev_indexS rfl ck46)) <| r_y rfl ?_
  obtain ⟨r47, hr48, hM⟩ := bind_sm hM
  refine r_c (vB r47) rfl _ _ (ev_callF rfl call_64 rfl) (shunterref05_more_g N (byteN s 1) _ hr48) <| r_R [vB r47, vB r47] rfl ?_
  rcases hg49 : r47 with _ | _
  ·replace hM := ifn (Bool.eq_false_iff.1 hg49) hM
   refine r_R [none, none, none, vB false, vB false, none, none, none, vB false] rfl <| lx_nil <| fg _ (Sub.of List.Sublist.slnil) ?_
   exact ⟨false, hM, is_mk (by first | rfl | (simp only [hg43, hg44, hg45, hg49]; done) | (simp only [hg43, hg44, hg45, hg49]; rfl) | (simp only [app_hl]; rfl)) rfl⟩
  replace hM := ifp hg49 hM
  refine r_R [vS s] rfl <| r_y rfl ?_
  obtain ⟨ck50, hM⟩ := ck_some hM
  refine r_W (Value.int .u8 (byteAt s 2)) rfl (ev_v (ev_indexS rfl ck50)) <| r_y rfl ?_
  obtain ⟨r51, hr52, hM⟩ := bind_sm hM
  refine r_c (vB r51) rfl _ _ (ev_callF rfl call_64 rfl) (shunterref05_more_g N (byteN s 2) _ hr52) <| r_R [vB r51, vB r51] rfl ?_
  rcases hg53 : r51 with _ | _
  ·replace hM := ifn (Bool.eq_false_iff.1 hg53) hM
   refine r_R [none, none, none, vB false] rfl <| lx_nil <| fg _ (Sub.of List.Sublist.slnil) ?_
   exact ⟨false, hM, is_mk (by first | rfl | (simp only [hg43, hg44, hg45, hg49, hg53]; done) | (simp only [hg43, hg44, hg45, hg49, hg53]; rfl) | (simp only [app_hl]; rfl)) rfl⟩
  replace hM := ifp hg53 hM
  refine r_R [vS s] rfl <| r_y rfl ?_
  obtain ⟨ck54, hM⟩ := ck_some hM
  refine r_W (Value.int .u8 (byteAt s 3)) rfl (ev_v (ev_indexS rfl ck54)) <| r_y rfl ?_
  obtain ⟨r55, hr56, hM⟩ := bind_sm hM
  refine r_c (vB r55) rfl _ _ (ev_callF rfl call_64 rfl) (shunterref05_more_g N (byteN s 3) _ hr56) <| r_V (vB r55) rfl <| lx_nil <| fg _ (Sub.of List.Sublist.slnil) ?_
  exact ⟨r55, hM, is_mk (by first | rfl | (simp only [hg43, hg44, hg45, hg49, hg53]; done) | (simp only [hg43, hg44, hg45, hg49, hg53]; rfl) | (simp only [app_hl]; rfl)) rfl⟩
 clear hM; rintro t l ⟨x4_, hM, ⟨T, rfl⟩, rfl⟩
 unfold shunterref05_First_k5 at hM
 refine A_cond x4_ rfl (fun hc21 => ?_) (fun hc21 => ?_)
 ·replace hM := ifp hc21 hM
  refine A_seq fun K22 hK22 => A_draw [] (by decide +kernel) (fun hn => sep_nil) <| r_V (vI (((byteN s 0).toNat : Nat) : Int)) rfl ?_
  obtain ⟨ck23, hM⟩ := ck_some hM
  refine r_X (vI (((((byteN s 0).toNat : Nat) : Int) - 240))) rfl (wi64 rfl ck23.1 ck23.2) rfl ?_
  obtain ⟨ck24, hM⟩ := ck_some hM
  refine r_X (vI ((262144 * ((((byteN s 0).toNat : Nat) : Int) - 240)))) rfl (wi64 rfl ck24.1 ck24.2) rfl <| r_V (vS s) rfl ?_
  obtain ⟨ck25, hM⟩ := ck_some hM
  refine r_W (Value.int .u8 (byteAt s 1)) rfl (ev_v (ev_indexS rfl ck25)) <| r_w (vI (((byteN s 1).toNat : Nat) : Int)) rfl rfl (u8_i64 (byteN s 1)) (fun _ => rfl) ?_
  obtain ⟨ck26, hM⟩ := ck_some hM
  refine r_X (vI (((((byteN s 1).toNat : Nat) : Int) - 128))) rfl (wi64 rfl ck26.1 ck26.2) rfl ?_
  obtain ⟨ck27, hM⟩ := ck_some hM
  refine r_X (vI ((4096 * ((((byteN s 1).toNat : Nat) : Int) - 128)))) rfl (wi64 rfl ck27.1 ck27.2) rfl ?_
  obtain ⟨ck28, hM⟩ := ck_some hM
  refine r_X (vI (((262144 * ((((byteN s 0).toNat : Nat) : Int) - 240)) + (4096 * ((((byteN s 1).toNat : Nat) : Int) - 128))))) rfl (wi64 rfl ck28.1 ck28.2) rfl <| r_V (vS s) rfl ?_
  obtain ⟨ck29, hM⟩ := ck_some hM
  refine r_W (Value.int .u8 (byteAt s 2)) rfl (ev_v (ev_indexS rfl ck29)) <| r_w (vI (((byteN s 2).toNat : Nat) : Int)) rfl rfl (u8_i64 (byteN s 2)) (fun _ => rfl) ?_
  obtain ⟨ck30, hM⟩ := ck_some hM
  refine r_X (vI (((((byteN s 2).toNat : Nat) : Int) - 128))) rfl (wi64 rfl ck30.1 ck30.2) rfl ?_
  obtain ⟨ck31, hM⟩ := ck_some hM
  refine r_X (vI ((64 * ((((byteN s 2).toNat : Nat) : Int) - 128)))) rfl (wi64 rfl ck31.1 ck31.2) rfl ?_
  obtain ⟨ck32, hM⟩ := ck_some hM
  refine r_X (vI ((((262144 * ((((byteN s 0).toNat : Nat) : Int) - 240)) + (4096 * ((((byteN s 1).toNat : Nat) : Int) - 128))) + (64 * ((((byteN s 2).toNat : Nat) : Int) - 128))))) rfl (wi64 rfl ck32.1 ck32.2) rfl <| r_V (vS s) rfl ?_
  obtain ⟨ck33, hM⟩ := ck_some hM
  refine r_W (Value.int .u8 (byteAt s 3)) rfl (ev_v (ev_indexS rfl ck33)) <| r_w (vI (((byteN s 3).toNat : Nat) : Int)) rfl rfl (u8_i64 (byteN s 3)) (fun _ => rfl) ?_
  obtain ⟨ck34, hM⟩ := ck_some hM
  refine r_X (vI (((((262144 * ((((byteN s 0).toNat : Nat) : Int) - 240)) + (4096 * ((((byteN s 1).toNat : Nat) : Int) - 128))) + (64 * ((((byteN s 2).toNat : Nat) : Int) - 128))) + (((byteN s 3).toNat : Nat) : Int)))) rfl (wi64 rfl ck34.1 ck34.2) rfl ?_
  obtain ⟨ck35, hM⟩ := ck_some hM
  refine r_X (vI ((((((262144 * ((((byteN s 0).toNat : Nat) : Int) - 240)) + (4096 * ((((byteN s 1).toNat : Nat) : Int) - 128))) + (64 * ((((byteN s 2).toNat : Nat) : Int) - 128))) + (((byteN s 3).toNat : Nat) : Int)) - 128))) rfl (wi64 rfl ck35.1 ck35.2) rfl <| r_V (vI ((((((262144 * ((((byteN s 0).toNat : Nat) : Int) - 240)) + (4096 * ((((byteN s 1).toNat : Nat) : Int) - 128))) + (64 * ((((byteN s 2).toNat : Nat) : Int) - 128))) + (((byteN s 3).toNat : Nat) : Int)) - 128))) rfl <| lx_nil <| hK22 _ _ ?_; try clear hK22 K22
  refine A_seq fun K36 hK36 => A_reg ?_
  refine r_R [vI ((((((262144 * ((((byteN s 0).toNat : Nat) : Int) - 240)) + (4096 * ((((byteN s 1).toNat : Nat) : Int) - 128))) + (64 * ((((byteN s 2).toNat : Nat) : Int) - 128))) + (((byteN s 3).toNat : Nat) : Int)) - 128)), vB (decide (((((((262144 * ((((byteN s 0).toNat : Nat) : Int) - 240)) + (4096 * ((((byteN s 1).toNat : Nat) : Int) - 128))) + (64 * ((((byteN s 2).toNat : Nat) : Int) - 128))) + (((byteN s 3).toNat : Nat) : Int)) - 128) : Int) ≥ 65536)), vB (decide (((((((262144 * ((((byteN s 0).toNat : Nat) : Int) - 240)) + (4096 * ((((byteN s 1).toNat : Nat) : Int) - 128))) + (64 * ((((byteN s 2).toNat : Nat) : Int) - 128))) + (((byteN s 3).toNat : Nat) : Int)) - 128) : Int) ≥ 65536))] rfl ?_
  rcases hg37 : (decide (((((((262144 * ((((byteN s 0).toNat : Nat) : Int) - 240)) + (4096 * ((((byteN s 1).toNat : Nat) : Int) - 128))) + (64 * ((((byteN s 2).toNat : Nat) : Int) - 128))) + (((byteN s 3).toNat : Nat) : Int)) - 128) : Int) ≥ 65536)) with _ | _
  ·replace hM := ifn (of_decide_eq_false hg37) hM
   refine r_R [none, none, vB false] rfl <| lx_nil <| hK36 _ _ ?_; try clear hK36 K36
   refine A_gen [(6, vI ((((((262144 * ((((byteN s 0).toNat : Nat) : Int) - 240)) + (4096 * ((((byteN s 1).toNat : Nat) : Int) - 128))) + (64 * ((((byteN s 2).toNat : Nat) : Int) - 128))) + (((byteN s 3).toNat : Nat) : Int)) - 128))), (137, vB false)] rfl (fun T => ?_)
   refine A_cond false rfl (fun h_ => nomatch h_) (fun _ => ?_)
   refine A_skip <| hK20 _ _ ?_; try clear hK20 K20
   refine A_sr <| r_R [vI 65533, vI 1] rfl <| lx_nil ?_
   obtain rfl := Option.some.inj hM
   refine A_ret (fun hn => ends_eq (v0 := vT #[vI 65533, vI 1]) rfl (res2 rfl rfl))
  replace hM := ifp (of_decide_eq_true hg37) hM
  refine r_R [vI ((((((262144 * ((((byteN s 0).toNat : Nat) : Int) - 240)) + (4096 * ((((byteN s 1).toNat : Nat) : Int) - 128))) + (64 * ((((byteN s 2).toNat : Nat) : Int) - 128))) + (((byteN s 3).toNat : Nat) : Int)) - 128)), vB (decide (((((((262144 * ((((byteN s 0).toNat : Nat) : Int) - 240)) + (4096 * ((((byteN s 1).toNat : Nat) : Int) - 128))) + (64 * ((((byteN s 2).toNat : Nat) : Int) - 128))) + (((byteN s 3).toNat : Nat) : Int)) - 128) : Int) ≤ 1114111)), vB (decide (((((((262144 * ((((byteN s 0).toNat : Nat) : Int) - 240)) + (4096 * ((((byteN s 1).toNat : Nat) : Int) - 128))) + (64 * ((((byteN s 2).toNat : Nat) : Int) - 128))) + (((byteN s 3).toNat : Nat) : Int)) - 128) : Int) ≤ 1114111))] rfl ?_
  refine lx_nil <| hK36 _ _ ?_; try clear hK36 K36
  refine A_gen [(6, vI ((((((262144 * ((((byteN s 0).toNat : Nat) : Int) - 240)) + (4096 * ((((byteN s 1).toNat : Nat) : Int) - 128))) + (64 * ((((byteN s 2).toNat : Nat) : Int) - 128))) + (((byteN s 3).toNat : Nat) : Int)) - 128))), (137, vB (decide (((((((262144 * ((((byteN s 0).toNat : Nat) : Int) - 240)) + (4096 * ((((byteN s 1).toNat : Nat) : Int) - 128))) + (64 * ((((byteN s 2).toNat : Nat) : Int) - 128))) + (((byteN s 3).toNat : Nat) : Int)) - 128) : Int) ≤ 1114111)))] rfl (fun T => ?_)
  refine A_cond (decide (((((((262144 * ((((byteN s 0).toNat : Nat) : Int) - 240)) + (4096 * ((((byteN s 1).toNat : Nat) : Int) - 128))) + (64 * ((((byteN s 2).toNat : Nat) : Int) - 128))) + (((byteN s 3).toNat : Nat) : Int)) - 128) : Int) ≤ 1114111)) rfl (fun hc39 => ?_) (fun hc39 => ?_)
  ·replace hM := ifp (of_decide_eq_true hc39) hM
   refine A_sr <| r_R [vI ((((((262144 * ((((byteN s 0).toNat : Nat) : Int) - 240)) + (4096 * ((((byteN s 1).toNat : Nat) : Int) - 128))) + (64 * ((((byteN s 2).toNat : Nat) : Int) - 128))) + (((byteN s 3).toNat : Nat) : Int)) - 128)), vI ((((((262144 * ((((byteN s 0).toNat : Nat) : Int) - 240)) + (4096 * ((((byteN s 1).toNat : Nat) : Int) - 128))) + (64 * ((((byteN s 2).toNat : Nat) : Int) - 128))) + (((byteN s 3).toNat : Nat) : Int)) - 128)), vI 4] rfl <| lx_nil ?_
   obtain rfl := Option.some.inj hM
   refine A_ret (fun hn => ends_eq (v0 := vT #[vI ((((((262144 * ((((byteN s 0).toNat : Nat) : Int) - 240)) + (4096 * ((((byteN s 1).toNat : Nat) : Int) - 128))) + (64 * ((((byteN s 2).toNat : Nat) : Int) - 128))) + (((byteN s 3).toNat : Nat) : Int)) - 128)), vI 4]) rfl (res2 rfl rfl))
  replace hM := ifn (of_decide_eq_false hc39) hM
  refine A_skip <| hK20 _ _ ?_; try clear hK20 K20
  refine A_sr <| r_R [vI 65533, vI 1] rfl <| lx_nil ?_
  obtain rfl := Option.some.inj hM
  refine A_ret (fun hn => ends_eq (v0 := vT #[vI 65533, vI 1]) rfl (res2 rfl rfl))
 replace hM := ifn (Bool.eq_false_iff.1 hc21) hM
 refine A_skip <| hK20 _ _ ?_; try clear hK20 K20
 refine A_sr <| r_R [vI 65533, vI 1] rfl <| lx_nil ?_
 obtain rfl := Option.some.inj hM
 refine A_ret (fun hn => ends_eq (v0 := vT #[vI 65533, vI 1]) rfl (res2 rfl rfl))
def shunterref05_Runes_l3 (N : Nat) : Nat → List UInt8 → List Int → Option (List Int)
  | 0, _, _ => none
  | n4 + 1, s1_, l2_ => if (((s1_).length : Int) : Int) > 0 then (shunterref05_First_m N s1_).bind fun r9 => ck ((l2_).length + ([r9.1]).length ≤ 17592186044416) (ck (0 ≤ r9.2 ∧ r9.2 ≤ ((s1_).length : Int)) ((shunterref05_Runes_l3 N n4) ((s1_).drop (r9.2).toNat) (l2_ ++ ([r9.1])))) else some l2_
def shunterref05_Runes_m (N : Nat) (s : List UInt8) : Option (List Int) := shunterref05_Runes_l3 N N s ([])
set_option maxRecDepth 100000 in
set_option maxHeartbeats 8000000 in
theorem shunterref05_Runes_g (N : Nat) (s : List UInt8) (r) (hM : shunterref05_Runes_m N s = some r) (ro : Addr → Option Value) : Does Try.prog 46 #[vS s] ro [] (p1 (fun s_ => s_) 3 encI r) := by
 unfold shunterref05_Runes_m at hM
 refine does_of_A follows Try.func46 rfl 22 rfl (upd (fun _ => undef) 0 (vS s)) (by funext k; match k with | 0 => rfl | k + 1 => rfl) (fun base0_ => ?_)
 refine A_sr <| r_V nS rfl <| lx_nil <| A_sr <| r_V nS rfl <| lx_nil <| A_seq fun K3 hK3 => A_block <| A_forget _ (Sub.pickE (Ls := [[]]) (Ls0 := []) rfl [0] rfl) <| A_loop (fun tt ll nn => ∃ (n4 : Nat) (s1_ : List UInt8) (l2_ : List Int), (shunterref05_Runes_l3 N n4 s1_ l2_ = some r) ∧ ∃ (vl2_ : Value) (Sl2_ : List Bl), Sl 3 encI vl2_ l2_ Sl2_ ∧ Is [(0, vS s1_), (3, vl2_)] (List.flatten [Sl2_]) tt ll ∧ nn = n4 + 1) (N + 1) ?_ ?_
 ·exact ⟨N, s, [], hM, nS, [], Sl.nil, is_mk rfl rfl, rfl⟩
 clear hM; rintro t l _ ⟨n4, s1_, l2_, hM, vl2_, Sl2_, hl2_, ⟨⟨T, rfl⟩, rfl⟩, rfl⟩
 rcases n4 with _ | n4
 ·exact absurd hM (by simp [shunterref05_Runes_l3])
 rw [shunterref05_Runes_l3] at hM
 refine A_seq fun K5 hK5 => A_sr <| r_V (vS s1_) rfl <| r_W (vI ((s1_).length : Int)) rfl (ev_lenS rfl rfl rfl) <| r_V (vB (decide ((((s1_).length : Int) : Int) > 0))) rfl <| lx_nil <| A_cond (decide ((((s1_).length : Int) : Int) > 0)) rfl (fun hc7 => ?_) (fun hc7 => ?_)
 ·replace hM := ifp (of_decide_eq_true hc7) hM
  refine A_skip <| hK5 _ _ ?_; try clear hK5 K5
  refine A_block <| A_sr <| r_V (vS s1_) rfl ?_
  obtain ⟨r9, hr10, hM⟩ := bind_sm hM
  refine r_c (vT #[vI r9.1, vI r9.2]) rfl _ _ (ev_callF rfl call_56 rfl) (shunterref05_First_g N s1_ _ hr10) <| r_R [vT #[vI r9.1, vI r9.2], vI r9.1, vI r9.2, vI r9.1, vI r9.2] rfl <| lx_nil <| A_sc [(some 16, false), (some 17, true)] (conG Try.prog []) <| r_R [vl2_, vI r9.1] rfl <| r_bs (cs0 := []) (Ls := [Sl2_]) 3 encI [r9.1] [vI r9.1] [vI 0] rfl rfl rfl rfl rfl rfl rfl (by kernel_rfl) (by kernel_rfl) rfl rfl rfl (fun s12 S13 H14 => ?_)
  obtain ⟨ck15, hM⟩ := ck_some hM
  refine r_app (cs0 := []) (Ls := [Sl2_, S13]) 0 (En := encI) rfl rfl rfl rfl rfl hl2_ rfl (rd_own H14 (mem_chunk (Ls := [Sl2_, S13]) (k := 1) rfl rfl)) rfl rfl rfl rfl rfl (app_b ck15 rfl) (app_m ck15 rfl) rfl (fun s16 S17 H18 => ?_)
  refine r_V s16 rfl <| lx_nil <| A_reg <| r_R [vS s1_, vI r9.2] rfl ?_
  obtain ⟨ck19, hM⟩ := ck_some hM
  refine r_W (vS ((s1_).drop (r9.2).toNat)) rfl (ev_v (ev_sliceS1 rfl ck19)) <| r_V (vS ((s1_).drop (r9.2).toNat)) rfl <| lx_nil <| fg _ (Sub.pick [S17, S13] [0] rfl) ?_
  exact ⟨n4 + 1, by omega, n4, (s1_).drop (r9.2).toNat, (l2_ ++ ([r9.1])), hM, s16, S17, H18, is_mk rfl rfl, rfl⟩
 replace hM := ifn (of_decide_eq_false hc7) hM
 refine A_exit <| hK3 _ _ ?_; try clear hK3 K3
 refine A_sr <| r_R [vl2_, vl2_] rfl <| lx_nil ?_
 obtain rfl := Option.some.inj hM
 refine A_ret (fun hn => ends1 (v0 := vl2_) hl2_ (sub_one (Sub.pick [Sl2_] [0] rfl)) rfl (res1 rfl))
def shunterref05_Letter_k2 (c : Int) : Option Bool := if c ≥ 192 then if c ≤ 591 then some true else if c ≥ 913 then if c ≤ 969 then some true else if c ≥ 1024 then some (decide (c ≤ 1279)) else some false else if c ≥ 1024 then some (decide (c ≤ 1279)) else some false else if c ≥ 913 then if c ≤ 969 then some true else if c ≥ 1024 then some (decide (c ≤ 1279)) else some false else if c ≥ 1024 then some (decide (c ≤ 1279)) else some false
def shunterref05_Letter_k1 (c : Int) : Option Bool := if c = 215 then some false else if c = 247 then some false else if c = 930 then some false else shunterref05_Letter_k2 c 
def shunterref05_Letter_m (_ : Nat) (c : Int) : Option Bool := if c ≥ 65 then if c ≤ 90 then some true else if c ≥ 97 then if c ≤ 122 then some true else if c = 95 then some true else shunterref05_Letter_k1 c  else if c = 95 then some true else shunterref05_Letter_k1 c  else if c ≥ 97 then if c ≤ 122 then some true else if c = 95 then some true else shunterref05_Letter_k1 c  else if c = 95 then some true else shunterref05_Letter_k1 c 
set_option maxRecDepth 100000 in
set_option maxHeartbeats 8000000 in
theorem shunterref05_Letter_g (N : Nat) (c : Int) (r) (hM : shunterref05_Letter_m N c = some r) : Gives Try.prog 54 #[vI c] (vB r) := by
 unfold shunterref05_Letter_m at hM
 refine gives_of_A follows Try.func54 rfl 53 rfl (upd (fun _ => undef) 0 (vI c)) (by funext k; match k with | 0 => rfl | k + 1 => rfl) (fun base0_ => ?_)
 refine A_sr <| r_V (vB false) rfl <| lx_nil <| A_cut (fun tt ll => (shunterref05_Letter_k1 c  = some r) ∧ Is [(0, vI c)] [] tt ll) ?_ ?_
 ·refine A_seq fun K20 hK20 => A_reg <| r_R [vI c, vB (decide (c ≥ 65)), vB (decide (c ≥ 65))] rfl ?_
  rcases hg21 : (decide (c ≥ 65)) with _ | _
  ·replace hM := ifn (of_decide_eq_false hg21) hM
   refine r_R [none, none, vB false, vB false, vI c, vB (decide (c ≥ 97)), vB (decide (c ≥ 97))] rfl ?_
   rcases hg22 : (decide (c ≥ 97)) with _ | _
   ·replace hM := ifn (of_decide_eq_false hg22) hM
    refine r_R [none, none, vB false, vB false, vB false, vI c, vB (c == 95), vB (c == 95)] rfl <| lx_nil <| hK20 _ _ ?_; try clear hK20 K20
    refine A_cond (c == 95) rfl (fun hc23 => ?_) (fun hc23 => ?_)
    ·replace hM := ifp (eq_of_beq hc23) hM
     refine A_sr <| r_V (vB true) rfl <| lx_nil ?_
     obtain rfl := Option.some.inj hM
     refine A_ret (fun hn => ends_eq (v0 := vB true) rfl (res1 rfl))
    replace hM := ifn (ne_of_beq_false hc23) hM
    refine A_skip <| fg _ (Sub.of List.Sublist.slnil) ?_
    exact ⟨hM, is_mk rfl rfl⟩
   replace hM := ifp (of_decide_eq_true hg22) hM
   refine r_R [vI c, vB (decide (c ≤ 122)), vB (decide (c ≤ 122)), vB (decide (c ≤ 122)), vB (decide (c ≤ 122))] rfl ?_
   rcases hg25 : (decide (c ≤ 122)) with _ | _
   ·replace hM := ifn (of_decide_eq_false hg25) hM
    refine r_R [vI c, vB (c == 95), vB (c == 95)] rfl <| lx_nil <| hK20 _ _ ?_; try clear hK20 K20
    refine A_cond (c == 95) rfl (fun hc26 => ?_) (fun hc26 => ?_)
    ·replace hM := ifp (eq_of_beq hc26) hM
     refine A_sr <| r_V (vB true) rfl <| lx_nil ?_
     obtain rfl := Option.some.inj hM
     refine A_ret (fun hn => ends_eq (v0 := vB true) rfl (res1 rfl))
    replace hM := ifn (ne_of_beq_false hc26) hM
    refine A_skip <| fg _ (Sub.of List.Sublist.slnil) ?_
    exact ⟨hM, is_mk rfl rfl⟩
   replace hM := ifp (of_decide_eq_true hg25) hM
   refine r_R [none, none, vB true] rfl <| lx_nil <| hK20 _ _ ?_; try clear hK20 K20
   refine A_cond true rfl (fun _ => ?_) (fun h_ => nomatch h_)
   refine A_sr <| r_V (vB true) rfl <| lx_nil ?_
   obtain rfl := Option.some.inj hM
   refine A_ret (fun hn => ends_eq (v0 := vB true) rfl (res1 rfl))
  replace hM := ifp (of_decide_eq_true hg21) hM
  refine r_R [vI c, vB (decide (c ≤ 90)), vB (decide (c ≤ 90)), vB (decide (c ≤ 90))] rfl ?_
  rcases hg29 : (decide (c ≤ 90)) with _ | _
  ·replace hM := ifn (of_decide_eq_false hg29) hM
   refine r_R [vI c, vB (decide (c ≥ 97)), vB (decide (c ≥ 97))] rfl ?_
   rcases hg30 : (decide (c ≥ 97)) with _ | _
   ·replace hM := ifn (of_decide_eq_false hg30) hM
    refine r_R [none, none, vB false, vB false, vB false, vI c, vB (c == 95), vB (c == 95)] rfl <| lx_nil <| hK20 _ _ ?_; try clear hK20 K20
    refine A_cond (c == 95) rfl (fun hc31 => ?_) (fun hc31 => ?_)
    ·replace hM := ifp (eq_of_beq hc31) hM
     refine A_sr <| r_V (vB true) rfl <| lx_nil ?_
     obtain rfl := Option.some.inj hM
     refine A_ret (fun hn => ends_eq (v0 := vB true) rfl (res1 rfl))
    replace hM := ifn (ne_of_beq_false hc31) hM
    refine A_skip <| fg _ (Sub.of List.Sublist.slnil) ?_
    exact ⟨hM, is_mk rfl rfl⟩
   replace hM := ifp (of_decide_eq_true hg30) hM
   refine r_R [vI c, vB (decide (c ≤ 122)), vB (decide (c ≤ 122)), vB (decide (c ≤ 122)), vB (decide (c ≤ 122))] rfl ?_
   rcases hg33 : (decide (c ≤ 122)) with _ | _
   ·replace hM := ifn (of_decide_eq_false hg33) hM
    refine r_R [vI c, vB (c == 95), vB (c == 95)] rfl <| lx_nil <| hK20 _ _ ?_; try clear hK20 K20
    refine A_cond (c == 95) rfl (fun hc34 => ?_) (fun hc34 => ?_)
    ·replace hM := ifp (eq_of_beq hc34) hM
     refine A_sr <| r_V (vB true) rfl <| lx_nil ?_
     obtain rfl := Option.some.inj hM
     refine A_ret (fun hn => ends_eq (v0 := vB true) rfl (res1 rfl))
    replace hM := ifn (ne_of_beq_false hc34) hM
    refine A_skip <| fg _ (Sub.of List.Sublist.slnil) ?_
    exact ⟨hM, is_mk rfl rfl⟩
   replace hM := ifp (of_decide_eq_true hg33) hM
   refine r_R [none, none, vB true] rfl <| lx_nil <| hK20 _ _ ?_; try clear hK20 K20
   refine A_cond true rfl (fun _ => ?_) (fun h_ => nomatch h_)
   refine A_sr <| r_V (vB true) rfl <| lx_nil ?_
   obtain rfl := Option.some.inj hM
   refine A_ret (fun hn => ends_eq (v0 := vB true) rfl (res1 rfl))
  replace hM := ifp (of_decide_eq_true hg29) hM
  refine r_R [none, none, none] rfl <| r_nu rfl rfl <| r_nu rfl rfl <| r_R [none, vB true, vB true, none, none, vB true] rfl <| lx_nil <| hK20 _ _ ?_; try clear hK20 K20
  refine A_cond true rfl (fun _ => ?_) (fun h_ => nomatch h_)
  refine A_sr <| r_V (vB true) rfl <| lx_nil ?_
  obtain rfl := Option.some.inj hM
  refine A_ret (fun hn => ends_eq (v0 := vB true) rfl (res1 rfl))
 clear hM; rintro t l ⟨hM, ⟨T, rfl⟩, rfl⟩
 unfold shunterref05_Letter_k1 at hM
 refine A_cut (fun tt ll => (shunterref05_Letter_k2 c  = some r) ∧ Is [(0, vI c)] [] tt ll) ?_ ?_
 ·refine A_seq fun K13 hK13 => A_reg <| r_R [vI c, vB (c == 215), vB (c == 215)] rfl ?_
  rcases hg14 : (c == 215) with _ | _
  ·replace hM := ifn (ne_of_beq_false hg14) hM
   refine r_R [vI c, vB (c == 247), vB (c == 247), vB (c == 247)] rfl ?_
   rcases hg15 : (c == 247) with _ | _
   ·replace hM := ifn (ne_of_beq_false hg15) hM
    refine r_R [vI c, vB (c == 930), vB (c == 930)] rfl <| lx_nil <| hK13 _ _ ?_; try clear hK13 K13
    refine A_cond (c == 930) rfl (fun hc16 => ?_) (fun hc16 => ?_)
    ·replace hM := ifp (eq_of_beq hc16) hM
     refine A_sr <| r_V (vB false) rfl <| lx_nil ?_
     obtain rfl := Option.some.inj hM
     refine A_ret (fun hn => ends_eq (v0 := vB false) rfl (res1 rfl))
    replace hM := ifn (ne_of_beq_false hc16) hM
    refine A_skip <| fg _ (Sub.of List.Sublist.slnil) ?_
    exact ⟨hM, is_mk rfl rfl⟩
   replace hM := ifp (eq_of_beq hg15) hM
   refine r_R [none, none, vB true] rfl <| lx_nil <| hK13 _ _ ?_; try clear hK13 K13
   refine A_cond true rfl (fun _ => ?_) (fun h_ => nomatch h_)
   refine A_sr <| r_V (vB false) rfl <| lx_nil ?_
   obtain rfl := Option.some.inj hM
   refine A_ret (fun hn => ends_eq (v0 := vB false) rfl (res1 rfl))
  replace hM := ifp (eq_of_beq hg14) hM
  refine r_R [none, none, vB true, vB true, none, none, vB true] rfl <| lx_nil <| hK13 _ _ ?_; try clear hK13 K13
  refine A_cond true rfl (fun _ => ?_) (fun h_ => nomatch h_)
  refine A_sr <| r_V (vB false) rfl <| lx_nil ?_
  obtain rfl := Option.some.inj hM
  refine A_ret (fun hn => ends_eq (v0 := vB false) rfl (res1 rfl))
 clear hM; rintro t l ⟨hM, ⟨T, rfl⟩, rfl⟩
 unfold shunterref05_Letter_k2 at hM
 refine A_seq fun K2 hK2 => A_reg <| r_R [vI c, vB (decide (c ≥ 192)), vB (decide (c ≥ 192))] rfl ?_
 rcases hg3 : (decide (c ≥ 192)) with _ | _
 ·replace hM := ifn (of_decide_eq_false hg3) hM
  refine r_R [none, none, vB false, vB false, vI c, vB (decide (c ≥ 913)), vB (decide (c ≥ 913))] rfl ?_
  rcases hg4 : (decide (c ≥ 913)) with _ | _
  ·replace hM := ifn (of_decide_eq_false hg4) hM
   refine r_R [none, none, vB false, vB false, vB false, vI c, vB (decide (c ≥ 1024)), vB (decide (c ≥ 1024))] rfl ?_
   rcases hg5 : (decide (c ≥ 1024)) with _ | _
   ·replace hM := ifn (of_decide_eq_false hg5) hM
    refine r_R [none, none, vB false, vB false, vB false] rfl <| lx_nil <| hK2 _ _ ?_; try clear hK2 K2
    obtain rfl := Option.some.inj hM
    refine A_ret (fun hn => ends_eq (v0 := vB false) rfl (res1 rfl))
   replace hM := ifp (of_decide_eq_true hg5) hM
   refine r_R [vI c, vB (decide (c ≤ 1279)), vB (decide (c ≤ 1279)), vB (decide (c ≤ 1279)), vB (decide (c ≤ 1279))] rfl <| lx_nil <| hK2 _ _ ?_; try clear hK2 K2
   obtain rfl := Option.some.inj hM
   refine A_ret (fun hn => ends_eq (v0 := vB (decide (c ≤ 1279))) rfl (res1 rfl))
  replace hM := ifp (of_decide_eq_true hg4) hM
  refine r_R [vI c, vB (decide (c ≤ 969)), vB (decide (c ≤ 969)), vB (decide (c ≤ 969)), vB (decide (c ≤ 969))] rfl ?_
  rcases hg6 : (decide (c ≤ 969)) with _ | _
  ·replace hM := ifn (of_decide_eq_false hg6) hM
   refine r_R [vI c, vB (decide (c ≥ 1024)), vB (decide (c ≥ 1024))] rfl ?_
   rcases hg7 : (decide (c ≥ 1024)) with _ | _
   ·replace hM := ifn (of_decide_eq_false hg7) hM
    refine r_R [none, none, vB false, vB false, vB false] rfl <| lx_nil <| hK2 _ _ ?_; try clear hK2 K2
    obtain rfl := Option.some.inj hM
    refine A_ret (fun hn => ends_eq (v0 := vB false) rfl (res1 rfl))
   replace hM := ifp (of_decide_eq_true hg7) hM
   refine r_R [vI c, vB (decide (c ≤ 1279)), vB (decide (c ≤ 1279)), vB (decide (c ≤ 1279)), vB (decide (c ≤ 1279))] rfl <| lx_nil <| hK2 _ _ ?_; try clear hK2 K2
   obtain rfl := Option.some.inj hM
   refine A_ret (fun hn => ends_eq (v0 := vB (decide (c ≤ 1279))) rfl (res1 rfl))
  replace hM := ifp (of_decide_eq_true hg6) hM
  refine r_R [none, none, none] rfl <| r_nu rfl rfl <| r_nu rfl rfl <| r_R [none, vB true, vB true] rfl <| lx_nil <| hK2 _ _ ?_; try clear hK2 K2
  obtain rfl := Option.some.inj hM
  refine A_ret (fun hn => ends_eq (v0 := vB true) rfl (res1 rfl))
 replace hM := ifp (of_decide_eq_true hg3) hM
 refine r_R [vI c, vB (decide (c ≤ 591)), vB (decide (c ≤ 591)), vB (decide (c ≤ 591))] rfl ?_
 rcases hg8 : (decide (c ≤ 591)) with _ | _
 ·replace hM := ifn (of_decide_eq_false hg8) hM
  refine r_R [vI c, vB (decide (c ≥ 913)), vB (decide (c ≥ 913))] rfl ?_
  rcases hg9 : (decide (c ≥ 913)) with _ | _
  ·replace hM := ifn (of_decide_eq_false hg9) hM
   refine r_R [none, none, vB false, vB false, vB false, vI c, vB (decide (c ≥ 1024)), vB (decide (c ≥ 1024))] rfl ?_
   rcases hg10 : (decide (c ≥ 1024)) with _ | _
   ·replace hM := ifn (of_decide_eq_false hg10) hM
    refine r_R [none, none, vB false, vB false, vB false] rfl <| lx_nil <| hK2 _ _ ?_; try clear hK2 K2
    obtain rfl := Option.some.inj hM
    refine A_ret (fun hn => ends_eq (v0 := vB false) rfl (res1 rfl))
   replace hM := ifp (of_decide_eq_true hg10) hM
   refine r_R [vI c, vB (decide (c ≤ 1279)), vB (decide (c ≤ 1279)), vB (decide (c ≤ 1279)), vB (decide (c ≤ 1279))] rfl <| lx_nil <| hK2 _ _ ?_; try clear hK2 K2
   obtain rfl := Option.some.inj hM
   refine A_ret (fun hn => ends_eq (v0 := vB (decide (c ≤ 1279))) rfl (res1 rfl))
  replace hM := ifp (of_decide_eq_true hg9) hM
  refine r_R [vI c, vB (decide (c ≤ 969)), vB (decide (c ≤ 969)), vB (decide (c ≤ 969)), vB (decide (c ≤ 969))] rfl ?_
  rcases hg11 : (decide (c ≤ 969)) with _ | _
  ·replace hM := ifn (of_decide_eq_false hg11) hM
   refine r_R [vI c, vB (decide (c ≥ 1024)), vB (decide (c ≥ 1024))] rfl ?_
   rcases hg12 : (decide (c ≥ 1024)) with _ | _
   ·replace hM := ifn (of_decide_eq_false hg12) hM
    refine r_R [none, none, vB false, vB false, vB false] rfl <| lx_nil <| hK2 _ _ ?_; try clear hK2 K2
    obtain rfl := Option.some.inj hM
    refine A_ret (fun hn => ends_eq (v0 := vB false) rfl (res1 rfl))
   replace hM := ifp (of_decide_eq_true hg12) hM
   refine r_R [vI c, vB (decide (c ≤ 1279)), vB (decide (c ≤ 1279)), vB (decide (c ≤ 1279)), vB (decide (c ≤ 1279))] rfl <| lx_nil <| hK2 _ _ ?_; try clear hK2 K2
   obtain rfl := Option.some.inj hM
   refine A_ret (fun hn => ends_eq (v0 := vB (decide (c ≤ 1279))) rfl (res1 rfl))
  replace hM := ifp (of_decide_eq_true hg11) hM
  refine r_R [none, none, none] rfl <| r_nu rfl rfl <| r_nu rfl rfl <| r_R [none, vB true, vB true] rfl <| lx_nil <| hK2 _ _ ?_; try clear hK2 K2
  obtain rfl := Option.some.inj hM
  refine A_ret (fun hn => ends_eq (v0 := vB true) rfl (res1 rfl))
 replace hM := ifp (of_decide_eq_true hg8) hM
 refine r_R [none, none, none] rfl <| r_nu rfl rfl <| r_nu rfl rfl <| r_R [none, vB true, vB true, none, none, none] rfl <| r_nu rfl rfl <| r_nu rfl rfl <| r_R [none, vB true, vB true] rfl <| lx_nil <| hK2 _ _ ?_; try clear hK2 K2
 obtain rfl := Option.some.inj hM
 refine A_ret (fun hn => ends_eq (v0 := vB true) rfl (res1 rfl))
def shunterref05_May_l3 (N : Nat) (r3 : List Int) : Nat → Int → Option Bool
  | 0, _ => none
  | n10 + 1, i2_ => if i2_ < ((r3).length : Int) then ck (0 ≤ i2_ ∧ i2_ < ((r3).length : Int)) ((shunterref05_Letter_m N ((r3)[(i2_).toNat]!)).bind fun r17 => if r17 = true then ck (-9223372036854775808 ≤ (i2_ + 1) ∧ (i2_ + 1) ≤ 9223372036854775807) ((shunterref05_May_l3 N r3 n10) (i2_ + 1)) else ck (0 ≤ i2_ ∧ i2_ < ((r3).length : Int)) (if ((r3)[(i2_).toNat]! : Int) ≥ 48 then ck (0 ≤ i2_ ∧ i2_ < ((r3).length : Int)) (if ((r3)[(i2_).toNat]! : Int) ≤ 57 then ck (-9223372036854775808 ≤ (i2_ + 1) ∧ (i2_ + 1) ≤ 9223372036854775807) ((shunterref05_May_l3 N r3 n10) (i2_ + 1)) else ck (0 ≤ i2_ ∧ i2_ < ((r3).length : Int)) (if ((r3)[(i2_).toNat]! : Int) ≠ 45 then ck (0 ≤ i2_ ∧ i2_ < ((r3).length : Int)) (if ((r3)[(i2_).toNat]! : Int) ≠ 46 then some false else ck (-9223372036854775808 ≤ (i2_ + 1) ∧ (i2_ + 1) ≤ 9223372036854775807) ((shunterref05_May_l3 N r3 n10) (i2_ + 1))) else ck (-9223372036854775808 ≤ (i2_ + 1) ∧ (i2_ + 1) ≤ 9223372036854775807) ((shunterref05_May_l3 N r3 n10) (i2_ + 1)))) else ck (0 ≤ i2_ ∧ i2_ < ((r3).length : Int)) (if ((r3)[(i2_).toNat]! : Int) ≠ 45 then ck (0 ≤ i2_ ∧ i2_ < ((r3).length : Int)) (if ((r3)[(i2_).toNat]! : Int) ≠ 46 then some false else ck (-9223372036854775808 ≤ (i2_ + 1) ∧ (i2_ + 1) ≤ 9223372036854775807) ((shunterref05_May_l3 N r3 n10) (i2_ + 1))) else ck (-9223372036854775808 ≤ (i2_ + 1) ∧ (i2_ + 1) ≤ 9223372036854775807) ((shunterref05_May_l3 N r3 n10) (i2_ + 1))))) else some true
def shunterref05_May_k1 (N : Nat) (r3 : List Int) : Option Bool := shunterref05_May_l3 N r3 N 0
def shunterref05_May_m (N : Nat) (s : List UInt8) : Option Bool := (shunterref05_Runes_m N s).bind fun r3 => if (((r3).length : Int) : Int) < 1 then some false else if (((r3).length : Int) : Int) > 24 then some false else ck (0 ≤ (0 : Int) ∧ (0 : Int) < ((r3).length : Int)) ((shunterref05_Letter_m N ((r3)[((0 : Int)).toNat]!)).bind fun r45 => if r45 = true then shunterref05_May_k1 N r3  else some false)
set_option maxRecDepth 100000 in
set_option maxHeartbeats 8000000 in
theorem shunterref05_May_g (N : Nat) (s : List UInt8) (r) (hM : shunterref05_May_m N s = some r) : Gives Try.prog 41 #[vS s] (vB r) := by
 unfold shunterref05_May_m at hM
 refine gives_of_A follows Try.func41 rfl 63 rfl (upd (fun _ => undef) 0 (vS s)) (by funext k; match k with | 0 => rfl | k + 1 => rfl) (fun base0_ => ?_)
 refine A_sr <| r_V (vB false) rfl <| lx_nil <| A_sc [(some 6, false)] (conG Try.prog [(6, fun _ _ v_ L_ U_ => ∀ u0_, shunterref05_Runes_m N s = some u0_ → (p1 (fun s_ => s_) 3 encI u0_) v_ L_ U_)]) <| r_V (vS s) rfl ?_
 obtain ⟨r3, hr4, hM⟩ := bind_sm hM
 refine r_g1 (Ls := []) (fun s5 => s5) 3 encI r3 46 _ rfl rfl rfl (ev_callF rfl call_46 rfl) (fun own_ nw_ hs_ => shunterref05_Runes_g N s _ hr4 hs_.view ) (conE hr4) (fun s5 S6 H7 => ?_)
 refine r_V s5 rfl <| lx_nil <| A_cut (fun tt ll => (shunterref05_May_k1 N r3  = some r) ∧ Is [(3, s5)] (List.flatten [S6]) tt ll) ?_ ?_
 ·refine A_seq fun K41 hK41 => A_reg <| r_V s5 rfl <| r_W (vI ((r3).length : Int)) rfl (ev_lenSl rfl rfl rfl (Sl.shp H7)) <| r_R [vB (decide ((((r3).length : Int) : Int) < 1)), vB (decide ((((r3).length : Int) : Int) < 1))] rfl ?_
  rcases hg42 : (decide ((((r3).length : Int) : Int) < 1)) with _ | _
  ·replace hM := ifn (of_decide_eq_false hg42) hM
   refine r_R [s5] rfl <| r_y rfl <| r_W (vI ((r3).length : Int)) rfl (ev_lenSl rfl rfl rfl (Sl.shp H7)) <| r_R [vB (decide ((((r3).length : Int) : Int) > 24)), vB (decide ((((r3).length : Int) : Int) > 24)), vB (decide ((((r3).length : Int) : Int) > 24))] rfl ?_
   rcases hg43 : (decide ((((r3).length : Int) : Int) > 24)) with _ | _
   ·replace hM := ifn (of_decide_eq_false hg43) hM
    refine r_R [s5] rfl <| r_y rfl ?_
    obtain ⟨ck44, hM⟩ := ck_some hM
    refine r_W (elA s5 (((0 : Int)).toNat * 1)) rfl (ev_v (ev_idxSl rfl rfl rfl (Sl.shp H7) ck44)) <| r_y rfl <| r_le (vI ((r3)[((0 : Int)).toNat]!)) (En := encI) ((r3)[((0 : Int)).toNat]!) (((0 : Int)).toNat) 0 rfl rfl (rd_own H7 (mem_chunk (Ls := [S6]) (k := 0) rfl rfl)) (get_of ck44) rfl <| r_y rfl ?_
    obtain ⟨r45, hr46, hM⟩ := bind_sm hM
    refine r_c (vB r45) rfl _ _ (ev_callF rfl call_54 rfl) (shunterref05_Letter_g N ((r3)[((0 : Int)).toNat]!) _ hr46) <| r_R [vB (!(r45)), vB (!(r45))] rfl <| lx_nil <| hK41 _ _ ?_; try clear hK41 K41
    refine A_cond (!(r45)) rfl (fun hc47 => ?_) (fun hc47 => ?_)
    ·replace hM := ifn (Bool.eq_false_iff.1 (not_t hc47)) hM
     refine A_sr <| r_V (vB false) rfl <| lx_nil ?_
     obtain rfl := Option.some.inj hM
     refine A_ret (fun hn => ends_eq (v0 := vB false) rfl (res1 rfl))
    replace hM := ifp (not_f hc47) hM
    refine A_skip <| fg _ (Sub.pick [S6] [0] rfl) ?_
    exact ⟨hM, is_mk rfl rfl⟩
   replace hM := ifp (of_decide_eq_true hg43) hM
   refine r_R [none, none, none, none, none, vB true] rfl <| lx_nil <| hK41 _ _ ?_; try clear hK41 K41
   refine A_cond true rfl (fun _ => ?_) (fun h_ => nomatch h_)
   refine A_sr <| r_V (vB false) rfl <| lx_nil ?_
   obtain rfl := Option.some.inj hM
   refine A_ret (fun hn => ends_eq (v0 := vB false) rfl (res1 rfl))
  replace hM := ifp (of_decide_eq_true hg42) hM
  refine r_R [none, none, none, vB true, vB true, none, none, none, none, none, vB true] rfl <| lx_nil <| hK41 _ _ ?_; try clear hK41 K41
  refine A_cond true rfl (fun _ => ?_) (fun h_ => nomatch h_)
  refine A_sr <| r_V (vB false) rfl <| lx_nil ?_
  obtain rfl := Option.some.inj hM
  refine A_ret (fun hn => ends_eq (v0 := vB false) rfl (res1 rfl))
 clear hM; rintro t l ⟨hM, ⟨T, rfl⟩, rfl⟩
 unfold shunterref05_May_k1 at hM
 refine A_seq fun K8 hK8 => A_sr <| r_V (vI 0) rfl <| lx_nil <| A_block <| A_forget _ (Sub.pick [S6] [0] rfl) <| A_loop (fun tt ll nn => ∃ (n10 : Nat) (i2_ : Int), (shunterref05_May_l3 N r3 n10 i2_ = some r) ∧ Is [(3, s5), (4, vI i2_)] (List.flatten [S6]) tt ll ∧ nn = n10 + 1) (N + 1) ?_ ?_
 ·exact ⟨N, 0, hM, is_mk rfl rfl, rfl⟩
 clear hM; rintro t l _ ⟨n10, i2_, hM, ⟨⟨T, rfl⟩, rfl⟩, rfl⟩
 rcases n10 with _ | n10
 ·exact absurd hM (by simp [shunterref05_May_l3])
 rw [shunterref05_May_l3] at hM
 refine A_seq fun K11 hK11 => A_sr <| r_R [vI i2_, s5] rfl <| r_W (vI ((r3).length : Int)) rfl (ev_lenSl rfl rfl rfl (Sl.shp H7)) <| r_V (vB (decide (i2_ < ((r3).length : Int)))) rfl <| lx_nil <| A_cond (decide (i2_ < ((r3).length : Int))) rfl (fun hc13 => ?_) (fun hc13 => ?_)
 ·replace hM := ifp (of_decide_eq_true hc13) hM
  refine A_skip <| hK11 _ _ ?_; try clear hK11 K11
  refine A_seq fun K14 hK14 => A_block <| A_seq fun K15 hK15 => A_reg <| r_R [s5, vI i2_] rfl ?_
  obtain ⟨ck16, hM⟩ := ck_some hM
  refine r_W (elA s5 ((i2_).toNat * 1)) rfl (ev_v (ev_idxSl rfl rfl rfl (Sl.shp H7) ck16)) <| r_le (vI ((r3)[(i2_).toNat]!)) (En := encI) ((r3)[(i2_).toNat]!) ((i2_).toNat) 0 rfl rfl (rd_own H7 (mem_chunk (Ls := [S6]) (k := 0) rfl rfl)) (get_of ck16) rfl ?_
  obtain ⟨r17, hr18, hM⟩ := bind_sm hM
  refine r_c (vB r17) rfl _ _ (ev_callF rfl call_54 rfl) (shunterref05_Letter_g N ((r3)[(i2_).toNat]!) _ hr18) <| r_R [vB (!(r17)), vB (!(r17))] rfl ?_
  rcases hg19 : (!(r17)) with _ | _
  ·replace hM := ifp (not_f hg19) hM
   refine r_R [none, none, none, none, none, none] rfl <| r_nu rfl rfl <| r_nu rfl rfl <| r_nu rfl rfl <| r_nu rfl rfl <| r_nu rfl rfl <| r_R [none, none, vB false, vB false, none, none, none, none, none, vB false, vB false, none, none, none, none, none, vB false] rfl <| lx_nil <| hK15 _ _ ?_; try clear hK15 K15
   refine A_gen [(3, s5), (4, vI i2_), (62, vB false)] rfl (fun T => ?_)
   refine A_cond false rfl (fun h_ => nomatch h_) (fun _ => ?_)
   refine A_skip <| hK14 _ _ ?_; try clear hK14 K14
   refine A_reg <| r_V (vI i2_) rfl ?_
   obtain ⟨ck20, hM⟩ := ck_some hM
   refine r_X (vI (i2_ + 1)) rfl (wi64 rfl ck20.1 ck20.2) rfl <| r_V (vI (i2_ + 1)) rfl <| lx_nil <| fg _ (Sub.pick [S6] [0] rfl) ?_
   exact ⟨n10 + 1, by omega, n10, (i2_ + 1), hM, is_mk (by first | rfl | (simp only [hg19]; done) | (simp only [hg19]; rfl) | (simp only [app_hl]; rfl)) rfl, rfl⟩
  replace hM := ifn (Bool.eq_false_iff.1 (not_t hg19)) hM
  refine r_R [s5, vI i2_] rfl <| r_y rfl ?_
  obtain ⟨ck21, hM⟩ := ck_some hM
  refine r_W (elA s5 ((i2_).toNat * 1)) rfl (ev_v (ev_idxSl rfl rfl rfl (Sl.shp H7) ck21)) <| r_y rfl <| r_le (vI ((r3)[(i2_).toNat]!)) (En := encI) ((r3)[(i2_).toNat]!) ((i2_).toNat) 0 rfl rfl (rd_own H7 (mem_chunk (Ls := [S6]) (k := 0) rfl rfl)) (get_of ck21) rfl <| r_R [vB (decide (((r3)[(i2_).toNat]! : Int) ≥ 48)), vB (decide (((r3)[(i2_).toNat]! : Int) ≥ 48))] rfl ?_
  rcases hg22 : (decide (((r3)[(i2_).toNat]! : Int) ≥ 48)) with _ | _
  ·replace hM := ifn (of_decide_eq_false hg22) hM
   refine r_R [none, none, none, none, none, vB false, vB true, vB true, vB true, s5, vI i2_] rfl <| r_y rfl ?_
   obtain ⟨ck23, hM⟩ := ck_some hM
   refine r_W (elA s5 ((i2_).toNat * 1)) rfl (ev_v (ev_idxSl rfl rfl rfl (Sl.shp H7) ck23)) <| r_y rfl <| r_le (vI ((r3)[(i2_).toNat]!)) (En := encI) ((r3)[(i2_).toNat]!) ((i2_).toNat) 0 rfl rfl (rd_own H7 (mem_chunk (Ls := [S6]) (k := 0) rfl rfl)) (get_of ck23) rfl <| r_R [vB (((r3)[(i2_).toNat]! : Int) != 45), vB (((r3)[(i2_).toNat]! : Int) != 45), vB (((r3)[(i2_).toNat]! : Int) != 45)] rfl ?_
   rcases hg24 : (((r3)[(i2_).toNat]! : Int) != 45) with _ | _
   ·replace hM := ifn (bne_f hg24) hM
    refine r_R [none, none, none, none, none, vB false] rfl <| lx_nil <| hK15 _ _ ?_; try clear hK15 K15
    refine A_gen [(3, s5), (4, vI i2_), (62, vB false)] rfl (fun T => ?_)
    refine A_cond false rfl (fun h_ => nomatch h_) (fun _ => ?_)
    refine A_skip <| hK14 _ _ ?_; try clear hK14 K14
    refine A_reg <| r_V (vI i2_) rfl ?_
    obtain ⟨ck25, hM⟩ := ck_some hM
    refine r_X (vI (i2_ + 1)) rfl (wi64 rfl ck25.1 ck25.2) rfl <| r_V (vI (i2_ + 1)) rfl <| lx_nil <| fg _ (Sub.pick [S6] [0] rfl) ?_
    exact ⟨n10 + 1, by omega, n10, (i2_ + 1), hM, is_mk (by first | rfl | (simp only [hg19, hg22, hg24]; done) | (simp only [hg19, hg22, hg24]; rfl) | (simp only [app_hl]; rfl)) rfl, rfl⟩
   replace hM := ifp (bne_iff_ne.1 hg24) hM
   refine r_R [s5, vI i2_] rfl <| r_y rfl ?_
   obtain ⟨ck26, hM⟩ := ck_some hM
   refine r_W (elA s5 ((i2_).toNat * 1)) rfl (ev_v (ev_idxSl rfl rfl rfl (Sl.shp H7) ck26)) <| r_y rfl <| r_le (vI ((r3)[(i2_).toNat]!)) (En := encI) ((r3)[(i2_).toNat]!) ((i2_).toNat) 0 rfl rfl (rd_own H7 (mem_chunk (Ls := [S6]) (k := 0) rfl rfl)) (get_of ck26) rfl <| r_R [vB (((r3)[(i2_).toNat]! : Int) != 46), vB (((r3)[(i2_).toNat]! : Int) != 46)] rfl <| lx_nil <| hK15 _ _ ?_; try clear hK15 K15
   refine A_gen [(3, s5), (4, vI i2_), (62, vB (((r3)[(i2_).toNat]! : Int) != 46))] rfl (fun T => ?_)
   refine A_cond (((r3)[(i2_).toNat]! : Int) != 46) rfl (fun hc27 => ?_) (fun hc27 => ?_)
   ·replace hM := ifp (bne_iff_ne.1 hc27) hM
    refine A_sr <| r_V (vB false) rfl <| lx_nil ?_
    obtain rfl := Option.some.inj hM
    refine A_ret (fun hn => ends_eq (v0 := vB false) rfl (res1 rfl))
   replace hM := ifn (bne_f hc27) hM
   refine A_skip <| hK14 _ _ ?_; try clear hK14 K14
   refine A_reg <| r_V (vI i2_) rfl ?_
   obtain ⟨ck29, hM⟩ := ck_some hM
   refine r_X (vI (i2_ + 1)) rfl (wi64 rfl ck29.1 ck29.2) rfl <| r_V (vI (i2_ + 1)) rfl <| lx_nil <| fg _ (Sub.pick [S6] [0] rfl) ?_
   exact ⟨n10 + 1, by omega, n10, (i2_ + 1), hM, is_mk (by first | rfl | (simp only [hg19, hg22, hg24]; done) | (simp only [hg19, hg22, hg24]; rfl) | (simp only [app_hl]; rfl)) rfl, rfl⟩
  replace hM := ifp (of_decide_eq_true hg22) hM
  refine r_R [s5, vI i2_] rfl <| r_y rfl ?_
  obtain ⟨ck30, hM⟩ := ck_some hM
  refine r_W (elA s5 ((i2_).toNat * 1)) rfl (ev_v (ev_idxSl rfl rfl rfl (Sl.shp H7) ck30)) <| r_y rfl <| r_le (vI ((r3)[(i2_).toNat]!)) (En := encI) ((r3)[(i2_).toNat]!) ((i2_).toNat) 0 rfl rfl (rd_own H7 (mem_chunk (Ls := [S6]) (k := 0) rfl rfl)) (get_of ck30) rfl <| r_R [vB (decide (((r3)[(i2_).toNat]! : Int) ≤ 57)), vB (decide (((r3)[(i2_).toNat]! : Int) ≤ 57)), vB (!(decide (((r3)[(i2_).toNat]! : Int) ≤ 57))), vB (!(decide (((r3)[(i2_).toNat]! : Int) ≤ 57))), vB (!(decide (((r3)[(i2_).toNat]! : Int) ≤ 57)))] rfl ?_
  rcases hg31 : (!(decide (((r3)[(i2_).toNat]! : Int) ≤ 57))) with _ | _
  ·replace hM := ifp (of_decide_eq_true (not_f hg31)) hM
   refine r_R [none, none, none, none, none, vB false, vB false, none, none, none, none, none, vB false] rfl <| lx_nil <| hK15 _ _ ?_; try clear hK15 K15
   refine A_gen [(3, s5), (4, vI i2_), (62, vB false)] rfl (fun T => ?_)
   refine A_cond false rfl (fun h_ => nomatch h_) (fun _ => ?_)
   refine A_skip <| hK14 _ _ ?_; try clear hK14 K14
   refine A_reg <| r_V (vI i2_) rfl ?_
   obtain ⟨ck32, hM⟩ := ck_some hM
   refine r_X (vI (i2_ + 1)) rfl (wi64 rfl ck32.1 ck32.2) rfl <| r_V (vI (i2_ + 1)) rfl <| lx_nil <| fg _ (Sub.pick [S6] [0] rfl) ?_
   exact ⟨n10 + 1, by omega, n10, (i2_ + 1), hM, is_mk (by first | rfl | (simp only [hg19, hg22, hg31]; done) | (simp only [hg19, hg22, hg31]; rfl) | (simp only [app_hl]; rfl)) rfl, rfl⟩
  replace hM := ifn (of_decide_eq_false (not_t hg31)) hM
  refine r_R [s5, vI i2_] rfl <| r_y rfl ?_
  obtain ⟨ck33, hM⟩ := ck_some hM
  refine r_W (elA s5 ((i2_).toNat * 1)) rfl (ev_v (ev_idxSl rfl rfl rfl (Sl.shp H7) ck33)) <| r_y rfl <| r_le (vI ((r3)[(i2_).toNat]!)) (En := encI) ((r3)[(i2_).toNat]!) ((i2_).toNat) 0 rfl rfl (rd_own H7 (mem_chunk (Ls := [S6]) (k := 0) rfl rfl)) (get_of ck33) rfl <| r_R [vB (((r3)[(i2_).toNat]! : Int) != 45), vB (((r3)[(i2_).toNat]! : Int) != 45), vB (((r3)[(i2_).toNat]! : Int) != 45)] rfl ?_
  rcases hg34 : (((r3)[(i2_).toNat]! : Int) != 45) with _ | _
  ·replace hM := ifn (bne_f hg34) hM
   refine r_R [none, none, none, none, none, vB false] rfl <| lx_nil <| hK15 _ _ ?_; try clear hK15 K15
   refine A_gen [(3, s5), (4, vI i2_), (62, vB false)] rfl (fun T => ?_)
   refine A_cond false rfl (fun h_ => nomatch h_) (fun _ => ?_)
   refine A_skip <| hK14 _ _ ?_; try clear hK14 K14
   refine A_reg <| r_V (vI i2_) rfl ?_
   obtain ⟨ck35, hM⟩ := ck_some hM
   refine r_X (vI (i2_ + 1)) rfl (wi64 rfl ck35.1 ck35.2) rfl <| r_V (vI (i2_ + 1)) rfl <| lx_nil <| fg _ (Sub.pick [S6] [0] rfl) ?_
   exact ⟨n10 + 1, by omega, n10, (i2_ + 1), hM, is_mk (by first | rfl | (simp only [hg19, hg22, hg31, hg34]; done) | (simp only [hg19, hg22, hg31, hg34]; rfl) | (simp only [app_hl]; rfl)) rfl, rfl⟩
  replace hM := ifp (bne_iff_ne.1 hg34) hM
  refine r_R [s5, vI i2_] rfl <| r_y rfl ?_
  obtain ⟨ck36, hM⟩ := ck_some hM
  refine r_W (elA s5 ((i2_).toNat * 1)) rfl (ev_v (ev_idxSl rfl rfl rfl (Sl.shp H7) ck36)) <| r_y rfl <| r_le (vI ((r3)[(i2_).toNat]!)) (En := encI) ((r3)[(i2_).toNat]!) ((i2_).toNat) 0 rfl rfl (rd_own H7 (mem_chunk (Ls := [S6]) (k := 0) rfl rfl)) (get_of ck36) rfl <| r_R [vB (((r3)[(i2_).toNat]! : Int) != 46), vB (((r3)[(i2_).toNat]! : Int) != 46)] rfl <| lx_nil <| hK15 _ _ ?_; try clear hK15 K15
  refine A_gen [(3, s5), (4, vI i2_), (62, vB (((r3)[(i2_).toNat]! : Int) != 46))] rfl (fun T => ?_)
  refine A_cond (((r3)[(i2_).toNat]! : Int) != 46) rfl (fun hc37 => ?_) (fun hc37 => ?_)
  ·replace hM := ifp (bne_iff_ne.1 hc37) hM
   refine A_sr <| r_V (vB false) rfl <| lx_nil ?_
   obtain rfl := Option.some.inj hM
   refine A_ret (fun hn => ends_eq (v0 := vB false) rfl (res1 rfl))
  replace hM := ifn (bne_f hc37) hM
  refine A_skip <| hK14 _ _ ?_; try clear hK14 K14
  refine A_reg <| r_V (vI i2_) rfl ?_
  obtain ⟨ck39, hM⟩ := ck_some hM
  refine r_X (vI (i2_ + 1)) rfl (wi64 rfl ck39.1 ck39.2) rfl <| r_V (vI (i2_ + 1)) rfl <| lx_nil <| fg _ (Sub.pick [S6] [0] rfl) ?_
  exact ⟨n10 + 1, by omega, n10, (i2_ + 1), hM, is_mk (by first | rfl | (simp only [hg19, hg22, hg31, hg34]; done) | (simp only [hg19, hg22, hg31, hg34]; rfl) | (simp only [app_hl]; rfl)) rfl, rfl⟩
 replace hM := ifn (of_decide_eq_false hc13) hM
 refine A_exit <| hK8 _ _ ?_; try clear hK8 K8
 refine A_sr <| r_V (vB true) rfl <| lx_nil ?_
 obtain rfl := Option.some.inj hM
 refine A_ret (fun hn => ends_eq (v0 := vB true) rfl (res1 rfl))
def shunterref08_Plain_l2 (N : Nat) (s : List UInt8) : Nat → Int → Option Bool
  | 0, _ => none
  | n4 + 1, i1_ => if i1_ < ((s).length : Int) then ck ((0 : Int) ≤ i1_ ∧ i1_ < ((s).length : Int)) (if ((byteAt s i1_) : Int) = 46 then some false else ck (-9223372036854775808 ≤ (i1_ + 1) ∧ (i1_ + 1) ≤ 9223372036854775807) ((shunterref08_Plain_l2 N s n4) (i1_ + 1))) else (shunterref05_May_m N s).bind fun r15 => some r15
def shunterref08_Plain_m (N : Nat) (s : List UInt8) : Option Bool := shunterref08_Plain_l2 N s N 0
set_option maxRecDepth 100000 in
set_option maxHeartbeats 8000000 in
theorem shunterref08_Plain_g (N : Nat) (s : List UInt8) (r) (hM : shunterref08_Plain_m N s = some r) : Gives Try.prog 28 #[vS s] (vB r) := by
 unfold shunterref08_Plain_m at hM
 refine gives_of_A follows Try.func28 rfl 16 rfl (upd (fun _ => undef) 0 (vS s)) (by funext k; match k with | 0 => rfl | k + 1 => rfl) (fun base0_ => ?_)
 refine A_sr <| r_V (vB false) rfl <| lx_nil <| A_seq fun K2 hK2 => A_sr <| r_V (vI 0) rfl <| lx_nil <| A_block <| A_loop (fun tt ll nn => ∃ (n4 : Nat) (i1_ : Int), (shunterref08_Plain_l2 N s n4 i1_ = some r) ∧ Is [(0, vS s), (3, vI i1_)] [] tt ll ∧ nn = n4 + 1) (N + 1) ?_ ?_
 ·exact ⟨N, 0, hM, is_mk rfl rfl, rfl⟩
 clear hM; rintro t l _ ⟨n4, i1_, hM, ⟨⟨T, rfl⟩, rfl⟩, rfl⟩
 rcases n4 with _ | n4
 ·exact absurd hM (by simp [shunterref08_Plain_l2])
 rw [shunterref08_Plain_l2] at hM
 refine A_seq fun K5 hK5 => A_sr <| r_R [vI i1_, vS s] rfl <| r_W (vI ((s).length : Int)) rfl (ev_lenS rfl rfl rfl) <| r_V (vB (decide (i1_ < ((s).length : Int)))) rfl <| lx_nil <| A_cond (decide (i1_ < ((s).length : Int))) rfl (fun hc7 => ?_) (fun hc7 => ?_)
 ·replace hM := ifp (of_decide_eq_true hc7) hM
  refine A_skip <| hK5 _ _ ?_; try clear hK5 K5
  refine A_seq fun K8 hK8 => A_block <| A_sr <| r_R [vS s, vI i1_] rfl ?_
  obtain ⟨ck10, hM⟩ := ck_some hM
  refine r_W (Value.int .u8 (byteAt s i1_)) rfl (ev_v (ev_indexS rfl ck10)) <| r_V (vB (((byteAt s i1_) : Int) == 46)) rfl <| lx_nil <| A_cond (((byteAt s i1_) : Int) == 46) rfl (fun hc11 => ?_) (fun hc11 => ?_)
  ·replace hM := ifp (eq_of_beq hc11) hM
   refine A_sr <| r_V (vB false) rfl <| lx_nil ?_
   obtain rfl := Option.some.inj hM
   refine A_ret (fun hn => ends_eq (v0 := vB false) rfl (res1 rfl))
  replace hM := ifn (ne_of_beq_false hc11) hM
  refine A_skip <| hK8 _ _ ?_; try clear hK8 K8
  refine A_reg <| r_V (vI i1_) rfl ?_
  obtain ⟨ck13, hM⟩ := ck_some hM
  refine r_X (vI (i1_ + 1)) rfl (wi64 rfl ck13.1 ck13.2) rfl <| r_V (vI (i1_ + 1)) rfl <| lx_nil <| fg _ (Sub.of List.Sublist.slnil) ?_
  exact ⟨n4 + 1, by omega, n4, (i1_ + 1), hM, is_mk rfl rfl, rfl⟩
 replace hM := ifn (of_decide_eq_false hc7) hM
 refine A_exit <| hK2 _ _ ?_; try clear hK2 K2
 refine A_sr <| r_V (vS s) rfl ?_
 obtain ⟨r15, hr16, hM⟩ := bind_sm hM
 refine r_c (vB r15) rfl _ _ (ev_callF rfl call_41 rfl) (shunterref05_May_g N s _ hr16) <| r_V (vB r15) rfl <| lx_nil ?_
 obtain rfl := Option.some.inj hM
 refine A_ret (fun hn => ends_eq (v0 := vB r15) rfl (res1 rfl))
def shunterref05_Fold_k2 (c : Int) : Option Int := if c = 962 then some 963 else some c
def shunterref05_Fold_k1 (c : Int) : Option Int := if c ≥ 1024 then if c ≤ 1039 then ck (-9223372036854775808 ≤ (c + 80) ∧ (c + 80) ≤ 9223372036854775807) (some (c + 80)) else shunterref05_Fold_k2 c  else shunterref05_Fold_k2 c 
def shunterref05_Fold_m (_ : Nat) (c : Int) : Option Int := if c ≥ 65 then if c ≤ 90 then ck (-9223372036854775808 ≤ (c + 32) ∧ (c + 32) ≤ 9223372036854775807) (some (c + 32)) else if c ≥ 192 then if c ≤ 222 then if (c : Int) ≠ 215 then ck (-9223372036854775808 ≤ (c + 32) ∧ (c + 32) ≤ 9223372036854775807) (some (c + 32)) else if c ≥ 913 then if c ≤ 937 then if (c : Int) ≠ 930 then ck (-9223372036854775808 ≤ (c + 32) ∧ (c + 32) ≤ 9223372036854775807) (some (c + 32)) else if c ≥ 1040 then if c ≤ 1071 then ck (-9223372036854775808 ≤ (c + 32) ∧ (c + 32) ≤ 9223372036854775807) (some (c + 32)) else shunterref05_Fold_k1 c  else shunterref05_Fold_k1 c  else if c ≥ 1040 then if c ≤ 1071 then ck (-9223372036854775808 ≤ (c + 32) ∧ (c + 32) ≤ 9223372036854775807) (some (c + 32)) else shunterref05_Fold_k1 c  else shunterref05_Fold_k1 c  else if c ≥ 1040 then if c ≤ 1071 then ck (-9223372036854775808 ≤ (c + 32) ∧ (c + 32) ≤ 9223372036854775807) (some (c + 32)) else shunterref05_Fold_k1 c  else shunterref05_Fold_k1 c  else if c ≥ 913 then if c ≤ 937 then if (c : Int) ≠ 930 then ck (-9223372036854775808 ≤ (c + 32) ∧ (c + 32) ≤ 9223372036854775807) (some (c + 32)) else if c ≥ 1040 then if c ≤ 1071 then ck (-9223372036854775808 ≤ (c + 32) ∧ (c + 32) ≤ 9223372036854775807) (some (c + 32)) else shunterref05_Fold_k1 c  else shunterref05_Fold_k1 c  else if c ≥ 1040 then if c ≤ 1071 then ck (-9223372036854775808 ≤ (c + 32) ∧ (c + 32) ≤ 9223372036854775807) (some (c + 32)) else shunterref05_Fold_k1 c  else shunterref05_Fold_k1 c  else if c ≥ 1040 then if c ≤ 1071 then ck (-9223372036854775808 ≤ (c + 32) ∧ (c + 32) ≤ 9223372036854775807) (some (c + 32)) else shunterref05_Fold_k1 c  else shunterref05_Fold_k1 c  else if c ≥ 913 then if c ≤ 937 then if (c : Int) ≠ 930 then ck (-9223372036854775808 ≤ (c + 32) ∧ (c + 32) ≤ 9223372036854775807) (some (c + 32)) else if c ≥ 1040 then if c ≤ 1071 then ck (-9223372036854775808 ≤ (c + 32) ∧ (c + 32) ≤ 9223372036854775807) (some (c + 32)) else shunterref05_Fold_k1 c  else shunterref05_Fold_k1 c  else if c ≥ 1040 then if c ≤ 1071 then ck (-9223372036854775808 ≤ (c + 32) ∧ (c + 32) ≤ 9223372036854775807) (some (c + 32)) else shunterref05_Fold_k1 c  else shunterref05_Fold_k1 c  else if c ≥ 1040 then if c ≤ 1071 then ck (-9223372036854775808 ≤ (c + 32) ∧ (c + 32) ≤ 9223372036854775807) (some (c + 32)) else shunterref05_Fold_k1 c  else shunterref05_Fold_k1 c  else if c ≥ 192 then if c ≤ 222 then if (c : Int) ≠ 215 then ck (-9223372036854775808 ≤ (c + 32) ∧ (c + 32) ≤ 9223372036854775807) (some (c + 32)) else if c ≥ 913 then if c ≤ 937 then if (c : Int) ≠ 930 then ck (-9223372036854775808 ≤ (c + 32) ∧ (c + 32) ≤ 9223372036854775807) (some (c + 32)) else if c ≥ 1040 then if c ≤ 1071 then ck (-9223372036854775808 ≤ (c + 32) ∧ (c + 32) ≤ 9223372036854775807) (some (c + 32)) else shunterref05_Fold_k1 c  else shunterref05_Fold_k1 c  else if c ≥ 1040 then if c ≤ 1071 then ck (-9223372036854775808 ≤ (c + 32) ∧ (c + 32) ≤ 9223372036854775807) (some (c + 32)) else shunterref05_Fold_k1 c  else shunterref05_Fold_k1 c  else if c ≥ 1040 then if c ≤ 1071 then ck (-9223372036854775808 ≤ (c + 32) ∧ (c + 32) ≤ 9223372036854775807) (some (c + 32)) else shunterref05_Fold_k1 c  else shunterref05_Fold_k1 c  else if c ≥ 913 then if c ≤ 937 then if (c : Int) ≠ 930 then ck (-9223372036854775808 ≤ (c + 32) ∧ (c + 32) ≤ 9223372036854775807) (some (c + 32)) else if c ≥ 1040 then if c ≤ 1071 then ck (-9223372036854775808 ≤ (c + 32) ∧ (c + 32) ≤ 9223372036854775807) (some (c + 32)) else shunterref05_Fold_k1 c  else shunterref05_Fold_k1 c  else if c ≥ 1040 then if c ≤ 1071 then ck (-9223372036854775808 ≤ (c + 32) ∧ (c + 32) ≤ 9223372036854775807) (some (c + 32)) else shunterref05_Fold_k1 c  else shunterref05_Fold_k1 c  else if c ≥ 1040 then if c ≤ 1071 then ck (-9223372036854775808 ≤ (c + 32) ∧ (c + 32) ≤ 9223372036854775807) (some (c + 32)) else shunterref05_Fold_k1 c  else shunterref05_Fold_k1 c  else if c ≥ 913 then if c ≤ 937 then if (c : Int) ≠ 930 then ck (-9223372036854775808 ≤ (c + 32) ∧ (c + 32) ≤ 9223372036854775807) (some (c + 32)) else if c ≥ 1040 then if c ≤ 1071 then ck (-9223372036854775808 ≤ (c + 32) ∧ (c + 32) ≤ 9223372036854775807) (some (c + 32)) else shunterref05_Fold_k1 c  else shunterref05_Fold_k1 c  else if c ≥ 1040 then if c ≤ 1071 then ck (-9223372036854775808 ≤ (c + 32) ∧ (c + 32) ≤ 9223372036854775807) (some (c + 32)) else shunterref05_Fold_k1 c  else shunterref05_Fold_k1 c  else if c ≥ 1040 then if c ≤ 1071 then ck (-9223372036854775808 ≤ (c + 32) ∧ (c + 32) ≤ 9223372036854775807) (some (c + 32)) else shunterref05_Fold_k1 c  else shunterref05_Fold_k1 c 
set_option maxRecDepth 100000 in
set_option maxHeartbeats 8000000 in
theorem shunterref05_Fold_g (N : Nat) (c r : Int) (hM : shunterref05_Fold_m N c = some r) : Gives Try.prog 47 #[vI c] (vI r) := by
 unfold shunterref05_Fold_m at hM
 refine gives_of_A follows Try.func47 rfl 54 rfl (upd (fun _ => undef) 0 (vI c)) (by funext k; match k with | 0 => rfl | k + 1 => rfl) (fun base0_ => ?_)
 refine A_sr <| r_V (vI 0) rfl <| lx_nil <| A_cut (fun tt ll => (shunterref05_Fold_k1 c  = some r) ∧ Is [(0, vI c)] [] tt ll) ?_ ?_
 ·refine A_seq fun K12 hK12 => A_reg <| r_R [vI c, vB (decide (c ≥ 65)), vB (decide (c ≥ 65))] rfl ?_
  rcases hg13 : (decide (c ≥ 65)) with _ | _
  ·replace hM := ifn (of_decide_eq_false hg13) hM
   refine r_R [none, none, vB false, vB false, vI c, vB (decide (c ≥ 192)), vB (decide (c ≥ 192))] rfl ?_
   rcases hg14 : (decide (c ≥ 192)) with _ | _
   ·replace hM := ifn (of_decide_eq_false hg14) hM
    refine r_R [none, none, vB false, vB false, none, none, vB false, vB false, vB false, vI c, vB (decide (c ≥ 913)), vB (decide (c ≥ 913))] rfl ?_
    rcases hg15 : (decide (c ≥ 913)) with _ | _
    ·replace hM := ifn (of_decide_eq_false hg15) hM
     refine r_R [none, none, vB false, vB false, none, none, vB false, vB false, vB false, vI c, vB (decide (c ≥ 1040)), vB (decide (c ≥ 1040))] rfl ?_
     rcases hg16 : (decide (c ≥ 1040)) with _ | _
     ·replace hM := ifn (of_decide_eq_false hg16) hM
      refine r_R [none, none, vB false, vB false] rfl <| lx_nil <| hK12 _ _ ?_; try clear hK12 K12
      refine A_gen [(0, vI c), (40, vB false)] rfl (fun T => ?_)
      refine A_cond false rfl (fun h_ => nomatch h_) (fun _ => ?_)
      refine A_skip <| fg _ (Sub.of List.Sublist.slnil) ?_
      exact ⟨hM, is_mk rfl rfl⟩
     replace hM := ifp (of_decide_eq_true hg16) hM
     refine r_R [vI c, vB (decide (c ≤ 1071)), vB (decide (c ≤ 1071)), vB (decide (c ≤ 1071))] rfl <| lx_nil <| hK12 _ _ ?_; try clear hK12 K12
     refine A_gen [(0, vI c), (40, vB (decide (c ≤ 1071)))] rfl (fun T => ?_)
     refine A_cond (decide (c ≤ 1071)) rfl (fun hc17 => ?_) (fun hc17 => ?_)
     ·replace hM := ifp (of_decide_eq_true hc17) hM
      refine A_sr <| r_V (vI c) rfl ?_
      obtain ⟨ck19, hM⟩ := ck_some hM
      refine r_X (vI (c + 32)) rfl (wi64 rfl ck19.1 ck19.2) rfl <| r_V (vI (c + 32)) rfl <| lx_nil ?_
      obtain rfl := Option.some.inj hM
      refine A_ret (fun hn => ends_eq (v0 := vI (c + 32)) rfl (res1 rfl))
     replace hM := ifn (of_decide_eq_false hc17) hM
     refine A_skip <| fg _ (Sub.of List.Sublist.slnil) ?_
     exact ⟨hM, is_mk rfl rfl⟩
    replace hM := ifp (of_decide_eq_true hg15) hM
    refine r_R [vI c, vB (decide (c ≤ 937)), vB (decide (c ≤ 937)), vB (decide (c ≤ 937))] rfl ?_
    rcases hg20 : (decide (c ≤ 937)) with _ | _
    ·replace hM := ifn (of_decide_eq_false hg20) hM
     refine r_R [none, none, vB false, vB false, vB false, vI c, vB (decide (c ≥ 1040)), vB (decide (c ≥ 1040))] rfl ?_
     rcases hg21 : (decide (c ≥ 1040)) with _ | _
     ·replace hM := ifn (of_decide_eq_false hg21) hM
      refine r_R [none, none, vB false, vB false] rfl <| lx_nil <| hK12 _ _ ?_; try clear hK12 K12
      refine A_gen [(0, vI c), (40, vB false)] rfl (fun T => ?_)
      refine A_cond false rfl (fun h_ => nomatch h_) (fun _ => ?_)
      refine A_skip <| fg _ (Sub.of List.Sublist.slnil) ?_
      exact ⟨hM, is_mk rfl rfl⟩
     replace hM := ifp (of_decide_eq_true hg21) hM
     refine r_R [vI c, vB (decide (c ≤ 1071)), vB (decide (c ≤ 1071)), vB (decide (c ≤ 1071))] rfl <| lx_nil <| hK12 _ _ ?_; try clear hK12 K12
     refine A_gen [(0, vI c), (40, vB (decide (c ≤ 1071)))] rfl (fun T => ?_)
     refine A_cond (decide (c ≤ 1071)) rfl (fun hc22 => ?_) (fun hc22 => ?_)
     ·replace hM := ifp (of_decide_eq_true hc22) hM
      refine A_sr <| r_V (vI c) rfl ?_
      obtain ⟨ck24, hM⟩ := ck_some hM
      refine r_X (vI (c + 32)) rfl (wi64 rfl ck24.1 ck24.2) rfl <| r_V (vI (c + 32)) rfl <| lx_nil ?_
      obtain rfl := Option.some.inj hM
      refine A_ret (fun hn => ends_eq (v0 := vI (c + 32)) rfl (res1 rfl))
     replace hM := ifn (of_decide_eq_false hc22) hM
     refine A_skip <| fg _ (Sub.of List.Sublist.slnil) ?_
     exact ⟨hM, is_mk rfl rfl⟩
    replace hM := ifp (of_decide_eq_true hg20) hM
    refine r_R [vI c, vB (c != 930), vB (c != 930), vB (c != 930), vB (c != 930)] rfl ?_
    rcases hg25 : (c != 930) with _ | _
    ·replace hM := ifn (bne_f hg25) hM
     refine r_R [vI c, vB (decide (c ≥ 1040)), vB (decide (c ≥ 1040))] rfl ?_
     rcases hg26 : (decide (c ≥ 1040)) with _ | _
     ·replace hM := ifn (of_decide_eq_false hg26) hM
      refine r_R [none, none, vB false, vB false] rfl <| lx_nil <| hK12 _ _ ?_; try clear hK12 K12
      refine A_gen [(0, vI c), (40, vB false)] rfl (fun T => ?_)
      refine A_cond false rfl (fun h_ => nomatch h_) (fun _ => ?_)
      refine A_skip <| fg _ (Sub.of List.Sublist.slnil) ?_
      exact ⟨hM, is_mk rfl rfl⟩
     replace hM := ifp (of_decide_eq_true hg26) hM
     refine r_R [vI c, vB (decide (c ≤ 1071)), vB (decide (c ≤ 1071)), vB (decide (c ≤ 1071))] rfl <| lx_nil <| hK12 _ _ ?_; try clear hK12 K12
     refine A_gen [(0, vI c), (40, vB (decide (c ≤ 1071)))] rfl (fun T => ?_)
     refine A_cond (decide (c ≤ 1071)) rfl (fun hc27 => ?_) (fun hc27 => ?_)
     ·replace hM := ifp (of_decide_eq_true hc27) hM
      refine A_sr <| r_V (vI c) rfl ?_
      obtain ⟨ck29, hM⟩ := ck_some hM
      refine r_X (vI (c + 32)) rfl (wi64 rfl ck29.1 ck29.2) rfl <| r_V (vI (c + 32)) rfl <| lx_nil ?_
      obtain rfl := Option.some.inj hM
      refine A_ret (fun hn => ends_eq (v0 := vI (c + 32)) rfl (res1 rfl))
     replace hM := ifn (of_decide_eq_false hc27) hM
     refine A_skip <| fg _ (Sub.of List.Sublist.slnil) ?_
     exact ⟨hM, is_mk rfl rfl⟩
    replace hM := ifp (bne_iff_ne.1 hg25) hM
    refine r_R [none, none, none] rfl <| r_nu rfl rfl <| r_nu rfl rfl <| r_R [none, vB true] rfl <| lx_nil <| hK12 _ _ ?_; try clear hK12 K12
    refine A_gen [(0, vI c), (40, vB true)] rfl (fun T => ?_)
    refine A_cond true rfl (fun _ => ?_) (fun h_ => nomatch h_)
    refine A_sr <| r_V (vI c) rfl ?_
    obtain ⟨ck31, hM⟩ := ck_some hM
    refine r_X (vI (c + 32)) rfl (wi64 rfl ck31.1 ck31.2) rfl <| r_V (vI (c + 32)) rfl <| lx_nil ?_
    obtain rfl := Option.some.inj hM
    refine A_ret (fun hn => ends_eq (v0 := vI (c + 32)) rfl (res1 rfl))
   replace hM := ifp (of_decide_eq_true hg14) hM
   refine r_R [vI c, vB (decide (c ≤ 222)), vB (decide (c ≤ 222)), vB (decide (c ≤ 222))] rfl ?_
   rcases hg32 : (decide (c ≤ 222)) with _ | _
   ·replace hM := ifn (of_decide_eq_false hg32) hM
    refine r_R [none, none, vB false, vB false, vB false, vI c, vB (decide (c ≥ 913)), vB (decide (c ≥ 913))] rfl ?_
    rcases hg33 : (decide (c ≥ 913)) with _ | _
    ·replace hM := ifn (of_decide_eq_false hg33) hM
     refine r_R [none, none, vB false, vB false, none, none, vB false, vB false, vB false, vI c, vB (decide (c ≥ 1040)), vB (decide (c ≥ 1040))] rfl ?_
     rcases hg34 : (decide (c ≥ 1040)) with _ | _
     ·replace hM := ifn (of_decide_eq_false hg34) hM
      refine r_R [none, none, vB false, vB false] rfl <| lx_nil <| hK12 _ _ ?_; try clear hK12 K12
      refine A_gen [(0, vI c), (40, vB false)] rfl (fun T => ?_)
      refine A_cond false rfl (fun h_ => nomatch h_) (fun _ => ?_)
      refine A_skip <| fg _ (Sub.of List.Sublist.slnil) ?_
      exact ⟨hM, is_mk rfl rfl⟩
     replace hM := ifp (of_decide_eq_true hg34) hM
     refine r_R [vI c, vB (decide (c ≤ 1071)), vB (decide (c ≤ 1071)), vB (decide (c ≤ 1071))] rfl <| lx_nil <| hK12 _ _ ?_; try clear hK12 K12
     refine A_gen [(0, vI c), (40, vB (decide (c ≤ 1071)))] rfl (fun T => ?_)
     refine A_cond (decide (c ≤ 1071)) rfl (fun hc35 => ?_) (fun hc35 => ?_)
     ·replace hM := ifp (of_decide_eq_true hc35) hM
      refine A_sr <| r_V (vI c) rfl ?_
      obtain ⟨ck37, hM⟩ := ck_some hM
      refine r_X (vI (c + 32)) rfl (wi64 rfl ck37.1 ck37.2) rfl <| r_V (vI (c + 32)) rfl <| lx_nil ?_
      obtain rfl := Option.some.inj hM
      refine A_ret (fun hn => ends_eq (v0 := vI (c + 32)) rfl (res1 rfl))
     replace hM := ifn (of_decide_eq_false hc35) hM
     refine A_skip <| fg _ (Sub.of List.Sublist.slnil) ?_
     exact ⟨hM, is_mk rfl rfl⟩
    replace hM := ifp (of_decide_eq_true hg33) hM
    refine r_R [vI c, vB (decide (c ≤ 937)), vB (decide (c ≤ 937)), vB (decide (c ≤ 937))] rfl ?_
    rcases hg38 : (decide (c ≤ 937)) with _ | _
    ·replace hM := ifn (of_decide_eq_false hg38) hM
     refine r_R [none, none, vB false, vB false, vB false, vI c, vB (decide (c ≥ 1040)), vB (decide (c ≥ 1040))] rfl ?_
     rcases hg39 : (decide (c ≥ 1040)) with _ | _
     ·replace hM := ifn (of_decide_eq_false hg39) hM
      refine r_R [none, none, vB false, vB false] rfl <| lx_nil <| hK12 _ _ ?_; try clear hK12 K12
      refine A_gen [(0, vI c), (40, vB false)] rfl (fun T => ?_)
      refine A_cond false rfl (fun h_ => nomatch h_) (fun _ => ?_)
      refine A_skip <| fg _ (Sub.of List.Sublist.slnil) ?_
      exact ⟨hM, is_mk rfl rfl⟩
     replace hM := ifp (of_decide_eq_true hg39) hM
     refine r_R [vI c, vB (decide (c ≤ 1071)), vB (decide (c ≤ 1071)), vB (decide (c ≤ 1071))] rfl <| lx_nil <| hK12 _ _ ?_; try clear hK12 K12
     refine A_gen [(0, vI c), (40, vB (decide (c ≤ 1071)))] rfl (fun T => ?_)
     refine A_cond (decide (c ≤ 1071)) rfl (fun hc40 => ?_) (fun hc40 => ?_)
     ·replace hM := ifp (of_decide_eq_true hc40) hM
      refine A_sr <| r_V (vI c) rfl ?_
      obtain ⟨ck42, hM⟩ := ck_some hM
      refine r_X (vI (c + 32)) rfl (wi64 rfl ck42.1 ck42.2) rfl <| r_V (vI (c + 32)) rfl <| lx_nil ?_
      obtain rfl := Option.some.inj hM
      refine A_ret (fun hn => ends_eq (v0 := vI (c + 32)) rfl (res1 rfl))
     replace hM := ifn (of_decide_eq_false hc40) hM
     refine A_skip <| fg _ (Sub.of List.Sublist.slnil) ?_
     exact ⟨hM, is_mk rfl rfl⟩
    replace hM := ifp (of_decide_eq_true hg38) hM
    refine r_R [vI c, vB (c != 930), vB (c != 930), vB (c != 930), vB (c != 930)] rfl ?_
    rcases hg43 : (c != 930) with _ | _
    ·replace hM := ifn (bne_f hg43) hM
     refine r_R [vI c, vB (decide (c ≥ 1040)), vB (decide (c ≥ 1040))] rfl ?_
     rcases hg44 : (decide (c ≥ 1040)) with _ | _
     ·replace hM := ifn (of_decide_eq_false hg44) hM
      refine r_R [none, none, vB false, vB false] rfl <| lx_nil <| hK12 _ _ ?_; try clear hK12 K12
      refine A_gen [(0, vI c), (40, vB false)] rfl (fun T => ?_)
      refine A_cond false rfl (fun h_ => nomatch h_) (fun _ => ?_)
      refine A_skip <| fg _ (Sub.of List.Sublist.slnil) ?_
      exact ⟨hM, is_mk rfl rfl⟩
     replace hM := ifp (of_decide_eq_true hg44) hM
     refine r_R [vI c, vB (decide (c ≤ 1071)), vB (decide (c ≤ 1071)), vB (decide (c ≤ 1071))] rfl <| lx_nil <| hK12 _ _ ?_; try clear hK12 K12
     refine A_gen [(0, vI c), (40, vB (decide (c ≤ 1071)))] rfl (fun T => ?_)
     refine A_cond (decide (c ≤ 1071)) rfl (fun hc45 => ?_) (fun hc45 => ?_)
     ·replace hM := ifp (of_decide_eq_true hc45) hM
      refine A_sr <| r_V (vI c) rfl ?_
      obtain ⟨ck47, hM⟩ := ck_some hM
      refine r_X (vI (c + 32)) rfl (wi64 rfl ck47.1 ck47.2) rfl <| r_V (vI (c + 32)) rfl <| lx_nil ?_
      obtain rfl := Option.some.inj hM
      refine A_ret (fun hn => ends_eq (v0 := vI (c + 32)) rfl (res1 rfl))
     replace hM := ifn (of_decide_eq_false hc45) hM
     refine A_skip <| fg _ (Sub.of List.Sublist.slnil) ?_
     exact ⟨hM, is_mk rfl rfl⟩
    replace hM := ifp (bne_iff_ne.1 hg43) hM
    refine r_R [none, none, none] rfl <| r_nu rfl rfl <| r_nu rfl rfl <| r_R [none, vB true] rfl <| lx_nil <| hK12 _ _ ?_; try clear hK12 K12
    refine A_gen [(0, vI c), (40, vB true)] rfl (fun T => ?_)
    refine A_cond true rfl (fun _ => ?_) (fun h_ => nomatch h_)
    refine A_sr <| r_V (vI c) rfl ?_
    obtain ⟨ck49, hM⟩ := ck_some hM
    refine r_X (vI (c + 32)) rfl (wi64 rfl ck49.1 ck49.2) rfl <| r_V (vI (c + 32)) rfl <| lx_nil ?_
    obtain rfl := Option.some.inj hM
    refine A_ret (fun hn => ends_eq (v0 := vI (c + 32)) rfl (res1 rfl))
   replace hM := ifp (of_decide_eq_true hg32) hM
   refine r_R [vI c, vB (c != 215), vB (c != 215), vB (c != 215), vB (c != 215)] rfl ?_
   rcases hg50 : (c != 215) with _ | _
   ·replace hM := ifn (bne_f hg50) hM
    refine r_R [vI c, vB (decide (c ≥ 913)), vB (decide (c ≥ 913))] rfl ?_
    rcases hg51 : (decide (c ≥ 913)) with _ | _
    ·replace hM := ifn (of_decide_eq_false hg51) hM
     refine r_R [none, none, vB false, vB false, none, none, vB false, vB false, vB false, vI c, vB (decide (c ≥ 1040)), vB (decide (c ≥ 1040))] rfl ?_
     rcases hg52 : (decide (c ≥ 1040)) with _ | _
     ·replace hM := ifn (of_decide_eq_false hg52) hM
      refine r_R [none, none, vB false, vB false] rfl <| lx_nil <| hK12 _ _ ?_; try clear hK12 K12
      refine A_gen [(0, vI c), (40, vB false)] rfl (fun T => ?_)
      refine A_cond false rfl (fun h_ => nomatch h_) (fun _ => ?_)
      refine A_skip <| fg _ (Sub.of List.Sublist.slnil) ?_
      exact ⟨hM, is_mk rfl rfl⟩
     replace hM := ifp (of_decide_eq_true hg52) hM
     refine r_R [vI c, vB (decide (c ≤ 1071)), vB (decide (c ≤ 1071)), vB (decide (c ≤ 1071))] rfl <| lx_nil <| hK12 _ _ ?_; try clear hK12 K12
     refine A_gen [(0, vI c), (40, vB (decide (c ≤ 1071)))] rfl (fun T => ?_)
     refine A_cond (decide (c ≤ 1071)) rfl (fun hc53 => ?_) (fun hc53 => ?_)
     ·replace hM := ifp (of_decide_eq_true hc53) hM
      refine A_sr <| r_V (vI c) rfl ?_
      obtain ⟨ck55, hM⟩ := ck_some hM
      refine r_X (vI (c + 32)) rfl (wi64 rfl ck55.1 ck55.2) rfl <| r_V (vI (c + 32)) rfl <| lx_nil ?_
      obtain rfl := Option.some.inj hM
      refine A_ret (fun hn => ends_eq (v0 := vI (c + 32)) rfl (res1 rfl))
     replace hM := ifn (of_decide_eq_false hc53) hM
     refine A_skip <| fg _ (Sub.of List.Sublist.slnil) ?_
     exact ⟨hM, is_mk rfl rfl⟩
    replace hM := ifp (of_decide_eq_true hg51) hM
    refine r_R [vI c, vB (decide (c ≤ 937)), vB (decide (c ≤ 937)), vB (decide (c ≤ 937))] rfl ?_
    rcases hg56 : (decide (c ≤ 937)) with _ | _
    ·replace hM := ifn (of_decide_eq_false hg56) hM
     refine r_R [none, none, vB false, vB false, vB false, vI c, vB (decide (c ≥ 1040)), vB (decide (c ≥ 1040))] rfl ?_
     rcases hg57 : (decide (c ≥ 1040)) with _ | _
     ·replace hM := ifn (of_decide_eq_false hg57) hM
      refine r_R [none, none, vB false, vB false] rfl <| lx_nil <| hK12 _ _ ?_; try clear hK12 K12
      refine A_gen [(0, vI c), (40, vB false)] rfl (fun T => ?_)
      refine A_cond false rfl (fun h_ => nomatch h_) (fun _ => ?_)
      refine A_skip <| fg _ (Sub.of List.Sublist.slnil) ?_
      exact ⟨hM, is_mk rfl rfl⟩
     replace hM := ifp (of_decide_eq_true hg57) hM
     refine r_R [vI c, vB (decide (c ≤ 1071)), vB (decide (c ≤ 1071)), vB (decide (c ≤ 1071))] rfl <| lx_nil <| hK12 _ _ ?_; try clear hK12 K12
     refine A_gen [(0, vI c), (40, vB (decide (c ≤ 1071)))] rfl (fun T => ?_)
     refine A_cond (decide (c ≤ 1071)) rfl (fun hc58 => ?_) (fun hc58 => ?_)
     ·replace hM := ifp (of_decide_eq_true hc58) hM
      refine A_sr <| r_V (vI c) rfl ?_
      obtain ⟨ck60, hM⟩ := ck_some hM
      refine r_X (vI (c + 32)) rfl (wi64 rfl ck60.1 ck60.2) rfl <| r_V (vI (c + 32)) rfl <| lx_nil ?_
      obtain rfl := Option.some.inj hM
      refine A_ret (fun hn => ends_eq (v0 := vI (c + 32)) rfl (res1 rfl))
     replace hM := ifn (of_decide_eq_false hc58) hM
     refine A_skip <| fg _ (Sub.of List.Sublist.slnil) ?_
     exact ⟨hM, is_mk rfl rfl⟩
    replace hM := ifp (of_decide_eq_true hg56) hM
    refine r_R [vI c, vB (c != 930), vB (c != 930), vB (c != 930), vB (c != 930)] rfl ?_
    rcases hg61 : (c != 930) with _ | _
    ·replace hM := ifn (bne_f hg61) hM
     refine r_R [vI c, vB (decide (c ≥ 1040)), vB (decide (c ≥ 1040))] rfl ?_
     rcases hg62 : (decide (c ≥ 1040)) with _ | _
     ·replace hM := ifn (of_decide_eq_false hg62) hM
      refine r_R [none, none, vB false, vB false] rfl <| lx_nil <| hK12 _ _ ?_; try clear hK12 K12
      refine A_gen [(0, vI c), (40, vB false)] rfl (fun T => ?_)
      refine A_cond false rfl (fun h_ => nomatch h_) (fun _ => ?_)
      refine A_skip <| fg _ (Sub.of List.Sublist.slnil) ?_
      exact ⟨hM, is_mk rfl rfl⟩
     replace hM := ifp (of_decide_eq_true hg62) hM
     refine r_R [vI c, vB (decide (c ≤ 1071)), vB (decide (c ≤ 1071)), vB (decide (c ≤ 1071))] rfl <| lx_nil <| hK12 _ _ ?_; try clear hK12 K12
     refine A_gen [(0, vI c), (40, vB (decide (c ≤ 1071)))] rfl (fun T => ?_)
     refine A_cond (decide (c ≤ 1071)) rfl (fun hc63 => ?_) (fun hc63 => ?_)
     ·replace hM := ifp (of_decide_eq_true hc63) hM
      refine A_sr <| r_V (vI c) rfl ?_
      obtain ⟨ck65, hM⟩ := ck_some hM
      refine r_X (vI (c + 32)) rfl (wi64 rfl ck65.1 ck65.2) rfl <| r_V (vI (c + 32)) rfl <| lx_nil ?_
      obtain rfl := Option.some.inj hM
      refine A_ret (fun hn => ends_eq (v0 := vI (c + 32)) rfl (res1 rfl))
     replace hM := ifn (of_decide_eq_false hc63) hM
     refine A_skip <| fg _ (Sub.of List.Sublist.slnil) ?_
     exact ⟨hM, is_mk rfl rfl⟩
    replace hM := ifp (bne_iff_ne.1 hg61) hM
    refine r_R [none, none, none] rfl <| r_nu rfl rfl <| r_nu rfl rfl <| r_R [none, vB true] rfl <| lx_nil <| hK12 _ _ ?_; try clear hK12 K12
    refine A_gen [(0, vI c), (40, vB true)] rfl (fun T => ?_)
    refine A_cond true rfl (fun _ => ?_) (fun h_ => nomatch h_)
    refine A_sr <| r_V (vI c) rfl ?_
    obtain ⟨ck67, hM⟩ := ck_some hM
    refine r_X (vI (c + 32)) rfl (wi64 rfl ck67.1 ck67.2) rfl <| r_V (vI (c + 32)) rfl <| lx_nil ?_
    obtain rfl := Option.some.inj hM
    refine A_ret (fun hn => ends_eq (v0 := vI (c + 32)) rfl (res1 rfl))
   replace hM := ifp (bne_iff_ne.1 hg50) hM
   refine r_R [none, none, none] rfl <| r_nu rfl rfl <| r_nu rfl rfl <| r_R [none, none] rfl <| r_nu rfl rfl <| r_nu rfl rfl <| r_R [none, vB true, vB true, none, none, none] rfl <| r_nu rfl rfl <| r_nu rfl rfl <| r_R [none, vB true] rfl <| lx_nil <| hK12 _ _ ?_; try clear hK12 K12
   refine A_gen [(0, vI c), (40, vB true)] rfl (fun T => ?_)
   refine A_cond true rfl (fun _ => ?_) (fun h_ => nomatch h_)
   refine A_sr <| r_V (vI c) rfl ?_
   obtain ⟨ck69, hM⟩ := ck_some hM
   refine r_X (vI (c + 32)) rfl (wi64 rfl ck69.1 ck69.2) rfl <| r_V (vI (c + 32)) rfl <| lx_nil ?_
   obtain rfl := Option.some.inj hM
   refine A_ret (fun hn => ends_eq (v0 := vI (c + 32)) rfl (res1 rfl))
  replace hM := ifp (of_decide_eq_true hg13) hM
  refine r_R [vI c, vB (decide (c ≤ 90)), vB (decide (c ≤ 90)), vB (decide (c ≤ 90))] rfl ?_
  rcases hg70 : (decide (c ≤ 90)) with _ | _
  ·replace hM := ifn (of_decide_eq_false hg70) hM
   refine r_R [vI c, vB (decide (c ≥ 192)), vB (decide (c ≥ 192))] rfl ?_
   rcases hg71 : (decide (c ≥ 192)) with _ | _
   ·replace hM := ifn (of_decide_eq_false hg71) hM
    refine r_R [none, none, vB false, vB false, none, none, vB false, vB false, vB false, vI c, vB (decide (c ≥ 913)), vB (decide (c ≥ 913))] rfl ?_
    rcases hg72 : (decide (c ≥ 913)) with _ | _
    ·replace hM := ifn (of_decide_eq_false hg72) hM
     refine r_R [none, none, vB false, vB false, none, none, vB false, vB false, vB false, vI c, vB (decide (c ≥ 1040)), vB (decide (c ≥ 1040))] rfl ?_
     rcases hg73 : (decide (c ≥ 1040)) with _ | _
     ·replace hM := ifn (of_decide_eq_false hg73) hM
      refine r_R [none, none, vB false, vB false] rfl <| lx_nil <| hK12 _ _ ?_; try clear hK12 K12
      refine A_gen [(0, vI c), (40, vB false)] rfl (fun T => ?_)
      refine A_cond false rfl (fun h_ => nomatch h_) (fun _ => ?_)
      refine A_skip <| fg _ (Sub.of List.Sublist.slnil) ?_
      exact ⟨hM, is_mk rfl rfl⟩
     replace hM := ifp (of_decide_eq_true hg73) hM
     refine r_R [vI c, vB (decide (c ≤ 1071)), vB (decide (c ≤ 1071)), vB (decide (c ≤ 1071))] rfl <| lx_nil <| hK12 _ _ ?_; try clear hK12 K12
     refine A_gen [(0, vI c), (40, vB (decide (c ≤ 1071)))] rfl (fun T => ?_)
     refine A_cond (decide (c ≤ 1071)) rfl (fun hc74 => ?_) (fun hc74 => ?_)
     ·replace hM := ifp (of_decide_eq_true hc74) hM
      refine A_sr <| r_V (vI c) rfl ?_
      obtain ⟨ck76, hM⟩ := ck_some hM
      refine r_X (vI (c + 32)) rfl (wi64 rfl ck76.1 ck76.2) rfl <| r_V (vI (c + 32)) rfl <| lx_nil ?_
      obtain rfl := Option.some.inj hM
      refine A_ret (fun hn => ends_eq (v0 := vI (c + 32)) rfl (res1 rfl))
     replace hM := ifn (of_decide_eq_false hc74) hM
     refine A_skip <| fg _ (Sub.of List.Sublist.slnil) ?_
     exact ⟨hM, is_mk rfl rfl⟩
    replace hM := ifp (of_decide_eq_true hg72) hM
    refine r_R [vI c, vB (decide (c ≤ 937)), vB (decide (c ≤ 937)), vB (decide (c ≤ 937))] rfl ?_
    rcases hg77 : (decide (c ≤ 937)) with _ | _
    ·replace hM := ifn (of_decide_eq_false hg77) hM
     refine r_R [none, none, vB false, vB false, vB false, vI c, vB (decide (c ≥ 1040)), vB (decide (c ≥ 1040))] rfl ?_
     rcases hg78 : (decide (c ≥ 1040)) with _ | _
     ·replace hM := ifn (of_decide_eq_false hg78) hM
      refine r_R [none, none, vB false, vB false] rfl <| lx_nil <| hK12 _ _ ?_; try clear hK12 K12
      refine A_gen [(0, vI c), (40, vB false)] rfl (fun T => ?_)
      refine A_cond false rfl (fun h_ => nomatch h_) (fun _ => ?_)
      refine A_skip <| fg _ (Sub.of List.Sublist.slnil) ?_
      exact ⟨hM, is_mk rfl rfl⟩
     replace hM := ifp (of_decide_eq_true hg78) hM
     refine r_R [vI c, vB (decide (c ≤ 1071)), vB (decide (c ≤ 1071)), vB (decide (c ≤ 1071))] rfl <| lx_nil <| hK12 _ _ ?_; try clear hK12 K12
     refine A_gen [(0, vI c), (40, vB (decide (c ≤ 1071)))] rfl (fun T => ?_)
     refine A_cond (decide (c ≤ 1071)) rfl (fun hc79 => ?_) (fun hc79 => ?_)
     ·replace hM := ifp (of_decide_eq_true hc79) hM
      refine A_sr <| r_V (vI c) rfl ?_
      obtain ⟨ck81, hM⟩ := ck_some hM
      refine r_X (vI (c + 32)) rfl (wi64 rfl ck81.1 ck81.2) rfl <| r_V (vI (c + 32)) rfl <| lx_nil ?_
      obtain rfl := Option.some.inj hM
      refine A_ret (fun hn => ends_eq (v0 := vI (c + 32)) rfl (res1 rfl))
     replace hM := ifn (of_decide_eq_false hc79) hM
     refine A_skip <| fg _ (Sub.of List.Sublist.slnil) ?_
     exact ⟨hM, is_mk rfl rfl⟩
    replace hM := ifp (of_decide_eq_true hg77) hM
    refine r_R [vI c, vB (c != 930), vB (c != 930), vB (c != 930), vB (c != 930)] rfl ?_
    rcases hg82 : (c != 930) with _ | _
    ·replace hM := ifn (bne_f hg82) hM
     refine r_R [vI c, vB (decide (c ≥ 1040)), vB (decide (c ≥ 1040))] rfl ?_
     rcases hg83 : (decide (c ≥ 1040)) with _ | _
     ·replace hM := ifn (of_decide_eq_false hg83) hM
      refine r_R [none, none, vB false, vB false] rfl <| lx_nil <| hK12 _ _ ?_; try clear hK12 K12
      refine A_gen [(0, vI c), (40, vB false)] rfl (fun T => ?_)
      refine A_cond false rfl (fun h_ => nomatch h_) (fun _ => ?_)
      refine A_skip <| fg _ (Sub.of List.Sublist.slnil) ?_
      exact ⟨hM, is_mk rfl rfl⟩
     replace hM := ifp (of_decide_eq_true hg83) hM
     refine r_R [vI c, vB (decide (c ≤ 1071)), vB (decide (c ≤ 1071)), vB (decide (c ≤ 1071))] rfl <| lx_nil <| hK12 _ _ ?_; try clear hK12 K12
     refine A_gen [(0, vI c), (40, vB (decide (c ≤ 1071)))] rfl (fun T => ?_)
     refine A_cond (decide (c ≤ 1071)) rfl (fun hc84 => ?_) (fun hc84 => ?_)
     ·replace hM := ifp (of_decide_eq_true hc84) hM
      refine A_sr <| r_V (vI c) rfl ?_
      obtain ⟨ck86, hM⟩ := ck_some hM
      refine r_X (vI (c + 32)) rfl (wi64 rfl ck86.1 ck86.2) rfl <| r_V (vI (c + 32)) rfl <| lx_nil ?_
      obtain rfl := Option.some.inj hM
      refine A_ret (fun hn => ends_eq (v0 := vI (c + 32)) rfl (res1 rfl))
     replace hM := ifn (of_decide_eq_false hc84) hM
     refine A_skip <| fg _ (Sub.of List.Sublist.slnil) ?_
     exact ⟨hM, is_mk rfl rfl⟩
    replace hM := ifp (bne_iff_ne.1 hg82) hM
    refine r_R [none, none, none] rfl <| r_nu rfl rfl <| r_nu rfl rfl <| r_R [none, vB true] rfl <| lx_nil <| hK12 _ _ ?_; try clear hK12 K12
    refine A_gen [(0, vI c), (40, vB true)] rfl (fun T => ?_)
    refine A_cond true rfl (fun _ => ?_) (fun h_ => nomatch h_)
    refine A_sr <| r_V (vI c) rfl ?_
    obtain ⟨ck88, hM⟩ := ck_some hM
    refine r_X (vI (c + 32)) rfl (wi64 rfl ck88.1 ck88.2) rfl <| r_V (vI (c + 32)) rfl <| lx_nil ?_
    obtain rfl := Option.some.inj hM
    refine A_ret (fun hn => ends_eq (v0 := vI (c + 32)) rfl (res1 rfl))
   replace hM := ifp (of_decide_eq_true hg71) hM
   refine r_R [vI c, vB (decide (c ≤ 222)), vB (decide (c ≤ 222)), vB (decide (c ≤ 222))] rfl ?_
   rcases hg89 : (decide (c ≤ 222)) with _ | _
   ·replace hM := ifn (of_decide_eq_false hg89) hM
    refine r_R [none, none, vB false, vB false, vB false, vI c, vB (decide (c ≥ 913)), vB (decide (c ≥ 913))] rfl ?_
    rcases hg90 : (decide (c ≥ 913)) with _ | _
    ·replace hM := ifn (of_decide_eq_false hg90) hM
     refine r_R [none, none, vB false, vB false, none, none, vB false, vB false, vB false, vI c, vB (decide (c ≥ 1040)), vB (decide (c ≥ 1040))] rfl ?_
     rcases hg91 : (decide (c ≥ 1040)) with _ | _
     ·replace hM := ifn (of_decide_eq_false hg91) hM
      refine r_R [none, none, vB false, vB false] rfl <| lx_nil <| hK12 _ _ ?_; try clear hK12 K12
      refine A_gen [(0, vI c), (40, vB false)] rfl (fun T => ?_)
      refine A_cond false rfl (fun h_ => nomatch h_) (fun _ => ?_)
      refine A_skip <| fg _ (Sub.of List.Sublist.slnil) ?_
      exact ⟨hM, is_mk rfl rfl⟩
     replace hM := ifp (of_decide_eq_true hg91) hM
     refine r_R [vI c, vB (decide (c ≤ 1071)), vB (decide (c ≤ 1071)), vB (decide (c ≤ 1071))] rfl <| lx_nil <| hK12 _ _ ?_; try clear hK12 K12
     refine A_gen [(0, vI c), (40, vB (decide (c ≤ 1071)))] rfl (fun T => ?_)
     refine A_cond (decide (c ≤ 1071)) rfl (fun hc92 => ?_) (fun hc92 => ?_)
     ·replace hM := ifp (of_decide_eq_true hc92) hM
      refine A_sr <| r_V (vI c) rfl ?_
      obtain ⟨ck94, hM⟩ := ck_some hM
      refine r_X (vI (c + 32)) rfl (wi64 rfl ck94.1 ck94.2) rfl <| r_V (vI (c + 32)) rfl <| lx_nil ?_
      obtain rfl := Option.some.inj hM
      refine A_ret (fun hn => ends_eq (v0 := vI (c + 32)) rfl (res1 rfl))
     replace hM := ifn (of_decide_eq_false hc92) hM
     refine A_skip <| fg _ (Sub.of List.Sublist.slnil) ?_
     exact ⟨hM, is_mk rfl rfl⟩
    replace hM := ifp (of_decide_eq_true hg90) hM
    refine r_R [vI c, vB (decide (c ≤ 937)), vB (decide (c ≤ 937)), vB (decide (c ≤ 937))] rfl ?_
    rcases hg95 : (decide (c ≤ 937)) with _ | _
    ·replace hM := ifn (of_decide_eq_false hg95) hM
     refine r_R [none, none, vB false, vB false, vB false, vI c, vB (decide (c ≥ 1040)), vB (decide (c ≥ 1040))] rfl ?_
     rcases hg96 : (decide (c ≥ 1040)) with _ | _
     ·replace hM := ifn (of_decide_eq_false hg96) hM
      refine r_R [none, none, vB false, vB false] rfl <| lx_nil <| hK12 _ _ ?_; try clear hK12 K12
      refine A_gen [(0, vI c), (40, vB false)] rfl (fun T => ?_)
      refine A_cond false rfl (fun h_ => nomatch h_) (fun _ => ?_)
      refine A_skip <| fg _ (Sub.of List.Sublist.slnil) ?_
      exact ⟨hM, is_mk rfl rfl⟩
     replace hM := ifp (of_decide_eq_true hg96) hM
     refine r_R [vI c, vB (decide (c ≤ 1071)), vB (decide (c ≤ 1071)), vB (decide (c ≤ 1071))] rfl <| lx_nil <| hK12 _ _ ?_; try clear hK12 K12
     refine A_gen [(0, vI c), (40, vB (decide (c ≤ 1071)))] rfl (fun T => ?_)
     refine A_cond (decide (c ≤ 1071)) rfl (fun hc97 => ?_) (fun hc97 => ?_)
     ·replace hM := ifp (of_decide_eq_true hc97) hM
      refine A_sr <| r_V (vI c) rfl ?_
      obtain ⟨ck99, hM⟩ := ck_some hM
      refine r_X (vI (c + 32)) rfl (wi64 rfl ck99.1 ck99.2) rfl <| r_V (vI (c + 32)) rfl <| lx_nil ?_
      obtain rfl := Option.some.inj hM
      refine A_ret (fun hn => ends_eq (v0 := vI (c + 32)) rfl (res1 rfl))
     replace hM := ifn (of_decide_eq_false hc97) hM
     refine A_skip <| fg _ (Sub.of List.Sublist.slnil) ?_
     exact ⟨hM, is_mk rfl rfl⟩
    replace hM := ifp (of_decide_eq_true hg95) hM
    refine r_R [vI c, vB (c != 930), vB (c != 930), vB (c != 930), vB (c != 930)] rfl ?_
    rcases hg100 : (c != 930) with _ | _
    ·replace hM := ifn (bne_f hg100) hM
     refine r_R [vI c, vB (decide (c ≥ 1040)), vB (decide (c ≥ 1040))] rfl ?_
     rcases hg101 : (decide (c ≥ 1040)) with _ | _
     ·replace hM := ifn (of_decide_eq_false hg101) hM
      refine r_R [none, none, vB false, vB false] rfl <| lx_nil <| hK12 _ _ ?_; try clear hK12 K12
      refine A_gen [(0, vI c), (40, vB false)] rfl (fun T => ?_)
      refine A_cond false rfl (fun h_ => nomatch h_) (fun _ => ?_)
      refine A_skip <| fg _ (Sub.of List.Sublist.slnil) ?_
      exact ⟨hM, is_mk rfl rfl⟩
     replace hM := ifp (of_decide_eq_true hg101) hM
     refine r_R [vI c, vB (decide (c ≤ 1071)), vB (decide (c ≤ 1071)), vB (decide (c ≤ 1071))] rfl <| lx_nil <| hK12 _ _ ?_; try clear hK12 K12
     refine A_gen [(0, vI c), (40, vB (decide (c ≤ 1071)))] rfl (fun T => ?_)
     refine A_cond (decide (c ≤ 1071)) rfl (fun hc102 => ?_) (fun hc102 => ?_)
     ·replace hM := ifp (of_decide_eq_true hc102) hM
      refine A_sr <| r_V (vI c) rfl ?_
      obtain ⟨ck104, hM⟩ := ck_some hM
      refine r_X (vI (c + 32)) rfl (wi64 rfl ck104.1 ck104.2) rfl <| r_V (vI (c + 32)) rfl <| lx_nil ?_
      obtain rfl := Option.some.inj hM
      refine A_ret (fun hn => ends_eq (v0 := vI (c + 32)) rfl (res1 rfl))
     replace hM := ifn (of_decide_eq_false hc102) hM
     refine A_skip <| fg _ (Sub.of List.Sublist.slnil) ?_
     exact ⟨hM, is_mk rfl rfl⟩
    replace hM := ifp (bne_iff_ne.1 hg100) hM
    refine r_R [none, none, none] rfl <| r_nu rfl rfl <| r_nu rfl rfl <| r_R [none, vB true] rfl <| lx_nil <| hK12 _ _ ?_; try clear hK12 K12
    refine A_gen [(0, vI c), (40, vB true)] rfl (fun T => ?_)
    refine A_cond true rfl (fun _ => ?_) (fun h_ => nomatch h_)
    refine A_sr <| r_V (vI c) rfl ?_
    obtain ⟨ck106, hM⟩ := ck_some hM
    refine r_X (vI (c + 32)) rfl (wi64 rfl ck106.1 ck106.2) rfl <| r_V (vI (c + 32)) rfl <| lx_nil ?_
    obtain rfl := Option.some.inj hM
    refine A_ret (fun hn => ends_eq (v0 := vI (c + 32)) rfl (res1 rfl))
   replace hM := ifp (of_decide_eq_true hg89) hM
   refine r_R [vI c, vB (c != 215), vB (c != 215), vB (c != 215), vB (c != 215)] rfl ?_
   rcases hg107 : (c != 215) with _ | _
   ·replace hM := ifn (bne_f hg107) hM
    refine r_R [vI c, vB (decide (c ≥ 913)), vB (decide (c ≥ 913))] rfl ?_
    rcases hg108 : (decide (c ≥ 913)) with _ | _
    ·replace hM := ifn (of_decide_eq_false hg108) hM
     refine r_R [none, none, vB false, vB false, none, none, vB false, vB false, vB false, vI c, vB (decide (c ≥ 1040)), vB (decide (c ≥ 1040))] rfl ?_
     rcases hg109 : (decide (c ≥ 1040)) with _ | _
     ·replace hM := ifn (of_decide_eq_false hg109) hM
      refine r_R [none, none, vB false, vB false] rfl <| lx_nil <| hK12 _ _ ?_; try clear hK12 K12
      refine A_gen [(0, vI c), (40, vB false)] rfl (fun T => ?_)
      refine A_cond false rfl (fun h_ => nomatch h_) (fun _ => ?_)
      refine A_skip <| fg _ (Sub.of List.Sublist.slnil) ?_
      exact ⟨hM, is_mk rfl rfl⟩
     replace hM := ifp (of_decide_eq_true hg109) hM
     refine r_R [vI c, vB (decide (c ≤ 1071)), vB (decide (c ≤ 1071)), vB (decide (c ≤ 1071))] rfl <| lx_nil <| hK12 _ _ ?_; try clear hK12 K12
     refine A_gen [(0, vI c), (40, vB (decide (c ≤ 1071)))] rfl (fun T => ?_)
     refine A_cond (decide (c ≤ 1071)) rfl (fun hc110 => ?_) (fun hc110 => ?_)
     ·replace hM := ifp (of_decide_eq_true hc110) hM
      refine A_sr <| r_V (vI c) rfl ?_
      obtain ⟨ck112, hM⟩ := ck_some hM
      refine r_X (vI (c + 32)) rfl (wi64 rfl ck112.1 ck112.2) rfl <| r_V (vI (c + 32)) rfl <| lx_nil ?_
      obtain rfl := Option.some.inj hM
      refine A_ret (fun hn => ends_eq (v0 := vI (c + 32)) rfl (res1 rfl))
     replace hM := ifn (of_decide_eq_false hc110) hM
     refine A_skip <| fg _ (Sub.of List.Sublist.slnil) ?_
     exact ⟨hM, is_mk rfl rfl⟩
    replace hM := ifp (of_decide_eq_true hg108) hM
    refine r_R [vI c, vB (decide (c ≤ 937)), vB (decide (c ≤ 937)), vB (decide (c ≤ 937))] rfl ?_
    rcases hg113 : (decide (c ≤ 937)) with _ | _
    ·replace hM := ifn (of_decide_eq_false hg113) hM
     refine r_R [none, none, vB false, vB false, vB false, vI c, vB (decide (c ≥ 1040)), vB (decide (c ≥ 1040))] rfl ?_
     rcases hg114 : (decide (c ≥ 1040)) with _ | _
     ·replace hM := ifn (of_decide_eq_false hg114) hM
      refine r_R [none, none, vB false, vB false] rfl <| lx_nil <| hK12 _ _ ?_; try clear hK12 K12
      refine A_gen [(0, vI c), (40, vB false)] rfl (fun T => ?_)
      refine A_cond false rfl (fun h_ => nomatch h_) (fun _ => ?_)
      refine A_skip <| fg _ (Sub.of List.Sublist.slnil) ?_
      exact ⟨hM, is_mk rfl rfl⟩
     replace hM := ifp (of_decide_eq_true hg114) hM
     refine r_R [vI c, vB (decide (c ≤ 1071)), vB (decide (c ≤ 1071)), vB (decide (c ≤ 1071))] rfl <| lx_nil <| hK12 _ _ ?_; try clear hK12 K12
     refine A_gen [(0, vI c), (40, vB (decide (c ≤ 1071)))] rfl (fun T => ?_)
     refine A_cond (decide (c ≤ 1071)) rfl (fun hc115 => ?_) (fun hc115 => ?_)
     ·replace hM := ifp (of_decide_eq_true hc115) hM
      refine A_sr <| r_V (vI c) rfl ?_
      obtain ⟨ck117, hM⟩ := ck_some hM
      refine r_X (vI (c + 32)) rfl (wi64 rfl ck117.1 ck117.2) rfl <| r_V (vI (c + 32)) rfl <| lx_nil ?_
      obtain rfl := Option.some.inj hM
      refine A_ret (fun hn => ends_eq (v0 := vI (c + 32)) rfl (res1 rfl))
     replace hM := ifn (of_decide_eq_false hc115) hM
     refine A_skip <| fg _ (Sub.of List.Sublist.slnil) ?_
     exact ⟨hM, is_mk rfl rfl⟩
    replace hM := ifp (of_decide_eq_true hg113) hM
    refine r_R [vI c, vB (c != 930), vB (c != 930), vB (c != 930), vB (c != 930)] rfl ?_
    rcases hg118 : (c != 930) with _ | _
    ·replace hM := ifn (bne_f hg118) hM
     refine r_R [vI c, vB (decide (c ≥ 1040)), vB (decide (c ≥ 1040))] rfl ?_
     rcases hg119 : (decide (c ≥ 1040)) with _ | _
     ·replace hM := ifn (of_decide_eq_false hg119) hM
      refine r_R [none, none, vB false, vB false] rfl <| lx_nil <| hK12 _ _ ?_; try clear hK12 K12
      refine A_gen [(0, vI c), (40, vB false)] rfl (fun T => ?_)
      refine A_cond false rfl (fun h_ => nomatch h_) (fun _ => ?_)
      refine A_skip <| fg _ (Sub.of List.Sublist.slnil) ?_
      exact ⟨hM, is_mk rfl rfl⟩
     replace hM := ifp (of_decide_eq_true hg119) hM
     refine r_R [vI c, vB (decide (c ≤ 1071)), vB (decide (c ≤ 1071)), vB (decide (c ≤ 1071))] rfl <| lx_nil <| hK12 _ _ ?_; try clear hK12 K12
     refine A_gen [(0, vI c), (40, vB (decide (c ≤ 1071)))] rfl (fun T => ?_)
     refine A_cond (decide (c ≤ 1071)) rfl (fun hc120 => ?_) (fun hc120 => ?_)
     ·replace hM := ifp (of_decide_eq_true hc120) hM
      refine A_sr <| r_V (vI c) rfl ?_
      obtain ⟨ck122, hM⟩ := ck_some hM
      refine r_X (vI (c + 32)) rfl (wi64 rfl ck122.1 ck122.2) rfl <| r_V (vI (c + 32)) rfl <| lx_nil ?_
      obtain rfl := Option.some.inj hM
      refine A_ret (fun hn => ends_eq (v0 := vI (c + 32)) rfl (res1 rfl))
     replace hM := ifn (of_decide_eq_false hc120) hM
     refine A_skip <| fg _ (Sub.of List.Sublist.slnil) ?_
     exact ⟨hM, is_mk rfl rfl⟩
    replace hM := ifp (bne_iff_ne.1 hg118) hM
    refine r_R [none, none, none] rfl <| r_nu rfl rfl <| r_nu rfl rfl <| r_R [none, vB true] rfl <| lx_nil <| hK12 _ _ ?_; try clear hK12 K12
    refine A_gen [(0, vI c), (40, vB true)] rfl (fun T => ?_)
    refine A_cond true rfl (fun _ => ?_) (fun h_ => nomatch h_)
    refine A_sr <| r_V (vI c) rfl ?_
    obtain ⟨ck124, hM⟩ := ck_some hM
    refine r_X (vI (c + 32)) rfl (wi64 rfl ck124.1 ck124.2) rfl <| r_V (vI (c + 32)) rfl <| lx_nil ?_
    obtain rfl := Option.some.inj hM
    refine A_ret (fun hn => ends_eq (v0 := vI (c + 32)) rfl (res1 rfl))
   replace hM := ifp (bne_iff_ne.1 hg107) hM
   refine r_R [none, none, none] rfl <| r_nu rfl rfl <| r_nu rfl rfl <| r_R [none, none] rfl <| r_nu rfl rfl <| r_nu rfl rfl <| r_R [none, vB true, vB true, none, none, none] rfl <| r_nu rfl rfl <| r_nu rfl rfl <| r_R [none, vB true] rfl <| lx_nil <| hK12 _ _ ?_; try clear hK12 K12
   refine A_gen [(0, vI c), (40, vB true)] rfl (fun T => ?_)
   refine A_cond true rfl (fun _ => ?_) (fun h_ => nomatch h_)
   refine A_sr <| r_V (vI c) rfl ?_
   obtain ⟨ck126, hM⟩ := ck_some hM
   refine r_X (vI (c + 32)) rfl (wi64 rfl ck126.1 ck126.2) rfl <| r_V (vI (c + 32)) rfl <| lx_nil ?_
   obtain rfl := Option.some.inj hM
   refine A_ret (fun hn => ends_eq (v0 := vI (c + 32)) rfl (res1 rfl))
  replace hM := ifp (of_decide_eq_true hg70) hM
  refine r_R [none, none, none] rfl <| r_nu rfl rfl <| r_nu rfl rfl <| r_R [none, none] rfl <| r_nu rfl rfl <| r_nu rfl rfl <| r_R [none, vB true, vB true, none, none, none] rfl <| r_nu rfl rfl <| r_nu rfl rfl <| r_R [none, none] rfl <| r_nu rfl rfl <| r_nu rfl rfl <| r_R [none, vB true, vB true, none, none, none] rfl <| r_nu rfl rfl <| r_nu rfl rfl <| r_R [none, vB true] rfl <| lx_nil <| hK12 _ _ ?_; try clear hK12 K12
  refine A_gen [(0, vI c), (40, vB true)] rfl (fun T => ?_)
  refine A_cond true rfl (fun _ => ?_) (fun h_ => nomatch h_)
  refine A_sr <| r_V (vI c) rfl ?_
  obtain ⟨ck128, hM⟩ := ck_some hM
  refine r_X (vI (c + 32)) rfl (wi64 rfl ck128.1 ck128.2) rfl <| r_V (vI (c + 32)) rfl <| lx_nil ?_
  obtain rfl := Option.some.inj hM
  refine A_ret (fun hn => ends_eq (v0 := vI (c + 32)) rfl (res1 rfl))
 clear hM; rintro t l ⟨hM, ⟨T, rfl⟩, rfl⟩
 unfold shunterref05_Fold_k1 at hM
 refine A_cut (fun tt ll => (shunterref05_Fold_k2 c  = some r) ∧ Is [(0, vI c)] [] tt ll) ?_ ?_
 ·refine A_seq fun K7 hK7 => A_reg <| r_R [vI c, vB (decide (c ≥ 1024)), vB (decide (c ≥ 1024))] rfl ?_
  rcases hg8 : (decide (c ≥ 1024)) with _ | _
  ·replace hM := ifn (of_decide_eq_false hg8) hM
   refine r_R [none, none, vB false] rfl <| lx_nil <| hK7 _ _ ?_; try clear hK7 K7
   refine A_cond false rfl (fun h_ => nomatch h_) (fun _ => ?_)
   refine A_skip <| fg _ (Sub.of List.Sublist.slnil) ?_
   exact ⟨hM, is_mk rfl rfl⟩
  replace hM := ifp (of_decide_eq_true hg8) hM
  refine r_R [vI c, vB (decide (c ≤ 1039)), vB (decide (c ≤ 1039))] rfl <| lx_nil <| hK7 _ _ ?_; try clear hK7 K7
  refine A_cond (decide (c ≤ 1039)) rfl (fun hc9 => ?_) (fun hc9 => ?_)
  ·replace hM := ifp (of_decide_eq_true hc9) hM
   refine A_sr <| r_V (vI c) rfl ?_
   obtain ⟨ck11, hM⟩ := ck_some hM
   refine r_X (vI (c + 80)) rfl (wi64 rfl ck11.1 ck11.2) rfl <| r_V (vI (c + 80)) rfl <| lx_nil ?_
   obtain rfl := Option.some.inj hM
   refine A_ret (fun hn => ends_eq (v0 := vI (c + 80)) rfl (res1 rfl))
  replace hM := ifn (of_decide_eq_false hc9) hM
  refine A_skip <| fg _ (Sub.of List.Sublist.slnil) ?_
  exact ⟨hM, is_mk rfl rfl⟩
 clear hM; rintro t l ⟨hM, ⟨T, rfl⟩, rfl⟩
 unfold shunterref05_Fold_k2 at hM
 refine A_seq fun K2 hK2 => A_sr <| r_R [vI c, vB (c == 962)] rfl <| lx_nil <| A_cond (c == 962) rfl (fun hc4 => ?_) (fun hc4 => ?_)
 ·replace hM := ifp (eq_of_beq hc4) hM
  refine A_sr <| r_V (vI 963) rfl <| lx_nil ?_
  obtain rfl := Option.some.inj hM
  refine A_ret (fun hn => ends_eq (v0 := vI 963) rfl (res1 rfl))
 replace hM := ifn (ne_of_beq_false hc4) hM
 refine A_skip <| hK2 _ _ ?_; try clear hK2 K2
 refine A_sr <| r_R [vI c, vI c] rfl <| lx_nil ?_
 obtain rfl := Option.some.inj hM
 refine A_ret (fun hn => ends_eq (v0 := vI c) rfl (res1 rfl))
end Go.Proofs.Ytdmakhnmfnkcmaa
