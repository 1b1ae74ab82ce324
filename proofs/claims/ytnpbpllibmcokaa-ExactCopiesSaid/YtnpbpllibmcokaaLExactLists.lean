/- models of functions and their walks -/
import Derived.Test.YtnpbpllibmcokaaBb
namespace Go.Proofs.Ytnpbpllibmcokaa
open Go Go.RowKit Go.Eng
abbrev kLExactLists53_0 (b : Nat) (x0 : Value) (x1 : Int) (x2 : Int) : List Bl := [(b, 53, #[x0, vI x1, vI x2])]
def shunterlaw19_ExactLists_k1 (N : Nat) (b12 : Bool) : Option Bool := if true = b12 then (shunterlaw19_lives_m N ).bind fun r14 => some r14 else some false
def shunterlaw19_ExactLists_k2 (N : Nat) (b17 : Bool) : Option Bool := if false = b17 then (shunterlaw19_lives_m N ).bind fun r19 => some r19 else some false
def shunterlaw19_ExactLists_l9 (N : Nat) (l3_ : List (Int × BitVec 128 × Int)) (r43 : List (Int × BitVec 128 × Int)) : Nat → Int → Option Bool
  | 0, _ => none
  | n54 + 1, i8_ => if i8_ < ((r43).length : Int) then ck (0 ≤ i8_ ∧ i8_ < ((r43).length : Int)) ((shunterref19_Find_m N l3_ (((r43)[(i8_).toNat]!).1) (((r43)[(i8_).toNat]!).2.1)).bind fun r61 => if r61 < 0 then some false else ck (0 ≤ r61 ∧ r61 < ((l3_).length : Int)) (ck (0 ≤ i8_ ∧ i8_ < ((r43).length : Int)) (if (((l3_)[(r61).toNat]!).2.2 : Int) ≠ ((r43)[(i8_).toNat]!).2.2 then some false else if i8_ > 0 then ck (-9223372036854775808 ≤ (i8_ - 1) ∧ (i8_ - 1) ≤ 9223372036854775807) (ck (0 ≤ (i8_ - 1) ∧ (i8_ - 1) < ((r43).length : Int)) (ck (0 ≤ i8_ ∧ i8_ < ((r43).length : Int)) ((shunterref19_Less_m N (((r43)[((i8_ - 1)).toNat]!).1) (((r43)[((i8_ - 1)).toNat]!).2.1) (((r43)[(i8_).toNat]!).1) (((r43)[(i8_).toNat]!).2.1)).bind fun r73 => if r73 = true then ck (-9223372036854775808 ≤ (i8_ + 1) ∧ (i8_ + 1) ≤ 9223372036854775807) ((shunterlaw19_ExactLists_l9 N l3_ r43 n54) (i8_ + 1)) else some false))) else ck (-9223372036854775808 ≤ (i8_ + 1) ∧ (i8_ + 1) ≤ 9223372036854775807) ((shunterlaw19_ExactLists_l9 N l3_ r43 n54) (i8_ + 1))))) else (shunterlaw19_lives_m N ).bind fun r81 => some r81
def shunterlaw19_ExactLists_l7 (N : Nat) (most : Int) (ops : List (Int × Int × Int × BitVec 128)) : Nat → List (Int × BitVec 128 × Int) → Int → List (Int × BitVec 128 × Int) → Int → Int → Option Bool
  | 0, _, _, _, _, _ => none
  | n25 + 1, l3_, i4_, s6_, m5__1, m5__2 => if i4_ < ((ops).length : Int) then ck (0 ≤ i4_ ∧ i4_ < ((ops).length : Int)) ((shunterlaw19_step_v1_m N s6_ m5__1 m5__2 l3_ most (((ops)[(i4_).toNat]!).1) (((ops)[(i4_).toNat]!).2.1) (((ops)[(i4_).toNat]!).2.2.1) (((ops)[(i4_).toNat]!).2.2.2)).bind fun r31 => ck ((r31.2.2.1).length = (s6_).length) (SumRow41.on r31.1 (ck (-9223372036854775808 ≤ (i4_ + 1) ∧ (i4_ + 1) ≤ 9223372036854775807) ((shunterlaw19_ExactLists_l7 N most ops n25) l3_ (i4_ + 1) r31.2.2.1 r31.2.2.2.1 r31.2.2.2.2)) (fun x37_0 => ck (-9223372036854775808 ≤ (i4_ + 1) ∧ (i4_ + 1) ≤ 9223372036854775807) ((shunterlaw19_ExactLists_l7 N most ops n25) x37_0 (i4_ + 1) r31.2.2.1 r31.2.2.2.1 r31.2.2.2.2)))) else (exact_Map_List_v1_m N s6_ m5__1 m5__2).bind fun r43 => if (((r43).length : Int) : Int) ≠ ((l3_).length : Int) then some false else shunterlaw19_ExactLists_l9 N l3_ r43 N 0
def shunterlaw19_ExactLists_m (N : Nat) (most : Int) (ops : List (Int × Int × Int × BitVec 128)) : Option Bool := (exact_New_m N most).bind fun r3 => Sum23.on r3 (if most < 1 then shunterlaw19_ExactLists_k1 N true else shunterlaw19_ExactLists_k1 N (decide (most > 256))) (fun x6_0 x7_1 x8_2 => if (((ops).length : Int) : Int) > 400 then if most < 1 then shunterlaw19_ExactLists_k2 N true else shunterlaw19_ExactLists_k2 N (decide (most > 256)) else shunterlaw19_ExactLists_l7 N most ops N ([]) 0 x6_0 x7_1 x8_2)
set_option maxRecDepth 100000 in
set_option maxHeartbeats 8000000 in
theorem shunterlaw19_ExactLists_g (N : Nat) (most : Int) (ops : List (Int × Int × Int × BitVec 128)) (r) (hM : shunterlaw19_ExactLists_m N most ops = some r) (ro : Addr → Option Value) (opsv : Value) (hops : Rd enc_33 ro opsv ops) : Does Try.prog 4 #[vI most, opsv] ro [] (pV (vB r)) := by
 unfold shunterlaw19_ExactLists_m at hM
 refine does_of_A follows Try.func4 rfl 104 rfl (upd (upd (fun _ => undef) 1 opsv) 0 (vI most)) (by funext k; match k with | 0 => rfl | 1 => rfl | k + 2 => rfl) (fun base0_ => ?_)
 refine A_sr <| r_V (vB false) rfl <| lx_nil <| A_seq fun K2 hK2 => A_reg <| r_V (vI most) rfl ?_
 obtain ⟨r3, hr4, hM⟩ := bind_sm hM
 refine cA 12 <| r_gm (Ls := []) (FL := []) [] _ (some 12) 7 _ rfl rfl rfl rfl rfl (ev_callF rfl call_7 rfl) (fun own_ nw_ hn_ hs_ => exact_New_g N most _ hr4 _ ) (fun _ _ _ _ _ => Iff.rfl) (fun h_ => nomatch h_) ?_
 rcases Sum23.cases r3 with hx5 | ⟨x6_0, x7_1, x8_2, hx5⟩
 ·rintro _ _ hp_
  obtain ⟨rfl, rfl⟩ := Sum23.onP_nil hx5 hp_
  replace hM := Sum23.on_nil hx5 hM
  refine lx_perm (Ls := []) (Ls' := []) [] rfl rfl <| r_V (Value.pointer none) rfl <| lx_nil <| hK2 _ _ ?_; try clear hK2 K2
  refine A_seq fun K9 hK9 => A_sr <| r_R [Value.pointer none, vB true, vB true, none, none, none, vB true] rfl <| lx_nil <| A_cond true rfl (fun _ => ?_) (fun h_ => nomatch h_)
  refine A_seq fun K11 hK11 => A_reg <| r_R [Value.pointer none, vB true, vI most, vB (decide (most < 1)), vB (decide (most < 1))] rfl <| lx_jn 3 27 [(4, vB false), (21, vB true)] vB (fun b_ => shunterlaw19_ExactLists_k1 N b_ = some r) (fun b12 hM T => ?_) (fun HJ => ?_)
  ·unfold shunterlaw19_ExactLists_k1 at hM
   refine r_W (vB (true == b12)) rfl (ev_binB rfl rfl rfl) <| r_V (vB (true == b12)) rfl ?_
   rcases hg13 : (true == b12) with _ | _
   ·replace hM := ifn (ne_of_beq_false hg13) hM
    refine r_R [none, vB false, vB false] rfl <| lx_nil <| hK11 _ _ ?_; try clear hK11 K11
    obtain rfl := Option.some.inj hM
    refine A_ret (fun hn => endsV (v0 := vB false) rfl (res1 rfl))
   replace hM := ifp (eq_of_beq hg13) hM
   refine r_y rfl ?_
   obtain ⟨r14, hr15, hM⟩ := bind_sm hM
   refine r_c (vB r14) rfl _ _ (ev_callF rfl call_8 rfl) (shunterlaw19_lives_g N  _ hr15) <| r_R [vB r14, vB r14] rfl <| lx_nil <| hK11 _ _ ?_; try clear hK11 K11
   obtain rfl := Option.some.inj hM
   refine A_ret (fun hn => endsV (v0 := vB r14) rfl (res1 rfl))
  rcases hg16 : (decide (most < 1)) with _ | _
  ·replace hM := ifn (of_decide_eq_false hg16) hM
   refine r_R [vI most, vB (decide (most > 256)), vB (decide (most > 256))] rfl ?_
   first | exact HJ _ _ hM rfl rfl | exact lx_cn _ _ (HJ _ _ hM rfl rfl)
  replace hM := ifp (of_decide_eq_true hg16) hM
  refine r_R [none, none, vB true] rfl ?_
  first | exact HJ _ _ hM rfl rfl | exact lx_cn _ _ (HJ _ _ hM rfl rfl)
 rintro _ _ hp_
 obtain ⟨s9, S10, _, H11, ⟨b12, _, ⟨rfl, rfl⟩, rfl⟩, rfl⟩ := Sum23.onP_t53 hx5 hp_
 replace hM := Sum23.on_t53 hx5 hM
 refine lx_perm (Ls := [S10, (kLExactLists53_0 b12 s9 x7_1 x8_2)]) (Ls' := [(kLExactLists53_0 b12 s9 x7_1 x8_2), S10]) [1, 0] rfl rfl <| r_V (vP b12 0) rfl <| lx_nil <| hK2 _ _ ?_; try clear hK2 K2
 refine A_seq fun K13 hK13 => A_sr <| r_R [vP b12 0, vB false, vB false, opsv] rfl <| r_y rfl <| r_W (vI ((ops).length : Int)) rfl (ev_lenSl rfl rfl rfl (Rd.shp hops)) <| r_R [vB (decide ((((ops).length : Int) : Int) > 400)), vB (decide ((((ops).length : Int) : Int) > 400))] rfl <| lx_nil <| A_cond (decide ((((ops).length : Int) : Int) > 400)) rfl (fun hc15 => ?_) (fun hc15 => ?_)
 ·replace hM := ifp (of_decide_eq_true hc15) hM
  refine A_seq fun K16 hK16 => A_reg <| r_R [vP b12 0, vB false, vI most, vB (decide (most < 1)), vB (decide (most < 1))] rfl <| lx_jn 3 27 [(4, vB false), (21, vB false)] vB (fun b_ => shunterlaw19_ExactLists_k2 N b_ = some r) (fun b17 hM T => ?_) (fun HJ => ?_)
  ·unfold shunterlaw19_ExactLists_k2 at hM
   refine r_W (vB (false == b17)) rfl (ev_binB rfl rfl rfl) <| r_V (vB (false == b17)) rfl ?_
   rcases hg18 : (false == b17) with _ | _
   ·replace hM := ifn (ne_of_beq_false hg18) hM
    refine r_R [none, vB false, vB false] rfl <| lx_nil <| hK16 _ _ ?_; try clear hK16 K16
    obtain rfl := Option.some.inj hM
    refine A_ret (fun hn => endsV (v0 := vB false) rfl (res1 rfl))
   replace hM := ifp (eq_of_beq hg18) hM
   refine r_y rfl ?_
   obtain ⟨r19, hr20, hM⟩ := bind_sm hM
   refine r_c (vB r19) rfl _ _ (ev_callF rfl call_8 rfl) (shunterlaw19_lives_g N  _ hr20) <| r_R [vB r19, vB r19] rfl <| lx_nil <| hK16 _ _ ?_; try clear hK16 K16
   obtain rfl := Option.some.inj hM
   refine A_ret (fun hn => endsV (v0 := vB r19) rfl (res1 rfl))
  rcases hg21 : (decide (most < 1)) with _ | _
  ·replace hM := ifn (of_decide_eq_false hg21) hM
   refine r_R [vI most, vB (decide (most > 256)), vB (decide (most > 256))] rfl ?_
   first | exact HJ _ _ hM rfl rfl | exact lx_cn _ _ (HJ _ _ hM rfl rfl)
  replace hM := ifp (of_decide_eq_true hg21) hM
  refine r_R [none, none, vB true] rfl ?_
  first | exact HJ _ _ hM rfl rfl | exact lx_cn _ _ (HJ _ _ hM rfl rfl)
 replace hM := ifn (of_decide_eq_false hc15) hM
 refine A_skip <| hK13 _ _ ?_; try clear hK13 K13
 refine A_sr <| r_V nS rfl <| lx_nil <| A_seq fun K23 hK23 => A_sr <| r_V (vI 0) rfl <| lx_nil <| A_block <| A_forget _ (Sub.pickE (Ls := [(kLExactLists53_0 b12 s9 x7_1 x8_2), S10, []]) (Ls0 := [(kLExactLists53_0 b12 s9 x7_1 x8_2), S10]) rfl [0, 2, 1] rfl) ?_
 refine A_loop (fun tt ll nn => ∃ (n25 : Nat) (l3_ : List (Int × BitVec 128 × Int)) (i4_ : Int) (s6_ : List (Int × BitVec 128 × Int)) (m5__1 : Int) (m5__2 : Int), (shunterlaw19_ExactLists_l7 N most ops n25 l3_ i4_ s6_ m5__1 m5__2 = some r) ∧ ∃ (vl3_ : Value) (Sl3_ : List Bl), Sl 41 enc_41 vl3_ l3_ Sl3_ ∧ ∃ (Ss6_ : List Bl), Sl 40 enc_40 s9 s6_ Ss6_ ∧ Is [(0, vI most), (1, opsv), (5, vP b12 0), (6, vl3_), (7, vI i4_)] (List.flatten [(kLExactLists53_0 b12 s9 m5__1 m5__2), Sl3_, Ss6_]) tt ll ∧ nn = n25 + 1) (N + 1) ?_ ?_
 ·exact ⟨N, [], 0, x6_0, x7_1, x8_2, hM, nS, [], Sl.nil, S10, H11, is_mk rfl rfl, rfl⟩
 clear hM; rintro t l _ ⟨n25, l3_, i4_, s6_, m5__1, m5__2, hM, vl3_, Sl3_, hl3_, Ss6_, hs6_, ⟨⟨T, rfl⟩, rfl⟩, rfl⟩
 rcases n25 with _ | n25
 ·exact absurd hM (by simp [shunterlaw19_ExactLists_l7])
 rw [shunterlaw19_ExactLists_l7] at hM
 refine A_seq fun K26 hK26 => A_sr <| r_R [vI i4_, opsv] rfl <| r_W (vI ((ops).length : Int)) rfl (ev_lenSl rfl rfl rfl (Rd.shp hops)) <| r_V (vB (decide (i4_ < ((ops).length : Int)))) rfl <| lx_nil <| A_cond (decide (i4_ < ((ops).length : Int))) rfl (fun hc28 => ?_) (fun hc28 => ?_)
 ·replace hM := ifp (of_decide_eq_true hc28) hM
  refine A_skip <| hK26 _ _ ?_; try clear hK26 K26
  refine A_seq fun K29 hK29 => A_block <| A_reg <| r_R [vP b12 0, vl3_, vI most, opsv, vI i4_] rfl ?_
  obtain ⟨ck30, hM⟩ := ck_some hM
  refine r_W (elA opsv ((i4_).toNat * 5)) rfl (ev_v (ev_idxSl rfl rfl rfl (Rd.shp hops) ck30)) <| r_le (vA #[vI (((ops)[(i4_).toNat]!).1), vI (((ops)[(i4_).toNat]!).2.1), vI (((ops)[(i4_).toNat]!).2.2.1), U (hi (((ops)[(i4_).toNat]!).2.2.2)), U (lo (((ops)[(i4_).toNat]!).2.2.2))]) (En := enc_33) ((ops)[(i4_).toNat]!) ((i4_).toNat) 0 rfl rfl (rd_ro hops) (get_of ck30) rfl ?_
  obtain ⟨r31, hr32, hM⟩ := bind_sm hM
  obtain ⟨ck33, hM⟩ := ck_some hM
  refine cA 46 <| r_gm (Ls := [(kLExactLists53_0 b12 s9 m5__1 m5__2), Sl3_, Ss6_]) (FL := [(kLExactLists53_0 b12 s9 m5__1 m5__2), Ss6_]) [0, 2] _ (some 46) 9 _ rfl rfl rfl rfl rfl (ev_callF rfl call_9 rfl) (fun own_ nw_ hn_ hs_ => shunterlaw19_step_v1_g N s6_ m5__1 m5__2 l3_ most (((ops)[(i4_).toNat]!).1) (((ops)[(i4_).toNat]!).2.1) (((ops)[(i4_).toNat]!).2.2.1) (((ops)[(i4_).toNat]!).2.2.2) _ hr32 _ b12 s9 Ss6_ hs6_ vl3_ (rd_sans (Ls := [(kLExactLists53_0 b12 s9 m5__1 m5__2), Sl3_, Ss6_]) (is := [0, 2]) 1 hl3_ rfl rfl hn_ hs_)) (fun _ _ _ _ _ => Iff.rfl) (fun h_ => nomatch h_) ?_
  rcases SumRow41.cases r31.1 with hx36 | ⟨x37_0, hx36⟩
  ·rintro _ _ ⟨S34, _, H35, hp_, rfl⟩
   obtain ⟨rfl, rfl⟩ := SumRow41.onP_nil hx36 hp_
   replace hM := SumRow41.on_nil hx36 hM
   refine lx_perm (Ls := [Sl3_, S34, (kLExactLists53_0 b12 s9 r31.2.2.2.1 r31.2.2.2.2)]) (Ls' := [(kLExactLists53_0 b12 s9 r31.2.2.2.1 r31.2.2.2.2), Sl3_, S34]) [2, 0, 1] rfl rfl <| r_R [vT #[vl3_, vB r31.2.1], vl3_, vB r31.2.1, vl3_] rfl <| lx_nil <| hK29 _ _ ?_; try clear hK29 K29
   refine A_reg <| r_V (vI i4_) rfl ?_
   obtain ⟨ck38, hM⟩ := ck_some hM
   refine r_X (vI (i4_ + 1)) rfl (wi64 rfl ck38.1 ck38.2) rfl <| r_V (vI (i4_ + 1)) rfl <| lx_nil <| fg _ (Sub.pick [(kLExactLists53_0 b12 s9 r31.2.2.2.1 r31.2.2.2.2), Sl3_, S34] [0, 1, 2] rfl) ?_
   exact ⟨n25 + 1, by omega, n25, l3_, (i4_ + 1), r31.2.2.1, r31.2.2.2.1, r31.2.2.2.2, hM, vl3_, Sl3_, hl3_, S34, H35, is_mk rfl rfl, rfl⟩
  rintro _ _ ⟨S34, _, H35, hp_, rfl⟩
  obtain ⟨s38, S39, _, H40, ⟨rfl, rfl⟩, rfl⟩ := SumRow41.onP_t0 hx36 hp_
  replace hM := SumRow41.on_t0 hx36 hM
  refine lx_perm (Ls := [Sl3_, S34, S39, (kLExactLists53_0 b12 s9 r31.2.2.2.1 r31.2.2.2.2)]) (Ls' := [(kLExactLists53_0 b12 s9 r31.2.2.2.1 r31.2.2.2.2), Sl3_, S34, S39]) [3, 0, 1, 2] rfl rfl <| r_R [vT #[s38, vB r31.2.1], s38, vB r31.2.1, s38] rfl <| lx_nil <| hK29 _ _ ?_; try clear hK29 K29
  refine A_reg <| r_V (vI i4_) rfl ?_
  obtain ⟨ck41, hM⟩ := ck_some hM
  refine r_X (vI (i4_ + 1)) rfl (wi64 rfl ck41.1 ck41.2) rfl <| r_V (vI (i4_ + 1)) rfl <| lx_nil <| fg _ (Sub.pick [(kLExactLists53_0 b12 s9 r31.2.2.2.1 r31.2.2.2.2), Sl3_, S34, S39] [0, 3, 2] rfl) ?_
  exact ⟨n25 + 1, by omega, n25, x37_0, (i4_ + 1), r31.2.2.1, r31.2.2.2.1, r31.2.2.2.2, hM, s38, S39, H40, S34, H35, is_mk rfl rfl, rfl⟩
 replace hM := ifn (of_decide_eq_false hc28) hM
 refine A_exit <| hK23 _ _ ?_; try clear hK23 K23
 refine A_sr <| r_V (vP b12 0) rfl ?_
 obtain ⟨r43, hr44, hM⟩ := bind_sm hM
 refine cB 50 <| r_g1 (Ls := [(kLExactLists53_0 b12 s9 m5__1 m5__2), Sl3_, Ss6_]) (fun s45 => s45) 40 enc_40 r43 12 _ rfl rfl rfl (ev_callF rfl call_12 rfl) (fun own_ nw_ hs_ => exact_Map_List_v1_g N s6_ m5__1 m5__2 _ hr44 hs_.view b12 s9 ((rd_own hs6_ (mem_chunk (Ls := [(kLExactLists53_0 b12 s9 m5__1 m5__2), Sl3_, Ss6_]) (k := 2) rfl rfl)) own_ nw_ hs_) (blk_own 0 rfl rfl own_ nw_ hs_)) (fun _ _ _ _ _ => Iff.rfl) (fun s45 S46 H47 => ?_)
 refine r_V s45 rfl <| lx_nil <| A_seq fun K48 hK48 => A_sr <| r_V s45 rfl <| r_W (vI ((r43).length : Int)) rfl (ev_lenSl rfl rfl rfl (Sl.shp H47)) <| r_V vl3_ rfl <| r_W (vI ((l3_).length : Int)) rfl (ev_lenSl rfl rfl rfl (Sl.shp hl3_)) <| r_V (vB (((((r43).length : Int) : Int) != ((l3_).length : Int)))) rfl <| lx_nil <| A_cond (((((r43).length : Int) : Int) != ((l3_).length : Int))) rfl (fun hc50 => ?_) (fun hc50 => ?_)
 ·replace hM := ifp (bne_iff_ne.1 hc50) hM
  refine A_sr <| r_V (vB false) rfl <| lx_nil ?_
  obtain rfl := Option.some.inj hM
  refine A_ret (fun hn => endsV (v0 := vB false) rfl (res1 rfl))
 replace hM := ifn (bne_f hc50) hM
 refine A_skip <| hK48 _ _ ?_; try clear hK48 K48
 refine A_seq fun K52 hK52 => A_sr <| r_V (vI 0) rfl <| lx_nil <| A_block <| A_forget _ (Sub.pick [(kLExactLists53_0 b12 s9 m5__1 m5__2), Sl3_, Ss6_, S46] [1, 3] rfl) <| A_loop (fun tt ll nn => ∃ (n54 : Nat) (i8_ : Int), (shunterlaw19_ExactLists_l9 N l3_ r43 n54 i8_ = some r) ∧ Is [(6, vl3_), (8, s45), (9, vI i8_)] (List.flatten [Sl3_, S46]) tt ll ∧ nn = n54 + 1) (N + 1) ?_ ?_
 ·exact ⟨N, 0, hM, is_mk rfl rfl, rfl⟩
 clear hM; rintro t l _ ⟨n54, i8_, hM, ⟨⟨T, rfl⟩, rfl⟩, rfl⟩
 rcases n54 with _ | n54
 ·exact absurd hM (by simp [shunterlaw19_ExactLists_l9])
 rw [shunterlaw19_ExactLists_l9] at hM
 refine A_seq fun K55 hK55 => A_sr <| r_R [vI i8_, s45] rfl <| r_W (vI ((r43).length : Int)) rfl (ev_lenSl rfl rfl rfl (Sl.shp H47)) <| r_V (vB (decide (i8_ < ((r43).length : Int)))) rfl <| lx_nil <| A_cond (decide (i8_ < ((r43).length : Int))) rfl (fun hc57 => ?_) (fun hc57 => ?_)
 ·replace hM := ifp (of_decide_eq_true hc57) hM
  refine A_skip <| hK55 _ _ ?_; try clear hK55 K55
  refine A_seq fun K58 hK58 => A_block <| A_sr <| r_R [vl3_, s45, vI i8_] rfl ?_
  obtain ⟨ck60, hM⟩ := ck_some hM
  refine r_W (elA s45 ((i8_).toNat * 4)) rfl (ev_v (ev_idxSl rfl rfl rfl (Sl.shp H47) ck60)) <| r_W (elA s45 ((i8_).toNat * 4 + 0)) rfl (ev_v (ev_fieldX rfl rfl rfl rfl rfl rfl (Sl.shp H47) (pos_of ck60))) <| r_le (vA #[vI (((r43)[(i8_).toNat]!).1), U (hi (((r43)[(i8_).toNat]!).2.1)), U (lo (((r43)[(i8_).toNat]!).2.1))]) (En := enc_40) ((r43)[(i8_).toNat]!) ((i8_).toNat) 0 rfl rfl (rd_own H47 (mem_chunk (Ls := [Sl3_, S46]) (k := 1) rfl rfl)) (get_of ck60) rfl ?_
  obtain ⟨r61, hr62, hM⟩ := bind_sm hM
  refine cB 68 <| r_gv (vI r61) 13 _ rfl rfl rfl (ev_callF rfl call_13 rfl) (fun own_ nw_ hs_ => shunterref19_Find_g N l3_ (((r43)[(i8_).toNat]!).1) (((r43)[(i8_).toNat]!).2.1) _ hr62 hs_.view vl3_ ((rd_own hl3_ (mem_chunk (Ls := [Sl3_, S46]) (k := 0) rfl rfl)) own_ nw_ hs_)) (fun _ _ _ _ _ => Iff.rfl) <| r_V (vI r61) rfl <| lx_nil <| A_seq fun K63 hK63 => A_draw [] (by decide +kernel) (fun hn => sep_nil) <| r_R [vI r61, vB (decide (r61 < 0)), vB (decide (r61 < 0))] rfl ?_
  rcases hg64 : (decide (r61 < 0)) with _ | _
  ·replace hM := ifn (of_decide_eq_false hg64) hM
   refine r_R [vl3_, vI r61] rfl <| r_y rfl ?_
   obtain ⟨ck65, hM⟩ := ck_some hM
   refine r_W (elA vl3_ ((r61).toNat * 4)) rfl (ev_v (ev_idxSl rfl rfl rfl (Sl.shp hl3_) ck65)) <| r_y rfl <| r_W (elA vl3_ ((r61).toNat * 4 + 3)) rfl (ev_v (ev_fieldX rfl rfl rfl rfl rfl rfl (Sl.shp hl3_) (pos_of ck65))) <| r_y rfl <| r_le (vI (((l3_)[(r61).toNat]!).2.2)) (En := enc_41) ((l3_)[(r61).toNat]!) ((r61).toNat) 3 rfl rfl (rd_own hl3_ (mem_chunk (Ls := [Sl3_, S46]) (k := 0) rfl rfl)) (get_of ck65) rfl <| r_R [s45, vI i8_] rfl <| r_y rfl ?_
   obtain ⟨ck66, hM⟩ := ck_some hM
   refine r_W (elA s45 ((i8_).toNat * 4)) rfl (ev_v (ev_idxSl rfl rfl rfl (Sl.shp H47) ck66)) <| r_y rfl <| r_W (elA s45 ((i8_).toNat * 4 + 3)) rfl (ev_v (ev_fieldX rfl rfl rfl rfl rfl rfl (Sl.shp H47) (pos_of ck66))) <| r_y rfl <| r_le (vI (((r43)[(i8_).toNat]!).2.2)) (En := enc_40) ((r43)[(i8_).toNat]!) ((i8_).toNat) 3 rfl rfl (rd_own H47 (mem_chunk (Ls := [Sl3_, S46]) (k := 1) rfl rfl)) (get_of ck66) rfl <| r_R [vB (((((l3_)[(r61).toNat]!).2.2 : Int) != ((r43)[(i8_).toNat]!).2.2)), vB (((((l3_)[(r61).toNat]!).2.2 : Int) != ((r43)[(i8_).toNat]!).2.2)), vB (((((l3_)[(r61).toNat]!).2.2 : Int) != ((r43)[(i8_).toNat]!).2.2))] rfl ?_
   refine lx_gen [(6, vl3_), (8, s45), (9, vI i8_), (84, vB (((((l3_)[(r61).toNat]!).2.2 : Int) != ((r43)[(i8_).toNat]!).2.2)))] rfl (fun T => ?_)
   rcases hg67 : (((((l3_)[(r61).toNat]!).2.2 : Int) != ((r43)[(i8_).toNat]!).2.2)) with _ | _
   ·replace hM := ifn (bne_f hg67) hM
    refine r_R [vI i8_, vB (decide (i8_ > 0)), vB (decide (i8_ > 0))] rfl ?_
    rcases hg68 : (decide (i8_ > 0)) with _ | _
    ·replace hM := ifn (of_decide_eq_false hg68) hM
     refine r_R [none, none, none, none, none, none, none, none, none, none, none, none, none, vB false, vB false] rfl <| lx_nil <| hK63 _ _ ?_; try clear hK63 K63
     refine A_cond false rfl (fun h_ => nomatch h_) (fun _ => ?_)
     refine A_skip <| hK58 _ _ ?_; try clear hK58 K58
     refine A_reg <| r_V (vI i8_) rfl ?_
     obtain ⟨ck69, hM⟩ := ck_some hM
     refine r_X (vI (i8_ + 1)) rfl (wi64 rfl ck69.1 ck69.2) rfl <| r_V (vI (i8_ + 1)) rfl <| lx_nil <| fg _ (Sub.pick [Sl3_, S46] [0, 1] rfl) ?_
     exact ⟨n54 + 1, by omega, n54, (i8_ + 1), hM, is_mk (by first | rfl | (simp only [hg64, hg67, hg68]; done) | (simp only [hg64, hg67, hg68]; rfl) | (simp only [app_hl]; rfl)) rfl, rfl⟩
    replace hM := ifp (of_decide_eq_true hg68) hM
    refine r_R [s45, vI i8_] rfl <| r_y rfl ?_
    obtain ⟨ck70, hM⟩ := ck_some hM
    refine r_X (vI (i8_ - 1)) rfl (wi64 rfl ck70.1 ck70.2) rfl <| r_y rfl ?_
    obtain ⟨ck71, hM⟩ := ck_some hM
    refine r_W (elA s45 (((i8_ - 1)).toNat * 4)) rfl (ev_v (ev_idxSl rfl rfl rfl (Sl.shp H47) ck71)) <| r_y rfl <| r_W (elA s45 (((i8_ - 1)).toNat * 4 + 0)) rfl (ev_v (ev_fieldX rfl rfl rfl rfl rfl rfl (Sl.shp H47) (pos_of ck71))) <| r_y rfl <| r_le (vA #[vI (((r43)[((i8_ - 1)).toNat]!).1), U (hi (((r43)[((i8_ - 1)).toNat]!).2.1)), U (lo (((r43)[((i8_ - 1)).toNat]!).2.1))]) (En := enc_40) ((r43)[((i8_ - 1)).toNat]!) (((i8_ - 1)).toNat) 0 rfl rfl (rd_own H47 (mem_chunk (Ls := [Sl3_, S46]) (k := 1) rfl rfl)) (get_of ck71) rfl <| r_R [s45, vI i8_] rfl <| r_y rfl ?_
    obtain ⟨ck72, hM⟩ := ck_some hM
    refine r_W (elA s45 ((i8_).toNat * 4)) rfl (ev_v (ev_idxSl rfl rfl rfl (Sl.shp H47) ck72)) <| r_y rfl <| r_W (elA s45 ((i8_).toNat * 4 + 0)) rfl (ev_v (ev_fieldX rfl rfl rfl rfl rfl rfl (Sl.shp H47) (pos_of ck72))) <| r_y rfl <| r_le (vA #[vI (((r43)[(i8_).toNat]!).1), U (hi (((r43)[(i8_).toNat]!).2.1)), U (lo (((r43)[(i8_).toNat]!).2.1))]) (En := enc_40) ((r43)[(i8_).toNat]!) ((i8_).toNat) 0 rfl rfl (rd_own H47 (mem_chunk (Ls := [Sl3_, S46]) (k := 1) rfl rfl)) (get_of ck72) rfl <| r_y rfl ?_
    obtain ⟨r73, hr74, hM⟩ := bind_sm hM
    refine r_c (vB r73) rfl _ _ (ev_callF rfl call_14 rfl) (shunterref19_Less_g N (((r43)[((i8_ - 1)).toNat]!).1) (((r43)[((i8_ - 1)).toNat]!).2.1) (((r43)[(i8_).toNat]!).1) (((r43)[(i8_).toNat]!).2.1) _ hr74) <| r_R [vB (!(r73)), vB (!(r73)), vB (!(r73))] rfl <| lx_nil <| hK63 _ _ ?_; try clear hK63 K63
    refine A_cond (!(r73)) rfl (fun hc75 => ?_) (fun hc75 => ?_)
    ·replace hM := ifn (Bool.eq_false_iff.1 (not_t hc75)) hM
     refine A_sr <| r_V (vB false) rfl <| lx_nil ?_
     obtain rfl := Option.some.inj hM
     refine A_ret (fun hn => endsV (v0 := vB false) rfl (res1 rfl))
    replace hM := ifp (not_f hc75) hM
    refine A_skip <| hK58 _ _ ?_; try clear hK58 K58
    refine A_reg <| r_V (vI i8_) rfl ?_
    obtain ⟨ck77, hM⟩ := ck_some hM
    refine r_X (vI (i8_ + 1)) rfl (wi64 rfl ck77.1 ck77.2) rfl <| r_V (vI (i8_ + 1)) rfl <| lx_nil <| fg _ (Sub.pick [Sl3_, S46] [0, 1] rfl) ?_
    exact ⟨n54 + 1, by omega, n54, (i8_ + 1), hM, is_mk (by first | rfl | (simp only [hg64, hg67, hg68]; done) | (simp only [hg64, hg67, hg68]; rfl) | (simp only [app_hl]; rfl)) rfl, rfl⟩
   replace hM := ifp (bne_iff_ne.1 hg67) hM
   refine r_R [none, none, none] rfl <| r_nu rfl rfl <| r_nu rfl rfl <| r_nu rfl rfl <| r_nu rfl rfl <| r_nu rfl rfl <| r_nu rfl rfl <| r_nu rfl rfl <| r_nu rfl rfl <| r_nu rfl rfl <| r_nu rfl rfl <| r_nu rfl rfl <| r_nu rfl rfl <| r_nu rfl rfl <| r_R [none, vB true] rfl <| lx_nil <| hK63 _ _ ?_; try clear hK63 K63
   refine A_cond true rfl (fun _ => ?_) (fun h_ => nomatch h_)
   refine A_sr <| r_V (vB false) rfl <| lx_nil ?_
   obtain rfl := Option.some.inj hM
   refine A_ret (fun hn => endsV (v0 := vB false) rfl (res1 rfl))
  replace hM := ifp (of_decide_eq_true hg64) hM
  refine r_R [none, none, none, none, none, none, none, none, none, none, none, vB true, vB true, none, none, none] rfl <| r_nu rfl rfl <| r_nu rfl rfl <| r_nu rfl rfl <| r_nu rfl rfl <| r_nu rfl rfl <| r_nu rfl rfl <| r_nu rfl rfl <| r_nu rfl rfl <| r_nu rfl rfl <| r_nu rfl rfl <| r_nu rfl rfl <| r_nu rfl rfl <| r_nu rfl rfl <| r_R [none, vB true] rfl <| lx_nil <| hK63 _ _ ?_; try clear hK63 K63
  refine A_gen [(6, vl3_), (8, s45), (9, vI i8_), (102, vB true)] rfl (fun T => ?_)
  refine A_cond true rfl (fun _ => ?_) (fun h_ => nomatch h_)
  refine A_sr <| r_V (vB false) rfl <| lx_nil ?_
  obtain rfl := Option.some.inj hM
  refine A_ret (fun hn => endsV (v0 := vB false) rfl (res1 rfl))
 replace hM := ifn (of_decide_eq_false hc57) hM
 refine A_exit <| hK52 _ _ ?_; try clear hK52 K52
 refine A_sr ?_
 obtain ⟨r81, hr82, hM⟩ := bind_sm hM
 refine r_c (vB r81) rfl _ _ (ev_callF rfl call_8 rfl) (shunterlaw19_lives_g N  _ hr82) <| r_V (vB r81) rfl <| lx_nil ?_
 obtain rfl := Option.some.inj hM
 refine A_ret (fun hn => endsV (v0 := vB r81) rfl (res1 rfl))
end Go.Proofs.Ytnpbpllibmcokaa
