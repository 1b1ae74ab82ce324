/- models of functions and their walks -/
import Derived.Test.YtnpbpllibmcokaaBb
namespace Go.Proofs.Ytnpbpllibmcokaa
open Go Go.RowKit Go.Eng
abbrev kLExactPlays53_0 (b : Nat) (x0 : Value) (x1 : Int) (x2 : Int) : List Bl := [(b, 53, #[x0, vI x1, vI x2])]
def shunterlaw19_ExactPlays_k1 (N : Nat) (b11 : Bool) : Option Bool := if b11 = true then (shunterlaw19_lives_m N ).bind fun r14 => some r14 else some false
def shunterlaw19_ExactPlays_k9 (l3_ : List (Int × BitVec 128 × Int)) (i4_ : Int) (rec_shunterlaw19_ExactPlays_l7 : List (Int × BitVec 128 × Int) → Int → List (Int × BitVec 128 × Int) → Int → Int → Option Bool) (r35 : SumRow41 × Bool × (List (Int × BitVec 128 × Int)) × Int × Int) (b44 : Bool) : Option Bool := if b44 = true then some false else ck (-9223372036854775808 ≤ (i4_ + 1) ∧ (i4_ + 1) ≤ 9223372036854775807) (rec_shunterlaw19_ExactPlays_l7 l3_ (i4_ + 1) r35.2.2.1 r35.2.2.2.1 r35.2.2.2.2)
def shunterlaw19_ExactPlays_k8 (N : Nat) (most : Int) (l3_ : List (Int × BitVec 128 × Int)) (i4_ : Int) (rec_shunterlaw19_ExactPlays_l7 : List (Int × BitVec 128 × Int) → Int → List (Int × BitVec 128 × Int) → Int → Int → Option Bool) (r35 : SumRow41 × Bool × (List (Int × BitVec 128 × Int)) × Int × Int) (b43 : Bool) : Option Bool := if b43 = true then shunterlaw19_ExactPlays_k9 l3_ i4_ rec_shunterlaw19_ExactPlays_l7 r35 true else (exact_Map_Room_v1_m N r35.2.2.1 r35.2.2.2.1 r35.2.2.2.2).bind fun r49 => ck ((-9223372036854775808 ≤ (most - ((l3_).length : Int)) ∧ (most - ((l3_).length : Int)) ≤ 9223372036854775807)) (shunterlaw19_ExactPlays_k9 l3_ i4_ rec_shunterlaw19_ExactPlays_l7 r35 ((r49 != (most - ((l3_).length : Int)))))
def shunterlaw19_ExactPlays_k11 (i4_ : Int) (rec_shunterlaw19_ExactPlays_l7 : List (Int × BitVec 128 × Int) → Int → List (Int × BitVec 128 × Int) → Int → Int → Option Bool) (r35 : SumRow41 × Bool × (List (Int × BitVec 128 × Int)) × Int × Int) (x41_0 : List (Int × BitVec 128 × Int)) (b47 : Bool) : Option Bool := if b47 = true then some false else ck (-9223372036854775808 ≤ (i4_ + 1) ∧ (i4_ + 1) ≤ 9223372036854775807) (rec_shunterlaw19_ExactPlays_l7 x41_0 (i4_ + 1) r35.2.2.1 r35.2.2.2.1 r35.2.2.2.2)
def shunterlaw19_ExactPlays_k10 (N : Nat) (most : Int) (i4_ : Int) (rec_shunterlaw19_ExactPlays_l7 : List (Int × BitVec 128 × Int) → Int → List (Int × BitVec 128 × Int) → Int → Int → Option Bool) (r35 : SumRow41 × Bool × (List (Int × BitVec 128 × Int)) × Int × Int) (x41_0 : List (Int × BitVec 128 × Int)) (b46 : Bool) : Option Bool := if b46 = true then shunterlaw19_ExactPlays_k11 i4_ rec_shunterlaw19_ExactPlays_l7 r35 x41_0 true else (exact_Map_Room_v1_m N r35.2.2.1 r35.2.2.2.1 r35.2.2.2.2).bind fun r52 => ck ((-9223372036854775808 ≤ (most - ((x41_0).length : Int)) ∧ (most - ((x41_0).length : Int)) ≤ 9223372036854775807)) (shunterlaw19_ExactPlays_k11 i4_ rec_shunterlaw19_ExactPlays_l7 r35 x41_0 ((r52 != (most - ((x41_0).length : Int)))))
def shunterlaw19_ExactPlays_l7 (N : Nat) (most : Int) (ops : List (Int × Int × Int × BitVec 128)) : Nat → List (Int × BitVec 128 × Int) → Int → List (Int × BitVec 128 × Int) → Int → Int → Option Bool
  | 0, _, _, _, _, _ => none
  | n27 + 1, l3_, i4_, s6_, m5__1, m5__2 => if i4_ < ((ops).length : Int) then ck (0 ≤ i4_ ∧ i4_ < ((ops).length : Int)) ((shunterlaw19_step_v1_m N s6_ m5__1 m5__2 l3_ most (((ops)[(i4_).toNat]!).1) (((ops)[(i4_).toNat]!).2.1) (((ops)[(i4_).toNat]!).2.2.1) (((ops)[(i4_).toNat]!).2.2.2)).bind fun r35 => ck ((r35.2.2.1).length = (s6_).length) (SumRow41.on r35.1 (if r35.2.1 = true then (exact_Map_Len_v1_m N r35.2.2.1 r35.2.2.2.1 r35.2.2.2.2).bind fun r53 => shunterlaw19_ExactPlays_k8 N most l3_ i4_ (shunterlaw19_ExactPlays_l7 N most ops n27) r35 (r53 != ((l3_).length : Int)) else shunterlaw19_ExactPlays_k8 N most l3_ i4_ (shunterlaw19_ExactPlays_l7 N most ops n27) r35 true) (fun x41_0 => if r35.2.1 = true then (exact_Map_Len_v1_m N r35.2.2.1 r35.2.2.2.1 r35.2.2.2.2).bind fun r56 => shunterlaw19_ExactPlays_k10 N most i4_ (shunterlaw19_ExactPlays_l7 N most ops n27) r35 x41_0 (r56 != ((x41_0).length : Int)) else shunterlaw19_ExactPlays_k10 N most i4_ (shunterlaw19_ExactPlays_l7 N most ops n27) r35 x41_0 true))) else (shunterlaw19_lives_m N ).bind fun r59 => some r59
def shunterlaw19_ExactPlays_k2 (N : Nat) (most : Int) (ops : List (Int × Int × Int × BitVec 128)) (x6_0 : List (Int × BitVec 128 × Int)) (x7_1 : Int) (x8_2 : Int) (b15 : Bool) : Option Bool := if b15 = true then some false else if (((ops).length : Int) : Int) > 600 then (shunterlaw19_lives_m N ).bind fun r22 => some r22 else shunterlaw19_ExactPlays_l7 N most ops N ([]) 0 x6_0 x7_1 x8_2
def shunterlaw19_ExactPlays_m (N : Nat) (most : Int) (ops : List (Int × Int × Int × BitVec 128)) : Option Bool := (exact_New_m N most).bind fun r3 => Sum23.on r3 (if most < 1 then shunterlaw19_ExactPlays_k1 N true else shunterlaw19_ExactPlays_k1 N (decide (most > 256))) (fun x6_0 x7_1 x8_2 => if most < 1 then shunterlaw19_ExactPlays_k2 N most ops x6_0 x7_1 x8_2 true else shunterlaw19_ExactPlays_k2 N most ops x6_0 x7_1 x8_2 (decide (most > 256)))
set_option maxRecDepth 100000 in
set_option maxHeartbeats 8000000 in
theorem shunterlaw19_ExactPlays_g (N : Nat) (most : Int) (ops : List (Int × Int × Int × BitVec 128)) (r) (hM : shunterlaw19_ExactPlays_m N most ops = some r) (ro : Addr → Option Value) (opsv : Value) (hops : Rd enc_33 ro opsv ops) : Does Try.prog 3 #[vI most, opsv] ro [] (pV (vB r)) := by
 unfold shunterlaw19_ExactPlays_m at hM
 refine does_of_A follows Try.func3 rfl 70 rfl (upd (upd (fun _ => undef) 1 opsv) 0 (vI most)) (by funext k; match k with | 0 => rfl | 1 => rfl | k + 2 => rfl) (fun base0_ => ?_)
 refine A_sr <| r_V (vB false) rfl <| lx_nil <| A_seq fun K2 hK2 => A_reg <| r_V (vI most) rfl ?_
 obtain ⟨r3, hr4, hM⟩ := bind_sm hM
 refine cA 10 <| r_gm (Ls := []) (FL := []) [] _ (some 10) 7 _ rfl rfl rfl rfl rfl (ev_callF rfl call_7 rfl) (fun own_ nw_ hn_ hs_ => exact_New_g N most _ hr4 _ ) (fun _ _ _ _ _ => Iff.rfl) (fun h_ => nomatch h_) ?_
 rcases Sum23.cases r3 with hx5 | ⟨x6_0, x7_1, x8_2, hx5⟩
 ·rintro _ _ hp_
  obtain ⟨rfl, rfl⟩ := Sum23.onP_nil hx5 hp_
  replace hM := Sum23.on_nil hx5 hM
  refine lx_perm (Ls := []) (Ls' := []) [] rfl rfl <| r_V (Value.pointer none) rfl <| lx_nil <| hK2 _ _ ?_; try clear hK2 K2
  refine A_seq fun K9 hK9 => A_seq fun K10 hK10 => A_reg <| r_R [vI most, vB (decide (most < 1)), vB (decide (most < 1))] rfl <| lx_jn 3 16 [(0, vI most), (1, opsv), (5, Value.pointer none)] vB (fun b_ => shunterlaw19_ExactPlays_k1 N b_ = some r) (fun b11 hM T => ?_) (fun HJ => ?_)
  ·unfold shunterlaw19_ExactPlays_k1 at hM
   refine lx_nil <| hK10 _ _ ?_; try clear hK10 K10
   refine A_cond b11 rfl (fun hc12 => ?_) (fun hc12 => ?_)
   ·replace hM := ifp hc12 hM
    refine A_sr <| r_R [Value.pointer none, vB true, vB true] rfl <| r_y rfl ?_
    obtain ⟨r14, hr15, hM⟩ := bind_sm hM
    refine r_c (vB r14) rfl _ _ (ev_callF rfl call_8 rfl) (shunterlaw19_lives_g N  _ hr15) <| r_R [vB r14, vB r14] rfl <| lx_nil ?_
    obtain rfl := Option.some.inj hM
    refine A_ret (fun hn => endsV (v0 := vB r14) rfl (res1 rfl))
   replace hM := ifn (Bool.eq_false_iff.1 hc12) hM
   refine A_skip <| hK9 _ _ ?_; try clear hK9 K9
   refine A_seq fun K16 hK16 => A_sr <| r_R [Value.pointer none, vB true, vB true, none, none, none, vB true] rfl <| lx_nil <| A_cond true rfl (fun _ => ?_) (fun h_ => nomatch h_)
   refine A_sr <| r_R [Value.pointer none, vB false, vB false, none, vB false, vB false] rfl <| lx_nil ?_
   obtain rfl := Option.some.inj hM
   refine A_ret (fun hn => endsV (v0 := vB false) rfl (res1 rfl))
  rcases hg19 : (decide (most < 1)) with _ | _
  ·replace hM := ifn (of_decide_eq_false hg19) hM
   refine r_R [vI most, vB (decide (most > 256)), vB (decide (most > 256))] rfl ?_
   first | exact HJ _ _ hM rfl rfl | exact lx_cn _ _ (HJ _ _ hM rfl rfl)
  replace hM := ifp (of_decide_eq_true hg19) hM
  refine r_R [none, none, vB true] rfl ?_
  first | exact HJ _ _ hM rfl rfl | exact lx_cn _ _ (HJ _ _ hM rfl rfl)
 rintro _ _ hp_
 obtain ⟨s9, S10, _, H11, ⟨b12, _, ⟨rfl, rfl⟩, rfl⟩, rfl⟩ := Sum23.onP_t53 hx5 hp_
 replace hM := Sum23.on_t53 hx5 hM
 refine lx_perm (Ls := [S10, (kLExactPlays53_0 b12 s9 x7_1 x8_2)]) (Ls' := [(kLExactPlays53_0 b12 s9 x7_1 x8_2), S10]) [1, 0] rfl rfl <| r_V (vP b12 0) rfl <| lx_nil <| hK2 _ _ ?_; try clear hK2 K2
 refine A_seq fun K13 hK13 => A_seq fun K14 hK14 => A_reg <| r_R [vI most, vB (decide (most < 1)), vB (decide (most < 1))] rfl <| lx_jn 3 16 [(0, vI most), (1, opsv), (5, vP b12 0)] vB (fun b_ => shunterlaw19_ExactPlays_k2 N most ops x6_0 x7_1 x8_2 b_ = some r) (fun b15 hM T => ?_) (fun HJ => ?_)
 ·unfold shunterlaw19_ExactPlays_k2 at hM
  refine lx_nil <| hK14 _ _ ?_; try clear hK14 K14
  refine A_cond b15 rfl (fun hc16 => ?_) (fun hc16 => ?_)
  ·replace hM := ifp hc16 hM
   refine A_sr <| r_R [vP b12 0, vB false, vB false, none, vB false, vB false] rfl <| lx_nil ?_
   obtain rfl := Option.some.inj hM
   refine A_ret (fun hn => endsV (v0 := vB false) rfl (res1 rfl))
  replace hM := ifn (Bool.eq_false_iff.1 hc16) hM
  refine A_skip <| hK13 _ _ ?_; try clear hK13 K13
  refine A_seq fun K18 hK18 => A_sr <| r_R [vP b12 0, vB false, vB false, opsv] rfl <| r_y rfl <| r_W (vI ((ops).length : Int)) rfl (ev_lenSl rfl rfl rfl (Rd.shp hops)) <| r_R [vB (decide ((((ops).length : Int) : Int) > 600)), vB (decide ((((ops).length : Int) : Int) > 600))] rfl <| lx_nil <| A_cond (decide ((((ops).length : Int) : Int) > 600)) rfl (fun hc20 => ?_) (fun hc20 => ?_)
  ·replace hM := ifp (of_decide_eq_true hc20) hM
   refine A_sr <| r_R [vP b12 0, vB true, vB true] rfl <| r_y rfl ?_
   obtain ⟨r22, hr23, hM⟩ := bind_sm hM
   refine r_c (vB r22) rfl _ _ (ev_callF rfl call_8 rfl) (shunterlaw19_lives_g N  _ hr23) <| r_R [vB r22, vB r22] rfl <| lx_nil ?_
   obtain rfl := Option.some.inj hM
   refine A_ret (fun hn => endsV (v0 := vB r22) rfl (res1 rfl))
  replace hM := ifn (of_decide_eq_false hc20) hM
  refine A_skip <| hK18 _ _ ?_; try clear hK18 K18
  refine A_sr <| r_V nS rfl <| lx_nil <| A_seq fun K25 hK25 => A_sr <| r_V (vI 0) rfl <| lx_nil <| A_block <| A_forget _ (Sub.pickE (Ls := [(kLExactPlays53_0 b12 s9 x7_1 x8_2), S10, []]) (Ls0 := [(kLExactPlays53_0 b12 s9 x7_1 x8_2), S10]) rfl [0, 2, 1] rfl) ?_
  refine A_loop (fun tt ll nn => ∃ (n27 : Nat) (l3_ : List (Int × BitVec 128 × Int)) (i4_ : Int) (s6_ : List (Int × BitVec 128 × Int)) (m5__1 : Int) (m5__2 : Int), (shunterlaw19_ExactPlays_l7 N most ops n27 l3_ i4_ s6_ m5__1 m5__2 = some r) ∧ ∃ (vl3_ : Value) (Sl3_ : List Bl), Sl 41 enc_41 vl3_ l3_ Sl3_ ∧ ∃ (Ss6_ : List Bl), Sl 40 enc_40 s9 s6_ Ss6_ ∧ Is [(0, vI most), (1, opsv), (5, vP b12 0), (6, vl3_), (7, vI i4_)] (List.flatten [(kLExactPlays53_0 b12 s9 m5__1 m5__2), Sl3_, Ss6_]) tt ll ∧ nn = n27 + 1) (N + 1) ?_ ?_
  ·exact ⟨N, [], 0, x6_0, x7_1, x8_2, hM, nS, [], Sl.nil, S10, H11, is_mk rfl rfl, rfl⟩
  clear hM; rintro t l _ ⟨n27, l3_, i4_, s6_, m5__1, m5__2, hM, vl3_, Sl3_, hl3_, Ss6_, hs6_, ⟨⟨T, rfl⟩, rfl⟩, rfl⟩
  rcases n27 with _ | n27
  ·exact absurd hM (by simp [shunterlaw19_ExactPlays_l7])
  rw [shunterlaw19_ExactPlays_l7] at hM
  refine A_seq fun K28 hK28 => A_sr <| r_R [vI i4_, opsv] rfl <| r_W (vI ((ops).length : Int)) rfl (ev_lenSl rfl rfl rfl (Rd.shp hops)) <| r_V (vB (decide (i4_ < ((ops).length : Int)))) rfl <| lx_nil <| A_cond (decide (i4_ < ((ops).length : Int))) rfl (fun hc30 => ?_) (fun hc30 => ?_)
  ·replace hM := ifp (of_decide_eq_true hc30) hM
   refine A_skip <| hK28 _ _ ?_; try clear hK28 K28
   refine A_seq fun K31 hK31 => A_block <| A_sr <| r_V (vB false) rfl <| lx_nil <| A_seq fun K33 hK33 => A_reg <| r_R [vP b12 0, vl3_, vI most, opsv, vI i4_] rfl ?_
   obtain ⟨ck34, hM⟩ := ck_some hM
   refine r_W (elA opsv ((i4_).toNat * 5)) rfl (ev_v (ev_idxSl rfl rfl rfl (Rd.shp hops) ck34)) <| r_le (vA #[vI (((ops)[(i4_).toNat]!).1), vI (((ops)[(i4_).toNat]!).2.1), vI (((ops)[(i4_).toNat]!).2.2.1), U (hi (((ops)[(i4_).toNat]!).2.2.2)), U (lo (((ops)[(i4_).toNat]!).2.2.2))]) (En := enc_33) ((ops)[(i4_).toNat]!) ((i4_).toNat) 0 rfl rfl (rd_ro hops) (get_of ck34) rfl ?_
   obtain ⟨r35, hr36, hM⟩ := bind_sm hM
   obtain ⟨ck37, hM⟩ := ck_some hM
   refine cA 48 <| r_gm (Ls := [(kLExactPlays53_0 b12 s9 m5__1 m5__2), Sl3_, Ss6_]) (FL := [(kLExactPlays53_0 b12 s9 m5__1 m5__2), Ss6_]) [0, 2] _ (some 48) 9 _ rfl rfl rfl rfl rfl (ev_callF rfl call_9 rfl) (fun own_ nw_ hn_ hs_ => shunterlaw19_step_v1_g N s6_ m5__1 m5__2 l3_ most (((ops)[(i4_).toNat]!).1) (((ops)[(i4_).toNat]!).2.1) (((ops)[(i4_).toNat]!).2.2.1) (((ops)[(i4_).toNat]!).2.2.2) _ hr36 _ b12 s9 Ss6_ hs6_ vl3_ (rd_sans (Ls := [(kLExactPlays53_0 b12 s9 m5__1 m5__2), Sl3_, Ss6_]) (is := [0, 2]) 1 hl3_ rfl rfl hn_ hs_)) (fun _ _ _ _ _ => Iff.rfl) (fun h_ => nomatch h_) ?_
   rcases SumRow41.cases r35.1 with hx40 | ⟨x41_0, hx40⟩
   ·rintro _ _ ⟨S38, _, H39, hp_, rfl⟩
    obtain ⟨rfl, rfl⟩ := SumRow41.onP_nil hx40 hp_
    replace hM := SumRow41.on_nil hx40 hM
    refine lx_perm (Ls := [Sl3_, S38, (kLExactPlays53_0 b12 s9 r35.2.2.2.1 r35.2.2.2.2)]) (Ls' := [(kLExactPlays53_0 b12 s9 r35.2.2.2.1 r35.2.2.2.2), Sl3_, S38]) [2, 0, 1] rfl rfl <| r_R [vT #[vl3_, vB r35.2.1], vl3_, vB r35.2.1, vl3_, vB r35.2.1] rfl <| lx_nil <| hK33 _ _ ?_; try clear hK33 K33
    refine A_seq fun K42 hK42 => A_reg <| r_R [vB r35.2.1, vB (!(r35.2.1)), vB (!(r35.2.1))] rfl <| lx_jn 6 59 [(0, vI most), (1, opsv), (5, vP b12 0), (6, vl3_), (7, vI i4_)] vB (fun b_ => shunterlaw19_ExactPlays_k8 N most l3_ i4_ (shunterlaw19_ExactPlays_l7 N most ops n27) r35 b_ = some r) (fun b43 hM T => ?_) (fun HJ => ?_)
    ·unfold shunterlaw19_ExactPlays_k8 at hM
     refine r_V (vB b43) rfl <| lx_jn 8 68 [(0, vI most), (1, opsv), (5, vP b12 0), (6, vl3_), (7, vI i4_)] vB (fun b_ => shunterlaw19_ExactPlays_k9 l3_ i4_ (shunterlaw19_ExactPlays_l7 N most ops n27) r35 b_ = some r) (fun b44 hM T => ?_) (fun HJ => ?_)
     ·unfold shunterlaw19_ExactPlays_k9 at hM
      refine lx_nil <| hK42 _ _ ?_; try clear hK42 K42
      refine A_cond b44 rfl (fun hc45 => ?_) (fun hc45 => ?_)
      ·replace hM := ifp hc45 hM
       refine A_sr <| r_V (vB false) rfl <| lx_nil ?_
       obtain rfl := Option.some.inj hM
       refine A_ret (fun hn => endsV (v0 := vB false) rfl (res1 rfl))
      replace hM := ifn (Bool.eq_false_iff.1 hc45) hM
      refine A_skip <| hK31 _ _ ?_; try clear hK31 K31
      refine A_reg <| r_V (vI i4_) rfl ?_
      obtain ⟨ck47, hM⟩ := ck_some hM
      refine r_X (vI (i4_ + 1)) rfl (wi64 rfl ck47.1 ck47.2) rfl <| r_V (vI (i4_ + 1)) rfl <| lx_nil <| fg _ (Sub.pick [(kLExactPlays53_0 b12 s9 r35.2.2.2.1 r35.2.2.2.2), Sl3_, S38] [0, 1, 2] rfl) ?_
      exact ⟨n27 + 1, by omega, n27, l3_, (i4_ + 1), r35.2.2.1, r35.2.2.2.1, r35.2.2.2.2, hM, vl3_, Sl3_, hl3_, S38, H39, is_mk rfl rfl, rfl⟩
     rcases hg48 : b43 with _ | _
     ·replace hM := ifn (Bool.eq_false_iff.1 hg48) hM
      refine r_R [vP b12 0] rfl <| r_y rfl ?_
      obtain ⟨r49, hr50, hM⟩ := bind_sm hM
      refine cB 62 <| r_gv (vI r49) 11 _ rfl rfl rfl (ev_callF rfl call_11 rfl) (fun own_ nw_ hs_ => exact_Map_Room_v1_g N r35.2.2.1 r35.2.2.2.1 r35.2.2.2.2 _ hr50 hs_.view b12 s9 ((rd_own H39 (mem_chunk (Ls := [(kLExactPlays53_0 b12 s9 r35.2.2.2.1 r35.2.2.2.2), Sl3_, S38]) (k := 2) rfl rfl)) own_ nw_ hs_) (blk_own 0 rfl rfl own_ nw_ hs_)) (fun _ _ _ _ _ => Iff.rfl) <| r_R [vI most, vl3_] rfl <| r_y rfl <| r_W (vI ((l3_).length : Int)) rfl (ev_lenSl rfl rfl rfl (Sl.shp hl3_)) <| r_y rfl ?_
      obtain ⟨ck51, hM⟩ := ck_some hM
      refine r_X (vI (most - ((l3_).length : Int))) rfl (wi64 rfl ck51.1 ck51.2) rfl <| r_R [vB ((r49 != (most - ((l3_).length : Int)))), vB ((r49 != (most - ((l3_).length : Int))))] rfl ?_
      first | exact HJ _ _ hM rfl rfl | exact lx_cn _ _ (HJ _ _ hM rfl rfl)
     replace hM := ifp hg48 hM
     refine r_R [none, none, none, none, none, none, none, vB true] rfl ?_
     first | exact HJ _ _ hM rfl rfl | exact lx_cn _ _ (HJ _ _ hM rfl rfl)
    rcases hg52 : (!(r35.2.1)) with _ | _
    ·replace hM := ifp (not_f hg52) hM
     refine r_R [vP b12 0] rfl <| r_y rfl ?_
     obtain ⟨r53, hr54, hM⟩ := bind_sm hM
     refine cB 55 <| r_gv (vI r53) 10 _ rfl rfl rfl (ev_callF rfl call_10 rfl) (fun own_ nw_ hs_ => exact_Map_Len_v1_g N r35.2.2.1 r35.2.2.2.1 r35.2.2.2.2 _ hr54 hs_.view b12 s9 ((rd_own H39 (mem_chunk (Ls := [(kLExactPlays53_0 b12 s9 r35.2.2.2.1 r35.2.2.2.2), Sl3_, S38]) (k := 2) rfl rfl)) own_ nw_ hs_) (blk_own 0 rfl rfl own_ nw_ hs_)) (fun _ _ _ _ _ => Iff.rfl) <| r_R [vl3_] rfl <| r_y rfl <| r_W (vI ((l3_).length : Int)) rfl (ev_lenSl rfl rfl rfl (Sl.shp hl3_)) <| r_R [vB (r53 != ((l3_).length : Int)), vB (r53 != ((l3_).length : Int))] rfl ?_
     first | exact HJ _ _ hM rfl rfl | exact lx_cn _ _ (HJ _ _ hM rfl rfl)
    replace hM := ifn (Bool.eq_false_iff.1 (not_t hg52)) hM
    refine r_R [none, none, none, none, none, vB true] rfl ?_
    first | exact HJ _ _ hM rfl rfl | exact lx_cn _ _ (HJ _ _ hM rfl rfl)
   rintro _ _ ⟨S38, _, H39, hp_, rfl⟩
   obtain ⟨s42, S43, _, H44, ⟨rfl, rfl⟩, rfl⟩ := SumRow41.onP_t0 hx40 hp_
   replace hM := SumRow41.on_t0 hx40 hM
   refine lx_perm (Ls := [Sl3_, S38, S43, (kLExactPlays53_0 b12 s9 r35.2.2.2.1 r35.2.2.2.2)]) (Ls' := [(kLExactPlays53_0 b12 s9 r35.2.2.2.1 r35.2.2.2.2), Sl3_, S38, S43]) [3, 0, 1, 2] rfl rfl <| r_R [vT #[s42, vB r35.2.1], s42, vB r35.2.1, s42, vB r35.2.1] rfl <| lx_nil <| hK33 _ _ ?_; try clear hK33 K33
   refine A_seq fun K45 hK45 => A_reg <| r_R [vB r35.2.1, vB (!(r35.2.1)), vB (!(r35.2.1))] rfl <| lx_jn 6 59 [(0, vI most), (1, opsv), (5, vP b12 0), (6, s42), (7, vI i4_)] vB (fun b_ => shunterlaw19_ExactPlays_k10 N most i4_ (shunterlaw19_ExactPlays_l7 N most ops n27) r35 x41_0 b_ = some r) (fun b46 hM T => ?_) (fun HJ => ?_)
   ·unfold shunterlaw19_ExactPlays_k10 at hM
    refine r_V (vB b46) rfl <| lx_jn 8 68 [(0, vI most), (1, opsv), (5, vP b12 0), (6, s42), (7, vI i4_)] vB (fun b_ => shunterlaw19_ExactPlays_k11 i4_ (shunterlaw19_ExactPlays_l7 N most ops n27) r35 x41_0 b_ = some r) (fun b47 hM T => ?_) (fun HJ => ?_)
    ·unfold shunterlaw19_ExactPlays_k11 at hM
     refine lx_nil <| hK45 _ _ ?_; try clear hK45 K45
     refine A_cond b47 rfl (fun hc48 => ?_) (fun hc48 => ?_)
     ·replace hM := ifp hc48 hM
      refine A_sr <| r_V (vB false) rfl <| lx_nil ?_
      obtain rfl := Option.some.inj hM
      refine A_ret (fun hn => endsV (v0 := vB false) rfl (res1 rfl))
     replace hM := ifn (Bool.eq_false_iff.1 hc48) hM
     refine A_skip <| hK31 _ _ ?_; try clear hK31 K31
     refine A_reg <| r_V (vI i4_) rfl ?_
     obtain ⟨ck50, hM⟩ := ck_some hM
     refine r_X (vI (i4_ + 1)) rfl (wi64 rfl ck50.1 ck50.2) rfl <| r_V (vI (i4_ + 1)) rfl <| lx_nil <| fg _ (Sub.pick [(kLExactPlays53_0 b12 s9 r35.2.2.2.1 r35.2.2.2.2), Sl3_, S38, S43] [0, 3, 2] rfl) ?_
     exact ⟨n27 + 1, by omega, n27, x41_0, (i4_ + 1), r35.2.2.1, r35.2.2.2.1, r35.2.2.2.2, hM, s42, S43, H44, S38, H39, is_mk rfl rfl, rfl⟩
    rcases hg51 : b46 with _ | _
    ·replace hM := ifn (Bool.eq_false_iff.1 hg51) hM
     refine r_R [vP b12 0] rfl <| r_y rfl ?_
     obtain ⟨r52, hr53, hM⟩ := bind_sm hM
     refine cB 62 <| r_gv (vI r52) 11 _ rfl rfl rfl (ev_callF rfl call_11 rfl) (fun own_ nw_ hs_ => exact_Map_Room_v1_g N r35.2.2.1 r35.2.2.2.1 r35.2.2.2.2 _ hr53 hs_.view b12 s9 ((rd_own H39 (mem_chunk (Ls := [(kLExactPlays53_0 b12 s9 r35.2.2.2.1 r35.2.2.2.2), Sl3_, S38, S43]) (k := 2) rfl rfl)) own_ nw_ hs_) (blk_own 0 rfl rfl own_ nw_ hs_)) (fun _ _ _ _ _ => Iff.rfl) <| r_R [vI most, s42] rfl <| r_y rfl <| r_W (vI ((x41_0).length : Int)) rfl (ev_lenSl rfl rfl rfl (Sl.shp H44)) <| r_y rfl ?_
     obtain ⟨ck54, hM⟩ := ck_some hM
     refine r_X (vI (most - ((x41_0).length : Int))) rfl (wi64 rfl ck54.1 ck54.2) rfl <| r_R [vB ((r52 != (most - ((x41_0).length : Int)))), vB ((r52 != (most - ((x41_0).length : Int))))] rfl ?_
     first | exact HJ _ _ hM rfl rfl | exact lx_cn _ _ (HJ _ _ hM rfl rfl)
    replace hM := ifp hg51 hM
    refine r_R [none, none, none, none, none, none, none, vB true] rfl ?_
    first | exact HJ _ _ hM rfl rfl | exact lx_cn _ _ (HJ _ _ hM rfl rfl)
   rcases hg55 : (!(r35.2.1)) with _ | _
   ·replace hM := ifp (not_f hg55) hM
    refine r_R [vP b12 0] rfl <| r_y rfl ?_
    obtain ⟨r56, hr57, hM⟩ := bind_sm hM
    refine cB 55 <| r_gv (vI r56) 10 _ rfl rfl rfl (ev_callF rfl call_10 rfl) (fun own_ nw_ hs_ => exact_Map_Len_v1_g N r35.2.2.1 r35.2.2.2.1 r35.2.2.2.2 _ hr57 hs_.view b12 s9 ((rd_own H39 (mem_chunk (Ls := [(kLExactPlays53_0 b12 s9 r35.2.2.2.1 r35.2.2.2.2), Sl3_, S38, S43]) (k := 2) rfl rfl)) own_ nw_ hs_) (blk_own 0 rfl rfl own_ nw_ hs_)) (fun _ _ _ _ _ => Iff.rfl) <| r_R [s42] rfl <| r_y rfl <| r_W (vI ((x41_0).length : Int)) rfl (ev_lenSl rfl rfl rfl (Sl.shp H44)) <| r_R [vB (r56 != ((x41_0).length : Int)), vB (r56 != ((x41_0).length : Int))] rfl ?_
    first | exact HJ _ _ hM rfl rfl | exact lx_cn _ _ (HJ _ _ hM rfl rfl)
   replace hM := ifn (Bool.eq_false_iff.1 (not_t hg55)) hM
   refine r_R [none, none, none, none, none, vB true] rfl ?_
   first | exact HJ _ _ hM rfl rfl | exact lx_cn _ _ (HJ _ _ hM rfl rfl)
  replace hM := ifn (of_decide_eq_false hc30) hM
  refine A_exit <| hK25 _ _ ?_; try clear hK25 K25
  refine A_sr ?_
  obtain ⟨r59, hr60, hM⟩ := bind_sm hM
  refine r_c (vB r59) rfl _ _ (ev_callF rfl call_8 rfl) (shunterlaw19_lives_g N  _ hr60) <| r_V (vB r59) rfl <| lx_nil ?_
  obtain rfl := Option.some.inj hM
  refine A_ret (fun hn => endsV (v0 := vB r59) rfl (res1 rfl))
 rcases hg61 : (decide (most < 1)) with _ | _
 ·replace hM := ifn (of_decide_eq_false hg61) hM
  refine r_R [vI most, vB (decide (most > 256)), vB (decide (most > 256))] rfl ?_
  first | exact HJ _ _ hM rfl rfl | exact lx_cn _ _ (HJ _ _ hM rfl rfl)
 replace hM := ifp (of_decide_eq_true hg61) hM
 refine r_R [none, none, vB true] rfl ?_
 first | exact HJ _ _ hM rfl rfl | exact lx_cn _ _ (HJ _ _ hM rfl rfl)
end Go.Proofs.Ytnpbpllibmcokaa
