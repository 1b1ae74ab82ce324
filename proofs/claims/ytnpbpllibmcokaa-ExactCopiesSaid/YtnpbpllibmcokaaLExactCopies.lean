/- models of functions and their walks -/
import Derived.Test.YtnpbpllibmcokaaBb
namespace Go.Proofs.Ytnpbpllibmcokaa
open Go Go.RowKit Go.Eng
abbrev kLExactCopies53_0 (b : Nat) (x0 : Value) (x1 : Int) (x2 : Int) : List Bl := [(b, 53, #[x0, vI x1, vI x2])]
def shunterlaw19_ExactCopies_l20 (N : Nat) (l8_ : List (Int × BitVec 128 × Int)) (r94 : List (Int × BitVec 128 × Int)) : Nat → Int → Option Bool
  | 0, _ => none
  | n106 + 1, i19_ => if i19_ < ((r94).length : Int) then ck (0 ≤ i19_ ∧ i19_ < ((r94).length : Int)) ((shunterref19_Find_m N l8_ (((r94)[(i19_).toNat]!).1) (((r94)[(i19_).toNat]!).2.1)).bind fun r113 => if r113 < 0 then some false else ck (0 ≤ r113 ∧ r113 < ((l8_).length : Int)) (ck (0 ≤ i19_ ∧ i19_ < ((r94).length : Int)) (if (((l8_)[(r113).toNat]!).2.2 : Int) ≠ ((r94)[(i19_).toNat]!).2.2 then some false else ck (-9223372036854775808 ≤ (i19_ + 1) ∧ (i19_ + 1) ≤ 9223372036854775807) ((shunterlaw19_ExactCopies_l20 N l8_ r94 n106) (i19_ + 1))))) else (shunterlaw19_lives_m N ).bind fun r124 => some r124
def shunterlaw19_ExactCopies_k18 (N : Nat) (l8_ : List (Int × BitVec 128 × Int)) (r94 : List (Int × BitVec 128 × Int)) (b101 : Bool) : Option Bool := if b101 = true then some false else shunterlaw19_ExactCopies_l20 N l8_ r94 N 0
def shunterlaw19_ExactCopies_l17 (N : Nat) (more : List (Int × Int × Int × BitVec 128)) (l8_ : List (Int × BitVec 128 × Int)) (s11_ : List (Int × BitVec 128 × Int)) (m10__1 : Int) (m10__2 : Int) : Nat → List (Int × BitVec 128 × Int) → Int → List (Int × BitVec 128 × Int) → Int → Int → Option Bool
  | 0, _, _, _, _, _ => none
  | n76 + 1, x13_, i14_, s16_, m15__1, m15__2 => if i14_ < ((more).length : Int) then ck (0 ≤ i14_ ∧ i14_ < ((more).length : Int)) ((shunterlaw19_step_v1_m N s16_ m15__1 m15__2 x13_ 40 (((more)[(i14_).toNat]!).1) (((more)[(i14_).toNat]!).2.1) (((more)[(i14_).toNat]!).2.2.1) (((more)[(i14_).toNat]!).2.2.2)).bind fun r82 => ck ((r82.2.2.1).length = (s16_).length) (SumRow41.on r82.1 (ck (-9223372036854775808 ≤ (i14_ + 1) ∧ (i14_ + 1) ≤ 9223372036854775807) ((shunterlaw19_ExactCopies_l17 N more l8_ s11_ m10__1 m10__2 n76) x13_ (i14_ + 1) r82.2.2.1 r82.2.2.2.1 r82.2.2.2.2)) (fun x88_0 => ck (-9223372036854775808 ≤ (i14_ + 1) ∧ (i14_ + 1) ≤ 9223372036854775807) ((shunterlaw19_ExactCopies_l17 N more l8_ s11_ m10__1 m10__2 n76) x88_0 (i14_ + 1) r82.2.2.1 r82.2.2.2.1 r82.2.2.2.2)))) else (exact_Map_List_v1_m N s11_ m10__1 m10__2).bind fun r94 => if (((r94).length : Int) : Int) ≠ ((l8_).length : Int) then shunterlaw19_ExactCopies_k18 N l8_ r94 true else (exact_Map_Len_v1_m N s11_ m10__1 m10__2).bind fun r127 => shunterlaw19_ExactCopies_k18 N l8_ r94 (r127 != ((l8_).length : Int))
def shunterlaw19_ExactCopies_l12 (N : Nat) (ops : List (Int × Int × Int × BitVec 128)) (more : List (Int × Int × Int × BitVec 128)) : Nat → List (Int × BitVec 128 × Int) → Int → List (Int × BitVec 128 × Int) → Int → Int → Option Bool
  | 0, _, _, _, _, _ => none
  | n50 + 1, l8_, i9_, s11_, m10__1, m10__2 => if i9_ < ((ops).length : Int) then ck (0 ≤ i9_ ∧ i9_ < ((ops).length : Int)) ((shunterlaw19_step_v1_m N s11_ m10__1 m10__2 l8_ 40 (((ops)[(i9_).toNat]!).1) (((ops)[(i9_).toNat]!).2.1) (((ops)[(i9_).toNat]!).2.2.1) (((ops)[(i9_).toNat]!).2.2.2)).bind fun r56 => ck ((r56.2.2.1).length = (s11_).length) (SumRow41.on r56.1 (ck (-9223372036854775808 ≤ (i9_ + 1) ∧ (i9_ + 1) ≤ 9223372036854775807) ((shunterlaw19_ExactCopies_l12 N ops more n50) l8_ (i9_ + 1) r56.2.2.1 r56.2.2.2.1 r56.2.2.2.2)) (fun x62_0 => ck (-9223372036854775808 ≤ (i9_ + 1) ∧ (i9_ + 1) ≤ 9223372036854775807) ((shunterlaw19_ExactCopies_l12 N ops more n50) x62_0 (i9_ + 1) r56.2.2.1 r56.2.2.2.1 r56.2.2.2.2)))) else (exact_Map_Copy_v2_m N s11_ m10__1 m10__2).bind fun r68 => shunterlaw19_ExactCopies_l17 N more l8_ s11_ m10__1 m10__2 N ([]) 0 r68.1 r68.2.1 r68.2.2
def shunterlaw19_ExactCopies_k7 (N : Nat) (ops : List (Int × Int × Int × BitVec 128)) (more : List (Int × Int × Int × BitVec 128)) (b29 : Bool) : Option Bool := if b29 = true then (shunterlaw19_lives_m N ).bind fun r32 => some r32 else (exact_New_m N 40).bind fun r35 => Sum23.on r35 (some false) (fun x38_0 x39_1 x40_2 => shunterlaw19_ExactCopies_l12 N ops more N ([]) 0 x38_0 x39_1 x40_2)
def shunterlaw19_ExactCopies_k6 (N : Nat) (ops : List (Int × Int × Int × BitVec 128)) (more : List (Int × Int × Int × BitVec 128)) (b13 : Bool) : Option Bool := if b13 = true then some false else (exact_Map_List_v2_m N ).bind fun r15 => if (((r15).length : Int) : Int) ≠ 0 then some false else (exact_Map_Copy_v1_m N ).bind fun r21 => Sum23.on r21 (if (((ops).length : Int) : Int) > 200 then shunterlaw19_ExactCopies_k7 N ops more true else shunterlaw19_ExactCopies_k7 N ops more (decide ((((more).length : Int) : Int) > 200))) (fun _ _ _ => some false)
def shunterlaw19_ExactCopies_k5 (N : Nat) (ops : List (Int × Int × Int × BitVec 128)) (more : List (Int × Int × Int × BitVec 128)) (b12 : Bool) : Option Bool := if b12 = true then shunterlaw19_ExactCopies_k6 N ops more true else (exact_Map_Room_v2_m N ).bind fun r35 => shunterlaw19_ExactCopies_k6 N ops more (r35 != 0)
def shunterlaw19_ExactCopies_k4 (N : Nat) (ops : List (Int × Int × Int × BitVec 128)) (more : List (Int × Int × Int × BitVec 128)) (b11 : Bool) : Option Bool := if b11 = true then shunterlaw19_ExactCopies_k5 N ops more true else (exact_Map_Len_v2_m N ).bind fun r38 => shunterlaw19_ExactCopies_k5 N ops more (r38 != 0)
def shunterlaw19_ExactCopies_k3 (N : Nat) (ops : List (Int × Int × Int × BitVec 128)) (more : List (Int × Int × Int × BitVec 128)) (b10 : Bool) : Option Bool := if b10 = true then shunterlaw19_ExactCopies_k4 N ops more true else (exact_Map_Drop_v2_m N 1 ((0#64) ++ (0#64))).bind fun r41 => shunterlaw19_ExactCopies_k4 N ops more (r41 != 1)
def shunterlaw19_ExactCopies_k2 (N : Nat) (ops : List (Int × Int × Int × BitVec 128)) (more : List (Int × Int × Int × BitVec 128)) (b9 : Bool) : Option Bool := if b9 = true then shunterlaw19_ExactCopies_k3 N ops more true else (exact_Map_Set_v2_m N 1 ((0#64) ++ (0#64)) 1).bind fun r44 => shunterlaw19_ExactCopies_k3 N ops more (r44 != 1)
def shunterlaw19_ExactCopies_k1 (N : Nat) (ops : List (Int × Int × Int × BitVec 128)) (more : List (Int × Int × Int × BitVec 128)) (b8 : Bool) : Option Bool := if b8 = true then shunterlaw19_ExactCopies_k2 N ops more true else (exact_Map_Put_v2_m N 1 ((0#64) ++ (0#64)) 1).bind fun r47 => shunterlaw19_ExactCopies_k2 N ops more (r47 != 1)
def shunterlaw19_ExactCopies_m (N : Nat) (ops : List (Int × Int × Int × BitVec 128)) (more : List (Int × Int × Int × BitVec 128)) : Option Bool := (exact_Map_Get_v2_m N 1 ((0#64) ++ (0#64))).bind fun r4 => if (r4.1 : Int) ≠ 0 then shunterlaw19_ExactCopies_k1 N ops more true else shunterlaw19_ExactCopies_k1 N ops more r4.2
set_option maxRecDepth 100000 in
set_option maxHeartbeats 8000000 in
theorem shunterlaw19_ExactCopies_g (N : Nat) (ops more : List (Int × Int × Int × BitVec 128)) (r) (hM : shunterlaw19_ExactCopies_m N ops more = some r) (ro : Addr → Option Value) (opsv : Value) (hops : Rd enc_33 ro opsv ops) (morev : Value) (hmore : Rd enc_33 ro morev more) : Does Try.prog 6 #[opsv, morev] ro [] (pV (vB r)) := by
 unfold shunterlaw19_ExactCopies_m at hM
 refine does_of_A follows Try.func6 rfl 156 rfl (upd (upd (fun _ => undef) 1 morev) 0 opsv) (by funext k; match k with | 0 => rfl | 1 => rfl | k + 2 => rfl) (fun base0_ => ?_)
 refine A_sr <| r_V (vB false) rfl <| lx_nil <| A_sr <| r_V (Value.pointer none) rfl <| lx_nil <| A_sr <| r_V (Value.pointer none) rfl <| r_W (vA #[vI 1, U (0#64), U (0#64)]) rfl (ev_buildS rfl rfl rfl rfl) ?_
 obtain ⟨r4, hr5, hM⟩ := bind_sm hM
 refine r_c (vT #[vI r4.1, vB r4.2]) rfl _ _ (ev_callF rfl call_19 rfl) (by have h_ := (exact_Map_Get_v2_g N 1 ((0#64) ++ (0#64)) _ hr5); simp only [app_hl] at h_; exact h_) ?_
 refine r_R [vT #[vI r4.1, vB r4.2], vI r4.1, vB r4.2, vI r4.1, vB r4.2] rfl <| lx_nil <| A_seq fun K6 hK6 => A_seq fun K7 hK7 => A_reg <| r_R [vI r4.1, vB (r4.1 != 0), vB (r4.1 != 0)] rfl <| lx_jn 2 27 [(0, opsv), (1, morev), (5, Value.pointer none)] vB (fun b_ => shunterlaw19_ExactCopies_k1 N ops more b_ = some r) (fun b8 hM T => ?_) (fun HJ => ?_)
 ·unfold shunterlaw19_ExactCopies_k1 at hM
  refine r_V (vB b8) rfl <| lx_jn 5 33 [(0, opsv), (1, morev), (5, Value.pointer none)] vB (fun b_ => shunterlaw19_ExactCopies_k2 N ops more b_ = some r) (fun b9 hM T => ?_) (fun HJ => ?_)
  ·unfold shunterlaw19_ExactCopies_k2 at hM
   refine r_V (vB b9) rfl <| lx_jn 5 39 [(0, opsv), (1, morev), (5, Value.pointer none)] vB (fun b_ => shunterlaw19_ExactCopies_k3 N ops more b_ = some r) (fun b10 hM T => ?_) (fun HJ => ?_)
   ·unfold shunterlaw19_ExactCopies_k3 at hM
    refine r_V (vB b10) rfl <| lx_jn 5 45 [(0, opsv), (1, morev), (5, Value.pointer none)] vB (fun b_ => shunterlaw19_ExactCopies_k4 N ops more b_ = some r) (fun b11 hM T => ?_) (fun HJ => ?_)
    ·unfold shunterlaw19_ExactCopies_k4 at hM
     refine r_V (vB b11) rfl <| lx_jn 4 50 [(0, opsv), (1, morev), (5, Value.pointer none)] vB (fun b_ => shunterlaw19_ExactCopies_k5 N ops more b_ = some r) (fun b12 hM T => ?_) (fun HJ => ?_)
     ·unfold shunterlaw19_ExactCopies_k5 at hM
      refine r_V (vB b12) rfl <| lx_jn 4 55 [(0, opsv), (1, morev), (5, Value.pointer none)] vB (fun b_ => shunterlaw19_ExactCopies_k6 N ops more b_ = some r) (fun b13 hM T => ?_) (fun HJ => ?_)
      ·unfold shunterlaw19_ExactCopies_k6 at hM
       refine r_V (vB b13) rfl ?_
       rcases hg14 : b13 with _ | _
       ·replace hM := ifn (Bool.eq_false_iff.1 hg14) hM
        refine r_R [Value.pointer none] rfl <| r_y rfl ?_
        obtain ⟨r15, hr16, hM⟩ := bind_sm hM
        refine cB 58 <| r_g1 (Ls := []) (fun s17 => s17) 40 enc_40 r15 12 _ rfl rfl rfl (ev_callF rfl call_12 rfl) (fun own_ nw_ hs_ => exact_Map_List_v2_g N  _ hr16 hs_.view ) (fun _ _ _ _ _ => Iff.rfl) (fun s17 S18 H19 => ?_)
        refine r_y rfl <| r_W (vI ((r15).length : Int)) rfl (ev_lenSl rfl rfl rfl (Sl.shp H19)) <| r_R [vB (((((r15).length : Int) : Int) != 0)), vB (((((r15).length : Int) : Int) != 0)), vB (((((r15).length : Int) : Int) != 0))] rfl ?_
        rcases hg20 : (((((r15).length : Int) : Int) != 0)) with _ | _
        ·replace hM := ifn (bne_f hg20) hM
         refine r_R [Value.pointer none] rfl <| r_y rfl ?_
         obtain ⟨r21, hr22, hM⟩ := bind_sm hM
         refine cA 64 <| r_gm (Ls := [S18]) (FL := []) [] _ (some 64) 20 _ rfl rfl rfl rfl rfl (ev_callF rfl call_20 rfl) (fun own_ nw_ hn_ hs_ => exact_Map_Copy_v1_g N  _ hr22 _ ) (fun _ _ _ _ _ => Iff.rfl) (fun h_ => nomatch h_) ?_
         rcases Sum23.cases r21 with hx23 | ⟨x24_0, x25_1, x26_2, hx23⟩
         ·rintro _ _ hp_
          obtain ⟨rfl, rfl⟩ := Sum23.onP_nil hx23 hp_
          replace hM := Sum23.on_nil hx23 hM
          refine lx_perm (Ls := [S18]) (Ls' := [S18]) [0] rfl rfl <| r_R [vB false, vB false] rfl <| lx_nil <| hK7 _ _ ?_; try clear hK7 K7
          refine A_cond false rfl (fun h_ => nomatch h_) (fun _ => ?_)
          refine A_skip <| hK6 _ _ ?_; try clear hK6 K6
          refine A_seq fun K27 hK27 => A_seq fun K28 hK28 => A_reg <| r_V opsv rfl <| r_W (vI ((ops).length : Int)) rfl (ev_lenSl rfl rfl rfl (Rd.shp hops)) <| r_R [vB (decide ((((ops).length : Int) : Int) > 200)), vB (decide ((((ops).length : Int) : Int) > 200))] rfl <| lx_jn 4 74 [(0, opsv), (1, morev)] vB (fun b_ => shunterlaw19_ExactCopies_k7 N ops more b_ = some r) (fun b29 hM T => ?_) (fun HJ => ?_)
          ·unfold shunterlaw19_ExactCopies_k7 at hM
           refine lx_nil <| hK28 _ _ ?_; try clear hK28 K28
           refine A_cond b29 rfl (fun hc30 => ?_) (fun hc30 => ?_)
           ·replace hM := ifp hc30 hM
            refine A_sr ?_
            obtain ⟨r32, hr33, hM⟩ := bind_sm hM
            refine r_c (vB r32) rfl _ _ (ev_callF rfl call_8 rfl) (shunterlaw19_lives_g N  _ hr33) <| r_V (vB r32) rfl <| lx_nil ?_
            obtain rfl := Option.some.inj hM
            refine A_ret (fun hn => endsV (v0 := vB r32) rfl (res1 rfl))
           replace hM := ifn (Bool.eq_false_iff.1 hc30) hM
           refine A_skip <| hK27 _ _ ?_; try clear hK27 K27
           refine A_seq fun K34 hK34 => A_reg ?_
           obtain ⟨r35, hr36, hM⟩ := bind_sm hM
           refine cA 76 <| r_gm (Ls := [S18]) (FL := []) [] _ (some 76) 7 _ rfl rfl rfl rfl rfl (ev_callF rfl call_7 rfl) (fun own_ nw_ hn_ hs_ => exact_New_g N 40 _ hr36 _ ) (fun _ _ _ _ _ => Iff.rfl) (fun h_ => nomatch h_) ?_
           rcases Sum23.cases r35 with hx37 | ⟨x38_0, x39_1, x40_2, hx37⟩
           ·rintro _ _ hp_
            obtain ⟨rfl, rfl⟩ := Sum23.onP_nil hx37 hp_
            replace hM := Sum23.on_nil hx37 hM
            refine lx_perm (Ls := [S18]) (Ls' := [S18]) [0] rfl rfl <| r_V (Value.pointer none) rfl <| lx_nil <| hK34 _ _ ?_; try clear hK34 K34
            refine A_seq fun K41 hK41 => A_sr <| r_R [Value.pointer none, vB true] rfl <| lx_nil <| A_cond true rfl (fun _ => ?_) (fun h_ => nomatch h_)
            refine A_sr <| r_V (vB false) rfl <| lx_nil ?_
            obtain rfl := Option.some.inj hM
            refine A_ret (fun hn => endsV (v0 := vB false) rfl (res1 rfl))
           rintro _ _ hp_
           obtain ⟨s41, S42, _, H43, ⟨b44, _, ⟨rfl, rfl⟩, rfl⟩, rfl⟩ := Sum23.onP_t53 hx37 hp_
           replace hM := Sum23.on_t53 hx37 hM
           refine lx_perm (Ls := [S18, S42, (kLExactCopies53_0 b44 s41 x39_1 x40_2)]) (Ls' := [(kLExactCopies53_0 b44 s41 x39_1 x40_2), S18, S42]) [2, 0, 1] rfl rfl <| r_V (vP b44 0) rfl <| lx_nil <| hK34 _ _ ?_; try clear hK34 K34
           refine A_seq fun K45 hK45 => A_sr <| r_R [vP b44 0, vB false] rfl <| lx_nil <| A_cond false rfl (fun h_ => nomatch h_) (fun _ => ?_)
           refine A_skip <| hK45 _ _ ?_; try clear hK45 K45
           refine A_sr <| r_R [nS, nS] rfl <| lx_nil <| A_seq fun K48 hK48 => A_sr <| r_V (vI 0) rfl <| lx_nil <| A_block <| A_forget _ (Sub.pickE (Ls := [(kLExactCopies53_0 b44 s41 x39_1 x40_2), S18, S42, []]) (Ls0 := [(kLExactCopies53_0 b44 s41 x39_1 x40_2), S18, S42]) rfl [0, 3, 2] rfl) ?_
           refine A_loop (fun tt ll nn => ∃ (n50 : Nat) (l8_ : List (Int × BitVec 128 × Int)) (i9_ : Int) (s11_ : List (Int × BitVec 128 × Int)) (m10__1 : Int) (m10__2 : Int), (shunterlaw19_ExactCopies_l12 N ops more n50 l8_ i9_ s11_ m10__1 m10__2 = some r) ∧ ∃ (vl8_ : Value) (Sl8_ : List Bl), Sl 41 enc_41 vl8_ l8_ Sl8_ ∧ ∃ (Ss11_ : List Bl), Sl 40 enc_40 s41 s11_ Ss11_ ∧ Is [(0, opsv), (1, morev), (8, vP b44 0), (9, vl8_), (10, nS), (11, vI i9_)] (List.flatten [(kLExactCopies53_0 b44 s41 m10__1 m10__2), Sl8_, Ss11_]) tt ll ∧ nn = n50 + 1) (N + 1) ?_ ?_
           ·exact ⟨N, [], 0, x38_0, x39_1, x40_2, hM, nS, [], Sl.nil, S42, H43, is_mk (by first | rfl | (simp only [hg14, hg20]; done) | (simp only [hg14, hg20]; rfl) | (simp only [app_hl]; rfl)) rfl, rfl⟩
           clear hM; rintro t l _ ⟨n50, l8_, i9_, s11_, m10__1, m10__2, hM, vl8_, Sl8_, hl8_, Ss11_, hs11_, ⟨⟨T, rfl⟩, rfl⟩, rfl⟩
           rcases n50 with _ | n50
           ·exact absurd hM (by simp [shunterlaw19_ExactCopies_l12])
           rw [shunterlaw19_ExactCopies_l12] at hM
           refine A_seq fun K51 hK51 => A_sr <| r_R [vI i9_, opsv] rfl <| r_W (vI ((ops).length : Int)) rfl (ev_lenSl rfl rfl rfl (Rd.shp hops)) <| r_V (vB (decide (i9_ < ((ops).length : Int)))) rfl <| lx_nil <| A_cond (decide (i9_ < ((ops).length : Int))) rfl (fun hc53 => ?_) (fun hc53 => ?_)
           ·replace hM := ifp (of_decide_eq_true hc53) hM
            refine A_skip <| hK51 _ _ ?_; try clear hK51 K51
            refine A_seq fun K54 hK54 => A_block <| A_reg <| r_R [vP b44 0, vl8_, opsv, vI i9_] rfl ?_
            obtain ⟨ck55, hM⟩ := ck_some hM
            refine r_W (elA opsv ((i9_).toNat * 5)) rfl (ev_v (ev_idxSl rfl rfl rfl (Rd.shp hops) ck55)) <| r_le (vA #[vI (((ops)[(i9_).toNat]!).1), vI (((ops)[(i9_).toNat]!).2.1), vI (((ops)[(i9_).toNat]!).2.2.1), U (hi (((ops)[(i9_).toNat]!).2.2.2)), U (lo (((ops)[(i9_).toNat]!).2.2.2))]) (En := enc_33) ((ops)[(i9_).toNat]!) ((i9_).toNat) 0 rfl rfl (rd_ro hops) (get_of ck55) rfl ?_
            obtain ⟨r56, hr57, hM⟩ := bind_sm hM
            obtain ⟨ck58, hM⟩ := ck_some hM
            refine cA 92 <| r_gm (Ls := [(kLExactCopies53_0 b44 s41 m10__1 m10__2), Sl8_, Ss11_]) (FL := [(kLExactCopies53_0 b44 s41 m10__1 m10__2), Ss11_]) [0, 2] _ (some 92) 9 _ rfl rfl rfl rfl rfl (ev_callF rfl call_9 rfl) (fun own_ nw_ hn_ hs_ => shunterlaw19_step_v1_g N s11_ m10__1 m10__2 l8_ 40 (((ops)[(i9_).toNat]!).1) (((ops)[(i9_).toNat]!).2.1) (((ops)[(i9_).toNat]!).2.2.1) (((ops)[(i9_).toNat]!).2.2.2) _ hr57 _ b44 s41 Ss11_ hs11_ vl8_ (rd_sans (Ls := [(kLExactCopies53_0 b44 s41 m10__1 m10__2), Sl8_, Ss11_]) (is := [0, 2]) 1 hl8_ rfl rfl hn_ hs_)) (fun _ _ _ _ _ => Iff.rfl) (fun h_ => nomatch h_) ?_
            rcases SumRow41.cases r56.1 with hx61 | ⟨x62_0, hx61⟩
            ·rintro _ _ ⟨S59, _, H60, hp_, rfl⟩
             obtain ⟨rfl, rfl⟩ := SumRow41.onP_nil hx61 hp_
             replace hM := SumRow41.on_nil hx61 hM
             refine lx_perm (Ls := [Sl8_, S59, (kLExactCopies53_0 b44 s41 r56.2.2.2.1 r56.2.2.2.2)]) (Ls' := [(kLExactCopies53_0 b44 s41 r56.2.2.2.1 r56.2.2.2.2), Sl8_, S59]) [2, 0, 1] rfl rfl <| r_R [vT #[vl8_, vB r56.2.1], vl8_, vB r56.2.1, vl8_] rfl <| lx_nil <| hK54 _ _ ?_; try clear hK54 K54
             refine A_reg <| r_V (vI i9_) rfl ?_
             obtain ⟨ck63, hM⟩ := ck_some hM
             refine r_X (vI (i9_ + 1)) rfl (wi64 rfl ck63.1 ck63.2) rfl <| r_V (vI (i9_ + 1)) rfl <| lx_nil <| fg _ (Sub.pick [(kLExactCopies53_0 b44 s41 r56.2.2.2.1 r56.2.2.2.2), Sl8_, S59] [0, 1, 2] rfl) ?_
             exact ⟨n50 + 1, by omega, n50, l8_, (i9_ + 1), r56.2.2.1, r56.2.2.2.1, r56.2.2.2.2, hM, vl8_, Sl8_, hl8_, S59, H60, is_mk rfl rfl, rfl⟩
            rintro _ _ ⟨S59, _, H60, hp_, rfl⟩
            obtain ⟨s63, S64, _, H65, ⟨rfl, rfl⟩, rfl⟩ := SumRow41.onP_t0 hx61 hp_
            replace hM := SumRow41.on_t0 hx61 hM
            refine lx_perm (Ls := [Sl8_, S59, S64, (kLExactCopies53_0 b44 s41 r56.2.2.2.1 r56.2.2.2.2)]) (Ls' := [(kLExactCopies53_0 b44 s41 r56.2.2.2.1 r56.2.2.2.2), Sl8_, S59, S64]) [3, 0, 1, 2] rfl rfl <| r_R [vT #[s63, vB r56.2.1], s63, vB r56.2.1, s63] rfl <| lx_nil <| hK54 _ _ ?_; try clear hK54 K54
            refine A_reg <| r_V (vI i9_) rfl ?_
            obtain ⟨ck66, hM⟩ := ck_some hM
            refine r_X (vI (i9_ + 1)) rfl (wi64 rfl ck66.1 ck66.2) rfl <| r_V (vI (i9_ + 1)) rfl <| lx_nil <| fg _ (Sub.pick [(kLExactCopies53_0 b44 s41 r56.2.2.2.1 r56.2.2.2.2), Sl8_, S59, S64] [0, 3, 2] rfl) ?_
            exact ⟨n50 + 1, by omega, n50, x62_0, (i9_ + 1), r56.2.2.1, r56.2.2.2.1, r56.2.2.2.2, hM, s63, S64, H65, S59, H60, is_mk rfl rfl, rfl⟩
           replace hM := ifn (of_decide_eq_false hc53) hM
           refine A_exit <| hK48 _ _ ?_; try clear hK48 K48
           refine A_sr <| r_V (vP b44 0) rfl ?_
           obtain ⟨r68, hr69, hM⟩ := bind_sm hM
           refine cA 96 <| r_gm (Ls := [(kLExactCopies53_0 b44 s41 m10__1 m10__2), Sl8_, Ss11_]) (FL := []) [] _ (some 96) 20 _ rfl rfl rfl rfl rfl (ev_callF rfl call_20 rfl) (fun own_ nw_ hn_ hs_ => exact_Map_Copy_v2_g N s11_ m10__1 m10__2 _ hr69 _ b44 s41 (rd_sans (Ls := [(kLExactCopies53_0 b44 s41 m10__1 m10__2), Sl8_, Ss11_]) (is := []) 2 hs11_ rfl rfl hn_ hs_) (blk_sans (Ls := [(kLExactCopies53_0 b44 s41 m10__1 m10__2), Sl8_, Ss11_]) (is := []) 0 rfl rfl hn_ hs_)) (fun _ _ _ _ _ => Iff.rfl) (fun h_ => nomatch h_) ?_
           rintro _ _ ⟨s71, S72, _, H73, ⟨b70, _, ⟨rfl, rfl⟩, rfl⟩, rfl⟩
           refine lx_perm (Ls := [(kLExactCopies53_0 b44 s41 m10__1 m10__2), Sl8_, Ss11_, S72, (kLExactCopies53_0 b70 s71 r68.2.1 r68.2.2)]) (Ls' := [(kLExactCopies53_0 b44 s41 m10__1 m10__2), (kLExactCopies53_0 b70 s71 r68.2.1 r68.2.2), Sl8_, Ss11_, S72]) [0, 4, 1, 2, 3] rfl rfl <| r_V (vP b70 0) rfl <| lx_nil <| A_seq fun K74 hK74 => A_sr <| r_V (vI 0) rfl <| lx_nil <| A_block <| A_forget _ (Sub.pickE (Ls := [(kLExactCopies53_0 b44 s41 m10__1 m10__2), (kLExactCopies53_0 b70 s71 r68.2.1 r68.2.2), Sl8_, Ss11_, S72, []]) (Ls0 := [(kLExactCopies53_0 b44 s41 m10__1 m10__2), (kLExactCopies53_0 b70 s71 r68.2.1 r68.2.2), Sl8_, Ss11_, S72]) rfl [0, 1, 2, 3, 5, 4] rfl) ?_
           refine A_loop (fun tt ll nn => ∃ (n76 : Nat) (x13_ : List (Int × BitVec 128 × Int)) (i14_ : Int) (s16_ : List (Int × BitVec 128 × Int)) (m15__1 : Int) (m15__2 : Int), (shunterlaw19_ExactCopies_l17 N more l8_ s11_ m10__1 m10__2 n76 x13_ i14_ s16_ m15__1 m15__2 = some r) ∧ ∃ (vx13_ : Value) (Sx13_ : List Bl), Sl 41 enc_41 vx13_ x13_ Sx13_ ∧ ∃ (Ss16_ : List Bl), Sl 40 enc_40 s71 s16_ Ss16_ ∧ Is [(1, morev), (8, vP b44 0), (9, vl8_), (10, vx13_), (12, vP b70 0), (13, vI i14_)] (List.flatten [(kLExactCopies53_0 b44 s41 m10__1 m10__2), (kLExactCopies53_0 b70 s71 m15__1 m15__2), Sl8_, Ss11_, Sx13_, Ss16_]) tt ll ∧ nn = n76 + 1) (N + 1) ?_ ?_
           ·exact ⟨N, [], 0, r68.1, r68.2.1, r68.2.2, hM, nS, [], Sl.nil, S72, H73, is_mk rfl rfl, rfl⟩
           clear hM; rintro t l _ ⟨n76, x13_, i14_, s16_, m15__1, m15__2, hM, vx13_, Sx13_, hx13_, Ss16_, hs16_, ⟨⟨T, rfl⟩, rfl⟩, rfl⟩
           rcases n76 with _ | n76
           ·exact absurd hM (by simp [shunterlaw19_ExactCopies_l17])
           rw [shunterlaw19_ExactCopies_l17] at hM
           refine A_seq fun K77 hK77 => A_sr <| r_R [vI i14_, morev] rfl <| r_W (vI ((more).length : Int)) rfl (ev_lenSl rfl rfl rfl (Rd.shp hmore)) <| r_V (vB (decide (i14_ < ((more).length : Int)))) rfl <| lx_nil <| A_cond (decide (i14_ < ((more).length : Int))) rfl (fun hc79 => ?_) (fun hc79 => ?_)
           ·replace hM := ifp (of_decide_eq_true hc79) hM
            refine A_skip <| hK77 _ _ ?_; try clear hK77 K77
            refine A_seq fun K80 hK80 => A_block <| A_reg <| r_R [vP b70 0, vx13_, morev, vI i14_] rfl ?_
            obtain ⟨ck81, hM⟩ := ck_some hM
            refine r_W (elA morev ((i14_).toNat * 5)) rfl (ev_v (ev_idxSl rfl rfl rfl (Rd.shp hmore) ck81)) <| r_le (vA #[vI (((more)[(i14_).toNat]!).1), vI (((more)[(i14_).toNat]!).2.1), vI (((more)[(i14_).toNat]!).2.2.1), U (hi (((more)[(i14_).toNat]!).2.2.2)), U (lo (((more)[(i14_).toNat]!).2.2.2))]) (En := enc_33) ((more)[(i14_).toNat]!) ((i14_).toNat) 0 rfl rfl (rd_ro hmore) (get_of ck81) rfl ?_
            obtain ⟨r82, hr83, hM⟩ := bind_sm hM
            obtain ⟨ck84, hM⟩ := ck_some hM
            refine cA 110 <| r_gm (Ls := [(kLExactCopies53_0 b44 s41 m10__1 m10__2), (kLExactCopies53_0 b70 s71 m15__1 m15__2), Sl8_, Ss11_, Sx13_, Ss16_]) (FL := [(kLExactCopies53_0 b70 s71 m15__1 m15__2), Ss16_]) [1, 5] _ (some 110) 9 _ rfl rfl rfl rfl rfl (ev_callF rfl call_9 rfl) (fun own_ nw_ hn_ hs_ => shunterlaw19_step_v1_g N s16_ m15__1 m15__2 x13_ 40 (((more)[(i14_).toNat]!).1) (((more)[(i14_).toNat]!).2.1) (((more)[(i14_).toNat]!).2.2.1) (((more)[(i14_).toNat]!).2.2.2) _ hr83 _ b70 s71 Ss16_ hs16_ vx13_ (rd_sans (Ls := [(kLExactCopies53_0 b44 s41 m10__1 m10__2), (kLExactCopies53_0 b70 s71 m15__1 m15__2), Sl8_, Ss11_, Sx13_, Ss16_]) (is := [1, 5]) 4 hx13_ rfl rfl hn_ hs_)) (fun _ _ _ _ _ => Iff.rfl) (fun h_ => nomatch h_) ?_
            rcases SumRow41.cases r82.1 with hx87 | ⟨x88_0, hx87⟩
            ·rintro _ _ ⟨S85, _, H86, hp_, rfl⟩
             obtain ⟨rfl, rfl⟩ := SumRow41.onP_nil hx87 hp_
             replace hM := SumRow41.on_nil hx87 hM
             refine lx_perm (Ls := [(kLExactCopies53_0 b44 s41 m10__1 m10__2), Sl8_, Ss11_, Sx13_, S85, (kLExactCopies53_0 b70 s71 r82.2.2.2.1 r82.2.2.2.2)]) (Ls' := [(kLExactCopies53_0 b44 s41 m10__1 m10__2), (kLExactCopies53_0 b70 s71 r82.2.2.2.1 r82.2.2.2.2), Sl8_, Ss11_, Sx13_, S85]) [0, 5, 1, 2, 3, 4] rfl rfl <| r_R [vT #[vx13_, vB r82.2.1], vx13_, vB r82.2.1, vx13_] rfl <| lx_nil <| hK80 _ _ ?_; try clear hK80 K80
             refine A_reg <| r_V (vI i14_) rfl ?_
             obtain ⟨ck89, hM⟩ := ck_some hM
             refine r_X (vI (i14_ + 1)) rfl (wi64 rfl ck89.1 ck89.2) rfl <| r_V (vI (i14_ + 1)) rfl <| lx_nil <| fg _ (Sub.pick [(kLExactCopies53_0 b44 s41 m10__1 m10__2), (kLExactCopies53_0 b70 s71 r82.2.2.2.1 r82.2.2.2.2), Sl8_, Ss11_, Sx13_, S85] [0, 1, 2, 3, 4, 5] rfl) ?_
             exact ⟨n76 + 1, by omega, n76, x13_, (i14_ + 1), r82.2.2.1, r82.2.2.2.1, r82.2.2.2.2, hM, vx13_, Sx13_, hx13_, S85, H86, is_mk rfl rfl, rfl⟩
            rintro _ _ ⟨S85, _, H86, hp_, rfl⟩
            obtain ⟨s89, S90, _, H91, ⟨rfl, rfl⟩, rfl⟩ := SumRow41.onP_t0 hx87 hp_
            replace hM := SumRow41.on_t0 hx87 hM
            refine lx_perm (Ls := [(kLExactCopies53_0 b44 s41 m10__1 m10__2), Sl8_, Ss11_, Sx13_, S85, S90, (kLExactCopies53_0 b70 s71 r82.2.2.2.1 r82.2.2.2.2)]) (Ls' := [(kLExactCopies53_0 b44 s41 m10__1 m10__2), (kLExactCopies53_0 b70 s71 r82.2.2.2.1 r82.2.2.2.2), Sl8_, Ss11_, Sx13_, S85, S90]) [0, 6, 1, 2, 3, 4, 5] rfl rfl <| r_R [vT #[s89, vB r82.2.1], s89, vB r82.2.1, s89] rfl <| lx_nil <| hK80 _ _ ?_; try clear hK80 K80
            refine A_reg <| r_V (vI i14_) rfl ?_
            obtain ⟨ck92, hM⟩ := ck_some hM
            refine r_X (vI (i14_ + 1)) rfl (wi64 rfl ck92.1 ck92.2) rfl <| r_V (vI (i14_ + 1)) rfl <| lx_nil <| fg _ (Sub.pick [(kLExactCopies53_0 b44 s41 m10__1 m10__2), (kLExactCopies53_0 b70 s71 r82.2.2.2.1 r82.2.2.2.2), Sl8_, Ss11_, Sx13_, S85, S90] [0, 1, 2, 3, 6, 5] rfl) ?_
            exact ⟨n76 + 1, by omega, n76, x88_0, (i14_ + 1), r82.2.2.1, r82.2.2.2.1, r82.2.2.2.2, hM, s89, S90, H91, S85, H86, is_mk rfl rfl, rfl⟩
           replace hM := ifn (of_decide_eq_false hc79) hM
           refine A_exit <| hK74 _ _ ?_; try clear hK74 K74
           refine A_sr <| r_V (vP b44 0) rfl ?_
           obtain ⟨r94, hr95, hM⟩ := bind_sm hM
           refine cB 114 <| r_g1 (Ls := [(kLExactCopies53_0 b44 s41 m10__1 m10__2), (kLExactCopies53_0 b70 s71 m15__1 m15__2), Sl8_, Ss11_, Sx13_, Ss16_]) (fun s96 => s96) 40 enc_40 r94 12 _ rfl rfl rfl (ev_callF rfl call_12 rfl) (fun own_ nw_ hs_ => exact_Map_List_v1_g N s11_ m10__1 m10__2 _ hr95 hs_.view b44 s41 ((rd_own hs11_ (mem_chunk (Ls := [(kLExactCopies53_0 b44 s41 m10__1 m10__2), (kLExactCopies53_0 b70 s71 m15__1 m15__2), Sl8_, Ss11_, Sx13_, Ss16_]) (k := 3) rfl rfl)) own_ nw_ hs_) (blk_own 0 rfl rfl own_ nw_ hs_)) (fun _ _ _ _ _ => Iff.rfl) (fun s96 S97 H98 => ?_)
           refine r_V s96 rfl <| lx_nil <| A_seq fun K99 hK99 => A_seq fun K100 hK100 => A_reg <| r_V s96 rfl <| r_W (vI ((r94).length : Int)) rfl (ev_lenSl rfl rfl rfl (Sl.shp H98)) <| r_V vl8_ rfl <| r_W (vI ((l8_).length : Int)) rfl (ev_lenSl rfl rfl rfl (Sl.shp hl8_)) <| r_R [vB (((((r94).length : Int) : Int) != ((l8_).length : Int))), vB (((((r94).length : Int) : Int) != ((l8_).length : Int)))] rfl <| lx_jn 6 126 [(9, vl8_), (14, s96)] vB (fun b_ => shunterlaw19_ExactCopies_k18 N l8_ r94 b_ = some r) (fun b101 hM T => ?_) (fun HJ => ?_)
           ·unfold shunterlaw19_ExactCopies_k18 at hM
            refine lx_nil <| hK100 _ _ ?_; try clear hK100 K100
            refine A_cond b101 rfl (fun hc102 => ?_) (fun hc102 => ?_)
            ·replace hM := ifp hc102 hM
             refine A_sr <| r_V (vB false) rfl <| lx_nil ?_
             obtain rfl := Option.some.inj hM
             refine A_ret (fun hn => endsV (v0 := vB false) rfl (res1 rfl))
            replace hM := ifn (Bool.eq_false_iff.1 hc102) hM
            refine A_skip <| hK99 _ _ ?_; try clear hK99 K99
            refine A_seq fun K104 hK104 => A_sr <| r_V (vI 0) rfl <| lx_nil <| A_block <| A_forget _ (Sub.pick [(kLExactCopies53_0 b44 s41 m10__1 m10__2), (kLExactCopies53_0 b70 s71 m15__1 m15__2), Sl8_, Ss11_, Sx13_, Ss16_, S97] [2, 6] rfl) <| A_loop (fun tt ll nn => ∃ (n106 : Nat) (i19_ : Int), (shunterlaw19_ExactCopies_l20 N l8_ r94 n106 i19_ = some r) ∧ Is [(9, vl8_), (14, s96), (15, vI i19_)] (List.flatten [Sl8_, S97]) tt ll ∧ nn = n106 + 1) (N + 1) ?_ ?_
            ·exact ⟨N, 0, hM, is_mk rfl rfl, rfl⟩
            clear hM; rintro t l _ ⟨n106, i19_, hM, ⟨⟨T, rfl⟩, rfl⟩, rfl⟩
            rcases n106 with _ | n106
            ·exact absurd hM (by simp [shunterlaw19_ExactCopies_l20])
            rw [shunterlaw19_ExactCopies_l20] at hM
            refine A_seq fun K107 hK107 => A_sr <| r_R [vI i19_, s96] rfl <| r_W (vI ((r94).length : Int)) rfl (ev_lenSl rfl rfl rfl (Sl.shp H98)) <| r_V (vB (decide (i19_ < ((r94).length : Int)))) rfl <| lx_nil <| A_cond (decide (i19_ < ((r94).length : Int))) rfl (fun hc109 => ?_) (fun hc109 => ?_)
            ·replace hM := ifp (of_decide_eq_true hc109) hM
             refine A_skip <| hK107 _ _ ?_; try clear hK107 K107
             refine A_seq fun K110 hK110 => A_block <| A_sr <| r_R [vl8_, s96, vI i19_] rfl ?_
             obtain ⟨ck112, hM⟩ := ck_some hM
             refine r_W (elA s96 ((i19_).toNat * 4)) rfl (ev_v (ev_idxSl rfl rfl rfl (Sl.shp H98) ck112)) <| r_W (elA s96 ((i19_).toNat * 4 + 0)) rfl (ev_v (ev_fieldX rfl rfl rfl rfl rfl rfl (Sl.shp H98) (pos_of ck112))) <| r_le (vA #[vI (((r94)[(i19_).toNat]!).1), U (hi (((r94)[(i19_).toNat]!).2.1)), U (lo (((r94)[(i19_).toNat]!).2.1))]) (En := enc_40) ((r94)[(i19_).toNat]!) ((i19_).toNat) 0 rfl rfl (rd_own H98 (mem_chunk (Ls := [Sl8_, S97]) (k := 1) rfl rfl)) (get_of ck112) rfl ?_
             obtain ⟨r113, hr114, hM⟩ := bind_sm hM
             refine cB 139 <| r_gv (vI r113) 13 _ rfl rfl rfl (ev_callF rfl call_13 rfl) (fun own_ nw_ hs_ => shunterref19_Find_g N l8_ (((r94)[(i19_).toNat]!).1) (((r94)[(i19_).toNat]!).2.1) _ hr114 hs_.view vl8_ ((rd_own hl8_ (mem_chunk (Ls := [Sl8_, S97]) (k := 0) rfl rfl)) own_ nw_ hs_)) (fun _ _ _ _ _ => Iff.rfl) <| r_V (vI r113) rfl <| lx_nil <| A_seq fun K115 hK115 => A_draw [] (by decide +kernel) (fun hn => sep_nil) <| r_R [vI r113, vB (decide (r113 < 0)), vB (decide (r113 < 0))] rfl ?_
             rcases hg116 : (decide (r113 < 0)) with _ | _
             ·replace hM := ifn (of_decide_eq_false hg116) hM
              refine r_R [vl8_, vI r113] rfl <| r_y rfl ?_
              obtain ⟨ck117, hM⟩ := ck_some hM
              refine r_W (elA vl8_ ((r113).toNat * 4)) rfl (ev_v (ev_idxSl rfl rfl rfl (Sl.shp hl8_) ck117)) <| r_y rfl <| r_W (elA vl8_ ((r113).toNat * 4 + 3)) rfl (ev_v (ev_fieldX rfl rfl rfl rfl rfl rfl (Sl.shp hl8_) (pos_of ck117))) <| r_y rfl <| r_le (vI (((l8_)[(r113).toNat]!).2.2)) (En := enc_41) ((l8_)[(r113).toNat]!) ((r113).toNat) 3 rfl rfl (rd_own hl8_ (mem_chunk (Ls := [Sl8_, S97]) (k := 0) rfl rfl)) (get_of ck117) rfl <| r_R [s96, vI i19_] rfl <| r_y rfl ?_
              obtain ⟨ck118, hM⟩ := ck_some hM
              refine r_W (elA s96 ((i19_).toNat * 4)) rfl (ev_v (ev_idxSl rfl rfl rfl (Sl.shp H98) ck118)) <| r_y rfl <| r_W (elA s96 ((i19_).toNat * 4 + 3)) rfl (ev_v (ev_fieldX rfl rfl rfl rfl rfl rfl (Sl.shp H98) (pos_of ck118))) <| r_y rfl <| r_le (vI (((r94)[(i19_).toNat]!).2.2)) (En := enc_40) ((r94)[(i19_).toNat]!) ((i19_).toNat) 3 rfl rfl (rd_own H98 (mem_chunk (Ls := [Sl8_, S97]) (k := 1) rfl rfl)) (get_of ck118) rfl <| r_R [vB (((((l8_)[(r113).toNat]!).2.2 : Int) != ((r94)[(i19_).toNat]!).2.2)), vB (((((l8_)[(r113).toNat]!).2.2 : Int) != ((r94)[(i19_).toNat]!).2.2))] rfl <| lx_nil <| hK115 _ _ ?_; try clear hK115 K115
              refine A_gen [(9, vl8_), (14, s96), (15, vI i19_), (154, vB (((((l8_)[(r113).toNat]!).2.2 : Int) != ((r94)[(i19_).toNat]!).2.2)))] rfl (fun T => ?_)
              refine A_cond (((((l8_)[(r113).toNat]!).2.2 : Int) != ((r94)[(i19_).toNat]!).2.2)) rfl (fun hc119 => ?_) (fun hc119 => ?_)
              ·replace hM := ifp (bne_iff_ne.1 hc119) hM
               refine A_sr <| r_V (vB false) rfl <| lx_nil ?_
               obtain rfl := Option.some.inj hM
               refine A_ret (fun hn => endsV (v0 := vB false) rfl (res1 rfl))
              replace hM := ifn (bne_f hc119) hM
              refine A_skip <| hK110 _ _ ?_; try clear hK110 K110
              refine A_reg <| r_V (vI i19_) rfl ?_
              obtain ⟨ck121, hM⟩ := ck_some hM
              refine r_X (vI (i19_ + 1)) rfl (wi64 rfl ck121.1 ck121.2) rfl <| r_V (vI (i19_ + 1)) rfl <| lx_nil <| fg _ (Sub.pick [Sl8_, S97] [0, 1] rfl) ?_
              exact ⟨n106 + 1, by omega, n106, (i19_ + 1), hM, is_mk (by first | rfl | (simp only [hg116]; done) | (simp only [hg116]; rfl) | (simp only [app_hl]; rfl)) rfl, rfl⟩
             replace hM := ifp (of_decide_eq_true hg116) hM
             refine r_R [none, none, none, none, none, none, none, none, none, none, none, vB true] rfl <| lx_nil <| hK115 _ _ ?_; try clear hK115 K115
             refine A_gen [(9, vl8_), (14, s96), (15, vI i19_), (154, vB true)] rfl (fun T => ?_)
             refine A_cond true rfl (fun _ => ?_) (fun h_ => nomatch h_)
             refine A_sr <| r_V (vB false) rfl <| lx_nil ?_
             obtain rfl := Option.some.inj hM
             refine A_ret (fun hn => endsV (v0 := vB false) rfl (res1 rfl))
            replace hM := ifn (of_decide_eq_false hc109) hM
            refine A_exit <| hK104 _ _ ?_; try clear hK104 K104
            refine A_sr ?_
            obtain ⟨r124, hr125, hM⟩ := bind_sm hM
            refine r_c (vB r124) rfl _ _ (ev_callF rfl call_8 rfl) (shunterlaw19_lives_g N  _ hr125) <| r_V (vB r124) rfl <| lx_nil ?_
            obtain rfl := Option.some.inj hM
            refine A_ret (fun hn => endsV (v0 := vB r124) rfl (res1 rfl))
           rcases hg126 : (((((r94).length : Int) : Int) != ((l8_).length : Int))) with _ | _
           ·replace hM := ifn (bne_f hg126) hM
            refine r_R [vP b44 0] rfl <| r_y rfl ?_
            obtain ⟨r127, hr128, hM⟩ := bind_sm hM
            refine cB 122 <| r_gv (vI r127) 10 _ rfl rfl rfl (ev_callF rfl call_10 rfl) (fun own_ nw_ hs_ => exact_Map_Len_v1_g N s11_ m10__1 m10__2 _ hr128 hs_.view b44 s41 ((rd_own hs11_ (mem_chunk (Ls := [(kLExactCopies53_0 b44 s41 m10__1 m10__2), (kLExactCopies53_0 b70 s71 m15__1 m15__2), Sl8_, Ss11_, Sx13_, Ss16_, S97]) (k := 3) rfl rfl)) own_ nw_ hs_) (blk_own 0 rfl rfl own_ nw_ hs_)) (fun _ _ _ _ _ => Iff.rfl) <| r_R [vl8_] rfl <| r_y rfl <| r_W (vI ((l8_).length : Int)) rfl (ev_lenSl rfl rfl rfl (Sl.shp hl8_)) <| r_R [vB (r127 != ((l8_).length : Int)), vB (r127 != ((l8_).length : Int))] rfl ?_
            first | exact HJ _ _ hM rfl rfl | exact lx_cn _ _ (HJ _ _ hM rfl rfl)
           replace hM := ifp (bne_iff_ne.1 hg126) hM
           refine r_R [none, none, none, none, none, vB true] rfl ?_
           first | exact HJ _ _ hM rfl rfl | exact lx_cn _ _ (HJ _ _ hM rfl rfl)
          rcases hg129 : (decide ((((ops).length : Int) : Int) > 200)) with _ | _
          ·replace hM := ifn (of_decide_eq_false hg129) hM
           refine r_R [morev] rfl <| r_y rfl <| r_W (vI ((more).length : Int)) rfl (ev_lenSl rfl rfl rfl (Rd.shp hmore)) <| r_R [vB (decide ((((more).length : Int) : Int) > 200)), vB (decide ((((more).length : Int) : Int) > 200))] rfl ?_
           first | exact HJ _ _ hM rfl rfl | exact lx_cn _ _ (HJ _ _ hM rfl rfl)
          replace hM := ifp (of_decide_eq_true hg129) hM
          refine r_R [none, none, none, vB true] rfl ?_
          first | exact HJ _ _ hM rfl rfl | exact lx_cn _ _ (HJ _ _ hM rfl rfl)
         rintro _ _ hp_
         obtain ⟨s27, S28, _, H29, ⟨b30, _, ⟨rfl, rfl⟩, rfl⟩, rfl⟩ := Sum23.onP_t53 hx23 hp_
         replace hM := Sum23.on_t53 hx23 hM
         refine lx_perm (Ls := [S18, S28, (kLExactCopies53_0 b30 s27 x25_1 x26_2)]) (Ls' := [(kLExactCopies53_0 b30 s27 x25_1 x26_2), S18, S28]) [2, 0, 1] rfl rfl <| r_R [vB true, vB true] rfl <| lx_nil <| hK7 _ _ ?_; try clear hK7 K7
         refine A_cond true rfl (fun _ => ?_) (fun h_ => nomatch h_)
         refine A_sr <| r_V (vB false) rfl <| lx_nil ?_
         obtain rfl := Option.some.inj hM
         refine A_ret (fun hn => endsV (v0 := vB false) rfl (res1 rfl))
        replace hM := ifp (bne_iff_ne.1 hg20) hM
        refine r_R [none, none, none, vB true] rfl <| lx_nil <| hK7 _ _ ?_; try clear hK7 K7
        refine A_cond true rfl (fun _ => ?_) (fun h_ => nomatch h_)
        refine A_sr <| r_V (vB false) rfl <| lx_nil ?_
        obtain rfl := Option.some.inj hM
        refine A_ret (fun hn => endsV (v0 := vB false) rfl (res1 rfl))
       replace hM := ifp hg14 hM
       refine r_R [none, none, none, none, vB true, vB true, none, none, none, vB true] rfl <| lx_nil <| hK7 _ _ ?_; try clear hK7 K7
       refine A_cond true rfl (fun _ => ?_) (fun h_ => nomatch h_)
       refine A_sr <| r_V (vB false) rfl <| lx_nil ?_
       obtain rfl := Option.some.inj hM
       refine A_ret (fun hn => endsV (v0 := vB false) rfl (res1 rfl))
      rcases hg34 : b12 with _ | _
      ·replace hM := ifn (Bool.eq_false_iff.1 hg34) hM
       refine r_R [Value.pointer none] rfl <| r_y rfl ?_
       obtain ⟨r35, hr36, hM⟩ := bind_sm hM
       refine r_c (vI r35) rfl _ _ (ev_callF rfl call_11 rfl) (exact_Map_Room_v2_g N  _ hr36) <| r_R [vB (r35 != 0), vB (r35 != 0)] rfl ?_
       first | exact HJ _ _ hM rfl rfl | exact lx_cn _ _ (HJ _ _ hM rfl rfl)
      replace hM := ifp hg34 hM
      refine r_R [none, none, none, vB true] rfl ?_
      first | exact HJ _ _ hM rfl rfl | exact lx_cn _ _ (HJ _ _ hM rfl rfl)
     rcases hg37 : b11 with _ | _
     ·replace hM := ifn (Bool.eq_false_iff.1 hg37) hM
      refine r_R [Value.pointer none] rfl <| r_y rfl ?_
      obtain ⟨r38, hr39, hM⟩ := bind_sm hM
      refine r_c (vI r38) rfl _ _ (ev_callF rfl call_10 rfl) (exact_Map_Len_v2_g N  _ hr39) <| r_R [vB (r38 != 0), vB (r38 != 0)] rfl ?_
      first | exact HJ _ _ hM rfl rfl | exact lx_cn _ _ (HJ _ _ hM rfl rfl)
     replace hM := ifp hg37 hM
     refine r_R [none, none, none, vB true] rfl ?_
     first | exact HJ _ _ hM rfl rfl | exact lx_cn _ _ (HJ _ _ hM rfl rfl)
    rcases hg40 : b10 with _ | _
    ·replace hM := ifn (Bool.eq_false_iff.1 hg40) hM
     refine r_R [Value.pointer none] rfl <| r_y rfl <| r_W (vA #[vI 1, U (0#64), U (0#64)]) rfl (ev_buildS rfl rfl rfl rfl) <| r_y rfl ?_
     obtain ⟨r41, hr42, hM⟩ := bind_sm hM
     refine r_c (vI r41) rfl _ _ (ev_callF rfl call_18 rfl) (by have h_ := (exact_Map_Drop_v2_g N 1 ((0#64) ++ (0#64)) _ hr42); simp only [app_hl] at h_; exact h_) ?_
     refine r_R [vB (r41 != 1), vB (r41 != 1)] rfl ?_
     first | exact HJ _ _ hM rfl rfl | exact lx_cn _ _ (HJ _ _ hM rfl rfl)
    replace hM := ifp hg40 hM
    refine r_R [none, none, none, none, vB true] rfl ?_
    first | exact HJ _ _ hM rfl rfl | exact lx_cn _ _ (HJ _ _ hM rfl rfl)
   rcases hg43 : b9 with _ | _
   ·replace hM := ifn (Bool.eq_false_iff.1 hg43) hM
    refine r_R [Value.pointer none] rfl <| r_y rfl <| r_W (vA #[vI 1, U (0#64), U (0#64)]) rfl (ev_buildS rfl rfl rfl rfl) <| r_y rfl ?_
    obtain ⟨r44, hr45, hM⟩ := bind_sm hM
    refine r_c (vI r44) rfl _ _ (ev_callF rfl call_17 rfl) (by have h_ := (exact_Map_Set_v2_g N 1 ((0#64) ++ (0#64)) 1 _ hr45); simp only [app_hl] at h_; exact h_) ?_
    refine r_R [vB (r44 != 1), vB (r44 != 1)] rfl ?_
    first | exact HJ _ _ hM rfl rfl | exact lx_cn _ _ (HJ _ _ hM rfl rfl)
   replace hM := ifp hg43 hM
   refine r_R [none, none, none, none, vB true] rfl ?_
   first | exact HJ _ _ hM rfl rfl | exact lx_cn _ _ (HJ _ _ hM rfl rfl)
  rcases hg46 : b8 with _ | _
  ·replace hM := ifn (Bool.eq_false_iff.1 hg46) hM
   refine r_R [Value.pointer none] rfl <| r_y rfl <| r_W (vA #[vI 1, U (0#64), U (0#64)]) rfl (ev_buildS rfl rfl rfl rfl) <| r_y rfl ?_
   obtain ⟨r47, hr48, hM⟩ := bind_sm hM
   refine r_c (vI r47) rfl _ _ (ev_callF rfl call_16 rfl) (by have h_ := (exact_Map_Put_v2_g N 1 ((0#64) ++ (0#64)) 1 _ hr48); simp only [app_hl] at h_; exact h_) ?_
   refine r_R [vB (r47 != 1), vB (r47 != 1)] rfl ?_
   first | exact HJ _ _ hM rfl rfl | exact lx_cn _ _ (HJ _ _ hM rfl rfl)
  replace hM := ifp hg46 hM
  refine r_R [none, none, none, none, vB true] rfl ?_
  first | exact HJ _ _ hM rfl rfl | exact lx_cn _ _ (HJ _ _ hM rfl rfl)
 rcases hg49 : (r4.1 != 0) with _ | _
 ·replace hM := ifn (bne_f hg49) hM
  refine r_R [vB r4.2, vB r4.2] rfl ?_
  first | exact HJ _ _ hM rfl rfl | exact lx_cn _ _ (HJ _ _ hM rfl rfl)
 replace hM := ifp (bne_iff_ne.1 hg49) hM
 refine r_R [none, vB true] rfl ?_
 first | exact HJ _ _ hM rfl rfl | exact lx_cn _ _ (HJ _ _ hM rfl rfl)
end Go.Proofs.Ytnpbpllibmcokaa
