/- models of functions and their walks -/
import Derived.Test.YtmfedgmmgehmgaaDoorBb
namespace Go.Proofs.YtmfedgmmgehmgaaDoor
open Go Go.RowKit Go.Eng
abbrev kBc27_0 (b : Nat) (x0 : Int) (x1 : Int) (x2 : Int) (x3 : Int) (x4 : BitVec 64) (x5 : BitVec 64) : List Bl := [(b, 27, #[vI x0, vI x1, vI x2, vI x3, U x4, U x5])]
abbrev kBc88_1 (b : Nat) (x0 : Int) (x1 : Int) : List Bl := [(b, 88, #[vI x0, vI x1])]
abbrev kBc47_2 (b : Nat) (x0 : Int) (x1 : BitVec 64) (x2 : BitVec 64) : List Bl := [(b, 47, #[vI x0, U x1, U x2])]
abbrev kBc38_3 (b : Nat) (x0 : List UInt8) (x1 : Int) (x2 : Int) (x3 : Int) (x4 : Int) (x5 : Int) (x6 : Int) (x7 : Int) (x8 : List UInt8) : List Bl := [(b, 38, #[vS x0, vI x1, vI x2, vI x3, vI x4, vI x5, vI x6, vI x7, vS x8])]
def code_All_l3 (N : Nat) (l' : List (Int × Int × Int × Int × BitVec 128)) : Nat → List Sum31 → Int → Option ((List Sum31) × Int × Int)
  | 0, _, _ => none
  | n5 + 1, steps1_, x2_ => if x2_ < ((l').length : Int) then ck (0 ≤ x2_ ∧ x2_ < ((l').length : Int)) (if x2_ = 64 then some ([], x2_, 2) else (code_Make_m N (((l')[(x2_).toNat]!).1) (((l')[(x2_).toNat]!).2.1) (((l')[(x2_).toNat]!).2.2.1) (((l')[(x2_).toNat]!).2.2.2.1) (((l')[(x2_).toNat]!).2.2.2.2)).bind fun r18 => if (r18.2 : Int) ≠ 0 then some ([], x2_, r18.2) else ck ((steps1_).length + ([r18.1]).length ≤ 8796093022208) (ck (-9223372036854775808 ≤ (x2_ + 1) ∧ (x2_ + 1) ≤ 9223372036854775807) ((code_All_l3 N l' n5) (steps1_ ++ ([r18.1])) (x2_ + 1)))) else some (steps1_, ((steps1_).length : Int), 0)
def code_All_m (N : Nat) (l' : List (Int × Int × Int × Int × BitVec 128)) : Option ((List Sum31) × Int × Int) := code_All_l3 N l' N ([]) 0
set_option maxRecDepth 100000 in
set_option maxHeartbeats 8000000 in
theorem code_All_g (N : Nat) (l' : List (Int × Int × Int × Int × BitVec 128)) (r) (hM : code_All_m N l' = some r) (ro : Addr → Option Value) (l'v : Value) (hl' : Rd enc_27 ro l'v l') : Does Tryd.prog 15 #[l'v] ro [] (p1 (fun s_ => vT #[s_, vI r.2.1, vI r.2.2]) 31 encSum31 r.1) := by
 unfold code_All_m at hM
 refine does_of_A follows Tryd.func15 rfl 37 rfl (upd (fun _ => undef) 0 l'v) (by funext k; match k with | 0 => rfl | k + 1 => rfl) (fun base0_ => ?_)
 refine A_sr <| r_R [nS, vI 0, vI 0] rfl <| lx_nil <| A_sr <| r_V nS rfl <| lx_nil <| A_seq fun K3 hK3 => A_sr <| r_V l'v rfl <| r_W (vI ((l').length : Int)) rfl (ev_lenSl rfl rfl rfl (Rd.shp hl')) <| r_V (vI 0) rfl <| lx_nil <| A_block <| A_forget _ (Sub.pickE (Ls := [[]]) (Ls0 := []) rfl [0] rfl) <| A_loop (fun tt ll nn => ∃ (n5 : Nat) (steps1_ : List Sum31) (x2_ : Int), (code_All_l3 N l' n5 steps1_ x2_ = some r) ∧ ∃ (vsteps1_ : Value) (Ssteps1_ : List Bl), Sl 31 encSum31 vsteps1_ steps1_ Ssteps1_ ∧ Is [(5, vsteps1_), (10, l'v), (11, vI ((l').length : Int)), (12, vI x2_)] (List.flatten [Ssteps1_]) tt ll ∧ nn = n5 + 1) (N + 1) ?_ ?_
 ·exact ⟨N, [], 0, hM, nS, [], Sl.nil, is_mk rfl rfl, rfl⟩
 clear hM; rintro t l _ ⟨n5, steps1_, x2_, hM, vsteps1_, Ssteps1_, hsteps1_, ⟨⟨T, rfl⟩, rfl⟩, rfl⟩
 rcases n5 with _ | n5
 ·exact absurd hM (by simp [code_All_l3])
 rw [code_All_l3] at hM
 refine A_sr <| r_V (vB (decide (x2_ < ((l').length : Int)))) rfl <| lx_nil <| A_seq fun K7 hK7 => A_cond (decide (x2_ < ((l').length : Int))) rfl (fun hc8 => ?_) (fun hc8 => ?_)
 ·replace hM := ifp (of_decide_eq_true hc8) hM
  refine A_skip <| hK7 _ _ ?_; try clear hK7 K7
  refine A_seq fun K9 hK9 => A_block <| A_sr <| r_V (vI x2_) rfl ?_
  obtain ⟨ck11, hM⟩ := ck_some hM
  refine r_W (elA l'v ((x2_).toNat * 6)) rfl (ev_v (ev_idxSl rfl rfl rfl (Rd.shp hl') ck11)) <| r_le (vA #[vI (((l')[(x2_).toNat]!).1), vI (((l')[(x2_).toNat]!).2.1), vI (((l')[(x2_).toNat]!).2.2.1), vI (((l')[(x2_).toNat]!).2.2.2.1), U (hi (((l')[(x2_).toNat]!).2.2.2.2)), U (lo (((l')[(x2_).toNat]!).2.2.2.2))]) (En := enc_27) ((l')[(x2_).toNat]!) ((x2_).toNat) 0 rfl rfl (rd_ro hl') (get_of ck11) rfl <| r_a (27, #[vI 0, vI 0, vI 0, vI 0, U (0#64), U (0#64)]) rfl rfl rfl (fun b12 => ?_) (.inr rfl)
  refine r_V (vI x2_) rfl <| r_s (List.flatten [(kBc27_0 b12 (((l')[(x2_).toNat]!).1) (((l')[(x2_).toNat]!).2.1) (((l')[(x2_).toNat]!).2.2.1) (((l')[(x2_).toNat]!).2.2.2.1) (hi (((l')[(x2_).toNat]!).2.2.2.2)) (lo (((l')[(x2_).toNat]!).2.2.2.2))), Ssteps1_]) 0 _ _ _ _ _ (#[vI (((l')[(x2_).toNat]!).1), vI (((l')[(x2_).toNat]!).2.1), vI (((l')[(x2_).toNat]!).2.2.1), vI (((l')[(x2_).toNat]!).2.2.2.1), U (hi (((l')[(x2_).toNat]!).2.2.2.2)), U (lo (((l')[(x2_).toNat]!).2.2.2.2))]) rfl rfl rfl rfl (.of rfl rfl) rfl rfl <| lx_nil <| A_seq fun K13 hK13 => A_sr <| r_R [vI x2_, vB (x2_ == 64)] rfl <| lx_nil <| A_cond (x2_ == 64) rfl (fun hc15 => ?_) (fun hc15 => ?_)
  ·replace hM := ifp (eq_of_beq hc15) hM
   refine A_sr <| r_R [vI x2_, nS, vI x2_, vI 2] rfl <| lx_nil ?_
   obtain rfl := Option.some.inj hM
   refine A_ret (fun hn => ends1 (v0 := vT #[nS, vI x2_, vI 2]) Sl.nil (Sub.nil _) rfl (res3 rfl rfl rfl))
  replace hM := ifn (ne_of_beq_false hc15) hM
  refine A_skip <| hK13 _ _ ?_; try clear hK13 K13
  refine A_sr <| r_l (vA #[vI (((l')[(x2_).toNat]!).1), vI (((l')[(x2_).toNat]!).2.1), vI (((l')[(x2_).toNat]!).2.2.1), vI (((l')[(x2_).toNat]!).2.2.2.1), U (hi (((l')[(x2_).toNat]!).2.2.2.2)), U (lo (((l')[(x2_).toNat]!).2.2.2.2))]) 0 _ _ _ _ rfl rfl rfl rfl rfl ?_
  obtain ⟨r18, hr19, hM⟩ := bind_sm hM
  refine r_c (vT #[Sum31.v r18.1, vI r18.2]) rfl _ _ (ev_callF rfl call_9 rfl) (code_Make_g N (((l')[(x2_).toNat]!).1) (((l')[(x2_).toNat]!).2.1) (((l')[(x2_).toNat]!).2.2.1) (((l')[(x2_).toNat]!).2.2.2.1) (((l')[(x2_).toNat]!).2.2.2.2) _ hr19) <| r_R [vT #[Sum31.v r18.1, vI r18.2], Sum31.v r18.1, vI r18.2, Sum31.v r18.1, vI r18.2] rfl <| lx_nil <| A_seq fun K20 hK20 => A_sr <| r_R [vI r18.2, vB (r18.2 != 0)] rfl <| lx_nil <| A_cond (r18.2 != 0) rfl (fun hc22 => ?_) (fun hc22 => ?_)
  ·replace hM := ifp (bne_iff_ne.1 hc22) hM
   refine A_sr <| r_R [vI x2_, vI r18.2, nS, vI x2_, vI r18.2] rfl <| lx_nil ?_
   obtain rfl := Option.some.inj hM
   refine A_ret (fun hn => ends1 (v0 := vT #[nS, vI x2_, vI r18.2]) Sl.nil (Sub.nil _) rfl (res3 rfl rfl rfl))
  replace hM := ifn (bne_f hc22) hM
  refine A_skip <| hK20 _ _ ?_; try clear hK20 K20
  refine A_regC [(some 31, false), (some 32, true)] (conG Tryd.prog []) <| r_R [vsteps1_, Sum31.v r18.1] rfl <| r_bs (cs0 := []) (Ls := [(kBc27_0 b12 (((l')[(x2_).toNat]!).1) (((l')[(x2_).toNat]!).2.1) (((l')[(x2_).toNat]!).2.2.1) (((l')[(x2_).toNat]!).2.2.2.1) (hi (((l')[(x2_).toNat]!).2.2.2.2)) (lo (((l')[(x2_).toNat]!).2.2.2.2))), Ssteps1_]) 31 encSum31 [r18.1] [Sum31.v r18.1] [Value.nilIface] rfl rfl rfl rfl rfl rfl rfl (by kernel_rfl) ((fillC_eq _ _ _ _ (pc_cons (cells_sum (v := Sum31.v r18.1) rfl (Sum31.cells r18.1)) pc_nil)).trans (by kernel_rfl)) rfl rfl rfl (fun s24 S25 H26 => ?_)
  obtain ⟨ck27, hM⟩ := ck_some hM
  refine r_app (cs0 := []) (Ls := [(kBc27_0 b12 (((l')[(x2_).toNat]!).1) (((l')[(x2_).toNat]!).2.1) (((l')[(x2_).toNat]!).2.2.1) (((l')[(x2_).toNat]!).2.2.2.1) (hi (((l')[(x2_).toNat]!).2.2.2.2)) (lo (((l')[(x2_).toNat]!).2.2.2.2))), Ssteps1_, S25]) 1 (En := encSum31) rfl rfl rfl rfl rfl hsteps1_ rfl (rd_own H26 (mem_chunk (Ls := [(kBc27_0 b12 (((l')[(x2_).toNat]!).1) (((l')[(x2_).toNat]!).2.1) (((l')[(x2_).toNat]!).2.2.1) (((l')[(x2_).toNat]!).2.2.2.1) (hi (((l')[(x2_).toNat]!).2.2.2.2)) (lo (((l')[(x2_).toNat]!).2.2.2.2))), Ssteps1_, S25]) (k := 2) rfl rfl)) rfl rfl rfl rfl rfl (app_b ck27 rfl) (app_m ck27 rfl) rfl (fun s28 S29 H30 => ?_)
  refine r_V s28 rfl <| lx_nil <| hK9 _ _ ?_; try clear hK9 K9
  refine A_reg ?_
  obtain ⟨ck31, hM⟩ := ck_some hM
  refine r_X (vI (x2_ + 1)) rfl (wi64 rfl ck31.1 ck31.2) rfl <| r_V (vI (x2_ + 1)) rfl <| lx_nil <| fg _ (Sub.pick [(kBc27_0 b12 (((l')[(x2_).toNat]!).1) (((l')[(x2_).toNat]!).2.1) (((l')[(x2_).toNat]!).2.2.1) (((l')[(x2_).toNat]!).2.2.2.1) (hi (((l')[(x2_).toNat]!).2.2.2.2)) (lo (((l')[(x2_).toNat]!).2.2.2.2))), S29, S25] [1] rfl) ?_
  exact ⟨n5 + 1, by omega, n5, (steps1_ ++ ([r18.1])), (x2_ + 1), hM, s28, S29, H30, is_mk rfl rfl, rfl⟩
 replace hM := ifn (of_decide_eq_false hc8) hM
 refine A_exit <| hK3 _ _ ?_; try clear hK3 K3
 refine A_sr <| r_R [vsteps1_, vsteps1_] rfl <| r_W (vI ((steps1_).length : Int)) rfl (ev_lenSl rfl rfl rfl (Sl.shp hsteps1_)) <| r_R [vsteps1_, vI ((steps1_).length : Int), vI 0] rfl <| lx_nil ?_
 obtain rfl := Option.some.inj hM
 refine A_ret (fun hn => ends1 (v0 := vT #[vsteps1_, vI ((steps1_).length : Int), vI 0]) hsteps1_ (sub_one (Sub.pick [Ssteps1_] [0] rfl)) rfl (res3 rfl rfl rfl))
def code_target_m (_ : Nat) (s : Sum31) : Option (Int × Bool) := Sum31.on s (some (0, false)) (fun _ _ => some (0, false)) (fun _ _ _ => some (0, false)) (fun _ _ => some (0, false)) (fun _ _ => some (0, false)) (fun _ _ => some (0, false)) (fun _ _ _ => some (0, false)) (fun _ x20_1 => some (x20_1, true)) (fun _ => some (0, false)) (fun _ _ => some (0, false)) (fun _ x25_1 => some (x25_1, true)) (some (0, false))
set_option maxRecDepth 100000 in
set_option maxHeartbeats 8000000 in
theorem code_target_g (N : Nat) (s : Sum31) (r) (hM : code_target_m N s = some r) : Gives Tryd.prog 30 #[Sum31.v s] (vT #[vI r.1, vB r.2]) := by
 unfold code_target_m at hM
 refine gives_of_A follows Tryd.func30 rfl 24 rfl (upd (fun _ => undef) 0 (Sum31.v s)) (by funext k; match k with | 0 => rfl | k + 1 => rfl) (fun base0_ => ?_)
 refine A_sr <| r_R [vI 0, vB false] rfl <| lx_nil <| A_seq fun K2 hK2 => A_seq fun K3 hK3 => A_reg <| r_V (Sum31.v s) rfl ?_
 rcases Sum31.cases s with hx4 | ⟨x5_0, x6_1, hx4⟩ | ⟨x7_0, x8_1, x9_2, hx4⟩ | ⟨x10_0, x11_1, hx4⟩ | ⟨x12_0, x13_1, hx4⟩ | ⟨x14_0, x15_1, hx4⟩ | ⟨x16_0, x17_1, x18_2, hx4⟩ | ⟨x19_0, x20_1, hx4⟩ | ⟨x21_0, hx4⟩ | ⟨x22_0, x23_1, hx4⟩ | ⟨x24_0, x25_1, hx4⟩ | hx4
 ·replace hM := Sum31.on_nil hx4 hM
  refine r_W (vT #[vA #[vI 0, vI 0], vB false]) rfl (ev_taC ((rfl : _ = Sum31.v s).trans (show Sum31.v s = Value.nilIface from by rw [hx4]; rfl)) rfl) ?_
  refine r_R [vT #[vA #[vI 0, vI 0], vB false], vA #[vI 0, vI 0], vB false] rfl <| r_a (88, #[vI 0, vI 0]) rfl rfl rfl (fun b26 => ?_) (.inr rfl)
  refine r_s (kBc88_1 b26 0 0) 0 _ _ _ _ _ (#[vI 0, vI 0]) rfl rfl rfl rfl (.of rfl rfl) rfl rfl <| r_V (vB false) rfl <| lx_nil <| hK3 _ _ ?_; try clear hK3 K3
  refine A_sr <| r_V (vB false) rfl <| lx_nil <| A_cond false rfl (fun h_ => nomatch h_) (fun _ => ?_)
  refine A_skip <| hK2 _ _ ?_; try clear hK2 K2
  refine A_seq fun K28 hK28 => A_sr <| r_V (Sum31.v s) rfl <| r_W (vT #[vA #[vI 0, vI 0], vB false]) rfl (ev_taC ((rfl : _ = Sum31.v s).trans (show Sum31.v s = Value.nilIface from by rw [hx4]; rfl)) rfl) ?_
  refine r_R [vT #[vA #[vI 0, vI 0], vB false], vA #[vI 0, vI 0], vB false] rfl <| r_a (58, #[vI 0, vI 0]) rfl rfl rfl (fun b30 => ?_) (.inr rfl)
  refine r_s [(b30, 58, #[vI 0, vI 0]), (b26, 88, #[vI 0, vI 0])] 0 _ _ _ _ _ (#[vI 0, vI 0]) rfl rfl rfl rfl (.of rfl rfl) rfl rfl <| r_V (vB false) rfl <| lx_nil <| A_sr <| r_V (vB false) rfl <| lx_nil <| A_cond false rfl (fun h_ => nomatch h_) (fun _ => ?_)
  refine A_skip <| hK28 _ _ ?_; try clear hK28 K28
  refine A_sr <| r_R [vI 0, vB false] rfl <| lx_nil ?_
  obtain rfl := Option.some.inj hM
  refine A_ret (fun hn => ends_eq (v0 := vT #[vI 0, vB false]) rfl (res2 rfl rfl))
 ·replace hM := Sum31.on_t47 hx4 hM
  refine r_W (vT #[vA #[vI 0, vI 0], vB false]) rfl (ev_taC ((rfl : _ = Sum31.v s).trans (show Sum31.v s = Value.iface 47 (vA #[vI x5_0, U (hi x6_1), U (lo x6_1)]) from by rw [hx4]; rfl)) rfl) ?_
  refine r_R [vT #[vA #[vI 0, vI 0], vB false], vA #[vI 0, vI 0], vB false] rfl <| r_a (88, #[vI 0, vI 0]) rfl rfl rfl (fun b26 => ?_) (.inr rfl)
  refine r_s (kBc88_1 b26 0 0) 0 _ _ _ _ _ (#[vI 0, vI 0]) rfl rfl rfl rfl (.of rfl rfl) rfl rfl <| r_V (vB false) rfl <| lx_nil <| hK3 _ _ ?_; try clear hK3 K3
  refine A_sr <| r_V (vB false) rfl <| lx_nil <| A_cond false rfl (fun h_ => nomatch h_) (fun _ => ?_)
  refine A_skip <| hK2 _ _ ?_; try clear hK2 K2
  refine A_seq fun K28 hK28 => A_sr <| r_V (Sum31.v s) rfl <| r_W (vT #[vA #[vI 0, vI 0], vB false]) rfl (ev_taC ((rfl : _ = Sum31.v s).trans (show Sum31.v s = Value.iface 47 (vA #[vI x5_0, U (hi x6_1), U (lo x6_1)]) from by rw [hx4]; rfl)) rfl) ?_
  refine r_R [vT #[vA #[vI 0, vI 0], vB false], vA #[vI 0, vI 0], vB false] rfl <| r_a (58, #[vI 0, vI 0]) rfl rfl rfl (fun b30 => ?_) (.inr rfl)
  refine r_s [(b30, 58, #[vI 0, vI 0]), (b26, 88, #[vI 0, vI 0])] 0 _ _ _ _ _ (#[vI 0, vI 0]) rfl rfl rfl rfl (.of rfl rfl) rfl rfl <| r_V (vB false) rfl <| lx_nil <| A_sr <| r_V (vB false) rfl <| lx_nil <| A_cond false rfl (fun h_ => nomatch h_) (fun _ => ?_)
  refine A_skip <| hK28 _ _ ?_; try clear hK28 K28
  refine A_sr <| r_R [vI 0, vB false] rfl <| lx_nil ?_
  obtain rfl := Option.some.inj hM
  refine A_ret (fun hn => ends_eq (v0 := vT #[vI 0, vB false]) rfl (res2 rfl rfl))
 ·replace hM := Sum31.on_t49 hx4 hM
  refine r_W (vT #[vA #[vI 0, vI 0], vB false]) rfl (ev_taC ((rfl : _ = Sum31.v s).trans (show Sum31.v s = Value.iface 49 (vA #[vI x7_0, vI x8_1, vI x9_2]) from by rw [hx4]; rfl)) rfl) ?_
  refine r_R [vT #[vA #[vI 0, vI 0], vB false], vA #[vI 0, vI 0], vB false] rfl <| r_a (88, #[vI 0, vI 0]) rfl rfl rfl (fun b26 => ?_) (.inr rfl)
  refine r_s (kBc88_1 b26 0 0) 0 _ _ _ _ _ (#[vI 0, vI 0]) rfl rfl rfl rfl (.of rfl rfl) rfl rfl <| r_V (vB false) rfl <| lx_nil <| hK3 _ _ ?_; try clear hK3 K3
  refine A_sr <| r_V (vB false) rfl <| lx_nil <| A_cond false rfl (fun h_ => nomatch h_) (fun _ => ?_)
  refine A_skip <| hK2 _ _ ?_; try clear hK2 K2
  refine A_seq fun K28 hK28 => A_sr <| r_V (Sum31.v s) rfl <| r_W (vT #[vA #[vI 0, vI 0], vB false]) rfl (ev_taC ((rfl : _ = Sum31.v s).trans (show Sum31.v s = Value.iface 49 (vA #[vI x7_0, vI x8_1, vI x9_2]) from by rw [hx4]; rfl)) rfl) ?_
  refine r_R [vT #[vA #[vI 0, vI 0], vB false], vA #[vI 0, vI 0], vB false] rfl <| r_a (58, #[vI 0, vI 0]) rfl rfl rfl (fun b30 => ?_) (.inr rfl)
  refine r_s [(b30, 58, #[vI 0, vI 0]), (b26, 88, #[vI 0, vI 0])] 0 _ _ _ _ _ (#[vI 0, vI 0]) rfl rfl rfl rfl (.of rfl rfl) rfl rfl <| r_V (vB false) rfl <| lx_nil <| A_sr <| r_V (vB false) rfl <| lx_nil <| A_cond false rfl (fun h_ => nomatch h_) (fun _ => ?_)
  refine A_skip <| hK28 _ _ ?_; try clear hK28 K28
  refine A_sr <| r_R [vI 0, vB false] rfl <| lx_nil ?_
  obtain rfl := Option.some.inj hM
  refine A_ret (fun hn => ends_eq (v0 := vT #[vI 0, vB false]) rfl (res2 rfl rfl))
 ·replace hM := Sum31.on_t51 hx4 hM
  refine r_W (vT #[vA #[vI 0, vI 0], vB false]) rfl (ev_taC ((rfl : _ = Sum31.v s).trans (show Sum31.v s = Value.iface 51 (vA #[vI x10_0, vI x11_1]) from by rw [hx4]; rfl)) rfl) ?_
  refine r_R [vT #[vA #[vI 0, vI 0], vB false], vA #[vI 0, vI 0], vB false] rfl <| r_a (88, #[vI 0, vI 0]) rfl rfl rfl (fun b26 => ?_) (.inr rfl)
  refine r_s (kBc88_1 b26 0 0) 0 _ _ _ _ _ (#[vI 0, vI 0]) rfl rfl rfl rfl (.of rfl rfl) rfl rfl <| r_V (vB false) rfl <| lx_nil <| hK3 _ _ ?_; try clear hK3 K3
  refine A_sr <| r_V (vB false) rfl <| lx_nil <| A_cond false rfl (fun h_ => nomatch h_) (fun _ => ?_)
  refine A_skip <| hK2 _ _ ?_; try clear hK2 K2
  refine A_seq fun K28 hK28 => A_sr <| r_V (Sum31.v s) rfl <| r_W (vT #[vA #[vI 0, vI 0], vB false]) rfl (ev_taC ((rfl : _ = Sum31.v s).trans (show Sum31.v s = Value.iface 51 (vA #[vI x10_0, vI x11_1]) from by rw [hx4]; rfl)) rfl) ?_
  refine r_R [vT #[vA #[vI 0, vI 0], vB false], vA #[vI 0, vI 0], vB false] rfl <| r_a (58, #[vI 0, vI 0]) rfl rfl rfl (fun b30 => ?_) (.inr rfl)
  refine r_s [(b30, 58, #[vI 0, vI 0]), (b26, 88, #[vI 0, vI 0])] 0 _ _ _ _ _ (#[vI 0, vI 0]) rfl rfl rfl rfl (.of rfl rfl) rfl rfl <| r_V (vB false) rfl <| lx_nil <| A_sr <| r_V (vB false) rfl <| lx_nil <| A_cond false rfl (fun h_ => nomatch h_) (fun _ => ?_)
  refine A_skip <| hK28 _ _ ?_; try clear hK28 K28
  refine A_sr <| r_R [vI 0, vB false] rfl <| lx_nil ?_
  obtain rfl := Option.some.inj hM
  refine A_ret (fun hn => ends_eq (v0 := vT #[vI 0, vB false]) rfl (res2 rfl rfl))
 ·replace hM := Sum31.on_t52 hx4 hM
  refine r_W (vT #[vA #[vI 0, vI 0], vB false]) rfl (ev_taC ((rfl : _ = Sum31.v s).trans (show Sum31.v s = Value.iface 52 (vA #[vI x12_0, vI x13_1]) from by rw [hx4]; rfl)) rfl) ?_
  refine r_R [vT #[vA #[vI 0, vI 0], vB false], vA #[vI 0, vI 0], vB false] rfl <| r_a (88, #[vI 0, vI 0]) rfl rfl rfl (fun b26 => ?_) (.inr rfl)
  refine r_s (kBc88_1 b26 0 0) 0 _ _ _ _ _ (#[vI 0, vI 0]) rfl rfl rfl rfl (.of rfl rfl) rfl rfl <| r_V (vB false) rfl <| lx_nil <| hK3 _ _ ?_; try clear hK3 K3
  refine A_sr <| r_V (vB false) rfl <| lx_nil <| A_cond false rfl (fun h_ => nomatch h_) (fun _ => ?_)
  refine A_skip <| hK2 _ _ ?_; try clear hK2 K2
  refine A_seq fun K28 hK28 => A_sr <| r_V (Sum31.v s) rfl <| r_W (vT #[vA #[vI 0, vI 0], vB false]) rfl (ev_taC ((rfl : _ = Sum31.v s).trans (show Sum31.v s = Value.iface 52 (vA #[vI x12_0, vI x13_1]) from by rw [hx4]; rfl)) rfl) ?_
  refine r_R [vT #[vA #[vI 0, vI 0], vB false], vA #[vI 0, vI 0], vB false] rfl <| r_a (58, #[vI 0, vI 0]) rfl rfl rfl (fun b30 => ?_) (.inr rfl)
  refine r_s [(b30, 58, #[vI 0, vI 0]), (b26, 88, #[vI 0, vI 0])] 0 _ _ _ _ _ (#[vI 0, vI 0]) rfl rfl rfl rfl (.of rfl rfl) rfl rfl <| r_V (vB false) rfl <| lx_nil <| A_sr <| r_V (vB false) rfl <| lx_nil <| A_cond false rfl (fun h_ => nomatch h_) (fun _ => ?_)
  refine A_skip <| hK28 _ _ ?_; try clear hK28 K28
  refine A_sr <| r_R [vI 0, vB false] rfl <| lx_nil ?_
  obtain rfl := Option.some.inj hM
  refine A_ret (fun hn => ends_eq (v0 := vT #[vI 0, vB false]) rfl (res2 rfl rfl))
 ·replace hM := Sum31.on_t54 hx4 hM
  refine r_W (vT #[vA #[vI 0, vI 0], vB false]) rfl (ev_taC ((rfl : _ = Sum31.v s).trans (show Sum31.v s = Value.iface 54 (vA #[vI x14_0, vI x15_1]) from by rw [hx4]; rfl)) rfl) ?_
  refine r_R [vT #[vA #[vI 0, vI 0], vB false], vA #[vI 0, vI 0], vB false] rfl <| r_a (88, #[vI 0, vI 0]) rfl rfl rfl (fun b26 => ?_) (.inr rfl)
  refine r_s (kBc88_1 b26 0 0) 0 _ _ _ _ _ (#[vI 0, vI 0]) rfl rfl rfl rfl (.of rfl rfl) rfl rfl <| r_V (vB false) rfl <| lx_nil <| hK3 _ _ ?_; try clear hK3 K3
  refine A_sr <| r_V (vB false) rfl <| lx_nil <| A_cond false rfl (fun h_ => nomatch h_) (fun _ => ?_)
  refine A_skip <| hK2 _ _ ?_; try clear hK2 K2
  refine A_seq fun K28 hK28 => A_sr <| r_V (Sum31.v s) rfl <| r_W (vT #[vA #[vI 0, vI 0], vB false]) rfl (ev_taC ((rfl : _ = Sum31.v s).trans (show Sum31.v s = Value.iface 54 (vA #[vI x14_0, vI x15_1]) from by rw [hx4]; rfl)) rfl) ?_
  refine r_R [vT #[vA #[vI 0, vI 0], vB false], vA #[vI 0, vI 0], vB false] rfl <| r_a (58, #[vI 0, vI 0]) rfl rfl rfl (fun b30 => ?_) (.inr rfl)
  refine r_s [(b30, 58, #[vI 0, vI 0]), (b26, 88, #[vI 0, vI 0])] 0 _ _ _ _ _ (#[vI 0, vI 0]) rfl rfl rfl rfl (.of rfl rfl) rfl rfl <| r_V (vB false) rfl <| lx_nil <| A_sr <| r_V (vB false) rfl <| lx_nil <| A_cond false rfl (fun h_ => nomatch h_) (fun _ => ?_)
  refine A_skip <| hK28 _ _ ?_; try clear hK28 K28
  refine A_sr <| r_R [vI 0, vB false] rfl <| lx_nil ?_
  obtain rfl := Option.some.inj hM
  refine A_ret (fun hn => ends_eq (v0 := vT #[vI 0, vB false]) rfl (res2 rfl rfl))
 ·replace hM := Sum31.on_t56 hx4 hM
  refine r_W (vT #[vA #[vI 0, vI 0], vB false]) rfl (ev_taC ((rfl : _ = Sum31.v s).trans (show Sum31.v s = Value.iface 56 (vA #[vI x16_0, vI x17_1, vI x18_2]) from by rw [hx4]; rfl)) rfl) ?_
  refine r_R [vT #[vA #[vI 0, vI 0], vB false], vA #[vI 0, vI 0], vB false] rfl <| r_a (88, #[vI 0, vI 0]) rfl rfl rfl (fun b26 => ?_) (.inr rfl)
  refine r_s (kBc88_1 b26 0 0) 0 _ _ _ _ _ (#[vI 0, vI 0]) rfl rfl rfl rfl (.of rfl rfl) rfl rfl <| r_V (vB false) rfl <| lx_nil <| hK3 _ _ ?_; try clear hK3 K3
  refine A_sr <| r_V (vB false) rfl <| lx_nil <| A_cond false rfl (fun h_ => nomatch h_) (fun _ => ?_)
  refine A_skip <| hK2 _ _ ?_; try clear hK2 K2
  refine A_seq fun K28 hK28 => A_sr <| r_V (Sum31.v s) rfl <| r_W (vT #[vA #[vI 0, vI 0], vB false]) rfl (ev_taC ((rfl : _ = Sum31.v s).trans (show Sum31.v s = Value.iface 56 (vA #[vI x16_0, vI x17_1, vI x18_2]) from by rw [hx4]; rfl)) rfl) ?_
  refine r_R [vT #[vA #[vI 0, vI 0], vB false], vA #[vI 0, vI 0], vB false] rfl <| r_a (58, #[vI 0, vI 0]) rfl rfl rfl (fun b30 => ?_) (.inr rfl)
  refine r_s [(b30, 58, #[vI 0, vI 0]), (b26, 88, #[vI 0, vI 0])] 0 _ _ _ _ _ (#[vI 0, vI 0]) rfl rfl rfl rfl (.of rfl rfl) rfl rfl <| r_V (vB false) rfl <| lx_nil <| A_sr <| r_V (vB false) rfl <| lx_nil <| A_cond false rfl (fun h_ => nomatch h_) (fun _ => ?_)
  refine A_skip <| hK28 _ _ ?_; try clear hK28 K28
  refine A_sr <| r_R [vI 0, vB false] rfl <| lx_nil ?_
  obtain rfl := Option.some.inj hM
  refine A_ret (fun hn => ends_eq (v0 := vT #[vI 0, vB false]) rfl (res2 rfl rfl))
 ·replace hM := Sum31.on_t58 hx4 hM
  refine r_W (vT #[vA #[vI 0, vI 0], vB false]) rfl (ev_taC ((rfl : _ = Sum31.v s).trans (show Sum31.v s = Value.iface 58 (vA #[vI x19_0, vI x20_1]) from by rw [hx4]; rfl)) rfl) ?_
  refine r_R [vT #[vA #[vI 0, vI 0], vB false], vA #[vI 0, vI 0], vB false] rfl <| r_a (88, #[vI 0, vI 0]) rfl rfl rfl (fun b26 => ?_) (.inr rfl)
  refine r_s (kBc88_1 b26 0 0) 0 _ _ _ _ _ (#[vI 0, vI 0]) rfl rfl rfl rfl (.of rfl rfl) rfl rfl <| r_V (vB false) rfl <| lx_nil <| hK3 _ _ ?_; try clear hK3 K3
  refine A_sr <| r_V (vB false) rfl <| lx_nil <| A_cond false rfl (fun h_ => nomatch h_) (fun _ => ?_)
  refine A_skip <| hK2 _ _ ?_; try clear hK2 K2
  refine A_seq fun K28 hK28 => A_sr <| r_V (Sum31.v s) rfl <| r_W (vT #[vA #[vI x19_0, vI x20_1], vB true]) rfl (ev_taC ((rfl : _ = Sum31.v s).trans (show Sum31.v s = Value.iface 58 (vA #[vI x19_0, vI x20_1]) from by rw [hx4]; rfl)) rfl) ?_
  refine r_R [vT #[vA #[vI x19_0, vI x20_1], vB true], vA #[vI x19_0, vI x20_1], vB true] rfl <| r_a (58, #[vI 0, vI 0]) rfl rfl rfl (fun b30 => ?_) (.inr rfl)
  refine r_s [(b30, 58, #[vI x19_0, vI x20_1]), (b26, 88, #[vI 0, vI 0])] 0 _ _ _ _ _ (#[vI x19_0, vI x20_1]) rfl rfl rfl rfl (.of rfl rfl) rfl rfl <| r_V (vB true) rfl <| lx_nil <| A_sr <| r_V (vB true) rfl <| lx_nil <| A_cond true rfl (fun _ => ?_) (fun h_ => nomatch h_)
  refine A_sr <| r_V (vP b30 1) rfl <| r_l (vI x20_1) 0 _ _ _ _ rfl rfl rfl rfl rfl <| r_R [vI x20_1, vB true] rfl <| lx_nil ?_
  obtain rfl := Option.some.inj hM
  refine A_ret (fun hn => ends_eq (v0 := vT #[vI x20_1, vB true]) rfl (res2 rfl rfl))
 ·replace hM := Sum31.on_t60 hx4 hM
  refine r_W (vT #[vA #[vI 0, vI 0], vB false]) rfl (ev_taC ((rfl : _ = Sum31.v s).trans (show Sum31.v s = Value.iface 60 (vA #[vI x21_0]) from by rw [hx4]; rfl)) rfl) ?_
  refine r_R [vT #[vA #[vI 0, vI 0], vB false], vA #[vI 0, vI 0], vB false] rfl <| r_a (88, #[vI 0, vI 0]) rfl rfl rfl (fun b26 => ?_) (.inr rfl)
  refine r_s (kBc88_1 b26 0 0) 0 _ _ _ _ _ (#[vI 0, vI 0]) rfl rfl rfl rfl (.of rfl rfl) rfl rfl <| r_V (vB false) rfl <| lx_nil <| hK3 _ _ ?_; try clear hK3 K3
  refine A_sr <| r_V (vB false) rfl <| lx_nil <| A_cond false rfl (fun h_ => nomatch h_) (fun _ => ?_)
  refine A_skip <| hK2 _ _ ?_; try clear hK2 K2
  refine A_seq fun K28 hK28 => A_sr <| r_V (Sum31.v s) rfl <| r_W (vT #[vA #[vI 0, vI 0], vB false]) rfl (ev_taC ((rfl : _ = Sum31.v s).trans (show Sum31.v s = Value.iface 60 (vA #[vI x21_0]) from by rw [hx4]; rfl)) rfl) ?_
  refine r_R [vT #[vA #[vI 0, vI 0], vB false], vA #[vI 0, vI 0], vB false] rfl <| r_a (58, #[vI 0, vI 0]) rfl rfl rfl (fun b30 => ?_) (.inr rfl)
  refine r_s [(b30, 58, #[vI 0, vI 0]), (b26, 88, #[vI 0, vI 0])] 0 _ _ _ _ _ (#[vI 0, vI 0]) rfl rfl rfl rfl (.of rfl rfl) rfl rfl <| r_V (vB false) rfl <| lx_nil <| A_sr <| r_V (vB false) rfl <| lx_nil <| A_cond false rfl (fun h_ => nomatch h_) (fun _ => ?_)
  refine A_skip <| hK28 _ _ ?_; try clear hK28 K28
  refine A_sr <| r_R [vI 0, vB false] rfl <| lx_nil ?_
  obtain rfl := Option.some.inj hM
  refine A_ret (fun hn => ends_eq (v0 := vT #[vI 0, vB false]) rfl (res2 rfl rfl))
 ·replace hM := Sum31.on_t86 hx4 hM
  refine r_W (vT #[vA #[vI 0, vI 0], vB false]) rfl (ev_taC ((rfl : _ = Sum31.v s).trans (show Sum31.v s = Value.iface 86 (vA #[vI x22_0, vI x23_1]) from by rw [hx4]; rfl)) rfl) ?_
  refine r_R [vT #[vA #[vI 0, vI 0], vB false], vA #[vI 0, vI 0], vB false] rfl <| r_a (88, #[vI 0, vI 0]) rfl rfl rfl (fun b26 => ?_) (.inr rfl)
  refine r_s (kBc88_1 b26 0 0) 0 _ _ _ _ _ (#[vI 0, vI 0]) rfl rfl rfl rfl (.of rfl rfl) rfl rfl <| r_V (vB false) rfl <| lx_nil <| hK3 _ _ ?_; try clear hK3 K3
  refine A_sr <| r_V (vB false) rfl <| lx_nil <| A_cond false rfl (fun h_ => nomatch h_) (fun _ => ?_)
  refine A_skip <| hK2 _ _ ?_; try clear hK2 K2
  refine A_seq fun K28 hK28 => A_sr <| r_V (Sum31.v s) rfl <| r_W (vT #[vA #[vI 0, vI 0], vB false]) rfl (ev_taC ((rfl : _ = Sum31.v s).trans (show Sum31.v s = Value.iface 86 (vA #[vI x22_0, vI x23_1]) from by rw [hx4]; rfl)) rfl) ?_
  refine r_R [vT #[vA #[vI 0, vI 0], vB false], vA #[vI 0, vI 0], vB false] rfl <| r_a (58, #[vI 0, vI 0]) rfl rfl rfl (fun b30 => ?_) (.inr rfl)
  refine r_s [(b30, 58, #[vI 0, vI 0]), (b26, 88, #[vI 0, vI 0])] 0 _ _ _ _ _ (#[vI 0, vI 0]) rfl rfl rfl rfl (.of rfl rfl) rfl rfl <| r_V (vB false) rfl <| lx_nil <| A_sr <| r_V (vB false) rfl <| lx_nil <| A_cond false rfl (fun h_ => nomatch h_) (fun _ => ?_)
  refine A_skip <| hK28 _ _ ?_; try clear hK28 K28
  refine A_sr <| r_R [vI 0, vB false] rfl <| lx_nil ?_
  obtain rfl := Option.some.inj hM
  refine A_ret (fun hn => ends_eq (v0 := vT #[vI 0, vB false]) rfl (res2 rfl rfl))
 ·replace hM := Sum31.on_t88 hx4 hM
  refine r_W (vT #[vA #[vI x24_0, vI x25_1], vB true]) rfl (ev_taC ((rfl : _ = Sum31.v s).trans (show Sum31.v s = Value.iface 88 (vA #[vI x24_0, vI x25_1]) from by rw [hx4]; rfl)) rfl) ?_
  refine r_R [vT #[vA #[vI x24_0, vI x25_1], vB true], vA #[vI x24_0, vI x25_1], vB true] rfl <| r_a (88, #[vI 0, vI 0]) rfl rfl rfl (fun b26 => ?_) (.inr rfl)
  refine r_s (kBc88_1 b26 x24_0 x25_1) 0 _ _ _ _ _ (#[vI x24_0, vI x25_1]) rfl rfl rfl rfl (.of rfl rfl) rfl rfl <| r_V (vB true) rfl <| lx_nil <| hK3 _ _ ?_; try clear hK3 K3
  refine A_sr <| r_V (vB true) rfl <| lx_nil <| A_cond true rfl (fun _ => ?_) (fun h_ => nomatch h_)
  refine A_sr <| r_V (vP b26 1) rfl <| r_l (vI x25_1) 0 _ _ _ _ rfl rfl rfl rfl rfl <| r_R [vI x25_1, vB true] rfl <| lx_nil ?_
  obtain rfl := Option.some.inj hM
  refine A_ret (fun hn => ends_eq (v0 := vT #[vI x25_1, vB true]) rfl (res2 rfl rfl))
 replace hM := Sum31.on_t90 hx4 hM
 refine r_W (vT #[vA #[vI 0, vI 0], vB false]) rfl (ev_taC ((rfl : _ = Sum31.v s).trans (show Sum31.v s = Value.iface 90 (vA #[]) from by rw [hx4]; rfl)) rfl) ?_
 refine r_R [vT #[vA #[vI 0, vI 0], vB false], vA #[vI 0, vI 0], vB false] rfl <| r_a (88, #[vI 0, vI 0]) rfl rfl rfl (fun b26 => ?_) (.inr rfl)
 refine r_s (kBc88_1 b26 0 0) 0 _ _ _ _ _ (#[vI 0, vI 0]) rfl rfl rfl rfl (.of rfl rfl) rfl rfl <| r_V (vB false) rfl <| lx_nil <| hK3 _ _ ?_; try clear hK3 K3
 refine A_sr <| r_V (vB false) rfl <| lx_nil <| A_cond false rfl (fun h_ => nomatch h_) (fun _ => ?_)
 refine A_skip <| hK2 _ _ ?_; try clear hK2 K2
 refine A_seq fun K28 hK28 => A_sr <| r_V (Sum31.v s) rfl <| r_W (vT #[vA #[vI 0, vI 0], vB false]) rfl (ev_taC ((rfl : _ = Sum31.v s).trans (show Sum31.v s = Value.iface 90 (vA #[]) from by rw [hx4]; rfl)) rfl) ?_
 refine r_R [vT #[vA #[vI 0, vI 0], vB false], vA #[vI 0, vI 0], vB false] rfl <| r_a (58, #[vI 0, vI 0]) rfl rfl rfl (fun b30 => ?_) (.inr rfl)
 refine r_s [(b30, 58, #[vI 0, vI 0]), (b26, 88, #[vI 0, vI 0])] 0 _ _ _ _ _ (#[vI 0, vI 0]) rfl rfl rfl rfl (.of rfl rfl) rfl rfl <| r_V (vB false) rfl <| lx_nil <| A_sr <| r_V (vB false) rfl <| lx_nil <| A_cond false rfl (fun h_ => nomatch h_) (fun _ => ?_)
 refine A_skip <| hK28 _ _ ?_; try clear hK28 K28
 refine A_sr <| r_R [vI 0, vB false] rfl <| lx_nil ?_
 obtain rfl := Option.some.inj hM
 refine A_ret (fun hn => ends_eq (v0 := vT #[vI 0, vB false]) rfl (res2 rfl rfl))
def code_Target_m (N : Nat) (s : Sum31) : Option (Int × Bool) := (code_target_m N s).bind fun r3 => some (r3.1, r3.2)
set_option maxRecDepth 100000 in
set_option maxHeartbeats 8000000 in
theorem code_Target_g (N : Nat) (s : Sum31) (r) (hM : code_Target_m N s = some r) : Gives Tryd.prog 16 #[Sum31.v s] (vT #[vI r.1, vB r.2]) := by
 unfold code_Target_m at hM
 refine gives_of_A follows Tryd.func16 rfl 8 rfl (upd (fun _ => undef) 0 (Sum31.v s)) (by funext k; match k with | 0 => rfl | k + 1 => rfl) (fun base0_ => ?_)
 refine A_sr <| r_R [vI 0, vB false] rfl <| lx_nil <| A_sr <| r_V (Sum31.v s) rfl ?_
 obtain ⟨r3, hr4, hM⟩ := bind_sm hM
 refine r_c (vT #[vI r3.1, vB r3.2]) rfl _ _ (ev_callF rfl call_30 rfl) (code_target_g N s _ hr4) <| r_R [vI r3.1, vB r3.2, vI r3.1, vB r3.2] rfl <| lx_nil ?_
 obtain rfl := Option.some.inj hM
 refine A_ret (fun hn => ends_eq (v0 := vT #[vI r3.1, vB r3.2]) rfl (res2 rfl rfl))
def code_mustPush_m (_ : Nat) (s : Sum31) : Option (Int × (BitVec 128)) := Sum31.on s none (fun x5_0 x6_1 => some (x5_0, x6_1)) (fun _ _ _ => none) (fun _ _ => none) (fun _ _ => none) (fun _ _ => none) (fun _ _ _ => none) (fun _ _ => none) (fun _ => none) (fun _ _ => none) (fun _ _ => none) none
set_option maxRecDepth 100000 in
set_option maxHeartbeats 8000000 in
theorem code_mustPush_g (N : Nat) (s : Sum31) (r) (hM : code_mustPush_m N s = some r) : Gives Tryd.prog 31 #[Sum31.v s] (vA #[vI r.1, U (hi r.2), U (lo r.2)]) := by
 unfold code_mustPush_m at hM
 refine gives_of_A follows Tryd.func31 rfl 5 rfl (upd (fun _ => undef) 0 (Sum31.v s)) (by funext k; match k with | 0 => rfl | k + 1 => rfl) (fun base0_ => ?_)
 refine A_sr <| r_a (47, #[vI 0, U (0#64), U (0#64)]) rfl rfl rfl (fun b2 => ?_) (.inr rfl)
 refine lx_nil <| A_seq fun K3 hK3 => A_reg <| r_V (Sum31.v s) rfl ?_
 rcases Sum31.cases s with hx4 | ⟨x5_0, x6_1, hx4⟩ | ⟨x7_0, x8_1, x9_2, hx4⟩ | ⟨x10_0, x11_1, hx4⟩ | ⟨x12_0, x13_1, hx4⟩ | ⟨x14_0, x15_1, hx4⟩ | ⟨x16_0, x17_1, x18_2, hx4⟩ | ⟨x19_0, x20_1, hx4⟩ | ⟨x21_0, hx4⟩ | ⟨x22_0, x23_1, hx4⟩ | ⟨x24_0, x25_1, hx4⟩ | hx4
 ·replace hM := Sum31.on_nil hx4 hM
  cases hM
 ·replace hM := Sum31.on_t47 hx4 hM
  refine r_W (vA #[vI x5_0, U (hi x6_1), U (lo x6_1)]) rfl (ev_taC ((rfl : _ = Sum31.v s).trans (show Sum31.v s = Value.iface 47 (vA #[vI x5_0, U (hi x6_1), U (lo x6_1)]) from by rw [hx4]; rfl)) rfl) ?_
  refine r_s (kBc47_2 b2 x5_0 (hi x6_1) (lo x6_1)) 0 _ _ _ _ _ (#[vI x5_0, U (hi x6_1), U (lo x6_1)]) rfl rfl rfl rfl (.of rfl rfl) rfl rfl <| lx_nil <| hK3 _ _ ?_; try clear hK3 K3
  obtain rfl := Option.some.inj hM
  refine A_ret (fun hn => ends_eq (v0 := vA #[vI x5_0, U (hi x6_1), U (lo x6_1)]) rfl (res1 (res_cell hn 0 rfl rfl rfl)))
 ·replace hM := Sum31.on_t49 hx4 hM
  cases hM
 ·replace hM := Sum31.on_t51 hx4 hM
  cases hM
 ·replace hM := Sum31.on_t52 hx4 hM
  cases hM
 ·replace hM := Sum31.on_t54 hx4 hM
  cases hM
 ·replace hM := Sum31.on_t56 hx4 hM
  cases hM
 ·replace hM := Sum31.on_t58 hx4 hM
  cases hM
 ·replace hM := Sum31.on_t60 hx4 hM
  cases hM
 ·replace hM := Sum31.on_t86 hx4 hM
  cases hM
 ·replace hM := Sum31.on_t88 hx4 hM
  cases hM
 replace hM := Sum31.on_t90 hx4 hM
 cases hM
def code_Only_m (N : Nat) (s : Sum31) : Option (Int × (BitVec 128)) := (code_mustPush_m N s).bind fun r4 => some (r4.1, r4.2)
set_option maxRecDepth 100000 in
set_option maxHeartbeats 8000000 in
theorem code_Only_g (N : Nat) (s : Sum31) (r) (hM : code_Only_m N s = some r) : Gives Tryd.prog 18 #[Sum31.v s] (vA #[vI r.1, U (hi r.2), U (lo r.2)]) := by
 unfold code_Only_m at hM
 refine gives_of_A follows Tryd.func18 rfl 5 rfl (upd (fun _ => undef) 0 (Sum31.v s)) (by funext k; match k with | 0 => rfl | k + 1 => rfl) (fun base0_ => ?_)
 refine A_sr <| r_a (47, #[vI 0, U (0#64), U (0#64)]) rfl rfl rfl (fun b2 => ?_) (.inr rfl)
 refine lx_nil <| A_sr <| r_V (Sum31.v s) rfl ?_
 obtain ⟨r4, hr5, hM⟩ := bind_sm hM
 refine r_c (vA #[vI r4.1, U (hi r4.2), U (lo r4.2)]) rfl _ _ (ev_callF rfl call_31 rfl) (code_mustPush_g N s _ hr5) <| r_s (kBc47_2 b2 r4.1 (hi r4.2) (lo r4.2)) 0 _ _ _ _ _ (#[vI r4.1, U (hi r4.2), U (lo r4.2)]) rfl rfl rfl rfl (.of rfl rfl) rfl rfl <| lx_nil ?_
 obtain rfl := Option.some.inj hM
 refine A_ret (fun hn => ends_eq (v0 := vA #[vI r4.1, U (hi r4.2), U (lo r4.2)]) rfl (res1 (res_cell hn 0 rfl rfl rfl)))
def code_Find_l2 (s : List UInt8) : Nat → Int → Option (Int × Bool)
  | 0, _ => none
  | n4 + 1, x1_ => if x1_ < 35 then ck (0 ≤ x1_ ∧ x1_ < 35) (if (gtab_code_names[(x1_).toNat]!) = s then some (x1_, true) else ck (-9223372036854775808 ≤ (x1_ + 1) ∧ (x1_ + 1) ≤ 9223372036854775807) ((code_Find_l2 s n4) (x1_ + 1))) else some (0, false)
def code_Find_m (N : Nat) (s : List UInt8) : Option (Int × Bool) := code_Find_l2 s N 0
set_option maxRecDepth 100000 in
set_option maxHeartbeats 8000000 in
theorem code_Find_g (N : Nat) (s : List UInt8) (r) (hM : code_Find_m N s = some r) (ro : Addr → Option Value) : DoesI Tryd.prog 19 #[vS s] MemI ro [] (pV (vT #[vI r.1, vB r.2])) := by
 unfold code_Find_m at hM
 refine doesI_of_A follows Tryd.func19 rfl 15 rfl (upd (fun _ => undef) 0 (vS s)) (by funext k; match k with | 0 => rfl | k + 1 => rfl) memI_kept (fun base0_ => ?_)
 refine A_sr <| r_R [vI 0, vB false] rfl <| lx_nil <| A_seq fun K2 hK2 => A_sr <| r_V (vI 0) rfl <| lx_nil <| A_block <| A_loop (fun tt ll nn => ∃ (n4 : Nat) (x1_ : Int), (code_Find_l2 s n4 x1_ = some r) ∧ Is [(0, vS s), (5, vI x1_)] [] tt ll ∧ nn = n4 + 1) (N + 1) ?_ ?_
 ·exact ⟨N, 0, hM, is_mk rfl rfl, rfl⟩
 clear hM; rintro t l _ ⟨n4, x1_, hM, ⟨⟨T, rfl⟩, rfl⟩, rfl⟩
 rcases n4 with _ | n4
 ·exact absurd hM (by simp [code_Find_l2])
 rw [code_Find_l2] at hM
 refine A_sr <| r_V (vB (decide (x1_ < 35))) rfl <| lx_nil <| A_seq fun K6 hK6 => A_cond (decide (x1_ < 35)) rfl (fun hc7 => ?_) (fun hc7 => ?_)
 ·replace hM := ifp (of_decide_eq_true hc7) hM
  refine A_skip <| hK6 _ _ ?_; try clear hK6 K6
  refine A_seq fun K8 hK8 => A_block <| A_sr <| r_R [vI x1_, vI x1_] rfl <| lx_nil <| A_sc [(some 10, false)] (conG Tryd.prog [(10, fun _ _ v_ L_ U_ => (pV (vS (gtab_code_names[(x1_).toNat]!))) v_ L_ U_)]) <| r_V (vI x1_) rfl ?_
  obtain ⟨ck11, hM⟩ := ck_some hM
  have hx12 := fun c => ev_v (ev_idxI (P := Tryd.prog) (c := c) (t := 92) (b := 0) (off := 0) (k := .i64) rfl rfl rfl ck11)
  simp only [Nat.zero_add] at hx12
  have ck11n : (x1_).toNat < 35 := by omega
  refine r_W (Value.pointer (some ⟨0, (x1_).toNat, none⟩)) rfl (hx12 _) <| r_gld (vS (gtab_code_names[(x1_).toNat]!)) rfl rfl rfl rfl rfl (fun _ h_ => gt_code_names h_ _ ck11n) (fun _ _ _ _ _ => Iff.rfl) <| r_V (vS s) rfl <| r_W (vB ((gtab_code_names[(x1_).toNat]!) == s)) rfl (ev_eqS rfl rfl) <| lx_nil <| A_cond ((gtab_code_names[(x1_).toNat]!) == s) rfl (fun hc13 => ?_) (fun hc13 => ?_)
  ·replace hM := ifp (eq_of_beq hc13) hM
   refine A_sr <| r_R [vI x1_, vI x1_, vB true] rfl <| lx_nil ?_
   obtain rfl := Option.some.inj hM
   refine A_ret (fun hn => endsV (v0 := vT #[vI x1_, vB true]) rfl (res2 rfl rfl))
  replace hM := ifn (ne_of_beq_false hc13) hM
  refine A_skip <| hK8 _ _ ?_; try clear hK8 K8
  refine A_reg ?_
  obtain ⟨ck15, hM⟩ := ck_some hM
  refine r_X (vI (x1_ + 1)) rfl (wi64 rfl ck15.1 ck15.2) rfl <| r_V (vI (x1_ + 1)) rfl <| lx_nil <| fg _ (Sub.of List.Sublist.slnil) ?_
  exact ⟨n4 + 1, by omega, n4, (x1_ + 1), hM, is_mk rfl rfl, rfl⟩
 replace hM := ifn (of_decide_eq_false hc7) hM
 refine A_exit <| hK2 _ _ ?_; try clear hK2 K2
 refine A_sr <| r_R [vI 0, vB false] rfl <| lx_nil ?_
 obtain rfl := Option.some.inj hM
 refine A_ret (fun hn => endsV (v0 := vT #[vI 0, vB false]) rfl (res2 rfl rfl))
def shunterref02_Text_m (N : Nat) (a_0 : Int) (a_1 : BitVec 128) : Option (List UInt8) := (shunterref02_May_m N a_0 a_1).bind fun r5 => if r5 = true then ck ((2 : Int) ≤ 10 ∧ (10 : Int) ≤ 16) (ck (((textI 10 ((0#64) ++ (BitVec.ofInt 64 a_0))).length : Int) + ((([39] : List UInt8)).length : Int) ≤ 9223372036854775807) (ck ((2 : Int) ≤ 16 ∧ (16 : Int) ≤ 16) (ck ((((textI 10 ((0#64) ++ (BitVec.ofInt 64 a_0))) ++ ([39] : List UInt8)).length : Int) + ((textI 16 ((hi a_1) ++ (lo a_1))).length : Int) ≤ 9223372036854775807) (some (((textI 10 ((0#64) ++ (BitVec.ofInt 64 a_0))) ++ ([39] : List UInt8)) ++ (textI 16 ((hi a_1) ++ (lo a_1)))))))) else some ([])
set_option maxRecDepth 100000 in
set_option maxHeartbeats 8000000 in
theorem shunterref02_Text_g (N : Nat) (a_0 : Int) (a_1 : BitVec 128) (r) (hM : shunterref02_Text_m N a_0 a_1 = some r) : Gives Tryd.prog 34 #[vA #[vI a_0, U (hi a_1), U (lo a_1)]] (vS r) := by
 unfold shunterref02_Text_m at hM
 refine gives_of_A follows Tryd.func34 rfl 19 rfl (upd (fun _ => undef) 0 (vA #[vI a_0, U (hi a_1), U (lo a_1)])) (by funext k; match k with | 0 => rfl | k + 1 => rfl) (fun base0_ => ?_)
 refine A_sr <| r_a (25, #[vI a_0, U (hi a_1), U (lo a_1)]) rfl rfl rfl (fun b2 => ?_) (.inr rfl)
 refine r_V (Value.string (⟨#[]⟩)) rfl <| lx_nil <| A_seq fun K3 hK3 => A_sr <| r_l (vA #[vI a_0, U (hi a_1), U (lo a_1)]) 0 _ _ _ _ rfl rfl rfl rfl rfl ?_
 obtain ⟨r5, hr6, hM⟩ := bind_sm hM
 refine r_c (vB r5) rfl _ _ (ev_callF rfl call_23 rfl) (shunterref02_May_g N a_0 a_1 _ hr6) <| r_V (vB (!(r5))) rfl <| lx_nil <| A_cond (!(r5)) rfl (fun hc7 => ?_) (fun hc7 => ?_)
 ·replace hM := ifn (Bool.eq_false_iff.1 (not_t hc7)) hM
  refine A_sr <| r_V (Value.string (⟨#[]⟩)) rfl <| lx_nil ?_
  obtain rfl := Option.some.inj hM
  refine A_ret (fun hn => ends_eq (v0 := Value.string (⟨#[]⟩)) rfl (res1 rfl))
 replace hM := ifp (not_f hc7) hM
 refine A_skip <| hK3 _ _ ?_; try clear hK3 K3
 refine A_seq fun K9 hK9 => A_draw [] (by decide +kernel) (fun hn => sep_nil) <| r_V (vP b2 0) rfl <| r_l (vI a_0) 0 _ _ _ _ rfl rfl rfl rfl rfl <| r_w (U (BitVec.ofInt 64 a_0)) rfl rfl (U_wrapI a_0) (fun _ => rfl) <| r_c (Value.agg (rowF (BitVec.getLsbD ((0#64) ++ (BitVec.ofInt 64 a_0))))) rfl _ _ (ev_callF rfl call_37 rfl) (of_g (0#64) (BitVec.ofInt 64 a_0)) ?_
 obtain ⟨ck10, hM⟩ := ck_some hM
 refine r_c (vS (textI 10 ((0#64) ++ (BitVec.ofInt 64 a_0)))) rfl _ _ (ev_callF rfl call_45 rfl) (rtext_t ((0#64) ++ (BitVec.ofInt 64 a_0)) 10 ck10) ?_
 obtain ⟨ck11, hM⟩ := ck_some hM
 refine r_W (vS ((textI 10 ((0#64) ++ (BitVec.ofInt 64 a_0))) ++ ([39] : List UInt8))) rfl (ev_addS ck11 rfl rfl) <| r_V (vP b2 1) rfl <| r_l (U (hi a_1)) 0 _ _ _ _ rfl rfl rfl rfl rfl <| r_V (vP b2 2) rfl <| r_l (U (lo a_1)) 0 _ _ _ _ rfl rfl rfl rfl rfl <| r_c (Value.agg (rowF (BitVec.getLsbD ((hi a_1) ++ (lo a_1))))) rfl _ _ (ev_callF rfl call_37 rfl) (of_g (hi a_1) (lo a_1)) ?_
 obtain ⟨ck12, hM⟩ := ck_some hM
 refine r_c (vS (textI 16 ((hi a_1) ++ (lo a_1)))) rfl _ _ (ev_callF rfl call_45 rfl) (rtext_t ((hi a_1) ++ (lo a_1)) 16 ck12) ?_
 obtain ⟨ck13, hM⟩ := ck_some hM
 refine r_W (vS (((textI 10 ((0#64) ++ (BitVec.ofInt 64 a_0))) ++ ([39] : List UInt8)) ++ (textI 16 ((hi a_1) ++ (lo a_1))))) rfl (ev_addS ck13 rfl rfl) <| r_V (vS (((textI 10 ((0#64) ++ (BitVec.ofInt 64 a_0))) ++ ([39] : List UInt8)) ++ (textI 16 ((hi a_1) ++ (lo a_1))))) rfl <| lx_nil <| hK9 _ _ ?_; try clear hK9 K9
 obtain rfl := Option.some.inj hM
 refine A_ret (fun hn => ends_eq (v0 := vS (((textI 10 ((0#64) ++ (BitVec.ofInt 64 a_0))) ++ ([39] : List UInt8)) ++ (textI 16 ((hi a_1) ++ (lo a_1))))) rfl (res1 rfl))
def shunterref09_Digits_m (_ : Nat) (n : Int) : Option (List UInt8) := if n < 0 then ck ((2 : Int) ≤ 10 ∧ (10 : Int) ≤ 16) (ck (((([45] : List UInt8)).length : Int) + ((textI 10 ((0#64) ++ (0#64 - (BitVec.ofInt 64 n)))).length : Int) ≤ 9223372036854775807) (some (([45] : List UInt8) ++ (textI 10 ((0#64) ++ (0#64 - (BitVec.ofInt 64 n))))))) else ck ((2 : Int) ≤ 10 ∧ (10 : Int) ≤ 16) (some (textI 10 ((0#64) ++ (BitVec.ofInt 64 n))))
set_option maxRecDepth 100000 in
set_option maxHeartbeats 8000000 in
theorem shunterref09_Digits_g (N : Nat) (n : Int) (r) (hM : shunterref09_Digits_m N n = some r) : Gives Tryd.prog 35 #[vI n] (vS r) := by
 unfold shunterref09_Digits_m at hM
 refine gives_of_A follows Tryd.func35 rfl 15 rfl (upd (fun _ => undef) 0 (vI n)) (by funext k; match k with | 0 => rfl | k + 1 => rfl) (fun base0_ => ?_)
 refine A_sr <| r_V (Value.string (⟨#[]⟩)) rfl <| lx_nil <| A_seq fun K2 hK2 => A_sr <| r_R [vI n, vB (decide (n < 0))] rfl <| lx_nil <| A_cond (decide (n < 0)) rfl (fun hc4 => ?_) (fun hc4 => ?_)
 ·replace hM := ifp (of_decide_eq_true hc4) hM
  refine A_sr <| r_V (vI n) rfl <| r_w (U (BitVec.ofInt 64 n)) rfl rfl (U_wrapI n) (fun _ => rfl) <| r_X (U (0#64 - (BitVec.ofInt 64 n))) rfl (U_sub (0#64) (BitVec.ofInt 64 n)) rfl <| r_c (Value.agg (rowF (BitVec.getLsbD ((0#64) ++ (0#64 - (BitVec.ofInt 64 n)))))) rfl _ _ (ev_callF rfl call_37 rfl) (of_g (0#64) (0#64 - (BitVec.ofInt 64 n))) ?_
  obtain ⟨ck6, hM⟩ := ck_some hM
  refine r_c (vS (textI 10 ((0#64) ++ (0#64 - (BitVec.ofInt 64 n))))) rfl _ _ (ev_callF rfl call_45 rfl) (rtext_t ((0#64) ++ (0#64 - (BitVec.ofInt 64 n))) 10 ck6) ?_
  obtain ⟨ck7, hM⟩ := ck_some hM
  refine r_W (vS (([45] : List UInt8) ++ (textI 10 ((0#64) ++ (0#64 - (BitVec.ofInt 64 n)))))) rfl (ev_addS ck7 rfl rfl) <| r_V (vS (([45] : List UInt8) ++ (textI 10 ((0#64) ++ (0#64 - (BitVec.ofInt 64 n)))))) rfl <| lx_nil ?_
  obtain rfl := Option.some.inj hM
  refine A_ret (fun hn => ends_eq (v0 := vS (([45] : List UInt8) ++ (textI 10 ((0#64) ++ (0#64 - (BitVec.ofInt 64 n)))))) rfl (res1 rfl))
 replace hM := ifn (of_decide_eq_false hc4) hM
 refine A_skip <| hK2 _ _ ?_; try clear hK2 K2
 refine A_sr <| r_V (vI n) rfl <| r_w (U (BitVec.ofInt 64 n)) rfl rfl (U_wrapI n) (fun _ => rfl) <| r_c (Value.agg (rowF (BitVec.getLsbD ((0#64) ++ (BitVec.ofInt 64 n))))) rfl _ _ (ev_callF rfl call_37 rfl) (of_g (0#64) (BitVec.ofInt 64 n)) ?_
 obtain ⟨ck9, hM⟩ := ck_some hM
 refine r_c (vS (textI 10 ((0#64) ++ (BitVec.ofInt 64 n)))) rfl _ _ (ev_callF rfl call_45 rfl) (rtext_t ((0#64) ++ (BitVec.ofInt 64 n)) 10 ck9) <| r_V (vS (textI 10 ((0#64) ++ (BitVec.ofInt 64 n)))) rfl <| lx_nil ?_
 obtain rfl := Option.some.inj hM
 refine A_ret (fun hn => ends_eq (v0 := vS (textI 10 ((0#64) ++ (BitVec.ofInt 64 n)))) rfl (res1 rfl))
def shunterref09_Text_k3 (N : Nat) (x_0 : Int) (x_2 : Int) (r4 : List (List UInt8 × Int × Int × Int × Int × Int × Int × Int × List UInt8)) (s2_ : List UInt8) : Option (List UInt8) := if (((r4)[(x_0).toNat]!).2.2.2.1 : Int) = 2 then ck (((s2_).length : Int) + ((([32] : List UInt8)).length : Int) ≤ 9223372036854775807) ((shunterref09_Digits_m N x_2).bind fun r24 => ck (((s2_ ++ ([32] : List UInt8)).length : Int) + ((r24).length : Int) ≤ 9223372036854775807) (some ((s2_ ++ ([32] : List UInt8)) ++ r24))) else some s2_
def shunterref09_Text_k1 (N : Nat) (x_0 : Int) (x_1 : Int) (x_2 : Int) (x_3 : Int) (x_4 : BitVec 128) : Option (List UInt8) := (shunterref09_Table_m N ).bind fun r4 => ck (0 ≤ x_0 ∧ x_0 < ((r4).length : Int)) (if (((r4)[(x_0).toNat]!).1) = ([112, 117, 115, 104] : List UInt8) then ck (((((r4)[(x_0).toNat]!).1).length : Int) + ((([32] : List UInt8)).length : Int) ≤ 9223372036854775807) ((shunterref02_Text_m N x_3 x_4).bind fun r17 => ck ((((((r4)[(x_0).toNat]!).1) ++ ([32] : List UInt8)).length : Int) + ((r17).length : Int) ≤ 9223372036854775807) (some (((((r4)[(x_0).toNat]!).1) ++ ([32] : List UInt8)) ++ r17))) else if (((r4)[(x_0).toNat]!).2.2.2.1 : Int) ≥ 1 then ck (((((r4)[(x_0).toNat]!).1).length : Int) + ((([32] : List UInt8)).length : Int) ≤ 9223372036854775807) ((shunterref09_Digits_m N x_1).bind fun r32 => ck ((((((r4)[(x_0).toNat]!).1) ++ ([32] : List UInt8)).length : Int) + ((r32).length : Int) ≤ 9223372036854775807) (shunterref09_Text_k3 N x_0 x_2 r4 (((((r4)[(x_0).toNat]!).1) ++ ([32] : List UInt8)) ++ r32))) else shunterref09_Text_k3 N x_0 x_2 r4 (((r4)[(x_0).toNat]!).1))
def shunterref09_Text_m (N : Nat) (x_0 : Int) (x_1 : Int) (x_2 : Int) (x_3 : Int) (x_4 : BitVec 128) : Option (List UInt8) := if x_0 < 0 then some ([]) else if x_0 > 34 then some ([]) else shunterref09_Text_k1 N x_0 x_1 x_2 x_3 x_4 
set_option maxRecDepth 100000 in
set_option maxHeartbeats 8000000 in
theorem shunterref09_Text_g (N : Nat) (x_0 x_1 x_2 x_3 : Int) (x_4 : BitVec 128) (r) (hM : shunterref09_Text_m N x_0 x_1 x_2 x_3 x_4 = some r) : Gives Tryd.prog 22 #[vA #[vI x_0, vI x_1, vI x_2, vI x_3, U (hi x_4), U (lo x_4)]] (vS r) := by
 unfold shunterref09_Text_m at hM
 refine gives_of_A follows Tryd.func22 rfl 47 rfl (upd (fun _ => undef) 0 (vA #[vI x_0, vI x_1, vI x_2, vI x_3, U (hi x_4), U (lo x_4)])) (by funext k; match k with | 0 => rfl | k + 1 => rfl) (fun base0_ => ?_)
 refine A_sr <| r_a (27, #[vI x_0, vI x_1, vI x_2, vI x_3, U (hi x_4), U (lo x_4)]) rfl rfl rfl (fun b2 => ?_) (.inr rfl)
 refine r_V (Value.string (⟨#[]⟩)) rfl <| lx_nil <| A_cut (fun tt ll => (shunterref09_Text_k1 N x_0 x_1 x_2 x_3 x_4  = some r) ∧ Is [(1, vP b2 0)] (kBc27_0 b2 x_0 x_1 x_2 x_3 (hi x_4) (lo x_4)) tt ll) ?_ ?_
 ·refine A_seq fun K35 hK35 => A_reg <| r_V (vP b2 0) rfl <| r_l (vI x_0) 0 _ _ _ _ rfl rfl rfl rfl rfl <| r_R [vB (decide (x_0 < 0)), vB (decide (x_0 < 0))] rfl ?_
  rcases hg36 : (decide (x_0 < 0)) with _ | _
  ·replace hM := ifn (of_decide_eq_false hg36) hM
   refine r_R [vP b2 0] rfl <| r_y rfl <| r_l (vI x_0) 0 _ _ _ _ rfl rfl rfl rfl rfl <| r_R [vB (decide (x_0 > 34)), vB (decide (x_0 > 34))] rfl <| lx_nil <| hK35 _ _ ?_; try clear hK35 K35
   refine A_cond (decide (x_0 > 34)) rfl (fun hc37 => ?_) (fun hc37 => ?_)
   ·replace hM := ifp (of_decide_eq_true hc37) hM
    refine A_sr <| r_V (Value.string (⟨#[]⟩)) rfl <| lx_nil ?_
    obtain rfl := Option.some.inj hM
    refine A_ret (fun hn => ends_eq (v0 := Value.string (⟨#[]⟩)) rfl (res1 rfl))
   replace hM := ifn (of_decide_eq_false hc37) hM
   refine A_skip <| fg _ (Sub.of (List.Sublist.cons_cons _ List.Sublist.slnil)) ?_
   exact ⟨hM, is_mk rfl rfl⟩
  replace hM := ifp (of_decide_eq_true hg36) hM
  refine r_R [none, none, none, vB true] rfl <| lx_nil <| hK35 _ _ ?_; try clear hK35 K35
  refine A_cond true rfl (fun _ => ?_) (fun h_ => nomatch h_)
  refine A_sr <| r_V (Value.string (⟨#[]⟩)) rfl <| lx_nil ?_
  obtain rfl := Option.some.inj hM
  refine A_ret (fun hn => ends_eq (v0 := Value.string (⟨#[]⟩)) rfl (res1 rfl))
 clear hM; rintro t l ⟨hM, ⟨T, rfl⟩, rfl⟩
 unfold shunterref09_Text_k1 at hM
 refine A_seq fun K3 hK3 => A_drawR [(some 13, false)] (conG Tryd.prog [(13, fun _ _ v_ L_ U_ => ∀ u0_, shunterref09_Table_m N  = some u0_ → (p1 (fun s_ => s_) 38 enc_38 u0_) v_ L_ U_)]) [] (by decide +kernel) (fun hn => sep_nil) ?_
 obtain ⟨r4, hr5, hM⟩ := bind_sm hM
 refine r_g1 (Ls := [(kBc27_0 b2 x_0 x_1 x_2 x_3 (hi x_4) (lo x_4))]) (fun s6 => s6) 38 enc_38 r4 13 _ rfl rfl rfl (ev_callF rfl call_13 rfl) (fun own_ nw_ hs_ => shunterref09_Table_g N  _ hr5 hs_.view ) (conE hr5) (fun s6 S7 H8 => ?_)
 refine r_V (vP b2 0) rfl <| r_l (vI x_0) 0 _ _ _ _ rfl rfl rfl rfl rfl ?_
 obtain ⟨ck9, hM⟩ := ck_some hM
 refine r_W (elA s6 ((x_0).toNat * 9)) rfl (ev_v (ev_idxSl rfl rfl rfl (Sl.shp H8) ck9)) <| r_le (vA #[vS (((r4)[(x_0).toNat]!).1), vI (((r4)[(x_0).toNat]!).2.1), vI (((r4)[(x_0).toNat]!).2.2.1), vI (((r4)[(x_0).toNat]!).2.2.2.1), vI (((r4)[(x_0).toNat]!).2.2.2.2.1), vI (((r4)[(x_0).toNat]!).2.2.2.2.2.1), vI (((r4)[(x_0).toNat]!).2.2.2.2.2.2.1), vI (((r4)[(x_0).toNat]!).2.2.2.2.2.2.2.1), vS (((r4)[(x_0).toNat]!).2.2.2.2.2.2.2.2)]) (En := enc_38) ((r4)[(x_0).toNat]!) ((x_0).toNat) 0 rfl rfl (rd_own H8 (mem_chunk (Ls := [(kBc27_0 b2 x_0 x_1 x_2 x_3 (hi x_4) (lo x_4)), S7]) (k := 1) rfl rfl)) (get_of ck9) rfl ?_
 refine r_a (38, #[Value.string (⟨#[]⟩), vI 0, vI 0, vI 0, vI 0, vI 0, vI 0, vI 0, Value.string (⟨#[]⟩)]) rfl rfl rfl (fun b10 => ?_) (.inl rfl)
 refine r_sn (List.flatten [(kBc38_3 b10 (((r4)[(x_0).toNat]!).1) (((r4)[(x_0).toNat]!).2.1) (((r4)[(x_0).toNat]!).2.2.1) (((r4)[(x_0).toNat]!).2.2.2.1) (((r4)[(x_0).toNat]!).2.2.2.2.1) (((r4)[(x_0).toNat]!).2.2.2.2.2.1) (((r4)[(x_0).toNat]!).2.2.2.2.2.2.1) (((r4)[(x_0).toNat]!).2.2.2.2.2.2.2.1) (((r4)[(x_0).toNat]!).2.2.2.2.2.2.2.2)), (kBc27_0 b2 x_0 x_1 x_2 x_3 (hi x_4) (lo x_4)), S7]) 0 _ _ _ (#[Value.string (⟨#[]⟩), vI 0, vI 0, vI 0, vI 0, vI 0, vI 0, vI 0, Value.string (⟨#[]⟩)]) (#[vS (((r4)[(x_0).toNat]!).1), vI (((r4)[(x_0).toNat]!).2.1), vI (((r4)[(x_0).toNat]!).2.2.1), vI (((r4)[(x_0).toNat]!).2.2.2.1), vI (((r4)[(x_0).toNat]!).2.2.2.2.1), vI (((r4)[(x_0).toNat]!).2.2.2.2.2.1), vI (((r4)[(x_0).toNat]!).2.2.2.2.2.2.1), vI (((r4)[(x_0).toNat]!).2.2.2.2.2.2.2.1), vS (((r4)[(x_0).toNat]!).2.2.2.2.2.2.2.2)]) (#[vS (((r4)[(x_0).toNat]!).1), vI (((r4)[(x_0).toNat]!).2.1), vI (((r4)[(x_0).toNat]!).2.2.1), vI (((r4)[(x_0).toNat]!).2.2.2.1), vI (((r4)[(x_0).toNat]!).2.2.2.2.1), vI (((r4)[(x_0).toNat]!).2.2.2.2.2.1), vI (((r4)[(x_0).toNat]!).2.2.2.2.2.2.1), vI (((r4)[(x_0).toNat]!).2.2.2.2.2.2.2.1), vS (((r4)[(x_0).toNat]!).2.2.2.2.2.2.2.2)]) rfl rfl rfl rfl rfl (.of rfl rfl) rfl rfl ?_
 refine lx_nil <| hK3 _ _ ?_; try clear hK3 K3
 refine A_sr <| r_V (vP b10 0) rfl <| r_l (vS (((r4)[(x_0).toNat]!).1)) 0 _ _ _ _ rfl rfl rfl rfl rfl <| r_V (vS (((r4)[(x_0).toNat]!).1)) rfl <| lx_nil <| A_seq fun K12 hK12 => A_sr <| r_V (vS (((r4)[(x_0).toNat]!).1)) rfl <| r_W (vB ((((r4)[(x_0).toNat]!).1) == ([112, 117, 115, 104] : List UInt8))) rfl (ev_eqS rfl rfl) <| lx_nil <| A_cond ((((r4)[(x_0).toNat]!).1) == ([112, 117, 115, 104] : List UInt8)) rfl (fun hc14 => ?_) (fun hc14 => ?_)
 ·replace hM := ifp (eq_of_beq hc14) hM
  refine A_sr <| r_V (vS (((r4)[(x_0).toNat]!).1)) rfl ?_
  obtain ⟨ck16, hM⟩ := ck_some hM
  refine r_W (vS ((((r4)[(x_0).toNat]!).1) ++ ([32] : List UInt8))) rfl (ev_addS ck16 rfl rfl) <| r_V (vP b2 3) rfl <| r_l (vA #[vI x_3, U (hi x_4), U (lo x_4)]) 1 _ _ _ _ rfl rfl rfl rfl rfl ?_
  obtain ⟨r17, hr18, hM⟩ := bind_sm hM
  refine r_c (vS r17) rfl _ _ (ev_callF rfl call_34 rfl) (shunterref02_Text_g N x_3 x_4 _ hr18) ?_
  obtain ⟨ck19, hM⟩ := ck_some hM
  refine r_W (vS (((((r4)[(x_0).toNat]!).1) ++ ([32] : List UInt8)) ++ r17)) rfl (ev_addS ck19 rfl rfl) <| r_V (vS (((((r4)[(x_0).toNat]!).1) ++ ([32] : List UInt8)) ++ r17)) rfl <| lx_nil ?_
  obtain rfl := Option.some.inj hM
  refine A_ret (fun hn => ends_eq (v0 := vS (((((r4)[(x_0).toNat]!).1) ++ ([32] : List UInt8)) ++ r17)) rfl (res1 rfl))
 replace hM := ifn (ne_of_beq_false hc14) hM
 refine A_skip <| hK12 _ _ ?_; try clear hK12 K12
 refine A_cut (fun tt ll => ∃ (s2_ : List UInt8), (shunterref09_Text_k3 N x_0 x_2 r4 s2_ = some r) ∧ Is [(1, vP b2 0), (3, vP b10 0), (4, vS s2_)] [(b10, 38, #[vS (((r4)[(x_0).toNat]!).1), vI (((r4)[(x_0).toNat]!).2.1), vI (((r4)[(x_0).toNat]!).2.2.1), vI (((r4)[(x_0).toNat]!).2.2.2.1), vI (((r4)[(x_0).toNat]!).2.2.2.2.1), vI (((r4)[(x_0).toNat]!).2.2.2.2.2.1), vI (((r4)[(x_0).toNat]!).2.2.2.2.2.2.1), vI (((r4)[(x_0).toNat]!).2.2.2.2.2.2.2.1), vS (((r4)[(x_0).toNat]!).2.2.2.2.2.2.2.2)]), (b2, 27, #[vI x_0, vI x_1, vI x_2, vI x_3, U (hi x_4), U (lo x_4)])] tt ll) ?_ ?_
 ·refine A_sr <| r_V (vP b10 3) rfl <| r_l (vI (((r4)[(x_0).toNat]!).2.2.2.1)) 0 _ _ _ _ rfl rfl rfl rfl rfl <| r_V (vB (decide ((((r4)[(x_0).toNat]!).2.2.2.1 : Int) ≥ 1))) rfl <| lx_nil <| A_cond (decide ((((r4)[(x_0).toNat]!).2.2.2.1 : Int) ≥ 1)) rfl (fun hc30 => ?_) (fun hc30 => ?_)
  ·replace hM := ifp (of_decide_eq_true hc30) hM
   refine A_reg <| r_V (vS (((r4)[(x_0).toNat]!).1)) rfl ?_
   obtain ⟨ck31, hM⟩ := ck_some hM
   refine r_W (vS ((((r4)[(x_0).toNat]!).1) ++ ([32] : List UInt8))) rfl (ev_addS ck31 rfl rfl) <| r_V (vP b2 1) rfl <| r_l (vI x_1) 1 _ _ _ _ rfl rfl rfl rfl rfl ?_
   obtain ⟨r32, hr33, hM⟩ := bind_sm hM
   refine r_c (vS r32) rfl _ _ (ev_callF rfl call_35 rfl) (shunterref09_Digits_g N x_1 _ hr33) ?_
   obtain ⟨ck34, hM⟩ := ck_some hM
   refine r_W (vS (((((r4)[(x_0).toNat]!).1) ++ ([32] : List UInt8)) ++ r32)) rfl (ev_addS ck34 rfl rfl) <| r_V (vS (((((r4)[(x_0).toNat]!).1) ++ ([32] : List UInt8)) ++ r32)) rfl <| lx_nil <| fg _ (Sub.pick [(kBc38_3 b10 (((r4)[(x_0).toNat]!).1) (((r4)[(x_0).toNat]!).2.1) (((r4)[(x_0).toNat]!).2.2.1) (((r4)[(x_0).toNat]!).2.2.2.1) (((r4)[(x_0).toNat]!).2.2.2.2.1) (((r4)[(x_0).toNat]!).2.2.2.2.2.1) (((r4)[(x_0).toNat]!).2.2.2.2.2.2.1) (((r4)[(x_0).toNat]!).2.2.2.2.2.2.2.1) (((r4)[(x_0).toNat]!).2.2.2.2.2.2.2.2)), (kBc27_0 b2 x_0 x_1 x_2 x_3 (hi x_4) (lo x_4)), S7] [0, 1] rfl) ?_
   exact ⟨((((r4)[(x_0).toNat]!).1) ++ ([32] : List UInt8)) ++ r32, hM, is_mk rfl rfl⟩
  replace hM := ifn (of_decide_eq_false hc30) hM
  refine A_skip <| fg _ (Sub.pick [(kBc38_3 b10 (((r4)[(x_0).toNat]!).1) (((r4)[(x_0).toNat]!).2.1) (((r4)[(x_0).toNat]!).2.2.1) (((r4)[(x_0).toNat]!).2.2.2.1) (((r4)[(x_0).toNat]!).2.2.2.2.1) (((r4)[(x_0).toNat]!).2.2.2.2.2.1) (((r4)[(x_0).toNat]!).2.2.2.2.2.2.1) (((r4)[(x_0).toNat]!).2.2.2.2.2.2.2.1) (((r4)[(x_0).toNat]!).2.2.2.2.2.2.2.2)), (kBc27_0 b2 x_0 x_1 x_2 x_3 (hi x_4) (lo x_4)), S7] [0, 1] rfl) ?_
  exact ⟨((r4)[(x_0).toNat]!).1, hM, is_mk rfl rfl⟩
 clear hM; rintro t l ⟨s2_, hM, ⟨T, rfl⟩, rfl⟩
 unfold shunterref09_Text_k3 at hM
 refine A_seq fun K20 hK20 => A_sr <| r_V (vP b10 3) rfl <| r_l (vI (((r4)[(x_0).toNat]!).2.2.2.1)) 0 _ _ _ _ rfl rfl rfl rfl rfl <| r_V (vB (((((r4)[(x_0).toNat]!).2.2.2.1 : Int) == 2))) rfl <| lx_nil <| A_cond (((((r4)[(x_0).toNat]!).2.2.2.1 : Int) == 2)) rfl (fun hc22 => ?_) (fun hc22 => ?_)
 ·replace hM := ifp (eq_of_beq hc22) hM
  refine A_reg <| r_V (vS s2_) rfl ?_
  obtain ⟨ck23, hM⟩ := ck_some hM
  refine r_W (vS (s2_ ++ ([32] : List UInt8))) rfl (ev_addS ck23 rfl rfl) <| r_V (vP b2 2) rfl <| r_l (vI x_2) 1 _ _ _ _ rfl rfl rfl rfl rfl ?_
  obtain ⟨r24, hr25, hM⟩ := bind_sm hM
  refine r_c (vS r24) rfl _ _ (ev_callF rfl call_35 rfl) (shunterref09_Digits_g N x_2 _ hr25) ?_
  obtain ⟨ck26, hM⟩ := ck_some hM
  refine r_W (vS ((s2_ ++ ([32] : List UInt8)) ++ r24)) rfl (ev_addS ck26 rfl rfl) <| r_V (vS ((s2_ ++ ([32] : List UInt8)) ++ r24)) rfl <| lx_nil <| hK20 _ _ ?_; try clear hK20 K20
  refine A_sr <| r_R [vS ((s2_ ++ ([32] : List UInt8)) ++ r24), vS ((s2_ ++ ([32] : List UInt8)) ++ r24)] rfl <| lx_nil ?_
  obtain rfl := Option.some.inj hM
  refine A_ret (fun hn => ends_eq (v0 := vS ((s2_ ++ ([32] : List UInt8)) ++ r24)) rfl (res1 rfl))
 replace hM := ifn (ne_of_beq_false hc22) hM
 refine A_skip <| hK20 _ _ ?_; try clear hK20 K20
 refine A_sr <| r_R [vS s2_, vS s2_] rfl <| lx_nil ?_
 obtain rfl := Option.some.inj hM
 refine A_ret (fun hn => ends_eq (v0 := vS s2_) rfl (res1 rfl))
end Go.Proofs.YtmfedgmmgehmgaaDoor
