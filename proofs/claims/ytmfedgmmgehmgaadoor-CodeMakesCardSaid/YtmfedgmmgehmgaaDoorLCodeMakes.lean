/- models of functions and their walks -/
import Derived.Test.YtmfedgmmgehmgaaDoorBc
namespace Go.Proofs.YtmfedgmmgehmgaaDoor
open Go Go.RowKit Go.Eng
abbrev kLCodeMakes27_0 (b : Nat) (x0 : Int) (x1 : Int) (x2 : Int) (x3 : Int) (x4 : BitVec 64) (x5 : BitVec 64) : List Bl := [(b, 27, #[vI x0, vI x1, vI x2, vI x3, U x4, U x5])]
def shunterlaw09_CodeMakes_k1 (N : Nat) (x_0 : Int) (r4 : Int) (r7 : Sum31 × Int) : Option Bool := if (r4 : Int) ≠ 0 then Sum31.on r7.1 ((shunterlaw09_lives_m N ).bind fun r35 => some r35) (fun _ _ => some false) (fun _ _ _ => some false) (fun _ _ => some false) (fun _ _ => some false) (fun _ _ => some false) (fun _ _ _ => some false) (fun _ _ => some false) (fun _ => some false) (fun _ _ => some false) (fun _ _ => some false) (some false) else Sum31.on r7.1 (some false) (fun x38_0 x39_1 => (shunterlaw09_typeOf_m N r7.1).bind fun r60 => (shunterref09_Table_m N ).bind fun r62 => ck (0 ≤ x_0 ∧ x_0 < ((r62).length : Int)) (if r60 = (((r62)[(x_0).toNat]!).2.2.2.2.2.2.2.2) then (code_Push_Op_m N x38_0 x39_1).bind fun r69 => if r69 = x_0 then (shunterlaw09_lives_m N ).bind fun r72 => some r72 else some false else some false)) (fun x40_0 x41_1 x42_2 => (shunterlaw09_typeOf_m N r7.1).bind fun r60 => (shunterref09_Table_m N ).bind fun r62 => ck (0 ≤ x_0 ∧ x_0 < ((r62).length : Int)) (if r60 = (((r62)[(x_0).toNat]!).2.2.2.2.2.2.2.2) then (code_Place_Op_m N x40_0 x41_1 x42_2).bind fun r69 => if r69 = x_0 then (shunterlaw09_lives_m N ).bind fun r72 => some r72 else some false else some false)) (fun x43_0 x44_1 => (shunterlaw09_typeOf_m N r7.1).bind fun r60 => (shunterref09_Table_m N ).bind fun r62 => ck (0 ≤ x_0 ∧ x_0 < ((r62).length : Int)) (if r60 = (((r62)[(x_0).toNat]!).2.2.2.2.2.2.2.2) then (code_Cell_Op_m N x43_0 x44_1).bind fun r69 => if r69 = x_0 then (shunterlaw09_lives_m N ).bind fun r72 => some r72 else some false else some false)) (fun x45_0 x46_1 => (shunterlaw09_typeOf_m N r7.1).bind fun r60 => (shunterref09_Table_m N ).bind fun r62 => ck (0 ≤ x_0 ∧ x_0 < ((r62).length : Int)) (if r60 = (((r62)[(x_0).toNat]!).2.2.2.2.2.2.2.2) then (code_One_Op_m N x45_0 x46_1).bind fun r69 => if r69 = x_0 then (shunterlaw09_lives_m N ).bind fun r72 => some r72 else some false else some false)) (fun x47_0 x48_1 => (shunterlaw09_typeOf_m N r7.1).bind fun r60 => (shunterref09_Table_m N ).bind fun r62 => ck (0 ≤ x_0 ∧ x_0 < ((r62).length : Int)) (if r60 = (((r62)[(x_0).toNat]!).2.2.2.2.2.2.2.2) then (code_Part_Op_m N x47_0 x48_1).bind fun r69 => if r69 = x_0 then (shunterlaw09_lives_m N ).bind fun r72 => some r72 else some false else some false)) (fun x49_0 x50_1 x51_2 => (shunterlaw09_typeOf_m N r7.1).bind fun r60 => (shunterref09_Table_m N ).bind fun r62 => ck (0 ≤ x_0 ∧ x_0 < ((r62).length : Int)) (if r60 = (((r62)[(x_0).toNat]!).2.2.2.2.2.2.2.2) then (code_Heads_Op_m N x49_0 x50_1 x51_2).bind fun r69 => if r69 = x_0 then (shunterlaw09_lives_m N ).bind fun r72 => some r72 else some false else some false)) (fun x52_0 x53_1 => (shunterlaw09_typeOf_m N r7.1).bind fun r60 => (shunterref09_Table_m N ).bind fun r62 => ck (0 ≤ x_0 ∧ x_0 < ((r62).length : Int)) (if r60 = (((r62)[(x_0).toNat]!).2.2.2.2.2.2.2.2) then (code_Gone_Op_m N x52_0 x53_1).bind fun r69 => if r69 = x_0 then (shunterlaw09_lives_m N ).bind fun r72 => some r72 else some false else some false)) (fun x54_0 => (shunterlaw09_typeOf_m N r7.1).bind fun r60 => (shunterref09_Table_m N ).bind fun r62 => ck (0 ≤ x_0 ∧ x_0 < ((r62).length : Int)) (if r60 = (((r62)[(x_0).toNat]!).2.2.2.2.2.2.2.2) then (code_Two_Op_m N x54_0).bind fun r69 => if r69 = x_0 then (shunterlaw09_lives_m N ).bind fun r72 => some r72 else some false else some false)) (fun x55_0 x56_1 => (shunterlaw09_typeOf_m N r7.1).bind fun r60 => (shunterref09_Table_m N ).bind fun r62 => ck (0 ≤ x_0 ∧ x_0 < ((r62).length : Int)) (if r60 = (((r62)[(x_0).toNat]!).2.2.2.2.2.2.2.2) then (code_Slot_Op_m N x55_0 x56_1).bind fun r69 => if r69 = x_0 then (shunterlaw09_lives_m N ).bind fun r72 => some r72 else some false else some false)) (fun x57_0 x58_1 => (shunterlaw09_typeOf_m N r7.1).bind fun r60 => (shunterref09_Table_m N ).bind fun r62 => ck (0 ≤ x_0 ∧ x_0 < ((r62).length : Int)) (if r60 = (((r62)[(x_0).toNat]!).2.2.2.2.2.2.2.2) then (code_Jump_Op_m N x57_0 x58_1).bind fun r69 => if r69 = x_0 then (shunterlaw09_lives_m N ).bind fun r72 => some r72 else some false else some false)) ((shunterlaw09_typeOf_m N r7.1).bind fun r60 => (shunterref09_Table_m N ).bind fun r62 => ck (0 ≤ x_0 ∧ x_0 < ((r62).length : Int)) (if r60 = (((r62)[(x_0).toNat]!).2.2.2.2.2.2.2.2) then (code_Stop_Op_m N ).bind fun r69 => if r69 = x_0 then (shunterlaw09_lives_m N ).bind fun r72 => some r72 else some false else some false))
def shunterlaw09_CodeMakes_m (N : Nat) (x_0 : Int) (x_1 : Int) (x_2 : Int) (x_3 : Int) (x_4 : BitVec 128) : Option Bool := (shunterref09_May_m N x_0 x_1 x_2 x_3 x_4).bind fun r4 => (code_Make_m N x_0 x_1 x_2 x_3 x_4).bind fun r7 => (code_May_m N x_0 x_1 x_2 x_3 x_4).bind fun r75 => if (r75 : Int) ≠ r4 then some false else if (r7.2 : Int) ≠ r4 then some false else shunterlaw09_CodeMakes_k1 N x_0 r4 r7 
set_option maxRecDepth 100000 in
set_option maxHeartbeats 8000000 in
theorem shunterlaw09_CodeMakes_g (N : Nat) (x_0 x_1 x_2 x_3 : Int) (x_4 : BitVec 128) (r) (hM : shunterlaw09_CodeMakes_m N x_0 x_1 x_2 x_3 x_4 = some r) (ro : Addr → Option Value) : DoesI Tryd.prog 3 #[vA #[vI x_0, vI x_1, vI x_2, vI x_3, U (hi x_4), U (lo x_4)]] MemI ro [] (pV (vB r)) := by
 unfold shunterlaw09_CodeMakes_m at hM
 refine doesI_of_A follows Tryd.func3 rfl 50 rfl (upd (fun _ => undef) 0 (vA #[vI x_0, vI x_1, vI x_2, vI x_3, U (hi x_4), U (lo x_4)])) (by funext k; match k with | 0 => rfl | k + 1 => rfl) memI_kept (fun base0_ => ?_)
 refine A_sr <| r_a (27, #[vI x_0, vI x_1, vI x_2, vI x_3, U (hi x_4), U (lo x_4)]) rfl rfl rfl (fun b2 => ?_) (.inr rfl)
 refine r_V (vB false) rfl <| lx_nil <| A_sr <| r_l (vA #[vI x_0, vI x_1, vI x_2, vI x_3, U (hi x_4), U (lo x_4)]) 0 _ _ _ _ rfl rfl rfl rfl rfl ?_
 obtain ⟨r4, hr5, hM⟩ := bind_sm hM
 refine r_c (vI r4) rfl _ _ (ev_callF rfl call_8 rfl) (shunterref09_May_g N x_0 x_1 x_2 x_3 x_4 _ hr5) <| r_V (vI r4) rfl <| lx_nil <| A_sr <| r_l (vA #[vI x_0, vI x_1, vI x_2, vI x_3, U (hi x_4), U (lo x_4)]) 0 _ _ _ _ rfl rfl rfl rfl rfl ?_
 obtain ⟨r7, hr8, hM⟩ := bind_sm hM
 refine r_c (vT #[Sum31.v r7.1, vI r7.2]) rfl _ _ (ev_callF rfl call_9 rfl) (code_Make_g N x_0 x_1 x_2 x_3 x_4 _ hr8) <| r_R [vT #[Sum31.v r7.1, vI r7.2], Sum31.v r7.1, vI r7.2, Sum31.v r7.1, vI r7.2] rfl <| lx_nil <| A_cut (fun tt ll => (shunterlaw09_CodeMakes_k1 N x_0 r4 r7  = some r) ∧ Is [(1, vP b2 0), (3, vI r4), (4, Sum31.v r7.1)] (kLCodeMakes27_0 b2 x_0 x_1 x_2 x_3 (hi x_4) (lo x_4)) tt ll) ?_ ?_
 ·refine A_seq fun K74 hK74 => A_reg <| r_l (vA #[vI x_0, vI x_1, vI x_2, vI x_3, U (hi x_4), U (lo x_4)]) 0 _ _ _ _ rfl rfl rfl rfl rfl ?_
  obtain ⟨r75, hr76, hM⟩ := bind_sm hM
  refine r_c (vI r75) rfl _ _ (ev_callF rfl call_10 rfl) (code_May_g N x_0 x_1 x_2 x_3 x_4 _ hr76) <| r_R [vI r4, vB (r75 != r4), vB (r75 != r4)] rfl ?_
  rcases hg77 : (r75 != r4) with _ | _
  ·replace hM := ifn (bne_f hg77) hM
   refine r_R [vI r7.2, vI r4, vB (r7.2 != r4), vB (r7.2 != r4)] rfl <| lx_nil <| hK74 _ _ ?_; try clear hK74 K74
   refine A_cond (r7.2 != r4) rfl (fun hc78 => ?_) (fun hc78 => ?_)
   ·replace hM := ifp (bne_iff_ne.1 hc78) hM
    refine A_sr <| r_V (vB false) rfl <| lx_nil ?_
    obtain rfl := Option.some.inj hM
    refine A_ret (fun hn => endsV (v0 := vB false) rfl (res1 rfl))
   replace hM := ifn (bne_f hc78) hM
   refine A_skip <| fg _ (Sub.of (List.Sublist.cons_cons _ List.Sublist.slnil)) ?_
   exact ⟨hM, is_mk rfl rfl⟩
  replace hM := ifp (bne_iff_ne.1 hg77) hM
  refine r_R [none, none, none, vB true] rfl <| lx_nil <| hK74 _ _ ?_; try clear hK74 K74
  refine A_cond true rfl (fun _ => ?_) (fun h_ => nomatch h_)
  refine A_sr <| r_V (vB false) rfl <| lx_nil ?_
  obtain rfl := Option.some.inj hM
  refine A_ret (fun hn => endsV (v0 := vB false) rfl (res1 rfl))
 clear hM; rintro t l ⟨hM, ⟨T, rfl⟩, rfl⟩
 unfold shunterlaw09_CodeMakes_k1 at hM
 refine A_seq fun K9 hK9 => A_sr <| r_R [vI r4, vB (r4 != 0)] rfl <| lx_nil <| A_cond (r4 != 0) rfl (fun hc11 => ?_) (fun hc11 => ?_)
 ·replace hM := ifp (bne_iff_ne.1 hc11) hM
  refine A_seq fun K12 hK12 => A_regC [(some 27, false)] (conG Tryd.prog [(27, fun _ _ v_ L_ U_ => ∀ u0_, shunterlaw09_lives_m N  = some u0_ → (pV (vB u0_)) v_ L_ U_)]) <| r_V (Sum31.v r7.1) rfl ?_
  rcases Sum31.cases r7.1 with hx13 | ⟨x14_0, x15_1, hx13⟩ | ⟨x16_0, x17_1, x18_2, hx13⟩ | ⟨x19_0, x20_1, hx13⟩ | ⟨x21_0, x22_1, hx13⟩ | ⟨x23_0, x24_1, hx13⟩ | ⟨x25_0, x26_1, x27_2, hx13⟩ | ⟨x28_0, x29_1, hx13⟩ | ⟨x30_0, hx13⟩ | ⟨x31_0, x32_1, hx13⟩ | ⟨x33_0, x34_1, hx13⟩ | hx13
  ·replace hM := Sum31.on_nil hx13 hM
   refine r_W (vB true) rfl (ev_binC ((rfl : _ = Sum31.v r7.1).trans (show Sum31.v r7.1 = Value.nilIface from by rw [hx13]; rfl)) rfl rfl) ?_
   refine r_V (vB true) rfl <| r_y rfl ?_
   obtain ⟨r35, hr36, hM⟩ := bind_sm hM
   refine r_gv (vB r35) 11 _ rfl rfl rfl (ev_callF rfl call_11 rfl) (fun own_ nw_ hs_ => shunterlaw09_lives_g N  _ hr36 hs_.view ) (conE hr36) <| r_R [vB r35, vB r35] rfl <| lx_nil <| hK12 _ _ ?_; try clear hK12 K12
   obtain rfl := Option.some.inj hM
   refine A_ret (fun hn => endsV (v0 := vB r35) rfl (res1 rfl))
  ·replace hM := Sum31.on_t47 hx13 hM
   refine r_W (vB false) rfl (ev_binC ((rfl : _ = Sum31.v r7.1).trans (show Sum31.v r7.1 = Value.iface 47 (vA #[vI x14_0, U (hi x15_1), U (lo x15_1)]) from by rw [hx13]; rfl)) rfl rfl) ?_
   refine r_R [vB false, none, vB false, vB false] rfl <| lx_nil <| hK12 _ _ ?_; try clear hK12 K12
   obtain rfl := Option.some.inj hM
   refine A_ret (fun hn => endsV (v0 := vB false) rfl (res1 rfl))
  ·replace hM := Sum31.on_t49 hx13 hM
   refine r_W (vB false) rfl (ev_binC ((rfl : _ = Sum31.v r7.1).trans (show Sum31.v r7.1 = Value.iface 49 (vA #[vI x16_0, vI x17_1, vI x18_2]) from by rw [hx13]; rfl)) rfl rfl) ?_
   refine r_R [vB false, none, vB false, vB false] rfl <| lx_nil <| hK12 _ _ ?_; try clear hK12 K12
   obtain rfl := Option.some.inj hM
   refine A_ret (fun hn => endsV (v0 := vB false) rfl (res1 rfl))
  ·replace hM := Sum31.on_t51 hx13 hM
   refine r_W (vB false) rfl (ev_binC ((rfl : _ = Sum31.v r7.1).trans (show Sum31.v r7.1 = Value.iface 51 (vA #[vI x19_0, vI x20_1]) from by rw [hx13]; rfl)) rfl rfl) ?_
   refine r_R [vB false, none, vB false, vB false] rfl <| lx_nil <| hK12 _ _ ?_; try clear hK12 K12
   obtain rfl := Option.some.inj hM
   refine A_ret (fun hn => endsV (v0 := vB false) rfl (res1 rfl))
  ·replace hM := Sum31.on_t52 hx13 hM
   refine r_W (vB false) rfl (ev_binC ((rfl : _ = Sum31.v r7.1).trans (show Sum31.v r7.1 = Value.iface 52 (vA #[vI x21_0, vI x22_1]) from by rw [hx13]; rfl)) rfl rfl) ?_
   refine r_R [vB false, none, vB false, vB false] rfl <| lx_nil <| hK12 _ _ ?_; try clear hK12 K12
   obtain rfl := Option.some.inj hM
   refine A_ret (fun hn => endsV (v0 := vB false) rfl (res1 rfl))
  ·replace hM := Sum31.on_t54 hx13 hM
   refine r_W (vB false) rfl (ev_binC ((rfl : _ = Sum31.v r7.1).trans (show Sum31.v r7.1 = Value.iface 54 (vA #[vI x23_0, vI x24_1]) from by rw [hx13]; rfl)) rfl rfl) ?_
   refine r_R [vB false, none, vB false, vB false] rfl <| lx_nil <| hK12 _ _ ?_; try clear hK12 K12
   obtain rfl := Option.some.inj hM
   refine A_ret (fun hn => endsV (v0 := vB false) rfl (res1 rfl))
  ·replace hM := Sum31.on_t56 hx13 hM
   refine r_W (vB false) rfl (ev_binC ((rfl : _ = Sum31.v r7.1).trans (show Sum31.v r7.1 = Value.iface 56 (vA #[vI x25_0, vI x26_1, vI x27_2]) from by rw [hx13]; rfl)) rfl rfl) ?_
   refine r_R [vB false, none, vB false, vB false] rfl <| lx_nil <| hK12 _ _ ?_; try clear hK12 K12
   obtain rfl := Option.some.inj hM
   refine A_ret (fun hn => endsV (v0 := vB false) rfl (res1 rfl))
  ·replace hM := Sum31.on_t58 hx13 hM
   refine r_W (vB false) rfl (ev_binC ((rfl : _ = Sum31.v r7.1).trans (show Sum31.v r7.1 = Value.iface 58 (vA #[vI x28_0, vI x29_1]) from by rw [hx13]; rfl)) rfl rfl) ?_
   refine r_R [vB false, none, vB false, vB false] rfl <| lx_nil <| hK12 _ _ ?_; try clear hK12 K12
   obtain rfl := Option.some.inj hM
   refine A_ret (fun hn => endsV (v0 := vB false) rfl (res1 rfl))
  ·replace hM := Sum31.on_t60 hx13 hM
   refine r_W (vB false) rfl (ev_binC ((rfl : _ = Sum31.v r7.1).trans (show Sum31.v r7.1 = Value.iface 60 (vA #[vI x30_0]) from by rw [hx13]; rfl)) rfl rfl) ?_
   refine r_R [vB false, none, vB false, vB false] rfl <| lx_nil <| hK12 _ _ ?_; try clear hK12 K12
   obtain rfl := Option.some.inj hM
   refine A_ret (fun hn => endsV (v0 := vB false) rfl (res1 rfl))
  ·replace hM := Sum31.on_t86 hx13 hM
   refine r_W (vB false) rfl (ev_binC ((rfl : _ = Sum31.v r7.1).trans (show Sum31.v r7.1 = Value.iface 86 (vA #[vI x31_0, vI x32_1]) from by rw [hx13]; rfl)) rfl rfl) ?_
   refine r_R [vB false, none, vB false, vB false] rfl <| lx_nil <| hK12 _ _ ?_; try clear hK12 K12
   obtain rfl := Option.some.inj hM
   refine A_ret (fun hn => endsV (v0 := vB false) rfl (res1 rfl))
  ·replace hM := Sum31.on_t88 hx13 hM
   refine r_W (vB false) rfl (ev_binC ((rfl : _ = Sum31.v r7.1).trans (show Sum31.v r7.1 = Value.iface 88 (vA #[vI x33_0, vI x34_1]) from by rw [hx13]; rfl)) rfl rfl) ?_
   refine r_R [vB false, none, vB false, vB false] rfl <| lx_nil <| hK12 _ _ ?_; try clear hK12 K12
   obtain rfl := Option.some.inj hM
   refine A_ret (fun hn => endsV (v0 := vB false) rfl (res1 rfl))
  replace hM := Sum31.on_t90 hx13 hM
  refine r_W (vB false) rfl (ev_binC ((rfl : _ = Sum31.v r7.1).trans (show Sum31.v r7.1 = Value.iface 90 (vA #[]) from by rw [hx13]; rfl)) rfl rfl) ?_
  refine r_R [vB false, none, vB false, vB false] rfl <| lx_nil <| hK12 _ _ ?_; try clear hK12 K12
  obtain rfl := Option.some.inj hM
  refine A_ret (fun hn => endsV (v0 := vB false) rfl (res1 rfl))
 replace hM := ifn (bne_f hc11) hM
 refine A_skip <| hK9 _ _ ?_; try clear hK9 K9
 refine A_seq fun K35 hK35 => A_seq fun K36 hK36 => A_reg <| r_V (Sum31.v r7.1) rfl ?_
 rcases Sum31.cases r7.1 with hx37 | ⟨x38_0, x39_1, hx37⟩ | ⟨x40_0, x41_1, x42_2, hx37⟩ | ⟨x43_0, x44_1, hx37⟩ | ⟨x45_0, x46_1, hx37⟩ | ⟨x47_0, x48_1, hx37⟩ | ⟨x49_0, x50_1, x51_2, hx37⟩ | ⟨x52_0, x53_1, hx37⟩ | ⟨x54_0, hx37⟩ | ⟨x55_0, x56_1, hx37⟩ | ⟨x57_0, x58_1, hx37⟩ | hx37
 ·replace hM := Sum31.on_nil hx37 hM
  refine r_W (vB true) rfl (ev_binC ((rfl : _ = Sum31.v r7.1).trans (show Sum31.v r7.1 = Value.nilIface from by rw [hx37]; rfl)) rfl rfl) ?_
  refine lx_nil <| hK36 _ _ ?_; try clear hK36 K36
  refine A_cond true rfl (fun _ => ?_) (fun h_ => nomatch h_)
  refine A_sr <| r_V (vB false) rfl <| lx_nil ?_
  obtain rfl := Option.some.inj hM
  refine A_ret (fun hn => endsV (v0 := vB false) rfl (res1 rfl))
 ·replace hM := Sum31.on_t47 hx37 hM
  refine r_W (vB false) rfl (ev_binC ((rfl : _ = Sum31.v r7.1).trans (show Sum31.v r7.1 = Value.iface 47 (vA #[vI x38_0, U (hi x39_1), U (lo x39_1)]) from by rw [hx37]; rfl)) rfl rfl) ?_
  refine lx_nil <| hK36 _ _ ?_; try clear hK36 K36
  refine A_cond false rfl (fun h_ => nomatch h_) (fun _ => ?_)
  refine A_skip <| hK35 _ _ ?_; try clear hK35 K35
  refine A_seq fun K59 hK59 => A_drawR [(some 33, false), (some 48, false)] (conG Tryd.prog [(33, fun _ _ v_ L_ U_ => ∀ u0_, shunterref09_Table_m N  = some u0_ → (p1 (fun s_ => s_) 38 enc_38 u0_) v_ L_ U_), (48, fun _ _ v_ L_ U_ => ∀ u0_, shunterlaw09_lives_m N  = some u0_ → (pV (vB u0_)) v_ L_ U_)]) [] (by decide +kernel) (fun hn => sep_nil) <| r_V (Sum31.v r7.1) rfl ?_
  obtain ⟨r60, hr61, hM⟩ := bind_sm hM
  refine r_c (vS r60) rfl _ _ (ev_callF rfl call_12 rfl) (shunterlaw09_typeOf_g N r7.1 _ hr61) ?_
  obtain ⟨r62, hr63, hM⟩ := bind_sm hM
  refine r_g1 (Ls := [(kLCodeMakes27_0 b2 x_0 x_1 x_2 x_3 (hi x_4) (lo x_4))]) (fun s64 => s64) 38 enc_38 r62 13 _ rfl rfl rfl (ev_callF rfl call_13 rfl) (fun own_ nw_ hs_ => (Does.inv (shunterref09_Table_g N  _ hr63 hs_.view ) _)) (conE hr63) (fun s64 S65 H66 => ?_)
  refine r_V (vP b2 0) rfl <| r_l (vI x_0) 0 _ _ _ _ rfl rfl rfl rfl rfl ?_
  obtain ⟨ck67, hM⟩ := ck_some hM
  refine r_W (elA s64 ((x_0).toNat * 9)) rfl (ev_v (ev_idxSl rfl rfl rfl (Sl.shp H66) ck67)) <| r_W (elA s64 ((x_0).toNat * 9 + 8)) rfl (ev_v (ev_fieldX rfl rfl rfl rfl rfl rfl (Sl.shp H66) (pos_of ck67))) <| r_le (vS (((r62)[(x_0).toNat]!).2.2.2.2.2.2.2.2)) (En := enc_38) ((r62)[(x_0).toNat]!) ((x_0).toNat) 8 rfl rfl (rd_own H66 (mem_chunk (Ls := [(kLCodeMakes27_0 b2 x_0 x_1 x_2 x_3 (hi x_4) (lo x_4)), S65]) (k := 1) rfl rfl)) (get_of ck67) rfl <| r_W (vB (r60 == (((r62)[(x_0).toNat]!).2.2.2.2.2.2.2.2))) rfl (ev_eqS rfl rfl) <| r_V (vB (r60 == (((r62)[(x_0).toNat]!).2.2.2.2.2.2.2.2))) rfl ?_
  rcases hg68 : (r60 == (((r62)[(x_0).toNat]!).2.2.2.2.2.2.2.2)) with _ | _
  ·replace hM := ifn (ne_of_beq_false hg68) hM
   refine r_R [none, none, none, none, none, vB false, vB false, none, vB false, vB false] rfl <| lx_nil <| hK59 _ _ ?_; try clear hK59 K59
   refine A_gen [(2, vB false)] rfl (fun T => ?_)
   obtain rfl := Option.some.inj hM
   refine A_ret (fun hn => endsV (v0 := vB false) rfl (res1 rfl))
  replace hM := ifp (eq_of_beq hg68) hM
  refine r_R [Sum31.v r7.1] rfl <| r_y rfl ?_
  obtain ⟨r69, hr70, hM⟩ := bind_sm hM
  refine r_c (vI r69) rfl _ _ (ev_callI ((rfl : _ = Sum31.v r7.1).trans (show Sum31.v r7.1 = Value.iface 47 (vA #[vI x38_0, U (hi x39_1), U (lo x39_1)]) from by rw [hx37]; rfl)) (by kernel_rfl) call_94 rfl) (code_Push_Op_g N x38_0 x39_1 _ hr70) ?_
  refine r_R [vP b2 0] rfl <| r_y rfl <| r_l (vI x_0) 0 _ _ _ _ rfl rfl rfl rfl rfl <| r_R [vB (r69 == x_0), vB (r69 == x_0), vB (r69 == x_0)] rfl ?_
  rcases hg71 : (r69 == x_0) with _ | _
  ·replace hM := ifn (ne_of_beq_false hg71) hM
   refine r_R [none, vB false, vB false] rfl <| lx_nil <| hK59 _ _ ?_; try clear hK59 K59
   refine A_gen [(2, vB false)] rfl (fun T => ?_)
   obtain rfl := Option.some.inj hM
   refine A_ret (fun hn => endsV (v0 := vB false) rfl (res1 rfl))
  replace hM := ifp (eq_of_beq hg71) hM
  refine r_y rfl ?_
  obtain ⟨r72, hr73, hM⟩ := bind_sm hM
  refine r_gv (vB r72) 11 _ rfl rfl rfl (ev_callF rfl call_11 rfl) (fun own_ nw_ hs_ => shunterlaw09_lives_g N  _ hr73 hs_.view ) (conE hr73) <| r_R [vB r72, vB r72] rfl <| lx_nil <| hK59 _ _ ?_; try clear hK59 K59
  refine A_gen [(2, vB r72)] rfl (fun T => ?_)
  obtain rfl := Option.some.inj hM
  refine A_ret (fun hn => endsV (v0 := vB r72) rfl (res1 rfl))
 ·replace hM := Sum31.on_t49 hx37 hM
  refine r_W (vB false) rfl (ev_binC ((rfl : _ = Sum31.v r7.1).trans (show Sum31.v r7.1 = Value.iface 49 (vA #[vI x40_0, vI x41_1, vI x42_2]) from by rw [hx37]; rfl)) rfl rfl) ?_
  refine lx_nil <| hK36 _ _ ?_; try clear hK36 K36
  refine A_cond false rfl (fun h_ => nomatch h_) (fun _ => ?_)
  refine A_skip <| hK35 _ _ ?_; try clear hK35 K35
  refine A_seq fun K59 hK59 => A_drawR [(some 33, false), (some 48, false)] (conG Tryd.prog [(33, fun _ _ v_ L_ U_ => ∀ u0_, shunterref09_Table_m N  = some u0_ → (p1 (fun s_ => s_) 38 enc_38 u0_) v_ L_ U_), (48, fun _ _ v_ L_ U_ => ∀ u0_, shunterlaw09_lives_m N  = some u0_ → (pV (vB u0_)) v_ L_ U_)]) [] (by decide +kernel) (fun hn => sep_nil) <| r_V (Sum31.v r7.1) rfl ?_
  obtain ⟨r60, hr61, hM⟩ := bind_sm hM
  refine r_c (vS r60) rfl _ _ (ev_callF rfl call_12 rfl) (shunterlaw09_typeOf_g N r7.1 _ hr61) ?_
  obtain ⟨r62, hr63, hM⟩ := bind_sm hM
  refine r_g1 (Ls := [(kLCodeMakes27_0 b2 x_0 x_1 x_2 x_3 (hi x_4) (lo x_4))]) (fun s64 => s64) 38 enc_38 r62 13 _ rfl rfl rfl (ev_callF rfl call_13 rfl) (fun own_ nw_ hs_ => (Does.inv (shunterref09_Table_g N  _ hr63 hs_.view ) _)) (conE hr63) (fun s64 S65 H66 => ?_)
  refine r_V (vP b2 0) rfl <| r_l (vI x_0) 0 _ _ _ _ rfl rfl rfl rfl rfl ?_
  obtain ⟨ck67, hM⟩ := ck_some hM
  refine r_W (elA s64 ((x_0).toNat * 9)) rfl (ev_v (ev_idxSl rfl rfl rfl (Sl.shp H66) ck67)) <| r_W (elA s64 ((x_0).toNat * 9 + 8)) rfl (ev_v (ev_fieldX rfl rfl rfl rfl rfl rfl (Sl.shp H66) (pos_of ck67))) <| r_le (vS (((r62)[(x_0).toNat]!).2.2.2.2.2.2.2.2)) (En := enc_38) ((r62)[(x_0).toNat]!) ((x_0).toNat) 8 rfl rfl (rd_own H66 (mem_chunk (Ls := [(kLCodeMakes27_0 b2 x_0 x_1 x_2 x_3 (hi x_4) (lo x_4)), S65]) (k := 1) rfl rfl)) (get_of ck67) rfl <| r_W (vB (r60 == (((r62)[(x_0).toNat]!).2.2.2.2.2.2.2.2))) rfl (ev_eqS rfl rfl) <| r_V (vB (r60 == (((r62)[(x_0).toNat]!).2.2.2.2.2.2.2.2))) rfl ?_
  rcases hg68 : (r60 == (((r62)[(x_0).toNat]!).2.2.2.2.2.2.2.2)) with _ | _
  ·replace hM := ifn (ne_of_beq_false hg68) hM
   refine r_R [none, none, none, none, none, vB false, vB false, none, vB false, vB false] rfl <| lx_nil <| hK59 _ _ ?_; try clear hK59 K59
   refine A_gen [(2, vB false)] rfl (fun T => ?_)
   obtain rfl := Option.some.inj hM
   refine A_ret (fun hn => endsV (v0 := vB false) rfl (res1 rfl))
  replace hM := ifp (eq_of_beq hg68) hM
  refine r_R [Sum31.v r7.1] rfl <| r_y rfl ?_
  obtain ⟨r69, hr70, hM⟩ := bind_sm hM
  refine r_c (vI r69) rfl _ _ (ev_callI ((rfl : _ = Sum31.v r7.1).trans (show Sum31.v r7.1 = Value.iface 49 (vA #[vI x40_0, vI x41_1, vI x42_2]) from by rw [hx37]; rfl)) (by kernel_rfl) call_95 rfl) (code_Place_Op_g N x40_0 x41_1 x42_2 _ hr70) ?_
  refine r_R [vP b2 0] rfl <| r_y rfl <| r_l (vI x_0) 0 _ _ _ _ rfl rfl rfl rfl rfl <| r_R [vB (r69 == x_0), vB (r69 == x_0), vB (r69 == x_0)] rfl ?_
  rcases hg71 : (r69 == x_0) with _ | _
  ·replace hM := ifn (ne_of_beq_false hg71) hM
   refine r_R [none, vB false, vB false] rfl <| lx_nil <| hK59 _ _ ?_; try clear hK59 K59
   refine A_gen [(2, vB false)] rfl (fun T => ?_)
   obtain rfl := Option.some.inj hM
   refine A_ret (fun hn => endsV (v0 := vB false) rfl (res1 rfl))
  replace hM := ifp (eq_of_beq hg71) hM
  refine r_y rfl ?_
  obtain ⟨r72, hr73, hM⟩ := bind_sm hM
  refine r_gv (vB r72) 11 _ rfl rfl rfl (ev_callF rfl call_11 rfl) (fun own_ nw_ hs_ => shunterlaw09_lives_g N  _ hr73 hs_.view ) (conE hr73) <| r_R [vB r72, vB r72] rfl <| lx_nil <| hK59 _ _ ?_; try clear hK59 K59
  refine A_gen [(2, vB r72)] rfl (fun T => ?_)
  obtain rfl := Option.some.inj hM
  refine A_ret (fun hn => endsV (v0 := vB r72) rfl (res1 rfl))
 ·replace hM := Sum31.on_t51 hx37 hM
  refine r_W (vB false) rfl (ev_binC ((rfl : _ = Sum31.v r7.1).trans (show Sum31.v r7.1 = Value.iface 51 (vA #[vI x43_0, vI x44_1]) from by rw [hx37]; rfl)) rfl rfl) ?_
  refine lx_nil <| hK36 _ _ ?_; try clear hK36 K36
  refine A_cond false rfl (fun h_ => nomatch h_) (fun _ => ?_)
  refine A_skip <| hK35 _ _ ?_; try clear hK35 K35
  refine A_seq fun K59 hK59 => A_drawR [(some 33, false), (some 48, false)] (conG Tryd.prog [(33, fun _ _ v_ L_ U_ => ∀ u0_, shunterref09_Table_m N  = some u0_ → (p1 (fun s_ => s_) 38 enc_38 u0_) v_ L_ U_), (48, fun _ _ v_ L_ U_ => ∀ u0_, shunterlaw09_lives_m N  = some u0_ → (pV (vB u0_)) v_ L_ U_)]) [] (by decide +kernel) (fun hn => sep_nil) <| r_V (Sum31.v r7.1) rfl ?_
  obtain ⟨r60, hr61, hM⟩ := bind_sm hM
  refine r_c (vS r60) rfl _ _ (ev_callF rfl call_12 rfl) (shunterlaw09_typeOf_g N r7.1 _ hr61) ?_
  obtain ⟨r62, hr63, hM⟩ := bind_sm hM
  refine r_g1 (Ls := [(kLCodeMakes27_0 b2 x_0 x_1 x_2 x_3 (hi x_4) (lo x_4))]) (fun s64 => s64) 38 enc_38 r62 13 _ rfl rfl rfl (ev_callF rfl call_13 rfl) (fun own_ nw_ hs_ => (Does.inv (shunterref09_Table_g N  _ hr63 hs_.view ) _)) (conE hr63) (fun s64 S65 H66 => ?_)
  refine r_V (vP b2 0) rfl <| r_l (vI x_0) 0 _ _ _ _ rfl rfl rfl rfl rfl ?_
  obtain ⟨ck67, hM⟩ := ck_some hM
  refine r_W (elA s64 ((x_0).toNat * 9)) rfl (ev_v (ev_idxSl rfl rfl rfl (Sl.shp H66) ck67)) <| r_W (elA s64 ((x_0).toNat * 9 + 8)) rfl (ev_v (ev_fieldX rfl rfl rfl rfl rfl rfl (Sl.shp H66) (pos_of ck67))) <| r_le (vS (((r62)[(x_0).toNat]!).2.2.2.2.2.2.2.2)) (En := enc_38) ((r62)[(x_0).toNat]!) ((x_0).toNat) 8 rfl rfl (rd_own H66 (mem_chunk (Ls := [(kLCodeMakes27_0 b2 x_0 x_1 x_2 x_3 (hi x_4) (lo x_4)), S65]) (k := 1) rfl rfl)) (get_of ck67) rfl <| r_W (vB (r60 == (((r62)[(x_0).toNat]!).2.2.2.2.2.2.2.2))) rfl (ev_eqS rfl rfl) <| r_V (vB (r60 == (((r62)[(x_0).toNat]!).2.2.2.2.2.2.2.2))) rfl ?_
  rcases hg68 : (r60 == (((r62)[(x_0).toNat]!).2.2.2.2.2.2.2.2)) with _ | _
  ·replace hM := ifn (ne_of_beq_false hg68) hM
   refine r_R [none, none, none, none, none, vB false, vB false, none, vB false, vB false] rfl <| lx_nil <| hK59 _ _ ?_; try clear hK59 K59
   refine A_gen [(2, vB false)] rfl (fun T => ?_)
   obtain rfl := Option.some.inj hM
   refine A_ret (fun hn => endsV (v0 := vB false) rfl (res1 rfl))
  replace hM := ifp (eq_of_beq hg68) hM
  refine r_R [Sum31.v r7.1] rfl <| r_y rfl ?_
  obtain ⟨r69, hr70, hM⟩ := bind_sm hM
  refine r_c (vI r69) rfl _ _ (ev_callI ((rfl : _ = Sum31.v r7.1).trans (show Sum31.v r7.1 = Value.iface 51 (vA #[vI x43_0, vI x44_1]) from by rw [hx37]; rfl)) (by kernel_rfl) call_96 rfl) (code_Cell_Op_g N x43_0 x44_1 _ hr70) ?_
  refine r_R [vP b2 0] rfl <| r_y rfl <| r_l (vI x_0) 0 _ _ _ _ rfl rfl rfl rfl rfl <| r_R [vB (r69 == x_0), vB (r69 == x_0), vB (r69 == x_0)] rfl ?_
  rcases hg71 : (r69 == x_0) with _ | _
  ·replace hM := ifn (ne_of_beq_false hg71) hM
   refine r_R [none, vB false, vB false] rfl <| lx_nil <| hK59 _ _ ?_; try clear hK59 K59
   refine A_gen [(2, vB false)] rfl (fun T => ?_)
   obtain rfl := Option.some.inj hM
   refine A_ret (fun hn => endsV (v0 := vB false) rfl (res1 rfl))
  replace hM := ifp (eq_of_beq hg71) hM
  refine r_y rfl ?_
  obtain ⟨r72, hr73, hM⟩ := bind_sm hM
  refine r_gv (vB r72) 11 _ rfl rfl rfl (ev_callF rfl call_11 rfl) (fun own_ nw_ hs_ => shunterlaw09_lives_g N  _ hr73 hs_.view ) (conE hr73) <| r_R [vB r72, vB r72] rfl <| lx_nil <| hK59 _ _ ?_; try clear hK59 K59
  refine A_gen [(2, vB r72)] rfl (fun T => ?_)
  obtain rfl := Option.some.inj hM
  refine A_ret (fun hn => endsV (v0 := vB r72) rfl (res1 rfl))
 ·replace hM := Sum31.on_t52 hx37 hM
  refine r_W (vB false) rfl (ev_binC ((rfl : _ = Sum31.v r7.1).trans (show Sum31.v r7.1 = Value.iface 52 (vA #[vI x45_0, vI x46_1]) from by rw [hx37]; rfl)) rfl rfl) ?_
  refine lx_nil <| hK36 _ _ ?_; try clear hK36 K36
  refine A_cond false rfl (fun h_ => nomatch h_) (fun _ => ?_)
  refine A_skip <| hK35 _ _ ?_; try clear hK35 K35
  refine A_seq fun K59 hK59 => A_drawR [(some 33, false), (some 48, false)] (conG Tryd.prog [(33, fun _ _ v_ L_ U_ => ∀ u0_, shunterref09_Table_m N  = some u0_ → (p1 (fun s_ => s_) 38 enc_38 u0_) v_ L_ U_), (48, fun _ _ v_ L_ U_ => ∀ u0_, shunterlaw09_lives_m N  = some u0_ → (pV (vB u0_)) v_ L_ U_)]) [] (by decide +kernel) (fun hn => sep_nil) <| r_V (Sum31.v r7.1) rfl ?_
  obtain ⟨r60, hr61, hM⟩ := bind_sm hM
  refine r_c (vS r60) rfl _ _ (ev_callF rfl call_12 rfl) (shunterlaw09_typeOf_g N r7.1 _ hr61) ?_
  obtain ⟨r62, hr63, hM⟩ := bind_sm hM
  refine r_g1 (Ls := [(kLCodeMakes27_0 b2 x_0 x_1 x_2 x_3 (hi x_4) (lo x_4))]) (fun s64 => s64) 38 enc_38 r62 13 _ rfl rfl rfl (ev_callF rfl call_13 rfl) (fun own_ nw_ hs_ => (Does.inv (shunterref09_Table_g N  _ hr63 hs_.view ) _)) (conE hr63) (fun s64 S65 H66 => ?_)
  refine r_V (vP b2 0) rfl <| r_l (vI x_0) 0 _ _ _ _ rfl rfl rfl rfl rfl ?_
  obtain ⟨ck67, hM⟩ := ck_some hM
  refine r_W (elA s64 ((x_0).toNat * 9)) rfl (ev_v (ev_idxSl rfl rfl rfl (Sl.shp H66) ck67)) <| r_W (elA s64 ((x_0).toNat * 9 + 8)) rfl (ev_v (ev_fieldX rfl rfl rfl rfl rfl rfl (Sl.shp H66) (pos_of ck67))) <| r_le (vS (((r62)[(x_0).toNat]!).2.2.2.2.2.2.2.2)) (En := enc_38) ((r62)[(x_0).toNat]!) ((x_0).toNat) 8 rfl rfl (rd_own H66 (mem_chunk (Ls := [(kLCodeMakes27_0 b2 x_0 x_1 x_2 x_3 (hi x_4) (lo x_4)), S65]) (k := 1) rfl rfl)) (get_of ck67) rfl <| r_W (vB (r60 == (((r62)[(x_0).toNat]!).2.2.2.2.2.2.2.2))) rfl (ev_eqS rfl rfl) <| r_V (vB (r60 == (((r62)[(x_0).toNat]!).2.2.2.2.2.2.2.2))) rfl ?_
  rcases hg68 : (r60 == (((r62)[(x_0).toNat]!).2.2.2.2.2.2.2.2)) with _ | _
  ·replace hM := ifn (ne_of_beq_false hg68) hM
   refine r_R [none, none, none, none, none, vB false, vB false, none, vB false, vB false] rfl <| lx_nil <| hK59 _ _ ?_; try clear hK59 K59
   refine A_gen [(2, vB false)] rfl (fun T => ?_)
   obtain rfl := Option.some.inj hM
   refine A_ret (fun hn => endsV (v0 := vB false) rfl (res1 rfl))
  replace hM := ifp (eq_of_beq hg68) hM
  refine r_R [Sum31.v r7.1] rfl <| r_y rfl ?_
  obtain ⟨r69, hr70, hM⟩ := bind_sm hM
  refine r_c (vI r69) rfl _ _ (ev_callI ((rfl : _ = Sum31.v r7.1).trans (show Sum31.v r7.1 = Value.iface 52 (vA #[vI x45_0, vI x46_1]) from by rw [hx37]; rfl)) (by kernel_rfl) call_97 rfl) (code_One_Op_g N x45_0 x46_1 _ hr70) ?_
  refine r_R [vP b2 0] rfl <| r_y rfl <| r_l (vI x_0) 0 _ _ _ _ rfl rfl rfl rfl rfl <| r_R [vB (r69 == x_0), vB (r69 == x_0), vB (r69 == x_0)] rfl ?_
  rcases hg71 : (r69 == x_0) with _ | _
  ·replace hM := ifn (ne_of_beq_false hg71) hM
   refine r_R [none, vB false, vB false] rfl <| lx_nil <| hK59 _ _ ?_; try clear hK59 K59
   refine A_gen [(2, vB false)] rfl (fun T => ?_)
   obtain rfl := Option.some.inj hM
   refine A_ret (fun hn => endsV (v0 := vB false) rfl (res1 rfl))
  replace hM := ifp (eq_of_beq hg71) hM
  refine r_y rfl ?_
  obtain ⟨r72, hr73, hM⟩ := bind_sm hM
  refine r_gv (vB r72) 11 _ rfl rfl rfl (ev_callF rfl call_11 rfl) (fun own_ nw_ hs_ => shunterlaw09_lives_g N  _ hr73 hs_.view ) (conE hr73) <| r_R [vB r72, vB r72] rfl <| lx_nil <| hK59 _ _ ?_; try clear hK59 K59
  refine A_gen [(2, vB r72)] rfl (fun T => ?_)
  obtain rfl := Option.some.inj hM
  refine A_ret (fun hn => endsV (v0 := vB r72) rfl (res1 rfl))
 ·replace hM := Sum31.on_t54 hx37 hM
  refine r_W (vB false) rfl (ev_binC ((rfl : _ = Sum31.v r7.1).trans (show Sum31.v r7.1 = Value.iface 54 (vA #[vI x47_0, vI x48_1]) from by rw [hx37]; rfl)) rfl rfl) ?_
  refine lx_nil <| hK36 _ _ ?_; try clear hK36 K36
  refine A_cond false rfl (fun h_ => nomatch h_) (fun _ => ?_)
  refine A_skip <| hK35 _ _ ?_; try clear hK35 K35
  refine A_seq fun K59 hK59 => A_drawR [(some 33, false), (some 48, false)] (conG Tryd.prog [(33, fun _ _ v_ L_ U_ => ∀ u0_, shunterref09_Table_m N  = some u0_ → (p1 (fun s_ => s_) 38 enc_38 u0_) v_ L_ U_), (48, fun _ _ v_ L_ U_ => ∀ u0_, shunterlaw09_lives_m N  = some u0_ → (pV (vB u0_)) v_ L_ U_)]) [] (by decide +kernel) (fun hn => sep_nil) <| r_V (Sum31.v r7.1) rfl ?_
  obtain ⟨r60, hr61, hM⟩ := bind_sm hM
  refine r_c (vS r60) rfl _ _ (ev_callF rfl call_12 rfl) (shunterlaw09_typeOf_g N r7.1 _ hr61) ?_
  obtain ⟨r62, hr63, hM⟩ := bind_sm hM
  refine r_g1 (Ls := [(kLCodeMakes27_0 b2 x_0 x_1 x_2 x_3 (hi x_4) (lo x_4))]) (fun s64 => s64) 38 enc_38 r62 13 _ rfl rfl rfl (ev_callF rfl call_13 rfl) (fun own_ nw_ hs_ => (Does.inv (shunterref09_Table_g N  _ hr63 hs_.view ) _)) (conE hr63) (fun s64 S65 H66 => ?_)
  refine r_V (vP b2 0) rfl <| r_l (vI x_0) 0 _ _ _ _ rfl rfl rfl rfl rfl ?_
  obtain ⟨ck67, hM⟩ := ck_some hM
  refine r_W (elA s64 ((x_0).toNat * 9)) rfl (ev_v (ev_idxSl rfl rfl rfl (Sl.shp H66) ck67)) <| r_W (elA s64 ((x_0).toNat * 9 + 8)) rfl (ev_v (ev_fieldX rfl rfl rfl rfl rfl rfl (Sl.shp H66) (pos_of ck67))) <| r_le (vS (((r62)[(x_0).toNat]!).2.2.2.2.2.2.2.2)) (En := enc_38) ((r62)[(x_0).toNat]!) ((x_0).toNat) 8 rfl rfl (rd_own H66 (mem_chunk (Ls := [(kLCodeMakes27_0 b2 x_0 x_1 x_2 x_3 (hi x_4) (lo x_4)), S65]) (k := 1) rfl rfl)) (get_of ck67) rfl <| r_W (vB (r60 == (((r62)[(x_0).toNat]!).2.2.2.2.2.2.2.2))) rfl (ev_eqS rfl rfl) <| r_V (vB (r60 == (((r62)[(x_0).toNat]!).2.2.2.2.2.2.2.2))) rfl ?_
  rcases hg68 : (r60 == (((r62)[(x_0).toNat]!).2.2.2.2.2.2.2.2)) with _ | _
  ·replace hM := ifn (ne_of_beq_false hg68) hM
   refine r_R [none, none, none, none, none, vB false, vB false, none, vB false, vB false] rfl <| lx_nil <| hK59 _ _ ?_; try clear hK59 K59
   refine A_gen [(2, vB false)] rfl (fun T => ?_)
   obtain rfl := Option.some.inj hM
   refine A_ret (fun hn => endsV (v0 := vB false) rfl (res1 rfl))
  replace hM := ifp (eq_of_beq hg68) hM
  refine r_R [Sum31.v r7.1] rfl <| r_y rfl ?_
  obtain ⟨r69, hr70, hM⟩ := bind_sm hM
  refine r_c (vI r69) rfl _ _ (ev_callI ((rfl : _ = Sum31.v r7.1).trans (show Sum31.v r7.1 = Value.iface 54 (vA #[vI x47_0, vI x48_1]) from by rw [hx37]; rfl)) (by kernel_rfl) call_98 rfl) (code_Part_Op_g N x47_0 x48_1 _ hr70) ?_
  refine r_R [vP b2 0] rfl <| r_y rfl <| r_l (vI x_0) 0 _ _ _ _ rfl rfl rfl rfl rfl <| r_R [vB (r69 == x_0), vB (r69 == x_0), vB (r69 == x_0)] rfl ?_
  rcases hg71 : (r69 == x_0) with _ | _
  ·replace hM := ifn (ne_of_beq_false hg71) hM
   refine r_R [none, vB false, vB false] rfl <| lx_nil <| hK59 _ _ ?_; try clear hK59 K59
   refine A_gen [(2, vB false)] rfl (fun T => ?_)
   obtain rfl := Option.some.inj hM
   refine A_ret (fun hn => endsV (v0 := vB false) rfl (res1 rfl))
  replace hM := ifp (eq_of_beq hg71) hM
  refine r_y rfl ?_
  obtain ⟨r72, hr73, hM⟩ := bind_sm hM
  refine r_gv (vB r72) 11 _ rfl rfl rfl (ev_callF rfl call_11 rfl) (fun own_ nw_ hs_ => shunterlaw09_lives_g N  _ hr73 hs_.view ) (conE hr73) <| r_R [vB r72, vB r72] rfl <| lx_nil <| hK59 _ _ ?_; try clear hK59 K59
  refine A_gen [(2, vB r72)] rfl (fun T => ?_)
  obtain rfl := Option.some.inj hM
  refine A_ret (fun hn => endsV (v0 := vB r72) rfl (res1 rfl))
 ·replace hM := Sum31.on_t56 hx37 hM
  refine r_W (vB false) rfl (ev_binC ((rfl : _ = Sum31.v r7.1).trans (show Sum31.v r7.1 = Value.iface 56 (vA #[vI x49_0, vI x50_1, vI x51_2]) from by rw [hx37]; rfl)) rfl rfl) ?_
  refine lx_nil <| hK36 _ _ ?_; try clear hK36 K36
  refine A_cond false rfl (fun h_ => nomatch h_) (fun _ => ?_)
  refine A_skip <| hK35 _ _ ?_; try clear hK35 K35
  refine A_seq fun K59 hK59 => A_drawR [(some 33, false), (some 48, false)] (conG Tryd.prog [(33, fun _ _ v_ L_ U_ => ∀ u0_, shunterref09_Table_m N  = some u0_ → (p1 (fun s_ => s_) 38 enc_38 u0_) v_ L_ U_), (48, fun _ _ v_ L_ U_ => ∀ u0_, shunterlaw09_lives_m N  = some u0_ → (pV (vB u0_)) v_ L_ U_)]) [] (by decide +kernel) (fun hn => sep_nil) <| r_V (Sum31.v r7.1) rfl ?_
  obtain ⟨r60, hr61, hM⟩ := bind_sm hM
  refine r_c (vS r60) rfl _ _ (ev_callF rfl call_12 rfl) (shunterlaw09_typeOf_g N r7.1 _ hr61) ?_
  obtain ⟨r62, hr63, hM⟩ := bind_sm hM
  refine r_g1 (Ls := [(kLCodeMakes27_0 b2 x_0 x_1 x_2 x_3 (hi x_4) (lo x_4))]) (fun s64 => s64) 38 enc_38 r62 13 _ rfl rfl rfl (ev_callF rfl call_13 rfl) (fun own_ nw_ hs_ => (Does.inv (shunterref09_Table_g N  _ hr63 hs_.view ) _)) (conE hr63) (fun s64 S65 H66 => ?_)
  refine r_V (vP b2 0) rfl <| r_l (vI x_0) 0 _ _ _ _ rfl rfl rfl rfl rfl ?_
  obtain ⟨ck67, hM⟩ := ck_some hM
  refine r_W (elA s64 ((x_0).toNat * 9)) rfl (ev_v (ev_idxSl rfl rfl rfl (Sl.shp H66) ck67)) <| r_W (elA s64 ((x_0).toNat * 9 + 8)) rfl (ev_v (ev_fieldX rfl rfl rfl rfl rfl rfl (Sl.shp H66) (pos_of ck67))) <| r_le (vS (((r62)[(x_0).toNat]!).2.2.2.2.2.2.2.2)) (En := enc_38) ((r62)[(x_0).toNat]!) ((x_0).toNat) 8 rfl rfl (rd_own H66 (mem_chunk (Ls := [(kLCodeMakes27_0 b2 x_0 x_1 x_2 x_3 (hi x_4) (lo x_4)), S65]) (k := 1) rfl rfl)) (get_of ck67) rfl <| r_W (vB (r60 == (((r62)[(x_0).toNat]!).2.2.2.2.2.2.2.2))) rfl (ev_eqS rfl rfl) <| r_V (vB (r60 == (((r62)[(x_0).toNat]!).2.2.2.2.2.2.2.2))) rfl ?_
  rcases hg68 : (r60 == (((r62)[(x_0).toNat]!).2.2.2.2.2.2.2.2)) with _ | _
  ·replace hM := ifn (ne_of_beq_false hg68) hM
   refine r_R [none, none, none, none, none, vB false, vB false, none, vB false, vB false] rfl <| lx_nil <| hK59 _ _ ?_; try clear hK59 K59
   refine A_gen [(2, vB false)] rfl (fun T => ?_)
   obtain rfl := Option.some.inj hM
   refine A_ret (fun hn => endsV (v0 := vB false) rfl (res1 rfl))
  replace hM := ifp (eq_of_beq hg68) hM
  refine r_R [Sum31.v r7.1] rfl <| r_y rfl ?_
  obtain ⟨r69, hr70, hM⟩ := bind_sm hM
  refine r_c (vI r69) rfl _ _ (ev_callI ((rfl : _ = Sum31.v r7.1).trans (show Sum31.v r7.1 = Value.iface 56 (vA #[vI x49_0, vI x50_1, vI x51_2]) from by rw [hx37]; rfl)) (by kernel_rfl) call_99 rfl) (code_Heads_Op_g N x49_0 x50_1 x51_2 _ hr70) ?_
  refine r_R [vP b2 0] rfl <| r_y rfl <| r_l (vI x_0) 0 _ _ _ _ rfl rfl rfl rfl rfl <| r_R [vB (r69 == x_0), vB (r69 == x_0), vB (r69 == x_0)] rfl ?_
  rcases hg71 : (r69 == x_0) with _ | _
  ·replace hM := ifn (ne_of_beq_false hg71) hM
   refine r_R [none, vB false, vB false] rfl <| lx_nil <| hK59 _ _ ?_; try clear hK59 K59
   refine A_gen [(2, vB false)] rfl (fun T => ?_)
   obtain rfl := Option.some.inj hM
   refine A_ret (fun hn => endsV (v0 := vB false) rfl (res1 rfl))
  replace hM := ifp (eq_of_beq hg71) hM
  refine r_y rfl ?_
  obtain ⟨r72, hr73, hM⟩ := bind_sm hM
  refine r_gv (vB r72) 11 _ rfl rfl rfl (ev_callF rfl call_11 rfl) (fun own_ nw_ hs_ => shunterlaw09_lives_g N  _ hr73 hs_.view ) (conE hr73) <| r_R [vB r72, vB r72] rfl <| lx_nil <| hK59 _ _ ?_; try clear hK59 K59
  refine A_gen [(2, vB r72)] rfl (fun T => ?_)
  obtain rfl := Option.some.inj hM
  refine A_ret (fun hn => endsV (v0 := vB r72) rfl (res1 rfl))
 ·replace hM := Sum31.on_t58 hx37 hM
  refine r_W (vB false) rfl (ev_binC ((rfl : _ = Sum31.v r7.1).trans (show Sum31.v r7.1 = Value.iface 58 (vA #[vI x52_0, vI x53_1]) from by rw [hx37]; rfl)) rfl rfl) ?_
  refine lx_nil <| hK36 _ _ ?_; try clear hK36 K36
  refine A_cond false rfl (fun h_ => nomatch h_) (fun _ => ?_)
  refine A_skip <| hK35 _ _ ?_; try clear hK35 K35
  refine A_seq fun K59 hK59 => A_drawR [(some 33, false), (some 48, false)] (conG Tryd.prog [(33, fun _ _ v_ L_ U_ => ∀ u0_, shunterref09_Table_m N  = some u0_ → (p1 (fun s_ => s_) 38 enc_38 u0_) v_ L_ U_), (48, fun _ _ v_ L_ U_ => ∀ u0_, shunterlaw09_lives_m N  = some u0_ → (pV (vB u0_)) v_ L_ U_)]) [] (by decide +kernel) (fun hn => sep_nil) <| r_V (Sum31.v r7.1) rfl ?_
  obtain ⟨r60, hr61, hM⟩ := bind_sm hM
  refine r_c (vS r60) rfl _ _ (ev_callF rfl call_12 rfl) (shunterlaw09_typeOf_g N r7.1 _ hr61) ?_
  obtain ⟨r62, hr63, hM⟩ := bind_sm hM
  refine r_g1 (Ls := [(kLCodeMakes27_0 b2 x_0 x_1 x_2 x_3 (hi x_4) (lo x_4))]) (fun s64 => s64) 38 enc_38 r62 13 _ rfl rfl rfl (ev_callF rfl call_13 rfl) (fun own_ nw_ hs_ => (Does.inv (shunterref09_Table_g N  _ hr63 hs_.view ) _)) (conE hr63) (fun s64 S65 H66 => ?_)
  refine r_V (vP b2 0) rfl <| r_l (vI x_0) 0 _ _ _ _ rfl rfl rfl rfl rfl ?_
  obtain ⟨ck67, hM⟩ := ck_some hM
  refine r_W (elA s64 ((x_0).toNat * 9)) rfl (ev_v (ev_idxSl rfl rfl rfl (Sl.shp H66) ck67)) <| r_W (elA s64 ((x_0).toNat * 9 + 8)) rfl (ev_v (ev_fieldX rfl rfl rfl rfl rfl rfl (Sl.shp H66) (pos_of ck67))) <| r_le (vS (((r62)[(x_0).toNat]!).2.2.2.2.2.2.2.2)) (En := enc_38) ((r62)[(x_0).toNat]!) ((x_0).toNat) 8 rfl rfl (rd_own H66 (mem_chunk (Ls := [(kLCodeMakes27_0 b2 x_0 x_1 x_2 x_3 (hi x_4) (lo x_4)), S65]) (k := 1) rfl rfl)) (get_of ck67) rfl <| r_W (vB (r60 == (((r62)[(x_0).toNat]!).2.2.2.2.2.2.2.2))) rfl (ev_eqS rfl rfl) <| r_V (vB (r60 == (((r62)[(x_0).toNat]!).2.2.2.2.2.2.2.2))) rfl ?_
  rcases hg68 : (r60 == (((r62)[(x_0).toNat]!).2.2.2.2.2.2.2.2)) with _ | _
  ·replace hM := ifn (ne_of_beq_false hg68) hM
   refine r_R [none, none, none, none, none, vB false, vB false, none, vB false, vB false] rfl <| lx_nil <| hK59 _ _ ?_; try clear hK59 K59
   refine A_gen [(2, vB false)] rfl (fun T => ?_)
   obtain rfl := Option.some.inj hM
   refine A_ret (fun hn => endsV (v0 := vB false) rfl (res1 rfl))
  replace hM := ifp (eq_of_beq hg68) hM
  refine r_R [Sum31.v r7.1] rfl <| r_y rfl ?_
  obtain ⟨r69, hr70, hM⟩ := bind_sm hM
  refine r_c (vI r69) rfl _ _ (ev_callI ((rfl : _ = Sum31.v r7.1).trans (show Sum31.v r7.1 = Value.iface 58 (vA #[vI x52_0, vI x53_1]) from by rw [hx37]; rfl)) (by kernel_rfl) call_100 rfl) (code_Gone_Op_g N x52_0 x53_1 _ hr70) ?_
  refine r_R [vP b2 0] rfl <| r_y rfl <| r_l (vI x_0) 0 _ _ _ _ rfl rfl rfl rfl rfl <| r_R [vB (r69 == x_0), vB (r69 == x_0), vB (r69 == x_0)] rfl ?_
  rcases hg71 : (r69 == x_0) with _ | _
  ·replace hM := ifn (ne_of_beq_false hg71) hM
   refine r_R [none, vB false, vB false] rfl <| lx_nil <| hK59 _ _ ?_; try clear hK59 K59
   refine A_gen [(2, vB false)] rfl (fun T => ?_)
   obtain rfl := Option.some.inj hM
   refine A_ret (fun hn => endsV (v0 := vB false) rfl (res1 rfl))
  replace hM := ifp (eq_of_beq hg71) hM
  refine r_y rfl ?_
  obtain ⟨r72, hr73, hM⟩ := bind_sm hM
  refine r_gv (vB r72) 11 _ rfl rfl rfl (ev_callF rfl call_11 rfl) (fun own_ nw_ hs_ => shunterlaw09_lives_g N  _ hr73 hs_.view ) (conE hr73) <| r_R [vB r72, vB r72] rfl <| lx_nil <| hK59 _ _ ?_; try clear hK59 K59
  refine A_gen [(2, vB r72)] rfl (fun T => ?_)
  obtain rfl := Option.some.inj hM
  refine A_ret (fun hn => endsV (v0 := vB r72) rfl (res1 rfl))
 ·replace hM := Sum31.on_t60 hx37 hM
  refine r_W (vB false) rfl (ev_binC ((rfl : _ = Sum31.v r7.1).trans (show Sum31.v r7.1 = Value.iface 60 (vA #[vI x54_0]) from by rw [hx37]; rfl)) rfl rfl) ?_
  refine lx_nil <| hK36 _ _ ?_; try clear hK36 K36
  refine A_cond false rfl (fun h_ => nomatch h_) (fun _ => ?_)
  refine A_skip <| hK35 _ _ ?_; try clear hK35 K35
  refine A_seq fun K59 hK59 => A_drawR [(some 33, false), (some 48, false)] (conG Tryd.prog [(33, fun _ _ v_ L_ U_ => ∀ u0_, shunterref09_Table_m N  = some u0_ → (p1 (fun s_ => s_) 38 enc_38 u0_) v_ L_ U_), (48, fun _ _ v_ L_ U_ => ∀ u0_, shunterlaw09_lives_m N  = some u0_ → (pV (vB u0_)) v_ L_ U_)]) [] (by decide +kernel) (fun hn => sep_nil) <| r_V (Sum31.v r7.1) rfl ?_
  obtain ⟨r60, hr61, hM⟩ := bind_sm hM
  refine r_c (vS r60) rfl _ _ (ev_callF rfl call_12 rfl) (shunterlaw09_typeOf_g N r7.1 _ hr61) ?_
  obtain ⟨r62, hr63, hM⟩ := bind_sm hM
  refine r_g1 (Ls := [(kLCodeMakes27_0 b2 x_0 x_1 x_2 x_3 (hi x_4) (lo x_4))]) (fun s64 => s64) 38 enc_38 r62 13 _ rfl rfl rfl (ev_callF rfl call_13 rfl) (fun own_ nw_ hs_ => (Does.inv (shunterref09_Table_g N  _ hr63 hs_.view ) _)) (conE hr63) (fun s64 S65 H66 => ?_)
  refine r_V (vP b2 0) rfl <| r_l (vI x_0) 0 _ _ _ _ rfl rfl rfl rfl rfl ?_
  obtain ⟨ck67, hM⟩ := ck_some hM
  refine r_W (elA s64 ((x_0).toNat * 9)) rfl (ev_v (ev_idxSl rfl rfl rfl (Sl.shp H66) ck67)) <| r_W (elA s64 ((x_0).toNat * 9 + 8)) rfl (ev_v (ev_fieldX rfl rfl rfl rfl rfl rfl (Sl.shp H66) (pos_of ck67))) <| r_le (vS (((r62)[(x_0).toNat]!).2.2.2.2.2.2.2.2)) (En := enc_38) ((r62)[(x_0).toNat]!) ((x_0).toNat) 8 rfl rfl (rd_own H66 (mem_chunk (Ls := [(kLCodeMakes27_0 b2 x_0 x_1 x_2 x_3 (hi x_4) (lo x_4)), S65]) (k := 1) rfl rfl)) (get_of ck67) rfl <| r_W (vB (r60 == (((r62)[(x_0).toNat]!).2.2.2.2.2.2.2.2))) rfl (ev_eqS rfl rfl) <| r_V (vB (r60 == (((r62)[(x_0).toNat]!).2.2.2.2.2.2.2.2))) rfl ?_
  rcases hg68 : (r60 == (((r62)[(x_0).toNat]!).2.2.2.2.2.2.2.2)) with _ | _
  ·replace hM := ifn (ne_of_beq_false hg68) hM
   refine r_R [none, none, none, none, none, vB false, vB false, none, vB false, vB false] rfl <| lx_nil <| hK59 _ _ ?_; try clear hK59 K59
   refine A_gen [(2, vB false)] rfl (fun T => ?_)
   obtain rfl := Option.some.inj hM
   refine A_ret (fun hn => endsV (v0 := vB false) rfl (res1 rfl))
  replace hM := ifp (eq_of_beq hg68) hM
  refine r_R [Sum31.v r7.1] rfl <| r_y rfl ?_
  obtain ⟨r69, hr70, hM⟩ := bind_sm hM
  refine r_c (vI r69) rfl _ _ (ev_callI ((rfl : _ = Sum31.v r7.1).trans (show Sum31.v r7.1 = Value.iface 60 (vA #[vI x54_0]) from by rw [hx37]; rfl)) (by kernel_rfl) call_101 rfl) (code_Two_Op_g N x54_0 _ hr70) ?_
  refine r_R [vP b2 0] rfl <| r_y rfl <| r_l (vI x_0) 0 _ _ _ _ rfl rfl rfl rfl rfl <| r_R [vB (r69 == x_0), vB (r69 == x_0), vB (r69 == x_0)] rfl ?_
  rcases hg71 : (r69 == x_0) with _ | _
  ·replace hM := ifn (ne_of_beq_false hg71) hM
   refine r_R [none, vB false, vB false] rfl <| lx_nil <| hK59 _ _ ?_; try clear hK59 K59
   refine A_gen [(2, vB false)] rfl (fun T => ?_)
   obtain rfl := Option.some.inj hM
   refine A_ret (fun hn => endsV (v0 := vB false) rfl (res1 rfl))
  replace hM := ifp (eq_of_beq hg71) hM
  refine r_y rfl ?_
  obtain ⟨r72, hr73, hM⟩ := bind_sm hM
  refine r_gv (vB r72) 11 _ rfl rfl rfl (ev_callF rfl call_11 rfl) (fun own_ nw_ hs_ => shunterlaw09_lives_g N  _ hr73 hs_.view ) (conE hr73) <| r_R [vB r72, vB r72] rfl <| lx_nil <| hK59 _ _ ?_; try clear hK59 K59
  refine A_gen [(2, vB r72)] rfl (fun T => ?_)
  obtain rfl := Option.some.inj hM
  refine A_ret (fun hn => endsV (v0 := vB r72) rfl (res1 rfl))
 ·replace hM := Sum31.on_t86 hx37 hM
  refine r_W (vB false) rfl (ev_binC ((rfl : _ = Sum31.v r7.1).trans (show Sum31.v r7.1 = Value.iface 86 (vA #[vI x55_0, vI x56_1]) from by rw [hx37]; rfl)) rfl rfl) ?_
  refine lx_nil <| hK36 _ _ ?_; try clear hK36 K36
  refine A_cond false rfl (fun h_ => nomatch h_) (fun _ => ?_)
  refine A_skip <| hK35 _ _ ?_; try clear hK35 K35
  refine A_seq fun K59 hK59 => A_drawR [(some 33, false), (some 48, false)] (conG Tryd.prog [(33, fun _ _ v_ L_ U_ => ∀ u0_, shunterref09_Table_m N  = some u0_ → (p1 (fun s_ => s_) 38 enc_38 u0_) v_ L_ U_), (48, fun _ _ v_ L_ U_ => ∀ u0_, shunterlaw09_lives_m N  = some u0_ → (pV (vB u0_)) v_ L_ U_)]) [] (by decide +kernel) (fun hn => sep_nil) <| r_V (Sum31.v r7.1) rfl ?_
  obtain ⟨r60, hr61, hM⟩ := bind_sm hM
  refine r_c (vS r60) rfl _ _ (ev_callF rfl call_12 rfl) (shunterlaw09_typeOf_g N r7.1 _ hr61) ?_
  obtain ⟨r62, hr63, hM⟩ := bind_sm hM
  refine r_g1 (Ls := [(kLCodeMakes27_0 b2 x_0 x_1 x_2 x_3 (hi x_4) (lo x_4))]) (fun s64 => s64) 38 enc_38 r62 13 _ rfl rfl rfl (ev_callF rfl call_13 rfl) (fun own_ nw_ hs_ => (Does.inv (shunterref09_Table_g N  _ hr63 hs_.view ) _)) (conE hr63) (fun s64 S65 H66 => ?_)
  refine r_V (vP b2 0) rfl <| r_l (vI x_0) 0 _ _ _ _ rfl rfl rfl rfl rfl ?_
  obtain ⟨ck67, hM⟩ := ck_some hM
  refine r_W (elA s64 ((x_0).toNat * 9)) rfl (ev_v (ev_idxSl rfl rfl rfl (Sl.shp H66) ck67)) <| r_W (elA s64 ((x_0).toNat * 9 + 8)) rfl (ev_v (ev_fieldX rfl rfl rfl rfl rfl rfl (Sl.shp H66) (pos_of ck67))) <| r_le (vS (((r62)[(x_0).toNat]!).2.2.2.2.2.2.2.2)) (En := enc_38) ((r62)[(x_0).toNat]!) ((x_0).toNat) 8 rfl rfl (rd_own H66 (mem_chunk (Ls := [(kLCodeMakes27_0 b2 x_0 x_1 x_2 x_3 (hi x_4) (lo x_4)), S65]) (k := 1) rfl rfl)) (get_of ck67) rfl <| r_W (vB (r60 == (((r62)[(x_0).toNat]!).2.2.2.2.2.2.2.2))) rfl (ev_eqS rfl rfl) <| r_V (vB (r60 == (((r62)[(x_0).toNat]!).2.2.2.2.2.2.2.2))) rfl ?_
  rcases hg68 : (r60 == (((r62)[(x_0).toNat]!).2.2.2.2.2.2.2.2)) with _ | _
  ·replace hM := ifn (ne_of_beq_false hg68) hM
   refine r_R [none, none, none, none, none, vB false, vB false, none, vB false, vB false] rfl <| lx_nil <| hK59 _ _ ?_; try clear hK59 K59
   refine A_gen [(2, vB false)] rfl (fun T => ?_)
   obtain rfl := Option.some.inj hM
   refine A_ret (fun hn => endsV (v0 := vB false) rfl (res1 rfl))
  replace hM := ifp (eq_of_beq hg68) hM
  refine r_R [Sum31.v r7.1] rfl <| r_y rfl ?_
  obtain ⟨r69, hr70, hM⟩ := bind_sm hM
  refine r_c (vI r69) rfl _ _ (ev_callI ((rfl : _ = Sum31.v r7.1).trans (show Sum31.v r7.1 = Value.iface 86 (vA #[vI x55_0, vI x56_1]) from by rw [hx37]; rfl)) (by kernel_rfl) call_102 rfl) (code_Slot_Op_g N x55_0 x56_1 _ hr70) ?_
  refine r_R [vP b2 0] rfl <| r_y rfl <| r_l (vI x_0) 0 _ _ _ _ rfl rfl rfl rfl rfl <| r_R [vB (r69 == x_0), vB (r69 == x_0), vB (r69 == x_0)] rfl ?_
  rcases hg71 : (r69 == x_0) with _ | _
  ·replace hM := ifn (ne_of_beq_false hg71) hM
   refine r_R [none, vB false, vB false] rfl <| lx_nil <| hK59 _ _ ?_; try clear hK59 K59
   refine A_gen [(2, vB false)] rfl (fun T => ?_)
   obtain rfl := Option.some.inj hM
   refine A_ret (fun hn => endsV (v0 := vB false) rfl (res1 rfl))
  replace hM := ifp (eq_of_beq hg71) hM
  refine r_y rfl ?_
  obtain ⟨r72, hr73, hM⟩ := bind_sm hM
  refine r_gv (vB r72) 11 _ rfl rfl rfl (ev_callF rfl call_11 rfl) (fun own_ nw_ hs_ => shunterlaw09_lives_g N  _ hr73 hs_.view ) (conE hr73) <| r_R [vB r72, vB r72] rfl <| lx_nil <| hK59 _ _ ?_; try clear hK59 K59
  refine A_gen [(2, vB r72)] rfl (fun T => ?_)
  obtain rfl := Option.some.inj hM
  refine A_ret (fun hn => endsV (v0 := vB r72) rfl (res1 rfl))
 ·replace hM := Sum31.on_t88 hx37 hM
  refine r_W (vB false) rfl (ev_binC ((rfl : _ = Sum31.v r7.1).trans (show Sum31.v r7.1 = Value.iface 88 (vA #[vI x57_0, vI x58_1]) from by rw [hx37]; rfl)) rfl rfl) ?_
  refine lx_nil <| hK36 _ _ ?_; try clear hK36 K36
  refine A_cond false rfl (fun h_ => nomatch h_) (fun _ => ?_)
  refine A_skip <| hK35 _ _ ?_; try clear hK35 K35
  refine A_seq fun K59 hK59 => A_drawR [(some 33, false), (some 48, false)] (conG Tryd.prog [(33, fun _ _ v_ L_ U_ => ∀ u0_, shunterref09_Table_m N  = some u0_ → (p1 (fun s_ => s_) 38 enc_38 u0_) v_ L_ U_), (48, fun _ _ v_ L_ U_ => ∀ u0_, shunterlaw09_lives_m N  = some u0_ → (pV (vB u0_)) v_ L_ U_)]) [] (by decide +kernel) (fun hn => sep_nil) <| r_V (Sum31.v r7.1) rfl ?_
  obtain ⟨r60, hr61, hM⟩ := bind_sm hM
  refine r_c (vS r60) rfl _ _ (ev_callF rfl call_12 rfl) (shunterlaw09_typeOf_g N r7.1 _ hr61) ?_
  obtain ⟨r62, hr63, hM⟩ := bind_sm hM
  refine r_g1 (Ls := [(kLCodeMakes27_0 b2 x_0 x_1 x_2 x_3 (hi x_4) (lo x_4))]) (fun s64 => s64) 38 enc_38 r62 13 _ rfl rfl rfl (ev_callF rfl call_13 rfl) (fun own_ nw_ hs_ => (Does.inv (shunterref09_Table_g N  _ hr63 hs_.view ) _)) (conE hr63) (fun s64 S65 H66 => ?_)
  refine r_V (vP b2 0) rfl <| r_l (vI x_0) 0 _ _ _ _ rfl rfl rfl rfl rfl ?_
  obtain ⟨ck67, hM⟩ := ck_some hM
  refine r_W (elA s64 ((x_0).toNat * 9)) rfl (ev_v (ev_idxSl rfl rfl rfl (Sl.shp H66) ck67)) <| r_W (elA s64 ((x_0).toNat * 9 + 8)) rfl (ev_v (ev_fieldX rfl rfl rfl rfl rfl rfl (Sl.shp H66) (pos_of ck67))) <| r_le (vS (((r62)[(x_0).toNat]!).2.2.2.2.2.2.2.2)) (En := enc_38) ((r62)[(x_0).toNat]!) ((x_0).toNat) 8 rfl rfl (rd_own H66 (mem_chunk (Ls := [(kLCodeMakes27_0 b2 x_0 x_1 x_2 x_3 (hi x_4) (lo x_4)), S65]) (k := 1) rfl rfl)) (get_of ck67) rfl <| r_W (vB (r60 == (((r62)[(x_0).toNat]!).2.2.2.2.2.2.2.2))) rfl (ev_eqS rfl rfl) <| r_V (vB (r60 == (((r62)[(x_0).toNat]!).2.2.2.2.2.2.2.2))) rfl ?_
  rcases hg68 : (r60 == (((r62)[(x_0).toNat]!).2.2.2.2.2.2.2.2)) with _ | _
  ·replace hM := ifn (ne_of_beq_false hg68) hM
   refine r_R [none, none, none, none, none, vB false, vB false, none, vB false, vB false] rfl <| lx_nil <| hK59 _ _ ?_; try clear hK59 K59
   refine A_gen [(2, vB false)] rfl (fun T => ?_)
   obtain rfl := Option.some.inj hM
   refine A_ret (fun hn => endsV (v0 := vB false) rfl (res1 rfl))
  replace hM := ifp (eq_of_beq hg68) hM
  refine r_R [Sum31.v r7.1] rfl <| r_y rfl ?_
  obtain ⟨r69, hr70, hM⟩ := bind_sm hM
  refine r_c (vI r69) rfl _ _ (ev_callI ((rfl : _ = Sum31.v r7.1).trans (show Sum31.v r7.1 = Value.iface 88 (vA #[vI x57_0, vI x58_1]) from by rw [hx37]; rfl)) (by kernel_rfl) call_103 rfl) (code_Jump_Op_g N x57_0 x58_1 _ hr70) ?_
  refine r_R [vP b2 0] rfl <| r_y rfl <| r_l (vI x_0) 0 _ _ _ _ rfl rfl rfl rfl rfl <| r_R [vB (r69 == x_0), vB (r69 == x_0), vB (r69 == x_0)] rfl ?_
  rcases hg71 : (r69 == x_0) with _ | _
  ·replace hM := ifn (ne_of_beq_false hg71) hM
   refine r_R [none, vB false, vB false] rfl <| lx_nil <| hK59 _ _ ?_; try clear hK59 K59
   refine A_gen [(2, vB false)] rfl (fun T => ?_)
   obtain rfl := Option.some.inj hM
   refine A_ret (fun hn => endsV (v0 := vB false) rfl (res1 rfl))
  replace hM := ifp (eq_of_beq hg71) hM
  refine r_y rfl ?_
  obtain ⟨r72, hr73, hM⟩ := bind_sm hM
  refine r_gv (vB r72) 11 _ rfl rfl rfl (ev_callF rfl call_11 rfl) (fun own_ nw_ hs_ => shunterlaw09_lives_g N  _ hr73 hs_.view ) (conE hr73) <| r_R [vB r72, vB r72] rfl <| lx_nil <| hK59 _ _ ?_; try clear hK59 K59
  refine A_gen [(2, vB r72)] rfl (fun T => ?_)
  obtain rfl := Option.some.inj hM
  refine A_ret (fun hn => endsV (v0 := vB r72) rfl (res1 rfl))
 replace hM := Sum31.on_t90 hx37 hM
 refine r_W (vB false) rfl (ev_binC ((rfl : _ = Sum31.v r7.1).trans (show Sum31.v r7.1 = Value.iface 90 (vA #[]) from by rw [hx37]; rfl)) rfl rfl) ?_
 refine lx_nil <| hK36 _ _ ?_; try clear hK36 K36
 refine A_cond false rfl (fun h_ => nomatch h_) (fun _ => ?_)
 refine A_skip <| hK35 _ _ ?_; try clear hK35 K35
 refine A_seq fun K59 hK59 => A_drawR [(some 33, false), (some 48, false)] (conG Tryd.prog [(33, fun _ _ v_ L_ U_ => ∀ u0_, shunterref09_Table_m N  = some u0_ → (p1 (fun s_ => s_) 38 enc_38 u0_) v_ L_ U_), (48, fun _ _ v_ L_ U_ => ∀ u0_, shunterlaw09_lives_m N  = some u0_ → (pV (vB u0_)) v_ L_ U_)]) [] (by decide +kernel) (fun hn => sep_nil) <| r_V (Sum31.v r7.1) rfl ?_
 obtain ⟨r60, hr61, hM⟩ := bind_sm hM
 refine r_c (vS r60) rfl _ _ (ev_callF rfl call_12 rfl) (shunterlaw09_typeOf_g N r7.1 _ hr61) ?_
 obtain ⟨r62, hr63, hM⟩ := bind_sm hM
 refine r_g1 (Ls := [(kLCodeMakes27_0 b2 x_0 x_1 x_2 x_3 (hi x_4) (lo x_4))]) (fun s64 => s64) 38 enc_38 r62 13 _ rfl rfl rfl (ev_callF rfl call_13 rfl) (fun own_ nw_ hs_ => (Does.inv (shunterref09_Table_g N  _ hr63 hs_.view ) _)) (conE hr63) (fun s64 S65 H66 => ?_)
 refine r_V (vP b2 0) rfl <| r_l (vI x_0) 0 _ _ _ _ rfl rfl rfl rfl rfl ?_
 obtain ⟨ck67, hM⟩ := ck_some hM
 refine r_W (elA s64 ((x_0).toNat * 9)) rfl (ev_v (ev_idxSl rfl rfl rfl (Sl.shp H66) ck67)) <| r_W (elA s64 ((x_0).toNat * 9 + 8)) rfl (ev_v (ev_fieldX rfl rfl rfl rfl rfl rfl (Sl.shp H66) (pos_of ck67))) <| r_le (vS (((r62)[(x_0).toNat]!).2.2.2.2.2.2.2.2)) (En := enc_38) ((r62)[(x_0).toNat]!) ((x_0).toNat) 8 rfl rfl (rd_own H66 (mem_chunk (Ls := [(kLCodeMakes27_0 b2 x_0 x_1 x_2 x_3 (hi x_4) (lo x_4)), S65]) (k := 1) rfl rfl)) (get_of ck67) rfl <| r_W (vB (r60 == (((r62)[(x_0).toNat]!).2.2.2.2.2.2.2.2))) rfl (ev_eqS rfl rfl) <| r_V (vB (r60 == (((r62)[(x_0).toNat]!).2.2.2.2.2.2.2.2))) rfl ?_
 rcases hg68 : (r60 == (((r62)[(x_0).toNat]!).2.2.2.2.2.2.2.2)) with _ | _
 ·replace hM := ifn (ne_of_beq_false hg68) hM
  refine r_R [none, none, none, none, none, vB false, vB false, none, vB false, vB false] rfl <| lx_nil <| hK59 _ _ ?_; try clear hK59 K59
  refine A_gen [(2, vB false)] rfl (fun T => ?_)
  obtain rfl := Option.some.inj hM
  refine A_ret (fun hn => endsV (v0 := vB false) rfl (res1 rfl))
 replace hM := ifp (eq_of_beq hg68) hM
 refine r_R [Sum31.v r7.1] rfl <| r_y rfl ?_
 obtain ⟨r69, hr70, hM⟩ := bind_sm hM
 refine r_c (vI r69) rfl _ _ (ev_callI ((rfl : _ = Sum31.v r7.1).trans (show Sum31.v r7.1 = Value.iface 90 (vA #[]) from by rw [hx37]; rfl)) (by kernel_rfl) call_104 rfl) (code_Stop_Op_g N  _ hr70) ?_
 refine r_R [vP b2 0] rfl <| r_y rfl <| r_l (vI x_0) 0 _ _ _ _ rfl rfl rfl rfl rfl <| r_R [vB (r69 == x_0), vB (r69 == x_0), vB (r69 == x_0)] rfl ?_
 rcases hg71 : (r69 == x_0) with _ | _
 ·replace hM := ifn (ne_of_beq_false hg71) hM
  refine r_R [none, vB false, vB false] rfl <| lx_nil <| hK59 _ _ ?_; try clear hK59 K59
  refine A_gen [(2, vB false)] rfl (fun T => ?_)
  obtain rfl := Option.some.inj hM
  refine A_ret (fun hn => endsV (v0 := vB false) rfl (res1 rfl))
 replace hM := ifp (eq_of_beq hg71) hM
 refine r_y rfl ?_
 obtain ⟨r72, hr73, hM⟩ := bind_sm hM
 refine r_gv (vB r72) 11 _ rfl rfl rfl (ev_callF rfl call_11 rfl) (fun own_ nw_ hs_ => shunterlaw09_lives_g N  _ hr73 hs_.view ) (conE hr73) <| r_R [vB r72, vB r72] rfl <| lx_nil <| hK59 _ _ ?_; try clear hK59 K59
 refine A_gen [(2, vB r72)] rfl (fun T => ?_)
 obtain rfl := Option.some.inj hM
 refine A_ret (fun hn => endsV (v0 := vB r72) rfl (res1 rfl))
end Go.Proofs.YtmfedgmmgehmgaaDoor
