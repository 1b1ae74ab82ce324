/- models of functions and their walks -/
import Derived.Test.YtmfedgmmgehmgaaDoorBa
namespace Go.Proofs.YtmfedgmmgehmgaaDoor
open Go Go.RowKit Go.Eng
abbrev kBb108_0 (b : Nat) (x0 : Value) (x1 : Value) : List Bl := [(b, 108, #[x0, x1])]
abbrev kBb27_1 (b : Nat) (x0 : Int) (x1 : Int) (x2 : Int) (x3 : Int) (x4 : BitVec 64) (x5 : BitVec 64) : List Bl := [(b, 27, #[vI x0, vI x1, vI x2, vI x3, U x4, U x5])]
def strings_Builder_copyCheck_v1_m (_ : Nat) : Option Unit := some ()
set_option maxRecDepth 100000 in
set_option maxHeartbeats 8000000 in
theorem strings_Builder_copyCheck_v1_g (N : Nat) (r) (hM : strings_Builder_copyCheck_v1_m N = some r) (ro : Addr → Option Value) (bb : Nat) : Does Tryd.prog 49 #[vP bb 0] ro (kBb108_0 bb (Value.pointer none) nS) (pO (kBb108_0 bb (Value.pointer none) nS) (oE (vT #[]) [(kBb108_0 bb (vP bb 0) nS)])) := by
 unfold strings_Builder_copyCheck_v1_m at hM
 refine doesO_of_A follows Tryd.func49 rfl 20 rfl (upd (fun _ => undef) 0 (vP bb 0)) (by funext k; match k with | 0 => rfl | k + 1 => rfl) (fun _ _ h_ _ => h_) (fun base0_ => ?_)
 refine A_sr <| r_R [vP bb 0, vP bb 0, vP bb 0] rfl <| r_l (Value.pointer none) 0 _ _ _ _ rfl rfl rfl rfl rfl <| r_V (vB true) rfl <| lx_nil <| A_cond true rfl (fun _ => ?_) (fun h_ => nomatch h_)
 refine A_regC [(some 9, true), (some 10, true), (some 11, true)] (conG Tryd.prog [(9, fun _ _ v_ L_ U_ => (pUp (fun v_ U_ => v_ = vP bb 0 ∧ U_ = (kBb108_0 bb (Value.pointer none) nS))) v_ L_ U_), (10, fun _ _ v_ L_ U_ => (pUp (fun v_ U_ => v_ = vP bb 0 ∧ U_ = (kBb108_0 bb (Value.pointer none) nS))) v_ L_ U_), (11, fun _ _ v_ L_ U_ => (pUp (fun v_ U_ => v_ = vP bb 0 ∧ U_ = (kBb108_0 bb (Value.pointer none) nS))) v_ L_ U_)]) <| r_R [vP bb 0, vP bb 0] rfl <| r_hv (Ls := [(kBb108_0 bb (Value.pointer none) nS)]) (vP bb 0) 0 rfl rfl rfl rfl rfl (run_toU (TB := 108) (cs := #[Value.pointer none, nS]) rfl rfl rfl rfl rfl rfl rfl (List.mem_singleton.2 rfl)) (fun _ _ _ _ _ => Iff.rfl) ?_
 refine r_hv (Ls := [(kBb108_0 bb (Value.pointer none) nS)]) (vP bb 0) 0 rfl rfl rfl rfl rfl (fun w_ _ => run_ext (args := #[vP bb 0]) (e := Extern.AbiNoEscape.same) (w' := w_) (exec_fn rfl) Tryd.func57 (by kernel_rfl) (by kernel_rfl) (by kernel_rfl) (by kernel_rfl) rfl) (fun _ _ _ _ _ => Iff.rfl) <| r_hv (Ls := [(kBb108_0 bb (Value.pointer none) nS)]) (vP bb 0) 0 rfl rfl rfl rfl rfl (run_fromU (TB := 108) (cs := #[Value.pointer none, nS]) 2 rfl rfl rfl rfl rfl (List.mem_singleton.2 rfl) rfl (by kernel_rfl)) (fun _ _ _ _ _ => Iff.rfl) <| r_R [vP bb 0, vP bb 0] rfl <| r_s (kBb108_0 bb (vP bb 0) nS) 0 _ _ _ _ _ (#[vP bb 0, nS]) rfl rfl rfl rfl (.of rfl rfl) rfl rfl <| lx_nil ?_
 obtain rfl := Option.some.inj hM
 refine endsN (v0 := vT #[]) (O := [(kBb108_0 bb (vP bb 0) nS)]) rfl (Sub.pick [(kBb108_0 bb (vP bb 0) nS)] [0] rfl) ⟨rfl, rfl⟩
def strings_Builder_grow_v1_m (_ : Nat) (n : Int) : Option (List UInt8) := ck (-9223372036854775808 ≤ (0 + n) ∧ (0 + n) ≤ 9223372036854775807) (ck (0 ≤ (0 + n) ∧ (0 + n) ≤ 140737488355328) (some ((([] : List UInt8)).take (([] : List UInt8)).length ++ (([] : List UInt8)).drop (([] : List UInt8)).length)))
set_option maxRecDepth 100000 in
set_option maxHeartbeats 8000000 in
theorem strings_Builder_grow_v1_g (N : Nat) (n : Int) (r) (hM : strings_Builder_grow_v1_m N n = some r) (ro : Addr → Option Value) (bb : Nat) : Does Tryd.prog 50 #[vP bb 0, vI n] ro (kBb108_0 bb (vP bb 0) nS) (pO (kBb108_0 bb (vP bb 0) nS) (oS 5 encYs r fun s_0 => (oE (vT #[]) [(kBb108_0 bb (vP bb 0) s_0)]))) := by
 unfold strings_Builder_grow_v1_m at hM
 refine doesO_of_A follows Tryd.func50 rfl 30 rfl (upd (upd (fun _ => undef) 1 (vI n)) 0 (vP bb 0)) (by funext k; match k with | 0 => rfl | 1 => rfl | k + 2 => rfl) (fun _ _ h_ _ => h_) (fun base0_ => ?_)
 refine A_seq fun K1 hK1 => A_drawR [(some 13, false)] (conG Tryd.prog [(13, fun _ _ v_ L_ U_ => (pMnz 5 ((0 + n)).toNat) v_ L_ U_)]) [] (by decide +kernel) (fun hn => sep_nil) <| r_R [vP bb 0, vP bb 0, vP bb 1] rfl <| r_l nS 0 _ _ _ _ rfl rfl rfl rfl rfl <| r_W (vI 0) rfl (ev_cap0 rfl rfl rfl) <| r_X (vI 0) rfl (wi64 rfl (by decide) (by decide)) rfl <| r_V (vI n) rfl ?_
 obtain ⟨ck2, hM⟩ := ck_some hM
 refine r_X (vI (0 + n)) rfl (wi64 rfl ck2.1 ck2.2) rfl ?_
 obtain ⟨ck3, hM⟩ := ck_some hM
 refine r_mnz (Ls := [(kBb108_0 bb (vP bb 0) nS)]) (ps := #[3]) (t := 106) 5 (0 + n) rfl rfl rfl (exec_fn rfl) Tryd.func58 (by kernel_rfl) (by kernel_rfl) (by kernel_rfl) (by kernel_rfl) rfl ck3 (fun _ _ _ _ _ => Iff.rfl) (fun s5 S6 xs4 _ H7 => ?_)
 refine r_R [vP bb 0, vP bb 0, vP bb 1] rfl <| r_l nS 0 _ _ _ _ rfl rfl rfl rfl rfl <| r_W (vI ((([] : List UInt8)).length : Int)) rfl (ev_lenSl rfl rfl rfl (.inl ⟨rfl, rfl⟩)) <| r_W (subA s5 0 ((((([] : List UInt8)).length : Int)).toNat) 1) rfl (ev_v (ev_subSl2 rfl rfl rfl rfl (Sl.shp H7) (by exact ⟨by decide, Int.natCast_nonneg _⟩))) <| r_V (subA s5 0 ((((([] : List UInt8)).length : Int)).toNat) 1) rfl <| lx_nil <| hK1 _ _ ?_; try clear hK1 K1
 refine A_sc [(some 25, true)] (conG Tryd.prog [(25, fun _ _ v_ L_ U_ => (pUp (fun v_ U_ => v_ = .int .i64 ((min (([] : List UInt8)).length (([] : List UInt8)).length : Nat) : Int) ∧ Sl 5 encYs (subA s5 0 ((((([] : List UInt8)).length : Int)).toNat) 1) ((([] : List UInt8)).take (([] : List UInt8)).length ++ (([] : List UInt8)).drop (([] : List UInt8)).length) U_ ∧ U_.map (·.1) = S6.map (·.1))) v_ L_ U_)]) <| r_R [subA s5 0 ((((([] : List UInt8)).length : Int)).toNat) 1, vP bb 0, vP bb 0, vP bb 1] rfl <| r_l nS 0 _ _ _ _ rfl rfl rfl rfl rfl ?_
 refine r_cpy (Ls := [(kBb108_0 bb (vP bb 0) nS), S6]) 1 (En := encYs) (ys := ([] : List UInt8)) rfl rfl rfl rfl rfl rfl (Sl.take00 H7) (.inl ⟨rfl, rfl⟩) (fun _ _ _ => .inl ⟨rfl, rfl⟩) rfl rfl rfl rfl (fun _ _ _ _ _ => Iff.rfl) (fun S9 H10 => ?_)
 refine lx_nil <| A_reg <| r_R [vP bb 0, subA s5 0 ((((([] : List UInt8)).length : Int)).toNat) 1, vP bb 0, vP bb 1] rfl <| r_s (List.flatten [(kBb108_0 bb (vP bb 0) (subA s5 0 ((((([] : List UInt8)).length : Int)).toNat) 1)), S9]) 0 _ _ _ _ _ (#[vP bb 0, subA s5 0 ((((([] : List UInt8)).length : Int)).toNat) 1]) rfl rfl rfl (cells_sl rfl (Sl.shp H10)) (.ofS rfl rfl (all_cons' (Shp.one (Sl.shp H10)) all_nil')) rfl rfl <| lx_nil ?_
 obtain rfl := Option.some.inj hM
 refine endsN (v0 := vT #[]) (O := [S9, (kBb108_0 bb (vP bb 0) (subA s5 0 ((((([] : List UInt8)).length : Int)).toNat) 1))]) rfl (Sub.pick [(kBb108_0 bb (vP bb 0) (subA s5 0 ((((([] : List UInt8)).length : Int)).toNat) 1)), S9] [1, 0] rfl) ⟨subA s5 0 ((((([] : List UInt8)).length : Int)).toNat) 1, S9, _, H10, ⟨rfl, rfl⟩, rfl⟩
def strings_Builder_Grow_v1_k1 (N : Nat) (n : Int) : Option (List UInt8) := ck ((-9223372036854775808 ≤ (0 - ((([] : List UInt8)).length : Int)) ∧ (0 - ((([] : List UInt8)).length : Int)) ≤ 9223372036854775807)) (if ((0 - ((([] : List UInt8)).length : Int)) : Int) < n then (strings_Builder_grow_v1_m N n).bind fun r7 => some r7 else some ([] : List UInt8))
def strings_Builder_Grow_v1_m (N : Nat) (n : Int) : Option (List UInt8) := (strings_Builder_copyCheck_v1_m N ).bind fun r2 => if n < 0 then none else strings_Builder_Grow_v1_k1 N n 
set_option maxRecDepth 100000 in
set_option maxHeartbeats 8000000 in
theorem strings_Builder_Grow_v1_g (N : Nat) (n : Int) (r) (hM : strings_Builder_Grow_v1_m N n = some r) (ro : Addr → Option Value) (bb : Nat) : Does Tryd.prog 40 #[vP bb 0, vI n] ro (kBb108_0 bb (Value.pointer none) nS) (pO (kBb108_0 bb (Value.pointer none) nS) (oS 5 encYs r fun s_0 => (oE (vT #[]) [(kBb108_0 bb (vP bb 0) s_0)]))) := by
 unfold strings_Builder_Grow_v1_m at hM
 refine doesO_of_A follows Tryd.func40 rfl 25 rfl (upd (upd (fun _ => undef) 1 (vI n)) 0 (vP bb 0)) (by funext k; match k with | 0 => rfl | 1 => rfl | k + 2 => rfl) (fun _ _ h_ _ => h_) (fun base0_ => ?_)
 refine A_sc [(some 5, true)] (conG Tryd.prog [(5, fun _ _ v_ L_ U_ => (pO (List.flatten [(kBb108_0 bb (Value.pointer none) nS)]) (oE (vT #[]) [(kBb108_0 bb (vP bb 0) nS)])) v_ L_ U_)]) <| r_V (vP bb 0) rfl ?_
 obtain ⟨r2, hr3, hM⟩ := bind_sm hM
 refine r_gm (Ls := [(kBb108_0 bb (Value.pointer none) nS)]) (FL := [(kBb108_0 bb (Value.pointer none) nS)]) [0] _ (some 5) 49 _ rfl rfl rfl rfl rfl (ev_callF rfl call_49 rfl) (fun own_ nw_ hn_ hs_ => strings_Builder_copyCheck_v1_g N  _ hr3 _ bb) (fun _ _ _ _ _ => Iff.rfl) (fun h_ => nomatch h_) ?_
 rintro _ _ ⟨rfl, rfl⟩
 refine lx_perm (Ls := [(kBb108_0 bb (vP bb 0) nS)]) (Ls' := [(kBb108_0 bb (vP bb 0) nS)]) [0] rfl rfl <| lx_nil <| A_cut (fun tt ll => (strings_Builder_Grow_v1_k1 N n  = some r) ∧ Is [(0, vP bb 0), (1, vI n)] (kBb108_0 bb (vP bb 0) nS) tt ll) ?_ ?_
 ·refine A_sr <| r_R [vI n, vB (decide (n < 0))] rfl <| lx_nil <| A_cond (decide (n < 0)) rfl (fun hc13 => ?_) (fun hc13 => ?_)
  ·replace hM := ifp (of_decide_eq_true hc13) hM
   refine A_reg <| r_V (Value.iface 9 (Value.string (⟨#[115, 116, 114, 105, 110, 103, 115, 46, 66, 117, 105, 108, 100, 101, 114, 46, 71, 114, 111, 119, 58, 32, 110, 101, 103, 97, 116, 105, 118, 101, 32, 99, 111, 117, 110, 116]⟩))) rfl ?_
   cases hM
  replace hM := ifn (of_decide_eq_false hc13) hM
  refine A_skip <| fg _ (Sub.of (List.Sublist.cons_cons _ List.Sublist.slnil)) ?_
  exact ⟨hM, is_mk rfl rfl⟩
 clear hM; rintro t l ⟨hM, ⟨T, rfl⟩, rfl⟩
 unfold strings_Builder_Grow_v1_k1 at hM
 refine A_seq fun K4 hK4 => A_draw [] (by decide +kernel) (fun hn => sep_nil) <| r_R [vP bb 0, vP bb 0, vP bb 1] rfl <| r_l nS 0 _ _ _ _ rfl rfl rfl rfl rfl <| r_W (vI 0) rfl (ev_cap0 rfl rfl rfl) <| r_R [vP bb 0, vP bb 0, vP bb 1] rfl <| r_l nS 0 _ _ _ _ rfl rfl rfl rfl rfl <| r_W (vI ((([] : List UInt8)).length : Int)) rfl (ev_lenSl rfl rfl rfl (.inl ⟨rfl, rfl⟩)) ?_
 obtain ⟨ck5, hM⟩ := ck_some hM
 refine r_X (vI ((0 - ((([] : List UInt8)).length : Int)))) rfl (wi64 rfl ck5.1 ck5.2) rfl <| r_R [vI n, vB (decide (((0 - ((([] : List UInt8)).length : Int)) : Int) < n))] rfl <| lx_nil <| hK4 _ _ ?_; try clear hK4 K4
 refine A_cond (decide (((0 - ((([] : List UInt8)).length : Int)) : Int) < n)) rfl (fun hc6 => ?_) (fun hc6 => ?_)
 ·replace hM := ifp (of_decide_eq_true hc6) hM
  refine A_regC [(some 24, true)] (conG Tryd.prog [(24, fun _ _ v_ L_ U_ => ∀ u0_, strings_Builder_grow_v1_m N n = some u0_ → (pO (List.flatten [(kBb108_0 bb (vP bb 0) nS)]) (oS 5 encYs u0_ fun s_0 => (oE (vT #[]) [(kBb108_0 bb (vP bb 0) s_0)]))) v_ L_ U_)]) <| r_R [vP bb 0, vI n] rfl ?_
  obtain ⟨r7, hr8, hM⟩ := bind_sm hM
  refine r_gm (Ls := [(kBb108_0 bb (vP bb 0) nS)]) (FL := [(kBb108_0 bb (vP bb 0) nS)]) [0] _ (some 24) 50 _ rfl rfl rfl rfl rfl (ev_callF rfl call_50 rfl) (fun own_ nw_ hn_ hs_ => strings_Builder_grow_v1_g N n _ hr8 _ bb) (conE hr8) (fun h_ => nomatch h_) ?_
  rintro _ _ ⟨s9, S10, _, H11, ⟨rfl, rfl⟩, rfl⟩
  refine lx_perm (Ls := [S10, (kBb108_0 bb (vP bb 0) s9)]) (Ls' := [(kBb108_0 bb (vP bb 0) s9), S10]) [1, 0] rfl rfl <| lx_nil ?_
  obtain rfl := Option.some.inj hM
  refine endsN (v0 := vT #[]) (O := [S10, (kBb108_0 bb (vP bb 0) s9)]) rfl (Sub.pick [(kBb108_0 bb (vP bb 0) s9), S10] [1, 0] rfl) ⟨s9, S10, _, H11, ⟨rfl, rfl⟩, rfl⟩
 replace hM := ifn (of_decide_eq_false hc6) hM
 refine A_skip ?_
 obtain rfl := Option.some.inj hM
 refine endsN (v0 := vT #[]) (O := [[], (kBb108_0 bb (vP bb 0) nS)]) rfl (Sub.pickE (Ls := [(kBb108_0 bb (vP bb 0) nS), []]) (Ls0 := [(kBb108_0 bb (vP bb 0) nS)]) rfl [1, 0] rfl) ⟨nS, [], _, Sl.nil, ⟨rfl, rfl⟩, rfl⟩
def strings_Builder_copyCheck_v2_m (_ : Nat) (b : List UInt8) : Option (List UInt8) := some b
set_option maxRecDepth 100000 in
set_option maxHeartbeats 8000000 in
theorem strings_Builder_copyCheck_v2_g (N : Nat) (b r : List UInt8) (hM : strings_Builder_copyCheck_v2_m N b = some r) (ro : Addr → Option Value) (bb : Nat) (bv : Value) (Sb : List Bl) (hb : Sl 5 encYs bv b Sb) : Does Tryd.prog 49 #[vP bb 0] ro (List.flatten [(kBb108_0 bb (Value.pointer none) bv), Sb]) (pO (List.flatten [(kBb108_0 bb (Value.pointer none) bv), Sb]) (oI 5 encYs bv r (oE (vT #[]) [(kBb108_0 bb (vP bb 0) bv)]))) := by
 unfold strings_Builder_copyCheck_v2_m at hM
 refine doesO_of_A follows Tryd.func49 rfl 20 rfl (upd (fun _ => undef) 0 (vP bb 0)) (by funext k; match k with | 0 => rfl | k + 1 => rfl) (fun _ _ h_ _ => h_) (fun base0_ => ?_)
 refine A_sr <| r_R [vP bb 0, vP bb 0, vP bb 0] rfl <| r_l (Value.pointer none) 0 _ _ _ _ rfl rfl rfl rfl rfl <| r_V (vB true) rfl <| lx_nil <| A_cond true rfl (fun _ => ?_) (fun h_ => nomatch h_)
 refine A_regC [(some 9, true), (some 10, true), (some 11, true)] (conG Tryd.prog [(9, fun _ _ v_ L_ U_ => (pUp (fun v_ U_ => v_ = vP bb 0 ∧ U_ = (kBb108_0 bb (Value.pointer none) bv))) v_ L_ U_), (10, fun _ _ v_ L_ U_ => (pUp (fun v_ U_ => v_ = vP bb 0 ∧ U_ = (kBb108_0 bb (Value.pointer none) bv))) v_ L_ U_), (11, fun _ _ v_ L_ U_ => (pUp (fun v_ U_ => v_ = vP bb 0 ∧ U_ = (kBb108_0 bb (Value.pointer none) bv))) v_ L_ U_)]) <| r_R [vP bb 0, vP bb 0] rfl <| r_hv (Ls := [(kBb108_0 bb (Value.pointer none) bv), Sb]) (vP bb 0) 0 rfl rfl rfl rfl rfl (run_toU (TB := 108) (cs := #[Value.pointer none, bv]) rfl rfl rfl rfl rfl rfl rfl (List.mem_singleton.2 rfl)) (fun _ _ _ _ _ => Iff.rfl) ?_
 refine r_hv (Ls := [(kBb108_0 bb (Value.pointer none) bv), Sb]) (vP bb 0) 0 rfl rfl rfl rfl rfl (fun w_ _ => run_ext (args := #[vP bb 0]) (e := Extern.AbiNoEscape.same) (w' := w_) (exec_fn rfl) Tryd.func57 (by kernel_rfl) (by kernel_rfl) (by kernel_rfl) (by kernel_rfl) rfl) (fun _ _ _ _ _ => Iff.rfl) <| r_hv (Ls := [(kBb108_0 bb (Value.pointer none) bv), Sb]) (vP bb 0) 0 rfl rfl rfl rfl rfl (run_fromU (TB := 108) (cs := #[Value.pointer none, bv]) 2 rfl rfl rfl rfl rfl (List.mem_singleton.2 rfl) rfl (by kernel_rfl)) (fun _ _ _ _ _ => Iff.rfl) <| r_R [vP bb 0, vP bb 0] rfl ?_
 refine r_s (List.flatten [(kBb108_0 bb (vP bb 0) bv), Sb]) 0 _ _ _ _ _ (#[vP bb 0, bv]) rfl rfl rfl rfl (.of rfl rfl) rfl rfl <| lx_nil ?_
 obtain rfl := Option.some.inj hM
 refine endsN (v0 := vT #[]) (O := [Sb, (kBb108_0 bb (vP bb 0) bv)]) rfl (Sub.pick [(kBb108_0 bb (vP bb 0) bv), Sb] [1, 0] rfl) ⟨Sb, _, hb, ⟨rfl, rfl⟩, rfl⟩
def strings_Builder_WriteString_v1_m (N : Nat) (b : List UInt8) (s : List UInt8) : Option (Int × (List UInt8)) := (strings_Builder_copyCheck_v2_m N b).bind fun r3 => ck ((r3).length = (b).length) (ck ((r3).length + (s).length ≤ 140737488355328) (some (((s).length : Int), (r3 ++ s))))
set_option maxRecDepth 100000 in
set_option maxHeartbeats 8000000 in
theorem strings_Builder_WriteString_v1_g (N : Nat) (b s : List UInt8) (r) (hM : strings_Builder_WriteString_v1_m N b s = some r) (ro : Addr → Option Value) (bb : Nat) (bv : Value) (Sb : List Bl) (hb : Sl 5 encYs bv b Sb) : Does Tryd.prog 41 #[vP bb 0, vS s] ro (List.flatten [(kBb108_0 bb (Value.pointer none) bv), Sb]) (pO (List.flatten [(kBb108_0 bb (Value.pointer none) bv), Sb]) (oS 5 encYs r.2 fun s_0 => (oE (vT #[vI r.1, Value.nilIface]) [(kBb108_0 bb (vP bb 0) s_0)]))) := by
 unfold strings_Builder_WriteString_v1_m at hM
 refine doesO_of_A follows Tryd.func41 rfl 19 rfl (upd (upd (fun _ => undef) 1 (vS s)) 0 (vP bb 0)) (by funext k; match k with | 0 => rfl | 1 => rfl | k + 2 => rfl) (fun _ _ h_ _ => h_) (fun base0_ => ?_)
 refine A_sr <| r_R [vI 0, Value.nilIface] rfl <| lx_nil <| A_sc [(some 7, true)] (conG Tryd.prog [(7, fun _ _ v_ L_ U_ => ∀ u0_, strings_Builder_copyCheck_v2_m N b = some u0_ → (pO (List.flatten [(kBb108_0 bb (Value.pointer none) bv), Sb]) (oI 5 encYs bv u0_ (oE (vT #[]) [(kBb108_0 bb (vP bb 0) bv)]))) v_ L_ U_)]) <| r_V (vP bb 0) rfl ?_
 obtain ⟨r3, hr4, hM⟩ := bind_sm hM
 obtain ⟨ck5, hM⟩ := ck_some hM
 refine r_gm (Ls := [(kBb108_0 bb (Value.pointer none) bv), Sb]) (FL := [(kBb108_0 bb (Value.pointer none) bv), Sb]) [0, 1] _ (some 7) 49 _ rfl rfl rfl rfl rfl (ev_callF rfl call_49 rfl) (fun own_ nw_ hn_ hs_ => strings_Builder_copyCheck_v2_g N b _ hr4 _ bb bv Sb hb) (conE hr4) (fun h_ => nomatch h_) ?_
 rintro _ _ ⟨S6, _, H7, ⟨rfl, rfl⟩, rfl⟩
 refine lx_perm (Ls := [S6, (kBb108_0 bb (vP bb 0) bv)]) (Ls' := [(kBb108_0 bb (vP bb 0) bv), S6]) [1, 0] rfl rfl <| lx_nil <| A_sc [(some 14, true)] (conG Tryd.prog []) <| r_R [vP bb 0, vP bb 0, vP bb 0, vP bb 1] rfl <| r_l bv 0 _ _ _ _ rfl rfl rfl rfl rfl <| r_V (vS s) rfl ?_
 obtain ⟨ck9, hM⟩ := ck_some hM
 refine r_apsS (cs0 := []) (Ls := [(kBb108_0 bb (vP bb 0) bv), S6]) 1 s rfl rfl rfl rfl rfl H7 rfl rfl rfl rfl rfl rfl rfl rfl ck9 rfl (fun s10 S11 H12 => ?_)
 refine r_R [vP bb 0, vP bb 1] rfl <| r_s (List.flatten [(kBb108_0 bb (vP bb 0) s10), S11]) 0 _ _ _ _ _ (#[vP bb 0, s10]) rfl rfl rfl (cells_sl rfl (Sl.shp H12)) (.ofS rfl rfl (all_cons' (Shp.one (Sl.shp H12)) all_nil')) rfl rfl <| lx_nil <| A_sr <| r_V (vS s) rfl <| r_W (vI ((s).length : Int)) rfl (ev_lenS rfl rfl rfl) <| r_R [vI ((s).length : Int), Value.nilIface] rfl <| lx_nil ?_
 obtain rfl := Option.some.inj hM
 refine A_ret (fun hn => endsO (v0 := vT #[vI ((s).length : Int), Value.nilIface]) (O := [S11, (kBb108_0 bb (vP bb 0) s10)]) (res2 rfl rfl) (Sub.pick [(kBb108_0 bb (vP bb 0) s10), S11] [1, 0] rfl) ⟨s10, S11, _, H12, ⟨rfl, rfl⟩, rfl⟩)
def strings_Builder_copyCheck_v3_m (_ : Nat) (b : List UInt8) : Option (List UInt8) := some b
set_option maxRecDepth 100000 in
set_option maxHeartbeats 8000000 in
theorem strings_Builder_copyCheck_v3_g (N : Nat) (b r : List UInt8) (hM : strings_Builder_copyCheck_v3_m N b = some r) (ro : Addr → Option Value) (bb : Nat) (bv : Value) (Sb : List Bl) (hb : Sl 5 encYs bv b Sb) : Does Tryd.prog 49 #[vP bb 0] ro (List.flatten [(kBb108_0 bb (vP bb 0) bv), Sb]) (pO (List.flatten [(kBb108_0 bb (vP bb 0) bv), Sb]) (oI 5 encYs bv r (oE (vT #[]) [(kBb108_0 bb (vP bb 0) bv)]))) := by
 unfold strings_Builder_copyCheck_v3_m at hM
 refine doesO_of_A follows Tryd.func49 rfl 20 rfl (upd (fun _ => undef) 0 (vP bb 0)) (by funext k; match k with | 0 => rfl | k + 1 => rfl) (fun _ _ h_ _ => h_) (fun base0_ => ?_)
 refine A_sr <| r_R [vP bb 0, vP bb 0, vP bb 0] rfl <| r_l (vP bb 0) 0 _ _ _ _ rfl rfl rfl rfl rfl <| r_V (vB false) rfl <| lx_nil <| A_cond false rfl (fun h_ => nomatch h_) (fun _ => ?_)
 refine A_sr <| r_R [vP bb 0, vP bb 0, vP bb 0] rfl <| r_l (vP bb 0) 0 _ _ _ _ rfl rfl rfl rfl rfl <| r_V (vP bb 0) rfl <| r_W (vB false) rfl (ev_neqP rfl rfl rfl rfl rfl) <| lx_nil <| A_cond false rfl (fun h_ => nomatch h_) (fun _ => ?_)
 refine A_skip ?_
 obtain rfl := Option.some.inj hM
 refine endsN (v0 := vT #[]) (O := [Sb, (kBb108_0 bb (vP bb 0) bv)]) rfl (Sub.pick [(kBb108_0 bb (vP bb 0) bv), Sb] [1, 0] rfl) ⟨Sb, _, hb, ⟨rfl, rfl⟩, rfl⟩
def strings_Builder_WriteString_v2_m (N : Nat) (b : List UInt8) (s : List UInt8) : Option (Int × (List UInt8)) := (strings_Builder_copyCheck_v3_m N b).bind fun r3 => ck ((r3).length = (b).length) (ck ((r3).length + (s).length ≤ 140737488355328) (some (((s).length : Int), (r3 ++ s))))
set_option maxRecDepth 100000 in
set_option maxHeartbeats 8000000 in
theorem strings_Builder_WriteString_v2_g (N : Nat) (b s : List UInt8) (r) (hM : strings_Builder_WriteString_v2_m N b s = some r) (ro : Addr → Option Value) (bb : Nat) (bv : Value) (Sb : List Bl) (hb : Sl 5 encYs bv b Sb) : Does Tryd.prog 41 #[vP bb 0, vS s] ro (List.flatten [(kBb108_0 bb (vP bb 0) bv), Sb]) (pO (List.flatten [(kBb108_0 bb (vP bb 0) bv), Sb]) (oS 5 encYs r.2 fun s_0 => (oE (vT #[vI r.1, Value.nilIface]) [(kBb108_0 bb (vP bb 0) s_0)]))) := by
 unfold strings_Builder_WriteString_v2_m at hM
 refine doesO_of_A follows Tryd.func41 rfl 19 rfl (upd (upd (fun _ => undef) 1 (vS s)) 0 (vP bb 0)) (by funext k; match k with | 0 => rfl | 1 => rfl | k + 2 => rfl) (fun _ _ h_ _ => h_) (fun base0_ => ?_)
 refine A_sr <| r_R [vI 0, Value.nilIface] rfl <| lx_nil <| A_sc [(some 7, true)] (conG Tryd.prog [(7, fun _ _ v_ L_ U_ => ∀ u0_, strings_Builder_copyCheck_v3_m N b = some u0_ → (pO (List.flatten [(kBb108_0 bb (vP bb 0) bv), Sb]) (oI 5 encYs bv u0_ (oE (vT #[]) [(kBb108_0 bb (vP bb 0) bv)]))) v_ L_ U_)]) <| r_V (vP bb 0) rfl ?_
 obtain ⟨r3, hr4, hM⟩ := bind_sm hM
 obtain ⟨ck5, hM⟩ := ck_some hM
 refine r_gm (Ls := [(kBb108_0 bb (vP bb 0) bv), Sb]) (FL := [(kBb108_0 bb (vP bb 0) bv), Sb]) [0, 1] _ (some 7) 49 _ rfl rfl rfl rfl rfl (ev_callF rfl call_49 rfl) (fun own_ nw_ hn_ hs_ => strings_Builder_copyCheck_v3_g N b _ hr4 _ bb bv Sb hb) (conE hr4) (fun h_ => nomatch h_) ?_
 rintro _ _ ⟨S6, _, H7, ⟨rfl, rfl⟩, rfl⟩
 refine lx_perm (Ls := [S6, (kBb108_0 bb (vP bb 0) bv)]) (Ls' := [(kBb108_0 bb (vP bb 0) bv), S6]) [1, 0] rfl rfl <| lx_nil <| A_sc [(some 14, true)] (conG Tryd.prog []) <| r_R [vP bb 0, vP bb 0, vP bb 0, vP bb 1] rfl <| r_l bv 0 _ _ _ _ rfl rfl rfl rfl rfl <| r_V (vS s) rfl ?_
 obtain ⟨ck9, hM⟩ := ck_some hM
 refine r_apsS (cs0 := []) (Ls := [(kBb108_0 bb (vP bb 0) bv), S6]) 1 s rfl rfl rfl rfl rfl H7 rfl rfl rfl rfl rfl rfl rfl rfl ck9 rfl (fun s10 S11 H12 => ?_)
 refine r_R [vP bb 0, vP bb 1] rfl <| r_s (List.flatten [(kBb108_0 bb (vP bb 0) s10), S11]) 0 _ _ _ _ _ (#[vP bb 0, s10]) rfl rfl rfl (cells_sl rfl (Sl.shp H12)) (.ofS rfl rfl (all_cons' (Shp.one (Sl.shp H12)) all_nil')) rfl rfl <| lx_nil <| A_sr <| r_V (vS s) rfl <| r_W (vI ((s).length : Int)) rfl (ev_lenS rfl rfl rfl) <| r_R [vI ((s).length : Int), Value.nilIface] rfl <| lx_nil ?_
 obtain rfl := Option.some.inj hM
 refine A_ret (fun hn => endsO (v0 := vT #[vI ((s).length : Int), Value.nilIface]) (O := [S11, (kBb108_0 bb (vP bb 0) s10)]) (res2 rfl rfl) (Sub.pick [(kBb108_0 bb (vP bb 0) s10), S11] [1, 0] rfl) ⟨s10, S11, _, H12, ⟨rfl, rfl⟩, rfl⟩)
def strings_Builder_WriteString_v2b_m (N : Nat) (b : List UInt8) (s : List UInt8) : Option (Int × (List UInt8)) := strings_Builder_WriteString_v2_m N b s
set_option maxRecDepth 100000 in
theorem strings_Builder_WriteString_v2b_g (N : Nat) (b s : List UInt8) (r) (hM : strings_Builder_WriteString_v2b_m N b s = some r) (ro : Addr → Option Value) (vb_ : Value) (Sb_ : List Bl) (Hb_ : Bd 108 5 vb_ b Sb_) : Does Tryd.prog 41 #[vb_, vS s] ro (List.flatten [Sb_]) (pO (List.flatten [Sb_]) (oIB 108 5 vb_ r.2 (oE (vT #[vI r.1, Value.nilIface]) []))) := by
 rw [flat_one]
 obtain ⟨b_, f_, s_, S0_, rfl, H0_, rfl⟩ := Hb_
 cases f_
 ·exact bd_w (f := true) (strings_Builder_WriteString_v1_g N b s r hM ro b_ s_ S0_ H0_ )
 exact bd_w (f := true) (strings_Builder_WriteString_v2_g N b s r hM ro b_ s_ S0_ H0_ )
def strings_Builder_String_v1_m (_ : Nat) (b : List UInt8) : Option (List UInt8) := ck ((b).length ≤ 140737488355328) (some b)
set_option maxRecDepth 100000 in
set_option maxHeartbeats 8000000 in
theorem strings_Builder_String_v1_g (N : Nat) (b r : List UInt8) (hM : strings_Builder_String_v1_m N b = some r) (ro : Addr → Option Value) (bb : Nat) (bv : Value) (Sb : List Bl) (hb : Sl 5 encYs bv b Sb) : Does Tryd.prog 42 #[vP bb 0] ro (List.flatten [(kBb108_0 bb (Value.pointer none) bv), Sb]) (pO (List.flatten [(kBb108_0 bb (Value.pointer none) bv), Sb]) (oE (vS r) [])) := by
 unfold strings_Builder_String_v1_m at hM
 refine doesO_of_A follows Tryd.func42 rfl 14 rfl (upd (fun _ => undef) 0 (vP bb 0)) (by funext k; match k with | 0 => rfl | k + 1 => rfl) (fun _ _ h_ _ => h_) (fun base0_ => ?_)
 refine A_sr <| r_V (Value.string (⟨#[]⟩)) rfl <| lx_nil <| A_seq fun K2 hK2 => A_drawR [(some 7, false), (some 13, true)] (conG Tryd.prog [(7, fun _ _ v_ L_ U_ => (fun v_ L_ U_ => UsdP bv v_ ∧ L_ = [] ∧ U_ = []) v_ L_ U_), (13, fun _ _ v_ L_ U_ => (pUp (fun v_ U_ => v_ = .string ⟨(b).toArray⟩ ∧ U_ = deadB Sb)) v_ L_ U_)]) [] (by decide +kernel) (fun hn => sep_nil) <| r_R [vP bb 0, vP bb 0, vP bb 1] rfl <| r_l bv 0 _ _ _ _ rfl rfl rfl rfl rfl <| r_usd (Ls := [(kBb108_0 bb (Value.pointer none) bv), Sb]) 1 rfl rfl rfl rfl rfl hb rfl rfl (fun _ _ _ _ _ => Iff.rfl) (fun u3 hu4 => ?_)
 refine r_R [vP bb 0, vP bb 0, vP bb 1] rfl <| r_l bv 0 _ _ _ _ rfl rfl rfl rfl rfl <| r_W (vI ((b).length : Int)) rfl (ev_lenSl rfl rfl rfl (Sl.shp hb)) ?_
 obtain ⟨ck5, hM⟩ := ck_some hM
 refine r_uss (Ls := [(kBb108_0 bb (Value.pointer none) bv), Sb]) 1 (xs := b) rfl rfl rfl rfl rfl rfl hb hu4 rfl (by kernel_rfl) rfl ck5 (fun _ _ _ _ _ => Iff.rfl) <| lx_perm (Ls := [(kBb108_0 bb (Value.pointer none) bv), deadB Sb]) (Ls' := [(kBb108_0 bb (Value.pointer none) bv)]) [0] rfl rfl <| r_V (vS b) rfl <| lx_nil <| hK2 _ _ ?_; try clear hK2 K2
 obtain rfl := Option.some.inj hM
 refine A_ret (fun hn => endsO (v0 := vS b) (O := []) (res1 rfl) (Sub.nil _) ⟨rfl, rfl⟩)
def strings_Builder_String_v2_m (_ : Nat) (b : List UInt8) : Option (List UInt8) := ck ((b).length ≤ 140737488355328) (some b)
set_option maxRecDepth 100000 in
set_option maxHeartbeats 8000000 in
theorem strings_Builder_String_v2_g (N : Nat) (b r : List UInt8) (hM : strings_Builder_String_v2_m N b = some r) (ro : Addr → Option Value) (bb : Nat) (bv : Value) (Sb : List Bl) (hb : Sl 5 encYs bv b Sb) : Does Tryd.prog 42 #[vP bb 0] ro (List.flatten [(kBb108_0 bb (vP bb 0) bv), Sb]) (pO (List.flatten [(kBb108_0 bb (vP bb 0) bv), Sb]) (oE (vS r) [])) := by
 unfold strings_Builder_String_v2_m at hM
 refine doesO_of_A follows Tryd.func42 rfl 14 rfl (upd (fun _ => undef) 0 (vP bb 0)) (by funext k; match k with | 0 => rfl | k + 1 => rfl) (fun _ _ h_ _ => h_) (fun base0_ => ?_)
 refine A_sr <| r_V (Value.string (⟨#[]⟩)) rfl <| lx_nil <| A_seq fun K2 hK2 => A_drawR [(some 7, false), (some 13, true)] (conG Tryd.prog [(7, fun _ _ v_ L_ U_ => (fun v_ L_ U_ => UsdP bv v_ ∧ L_ = [] ∧ U_ = []) v_ L_ U_), (13, fun _ _ v_ L_ U_ => (pUp (fun v_ U_ => v_ = .string ⟨(b).toArray⟩ ∧ U_ = deadB Sb)) v_ L_ U_)]) [] (by decide +kernel) (fun hn => sep_nil) <| r_R [vP bb 0, vP bb 0, vP bb 1] rfl <| r_l bv 0 _ _ _ _ rfl rfl rfl rfl rfl <| r_usd (Ls := [(kBb108_0 bb (vP bb 0) bv), Sb]) 1 rfl rfl rfl rfl rfl hb rfl rfl (fun _ _ _ _ _ => Iff.rfl) (fun u3 hu4 => ?_)
 refine r_R [vP bb 0, vP bb 0, vP bb 1] rfl <| r_l bv 0 _ _ _ _ rfl rfl rfl rfl rfl <| r_W (vI ((b).length : Int)) rfl (ev_lenSl rfl rfl rfl (Sl.shp hb)) ?_
 obtain ⟨ck5, hM⟩ := ck_some hM
 refine r_uss (Ls := [(kBb108_0 bb (vP bb 0) bv), Sb]) 1 (xs := b) rfl rfl rfl rfl rfl rfl hb hu4 rfl (by kernel_rfl) rfl ck5 (fun _ _ _ _ _ => Iff.rfl) <| lx_perm (Ls := [(kBb108_0 bb (vP bb 0) bv), deadB Sb]) (Ls' := [(kBb108_0 bb (vP bb 0) bv)]) [0] rfl rfl <| r_V (vS b) rfl <| lx_nil <| hK2 _ _ ?_; try clear hK2 K2
 obtain rfl := Option.some.inj hM
 refine A_ret (fun hn => endsO (v0 := vS b) (O := []) (res1 rfl) (Sub.nil _) ⟨rfl, rfl⟩)
def strings_Builder_String_v2b_m (N : Nat) (b : List UInt8) : Option (List UInt8) := strings_Builder_String_v2_m N b
set_option maxRecDepth 100000 in
theorem strings_Builder_String_v2b_g (N : Nat) (b r : List UInt8) (hM : strings_Builder_String_v2b_m N b = some r) (ro : Addr → Option Value) (vb_ : Value) (Sb_ : List Bl) (Hb_ : Bd 108 5 vb_ b Sb_) : Does Tryd.prog 42 #[vb_] ro (List.flatten [Sb_]) (pO (List.flatten [Sb_]) (oE (vS r) [])) := by
 rw [flat_one]
 obtain ⟨b_, f_, s_, S0_, rfl, H0_, rfl⟩ := Hb_
 cases f_
 ·exact strings_Builder_String_v1_g N b r hM ro b_ s_ S0_ H0_ 
 exact strings_Builder_String_v2_g N b r hM ro b_ s_ S0_ H0_ 
def strings_Join_k6 (elems : List (List UInt8)) (n3_ : Int) (x4_ : Int) (rec_strings_Join_l5 : Int → Int → Option (List UInt8)) : Option (List UInt8) := ck ((-9223372036854775808 ≤ (n3_ + (((elems)[(x4_).toNat]!).length : Int)) ∧ (n3_ + (((elems)[(x4_).toNat]!).length : Int)) ≤ 9223372036854775807)) (ck (-9223372036854775808 ≤ (x4_ + 1) ∧ (x4_ + 1) ≤ 9223372036854775807) (rec_strings_Join_l5 ((n3_ + (((elems)[(x4_).toNat]!).length : Int))) (x4_ + 1)))
def strings_Join_l9 (N : Nat) (elems : List (List UInt8)) (sep : List UInt8) : Nat → List UInt8 → Int → Option (List UInt8)
  | 0, _, _ => none
  | n45 + 1, Valuep7_, x8_ => if x8_ < ((((elems).take ((elems).length)).drop (((1 : Int)).toNat)).length : Int) then ck (0 ≤ x8_ ∧ x8_ < ((((elems).take ((elems).length)).drop (((1 : Int)).toNat)).length : Int)) ((strings_Builder_WriteString_v2b_m N Valuep7_ sep).bind fun r53 => (strings_Builder_WriteString_v2b_m N r53.2 ((((elems).take ((elems).length)).drop (((1 : Int)).toNat))[(x8_).toNat]!)).bind fun r57 => ck (-9223372036854775808 ≤ (x8_ + 1) ∧ (x8_ + 1) ≤ 9223372036854775807) ((strings_Join_l9 N elems sep n45) r57.2 (x8_ + 1))) else (strings_Builder_String_v2b_m N Valuep7_).bind fun r63 => some r63
def strings_Join_l5 (N : Nat) (elems : List (List UInt8)) (sep : List UInt8) : Nat → Int → Int → Option (List UInt8)
  | 0, _, _ => none
  | n14 + 1, n3_, x4_ => if x4_ < ((elems).length : Int) then ck (0 ≤ x4_ ∧ x4_ < ((elems).length : Int)) (ck (-9223372036854775808 ≤ (9223372036854775807 - n3_) ∧ (9223372036854775807 - n3_) ≤ 9223372036854775807) (if ((((elems)[(x4_).toNat]!).length : Int) : Int) > (9223372036854775807 - n3_) then none else strings_Join_k6 elems n3_ x4_ (strings_Join_l5 N elems sep n14) )) else (strings_Builder_Grow_v1_m N n3_).bind fun r29 => ck (0 ≤ (0 : Int) ∧ (0 : Int) < ((elems).length : Int)) ((strings_Builder_WriteString_v2b_m N r29 ((elems)[((0 : Int)).toNat]!)).bind fun r38 => ck (0 ≤ (1 : Int) ∧ (1 : Int) ≤ ((elems).length : Int)) (strings_Join_l9 N elems sep N r38.2 0))
def strings_Join_k2 (N : Nat) (elems : List (List UInt8)) (sep : List UInt8) (n1_ : Int) : Option (List UInt8) := strings_Join_l5 N elems sep N n1_ 0
def strings_Join_k10 (N : Nat) (elems : List (List UInt8)) (sep : List UInt8) : Option (List UInt8) := ck ((-9223372036854775808 ≤ (((elems).length : Int) - 1) ∧ (((elems).length : Int) - 1) ≤ 9223372036854775807)) (ck ((-9223372036854775808 ≤ (((sep).length : Int) * (((elems).length : Int) - 1)) ∧ (((sep).length : Int) * (((elems).length : Int) - 1)) ≤ 9223372036854775807)) (ck ((-9223372036854775808 ≤ (0 + (((sep).length : Int) * (((elems).length : Int) - 1))) ∧ (0 + (((sep).length : Int) * (((elems).length : Int) - 1))) ≤ 9223372036854775807)) (strings_Join_k2 N elems sep ((0 + (((sep).length : Int) * (((elems).length : Int) - 1)))))))
def strings_Join_m (N : Nat) (elems : List (List UInt8)) (sep : List UInt8) : Option (List UInt8) := if (((elems).length : Int) : Int) = 0 then some ([]) else if (((elems).length : Int) : Int) = 1 then ck (0 ≤ (0 : Int) ∧ (0 : Int) < ((elems).length : Int)) (some ((elems)[((0 : Int)).toNat]!)) else if (((sep).length : Int) : Int) > 0 then ck ((-9223372036854775808 ≤ (((elems).length : Int) - 1) ∧ (((elems).length : Int) - 1) ≤ 9223372036854775807)) (ck (((0 : Int) ≤ 9223372036854775807 ∧ (9223372036854775807 : Int) ≤ 9223372036854775807) ∧ (0 : Int) < (((elems).length : Int) - 1)) (if (((sep).length : Int) : Int) ≥ 9223372036854775807 / (((elems).length : Int) - 1) then none else strings_Join_k10 N elems sep )) else strings_Join_k2 N elems sep 0
set_option maxRecDepth 100000 in
set_option maxHeartbeats 8000000 in
theorem strings_Join_g (N : Nat) (elems : List (List UInt8)) (sep r : List UInt8) (hM : strings_Join_m N elems sep = some r) (ro : Addr → Option Value) (elemsv : Value) (helems : Rd encS ro elemsv elems) : Does Tryd.prog 32 #[elemsv, vS sep] ro [] (pV (vS r)) := by
 unfold strings_Join_m at hM
 refine does_of_A follows Tryd.func32 rfl 75 rfl (upd (upd (fun _ => undef) 1 (vS sep)) 0 elemsv) (by funext k; match k with | 0 => rfl | 1 => rfl | k + 2 => rfl) (fun base0_ => ?_)
 refine A_sr <| r_V (Value.string (⟨#[]⟩)) rfl <| lx_nil <| A_seq fun K2 hK2 => A_sr <| r_V elemsv rfl <| r_W (vI ((elems).length : Int)) rfl (ev_lenSl rfl rfl rfl (Rd.shp helems)) <| lx_nil <| A_block <| A_sr <| r_R [vB (((((elems).length : Int) : Int) == 0)), vB (((((elems).length : Int) : Int) == 0))] rfl <| lx_nil <| A_cond (((((elems).length : Int) : Int) == 0)) rfl (fun hc5 => ?_) (fun hc5 => ?_)
 ·replace hM := ifp (eq_of_beq hc5) hM
  refine A_sr <| r_V (Value.string (⟨#[]⟩)) rfl <| lx_nil ?_
  obtain rfl := Option.some.inj hM
  refine A_ret (fun hn => endsV (v0 := Value.string (⟨#[]⟩)) rfl (res1 rfl))
 replace hM := ifn (ne_of_beq_false hc5) hM
 refine A_sr <| r_R [vB (((((elems).length : Int) : Int) == 1)), vB (((((elems).length : Int) : Int) == 1))] rfl <| lx_nil <| A_cond (((((elems).length : Int) : Int) == 1)) rfl (fun hc8 => ?_) (fun hc8 => ?_)
 ·replace hM := ifp (eq_of_beq hc8) hM
  refine A_sr <| r_V elemsv rfl ?_
  obtain ⟨ck10, hM⟩ := ck_some hM
  refine r_W (elA elemsv (((0 : Int)).toNat * 1)) rfl (ev_v (ev_idxSl rfl rfl rfl (Rd.shp helems) ck10)) <| r_le (vS ((elems)[((0 : Int)).toNat]!)) (En := encS) ((elems)[((0 : Int)).toNat]!) (((0 : Int)).toNat) 0 rfl rfl (rd_ro helems) (get_of ck10) rfl <| r_V (vS ((elems)[((0 : Int)).toNat]!)) rfl <| lx_nil ?_
  obtain rfl := Option.some.inj hM
  refine A_ret (fun hn => endsV (v0 := vS ((elems)[((0 : Int)).toNat]!)) rfl (res1 rfl))
 replace hM := ifn (ne_of_beq_false hc8) hM
 refine A_skip <| hK2 _ _ ?_; try clear hK2 K2
 refine A_sr <| r_V (vI 0) rfl <| lx_nil <| A_cut (fun tt ll => ∃ (n1_ : Int), (strings_Join_k2 N elems sep n1_ = some r) ∧ Is [(0, elemsv), (1, vS sep), (5, vI n1_)] [] tt ll) ?_ ?_
 ·refine A_sr <| r_V (vS sep) rfl <| r_W (vI ((sep).length : Int)) rfl (ev_lenS rfl rfl rfl) <| r_V (vB (decide ((((sep).length : Int) : Int) > 0))) rfl <| lx_nil <| A_cond (decide ((((sep).length : Int) : Int) > 0)) rfl (fun hc66 => ?_) (fun hc66 => ?_)
  ·replace hM := ifp (of_decide_eq_true hc66) hM
   refine A_cut (fun tt ll => (strings_Join_k10 N elems sep  = some r) ∧ Is [(0, elemsv), (1, vS sep), (5, vI 0)] [] tt ll) ?_ ?_
   ·refine A_sr <| r_V (vS sep) rfl <| r_W (vI ((sep).length : Int)) rfl (ev_lenS rfl rfl rfl) <| r_V elemsv rfl <| r_W (vI ((elems).length : Int)) rfl (ev_lenSl rfl rfl rfl (Rd.shp helems)) ?_
    obtain ⟨ck71, hM⟩ := ck_some hM
    refine r_X (vI (((elems).length : Int) - 1)) rfl (wi64 rfl ck71.1 ck71.2) rfl ?_
    obtain ⟨ck72, hM⟩ := ck_some hM
    refine r_v (vI (9223372036854775807 / (((elems).length : Int) - 1))) rfl rfl (quo_i64 ck72.1.1 (Int.le_of_lt ck72.2) ck72.1.2) (ev_quoI rfl rfl ck72.2) <| r_V (vB (decide ((((sep).length : Int) : Int) ≥ 9223372036854775807 / (((elems).length : Int) - 1)))) rfl <| lx_nil <| A_cond (decide ((((sep).length : Int) : Int) ≥ 9223372036854775807 / (((elems).length : Int) - 1))) rfl (fun hc73 => ?_) (fun hc73 => ?_)
    ·replace hM := ifp (of_decide_eq_true hc73) hM
     refine A_reg <| r_V (Value.iface 9 (Value.string (⟨#[115, 116, 114, 105, 110, 103, 115, 58, 32, 74, 111, 105, 110, 32, 111, 117, 116, 112, 117, 116, 32, 108, 101, 110, 103, 116, 104, 32, 111, 118, 101, 114, 102, 108, 111, 119]⟩))) rfl ?_
     cases hM
    replace hM := ifn (of_decide_eq_false hc73) hM
    refine A_skip <| fg _ (Sub.of List.Sublist.slnil) ?_
    exact ⟨hM, is_mk rfl rfl⟩
   clear hM; rintro t l ⟨hM, ⟨T, rfl⟩, rfl⟩
   unfold strings_Join_k10 at hM
   refine A_reg <| r_R [vI 0, vS sep] rfl <| r_W (vI ((sep).length : Int)) rfl (ev_lenS rfl rfl rfl) <| r_V elemsv rfl <| r_W (vI ((elems).length : Int)) rfl (ev_lenSl rfl rfl rfl (Rd.shp helems)) ?_
   obtain ⟨ck67, hM⟩ := ck_some hM
   refine r_X (vI (((elems).length : Int) - 1)) rfl (wi64 rfl ck67.1 ck67.2) rfl ?_
   obtain ⟨ck68, hM⟩ := ck_some hM
   refine r_X (vI ((((sep).length : Int) * (((elems).length : Int) - 1)))) rfl (wi64 rfl ck68.1 ck68.2) rfl ?_
   obtain ⟨ck69, hM⟩ := ck_some hM
   refine r_X (vI ((0 + (((sep).length : Int) * (((elems).length : Int) - 1))))) rfl (wi64 rfl ck69.1 ck69.2) rfl <| r_V (vI ((0 + (((sep).length : Int) * (((elems).length : Int) - 1))))) rfl <| lx_nil <| fg _ (Sub.of List.Sublist.slnil) ?_
   exact ⟨(0 + (((sep).length : Int) * (((elems).length : Int) - 1))), hM, is_mk rfl rfl⟩
  replace hM := ifn (of_decide_eq_false hc66) hM
  refine A_skip <| fg _ (Sub.of List.Sublist.slnil) ?_
  exact ⟨0, hM, is_mk rfl rfl⟩
 clear hM; rintro t l ⟨n1_, hM, ⟨T, rfl⟩, rfl⟩
 unfold strings_Join_k2 at hM
 refine A_seq fun K12 hK12 => A_sr <| r_V elemsv rfl <| r_W (vI ((elems).length : Int)) rfl (ev_lenSl rfl rfl rfl (Rd.shp helems)) <| r_V (vI 0) rfl <| lx_nil <| A_block <| A_loop (fun tt ll nn => ∃ (n14 : Nat) (n3_ : Int) (x4_ : Int), (strings_Join_l5 N elems sep n14 n3_ x4_ = some r) ∧ Is [(0, elemsv), (1, vS sep), (5, vI n3_), (39, elemsv), (40, vI ((elems).length : Int)), (41, vI x4_)] [] tt ll ∧ nn = n14 + 1) (N + 1) ?_ ?_
 ·exact ⟨N, n1_, 0, hM, is_mk rfl rfl, rfl⟩
 clear hM; rintro t l _ ⟨n14, n3_, x4_, hM, ⟨⟨T, rfl⟩, rfl⟩, rfl⟩
 rcases n14 with _ | n14
 ·exact absurd hM (by simp [strings_Join_l5])
 rw [strings_Join_l5] at hM
 refine A_sr <| r_V (vB (decide (x4_ < ((elems).length : Int)))) rfl <| lx_nil <| A_seq fun K16 hK16 => A_cond (decide (x4_ < ((elems).length : Int))) rfl (fun hc17 => ?_) (fun hc17 => ?_)
 ·replace hM := ifp (of_decide_eq_true hc17) hM
  refine A_skip <| hK16 _ _ ?_; try clear hK16 K16
  refine A_seq fun K18 hK18 => A_block <| A_sr ?_
  obtain ⟨ck20, hM⟩ := ck_some hM
  refine r_W (elA elemsv ((x4_).toNat * 1)) rfl (ev_v (ev_idxSl rfl rfl rfl (Rd.shp helems) ck20)) <| r_le (vS ((elems)[(x4_).toNat]!)) (En := encS) ((elems)[(x4_).toNat]!) ((x4_).toNat) 0 rfl rfl (rd_ro helems) (get_of ck20) rfl <| r_V (vS ((elems)[(x4_).toNat]!)) rfl <| lx_nil <| A_cut (fun tt ll => (strings_Join_k6 elems n3_ x4_ (strings_Join_l5 N elems sep n14)  = some r) ∧ Is [(0, elemsv), (1, vS sep), (5, vI n3_), (7, vS ((elems)[(x4_).toNat]!)), (39, elemsv), (40, vI ((elems).length : Int)), (41, vI x4_)] [] tt ll) ?_ ?_
  ·refine A_sr <| r_V (vS ((elems)[(x4_).toNat]!)) rfl <| r_W (vI (((elems)[(x4_).toNat]!).length : Int)) rfl (ev_lenS rfl rfl rfl) <| r_V (vI n3_) rfl ?_
   obtain ⟨ck24, hM⟩ := ck_some hM
   refine r_X (vI (9223372036854775807 - n3_)) rfl (wi64 rfl ck24.1 ck24.2) rfl <| r_V (vB (decide (((((elems)[(x4_).toNat]!).length : Int) : Int) > (9223372036854775807 - n3_)))) rfl <| lx_nil <| A_cond (decide (((((elems)[(x4_).toNat]!).length : Int) : Int) > (9223372036854775807 - n3_))) rfl (fun hc25 => ?_) (fun hc25 => ?_)
   ·replace hM := ifp (of_decide_eq_true hc25) hM
    refine A_reg <| r_V (Value.iface 9 (Value.string (⟨#[115, 116, 114, 105, 110, 103, 115, 58, 32, 74, 111, 105, 110, 32, 111, 117, 116, 112, 117, 116, 32, 108, 101, 110, 103, 116, 104, 32, 111, 118, 101, 114, 102, 108, 111, 119]⟩))) rfl ?_
    cases hM
   replace hM := ifn (of_decide_eq_false hc25) hM
   refine A_skip <| fg _ (Sub.of List.Sublist.slnil) ?_
   exact ⟨hM, is_mk rfl rfl⟩
  clear hM; rintro t l ⟨hM, ⟨T, rfl⟩, rfl⟩
  unfold strings_Join_k6 at hM
  refine A_reg <| r_R [vI n3_, vS ((elems)[(x4_).toNat]!)] rfl <| r_W (vI (((elems)[(x4_).toNat]!).length : Int)) rfl (ev_lenS rfl rfl rfl) ?_
  obtain ⟨ck21, hM⟩ := ck_some hM
  refine r_X (vI ((n3_ + (((elems)[(x4_).toNat]!).length : Int)))) rfl (wi64 rfl ck21.1 ck21.2) rfl <| r_V (vI ((n3_ + (((elems)[(x4_).toNat]!).length : Int)))) rfl <| lx_nil <| hK18 _ _ ?_; try clear hK18 K18
  refine A_reg ?_
  obtain ⟨ck22, hM⟩ := ck_some hM
  refine r_X (vI (x4_ + 1)) rfl (wi64 rfl ck22.1 ck22.2) rfl <| r_V (vI (x4_ + 1)) rfl <| lx_nil <| fg _ (Sub.of List.Sublist.slnil) ?_
  exact ⟨n14 + 1, by omega, n14, (n3_ + (((elems)[(x4_).toNat]!).length : Int)), (x4_ + 1), hM, is_mk rfl rfl, rfl⟩
 replace hM := ifn (of_decide_eq_false hc17) hM
 refine A_exit <| hK12 _ _ ?_; try clear hK12 K12
 refine A_sr <| r_a (108, #[Value.pointer none, nS]) rfl rfl rfl (fun b27 => ?_) (.inr rfl)
 refine lx_nil <| A_sc [(some 57, true)] (conG Tryd.prog [(57, fun _ _ v_ L_ U_ => ∀ u0_, strings_Builder_Grow_v1_m N n3_ = some u0_ → (pO (List.flatten [(kBb108_0 b27 (Value.pointer none) nS)]) (oS 5 encYs u0_ fun s_0 => (oE (vT #[]) [(kBb108_0 b27 (vP b27 0) s_0)]))) v_ L_ U_)]) <| r_V (vI n3_) rfl ?_
 obtain ⟨r29, hr30, hM⟩ := bind_sm hM
 refine r_gm (Ls := [(kBb108_0 b27 (Value.pointer none) nS)]) (FL := [(kBb108_0 b27 (Value.pointer none) nS)]) [0] _ (some 57) 40 _ rfl rfl rfl rfl rfl (ev_callF rfl call_40 rfl) (fun own_ nw_ hn_ hs_ => strings_Builder_Grow_v1_g N n3_ _ hr30 _ b27) (conE hr30) (fun h_ => nomatch h_) ?_
 rintro _ _ ⟨s31, S32, _, H33, ⟨rfl, rfl⟩, rfl⟩
 refine lx_perm (Ls := [S32, (kBb108_0 b27 (vP b27 0) s31)]) (Ls' := [(kBb108_0 b27 (vP b27 0) s31), S32]) [1, 0] rfl rfl <| lx_perm (Ls := [(kBb108_0 b27 (vP b27 0) s31), S32]) (Ls' := [(kBb108_0 b27 (vP b27 0) s31), S32]) [0, 1] rfl rfl <| lx_eq (Ls := [(kBb108_0 b27 (vP b27 0) s31), S32]) (Ls' := [(List.flatten [(kBb108_0 b27 (vP b27 0) s31), S32])]) (by simp only [List.flatten_cons, List.flatten_nil, List.append_nil, List.append_assoc]) <| lx_name (Ls := [(List.flatten [(kBb108_0 b27 (vP b27 0) s31), S32])]) (p := fun S_ => Bd 108 5 (vP b27 0) r29 S_) 0 rfl ⟨b27, true, _, _, rfl, H33, rfl⟩ (fun S34 H35 => ?_)
 refine lx_nil <| A_sc [(some 61, true)] (conG Tryd.prog [(61, fun _ _ v_ L_ U_ => ∀ u0_, strings_Builder_WriteString_v2b_m N r29 ((elems)[((0 : Int)).toNat]!) = some u0_ → (pO (List.flatten [S34]) (oIB 108 5 (vP b27 0) u0_.2 (oE (vT #[vI u0_.1, Value.nilIface]) []))) v_ L_ U_)]) <| r_V elemsv rfl ?_
 obtain ⟨ck37, hM⟩ := ck_some hM
 refine r_W (elA elemsv (((0 : Int)).toNat * 1)) rfl (ev_v (ev_idxSl rfl rfl rfl (Rd.shp helems) ck37)) <| r_le (vS ((elems)[((0 : Int)).toNat]!)) (En := encS) ((elems)[((0 : Int)).toNat]!) (((0 : Int)).toNat) 0 rfl rfl (rd_ro helems) (get_of ck37) rfl ?_
 obtain ⟨r38, hr39, hM⟩ := bind_sm hM
 refine r_gm (Ls := [S34]) (FL := [S34]) [0] _ (some 61) 41 _ rfl rfl rfl rfl rfl (ev_callF rfl call_41 rfl) (fun own_ nw_ hn_ hs_ => strings_Builder_WriteString_v2b_g N r29 ((elems)[((0 : Int)).toNat]!) _ hr39 _ (vP b27 0) S34 H35) (conE hr39) (fun h_ => nomatch h_) ?_
 rintro _ _ ⟨S40, _, H41, ⟨rfl, rfl⟩, rfl⟩
 refine lx_perm (Ls := [S40]) (Ls' := [S40]) [0] rfl rfl <| lx_nil <| A_seq fun K42 hK42 => A_sr <| r_V elemsv rfl ?_
 obtain ⟨ck44, hM⟩ := ck_some hM
 refine r_W (subA elemsv (((1 : Int)).toNat) ((elems).length) 1) rfl (ev_v (ev_subSl1 rfl rfl rfl rfl (Rd.shp helems) ck44)) <| r_W (vI (((((elems).take ((elems).length)).drop (((1 : Int)).toNat)).length : Int))) rfl (ev_lenSl rfl rfl rfl (shp_len (Shp.sub (Rd.shp helems) (toNat_len ck44.2) (Nat.le_refl _)) (len_td (Nat.le_refl _)))) <| r_V (vI 0) rfl <| lx_nil <| A_block <| A_forget _ (Sub.pick [S40] [0] rfl) ?_
 refine A_loop (fun tt ll nn => ∃ (n45 : Nat) (Valuep7_ : List UInt8) (x8_ : Int), (strings_Join_l9 N elems sep n45 Valuep7_ x8_ = some r) ∧ ∃ (SValuep7_ : List Bl), Bd 108 5 (vP b27 0) Valuep7_ SValuep7_ ∧ Is [(1, vS sep), (8, vP b27 0), (63, subA elemsv (((1 : Int)).toNat) ((elems).length) 1), (64, vI (((((elems).take ((elems).length)).drop (((1 : Int)).toNat)).length : Int))), (65, vI x8_)] (List.flatten [SValuep7_]) tt ll ∧ nn = n45 + 1) (N + 1) ?_ ?_
 ·exact ⟨N, r38.2, 0, hM, S40, H41, is_mk rfl rfl, rfl⟩
 clear hM; rintro t l _ ⟨n45, Valuep7_, x8_, hM, SValuep7_, hValuep7_, ⟨⟨T, rfl⟩, rfl⟩, rfl⟩
 rcases n45 with _ | n45
 ·exact absurd hM (by simp [strings_Join_l9])
 rw [strings_Join_l9] at hM
 refine A_sr <| r_V (vB (decide (x8_ < ((((elems).take ((elems).length)).drop (((1 : Int)).toNat)).length : Int)))) rfl <| lx_nil <| A_seq fun K47 hK47 => A_cond (decide (x8_ < ((((elems).take ((elems).length)).drop (((1 : Int)).toNat)).length : Int))) rfl (fun hc48 => ?_) (fun hc48 => ?_)
 ·replace hM := ifp (of_decide_eq_true hc48) hM
  refine A_skip <| hK47 _ _ ?_; try clear hK47 K47
  refine A_seq fun K49 hK49 => A_block <| A_sr ?_
  obtain ⟨ck51, hM⟩ := ck_some hM
  refine r_W (elA (subA elemsv (((1 : Int)).toNat) ((elems).length) 1) ((x8_).toNat * 1)) rfl (ev_v (ev_idxSl rfl rfl rfl (shp_len (Shp.sub (Rd.shp helems) (toNat_len ck44.2) (Nat.le_refl _)) (len_td (Nat.le_refl _))) ck51)) <| r_le (vS ((((elems).take ((elems).length)).drop (((1 : Int)).toNat))[(x8_).toNat]!)) (En := encS) ((((elems).take ((elems).length)).drop (((1 : Int)).toNat))[(x8_).toNat]!) ((x8_).toNat) 0 rfl rfl (rd_sub (rd_ro helems) (toNat_len ck44.2) (Nat.le_refl _)) (get_of ck51) rfl <| r_V (vS ((((elems).take ((elems).length)).drop (((1 : Int)).toNat))[(x8_).toNat]!)) rfl <| lx_nil ?_
  refine A_sc [(some 70, true)] (conG Tryd.prog [(70, fun _ _ v_ L_ U_ => ∀ u0_, strings_Builder_WriteString_v2b_m N Valuep7_ sep = some u0_ → (pO (List.flatten [SValuep7_]) (oIB 108 5 (vP b27 0) u0_.2 (oE (vT #[vI u0_.1, Value.nilIface]) []))) v_ L_ U_)]) <| r_V (vS sep) rfl ?_
  obtain ⟨r53, hr54, hM⟩ := bind_sm hM
  refine r_gm (Ls := [SValuep7_]) (FL := [SValuep7_]) [0] _ (some 70) 41 _ rfl rfl rfl rfl rfl (ev_callF rfl call_41 rfl) (fun own_ nw_ hn_ hs_ => strings_Builder_WriteString_v2b_g N Valuep7_ sep _ hr54 _ (vP b27 0) SValuep7_ hValuep7_) (conE hr54) (fun h_ => nomatch h_) ?_
  rintro _ _ ⟨S55, _, H56, ⟨rfl, rfl⟩, rfl⟩
  refine lx_perm (Ls := [S55]) (Ls' := [S55]) [0] rfl rfl <| lx_nil <| A_regC [(some 72, true)] (conG Tryd.prog [(72, fun _ _ v_ L_ U_ => ∀ u0_, strings_Builder_WriteString_v2b_m N r53.2 ((((elems).take ((elems).length)).drop (((1 : Int)).toNat))[(x8_).toNat]!) = some u0_ → (pO (List.flatten [S55]) (oIB 108 5 (vP b27 0) u0_.2 (oE (vT #[vI u0_.1, Value.nilIface]) []))) v_ L_ U_)]) <| r_V (vS ((((elems).take ((elems).length)).drop (((1 : Int)).toNat))[(x8_).toNat]!)) rfl ?_
  obtain ⟨r57, hr58, hM⟩ := bind_sm hM
  refine r_gm (Ls := [S55]) (FL := [S55]) [0] _ (some 72) 41 _ rfl rfl rfl rfl rfl (ev_callF rfl call_41 rfl) (fun own_ nw_ hn_ hs_ => strings_Builder_WriteString_v2b_g N r53.2 ((((elems).take ((elems).length)).drop (((1 : Int)).toNat))[(x8_).toNat]!) _ hr58 _ (vP b27 0) S55 H56) (conE hr58) (fun h_ => nomatch h_) ?_
  rintro _ _ ⟨S59, _, H60, ⟨rfl, rfl⟩, rfl⟩
  refine lx_perm (Ls := [S59]) (Ls' := [S59]) [0] rfl rfl <| lx_nil <| hK49 _ _ ?_; try clear hK49 K49
  refine A_reg ?_
  obtain ⟨ck61, hM⟩ := ck_some hM
  refine r_X (vI (x8_ + 1)) rfl (wi64 rfl ck61.1 ck61.2) rfl <| r_V (vI (x8_ + 1)) rfl <| lx_nil <| fg _ (Sub.pick [S59] [0] rfl) ?_
  exact ⟨n45 + 1, by omega, n45, r57.2, (x8_ + 1), hM, S59, H60, is_mk rfl rfl, rfl⟩
 replace hM := ifn (of_decide_eq_false hc48) hM
 refine A_exit <| hK42 _ _ ?_; try clear hK42 K42
 refine A_sc [(some 74, true)] (conG Tryd.prog [(74, fun _ _ v_ L_ U_ => ∀ u0_, strings_Builder_String_v2b_m N Valuep7_ = some u0_ → (pO (List.flatten [SValuep7_]) (oE (vS u0_) [])) v_ L_ U_)]) ?_
 obtain ⟨r63, hr64, hM⟩ := bind_sm hM
 refine r_gm (Ls := [SValuep7_]) (FL := [SValuep7_]) [0] _ (some 74) 42 _ rfl rfl rfl rfl rfl (ev_callF rfl call_42 rfl) (fun own_ nw_ hn_ hs_ => strings_Builder_String_v2b_g N Valuep7_ _ hr64 _ (vP b27 0) SValuep7_ hValuep7_) (conE hr64) (fun h_ => nomatch h_) ?_
 rintro _ _ ⟨rfl, rfl⟩
 refine lx_perm (Ls := []) (Ls' := []) [] rfl rfl <| r_V (vS r63) rfl <| lx_nil ?_
 obtain rfl := Option.some.inj hM
 refine A_ret (fun hn => endsV (v0 := vS r63) rfl (res1 rfl))
def code_Text_m (N : Nat) (x_0 : Int) (x_1 : Int) (x_2 : Int) (x_3 : Int) (x_4 : BitVec 128) : Option (List UInt8) := (code_isOp_m N x_0).bind fun r5 => if r5 = true then (code_Name_m N x_0).bind fun r10 => (code_words_m N x_0 x_1 x_2 x_3 x_4).bind fun r15 => ck (([r10]).length + (r15).length ≤ 8796093022208) ((strings_Join_m N (([r10]) ++ r15) ([32] : List UInt8)).bind fun r24 => some r24) else some ([])
set_option maxRecDepth 100000 in
set_option maxHeartbeats 8000000 in
theorem code_Text_g (N : Nat) (x_0 x_1 x_2 x_3 : Int) (x_4 : BitVec 128) (r) (hM : code_Text_m N x_0 x_1 x_2 x_3 x_4 = some r) (ro : Addr → Option Value) : DoesI Tryd.prog 21 #[vA #[vI x_0, vI x_1, vI x_2, vI x_3, U (hi x_4), U (lo x_4)]] MemI ro [] (pV (vS r)) := by
 unfold code_Text_m at hM
 refine doesI_of_A follows Tryd.func21 rfl 15 rfl (upd (fun _ => undef) 0 (vA #[vI x_0, vI x_1, vI x_2, vI x_3, U (hi x_4), U (lo x_4)])) (by funext k; match k with | 0 => rfl | k + 1 => rfl) memI_kept (fun base0_ => ?_)
 refine A_sr <| r_a (27, #[vI x_0, vI x_1, vI x_2, vI x_3, U (hi x_4), U (lo x_4)]) rfl rfl rfl (fun b2 => ?_) (.inr rfl)
 refine r_V (Value.string (⟨#[]⟩)) rfl <| lx_nil <| A_seq fun K3 hK3 => A_sr <| r_V (vP b2 0) rfl <| r_l (vI x_0) 0 _ _ _ _ rfl rfl rfl rfl rfl ?_
 obtain ⟨r5, hr6, hM⟩ := bind_sm hM
 refine r_c (vB r5) rfl _ _ (ev_callF rfl call_26 rfl) (code_isOp_g N x_0 _ hr6) <| r_V (vB (!(r5))) rfl <| lx_nil <| A_cond (!(r5)) rfl (fun hc7 => ?_) (fun hc7 => ?_)
 ·replace hM := ifn (Bool.eq_false_iff.1 (not_t hc7)) hM
  refine A_sr <| r_V (Value.string (⟨#[]⟩)) rfl <| lx_nil ?_
  obtain rfl := Option.some.inj hM
  refine A_ret (fun hn => endsV (v0 := Value.string (⟨#[]⟩)) rfl (res1 rfl))
 replace hM := ifp (not_f hc7) hM
 refine A_skip <| hK3 _ _ ?_; try clear hK3 K3
 refine A_seq fun K9 hK9 => A_drawR [(some 9, false), (some 1000000011, false), (some 1000000013, false), (some 13, true), (some 14, false)] (conG Tryd.prog [(9, fun _ _ v_ L_ U_ => ∀ u0_, code_Name_m N x_0 = some u0_ → (pV (vS u0_)) v_ L_ U_), (12, fun _ _ v_ L_ U_ => ∀ u0_, code_words_m N x_0 x_1 x_2 x_3 x_4 = some u0_ → (p1 (fun s_ => s_) 9 encS u0_) v_ L_ U_), (14, fun _ _ v_ L_ U_ => ∀ u0_, code_Name_m N x_0 = some u0_ → ∀ u1_, code_words_m N x_0 x_1 x_2 x_3 x_4 = some u1_ → ∀ u2_, strings_Join_m N (([u0_]) ++ u1_) ([32] : List UInt8) = some u2_ → (pV (vS u2_)) v_ L_ U_)]) [] (by decide +kernel) (fun hn => sep_nil) <| r_V (vP b2 0) rfl ?_
 refine r_l (vI x_0) 0 _ _ _ _ rfl rfl rfl rfl rfl ?_
 obtain ⟨r10, hr11, hM⟩ := bind_sm hM
 refine r_gv (vS r10) 20 _ rfl rfl rfl (ev_callF rfl call_20 rfl) (fun own_ nw_ hs_ => code_Name_g N x_0 _ hr11 hs_.view ) (conE hr11) ?_
 refine r_bsB (cs0 := [(9, fun _ _ v_ L_ U_ => ∀ u0_, code_Name_m N x_0 = some u0_ → (pV (vS u0_)) v_ L_ U_), (12, fun _ _ v_ L_ U_ => ∀ u0_, code_words_m N x_0 x_1 x_2 x_3 x_4 = some u0_ → (p1 (fun s_ => s_) 9 encS u0_) v_ L_ U_), (14, fun _ _ v_ L_ U_ => ∀ u0_, code_Name_m N x_0 = some u0_ → ∀ u1_, code_words_m N x_0 x_1 x_2 x_3 x_4 = some u1_ → ∀ u2_, strings_Join_m N (([u0_]) ++ u1_) ([32] : List UInt8) = some u2_ → (pV (vS u2_)) v_ L_ U_)]) (Ls := [(kBb27_1 b2 x_0 x_1 x_2 x_3 (hi x_4) (lo x_4))]) 9 encS [r10] [vS r10] [Value.string (⟨#[]⟩)] rfl rfl rfl rfl rfl rfl rfl (by kernel_rfl) (by kernel_rfl) rfl rfl rfl (fun s12 S13 H14 => ?_)
 refine r_l (vA #[vI x_0, vI x_1, vI x_2, vI x_3, U (hi x_4), U (lo x_4)]) 0 _ _ _ _ rfl rfl rfl rfl rfl ?_
 obtain ⟨r15, hr16, hM⟩ := bind_sm hM
 refine r_g1B (Ls := [(kBb27_1 b2 x_0 x_1 x_2 x_3 (hi x_4) (lo x_4)), S13]) (fun s17 => s17) 9 encS r15 33 _ rfl rfl rfl (ev_callF rfl call_33 rfl) (fun own_ nw_ hs_ => code_words_g N x_0 x_1 x_2 x_3 x_4 _ hr16 hs_.view ) (conE hr16) (fun s17 S18 H19 => ?_)
 obtain ⟨ck20, hM⟩ := ck_some hM
 refine r_app (cs0 := [(9, fun _ _ v_ L_ U_ => ∀ u0_, code_Name_m N x_0 = some u0_ → (pV (vS u0_)) v_ L_ U_), (12, fun _ _ v_ L_ U_ => ∀ u0_, code_words_m N x_0 x_1 x_2 x_3 x_4 = some u0_ → (p1 (fun s_ => s_) 9 encS u0_) v_ L_ U_), (14, fun _ _ v_ L_ U_ => ∀ u0_, code_Name_m N x_0 = some u0_ → ∀ u1_, code_words_m N x_0 x_1 x_2 x_3 x_4 = some u1_ → ∀ u2_, strings_Join_m N (([u0_]) ++ u1_) ([32] : List UInt8) = some u2_ → (pV (vS u2_)) v_ L_ U_)]) (Ls := [(kBb27_1 b2 x_0 x_1 x_2 x_3 (hi x_4) (lo x_4)), S13, S18]) 1 (En := encS) rfl rfl rfl rfl rfl H14 rfl (rd_own H19 (mem_chunk (Ls := [(kBb27_1 b2 x_0 x_1 x_2 x_3 (hi x_4) (lo x_4)), S13, S18]) (k := 2) rfl rfl)) rfl rfl rfl rfl rfl (app_b ck20 rfl) (app_m ck20 rfl) rfl (fun s21 S22 H23 => ?_)
 obtain ⟨r24, hr25, hM⟩ := bind_sm hM
 refine r_gv (vS r24) 32 _ rfl rfl rfl (ev_callF rfl call_32 rfl) (fun own_ nw_ hs_ => (Does.inv (strings_Join_g N (([r10]) ++ r15) ([32] : List UInt8) _ hr25 hs_.view s21 ((rd_own H23 (mem_chunk (Ls := [(kBb27_1 b2 x_0 x_1 x_2 x_3 (hi x_4) (lo x_4)), S22, S18]) (k := 1) rfl rfl)) own_ nw_ hs_)) _)) (fun _ _ v_ L_ U_ => ⟨fun h_ => h_ _ hr11 _ hr16 _ hr25, fun h_ => by intro _ e_; cases Option.some.inj (e_.symm.trans hr11); intro _ e_; cases Option.some.inj (e_.symm.trans hr16); intro _ e_; cases Option.some.inj (e_.symm.trans hr25); exact h_⟩) ?_
 refine r_V (vS r24) rfl <| lx_nil <| hK9 _ _ ?_; try clear hK9 K9
 obtain rfl := Option.some.inj hM
 refine A_ret (fun hn => endsV (v0 := vS r24) rfl (res1 rfl))
def shunterlaw09_lives_m (N : Nat) : Option Bool := (code_Effect_m N 10).bind fun r3 => (code_Text_m N 10 7 0 0 ((0#64) ++ (0#64))).bind fun r6 => if r6 = ([115, 108, 105, 99, 101, 32, 55, 32, 48] : List UInt8) then if r3.1 = 1 then some (r3.2 == 1) else some false else some false
set_option maxRecDepth 100000 in
set_option maxHeartbeats 8000000 in
theorem shunterlaw09_lives_g (N : Nat) (r) (hM : shunterlaw09_lives_m N = some r) (ro : Addr → Option Value) : DoesI Tryd.prog 11 #[] MemI ro [] (pV (vB r)) := by
 unfold shunterlaw09_lives_m at hM
 refine doesI_of_A follows Tryd.func11 rfl 18 rfl (fun _ => undef) (by funext k; rfl) memI_kept (fun base0_ => ?_)
 refine A_sr <| r_V (vB false) rfl <| lx_nil <| A_sr ?_
 obtain ⟨r3, hr4, hM⟩ := bind_sm hM
 refine r_c (vT #[vI r3.1, vI r3.2]) rfl _ _ (ev_callF rfl call_17 rfl) (code_Effect_g N 10 _ hr4) <| r_R [vT #[vI r3.1, vI r3.2], vI r3.1, vI r3.2, vI r3.1, vI r3.2] rfl <| lx_nil <| A_seq fun K5 hK5 => A_regC [(some 8, false)] (conG Tryd.prog [(8, fun _ _ v_ L_ U_ => ∀ u0_, code_Text_m N 10 7 0 0 ((0#64) ++ (0#64)) = some u0_ → (pV (vS u0_)) v_ L_ U_)]) <| r_W (vA #[vI 10, vI 7, vI 0, vI 0, U (0#64), U (0#64)]) rfl (ev_buildS rfl rfl rfl rfl) ?_
 obtain ⟨r6, hr7, hM⟩ := bind_sm hM
 refine r_gv (vS r6) 21 _ rfl rfl rfl (ev_callF rfl call_21 rfl) (fun own_ nw_ hs_ => (by have h_ := code_Text_g N 10 7 0 0 ((0#64) ++ (0#64)) _ hr7 hs_.view ; simp only [app_hl] at h_; exact h_)) (conE hr7) ?_
 refine r_W (vB (r6 == ([115, 108, 105, 99, 101, 32, 55, 32, 48] : List UInt8))) rfl (ev_eqS rfl rfl) <| r_V (vB (r6 == ([115, 108, 105, 99, 101, 32, 55, 32, 48] : List UInt8))) rfl ?_
 rcases hg8 : (r6 == ([115, 108, 105, 99, 101, 32, 55, 32, 48] : List UInt8)) with _ | _
 ·replace hM := ifn (ne_of_beq_false hg8) hM
  refine r_R [none, none, vB false, vB false, none, none, vB false, vB false] rfl <| lx_nil <| hK5 _ _ ?_; try clear hK5 K5
  obtain rfl := Option.some.inj hM
  refine A_ret (fun hn => endsV (v0 := vB false) rfl (res1 rfl))
 replace hM := ifp (eq_of_beq hg8) hM
 refine r_R [vI r3.1, vB (r3.1 == 1), vB (r3.1 == 1), vB (r3.1 == 1)] rfl ?_
 rcases hg9 : (r3.1 == 1) with _ | _
 ·replace hM := ifn (ne_of_beq_false hg9) hM
  refine r_R [none, none, vB false, vB false] rfl <| lx_nil <| hK5 _ _ ?_; try clear hK5 K5
  obtain rfl := Option.some.inj hM
  refine A_ret (fun hn => endsV (v0 := vB false) rfl (res1 rfl))
 replace hM := ifp (eq_of_beq hg9) hM
 refine r_R [vI r3.2, vB (r3.2 == 1), vB (r3.2 == 1), vB (r3.2 == 1)] rfl <| lx_nil <| hK5 _ _ ?_; try clear hK5 K5
 obtain rfl := Option.some.inj hM
 refine A_ret (fun hn => endsV (v0 := vB (r3.2 == 1)) rfl (res1 rfl))
def shunterlaw09_typeOf_m (_ : Nat) (s : Sum31) : Option (List UInt8) := Sum31.on s (some ([])) (fun _ _ => some ([80, 117, 115, 104] : List UInt8)) (fun _ _ _ => some ([80, 108, 97, 99, 101] : List UInt8)) (fun _ _ => some ([67, 101, 108, 108] : List UInt8)) (fun _ _ => some ([79, 110, 101] : List UInt8)) (fun _ _ => some ([80, 97, 114, 116] : List UInt8)) (fun _ _ _ => some ([72, 101, 97, 100, 115] : List UInt8)) (fun _ _ => some ([71, 111, 110, 101] : List UInt8)) (fun _ => some ([84, 119, 111] : List UInt8)) (fun _ _ => some ([83, 108, 111, 116] : List UInt8)) (fun _ _ => some ([74, 117, 109, 112] : List UInt8)) (some ([83, 116, 111, 112] : List UInt8))
set_option maxRecDepth 100000 in
set_option maxHeartbeats 8000000 in
theorem shunterlaw09_typeOf_g (N : Nat) (s : Sum31) (r) (hM : shunterlaw09_typeOf_m N s = some r) : Gives Tryd.prog 12 #[Sum31.v s] (vS r) := by
 unfold shunterlaw09_typeOf_m at hM
 refine gives_of_A follows Tryd.func12 rfl 37 rfl (upd (fun _ => undef) 0 (Sum31.v s)) (by funext k; match k with | 0 => rfl | k + 1 => rfl) (fun base0_ => ?_)
 refine A_sr <| r_V (Value.string (⟨#[]⟩)) rfl <| lx_nil <| A_seq fun K2 hK2 => A_sr <| r_V (Sum31.v s) rfl <| lx_nil <| A_block <| A_seq fun K4 hK4 => A_reg ?_
 rcases Sum31.cases s with hx5 | ⟨x6_0, x7_1, hx5⟩ | ⟨x8_0, x9_1, x10_2, hx5⟩ | ⟨x11_0, x12_1, hx5⟩ | ⟨x13_0, x14_1, hx5⟩ | ⟨x15_0, x16_1, hx5⟩ | ⟨x17_0, x18_1, x19_2, hx5⟩ | ⟨x20_0, x21_1, hx5⟩ | ⟨x22_0, hx5⟩ | ⟨x23_0, x24_1, hx5⟩ | ⟨x25_0, x26_1, hx5⟩ | hx5
 ·replace hM := Sum31.on_nil hx5 hM
  refine r_W (vT #[vA #[vI 0, U (0#64), U (0#64)], vB false]) rfl (ev_taC ((rfl : _ = Sum31.v s).trans (show Sum31.v s = Value.nilIface from by rw [hx5]; rfl)) rfl) ?_
  refine r_R [vB false, vA #[vI 0, U (0#64), U (0#64)]] rfl <| lx_nil <| hK4 _ _ ?_; try clear hK4 K4
  refine A_cond false rfl (fun h_ => nomatch h_) (fun _ => ?_)
  refine A_sr <| r_W (vT #[vA #[vI 0, vI 0, vI 0], vB false]) rfl (ev_taC ((rfl : _ = Sum31.v s).trans (show Sum31.v s = Value.nilIface from by rw [hx5]; rfl)) rfl) ?_
  refine r_R [vB false, vA #[vI 0, vI 0, vI 0]] rfl <| lx_nil <| A_cond false rfl (fun h_ => nomatch h_) (fun _ => ?_)
  refine A_sr <| r_W (vT #[vA #[vI 0, vI 0], vB false]) rfl (ev_taC ((rfl : _ = Sum31.v s).trans (show Sum31.v s = Value.nilIface from by rw [hx5]; rfl)) rfl) ?_
  refine r_R [vB false, vA #[vI 0, vI 0]] rfl <| lx_nil <| A_cond false rfl (fun h_ => nomatch h_) (fun _ => ?_)
  refine A_sr <| r_W (vT #[vA #[vI 0, vI 0], vB false]) rfl (ev_taC ((rfl : _ = Sum31.v s).trans (show Sum31.v s = Value.nilIface from by rw [hx5]; rfl)) rfl) ?_
  refine r_R [vB false, vA #[vI 0, vI 0]] rfl <| lx_nil <| A_cond false rfl (fun h_ => nomatch h_) (fun _ => ?_)
  refine A_sr <| r_W (vT #[vA #[vI 0, vI 0], vB false]) rfl (ev_taC ((rfl : _ = Sum31.v s).trans (show Sum31.v s = Value.nilIface from by rw [hx5]; rfl)) rfl) ?_
  refine r_R [vB false, vA #[vI 0, vI 0]] rfl <| lx_nil <| A_cond false rfl (fun h_ => nomatch h_) (fun _ => ?_)
  refine A_sr <| r_W (vT #[vA #[vI 0, vI 0], vB false]) rfl (ev_taC ((rfl : _ = Sum31.v s).trans (show Sum31.v s = Value.nilIface from by rw [hx5]; rfl)) rfl) ?_
  refine r_R [vB false, vA #[vI 0, vI 0]] rfl <| lx_nil <| A_cond false rfl (fun h_ => nomatch h_) (fun _ => ?_)
  refine A_sr <| r_W (vT #[vA #[vI 0], vB false]) rfl (ev_taC ((rfl : _ = Sum31.v s).trans (show Sum31.v s = Value.nilIface from by rw [hx5]; rfl)) rfl) ?_
  refine r_R [vB false, vA #[vI 0]] rfl <| lx_nil <| A_cond false rfl (fun h_ => nomatch h_) (fun _ => ?_)
  refine A_sr <| r_W (vT #[vA #[vI 0, vI 0, vI 0], vB false]) rfl (ev_taC ((rfl : _ = Sum31.v s).trans (show Sum31.v s = Value.nilIface from by rw [hx5]; rfl)) rfl) ?_
  refine r_R [vB false, vA #[vI 0, vI 0, vI 0]] rfl <| lx_nil <| A_cond false rfl (fun h_ => nomatch h_) (fun _ => ?_)
  refine A_sr <| r_W (vT #[vA #[vI 0, vI 0], vB false]) rfl (ev_taC ((rfl : _ = Sum31.v s).trans (show Sum31.v s = Value.nilIface from by rw [hx5]; rfl)) rfl) ?_
  refine r_R [vB false, vA #[vI 0, vI 0]] rfl <| lx_nil <| A_gen [(3, Sum31.v s), (29, vB false)] rfl (fun T => ?_)
  refine A_cond false rfl (fun h_ => nomatch h_) (fun _ => ?_)
  refine A_sr <| r_W (vT #[vA #[vI 0, vI 0], vB false]) rfl (ev_taC ((rfl : _ = Sum31.v s).trans (show Sum31.v s = Value.nilIface from by rw [hx5]; rfl)) rfl) ?_
  refine r_R [vB false, vA #[vI 0, vI 0]] rfl <| lx_nil <| A_cond false rfl (fun h_ => nomatch h_) (fun _ => ?_)
  refine A_sr <| r_W (vT #[vA #[], vB false]) rfl (ev_taC ((rfl : _ = Sum31.v s).trans (show Sum31.v s = Value.nilIface from by rw [hx5]; rfl)) rfl) ?_
  refine r_R [vB false, vA #[]] rfl <| lx_nil <| A_cond false rfl (fun h_ => nomatch h_) (fun _ => ?_)
  refine A_skip <| hK2 _ _ ?_; try clear hK2 K2
  refine A_sr <| r_V (Value.string (⟨#[]⟩)) rfl <| lx_nil ?_
  obtain rfl := Option.some.inj hM
  refine A_ret (fun hn => ends_eq (v0 := Value.string (⟨#[]⟩)) rfl (res1 rfl))
 ·replace hM := Sum31.on_t47 hx5 hM
  refine r_W (vT #[vA #[vI x6_0, U (hi x7_1), U (lo x7_1)], vB true]) rfl (ev_taC ((rfl : _ = Sum31.v s).trans (show Sum31.v s = Value.iface 47 (vA #[vI x6_0, U (hi x7_1), U (lo x7_1)]) from by rw [hx5]; rfl)) rfl) ?_
  refine r_R [vB true, vA #[vI x6_0, U (hi x7_1), U (lo x7_1)]] rfl <| lx_nil <| hK4 _ _ ?_; try clear hK4 K4
  refine A_cond true rfl (fun _ => ?_) (fun h_ => nomatch h_)
  refine A_sr <| r_V (Value.string (⟨#[80, 117, 115, 104]⟩)) rfl <| lx_nil ?_
  obtain rfl := Option.some.inj hM
  refine A_ret (fun hn => ends_eq (v0 := Value.string (⟨#[80, 117, 115, 104]⟩)) rfl (res1 rfl))
 ·replace hM := Sum31.on_t49 hx5 hM
  refine r_W (vT #[vA #[vI 0, U (0#64), U (0#64)], vB false]) rfl (ev_taC ((rfl : _ = Sum31.v s).trans (show Sum31.v s = Value.iface 49 (vA #[vI x8_0, vI x9_1, vI x10_2]) from by rw [hx5]; rfl)) rfl) ?_
  refine r_R [vB false, vA #[vI 0, U (0#64), U (0#64)]] rfl <| lx_nil <| hK4 _ _ ?_; try clear hK4 K4
  refine A_cond false rfl (fun h_ => nomatch h_) (fun _ => ?_)
  refine A_sr <| r_W (vT #[vA #[vI x8_0, vI x9_1, vI x10_2], vB true]) rfl (ev_taC ((rfl : _ = Sum31.v s).trans (show Sum31.v s = Value.iface 49 (vA #[vI x8_0, vI x9_1, vI x10_2]) from by rw [hx5]; rfl)) rfl) ?_
  refine r_R [vB true, vA #[vI x8_0, vI x9_1, vI x10_2]] rfl <| lx_nil <| A_cond true rfl (fun _ => ?_) (fun h_ => nomatch h_)
  refine A_sr <| r_V (Value.string (⟨#[80, 108, 97, 99, 101]⟩)) rfl <| lx_nil ?_
  obtain rfl := Option.some.inj hM
  refine A_ret (fun hn => ends_eq (v0 := Value.string (⟨#[80, 108, 97, 99, 101]⟩)) rfl (res1 rfl))
 ·replace hM := Sum31.on_t51 hx5 hM
  refine r_W (vT #[vA #[vI 0, U (0#64), U (0#64)], vB false]) rfl (ev_taC ((rfl : _ = Sum31.v s).trans (show Sum31.v s = Value.iface 51 (vA #[vI x11_0, vI x12_1]) from by rw [hx5]; rfl)) rfl) ?_
  refine r_R [vB false, vA #[vI 0, U (0#64), U (0#64)]] rfl <| lx_nil <| hK4 _ _ ?_; try clear hK4 K4
  refine A_cond false rfl (fun h_ => nomatch h_) (fun _ => ?_)
  refine A_sr <| r_W (vT #[vA #[vI 0, vI 0, vI 0], vB false]) rfl (ev_taC ((rfl : _ = Sum31.v s).trans (show Sum31.v s = Value.iface 51 (vA #[vI x11_0, vI x12_1]) from by rw [hx5]; rfl)) rfl) ?_
  refine r_R [vB false, vA #[vI 0, vI 0, vI 0]] rfl <| lx_nil <| A_cond false rfl (fun h_ => nomatch h_) (fun _ => ?_)
  refine A_sr <| r_W (vT #[vA #[vI x11_0, vI x12_1], vB true]) rfl (ev_taC ((rfl : _ = Sum31.v s).trans (show Sum31.v s = Value.iface 51 (vA #[vI x11_0, vI x12_1]) from by rw [hx5]; rfl)) rfl) ?_
  refine r_R [vB true, vA #[vI x11_0, vI x12_1]] rfl <| lx_nil <| A_cond true rfl (fun _ => ?_) (fun h_ => nomatch h_)
  refine A_sr <| r_V (Value.string (⟨#[67, 101, 108, 108]⟩)) rfl <| lx_nil ?_
  obtain rfl := Option.some.inj hM
  refine A_ret (fun hn => ends_eq (v0 := Value.string (⟨#[67, 101, 108, 108]⟩)) rfl (res1 rfl))
 ·replace hM := Sum31.on_t52 hx5 hM
  refine r_W (vT #[vA #[vI 0, U (0#64), U (0#64)], vB false]) rfl (ev_taC ((rfl : _ = Sum31.v s).trans (show Sum31.v s = Value.iface 52 (vA #[vI x13_0, vI x14_1]) from by rw [hx5]; rfl)) rfl) ?_
  refine r_R [vB false, vA #[vI 0, U (0#64), U (0#64)]] rfl <| lx_nil <| hK4 _ _ ?_; try clear hK4 K4
  refine A_cond false rfl (fun h_ => nomatch h_) (fun _ => ?_)
  refine A_sr <| r_W (vT #[vA #[vI 0, vI 0, vI 0], vB false]) rfl (ev_taC ((rfl : _ = Sum31.v s).trans (show Sum31.v s = Value.iface 52 (vA #[vI x13_0, vI x14_1]) from by rw [hx5]; rfl)) rfl) ?_
  refine r_R [vB false, vA #[vI 0, vI 0, vI 0]] rfl <| lx_nil <| A_cond false rfl (fun h_ => nomatch h_) (fun _ => ?_)
  refine A_sr <| r_W (vT #[vA #[vI 0, vI 0], vB false]) rfl (ev_taC ((rfl : _ = Sum31.v s).trans (show Sum31.v s = Value.iface 52 (vA #[vI x13_0, vI x14_1]) from by rw [hx5]; rfl)) rfl) ?_
  refine r_R [vB false, vA #[vI 0, vI 0]] rfl <| lx_nil <| A_cond false rfl (fun h_ => nomatch h_) (fun _ => ?_)
  refine A_sr <| r_W (vT #[vA #[vI 0, vI 0], vB false]) rfl (ev_taC ((rfl : _ = Sum31.v s).trans (show Sum31.v s = Value.iface 52 (vA #[vI x13_0, vI x14_1]) from by rw [hx5]; rfl)) rfl) ?_
  refine r_R [vB false, vA #[vI 0, vI 0]] rfl <| lx_nil <| A_cond false rfl (fun h_ => nomatch h_) (fun _ => ?_)
  refine A_sr <| r_W (vT #[vA #[vI x13_0, vI x14_1], vB true]) rfl (ev_taC ((rfl : _ = Sum31.v s).trans (show Sum31.v s = Value.iface 52 (vA #[vI x13_0, vI x14_1]) from by rw [hx5]; rfl)) rfl) ?_
  refine r_R [vB true, vA #[vI x13_0, vI x14_1]] rfl <| lx_nil <| A_cond true rfl (fun _ => ?_) (fun h_ => nomatch h_)
  refine A_sr <| r_V (Value.string (⟨#[79, 110, 101]⟩)) rfl <| lx_nil ?_
  obtain rfl := Option.some.inj hM
  refine A_ret (fun hn => ends_eq (v0 := Value.string (⟨#[79, 110, 101]⟩)) rfl (res1 rfl))
 ·replace hM := Sum31.on_t54 hx5 hM
  refine r_W (vT #[vA #[vI 0, U (0#64), U (0#64)], vB false]) rfl (ev_taC ((rfl : _ = Sum31.v s).trans (show Sum31.v s = Value.iface 54 (vA #[vI x15_0, vI x16_1]) from by rw [hx5]; rfl)) rfl) ?_
  refine r_R [vB false, vA #[vI 0, U (0#64), U (0#64)]] rfl <| lx_nil <| hK4 _ _ ?_; try clear hK4 K4
  refine A_cond false rfl (fun h_ => nomatch h_) (fun _ => ?_)
  refine A_sr <| r_W (vT #[vA #[vI 0, vI 0, vI 0], vB false]) rfl (ev_taC ((rfl : _ = Sum31.v s).trans (show Sum31.v s = Value.iface 54 (vA #[vI x15_0, vI x16_1]) from by rw [hx5]; rfl)) rfl) ?_
  refine r_R [vB false, vA #[vI 0, vI 0, vI 0]] rfl <| lx_nil <| A_cond false rfl (fun h_ => nomatch h_) (fun _ => ?_)
  refine A_sr <| r_W (vT #[vA #[vI 0, vI 0], vB false]) rfl (ev_taC ((rfl : _ = Sum31.v s).trans (show Sum31.v s = Value.iface 54 (vA #[vI x15_0, vI x16_1]) from by rw [hx5]; rfl)) rfl) ?_
  refine r_R [vB false, vA #[vI 0, vI 0]] rfl <| lx_nil <| A_cond false rfl (fun h_ => nomatch h_) (fun _ => ?_)
  refine A_sr <| r_W (vT #[vA #[vI 0, vI 0], vB false]) rfl (ev_taC ((rfl : _ = Sum31.v s).trans (show Sum31.v s = Value.iface 54 (vA #[vI x15_0, vI x16_1]) from by rw [hx5]; rfl)) rfl) ?_
  refine r_R [vB false, vA #[vI 0, vI 0]] rfl <| lx_nil <| A_cond false rfl (fun h_ => nomatch h_) (fun _ => ?_)
  refine A_sr <| r_W (vT #[vA #[vI 0, vI 0], vB false]) rfl (ev_taC ((rfl : _ = Sum31.v s).trans (show Sum31.v s = Value.iface 54 (vA #[vI x15_0, vI x16_1]) from by rw [hx5]; rfl)) rfl) ?_
  refine r_R [vB false, vA #[vI 0, vI 0]] rfl <| lx_nil <| A_cond false rfl (fun h_ => nomatch h_) (fun _ => ?_)
  refine A_sr <| r_W (vT #[vA #[vI x15_0, vI x16_1], vB true]) rfl (ev_taC ((rfl : _ = Sum31.v s).trans (show Sum31.v s = Value.iface 54 (vA #[vI x15_0, vI x16_1]) from by rw [hx5]; rfl)) rfl) ?_
  refine r_R [vB true, vA #[vI x15_0, vI x16_1]] rfl <| lx_nil <| A_cond true rfl (fun _ => ?_) (fun h_ => nomatch h_)
  refine A_sr <| r_V (Value.string (⟨#[80, 97, 114, 116]⟩)) rfl <| lx_nil ?_
  obtain rfl := Option.some.inj hM
  refine A_ret (fun hn => ends_eq (v0 := Value.string (⟨#[80, 97, 114, 116]⟩)) rfl (res1 rfl))
 ·replace hM := Sum31.on_t56 hx5 hM
  refine r_W (vT #[vA #[vI 0, U (0#64), U (0#64)], vB false]) rfl (ev_taC ((rfl : _ = Sum31.v s).trans (show Sum31.v s = Value.iface 56 (vA #[vI x17_0, vI x18_1, vI x19_2]) from by rw [hx5]; rfl)) rfl) ?_
  refine r_R [vB false, vA #[vI 0, U (0#64), U (0#64)]] rfl <| lx_nil <| hK4 _ _ ?_; try clear hK4 K4
  refine A_cond false rfl (fun h_ => nomatch h_) (fun _ => ?_)
  refine A_sr <| r_W (vT #[vA #[vI 0, vI 0, vI 0], vB false]) rfl (ev_taC ((rfl : _ = Sum31.v s).trans (show Sum31.v s = Value.iface 56 (vA #[vI x17_0, vI x18_1, vI x19_2]) from by rw [hx5]; rfl)) rfl) ?_
  refine r_R [vB false, vA #[vI 0, vI 0, vI 0]] rfl <| lx_nil <| A_cond false rfl (fun h_ => nomatch h_) (fun _ => ?_)
  refine A_sr <| r_W (vT #[vA #[vI 0, vI 0], vB false]) rfl (ev_taC ((rfl : _ = Sum31.v s).trans (show Sum31.v s = Value.iface 56 (vA #[vI x17_0, vI x18_1, vI x19_2]) from by rw [hx5]; rfl)) rfl) ?_
  refine r_R [vB false, vA #[vI 0, vI 0]] rfl <| lx_nil <| A_cond false rfl (fun h_ => nomatch h_) (fun _ => ?_)
  refine A_sr <| r_W (vT #[vA #[vI 0, vI 0], vB false]) rfl (ev_taC ((rfl : _ = Sum31.v s).trans (show Sum31.v s = Value.iface 56 (vA #[vI x17_0, vI x18_1, vI x19_2]) from by rw [hx5]; rfl)) rfl) ?_
  refine r_R [vB false, vA #[vI 0, vI 0]] rfl <| lx_nil <| A_cond false rfl (fun h_ => nomatch h_) (fun _ => ?_)
  refine A_sr <| r_W (vT #[vA #[vI 0, vI 0], vB false]) rfl (ev_taC ((rfl : _ = Sum31.v s).trans (show Sum31.v s = Value.iface 56 (vA #[vI x17_0, vI x18_1, vI x19_2]) from by rw [hx5]; rfl)) rfl) ?_
  refine r_R [vB false, vA #[vI 0, vI 0]] rfl <| lx_nil <| A_cond false rfl (fun h_ => nomatch h_) (fun _ => ?_)
  refine A_sr <| r_W (vT #[vA #[vI 0, vI 0], vB false]) rfl (ev_taC ((rfl : _ = Sum31.v s).trans (show Sum31.v s = Value.iface 56 (vA #[vI x17_0, vI x18_1, vI x19_2]) from by rw [hx5]; rfl)) rfl) ?_
  refine r_R [vB false, vA #[vI 0, vI 0]] rfl <| lx_nil <| A_cond false rfl (fun h_ => nomatch h_) (fun _ => ?_)
  refine A_sr <| r_W (vT #[vA #[vI 0], vB false]) rfl (ev_taC ((rfl : _ = Sum31.v s).trans (show Sum31.v s = Value.iface 56 (vA #[vI x17_0, vI x18_1, vI x19_2]) from by rw [hx5]; rfl)) rfl) ?_
  refine r_R [vB false, vA #[vI 0]] rfl <| lx_nil <| A_cond false rfl (fun h_ => nomatch h_) (fun _ => ?_)
  refine A_sr <| r_W (vT #[vA #[vI x17_0, vI x18_1, vI x19_2], vB true]) rfl (ev_taC ((rfl : _ = Sum31.v s).trans (show Sum31.v s = Value.iface 56 (vA #[vI x17_0, vI x18_1, vI x19_2]) from by rw [hx5]; rfl)) rfl) ?_
  refine r_R [vB true, vA #[vI x17_0, vI x18_1, vI x19_2]] rfl <| lx_nil <| A_cond true rfl (fun _ => ?_) (fun h_ => nomatch h_)
  refine A_sr <| r_V (Value.string (⟨#[72, 101, 97, 100, 115]⟩)) rfl <| lx_nil <| A_gen [(2, Value.string (⟨#[72, 101, 97, 100, 115]⟩))] rfl (fun T => ?_)
  obtain rfl := Option.some.inj hM
  refine A_ret (fun hn => ends_eq (v0 := Value.string (⟨#[72, 101, 97, 100, 115]⟩)) rfl (res1 rfl))
 ·replace hM := Sum31.on_t58 hx5 hM
  refine r_W (vT #[vA #[vI 0, U (0#64), U (0#64)], vB false]) rfl (ev_taC ((rfl : _ = Sum31.v s).trans (show Sum31.v s = Value.iface 58 (vA #[vI x20_0, vI x21_1]) from by rw [hx5]; rfl)) rfl) ?_
  refine r_R [vB false, vA #[vI 0, U (0#64), U (0#64)]] rfl <| lx_nil <| hK4 _ _ ?_; try clear hK4 K4
  refine A_cond false rfl (fun h_ => nomatch h_) (fun _ => ?_)
  refine A_sr <| r_W (vT #[vA #[vI 0, vI 0, vI 0], vB false]) rfl (ev_taC ((rfl : _ = Sum31.v s).trans (show Sum31.v s = Value.iface 58 (vA #[vI x20_0, vI x21_1]) from by rw [hx5]; rfl)) rfl) ?_
  refine r_R [vB false, vA #[vI 0, vI 0, vI 0]] rfl <| lx_nil <| A_cond false rfl (fun h_ => nomatch h_) (fun _ => ?_)
  refine A_sr <| r_W (vT #[vA #[vI 0, vI 0], vB false]) rfl (ev_taC ((rfl : _ = Sum31.v s).trans (show Sum31.v s = Value.iface 58 (vA #[vI x20_0, vI x21_1]) from by rw [hx5]; rfl)) rfl) ?_
  refine r_R [vB false, vA #[vI 0, vI 0]] rfl <| lx_nil <| A_cond false rfl (fun h_ => nomatch h_) (fun _ => ?_)
  refine A_sr <| r_W (vT #[vA #[vI 0, vI 0], vB false]) rfl (ev_taC ((rfl : _ = Sum31.v s).trans (show Sum31.v s = Value.iface 58 (vA #[vI x20_0, vI x21_1]) from by rw [hx5]; rfl)) rfl) ?_
  refine r_R [vB false, vA #[vI 0, vI 0]] rfl <| lx_nil <| A_cond false rfl (fun h_ => nomatch h_) (fun _ => ?_)
  refine A_sr <| r_W (vT #[vA #[vI 0, vI 0], vB false]) rfl (ev_taC ((rfl : _ = Sum31.v s).trans (show Sum31.v s = Value.iface 58 (vA #[vI x20_0, vI x21_1]) from by rw [hx5]; rfl)) rfl) ?_
  refine r_R [vB false, vA #[vI 0, vI 0]] rfl <| lx_nil <| A_cond false rfl (fun h_ => nomatch h_) (fun _ => ?_)
  refine A_sr <| r_W (vT #[vA #[vI 0, vI 0], vB false]) rfl (ev_taC ((rfl : _ = Sum31.v s).trans (show Sum31.v s = Value.iface 58 (vA #[vI x20_0, vI x21_1]) from by rw [hx5]; rfl)) rfl) ?_
  refine r_R [vB false, vA #[vI 0, vI 0]] rfl <| lx_nil <| A_cond false rfl (fun h_ => nomatch h_) (fun _ => ?_)
  refine A_sr <| r_W (vT #[vA #[vI 0], vB false]) rfl (ev_taC ((rfl : _ = Sum31.v s).trans (show Sum31.v s = Value.iface 58 (vA #[vI x20_0, vI x21_1]) from by rw [hx5]; rfl)) rfl) ?_
  refine r_R [vB false, vA #[vI 0]] rfl <| lx_nil <| A_cond false rfl (fun h_ => nomatch h_) (fun _ => ?_)
  refine A_sr <| r_W (vT #[vA #[vI 0, vI 0, vI 0], vB false]) rfl (ev_taC ((rfl : _ = Sum31.v s).trans (show Sum31.v s = Value.iface 58 (vA #[vI x20_0, vI x21_1]) from by rw [hx5]; rfl)) rfl) ?_
  refine r_R [vB false, vA #[vI 0, vI 0, vI 0]] rfl <| lx_nil <| A_cond false rfl (fun h_ => nomatch h_) (fun _ => ?_)
  refine A_sr <| r_W (vT #[vA #[vI 0, vI 0], vB false]) rfl (ev_taC ((rfl : _ = Sum31.v s).trans (show Sum31.v s = Value.iface 58 (vA #[vI x20_0, vI x21_1]) from by rw [hx5]; rfl)) rfl) ?_
  refine r_R [vB false, vA #[vI 0, vI 0]] rfl <| lx_nil <| A_gen [(3, Sum31.v s), (29, vB false)] rfl (fun T => ?_)
  refine A_cond false rfl (fun h_ => nomatch h_) (fun _ => ?_)
  refine A_sr <| r_W (vT #[vA #[vI x20_0, vI x21_1], vB true]) rfl (ev_taC ((rfl : _ = Sum31.v s).trans (show Sum31.v s = Value.iface 58 (vA #[vI x20_0, vI x21_1]) from by rw [hx5]; rfl)) rfl) ?_
  refine r_R [vB true, vA #[vI x20_0, vI x21_1]] rfl <| lx_nil <| A_cond true rfl (fun _ => ?_) (fun h_ => nomatch h_)
  refine A_sr <| r_V (Value.string (⟨#[71, 111, 110, 101]⟩)) rfl <| lx_nil ?_
  obtain rfl := Option.some.inj hM
  refine A_ret (fun hn => ends_eq (v0 := Value.string (⟨#[71, 111, 110, 101]⟩)) rfl (res1 rfl))
 ·replace hM := Sum31.on_t60 hx5 hM
  refine r_W (vT #[vA #[vI 0, U (0#64), U (0#64)], vB false]) rfl (ev_taC ((rfl : _ = Sum31.v s).trans (show Sum31.v s = Value.iface 60 (vA #[vI x22_0]) from by rw [hx5]; rfl)) rfl) ?_
  refine r_R [vB false, vA #[vI 0, U (0#64), U (0#64)]] rfl <| lx_nil <| hK4 _ _ ?_; try clear hK4 K4
  refine A_cond false rfl (fun h_ => nomatch h_) (fun _ => ?_)
  refine A_sr <| r_W (vT #[vA #[vI 0, vI 0, vI 0], vB false]) rfl (ev_taC ((rfl : _ = Sum31.v s).trans (show Sum31.v s = Value.iface 60 (vA #[vI x22_0]) from by rw [hx5]; rfl)) rfl) ?_
  refine r_R [vB false, vA #[vI 0, vI 0, vI 0]] rfl <| lx_nil <| A_cond false rfl (fun h_ => nomatch h_) (fun _ => ?_)
  refine A_sr <| r_W (vT #[vA #[vI 0, vI 0], vB false]) rfl (ev_taC ((rfl : _ = Sum31.v s).trans (show Sum31.v s = Value.iface 60 (vA #[vI x22_0]) from by rw [hx5]; rfl)) rfl) ?_
  refine r_R [vB false, vA #[vI 0, vI 0]] rfl <| lx_nil <| A_cond false rfl (fun h_ => nomatch h_) (fun _ => ?_)
  refine A_sr <| r_W (vT #[vA #[vI 0, vI 0], vB false]) rfl (ev_taC ((rfl : _ = Sum31.v s).trans (show Sum31.v s = Value.iface 60 (vA #[vI x22_0]) from by rw [hx5]; rfl)) rfl) ?_
  refine r_R [vB false, vA #[vI 0, vI 0]] rfl <| lx_nil <| A_cond false rfl (fun h_ => nomatch h_) (fun _ => ?_)
  refine A_sr <| r_W (vT #[vA #[vI 0, vI 0], vB false]) rfl (ev_taC ((rfl : _ = Sum31.v s).trans (show Sum31.v s = Value.iface 60 (vA #[vI x22_0]) from by rw [hx5]; rfl)) rfl) ?_
  refine r_R [vB false, vA #[vI 0, vI 0]] rfl <| lx_nil <| A_cond false rfl (fun h_ => nomatch h_) (fun _ => ?_)
  refine A_sr <| r_W (vT #[vA #[vI 0, vI 0], vB false]) rfl (ev_taC ((rfl : _ = Sum31.v s).trans (show Sum31.v s = Value.iface 60 (vA #[vI x22_0]) from by rw [hx5]; rfl)) rfl) ?_
  refine r_R [vB false, vA #[vI 0, vI 0]] rfl <| lx_nil <| A_cond false rfl (fun h_ => nomatch h_) (fun _ => ?_)
  refine A_sr <| r_W (vT #[vA #[vI x22_0], vB true]) rfl (ev_taC ((rfl : _ = Sum31.v s).trans (show Sum31.v s = Value.iface 60 (vA #[vI x22_0]) from by rw [hx5]; rfl)) rfl) ?_
  refine r_R [vB true, vA #[vI x22_0]] rfl <| lx_nil <| A_cond true rfl (fun _ => ?_) (fun h_ => nomatch h_)
  refine A_sr <| r_V (Value.string (⟨#[84, 119, 111]⟩)) rfl <| lx_nil ?_
  obtain rfl := Option.some.inj hM
  refine A_ret (fun hn => ends_eq (v0 := Value.string (⟨#[84, 119, 111]⟩)) rfl (res1 rfl))
 ·replace hM := Sum31.on_t86 hx5 hM
  refine r_W (vT #[vA #[vI 0, U (0#64), U (0#64)], vB false]) rfl (ev_taC ((rfl : _ = Sum31.v s).trans (show Sum31.v s = Value.iface 86 (vA #[vI x23_0, vI x24_1]) from by rw [hx5]; rfl)) rfl) ?_
  refine r_R [vB false, vA #[vI 0, U (0#64), U (0#64)]] rfl <| lx_nil <| hK4 _ _ ?_; try clear hK4 K4
  refine A_cond false rfl (fun h_ => nomatch h_) (fun _ => ?_)
  refine A_sr <| r_W (vT #[vA #[vI 0, vI 0, vI 0], vB false]) rfl (ev_taC ((rfl : _ = Sum31.v s).trans (show Sum31.v s = Value.iface 86 (vA #[vI x23_0, vI x24_1]) from by rw [hx5]; rfl)) rfl) ?_
  refine r_R [vB false, vA #[vI 0, vI 0, vI 0]] rfl <| lx_nil <| A_cond false rfl (fun h_ => nomatch h_) (fun _ => ?_)
  refine A_sr <| r_W (vT #[vA #[vI 0, vI 0], vB false]) rfl (ev_taC ((rfl : _ = Sum31.v s).trans (show Sum31.v s = Value.iface 86 (vA #[vI x23_0, vI x24_1]) from by rw [hx5]; rfl)) rfl) ?_
  refine r_R [vB false, vA #[vI 0, vI 0]] rfl <| lx_nil <| A_cond false rfl (fun h_ => nomatch h_) (fun _ => ?_)
  refine A_sr <| r_W (vT #[vA #[vI x23_0, vI x24_1], vB true]) rfl (ev_taC ((rfl : _ = Sum31.v s).trans (show Sum31.v s = Value.iface 86 (vA #[vI x23_0, vI x24_1]) from by rw [hx5]; rfl)) rfl) ?_
  refine r_R [vB true, vA #[vI x23_0, vI x24_1]] rfl <| lx_nil <| A_cond true rfl (fun _ => ?_) (fun h_ => nomatch h_)
  refine A_sr <| r_V (Value.string (⟨#[83, 108, 111, 116]⟩)) rfl <| lx_nil ?_
  obtain rfl := Option.some.inj hM
  refine A_ret (fun hn => ends_eq (v0 := Value.string (⟨#[83, 108, 111, 116]⟩)) rfl (res1 rfl))
 ·replace hM := Sum31.on_t88 hx5 hM
  refine r_W (vT #[vA #[vI 0, U (0#64), U (0#64)], vB false]) rfl (ev_taC ((rfl : _ = Sum31.v s).trans (show Sum31.v s = Value.iface 88 (vA #[vI x25_0, vI x26_1]) from by rw [hx5]; rfl)) rfl) ?_
  refine r_R [vB false, vA #[vI 0, U (0#64), U (0#64)]] rfl <| lx_nil <| hK4 _ _ ?_; try clear hK4 K4
  refine A_cond false rfl (fun h_ => nomatch h_) (fun _ => ?_)
  refine A_sr <| r_W (vT #[vA #[vI 0, vI 0, vI 0], vB false]) rfl (ev_taC ((rfl : _ = Sum31.v s).trans (show Sum31.v s = Value.iface 88 (vA #[vI x25_0, vI x26_1]) from by rw [hx5]; rfl)) rfl) ?_
  refine r_R [vB false, vA #[vI 0, vI 0, vI 0]] rfl <| lx_nil <| A_cond false rfl (fun h_ => nomatch h_) (fun _ => ?_)
  refine A_sr <| r_W (vT #[vA #[vI 0, vI 0], vB false]) rfl (ev_taC ((rfl : _ = Sum31.v s).trans (show Sum31.v s = Value.iface 88 (vA #[vI x25_0, vI x26_1]) from by rw [hx5]; rfl)) rfl) ?_
  refine r_R [vB false, vA #[vI 0, vI 0]] rfl <| lx_nil <| A_cond false rfl (fun h_ => nomatch h_) (fun _ => ?_)
  refine A_sr <| r_W (vT #[vA #[vI 0, vI 0], vB false]) rfl (ev_taC ((rfl : _ = Sum31.v s).trans (show Sum31.v s = Value.iface 88 (vA #[vI x25_0, vI x26_1]) from by rw [hx5]; rfl)) rfl) ?_
  refine r_R [vB false, vA #[vI 0, vI 0]] rfl <| lx_nil <| A_cond false rfl (fun h_ => nomatch h_) (fun _ => ?_)
  refine A_sr <| r_W (vT #[vA #[vI 0, vI 0], vB false]) rfl (ev_taC ((rfl : _ = Sum31.v s).trans (show Sum31.v s = Value.iface 88 (vA #[vI x25_0, vI x26_1]) from by rw [hx5]; rfl)) rfl) ?_
  refine r_R [vB false, vA #[vI 0, vI 0]] rfl <| lx_nil <| A_cond false rfl (fun h_ => nomatch h_) (fun _ => ?_)
  refine A_sr <| r_W (vT #[vA #[vI 0, vI 0], vB false]) rfl (ev_taC ((rfl : _ = Sum31.v s).trans (show Sum31.v s = Value.iface 88 (vA #[vI x25_0, vI x26_1]) from by rw [hx5]; rfl)) rfl) ?_
  refine r_R [vB false, vA #[vI 0, vI 0]] rfl <| lx_nil <| A_cond false rfl (fun h_ => nomatch h_) (fun _ => ?_)
  refine A_sr <| r_W (vT #[vA #[vI 0], vB false]) rfl (ev_taC ((rfl : _ = Sum31.v s).trans (show Sum31.v s = Value.iface 88 (vA #[vI x25_0, vI x26_1]) from by rw [hx5]; rfl)) rfl) ?_
  refine r_R [vB false, vA #[vI 0]] rfl <| lx_nil <| A_cond false rfl (fun h_ => nomatch h_) (fun _ => ?_)
  refine A_sr <| r_W (vT #[vA #[vI 0, vI 0, vI 0], vB false]) rfl (ev_taC ((rfl : _ = Sum31.v s).trans (show Sum31.v s = Value.iface 88 (vA #[vI x25_0, vI x26_1]) from by rw [hx5]; rfl)) rfl) ?_
  refine r_R [vB false, vA #[vI 0, vI 0, vI 0]] rfl <| lx_nil <| A_cond false rfl (fun h_ => nomatch h_) (fun _ => ?_)
  refine A_sr <| r_W (vT #[vA #[vI x25_0, vI x26_1], vB true]) rfl (ev_taC ((rfl : _ = Sum31.v s).trans (show Sum31.v s = Value.iface 88 (vA #[vI x25_0, vI x26_1]) from by rw [hx5]; rfl)) rfl) ?_
  refine r_R [vB true, vA #[vI x25_0, vI x26_1]] rfl <| lx_nil <| A_gen [(3, Sum31.v s), (29, vB true)] rfl (fun T => ?_)
  refine A_cond true rfl (fun _ => ?_) (fun h_ => nomatch h_)
  refine A_sr <| r_V (Value.string (⟨#[74, 117, 109, 112]⟩)) rfl <| lx_nil ?_
  obtain rfl := Option.some.inj hM
  refine A_ret (fun hn => ends_eq (v0 := Value.string (⟨#[74, 117, 109, 112]⟩)) rfl (res1 rfl))
 replace hM := Sum31.on_t90 hx5 hM
 refine r_W (vT #[vA #[vI 0, U (0#64), U (0#64)], vB false]) rfl (ev_taC ((rfl : _ = Sum31.v s).trans (show Sum31.v s = Value.iface 90 (vA #[]) from by rw [hx5]; rfl)) rfl) ?_
 refine r_R [vB false, vA #[vI 0, U (0#64), U (0#64)]] rfl <| lx_nil <| hK4 _ _ ?_; try clear hK4 K4
 refine A_cond false rfl (fun h_ => nomatch h_) (fun _ => ?_)
 refine A_sr <| r_W (vT #[vA #[vI 0, vI 0, vI 0], vB false]) rfl (ev_taC ((rfl : _ = Sum31.v s).trans (show Sum31.v s = Value.iface 90 (vA #[]) from by rw [hx5]; rfl)) rfl) ?_
 refine r_R [vB false, vA #[vI 0, vI 0, vI 0]] rfl <| lx_nil <| A_cond false rfl (fun h_ => nomatch h_) (fun _ => ?_)
 refine A_sr <| r_W (vT #[vA #[vI 0, vI 0], vB false]) rfl (ev_taC ((rfl : _ = Sum31.v s).trans (show Sum31.v s = Value.iface 90 (vA #[]) from by rw [hx5]; rfl)) rfl) ?_
 refine r_R [vB false, vA #[vI 0, vI 0]] rfl <| lx_nil <| A_cond false rfl (fun h_ => nomatch h_) (fun _ => ?_)
 refine A_sr <| r_W (vT #[vA #[vI 0, vI 0], vB false]) rfl (ev_taC ((rfl : _ = Sum31.v s).trans (show Sum31.v s = Value.iface 90 (vA #[]) from by rw [hx5]; rfl)) rfl) ?_
 refine r_R [vB false, vA #[vI 0, vI 0]] rfl <| lx_nil <| A_cond false rfl (fun h_ => nomatch h_) (fun _ => ?_)
 refine A_sr <| r_W (vT #[vA #[vI 0, vI 0], vB false]) rfl (ev_taC ((rfl : _ = Sum31.v s).trans (show Sum31.v s = Value.iface 90 (vA #[]) from by rw [hx5]; rfl)) rfl) ?_
 refine r_R [vB false, vA #[vI 0, vI 0]] rfl <| lx_nil <| A_cond false rfl (fun h_ => nomatch h_) (fun _ => ?_)
 refine A_sr <| r_W (vT #[vA #[vI 0, vI 0], vB false]) rfl (ev_taC ((rfl : _ = Sum31.v s).trans (show Sum31.v s = Value.iface 90 (vA #[]) from by rw [hx5]; rfl)) rfl) ?_
 refine r_R [vB false, vA #[vI 0, vI 0]] rfl <| lx_nil <| A_cond false rfl (fun h_ => nomatch h_) (fun _ => ?_)
 refine A_sr <| r_W (vT #[vA #[vI 0], vB false]) rfl (ev_taC ((rfl : _ = Sum31.v s).trans (show Sum31.v s = Value.iface 90 (vA #[]) from by rw [hx5]; rfl)) rfl) ?_
 refine r_R [vB false, vA #[vI 0]] rfl <| lx_nil <| A_cond false rfl (fun h_ => nomatch h_) (fun _ => ?_)
 refine A_sr <| r_W (vT #[vA #[vI 0, vI 0, vI 0], vB false]) rfl (ev_taC ((rfl : _ = Sum31.v s).trans (show Sum31.v s = Value.iface 90 (vA #[]) from by rw [hx5]; rfl)) rfl) ?_
 refine r_R [vB false, vA #[vI 0, vI 0, vI 0]] rfl <| lx_nil <| A_cond false rfl (fun h_ => nomatch h_) (fun _ => ?_)
 refine A_sr <| r_W (vT #[vA #[vI 0, vI 0], vB false]) rfl (ev_taC ((rfl : _ = Sum31.v s).trans (show Sum31.v s = Value.iface 90 (vA #[]) from by rw [hx5]; rfl)) rfl) ?_
 refine r_R [vB false, vA #[vI 0, vI 0]] rfl <| lx_nil <| A_gen [(3, Sum31.v s), (29, vB false)] rfl (fun T => ?_)
 refine A_cond false rfl (fun h_ => nomatch h_) (fun _ => ?_)
 refine A_sr <| r_W (vT #[vA #[vI 0, vI 0], vB false]) rfl (ev_taC ((rfl : _ = Sum31.v s).trans (show Sum31.v s = Value.iface 90 (vA #[]) from by rw [hx5]; rfl)) rfl) ?_
 refine r_R [vB false, vA #[vI 0, vI 0]] rfl <| lx_nil <| A_cond false rfl (fun h_ => nomatch h_) (fun _ => ?_)
 refine A_sr <| r_W (vT #[vA #[], vB true]) rfl (ev_taC ((rfl : _ = Sum31.v s).trans (show Sum31.v s = Value.iface 90 (vA #[]) from by rw [hx5]; rfl)) rfl) ?_
 refine r_R [vB true, vA #[]] rfl <| lx_nil <| A_cond true rfl (fun _ => ?_) (fun h_ => nomatch h_)
 refine A_sr <| r_V (Value.string (⟨#[83, 116, 111, 112]⟩)) rfl <| lx_nil ?_
 obtain rfl := Option.some.inj hM
 refine A_ret (fun hn => ends_eq (v0 := Value.string (⟨#[83, 116, 111, 112]⟩)) rfl (res1 rfl))
def code_Push_Op_m (_ : Nat) (_ : Int) (_ : BitVec 128) : Option Int := some 0
set_option maxRecDepth 100000 in
set_option maxHeartbeats 8000000 in
theorem code_Push_Op_g (N : Nat) (s_0 : Int) (s_1 : BitVec 128) (r) (hM : code_Push_Op_m N s_0 s_1 = some r) : Gives Tryd.prog 94 #[vA #[vI s_0, U (hi s_1), U (lo s_1)]] (vI r) := by
 unfold code_Push_Op_m at hM
 refine gives_of_A follows Tryd.func94 rfl 3 rfl (upd (fun _ => undef) 0 (vA #[vI s_0, U (hi s_1), U (lo s_1)])) (by funext k; match k with | 0 => rfl | k + 1 => rfl) (fun base0_ => ?_)
 refine A_sr <| r_a (47, #[vI s_0, U (hi s_1), U (lo s_1)]) rfl rfl rfl (fun b2 => ?_) (.inr rfl)
 refine r_V (vI 0) rfl <| lx_nil <| A_sr <| r_V (vI 0) rfl <| lx_nil ?_
 obtain rfl := Option.some.inj hM
 refine A_ret (fun hn => ends_eq (v0 := vI 0) rfl (res1 rfl))
def code_Place_Op_m (_ : Nat) (s_0 : Int) (_ : Int) (_ : Int) : Option Int := some s_0
set_option maxRecDepth 100000 in
set_option maxHeartbeats 8000000 in
theorem code_Place_Op_g (N : Nat) (s_0 s_1 s_2 r : Int) (hM : code_Place_Op_m N s_0 s_1 s_2 = some r) : Gives Tryd.prog 95 #[vA #[vI s_0, vI s_1, vI s_2]] (vI r) := by
 unfold code_Place_Op_m at hM
 refine gives_of_A follows Tryd.func95 rfl 5 rfl (upd (fun _ => undef) 0 (vA #[vI s_0, vI s_1, vI s_2])) (by funext k; match k with | 0 => rfl | k + 1 => rfl) (fun base0_ => ?_)
 refine A_sr <| r_a (49, #[vI s_0, vI s_1, vI s_2]) rfl rfl rfl (fun b2 => ?_) (.inr rfl)
 refine r_V (vI 0) rfl <| lx_nil <| A_sr <| r_V (vP b2 0) rfl <| r_l (vI s_0) 0 _ _ _ _ rfl rfl rfl rfl rfl <| r_V (vI s_0) rfl <| lx_nil ?_
 obtain rfl := Option.some.inj hM
 refine A_ret (fun hn => ends_eq (v0 := vI s_0) rfl (res1 rfl))
def code_Cell_Op_m (_ : Nat) (s_0 : Int) (_ : Int) : Option Int := some s_0
set_option maxRecDepth 100000 in
set_option maxHeartbeats 8000000 in
theorem code_Cell_Op_g (N : Nat) (s_0 s_1 r : Int) (hM : code_Cell_Op_m N s_0 s_1 = some r) : Gives Tryd.prog 96 #[vA #[vI s_0, vI s_1]] (vI r) := by
 unfold code_Cell_Op_m at hM
 refine gives_of_A follows Tryd.func96 rfl 5 rfl (upd (fun _ => undef) 0 (vA #[vI s_0, vI s_1])) (by funext k; match k with | 0 => rfl | k + 1 => rfl) (fun base0_ => ?_)
 refine A_sr <| r_a (51, #[vI s_0, vI s_1]) rfl rfl rfl (fun b2 => ?_) (.inr rfl)
 refine r_V (vI 0) rfl <| lx_nil <| A_sr <| r_V (vP b2 0) rfl <| r_l (vI s_0) 0 _ _ _ _ rfl rfl rfl rfl rfl <| r_V (vI s_0) rfl <| lx_nil ?_
 obtain rfl := Option.some.inj hM
 refine A_ret (fun hn => ends_eq (v0 := vI s_0) rfl (res1 rfl))
def code_One_Op_m (_ : Nat) (s_0 : Int) (_ : Int) : Option Int := some s_0
set_option maxRecDepth 100000 in
set_option maxHeartbeats 8000000 in
theorem code_One_Op_g (N : Nat) (s_0 s_1 r : Int) (hM : code_One_Op_m N s_0 s_1 = some r) : Gives Tryd.prog 97 #[vA #[vI s_0, vI s_1]] (vI r) := by
 unfold code_One_Op_m at hM
 refine gives_of_A follows Tryd.func97 rfl 5 rfl (upd (fun _ => undef) 0 (vA #[vI s_0, vI s_1])) (by funext k; match k with | 0 => rfl | k + 1 => rfl) (fun base0_ => ?_)
 refine A_sr <| r_a (52, #[vI s_0, vI s_1]) rfl rfl rfl (fun b2 => ?_) (.inr rfl)
 refine r_V (vI 0) rfl <| lx_nil <| A_sr <| r_V (vP b2 0) rfl <| r_l (vI s_0) 0 _ _ _ _ rfl rfl rfl rfl rfl <| r_V (vI s_0) rfl <| lx_nil ?_
 obtain rfl := Option.some.inj hM
 refine A_ret (fun hn => ends_eq (v0 := vI s_0) rfl (res1 rfl))
def code_Part_Op_m (_ : Nat) (_ : Int) (_ : Int) : Option Int := some 10
set_option maxRecDepth 100000 in
set_option maxHeartbeats 8000000 in
theorem code_Part_Op_g (N : Nat) (s_0 s_1 r : Int) (hM : code_Part_Op_m N s_0 s_1 = some r) : Gives Tryd.prog 98 #[vA #[vI s_0, vI s_1]] (vI r) := by
 unfold code_Part_Op_m at hM
 refine gives_of_A follows Tryd.func98 rfl 3 rfl (upd (fun _ => undef) 0 (vA #[vI s_0, vI s_1])) (by funext k; match k with | 0 => rfl | k + 1 => rfl) (fun base0_ => ?_)
 refine A_sr <| r_a (54, #[vI s_0, vI s_1]) rfl rfl rfl (fun b2 => ?_) (.inr rfl)
 refine r_V (vI 0) rfl <| lx_nil <| A_sr <| r_V (vI 10) rfl <| lx_nil ?_
 obtain rfl := Option.some.inj hM
 refine A_ret (fun hn => ends_eq (v0 := vI 10) rfl (res1 rfl))
def code_Heads_Op_m (_ : Nat) (s_0 : Int) (_ : Int) (_ : Int) : Option Int := some s_0
set_option maxRecDepth 100000 in
set_option maxHeartbeats 8000000 in
theorem code_Heads_Op_g (N : Nat) (s_0 s_1 s_2 r : Int) (hM : code_Heads_Op_m N s_0 s_1 s_2 = some r) : Gives Tryd.prog 99 #[vA #[vI s_0, vI s_1, vI s_2]] (vI r) := by
 unfold code_Heads_Op_m at hM
 refine gives_of_A follows Tryd.func99 rfl 5 rfl (upd (fun _ => undef) 0 (vA #[vI s_0, vI s_1, vI s_2])) (by funext k; match k with | 0 => rfl | k + 1 => rfl) (fun base0_ => ?_)
 refine A_sr <| r_a (56, #[vI s_0, vI s_1, vI s_2]) rfl rfl rfl (fun b2 => ?_) (.inr rfl)
 refine r_V (vI 0) rfl <| lx_nil <| A_sr <| r_V (vP b2 0) rfl <| r_l (vI s_0) 0 _ _ _ _ rfl rfl rfl rfl rfl <| r_V (vI s_0) rfl <| lx_nil ?_
 obtain rfl := Option.some.inj hM
 refine A_ret (fun hn => ends_eq (v0 := vI s_0) rfl (res1 rfl))
def code_Gone_Op_m (_ : Nat) (_ : Int) (_ : Int) : Option Int := some 33
set_option maxRecDepth 100000 in
set_option maxHeartbeats 8000000 in
theorem code_Gone_Op_g (N : Nat) (s_0 s_1 r : Int) (hM : code_Gone_Op_m N s_0 s_1 = some r) : Gives Tryd.prog 100 #[vA #[vI s_0, vI s_1]] (vI r) := by
 unfold code_Gone_Op_m at hM
 refine gives_of_A follows Tryd.func100 rfl 3 rfl (upd (fun _ => undef) 0 (vA #[vI s_0, vI s_1])) (by funext k; match k with | 0 => rfl | k + 1 => rfl) (fun base0_ => ?_)
 refine A_sr <| r_a (58, #[vI s_0, vI s_1]) rfl rfl rfl (fun b2 => ?_) (.inr rfl)
 refine r_V (vI 0) rfl <| lx_nil <| A_sr <| r_V (vI 33) rfl <| lx_nil ?_
 obtain rfl := Option.some.inj hM
 refine A_ret (fun hn => ends_eq (v0 := vI 33) rfl (res1 rfl))
def code_Two_Op_m (_ : Nat) (s : Int) : Option Int := some s
set_option maxRecDepth 100000 in
set_option maxHeartbeats 8000000 in
theorem code_Two_Op_g (N : Nat) (s r : Int) (hM : code_Two_Op_m N s = some r) : Gives Tryd.prog 101 #[vA #[vI s]] (vI r) := by
 unfold code_Two_Op_m at hM
 refine gives_of_A follows Tryd.func101 rfl 5 rfl (upd (fun _ => undef) 0 (vA #[vI s])) (by funext k; match k with | 0 => rfl | k + 1 => rfl) (fun base0_ => ?_)
 refine A_sr <| r_a (60, #[vI s]) rfl rfl rfl (fun b2 => ?_) (.inr rfl)
 refine r_V (vI 0) rfl <| lx_nil <| A_sr <| r_V (vP b2 0) rfl <| r_l (vI s) 0 _ _ _ _ rfl rfl rfl rfl rfl <| r_V (vI s) rfl <| lx_nil ?_
 obtain rfl := Option.some.inj hM
 refine A_ret (fun hn => ends_eq (v0 := vI s) rfl (res1 rfl))
def code_Slot_Op_m (_ : Nat) (s_0 : Int) (_ : Int) : Option Int := some s_0
set_option maxRecDepth 100000 in
set_option maxHeartbeats 8000000 in
theorem code_Slot_Op_g (N : Nat) (s_0 s_1 r : Int) (hM : code_Slot_Op_m N s_0 s_1 = some r) : Gives Tryd.prog 102 #[vA #[vI s_0, vI s_1]] (vI r) := by
 unfold code_Slot_Op_m at hM
 refine gives_of_A follows Tryd.func102 rfl 5 rfl (upd (fun _ => undef) 0 (vA #[vI s_0, vI s_1])) (by funext k; match k with | 0 => rfl | k + 1 => rfl) (fun base0_ => ?_)
 refine A_sr <| r_a (86, #[vI s_0, vI s_1]) rfl rfl rfl (fun b2 => ?_) (.inr rfl)
 refine r_V (vI 0) rfl <| lx_nil <| A_sr <| r_V (vP b2 0) rfl <| r_l (vI s_0) 0 _ _ _ _ rfl rfl rfl rfl rfl <| r_V (vI s_0) rfl <| lx_nil ?_
 obtain rfl := Option.some.inj hM
 refine A_ret (fun hn => ends_eq (v0 := vI s_0) rfl (res1 rfl))
def code_Jump_Op_m (_ : Nat) (s_0 : Int) (_ : Int) : Option Int := some s_0
set_option maxRecDepth 100000 in
set_option maxHeartbeats 8000000 in
theorem code_Jump_Op_g (N : Nat) (s_0 s_1 r : Int) (hM : code_Jump_Op_m N s_0 s_1 = some r) : Gives Tryd.prog 103 #[vA #[vI s_0, vI s_1]] (vI r) := by
 unfold code_Jump_Op_m at hM
 refine gives_of_A follows Tryd.func103 rfl 5 rfl (upd (fun _ => undef) 0 (vA #[vI s_0, vI s_1])) (by funext k; match k with | 0 => rfl | k + 1 => rfl) (fun base0_ => ?_)
 refine A_sr <| r_a (88, #[vI s_0, vI s_1]) rfl rfl rfl (fun b2 => ?_) (.inr rfl)
 refine r_V (vI 0) rfl <| lx_nil <| A_sr <| r_V (vP b2 0) rfl <| r_l (vI s_0) 0 _ _ _ _ rfl rfl rfl rfl rfl <| r_V (vI s_0) rfl <| lx_nil ?_
 obtain rfl := Option.some.inj hM
 refine A_ret (fun hn => ends_eq (v0 := vI s_0) rfl (res1 rfl))
def code_Stop_Op_m (_ : Nat) : Option Int := some 34
set_option maxRecDepth 100000 in
set_option maxHeartbeats 8000000 in
theorem code_Stop_Op_g (N : Nat) (r) (hM : code_Stop_Op_m N = some r) : Gives Tryd.prog 104 #[vA #[]] (vI r) := by
 unfold code_Stop_Op_m at hM
 refine gives_of_A follows Tryd.func104 rfl 3 rfl (upd (fun _ => undef) 0 (vA #[])) (by funext k; match k with | 0 => rfl | k + 1 => rfl) (fun base0_ => ?_)
 refine A_sr <| r_a (90, #[]) rfl rfl rfl (fun b2 => ?_) (.inr rfl)
 refine r_V (vI 0) rfl <| lx_nil <| A_sr <| r_V (vI 34) rfl <| lx_nil ?_
 obtain rfl := Option.some.inj hM
 refine A_ret (fun hn => ends_eq (v0 := vI 34) rfl (res1 rfl))
def code_written_m (_ : Nat) (s : Sum31) : Option (Int × Int × Int × Int × (BitVec 128)) := Sum31.on s (some (35, 0, 0, 0, (0#64) ++ (0#64))) (fun x7_0 x8_1 => some (0, 0, 0, x7_0, x8_1)) (fun x9_0 x10_1 x11_2 => some (x9_0, x10_1, x11_2, 0, (0#64) ++ (0#64))) (fun x12_0 x13_1 => some (x12_0, x13_1, 0, 0, (0#64) ++ (0#64))) (fun x14_0 x15_1 => some (x14_0, x15_1, 0, 0, (0#64) ++ (0#64))) (fun x16_0 x17_1 => some (10, x16_0, x17_1, 0, (0#64) ++ (0#64))) (fun x18_0 x19_1 x20_2 => some (x18_0, x19_1, x20_2, 0, (0#64) ++ (0#64))) (fun x21_0 x22_1 => some (33, x21_0, x22_1, 0, (0#64) ++ (0#64))) (fun x23_0 => some (x23_0, 0, 0, 0, (0#64) ++ (0#64))) (fun x24_0 x25_1 => some (x24_0, x25_1, 0, 0, (0#64) ++ (0#64))) (fun x26_0 x27_1 => some (x26_0, x27_1, 0, 0, (0#64) ++ (0#64))) (some (34, 0, 0, 0, (0#64) ++ (0#64)))
set_option maxRecDepth 100000 in
set_option maxHeartbeats 8000000 in
theorem code_written_g (N : Nat) (s : Sum31) (r) (hM : code_written_m N s = some r) : Gives Tryd.prog 29 #[Sum31.v s] (vA #[vI r.1, vI r.2.1, vI r.2.2.1, vI r.2.2.2.1, U (hi r.2.2.2.2), U (lo r.2.2.2.2)]) := by
 unfold code_written_m at hM
 refine gives_of_A follows Tryd.func29 rfl 100 rfl (upd (fun _ => undef) 0 (Sum31.v s)) (by funext k; match k with | 0 => rfl | k + 1 => rfl) (fun base0_ => ?_)
 refine A_sr <| r_a (27, #[vI 0, vI 0, vI 0, vI 0, U (0#64), U (0#64)]) rfl rfl rfl (fun b2 => ?_) (.inr rfl)
 refine lx_nil <| A_seq fun K3 hK3 => A_sr <| r_V (Sum31.v s) rfl <| lx_nil <| A_block <| A_seq fun K5 hK5 => A_reg ?_
 rcases Sum31.cases s with hx6 | ⟨x7_0, x8_1, hx6⟩ | ⟨x9_0, x10_1, x11_2, hx6⟩ | ⟨x12_0, x13_1, hx6⟩ | ⟨x14_0, x15_1, hx6⟩ | ⟨x16_0, x17_1, hx6⟩ | ⟨x18_0, x19_1, x20_2, hx6⟩ | ⟨x21_0, x22_1, hx6⟩ | ⟨x23_0, hx6⟩ | ⟨x24_0, x25_1, hx6⟩ | ⟨x26_0, x27_1, hx6⟩ | hx6
 ·replace hM := Sum31.on_nil hx6 hM
  refine r_W (vT #[vA #[vI 0, U (0#64), U (0#64)], vB false]) rfl (ev_taC ((rfl : _ = Sum31.v s).trans (show Sum31.v s = Value.nilIface from by rw [hx6]; rfl)) rfl) ?_
  refine r_R [vB false, vA #[vI 0, U (0#64), U (0#64)]] rfl <| lx_nil <| hK5 _ _ ?_; try clear hK5 K5
  refine A_cond false rfl (fun h_ => nomatch h_) (fun _ => ?_)
  refine A_sr <| r_W (vT #[vA #[vI 0, vI 0, vI 0], vB false]) rfl (ev_taC ((rfl : _ = Sum31.v s).trans (show Sum31.v s = Value.nilIface from by rw [hx6]; rfl)) rfl) ?_
  refine r_R [vB false, vA #[vI 0, vI 0, vI 0]] rfl <| lx_nil <| A_cond false rfl (fun h_ => nomatch h_) (fun _ => ?_)
  refine A_sr <| r_W (vT #[vA #[vI 0, vI 0], vB false]) rfl (ev_taC ((rfl : _ = Sum31.v s).trans (show Sum31.v s = Value.nilIface from by rw [hx6]; rfl)) rfl) ?_
  refine r_R [vB false, vA #[vI 0, vI 0]] rfl <| lx_nil <| A_cond false rfl (fun h_ => nomatch h_) (fun _ => ?_)
  refine A_sr <| r_W (vT #[vA #[vI 0, vI 0], vB false]) rfl (ev_taC ((rfl : _ = Sum31.v s).trans (show Sum31.v s = Value.nilIface from by rw [hx6]; rfl)) rfl) ?_
  refine r_R [vB false, vA #[vI 0, vI 0]] rfl <| lx_nil <| A_cond false rfl (fun h_ => nomatch h_) (fun _ => ?_)
  refine A_sr <| r_W (vT #[vA #[vI 0, vI 0], vB false]) rfl (ev_taC ((rfl : _ = Sum31.v s).trans (show Sum31.v s = Value.nilIface from by rw [hx6]; rfl)) rfl) ?_
  refine r_R [vB false, vA #[vI 0, vI 0]] rfl <| lx_nil <| A_cond false rfl (fun h_ => nomatch h_) (fun _ => ?_)
  refine A_sr <| r_W (vT #[vA #[vI 0, vI 0], vB false]) rfl (ev_taC ((rfl : _ = Sum31.v s).trans (show Sum31.v s = Value.nilIface from by rw [hx6]; rfl)) rfl) ?_
  refine r_R [vB false, vA #[vI 0, vI 0]] rfl <| lx_nil <| A_cond false rfl (fun h_ => nomatch h_) (fun _ => ?_)
  refine A_sr <| r_W (vT #[vA #[vI 0], vB false]) rfl (ev_taC ((rfl : _ = Sum31.v s).trans (show Sum31.v s = Value.nilIface from by rw [hx6]; rfl)) rfl) ?_
  refine r_R [vB false, vA #[vI 0]] rfl <| lx_nil <| A_cond false rfl (fun h_ => nomatch h_) (fun _ => ?_)
  refine A_sr <| r_W (vT #[vA #[vI 0, vI 0, vI 0], vB false]) rfl (ev_taC ((rfl : _ = Sum31.v s).trans (show Sum31.v s = Value.nilIface from by rw [hx6]; rfl)) rfl) ?_
  refine r_R [vB false, vA #[vI 0, vI 0, vI 0]] rfl <| lx_nil <| A_cond false rfl (fun h_ => nomatch h_) (fun _ => ?_)
  refine A_sr <| r_W (vT #[vA #[vI 0, vI 0], vB false]) rfl (ev_taC ((rfl : _ = Sum31.v s).trans (show Sum31.v s = Value.nilIface from by rw [hx6]; rfl)) rfl) ?_
  refine r_R [vB false, vA #[vI 0, vI 0]] rfl <| lx_nil <| A_gen [(2, vP b2 0), (14, Sum31.v s), (80, vB false), (81, vA #[vI 0, vI 0])] rfl (fun T => ?_)
  refine A_cond false rfl (fun h_ => nomatch h_) (fun _ => ?_)
  refine A_sr <| r_W (vT #[vA #[vI 0, vI 0], vB false]) rfl (ev_taC ((rfl : _ = Sum31.v s).trans (show Sum31.v s = Value.nilIface from by rw [hx6]; rfl)) rfl) ?_
  refine r_R [vB false, vA #[vI 0, vI 0]] rfl <| lx_nil <| A_cond false rfl (fun h_ => nomatch h_) (fun _ => ?_)
  refine A_sr <| r_W (vT #[vA #[], vB false]) rfl (ev_taC ((rfl : _ = Sum31.v s).trans (show Sum31.v s = Value.nilIface from by rw [hx6]; rfl)) rfl) ?_
  refine r_R [vB false, vA #[]] rfl <| lx_nil <| A_cond false rfl (fun h_ => nomatch h_) (fun _ => ?_)
  refine A_skip <| hK3 _ _ ?_; try clear hK3 K3
  refine A_sr <| r_W (vA #[vI 35, vI 0, vI 0, vI 0, U (0#64), U (0#64)]) rfl (ev_buildS rfl rfl rfl rfl) <| r_s (kBb27_1 b2 35 0 0 0 (0#64) (0#64)) 0 _ _ _ _ _ (#[vI 35, vI 0, vI 0, vI 0, U (0#64), U (0#64)]) rfl rfl rfl rfl (.of rfl rfl) rfl rfl <| lx_nil ?_
  obtain rfl := Option.some.inj hM
  refine A_ret (fun hn => ends_eq (v0 := vA #[vI 35, vI 0, vI 0, vI 0, U (0#64), U (0#64)]) (by first | rfl | (simp only [app_hl]; done) | simp only [Sum31.v, app_hl]) (res1 (res_cell hn 0 rfl rfl rfl)))
 ·replace hM := Sum31.on_t47 hx6 hM
  refine r_W (vT #[vA #[vI x7_0, U (hi x8_1), U (lo x8_1)], vB true]) rfl (ev_taC ((rfl : _ = Sum31.v s).trans (show Sum31.v s = Value.iface 47 (vA #[vI x7_0, U (hi x8_1), U (lo x8_1)]) from by rw [hx6]; rfl)) rfl) ?_
  refine r_R [vB true, vA #[vI x7_0, U (hi x8_1), U (lo x8_1)]] rfl <| lx_nil <| hK5 _ _ ?_; try clear hK5 K5
  refine A_cond true rfl (fun _ => ?_) (fun h_ => nomatch h_)
  refine A_sr <| r_a (47, #[vI 0, U (0#64), U (0#64)]) rfl rfl rfl (fun b29 => ?_) (.inr rfl)
  refine r_s [(b29, 47, #[vI x7_0, U (hi x8_1), U (lo x8_1)]), (b2, 27, #[vI 0, vI 0, vI 0, vI 0, U (0#64), U (0#64)])] 0 _ _ _ _ _ (#[vI x7_0, U (hi x8_1), U (lo x8_1)]) rfl rfl rfl rfl (.of rfl rfl) rfl rfl <| lx_nil <| A_sr <| r_V (vP b29 0) rfl <| r_l (vA #[vI x7_0, U (hi x8_1), U (lo x8_1)]) 0 _ _ _ _ rfl rfl rfl rfl rfl <| r_W (vA #[vI 0, vI 0, vI 0, vI x7_0, U (hi x8_1), U (lo x8_1)]) rfl (ev_buildS rfl rfl rfl (by kernel_rfl)) <| r_s [(b29, 47, #[vI x7_0, U (hi x8_1), U (lo x8_1)]), (b2, 27, #[vI 0, vI 0, vI 0, vI x7_0, U (hi x8_1), U (lo x8_1)])] 1 _ _ _ _ _ (#[vI 0, vI 0, vI 0, vI x7_0, U (hi x8_1), U (lo x8_1)]) rfl rfl rfl rfl (.of rfl rfl) rfl rfl <| lx_nil ?_
  obtain rfl := Option.some.inj hM
  refine A_ret (fun hn => ends_eq (v0 := vA #[vI 0, vI 0, vI 0, vI x7_0, U (hi x8_1), U (lo x8_1)]) rfl (res1 (res_cell hn 1 rfl rfl rfl)))
 ·replace hM := Sum31.on_t49 hx6 hM
  refine r_W (vT #[vA #[vI 0, U (0#64), U (0#64)], vB false]) rfl (ev_taC ((rfl : _ = Sum31.v s).trans (show Sum31.v s = Value.iface 49 (vA #[vI x9_0, vI x10_1, vI x11_2]) from by rw [hx6]; rfl)) rfl) ?_
  refine r_R [vB false, vA #[vI 0, U (0#64), U (0#64)]] rfl <| lx_nil <| hK5 _ _ ?_; try clear hK5 K5
  refine A_cond false rfl (fun h_ => nomatch h_) (fun _ => ?_)
  refine A_sr <| r_W (vT #[vA #[vI x9_0, vI x10_1, vI x11_2], vB true]) rfl (ev_taC ((rfl : _ = Sum31.v s).trans (show Sum31.v s = Value.iface 49 (vA #[vI x9_0, vI x10_1, vI x11_2]) from by rw [hx6]; rfl)) rfl) ?_
  refine r_R [vB true, vA #[vI x9_0, vI x10_1, vI x11_2]] rfl <| lx_nil <| A_cond true rfl (fun _ => ?_) (fun h_ => nomatch h_)
  refine A_sr <| r_a (49, #[vI 0, vI 0, vI 0]) rfl rfl rfl (fun b30 => ?_) (.inr rfl)
  refine r_s [(b30, 49, #[vI x9_0, vI x10_1, vI x11_2]), (b2, 27, #[vI 0, vI 0, vI 0, vI 0, U (0#64), U (0#64)])] 0 _ _ _ _ _ (#[vI x9_0, vI x10_1, vI x11_2]) rfl rfl rfl rfl (.of rfl rfl) rfl rfl <| lx_nil <| A_sr <| r_V (vP b30 0) rfl <| r_l (vI x9_0) 0 _ _ _ _ rfl rfl rfl rfl rfl <| r_V (vP b30 1) rfl <| r_l (vI x10_1) 0 _ _ _ _ rfl rfl rfl rfl rfl <| r_V (vP b30 2) rfl <| r_l (vI x11_2) 0 _ _ _ _ rfl rfl rfl rfl rfl <| r_W (vA #[vI x9_0, vI x10_1, vI x11_2, vI 0, U (0#64), U (0#64)]) rfl (ev_buildS rfl rfl rfl rfl) ?_
  refine r_s [(b30, 49, #[vI x9_0, vI x10_1, vI x11_2]), (b2, 27, #[vI x9_0, vI x10_1, vI x11_2, vI 0, U (0#64), U (0#64)])] 1 _ _ _ _ _ (#[vI x9_0, vI x10_1, vI x11_2, vI 0, U (0#64), U (0#64)]) rfl rfl rfl rfl (.of rfl rfl) rfl rfl <| lx_nil ?_
  obtain rfl := Option.some.inj hM
  refine A_ret (fun hn => ends_eq (v0 := vA #[vI x9_0, vI x10_1, vI x11_2, vI 0, U (0#64), U (0#64)]) (by first | rfl | (simp only [app_hl]; done) | simp only [Sum31.v, app_hl]) (res1 (res_cell hn 1 rfl rfl rfl)))
 ·replace hM := Sum31.on_t51 hx6 hM
  refine r_W (vT #[vA #[vI 0, U (0#64), U (0#64)], vB false]) rfl (ev_taC ((rfl : _ = Sum31.v s).trans (show Sum31.v s = Value.iface 51 (vA #[vI x12_0, vI x13_1]) from by rw [hx6]; rfl)) rfl) ?_
  refine r_R [vB false, vA #[vI 0, U (0#64), U (0#64)]] rfl <| lx_nil <| hK5 _ _ ?_; try clear hK5 K5
  refine A_cond false rfl (fun h_ => nomatch h_) (fun _ => ?_)
  refine A_sr <| r_W (vT #[vA #[vI 0, vI 0, vI 0], vB false]) rfl (ev_taC ((rfl : _ = Sum31.v s).trans (show Sum31.v s = Value.iface 51 (vA #[vI x12_0, vI x13_1]) from by rw [hx6]; rfl)) rfl) ?_
  refine r_R [vB false, vA #[vI 0, vI 0, vI 0]] rfl <| lx_nil <| A_cond false rfl (fun h_ => nomatch h_) (fun _ => ?_)
  refine A_sr <| r_W (vT #[vA #[vI x12_0, vI x13_1], vB true]) rfl (ev_taC ((rfl : _ = Sum31.v s).trans (show Sum31.v s = Value.iface 51 (vA #[vI x12_0, vI x13_1]) from by rw [hx6]; rfl)) rfl) ?_
  refine r_R [vB true, vA #[vI x12_0, vI x13_1]] rfl <| lx_nil <| A_cond true rfl (fun _ => ?_) (fun h_ => nomatch h_)
  refine A_sr <| r_a (51, #[vI 0, vI 0]) rfl rfl rfl (fun b31 => ?_) (.inr rfl)
  refine r_s [(b31, 51, #[vI x12_0, vI x13_1]), (b2, 27, #[vI 0, vI 0, vI 0, vI 0, U (0#64), U (0#64)])] 0 _ _ _ _ _ (#[vI x12_0, vI x13_1]) rfl rfl rfl rfl (.of rfl rfl) rfl rfl <| lx_nil <| A_sr <| r_V (vP b31 0) rfl <| r_l (vI x12_0) 0 _ _ _ _ rfl rfl rfl rfl rfl <| r_V (vP b31 1) rfl <| r_l (vI x13_1) 0 _ _ _ _ rfl rfl rfl rfl rfl <| r_W (vA #[vI x12_0, vI x13_1, vI 0, vI 0, U (0#64), U (0#64)]) rfl (ev_buildS rfl rfl rfl rfl) <| r_s [(b31, 51, #[vI x12_0, vI x13_1]), (b2, 27, #[vI x12_0, vI x13_1, vI 0, vI 0, U (0#64), U (0#64)])] 1 _ _ _ _ _ (#[vI x12_0, vI x13_1, vI 0, vI 0, U (0#64), U (0#64)]) rfl rfl rfl rfl (.of rfl rfl) rfl rfl <| lx_nil ?_
  obtain rfl := Option.some.inj hM
  refine A_ret (fun hn => ends_eq (v0 := vA #[vI x12_0, vI x13_1, vI 0, vI 0, U (0#64), U (0#64)]) (by first | rfl | (simp only [app_hl]; done) | simp only [Sum31.v, app_hl]) (res1 (res_cell hn 1 rfl rfl rfl)))
 ·replace hM := Sum31.on_t52 hx6 hM
  refine r_W (vT #[vA #[vI 0, U (0#64), U (0#64)], vB false]) rfl (ev_taC ((rfl : _ = Sum31.v s).trans (show Sum31.v s = Value.iface 52 (vA #[vI x14_0, vI x15_1]) from by rw [hx6]; rfl)) rfl) ?_
  refine r_R [vB false, vA #[vI 0, U (0#64), U (0#64)]] rfl <| lx_nil <| hK5 _ _ ?_; try clear hK5 K5
  refine A_cond false rfl (fun h_ => nomatch h_) (fun _ => ?_)
  refine A_sr <| r_W (vT #[vA #[vI 0, vI 0, vI 0], vB false]) rfl (ev_taC ((rfl : _ = Sum31.v s).trans (show Sum31.v s = Value.iface 52 (vA #[vI x14_0, vI x15_1]) from by rw [hx6]; rfl)) rfl) ?_
  refine r_R [vB false, vA #[vI 0, vI 0, vI 0]] rfl <| lx_nil <| A_cond false rfl (fun h_ => nomatch h_) (fun _ => ?_)
  refine A_sr <| r_W (vT #[vA #[vI 0, vI 0], vB false]) rfl (ev_taC ((rfl : _ = Sum31.v s).trans (show Sum31.v s = Value.iface 52 (vA #[vI x14_0, vI x15_1]) from by rw [hx6]; rfl)) rfl) ?_
  refine r_R [vB false, vA #[vI 0, vI 0]] rfl <| lx_nil <| A_cond false rfl (fun h_ => nomatch h_) (fun _ => ?_)
  refine A_sr <| r_W (vT #[vA #[vI 0, vI 0], vB false]) rfl (ev_taC ((rfl : _ = Sum31.v s).trans (show Sum31.v s = Value.iface 52 (vA #[vI x14_0, vI x15_1]) from by rw [hx6]; rfl)) rfl) ?_
  refine r_R [vB false, vA #[vI 0, vI 0]] rfl <| lx_nil <| A_cond false rfl (fun h_ => nomatch h_) (fun _ => ?_)
  refine A_sr <| r_W (vT #[vA #[vI x14_0, vI x15_1], vB true]) rfl (ev_taC ((rfl : _ = Sum31.v s).trans (show Sum31.v s = Value.iface 52 (vA #[vI x14_0, vI x15_1]) from by rw [hx6]; rfl)) rfl) ?_
  refine r_R [vB true, vA #[vI x14_0, vI x15_1]] rfl <| lx_nil <| A_cond true rfl (fun _ => ?_) (fun h_ => nomatch h_)
  refine A_sr <| r_a (52, #[vI 0, vI 0]) rfl rfl rfl (fun b33 => ?_) (.inr rfl)
  refine r_s [(b33, 52, #[vI x14_0, vI x15_1]), (b2, 27, #[vI 0, vI 0, vI 0, vI 0, U (0#64), U (0#64)])] 0 _ _ _ _ _ (#[vI x14_0, vI x15_1]) rfl rfl rfl rfl (.of rfl rfl) rfl rfl <| lx_nil <| A_sr <| r_V (vP b33 0) rfl <| r_l (vI x14_0) 0 _ _ _ _ rfl rfl rfl rfl rfl <| r_V (vP b33 1) rfl <| r_l (vI x15_1) 0 _ _ _ _ rfl rfl rfl rfl rfl <| r_W (vA #[vI x14_0, vI x15_1, vI 0, vI 0, U (0#64), U (0#64)]) rfl (ev_buildS rfl rfl rfl rfl) <| r_s [(b33, 52, #[vI x14_0, vI x15_1]), (b2, 27, #[vI x14_0, vI x15_1, vI 0, vI 0, U (0#64), U (0#64)])] 1 _ _ _ _ _ (#[vI x14_0, vI x15_1, vI 0, vI 0, U (0#64), U (0#64)]) rfl rfl rfl rfl (.of rfl rfl) rfl rfl <| lx_nil ?_
  obtain rfl := Option.some.inj hM
  refine A_ret (fun hn => ends_eq (v0 := vA #[vI x14_0, vI x15_1, vI 0, vI 0, U (0#64), U (0#64)]) (by first | rfl | (simp only [app_hl]; done) | simp only [Sum31.v, app_hl]) (res1 (res_cell hn 1 rfl rfl rfl)))
 ·replace hM := Sum31.on_t54 hx6 hM
  refine r_W (vT #[vA #[vI 0, U (0#64), U (0#64)], vB false]) rfl (ev_taC ((rfl : _ = Sum31.v s).trans (show Sum31.v s = Value.iface 54 (vA #[vI x16_0, vI x17_1]) from by rw [hx6]; rfl)) rfl) ?_
  refine r_R [vB false, vA #[vI 0, U (0#64), U (0#64)]] rfl <| lx_nil <| hK5 _ _ ?_; try clear hK5 K5
  refine A_cond false rfl (fun h_ => nomatch h_) (fun _ => ?_)
  refine A_sr <| r_W (vT #[vA #[vI 0, vI 0, vI 0], vB false]) rfl (ev_taC ((rfl : _ = Sum31.v s).trans (show Sum31.v s = Value.iface 54 (vA #[vI x16_0, vI x17_1]) from by rw [hx6]; rfl)) rfl) ?_
  refine r_R [vB false, vA #[vI 0, vI 0, vI 0]] rfl <| lx_nil <| A_cond false rfl (fun h_ => nomatch h_) (fun _ => ?_)
  refine A_sr <| r_W (vT #[vA #[vI 0, vI 0], vB false]) rfl (ev_taC ((rfl : _ = Sum31.v s).trans (show Sum31.v s = Value.iface 54 (vA #[vI x16_0, vI x17_1]) from by rw [hx6]; rfl)) rfl) ?_
  refine r_R [vB false, vA #[vI 0, vI 0]] rfl <| lx_nil <| A_cond false rfl (fun h_ => nomatch h_) (fun _ => ?_)
  refine A_sr <| r_W (vT #[vA #[vI 0, vI 0], vB false]) rfl (ev_taC ((rfl : _ = Sum31.v s).trans (show Sum31.v s = Value.iface 54 (vA #[vI x16_0, vI x17_1]) from by rw [hx6]; rfl)) rfl) ?_
  refine r_R [vB false, vA #[vI 0, vI 0]] rfl <| lx_nil <| A_cond false rfl (fun h_ => nomatch h_) (fun _ => ?_)
  refine A_sr <| r_W (vT #[vA #[vI 0, vI 0], vB false]) rfl (ev_taC ((rfl : _ = Sum31.v s).trans (show Sum31.v s = Value.iface 54 (vA #[vI x16_0, vI x17_1]) from by rw [hx6]; rfl)) rfl) ?_
  refine r_R [vB false, vA #[vI 0, vI 0]] rfl <| lx_nil <| A_cond false rfl (fun h_ => nomatch h_) (fun _ => ?_)
  refine A_sr <| r_W (vT #[vA #[vI x16_0, vI x17_1], vB true]) rfl (ev_taC ((rfl : _ = Sum31.v s).trans (show Sum31.v s = Value.iface 54 (vA #[vI x16_0, vI x17_1]) from by rw [hx6]; rfl)) rfl) ?_
  refine r_R [vB true, vA #[vI x16_0, vI x17_1]] rfl <| lx_nil <| A_cond true rfl (fun _ => ?_) (fun h_ => nomatch h_)
  refine A_sr <| r_a (54, #[vI 0, vI 0]) rfl rfl rfl (fun b34 => ?_) (.inr rfl)
  refine r_s [(b34, 54, #[vI x16_0, vI x17_1]), (b2, 27, #[vI 0, vI 0, vI 0, vI 0, U (0#64), U (0#64)])] 0 _ _ _ _ _ (#[vI x16_0, vI x17_1]) rfl rfl rfl rfl (.of rfl rfl) rfl rfl <| lx_nil <| A_sr <| r_V (vP b34 0) rfl <| r_l (vI x16_0) 0 _ _ _ _ rfl rfl rfl rfl rfl <| r_V (vP b34 1) rfl <| r_l (vI x17_1) 0 _ _ _ _ rfl rfl rfl rfl rfl <| r_W (vA #[vI 10, vI x16_0, vI x17_1, vI 0, U (0#64), U (0#64)]) rfl (ev_buildS rfl rfl rfl rfl) <| r_s [(b34, 54, #[vI x16_0, vI x17_1]), (b2, 27, #[vI 10, vI x16_0, vI x17_1, vI 0, U (0#64), U (0#64)])] 1 _ _ _ _ _ (#[vI 10, vI x16_0, vI x17_1, vI 0, U (0#64), U (0#64)]) rfl rfl rfl rfl (.of rfl rfl) rfl rfl <| lx_nil ?_
  refine A_gen [(2, vP b2 0)] rfl (fun T => ?_)
  obtain rfl := Option.some.inj hM
  refine A_ret (fun hn => ends_eq (v0 := vA #[vI 10, vI x16_0, vI x17_1, vI 0, U (0#64), U (0#64)]) (by first | rfl | (simp only [app_hl]; done) | simp only [Sum31.v, app_hl]) (res1 (res_cell hn 1 rfl rfl rfl)))
 ·replace hM := Sum31.on_t56 hx6 hM
  refine r_W (vT #[vA #[vI 0, U (0#64), U (0#64)], vB false]) rfl (ev_taC ((rfl : _ = Sum31.v s).trans (show Sum31.v s = Value.iface 56 (vA #[vI x18_0, vI x19_1, vI x20_2]) from by rw [hx6]; rfl)) rfl) ?_
  refine r_R [vB false, vA #[vI 0, U (0#64), U (0#64)]] rfl <| lx_nil <| hK5 _ _ ?_; try clear hK5 K5
  refine A_cond false rfl (fun h_ => nomatch h_) (fun _ => ?_)
  refine A_sr <| r_W (vT #[vA #[vI 0, vI 0, vI 0], vB false]) rfl (ev_taC ((rfl : _ = Sum31.v s).trans (show Sum31.v s = Value.iface 56 (vA #[vI x18_0, vI x19_1, vI x20_2]) from by rw [hx6]; rfl)) rfl) ?_
  refine r_R [vB false, vA #[vI 0, vI 0, vI 0]] rfl <| lx_nil <| A_cond false rfl (fun h_ => nomatch h_) (fun _ => ?_)
  refine A_sr <| r_W (vT #[vA #[vI 0, vI 0], vB false]) rfl (ev_taC ((rfl : _ = Sum31.v s).trans (show Sum31.v s = Value.iface 56 (vA #[vI x18_0, vI x19_1, vI x20_2]) from by rw [hx6]; rfl)) rfl) ?_
  refine r_R [vB false, vA #[vI 0, vI 0]] rfl <| lx_nil <| A_cond false rfl (fun h_ => nomatch h_) (fun _ => ?_)
  refine A_sr <| r_W (vT #[vA #[vI 0, vI 0], vB false]) rfl (ev_taC ((rfl : _ = Sum31.v s).trans (show Sum31.v s = Value.iface 56 (vA #[vI x18_0, vI x19_1, vI x20_2]) from by rw [hx6]; rfl)) rfl) ?_
  refine r_R [vB false, vA #[vI 0, vI 0]] rfl <| lx_nil <| A_cond false rfl (fun h_ => nomatch h_) (fun _ => ?_)
  refine A_sr <| r_W (vT #[vA #[vI 0, vI 0], vB false]) rfl (ev_taC ((rfl : _ = Sum31.v s).trans (show Sum31.v s = Value.iface 56 (vA #[vI x18_0, vI x19_1, vI x20_2]) from by rw [hx6]; rfl)) rfl) ?_
  refine r_R [vB false, vA #[vI 0, vI 0]] rfl <| lx_nil <| A_cond false rfl (fun h_ => nomatch h_) (fun _ => ?_)
  refine A_sr <| r_W (vT #[vA #[vI 0, vI 0], vB false]) rfl (ev_taC ((rfl : _ = Sum31.v s).trans (show Sum31.v s = Value.iface 56 (vA #[vI x18_0, vI x19_1, vI x20_2]) from by rw [hx6]; rfl)) rfl) ?_
  refine r_R [vB false, vA #[vI 0, vI 0]] rfl <| lx_nil <| A_cond false rfl (fun h_ => nomatch h_) (fun _ => ?_)
  refine A_sr <| r_W (vT #[vA #[vI 0], vB false]) rfl (ev_taC ((rfl : _ = Sum31.v s).trans (show Sum31.v s = Value.iface 56 (vA #[vI x18_0, vI x19_1, vI x20_2]) from by rw [hx6]; rfl)) rfl) ?_
  refine r_R [vB false, vA #[vI 0]] rfl <| lx_nil <| A_cond false rfl (fun h_ => nomatch h_) (fun _ => ?_)
  refine A_sr <| r_W (vT #[vA #[vI x18_0, vI x19_1, vI x20_2], vB true]) rfl (ev_taC ((rfl : _ = Sum31.v s).trans (show Sum31.v s = Value.iface 56 (vA #[vI x18_0, vI x19_1, vI x20_2]) from by rw [hx6]; rfl)) rfl) ?_
  refine r_R [vB true, vA #[vI x18_0, vI x19_1, vI x20_2]] rfl <| lx_nil <| A_cond true rfl (fun _ => ?_) (fun h_ => nomatch h_)
  refine A_sr <| r_a (56, #[vI 0, vI 0, vI 0]) rfl rfl rfl (fun b36 => ?_) (.inr rfl)
  refine r_s [(b36, 56, #[vI x18_0, vI x19_1, vI x20_2]), (b2, 27, #[vI 0, vI 0, vI 0, vI 0, U (0#64), U (0#64)])] 0 _ _ _ _ _ (#[vI x18_0, vI x19_1, vI x20_2]) rfl rfl rfl rfl (.of rfl rfl) rfl rfl <| lx_nil <| A_gen [(2, vP b2 0), (10, vP b36 0)] rfl (fun T => ?_)
  refine A_sr <| r_V (vP b36 0) rfl <| r_l (vI x18_0) 0 _ _ _ _ rfl rfl rfl rfl rfl <| r_V (vP b36 1) rfl <| r_l (vI x19_1) 0 _ _ _ _ rfl rfl rfl rfl rfl <| r_V (vP b36 2) rfl <| r_l (vI x20_2) 0 _ _ _ _ rfl rfl rfl rfl rfl <| r_W (vA #[vI x18_0, vI x19_1, vI x20_2, vI 0, U (0#64), U (0#64)]) rfl (ev_buildS rfl rfl rfl rfl) <| r_s [(b36, 56, #[vI x18_0, vI x19_1, vI x20_2]), (b2, 27, #[vI x18_0, vI x19_1, vI x20_2, vI 0, U (0#64), U (0#64)])] 1 _ _ _ _ _ (#[vI x18_0, vI x19_1, vI x20_2, vI 0, U (0#64), U (0#64)]) rfl rfl rfl rfl (.of rfl rfl) rfl rfl <| lx_nil ?_
  obtain rfl := Option.some.inj hM
  refine A_ret (fun hn => ends_eq (v0 := vA #[vI x18_0, vI x19_1, vI x20_2, vI 0, U (0#64), U (0#64)]) (by first | rfl | (simp only [app_hl]; done) | simp only [Sum31.v, app_hl]) (res1 (res_cell hn 1 rfl rfl rfl)))
 ·replace hM := Sum31.on_t58 hx6 hM
  refine r_W (vT #[vA #[vI 0, U (0#64), U (0#64)], vB false]) rfl (ev_taC ((rfl : _ = Sum31.v s).trans (show Sum31.v s = Value.iface 58 (vA #[vI x21_0, vI x22_1]) from by rw [hx6]; rfl)) rfl) ?_
  refine r_R [vB false, vA #[vI 0, U (0#64), U (0#64)]] rfl <| lx_nil <| hK5 _ _ ?_; try clear hK5 K5
  refine A_cond false rfl (fun h_ => nomatch h_) (fun _ => ?_)
  refine A_sr <| r_W (vT #[vA #[vI 0, vI 0, vI 0], vB false]) rfl (ev_taC ((rfl : _ = Sum31.v s).trans (show Sum31.v s = Value.iface 58 (vA #[vI x21_0, vI x22_1]) from by rw [hx6]; rfl)) rfl) ?_
  refine r_R [vB false, vA #[vI 0, vI 0, vI 0]] rfl <| lx_nil <| A_cond false rfl (fun h_ => nomatch h_) (fun _ => ?_)
  refine A_sr <| r_W (vT #[vA #[vI 0, vI 0], vB false]) rfl (ev_taC ((rfl : _ = Sum31.v s).trans (show Sum31.v s = Value.iface 58 (vA #[vI x21_0, vI x22_1]) from by rw [hx6]; rfl)) rfl) ?_
  refine r_R [vB false, vA #[vI 0, vI 0]] rfl <| lx_nil <| A_cond false rfl (fun h_ => nomatch h_) (fun _ => ?_)
  refine A_sr <| r_W (vT #[vA #[vI 0, vI 0], vB false]) rfl (ev_taC ((rfl : _ = Sum31.v s).trans (show Sum31.v s = Value.iface 58 (vA #[vI x21_0, vI x22_1]) from by rw [hx6]; rfl)) rfl) ?_
  refine r_R [vB false, vA #[vI 0, vI 0]] rfl <| lx_nil <| A_cond false rfl (fun h_ => nomatch h_) (fun _ => ?_)
  refine A_sr <| r_W (vT #[vA #[vI 0, vI 0], vB false]) rfl (ev_taC ((rfl : _ = Sum31.v s).trans (show Sum31.v s = Value.iface 58 (vA #[vI x21_0, vI x22_1]) from by rw [hx6]; rfl)) rfl) ?_
  refine r_R [vB false, vA #[vI 0, vI 0]] rfl <| lx_nil <| A_cond false rfl (fun h_ => nomatch h_) (fun _ => ?_)
  refine A_sr <| r_W (vT #[vA #[vI 0, vI 0], vB false]) rfl (ev_taC ((rfl : _ = Sum31.v s).trans (show Sum31.v s = Value.iface 58 (vA #[vI x21_0, vI x22_1]) from by rw [hx6]; rfl)) rfl) ?_
  refine r_R [vB false, vA #[vI 0, vI 0]] rfl <| lx_nil <| A_cond false rfl (fun h_ => nomatch h_) (fun _ => ?_)
  refine A_sr <| r_W (vT #[vA #[vI 0], vB false]) rfl (ev_taC ((rfl : _ = Sum31.v s).trans (show Sum31.v s = Value.iface 58 (vA #[vI x21_0, vI x22_1]) from by rw [hx6]; rfl)) rfl) ?_
  refine r_R [vB false, vA #[vI 0]] rfl <| lx_nil <| A_cond false rfl (fun h_ => nomatch h_) (fun _ => ?_)
  refine A_sr <| r_W (vT #[vA #[vI 0, vI 0, vI 0], vB false]) rfl (ev_taC ((rfl : _ = Sum31.v s).trans (show Sum31.v s = Value.iface 58 (vA #[vI x21_0, vI x22_1]) from by rw [hx6]; rfl)) rfl) ?_
  refine r_R [vB false, vA #[vI 0, vI 0, vI 0]] rfl <| lx_nil <| A_cond false rfl (fun h_ => nomatch h_) (fun _ => ?_)
  refine A_sr <| r_W (vT #[vA #[vI 0, vI 0], vB false]) rfl (ev_taC ((rfl : _ = Sum31.v s).trans (show Sum31.v s = Value.iface 58 (vA #[vI x21_0, vI x22_1]) from by rw [hx6]; rfl)) rfl) ?_
  refine r_R [vB false, vA #[vI 0, vI 0]] rfl <| lx_nil <| A_gen [(2, vP b2 0), (14, Sum31.v s), (80, vB false), (81, vA #[vI 0, vI 0])] rfl (fun T => ?_)
  refine A_cond false rfl (fun h_ => nomatch h_) (fun _ => ?_)
  refine A_sr <| r_W (vT #[vA #[vI x21_0, vI x22_1], vB true]) rfl (ev_taC ((rfl : _ = Sum31.v s).trans (show Sum31.v s = Value.iface 58 (vA #[vI x21_0, vI x22_1]) from by rw [hx6]; rfl)) rfl) ?_
  refine r_R [vB true, vA #[vI x21_0, vI x22_1]] rfl <| lx_nil <| A_cond true rfl (fun _ => ?_) (fun h_ => nomatch h_)
  refine A_sr <| r_a (58, #[vI 0, vI 0]) rfl rfl rfl (fun b38 => ?_) (.inr rfl)
  refine r_s [(b38, 58, #[vI x21_0, vI x22_1]), (b2, 27, #[vI 0, vI 0, vI 0, vI 0, U (0#64), U (0#64)])] 0 _ _ _ _ _ (#[vI x21_0, vI x22_1]) rfl rfl rfl rfl (.of rfl rfl) rfl rfl <| lx_nil <| A_sr <| r_V (vP b38 0) rfl <| r_l (vI x21_0) 0 _ _ _ _ rfl rfl rfl rfl rfl <| r_V (vP b38 1) rfl <| r_l (vI x22_1) 0 _ _ _ _ rfl rfl rfl rfl rfl <| r_W (vA #[vI 33, vI x21_0, vI x22_1, vI 0, U (0#64), U (0#64)]) rfl (ev_buildS rfl rfl rfl rfl) <| r_s [(b38, 58, #[vI x21_0, vI x22_1]), (b2, 27, #[vI 33, vI x21_0, vI x22_1, vI 0, U (0#64), U (0#64)])] 1 _ _ _ _ _ (#[vI 33, vI x21_0, vI x22_1, vI 0, U (0#64), U (0#64)]) rfl rfl rfl rfl (.of rfl rfl) rfl rfl <| lx_nil ?_
  obtain rfl := Option.some.inj hM
  refine A_ret (fun hn => ends_eq (v0 := vA #[vI 33, vI x21_0, vI x22_1, vI 0, U (0#64), U (0#64)]) (by first | rfl | (simp only [app_hl]; done) | simp only [Sum31.v, app_hl]) (res1 (res_cell hn 1 rfl rfl rfl)))
 ·replace hM := Sum31.on_t60 hx6 hM
  refine r_W (vT #[vA #[vI 0, U (0#64), U (0#64)], vB false]) rfl (ev_taC ((rfl : _ = Sum31.v s).trans (show Sum31.v s = Value.iface 60 (vA #[vI x23_0]) from by rw [hx6]; rfl)) rfl) ?_
  refine r_R [vB false, vA #[vI 0, U (0#64), U (0#64)]] rfl <| lx_nil <| hK5 _ _ ?_; try clear hK5 K5
  refine A_cond false rfl (fun h_ => nomatch h_) (fun _ => ?_)
  refine A_sr <| r_W (vT #[vA #[vI 0, vI 0, vI 0], vB false]) rfl (ev_taC ((rfl : _ = Sum31.v s).trans (show Sum31.v s = Value.iface 60 (vA #[vI x23_0]) from by rw [hx6]; rfl)) rfl) ?_
  refine r_R [vB false, vA #[vI 0, vI 0, vI 0]] rfl <| lx_nil <| A_cond false rfl (fun h_ => nomatch h_) (fun _ => ?_)
  refine A_sr <| r_W (vT #[vA #[vI 0, vI 0], vB false]) rfl (ev_taC ((rfl : _ = Sum31.v s).trans (show Sum31.v s = Value.iface 60 (vA #[vI x23_0]) from by rw [hx6]; rfl)) rfl) ?_
  refine r_R [vB false, vA #[vI 0, vI 0]] rfl <| lx_nil <| A_cond false rfl (fun h_ => nomatch h_) (fun _ => ?_)
  refine A_sr <| r_W (vT #[vA #[vI 0, vI 0], vB false]) rfl (ev_taC ((rfl : _ = Sum31.v s).trans (show Sum31.v s = Value.iface 60 (vA #[vI x23_0]) from by rw [hx6]; rfl)) rfl) ?_
  refine r_R [vB false, vA #[vI 0, vI 0]] rfl <| lx_nil <| A_cond false rfl (fun h_ => nomatch h_) (fun _ => ?_)
  refine A_sr <| r_W (vT #[vA #[vI 0, vI 0], vB false]) rfl (ev_taC ((rfl : _ = Sum31.v s).trans (show Sum31.v s = Value.iface 60 (vA #[vI x23_0]) from by rw [hx6]; rfl)) rfl) ?_
  refine r_R [vB false, vA #[vI 0, vI 0]] rfl <| lx_nil <| A_cond false rfl (fun h_ => nomatch h_) (fun _ => ?_)
  refine A_sr <| r_W (vT #[vA #[vI 0, vI 0], vB false]) rfl (ev_taC ((rfl : _ = Sum31.v s).trans (show Sum31.v s = Value.iface 60 (vA #[vI x23_0]) from by rw [hx6]; rfl)) rfl) ?_
  refine r_R [vB false, vA #[vI 0, vI 0]] rfl <| lx_nil <| A_cond false rfl (fun h_ => nomatch h_) (fun _ => ?_)
  refine A_sr <| r_W (vT #[vA #[vI x23_0], vB true]) rfl (ev_taC ((rfl : _ = Sum31.v s).trans (show Sum31.v s = Value.iface 60 (vA #[vI x23_0]) from by rw [hx6]; rfl)) rfl) ?_
  refine r_R [vB true, vA #[vI x23_0]] rfl <| lx_nil <| A_cond true rfl (fun _ => ?_) (fun h_ => nomatch h_)
  refine A_sr <| r_a (60, #[vI 0]) rfl rfl rfl (fun b35 => ?_) (.inr rfl)
  refine r_s [(b35, 60, #[vI x23_0]), (b2, 27, #[vI 0, vI 0, vI 0, vI 0, U (0#64), U (0#64)])] 0 _ _ _ _ _ (#[vI x23_0]) rfl rfl rfl rfl (.of rfl rfl) rfl rfl <| lx_nil <| A_sr <| r_V (vP b35 0) rfl <| r_l (vI x23_0) 0 _ _ _ _ rfl rfl rfl rfl rfl <| r_W (vA #[vI x23_0, vI 0, vI 0, vI 0, U (0#64), U (0#64)]) rfl (ev_buildS rfl rfl rfl rfl) <| r_s [(b35, 60, #[vI x23_0]), (b2, 27, #[vI x23_0, vI 0, vI 0, vI 0, U (0#64), U (0#64)])] 1 _ _ _ _ _ (#[vI x23_0, vI 0, vI 0, vI 0, U (0#64), U (0#64)]) rfl rfl rfl rfl (.of rfl rfl) rfl rfl <| lx_nil <| A_gen [(2, vP b2 0)] rfl (fun T => ?_)
  obtain rfl := Option.some.inj hM
  refine A_ret (fun hn => ends_eq (v0 := vA #[vI x23_0, vI 0, vI 0, vI 0, U (0#64), U (0#64)]) (by first | rfl | (simp only [app_hl]; done) | simp only [Sum31.v, app_hl]) (res1 (res_cell hn 1 rfl rfl rfl)))
 ·replace hM := Sum31.on_t86 hx6 hM
  refine r_W (vT #[vA #[vI 0, U (0#64), U (0#64)], vB false]) rfl (ev_taC ((rfl : _ = Sum31.v s).trans (show Sum31.v s = Value.iface 86 (vA #[vI x24_0, vI x25_1]) from by rw [hx6]; rfl)) rfl) ?_
  refine r_R [vB false, vA #[vI 0, U (0#64), U (0#64)]] rfl <| lx_nil <| hK5 _ _ ?_; try clear hK5 K5
  refine A_cond false rfl (fun h_ => nomatch h_) (fun _ => ?_)
  refine A_sr <| r_W (vT #[vA #[vI 0, vI 0, vI 0], vB false]) rfl (ev_taC ((rfl : _ = Sum31.v s).trans (show Sum31.v s = Value.iface 86 (vA #[vI x24_0, vI x25_1]) from by rw [hx6]; rfl)) rfl) ?_
  refine r_R [vB false, vA #[vI 0, vI 0, vI 0]] rfl <| lx_nil <| A_cond false rfl (fun h_ => nomatch h_) (fun _ => ?_)
  refine A_sr <| r_W (vT #[vA #[vI 0, vI 0], vB false]) rfl (ev_taC ((rfl : _ = Sum31.v s).trans (show Sum31.v s = Value.iface 86 (vA #[vI x24_0, vI x25_1]) from by rw [hx6]; rfl)) rfl) ?_
  refine r_R [vB false, vA #[vI 0, vI 0]] rfl <| lx_nil <| A_cond false rfl (fun h_ => nomatch h_) (fun _ => ?_)
  refine A_sr <| r_W (vT #[vA #[vI x24_0, vI x25_1], vB true]) rfl (ev_taC ((rfl : _ = Sum31.v s).trans (show Sum31.v s = Value.iface 86 (vA #[vI x24_0, vI x25_1]) from by rw [hx6]; rfl)) rfl) ?_
  refine r_R [vB true, vA #[vI x24_0, vI x25_1]] rfl <| lx_nil <| A_cond true rfl (fun _ => ?_) (fun h_ => nomatch h_)
  refine A_sr <| r_a (86, #[vI 0, vI 0]) rfl rfl rfl (fun b32 => ?_) (.inr rfl)
  refine r_s [(b32, 86, #[vI x24_0, vI x25_1]), (b2, 27, #[vI 0, vI 0, vI 0, vI 0, U (0#64), U (0#64)])] 0 _ _ _ _ _ (#[vI x24_0, vI x25_1]) rfl rfl rfl rfl (.of rfl rfl) rfl rfl <| lx_nil <| A_sr <| r_V (vP b32 0) rfl <| r_l (vI x24_0) 0 _ _ _ _ rfl rfl rfl rfl rfl <| r_V (vP b32 1) rfl <| r_l (vI x25_1) 0 _ _ _ _ rfl rfl rfl rfl rfl <| r_W (vA #[vI x24_0, vI x25_1, vI 0, vI 0, U (0#64), U (0#64)]) rfl (ev_buildS rfl rfl rfl rfl) <| r_s [(b32, 86, #[vI x24_0, vI x25_1]), (b2, 27, #[vI x24_0, vI x25_1, vI 0, vI 0, U (0#64), U (0#64)])] 1 _ _ _ _ _ (#[vI x24_0, vI x25_1, vI 0, vI 0, U (0#64), U (0#64)]) rfl rfl rfl rfl (.of rfl rfl) rfl rfl <| lx_nil ?_
  obtain rfl := Option.some.inj hM
  refine A_ret (fun hn => ends_eq (v0 := vA #[vI x24_0, vI x25_1, vI 0, vI 0, U (0#64), U (0#64)]) (by first | rfl | (simp only [app_hl]; done) | simp only [Sum31.v, app_hl]) (res1 (res_cell hn 1 rfl rfl rfl)))
 ·replace hM := Sum31.on_t88 hx6 hM
  refine r_W (vT #[vA #[vI 0, U (0#64), U (0#64)], vB false]) rfl (ev_taC ((rfl : _ = Sum31.v s).trans (show Sum31.v s = Value.iface 88 (vA #[vI x26_0, vI x27_1]) from by rw [hx6]; rfl)) rfl) ?_
  refine r_R [vB false, vA #[vI 0, U (0#64), U (0#64)]] rfl <| lx_nil <| hK5 _ _ ?_; try clear hK5 K5
  refine A_cond false rfl (fun h_ => nomatch h_) (fun _ => ?_)
  refine A_sr <| r_W (vT #[vA #[vI 0, vI 0, vI 0], vB false]) rfl (ev_taC ((rfl : _ = Sum31.v s).trans (show Sum31.v s = Value.iface 88 (vA #[vI x26_0, vI x27_1]) from by rw [hx6]; rfl)) rfl) ?_
  refine r_R [vB false, vA #[vI 0, vI 0, vI 0]] rfl <| lx_nil <| A_cond false rfl (fun h_ => nomatch h_) (fun _ => ?_)
  refine A_sr <| r_W (vT #[vA #[vI 0, vI 0], vB false]) rfl (ev_taC ((rfl : _ = Sum31.v s).trans (show Sum31.v s = Value.iface 88 (vA #[vI x26_0, vI x27_1]) from by rw [hx6]; rfl)) rfl) ?_
  refine r_R [vB false, vA #[vI 0, vI 0]] rfl <| lx_nil <| A_cond false rfl (fun h_ => nomatch h_) (fun _ => ?_)
  refine A_sr <| r_W (vT #[vA #[vI 0, vI 0], vB false]) rfl (ev_taC ((rfl : _ = Sum31.v s).trans (show Sum31.v s = Value.iface 88 (vA #[vI x26_0, vI x27_1]) from by rw [hx6]; rfl)) rfl) ?_
  refine r_R [vB false, vA #[vI 0, vI 0]] rfl <| lx_nil <| A_cond false rfl (fun h_ => nomatch h_) (fun _ => ?_)
  refine A_sr <| r_W (vT #[vA #[vI 0, vI 0], vB false]) rfl (ev_taC ((rfl : _ = Sum31.v s).trans (show Sum31.v s = Value.iface 88 (vA #[vI x26_0, vI x27_1]) from by rw [hx6]; rfl)) rfl) ?_
  refine r_R [vB false, vA #[vI 0, vI 0]] rfl <| lx_nil <| A_cond false rfl (fun h_ => nomatch h_) (fun _ => ?_)
  refine A_sr <| r_W (vT #[vA #[vI 0, vI 0], vB false]) rfl (ev_taC ((rfl : _ = Sum31.v s).trans (show Sum31.v s = Value.iface 88 (vA #[vI x26_0, vI x27_1]) from by rw [hx6]; rfl)) rfl) ?_
  refine r_R [vB false, vA #[vI 0, vI 0]] rfl <| lx_nil <| A_cond false rfl (fun h_ => nomatch h_) (fun _ => ?_)
  refine A_sr <| r_W (vT #[vA #[vI 0], vB false]) rfl (ev_taC ((rfl : _ = Sum31.v s).trans (show Sum31.v s = Value.iface 88 (vA #[vI x26_0, vI x27_1]) from by rw [hx6]; rfl)) rfl) ?_
  refine r_R [vB false, vA #[vI 0]] rfl <| lx_nil <| A_cond false rfl (fun h_ => nomatch h_) (fun _ => ?_)
  refine A_sr <| r_W (vT #[vA #[vI 0, vI 0, vI 0], vB false]) rfl (ev_taC ((rfl : _ = Sum31.v s).trans (show Sum31.v s = Value.iface 88 (vA #[vI x26_0, vI x27_1]) from by rw [hx6]; rfl)) rfl) ?_
  refine r_R [vB false, vA #[vI 0, vI 0, vI 0]] rfl <| lx_nil <| A_cond false rfl (fun h_ => nomatch h_) (fun _ => ?_)
  refine A_sr <| r_W (vT #[vA #[vI x26_0, vI x27_1], vB true]) rfl (ev_taC ((rfl : _ = Sum31.v s).trans (show Sum31.v s = Value.iface 88 (vA #[vI x26_0, vI x27_1]) from by rw [hx6]; rfl)) rfl) ?_
  refine r_R [vB true, vA #[vI x26_0, vI x27_1]] rfl <| lx_nil <| A_gen [(2, vP b2 0), (14, Sum31.v s), (80, vB true), (81, vA #[vI x26_0, vI x27_1])] rfl (fun T => ?_)
  refine A_cond true rfl (fun _ => ?_) (fun h_ => nomatch h_)
  refine A_sr <| r_a (88, #[vI 0, vI 0]) rfl rfl rfl (fun b37 => ?_) (.inr rfl)
  refine r_s [(b37, 88, #[vI x26_0, vI x27_1]), (b2, 27, #[vI 0, vI 0, vI 0, vI 0, U (0#64), U (0#64)])] 0 _ _ _ _ _ (#[vI x26_0, vI x27_1]) rfl rfl rfl rfl (.of rfl rfl) rfl rfl <| lx_nil <| A_sr <| r_V (vP b37 0) rfl <| r_l (vI x26_0) 0 _ _ _ _ rfl rfl rfl rfl rfl <| r_V (vP b37 1) rfl <| r_l (vI x27_1) 0 _ _ _ _ rfl rfl rfl rfl rfl <| r_W (vA #[vI x26_0, vI x27_1, vI 0, vI 0, U (0#64), U (0#64)]) rfl (ev_buildS rfl rfl rfl rfl) <| r_s [(b37, 88, #[vI x26_0, vI x27_1]), (b2, 27, #[vI x26_0, vI x27_1, vI 0, vI 0, U (0#64), U (0#64)])] 1 _ _ _ _ _ (#[vI x26_0, vI x27_1, vI 0, vI 0, U (0#64), U (0#64)]) rfl rfl rfl rfl (.of rfl rfl) rfl rfl <| lx_nil ?_
  obtain rfl := Option.some.inj hM
  refine A_ret (fun hn => ends_eq (v0 := vA #[vI x26_0, vI x27_1, vI 0, vI 0, U (0#64), U (0#64)]) (by first | rfl | (simp only [app_hl]; done) | simp only [Sum31.v, app_hl]) (res1 (res_cell hn 1 rfl rfl rfl)))
 replace hM := Sum31.on_t90 hx6 hM
 refine r_W (vT #[vA #[vI 0, U (0#64), U (0#64)], vB false]) rfl (ev_taC ((rfl : _ = Sum31.v s).trans (show Sum31.v s = Value.iface 90 (vA #[]) from by rw [hx6]; rfl)) rfl) ?_
 refine r_R [vB false, vA #[vI 0, U (0#64), U (0#64)]] rfl <| lx_nil <| hK5 _ _ ?_; try clear hK5 K5
 refine A_cond false rfl (fun h_ => nomatch h_) (fun _ => ?_)
 refine A_sr <| r_W (vT #[vA #[vI 0, vI 0, vI 0], vB false]) rfl (ev_taC ((rfl : _ = Sum31.v s).trans (show Sum31.v s = Value.iface 90 (vA #[]) from by rw [hx6]; rfl)) rfl) ?_
 refine r_R [vB false, vA #[vI 0, vI 0, vI 0]] rfl <| lx_nil <| A_cond false rfl (fun h_ => nomatch h_) (fun _ => ?_)
 refine A_sr <| r_W (vT #[vA #[vI 0, vI 0], vB false]) rfl (ev_taC ((rfl : _ = Sum31.v s).trans (show Sum31.v s = Value.iface 90 (vA #[]) from by rw [hx6]; rfl)) rfl) ?_
 refine r_R [vB false, vA #[vI 0, vI 0]] rfl <| lx_nil <| A_cond false rfl (fun h_ => nomatch h_) (fun _ => ?_)
 refine A_sr <| r_W (vT #[vA #[vI 0, vI 0], vB false]) rfl (ev_taC ((rfl : _ = Sum31.v s).trans (show Sum31.v s = Value.iface 90 (vA #[]) from by rw [hx6]; rfl)) rfl) ?_
 refine r_R [vB false, vA #[vI 0, vI 0]] rfl <| lx_nil <| A_cond false rfl (fun h_ => nomatch h_) (fun _ => ?_)
 refine A_sr <| r_W (vT #[vA #[vI 0, vI 0], vB false]) rfl (ev_taC ((rfl : _ = Sum31.v s).trans (show Sum31.v s = Value.iface 90 (vA #[]) from by rw [hx6]; rfl)) rfl) ?_
 refine r_R [vB false, vA #[vI 0, vI 0]] rfl <| lx_nil <| A_cond false rfl (fun h_ => nomatch h_) (fun _ => ?_)
 refine A_sr <| r_W (vT #[vA #[vI 0, vI 0], vB false]) rfl (ev_taC ((rfl : _ = Sum31.v s).trans (show Sum31.v s = Value.iface 90 (vA #[]) from by rw [hx6]; rfl)) rfl) ?_
 refine r_R [vB false, vA #[vI 0, vI 0]] rfl <| lx_nil <| A_cond false rfl (fun h_ => nomatch h_) (fun _ => ?_)
 refine A_sr <| r_W (vT #[vA #[vI 0], vB false]) rfl (ev_taC ((rfl : _ = Sum31.v s).trans (show Sum31.v s = Value.iface 90 (vA #[]) from by rw [hx6]; rfl)) rfl) ?_
 refine r_R [vB false, vA #[vI 0]] rfl <| lx_nil <| A_cond false rfl (fun h_ => nomatch h_) (fun _ => ?_)
 refine A_sr <| r_W (vT #[vA #[vI 0, vI 0, vI 0], vB false]) rfl (ev_taC ((rfl : _ = Sum31.v s).trans (show Sum31.v s = Value.iface 90 (vA #[]) from by rw [hx6]; rfl)) rfl) ?_
 refine r_R [vB false, vA #[vI 0, vI 0, vI 0]] rfl <| lx_nil <| A_cond false rfl (fun h_ => nomatch h_) (fun _ => ?_)
 refine A_sr <| r_W (vT #[vA #[vI 0, vI 0], vB false]) rfl (ev_taC ((rfl : _ = Sum31.v s).trans (show Sum31.v s = Value.iface 90 (vA #[]) from by rw [hx6]; rfl)) rfl) ?_
 refine r_R [vB false, vA #[vI 0, vI 0]] rfl <| lx_nil <| A_gen [(2, vP b2 0), (14, Sum31.v s), (80, vB false), (81, vA #[vI 0, vI 0])] rfl (fun T => ?_)
 refine A_cond false rfl (fun h_ => nomatch h_) (fun _ => ?_)
 refine A_sr <| r_W (vT #[vA #[vI 0, vI 0], vB false]) rfl (ev_taC ((rfl : _ = Sum31.v s).trans (show Sum31.v s = Value.iface 90 (vA #[]) from by rw [hx6]; rfl)) rfl) ?_
 refine r_R [vB false, vA #[vI 0, vI 0]] rfl <| lx_nil <| A_cond false rfl (fun h_ => nomatch h_) (fun _ => ?_)
 refine A_sr <| r_W (vT #[vA #[], vB true]) rfl (ev_taC ((rfl : _ = Sum31.v s).trans (show Sum31.v s = Value.iface 90 (vA #[]) from by rw [hx6]; rfl)) rfl) ?_
 refine r_R [vB true, vA #[]] rfl <| lx_nil <| A_cond true rfl (fun _ => ?_) (fun h_ => nomatch h_)
 refine A_sr <| r_a (90, #[]) rfl rfl rfl (fun b39 => ?_) (.inr rfl)
 refine r_s [(b39, 90, #[]), (b2, 27, #[vI 0, vI 0, vI 0, vI 0, U (0#64), U (0#64)])] 0 _ _ _ _ _ (#[]) rfl rfl rfl rfl (.of rfl rfl) rfl rfl <| lx_nil <| A_sr <| r_W (vA #[vI 34, vI 0, vI 0, vI 0, U (0#64), U (0#64)]) rfl (ev_buildS rfl rfl rfl rfl) <| r_s [(b39, 90, #[]), (b2, 27, #[vI 34, vI 0, vI 0, vI 0, U (0#64), U (0#64)])] 1 _ _ _ _ _ (#[vI 34, vI 0, vI 0, vI 0, U (0#64), U (0#64)]) rfl rfl rfl rfl (.of rfl rfl) rfl rfl <| lx_nil ?_
 obtain rfl := Option.some.inj hM
 refine A_ret (fun hn => ends_eq (v0 := vA #[vI 34, vI 0, vI 0, vI 0, U (0#64), U (0#64)]) (by first | rfl | (simp only [app_hl]; done) | simp only [Sum31.v, app_hl]) (res1 (res_cell hn 1 rfl rfl rfl)))
set_option maxRecDepth 100000 in
theorem eqst_25_9998  {c : Addr → Option Value} (x0 y0 : Int) (x1 y1 : BitVec 128) : ev Tryd.prog c (Op.equalIn 9998 25 (.agg #[vI x0, U (hi x1), U (lo x1)]) (.agg #[vI y0, U (hi y1), U (lo y1)])) = some ((x0 == y0) && (x1 == y1)) := by
 have h := ev_eqStruct (P := Tryd.prog) (c := c) 9997 (t := 25) #[vI x0, U (hi x1), U (lo x1)] #[vI y0, U (hi y1), U (lo y1)] rfl si_25 (fun f => if f.offset = 0 then (x0 == y0) else if f.offset = 1 then (((hi x1).toNat : Int) == ((hi y1).toNat : Int)) else (((lo x1).toNat : Int) == ((lo y1).toNat : Int)))
   (fun f hf => by
     simp only [List.mem_cons, List.not_mem_nil, or_false] at hf
     rcases hf with rfl | rfl | rfl
     · exact ⟨by decide, _, _, ev_partS (P := Tryd.prog) (t := 3) rfl (by intro fs h; cases h) (by intro n e h; cases h) _ _ rfl, ev_partS (P := Tryd.prog) (t := 3) rfl (by intro fs h; cases h) (by intro n e h; cases h) _ _ rfl, ev_eqInt _ _ _ rfl⟩
     · exact ⟨by decide, _, _, ev_partS (P := Tryd.prog) (t := 23) rfl (by intro fs h; cases h) (by intro n e h; cases h) _ _ rfl, ev_partS (P := Tryd.prog) (t := 23) rfl (by intro fs h; cases h) (by intro n e h; cases h) _ _ rfl, ev_eqInt _ _ _ rfl⟩
     · exact ⟨by decide, _, _, ev_partS (P := Tryd.prog) (t := 23) rfl (by intro fs h; cases h) (by intro n e h; cases h) _ _ rfl, ev_partS (P := Tryd.prog) (t := 23) rfl (by intro fs h; cases h) (by intro n e h; cases h) _ _ rfl, ev_eqInt _ _ _ rfl⟩)
 rw [← word_beq x1 y1]; rw [show Op.equalIn 9998 25 (.agg #[vI x0, U (hi x1), U (lo x1)]) (.agg #[vI y0, U (hi y1), U (lo y1)]) = Op.equalIn (9997 + 1) 25 (.agg #[vI x0, U (hi x1), U (lo x1)]) (.agg #[vI y0, U (hi y1), U (lo y1)]) from rfl, h]
 first | (simp; done) | simp [Bool.and_assoc]
theorem eg_47  : Tryd.prog.eqGuardType Tryd.prog.depth 47 = false := by kernel_rfl
theorem si_47  : Tryd.prog.stoodInHeld 47 = false := by kernel_rfl
set_option maxRecDepth 100000 in
theorem eqst_47_9999  {c : Addr → Option Value} (x0 y0 : Int) (x1 y1 : BitVec 128) : ev Tryd.prog c (Op.equalIn 9999 47 (.agg #[vI x0, U (hi x1), U (lo x1)]) (.agg #[vI y0, U (hi y1), U (lo y1)])) = some ((x0 == y0) && (x1 == y1)) := by
 have h := ev_eqStruct (P := Tryd.prog) (c := c) 9998 (t := 47) #[vI x0, U (hi x1), U (lo x1)] #[vI y0, U (hi y1), U (lo y1)] rfl si_47 (fun f => ((x0 == y0) && (x1 == y1)))
   (fun f hf => by
     simp only [List.mem_cons, List.not_mem_nil, or_false] at hf
     rcases hf with rfl
     · exact ⟨by decide, _, _, ev_partA (P := Tryd.prog) (t := 25) (vs := #[vI x0, U (hi x1), U (lo x1)]) rfl rfl _ _ rfl, ev_partA (P := Tryd.prog) (t := 25) (vs := #[vI y0, U (hi y1), U (lo y1)]) rfl rfl _ _ rfl, eqst_25_9998 x0 y0 x1 y1⟩)
 rw [show Op.equalIn 9999 47 (.agg #[vI x0, U (hi x1), U (lo x1)]) (.agg #[vI y0, U (hi y1), U (lo y1)]) = Op.equalIn (9998 + 1) 47 (.agg #[vI x0, U (hi x1), U (lo x1)]) (.agg #[vI y0, U (hi y1), U (lo y1)]) from rfl, h]
 first | (simp; done) | simp [Bool.and_assoc]
theorem eg_49  : Tryd.prog.eqGuardType Tryd.prog.depth 49 = false := by kernel_rfl
theorem si_49  : Tryd.prog.stoodInHeld 49 = false := by kernel_rfl
set_option maxRecDepth 100000 in
theorem eqst_49_9999  {c : Addr → Option Value} (x0 y0 : Int) (x1 y1 : Int) (x2 y2 : Int) : ev Tryd.prog c (Op.equalIn 9999 49 (.agg #[vI x0, vI x1, vI x2]) (.agg #[vI y0, vI y1, vI y2])) = some ((x0 == y0) && (x1 == y1) && (x2 == y2)) := by
 have h := ev_eqStruct (P := Tryd.prog) (c := c) 9998 (t := 49) #[vI x0, vI x1, vI x2] #[vI y0, vI y1, vI y2] rfl si_49 (fun f => if f.offset = 0 then (x0 == y0) else if f.offset = 1 then (x1 == y1) else (x2 == y2))
   (fun f hf => by
     simp only [List.mem_cons, List.not_mem_nil, or_false] at hf
     rcases hf with rfl | rfl | rfl
     · exact ⟨by decide, _, _, ev_partS (P := Tryd.prog) (t := 22) rfl (by intro fs h; cases h) (by intro n e h; cases h) _ _ rfl, ev_partS (P := Tryd.prog) (t := 22) rfl (by intro fs h; cases h) (by intro n e h; cases h) _ _ rfl, ev_eqInt _ _ _ rfl⟩
     · exact ⟨by decide, _, _, ev_partS (P := Tryd.prog) (t := 3) rfl (by intro fs h; cases h) (by intro n e h; cases h) _ _ rfl, ev_partS (P := Tryd.prog) (t := 3) rfl (by intro fs h; cases h) (by intro n e h; cases h) _ _ rfl, ev_eqInt _ _ _ rfl⟩
     · exact ⟨by decide, _, _, ev_partS (P := Tryd.prog) (t := 3) rfl (by intro fs h; cases h) (by intro n e h; cases h) _ _ rfl, ev_partS (P := Tryd.prog) (t := 3) rfl (by intro fs h; cases h) (by intro n e h; cases h) _ _ rfl, ev_eqInt _ _ _ rfl⟩)
 rw [show Op.equalIn 9999 49 (.agg #[vI x0, vI x1, vI x2]) (.agg #[vI y0, vI y1, vI y2]) = Op.equalIn (9998 + 1) 49 (.agg #[vI x0, vI x1, vI x2]) (.agg #[vI y0, vI y1, vI y2]) from rfl, h]
 first | (simp; done) | simp [Bool.and_assoc]
theorem eg_51  : Tryd.prog.eqGuardType Tryd.prog.depth 51 = false := by kernel_rfl
theorem si_51  : Tryd.prog.stoodInHeld 51 = false := by kernel_rfl
set_option maxRecDepth 100000 in
theorem eqst_51_9999  {c : Addr → Option Value} (x0 y0 : Int) (x1 y1 : Int) : ev Tryd.prog c (Op.equalIn 9999 51 (.agg #[vI x0, vI x1]) (.agg #[vI y0, vI y1])) = some ((x0 == y0) && (x1 == y1)) := by
 have h := ev_eqStruct (P := Tryd.prog) (c := c) 9998 (t := 51) #[vI x0, vI x1] #[vI y0, vI y1] rfl si_51 (fun f => if f.offset = 0 then (x0 == y0) else (x1 == y1))
   (fun f hf => by
     simp only [List.mem_cons, List.not_mem_nil, or_false] at hf
     rcases hf with rfl | rfl
     · exact ⟨by decide, _, _, ev_partS (P := Tryd.prog) (t := 22) rfl (by intro fs h; cases h) (by intro n e h; cases h) _ _ rfl, ev_partS (P := Tryd.prog) (t := 22) rfl (by intro fs h; cases h) (by intro n e h; cases h) _ _ rfl, ev_eqInt _ _ _ rfl⟩
     · exact ⟨by decide, _, _, ev_partS (P := Tryd.prog) (t := 3) rfl (by intro fs h; cases h) (by intro n e h; cases h) _ _ rfl, ev_partS (P := Tryd.prog) (t := 3) rfl (by intro fs h; cases h) (by intro n e h; cases h) _ _ rfl, ev_eqInt _ _ _ rfl⟩)
 rw [show Op.equalIn 9999 51 (.agg #[vI x0, vI x1]) (.agg #[vI y0, vI y1]) = Op.equalIn (9998 + 1) 51 (.agg #[vI x0, vI x1]) (.agg #[vI y0, vI y1]) from rfl, h]
 first | (simp; done) | simp [Bool.and_assoc]
theorem eg_52  : Tryd.prog.eqGuardType Tryd.prog.depth 52 = false := by kernel_rfl
theorem si_52  : Tryd.prog.stoodInHeld 52 = false := by kernel_rfl
set_option maxRecDepth 100000 in
theorem eqst_52_9999  {c : Addr → Option Value} (x0 y0 : Int) (x1 y1 : Int) : ev Tryd.prog c (Op.equalIn 9999 52 (.agg #[vI x0, vI x1]) (.agg #[vI y0, vI y1])) = some ((x0 == y0) && (x1 == y1)) := by
 have h := ev_eqStruct (P := Tryd.prog) (c := c) 9998 (t := 52) #[vI x0, vI x1] #[vI y0, vI y1] rfl si_52 (fun f => if f.offset = 0 then (x0 == y0) else (x1 == y1))
   (fun f hf => by
     simp only [List.mem_cons, List.not_mem_nil, or_false] at hf
     rcases hf with rfl | rfl
     · exact ⟨by decide, _, _, ev_partS (P := Tryd.prog) (t := 22) rfl (by intro fs h; cases h) (by intro n e h; cases h) _ _ rfl, ev_partS (P := Tryd.prog) (t := 22) rfl (by intro fs h; cases h) (by intro n e h; cases h) _ _ rfl, ev_eqInt _ _ _ rfl⟩
     · exact ⟨by decide, _, _, ev_partS (P := Tryd.prog) (t := 3) rfl (by intro fs h; cases h) (by intro n e h; cases h) _ _ rfl, ev_partS (P := Tryd.prog) (t := 3) rfl (by intro fs h; cases h) (by intro n e h; cases h) _ _ rfl, ev_eqInt _ _ _ rfl⟩)
 rw [show Op.equalIn 9999 52 (.agg #[vI x0, vI x1]) (.agg #[vI y0, vI y1]) = Op.equalIn (9998 + 1) 52 (.agg #[vI x0, vI x1]) (.agg #[vI y0, vI y1]) from rfl, h]
 first | (simp; done) | simp [Bool.and_assoc]
theorem eg_54  : Tryd.prog.eqGuardType Tryd.prog.depth 54 = false := by kernel_rfl
theorem si_54  : Tryd.prog.stoodInHeld 54 = false := by kernel_rfl
set_option maxRecDepth 100000 in
theorem eqst_54_9999  {c : Addr → Option Value} (x0 y0 : Int) (x1 y1 : Int) : ev Tryd.prog c (Op.equalIn 9999 54 (.agg #[vI x0, vI x1]) (.agg #[vI y0, vI y1])) = some ((x0 == y0) && (x1 == y1)) := by
 have h := ev_eqStruct (P := Tryd.prog) (c := c) 9998 (t := 54) #[vI x0, vI x1] #[vI y0, vI y1] rfl si_54 (fun f => if f.offset = 0 then (x0 == y0) else (x1 == y1))
   (fun f hf => by
     simp only [List.mem_cons, List.not_mem_nil, or_false] at hf
     rcases hf with rfl | rfl
     · exact ⟨by decide, _, _, ev_partS (P := Tryd.prog) (t := 3) rfl (by intro fs h; cases h) (by intro n e h; cases h) _ _ rfl, ev_partS (P := Tryd.prog) (t := 3) rfl (by intro fs h; cases h) (by intro n e h; cases h) _ _ rfl, ev_eqInt _ _ _ rfl⟩
     · exact ⟨by decide, _, _, ev_partS (P := Tryd.prog) (t := 3) rfl (by intro fs h; cases h) (by intro n e h; cases h) _ _ rfl, ev_partS (P := Tryd.prog) (t := 3) rfl (by intro fs h; cases h) (by intro n e h; cases h) _ _ rfl, ev_eqInt _ _ _ rfl⟩)
 rw [show Op.equalIn 9999 54 (.agg #[vI x0, vI x1]) (.agg #[vI y0, vI y1]) = Op.equalIn (9998 + 1) 54 (.agg #[vI x0, vI x1]) (.agg #[vI y0, vI y1]) from rfl, h]
 first | (simp; done) | simp [Bool.and_assoc]
theorem eg_56  : Tryd.prog.eqGuardType Tryd.prog.depth 56 = false := by kernel_rfl
theorem si_56  : Tryd.prog.stoodInHeld 56 = false := by kernel_rfl
set_option maxRecDepth 100000 in
theorem eqst_56_9999  {c : Addr → Option Value} (x0 y0 : Int) (x1 y1 : Int) (x2 y2 : Int) : ev Tryd.prog c (Op.equalIn 9999 56 (.agg #[vI x0, vI x1, vI x2]) (.agg #[vI y0, vI y1, vI y2])) = some ((x0 == y0) && (x1 == y1) && (x2 == y2)) := by
 have h := ev_eqStruct (P := Tryd.prog) (c := c) 9998 (t := 56) #[vI x0, vI x1, vI x2] #[vI y0, vI y1, vI y2] rfl si_56 (fun f => if f.offset = 0 then (x0 == y0) else if f.offset = 1 then (x1 == y1) else (x2 == y2))
   (fun f hf => by
     simp only [List.mem_cons, List.not_mem_nil, or_false] at hf
     rcases hf with rfl | rfl | rfl
     · exact ⟨by decide, _, _, ev_partS (P := Tryd.prog) (t := 22) rfl (by intro fs h; cases h) (by intro n e h; cases h) _ _ rfl, ev_partS (P := Tryd.prog) (t := 22) rfl (by intro fs h; cases h) (by intro n e h; cases h) _ _ rfl, ev_eqInt _ _ _ rfl⟩
     · exact ⟨by decide, _, _, ev_partS (P := Tryd.prog) (t := 3) rfl (by intro fs h; cases h) (by intro n e h; cases h) _ _ rfl, ev_partS (P := Tryd.prog) (t := 3) rfl (by intro fs h; cases h) (by intro n e h; cases h) _ _ rfl, ev_eqInt _ _ _ rfl⟩
     · exact ⟨by decide, _, _, ev_partS (P := Tryd.prog) (t := 3) rfl (by intro fs h; cases h) (by intro n e h; cases h) _ _ rfl, ev_partS (P := Tryd.prog) (t := 3) rfl (by intro fs h; cases h) (by intro n e h; cases h) _ _ rfl, ev_eqInt _ _ _ rfl⟩)
 rw [show Op.equalIn 9999 56 (.agg #[vI x0, vI x1, vI x2]) (.agg #[vI y0, vI y1, vI y2]) = Op.equalIn (9998 + 1) 56 (.agg #[vI x0, vI x1, vI x2]) (.agg #[vI y0, vI y1, vI y2]) from rfl, h]
 first | (simp; done) | simp [Bool.and_assoc]
theorem eg_58  : Tryd.prog.eqGuardType Tryd.prog.depth 58 = false := by kernel_rfl
theorem si_58  : Tryd.prog.stoodInHeld 58 = false := by kernel_rfl
set_option maxRecDepth 100000 in
theorem eqst_58_9999  {c : Addr → Option Value} (x0 y0 : Int) (x1 y1 : Int) : ev Tryd.prog c (Op.equalIn 9999 58 (.agg #[vI x0, vI x1]) (.agg #[vI y0, vI y1])) = some ((x0 == y0) && (x1 == y1)) := by
 have h := ev_eqStruct (P := Tryd.prog) (c := c) 9998 (t := 58) #[vI x0, vI x1] #[vI y0, vI y1] rfl si_58 (fun f => if f.offset = 0 then (x0 == y0) else (x1 == y1))
   (fun f hf => by
     simp only [List.mem_cons, List.not_mem_nil, or_false] at hf
     rcases hf with rfl | rfl
     · exact ⟨by decide, _, _, ev_partS (P := Tryd.prog) (t := 3) rfl (by intro fs h; cases h) (by intro n e h; cases h) _ _ rfl, ev_partS (P := Tryd.prog) (t := 3) rfl (by intro fs h; cases h) (by intro n e h; cases h) _ _ rfl, ev_eqInt _ _ _ rfl⟩
     · exact ⟨by decide, _, _, ev_partS (P := Tryd.prog) (t := 3) rfl (by intro fs h; cases h) (by intro n e h; cases h) _ _ rfl, ev_partS (P := Tryd.prog) (t := 3) rfl (by intro fs h; cases h) (by intro n e h; cases h) _ _ rfl, ev_eqInt _ _ _ rfl⟩)
 rw [show Op.equalIn 9999 58 (.agg #[vI x0, vI x1]) (.agg #[vI y0, vI y1]) = Op.equalIn (9998 + 1) 58 (.agg #[vI x0, vI x1]) (.agg #[vI y0, vI y1]) from rfl, h]
 first | (simp; done) | simp [Bool.and_assoc]
theorem eg_60  : Tryd.prog.eqGuardType Tryd.prog.depth 60 = false := by kernel_rfl
theorem si_60  : Tryd.prog.stoodInHeld 60 = false := by kernel_rfl
set_option maxRecDepth 100000 in
theorem eqst_60_9999  {c : Addr → Option Value} (x0 y0 : Int) : ev Tryd.prog c (Op.equalIn 9999 60 (.agg #[vI x0]) (.agg #[vI y0])) = some (x0 == y0) := by
 have h := ev_eqStruct (P := Tryd.prog) (c := c) 9998 (t := 60) #[vI x0] #[vI y0] rfl si_60 (fun f => (x0 == y0))
   (fun f hf => by
     simp only [List.mem_cons, List.not_mem_nil, or_false] at hf
     rcases hf with rfl
     · exact ⟨by decide, _, _, ev_partS (P := Tryd.prog) (t := 22) rfl (by intro fs h; cases h) (by intro n e h; cases h) _ _ rfl, ev_partS (P := Tryd.prog) (t := 22) rfl (by intro fs h; cases h) (by intro n e h; cases h) _ _ rfl, ev_eqInt _ _ _ rfl⟩)
 rw [show Op.equalIn 9999 60 (.agg #[vI x0]) (.agg #[vI y0]) = Op.equalIn (9998 + 1) 60 (.agg #[vI x0]) (.agg #[vI y0]) from rfl, h]
 first | (simp; done) | simp [Bool.and_assoc]
theorem eg_86  : Tryd.prog.eqGuardType Tryd.prog.depth 86 = false := by kernel_rfl
theorem si_86  : Tryd.prog.stoodInHeld 86 = false := by kernel_rfl
set_option maxRecDepth 100000 in
theorem eqst_86_9999  {c : Addr → Option Value} (x0 y0 : Int) (x1 y1 : Int) : ev Tryd.prog c (Op.equalIn 9999 86 (.agg #[vI x0, vI x1]) (.agg #[vI y0, vI y1])) = some ((x0 == y0) && (x1 == y1)) := by
 have h := ev_eqStruct (P := Tryd.prog) (c := c) 9998 (t := 86) #[vI x0, vI x1] #[vI y0, vI y1] rfl si_86 (fun f => if f.offset = 0 then (x0 == y0) else (x1 == y1))
   (fun f hf => by
     simp only [List.mem_cons, List.not_mem_nil, or_false] at hf
     rcases hf with rfl | rfl
     · exact ⟨by decide, _, _, ev_partS (P := Tryd.prog) (t := 22) rfl (by intro fs h; cases h) (by intro n e h; cases h) _ _ rfl, ev_partS (P := Tryd.prog) (t := 22) rfl (by intro fs h; cases h) (by intro n e h; cases h) _ _ rfl, ev_eqInt _ _ _ rfl⟩
     · exact ⟨by decide, _, _, ev_partS (P := Tryd.prog) (t := 3) rfl (by intro fs h; cases h) (by intro n e h; cases h) _ _ rfl, ev_partS (P := Tryd.prog) (t := 3) rfl (by intro fs h; cases h) (by intro n e h; cases h) _ _ rfl, ev_eqInt _ _ _ rfl⟩)
 rw [show Op.equalIn 9999 86 (.agg #[vI x0, vI x1]) (.agg #[vI y0, vI y1]) = Op.equalIn (9998 + 1) 86 (.agg #[vI x0, vI x1]) (.agg #[vI y0, vI y1]) from rfl, h]
 first | (simp; done) | simp [Bool.and_assoc]
theorem eg_88  : Tryd.prog.eqGuardType Tryd.prog.depth 88 = false := by kernel_rfl
theorem si_88  : Tryd.prog.stoodInHeld 88 = false := by kernel_rfl
set_option maxRecDepth 100000 in
theorem eqst_88_9999  {c : Addr → Option Value} (x0 y0 : Int) (x1 y1 : Int) : ev Tryd.prog c (Op.equalIn 9999 88 (.agg #[vI x0, vI x1]) (.agg #[vI y0, vI y1])) = some ((x0 == y0) && (x1 == y1)) := by
 have h := ev_eqStruct (P := Tryd.prog) (c := c) 9998 (t := 88) #[vI x0, vI x1] #[vI y0, vI y1] rfl si_88 (fun f => if f.offset = 0 then (x0 == y0) else (x1 == y1))
   (fun f hf => by
     simp only [List.mem_cons, List.not_mem_nil, or_false] at hf
     rcases hf with rfl | rfl
     · exact ⟨by decide, _, _, ev_partS (P := Tryd.prog) (t := 22) rfl (by intro fs h; cases h) (by intro n e h; cases h) _ _ rfl, ev_partS (P := Tryd.prog) (t := 22) rfl (by intro fs h; cases h) (by intro n e h; cases h) _ _ rfl, ev_eqInt _ _ _ rfl⟩
     · exact ⟨by decide, _, _, ev_partS (P := Tryd.prog) (t := 3) rfl (by intro fs h; cases h) (by intro n e h; cases h) _ _ rfl, ev_partS (P := Tryd.prog) (t := 3) rfl (by intro fs h; cases h) (by intro n e h; cases h) _ _ rfl, ev_eqInt _ _ _ rfl⟩)
 rw [show Op.equalIn 9999 88 (.agg #[vI x0, vI x1]) (.agg #[vI y0, vI y1]) = Op.equalIn (9998 + 1) 88 (.agg #[vI x0, vI x1]) (.agg #[vI y0, vI y1]) from rfl, h]
 first | (simp; done) | simp [Bool.and_assoc]
def Sum31.beq : Sum31 → Sum31 → Bool
  | .nil, .nil => true
  | .t47 x0 x1, .t47 y0 y1 => (x0 == y0) && (x1 == y1)
  | .t49 x0 x1 x2, .t49 y0 y1 y2 => (x0 == y0) && (x1 == y1) && (x2 == y2)
  | .t51 x0 x1, .t51 y0 y1 => (x0 == y0) && (x1 == y1)
  | .t52 x0 x1, .t52 y0 y1 => (x0 == y0) && (x1 == y1)
  | .t54 x0 x1, .t54 y0 y1 => (x0 == y0) && (x1 == y1)
  | .t56 x0 x1 x2, .t56 y0 y1 y2 => (x0 == y0) && (x1 == y1) && (x2 == y2)
  | .t58 x0 x1, .t58 y0 y1 => (x0 == y0) && (x1 == y1)
  | .t60 x0, .t60 y0 => (x0 == y0)
  | .t86 x0 x1, .t86 y0 y1 => (x0 == y0) && (x1 == y1)
  | .t88 x0 x1, .t88 y0 y1 => (x0 == y0) && (x1 == y1)
  | .t90, .t90 => true
  | _, _ => false
def Sum31.isNil : Sum31 → Bool
  | .nil => true
  | _ => false
theorem Sum31.isI (a : Sum31) : IsI a.v := by cases a <;> first | exact .inl rfl | exact .inr ⟨_, _, rfl⟩
theorem Sum31.nn  {a b : Sum31} (h : (a.isNil && b.isNil) = false) : ¬ (a.v = .nilIface ∧ b.v = .nilIface) := by
 intro ⟨h1, h2⟩
 cases a <;> first | (cases h1; done) | (cases b <;> first | (cases h2; done) | cases h)
set_option maxRecDepth 100000 in
set_option maxHeartbeats 2000000 in
theorem sumeq_Sum31  {c : Addr → Option Value} (a b : Sum31) : ev Tryd.prog c (Op.equal 31 a.v b.v) = some (a.beq b) := by
 obtain ⟨ms, hu⟩ : ∃ ms, Tryd.prog.underlying 31 = some (.interface ms) := ⟨_, rfl⟩
 cases a <;> cases b <;> first | exact eqI_ne 9999 hu rfl | exact eqI_nn 9999 hu | exact eqI_nv 9999 hu | exact eqI_vn 9999 hu | exact eqI_eq 9999 hu rfl rfl (eqst_47_9999 _ _ _ _) | exact eqI_eq 9999 hu rfl rfl (eqst_49_9999 _ _ _ _ _ _) | exact eqI_eq 9999 hu rfl rfl (eqst_51_9999 _ _ _ _) | exact eqI_eq 9999 hu rfl rfl (eqst_52_9999 _ _ _ _) | exact eqI_eq 9999 hu rfl rfl (eqst_54_9999 _ _ _ _) | exact eqI_eq 9999 hu rfl rfl (eqst_56_9999 _ _ _ _ _ _) | exact eqI_eq 9999 hu rfl rfl (eqst_58_9999 _ _ _ _) | exact eqI_eq 9999 hu rfl rfl (eqst_60_9999 _ _) | exact eqI_eq 9999 hu rfl rfl (eqst_86_9999 _ _ _ _) | exact eqI_eq 9999 hu rfl rfl (eqst_88_9999 _ _ _ _) | exact eqI_eq 9999 hu rfl rfl (ev_eqStruct (fs := #[]) 9998 (t := 90) #[] #[] rfl (by kernel_rfl) (fun _ => true) (fun f hf => by cases hf))
theorem Sum31.beq_iff  {a b : Sum31} : a.beq b = true ↔ a = b := by cases a <;> cases b <;> simp [Sum31.beq, and_assoc]
def code_Plain_m (N : Nat) (s : Sum31) : Option (Int × Int × Int × Int × (BitVec 128) × Bool) := (code_written_m N s).bind fun r4 => (code_Make_m N r4.1 r4.2.1 r4.2.2.1 r4.2.2.2.1 r4.2.2.2.2).bind fun r9 => if (r9.2 : Int) ≠ 0 then some (0, 0, 0, 0, (0#64) ++ (0#64), false) else ck ((Sum31.isNil r9.1 && Sum31.isNil s) = false) (if (Sum31.beq r9.1 s) = true then some (r4.1, r4.2.1, r4.2.2.1, r4.2.2.2.1, r4.2.2.2.2, true) else some (0, 0, 0, 0, (0#64) ++ (0#64), false))
set_option maxRecDepth 100000 in
set_option maxHeartbeats 8000000 in
theorem code_Plain_g (N : Nat) (s : Sum31) (r) (hM : code_Plain_m N s = some r) : Gives Tryd.prog 14 #[Sum31.v s] (vT #[vA #[vI r.1, vI r.2.1, vI r.2.2.1, vI r.2.2.2.1, U (hi r.2.2.2.2.1), U (lo r.2.2.2.2.1)], vB r.2.2.2.2.2]) := by
 unfold code_Plain_m at hM
 refine gives_of_A follows Tryd.func14 rfl 23 rfl (upd (fun _ => undef) 0 (Sum31.v s)) (by funext k; match k with | 0 => rfl | k + 1 => rfl) (fun base0_ => ?_)
 refine A_sr <| r_a (27, #[vI 0, vI 0, vI 0, vI 0, U (0#64), U (0#64)]) rfl rfl rfl (fun b2 => ?_) (.inr rfl)
 refine r_V (vB false) rfl <| lx_nil <| A_sr <| r_V (Sum31.v s) rfl ?_
 obtain ⟨r4, hr5, hM⟩ := bind_sm hM
 refine r_c (vA #[vI r4.1, vI r4.2.1, vI r4.2.2.1, vI r4.2.2.2.1, U (hi r4.2.2.2.2), U (lo r4.2.2.2.2)]) rfl _ _ (ev_callF rfl call_29 rfl) (code_written_g N s _ hr5) <| r_a (27, #[vI 0, vI 0, vI 0, vI 0, U (0#64), U (0#64)]) rfl rfl rfl (fun b6 => ?_) (.inr rfl)
 refine r_s [(b6, 27, #[vI r4.1, vI r4.2.1, vI r4.2.2.1, vI r4.2.2.2.1, U (hi r4.2.2.2.2), U (lo r4.2.2.2.2)]), (b2, 27, #[vI 0, vI 0, vI 0, vI 0, U (0#64), U (0#64)])] 0 _ _ _ _ _ (#[vI r4.1, vI r4.2.1, vI r4.2.2.1, vI r4.2.2.2.1, U (hi r4.2.2.2.2), U (lo r4.2.2.2.2)]) rfl rfl rfl rfl (.of rfl rfl) rfl rfl <| lx_nil <| A_seq fun K7 hK7 => A_sr <| r_l (vA #[vI r4.1, vI r4.2.1, vI r4.2.2.1, vI r4.2.2.2.1, U (hi r4.2.2.2.2), U (lo r4.2.2.2.2)]) 0 _ _ _ _ rfl rfl rfl rfl rfl ?_
 obtain ⟨r9, hr10, hM⟩ := bind_sm hM
 refine r_c (vT #[Sum31.v r9.1, vI r9.2]) rfl _ _ (ev_callF rfl call_9 rfl) (code_Make_g N r4.1 r4.2.1 r4.2.2.1 r4.2.2.2.1 r4.2.2.2.2 _ hr10) <| r_R [vT #[Sum31.v r9.1, vI r9.2], Sum31.v r9.1, vI r9.2, Sum31.v r9.1, vI r9.2] rfl <| lx_nil <| A_seq fun K11 hK11 => A_reg <| r_R [vI r9.2, vB (r9.2 != 0), vB (r9.2 != 0)] rfl ?_
 rcases hg12 : (r9.2 != 0) with _ | _
 ·replace hM := ifn (bne_f hg12) hM
  refine r_R [Sum31.v r9.1, Sum31.v s] rfl <| r_y rfl ?_
  obtain ⟨ck13, hM⟩ := ck_some hM
  refine r_W (vB (!(Sum31.beq r9.1 s))) rfl (ev_binC (vx := Sum31.v r9.1) (vy := Sum31.v s) rfl rfl (ev_neI (Sum31.isI _) (Sum31.isI _) (Sum31.nn ck13) (sumeq_Sum31 _ _))) <| r_V (vB (!(Sum31.beq r9.1 s))) rfl <| lx_nil <| hK11 _ _ ?_; try clear hK11 K11
  refine A_cond (!(Sum31.beq r9.1 s)) rfl (fun hc14 => ?_) (fun hc14 => ?_)
  ·replace hM := ifn (Bool.eq_false_iff.1 (not_t hc14)) hM
   refine A_sr <| r_W (vA #[vI 0, vI 0, vI 0, vI 0, U (0#64), U (0#64)]) rfl (ev_buildS rfl rfl rfl rfl) <| r_s [(b6, 27, #[vI r4.1, vI r4.2.1, vI r4.2.2.1, vI r4.2.2.2.1, U (hi r4.2.2.2.2), U (lo r4.2.2.2.2)]), (b2, 27, #[vI 0, vI 0, vI 0, vI 0, U (0#64), U (0#64)])] 1 _ _ _ _ _ (#[vI 0, vI 0, vI 0, vI 0, U (0#64), U (0#64)]) rfl rfl rfl rfl (.of rfl rfl) rfl rfl <| r_V (vB false) rfl <| lx_nil ?_
   obtain rfl := Option.some.inj hM
   refine A_ret (fun hn => ends_eq (v0 := vT #[vA #[vI 0, vI 0, vI 0, vI 0, U (0#64), U (0#64)], vB false]) (by first | rfl | (simp only [app_hl]; done) | simp only [Sum31.v, app_hl]) (res2 (res_cell hn 1 rfl rfl rfl) rfl))
  replace hM := ifp (not_f hc14) hM
  refine A_skip <| hK7 _ _ ?_; try clear hK7 K7
  refine A_sr <| r_l (vA #[vI r4.1, vI r4.2.1, vI r4.2.2.1, vI r4.2.2.2.1, U (hi r4.2.2.2.2), U (lo r4.2.2.2.2)]) 0 _ _ _ _ rfl rfl rfl rfl rfl <| r_s [(b6, 27, #[vI r4.1, vI r4.2.1, vI r4.2.2.1, vI r4.2.2.2.1, U (hi r4.2.2.2.2), U (lo r4.2.2.2.2)]), (b2, 27, #[vI r4.1, vI r4.2.1, vI r4.2.2.1, vI r4.2.2.2.1, U (hi r4.2.2.2.2), U (lo r4.2.2.2.2)])] 1 _ _ _ _ _ (#[vI r4.1, vI r4.2.1, vI r4.2.2.1, vI r4.2.2.2.1, U (hi r4.2.2.2.2), U (lo r4.2.2.2.2)]) rfl rfl rfl rfl (.of rfl rfl) rfl rfl <| r_V (vB true) rfl <| lx_nil ?_
  obtain rfl := Option.some.inj hM
  refine A_ret (fun hn => ends_eq (v0 := vT #[vA #[vI r4.1, vI r4.2.1, vI r4.2.2.1, vI r4.2.2.2.1, U (hi r4.2.2.2.2), U (lo r4.2.2.2.2)], vB true]) rfl (res2 (res_cell hn 1 rfl rfl rfl) rfl))
 replace hM := ifp (bne_iff_ne.1 hg12) hM
 refine r_R [none, none, none, vB true] rfl <| lx_nil <| hK11 _ _ ?_; try clear hK11 K11
 refine A_cond true rfl (fun _ => ?_) (fun h_ => nomatch h_)
 refine A_sr <| r_W (vA #[vI 0, vI 0, vI 0, vI 0, U (0#64), U (0#64)]) rfl (ev_buildS rfl rfl rfl rfl) <| r_s [(b6, 27, #[vI r4.1, vI r4.2.1, vI r4.2.2.1, vI r4.2.2.2.1, U (hi r4.2.2.2.2), U (lo r4.2.2.2.2)]), (b2, 27, #[vI 0, vI 0, vI 0, vI 0, U (0#64), U (0#64)])] 1 _ _ _ _ _ (#[vI 0, vI 0, vI 0, vI 0, U (0#64), U (0#64)]) rfl rfl rfl rfl (.of rfl rfl) rfl rfl <| r_V (vB false) rfl <| lx_nil ?_
 obtain rfl := Option.some.inj hM
 refine A_ret (fun hn => ends_eq (v0 := vT #[vA #[vI 0, vI 0, vI 0, vI 0, U (0#64), U (0#64)], vB false]) (by first | rfl | (simp only [app_hl]; done) | simp only [Sum31.v, app_hl]) (res2 (res_cell hn 1 rfl rfl rfl) rfl))
end Go.Proofs.YtmfedgmmgehmgaaDoor
