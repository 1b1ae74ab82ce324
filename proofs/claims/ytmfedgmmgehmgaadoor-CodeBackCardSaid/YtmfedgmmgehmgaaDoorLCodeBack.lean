/- models of functions and their walks -/
import Derived.Test.YtmfedgmmgehmgaaDoorBc
namespace Go.Proofs.YtmfedgmmgehmgaaDoor
open Go Go.RowKit Go.Eng
set_option maxRecDepth 100000 in
theorem eqst_25_9999  {c : Addr → Option Value} (x0 y0 : Int) (x1 y1 : BitVec 128) : ev Tryd.prog c (Op.equalIn 9999 25 (.agg #[vI x0, U (hi x1), U (lo x1)]) (.agg #[vI y0, U (hi y1), U (lo y1)])) = some ((x0 == y0) && (x1 == y1)) := by
 have h := ev_eqStruct (P := Tryd.prog) (c := c) 9998 (t := 25) #[vI x0, U (hi x1), U (lo x1)] #[vI y0, U (hi y1), U (lo y1)] rfl si_25 (fun f => if f.offset = 0 then (x0 == y0) else if f.offset = 1 then (((hi x1).toNat : Int) == ((hi y1).toNat : Int)) else (((lo x1).toNat : Int) == ((lo y1).toNat : Int)))
   (fun f hf => by
     simp only [List.mem_cons, List.not_mem_nil, or_false] at hf
     rcases hf with rfl | rfl | rfl
     · exact ⟨by decide, _, _, ev_partS (P := Tryd.prog) (t := 3) rfl (by intro fs h; cases h) (by intro n e h; cases h) _ _ rfl, ev_partS (P := Tryd.prog) (t := 3) rfl (by intro fs h; cases h) (by intro n e h; cases h) _ _ rfl, ev_eqInt _ _ _ rfl⟩
     · exact ⟨by decide, _, _, ev_partS (P := Tryd.prog) (t := 23) rfl (by intro fs h; cases h) (by intro n e h; cases h) _ _ rfl, ev_partS (P := Tryd.prog) (t := 23) rfl (by intro fs h; cases h) (by intro n e h; cases h) _ _ rfl, ev_eqInt _ _ _ rfl⟩
     · exact ⟨by decide, _, _, ev_partS (P := Tryd.prog) (t := 23) rfl (by intro fs h; cases h) (by intro n e h; cases h) _ _ rfl, ev_partS (P := Tryd.prog) (t := 23) rfl (by intro fs h; cases h) (by intro n e h; cases h) _ _ rfl, ev_eqInt _ _ _ rfl⟩)
 rw [← word_beq x1 y1]; rw [show Op.equalIn 9999 25 (.agg #[vI x0, U (hi x1), U (lo x1)]) (.agg #[vI y0, U (hi y1), U (lo y1)]) = Op.equalIn (9998 + 1) 25 (.agg #[vI x0, U (hi x1), U (lo x1)]) (.agg #[vI y0, U (hi y1), U (lo y1)]) from rfl, h]
 first | (simp; done) | simp [Bool.and_assoc]
theorem eg_27  : Tryd.prog.eqGuardType Tryd.prog.depth 27 = false := by kernel_rfl
theorem si_27  : Tryd.prog.stoodInHeld 27 = false := by kernel_rfl
set_option maxRecDepth 100000 in
theorem eqst_27  {c : Addr → Option Value} (x0 y0 : Int) (x1 y1 : Int) (x2 y2 : Int) (x3 y3 : Int) (x4 y4 : BitVec 128) : ev Tryd.prog c (Op.equal 27 (.agg #[vI x0, vI x1, vI x2, vI x3, U (hi x4), U (lo x4)]) (.agg #[vI y0, vI y1, vI y2, vI y3, U (hi y4), U (lo y4)])) = some ((x0 == y0) && (x1 == y1) && (x2 == y2) && (x3 == y3) && (x4 == y4)) := by
 have h := ev_eqStruct (P := Tryd.prog) (c := c) 9999 (t := 27) #[vI x0, vI x1, vI x2, vI x3, U (hi x4), U (lo x4)] #[vI y0, vI y1, vI y2, vI y3, U (hi y4), U (lo y4)] rfl si_27 (fun f => if f.offset = 0 then (x0 == y0) else if f.offset = 1 then (x1 == y1) else if f.offset = 2 then (x2 == y2) else ((x3 == y3) && (x4 == y4)))
   (fun f hf => by
     simp only [List.mem_cons, List.not_mem_nil, or_false] at hf
     rcases hf with rfl | rfl | rfl | rfl
     · exact ⟨by decide, _, _, ev_partS (P := Tryd.prog) (t := 22) rfl (by intro fs h; cases h) (by intro n e h; cases h) _ _ rfl, ev_partS (P := Tryd.prog) (t := 22) rfl (by intro fs h; cases h) (by intro n e h; cases h) _ _ rfl, ev_eqInt _ _ _ rfl⟩
     · exact ⟨by decide, _, _, ev_partS (P := Tryd.prog) (t := 3) rfl (by intro fs h; cases h) (by intro n e h; cases h) _ _ rfl, ev_partS (P := Tryd.prog) (t := 3) rfl (by intro fs h; cases h) (by intro n e h; cases h) _ _ rfl, ev_eqInt _ _ _ rfl⟩
     · exact ⟨by decide, _, _, ev_partS (P := Tryd.prog) (t := 3) rfl (by intro fs h; cases h) (by intro n e h; cases h) _ _ rfl, ev_partS (P := Tryd.prog) (t := 3) rfl (by intro fs h; cases h) (by intro n e h; cases h) _ _ rfl, ev_eqInt _ _ _ rfl⟩
     · exact ⟨by decide, _, _, ev_partA (P := Tryd.prog) (t := 25) (vs := #[vI x3, U (hi x4), U (lo x4)]) rfl rfl _ _ rfl, ev_partA (P := Tryd.prog) (t := 25) (vs := #[vI y3, U (hi y4), U (lo y4)]) rfl rfl _ _ rfl, eqst_25_9999 x3 y3 x4 y4⟩)
 rw [show Op.equal 27 (.agg #[vI x0, vI x1, vI x2, vI x3, U (hi x4), U (lo x4)]) (.agg #[vI y0, vI y1, vI y2, vI y3, U (hi y4), U (lo y4)]) = Op.equalIn (9999 + 1) 27 (.agg #[vI x0, vI x1, vI x2, vI x3, U (hi x4), U (lo x4)]) (.agg #[vI y0, vI y1, vI y2, vI y3, U (hi y4), U (lo y4)]) from rfl, h]
 first | (simp; done) | simp [Bool.and_assoc]
def shunterlaw09_CodeBack_k1 (N : Nat) (x_0 : Int) (x_1 : Int) (x_2 : Int) (x_3 : Int) (x_4 : BitVec 128) : Option Bool := (code_Make_m N x_0 x_1 x_2 x_3 x_4).bind fun r8 => if (r8.2 : Int) ≠ 0 then (shunterlaw09_lives_m N ).bind fun r14 => some r14 else (code_Plain_m N r8.1).bind fun r17 => if r17.2.2.2.2.2 = true then if ((r17.1 == x_0) && (r17.2.1 == x_1) && (r17.2.2.1 == x_2) && (r17.2.2.2.1 == x_3) && (r17.2.2.2.2.1 == x_4)) = true then (shunterlaw09_lives_m N ).bind fun r22 => some r22 else some false else some false
def shunterlaw09_CodeBack_m (N : Nat) (x_0 : Int) (x_1 : Int) (x_2 : Int) (x_3 : Int) (x_4 : BitVec 128) : Option Bool := (code_Plain_m N Sum31.nil).bind fun r4 => if r4.2.2.2.2.2 = true then some false else if ((r4.1 == 0) && (r4.2.1 == 0) && (r4.2.2.1 == 0) && (r4.2.2.2.1 == 0) && (r4.2.2.2.2.1 == ((0#64) ++ (0#64)))) = true then shunterlaw09_CodeBack_k1 N x_0 x_1 x_2 x_3 x_4  else some false
set_option maxRecDepth 100000 in
set_option maxHeartbeats 8000000 in
theorem shunterlaw09_CodeBack_g (N : Nat) (x_0 x_1 x_2 x_3 : Int) (x_4 : BitVec 128) (r) (hM : shunterlaw09_CodeBack_m N x_0 x_1 x_2 x_3 x_4 = some r) (ro : Addr → Option Value) : DoesI Tryd.prog 4 #[vA #[vI x_0, vI x_1, vI x_2, vI x_3, U (hi x_4), U (lo x_4)]] MemI ro [] (pV (vB r)) := by
 unfold shunterlaw09_CodeBack_m at hM
 refine doesI_of_A follows Tryd.func4 rfl 39 rfl (upd (fun _ => undef) 0 (vA #[vI x_0, vI x_1, vI x_2, vI x_3, U (hi x_4), U (lo x_4)])) (by funext k; match k with | 0 => rfl | k + 1 => rfl) memI_kept (fun base0_ => ?_)
 refine A_sr <| r_a (27, #[vI x_0, vI x_1, vI x_2, vI x_3, U (hi x_4), U (lo x_4)]) rfl rfl rfl (fun b2 => ?_) (.inr rfl)
 refine r_V (vB false) rfl <| lx_nil <| A_sr ?_
 obtain ⟨r4, hr5, hM⟩ := bind_sm hM
 refine r_c (vT #[vA #[vI r4.1, vI r4.2.1, vI r4.2.2.1, vI r4.2.2.2.1, U (hi r4.2.2.2.2.1), U (lo r4.2.2.2.2.1)], vB r4.2.2.2.2.2]) rfl _ _ (ev_callF rfl call_14 rfl) (code_Plain_g N Sum31.nil _ hr5) <| r_R [vT #[vA #[vI r4.1, vI r4.2.1, vI r4.2.2.1, vI r4.2.2.2.1, U (hi r4.2.2.2.2.1), U (lo r4.2.2.2.2.1)], vB r4.2.2.2.2.2], vA #[vI r4.1, vI r4.2.1, vI r4.2.2.1, vI r4.2.2.2.1, U (hi r4.2.2.2.2.1), U (lo r4.2.2.2.2.1)], vB r4.2.2.2.2.2] rfl <| r_a (27, #[vI 0, vI 0, vI 0, vI 0, U (0#64), U (0#64)]) rfl rfl rfl (fun b6 => ?_) (.inr rfl)
 refine r_s [(b6, 27, #[vI r4.1, vI r4.2.1, vI r4.2.2.1, vI r4.2.2.2.1, U (hi r4.2.2.2.2.1), U (lo r4.2.2.2.2.1)]), (b2, 27, #[vI x_0, vI x_1, vI x_2, vI x_3, U (hi x_4), U (lo x_4)])] 0 _ _ _ _ _ (#[vI r4.1, vI r4.2.1, vI r4.2.2.1, vI r4.2.2.2.1, U (hi r4.2.2.2.2.1), U (lo r4.2.2.2.2.1)]) rfl rfl rfl rfl (.of rfl rfl) rfl rfl <| r_V (vB r4.2.2.2.2.2) rfl <| lx_nil <| A_cut (fun tt ll => (shunterlaw09_CodeBack_k1 N x_0 x_1 x_2 x_3 x_4  = some r) ∧ Is [(1, vP b2 0), (3, vP b6 0)] [(b6, 27, #[vI r4.1, vI r4.2.1, vI r4.2.2.1, vI r4.2.2.2.1, U (hi r4.2.2.2.2.1), U (lo r4.2.2.2.2.1)]), (b2, 27, #[vI x_0, vI x_1, vI x_2, vI x_3, U (hi x_4), U (lo x_4)])] tt ll) ?_ ?_
 ·refine A_seq fun K24 hK24 => A_reg <| r_R [vB r4.2.2.2.2.2, vB r4.2.2.2.2.2] rfl ?_
  rcases hg25 : r4.2.2.2.2.2 with _ | _
  ·replace hM := ifn (Bool.eq_false_iff.1 hg25) hM
   refine r_y rfl <| r_l (vA #[vI r4.1, vI r4.2.1, vI r4.2.2.1, vI r4.2.2.2.1, U (hi r4.2.2.2.2.1), U (lo r4.2.2.2.2.1)]) 0 _ _ _ _ rfl rfl rfl rfl rfl <| r_y rfl <| r_W (vA #[vI 0, vI 0, vI 0, vI 0, U (0#64), U (0#64)]) rfl (ev_buildS rfl rfl rfl rfl) <| r_y rfl <| r_W (vB (!((r4.1 == 0) && (r4.2.1 == 0) && (r4.2.2.1 == 0) && (r4.2.2.2.1 == 0) && (r4.2.2.2.2.1 == ((0#64) ++ (0#64)))))) rfl (ev_binNe rfl rfl eg_27 (by have h_ := fun c => eqst_27 (c := c) r4.1 0 r4.2.1 0 r4.2.2.1 0 r4.2.2.2.1 0 r4.2.2.2.2.1 ((0#64) ++ (0#64)); simp only [app_hl] at h_; exact h_ _)) ?_
   refine r_V (vB (!((r4.1 == 0) && (r4.2.1 == 0) && (r4.2.2.1 == 0) && (r4.2.2.2.1 == 0) && (r4.2.2.2.2.1 == ((0#64) ++ (0#64)))))) rfl <| lx_nil <| hK24 _ _ ?_; try clear hK24 K24
   refine A_cond (!((r4.1 == 0) && (r4.2.1 == 0) && (r4.2.2.1 == 0) && (r4.2.2.2.1 == 0) && (r4.2.2.2.2.1 == ((0#64) ++ (0#64))))) rfl (fun hc26 => ?_) (fun hc26 => ?_)
   ·replace hM := ifn (Bool.eq_false_iff.1 (not_t hc26)) hM
    refine A_sr <| r_V (vB false) rfl <| lx_nil ?_
    obtain rfl := Option.some.inj hM
    refine A_ret (fun hn => endsV (v0 := vB false) rfl (res1 rfl))
   replace hM := ifp (not_f hc26) hM
   refine A_skip <| fg _ (Sub.of (List.Sublist.cons_cons _ (List.Sublist.cons_cons _ List.Sublist.slnil))) ?_
   exact ⟨hM, is_mk rfl rfl⟩
  replace hM := ifp hg25 hM
  refine r_R [none, none, none, vB true] rfl <| lx_nil <| hK24 _ _ ?_; try clear hK24 K24
  refine A_cond true rfl (fun _ => ?_) (fun h_ => nomatch h_)
  refine A_sr <| r_V (vB false) rfl <| lx_nil ?_
  obtain rfl := Option.some.inj hM
  refine A_ret (fun hn => endsV (v0 := vB false) rfl (res1 rfl))
 clear hM; rintro t l ⟨hM, ⟨T, rfl⟩, rfl⟩
 unfold shunterlaw09_CodeBack_k1 at hM
 refine A_sr <| r_l (vA #[vI x_0, vI x_1, vI x_2, vI x_3, U (hi x_4), U (lo x_4)]) 1 _ _ _ _ rfl rfl rfl rfl rfl ?_
 obtain ⟨r8, hr9, hM⟩ := bind_sm hM
 refine r_c (vT #[Sum31.v r8.1, vI r8.2]) rfl _ _ (ev_callF rfl call_9 rfl) (code_Make_g N x_0 x_1 x_2 x_3 x_4 _ hr9) <| r_R [vT #[Sum31.v r8.1, vI r8.2], Sum31.v r8.1, vI r8.2, Sum31.v r8.1, vI r8.2] rfl <| lx_nil <| A_seq fun K10 hK10 => A_sr <| r_R [vI r8.2, vB (r8.2 != 0)] rfl <| lx_nil <| A_cond (r8.2 != 0) rfl (fun hc12 => ?_) (fun hc12 => ?_)
 ·replace hM := ifp (bne_iff_ne.1 hc12) hM
  refine A_sc [(some 24, false)] (conG Tryd.prog [(24, fun _ _ v_ L_ U_ => ∀ u0_, shunterlaw09_lives_m N  = some u0_ → (pV (vB u0_)) v_ L_ U_)]) ?_
  obtain ⟨r14, hr15, hM⟩ := bind_sm hM
  refine r_gv (vB r14) 11 _ rfl rfl rfl (ev_callF rfl call_11 rfl) (fun own_ nw_ hs_ => shunterlaw09_lives_g N  _ hr15 hs_.view ) (conE hr15) <| r_V (vB r14) rfl <| lx_nil ?_
  obtain rfl := Option.some.inj hM
  refine A_ret (fun hn => endsV (v0 := vB r14) rfl (res1 rfl))
 replace hM := ifn (bne_f hc12) hM
 refine A_skip <| hK10 _ _ ?_; try clear hK10 K10
 refine A_sr <| r_V (Sum31.v r8.1) rfl ?_
 obtain ⟨r17, hr18, hM⟩ := bind_sm hM
 refine r_c (vT #[vA #[vI r17.1, vI r17.2.1, vI r17.2.2.1, vI r17.2.2.2.1, U (hi r17.2.2.2.2.1), U (lo r17.2.2.2.2.1)], vB r17.2.2.2.2.2]) rfl _ _ (ev_callF rfl call_14 rfl) (code_Plain_g N r8.1 _ hr18) <| r_R [vT #[vA #[vI r17.1, vI r17.2.1, vI r17.2.2.1, vI r17.2.2.2.1, U (hi r17.2.2.2.2.1), U (lo r17.2.2.2.2.1)], vB r17.2.2.2.2.2], vA #[vI r17.1, vI r17.2.1, vI r17.2.2.1, vI r17.2.2.2.1, U (hi r17.2.2.2.2.1), U (lo r17.2.2.2.2.1)], vB r17.2.2.2.2.2] rfl ?_
 refine r_s [(b6, 27, #[vI r17.1, vI r17.2.1, vI r17.2.2.1, vI r17.2.2.2.1, U (hi r17.2.2.2.2.1), U (lo r17.2.2.2.2.1)]), (b2, 27, #[vI x_0, vI x_1, vI x_2, vI x_3, U (hi x_4), U (lo x_4)])] 0 _ _ _ _ _ (#[vI r17.1, vI r17.2.1, vI r17.2.2.1, vI r17.2.2.2.1, U (hi r17.2.2.2.2.1), U (lo r17.2.2.2.2.1)]) rfl rfl rfl rfl (.of rfl rfl) rfl rfl <| r_V (vB r17.2.2.2.2.2) rfl <| lx_nil <| A_seq fun K19 hK19 => A_regC [(some 37, false)] (conG Tryd.prog [(37, fun _ _ v_ L_ U_ => ∀ u0_, shunterlaw09_lives_m N  = some u0_ → (pV (vB u0_)) v_ L_ U_)]) <| r_R [vB r17.2.2.2.2.2, vB r17.2.2.2.2.2] rfl ?_
 rcases hg20 : r17.2.2.2.2.2 with _ | _
 ·replace hM := ifn (Bool.eq_false_iff.1 hg20) hM
  refine r_R [none, none, none, vB false, vB false, none, vB false, vB false] rfl <| lx_nil <| hK19 _ _ ?_; try clear hK19 K19
  refine A_gen [(2, vB false)] rfl (fun T => ?_)
  obtain rfl := Option.some.inj hM
  refine A_ret (fun hn => endsV (v0 := vB false) rfl (res1 rfl))
 replace hM := ifp hg20 hM
 refine r_y rfl <| r_l (vA #[vI r17.1, vI r17.2.1, vI r17.2.2.1, vI r17.2.2.2.1, U (hi r17.2.2.2.2.1), U (lo r17.2.2.2.2.1)]) 0 _ _ _ _ rfl rfl rfl rfl rfl <| r_y rfl <| r_l (vA #[vI x_0, vI x_1, vI x_2, vI x_3, U (hi x_4), U (lo x_4)]) 1 _ _ _ _ rfl rfl rfl rfl rfl <| r_y rfl <| r_W (vB ((r17.1 == x_0) && (r17.2.1 == x_1) && (r17.2.2.1 == x_2) && (r17.2.2.2.1 == x_3) && (r17.2.2.2.2.1 == x_4))) rfl (ev_binEq rfl rfl eg_27 (eqst_27 r17.1 x_0 r17.2.1 x_1 r17.2.2.1 x_2 r17.2.2.2.1 x_3 r17.2.2.2.2.1 x_4)) ?_
 refine r_R [vB ((r17.1 == x_0) && (r17.2.1 == x_1) && (r17.2.2.1 == x_2) && (r17.2.2.2.1 == x_3) && (r17.2.2.2.2.1 == x_4)), vB ((r17.1 == x_0) && (r17.2.1 == x_1) && (r17.2.2.1 == x_2) && (r17.2.2.2.1 == x_3) && (r17.2.2.2.2.1 == x_4))] rfl ?_
 rcases hg21 : ((r17.1 == x_0) && (r17.2.1 == x_1) && (r17.2.2.1 == x_2) && (r17.2.2.2.1 == x_3) && (r17.2.2.2.2.1 == x_4)) with _ | _
 ·replace hM := ifn (Bool.eq_false_iff.1 hg21) hM
  refine r_R [none, vB false, vB false] rfl <| lx_nil <| hK19 _ _ ?_; try clear hK19 K19
  refine A_gen [(2, vB false)] rfl (fun T => ?_)
  obtain rfl := Option.some.inj hM
  refine A_ret (fun hn => endsV (v0 := vB false) rfl (res1 rfl))
 replace hM := ifp hg21 hM
 refine r_y rfl ?_
 obtain ⟨r22, hr23, hM⟩ := bind_sm hM
 refine r_gv (vB r22) 11 _ rfl rfl rfl (ev_callF rfl call_11 rfl) (fun own_ nw_ hs_ => shunterlaw09_lives_g N  _ hr23 hs_.view ) (conE hr23) <| r_R [vB r22, vB r22] rfl <| lx_nil <| hK19 _ _ ?_; try clear hK19 K19
 refine A_gen [(2, vB r22)] rfl (fun T => ?_)
 obtain rfl := Option.some.inj hM
 refine A_ret (fun hn => endsV (v0 := vB r22) rfl (res1 rfl))
end Go.Proofs.YtmfedgmmgehmgaaDoor
