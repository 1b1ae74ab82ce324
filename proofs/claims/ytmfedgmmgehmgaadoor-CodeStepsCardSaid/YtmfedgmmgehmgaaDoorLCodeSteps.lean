/- models of functions and their walks -/
import Derived.Test.YtmfedgmmgehmgaaDoorBc
namespace Go.Proofs.YtmfedgmmgehmgaaDoor
open Go Go.RowKit Go.Eng
abbrev kLCodeSteps27_0 (b : Nat) (x0 : Int) (x1 : Int) (x2 : Int) (x3 : Int) (x4 : BitVec 64) (x5 : BitVec 64) : List Bl := [(b, 27, #[vI x0, vI x1, vI x2, vI x3, U x4, U x5])]
set_option maxRecDepth 100000 in
theorem eqst_25_9999  {c : Addr → Option Value} (x0 y0 : Int) (x1 y1 : BitVec 128) : ev Tryd.prog c (Op.equalIn 9999 25 (.agg #[vI x0, U (hi x1), U (lo x1)]) (.agg #[vI y0, U (hi y1), U (lo y1)])) = some ((x0 == y0) && (x1 == y1)) := by
 have h := ev_eqStruct (P := Tryd.prog) (c := c) 9998 (t := 25) #[vI x0, U (hi x1), U (lo x1)] #[vI y0, U (hi y1), U (lo y1)] rfl si_25 (fun f => if f.offset = 0 then (x0 == y0) else if f.offset = 1 then (((hi x1).toNat : Int) == ((hi y1).toNat : Int)) else (((lo x1).toNat : Int) == ((lo y1).toNat : Int)))
   (fun f hf => by
     simp only [List.mem_cons, List.not_mem_nil, or_false] at hf
     rcases hf with rfl | rfl | rfl
     · exact ⟨by decide, _, _, ev_partS (P := Tryd.prog) (t := 3) rfl (by intro fs h; cases h) (by intro n e h; cases h) _ _ rfl, ev_partS (P := Tryd.prog) (t := 3) rfl (by intro fs h; cases h) (by intro n e h; cases h) _ _ rfl, ev_eqInt _ _ _ rfl⟩
     · exact ⟨by decide, _, _, ev_partS (P := Tryd.prog) (t := 23) rfl (by intro fs h; cases h) (by intro n e h; cases h) _ _ rfl, ev_partS (P := Tryd.prog) (t := 23) rfl (by intro fs h; cases h) (by intro n e h; cases h) _ _ rfl, ev_eqInt _ _ _ rfl⟩
     · exact ⟨by decide, _, _, ev_partS (P := Tryd.prog) (t := 23) rfl (by intro fs h; cases h) (by intro n e h; cases h) _ _ rfl, ev_partS (P := Tryd.prog) (t := 23) rfl (by intro fs h; cases h) (by intro n e h; cases h) _ _ rfl, ev_eqInt _ _ _ rfl⟩)
 rw [← word_beq x1 y1]; rw [show Op.equalIn 9999 25 (.agg #[vI x0, U (hi x1), U (lo x1)]) (.agg #[vI y0, U (hi y1), U (lo y1)]) = Op.equalIn (9998 + 1) 25 (.agg #[vI x0, U (hi x1), U (lo x1)]) (.agg #[vI y0, U (hi y1), U (lo y1)]) from rfl, h]
 first | (simp; done) | simp [Bool.and_assoc]
theorem eg_27  : Tryd.prog.eqGuardType Tryd.prog.depth 27 = false := by kernel_rfl
theorem si_27  : Tryd.prog.stoodInHeld 27 = false := by kernel_rfl
set_option maxRecDepth 100000 in
theorem eqst_27  {c : Addr → Option Value} (x0 y0 : Int) (x1 y1 : Int) (x2 y2 : Int) (x3 y3 : Int) (x4 y4 : BitVec 128) : ev Tryd.prog c (Op.equal 27 (.agg #[vI x0, vI x1, vI x2, vI x3, U (hi x4), U (lo x4)]) (.agg #[vI y0, vI y1, vI y2, vI y3, U (hi y4), U (lo y4)])) = some ((x0 == y0) && (x1 == y1) && (x2 == y2) && (x3 == y3) && (x4 == y4)) := by
 have h := ev_eqStruct (P := Tryd.prog) (c := c) 9999 (t := 27) #[vI x0, vI x1, vI x2, vI x3, U (hi x4), U (lo x4)] #[vI y0, vI y1, vI y2, vI y3, U (hi y4), U (lo y4)] rfl si_27 (fun f => if f.offset = 0 then (x0 == y0) else if f.offset = 1 then (x1 == y1) else if f.offset = 2 then (x2 == y2) else ((x3 == y3) && (x4 == y4)))
   (fun f hf => by
     simp only [List.mem_cons, List.not_mem_nil, or_false] at hf
     rcases hf with rfl | rfl | rfl | rfl
     · exact ⟨by decide, _, _, ev_partS (P := Tryd.prog) (t := 22) rfl (by intro fs h; cases h) (by intro n e h; cases h) _ _ rfl, ev_partS (P := Tryd.prog) (t := 22) rfl (by intro fs h; cases h) (by intro n e h; cases h) _ _ rfl, ev_eqInt _ _ _ rfl⟩
     · exact ⟨by decide, _, _, ev_partS (P := Tryd.prog) (t := 3) rfl (by intro fs h; cases h) (by intro n e h; cases h) _ _ rfl, ev_partS (P := Tryd.prog) (t := 3) rfl (by intro fs h; cases h) (by intro n e h; cases h) _ _ rfl, ev_eqInt _ _ _ rfl⟩
     · exact ⟨by decide, _, _, ev_partS (P := Tryd.prog) (t := 3) rfl (by intro fs h; cases h) (by intro n e h; cases h) _ _ rfl, ev_partS (P := Tryd.prog) (t := 3) rfl (by intro fs h; cases h) (by intro n e h; cases h) _ _ rfl, ev_eqInt _ _ _ rfl⟩
     · exact ⟨by decide, _, _, ev_partA (P := Tryd.prog) (t := 25) (vs := #[vI x3, U (hi x4), U (lo x4)]) rfl rfl _ _ rfl, ev_partA (P := Tryd.prog) (t := 25) (vs := #[vI y3, U (hi y4), U (lo y4)]) rfl rfl _ _ rfl, eqst_25_9999 x3 y3 x4 y4⟩)
 rw [show Op.equal 27 (.agg #[vI x0, vI x1, vI x2, vI x3, U (hi x4), U (lo x4)]) (.agg #[vI y0, vI y1, vI y2, vI y3, U (hi y4), U (lo y4)]) = Op.equalIn (9999 + 1) 27 (.agg #[vI x0, vI x1, vI x2, vI x3, U (hi x4), U (lo x4)]) (.agg #[vI y0, vI y1, vI y2, vI y3, U (hi y4), U (lo y4)]) from rfl, h]
 first | (simp; done) | simp [Bool.and_assoc]
def shunterlaw09_CodeSteps_k5 (N : Nat) (m2__0 : Int) (m2__1 : Int) (m2__2 : Int) (m2__3 : Int) (m2__4 : BitVec 128) (r9 : Int × Int × Int × Int × (BitVec 128) × Bool) (right4_ : Bool) : Option Bool := if right4_ = true then if r9.2.2.2.2.2 = true then if ((r9.1 == m2__0) && (r9.2.1 == m2__1) && (r9.2.2.1 == m2__2) && (r9.2.2.2.1 == m2__3) && (r9.2.2.2.2.1 == m2__4)) = true then (shunterlaw09_lives_m N ).bind fun r23 => some r23 else some false else some false else if r9.2.2.2.2.2 = true then some false else if ((r9.1 == 0) && (r9.2.1 == 0) && (r9.2.2.1 == 0) && (r9.2.2.2.1 == 0) && (r9.2.2.2.2.1 == ((0#64) ++ (0#64)))) = true then (shunterlaw09_lives_m N ).bind fun r18 => some r18 else some false
def shunterlaw09_CodeSteps_k3 (N : Nat) (s1_ : Sum31) (m2__0 : Int) (m2__1 : Int) (m2__2 : Int) (m2__3 : Int) (m2__4 : BitVec 128) : Option Bool := (code_Plain_m N s1_).bind fun r9 => (shunterref09_May_m N m2__0 m2__1 m2__2 m2__3 m2__4).bind fun r25 => if r25 = 0 then (shunterref09_Table_m N ).bind fun r28 => ck (0 ≤ m2__0 ∧ m2__0 < ((r28).length : Int)) ((shunterlaw09_typeOf_m N s1_).bind fun r34 => shunterlaw09_CodeSteps_k5 N m2__0 m2__1 m2__2 m2__3 m2__4 r9 ((((r28)[(m2__0).toNat]!).2.2.2.2.2.2.2.2) == r34)) else shunterlaw09_CodeSteps_k5 N m2__0 m2__1 m2__2 m2__3 m2__4 r9 false
def shunterlaw09_CodeSteps_m (N : Nat) (n_0 : Int) (n_1 : Int) (n_2 : Int) (n_3 : Int) (v_0 : Int) (v_1 : BitVec 128) : Option Bool := if n_0 = 0 then shunterlaw09_CodeSteps_k3 N (Sum31.t47 v_0 v_1) 0 0 0 v_0 v_1 else if n_0 = 1 then shunterlaw09_CodeSteps_k3 N (Sum31.t49 n_1 n_2 n_3) n_1 n_2 n_3 0 ((0#64) ++ (0#64)) else if n_0 = 2 then shunterlaw09_CodeSteps_k3 N (Sum31.t51 n_1 n_2) n_1 n_2 0 0 ((0#64) ++ (0#64)) else if n_0 = 3 then shunterlaw09_CodeSteps_k3 N (Sum31.t52 n_1 n_2) n_1 n_2 0 0 ((0#64) ++ (0#64)) else if n_0 = 4 then shunterlaw09_CodeSteps_k3 N (Sum31.t54 n_2 n_3) 10 n_2 n_3 0 ((0#64) ++ (0#64)) else if n_0 = 5 then shunterlaw09_CodeSteps_k3 N (Sum31.t56 n_1 n_2 n_3) n_1 n_2 n_3 0 ((0#64) ++ (0#64)) else if n_0 = 6 then shunterlaw09_CodeSteps_k3 N (Sum31.t58 n_2 n_3) 33 n_2 n_3 0 ((0#64) ++ (0#64)) else shunterlaw09_CodeSteps_k3 N (Sum31.t60 n_1) n_1 0 0 0 ((0#64) ++ (0#64))
set_option maxRecDepth 100000 in
set_option maxHeartbeats 8000000 in
theorem shunterlaw09_CodeSteps_g (N : Nat) (n_0 n_1 n_2 n_3 v_0 : Int) (v_1 : BitVec 128) (r) (hM : shunterlaw09_CodeSteps_m N n_0 n_1 n_2 n_3 v_0 v_1 = some r) (ro : Addr → Option Value) : DoesI Tryd.prog 5 #[vA #[vI n_0, vI n_1, vI n_2, vI n_3], vA #[vI v_0, U (hi v_1), U (lo v_1)]] MemI ro [] (pV (vB r)) := by
 unfold shunterlaw09_CodeSteps_m at hM
 refine doesI_of_A follows Tryd.func5 rfl 127 rfl (upd (upd (fun _ => undef) 1 (vA #[vI v_0, U (hi v_1), U (lo v_1)])) 0 (vA #[vI n_0, vI n_1, vI n_2, vI n_3])) (by funext k; match k with | 0 => rfl | 1 => rfl | k + 2 => rfl) memI_kept (fun base0_ => ?_)
 refine A_sr <| r_a (45, #[vI n_0, vI n_1, vI n_2, vI n_3]) rfl rfl rfl (fun b2 => ?_) (.inr rfl)
 refine r_a (25, #[vI v_0, U (hi v_1), U (lo v_1)]) rfl rfl rfl (fun b3 => ?_) (.inr rfl)
 refine r_V (vB false) rfl <| lx_nil <| A_seq fun K4 hK4 => A_draw [] (by decide +kernel) (fun hn => sep_nil) <| r_V (vP b2 0) rfl <| r_l (vI n_0) 1 _ _ _ _ rfl rfl rfl rfl rfl <| r_V (vP b2 1) rfl <| r_l (vI n_1) 1 _ _ _ _ rfl rfl rfl rfl rfl <| r_R [vI n_0, vI n_1] rfl <| lx_nil <| hK4 _ _ ?_; try clear hK4 K4
 refine A_sr <| r_V Value.nilIface rfl <| lx_nil <| A_sr <| r_R [vI n_1, vP b2 2] rfl <| r_l (vI n_2) 1 _ _ _ _ rfl rfl rfl rfl rfl <| r_V (vP b2 3) rfl <| r_l (vI n_3) 1 _ _ _ _ rfl rfl rfl rfl rfl <| r_W (vA #[vI n_1, vI n_2, vI n_3, vI 0, U (0#64), U (0#64)]) rfl (ev_buildS rfl rfl rfl rfl) <| r_a (27, #[vI 0, vI 0, vI 0, vI 0, U (0#64), U (0#64)]) rfl rfl rfl (fun b7 => ?_) (.inr rfl)
 refine r_s [(b7, 27, #[vI n_1, vI n_2, vI n_3, vI 0, U (0#64), U (0#64)]), (b3, 25, #[vI v_0, U (hi v_1), U (lo v_1)]), (b2, 45, #[vI n_0, vI n_1, vI n_2, vI n_3])] 0 _ _ _ _ _ (#[vI n_1, vI n_2, vI n_3, vI 0, U (0#64), U (0#64)]) rfl rfl rfl rfl (.of rfl rfl) rfl rfl <| lx_nil <| A_cut (fun tt ll => ∃ (s1_ : Sum31) (m2__0 : Int) (m2__1 : Int) (m2__2 : Int) (m2__3 : Int) (m2__4 : BitVec 128), (shunterlaw09_CodeSteps_k3 N s1_ m2__0 m2__1 m2__2 m2__3 m2__4 = some r) ∧ Is [(7, Sum31.v s1_), (8, vP b7 0)] (kLCodeSteps27_0 b7 m2__0 m2__1 m2__2 m2__3 (hi m2__4) (lo m2__4)) tt ll) ?_ ?_
 ·refine A_sr <| r_V (vI n_0) rfl <| lx_nil <| A_block <| A_sr <| r_R [vB (n_0 == 0), vB (n_0 == 0)] rfl <| lx_nil <| A_cond (n_0 == 0) rfl (fun hc38 => ?_) (fun hc38 => ?_)
  ·replace hM := ifp (eq_of_beq hc38) hM
   refine A_sr <| r_l (vA #[vI v_0, U (hi v_1), U (lo v_1)]) 1 _ _ _ _ rfl rfl rfl rfl rfl <| r_W (vA #[vI v_0, U (hi v_1), U (lo v_1)]) rfl (ev_buildS rfl rfl rfl rfl) <| r_R [Value.iface 47 (vA #[vI v_0, U (hi v_1), U (lo v_1)]), Value.iface 47 (vA #[vI v_0, U (hi v_1), U (lo v_1)])] rfl <| lx_nil <| A_reg <| r_l (vA #[vI v_0, U (hi v_1), U (lo v_1)]) 1 _ _ _ _ rfl rfl rfl rfl rfl <| r_W (vA #[vI 0, vI 0, vI 0, vI v_0, U (hi v_1), U (lo v_1)]) rfl (ev_buildS rfl rfl rfl (by kernel_rfl)) ?_
   refine r_s [(b7, 27, #[vI 0, vI 0, vI 0, vI v_0, U (hi v_1), U (lo v_1)]), (b3, 25, #[vI v_0, U (hi v_1), U (lo v_1)]), (b2, 45, #[vI n_0, vI n_1, vI n_2, vI n_3])] 0 _ _ _ _ _ (#[vI 0, vI 0, vI 0, vI v_0, U (hi v_1), U (lo v_1)]) rfl rfl rfl rfl (.of rfl rfl) rfl rfl <| lx_nil <| fg _ (Sub.of (List.Sublist.cons_cons _ (List.Sublist.cons _ (List.Sublist.cons _ List.Sublist.slnil)))) ?_
   exact ⟨(Sum31.t47 v_0 v_1), 0, 0, 0, v_0, v_1, hM, is_mk rfl rfl⟩
  replace hM := ifn (ne_of_beq_false hc38) hM
  refine A_sr <| r_R [vB (n_0 == 1), vB (n_0 == 1)] rfl <| lx_nil <| A_cond (n_0 == 1) rfl (fun hc41 => ?_) (fun hc41 => ?_)
  ·replace hM := ifp (eq_of_beq hc41) hM
   refine A_reg <| r_R [vI n_1, vP b2 2] rfl <| r_l (vI n_2) 2 _ _ _ _ rfl rfl rfl rfl rfl <| r_V (vP b2 3) rfl <| r_l (vI n_3) 2 _ _ _ _ rfl rfl rfl rfl rfl <| r_W (vA #[vI n_1, vI n_2, vI n_3]) rfl (ev_buildS rfl rfl rfl rfl) <| r_R [Value.iface 49 (vA #[vI n_1, vI n_2, vI n_3]), Value.iface 49 (vA #[vI n_1, vI n_2, vI n_3])] rfl <| lx_nil <| fg _ (Sub.of (List.Sublist.cons_cons _ (List.Sublist.cons _ (List.Sublist.cons _ List.Sublist.slnil)))) ?_
   exact ⟨(Sum31.t49 n_1 n_2 n_3), n_1, n_2, n_3, 0, (0#64) ++ (0#64), hM, is_mk rfl (by first | rfl | simp only [app_hl])⟩
  replace hM := ifn (ne_of_beq_false hc41) hM
  refine A_sr <| r_R [vB (n_0 == 2), vB (n_0 == 2)] rfl <| lx_nil <| A_cond (n_0 == 2) rfl (fun hc43 => ?_) (fun hc43 => ?_)
  ·replace hM := ifp (eq_of_beq hc43) hM
   refine A_sr <| r_R [vI n_1, vP b2 2] rfl <| r_l (vI n_2) 2 _ _ _ _ rfl rfl rfl rfl rfl <| r_W (vA #[vI n_1, vI n_2]) rfl (ev_buildS rfl rfl rfl rfl) <| r_R [Value.iface 51 (vA #[vI n_1, vI n_2]), Value.iface 51 (vA #[vI n_1, vI n_2])] rfl <| lx_nil <| A_gen [(7, Value.iface 51 (vA #[vI n_1, vI n_2])), (8, vP b7 0)] rfl (fun T => ?_)
   refine A_reg <| r_V (vP b7 2) rfl <| r_s [(b7, 27, #[vI n_1, vI n_2, vI 0, vI 0, U (0#64), U (0#64)]), (b3, 25, #[vI v_0, U (hi v_1), U (lo v_1)]), (b2, 45, #[vI n_0, vI n_1, vI n_2, vI n_3])] 0 _ _ _ _ _ (#[vI n_1, vI n_2, vI 0, vI 0, U (0#64), U (0#64)]) rfl rfl rfl rfl (.of rfl rfl) rfl rfl <| lx_nil <| fg _ (Sub.of (List.Sublist.cons_cons _ (List.Sublist.cons _ (List.Sublist.cons _ List.Sublist.slnil)))) ?_
   exact ⟨(Sum31.t51 n_1 n_2), n_1, n_2, 0, 0, (0#64) ++ (0#64), hM, is_mk rfl (by first | rfl | simp only [app_hl])⟩
  replace hM := ifn (ne_of_beq_false hc43) hM
  refine A_sr <| r_R [vB (n_0 == 3), vB (n_0 == 3)] rfl <| lx_nil <| A_cond (n_0 == 3) rfl (fun hc46 => ?_) (fun hc46 => ?_)
  ·replace hM := ifp (eq_of_beq hc46) hM
   refine A_sr <| r_R [vI n_1, vP b2 2] rfl <| r_l (vI n_2) 2 _ _ _ _ rfl rfl rfl rfl rfl <| r_W (vA #[vI n_1, vI n_2]) rfl (ev_buildS rfl rfl rfl rfl) <| r_R [Value.iface 52 (vA #[vI n_1, vI n_2]), Value.iface 52 (vA #[vI n_1, vI n_2])] rfl <| lx_nil <| A_gen [(7, Value.iface 52 (vA #[vI n_1, vI n_2])), (8, vP b7 0)] rfl (fun T => ?_)
   refine A_reg <| r_V (vP b7 2) rfl <| r_s [(b7, 27, #[vI n_1, vI n_2, vI 0, vI 0, U (0#64), U (0#64)]), (b3, 25, #[vI v_0, U (hi v_1), U (lo v_1)]), (b2, 45, #[vI n_0, vI n_1, vI n_2, vI n_3])] 0 _ _ _ _ _ (#[vI n_1, vI n_2, vI 0, vI 0, U (0#64), U (0#64)]) rfl rfl rfl rfl (.of rfl rfl) rfl rfl <| lx_nil <| fg _ (Sub.of (List.Sublist.cons_cons _ (List.Sublist.cons _ (List.Sublist.cons _ List.Sublist.slnil)))) ?_
   exact ⟨(Sum31.t52 n_1 n_2), n_1, n_2, 0, 0, (0#64) ++ (0#64), hM, is_mk rfl (by first | rfl | simp only [app_hl])⟩
  replace hM := ifn (ne_of_beq_false hc46) hM
  refine A_sr <| r_R [vB (n_0 == 4), vB (n_0 == 4)] rfl <| lx_nil <| A_cond (n_0 == 4) rfl (fun hc49 => ?_) (fun hc49 => ?_)
  ·replace hM := ifp (eq_of_beq hc49) hM
   refine A_sr <| r_V (vP b2 2) rfl <| r_l (vI n_2) 2 _ _ _ _ rfl rfl rfl rfl rfl <| r_V (vP b2 3) rfl <| r_l (vI n_3) 2 _ _ _ _ rfl rfl rfl rfl rfl <| r_W (vA #[vI n_2, vI n_3]) rfl (ev_buildS rfl rfl rfl rfl) <| r_R [Value.iface 54 (vA #[vI n_2, vI n_3]), Value.iface 54 (vA #[vI n_2, vI n_3])] rfl <| lx_nil <| A_gen [(7, Value.iface 54 (vA #[vI n_2, vI n_3])), (8, vP b7 0)] rfl (fun T => ?_)
   refine A_reg <| r_V (vP b7 0) rfl <| r_s [(b7, 27, #[vI 10, vI n_2, vI n_3, vI 0, U (0#64), U (0#64)]), (b3, 25, #[vI v_0, U (hi v_1), U (lo v_1)]), (b2, 45, #[vI n_0, vI n_1, vI n_2, vI n_3])] 0 _ _ _ _ _ (#[vI 10, vI n_2, vI n_3, vI 0, U (0#64), U (0#64)]) rfl rfl rfl rfl (.of rfl rfl) rfl rfl <| lx_nil <| fg _ (Sub.of (List.Sublist.cons_cons _ (List.Sublist.cons _ (List.Sublist.cons _ List.Sublist.slnil)))) ?_
   exact ⟨(Sum31.t54 n_2 n_3), 10, n_2, n_3, 0, (0#64) ++ (0#64), hM, is_mk rfl (by first | rfl | simp only [app_hl])⟩
  replace hM := ifn (ne_of_beq_false hc49) hM
  refine A_sr <| r_R [vB (n_0 == 5), vB (n_0 == 5)] rfl <| lx_nil <| A_gen [(2, vP b2 0), (6, vI n_1), (8, vP b7 0), (22, vI n_0), (69, vB (n_0 == 5))] rfl (fun T => ?_)
  refine A_cond (n_0 == 5) rfl (fun hc52 => ?_) (fun hc52 => ?_)
  ·replace hM := ifp (eq_of_beq hc52) hM
   refine A_reg <| r_R [vI n_1, vP b2 2] rfl <| r_l (vI n_2) 2 _ _ _ _ rfl rfl rfl rfl rfl <| r_V (vP b2 3) rfl <| r_l (vI n_3) 2 _ _ _ _ rfl rfl rfl rfl rfl <| r_W (vA #[vI n_1, vI n_2, vI n_3]) rfl (ev_buildS rfl rfl rfl rfl) <| r_R [Value.iface 56 (vA #[vI n_1, vI n_2, vI n_3]), Value.iface 56 (vA #[vI n_1, vI n_2, vI n_3])] rfl <| lx_nil <| fg _ (Sub.of (List.Sublist.cons_cons _ (List.Sublist.cons _ (List.Sublist.cons _ List.Sublist.slnil)))) ?_
   exact ⟨(Sum31.t56 n_1 n_2 n_3), n_1, n_2, n_3, 0, (0#64) ++ (0#64), hM, is_mk rfl (by first | rfl | simp only [app_hl])⟩
  replace hM := ifn (ne_of_beq_false hc52) hM
  refine A_sr <| r_R [vB (n_0 == 6), vB (n_0 == 6)] rfl <| lx_nil <| A_cond (n_0 == 6) rfl (fun hc54 => ?_) (fun hc54 => ?_)
  ·replace hM := ifp (eq_of_beq hc54) hM
   refine A_sr <| r_V (vP b2 2) rfl <| r_l (vI n_2) 2 _ _ _ _ rfl rfl rfl rfl rfl <| r_V (vP b2 3) rfl <| r_l (vI n_3) 2 _ _ _ _ rfl rfl rfl rfl rfl <| r_W (vA #[vI n_2, vI n_3]) rfl (ev_buildS rfl rfl rfl rfl) <| r_R [Value.iface 58 (vA #[vI n_2, vI n_3]), Value.iface 58 (vA #[vI n_2, vI n_3])] rfl <| lx_nil <| A_reg <| r_V (vP b7 0) rfl <| r_s [(b7, 27, #[vI 33, vI n_2, vI n_3, vI 0, U (0#64), U (0#64)]), (b3, 25, #[vI v_0, U (hi v_1), U (lo v_1)]), (b2, 45, #[vI n_0, vI n_1, vI n_2, vI n_3])] 0 _ _ _ _ _ (#[vI 33, vI n_2, vI n_3, vI 0, U (0#64), U (0#64)]) rfl rfl rfl rfl (.of rfl rfl) rfl rfl <| lx_nil ?_
   refine fg _ (Sub.of (List.Sublist.cons_cons _ (List.Sublist.cons _ (List.Sublist.cons _ List.Sublist.slnil)))) ?_
   exact ⟨(Sum31.t58 n_2 n_3), 33, n_2, n_3, 0, (0#64) ++ (0#64), hM, is_mk rfl (by first | rfl | simp only [app_hl])⟩
  replace hM := ifn (ne_of_beq_false hc54) hM
  refine A_sr <| r_V (vI n_1) rfl <| r_W (vA #[vI n_1]) rfl (ev_buildS rfl rfl rfl rfl) <| r_R [Value.iface 60 (vA #[vI n_1]), Value.iface 60 (vA #[vI n_1])] rfl <| lx_nil <| A_reg <| r_V (vI n_1) rfl <| r_W (vA #[vI n_1, vI 0, vI 0, vI 0, U (0#64), U (0#64)]) rfl (ev_buildS rfl rfl rfl rfl) <| r_s [(b7, 27, #[vI n_1, vI 0, vI 0, vI 0, U (0#64), U (0#64)]), (b3, 25, #[vI v_0, U (hi v_1), U (lo v_1)]), (b2, 45, #[vI n_0, vI n_1, vI n_2, vI n_3])] 0 _ _ _ _ _ (#[vI n_1, vI 0, vI 0, vI 0, U (0#64), U (0#64)]) rfl rfl rfl rfl (.of rfl rfl) rfl rfl <| lx_nil <| fg _ (Sub.of (List.Sublist.cons_cons _ (List.Sublist.cons _ (List.Sublist.cons _ List.Sublist.slnil)))) ?_
  exact ⟨(Sum31.t60 n_1), n_1, 0, 0, 0, (0#64) ++ (0#64), hM, is_mk rfl (by first | rfl | simp only [app_hl])⟩
 clear hM; rintro t l ⟨s1_, m2__0, m2__1, m2__2, m2__3, m2__4, hM, ⟨T, rfl⟩, rfl⟩
 unfold shunterlaw09_CodeSteps_k3 at hM
 refine A_sr <| r_V (Sum31.v s1_) rfl ?_
 obtain ⟨r9, hr10, hM⟩ := bind_sm hM
 refine r_c (vT #[vA #[vI r9.1, vI r9.2.1, vI r9.2.2.1, vI r9.2.2.2.1, U (hi r9.2.2.2.2.1), U (lo r9.2.2.2.2.1)], vB r9.2.2.2.2.2]) rfl _ _ (ev_callF rfl call_14 rfl) (code_Plain_g N s1_ _ hr10) <| r_R [vT #[vA #[vI r9.1, vI r9.2.1, vI r9.2.2.1, vI r9.2.2.2.1, U (hi r9.2.2.2.2.1), U (lo r9.2.2.2.2.1)], vB r9.2.2.2.2.2], vA #[vI r9.1, vI r9.2.1, vI r9.2.2.1, vI r9.2.2.2.1, U (hi r9.2.2.2.2.1), U (lo r9.2.2.2.2.1)], vB r9.2.2.2.2.2] rfl <| r_a (27, #[vI 0, vI 0, vI 0, vI 0, U (0#64), U (0#64)]) rfl rfl rfl (fun b11 => ?_) (.inr rfl)
 refine r_s [(b11, 27, #[vI r9.1, vI r9.2.1, vI r9.2.2.1, vI r9.2.2.2.1, U (hi r9.2.2.2.2.1), U (lo r9.2.2.2.2.1)]), (b7, 27, #[vI m2__0, vI m2__1, vI m2__2, vI m2__3, U (hi m2__4), U (lo m2__4)])] 0 _ _ _ _ _ (#[vI r9.1, vI r9.2.1, vI r9.2.2.1, vI r9.2.2.2.1, U (hi r9.2.2.2.2.1), U (lo r9.2.2.2.2.1)]) rfl rfl rfl rfl (.of rfl rfl) rfl rfl <| r_V (vB r9.2.2.2.2.2) rfl <| lx_nil ?_
 refine A_cut (fun tt ll => ∃ (right4_ : Bool), (shunterlaw09_CodeSteps_k5 N m2__0 m2__1 m2__2 m2__3 m2__4 r9 right4_ = some r) ∧ Is [(8, vP b7 0), (9, vP b11 0), (10, vB r9.2.2.2.2.2), (11, vB right4_)] [(b11, 27, #[vI r9.1, vI r9.2.1, vI r9.2.2.1, vI r9.2.2.2.1, U (hi r9.2.2.2.2.1), U (lo r9.2.2.2.2.1)]), (b7, 27, #[vI m2__0, vI m2__1, vI m2__2, vI m2__3, U (hi m2__4), U (lo m2__4)])] tt ll) ?_ ?_
 ·refine A_drawR [(some 96, false)] (conG Tryd.prog [(96, fun _ _ v_ L_ U_ => ∀ u0_, shunterref09_Table_m N  = some u0_ → (p1 (fun s_ => s_) 38 enc_38 u0_) v_ L_ U_)]) [] (by decide +kernel) (fun hn => sep_nil) <| r_l (vA #[vI m2__0, vI m2__1, vI m2__2, vI m2__3, U (hi m2__4), U (lo m2__4)]) 1 _ _ _ _ rfl rfl rfl rfl rfl ?_
  obtain ⟨r25, hr26, hM⟩ := bind_sm hM
  refine r_c (vI r25) rfl _ _ (ev_callF rfl call_8 rfl) (shunterref09_May_g N m2__0 m2__1 m2__2 m2__3 m2__4 _ hr26) <| r_R [vB (r25 == 0), vB (r25 == 0)] rfl ?_
  rcases hg27 : (r25 == 0) with _ | _
  ·replace hM := ifn (ne_of_beq_false hg27) hM
   refine r_R [none, none, none, none, none, none, none, none, none, vB false, vB false] rfl <| lx_nil <| fg _ (Sub.of (List.Sublist.cons_cons _ (List.Sublist.cons_cons _ List.Sublist.slnil))) ?_
   exact ⟨false, hM, is_mk (by first | rfl | (simp only [hg27]; done) | (simp only [hg27]; rfl) | (simp only [app_hl]; rfl)) rfl⟩
  replace hM := ifp (eq_of_beq hg27) hM
  refine r_y rfl ?_
  obtain ⟨r28, hr29, hM⟩ := bind_sm hM
  refine r_g1 (Ls := [(kLCodeSteps27_0 b11 r9.1 r9.2.1 r9.2.2.1 r9.2.2.2.1 (hi r9.2.2.2.2.1) (lo r9.2.2.2.2.1)), (kLCodeSteps27_0 b7 m2__0 m2__1 m2__2 m2__3 (hi m2__4) (lo m2__4))]) (fun s30 => s30) 38 enc_38 r28 13 _ rfl rfl rfl (ev_callF rfl call_13 rfl) (fun own_ nw_ hs_ => (Does.inv (shunterref09_Table_g N  _ hr29 hs_.view ) _)) (conE hr29) (fun s30 S31 H32 => ?_)
  refine r_R [vP b7 0] rfl <| r_y rfl <| r_l (vI m2__0) 1 _ _ _ _ rfl rfl rfl rfl rfl <| r_y rfl ?_
  obtain ⟨ck33, hM⟩ := ck_some hM
  refine r_W (elA s30 ((m2__0).toNat * 9)) rfl (ev_v (ev_idxSl rfl rfl rfl (Sl.shp H32) ck33)) <| r_y rfl <| r_W (elA s30 ((m2__0).toNat * 9 + 8)) rfl (ev_v (ev_fieldX rfl rfl rfl rfl rfl rfl (Sl.shp H32) (pos_of ck33))) <| r_y rfl <| r_le (vS (((r28)[(m2__0).toNat]!).2.2.2.2.2.2.2.2)) (En := enc_38) ((r28)[(m2__0).toNat]!) ((m2__0).toNat) 8 rfl rfl (rd_own H32 (mem_chunk (Ls := [(kLCodeSteps27_0 b11 r9.1 r9.2.1 r9.2.2.1 r9.2.2.2.1 (hi r9.2.2.2.2.1) (lo r9.2.2.2.2.1)), (kLCodeSteps27_0 b7 m2__0 m2__1 m2__2 m2__3 (hi m2__4) (lo m2__4)), S31]) (k := 2) rfl rfl)) (get_of ck33) rfl <| r_R [Sum31.v s1_] rfl <| r_y rfl ?_
  obtain ⟨r34, hr35, hM⟩ := bind_sm hM
  refine r_c (vS r34) rfl _ _ (ev_callF rfl call_12 rfl) (shunterlaw09_typeOf_g N s1_ _ hr35) <| r_y rfl <| r_W (vB ((((r28)[(m2__0).toNat]!).2.2.2.2.2.2.2.2) == r34)) rfl (ev_eqS rfl rfl) <| r_R [vB ((((r28)[(m2__0).toNat]!).2.2.2.2.2.2.2.2) == r34), vB ((((r28)[(m2__0).toNat]!).2.2.2.2.2.2.2.2) == r34)] rfl <| lx_nil <| fg _ (Sub.pick [(kLCodeSteps27_0 b11 r9.1 r9.2.1 r9.2.2.1 r9.2.2.2.1 (hi r9.2.2.2.2.1) (lo r9.2.2.2.2.1)), (kLCodeSteps27_0 b7 m2__0 m2__1 m2__2 m2__3 (hi m2__4) (lo m2__4)), S31] [0, 1] rfl) ?_
  exact ⟨(((r28)[(m2__0).toNat]!).2.2.2.2.2.2.2.2) == r34, hM, is_mk (by first | rfl | (simp only [hg27]; done) | (simp only [hg27]; rfl) | (simp only [app_hl]; rfl)) rfl⟩
 clear hM; rintro t l ⟨right4_, hM, ⟨T, rfl⟩, rfl⟩
 unfold shunterlaw09_CodeSteps_k5 at hM
 refine A_seq fun K12 hK12 => A_sr <| r_R [vB right4_, vB (!(right4_))] rfl <| lx_nil <| A_cond (!(right4_)) rfl (fun hc14 => ?_) (fun hc14 => ?_)
 ·replace hM := ifn (Bool.eq_false_iff.1 (not_t hc14)) hM
  refine A_seq fun K15 hK15 => A_regC [(some 116, false)] (conG Tryd.prog [(116, fun _ _ v_ L_ U_ => ∀ u0_, shunterlaw09_lives_m N  = some u0_ → (pV (vB u0_)) v_ L_ U_)]) <| r_R [vB r9.2.2.2.2.2, vB (!(r9.2.2.2.2.2)), vB (!(r9.2.2.2.2.2))] rfl ?_
  rcases hg16 : (!(r9.2.2.2.2.2)) with _ | _
  ·replace hM := ifp (not_f hg16) hM
   refine r_R [none, none, none, vB false, vB false, none, vB false, vB false] rfl <| lx_nil <| hK15 _ _ ?_; try clear hK15 K15
   obtain rfl := Option.some.inj hM
   refine A_ret (fun hn => endsV (v0 := vB false) rfl (res1 rfl))
  replace hM := ifn (Bool.eq_false_iff.1 (not_t hg16)) hM
  refine r_y rfl <| r_l (vA #[vI r9.1, vI r9.2.1, vI r9.2.2.1, vI r9.2.2.2.1, U (hi r9.2.2.2.2.1), U (lo r9.2.2.2.2.1)]) 0 _ _ _ _ rfl rfl rfl rfl rfl <| r_y rfl <| r_W (vA #[vI 0, vI 0, vI 0, vI 0, U (0#64), U (0#64)]) rfl (ev_buildS rfl rfl rfl rfl) <| r_y rfl <| r_W (vB ((r9.1 == 0) && (r9.2.1 == 0) && (r9.2.2.1 == 0) && (r9.2.2.2.1 == 0) && (r9.2.2.2.2.1 == ((0#64) ++ (0#64))))) rfl (ev_binEq rfl rfl eg_27 (by have h_ := fun c => eqst_27 (c := c) r9.1 0 r9.2.1 0 r9.2.2.1 0 r9.2.2.2.1 0 r9.2.2.2.2.1 ((0#64) ++ (0#64)); simp only [app_hl] at h_; exact h_ _)) ?_
  refine r_R [vB ((r9.1 == 0) && (r9.2.1 == 0) && (r9.2.2.1 == 0) && (r9.2.2.2.1 == 0) && (r9.2.2.2.2.1 == ((0#64) ++ (0#64)))), vB ((r9.1 == 0) && (r9.2.1 == 0) && (r9.2.2.1 == 0) && (r9.2.2.2.1 == 0) && (r9.2.2.2.2.1 == ((0#64) ++ (0#64))))] rfl ?_
  rcases hg17 : ((r9.1 == 0) && (r9.2.1 == 0) && (r9.2.2.1 == 0) && (r9.2.2.2.1 == 0) && (r9.2.2.2.2.1 == ((0#64) ++ (0#64)))) with _ | _
  ·replace hM := ifn (Bool.eq_false_iff.1 hg17) hM
   refine r_R [none, vB false, vB false] rfl <| lx_nil <| hK15 _ _ ?_; try clear hK15 K15
   obtain rfl := Option.some.inj hM
   refine A_ret (fun hn => endsV (v0 := vB false) rfl (res1 rfl))
  replace hM := ifp hg17 hM
  refine r_y rfl ?_
  obtain ⟨r18, hr19, hM⟩ := bind_sm hM
  refine r_gv (vB r18) 11 _ rfl rfl rfl (ev_callF rfl call_11 rfl) (fun own_ nw_ hs_ => shunterlaw09_lives_g N  _ hr19 hs_.view ) (conE hr19) <| r_R [vB r18, vB r18] rfl <| lx_nil <| hK15 _ _ ?_; try clear hK15 K15
  obtain rfl := Option.some.inj hM
  refine A_ret (fun hn => endsV (v0 := vB r18) rfl (res1 rfl))
 replace hM := ifp (not_f hc14) hM
 refine A_skip <| hK12 _ _ ?_; try clear hK12 K12
 refine A_seq fun K20 hK20 => A_regC [(some 125, false)] (conG Tryd.prog [(125, fun _ _ v_ L_ U_ => ∀ u0_, shunterlaw09_lives_m N  = some u0_ → (pV (vB u0_)) v_ L_ U_)]) <| r_R [vB r9.2.2.2.2.2, vB r9.2.2.2.2.2] rfl ?_
 rcases hg21 : r9.2.2.2.2.2 with _ | _
 ·replace hM := ifn (Bool.eq_false_iff.1 hg21) hM
  refine r_R [none, none, none, vB false, vB false, none, vB false, vB false] rfl <| lx_nil <| hK20 _ _ ?_; try clear hK20 K20
  obtain rfl := Option.some.inj hM
  refine A_ret (fun hn => endsV (v0 := vB false) rfl (res1 rfl))
 replace hM := ifp hg21 hM
 refine r_y rfl <| r_l (vA #[vI r9.1, vI r9.2.1, vI r9.2.2.1, vI r9.2.2.2.1, U (hi r9.2.2.2.2.1), U (lo r9.2.2.2.2.1)]) 0 _ _ _ _ rfl rfl rfl rfl rfl <| r_y rfl <| r_l (vA #[vI m2__0, vI m2__1, vI m2__2, vI m2__3, U (hi m2__4), U (lo m2__4)]) 1 _ _ _ _ rfl rfl rfl rfl rfl <| r_y rfl <| r_W (vB ((r9.1 == m2__0) && (r9.2.1 == m2__1) && (r9.2.2.1 == m2__2) && (r9.2.2.2.1 == m2__3) && (r9.2.2.2.2.1 == m2__4))) rfl (ev_binEq rfl rfl eg_27 (eqst_27 r9.1 m2__0 r9.2.1 m2__1 r9.2.2.1 m2__2 r9.2.2.2.1 m2__3 r9.2.2.2.2.1 m2__4)) ?_
 refine r_R [vB ((r9.1 == m2__0) && (r9.2.1 == m2__1) && (r9.2.2.1 == m2__2) && (r9.2.2.2.1 == m2__3) && (r9.2.2.2.2.1 == m2__4)), vB ((r9.1 == m2__0) && (r9.2.1 == m2__1) && (r9.2.2.1 == m2__2) && (r9.2.2.2.1 == m2__3) && (r9.2.2.2.2.1 == m2__4))] rfl ?_
 rcases hg22 : ((r9.1 == m2__0) && (r9.2.1 == m2__1) && (r9.2.2.1 == m2__2) && (r9.2.2.2.1 == m2__3) && (r9.2.2.2.2.1 == m2__4)) with _ | _
 ·replace hM := ifn (Bool.eq_false_iff.1 hg22) hM
  refine r_R [none, vB false, vB false] rfl <| lx_nil <| hK20 _ _ ?_; try clear hK20 K20
  obtain rfl := Option.some.inj hM
  refine A_ret (fun hn => endsV (v0 := vB false) rfl (res1 rfl))
 replace hM := ifp hg22 hM
 refine r_y rfl ?_
 obtain ⟨r23, hr24, hM⟩ := bind_sm hM
 refine r_gv (vB r23) 11 _ rfl rfl rfl (ev_callF rfl call_11 rfl) (fun own_ nw_ hs_ => shunterlaw09_lives_g N  _ hr24 hs_.view ) (conE hr24) <| r_R [vB r23, vB r23] rfl <| lx_nil <| hK20 _ _ ?_; try clear hK20 K20
 obtain rfl := Option.some.inj hM
 refine A_ret (fun hn => endsV (v0 := vB r23) rfl (res1 rfl))
end Go.Proofs.YtmfedgmmgehmgaaDoor
