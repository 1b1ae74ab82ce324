/- models of functions and their walks -/
import Derived.Test.YtmfedgmmgehmgaaDoorBc
namespace Go.Proofs.YtmfedgmmgehmgaaDoor
open Go Go.RowKit Go.Eng
abbrev kLCodeLists38_0 (b : Nat) (x0 : List UInt8) (x1 : Int) (x2 : Int) (x3 : Int) (x4 : Int) (x5 : Int) (x6 : Int) (x7 : Int) (x8 : List UInt8) : List Bl := [(b, 38, #[vS x0, vI x1, vI x2, vI x3, vI x4, vI x5, vI x6, vI x7, vS x8])]
abbrev kLCodeLists47_1 (b : Nat) (x0 : Int) (x1 : BitVec 64) (x2 : BitVec 64) : List Bl := [(b, 47, #[vI x0, U x1, U x2])]
set_option maxRecDepth 100000 in
theorem eqst_25_9999  {c : Addr → Option Value} (x0 y0 : Int) (x1 y1 : BitVec 128) : ev Tryd.prog c (Op.equalIn 9999 25 (.agg #[vI x0, U (hi x1), U (lo x1)]) (.agg #[vI y0, U (hi y1), U (lo y1)])) = some ((x0 == y0) && (x1 == y1)) := by
 have h := ev_eqStruct (P := Tryd.prog) (c := c) 9998 (t := 25) #[vI x0, U (hi x1), U (lo x1)] #[vI y0, U (hi y1), U (lo y1)] rfl si_25 (fun f => if f.offset = 0 then (x0 == y0) else if f.offset = 1 then (((hi x1).toNat : Int) == ((hi y1).toNat : Int)) else (((lo x1).toNat : Int) == ((lo y1).toNat : Int)))
   (fun f hf => by
     simp only [List.mem_cons, List.not_mem_nil, or_false] at hf
     rcases hf with rfl | rfl | rfl
     · exact ⟨by decide, _, _, ev_partS (P := Tryd.prog) (t := 3) rfl (by intro fs h; cases h) (by intro n e h; cases h) _ _ rfl, ev_partS (P := Tryd.prog) (t := 3) rfl (by intro fs h; cases h) (by intro n e h; cases h) _ _ rfl, ev_eqInt _ _ _ rfl⟩
     · exact ⟨by decide, _, _, ev_partS (P := Tryd.prog) (t := 23) rfl (by intro fs h; cases h) (by intro n e h; cases h) _ _ rfl, ev_partS (P := Tryd.prog) (t := 23) rfl (by intro fs h; cases h) (by intro n e h; cases h) _ _ rfl, ev_eqInt _ _ _ rfl⟩
     · exact ⟨by decide, _, _, ev_partS (P := Tryd.prog) (t := 23) rfl (by intro fs h; cases h) (by intro n e h; cases h) _ _ rfl, ev_partS (P := Tryd.prog) (t := 23) rfl (by intro fs h; cases h) (by intro n e h; cases h) _ _ rfl, ev_eqInt _ _ _ rfl⟩)
 rw [← word_beq x1 y1]; rw [show Op.equalIn 9999 25 (.agg #[vI x0, U (hi x1), U (lo x1)]) (.agg #[vI y0, U (hi y1), U (lo y1)]) = Op.equalIn (9998 + 1) 25 (.agg #[vI x0, U (hi x1), U (lo x1)]) (.agg #[vI y0, U (hi y1), U (lo y1)]) from rfl, h]
 first | (simp; done) | simp [Bool.and_assoc]
set_option maxRecDepth 100000 in
theorem eqst_47  {c : Addr → Option Value} (x0 y0 : Int) (x1 y1 : BitVec 128) : ev Tryd.prog c (Op.equal 47 (.agg #[vI x0, U (hi x1), U (lo x1)]) (.agg #[vI y0, U (hi y1), U (lo y1)])) = some ((x0 == y0) && (x1 == y1)) := by
 have h := ev_eqStruct (P := Tryd.prog) (c := c) 9999 (t := 47) #[vI x0, U (hi x1), U (lo x1)] #[vI y0, U (hi y1), U (lo y1)] rfl si_47 (fun f => ((x0 == y0) && (x1 == y1)))
   (fun f hf => by
     simp only [List.mem_cons, List.not_mem_nil, or_false] at hf
     rcases hf with rfl
     · exact ⟨by decide, _, _, ev_partA (P := Tryd.prog) (t := 25) (vs := #[vI x0, U (hi x1), U (lo x1)]) rfl rfl _ _ rfl, ev_partA (P := Tryd.prog) (t := 25) (vs := #[vI y0, U (hi y1), U (lo y1)]) rfl rfl _ _ rfl, eqst_25_9999 x0 y0 x1 y1⟩)
 rw [show Op.equal 47 (.agg #[vI x0, U (hi x1), U (lo x1)]) (.agg #[vI y0, U (hi y1), U (lo y1)]) = Op.equalIn (9999 + 1) 47 (.agg #[vI x0, U (hi x1), U (lo x1)]) (.agg #[vI y0, U (hi y1), U (lo y1)]) from rfl, h]
 first | (simp; done) | simp [Bool.and_assoc]
def shunterlaw09_CodeLists_k17 (N : Nat) (l' : List (Int × Int × Int × Int × BitVec 128)) (r9 : (List Sum31) × Int × Int) (i8_ : Int) (rec_shunterlaw09_CodeLists_l9 : Int → Option Bool) (r59 : List (List UInt8 × Int × Int × Int × Int × Int × Int × Int × List UInt8)) : Option Bool := ck (0 ≤ i8_ ∧ i8_ < ((r9.1).length : Int)) (Sum31.on ((r9.1)[(i8_).toNat]!) (if false ≠ ((((r59)[(((l')[(i8_).toNat]!).1).toNat]!).2.2.2.2.2.2.2.2) == ([80, 117, 115, 104] : List UInt8)) then some false else ck (-9223372036854775808 ≤ (i8_ + 1) ∧ (i8_ + 1) ≤ 9223372036854775807) (rec_shunterlaw09_CodeLists_l9 (i8_ + 1))) (fun x70_0 x71_1 => ck (0 ≤ i8_ ∧ i8_ < ((r9.1).length : Int)) ((code_Only_m N ((r9.1)[(i8_).toNat]!)).bind fun r94 => if ((r94.1 == x70_0) && (r94.2 == x71_1)) = true then if true ≠ ((((r59)[(((l')[(i8_).toNat]!).1).toNat]!).2.2.2.2.2.2.2.2) == ([80, 117, 115, 104] : List UInt8)) then some false else ck (-9223372036854775808 ≤ (i8_ + 1) ∧ (i8_ + 1) ≤ 9223372036854775807) (rec_shunterlaw09_CodeLists_l9 (i8_ + 1)) else some false)) (fun _ _ _ => if false ≠ ((((r59)[(((l')[(i8_).toNat]!).1).toNat]!).2.2.2.2.2.2.2.2) == ([80, 117, 115, 104] : List UInt8)) then some false else ck (-9223372036854775808 ≤ (i8_ + 1) ∧ (i8_ + 1) ≤ 9223372036854775807) (rec_shunterlaw09_CodeLists_l9 (i8_ + 1))) (fun _ _ => if false ≠ ((((r59)[(((l')[(i8_).toNat]!).1).toNat]!).2.2.2.2.2.2.2.2) == ([80, 117, 115, 104] : List UInt8)) then some false else ck (-9223372036854775808 ≤ (i8_ + 1) ∧ (i8_ + 1) ≤ 9223372036854775807) (rec_shunterlaw09_CodeLists_l9 (i8_ + 1))) (fun _ _ => if false ≠ ((((r59)[(((l')[(i8_).toNat]!).1).toNat]!).2.2.2.2.2.2.2.2) == ([80, 117, 115, 104] : List UInt8)) then some false else ck (-9223372036854775808 ≤ (i8_ + 1) ∧ (i8_ + 1) ≤ 9223372036854775807) (rec_shunterlaw09_CodeLists_l9 (i8_ + 1))) (fun _ _ => if false ≠ ((((r59)[(((l')[(i8_).toNat]!).1).toNat]!).2.2.2.2.2.2.2.2) == ([80, 117, 115, 104] : List UInt8)) then some false else ck (-9223372036854775808 ≤ (i8_ + 1) ∧ (i8_ + 1) ≤ 9223372036854775807) (rec_shunterlaw09_CodeLists_l9 (i8_ + 1))) (fun _ _ _ => if false ≠ ((((r59)[(((l')[(i8_).toNat]!).1).toNat]!).2.2.2.2.2.2.2.2) == ([80, 117, 115, 104] : List UInt8)) then some false else ck (-9223372036854775808 ≤ (i8_ + 1) ∧ (i8_ + 1) ≤ 9223372036854775807) (rec_shunterlaw09_CodeLists_l9 (i8_ + 1))) (fun _ _ => if false ≠ ((((r59)[(((l')[(i8_).toNat]!).1).toNat]!).2.2.2.2.2.2.2.2) == ([80, 117, 115, 104] : List UInt8)) then some false else ck (-9223372036854775808 ≤ (i8_ + 1) ∧ (i8_ + 1) ≤ 9223372036854775807) (rec_shunterlaw09_CodeLists_l9 (i8_ + 1))) (fun _ => if false ≠ ((((r59)[(((l')[(i8_).toNat]!).1).toNat]!).2.2.2.2.2.2.2.2) == ([80, 117, 115, 104] : List UInt8)) then some false else ck (-9223372036854775808 ≤ (i8_ + 1) ∧ (i8_ + 1) ≤ 9223372036854775807) (rec_shunterlaw09_CodeLists_l9 (i8_ + 1))) (fun _ _ => if false ≠ ((((r59)[(((l')[(i8_).toNat]!).1).toNat]!).2.2.2.2.2.2.2.2) == ([80, 117, 115, 104] : List UInt8)) then some false else ck (-9223372036854775808 ≤ (i8_ + 1) ∧ (i8_ + 1) ≤ 9223372036854775807) (rec_shunterlaw09_CodeLists_l9 (i8_ + 1))) (fun _ _ => if false ≠ ((((r59)[(((l')[(i8_).toNat]!).1).toNat]!).2.2.2.2.2.2.2.2) == ([80, 117, 115, 104] : List UInt8)) then some false else ck (-9223372036854775808 ≤ (i8_ + 1) ∧ (i8_ + 1) ≤ 9223372036854775807) (rec_shunterlaw09_CodeLists_l9 (i8_ + 1))) (if false ≠ ((((r59)[(((l')[(i8_).toNat]!).1).toNat]!).2.2.2.2.2.2.2.2) == ([80, 117, 115, 104] : List UInt8)) then some false else ck (-9223372036854775808 ≤ (i8_ + 1) ∧ (i8_ + 1) ≤ 9223372036854775807) (rec_shunterlaw09_CodeLists_l9 (i8_ + 1))))
def shunterlaw09_CodeLists_k16 (N : Nat) (l' : List (Int × Int × Int × Int × BitVec 128)) (r9 : (List Sum31) × Int × Int) (i8_ : Int) (rec_shunterlaw09_CodeLists_l9 : Int → Option Bool) (r52 : Int × Bool) (r56 : Int × Int) (r59 : List (List UInt8 × Int × Int × Int × Int × Int × Int × Int × List UInt8)) (goes10_ : Bool) (place15_ : Int) : Option Bool := if r52.2 ≠ goes10_ then some false else if (r52.1 : Int) ≠ place15_ then some false else if (r56.1 : Int) ≠ ((r59)[(((l')[(i8_).toNat]!).1).toNat]!).2.1 then some false else if (r56.2 : Int) ≠ ((r59)[(((l')[(i8_).toNat]!).1).toNat]!).2.2.1 then some false else shunterlaw09_CodeLists_k17 N l' r9 i8_ rec_shunterlaw09_CodeLists_l9 r59 
def shunterlaw09_CodeLists_k14 (N : Nat) (l' : List (Int × Int × Int × Int × BitVec 128)) (r9 : (List Sum31) × Int × Int) (i8_ : Int) (rec_shunterlaw09_CodeLists_l9 : Int → Option Bool) (r52 : Int × Bool) (r56 : Int × Int) (r59 : List (List UInt8 × Int × Int × Int × Int × Int × Int × Int × List UInt8)) (goes10_ : Bool) (place13_ : Int) : Option Bool := if (((r59)[(((l')[(i8_).toNat]!).1).toNat]!).2.2.2.2.2.2.2.2) = ([71, 111, 110, 101] : List UInt8) then ck (0 ≤ i8_ ∧ i8_ < ((l').length : Int)) (shunterlaw09_CodeLists_k16 N l' r9 i8_ rec_shunterlaw09_CodeLists_l9 r52 r56 r59 goes10_ (((l')[(i8_).toNat]!).2.2.1)) else shunterlaw09_CodeLists_k16 N l' r9 i8_ rec_shunterlaw09_CodeLists_l9 r52 r56 r59 goes10_ place13_
def shunterlaw09_CodeLists_k12 (N : Nat) (l' : List (Int × Int × Int × Int × BitVec 128)) (r9 : (List Sum31) × Int × Int) (i8_ : Int) (rec_shunterlaw09_CodeLists_l9 : Int → Option Bool) (r52 : Int × Bool) (r56 : Int × Int) (r59 : List (List UInt8 × Int × Int × Int × Int × Int × Int × Int × List UInt8)) (goes10_ : Bool) (place11_ : Int) : Option Bool := if (((r59)[(((l')[(i8_).toNat]!).1).toNat]!).2.2.2.2.2.2.2.2) = ([74, 117, 109, 112] : List UInt8) then ck (0 ≤ i8_ ∧ i8_ < ((l').length : Int)) (shunterlaw09_CodeLists_k14 N l' r9 i8_ rec_shunterlaw09_CodeLists_l9 r52 r56 r59 goes10_ (((l')[(i8_).toNat]!).2.1)) else shunterlaw09_CodeLists_k14 N l' r9 i8_ rec_shunterlaw09_CodeLists_l9 r52 r56 r59 goes10_ place11_
def shunterlaw09_CodeLists_l9 (N : Nat) (l' : List (Int × Int × Int × Int × BitVec 128)) (r9 : (List Sum31) × Int × Int) : Nat → Int → Option Bool
  | 0, _ => none
  | n45 + 1, i8_ => if i8_ < ((l').length : Int) then ck (0 ≤ i8_ ∧ i8_ < ((r9.1).length : Int)) ((code_Target_m N ((r9.1)[(i8_).toNat]!)).bind fun r52 => ck (0 ≤ i8_ ∧ i8_ < ((l').length : Int)) ((code_Effect_m N (((l')[(i8_).toNat]!).1)).bind fun r56 => (shunterref09_Table_m N ).bind fun r59 => ck (0 ≤ i8_ ∧ i8_ < ((l').length : Int)) (ck (0 ≤ ((l')[(i8_).toNat]!).1 ∧ ((l')[(i8_).toNat]!).1 < ((r59).length : Int)) (if (((r59)[(((l')[(i8_).toNat]!).1).toNat]!).2.2.2.2.2.2.2.2) = ([74, 117, 109, 112] : List UInt8) then shunterlaw09_CodeLists_k12 N l' r9 i8_ (shunterlaw09_CodeLists_l9 N l' r9 n45) r52 r56 r59 true 0 else shunterlaw09_CodeLists_k12 N l' r9 i8_ (shunterlaw09_CodeLists_l9 N l' r9 n45) r52 r56 r59 ((((r59)[(((l')[(i8_).toNat]!).1).toNat]!).2.2.2.2.2.2.2.2) == ([71, 111, 110, 101] : List UInt8)) 0)))) else (shunterlaw09_lives_m N ).bind fun r113 => some r113
def shunterlaw09_CodeLists_k7 (N : Nat) (l' : List (Int × Int × Int × Int × BitVec 128)) (r9 : (List Sum31) × Int × Int) : Option Bool := if (r9.2.2 : Int) ≠ 0 then if (((r9.1).length : Int) : Int) = 0 then (shunterlaw09_lives_m N ).bind fun r37 => some r37 else some false else if (((r9.1).length : Int) : Int) ≠ ((l').length : Int) then some false else shunterlaw09_CodeLists_l9 N l' r9 N 0
def shunterlaw09_CodeLists_l6 (N : Nat) (l' : List (Int × Int × Int × Int × BitVec 128)) (r9 : (List Sum31) × Int × Int) : Nat → Int → Int → Int → Option Bool
  | 0, _, _, _ => none
  | n18 + 1, at3_, want4_, i5_ => if i5_ ≥ 0 then ck (0 ≤ i5_ ∧ i5_ < ((l').length : Int)) ((shunterref09_May_m N (((l')[(i5_).toNat]!).1) (((l')[(i5_).toNat]!).2.1) (((l')[(i5_).toNat]!).2.2.1) (((l')[(i5_).toNat]!).2.2.2.1) (((l')[(i5_).toNat]!).2.2.2.2)).bind fun r25 => if (r25 : Int) ≠ 0 then ck (-9223372036854775808 ≤ (i5_ - 1) ∧ (i5_ - 1) ≤ 9223372036854775807) ((shunterlaw09_CodeLists_l6 N l' r9 n18) i5_ r25 (i5_ - 1)) else ck (-9223372036854775808 ≤ (i5_ - 1) ∧ (i5_ - 1) ≤ 9223372036854775807) ((shunterlaw09_CodeLists_l6 N l' r9 n18) at3_ want4_ (i5_ - 1))) else if (r9.2.2 : Int) ≠ want4_ then some false else if (r9.2.1 : Int) ≠ at3_ then some false else shunterlaw09_CodeLists_k7 N l' r9 
def shunterlaw09_CodeLists_k2 (N : Nat) (l' : List (Int × Int × Int × Int × BitVec 128)) (r9 : (List Sum31) × Int × Int) (want1_ : Int) : Option Bool := ck ((-9223372036854775808 ≤ (min ((l').length : Int) 64 - 1) ∧ (min ((l').length : Int) 64 - 1) ≤ 9223372036854775807)) (shunterlaw09_CodeLists_l6 N l' r9 N (min ((l').length : Int) 64) want1_ (min ((l').length : Int) 64 - 1))
def shunterlaw09_CodeLists_m (N : Nat) (l' : List (Int × Int × Int × Int × BitVec 128)) : Option Bool := if (((l').length : Int) : Int) > 200 then (shunterlaw09_lives_m N ).bind fun r6 => some r6 else (code_All_m N l').bind fun r9 => if (((l').length : Int) : Int) > 64 then shunterlaw09_CodeLists_k2 N l' r9 2 else shunterlaw09_CodeLists_k2 N l' r9 0
set_option maxRecDepth 100000 in
set_option maxHeartbeats 8000000 in
theorem shunterlaw09_CodeLists_g (N : Nat) (l' : List (Int × Int × Int × Int × BitVec 128)) (r) (hM : shunterlaw09_CodeLists_m N l' = some r) (ro : Addr → Option Value) (l'v : Value) (hl' : Rd enc_27 ro l'v l') : DoesI Tryd.prog 6 #[l'v] MemI ro [] (pV (vB r)) := by
 unfold shunterlaw09_CodeLists_m at hM
 refine doesI_of_A follows Tryd.func6 rfl 175 rfl (upd (fun _ => undef) 0 l'v) (by funext k; match k with | 0 => rfl | k + 1 => rfl) memI_kept (fun base0_ => ?_)
 refine A_sr <| r_V (vB false) rfl <| lx_nil <| A_seq fun K2 hK2 => A_sr <| r_V l'v rfl <| r_W (vI ((l').length : Int)) rfl (ev_lenSl rfl rfl rfl (Rd.shp hl')) <| r_V (vB (decide ((((l').length : Int) : Int) > 200))) rfl <| lx_nil <| A_cond (decide ((((l').length : Int) : Int) > 200)) rfl (fun hc4 => ?_) (fun hc4 => ?_)
 ·replace hM := ifp (of_decide_eq_true hc4) hM
  refine A_sc [(some 23, false)] (conG Tryd.prog [(23, fun _ _ v_ L_ U_ => ∀ u0_, shunterlaw09_lives_m N  = some u0_ → (pV (vB u0_)) v_ L_ U_)]) ?_
  obtain ⟨r6, hr7, hM⟩ := bind_sm hM
  refine r_gv (vB r6) 11 _ rfl rfl rfl (ev_callF rfl call_11 rfl) (fun own_ nw_ hs_ => shunterlaw09_lives_g N  _ hr7 hs_.view ) (conE hr7) <| r_V (vB r6) rfl <| lx_nil ?_
  obtain rfl := Option.some.inj hM
  refine A_ret (fun hn => endsV (v0 := vB r6) rfl (res1 rfl))
 replace hM := ifn (of_decide_eq_false hc4) hM
 refine A_skip <| hK2 _ _ ?_; try clear hK2 K2
 refine A_sc [(some 26, false)] (conG Tryd.prog [(26, fun _ _ v_ L_ U_ => ∀ u0_, code_All_m N l' = some u0_ → (p1 (fun s_ => vT #[s_, vI u0_.2.1, vI u0_.2.2]) 31 encSum31 u0_.1) v_ L_ U_)]) <| r_V l'v rfl ?_
 obtain ⟨r9, hr10, hM⟩ := bind_sm hM
 refine r_g1 (Ls := []) (fun s11 => vT #[s11, vI r9.2.1, vI r9.2.2]) 31 encSum31 r9.1 15 _ rfl rfl rfl (ev_callF rfl call_15 rfl) (fun own_ nw_ hs_ => (Does.inv (code_All_g N l' _ hr10 hs_.view l'v ((rd_ro hl') own_ nw_ hs_)) _)) (conE hr10) (fun s11 S12 H13 => ?_)
 refine r_R [vT #[s11, vI r9.2.1, vI r9.2.2], s11, vI r9.2.1, vI r9.2.2, s11, vI r9.2.1, vI r9.2.2] rfl <| lx_nil <| A_sr <| r_V l'v rfl <| r_W (vI ((l').length : Int)) rfl (ev_lenSl rfl rfl rfl (Rd.shp hl')) <| r_W (vI (min ((l').length : Int) 64)) rfl (ev_min rfl rfl) <| r_R [vI (min ((l').length : Int) 64), vI 0] rfl <| lx_nil <| A_cut (fun tt ll => ∃ (want1_ : Int), (shunterlaw09_CodeLists_k2 N l' r9 want1_ = some r) ∧ Is [(0, l'v), (3, s11), (4, vI r9.2.1), (5, vI r9.2.2), (6, vI (min ((l').length : Int) 64)), (7, vI want1_)] (List.flatten [S12]) tt ll) ?_ ?_
 ·refine A_sr <| r_V l'v rfl <| r_W (vI ((l').length : Int)) rfl (ev_lenSl rfl rfl rfl (Rd.shp hl')) <| r_V (vB (decide ((((l').length : Int) : Int) > 64))) rfl <| lx_nil <| A_cond (decide ((((l').length : Int) : Int) > 64)) rfl (fun hc121 => ?_) (fun hc121 => ?_)
  ·replace hM := ifp (of_decide_eq_true hc121) hM
   refine A_reg <| r_V (vI 2) rfl <| lx_nil <| fg _ (Sub.pick [S12] [0] rfl) ?_
   exact ⟨2, hM, is_mk rfl rfl⟩
  replace hM := ifn (of_decide_eq_false hc121) hM
  refine A_skip <| fg _ (Sub.pick [S12] [0] rfl) ?_
  exact ⟨0, hM, is_mk rfl rfl⟩
 clear hM; rintro t l ⟨want1_, hM, ⟨T, rfl⟩, rfl⟩
 unfold shunterlaw09_CodeLists_k2 at hM
 refine A_seq fun K15 hK15 => A_sr <| r_V l'v rfl <| r_W (vI ((l').length : Int)) rfl (ev_lenSl rfl rfl rfl (Rd.shp hl')) <| r_W (vI (min ((l').length : Int) 64)) rfl (ev_min rfl rfl) ?_
 obtain ⟨ck17, hM⟩ := ck_some hM
 refine r_X (vI (min ((l').length : Int) 64 - 1)) rfl (wi64 rfl ck17.1 ck17.2) rfl <| r_V (vI (min ((l').length : Int) 64 - 1)) rfl <| lx_nil <| A_block <| A_forget _ (Sub.pick [S12] [0] rfl) <| A_loop (fun tt ll nn => ∃ (n18 : Nat) (at3_ : Int) (want4_ : Int) (i5_ : Int), (shunterlaw09_CodeLists_l6 N l' r9 n18 at3_ want4_ i5_ = some r) ∧ Is [(0, l'v), (3, s11), (4, vI r9.2.1), (5, vI r9.2.2), (6, vI at3_), (7, vI want4_), (8, vI i5_)] (List.flatten [S12]) tt ll ∧ nn = n18 + 1) (N + 1) ?_ ?_
 ·exact ⟨N, min ((l').length : Int) 64, want1_, (min ((l').length : Int) 64 - 1), hM, is_mk rfl rfl, rfl⟩
 clear hM; rintro t l _ ⟨n18, at3_, want4_, i5_, hM, ⟨⟨T, rfl⟩, rfl⟩, rfl⟩
 rcases n18 with _ | n18
 ·exact absurd hM (by simp [shunterlaw09_CodeLists_l6])
 rw [shunterlaw09_CodeLists_l6] at hM
 refine A_seq fun K19 hK19 => A_sr <| r_R [vI i5_, vB (decide (i5_ ≥ 0))] rfl <| lx_nil <| A_cond (decide (i5_ ≥ 0)) rfl (fun hc21 => ?_) (fun hc21 => ?_)
 ·replace hM := ifp (of_decide_eq_true hc21) hM
  refine A_skip <| hK19 _ _ ?_; try clear hK19 K19
  refine A_seq fun K22 hK22 => A_block <| A_sr <| r_R [l'v, vI i5_] rfl ?_
  obtain ⟨ck24, hM⟩ := ck_some hM
  refine r_W (elA l'v ((i5_).toNat * 6)) rfl (ev_v (ev_idxSl rfl rfl rfl (Rd.shp hl') ck24)) <| r_le (vA #[vI (((l')[(i5_).toNat]!).1), vI (((l')[(i5_).toNat]!).2.1), vI (((l')[(i5_).toNat]!).2.2.1), vI (((l')[(i5_).toNat]!).2.2.2.1), U (hi (((l')[(i5_).toNat]!).2.2.2.2)), U (lo (((l')[(i5_).toNat]!).2.2.2.2))]) (En := enc_27) ((l')[(i5_).toNat]!) ((i5_).toNat) 0 rfl rfl (rd_ro hl') (get_of ck24) rfl ?_
  obtain ⟨r25, hr26, hM⟩ := bind_sm hM
  refine r_c (vI r25) rfl _ _ (ev_callF rfl call_8 rfl) (shunterref09_May_g N (((l')[(i5_).toNat]!).1) (((l')[(i5_).toNat]!).2.1) (((l')[(i5_).toNat]!).2.2.1) (((l')[(i5_).toNat]!).2.2.2.1) (((l')[(i5_).toNat]!).2.2.2.2) _ hr26) <| r_V (vI r25) rfl <| lx_nil <| A_sr <| r_R [vI r25, vB (r25 != 0)] rfl <| lx_nil <| A_cond (r25 != 0) rfl (fun hc28 => ?_) (fun hc28 => ?_)
  ·replace hM := ifp (bne_iff_ne.1 hc28) hM
   refine A_sr <| r_R [vI i5_, vI i5_] rfl <| lx_nil <| A_reg <| r_R [vI r25, vI r25] rfl <| lx_nil <| hK22 _ _ ?_; try clear hK22 K22
   refine A_reg <| r_V (vI i5_) rfl ?_
   obtain ⟨ck30, hM⟩ := ck_some hM
   refine r_X (vI (i5_ - 1)) rfl (wi64 rfl ck30.1 ck30.2) rfl <| r_V (vI (i5_ - 1)) rfl <| lx_nil <| fg _ (Sub.pick [S12] [0] rfl) ?_
   exact ⟨n18 + 1, by omega, n18, i5_, r25, (i5_ - 1), hM, is_mk rfl rfl, rfl⟩
  replace hM := ifn (bne_f hc28) hM
  refine A_skip <| hK22 _ _ ?_; try clear hK22 K22
  refine A_reg <| r_V (vI i5_) rfl ?_
  obtain ⟨ck31, hM⟩ := ck_some hM
  refine r_X (vI (i5_ - 1)) rfl (wi64 rfl ck31.1 ck31.2) rfl <| r_V (vI (i5_ - 1)) rfl <| lx_nil <| fg _ (Sub.pick [S12] [0] rfl) ?_
  exact ⟨n18 + 1, by omega, n18, at3_, want4_, (i5_ - 1), hM, is_mk rfl rfl, rfl⟩
 replace hM := ifn (of_decide_eq_false hc21) hM
 refine A_exit <| hK15 _ _ ?_; try clear hK15 K15
 refine A_cut (fun tt ll => (shunterlaw09_CodeLists_k7 N l' r9  = some r) ∧ Is [(0, l'v), (3, s11), (5, vI r9.2.2)] (List.flatten [S12]) tt ll) ?_ ?_
 ·refine A_seq fun K115 hK115 => A_reg <| r_R [vI r9.2.2, vI want4_, vB (r9.2.2 != want4_), vB (r9.2.2 != want4_)] rfl ?_
  rcases hg116 : (r9.2.2 != want4_) with _ | _
  ·replace hM := ifn (bne_f hg116) hM
   refine r_R [vI r9.2.1, vI at3_, vB (r9.2.1 != at3_), vB (r9.2.1 != at3_)] rfl <| lx_nil <| hK115 _ _ ?_; try clear hK115 K115
   refine A_cond (r9.2.1 != at3_) rfl (fun hc117 => ?_) (fun hc117 => ?_)
   ·replace hM := ifp (bne_iff_ne.1 hc117) hM
    refine A_sr <| r_V (vB false) rfl <| lx_nil ?_
    obtain rfl := Option.some.inj hM
    refine A_ret (fun hn => endsV (v0 := vB false) rfl (res1 rfl))
   replace hM := ifn (bne_f hc117) hM
   refine A_skip <| fg _ (Sub.pick [S12] [0] rfl) ?_
   exact ⟨hM, is_mk rfl rfl⟩
  replace hM := ifp (bne_iff_ne.1 hg116) hM
  refine r_R [none, none, none, vB true] rfl <| lx_nil <| hK115 _ _ ?_; try clear hK115 K115
  refine A_cond true rfl (fun _ => ?_) (fun h_ => nomatch h_)
  refine A_sr <| r_V (vB false) rfl <| lx_nil ?_
  obtain rfl := Option.some.inj hM
  refine A_ret (fun hn => endsV (v0 := vB false) rfl (res1 rfl))
 clear hM; rintro t l ⟨hM, ⟨T, rfl⟩, rfl⟩
 unfold shunterlaw09_CodeLists_k7 at hM
 refine A_seq fun K32 hK32 => A_sr <| r_R [vI r9.2.2, vB (r9.2.2 != 0)] rfl <| lx_nil <| A_cond (r9.2.2 != 0) rfl (fun hc34 => ?_) (fun hc34 => ?_)
 ·replace hM := ifp (bne_iff_ne.1 hc34) hM
  refine A_seq fun K35 hK35 => A_regC [(some 67, false)] (conG Tryd.prog [(67, fun _ _ v_ L_ U_ => ∀ u0_, shunterlaw09_lives_m N  = some u0_ → (pV (vB u0_)) v_ L_ U_)]) <| r_V s11 rfl <| r_W (vI ((r9.1).length : Int)) rfl (ev_lenSl rfl rfl rfl (Sl.shp H13)) <| r_R [vB (((((r9.1).length : Int) : Int) == 0)), vB (((((r9.1).length : Int) : Int) == 0))] rfl ?_
  rcases hg36 : (((((r9.1).length : Int) : Int) == 0)) with _ | _
  ·replace hM := ifn (ne_of_beq_false hg36) hM
   refine r_R [none, vB false, vB false] rfl <| lx_nil <| hK35 _ _ ?_; try clear hK35 K35
   obtain rfl := Option.some.inj hM
   refine A_ret (fun hn => endsV (v0 := vB false) rfl (res1 rfl))
  replace hM := ifp (eq_of_beq hg36) hM
  refine r_y rfl ?_
  obtain ⟨r37, hr38, hM⟩ := bind_sm hM
  refine r_gv (vB r37) 11 _ rfl rfl rfl (ev_callF rfl call_11 rfl) (fun own_ nw_ hs_ => shunterlaw09_lives_g N  _ hr38 hs_.view ) (conE hr38) <| r_R [vB r37, vB r37] rfl <| lx_nil <| hK35 _ _ ?_; try clear hK35 K35
  obtain rfl := Option.some.inj hM
  refine A_ret (fun hn => endsV (v0 := vB r37) rfl (res1 rfl))
 replace hM := ifn (bne_f hc34) hM
 refine A_skip <| hK32 _ _ ?_; try clear hK32 K32
 refine A_seq fun K39 hK39 => A_sr <| r_V s11 rfl <| r_W (vI ((r9.1).length : Int)) rfl (ev_lenSl rfl rfl rfl (Sl.shp H13)) <| r_V l'v rfl <| r_W (vI ((l').length : Int)) rfl (ev_lenSl rfl rfl rfl (Rd.shp hl')) <| r_V (vB (((((r9.1).length : Int) : Int) != ((l').length : Int)))) rfl <| lx_nil <| A_cond (((((r9.1).length : Int) : Int) != ((l').length : Int))) rfl (fun hc41 => ?_) (fun hc41 => ?_)
 ·replace hM := ifp (bne_iff_ne.1 hc41) hM
  refine A_sr <| r_V (vB false) rfl <| lx_nil ?_
  obtain rfl := Option.some.inj hM
  refine A_ret (fun hn => endsV (v0 := vB false) rfl (res1 rfl))
 replace hM := ifn (bne_f hc41) hM
 refine A_skip <| hK39 _ _ ?_; try clear hK39 K39
 refine A_seq fun K43 hK43 => A_sr <| r_V (vI 0) rfl <| lx_nil <| A_block <| A_forget _ (Sub.pick [S12] [0] rfl) <| A_loop (fun tt ll nn => ∃ (n45 : Nat) (i8_ : Int), (shunterlaw09_CodeLists_l9 N l' r9 n45 i8_ = some r) ∧ Is [(0, l'v), (3, s11), (10, vI i8_)] (List.flatten [S12]) tt ll ∧ nn = n45 + 1) (N + 1) ?_ ?_
 ·exact ⟨N, 0, hM, is_mk rfl rfl, rfl⟩
 clear hM; rintro t l _ ⟨n45, i8_, hM, ⟨⟨T, rfl⟩, rfl⟩, rfl⟩
 rcases n45 with _ | n45
 ·exact absurd hM (by simp [shunterlaw09_CodeLists_l9])
 rw [shunterlaw09_CodeLists_l9] at hM
 refine A_seq fun K46 hK46 => A_sr <| r_R [vI i8_, l'v] rfl <| r_W (vI ((l').length : Int)) rfl (ev_lenSl rfl rfl rfl (Rd.shp hl')) <| r_V (vB (decide (i8_ < ((l').length : Int)))) rfl <| lx_nil <| A_cond (decide (i8_ < ((l').length : Int))) rfl (fun hc48 => ?_) (fun hc48 => ?_)
 ·replace hM := ifp (of_decide_eq_true hc48) hM
  refine A_skip <| hK46 _ _ ?_; try clear hK46 K46
  refine A_seq fun K49 hK49 => A_block <| A_sr <| r_R [s11, vI i8_] rfl ?_
  obtain ⟨ck51, hM⟩ := ck_some hM
  refine r_W (elA s11 ((i8_).toNat * 1)) rfl (ev_v (ev_idxSl rfl rfl rfl (Sl.shp H13) ck51)) <| r_le (Sum31.v ((r9.1)[(i8_).toNat]!)) (En := encSum31) ((r9.1)[(i8_).toNat]!) ((i8_).toNat) 0 rfl rfl (rd_own H13 (mem_chunk (Ls := [S12]) (k := 0) rfl rfl)) (get_of ck51) rfl ?_
  obtain ⟨r52, hr53, hM⟩ := bind_sm hM
  refine r_c (vT #[vI r52.1, vB r52.2]) rfl _ _ (ev_callF rfl call_16 rfl) (code_Target_g N ((r9.1)[(i8_).toNat]!) _ hr53) <| r_R [vT #[vI r52.1, vB r52.2], vI r52.1, vB r52.2, vI r52.1, vB r52.2] rfl <| lx_nil <| A_sr <| r_R [l'v, vI i8_] rfl ?_
  obtain ⟨ck55, hM⟩ := ck_some hM
  refine r_W (elA l'v ((i8_).toNat * 6)) rfl (ev_v (ev_idxSl rfl rfl rfl (Rd.shp hl') ck55)) <| r_W (elA l'v ((i8_).toNat * 6 + 0)) rfl (ev_v (ev_fieldX rfl rfl rfl rfl rfl rfl (Rd.shp hl') (pos_of ck55))) <| r_le (vI (((l')[(i8_).toNat]!).1)) (En := enc_27) ((l')[(i8_).toNat]!) ((i8_).toNat) 0 rfl rfl (rd_ro hl') (get_of ck55) rfl ?_
  obtain ⟨r56, hr57, hM⟩ := bind_sm hM
  refine r_c (vT #[vI r56.1, vI r56.2]) rfl _ _ (ev_callF rfl call_17 rfl) (code_Effect_g N (((l')[(i8_).toNat]!).1) _ hr57) <| r_R [vT #[vI r56.1, vI r56.2], vI r56.1, vI r56.2, vI r56.1, vI r56.2] rfl <| lx_nil <| A_seq fun K58 hK58 => A_drawR [(some 97, false)] (conG Tryd.prog [(97, fun _ _ v_ L_ U_ => ∀ u0_, shunterref09_Table_m N  = some u0_ → (p1 (fun s_ => s_) 38 enc_38 u0_) v_ L_ U_)]) [] (by decide +kernel) (fun hn => sep_nil) ?_
  obtain ⟨r59, hr60, hM⟩ := bind_sm hM
  refine r_g1 (Ls := [S12]) (fun s61 => s61) 38 enc_38 r59 13 _ rfl rfl rfl (ev_callF rfl call_13 rfl) (fun own_ nw_ hs_ => (Does.inv (shunterref09_Table_g N  _ hr60 hs_.view ) _)) (conE hr60) (fun s61 S62 H63 => ?_)
  refine r_R [l'v, vI i8_] rfl ?_
  obtain ⟨ck64, hM⟩ := ck_some hM
  refine r_W (elA l'v ((i8_).toNat * 6)) rfl (ev_v (ev_idxSl rfl rfl rfl (Rd.shp hl') ck64)) <| r_W (elA l'v ((i8_).toNat * 6 + 0)) rfl (ev_v (ev_fieldX rfl rfl rfl rfl rfl rfl (Rd.shp hl') (pos_of ck64))) <| r_le (vI (((l')[(i8_).toNat]!).1)) (En := enc_27) ((l')[(i8_).toNat]!) ((i8_).toNat) 0 rfl rfl (rd_ro hl') (get_of ck64) rfl ?_
  obtain ⟨ck65, hM⟩ := ck_some hM
  refine r_W (elA s61 ((((l')[(i8_).toNat]!).1).toNat * 9)) rfl (ev_v (ev_idxSl rfl rfl rfl (Sl.shp H63) ck65)) ?_
  refine r_le (vA #[vS (((r59)[(((l')[(i8_).toNat]!).1).toNat]!).1), vI (((r59)[(((l')[(i8_).toNat]!).1).toNat]!).2.1), vI (((r59)[(((l')[(i8_).toNat]!).1).toNat]!).2.2.1), vI (((r59)[(((l')[(i8_).toNat]!).1).toNat]!).2.2.2.1), vI (((r59)[(((l')[(i8_).toNat]!).1).toNat]!).2.2.2.2.1), vI (((r59)[(((l')[(i8_).toNat]!).1).toNat]!).2.2.2.2.2.1), vI (((r59)[(((l')[(i8_).toNat]!).1).toNat]!).2.2.2.2.2.2.1), vI (((r59)[(((l')[(i8_).toNat]!).1).toNat]!).2.2.2.2.2.2.2.1), vS (((r59)[(((l')[(i8_).toNat]!).1).toNat]!).2.2.2.2.2.2.2.2)]) (En := enc_38) ((r59)[(((l')[(i8_).toNat]!).1).toNat]!) ((((l')[(i8_).toNat]!).1).toNat) 0 rfl rfl (rd_own H63 (mem_chunk (Ls := [S12, S62]) (k := 1) rfl rfl)) (get_of ck65) rfl ?_
  refine r_a (38, #[Value.string (⟨#[]⟩), vI 0, vI 0, vI 0, vI 0, vI 0, vI 0, vI 0, Value.string (⟨#[]⟩)]) rfl rfl rfl (fun b66 => ?_) (.inl rfl)
  refine r_sn (List.flatten [(kLCodeLists38_0 b66 (((r59)[(((l')[(i8_).toNat]!).1).toNat]!).1) (((r59)[(((l')[(i8_).toNat]!).1).toNat]!).2.1) (((r59)[(((l')[(i8_).toNat]!).1).toNat]!).2.2.1) (((r59)[(((l')[(i8_).toNat]!).1).toNat]!).2.2.2.1) (((r59)[(((l')[(i8_).toNat]!).1).toNat]!).2.2.2.2.1) (((r59)[(((l')[(i8_).toNat]!).1).toNat]!).2.2.2.2.2.1) (((r59)[(((l')[(i8_).toNat]!).1).toNat]!).2.2.2.2.2.2.1) (((r59)[(((l')[(i8_).toNat]!).1).toNat]!).2.2.2.2.2.2.2.1) (((r59)[(((l')[(i8_).toNat]!).1).toNat]!).2.2.2.2.2.2.2.2)), S12, S62]) 0 _ _ _ (#[Value.string (⟨#[]⟩), vI 0, vI 0, vI 0, vI 0, vI 0, vI 0, vI 0, Value.string (⟨#[]⟩)]) (#[vS (((r59)[(((l')[(i8_).toNat]!).1).toNat]!).1), vI (((r59)[(((l')[(i8_).toNat]!).1).toNat]!).2.1), vI (((r59)[(((l')[(i8_).toNat]!).1).toNat]!).2.2.1), vI (((r59)[(((l')[(i8_).toNat]!).1).toNat]!).2.2.2.1), vI (((r59)[(((l')[(i8_).toNat]!).1).toNat]!).2.2.2.2.1), vI (((r59)[(((l')[(i8_).toNat]!).1).toNat]!).2.2.2.2.2.1), vI (((r59)[(((l')[(i8_).toNat]!).1).toNat]!).2.2.2.2.2.2.1), vI (((r59)[(((l')[(i8_).toNat]!).1).toNat]!).2.2.2.2.2.2.2.1), vS (((r59)[(((l')[(i8_).toNat]!).1).toNat]!).2.2.2.2.2.2.2.2)]) (#[vS (((r59)[(((l')[(i8_).toNat]!).1).toNat]!).1), vI (((r59)[(((l')[(i8_).toNat]!).1).toNat]!).2.1), vI (((r59)[(((l')[(i8_).toNat]!).1).toNat]!).2.2.1), vI (((r59)[(((l')[(i8_).toNat]!).1).toNat]!).2.2.2.1), vI (((r59)[(((l')[(i8_).toNat]!).1).toNat]!).2.2.2.2.1), vI (((r59)[(((l')[(i8_).toNat]!).1).toNat]!).2.2.2.2.2.1), vI (((r59)[(((l')[(i8_).toNat]!).1).toNat]!).2.2.2.2.2.2.1), vI (((r59)[(((l')[(i8_).toNat]!).1).toNat]!).2.2.2.2.2.2.2.1), vS (((r59)[(((l')[(i8_).toNat]!).1).toNat]!).2.2.2.2.2.2.2.2)]) rfl rfl rfl rfl rfl (.of rfl rfl) rfl rfl ?_
  refine lx_nil <| hK58 _ _ ?_; try clear hK58 K58
  refine A_gen [(0, l'v), (3, s11), (10, vI i8_), (11, vI r52.1), (12, vB r52.2), (13, vI r56.1), (14, vI r56.2), (15, vP b66 0)] rfl (fun T => ?_)
  refine A_cut (fun tt ll => ∃ (goes10_ : Bool) (place11_ : Int), (shunterlaw09_CodeLists_k12 N l' r9 i8_ (shunterlaw09_CodeLists_l9 N l' r9 n45) r52 r56 r59 goes10_ place11_ = some r) ∧ Is [(0, l'v), (3, s11), (10, vI i8_), (11, vI r52.1), (12, vB r52.2), (13, vI r56.1), (14, vI r56.2), (15, vP b66 0), (16, vB goes10_), (17, vI place11_)] (List.flatten [(kLCodeLists38_0 b66 (((r59)[(((l')[(i8_).toNat]!).1).toNat]!).1) (((r59)[(((l')[(i8_).toNat]!).1).toNat]!).2.1) (((r59)[(((l')[(i8_).toNat]!).1).toNat]!).2.2.1) (((r59)[(((l')[(i8_).toNat]!).1).toNat]!).2.2.2.1) (((r59)[(((l')[(i8_).toNat]!).1).toNat]!).2.2.2.2.1) (((r59)[(((l')[(i8_).toNat]!).1).toNat]!).2.2.2.2.2.1) (((r59)[(((l')[(i8_).toNat]!).1).toNat]!).2.2.2.2.2.2.1) (((r59)[(((l')[(i8_).toNat]!).1).toNat]!).2.2.2.2.2.2.2.1) (((r59)[(((l')[(i8_).toNat]!).1).toNat]!).2.2.2.2.2.2.2.2)), S12]) tt ll) ?_ ?_
  ·refine A_reg <| r_V (vP b66 8) rfl <| r_l (vS (((r59)[(((l')[(i8_).toNat]!).1).toNat]!).2.2.2.2.2.2.2.2)) 0 _ _ _ _ rfl rfl rfl rfl rfl <| r_W (vB ((((r59)[(((l')[(i8_).toNat]!).1).toNat]!).2.2.2.2.2.2.2.2) == ([74, 117, 109, 112] : List UInt8))) rfl (ev_eqS rfl rfl) <| r_V (vB ((((r59)[(((l')[(i8_).toNat]!).1).toNat]!).2.2.2.2.2.2.2.2) == ([74, 117, 109, 112] : List UInt8))) rfl ?_
   rcases hg111 : ((((r59)[(((l')[(i8_).toNat]!).1).toNat]!).2.2.2.2.2.2.2.2) == ([74, 117, 109, 112] : List UInt8)) with _ | _
   ·replace hM := ifn (ne_of_beq_false hg111) hM
    refine r_R [vP b66 8] rfl <| r_y rfl <| r_l (vS (((r59)[(((l')[(i8_).toNat]!).1).toNat]!).2.2.2.2.2.2.2.2)) 0 _ _ _ _ rfl rfl rfl rfl rfl <| r_y rfl <| r_W (vB ((((r59)[(((l')[(i8_).toNat]!).1).toNat]!).2.2.2.2.2.2.2.2) == ([71, 111, 110, 101] : List UInt8))) rfl (ev_eqS rfl rfl) <| r_R [vB ((((r59)[(((l')[(i8_).toNat]!).1).toNat]!).2.2.2.2.2.2.2.2) == ([71, 111, 110, 101] : List UInt8)), vB ((((r59)[(((l')[(i8_).toNat]!).1).toNat]!).2.2.2.2.2.2.2.2) == ([71, 111, 110, 101] : List UInt8)), vI 0] rfl <| lx_nil ?_
    refine fg _ (Sub.pick [(kLCodeLists38_0 b66 (((r59)[(((l')[(i8_).toNat]!).1).toNat]!).1) (((r59)[(((l')[(i8_).toNat]!).1).toNat]!).2.1) (((r59)[(((l')[(i8_).toNat]!).1).toNat]!).2.2.1) (((r59)[(((l')[(i8_).toNat]!).1).toNat]!).2.2.2.1) (((r59)[(((l')[(i8_).toNat]!).1).toNat]!).2.2.2.2.1) (((r59)[(((l')[(i8_).toNat]!).1).toNat]!).2.2.2.2.2.1) (((r59)[(((l')[(i8_).toNat]!).1).toNat]!).2.2.2.2.2.2.1) (((r59)[(((l')[(i8_).toNat]!).1).toNat]!).2.2.2.2.2.2.2.1) (((r59)[(((l')[(i8_).toNat]!).1).toNat]!).2.2.2.2.2.2.2.2)), S12, S62] [0, 1] rfl) ?_
    exact ⟨(((r59)[(((l')[(i8_).toNat]!).1).toNat]!).2.2.2.2.2.2.2.2) == ([71, 111, 110, 101] : List UInt8), 0, hM, is_mk (by first | rfl | (simp only [hg111]; done) | (simp only [hg111]; rfl) | (simp only [app_hl]; rfl)) rfl⟩
   replace hM := ifp (eq_of_beq hg111) hM
   refine r_R [none, none, none, vB true, vB true, vI 0] rfl <| lx_nil <| fg _ (Sub.pick [(kLCodeLists38_0 b66 (((r59)[(((l')[(i8_).toNat]!).1).toNat]!).1) (((r59)[(((l')[(i8_).toNat]!).1).toNat]!).2.1) (((r59)[(((l')[(i8_).toNat]!).1).toNat]!).2.2.1) (((r59)[(((l')[(i8_).toNat]!).1).toNat]!).2.2.2.1) (((r59)[(((l')[(i8_).toNat]!).1).toNat]!).2.2.2.2.1) (((r59)[(((l')[(i8_).toNat]!).1).toNat]!).2.2.2.2.2.1) (((r59)[(((l')[(i8_).toNat]!).1).toNat]!).2.2.2.2.2.2.1) (((r59)[(((l')[(i8_).toNat]!).1).toNat]!).2.2.2.2.2.2.2.1) (((r59)[(((l')[(i8_).toNat]!).1).toNat]!).2.2.2.2.2.2.2.2)), S12, S62] [0, 1] rfl) ?_
   exact ⟨true, 0, hM, is_mk (by first | rfl | (simp only [hg111]; done) | (simp only [hg111]; rfl) | (simp only [app_hl]; rfl)) rfl⟩
  clear hM; rintro t l ⟨goes10_, place11_, hM, ⟨T, rfl⟩, rfl⟩
  unfold shunterlaw09_CodeLists_k12 at hM
  refine A_cut (fun tt ll => ∃ (place13_ : Int), (shunterlaw09_CodeLists_k14 N l' r9 i8_ (shunterlaw09_CodeLists_l9 N l' r9 n45) r52 r56 r59 goes10_ place13_ = some r) ∧ Is [(0, l'v), (3, s11), (10, vI i8_), (11, vI r52.1), (12, vB r52.2), (13, vI r56.1), (14, vI r56.2), (15, vP b66 0), (16, vB goes10_), (17, vI place13_)] (List.flatten [(kLCodeLists38_0 b66 (((r59)[(((l')[(i8_).toNat]!).1).toNat]!).1) (((r59)[(((l')[(i8_).toNat]!).1).toNat]!).2.1) (((r59)[(((l')[(i8_).toNat]!).1).toNat]!).2.2.1) (((r59)[(((l')[(i8_).toNat]!).1).toNat]!).2.2.2.1) (((r59)[(((l')[(i8_).toNat]!).1).toNat]!).2.2.2.2.1) (((r59)[(((l')[(i8_).toNat]!).1).toNat]!).2.2.2.2.2.1) (((r59)[(((l')[(i8_).toNat]!).1).toNat]!).2.2.2.2.2.2.1) (((r59)[(((l')[(i8_).toNat]!).1).toNat]!).2.2.2.2.2.2.2.1) (((r59)[(((l')[(i8_).toNat]!).1).toNat]!).2.2.2.2.2.2.2.2)), S12]) tt ll) ?_ ?_
  ·refine A_sr <| r_V (vP b66 8) rfl <| r_l (vS (((r59)[(((l')[(i8_).toNat]!).1).toNat]!).2.2.2.2.2.2.2.2)) 0 _ _ _ _ rfl rfl rfl rfl rfl <| r_W (vB ((((r59)[(((l')[(i8_).toNat]!).1).toNat]!).2.2.2.2.2.2.2.2) == ([74, 117, 109, 112] : List UInt8))) rfl (ev_eqS rfl rfl) <| lx_nil <| A_cond ((((r59)[(((l')[(i8_).toNat]!).1).toNat]!).2.2.2.2.2.2.2.2) == ([74, 117, 109, 112] : List UInt8)) rfl (fun hc109 => ?_) (fun hc109 => ?_)
   ·replace hM := ifp (eq_of_beq hc109) hM
    refine A_reg <| r_R [l'v, vI i8_] rfl ?_
    obtain ⟨ck110, hM⟩ := ck_some hM
    refine r_W (elA l'v ((i8_).toNat * 6)) rfl (ev_v (ev_idxSl rfl rfl rfl (Rd.shp hl') ck110)) <| r_W (elA l'v ((i8_).toNat * 6 + 1)) rfl (ev_v (ev_fieldX rfl rfl rfl rfl rfl rfl (Rd.shp hl') (pos_of ck110))) <| r_le (vI (((l')[(i8_).toNat]!).2.1)) (En := enc_27) ((l')[(i8_).toNat]!) ((i8_).toNat) 1 rfl rfl (rd_ro hl') (get_of ck110) rfl <| r_V (vI (((l')[(i8_).toNat]!).2.1)) rfl <| lx_nil ?_
    refine fg _ (Sub.pick [(kLCodeLists38_0 b66 (((r59)[(((l')[(i8_).toNat]!).1).toNat]!).1) (((r59)[(((l')[(i8_).toNat]!).1).toNat]!).2.1) (((r59)[(((l')[(i8_).toNat]!).1).toNat]!).2.2.1) (((r59)[(((l')[(i8_).toNat]!).1).toNat]!).2.2.2.1) (((r59)[(((l')[(i8_).toNat]!).1).toNat]!).2.2.2.2.1) (((r59)[(((l')[(i8_).toNat]!).1).toNat]!).2.2.2.2.2.1) (((r59)[(((l')[(i8_).toNat]!).1).toNat]!).2.2.2.2.2.2.1) (((r59)[(((l')[(i8_).toNat]!).1).toNat]!).2.2.2.2.2.2.2.1) (((r59)[(((l')[(i8_).toNat]!).1).toNat]!).2.2.2.2.2.2.2.2)), S12] [0, 1] rfl) ?_
    exact ⟨((l')[(i8_).toNat]!).2.1, hM, is_mk rfl rfl⟩
   replace hM := ifn (ne_of_beq_false hc109) hM
   refine A_skip <| fg _ (Sub.pick [(kLCodeLists38_0 b66 (((r59)[(((l')[(i8_).toNat]!).1).toNat]!).1) (((r59)[(((l')[(i8_).toNat]!).1).toNat]!).2.1) (((r59)[(((l')[(i8_).toNat]!).1).toNat]!).2.2.1) (((r59)[(((l')[(i8_).toNat]!).1).toNat]!).2.2.2.1) (((r59)[(((l')[(i8_).toNat]!).1).toNat]!).2.2.2.2.1) (((r59)[(((l')[(i8_).toNat]!).1).toNat]!).2.2.2.2.2.1) (((r59)[(((l')[(i8_).toNat]!).1).toNat]!).2.2.2.2.2.2.1) (((r59)[(((l')[(i8_).toNat]!).1).toNat]!).2.2.2.2.2.2.2.1) (((r59)[(((l')[(i8_).toNat]!).1).toNat]!).2.2.2.2.2.2.2.2)), S12] [0, 1] rfl) ?_
   exact ⟨place11_, hM, is_mk rfl rfl⟩
  clear hM; rintro t l ⟨place13_, hM, ⟨T, rfl⟩, rfl⟩
  unfold shunterlaw09_CodeLists_k14 at hM
  refine A_cut (fun tt ll => ∃ (place15_ : Int), (shunterlaw09_CodeLists_k16 N l' r9 i8_ (shunterlaw09_CodeLists_l9 N l' r9 n45) r52 r56 r59 goes10_ place15_ = some r) ∧ Is [(0, l'v), (3, s11), (10, vI i8_), (11, vI r52.1), (12, vB r52.2), (13, vI r56.1), (14, vI r56.2), (15, vP b66 0), (16, vB goes10_), (17, vI place15_)] (List.flatten [(kLCodeLists38_0 b66 (((r59)[(((l')[(i8_).toNat]!).1).toNat]!).1) (((r59)[(((l')[(i8_).toNat]!).1).toNat]!).2.1) (((r59)[(((l')[(i8_).toNat]!).1).toNat]!).2.2.1) (((r59)[(((l')[(i8_).toNat]!).1).toNat]!).2.2.2.1) (((r59)[(((l')[(i8_).toNat]!).1).toNat]!).2.2.2.2.1) (((r59)[(((l')[(i8_).toNat]!).1).toNat]!).2.2.2.2.2.1) (((r59)[(((l')[(i8_).toNat]!).1).toNat]!).2.2.2.2.2.2.1) (((r59)[(((l')[(i8_).toNat]!).1).toNat]!).2.2.2.2.2.2.2.1) (((r59)[(((l')[(i8_).toNat]!).1).toNat]!).2.2.2.2.2.2.2.2)), S12]) tt ll) ?_ ?_
  ·refine A_sr <| r_V (vP b66 8) rfl <| r_l (vS (((r59)[(((l')[(i8_).toNat]!).1).toNat]!).2.2.2.2.2.2.2.2)) 0 _ _ _ _ rfl rfl rfl rfl rfl <| r_W (vB ((((r59)[(((l')[(i8_).toNat]!).1).toNat]!).2.2.2.2.2.2.2.2) == ([71, 111, 110, 101] : List UInt8))) rfl (ev_eqS rfl rfl) <| lx_nil <| A_cond ((((r59)[(((l')[(i8_).toNat]!).1).toNat]!).2.2.2.2.2.2.2.2) == ([71, 111, 110, 101] : List UInt8)) rfl (fun hc106 => ?_) (fun hc106 => ?_)
   ·replace hM := ifp (eq_of_beq hc106) hM
    refine A_reg <| r_R [l'v, vI i8_] rfl ?_
    obtain ⟨ck107, hM⟩ := ck_some hM
    refine r_W (elA l'v ((i8_).toNat * 6)) rfl (ev_v (ev_idxSl rfl rfl rfl (Rd.shp hl') ck107)) <| r_W (elA l'v ((i8_).toNat * 6 + 2)) rfl (ev_v (ev_fieldX rfl rfl rfl rfl rfl rfl (Rd.shp hl') (pos_of ck107))) <| r_le (vI (((l')[(i8_).toNat]!).2.2.1)) (En := enc_27) ((l')[(i8_).toNat]!) ((i8_).toNat) 2 rfl rfl (rd_ro hl') (get_of ck107) rfl <| r_V (vI (((l')[(i8_).toNat]!).2.2.1)) rfl <| lx_nil ?_
    refine fg _ (Sub.pick [(kLCodeLists38_0 b66 (((r59)[(((l')[(i8_).toNat]!).1).toNat]!).1) (((r59)[(((l')[(i8_).toNat]!).1).toNat]!).2.1) (((r59)[(((l')[(i8_).toNat]!).1).toNat]!).2.2.1) (((r59)[(((l')[(i8_).toNat]!).1).toNat]!).2.2.2.1) (((r59)[(((l')[(i8_).toNat]!).1).toNat]!).2.2.2.2.1) (((r59)[(((l')[(i8_).toNat]!).1).toNat]!).2.2.2.2.2.1) (((r59)[(((l')[(i8_).toNat]!).1).toNat]!).2.2.2.2.2.2.1) (((r59)[(((l')[(i8_).toNat]!).1).toNat]!).2.2.2.2.2.2.2.1) (((r59)[(((l')[(i8_).toNat]!).1).toNat]!).2.2.2.2.2.2.2.2)), S12] [0, 1] rfl) ?_
    exact ⟨((l')[(i8_).toNat]!).2.2.1, hM, is_mk rfl rfl⟩
   replace hM := ifn (ne_of_beq_false hc106) hM
   refine A_skip <| fg _ (Sub.pick [(kLCodeLists38_0 b66 (((r59)[(((l')[(i8_).toNat]!).1).toNat]!).1) (((r59)[(((l')[(i8_).toNat]!).1).toNat]!).2.1) (((r59)[(((l')[(i8_).toNat]!).1).toNat]!).2.2.1) (((r59)[(((l')[(i8_).toNat]!).1).toNat]!).2.2.2.1) (((r59)[(((l')[(i8_).toNat]!).1).toNat]!).2.2.2.2.1) (((r59)[(((l')[(i8_).toNat]!).1).toNat]!).2.2.2.2.2.1) (((r59)[(((l')[(i8_).toNat]!).1).toNat]!).2.2.2.2.2.2.1) (((r59)[(((l')[(i8_).toNat]!).1).toNat]!).2.2.2.2.2.2.2.1) (((r59)[(((l')[(i8_).toNat]!).1).toNat]!).2.2.2.2.2.2.2.2)), S12] [0, 1] rfl) ?_
   exact ⟨place13_, hM, is_mk rfl rfl⟩
  clear hM; rintro t l ⟨place15_, hM, ⟨T, rfl⟩, rfl⟩
  unfold shunterlaw09_CodeLists_k16 at hM
  refine A_cut (fun tt ll => (shunterlaw09_CodeLists_k17 N l' r9 i8_ (shunterlaw09_CodeLists_l9 N l' r9 n45) r59  = some r) ∧ Is [(0, l'v), (3, s11), (10, vI i8_), (15, vP b66 0)] (List.flatten [(kLCodeLists38_0 b66 (((r59)[(((l')[(i8_).toNat]!).1).toNat]!).1) (((r59)[(((l')[(i8_).toNat]!).1).toNat]!).2.1) (((r59)[(((l')[(i8_).toNat]!).1).toNat]!).2.2.1) (((r59)[(((l')[(i8_).toNat]!).1).toNat]!).2.2.2.1) (((r59)[(((l')[(i8_).toNat]!).1).toNat]!).2.2.2.2.1) (((r59)[(((l')[(i8_).toNat]!).1).toNat]!).2.2.2.2.2.1) (((r59)[(((l')[(i8_).toNat]!).1).toNat]!).2.2.2.2.2.2.1) (((r59)[(((l')[(i8_).toNat]!).1).toNat]!).2.2.2.2.2.2.2.1) (((r59)[(((l')[(i8_).toNat]!).1).toNat]!).2.2.2.2.2.2.2.2)), S12]) tt ll) ?_ ?_
  ·refine A_seq fun K96 hK96 => A_reg <| r_R [vB r52.2, vB goes10_] rfl <| r_W (vB (r52.2 != goes10_)) rfl (ev_binBn rfl rfl rfl) <| r_V (vB (r52.2 != goes10_)) rfl ?_
   rcases hg97 : (r52.2 != goes10_) with _ | _
   ·replace hM := ifn (bne_f hg97) hM
    refine r_R [vI r52.1, vI place15_, vB (r52.1 != place15_), vB (r52.1 != place15_), vB (r52.1 != place15_)] rfl ?_
    rcases hg98 : (r52.1 != place15_) with _ | _
    ·replace hM := ifn (bne_f hg98) hM
     refine r_R [vI r56.1, vP b66 1] rfl <| r_y rfl <| r_l (vI (((r59)[(((l')[(i8_).toNat]!).1).toNat]!).2.1)) 0 _ _ _ _ rfl rfl rfl rfl rfl <| r_R [vB ((r56.1 != ((r59)[(((l')[(i8_).toNat]!).1).toNat]!).2.1)), vB ((r56.1 != ((r59)[(((l')[(i8_).toNat]!).1).toNat]!).2.1)), vB ((r56.1 != ((r59)[(((l')[(i8_).toNat]!).1).toNat]!).2.1))] rfl ?_
     rcases hg99 : ((r56.1 != ((r59)[(((l')[(i8_).toNat]!).1).toNat]!).2.1)) with _ | _
     ·replace hM := ifn (bne_f hg99) hM
      refine r_R [vI r56.2, vP b66 2] rfl <| r_y rfl <| r_l (vI (((r59)[(((l')[(i8_).toNat]!).1).toNat]!).2.2.1)) 0 _ _ _ _ rfl rfl rfl rfl rfl <| r_R [vB ((r56.2 != ((r59)[(((l')[(i8_).toNat]!).1).toNat]!).2.2.1)), vB ((r56.2 != ((r59)[(((l')[(i8_).toNat]!).1).toNat]!).2.2.1))] rfl <| lx_nil <| hK96 _ _ ?_; try clear hK96 K96
      refine A_cond ((r56.2 != ((r59)[(((l')[(i8_).toNat]!).1).toNat]!).2.2.1)) rfl (fun hc100 => ?_) (fun hc100 => ?_)
      ·replace hM := ifp (bne_iff_ne.1 hc100) hM
       refine A_sr <| r_V (vB false) rfl <| lx_nil <| A_gen [(2, vB false)] rfl (fun T => ?_)
       obtain rfl := Option.some.inj hM
       refine A_ret (fun hn => endsV (v0 := vB false) rfl (res1 rfl))
      replace hM := ifn (bne_f hc100) hM
      refine A_skip <| fg _ (Sub.pick [(kLCodeLists38_0 b66 (((r59)[(((l')[(i8_).toNat]!).1).toNat]!).1) (((r59)[(((l')[(i8_).toNat]!).1).toNat]!).2.1) (((r59)[(((l')[(i8_).toNat]!).1).toNat]!).2.2.1) (((r59)[(((l')[(i8_).toNat]!).1).toNat]!).2.2.2.1) (((r59)[(((l')[(i8_).toNat]!).1).toNat]!).2.2.2.2.1) (((r59)[(((l')[(i8_).toNat]!).1).toNat]!).2.2.2.2.2.1) (((r59)[(((l')[(i8_).toNat]!).1).toNat]!).2.2.2.2.2.2.1) (((r59)[(((l')[(i8_).toNat]!).1).toNat]!).2.2.2.2.2.2.2.1) (((r59)[(((l')[(i8_).toNat]!).1).toNat]!).2.2.2.2.2.2.2.2)), S12] [0, 1] rfl) ?_
      exact ⟨hM, is_mk rfl rfl⟩
     replace hM := ifp (bne_iff_ne.1 hg99) hM
     refine r_R [none, none, none, none, vB true] rfl <| lx_nil <| hK96 _ _ ?_; try clear hK96 K96
     refine A_cond true rfl (fun _ => ?_) (fun h_ => nomatch h_)
     refine A_sr <| r_V (vB false) rfl <| lx_nil <| A_gen [(2, vB false)] rfl (fun T => ?_)
     obtain rfl := Option.some.inj hM
     refine A_ret (fun hn => endsV (v0 := vB false) rfl (res1 rfl))
    replace hM := ifp (bne_iff_ne.1 hg98) hM
    refine r_R [none, none, none, none, vB true, vB true, none, none, none, none, vB true] rfl <| lx_nil <| hK96 _ _ ?_; try clear hK96 K96
    refine A_cond true rfl (fun _ => ?_) (fun h_ => nomatch h_)
    refine A_sr <| r_V (vB false) rfl <| lx_nil <| A_gen [(2, vB false)] rfl (fun T => ?_)
    obtain rfl := Option.some.inj hM
    refine A_ret (fun hn => endsV (v0 := vB false) rfl (res1 rfl))
   replace hM := ifp (bne_iff_ne.1 hg97) hM
   refine r_R [none, none, none, vB true, vB true, none, none, none, none, vB true, vB true, none, none, none, none, vB true] rfl <| lx_nil <| hK96 _ _ ?_; try clear hK96 K96
   refine A_cond true rfl (fun _ => ?_) (fun h_ => nomatch h_)
   refine A_sr <| r_V (vB false) rfl <| lx_nil <| A_gen [(2, vB false)] rfl (fun T => ?_)
   obtain rfl := Option.some.inj hM
   refine A_ret (fun hn => endsV (v0 := vB false) rfl (res1 rfl))
  clear hM; rintro t l ⟨hM, ⟨T, rfl⟩, rfl⟩
  unfold shunterlaw09_CodeLists_k17 at hM
  refine A_seq fun K67 hK67 => A_reg <| r_R [s11, vI i8_] rfl ?_
  obtain ⟨ck68, hM⟩ := ck_some hM
  refine r_W (elA s11 ((i8_).toNat * 1)) rfl (ev_v (ev_idxSl rfl rfl rfl (Sl.shp H13) ck68)) ?_
  refine r_le (Sum31.v ((r9.1)[(i8_).toNat]!)) (En := encSum31) ((r9.1)[(i8_).toNat]!) ((i8_).toNat) 0 rfl rfl (rd_own H13 (mem_chunk (Ls := [(kLCodeLists38_0 b66 (((r59)[(((l')[(i8_).toNat]!).1).toNat]!).1) (((r59)[(((l')[(i8_).toNat]!).1).toNat]!).2.1) (((r59)[(((l')[(i8_).toNat]!).1).toNat]!).2.2.1) (((r59)[(((l')[(i8_).toNat]!).1).toNat]!).2.2.2.1) (((r59)[(((l')[(i8_).toNat]!).1).toNat]!).2.2.2.2.1) (((r59)[(((l')[(i8_).toNat]!).1).toNat]!).2.2.2.2.2.1) (((r59)[(((l')[(i8_).toNat]!).1).toNat]!).2.2.2.2.2.2.1) (((r59)[(((l')[(i8_).toNat]!).1).toNat]!).2.2.2.2.2.2.2.1) (((r59)[(((l')[(i8_).toNat]!).1).toNat]!).2.2.2.2.2.2.2.2)), S12]) (k := 1) rfl rfl)) (get_of ck68) rfl ?_
  rcases Sum31.cases ((r9.1)[(i8_).toNat]!) with hx69 | ⟨x70_0, x71_1, hx69⟩ | ⟨x72_0, x73_1, x74_2, hx69⟩ | ⟨x75_0, x76_1, hx69⟩ | ⟨x77_0, x78_1, hx69⟩ | ⟨x79_0, x80_1, hx69⟩ | ⟨x81_0, x82_1, x83_2, hx69⟩ | ⟨x84_0, x85_1, hx69⟩ | ⟨x86_0, hx69⟩ | ⟨x87_0, x88_1, hx69⟩ | ⟨x89_0, x90_1, hx69⟩ | hx69
  ·replace hM := Sum31.on_nil hx69 hM
   refine r_W (vT #[vA #[vI 0, U (0#64), U (0#64)], vB false]) rfl (ev_taC ((rfl : _ = Sum31.v ((r9.1)[(i8_).toNat]!)).trans (show Sum31.v ((r9.1)[(i8_).toNat]!) = Value.nilIface from by rw [hx69]; rfl)) rfl) ?_
   refine r_R [vT #[vA #[vI 0, U (0#64), U (0#64)], vB false], vA #[vI 0, U (0#64), U (0#64)], vB false] rfl <| r_a (47, #[vI 0, U (0#64), U (0#64)]) rfl rfl rfl (fun b91 => ?_) (.inr rfl)
   refine r_s (List.flatten [(kLCodeLists47_1 b91 0 (0#64) (0#64)), (kLCodeLists38_0 b66 (((r59)[(((l')[(i8_).toNat]!).1).toNat]!).1) (((r59)[(((l')[(i8_).toNat]!).1).toNat]!).2.1) (((r59)[(((l')[(i8_).toNat]!).1).toNat]!).2.2.1) (((r59)[(((l')[(i8_).toNat]!).1).toNat]!).2.2.2.1) (((r59)[(((l')[(i8_).toNat]!).1).toNat]!).2.2.2.2.1) (((r59)[(((l')[(i8_).toNat]!).1).toNat]!).2.2.2.2.2.1) (((r59)[(((l')[(i8_).toNat]!).1).toNat]!).2.2.2.2.2.2.1) (((r59)[(((l')[(i8_).toNat]!).1).toNat]!).2.2.2.2.2.2.2.1) (((r59)[(((l')[(i8_).toNat]!).1).toNat]!).2.2.2.2.2.2.2.2)), S12]) 0 _ _ _ _ _ (#[vI 0, U (0#64), U (0#64)]) rfl rfl rfl rfl (.of rfl rfl) rfl rfl ?_
   refine r_V (vB false) rfl <| lx_nil <| hK67 _ _ ?_; try clear hK67 K67
   refine A_seq fun K92 hK92 => A_draw [] (by decide +kernel) (fun hn => sep_nil) <| r_R [vB false, vB false, none, none, none, none, none, none, none, vB false, vB false, vB false, vP b66 8] rfl <| r_y rfl <| r_l (vS (((r59)[(((l')[(i8_).toNat]!).1).toNat]!).2.2.2.2.2.2.2.2)) 1 _ _ _ _ rfl rfl rfl rfl rfl <| r_y rfl <| r_W (vB ((((r59)[(((l')[(i8_).toNat]!).1).toNat]!).2.2.2.2.2.2.2.2) == ([80, 117, 115, 104] : List UInt8))) rfl (ev_eqS rfl rfl) <| r_y rfl <| r_W (vB (false != ((((r59)[(((l')[(i8_).toNat]!).1).toNat]!).2.2.2.2.2.2.2.2) == ([80, 117, 115, 104] : List UInt8)))) rfl (ev_binBn rfl rfl rfl) ?_
   refine r_V (vB (false != ((((r59)[(((l')[(i8_).toNat]!).1).toNat]!).2.2.2.2.2.2.2.2) == ([80, 117, 115, 104] : List UInt8)))) rfl <| lx_nil <| hK92 _ _ ?_; try clear hK92 K92
   refine A_gen [(0, l'v), (3, s11), (10, vI i8_), (173, vB (false != ((((r59)[(((l')[(i8_).toNat]!).1).toNat]!).2.2.2.2.2.2.2.2) == ([80, 117, 115, 104] : List UInt8))))] rfl (fun T => ?_)
   refine A_cond (false != ((((r59)[(((l')[(i8_).toNat]!).1).toNat]!).2.2.2.2.2.2.2.2) == ([80, 117, 115, 104] : List UInt8))) rfl (fun hc93 => ?_) (fun hc93 => ?_)
   ·replace hM := ifp (bne_iff_ne.1 hc93) hM
    refine A_sr <| r_V (vB false) rfl <| lx_nil ?_
    obtain rfl := Option.some.inj hM
    refine A_ret (fun hn => endsV (v0 := vB false) rfl (res1 rfl))
   replace hM := ifn (bne_f hc93) hM
   refine A_skip <| hK49 _ _ ?_; try clear hK49 K49
   refine A_reg <| r_V (vI i8_) rfl ?_
   obtain ⟨ck95, hM⟩ := ck_some hM
   refine r_X (vI (i8_ + 1)) rfl (wi64 rfl ck95.1 ck95.2) rfl <| r_V (vI (i8_ + 1)) rfl <| lx_nil ?_
   refine fg _ (Sub.pick [(kLCodeLists47_1 b91 0 (0#64) (0#64)), (kLCodeLists38_0 b66 (((r59)[(((l')[(i8_).toNat]!).1).toNat]!).1) (((r59)[(((l')[(i8_).toNat]!).1).toNat]!).2.1) (((r59)[(((l')[(i8_).toNat]!).1).toNat]!).2.2.1) (((r59)[(((l')[(i8_).toNat]!).1).toNat]!).2.2.2.1) (((r59)[(((l')[(i8_).toNat]!).1).toNat]!).2.2.2.2.1) (((r59)[(((l')[(i8_).toNat]!).1).toNat]!).2.2.2.2.2.1) (((r59)[(((l')[(i8_).toNat]!).1).toNat]!).2.2.2.2.2.2.1) (((r59)[(((l')[(i8_).toNat]!).1).toNat]!).2.2.2.2.2.2.2.1) (((r59)[(((l')[(i8_).toNat]!).1).toNat]!).2.2.2.2.2.2.2.2)), S12] [2] rfl) ?_
   exact ⟨n45 + 1, by omega, n45, (i8_ + 1), hM, is_mk rfl rfl, rfl⟩
  ·replace hM := Sum31.on_t47 hx69 hM
   refine r_W (vT #[vA #[vI x70_0, U (hi x71_1), U (lo x71_1)], vB true]) rfl (ev_taC ((rfl : _ = Sum31.v ((r9.1)[(i8_).toNat]!)).trans (show Sum31.v ((r9.1)[(i8_).toNat]!) = Value.iface 47 (vA #[vI x70_0, U (hi x71_1), U (lo x71_1)]) from by rw [hx69]; rfl)) rfl) ?_
   refine r_R [vT #[vA #[vI x70_0, U (hi x71_1), U (lo x71_1)], vB true], vA #[vI x70_0, U (hi x71_1), U (lo x71_1)], vB true] rfl <| r_a (47, #[vI 0, U (0#64), U (0#64)]) rfl rfl rfl (fun b91 => ?_) (.inr rfl)
   refine r_s (List.flatten [(kLCodeLists47_1 b91 x70_0 (hi x71_1) (lo x71_1)), (kLCodeLists38_0 b66 (((r59)[(((l')[(i8_).toNat]!).1).toNat]!).1) (((r59)[(((l')[(i8_).toNat]!).1).toNat]!).2.1) (((r59)[(((l')[(i8_).toNat]!).1).toNat]!).2.2.1) (((r59)[(((l')[(i8_).toNat]!).1).toNat]!).2.2.2.1) (((r59)[(((l')[(i8_).toNat]!).1).toNat]!).2.2.2.2.1) (((r59)[(((l')[(i8_).toNat]!).1).toNat]!).2.2.2.2.2.1) (((r59)[(((l')[(i8_).toNat]!).1).toNat]!).2.2.2.2.2.2.1) (((r59)[(((l')[(i8_).toNat]!).1).toNat]!).2.2.2.2.2.2.2.1) (((r59)[(((l')[(i8_).toNat]!).1).toNat]!).2.2.2.2.2.2.2.2)), S12]) 0 _ _ _ _ _ (#[vI x70_0, U (hi x71_1), U (lo x71_1)]) rfl rfl rfl rfl (.of rfl rfl) rfl rfl ?_
   refine r_V (vB true) rfl <| lx_nil <| hK67 _ _ ?_; try clear hK67 K67
   refine A_seq fun K92 hK92 => A_draw [] (by decide +kernel) (fun hn => sep_nil) <| r_R [vB true, vB true, s11, vI i8_] rfl <| r_y rfl ?_
   obtain ⟨ck93, hM⟩ := ck_some hM
   refine r_W (elA s11 ((i8_).toNat * 1)) rfl (ev_v (ev_idxSl rfl rfl rfl (Sl.shp H13) ck93)) <| r_y rfl ?_
   refine r_le (Sum31.v ((r9.1)[(i8_).toNat]!)) (En := encSum31) ((r9.1)[(i8_).toNat]!) ((i8_).toNat) 0 rfl rfl (rd_own H13 (mem_chunk (Ls := [(kLCodeLists47_1 b91 x70_0 (hi x71_1) (lo x71_1)), (kLCodeLists38_0 b66 (((r59)[(((l')[(i8_).toNat]!).1).toNat]!).1) (((r59)[(((l')[(i8_).toNat]!).1).toNat]!).2.1) (((r59)[(((l')[(i8_).toNat]!).1).toNat]!).2.2.1) (((r59)[(((l')[(i8_).toNat]!).1).toNat]!).2.2.2.1) (((r59)[(((l')[(i8_).toNat]!).1).toNat]!).2.2.2.2.1) (((r59)[(((l')[(i8_).toNat]!).1).toNat]!).2.2.2.2.2.1) (((r59)[(((l')[(i8_).toNat]!).1).toNat]!).2.2.2.2.2.2.1) (((r59)[(((l')[(i8_).toNat]!).1).toNat]!).2.2.2.2.2.2.2.1) (((r59)[(((l')[(i8_).toNat]!).1).toNat]!).2.2.2.2.2.2.2.2)), S12]) (k := 2) rfl rfl)) (get_of ck93) rfl ?_
   refine r_y rfl ?_
   obtain ⟨r94, hr95, hM⟩ := bind_sm hM
   refine r_c (vA #[vI r94.1, U (hi r94.2), U (lo r94.2)]) rfl _ _ (ev_callF rfl call_18 rfl) (code_Only_g N ((r9.1)[(i8_).toNat]!) _ hr95) <| r_y rfl <| r_l (vA #[vI x70_0, U (hi x71_1), U (lo x71_1)]) 0 _ _ _ _ rfl rfl rfl rfl rfl <| r_y rfl <| r_W (vB (!((r94.1 == x70_0) && (r94.2 == x71_1)))) rfl (ev_binNe rfl rfl eg_47 (eqst_47 r94.1 x70_0 r94.2 x71_1)) <| r_R [vB (!((r94.1 == x70_0) && (r94.2 == x71_1))), vB (!((r94.1 == x70_0) && (r94.2 == x71_1)))] rfl ?_
   rcases hg96 : (!((r94.1 == x70_0) && (r94.2 == x71_1))) with _ | _
   ·replace hM := ifp (not_f hg96) hM
    refine r_R [vB true, vP b66 8] rfl <| r_y rfl <| r_l (vS (((r59)[(((l')[(i8_).toNat]!).1).toNat]!).2.2.2.2.2.2.2.2)) 1 _ _ _ _ rfl rfl rfl rfl rfl <| r_y rfl <| r_W (vB ((((r59)[(((l')[(i8_).toNat]!).1).toNat]!).2.2.2.2.2.2.2.2) == ([80, 117, 115, 104] : List UInt8))) rfl (ev_eqS rfl rfl) <| r_y rfl <| r_W (vB (true != ((((r59)[(((l')[(i8_).toNat]!).1).toNat]!).2.2.2.2.2.2.2.2) == ([80, 117, 115, 104] : List UInt8)))) rfl (ev_binBn rfl rfl rfl) <| r_V (vB (true != ((((r59)[(((l')[(i8_).toNat]!).1).toNat]!).2.2.2.2.2.2.2.2) == ([80, 117, 115, 104] : List UInt8)))) rfl <| lx_nil <| hK92 _ _ ?_; try clear hK92 K92
    refine A_gen [(0, l'v), (3, s11), (10, vI i8_), (173, vB (true != ((((r59)[(((l')[(i8_).toNat]!).1).toNat]!).2.2.2.2.2.2.2.2) == ([80, 117, 115, 104] : List UInt8))))] rfl (fun T => ?_)
    refine A_cond (true != ((((r59)[(((l')[(i8_).toNat]!).1).toNat]!).2.2.2.2.2.2.2.2) == ([80, 117, 115, 104] : List UInt8))) rfl (fun hc97 => ?_) (fun hc97 => ?_)
    ·replace hM := ifp (bne_iff_ne.1 hc97) hM
     refine A_sr <| r_V (vB false) rfl <| lx_nil ?_
     obtain rfl := Option.some.inj hM
     refine A_ret (fun hn => endsV (v0 := vB false) rfl (res1 rfl))
    replace hM := ifn (bne_f hc97) hM
    refine A_skip <| hK49 _ _ ?_; try clear hK49 K49
    refine A_reg <| r_V (vI i8_) rfl ?_
    obtain ⟨ck99, hM⟩ := ck_some hM
    refine r_X (vI (i8_ + 1)) rfl (wi64 rfl ck99.1 ck99.2) rfl <| r_V (vI (i8_ + 1)) rfl <| lx_nil ?_
    refine fg _ (Sub.pick [(kLCodeLists47_1 b91 x70_0 (hi x71_1) (lo x71_1)), (kLCodeLists38_0 b66 (((r59)[(((l')[(i8_).toNat]!).1).toNat]!).1) (((r59)[(((l')[(i8_).toNat]!).1).toNat]!).2.1) (((r59)[(((l')[(i8_).toNat]!).1).toNat]!).2.2.1) (((r59)[(((l')[(i8_).toNat]!).1).toNat]!).2.2.2.1) (((r59)[(((l')[(i8_).toNat]!).1).toNat]!).2.2.2.2.1) (((r59)[(((l')[(i8_).toNat]!).1).toNat]!).2.2.2.2.2.1) (((r59)[(((l')[(i8_).toNat]!).1).toNat]!).2.2.2.2.2.2.1) (((r59)[(((l')[(i8_).toNat]!).1).toNat]!).2.2.2.2.2.2.2.1) (((r59)[(((l')[(i8_).toNat]!).1).toNat]!).2.2.2.2.2.2.2.2)), S12] [2] rfl) ?_
    exact ⟨n45 + 1, by omega, n45, (i8_ + 1), hM, is_mk (by first | rfl | (simp only [hg96]; done) | (simp only [hg96]; rfl) | (simp only [app_hl]; rfl)) rfl, rfl⟩
   replace hM := ifn (Bool.eq_false_iff.1 (not_t hg96)) hM
   refine r_R [none, none, none, none, none, vB true] rfl <| lx_nil <| hK92 _ _ ?_; try clear hK92 K92
   refine A_gen [(0, l'v), (3, s11), (10, vI i8_), (173, vB true)] rfl (fun T => ?_)
   refine A_cond true rfl (fun _ => ?_) (fun h_ => nomatch h_)
   refine A_sr <| r_V (vB false) rfl <| lx_nil ?_
   obtain rfl := Option.some.inj hM
   refine A_ret (fun hn => endsV (v0 := vB false) rfl (res1 rfl))
  ·replace hM := Sum31.on_t49 hx69 hM
   refine r_W (vT #[vA #[vI 0, U (0#64), U (0#64)], vB false]) rfl (ev_taC ((rfl : _ = Sum31.v ((r9.1)[(i8_).toNat]!)).trans (show Sum31.v ((r9.1)[(i8_).toNat]!) = Value.iface 49 (vA #[vI x72_0, vI x73_1, vI x74_2]) from by rw [hx69]; rfl)) rfl) ?_
   refine r_R [vT #[vA #[vI 0, U (0#64), U (0#64)], vB false], vA #[vI 0, U (0#64), U (0#64)], vB false] rfl <| r_a (47, #[vI 0, U (0#64), U (0#64)]) rfl rfl rfl (fun b91 => ?_) (.inr rfl)
   refine r_s (List.flatten [(kLCodeLists47_1 b91 0 (0#64) (0#64)), (kLCodeLists38_0 b66 (((r59)[(((l')[(i8_).toNat]!).1).toNat]!).1) (((r59)[(((l')[(i8_).toNat]!).1).toNat]!).2.1) (((r59)[(((l')[(i8_).toNat]!).1).toNat]!).2.2.1) (((r59)[(((l')[(i8_).toNat]!).1).toNat]!).2.2.2.1) (((r59)[(((l')[(i8_).toNat]!).1).toNat]!).2.2.2.2.1) (((r59)[(((l')[(i8_).toNat]!).1).toNat]!).2.2.2.2.2.1) (((r59)[(((l')[(i8_).toNat]!).1).toNat]!).2.2.2.2.2.2.1) (((r59)[(((l')[(i8_).toNat]!).1).toNat]!).2.2.2.2.2.2.2.1) (((r59)[(((l')[(i8_).toNat]!).1).toNat]!).2.2.2.2.2.2.2.2)), S12]) 0 _ _ _ _ _ (#[vI 0, U (0#64), U (0#64)]) rfl rfl rfl rfl (.of rfl rfl) rfl rfl ?_
   refine r_V (vB false) rfl <| lx_nil <| hK67 _ _ ?_; try clear hK67 K67
   refine A_seq fun K92 hK92 => A_draw [] (by decide +kernel) (fun hn => sep_nil) <| r_R [vB false, vB false, none, none, none, none, none, none, none, vB false, vB false, vB false, vP b66 8] rfl <| r_y rfl <| r_l (vS (((r59)[(((l')[(i8_).toNat]!).1).toNat]!).2.2.2.2.2.2.2.2)) 1 _ _ _ _ rfl rfl rfl rfl rfl <| r_y rfl <| r_W (vB ((((r59)[(((l')[(i8_).toNat]!).1).toNat]!).2.2.2.2.2.2.2.2) == ([80, 117, 115, 104] : List UInt8))) rfl (ev_eqS rfl rfl) <| r_y rfl <| r_W (vB (false != ((((r59)[(((l')[(i8_).toNat]!).1).toNat]!).2.2.2.2.2.2.2.2) == ([80, 117, 115, 104] : List UInt8)))) rfl (ev_binBn rfl rfl rfl) ?_
   refine r_V (vB (false != ((((r59)[(((l')[(i8_).toNat]!).1).toNat]!).2.2.2.2.2.2.2.2) == ([80, 117, 115, 104] : List UInt8)))) rfl <| lx_nil <| hK92 _ _ ?_; try clear hK92 K92
   refine A_gen [(0, l'v), (3, s11), (10, vI i8_), (173, vB (false != ((((r59)[(((l')[(i8_).toNat]!).1).toNat]!).2.2.2.2.2.2.2.2) == ([80, 117, 115, 104] : List UInt8))))] rfl (fun T => ?_)
   refine A_cond (false != ((((r59)[(((l')[(i8_).toNat]!).1).toNat]!).2.2.2.2.2.2.2.2) == ([80, 117, 115, 104] : List UInt8))) rfl (fun hc93 => ?_) (fun hc93 => ?_)
   ·replace hM := ifp (bne_iff_ne.1 hc93) hM
    refine A_sr <| r_V (vB false) rfl <| lx_nil ?_
    obtain rfl := Option.some.inj hM
    refine A_ret (fun hn => endsV (v0 := vB false) rfl (res1 rfl))
   replace hM := ifn (bne_f hc93) hM
   refine A_skip <| hK49 _ _ ?_; try clear hK49 K49
   refine A_reg <| r_V (vI i8_) rfl ?_
   obtain ⟨ck95, hM⟩ := ck_some hM
   refine r_X (vI (i8_ + 1)) rfl (wi64 rfl ck95.1 ck95.2) rfl <| r_V (vI (i8_ + 1)) rfl <| lx_nil ?_
   refine fg _ (Sub.pick [(kLCodeLists47_1 b91 0 (0#64) (0#64)), (kLCodeLists38_0 b66 (((r59)[(((l')[(i8_).toNat]!).1).toNat]!).1) (((r59)[(((l')[(i8_).toNat]!).1).toNat]!).2.1) (((r59)[(((l')[(i8_).toNat]!).1).toNat]!).2.2.1) (((r59)[(((l')[(i8_).toNat]!).1).toNat]!).2.2.2.1) (((r59)[(((l')[(i8_).toNat]!).1).toNat]!).2.2.2.2.1) (((r59)[(((l')[(i8_).toNat]!).1).toNat]!).2.2.2.2.2.1) (((r59)[(((l')[(i8_).toNat]!).1).toNat]!).2.2.2.2.2.2.1) (((r59)[(((l')[(i8_).toNat]!).1).toNat]!).2.2.2.2.2.2.2.1) (((r59)[(((l')[(i8_).toNat]!).1).toNat]!).2.2.2.2.2.2.2.2)), S12] [2] rfl) ?_
   exact ⟨n45 + 1, by omega, n45, (i8_ + 1), hM, is_mk rfl rfl, rfl⟩
  ·replace hM := Sum31.on_t51 hx69 hM
   refine r_W (vT #[vA #[vI 0, U (0#64), U (0#64)], vB false]) rfl (ev_taC ((rfl : _ = Sum31.v ((r9.1)[(i8_).toNat]!)).trans (show Sum31.v ((r9.1)[(i8_).toNat]!) = Value.iface 51 (vA #[vI x75_0, vI x76_1]) from by rw [hx69]; rfl)) rfl) ?_
   refine r_R [vT #[vA #[vI 0, U (0#64), U (0#64)], vB false], vA #[vI 0, U (0#64), U (0#64)], vB false] rfl <| r_a (47, #[vI 0, U (0#64), U (0#64)]) rfl rfl rfl (fun b91 => ?_) (.inr rfl)
   refine r_s (List.flatten [(kLCodeLists47_1 b91 0 (0#64) (0#64)), (kLCodeLists38_0 b66 (((r59)[(((l')[(i8_).toNat]!).1).toNat]!).1) (((r59)[(((l')[(i8_).toNat]!).1).toNat]!).2.1) (((r59)[(((l')[(i8_).toNat]!).1).toNat]!).2.2.1) (((r59)[(((l')[(i8_).toNat]!).1).toNat]!).2.2.2.1) (((r59)[(((l')[(i8_).toNat]!).1).toNat]!).2.2.2.2.1) (((r59)[(((l')[(i8_).toNat]!).1).toNat]!).2.2.2.2.2.1) (((r59)[(((l')[(i8_).toNat]!).1).toNat]!).2.2.2.2.2.2.1) (((r59)[(((l')[(i8_).toNat]!).1).toNat]!).2.2.2.2.2.2.2.1) (((r59)[(((l')[(i8_).toNat]!).1).toNat]!).2.2.2.2.2.2.2.2)), S12]) 0 _ _ _ _ _ (#[vI 0, U (0#64), U (0#64)]) rfl rfl rfl rfl (.of rfl rfl) rfl rfl ?_
   refine r_V (vB false) rfl <| lx_nil <| hK67 _ _ ?_; try clear hK67 K67
   refine A_seq fun K92 hK92 => A_draw [] (by decide +kernel) (fun hn => sep_nil) <| r_R [vB false, vB false, none, none, none, none, none, none, none, vB false, vB false, vB false, vP b66 8] rfl <| r_y rfl <| r_l (vS (((r59)[(((l')[(i8_).toNat]!).1).toNat]!).2.2.2.2.2.2.2.2)) 1 _ _ _ _ rfl rfl rfl rfl rfl <| r_y rfl <| r_W (vB ((((r59)[(((l')[(i8_).toNat]!).1).toNat]!).2.2.2.2.2.2.2.2) == ([80, 117, 115, 104] : List UInt8))) rfl (ev_eqS rfl rfl) <| r_y rfl <| r_W (vB (false != ((((r59)[(((l')[(i8_).toNat]!).1).toNat]!).2.2.2.2.2.2.2.2) == ([80, 117, 115, 104] : List UInt8)))) rfl (ev_binBn rfl rfl rfl) ?_
   refine r_V (vB (false != ((((r59)[(((l')[(i8_).toNat]!).1).toNat]!).2.2.2.2.2.2.2.2) == ([80, 117, 115, 104] : List UInt8)))) rfl <| lx_nil <| hK92 _ _ ?_; try clear hK92 K92
   refine A_gen [(0, l'v), (3, s11), (10, vI i8_), (173, vB (false != ((((r59)[(((l')[(i8_).toNat]!).1).toNat]!).2.2.2.2.2.2.2.2) == ([80, 117, 115, 104] : List UInt8))))] rfl (fun T => ?_)
   refine A_cond (false != ((((r59)[(((l')[(i8_).toNat]!).1).toNat]!).2.2.2.2.2.2.2.2) == ([80, 117, 115, 104] : List UInt8))) rfl (fun hc93 => ?_) (fun hc93 => ?_)
   ·replace hM := ifp (bne_iff_ne.1 hc93) hM
    refine A_sr <| r_V (vB false) rfl <| lx_nil ?_
    obtain rfl := Option.some.inj hM
    refine A_ret (fun hn => endsV (v0 := vB false) rfl (res1 rfl))
   replace hM := ifn (bne_f hc93) hM
   refine A_skip <| hK49 _ _ ?_; try clear hK49 K49
   refine A_reg <| r_V (vI i8_) rfl ?_
   obtain ⟨ck95, hM⟩ := ck_some hM
   refine r_X (vI (i8_ + 1)) rfl (wi64 rfl ck95.1 ck95.2) rfl <| r_V (vI (i8_ + 1)) rfl <| lx_nil ?_
   refine fg _ (Sub.pick [(kLCodeLists47_1 b91 0 (0#64) (0#64)), (kLCodeLists38_0 b66 (((r59)[(((l')[(i8_).toNat]!).1).toNat]!).1) (((r59)[(((l')[(i8_).toNat]!).1).toNat]!).2.1) (((r59)[(((l')[(i8_).toNat]!).1).toNat]!).2.2.1) (((r59)[(((l')[(i8_).toNat]!).1).toNat]!).2.2.2.1) (((r59)[(((l')[(i8_).toNat]!).1).toNat]!).2.2.2.2.1) (((r59)[(((l')[(i8_).toNat]!).1).toNat]!).2.2.2.2.2.1) (((r59)[(((l')[(i8_).toNat]!).1).toNat]!).2.2.2.2.2.2.1) (((r59)[(((l')[(i8_).toNat]!).1).toNat]!).2.2.2.2.2.2.2.1) (((r59)[(((l')[(i8_).toNat]!).1).toNat]!).2.2.2.2.2.2.2.2)), S12] [2] rfl) ?_
   exact ⟨n45 + 1, by omega, n45, (i8_ + 1), hM, is_mk rfl rfl, rfl⟩
  ·replace hM := Sum31.on_t52 hx69 hM
   refine r_W (vT #[vA #[vI 0, U (0#64), U (0#64)], vB false]) rfl (ev_taC ((rfl : _ = Sum31.v ((r9.1)[(i8_).toNat]!)).trans (show Sum31.v ((r9.1)[(i8_).toNat]!) = Value.iface 52 (vA #[vI x77_0, vI x78_1]) from by rw [hx69]; rfl)) rfl) ?_
   refine r_R [vT #[vA #[vI 0, U (0#64), U (0#64)], vB false], vA #[vI 0, U (0#64), U (0#64)], vB false] rfl <| r_a (47, #[vI 0, U (0#64), U (0#64)]) rfl rfl rfl (fun b91 => ?_) (.inr rfl)
   refine r_s (List.flatten [(kLCodeLists47_1 b91 0 (0#64) (0#64)), (kLCodeLists38_0 b66 (((r59)[(((l')[(i8_).toNat]!).1).toNat]!).1) (((r59)[(((l')[(i8_).toNat]!).1).toNat]!).2.1) (((r59)[(((l')[(i8_).toNat]!).1).toNat]!).2.2.1) (((r59)[(((l')[(i8_).toNat]!).1).toNat]!).2.2.2.1) (((r59)[(((l')[(i8_).toNat]!).1).toNat]!).2.2.2.2.1) (((r59)[(((l')[(i8_).toNat]!).1).toNat]!).2.2.2.2.2.1) (((r59)[(((l')[(i8_).toNat]!).1).toNat]!).2.2.2.2.2.2.1) (((r59)[(((l')[(i8_).toNat]!).1).toNat]!).2.2.2.2.2.2.2.1) (((r59)[(((l')[(i8_).toNat]!).1).toNat]!).2.2.2.2.2.2.2.2)), S12]) 0 _ _ _ _ _ (#[vI 0, U (0#64), U (0#64)]) rfl rfl rfl rfl (.of rfl rfl) rfl rfl ?_
   refine r_V (vB false) rfl <| lx_nil <| hK67 _ _ ?_; try clear hK67 K67
   refine A_seq fun K92 hK92 => A_draw [] (by decide +kernel) (fun hn => sep_nil) <| r_R [vB false, vB false, none, none, none, none, none, none, none, vB false, vB false, vB false, vP b66 8] rfl <| r_y rfl <| r_l (vS (((r59)[(((l')[(i8_).toNat]!).1).toNat]!).2.2.2.2.2.2.2.2)) 1 _ _ _ _ rfl rfl rfl rfl rfl <| r_y rfl <| r_W (vB ((((r59)[(((l')[(i8_).toNat]!).1).toNat]!).2.2.2.2.2.2.2.2) == ([80, 117, 115, 104] : List UInt8))) rfl (ev_eqS rfl rfl) <| r_y rfl <| r_W (vB (false != ((((r59)[(((l')[(i8_).toNat]!).1).toNat]!).2.2.2.2.2.2.2.2) == ([80, 117, 115, 104] : List UInt8)))) rfl (ev_binBn rfl rfl rfl) ?_
   refine r_V (vB (false != ((((r59)[(((l')[(i8_).toNat]!).1).toNat]!).2.2.2.2.2.2.2.2) == ([80, 117, 115, 104] : List UInt8)))) rfl <| lx_nil <| hK92 _ _ ?_; try clear hK92 K92
   refine A_gen [(0, l'v), (3, s11), (10, vI i8_), (173, vB (false != ((((r59)[(((l')[(i8_).toNat]!).1).toNat]!).2.2.2.2.2.2.2.2) == ([80, 117, 115, 104] : List UInt8))))] rfl (fun T => ?_)
   refine A_cond (false != ((((r59)[(((l')[(i8_).toNat]!).1).toNat]!).2.2.2.2.2.2.2.2) == ([80, 117, 115, 104] : List UInt8))) rfl (fun hc93 => ?_) (fun hc93 => ?_)
   ·replace hM := ifp (bne_iff_ne.1 hc93) hM
    refine A_sr <| r_V (vB false) rfl <| lx_nil ?_
    obtain rfl := Option.some.inj hM
    refine A_ret (fun hn => endsV (v0 := vB false) rfl (res1 rfl))
   replace hM := ifn (bne_f hc93) hM
   refine A_skip <| hK49 _ _ ?_; try clear hK49 K49
   refine A_reg <| r_V (vI i8_) rfl ?_
   obtain ⟨ck95, hM⟩ := ck_some hM
   refine r_X (vI (i8_ + 1)) rfl (wi64 rfl ck95.1 ck95.2) rfl <| r_V (vI (i8_ + 1)) rfl <| lx_nil ?_
   refine fg _ (Sub.pick [(kLCodeLists47_1 b91 0 (0#64) (0#64)), (kLCodeLists38_0 b66 (((r59)[(((l')[(i8_).toNat]!).1).toNat]!).1) (((r59)[(((l')[(i8_).toNat]!).1).toNat]!).2.1) (((r59)[(((l')[(i8_).toNat]!).1).toNat]!).2.2.1) (((r59)[(((l')[(i8_).toNat]!).1).toNat]!).2.2.2.1) (((r59)[(((l')[(i8_).toNat]!).1).toNat]!).2.2.2.2.1) (((r59)[(((l')[(i8_).toNat]!).1).toNat]!).2.2.2.2.2.1) (((r59)[(((l')[(i8_).toNat]!).1).toNat]!).2.2.2.2.2.2.1) (((r59)[(((l')[(i8_).toNat]!).1).toNat]!).2.2.2.2.2.2.2.1) (((r59)[(((l')[(i8_).toNat]!).1).toNat]!).2.2.2.2.2.2.2.2)), S12] [2] rfl) ?_
   exact ⟨n45 + 1, by omega, n45, (i8_ + 1), hM, is_mk rfl rfl, rfl⟩
  ·replace hM := Sum31.on_t54 hx69 hM
   refine r_W (vT #[vA #[vI 0, U (0#64), U (0#64)], vB false]) rfl (ev_taC ((rfl : _ = Sum31.v ((r9.1)[(i8_).toNat]!)).trans (show Sum31.v ((r9.1)[(i8_).toNat]!) = Value.iface 54 (vA #[vI x79_0, vI x80_1]) from by rw [hx69]; rfl)) rfl) ?_
   refine r_R [vT #[vA #[vI 0, U (0#64), U (0#64)], vB false], vA #[vI 0, U (0#64), U (0#64)], vB false] rfl <| r_a (47, #[vI 0, U (0#64), U (0#64)]) rfl rfl rfl (fun b91 => ?_) (.inr rfl)
   refine r_s (List.flatten [(kLCodeLists47_1 b91 0 (0#64) (0#64)), (kLCodeLists38_0 b66 (((r59)[(((l')[(i8_).toNat]!).1).toNat]!).1) (((r59)[(((l')[(i8_).toNat]!).1).toNat]!).2.1) (((r59)[(((l')[(i8_).toNat]!).1).toNat]!).2.2.1) (((r59)[(((l')[(i8_).toNat]!).1).toNat]!).2.2.2.1) (((r59)[(((l')[(i8_).toNat]!).1).toNat]!).2.2.2.2.1) (((r59)[(((l')[(i8_).toNat]!).1).toNat]!).2.2.2.2.2.1) (((r59)[(((l')[(i8_).toNat]!).1).toNat]!).2.2.2.2.2.2.1) (((r59)[(((l')[(i8_).toNat]!).1).toNat]!).2.2.2.2.2.2.2.1) (((r59)[(((l')[(i8_).toNat]!).1).toNat]!).2.2.2.2.2.2.2.2)), S12]) 0 _ _ _ _ _ (#[vI 0, U (0#64), U (0#64)]) rfl rfl rfl rfl (.of rfl rfl) rfl rfl ?_
   refine r_V (vB false) rfl <| lx_nil <| hK67 _ _ ?_; try clear hK67 K67
   refine A_seq fun K92 hK92 => A_draw [] (by decide +kernel) (fun hn => sep_nil) <| r_R [vB false, vB false, none, none, none, none, none, none, none, vB false, vB false, vB false, vP b66 8] rfl <| r_y rfl <| r_l (vS (((r59)[(((l')[(i8_).toNat]!).1).toNat]!).2.2.2.2.2.2.2.2)) 1 _ _ _ _ rfl rfl rfl rfl rfl <| r_y rfl <| r_W (vB ((((r59)[(((l')[(i8_).toNat]!).1).toNat]!).2.2.2.2.2.2.2.2) == ([80, 117, 115, 104] : List UInt8))) rfl (ev_eqS rfl rfl) <| r_y rfl <| r_W (vB (false != ((((r59)[(((l')[(i8_).toNat]!).1).toNat]!).2.2.2.2.2.2.2.2) == ([80, 117, 115, 104] : List UInt8)))) rfl (ev_binBn rfl rfl rfl) ?_
   refine r_V (vB (false != ((((r59)[(((l')[(i8_).toNat]!).1).toNat]!).2.2.2.2.2.2.2.2) == ([80, 117, 115, 104] : List UInt8)))) rfl <| lx_nil <| hK92 _ _ ?_; try clear hK92 K92
   refine A_gen [(0, l'v), (3, s11), (10, vI i8_), (173, vB (false != ((((r59)[(((l')[(i8_).toNat]!).1).toNat]!).2.2.2.2.2.2.2.2) == ([80, 117, 115, 104] : List UInt8))))] rfl (fun T => ?_)
   refine A_cond (false != ((((r59)[(((l')[(i8_).toNat]!).1).toNat]!).2.2.2.2.2.2.2.2) == ([80, 117, 115, 104] : List UInt8))) rfl (fun hc93 => ?_) (fun hc93 => ?_)
   ·replace hM := ifp (bne_iff_ne.1 hc93) hM
    refine A_sr <| r_V (vB false) rfl <| lx_nil ?_
    obtain rfl := Option.some.inj hM
    refine A_ret (fun hn => endsV (v0 := vB false) rfl (res1 rfl))
   replace hM := ifn (bne_f hc93) hM
   refine A_skip <| hK49 _ _ ?_; try clear hK49 K49
   refine A_reg <| r_V (vI i8_) rfl ?_
   obtain ⟨ck95, hM⟩ := ck_some hM
   refine r_X (vI (i8_ + 1)) rfl (wi64 rfl ck95.1 ck95.2) rfl <| r_V (vI (i8_ + 1)) rfl <| lx_nil ?_
   refine fg _ (Sub.pick [(kLCodeLists47_1 b91 0 (0#64) (0#64)), (kLCodeLists38_0 b66 (((r59)[(((l')[(i8_).toNat]!).1).toNat]!).1) (((r59)[(((l')[(i8_).toNat]!).1).toNat]!).2.1) (((r59)[(((l')[(i8_).toNat]!).1).toNat]!).2.2.1) (((r59)[(((l')[(i8_).toNat]!).1).toNat]!).2.2.2.1) (((r59)[(((l')[(i8_).toNat]!).1).toNat]!).2.2.2.2.1) (((r59)[(((l')[(i8_).toNat]!).1).toNat]!).2.2.2.2.2.1) (((r59)[(((l')[(i8_).toNat]!).1).toNat]!).2.2.2.2.2.2.1) (((r59)[(((l')[(i8_).toNat]!).1).toNat]!).2.2.2.2.2.2.2.1) (((r59)[(((l')[(i8_).toNat]!).1).toNat]!).2.2.2.2.2.2.2.2)), S12] [2] rfl) ?_
   exact ⟨n45 + 1, by omega, n45, (i8_ + 1), hM, is_mk rfl rfl, rfl⟩
  ·replace hM := Sum31.on_t56 hx69 hM
   refine r_W (vT #[vA #[vI 0, U (0#64), U (0#64)], vB false]) rfl (ev_taC ((rfl : _ = Sum31.v ((r9.1)[(i8_).toNat]!)).trans (show Sum31.v ((r9.1)[(i8_).toNat]!) = Value.iface 56 (vA #[vI x81_0, vI x82_1, vI x83_2]) from by rw [hx69]; rfl)) rfl) ?_
   refine r_R [vT #[vA #[vI 0, U (0#64), U (0#64)], vB false], vA #[vI 0, U (0#64), U (0#64)], vB false] rfl <| r_a (47, #[vI 0, U (0#64), U (0#64)]) rfl rfl rfl (fun b91 => ?_) (.inr rfl)
   refine r_s (List.flatten [(kLCodeLists47_1 b91 0 (0#64) (0#64)), (kLCodeLists38_0 b66 (((r59)[(((l')[(i8_).toNat]!).1).toNat]!).1) (((r59)[(((l')[(i8_).toNat]!).1).toNat]!).2.1) (((r59)[(((l')[(i8_).toNat]!).1).toNat]!).2.2.1) (((r59)[(((l')[(i8_).toNat]!).1).toNat]!).2.2.2.1) (((r59)[(((l')[(i8_).toNat]!).1).toNat]!).2.2.2.2.1) (((r59)[(((l')[(i8_).toNat]!).1).toNat]!).2.2.2.2.2.1) (((r59)[(((l')[(i8_).toNat]!).1).toNat]!).2.2.2.2.2.2.1) (((r59)[(((l')[(i8_).toNat]!).1).toNat]!).2.2.2.2.2.2.2.1) (((r59)[(((l')[(i8_).toNat]!).1).toNat]!).2.2.2.2.2.2.2.2)), S12]) 0 _ _ _ _ _ (#[vI 0, U (0#64), U (0#64)]) rfl rfl rfl rfl (.of rfl rfl) rfl rfl ?_
   refine r_V (vB false) rfl <| lx_nil <| hK67 _ _ ?_; try clear hK67 K67
   refine A_seq fun K92 hK92 => A_draw [] (by decide +kernel) (fun hn => sep_nil) <| r_R [vB false, vB false, none, none, none, none, none, none, none, vB false, vB false, vB false, vP b66 8] rfl <| r_y rfl <| r_l (vS (((r59)[(((l')[(i8_).toNat]!).1).toNat]!).2.2.2.2.2.2.2.2)) 1 _ _ _ _ rfl rfl rfl rfl rfl <| r_y rfl <| r_W (vB ((((r59)[(((l')[(i8_).toNat]!).1).toNat]!).2.2.2.2.2.2.2.2) == ([80, 117, 115, 104] : List UInt8))) rfl (ev_eqS rfl rfl) <| r_y rfl <| r_W (vB (false != ((((r59)[(((l')[(i8_).toNat]!).1).toNat]!).2.2.2.2.2.2.2.2) == ([80, 117, 115, 104] : List UInt8)))) rfl (ev_binBn rfl rfl rfl) ?_
   refine r_V (vB (false != ((((r59)[(((l')[(i8_).toNat]!).1).toNat]!).2.2.2.2.2.2.2.2) == ([80, 117, 115, 104] : List UInt8)))) rfl <| lx_nil <| hK92 _ _ ?_; try clear hK92 K92
   refine A_gen [(0, l'v), (3, s11), (10, vI i8_), (173, vB (false != ((((r59)[(((l')[(i8_).toNat]!).1).toNat]!).2.2.2.2.2.2.2.2) == ([80, 117, 115, 104] : List UInt8))))] rfl (fun T => ?_)
   refine A_cond (false != ((((r59)[(((l')[(i8_).toNat]!).1).toNat]!).2.2.2.2.2.2.2.2) == ([80, 117, 115, 104] : List UInt8))) rfl (fun hc93 => ?_) (fun hc93 => ?_)
   ·replace hM := ifp (bne_iff_ne.1 hc93) hM
    refine A_sr <| r_V (vB false) rfl <| lx_nil ?_
    obtain rfl := Option.some.inj hM
    refine A_ret (fun hn => endsV (v0 := vB false) rfl (res1 rfl))
   replace hM := ifn (bne_f hc93) hM
   refine A_skip <| hK49 _ _ ?_; try clear hK49 K49
   refine A_reg <| r_V (vI i8_) rfl ?_
   obtain ⟨ck95, hM⟩ := ck_some hM
   refine r_X (vI (i8_ + 1)) rfl (wi64 rfl ck95.1 ck95.2) rfl <| r_V (vI (i8_ + 1)) rfl <| lx_nil ?_
   refine fg _ (Sub.pick [(kLCodeLists47_1 b91 0 (0#64) (0#64)), (kLCodeLists38_0 b66 (((r59)[(((l')[(i8_).toNat]!).1).toNat]!).1) (((r59)[(((l')[(i8_).toNat]!).1).toNat]!).2.1) (((r59)[(((l')[(i8_).toNat]!).1).toNat]!).2.2.1) (((r59)[(((l')[(i8_).toNat]!).1).toNat]!).2.2.2.1) (((r59)[(((l')[(i8_).toNat]!).1).toNat]!).2.2.2.2.1) (((r59)[(((l')[(i8_).toNat]!).1).toNat]!).2.2.2.2.2.1) (((r59)[(((l')[(i8_).toNat]!).1).toNat]!).2.2.2.2.2.2.1) (((r59)[(((l')[(i8_).toNat]!).1).toNat]!).2.2.2.2.2.2.2.1) (((r59)[(((l')[(i8_).toNat]!).1).toNat]!).2.2.2.2.2.2.2.2)), S12] [2] rfl) ?_
   exact ⟨n45 + 1, by omega, n45, (i8_ + 1), hM, is_mk rfl rfl, rfl⟩
  ·replace hM := Sum31.on_t58 hx69 hM
   refine r_W (vT #[vA #[vI 0, U (0#64), U (0#64)], vB false]) rfl (ev_taC ((rfl : _ = Sum31.v ((r9.1)[(i8_).toNat]!)).trans (show Sum31.v ((r9.1)[(i8_).toNat]!) = Value.iface 58 (vA #[vI x84_0, vI x85_1]) from by rw [hx69]; rfl)) rfl) ?_
   refine r_R [vT #[vA #[vI 0, U (0#64), U (0#64)], vB false], vA #[vI 0, U (0#64), U (0#64)], vB false] rfl <| r_a (47, #[vI 0, U (0#64), U (0#64)]) rfl rfl rfl (fun b91 => ?_) (.inr rfl)
   refine r_s (List.flatten [(kLCodeLists47_1 b91 0 (0#64) (0#64)), (kLCodeLists38_0 b66 (((r59)[(((l')[(i8_).toNat]!).1).toNat]!).1) (((r59)[(((l')[(i8_).toNat]!).1).toNat]!).2.1) (((r59)[(((l')[(i8_).toNat]!).1).toNat]!).2.2.1) (((r59)[(((l')[(i8_).toNat]!).1).toNat]!).2.2.2.1) (((r59)[(((l')[(i8_).toNat]!).1).toNat]!).2.2.2.2.1) (((r59)[(((l')[(i8_).toNat]!).1).toNat]!).2.2.2.2.2.1) (((r59)[(((l')[(i8_).toNat]!).1).toNat]!).2.2.2.2.2.2.1) (((r59)[(((l')[(i8_).toNat]!).1).toNat]!).2.2.2.2.2.2.2.1) (((r59)[(((l')[(i8_).toNat]!).1).toNat]!).2.2.2.2.2.2.2.2)), S12]) 0 _ _ _ _ _ (#[vI 0, U (0#64), U (0#64)]) rfl rfl rfl rfl (.of rfl rfl) rfl rfl ?_
   refine r_V (vB false) rfl <| lx_nil <| hK67 _ _ ?_; try clear hK67 K67
   refine A_seq fun K92 hK92 => A_draw [] (by decide +kernel) (fun hn => sep_nil) <| r_R [vB false, vB false, none, none, none, none, none, none, none, vB false, vB false, vB false, vP b66 8] rfl <| r_y rfl <| r_l (vS (((r59)[(((l')[(i8_).toNat]!).1).toNat]!).2.2.2.2.2.2.2.2)) 1 _ _ _ _ rfl rfl rfl rfl rfl <| r_y rfl <| r_W (vB ((((r59)[(((l')[(i8_).toNat]!).1).toNat]!).2.2.2.2.2.2.2.2) == ([80, 117, 115, 104] : List UInt8))) rfl (ev_eqS rfl rfl) <| r_y rfl <| r_W (vB (false != ((((r59)[(((l')[(i8_).toNat]!).1).toNat]!).2.2.2.2.2.2.2.2) == ([80, 117, 115, 104] : List UInt8)))) rfl (ev_binBn rfl rfl rfl) ?_
   refine r_V (vB (false != ((((r59)[(((l')[(i8_).toNat]!).1).toNat]!).2.2.2.2.2.2.2.2) == ([80, 117, 115, 104] : List UInt8)))) rfl <| lx_nil <| hK92 _ _ ?_; try clear hK92 K92
   refine A_gen [(0, l'v), (3, s11), (10, vI i8_), (173, vB (false != ((((r59)[(((l')[(i8_).toNat]!).1).toNat]!).2.2.2.2.2.2.2.2) == ([80, 117, 115, 104] : List UInt8))))] rfl (fun T => ?_)
   refine A_cond (false != ((((r59)[(((l')[(i8_).toNat]!).1).toNat]!).2.2.2.2.2.2.2.2) == ([80, 117, 115, 104] : List UInt8))) rfl (fun hc93 => ?_) (fun hc93 => ?_)
   ·replace hM := ifp (bne_iff_ne.1 hc93) hM
    refine A_sr <| r_V (vB false) rfl <| lx_nil ?_
    obtain rfl := Option.some.inj hM
    refine A_ret (fun hn => endsV (v0 := vB false) rfl (res1 rfl))
   replace hM := ifn (bne_f hc93) hM
   refine A_skip <| hK49 _ _ ?_; try clear hK49 K49
   refine A_reg <| r_V (vI i8_) rfl ?_
   obtain ⟨ck95, hM⟩ := ck_some hM
   refine r_X (vI (i8_ + 1)) rfl (wi64 rfl ck95.1 ck95.2) rfl <| r_V (vI (i8_ + 1)) rfl <| lx_nil ?_
   refine fg _ (Sub.pick [(kLCodeLists47_1 b91 0 (0#64) (0#64)), (kLCodeLists38_0 b66 (((r59)[(((l')[(i8_).toNat]!).1).toNat]!).1) (((r59)[(((l')[(i8_).toNat]!).1).toNat]!).2.1) (((r59)[(((l')[(i8_).toNat]!).1).toNat]!).2.2.1) (((r59)[(((l')[(i8_).toNat]!).1).toNat]!).2.2.2.1) (((r59)[(((l')[(i8_).toNat]!).1).toNat]!).2.2.2.2.1) (((r59)[(((l')[(i8_).toNat]!).1).toNat]!).2.2.2.2.2.1) (((r59)[(((l')[(i8_).toNat]!).1).toNat]!).2.2.2.2.2.2.1) (((r59)[(((l')[(i8_).toNat]!).1).toNat]!).2.2.2.2.2.2.2.1) (((r59)[(((l')[(i8_).toNat]!).1).toNat]!).2.2.2.2.2.2.2.2)), S12] [2] rfl) ?_
   exact ⟨n45 + 1, by omega, n45, (i8_ + 1), hM, is_mk rfl rfl, rfl⟩
  ·replace hM := Sum31.on_t60 hx69 hM
   refine r_W (vT #[vA #[vI 0, U (0#64), U (0#64)], vB false]) rfl (ev_taC ((rfl : _ = Sum31.v ((r9.1)[(i8_).toNat]!)).trans (show Sum31.v ((r9.1)[(i8_).toNat]!) = Value.iface 60 (vA #[vI x86_0]) from by rw [hx69]; rfl)) rfl) ?_
   refine r_R [vT #[vA #[vI 0, U (0#64), U (0#64)], vB false], vA #[vI 0, U (0#64), U (0#64)], vB false] rfl <| r_a (47, #[vI 0, U (0#64), U (0#64)]) rfl rfl rfl (fun b91 => ?_) (.inr rfl)
   refine r_s (List.flatten [(kLCodeLists47_1 b91 0 (0#64) (0#64)), (kLCodeLists38_0 b66 (((r59)[(((l')[(i8_).toNat]!).1).toNat]!).1) (((r59)[(((l')[(i8_).toNat]!).1).toNat]!).2.1) (((r59)[(((l')[(i8_).toNat]!).1).toNat]!).2.2.1) (((r59)[(((l')[(i8_).toNat]!).1).toNat]!).2.2.2.1) (((r59)[(((l')[(i8_).toNat]!).1).toNat]!).2.2.2.2.1) (((r59)[(((l')[(i8_).toNat]!).1).toNat]!).2.2.2.2.2.1) (((r59)[(((l')[(i8_).toNat]!).1).toNat]!).2.2.2.2.2.2.1) (((r59)[(((l')[(i8_).toNat]!).1).toNat]!).2.2.2.2.2.2.2.1) (((r59)[(((l')[(i8_).toNat]!).1).toNat]!).2.2.2.2.2.2.2.2)), S12]) 0 _ _ _ _ _ (#[vI 0, U (0#64), U (0#64)]) rfl rfl rfl rfl (.of rfl rfl) rfl rfl ?_
   refine r_V (vB false) rfl <| lx_nil <| hK67 _ _ ?_; try clear hK67 K67
   refine A_seq fun K92 hK92 => A_draw [] (by decide +kernel) (fun hn => sep_nil) <| r_R [vB false, vB false, none, none, none, none, none, none, none, vB false, vB false, vB false, vP b66 8] rfl <| r_y rfl <| r_l (vS (((r59)[(((l')[(i8_).toNat]!).1).toNat]!).2.2.2.2.2.2.2.2)) 1 _ _ _ _ rfl rfl rfl rfl rfl <| r_y rfl <| r_W (vB ((((r59)[(((l')[(i8_).toNat]!).1).toNat]!).2.2.2.2.2.2.2.2) == ([80, 117, 115, 104] : List UInt8))) rfl (ev_eqS rfl rfl) <| r_y rfl <| r_W (vB (false != ((((r59)[(((l')[(i8_).toNat]!).1).toNat]!).2.2.2.2.2.2.2.2) == ([80, 117, 115, 104] : List UInt8)))) rfl (ev_binBn rfl rfl rfl) ?_
   refine r_V (vB (false != ((((r59)[(((l')[(i8_).toNat]!).1).toNat]!).2.2.2.2.2.2.2.2) == ([80, 117, 115, 104] : List UInt8)))) rfl <| lx_nil <| hK92 _ _ ?_; try clear hK92 K92
   refine A_gen [(0, l'v), (3, s11), (10, vI i8_), (173, vB (false != ((((r59)[(((l')[(i8_).toNat]!).1).toNat]!).2.2.2.2.2.2.2.2) == ([80, 117, 115, 104] : List UInt8))))] rfl (fun T => ?_)
   refine A_cond (false != ((((r59)[(((l')[(i8_).toNat]!).1).toNat]!).2.2.2.2.2.2.2.2) == ([80, 117, 115, 104] : List UInt8))) rfl (fun hc93 => ?_) (fun hc93 => ?_)
   ·replace hM := ifp (bne_iff_ne.1 hc93) hM
    refine A_sr <| r_V (vB false) rfl <| lx_nil ?_
    obtain rfl := Option.some.inj hM
    refine A_ret (fun hn => endsV (v0 := vB false) rfl (res1 rfl))
   replace hM := ifn (bne_f hc93) hM
   refine A_skip <| hK49 _ _ ?_; try clear hK49 K49
   refine A_reg <| r_V (vI i8_) rfl ?_
   obtain ⟨ck95, hM⟩ := ck_some hM
   refine r_X (vI (i8_ + 1)) rfl (wi64 rfl ck95.1 ck95.2) rfl <| r_V (vI (i8_ + 1)) rfl <| lx_nil ?_
   refine fg _ (Sub.pick [(kLCodeLists47_1 b91 0 (0#64) (0#64)), (kLCodeLists38_0 b66 (((r59)[(((l')[(i8_).toNat]!).1).toNat]!).1) (((r59)[(((l')[(i8_).toNat]!).1).toNat]!).2.1) (((r59)[(((l')[(i8_).toNat]!).1).toNat]!).2.2.1) (((r59)[(((l')[(i8_).toNat]!).1).toNat]!).2.2.2.1) (((r59)[(((l')[(i8_).toNat]!).1).toNat]!).2.2.2.2.1) (((r59)[(((l')[(i8_).toNat]!).1).toNat]!).2.2.2.2.2.1) (((r59)[(((l')[(i8_).toNat]!).1).toNat]!).2.2.2.2.2.2.1) (((r59)[(((l')[(i8_).toNat]!).1).toNat]!).2.2.2.2.2.2.2.1) (((r59)[(((l')[(i8_).toNat]!).1).toNat]!).2.2.2.2.2.2.2.2)), S12] [2] rfl) ?_
   exact ⟨n45 + 1, by omega, n45, (i8_ + 1), hM, is_mk rfl rfl, rfl⟩
  ·replace hM := Sum31.on_t86 hx69 hM
   refine r_W (vT #[vA #[vI 0, U (0#64), U (0#64)], vB false]) rfl (ev_taC ((rfl : _ = Sum31.v ((r9.1)[(i8_).toNat]!)).trans (show Sum31.v ((r9.1)[(i8_).toNat]!) = Value.iface 86 (vA #[vI x87_0, vI x88_1]) from by rw [hx69]; rfl)) rfl) ?_
   refine r_R [vT #[vA #[vI 0, U (0#64), U (0#64)], vB false], vA #[vI 0, U (0#64), U (0#64)], vB false] rfl <| r_a (47, #[vI 0, U (0#64), U (0#64)]) rfl rfl rfl (fun b91 => ?_) (.inr rfl)
   refine r_s (List.flatten [(kLCodeLists47_1 b91 0 (0#64) (0#64)), (kLCodeLists38_0 b66 (((r59)[(((l')[(i8_).toNat]!).1).toNat]!).1) (((r59)[(((l')[(i8_).toNat]!).1).toNat]!).2.1) (((r59)[(((l')[(i8_).toNat]!).1).toNat]!).2.2.1) (((r59)[(((l')[(i8_).toNat]!).1).toNat]!).2.2.2.1) (((r59)[(((l')[(i8_).toNat]!).1).toNat]!).2.2.2.2.1) (((r59)[(((l')[(i8_).toNat]!).1).toNat]!).2.2.2.2.2.1) (((r59)[(((l')[(i8_).toNat]!).1).toNat]!).2.2.2.2.2.2.1) (((r59)[(((l')[(i8_).toNat]!).1).toNat]!).2.2.2.2.2.2.2.1) (((r59)[(((l')[(i8_).toNat]!).1).toNat]!).2.2.2.2.2.2.2.2)), S12]) 0 _ _ _ _ _ (#[vI 0, U (0#64), U (0#64)]) rfl rfl rfl rfl (.of rfl rfl) rfl rfl ?_
   refine r_V (vB false) rfl <| lx_nil <| hK67 _ _ ?_; try clear hK67 K67
   refine A_seq fun K92 hK92 => A_draw [] (by decide +kernel) (fun hn => sep_nil) <| r_R [vB false, vB false, none, none, none, none, none, none, none, vB false, vB false, vB false, vP b66 8] rfl <| r_y rfl <| r_l (vS (((r59)[(((l')[(i8_).toNat]!).1).toNat]!).2.2.2.2.2.2.2.2)) 1 _ _ _ _ rfl rfl rfl rfl rfl <| r_y rfl <| r_W (vB ((((r59)[(((l')[(i8_).toNat]!).1).toNat]!).2.2.2.2.2.2.2.2) == ([80, 117, 115, 104] : List UInt8))) rfl (ev_eqS rfl rfl) <| r_y rfl <| r_W (vB (false != ((((r59)[(((l')[(i8_).toNat]!).1).toNat]!).2.2.2.2.2.2.2.2) == ([80, 117, 115, 104] : List UInt8)))) rfl (ev_binBn rfl rfl rfl) ?_
   refine r_V (vB (false != ((((r59)[(((l')[(i8_).toNat]!).1).toNat]!).2.2.2.2.2.2.2.2) == ([80, 117, 115, 104] : List UInt8)))) rfl <| lx_nil <| hK92 _ _ ?_; try clear hK92 K92
   refine A_gen [(0, l'v), (3, s11), (10, vI i8_), (173, vB (false != ((((r59)[(((l')[(i8_).toNat]!).1).toNat]!).2.2.2.2.2.2.2.2) == ([80, 117, 115, 104] : List UInt8))))] rfl (fun T => ?_)
   refine A_cond (false != ((((r59)[(((l')[(i8_).toNat]!).1).toNat]!).2.2.2.2.2.2.2.2) == ([80, 117, 115, 104] : List UInt8))) rfl (fun hc93 => ?_) (fun hc93 => ?_)
   ·replace hM := ifp (bne_iff_ne.1 hc93) hM
    refine A_sr <| r_V (vB false) rfl <| lx_nil ?_
    obtain rfl := Option.some.inj hM
    refine A_ret (fun hn => endsV (v0 := vB false) rfl (res1 rfl))
   replace hM := ifn (bne_f hc93) hM
   refine A_skip <| hK49 _ _ ?_; try clear hK49 K49
   refine A_reg <| r_V (vI i8_) rfl ?_
   obtain ⟨ck95, hM⟩ := ck_some hM
   refine r_X (vI (i8_ + 1)) rfl (wi64 rfl ck95.1 ck95.2) rfl <| r_V (vI (i8_ + 1)) rfl <| lx_nil ?_
   refine fg _ (Sub.pick [(kLCodeLists47_1 b91 0 (0#64) (0#64)), (kLCodeLists38_0 b66 (((r59)[(((l')[(i8_).toNat]!).1).toNat]!).1) (((r59)[(((l')[(i8_).toNat]!).1).toNat]!).2.1) (((r59)[(((l')[(i8_).toNat]!).1).toNat]!).2.2.1) (((r59)[(((l')[(i8_).toNat]!).1).toNat]!).2.2.2.1) (((r59)[(((l')[(i8_).toNat]!).1).toNat]!).2.2.2.2.1) (((r59)[(((l')[(i8_).toNat]!).1).toNat]!).2.2.2.2.2.1) (((r59)[(((l')[(i8_).toNat]!).1).toNat]!).2.2.2.2.2.2.1) (((r59)[(((l')[(i8_).toNat]!).1).toNat]!).2.2.2.2.2.2.2.1) (((r59)[(((l')[(i8_).toNat]!).1).toNat]!).2.2.2.2.2.2.2.2)), S12] [2] rfl) ?_
   exact ⟨n45 + 1, by omega, n45, (i8_ + 1), hM, is_mk rfl rfl, rfl⟩
  ·replace hM := Sum31.on_t88 hx69 hM
   refine r_W (vT #[vA #[vI 0, U (0#64), U (0#64)], vB false]) rfl (ev_taC ((rfl : _ = Sum31.v ((r9.1)[(i8_).toNat]!)).trans (show Sum31.v ((r9.1)[(i8_).toNat]!) = Value.iface 88 (vA #[vI x89_0, vI x90_1]) from by rw [hx69]; rfl)) rfl) ?_
   refine r_R [vT #[vA #[vI 0, U (0#64), U (0#64)], vB false], vA #[vI 0, U (0#64), U (0#64)], vB false] rfl <| r_a (47, #[vI 0, U (0#64), U (0#64)]) rfl rfl rfl (fun b91 => ?_) (.inr rfl)
   refine r_s (List.flatten [(kLCodeLists47_1 b91 0 (0#64) (0#64)), (kLCodeLists38_0 b66 (((r59)[(((l')[(i8_).toNat]!).1).toNat]!).1) (((r59)[(((l')[(i8_).toNat]!).1).toNat]!).2.1) (((r59)[(((l')[(i8_).toNat]!).1).toNat]!).2.2.1) (((r59)[(((l')[(i8_).toNat]!).1).toNat]!).2.2.2.1) (((r59)[(((l')[(i8_).toNat]!).1).toNat]!).2.2.2.2.1) (((r59)[(((l')[(i8_).toNat]!).1).toNat]!).2.2.2.2.2.1) (((r59)[(((l')[(i8_).toNat]!).1).toNat]!).2.2.2.2.2.2.1) (((r59)[(((l')[(i8_).toNat]!).1).toNat]!).2.2.2.2.2.2.2.1) (((r59)[(((l')[(i8_).toNat]!).1).toNat]!).2.2.2.2.2.2.2.2)), S12]) 0 _ _ _ _ _ (#[vI 0, U (0#64), U (0#64)]) rfl rfl rfl rfl (.of rfl rfl) rfl rfl ?_
   refine r_V (vB false) rfl <| lx_nil <| hK67 _ _ ?_; try clear hK67 K67
   refine A_seq fun K92 hK92 => A_draw [] (by decide +kernel) (fun hn => sep_nil) <| r_R [vB false, vB false, none, none, none, none, none, none, none, vB false, vB false, vB false, vP b66 8] rfl <| r_y rfl <| r_l (vS (((r59)[(((l')[(i8_).toNat]!).1).toNat]!).2.2.2.2.2.2.2.2)) 1 _ _ _ _ rfl rfl rfl rfl rfl <| r_y rfl <| r_W (vB ((((r59)[(((l')[(i8_).toNat]!).1).toNat]!).2.2.2.2.2.2.2.2) == ([80, 117, 115, 104] : List UInt8))) rfl (ev_eqS rfl rfl) <| r_y rfl <| r_W (vB (false != ((((r59)[(((l')[(i8_).toNat]!).1).toNat]!).2.2.2.2.2.2.2.2) == ([80, 117, 115, 104] : List UInt8)))) rfl (ev_binBn rfl rfl rfl) ?_
   refine r_V (vB (false != ((((r59)[(((l')[(i8_).toNat]!).1).toNat]!).2.2.2.2.2.2.2.2) == ([80, 117, 115, 104] : List UInt8)))) rfl <| lx_nil <| hK92 _ _ ?_; try clear hK92 K92
   refine A_gen [(0, l'v), (3, s11), (10, vI i8_), (173, vB (false != ((((r59)[(((l')[(i8_).toNat]!).1).toNat]!).2.2.2.2.2.2.2.2) == ([80, 117, 115, 104] : List UInt8))))] rfl (fun T => ?_)
   refine A_cond (false != ((((r59)[(((l')[(i8_).toNat]!).1).toNat]!).2.2.2.2.2.2.2.2) == ([80, 117, 115, 104] : List UInt8))) rfl (fun hc93 => ?_) (fun hc93 => ?_)
   ·replace hM := ifp (bne_iff_ne.1 hc93) hM
    refine A_sr <| r_V (vB false) rfl <| lx_nil ?_
    obtain rfl := Option.some.inj hM
    refine A_ret (fun hn => endsV (v0 := vB false) rfl (res1 rfl))
   replace hM := ifn (bne_f hc93) hM
   refine A_skip <| hK49 _ _ ?_; try clear hK49 K49
   refine A_reg <| r_V (vI i8_) rfl ?_
   obtain ⟨ck95, hM⟩ := ck_some hM
   refine r_X (vI (i8_ + 1)) rfl (wi64 rfl ck95.1 ck95.2) rfl <| r_V (vI (i8_ + 1)) rfl <| lx_nil ?_
   refine fg _ (Sub.pick [(kLCodeLists47_1 b91 0 (0#64) (0#64)), (kLCodeLists38_0 b66 (((r59)[(((l')[(i8_).toNat]!).1).toNat]!).1) (((r59)[(((l')[(i8_).toNat]!).1).toNat]!).2.1) (((r59)[(((l')[(i8_).toNat]!).1).toNat]!).2.2.1) (((r59)[(((l')[(i8_).toNat]!).1).toNat]!).2.2.2.1) (((r59)[(((l')[(i8_).toNat]!).1).toNat]!).2.2.2.2.1) (((r59)[(((l')[(i8_).toNat]!).1).toNat]!).2.2.2.2.2.1) (((r59)[(((l')[(i8_).toNat]!).1).toNat]!).2.2.2.2.2.2.1) (((r59)[(((l')[(i8_).toNat]!).1).toNat]!).2.2.2.2.2.2.2.1) (((r59)[(((l')[(i8_).toNat]!).1).toNat]!).2.2.2.2.2.2.2.2)), S12] [2] rfl) ?_
   exact ⟨n45 + 1, by omega, n45, (i8_ + 1), hM, is_mk rfl rfl, rfl⟩
  replace hM := Sum31.on_t90 hx69 hM
  refine r_W (vT #[vA #[vI 0, U (0#64), U (0#64)], vB false]) rfl (ev_taC ((rfl : _ = Sum31.v ((r9.1)[(i8_).toNat]!)).trans (show Sum31.v ((r9.1)[(i8_).toNat]!) = Value.iface 90 (vA #[]) from by rw [hx69]; rfl)) rfl) ?_
  refine r_R [vT #[vA #[vI 0, U (0#64), U (0#64)], vB false], vA #[vI 0, U (0#64), U (0#64)], vB false] rfl <| r_a (47, #[vI 0, U (0#64), U (0#64)]) rfl rfl rfl (fun b91 => ?_) (.inr rfl)
  refine r_s (List.flatten [(kLCodeLists47_1 b91 0 (0#64) (0#64)), (kLCodeLists38_0 b66 (((r59)[(((l')[(i8_).toNat]!).1).toNat]!).1) (((r59)[(((l')[(i8_).toNat]!).1).toNat]!).2.1) (((r59)[(((l')[(i8_).toNat]!).1).toNat]!).2.2.1) (((r59)[(((l')[(i8_).toNat]!).1).toNat]!).2.2.2.1) (((r59)[(((l')[(i8_).toNat]!).1).toNat]!).2.2.2.2.1) (((r59)[(((l')[(i8_).toNat]!).1).toNat]!).2.2.2.2.2.1) (((r59)[(((l')[(i8_).toNat]!).1).toNat]!).2.2.2.2.2.2.1) (((r59)[(((l')[(i8_).toNat]!).1).toNat]!).2.2.2.2.2.2.2.1) (((r59)[(((l')[(i8_).toNat]!).1).toNat]!).2.2.2.2.2.2.2.2)), S12]) 0 _ _ _ _ _ (#[vI 0, U (0#64), U (0#64)]) rfl rfl rfl rfl (.of rfl rfl) rfl rfl ?_
  refine r_V (vB false) rfl <| lx_nil <| hK67 _ _ ?_; try clear hK67 K67
  refine A_seq fun K92 hK92 => A_draw [] (by decide +kernel) (fun hn => sep_nil) <| r_R [vB false, vB false, none, none, none, none, none, none, none, vB false, vB false, vB false, vP b66 8] rfl <| r_y rfl <| r_l (vS (((r59)[(((l')[(i8_).toNat]!).1).toNat]!).2.2.2.2.2.2.2.2)) 1 _ _ _ _ rfl rfl rfl rfl rfl <| r_y rfl <| r_W (vB ((((r59)[(((l')[(i8_).toNat]!).1).toNat]!).2.2.2.2.2.2.2.2) == ([80, 117, 115, 104] : List UInt8))) rfl (ev_eqS rfl rfl) <| r_y rfl <| r_W (vB (false != ((((r59)[(((l')[(i8_).toNat]!).1).toNat]!).2.2.2.2.2.2.2.2) == ([80, 117, 115, 104] : List UInt8)))) rfl (ev_binBn rfl rfl rfl) ?_
  refine r_V (vB (false != ((((r59)[(((l')[(i8_).toNat]!).1).toNat]!).2.2.2.2.2.2.2.2) == ([80, 117, 115, 104] : List UInt8)))) rfl <| lx_nil <| hK92 _ _ ?_; try clear hK92 K92
  refine A_gen [(0, l'v), (3, s11), (10, vI i8_), (173, vB (false != ((((r59)[(((l')[(i8_).toNat]!).1).toNat]!).2.2.2.2.2.2.2.2) == ([80, 117, 115, 104] : List UInt8))))] rfl (fun T => ?_)
  refine A_cond (false != ((((r59)[(((l')[(i8_).toNat]!).1).toNat]!).2.2.2.2.2.2.2.2) == ([80, 117, 115, 104] : List UInt8))) rfl (fun hc93 => ?_) (fun hc93 => ?_)
  ·replace hM := ifp (bne_iff_ne.1 hc93) hM
   refine A_sr <| r_V (vB false) rfl <| lx_nil ?_
   obtain rfl := Option.some.inj hM
   refine A_ret (fun hn => endsV (v0 := vB false) rfl (res1 rfl))
  replace hM := ifn (bne_f hc93) hM
  refine A_skip <| hK49 _ _ ?_; try clear hK49 K49
  refine A_reg <| r_V (vI i8_) rfl ?_
  obtain ⟨ck95, hM⟩ := ck_some hM
  refine r_X (vI (i8_ + 1)) rfl (wi64 rfl ck95.1 ck95.2) rfl <| r_V (vI (i8_ + 1)) rfl <| lx_nil ?_
  refine fg _ (Sub.pick [(kLCodeLists47_1 b91 0 (0#64) (0#64)), (kLCodeLists38_0 b66 (((r59)[(((l')[(i8_).toNat]!).1).toNat]!).1) (((r59)[(((l')[(i8_).toNat]!).1).toNat]!).2.1) (((r59)[(((l')[(i8_).toNat]!).1).toNat]!).2.2.1) (((r59)[(((l')[(i8_).toNat]!).1).toNat]!).2.2.2.1) (((r59)[(((l')[(i8_).toNat]!).1).toNat]!).2.2.2.2.1) (((r59)[(((l')[(i8_).toNat]!).1).toNat]!).2.2.2.2.2.1) (((r59)[(((l')[(i8_).toNat]!).1).toNat]!).2.2.2.2.2.2.1) (((r59)[(((l')[(i8_).toNat]!).1).toNat]!).2.2.2.2.2.2.2.1) (((r59)[(((l')[(i8_).toNat]!).1).toNat]!).2.2.2.2.2.2.2.2)), S12] [2] rfl) ?_
  exact ⟨n45 + 1, by omega, n45, (i8_ + 1), hM, is_mk rfl rfl, rfl⟩
 replace hM := ifn (of_decide_eq_false hc48) hM
 refine A_exit <| hK43 _ _ ?_; try clear hK43 K43
 refine A_sc [(some 174, false)] (conG Tryd.prog [(174, fun _ _ v_ L_ U_ => ∀ u0_, shunterlaw09_lives_m N  = some u0_ → (pV (vB u0_)) v_ L_ U_)]) ?_
 obtain ⟨r113, hr114, hM⟩ := bind_sm hM
 refine r_gv (vB r113) 11 _ rfl rfl rfl (ev_callF rfl call_11 rfl) (fun own_ nw_ hs_ => shunterlaw09_lives_g N  _ hr114 hs_.view ) (conE hr114) <| r_V (vB r113) rfl <| lx_nil ?_
 obtain rfl := Option.some.inj hM
 refine A_ret (fun hn => endsV (v0 := vB r113) rfl (res1 rfl))
end Go.Proofs.YtmfedgmmgehmgaaDoor
