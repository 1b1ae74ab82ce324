/- models of functions and their walks -/
import Derived.Test.YtmdjifehblijkaaBd
namespace Go.Proofs.Ytmdjifehblijkaa
open Go Go.RowKit Go.Eng
def shunterlaw06_LexRemarks_l8 (N : Nat) (r26 : (List (Int × List UInt8 × Int × Int × BitVec 128 × Int)) × Sum25) (r35 : (List (Int × List UInt8 × Int × Int × BitVec 128 × Int)) × Sum25) (r48 : (List (Int × List UInt8 × Int × Int × BitVec 128 × Int)) × Sum25) : Nat → Int → Option (Bool)
  | 0, _ => none
  | n79 + 1, i7_ => if (i7_ : Int) < ((r35.1).length : Int) then ck ((-9223372036854775808 ≤ (((r26.1).length : Int) + i7_) ∧ (((r26.1).length : Int) + i7_) ≤ 9223372036854775807)) (ck (0 ≤ (((r26.1).length : Int) + i7_) ∧ (((r26.1).length : Int) + i7_) < ((r48.1).length : Int)) (ck (0 ≤ i7_ ∧ i7_ < ((r35.1).length : Int)) (if (((r48.1)[((((r26.1).length : Int) + i7_)).toNat]!).2.1) ≠ (((r35.1)[(i7_).toNat]!).2.1) then some (false) else ck ((-9223372036854775808 ≤ (((r26.1).length : Int) + i7_) ∧ (((r26.1).length : Int) + i7_) ≤ 9223372036854775807)) (ck (0 ≤ (((r26.1).length : Int) + i7_) ∧ (((r26.1).length : Int) + i7_) < ((r48.1).length : Int)) (ck (0 ≤ i7_ ∧ i7_ < ((r35.1).length : Int)) (if (((r48.1)[((((r26.1).length : Int) + i7_)).toNat]!).2.2.1 : Int) ≠ ((r35.1)[(i7_).toNat]!).2.2.1 then some (false) else ck ((-9223372036854775808 ≤ (((r26.1).length : Int) + i7_) ∧ (((r26.1).length : Int) + i7_) ≤ 9223372036854775807)) (ck (0 ≤ (((r26.1).length : Int) + i7_) ∧ (((r26.1).length : Int) + i7_) < ((r48.1).length : Int)) (ck (0 ≤ i7_ ∧ i7_ < ((r35.1).length : Int)) (if (((((r48.1)[((((r26.1).length : Int) + i7_)).toNat]!).2.2.2.1) == (((r35.1)[(i7_).toNat]!).2.2.2.1)) && ((((r48.1)[((((r26.1).length : Int) + i7_)).toNat]!).2.2.2.2.1) == (((r35.1)[(i7_).toNat]!).2.2.2.2.1))) = true then ck ((-9223372036854775808 ≤ (i7_ + 1) ∧ (i7_ + 1) ≤ 9223372036854775807)) ((shunterlaw06_LexRemarks_l8 N r26 r35 r48 n79) ((i7_ + 1))) else some (false)))))))))) else (shunterlaw06_lives_m N ).bind fun r102 => some (r102)
def shunterlaw06_LexRemarks_l6 (N : Nat) (r26 : (List (Int × List UInt8 × Int × Int × BitVec 128 × Int)) × Sum25) (r35 : (List (Int × List UInt8 × Int × Int × BitVec 128 × Int)) × Sum25) (r48 : (List (Int × List UInt8 × Int × Int × BitVec 128 × Int)) × Sum25) : Nat → Int → Option (Bool)
  | 0, _ => none
  | n58 + 1, i5_ => if (i5_ : Int) < ((r26.1).length : Int) then ck (0 ≤ i5_ ∧ i5_ < ((r48.1).length : Int)) (ck (0 ≤ i5_ ∧ i5_ < ((r26.1).length : Int)) (if (((r48.1)[(i5_).toNat]!).2.1) ≠ (((r26.1)[(i5_).toNat]!).2.1) then some (false) else ck (0 ≤ i5_ ∧ i5_ < ((r48.1).length : Int)) (ck (0 ≤ i5_ ∧ i5_ < ((r26.1).length : Int)) (if (((r48.1)[(i5_).toNat]!).2.2.1 : Int) ≠ ((r26.1)[(i5_).toNat]!).2.2.1 then some (false) else ck (0 ≤ i5_ ∧ i5_ < ((r48.1).length : Int)) (ck (0 ≤ i5_ ∧ i5_ < ((r26.1).length : Int)) (if (((r48.1)[(i5_).toNat]!).2.2.2.2.2 : Int) ≠ ((r26.1)[(i5_).toNat]!).2.2.2.2.2 then some (false) else ck ((-9223372036854775808 ≤ (i5_ + 1) ∧ (i5_ + 1) ≤ 9223372036854775807)) ((shunterlaw06_LexRemarks_l6 N r26 r35 r48 n58) ((i5_ + 1))))))))) else shunterlaw06_LexRemarks_l8 N r26 r35 r48 N (0)
def shunterlaw06_LexRemarks_k4 (N : Nat) (r26 : (List (Int × List UInt8 × Int × Int × BitVec 128 × Int)) × Sum25) (r35 : (List (Int × List UInt8 × Int × Int × BitVec 128 × Int)) × Sum25) (r48 : (List (Int × List UInt8 × Int × Int × BitVec 128 × Int)) × Sum25) : Option (Bool) := shunterlaw06_LexRemarks_l6 N r26 r35 r48 N (0)
def shunterlaw06_LexRemarks_k3 (N : Nat) (a : List UInt8) (b : List UInt8) (remark : List UInt8) (r26 : (List (Int × List UInt8 × Int × Int × BitVec 128 × Int)) × Sum25) (r35 : (List (Int × List UInt8 × Int × Int × BitVec 128 × Int)) × Sum25) : Option (Bool) := ck (((a).length : Int) + ((([10, 32, 9, 35] : List UInt8)).length : Int) ≤ 9223372036854775807) (ck ((((a) ++ (([10, 32, 9, 35] : List UInt8))).length : Int) + ((remark).length : Int) ≤ 9223372036854775807) (ck (((((a) ++ (([10, 32, 9, 35] : List UInt8))) ++ (remark)).length : Int) + ((([10, 13] : List UInt8)).length : Int) ≤ 9223372036854775807) (ck ((((((a) ++ (([10, 32, 9, 35] : List UInt8))) ++ (remark)) ++ (([10, 13] : List UInt8))).length : Int) + ((b).length : Int) ≤ 9223372036854775807) ((lex_Scan_m N (((((a) ++ (([10, 32, 9, 35] : List UInt8))) ++ (remark)) ++ (([10, 13] : List UInt8))) ++ (b))).bind fun r48 => Sum25.on r48.2 (ck ((-9223372036854775808 ≤ (((r26.1).length : Int) + ((r35.1).length : Int)) ∧ (((r26.1).length : Int) + ((r35.1).length : Int)) ≤ 9223372036854775807)) (if (((r48.1).length : Int) : Int) ≠ (((r26.1).length : Int) + ((r35.1).length : Int)) then some (false) else shunterlaw06_LexRemarks_k4 N r26 r35 r48 )) (fun x54_0 x55_1 => some (false))))))
def shunterlaw06_LexRemarks_l2 (N : Nat) (a : List UInt8) (b : List UInt8) (remark : List UInt8) : Nat → Int → Option (Bool)
  | 0, _ => none
  | n12 + 1, i1_ => if (i1_ : Int) < ((remark).length : Int) then ck ((0 : Int) ≤ i1_ ∧ i1_ < ((remark).length : Int)) (if ((byteAt (remark) (i1_)) : Int) = 10 then (shunterlaw06_lives_m N ).bind fun r21 => some (r21) else ck ((-9223372036854775808 ≤ (i1_ + 1) ∧ (i1_ + 1) ≤ 9223372036854775807)) ((shunterlaw06_LexRemarks_l2 N a b remark n12) ((i1_ + 1)))) else ck (((a).length : Int) + ((([10] : List UInt8)).length : Int) ≤ 9223372036854775807) ((lex_Scan_m N ((a) ++ (([10] : List UInt8)))).bind fun r26 => Sum25.on r26.2 ((lex_Scan_m N b).bind fun r35 => Sum25.on r35.2 (shunterlaw06_LexRemarks_k3 N a b remark r26 r35 ) (fun x41_0 x42_1 => (shunterlaw06_lives_m N ).bind fun r47 => some (r47))) (fun x32_0 x33_1 => (lex_Scan_m N b).bind fun r36 => Sum25.on r36.2 ((shunterlaw06_lives_m N ).bind fun r47 => some (r47)) (fun x42_0 x43_1 => (shunterlaw06_lives_m N ).bind fun r48 => some (r48))))
def shunterlaw06_LexRemarks_m (N : Nat) (a : List UInt8) (b : List UInt8) (remark : List UInt8) : Option (Bool) := ck ((-9223372036854775808 ≤ (((a).length : Int) + ((b).length : Int)) ∧ (((a).length : Int) + ((b).length : Int)) ≤ 9223372036854775807)) (ck ((-9223372036854775808 ≤ ((((a).length : Int) + ((b).length : Int)) + ((remark).length : Int)) ∧ ((((a).length : Int) + ((b).length : Int)) + ((remark).length : Int)) ≤ 9223372036854775807)) (if (((((a).length : Int) + ((b).length : Int)) + ((remark).length : Int)) : Int) > 3000 then (shunterlaw06_lives_m N ).bind fun r8 => some (r8) else shunterlaw06_LexRemarks_l2 N a b remark N (0)))
set_option maxRecDepth 100000 in
set_option maxHeartbeats 8000000 in
theorem shunterlaw06_LexRemarks_g (N : Nat) (a : List UInt8) (b : List UInt8) (remark : List UInt8) (r : Bool) (hM : shunterlaw06_LexRemarks_m N a b remark = some r) : Gives Try.prog 4 #[Value.string (⟨(a).toArray⟩), Value.string (⟨(b).toArray⟩), Value.string (⟨(remark).toArray⟩)] (Value.bool (r)) := by
  unfold shunterlaw06_LexRemarks_m at hM
  refine gives_of_A follows Try.func4 rfl 174 rfl (upd (upd (upd (fun _ => undef) 2 (Value.string (⟨(remark).toArray⟩))) 1 (Value.string (⟨(b).toArray⟩))) 0 (Value.string (⟨(a).toArray⟩))) (by funext k; match k with | 0 => rfl | 1 => rfl | 2 => rfl | k + 3 => rfl) (fun base0_ => ?_)
  refine A_seq fun K1 hK1 => ?_
  refine A_reg ?_
  refine r_v (Value.bool (false)) rfl rfl rfl rfl ?_
  refine lx_nil ?_
  refine hK1 _ _ ?_; try clear hK1 K1
  refine A_seq fun K2 hK2 => ?_
  refine A_seq fun K3 hK3 => ?_
  refine A_reg ?_
  refine r_v (Value.string (⟨(a).toArray⟩)) rfl rfl rfl rfl ?_
  refine r_v (Value.int .i64 (((a).length : Int))) rfl rfl rfl (ev_lenS rfl rfl rfl) ?_
  refine r_v (Value.string (⟨(b).toArray⟩)) rfl rfl rfl rfl ?_
  refine r_v (Value.int .i64 (((b).length : Int))) rfl rfl rfl (ev_lenS rfl rfl rfl) ?_
  replace hM := ck_some hM; obtain ⟨ck4, hM⟩ := hM
  refine r_v (Value.int .i64 ((((a).length : Int) + ((b).length : Int)))) rfl rfl (wi64 rfl ck4.1 ck4.2) rfl ?_
  refine r_v (Value.string (⟨(remark).toArray⟩)) rfl rfl rfl rfl ?_
  refine r_v (Value.int .i64 (((remark).length : Int))) rfl rfl rfl (ev_lenS rfl rfl rfl) ?_
  replace hM := ck_some hM; obtain ⟨ck5, hM⟩ := hM
  refine r_v (Value.int .i64 (((((a).length : Int) + ((b).length : Int)) + ((remark).length : Int)))) rfl rfl (wi64 rfl ck5.1 ck5.2) rfl ?_
  refine r_v (Value.bool (decide ((((((a).length : Int) + ((b).length : Int)) + ((remark).length : Int)) : Int) > 3000))) rfl rfl rfl rfl ?_
  refine lx_nil ?_
  refine hK3 _ _ ?_; try clear hK3 K3
  refine A_cond (decide ((((((a).length : Int) + ((b).length : Int)) + ((remark).length : Int)) : Int) > 3000)) rfl (fun hc6 => ?_) (fun hc6 => ?_)
  · replace hM := ifp (of_decide_eq_true hc6) hM
    refine A_seq fun K7 hK7 => ?_
    refine A_reg ?_
    replace hM := bind_sm hM; obtain ⟨r8, hr9, hM⟩ := hM
    refine r_c (Value.bool (r8)) rfl _ _ (ev_callF rfl call_5 rfl) (shunterlaw06_lives_g N  _ hr9) ?_
    refine r_v (Value.bool (r8)) rfl rfl rfl rfl ?_
    refine lx_nil ?_
    refine hK7 _ _ ?_; try clear hK7 K7
    obtain rfl := Option.some.inj hM
    refine A_ret (fun hn => ends_eq (v0 := Value.bool (r8)) rfl (res1 rfl))
  · replace hM := ifn (of_decide_eq_false hc6) hM
    refine A_skip ?_
    refine hK2 _ _ ?_; try clear hK2 K2
    refine A_seq fun K10 hK10 => ?_
    refine A_seq fun K11 hK11 => ?_
    refine A_reg ?_
    refine r_v (Value.int .i64 (0)) rfl rfl rfl rfl ?_
    refine lx_nil ?_
    refine hK11 _ _ ?_; try clear hK11 K11
    refine A_block ?_
    refine A_loop (fun tt ll nn => ∃ (n12 : Nat) (i1_ : Int), (shunterlaw06_LexRemarks_l2 N a b remark n12 i1_ = some r) ∧ Is [(0, Value.string (⟨(a).toArray⟩)), (1, Value.string (⟨(b).toArray⟩)), (2, Value.string (⟨(remark).toArray⟩)), (7, Value.int .i64 (i1_))] [] tt ll ∧ nn = n12 + 1) (N + 1) ?_ ?_
    · exact ⟨N, 0, hM, is_mk rfl rfl, rfl⟩
    · clear hM; rintro t l _ ⟨n12, i1_, hM, ⟨⟨T, rfl⟩, rfl⟩, rfl⟩
      rcases n12 with _ | n12
      · exact absurd hM (by simp [shunterlaw06_LexRemarks_l2])
      rw [shunterlaw06_LexRemarks_l2] at hM
      refine A_seq fun K13 hK13 => ?_
      refine A_seq fun K14 hK14 => ?_
      refine A_reg ?_
      refine r_v (Value.int .i64 (i1_)) rfl rfl rfl rfl ?_
      refine r_v (Value.string (⟨(remark).toArray⟩)) rfl rfl rfl rfl ?_
      refine r_v (Value.int .i64 (((remark).length : Int))) rfl rfl rfl (ev_lenS rfl rfl rfl) ?_
      refine r_v (Value.bool (decide ((i1_ : Int) < ((remark).length : Int)))) rfl rfl rfl rfl ?_
      refine lx_nil ?_
      refine hK14 _ _ ?_; try clear hK14 K14
      refine A_cond (decide ((i1_ : Int) < ((remark).length : Int))) rfl (fun hc15 => ?_) (fun hc15 => ?_)
      · replace hM := ifp (of_decide_eq_true hc15) hM
        refine A_skip ?_
        refine hK13 _ _ ?_; try clear hK13 K13
        refine A_seq fun K16 hK16 => ?_
        refine A_block ?_
        refine A_seq fun K17 hK17 => ?_
        refine A_reg ?_
        refine r_v (Value.string (⟨(remark).toArray⟩)) rfl rfl rfl rfl ?_
        refine r_v (Value.int .i64 (i1_)) rfl rfl rfl rfl ?_
        replace hM := ck_some hM; obtain ⟨ck18, hM⟩ := hM
        refine r_v (Value.int .u8 ((byteAt (remark) (i1_)))) rfl rfl rfl (ev_v (ev_indexS rfl ck18)) ?_
        refine r_v (Value.bool ((((byteAt (remark) (i1_)) : Int) == 10))) rfl rfl rfl rfl ?_
        refine lx_nil ?_
        refine hK17 _ _ ?_; try clear hK17 K17
        refine A_cond ((((byteAt (remark) (i1_)) : Int) == 10)) rfl (fun hc19 => ?_) (fun hc19 => ?_)
        · replace hM := ifp (eq_of_beq hc19) hM
          refine A_seq fun K20 hK20 => ?_
          refine A_reg ?_
          replace hM := bind_sm hM; obtain ⟨r21, hr22, hM⟩ := hM
          refine r_c (Value.bool (r21)) rfl _ _ (ev_callF rfl call_5 rfl) (shunterlaw06_lives_g N  _ hr22) ?_
          refine r_v (Value.bool (r21)) rfl rfl rfl rfl ?_
          refine lx_nil ?_
          refine hK20 _ _ ?_; try clear hK20 K20
          obtain rfl := Option.some.inj hM
          refine A_ret (fun hn => ends_eq (v0 := Value.bool (r21)) rfl (res1 rfl))
        · replace hM := ifn (ne_of_beq_false hc19) hM
          refine A_skip ?_
          refine hK16 _ _ ?_; try clear hK16 K16
          refine A_reg ?_
          refine r_v (Value.int .i64 (i1_)) rfl rfl rfl rfl ?_
          replace hM := ck_some hM; obtain ⟨ck23, hM⟩ := hM
          refine r_v (Value.int .i64 ((i1_ + 1))) rfl rfl (wi64 rfl ck23.1 ck23.2) rfl ?_
          refine r_v (Value.int .i64 ((i1_ + 1))) rfl rfl rfl rfl ?_
          refine lx_nil ?_
          refine fg _ (Sub.of (List.Sublist.slnil)) ?_
          exact ⟨n12 + 1, by omega, n12, (i1_ + 1), hM, is_mk rfl rfl, rfl⟩
      · replace hM := ifn (of_decide_eq_false hc15) hM
        refine A_exit ?_
        refine hK10 _ _ ?_; try clear hK10 K10
        refine A_seq fun K24 hK24 => ?_
        refine A_regC [(some 40, true)] (conG Try.prog [(40, fun v_ L_ U_ => ∀ u0_, lex_Scan_m N ((a) ++ (([10] : List UInt8))) = some u0_ → (pO (List.flatten []) (oS 40 enc_40 u0_.1 fun s_0 => (Sum25.onP u0_.2 (oE (Value.tuple #[s_0, Value.nilIface]) []) (fun y0_0 y0_1 => (oB 47 #[Value.int .i64 (y0_0), Value.int .i64 (y0_1)] fun bs_0 => (oE (Value.tuple #[s_0, Value.iface 45 (Value.pointer (some ⟨bs_0, 0, none⟩))]) [])))))) v_ L_ U_)]) ?_
        refine r_v (Value.string (⟨(a).toArray⟩)) rfl rfl rfl rfl ?_
        replace hM := ck_some hM; obtain ⟨ck25, hM⟩ := hM
        refine r_v (Value.string (⟨((a) ++ (([10] : List UInt8))).toArray⟩)) rfl rfl rfl (ev_addS ck25 rfl rfl) ?_
        replace hM := bind_sm hM; obtain ⟨r26, hr27, hM⟩ := hM
        refine r_gm (Ls := []) (FL := []) (RL := []) [] (oS 40 enc_40 r26.1 fun s_0 => (Sum25.onP r26.2 (oE (Value.tuple #[s_0, Value.nilIface]) []) (fun y0_0 y0_1 => (oB 47 #[Value.int .i64 (y0_0), Value.int .i64 (y0_1)] fun bs_0 => (oE (Value.tuple #[s_0, Value.iface 45 (Value.pointer (some ⟨bs_0, 0, none⟩))]) []))))) (some 40) 6 _ rfl rfl rfl rfl rfl (ev_callF rfl call_6 rfl) (fun own_ nw_ hn_ hs_ => lex_Scan_g N ((a) ++ (([10] : List UInt8))) _ hr27 _ ) (fun _ _ v_ L_ U_ => ⟨fun h_ => h_ _ hr27, fun h_ => by intro _ e_; cases Option.some.inj (e_.symm.trans hr27); exact h_⟩) (fun h_ => nomatch h_) ?_
        rintro _ _ ⟨s28, S29, _, H30, hp_, rfl⟩
        rcases Sum25.cases r26.2 with hx31 | ⟨x32_0, x33_1, hx31⟩
        · obtain ⟨rfl, rfl⟩ := Sum25.onP_nil hx31 hp_
          replace hM := Sum25.on_nil hx31 hM
          refine lx_perm (Ls := [S29]) (Ls' := [S29]) [0] rfl rfl ?_
          refine r_v (Value.tuple #[s28, Value.nilIface]) rfl rfl rfl rfl ?_
          refine r_v (s28) rfl rfl rfl rfl ?_
          refine r_v (Value.nilIface) rfl rfl rfl rfl ?_
          refine r_v (s28) rfl rfl rfl rfl ?_
          refine r_v (Value.nilIface) rfl rfl rfl rfl ?_
          refine lx_nil ?_
          refine hK24 _ _ ?_; try clear hK24 K24
          refine A_seq fun K34 hK34 => ?_
          refine A_regC [(some 45, true)] (conG Try.prog [(45, fun v_ L_ U_ => ∀ u0_, lex_Scan_m N b = some u0_ → (pO (List.flatten []) (oS 40 enc_40 u0_.1 fun s_0 => (Sum25.onP u0_.2 (oE (Value.tuple #[s_0, Value.nilIface]) []) (fun y0_0 y0_1 => (oB 47 #[Value.int .i64 (y0_0), Value.int .i64 (y0_1)] fun bs_0 => (oE (Value.tuple #[s_0, Value.iface 45 (Value.pointer (some ⟨bs_0, 0, none⟩))]) [])))))) v_ L_ U_)]) ?_
          refine r_v (Value.string (⟨(b).toArray⟩)) rfl rfl rfl rfl ?_
          replace hM := bind_sm hM; obtain ⟨r35, hr36, hM⟩ := hM
          refine r_gm (Ls := [S29]) (FL := []) (RL := [S29]) [] (oS 40 enc_40 r35.1 fun s_0 => (Sum25.onP r35.2 (oE (Value.tuple #[s_0, Value.nilIface]) []) (fun y0_0 y0_1 => (oB 47 #[Value.int .i64 (y0_0), Value.int .i64 (y0_1)] fun bs_0 => (oE (Value.tuple #[s_0, Value.iface 45 (Value.pointer (some ⟨bs_0, 0, none⟩))]) []))))) (some 45) 6 _ rfl rfl rfl rfl rfl (ev_callF rfl call_6 rfl) (fun own_ nw_ hn_ hs_ => lex_Scan_g N b _ hr36 _ ) (fun _ _ v_ L_ U_ => ⟨fun h_ => h_ _ hr36, fun h_ => by intro _ e_; cases Option.some.inj (e_.symm.trans hr36); exact h_⟩) (fun h_ => nomatch h_) ?_
          rintro _ _ ⟨s37, S38, _, H39, hp_, rfl⟩
          rcases Sum25.cases r35.2 with hx40 | ⟨x41_0, x42_1, hx40⟩
          · obtain ⟨rfl, rfl⟩ := Sum25.onP_nil hx40 hp_
            replace hM := Sum25.on_nil hx40 hM
            refine lx_perm (Ls := [S29, S38]) (Ls' := [S29, S38]) [0, 1] rfl rfl ?_
            refine r_v (Value.tuple #[s37, Value.nilIface]) rfl rfl rfl rfl ?_
            refine r_v (s37) rfl rfl rfl rfl ?_
            refine r_v (Value.nilIface) rfl rfl rfl rfl ?_
            refine r_v (s37) rfl rfl rfl rfl ?_
            refine r_v (Value.nilIface) rfl rfl rfl rfl ?_
            refine lx_nil ?_
            refine hK34 _ _ ?_; try clear hK34 K34
            refine A_cut (fun tt ll => (shunterlaw06_LexRemarks_k3 N a b remark r26 r35  = some r) ∧ Is [(0, Value.string (⟨(a).toArray⟩)), (1, Value.string (⟨(b).toArray⟩)), (2, Value.string (⟨(remark).toArray⟩)), (8, s28), (10, s37)] (List.flatten [S29, S38]) tt ll) ?_ ?_
            · refine A_seq fun K60 hK60 => ?_
              refine A_reg ?_
              refine r_v (Value.nilIface) rfl rfl rfl rfl ?_
              refine r_v (Value.bool (false)) rfl rfl rfl rfl ?_
              refine r_v (Value.bool (false)) rfl rfl rfl rfl ?_
              refine r_y rfl ?_
              refine r_v (Value.nilIface) rfl rfl rfl rfl ?_
              refine r_y rfl ?_
              refine r_v (Value.bool (false)) rfl rfl rfl rfl ?_
              refine r_v (Value.bool (false)) rfl rfl rfl rfl ?_
              refine lx_nil ?_
              refine hK60 _ _ ?_; try clear hK60 K60
              refine A_cond false rfl (fun h_ => nomatch h_) (fun _ => ?_)
              refine A_skip ?_
              refine fg _ (Sub.pick [S29, S38] [0, 1] rfl) ?_
              exact ⟨hM, is_mk rfl rfl⟩
            · clear hM; rintro t l ⟨hM, ⟨T, rfl⟩, rfl⟩
              unfold shunterlaw06_LexRemarks_k3 at hM
              refine A_seq fun K43 hK43 => ?_
              refine A_regC [(some 63, true)] (conG Try.prog [(63, fun v_ L_ U_ => ∀ u0_, lex_Scan_m N (((((a) ++ (([10, 32, 9, 35] : List UInt8))) ++ (remark)) ++ (([10, 13] : List UInt8))) ++ (b)) = some u0_ → (pO (List.flatten []) (oS 40 enc_40 u0_.1 fun s_0 => (Sum25.onP u0_.2 (oE (Value.tuple #[s_0, Value.nilIface]) []) (fun y0_0 y0_1 => (oB 47 #[Value.int .i64 (y0_0), Value.int .i64 (y0_1)] fun bs_0 => (oE (Value.tuple #[s_0, Value.iface 45 (Value.pointer (some ⟨bs_0, 0, none⟩))]) [])))))) v_ L_ U_)]) ?_
              refine r_v (Value.string (⟨(a).toArray⟩)) rfl rfl rfl rfl ?_
              replace hM := ck_some hM; obtain ⟨ck44, hM⟩ := hM
              refine r_v (Value.string (⟨((a) ++ (([10, 32, 9, 35] : List UInt8))).toArray⟩)) rfl rfl rfl (ev_addS ck44 rfl rfl) ?_
              refine r_v (Value.string (⟨(remark).toArray⟩)) rfl rfl rfl rfl ?_
              replace hM := ck_some hM; obtain ⟨ck45, hM⟩ := hM
              refine r_v (Value.string (⟨(((a) ++ (([10, 32, 9, 35] : List UInt8))) ++ (remark)).toArray⟩)) rfl rfl rfl (ev_addS ck45 rfl rfl) ?_
              replace hM := ck_some hM; obtain ⟨ck46, hM⟩ := hM
              refine r_v (Value.string (⟨((((a) ++ (([10, 32, 9, 35] : List UInt8))) ++ (remark)) ++ (([10, 13] : List UInt8))).toArray⟩)) rfl rfl rfl (ev_addS ck46 rfl rfl) ?_
              refine r_v (Value.string (⟨(b).toArray⟩)) rfl rfl rfl rfl ?_
              replace hM := ck_some hM; obtain ⟨ck47, hM⟩ := hM
              refine r_v (Value.string (⟨(((((a) ++ (([10, 32, 9, 35] : List UInt8))) ++ (remark)) ++ (([10, 13] : List UInt8))) ++ (b)).toArray⟩)) rfl rfl rfl (ev_addS ck47 rfl rfl) ?_
              replace hM := bind_sm hM; obtain ⟨r48, hr49, hM⟩ := hM
              refine r_gm (Ls := [S29, S38]) (FL := []) (RL := [S29, S38]) [] (oS 40 enc_40 r48.1 fun s_0 => (Sum25.onP r48.2 (oE (Value.tuple #[s_0, Value.nilIface]) []) (fun y0_0 y0_1 => (oB 47 #[Value.int .i64 (y0_0), Value.int .i64 (y0_1)] fun bs_0 => (oE (Value.tuple #[s_0, Value.iface 45 (Value.pointer (some ⟨bs_0, 0, none⟩))]) []))))) (some 63) 6 _ rfl rfl rfl rfl rfl (ev_callF rfl call_6 rfl) (fun own_ nw_ hn_ hs_ => lex_Scan_g N (((((a) ++ (([10, 32, 9, 35] : List UInt8))) ++ (remark)) ++ (([10, 13] : List UInt8))) ++ (b)) _ hr49 _ ) (fun _ _ v_ L_ U_ => ⟨fun h_ => h_ _ hr49, fun h_ => by intro _ e_; cases Option.some.inj (e_.symm.trans hr49); exact h_⟩) (fun h_ => nomatch h_) ?_
              rintro _ _ ⟨s50, S51, _, H52, hp_, rfl⟩
              rcases Sum25.cases r48.2 with hx53 | ⟨x54_0, x55_1, hx53⟩
              · obtain ⟨rfl, rfl⟩ := Sum25.onP_nil hx53 hp_
                replace hM := Sum25.on_nil hx53 hM
                refine lx_perm (Ls := [S29, S38, S51]) (Ls' := [S29, S38, S51]) [0, 1, 2] rfl rfl ?_
                refine r_v (Value.tuple #[s50, Value.nilIface]) rfl rfl rfl rfl ?_
                refine r_v (s50) rfl rfl rfl rfl ?_
                refine r_v (Value.nilIface) rfl rfl rfl rfl ?_
                refine r_v (s50) rfl rfl rfl rfl ?_
                refine r_v (Value.nilIface) rfl rfl rfl rfl ?_
                refine lx_nil ?_
                refine hK43 _ _ ?_; try clear hK43 K43
                refine A_cut (fun tt ll => (shunterlaw06_LexRemarks_k4 N r26 r35 r48  = some r) ∧ Is [(8, s28), (10, s37), (12, s50)] (List.flatten [S29, S38, S51]) tt ll) ?_ ?_
                · refine A_seq fun K104 hK104 => ?_
                  refine A_reg ?_
                  refine r_v (Value.nilIface) rfl rfl rfl rfl ?_
                  refine r_v (Value.bool (false)) rfl rfl rfl rfl ?_
                  refine r_v (Value.bool (false)) rfl rfl rfl rfl ?_
                  refine r_y rfl ?_
                  refine r_v (s50) rfl rfl rfl rfl ?_
                  refine r_y rfl ?_
                  refine r_v (Value.int .i64 (((r48.1).length : Int))) rfl rfl rfl (ev_lenSl rfl rfl rfl (Sl.shp H52)) ?_
                  refine r_y rfl ?_
                  refine r_v (s28) rfl rfl rfl rfl ?_
                  refine r_y rfl ?_
                  refine r_v (Value.int .i64 (((r26.1).length : Int))) rfl rfl rfl (ev_lenSl rfl rfl rfl (Sl.shp H30)) ?_
                  refine r_y rfl ?_
                  refine r_v (s37) rfl rfl rfl rfl ?_
                  refine r_y rfl ?_
                  refine r_v (Value.int .i64 (((r35.1).length : Int))) rfl rfl rfl (ev_lenSl rfl rfl rfl (Sl.shp H39)) ?_
                  refine r_y rfl ?_
                  replace hM := ck_some hM; obtain ⟨ck105, hM⟩ := hM
                  refine r_v (Value.int .i64 ((((r26.1).length : Int) + ((r35.1).length : Int)))) rfl rfl (wi64 rfl ck105.1 ck105.2) rfl ?_
                  refine r_y rfl ?_
                  refine r_v (Value.bool (((((r48.1).length : Int) : Int) != (((r26.1).length : Int) + ((r35.1).length : Int))))) rfl rfl rfl rfl ?_
                  refine r_v (Value.bool (((((r48.1).length : Int) : Int) != (((r26.1).length : Int) + ((r35.1).length : Int))))) rfl rfl rfl rfl ?_
                  refine lx_nil ?_
                  refine hK104 _ _ ?_; try clear hK104 K104
                  refine A_gen [(8, s28), (10, s37), (12, s50), (77, Value.bool (((((r48.1).length : Int) : Int) != (((r26.1).length : Int) + ((r35.1).length : Int)))))] rfl (fun T => ?_)
                  refine A_cond (((((r48.1).length : Int) : Int) != (((r26.1).length : Int) + ((r35.1).length : Int)))) rfl (fun hc106 => ?_) (fun hc106 => ?_)
                  · replace hM := ifp (bne_iff_ne.1 hc106) hM
                    refine A_seq fun K107 hK107 => ?_
                    refine A_reg ?_
                    refine r_v (Value.bool (false)) rfl rfl rfl rfl ?_
                    refine lx_nil ?_
                    refine hK107 _ _ ?_; try clear hK107 K107
                    obtain rfl := Option.some.inj hM
                    refine A_ret (fun hn => ends_eq (v0 := Value.bool (false)) rfl (res1 rfl))
                  · replace hM := ifn (bne_f hc106) hM
                    refine A_skip ?_
                    refine fg _ (Sub.pick [S29, S38, S51] [0, 1, 2] rfl) ?_
                    exact ⟨hM, is_mk rfl rfl⟩
                · clear hM; rintro t l ⟨hM, ⟨T, rfl⟩, rfl⟩
                  unfold shunterlaw06_LexRemarks_k4 at hM
                  refine A_seq fun K56 hK56 => ?_
                  refine A_seq fun K57 hK57 => ?_
                  refine A_reg ?_
                  refine r_v (Value.int .i64 (0)) rfl rfl rfl rfl ?_
                  refine lx_nil ?_
                  refine hK57 _ _ ?_; try clear hK57 K57
                  refine A_block ?_
                  refine A_forget _ (Sub.pick [S29, S38, S51] [0, 1, 2] rfl) ?_
                  refine A_loop (fun tt ll nn => ∃ (n58 : Nat) (i5_ : Int), (shunterlaw06_LexRemarks_l6 N r26 r35 r48 n58 i5_ = some r) ∧ Is [(8, s28), (10, s37), (12, s50), (14, Value.int .i64 (i5_))] (List.flatten [S29, S38, S51]) tt ll ∧ nn = n58 + 1) (N + 1) ?_ ?_
                  · exact ⟨N, 0, hM, is_mk rfl rfl, rfl⟩
                  · clear hM; rintro t l _ ⟨n58, i5_, hM, ⟨⟨T, rfl⟩, rfl⟩, rfl⟩
                    rcases n58 with _ | n58
                    · exact absurd hM (by simp [shunterlaw06_LexRemarks_l6])
                    rw [shunterlaw06_LexRemarks_l6] at hM
                    refine A_seq fun K59 hK59 => ?_
                    refine A_seq fun K60 hK60 => ?_
                    refine A_reg ?_
                    refine r_v (Value.int .i64 (i5_)) rfl rfl rfl rfl ?_
                    refine r_v (s28) rfl rfl rfl rfl ?_
                    refine r_v (Value.int .i64 (((r26.1).length : Int))) rfl rfl rfl (ev_lenSl rfl rfl rfl (Sl.shp H30)) ?_
                    refine r_v (Value.bool (decide ((i5_ : Int) < ((r26.1).length : Int)))) rfl rfl rfl rfl ?_
                    refine lx_nil ?_
                    refine hK60 _ _ ?_; try clear hK60 K60
                    refine A_cond (decide ((i5_ : Int) < ((r26.1).length : Int))) rfl (fun hc61 => ?_) (fun hc61 => ?_)
                    · replace hM := ifp (of_decide_eq_true hc61) hM
                      refine A_skip ?_
                      refine hK59 _ _ ?_; try clear hK59 K59
                      refine A_seq fun K62 hK62 => ?_
                      refine A_block ?_
                      refine A_seq fun K63 hK63 => ?_
                      refine A_draw [] (by decide +kernel) (fun hn => sep_nil) ?_
                      refine r_v (s50) rfl rfl rfl rfl ?_
                      refine r_v (Value.int .i64 (i5_)) rfl rfl rfl rfl ?_
                      replace hM := ck_some hM; obtain ⟨ck64, hM⟩ := hM
                      refine r_v (elA s50 ((i5_).toNat * 7)) rfl rfl rfl (ev_v (ev_idxSl rfl rfl rfl (Sl.shp H52) ck64)) ?_
                      refine r_v (elA s50 ((i5_).toNat * 7 + 1)) rfl rfl rfl (ev_v (ev_fieldX rfl rfl rfl rfl rfl rfl (Sl.shp H52) (pos_of ck64))) ?_
                      refine r_le (Value.string (⟨(((r48.1)[(i5_).toNat]!).2.1).toArray⟩)) (En := enc_40) ((r48.1)[(i5_).toNat]!) ((i5_).toNat) 1 rfl rfl (rd_own H52 (mem_chunk (Ls := [S29, S38, S51]) (k := 2) rfl rfl)) (get_of ck64) rfl ?_
                      refine r_v (s28) rfl rfl rfl rfl ?_
                      refine r_v (Value.int .i64 (i5_)) rfl rfl rfl rfl ?_
                      replace hM := ck_some hM; obtain ⟨ck65, hM⟩ := hM
                      refine r_v (elA s28 ((i5_).toNat * 7)) rfl rfl rfl (ev_v (ev_idxSl rfl rfl rfl (Sl.shp H30) ck65)) ?_
                      refine r_v (elA s28 ((i5_).toNat * 7 + 1)) rfl rfl rfl (ev_v (ev_fieldX rfl rfl rfl rfl rfl rfl (Sl.shp H30) (pos_of ck65))) ?_
                      refine r_le (Value.string (⟨(((r26.1)[(i5_).toNat]!).2.1).toArray⟩)) (En := enc_40) ((r26.1)[(i5_).toNat]!) ((i5_).toNat) 1 rfl rfl (rd_own H30 (mem_chunk (Ls := [S29, S38, S51]) (k := 0) rfl rfl)) (get_of ck65) rfl ?_
                      refine r_v (Value.bool ((((r48.1)[(i5_).toNat]!).2.1) != (((r26.1)[(i5_).toNat]!).2.1))) rfl rfl rfl (ev_neS rfl rfl) ?_
                      refine r_v (Value.bool ((((r48.1)[(i5_).toNat]!).2.1) != (((r26.1)[(i5_).toNat]!).2.1))) rfl rfl rfl rfl ?_
                      rcases hg66 : ((((r48.1)[(i5_).toNat]!).2.1) != (((r26.1)[(i5_).toNat]!).2.1)) with _ | _
                      · replace hM := ifn (bne_f hg66) hM
                        refine r_y rfl ?_
                        refine r_v (s50) rfl rfl rfl rfl ?_
                        refine r_y rfl ?_
                        refine r_v (Value.int .i64 (i5_)) rfl rfl rfl rfl ?_
                        refine r_y rfl ?_
                        replace hM := ck_some hM; obtain ⟨ck67, hM⟩ := hM
                        refine r_v (elA s50 ((i5_).toNat * 7)) rfl rfl rfl (ev_v (ev_idxSl rfl rfl rfl (Sl.shp H52) ck67)) ?_
                        refine r_y rfl ?_
                        refine r_v (elA s50 ((i5_).toNat * 7 + 2)) rfl rfl rfl (ev_v (ev_fieldX rfl rfl rfl rfl rfl rfl (Sl.shp H52) (pos_of ck67))) ?_
                        refine r_y rfl ?_
                        refine r_le (Value.int .i64 (((r48.1)[(i5_).toNat]!).2.2.1)) (En := enc_40) ((r48.1)[(i5_).toNat]!) ((i5_).toNat) 2 rfl rfl (rd_own H52 (mem_chunk (Ls := [S29, S38, S51]) (k := 2) rfl rfl)) (get_of ck67) rfl ?_
                        refine r_y rfl ?_
                        refine r_v (s28) rfl rfl rfl rfl ?_
                        refine r_y rfl ?_
                        refine r_v (Value.int .i64 (i5_)) rfl rfl rfl rfl ?_
                        refine r_y rfl ?_
                        replace hM := ck_some hM; obtain ⟨ck68, hM⟩ := hM
                        refine r_v (elA s28 ((i5_).toNat * 7)) rfl rfl rfl (ev_v (ev_idxSl rfl rfl rfl (Sl.shp H30) ck68)) ?_
                        refine r_y rfl ?_
                        refine r_v (elA s28 ((i5_).toNat * 7 + 2)) rfl rfl rfl (ev_v (ev_fieldX rfl rfl rfl rfl rfl rfl (Sl.shp H30) (pos_of ck68))) ?_
                        refine r_y rfl ?_
                        refine r_le (Value.int .i64 (((r26.1)[(i5_).toNat]!).2.2.1)) (En := enc_40) ((r26.1)[(i5_).toNat]!) ((i5_).toNat) 2 rfl rfl (rd_own H30 (mem_chunk (Ls := [S29, S38, S51]) (k := 0) rfl rfl)) (get_of ck68) rfl ?_
                        refine r_y rfl ?_
                        refine r_v (Value.bool (((((r48.1)[(i5_).toNat]!).2.2.1 : Int) != ((r26.1)[(i5_).toNat]!).2.2.1))) rfl rfl rfl rfl ?_
                        refine r_v (Value.bool (((((r48.1)[(i5_).toNat]!).2.2.1 : Int) != ((r26.1)[(i5_).toNat]!).2.2.1))) rfl rfl rfl rfl ?_
                        refine r_v (Value.bool (((((r48.1)[(i5_).toNat]!).2.2.1 : Int) != ((r26.1)[(i5_).toNat]!).2.2.1))) rfl rfl rfl rfl ?_
                        rcases hg69 : (((((r48.1)[(i5_).toNat]!).2.2.1 : Int) != ((r26.1)[(i5_).toNat]!).2.2.1)) with _ | _
                        · replace hM := ifn (bne_f hg69) hM
                          refine r_y rfl ?_
                          refine r_v (s50) rfl rfl rfl rfl ?_
                          refine r_y rfl ?_
                          refine r_v (Value.int .i64 (i5_)) rfl rfl rfl rfl ?_
                          refine r_y rfl ?_
                          replace hM := ck_some hM; obtain ⟨ck70, hM⟩ := hM
                          refine r_v (elA s50 ((i5_).toNat * 7)) rfl rfl rfl (ev_v (ev_idxSl rfl rfl rfl (Sl.shp H52) ck70)) ?_
                          refine r_y rfl ?_
                          refine r_v (elA s50 ((i5_).toNat * 7 + 6)) rfl rfl rfl (ev_v (ev_fieldX rfl rfl rfl rfl rfl rfl (Sl.shp H52) (pos_of ck70))) ?_
                          refine r_y rfl ?_
                          refine r_le (Value.int .i64 (((r48.1)[(i5_).toNat]!).2.2.2.2.2)) (En := enc_40) ((r48.1)[(i5_).toNat]!) ((i5_).toNat) 6 rfl rfl (rd_own H52 (mem_chunk (Ls := [S29, S38, S51]) (k := 2) rfl rfl)) (get_of ck70) rfl ?_
                          refine r_y rfl ?_
                          refine r_v (s28) rfl rfl rfl rfl ?_
                          refine r_y rfl ?_
                          refine r_v (Value.int .i64 (i5_)) rfl rfl rfl rfl ?_
                          refine r_y rfl ?_
                          replace hM := ck_some hM; obtain ⟨ck71, hM⟩ := hM
                          refine r_v (elA s28 ((i5_).toNat * 7)) rfl rfl rfl (ev_v (ev_idxSl rfl rfl rfl (Sl.shp H30) ck71)) ?_
                          refine r_y rfl ?_
                          refine r_v (elA s28 ((i5_).toNat * 7 + 6)) rfl rfl rfl (ev_v (ev_fieldX rfl rfl rfl rfl rfl rfl (Sl.shp H30) (pos_of ck71))) ?_
                          refine r_y rfl ?_
                          refine r_le (Value.int .i64 (((r26.1)[(i5_).toNat]!).2.2.2.2.2)) (En := enc_40) ((r26.1)[(i5_).toNat]!) ((i5_).toNat) 6 rfl rfl (rd_own H30 (mem_chunk (Ls := [S29, S38, S51]) (k := 0) rfl rfl)) (get_of ck71) rfl ?_
                          refine r_y rfl ?_
                          refine r_v (Value.bool (((((r48.1)[(i5_).toNat]!).2.2.2.2.2 : Int) != ((r26.1)[(i5_).toNat]!).2.2.2.2.2))) rfl rfl rfl rfl ?_
                          refine r_v (Value.bool (((((r48.1)[(i5_).toNat]!).2.2.2.2.2 : Int) != ((r26.1)[(i5_).toNat]!).2.2.2.2.2))) rfl rfl rfl rfl ?_
                          refine lx_nil ?_
                          refine hK63 _ _ ?_; try clear hK63 K63
                          refine A_gen [(8, s28), (10, s37), (12, s50), (14, Value.int .i64 (i5_)), (120, Value.bool (((((r48.1)[(i5_).toNat]!).2.2.2.2.2 : Int) != ((r26.1)[(i5_).toNat]!).2.2.2.2.2)))] rfl (fun T => ?_)
                          refine A_cond (((((r48.1)[(i5_).toNat]!).2.2.2.2.2 : Int) != ((r26.1)[(i5_).toNat]!).2.2.2.2.2)) rfl (fun hc72 => ?_) (fun hc72 => ?_)
                          · replace hM := ifp (bne_iff_ne.1 hc72) hM
                            refine A_seq fun K73 hK73 => ?_
                            refine A_reg ?_
                            refine r_v (Value.bool (false)) rfl rfl rfl rfl ?_
                            refine lx_nil ?_
                            refine hK73 _ _ ?_; try clear hK73 K73
                            obtain rfl := Option.some.inj hM
                            refine A_ret (fun hn => ends_eq (v0 := Value.bool (false)) rfl (res1 rfl))
                          · replace hM := ifn (bne_f hc72) hM
                            refine A_skip ?_
                            refine hK62 _ _ ?_; try clear hK62 K62
                            refine A_reg ?_
                            refine r_v (Value.int .i64 (i5_)) rfl rfl rfl rfl ?_
                            replace hM := ck_some hM; obtain ⟨ck74, hM⟩ := hM
                            refine r_v (Value.int .i64 ((i5_ + 1))) rfl rfl (wi64 rfl ck74.1 ck74.2) rfl ?_
                            refine r_v (Value.int .i64 ((i5_ + 1))) rfl rfl rfl rfl ?_
                            refine lx_nil ?_
                            refine fg _ (Sub.pick [S29, S38, S51] [0, 1, 2] rfl) ?_
                            exact ⟨n58 + 1, by omega, n58, (i5_ + 1), hM, is_mk (by first | rfl | (simp only [hg66, hg69]; done) | (simp only [hg66, hg69]; rfl) | (simp only [app_hl]; rfl)) rfl, rfl⟩
                        · replace hM := ifp (bne_iff_ne.1 hg69) hM
                          refine r_n true rfl (by decide) rfl ?_
                          refine r_n true rfl (by decide) rfl ?_
                          refine r_n true rfl (by decide) rfl ?_
                          refine r_n true rfl (by decide) rfl ?_
                          refine r_n true rfl (by decide) rfl ?_
                          refine r_n true rfl (by decide) rfl ?_
                          refine r_n true rfl (by decide) rfl ?_
                          refine r_n true rfl (by decide) rfl ?_
                          refine r_n true rfl (by decide) rfl ?_
                          refine r_n true rfl (by decide) rfl ?_
                          refine r_n true rfl (by decide) rfl ?_
                          refine r_v (Value.bool (true)) rfl rfl rfl rfl ?_
                          refine lx_nil ?_
                          refine hK63 _ _ ?_; try clear hK63 K63
                          refine A_gen [(8, s28), (10, s37), (12, s50), (14, Value.int .i64 (i5_)), (120, Value.bool (true))] rfl (fun T => ?_)
                          refine A_cond true rfl (fun _ => ?_) (fun h_ => nomatch h_)
                          refine A_seq fun K75 hK75 => ?_
                          refine A_reg ?_
                          refine r_v (Value.bool (false)) rfl rfl rfl rfl ?_
                          refine lx_nil ?_
                          refine hK75 _ _ ?_; try clear hK75 K75
                          obtain rfl := Option.some.inj hM
                          refine A_ret (fun hn => ends_eq (v0 := Value.bool (false)) rfl (res1 rfl))
                      · replace hM := ifp (bne_iff_ne.1 hg66) hM
                        refine r_n true rfl (by decide) rfl ?_
                        refine r_n true rfl (by decide) rfl ?_
                        refine r_n true rfl (by decide) rfl ?_
                        refine r_n true rfl (by decide) rfl ?_
                        refine r_n true rfl (by decide) rfl ?_
                        refine r_n true rfl (by decide) rfl ?_
                        refine r_n true rfl (by decide) rfl ?_
                        refine r_n true rfl (by decide) rfl ?_
                        refine r_n true rfl (by decide) rfl ?_
                        refine r_n true rfl (by decide) rfl ?_
                        refine r_n true rfl (by decide) rfl ?_
                        refine r_v (Value.bool (true)) rfl rfl rfl rfl ?_
                        refine r_v (Value.bool (true)) rfl rfl rfl rfl ?_
                        refine r_n true rfl (by decide) rfl ?_
                        refine r_n true rfl (by decide) rfl ?_
                        refine r_n true rfl (by decide) rfl ?_
                        refine r_n true rfl (by decide) rfl ?_
                        refine r_n true rfl (by decide) rfl ?_
                        refine r_n true rfl (by decide) rfl ?_
                        refine r_n true rfl (by decide) rfl ?_
                        refine r_n true rfl (by decide) rfl ?_
                        refine r_n true rfl (by decide) rfl ?_
                        refine r_n true rfl (by decide) rfl ?_
                        refine r_n true rfl (by decide) rfl ?_
                        refine r_v (Value.bool (true)) rfl rfl rfl rfl ?_
                        refine lx_nil ?_
                        refine hK63 _ _ ?_; try clear hK63 K63
                        refine A_gen [(8, s28), (10, s37), (12, s50), (14, Value.int .i64 (i5_)), (120, Value.bool (true))] rfl (fun T => ?_)
                        refine A_cond true rfl (fun _ => ?_) (fun h_ => nomatch h_)
                        refine A_seq fun K76 hK76 => ?_
                        refine A_reg ?_
                        refine r_v (Value.bool (false)) rfl rfl rfl rfl ?_
                        refine lx_nil ?_
                        refine hK76 _ _ ?_; try clear hK76 K76
                        obtain rfl := Option.some.inj hM
                        refine A_ret (fun hn => ends_eq (v0 := Value.bool (false)) rfl (res1 rfl))
                    · replace hM := ifn (of_decide_eq_false hc61) hM
                      refine A_exit ?_
                      refine hK56 _ _ ?_; try clear hK56 K56
                      refine A_seq fun K77 hK77 => ?_
                      refine A_seq fun K78 hK78 => ?_
                      refine A_reg ?_
                      refine r_v (Value.int .i64 (0)) rfl rfl rfl rfl ?_
                      refine lx_nil ?_
                      refine hK78 _ _ ?_; try clear hK78 K78
                      refine A_block ?_
                      refine A_forget _ (Sub.pick [S29, S38, S51] [0, 1, 2] rfl) ?_
                      refine A_loop (fun tt ll nn => ∃ (n79 : Nat) (i7_ : Int), (shunterlaw06_LexRemarks_l8 N r26 r35 r48 n79 i7_ = some r) ∧ Is [(8, s28), (10, s37), (12, s50), (15, Value.int .i64 (i7_))] (List.flatten [S29, S38, S51]) tt ll ∧ nn = n79 + 1) (N + 1) ?_ ?_
                      · exact ⟨N, 0, hM, is_mk rfl rfl, rfl⟩
                      · clear hM; rintro t l _ ⟨n79, i7_, hM, ⟨⟨T, rfl⟩, rfl⟩, rfl⟩
                        rcases n79 with _ | n79
                        · exact absurd hM (by simp [shunterlaw06_LexRemarks_l8])
                        rw [shunterlaw06_LexRemarks_l8] at hM
                        refine A_seq fun K80 hK80 => ?_
                        refine A_seq fun K81 hK81 => ?_
                        refine A_reg ?_
                        refine r_v (Value.int .i64 (i7_)) rfl rfl rfl rfl ?_
                        refine r_v (s37) rfl rfl rfl rfl ?_
                        refine r_v (Value.int .i64 (((r35.1).length : Int))) rfl rfl rfl (ev_lenSl rfl rfl rfl (Sl.shp H39)) ?_
                        refine r_v (Value.bool (decide ((i7_ : Int) < ((r35.1).length : Int)))) rfl rfl rfl rfl ?_
                        refine lx_nil ?_
                        refine hK81 _ _ ?_; try clear hK81 K81
                        refine A_cond (decide ((i7_ : Int) < ((r35.1).length : Int))) rfl (fun hc82 => ?_) (fun hc82 => ?_)
                        · replace hM := ifp (of_decide_eq_true hc82) hM
                          refine A_skip ?_
                          refine hK80 _ _ ?_; try clear hK80 K80
                          refine A_seq fun K83 hK83 => ?_
                          refine A_block ?_
                          refine A_seq fun K84 hK84 => ?_
                          refine A_draw [] (by decide +kernel) (fun hn => sep_nil) ?_
                          refine r_v (s50) rfl rfl rfl rfl ?_
                          refine r_v (s28) rfl rfl rfl rfl ?_
                          refine r_v (Value.int .i64 (((r26.1).length : Int))) rfl rfl rfl (ev_lenSl rfl rfl rfl (Sl.shp H30)) ?_
                          refine r_v (Value.int .i64 (i7_)) rfl rfl rfl rfl ?_
                          replace hM := ck_some hM; obtain ⟨ck85, hM⟩ := hM
                          refine r_v (Value.int .i64 ((((r26.1).length : Int) + i7_))) rfl rfl (wi64 rfl ck85.1 ck85.2) rfl ?_
                          replace hM := ck_some hM; obtain ⟨ck86, hM⟩ := hM
                          refine r_v (elA s50 (((((r26.1).length : Int) + i7_)).toNat * 7)) rfl rfl rfl (ev_v (ev_idxSl rfl rfl rfl (Sl.shp H52) ck86)) ?_
                          refine r_v (elA s50 (((((r26.1).length : Int) + i7_)).toNat * 7 + 1)) rfl rfl rfl (ev_v (ev_fieldX rfl rfl rfl rfl rfl rfl (Sl.shp H52) (pos_of ck86))) ?_
                          refine r_le (Value.string (⟨(((r48.1)[((((r26.1).length : Int) + i7_)).toNat]!).2.1).toArray⟩)) (En := enc_40) ((r48.1)[((((r26.1).length : Int) + i7_)).toNat]!) (((((r26.1).length : Int) + i7_)).toNat) 1 rfl rfl (rd_own H52 (mem_chunk (Ls := [S29, S38, S51]) (k := 2) rfl rfl)) (get_of ck86) rfl ?_
                          refine r_v (s37) rfl rfl rfl rfl ?_
                          refine r_v (Value.int .i64 (i7_)) rfl rfl rfl rfl ?_
                          replace hM := ck_some hM; obtain ⟨ck87, hM⟩ := hM
                          refine r_v (elA s37 ((i7_).toNat * 7)) rfl rfl rfl (ev_v (ev_idxSl rfl rfl rfl (Sl.shp H39) ck87)) ?_
                          refine r_v (elA s37 ((i7_).toNat * 7 + 1)) rfl rfl rfl (ev_v (ev_fieldX rfl rfl rfl rfl rfl rfl (Sl.shp H39) (pos_of ck87))) ?_
                          refine r_le (Value.string (⟨(((r35.1)[(i7_).toNat]!).2.1).toArray⟩)) (En := enc_40) ((r35.1)[(i7_).toNat]!) ((i7_).toNat) 1 rfl rfl (rd_own H39 (mem_chunk (Ls := [S29, S38, S51]) (k := 1) rfl rfl)) (get_of ck87) rfl ?_
                          refine r_v (Value.bool ((((r48.1)[((((r26.1).length : Int) + i7_)).toNat]!).2.1) != (((r35.1)[(i7_).toNat]!).2.1))) rfl rfl rfl (ev_neS rfl rfl) ?_
                          refine r_v (Value.bool ((((r48.1)[((((r26.1).length : Int) + i7_)).toNat]!).2.1) != (((r35.1)[(i7_).toNat]!).2.1))) rfl rfl rfl rfl ?_
                          rcases hg88 : ((((r48.1)[((((r26.1).length : Int) + i7_)).toNat]!).2.1) != (((r35.1)[(i7_).toNat]!).2.1)) with _ | _
                          · replace hM := ifn (bne_f hg88) hM
                            refine r_y rfl ?_
                            refine r_v (s50) rfl rfl rfl rfl ?_
                            refine r_y rfl ?_
                            refine r_v (s28) rfl rfl rfl rfl ?_
                            refine r_y rfl ?_
                            refine r_v (Value.int .i64 (((r26.1).length : Int))) rfl rfl rfl (ev_lenSl rfl rfl rfl (Sl.shp H30)) ?_
                            refine r_y rfl ?_
                            refine r_v (Value.int .i64 (i7_)) rfl rfl rfl rfl ?_
                            refine r_y rfl ?_
                            replace hM := ck_some hM; obtain ⟨ck89, hM⟩ := hM
                            refine r_v (Value.int .i64 ((((r26.1).length : Int) + i7_))) rfl rfl (wi64 rfl ck89.1 ck89.2) rfl ?_
                            refine r_y rfl ?_
                            replace hM := ck_some hM; obtain ⟨ck90, hM⟩ := hM
                            refine r_v (elA s50 (((((r26.1).length : Int) + i7_)).toNat * 7)) rfl rfl rfl (ev_v (ev_idxSl rfl rfl rfl (Sl.shp H52) ck90)) ?_
                            refine r_y rfl ?_
                            refine r_v (elA s50 (((((r26.1).length : Int) + i7_)).toNat * 7 + 2)) rfl rfl rfl (ev_v (ev_fieldX rfl rfl rfl rfl rfl rfl (Sl.shp H52) (pos_of ck90))) ?_
                            refine r_y rfl ?_
                            refine r_le (Value.int .i64 (((r48.1)[((((r26.1).length : Int) + i7_)).toNat]!).2.2.1)) (En := enc_40) ((r48.1)[((((r26.1).length : Int) + i7_)).toNat]!) (((((r26.1).length : Int) + i7_)).toNat) 2 rfl rfl (rd_own H52 (mem_chunk (Ls := [S29, S38, S51]) (k := 2) rfl rfl)) (get_of ck90) rfl ?_
                            refine r_y rfl ?_
                            refine r_v (s37) rfl rfl rfl rfl ?_
                            refine r_y rfl ?_
                            refine r_v (Value.int .i64 (i7_)) rfl rfl rfl rfl ?_
                            refine r_y rfl ?_
                            replace hM := ck_some hM; obtain ⟨ck91, hM⟩ := hM
                            refine r_v (elA s37 ((i7_).toNat * 7)) rfl rfl rfl (ev_v (ev_idxSl rfl rfl rfl (Sl.shp H39) ck91)) ?_
                            refine r_y rfl ?_
                            refine r_v (elA s37 ((i7_).toNat * 7 + 2)) rfl rfl rfl (ev_v (ev_fieldX rfl rfl rfl rfl rfl rfl (Sl.shp H39) (pos_of ck91))) ?_
                            refine r_y rfl ?_
                            refine r_le (Value.int .i64 (((r35.1)[(i7_).toNat]!).2.2.1)) (En := enc_40) ((r35.1)[(i7_).toNat]!) ((i7_).toNat) 2 rfl rfl (rd_own H39 (mem_chunk (Ls := [S29, S38, S51]) (k := 1) rfl rfl)) (get_of ck91) rfl ?_
                            refine r_y rfl ?_
                            refine r_v (Value.bool (((((r48.1)[((((r26.1).length : Int) + i7_)).toNat]!).2.2.1 : Int) != ((r35.1)[(i7_).toNat]!).2.2.1))) rfl rfl rfl rfl ?_
                            refine r_v (Value.bool (((((r48.1)[((((r26.1).length : Int) + i7_)).toNat]!).2.2.1 : Int) != ((r35.1)[(i7_).toNat]!).2.2.1))) rfl rfl rfl rfl ?_
                            refine r_v (Value.bool (((((r48.1)[((((r26.1).length : Int) + i7_)).toNat]!).2.2.1 : Int) != ((r35.1)[(i7_).toNat]!).2.2.1))) rfl rfl rfl rfl ?_
                            rcases hg92 : (((((r48.1)[((((r26.1).length : Int) + i7_)).toNat]!).2.2.1 : Int) != ((r35.1)[(i7_).toNat]!).2.2.1)) with _ | _
                            · replace hM := ifn (bne_f hg92) hM
                              refine r_y rfl ?_
                              refine r_v (s50) rfl rfl rfl rfl ?_
                              refine r_y rfl ?_
                              refine r_v (s28) rfl rfl rfl rfl ?_
                              refine r_y rfl ?_
                              refine r_v (Value.int .i64 (((r26.1).length : Int))) rfl rfl rfl (ev_lenSl rfl rfl rfl (Sl.shp H30)) ?_
                              refine r_y rfl ?_
                              refine r_v (Value.int .i64 (i7_)) rfl rfl rfl rfl ?_
                              refine r_y rfl ?_
                              replace hM := ck_some hM; obtain ⟨ck93, hM⟩ := hM
                              refine r_v (Value.int .i64 ((((r26.1).length : Int) + i7_))) rfl rfl (wi64 rfl ck93.1 ck93.2) rfl ?_
                              refine r_y rfl ?_
                              replace hM := ck_some hM; obtain ⟨ck94, hM⟩ := hM
                              refine r_v (elA s50 (((((r26.1).length : Int) + i7_)).toNat * 7)) rfl rfl rfl (ev_v (ev_idxSl rfl rfl rfl (Sl.shp H52) ck94)) ?_
                              refine r_y rfl ?_
                              refine r_v (elA s50 (((((r26.1).length : Int) + i7_)).toNat * 7 + 3)) rfl rfl rfl (ev_v (ev_fieldX rfl rfl rfl rfl rfl rfl (Sl.shp H52) (pos_of ck94))) ?_
                              refine r_y rfl ?_
                              refine r_le (Value.agg #[Value.int .i64 (((r48.1)[((((r26.1).length : Int) + i7_)).toNat]!).2.2.2.1), U (hi (((r48.1)[((((r26.1).length : Int) + i7_)).toNat]!).2.2.2.2.1)), U (lo (((r48.1)[((((r26.1).length : Int) + i7_)).toNat]!).2.2.2.2.1))]) (En := enc_40) ((r48.1)[((((r26.1).length : Int) + i7_)).toNat]!) (((((r26.1).length : Int) + i7_)).toNat) 3 rfl rfl (rd_own H52 (mem_chunk (Ls := [S29, S38, S51]) (k := 2) rfl rfl)) (get_of ck94) rfl ?_
                              refine r_y rfl ?_
                              refine r_v (s37) rfl rfl rfl rfl ?_
                              refine r_y rfl ?_
                              refine r_v (Value.int .i64 (i7_)) rfl rfl rfl rfl ?_
                              refine r_y rfl ?_
                              replace hM := ck_some hM; obtain ⟨ck95, hM⟩ := hM
                              refine r_v (elA s37 ((i7_).toNat * 7)) rfl rfl rfl (ev_v (ev_idxSl rfl rfl rfl (Sl.shp H39) ck95)) ?_
                              refine r_y rfl ?_
                              refine r_v (elA s37 ((i7_).toNat * 7 + 3)) rfl rfl rfl (ev_v (ev_fieldX rfl rfl rfl rfl rfl rfl (Sl.shp H39) (pos_of ck95))) ?_
                              refine r_y rfl ?_
                              refine r_le (Value.agg #[Value.int .i64 (((r35.1)[(i7_).toNat]!).2.2.2.1), U (hi (((r35.1)[(i7_).toNat]!).2.2.2.2.1)), U (lo (((r35.1)[(i7_).toNat]!).2.2.2.2.1))]) (En := enc_40) ((r35.1)[(i7_).toNat]!) ((i7_).toNat) 3 rfl rfl (rd_own H39 (mem_chunk (Ls := [S29, S38, S51]) (k := 1) rfl rfl)) (get_of ck95) rfl ?_
                              refine r_y rfl ?_
                              refine r_v (Value.bool (!(((((r48.1)[((((r26.1).length : Int) + i7_)).toNat]!).2.2.2.1) == (((r35.1)[(i7_).toNat]!).2.2.2.1)) && ((((r48.1)[((((r26.1).length : Int) + i7_)).toNat]!).2.2.2.2.1) == (((r35.1)[(i7_).toNat]!).2.2.2.2.1))))) rfl rfl rfl (ev_binNe rfl rfl eg_38 (eqst_38 (((r48.1)[((((r26.1).length : Int) + i7_)).toNat]!).2.2.2.1) (((r35.1)[(i7_).toNat]!).2.2.2.1) (((r48.1)[((((r26.1).length : Int) + i7_)).toNat]!).2.2.2.2.1) (((r35.1)[(i7_).toNat]!).2.2.2.2.1))) ?_
                              refine r_v (Value.bool (!(((((r48.1)[((((r26.1).length : Int) + i7_)).toNat]!).2.2.2.1) == (((r35.1)[(i7_).toNat]!).2.2.2.1)) && ((((r48.1)[((((r26.1).length : Int) + i7_)).toNat]!).2.2.2.2.1) == (((r35.1)[(i7_).toNat]!).2.2.2.2.1))))) rfl rfl rfl rfl ?_
                              refine lx_nil ?_
                              refine hK84 _ _ ?_; try clear hK84 K84
                              refine A_gen [(8, s28), (10, s37), (12, s50), (15, Value.int .i64 (i7_)), (172, Value.bool (!(((((r48.1)[((((r26.1).length : Int) + i7_)).toNat]!).2.2.2.1) == (((r35.1)[(i7_).toNat]!).2.2.2.1)) && ((((r48.1)[((((r26.1).length : Int) + i7_)).toNat]!).2.2.2.2.1) == (((r35.1)[(i7_).toNat]!).2.2.2.2.1)))))] rfl (fun T => ?_)
                              refine A_cond (!(((((r48.1)[((((r26.1).length : Int) + i7_)).toNat]!).2.2.2.1) == (((r35.1)[(i7_).toNat]!).2.2.2.1)) && ((((r48.1)[((((r26.1).length : Int) + i7_)).toNat]!).2.2.2.2.1) == (((r35.1)[(i7_).toNat]!).2.2.2.2.1)))) rfl (fun hc96 => ?_) (fun hc96 => ?_)
                              · replace hM := ifn (Bool.eq_false_iff.1 (not_t hc96)) hM
                                refine A_seq fun K97 hK97 => ?_
                                refine A_reg ?_
                                refine r_v (Value.bool (false)) rfl rfl rfl rfl ?_
                                refine lx_nil ?_
                                refine hK97 _ _ ?_; try clear hK97 K97
                                obtain rfl := Option.some.inj hM
                                refine A_ret (fun hn => ends_eq (v0 := Value.bool (false)) rfl (res1 rfl))
                              · replace hM := ifp (not_f hc96) hM
                                refine A_skip ?_
                                refine hK83 _ _ ?_; try clear hK83 K83
                                refine A_reg ?_
                                refine r_v (Value.int .i64 (i7_)) rfl rfl rfl rfl ?_
                                replace hM := ck_some hM; obtain ⟨ck98, hM⟩ := hM
                                refine r_v (Value.int .i64 ((i7_ + 1))) rfl rfl (wi64 rfl ck98.1 ck98.2) rfl ?_
                                refine r_v (Value.int .i64 ((i7_ + 1))) rfl rfl rfl rfl ?_
                                refine lx_nil ?_
                                refine fg _ (Sub.pick [S29, S38, S51] [0, 1, 2] rfl) ?_
                                exact ⟨n79 + 1, by omega, n79, (i7_ + 1), hM, is_mk (by first | rfl | (simp only [hg88, hg92]; done) | (simp only [hg88, hg92]; rfl) | (simp only [app_hl]; rfl)) rfl, rfl⟩
                            · replace hM := ifp (bne_iff_ne.1 hg92) hM
                              refine r_n true rfl (by decide) rfl ?_
                              refine r_n true rfl (by decide) rfl ?_
                              refine r_n true rfl (by decide) rfl ?_
                              refine r_n true rfl (by decide) rfl ?_
                              refine r_n true rfl (by decide) rfl ?_
                              refine r_n true rfl (by decide) rfl ?_
                              refine r_n true rfl (by decide) rfl ?_
                              refine r_n true rfl (by decide) rfl ?_
                              refine r_n true rfl (by decide) rfl ?_
                              refine r_n true rfl (by decide) rfl ?_
                              refine r_n true rfl (by decide) rfl ?_
                              refine r_n true rfl (by decide) rfl ?_
                              refine r_n true rfl (by decide) rfl ?_
                              refine r_n true rfl (by decide) rfl ?_
                              refine r_v (Value.bool (true)) rfl rfl rfl rfl ?_
                              refine lx_nil ?_
                              refine hK84 _ _ ?_; try clear hK84 K84
                              refine A_gen [(8, s28), (10, s37), (12, s50), (15, Value.int .i64 (i7_)), (172, Value.bool (true))] rfl (fun T => ?_)
                              refine A_cond true rfl (fun _ => ?_) (fun h_ => nomatch h_)
                              refine A_seq fun K99 hK99 => ?_
                              refine A_reg ?_
                              refine r_v (Value.bool (false)) rfl rfl rfl rfl ?_
                              refine lx_nil ?_
                              refine hK99 _ _ ?_; try clear hK99 K99
                              obtain rfl := Option.some.inj hM
                              refine A_ret (fun hn => ends_eq (v0 := Value.bool (false)) rfl (res1 rfl))
                          · replace hM := ifp (bne_iff_ne.1 hg88) hM
                            refine r_n true rfl (by decide) rfl ?_
                            refine r_n true rfl (by decide) rfl ?_
                            refine r_n true rfl (by decide) rfl ?_
                            refine r_n true rfl (by decide) rfl ?_
                            refine r_n true rfl (by decide) rfl ?_
                            refine r_n true rfl (by decide) rfl ?_
                            refine r_n true rfl (by decide) rfl ?_
                            refine r_n true rfl (by decide) rfl ?_
                            refine r_n true rfl (by decide) rfl ?_
                            refine r_n true rfl (by decide) rfl ?_
                            refine r_n true rfl (by decide) rfl ?_
                            refine r_n true rfl (by decide) rfl ?_
                            refine r_n true rfl (by decide) rfl ?_
                            refine r_n true rfl (by decide) rfl ?_
                            refine r_v (Value.bool (true)) rfl rfl rfl rfl ?_
                            refine r_v (Value.bool (true)) rfl rfl rfl rfl ?_
                            refine r_n true rfl (by decide) rfl ?_
                            refine r_n true rfl (by decide) rfl ?_
                            refine r_n true rfl (by decide) rfl ?_
                            refine r_n true rfl (by decide) rfl ?_
                            refine r_n true rfl (by decide) rfl ?_
                            refine r_n true rfl (by decide) rfl ?_
                            refine r_n true rfl (by decide) rfl ?_
                            refine r_n true rfl (by decide) rfl ?_
                            refine r_n true rfl (by decide) rfl ?_
                            refine r_n true rfl (by decide) rfl ?_
                            refine r_n true rfl (by decide) rfl ?_
                            refine r_n true rfl (by decide) rfl ?_
                            refine r_n true rfl (by decide) rfl ?_
                            refine r_n true rfl (by decide) rfl ?_
                            refine r_v (Value.bool (true)) rfl rfl rfl rfl ?_
                            refine lx_nil ?_
                            refine hK84 _ _ ?_; try clear hK84 K84
                            refine A_gen [(8, s28), (10, s37), (12, s50), (15, Value.int .i64 (i7_)), (172, Value.bool (true))] rfl (fun T => ?_)
                            refine A_cond true rfl (fun _ => ?_) (fun h_ => nomatch h_)
                            refine A_seq fun K100 hK100 => ?_
                            refine A_reg ?_
                            refine r_v (Value.bool (false)) rfl rfl rfl rfl ?_
                            refine lx_nil ?_
                            refine hK100 _ _ ?_; try clear hK100 K100
                            obtain rfl := Option.some.inj hM
                            refine A_ret (fun hn => ends_eq (v0 := Value.bool (false)) rfl (res1 rfl))
                        · replace hM := ifn (of_decide_eq_false hc82) hM
                          refine A_exit ?_
                          refine hK77 _ _ ?_; try clear hK77 K77
                          refine A_seq fun K101 hK101 => ?_
                          refine A_reg ?_
                          replace hM := bind_sm hM; obtain ⟨r102, hr103, hM⟩ := hM
                          refine r_c (Value.bool (r102)) rfl _ _ (ev_callF rfl call_5 rfl) (shunterlaw06_lives_g N  _ hr103) ?_
                          refine r_v (Value.bool (r102)) rfl rfl rfl rfl ?_
                          refine lx_nil ?_
                          refine hK101 _ _ ?_; try clear hK101 K101
                          obtain rfl := Option.some.inj hM
                          refine A_ret (fun hn => ends_eq (v0 := Value.bool (r102)) rfl (res1 rfl))
              · obtain ⟨b56, _, ⟨rfl, rfl⟩, rfl⟩ := Sum25.onP_t45 hx53 hp_
                replace hM := Sum25.on_t45 hx53 hM
                refine lx_perm (Ls := [S29, S38, S51, [(b56, 47, #[Value.int .i64 (x54_0), Value.int .i64 (x55_1)])]]) (Ls' := [[(b56, 47, #[Value.int .i64 (x54_0), Value.int .i64 (x55_1)])], S29, S38, S51]) [3, 0, 1, 2] rfl rfl ?_
                refine r_v (Value.tuple #[s50, Value.iface 45 (Value.pointer (some ⟨b56, 0, none⟩))]) rfl rfl rfl rfl ?_
                refine r_v (s50) rfl rfl rfl rfl ?_
                refine r_v (Value.iface 45 (Value.pointer (some ⟨b56, 0, none⟩))) rfl rfl rfl rfl ?_
                refine r_v (s50) rfl rfl rfl rfl ?_
                refine r_v (Value.iface 45 (Value.pointer (some ⟨b56, 0, none⟩))) rfl rfl rfl rfl ?_
                refine lx_nil ?_
                refine hK43 _ _ ?_; try clear hK43 K43
                refine A_seq fun K57 hK57 => ?_
                refine A_seq fun K58 hK58 => ?_
                refine A_reg ?_
                refine r_v (Value.iface 45 (Value.pointer (some ⟨b56, 0, none⟩))) rfl rfl rfl rfl ?_
                refine r_v (Value.bool (true)) rfl rfl rfl rfl ?_
                refine r_v (Value.bool (true)) rfl rfl rfl rfl ?_
                refine r_n true rfl (by decide) rfl ?_
                refine r_n true rfl (by decide) rfl ?_
                refine r_n true rfl (by decide) rfl ?_
                refine r_n true rfl (by decide) rfl ?_
                refine r_n true rfl (by decide) rfl ?_
                refine r_n true rfl (by decide) rfl ?_
                refine r_n true rfl (by decide) rfl ?_
                refine r_n true rfl (by decide) rfl ?_
                refine r_v (Value.bool (true)) rfl rfl rfl rfl ?_
                refine lx_nil ?_
                refine hK58 _ _ ?_; try clear hK58 K58
                refine A_gen [(8, s28), (10, s37), (12, s50), (77, Value.bool (true))] rfl (fun T => ?_)
                refine A_cond true rfl (fun _ => ?_) (fun h_ => nomatch h_)
                refine A_seq fun K59 hK59 => ?_
                refine A_reg ?_
                refine r_v (Value.bool (false)) rfl rfl rfl rfl ?_
                refine lx_nil ?_
                refine hK59 _ _ ?_; try clear hK59 K59
                obtain rfl := Option.some.inj hM
                refine A_ret (fun hn => ends_eq (v0 := Value.bool (false)) rfl (res1 rfl))
          · obtain ⟨b43, _, ⟨rfl, rfl⟩, rfl⟩ := Sum25.onP_t45 hx40 hp_
            replace hM := Sum25.on_t45 hx40 hM
            refine lx_perm (Ls := [S29, S38, [(b43, 47, #[Value.int .i64 (x41_0), Value.int .i64 (x42_1)])]]) (Ls' := [[(b43, 47, #[Value.int .i64 (x41_0), Value.int .i64 (x42_1)])], S29, S38]) [2, 0, 1] rfl rfl ?_
            refine r_v (Value.tuple #[s37, Value.iface 45 (Value.pointer (some ⟨b43, 0, none⟩))]) rfl rfl rfl rfl ?_
            refine r_v (s37) rfl rfl rfl rfl ?_
            refine r_v (Value.iface 45 (Value.pointer (some ⟨b43, 0, none⟩))) rfl rfl rfl rfl ?_
            refine r_v (s37) rfl rfl rfl rfl ?_
            refine r_v (Value.iface 45 (Value.pointer (some ⟨b43, 0, none⟩))) rfl rfl rfl rfl ?_
            refine lx_nil ?_
            refine hK34 _ _ ?_; try clear hK34 K34
            refine A_seq fun K44 hK44 => ?_
            refine A_seq fun K45 hK45 => ?_
            refine A_reg ?_
            refine r_v (Value.nilIface) rfl rfl rfl rfl ?_
            refine r_v (Value.bool (false)) rfl rfl rfl rfl ?_
            refine r_v (Value.bool (false)) rfl rfl rfl rfl ?_
            refine r_y rfl ?_
            refine r_v (Value.iface 45 (Value.pointer (some ⟨b43, 0, none⟩))) rfl rfl rfl rfl ?_
            refine r_y rfl ?_
            refine r_v (Value.bool (true)) rfl rfl rfl rfl ?_
            refine r_v (Value.bool (true)) rfl rfl rfl rfl ?_
            refine lx_nil ?_
            refine hK45 _ _ ?_; try clear hK45 K45
            refine A_cond true rfl (fun _ => ?_) (fun h_ => nomatch h_)
            refine A_seq fun K46 hK46 => ?_
            refine A_reg ?_
            replace hM := bind_sm hM; obtain ⟨r47, hr48, hM⟩ := hM
            refine r_c (Value.bool (r47)) rfl _ _ (ev_callF rfl call_5 rfl) (shunterlaw06_lives_g N  _ hr48) ?_
            refine r_v (Value.bool (r47)) rfl rfl rfl rfl ?_
            refine lx_nil ?_
            refine hK46 _ _ ?_; try clear hK46 K46
            refine A_gen [(6, Value.bool (r47))] rfl (fun T => ?_)
            obtain rfl := Option.some.inj hM
            refine A_ret (fun hn => ends_eq (v0 := Value.bool (r47)) rfl (res1 rfl))
        · obtain ⟨b34, _, ⟨rfl, rfl⟩, rfl⟩ := Sum25.onP_t45 hx31 hp_
          replace hM := Sum25.on_t45 hx31 hM
          refine lx_perm (Ls := [S29, [(b34, 47, #[Value.int .i64 (x32_0), Value.int .i64 (x33_1)])]]) (Ls' := [[(b34, 47, #[Value.int .i64 (x32_0), Value.int .i64 (x33_1)])], S29]) [1, 0] rfl rfl ?_
          refine r_v (Value.tuple #[s28, Value.iface 45 (Value.pointer (some ⟨b34, 0, none⟩))]) rfl rfl rfl rfl ?_
          refine r_v (s28) rfl rfl rfl rfl ?_
          refine r_v (Value.iface 45 (Value.pointer (some ⟨b34, 0, none⟩))) rfl rfl rfl rfl ?_
          refine r_v (s28) rfl rfl rfl rfl ?_
          refine r_v (Value.iface 45 (Value.pointer (some ⟨b34, 0, none⟩))) rfl rfl rfl rfl ?_
          refine lx_nil ?_
          refine hK24 _ _ ?_; try clear hK24 K24
          refine A_seq fun K35 hK35 => ?_
          refine A_regC [(some 45, true)] (conG Try.prog [(45, fun v_ L_ U_ => ∀ u0_, lex_Scan_m N b = some u0_ → (pO (List.flatten []) (oS 40 enc_40 u0_.1 fun s_0 => (Sum25.onP u0_.2 (oE (Value.tuple #[s_0, Value.nilIface]) []) (fun y0_0 y0_1 => (oB 47 #[Value.int .i64 (y0_0), Value.int .i64 (y0_1)] fun bs_0 => (oE (Value.tuple #[s_0, Value.iface 45 (Value.pointer (some ⟨bs_0, 0, none⟩))]) [])))))) v_ L_ U_)]) ?_
          refine r_v (Value.string (⟨(b).toArray⟩)) rfl rfl rfl rfl ?_
          replace hM := bind_sm hM; obtain ⟨r36, hr37, hM⟩ := hM
          refine r_gm (Ls := [[(b34, 47, #[Value.int .i64 (x32_0), Value.int .i64 (x33_1)])], S29]) (FL := []) (RL := [[(b34, 47, #[Value.int .i64 (x32_0), Value.int .i64 (x33_1)])], S29]) [] (oS 40 enc_40 r36.1 fun s_0 => (Sum25.onP r36.2 (oE (Value.tuple #[s_0, Value.nilIface]) []) (fun y0_0 y0_1 => (oB 47 #[Value.int .i64 (y0_0), Value.int .i64 (y0_1)] fun bs_0 => (oE (Value.tuple #[s_0, Value.iface 45 (Value.pointer (some ⟨bs_0, 0, none⟩))]) []))))) (some 45) 6 _ rfl rfl rfl rfl rfl (ev_callF rfl call_6 rfl) (fun own_ nw_ hn_ hs_ => lex_Scan_g N b _ hr37 _ ) (fun _ _ v_ L_ U_ => ⟨fun h_ => h_ _ hr37, fun h_ => by intro _ e_; cases Option.some.inj (e_.symm.trans hr37); exact h_⟩) (fun h_ => nomatch h_) ?_
          rintro _ _ ⟨s38, S39, _, H40, hp_, rfl⟩
          rcases Sum25.cases r36.2 with hx41 | ⟨x42_0, x43_1, hx41⟩
          · obtain ⟨rfl, rfl⟩ := Sum25.onP_nil hx41 hp_
            replace hM := Sum25.on_nil hx41 hM
            refine lx_perm (Ls := [[(b34, 47, #[Value.int .i64 (x32_0), Value.int .i64 (x33_1)])], S29, S39]) (Ls' := [[(b34, 47, #[Value.int .i64 (x32_0), Value.int .i64 (x33_1)])], S29, S39]) [0, 1, 2] rfl rfl ?_
            refine r_v (Value.tuple #[s38, Value.nilIface]) rfl rfl rfl rfl ?_
            refine r_v (s38) rfl rfl rfl rfl ?_
            refine r_v (Value.nilIface) rfl rfl rfl rfl ?_
            refine r_v (s38) rfl rfl rfl rfl ?_
            refine r_v (Value.nilIface) rfl rfl rfl rfl ?_
            refine lx_nil ?_
            refine hK35 _ _ ?_; try clear hK35 K35
            refine A_seq fun K44 hK44 => ?_
            refine A_seq fun K45 hK45 => ?_
            refine A_reg ?_
            refine r_v (Value.iface 45 (Value.pointer (some ⟨b34, 0, none⟩))) rfl rfl rfl rfl ?_
            refine r_v (Value.bool (true)) rfl rfl rfl rfl ?_
            refine r_v (Value.bool (true)) rfl rfl rfl rfl ?_
            refine r_n true rfl (by decide) rfl ?_
            refine r_n true rfl (by decide) rfl ?_
            refine r_v (Value.bool (true)) rfl rfl rfl rfl ?_
            refine lx_nil ?_
            refine hK45 _ _ ?_; try clear hK45 K45
            refine A_cond true rfl (fun _ => ?_) (fun h_ => nomatch h_)
            refine A_seq fun K46 hK46 => ?_
            refine A_reg ?_
            replace hM := bind_sm hM; obtain ⟨r47, hr48, hM⟩ := hM
            refine r_c (Value.bool (r47)) rfl _ _ (ev_callF rfl call_5 rfl) (shunterlaw06_lives_g N  _ hr48) ?_
            refine r_v (Value.bool (r47)) rfl rfl rfl rfl ?_
            refine lx_nil ?_
            refine hK46 _ _ ?_; try clear hK46 K46
            refine A_gen [(6, Value.bool (r47))] rfl (fun T => ?_)
            obtain rfl := Option.some.inj hM
            refine A_ret (fun hn => ends_eq (v0 := Value.bool (r47)) rfl (res1 rfl))
          · obtain ⟨b44, _, ⟨rfl, rfl⟩, rfl⟩ := Sum25.onP_t45 hx41 hp_
            replace hM := Sum25.on_t45 hx41 hM
            refine lx_perm (Ls := [[(b34, 47, #[Value.int .i64 (x32_0), Value.int .i64 (x33_1)])], S29, S39, [(b44, 47, #[Value.int .i64 (x42_0), Value.int .i64 (x43_1)])]]) (Ls' := [[(b34, 47, #[Value.int .i64 (x32_0), Value.int .i64 (x33_1)])], [(b44, 47, #[Value.int .i64 (x42_0), Value.int .i64 (x43_1)])], S29, S39]) [0, 3, 1, 2] rfl rfl ?_
            refine r_v (Value.tuple #[s38, Value.iface 45 (Value.pointer (some ⟨b44, 0, none⟩))]) rfl rfl rfl rfl ?_
            refine r_v (s38) rfl rfl rfl rfl ?_
            refine r_v (Value.iface 45 (Value.pointer (some ⟨b44, 0, none⟩))) rfl rfl rfl rfl ?_
            refine r_v (s38) rfl rfl rfl rfl ?_
            refine r_v (Value.iface 45 (Value.pointer (some ⟨b44, 0, none⟩))) rfl rfl rfl rfl ?_
            refine lx_nil ?_
            refine hK35 _ _ ?_; try clear hK35 K35
            refine A_seq fun K45 hK45 => ?_
            refine A_seq fun K46 hK46 => ?_
            refine A_reg ?_
            refine r_v (Value.iface 45 (Value.pointer (some ⟨b34, 0, none⟩))) rfl rfl rfl rfl ?_
            refine r_v (Value.bool (true)) rfl rfl rfl rfl ?_
            refine r_v (Value.bool (true)) rfl rfl rfl rfl ?_
            refine r_n true rfl (by decide) rfl ?_
            refine r_n true rfl (by decide) rfl ?_
            refine r_v (Value.bool (true)) rfl rfl rfl rfl ?_
            refine lx_nil ?_
            refine hK46 _ _ ?_; try clear hK46 K46
            refine A_cond true rfl (fun _ => ?_) (fun h_ => nomatch h_)
            refine A_seq fun K47 hK47 => ?_
            refine A_reg ?_
            replace hM := bind_sm hM; obtain ⟨r48, hr49, hM⟩ := hM
            refine r_c (Value.bool (r48)) rfl _ _ (ev_callF rfl call_5 rfl) (shunterlaw06_lives_g N  _ hr49) ?_
            refine r_v (Value.bool (r48)) rfl rfl rfl rfl ?_
            refine lx_nil ?_
            refine hK47 _ _ ?_; try clear hK47 K47
            refine A_gen [(6, Value.bool (r48))] rfl (fun T => ?_)
            obtain rfl := Option.some.inj hM
            refine A_ret (fun hn => ends_eq (v0 := Value.bool (r48)) rfl (res1 rfl))
end Go.Proofs.Ytmdjifehblijkaa
