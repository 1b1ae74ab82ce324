/- models of functions and their walks -/
import Derived.Test.YtomcfndpnnjihaaDoorTeP
import Derived.Test.YtomcfndpnnjihaaDoorIo
import Derived.Test.YtomcfndpnnjihaaDoorVc
namespace Go.Proofs.YtomcfndpnnjihaaDoor
open Go Go.RowKit Go.Eng
def vec_TextI_m (N : Nat) (a_0 : Int) (a_1 : BitVec 128) : Option (List UInt8) := (vec_May_m N (a_0) (a_1)).bind fun r5 => if (r5) = true then ck (-9223372036854775808 ≤ (a_0 : Int) ∧ (a_0 : Int) ≤ 9223372036854775807) (ck (((Lib.itoa (a_0)).length : Int) + ((([39] : List UInt8)).length : Int) ≤ 9223372036854775807) ((vec_Word_m N (a_0) (a_1)).bind fun r12 => ck ((((Lib.itoa (a_0)) ++ (([39] : List UInt8))).length : Int) + ((textI (16) (r12)).length : Int) ≤ 9223372036854775807) (some (((Lib.itoa (a_0)) ++ (([39] : List UInt8))) ++ (textI (16) (r12)))))) else some ([])
set_option maxRecDepth 100000 in
set_option maxHeartbeats 400000 in
theorem vec_TextI_g (N : Nat) (a_0 : Int) (a_1 : BitVec 128) (r : List UInt8) (hM : vec_TextI_m N a_0 a_1 = some r) (ro : Addr → Option Value)  : DoesI Tryd.prog 47 #[Value.agg #[Value.int .i64 (a_0), U (hi (a_1)), U (lo (a_1))]] MemI ro [] (pV (Value.string (⟨(r).toArray⟩))) := by
  unfold vec_TextI_m at hM
  refine doesI_of_A follows Tryd.func47 rfl 14 rfl (upd (fun _ => undef) 0 (Value.agg #[Value.int .i64 (a_0), U (hi (a_1)), U (lo (a_1))])) (by funext k; match k with | 0 => rfl | k + 1 => rfl) memI_kept (fun base0_ => ?_)
  refine A_seq fun K1 hK1 => ?_
  refine A_reg ?_
  refine r_a (24, #[Value.int .i64 (a_0), U (hi (a_1)), U (lo (a_1))]) rfl rfl rfl (fun b2 => ?_) (.inr rfl)
  refine r_v (Value.string (⟨#[]⟩)) rfl rfl rfl rfl ?_
  refine lx_nil ?_
  refine hK1 _ _ ?_; try clear hK1 K1
  refine A_seq fun K3 hK3 => ?_
  refine A_seq fun K4 hK4 => ?_
  refine A_reg ?_
  refine r_l (Value.agg #[Value.int .i64 (a_0), U (hi (a_1)), U (lo (a_1))]) 0 _ _ _ _ rfl rfl rfl rfl rfl ?_
  replace hM := bind_sm hM; obtain ⟨r5, hr6, hM⟩ := hM
  refine r_c (Value.bool (r5)) rfl _ _ (ev_callF rfl call_13 rfl) (vec_May_g N (a_0) (a_1) _ hr6) ?_
  refine r_v (Value.bool (!(r5))) rfl rfl rfl rfl ?_
  refine lx_nil ?_
  refine hK4 _ _ ?_; try clear hK4 K4
  refine A_cond (!(r5)) rfl (fun hc7 => ?_) (fun hc7 => ?_)
  · replace hM := ifn (Bool.eq_false_iff.1 (not_t hc7)) hM
    refine A_seq fun K8 hK8 => ?_
    refine A_reg ?_
    refine r_v (Value.string (⟨#[]⟩)) rfl rfl rfl rfl ?_
    refine lx_nil ?_
    refine hK8 _ _ ?_; try clear hK8 K8
    obtain rfl := Option.some.inj hM
    refine A_ret (fun hn => endsV (v0 := Value.string (⟨#[]⟩)) rfl (res1 rfl))
  · replace hM := ifp (not_f hc7) hM
    refine A_skip ?_
    refine hK3 _ _ ?_; try clear hK3 K3
    refine A_seq fun K9 hK9 => ?_
    refine A_drawR [(some 8, false)] (conG Tryd.prog [(8, fun v_ L_ U_ => (pV (Value.string (⟨(Lib.itoa (a_0)).toArray⟩))) v_ L_ U_)]) [] (by decide +kernel) (fun hn => sep_nil) ?_
    refine r_v (Value.pointer (some ⟨b2, 0, none⟩)) rfl rfl rfl rfl ?_
    refine r_l (Value.int .i64 (a_0)) 0 _ _ _ _ rfl rfl rfl rfl rfl ?_
    replace hM := ck_some hM; obtain ⟨ck10, hM⟩ := hM
    refine r_gv (Value.string (⟨(Lib.itoa (a_0)).toArray⟩)) 78 _ rfl rfl rfl (ev_callF rfl call_78 rfl) (fun own_ nw_ hs_ => itoa_i (a_0) ck10 _) (fun _ _ _ _ _ => Iff.rfl) ?_
    replace hM := ck_some hM; obtain ⟨ck11, hM⟩ := hM
    refine r_v (Value.string (⟨((Lib.itoa (a_0)) ++ (([39] : List UInt8))).toArray⟩)) rfl rfl rfl (ev_addS ck11 rfl rfl) ?_
    refine r_l (Value.agg #[Value.int .i64 (a_0), U (hi (a_1)), U (lo (a_1))]) 0 _ _ _ _ rfl rfl rfl rfl rfl ?_
    replace hM := bind_sm hM; obtain ⟨r12, hr13, hM⟩ := hM
    refine r_c (Value.agg #[U (hi (r12)), U (lo (r12))]) rfl _ _ (ev_callF rfl call_14 rfl) (vec_Word_g N (a_0) (a_1) _ hr13) ?_
    refine r_c (Value.string (⟨(textI (16) (r12)).toArray⟩)) rfl _ _ (ev_callF rfl call_79 rfl) (text_t (r12) (16)) ?_
    replace hM := ck_some hM; obtain ⟨ck14, hM⟩ := hM
    refine r_v (Value.string (⟨(((Lib.itoa (a_0)) ++ (([39] : List UInt8))) ++ (textI (16) (r12))).toArray⟩)) rfl rfl rfl (ev_addS ck14 rfl rfl) ?_
    refine r_v (Value.string (⟨(((Lib.itoa (a_0)) ++ (([39] : List UInt8))) ++ (textI (16) (r12))).toArray⟩)) rfl rfl rfl rfl ?_
    refine lx_nil ?_
    refine hK9 _ _ ?_; try clear hK9 K9
    obtain rfl := Option.some.inj hM
    refine A_ret (fun hn => endsV (v0 := Value.string (⟨(((Lib.itoa (a_0)) ++ (([39] : List UInt8))) ++ (textI (16) (r12))).toArray⟩)) rfl (res1 rfl))
def vec_Parse_k4 (N : Nat) (s : List UInt8) (_ : Int) (_ : BitVec 128) : Option (Int × (BitVec 128) × Int) := ck ((((lo ((parseR ((Lib.cut (s) (([39] : List UInt8))).1) (10)).1)).toNat : Nat) : Int) ≤ 9223372036854775807) ((vec_New_m N ((((lo ((parseR ((Lib.cut (s) (([39] : List UInt8))).1) (10)).1)).toNat : Nat) : Int)) (hi ((parseR ((Lib.cut (s) (([39] : List UInt8))).2.1) (16)).1)) (lo ((parseR ((Lib.cut (s) (([39] : List UInt8))).2.1) (16)).1))).bind fun r17 => if (r17.2.2 : Int) = 0 then if ((parseR ((Lib.cut (s) (([39] : List UInt8))).2.1) (16)).2 : Int) ≠ 0 then some (0, (0#64) ++ (0#64), (parseR ((Lib.cut (s) (([39] : List UInt8))).2.1) (16)).2) else some (r17.1, r17.2.1, r17.2.2) else some (r17.1, r17.2.1, r17.2.2))
def vec_Parse_k2 (N : Nat) (s : List UInt8) (m1__0 : Int) (m1__1 : BitVec 128) : Option (Int × (BitVec 128) × Int) := ck (((Lib.cut (s) (([39] : List UInt8))).1).length ≤ 4611686018427387904) (if ((parseR ((Lib.cut (s) (([39] : List UInt8))).1) (10)).2 : Int) ≠ 0 then some (0, (0#64) ++ (0#64), 4) else ck (((Lib.cut (s) (([39] : List UInt8))).2.1).length ≤ 4611686018427387904) (if ((parseR ((Lib.cut (s) (([39] : List UInt8))).2.1) (16)).2 : Int) = 3 then some (0, (0#64) ++ (0#64), 4) else if ((parseR ((Lib.cut (s) (([39] : List UInt8))).2.1) (16)).2 : Int) = 4 then some (0, (0#64) ++ (0#64), 4) else vec_Parse_k4 N s (m1__0) (m1__1)))
def vec_Parse_m (N : Nat) (s : List UInt8) : Option (Int × (BitVec 128) × Int) := ck ((s).length < 4294967281) (if ((Lib.cut (s) (([39] : List UInt8))).2.2) = true then if ((((Lib.cut (s) (([39] : List UInt8))).1).length : Int) : Int) > 3 then some (0, (0#64) ++ (0#64), 4) else vec_Parse_k2 N s (0) ((0#64) ++ (0#64)) else some (0, (0#64) ++ (0#64), 4))
set_option maxRecDepth 100000 in
set_option maxHeartbeats 400000 in
theorem vec_Parse_g (N : Nat) (s : List UInt8) (r : Int × (BitVec 128) × Int) (hM : vec_Parse_m N s = some r) (ro : Addr → Option Value)  : DoesI Tryd.prog 45 #[Value.string (⟨(s).toArray⟩)] MemI ro [] (pV (Value.tuple #[Value.agg #[Value.int .i64 (r.1), U (hi (r.2.1)), U (lo (r.2.1))], Value.int .i64 (r.2.2)])) := by
  unfold vec_Parse_m at hM
  refine doesI_of_A follows Tryd.func45 rfl 67 rfl (upd (fun _ => undef) 0 (Value.string (⟨(s).toArray⟩))) (by funext k; match k with | 0 => rfl | k + 1 => rfl) memI_kept (fun base0_ => ?_)
  refine A_seq fun K1 hK1 => ?_
  refine A_reg ?_
  refine r_a (24, #[Value.int .i64 (0), U (0#64), U (0#64)]) rfl rfl rfl (fun b2 => ?_) (.inr rfl)
  refine r_v (Value.int .i64 (0)) rfl rfl rfl rfl ?_
  refine lx_nil ?_
  refine hK1 _ _ ?_; try clear hK1 K1
  refine A_seq fun K3 hK3 => ?_
  refine A_regC [(some 14, false)] (conG Tryd.prog [(14, fun v_ L_ U_ => (pV (Value.tuple #[Value.string (⟨((Lib.cut (s) (([39] : List UInt8))).1).toArray⟩), Value.string (⟨((Lib.cut (s) (([39] : List UInt8))).2.1).toArray⟩), Value.bool ((Lib.cut (s) (([39] : List UInt8))).2.2)])) v_ L_ U_)]) ?_
  refine r_v (Value.string (⟨(s).toArray⟩)) rfl rfl rfl rfl ?_
  replace hM := ck_some hM; obtain ⟨ck4, hM⟩ := hM
  refine r_gv (Value.tuple #[Value.string (⟨((Lib.cut (s) (([39] : List UInt8))).1).toArray⟩), Value.string (⟨((Lib.cut (s) (([39] : List UInt8))).2.1).toArray⟩), Value.bool ((Lib.cut (s) (([39] : List UInt8))).2.2)]) 75 _ rfl rfl rfl (ev_callF rfl call_75 rfl) (fun own_ nw_ hs_ => cut_i (s) (([39] : List UInt8)) ck4 _) (fun _ _ _ _ _ => Iff.rfl) ?_
  refine r_v (Value.tuple #[Value.string (⟨((Lib.cut (s) (([39] : List UInt8))).1).toArray⟩), Value.string (⟨((Lib.cut (s) (([39] : List UInt8))).2.1).toArray⟩), Value.bool ((Lib.cut (s) (([39] : List UInt8))).2.2)]) rfl rfl rfl rfl ?_
  refine r_v (Value.string (⟨((Lib.cut (s) (([39] : List UInt8))).1).toArray⟩)) rfl rfl rfl rfl ?_
  refine r_v (Value.string (⟨((Lib.cut (s) (([39] : List UInt8))).2.1).toArray⟩)) rfl rfl rfl rfl ?_
  refine r_v (Value.bool ((Lib.cut (s) (([39] : List UInt8))).2.2)) rfl rfl rfl rfl ?_
  refine r_v (Value.string (⟨((Lib.cut (s) (([39] : List UInt8))).1).toArray⟩)) rfl rfl rfl rfl ?_
  refine r_v (Value.string (⟨((Lib.cut (s) (([39] : List UInt8))).2.1).toArray⟩)) rfl rfl rfl rfl ?_
  refine r_v (Value.bool ((Lib.cut (s) (([39] : List UInt8))).2.2)) rfl rfl rfl rfl ?_
  refine lx_nil ?_
  refine hK3 _ _ ?_; try clear hK3 K3
  refine A_cut (fun tt ll => ∃ (m1__0 : Int) (m1__1 : BitVec 128), (vec_Parse_k2 N s m1__0 m1__1 = some r) ∧ Is [(2, Value.pointer (some ⟨b2, 0, none⟩)), (4, Value.string (⟨((Lib.cut (s) (([39] : List UInt8))).1).toArray⟩)), (5, Value.string (⟨((Lib.cut (s) (([39] : List UInt8))).2.1).toArray⟩))] [(b2, 24, #[Value.int .i64 (m1__0), U (hi (m1__1)), U (lo (m1__1))])] tt ll) ?_ ?_
  · refine A_seq fun K32 hK32 => ?_
    refine A_reg ?_
    refine r_v (Value.bool ((Lib.cut (s) (([39] : List UInt8))).2.2)) rfl rfl rfl rfl ?_
    refine r_v (Value.bool (!((Lib.cut (s) (([39] : List UInt8))).2.2))) rfl rfl rfl rfl ?_
    refine r_v (Value.bool (!((Lib.cut (s) (([39] : List UInt8))).2.2))) rfl rfl rfl rfl ?_
    rcases hg33 : (!((Lib.cut (s) (([39] : List UInt8))).2.2)) with _ | _
    · replace hM := ifp (not_f hg33) hM
      refine r_y rfl ?_
      refine r_v (Value.string (⟨((Lib.cut (s) (([39] : List UInt8))).1).toArray⟩)) rfl rfl rfl rfl ?_
      refine r_y rfl ?_
      refine r_v (Value.int .i64 ((((Lib.cut (s) (([39] : List UInt8))).1).length : Int))) rfl rfl rfl (ev_lenS rfl rfl rfl) ?_
      refine r_y rfl ?_
      refine r_v (Value.bool (decide (((((Lib.cut (s) (([39] : List UInt8))).1).length : Int) : Int) > 3))) rfl rfl rfl rfl ?_
      refine r_v (Value.bool (decide (((((Lib.cut (s) (([39] : List UInt8))).1).length : Int) : Int) > 3))) rfl rfl rfl rfl ?_
      refine lx_nil ?_
      refine hK32 _ _ ?_; try clear hK32 K32
      refine A_cond (decide (((((Lib.cut (s) (([39] : List UInt8))).1).length : Int) : Int) > 3)) rfl (fun hc34 => ?_) (fun hc34 => ?_)
      · replace hM := ifp (of_decide_eq_true hc34) hM
        refine A_seq fun K35 hK35 => ?_
        refine A_reg ?_
        refine r_v (Value.agg #[Value.int .i64 (0), U (0#64), U (0#64)]) rfl rfl rfl (ev_buildS rfl rfl rfl rfl) ?_
        refine r_s [(b2, 24, #[Value.int .i64 (0), U (0#64), U (0#64)])] 0 _ _ _ (#[Value.int .i64 (0), U (0#64), U (0#64)]) (#[Value.int .i64 (0), U (0#64), U (0#64)]) (#[Value.int .i64 (0), U (0#64), U (0#64)]) rfl rfl rfl rfl (.of rfl rfl) rfl rfl ?_
        refine r_v (Value.int .i64 (4)) rfl rfl rfl rfl ?_
        refine lx_nil ?_
        refine hK35 _ _ ?_; try clear hK35 K35
        obtain rfl := Option.some.inj hM
        refine A_ret (fun hn => endsV (v0 := Value.tuple #[Value.agg #[Value.int .i64 (0), U (0#64), U (0#64)], Value.int .i64 (4)]) (by first | rfl | simp only [app_hl]) (res2 (res_cell hn 0 rfl rfl rfl) rfl))
      · replace hM := ifn (of_decide_eq_false hc34) hM
        refine A_skip ?_
        refine fg _ (Sub.of (List.Sublist.cons_cons _ (List.Sublist.slnil))) ?_
        exact ⟨0, (0#64) ++ (0#64), hM, is_mk rfl (by first | rfl | simp only [app_hl])⟩
    · replace hM := ifn (Bool.eq_false_iff.1 (not_t hg33)) hM
      refine r_n true rfl (by decide) rfl ?_
      refine r_n true rfl (by decide) rfl ?_
      refine r_n true rfl (by decide) rfl ?_
      refine r_v (Value.bool (true)) rfl rfl rfl rfl ?_
      refine lx_nil ?_
      refine hK32 _ _ ?_; try clear hK32 K32
      refine A_cond true rfl (fun _ => ?_) (fun h_ => nomatch h_)
      refine A_seq fun K36 hK36 => ?_
      refine A_reg ?_
      refine r_v (Value.agg #[Value.int .i64 (0), U (0#64), U (0#64)]) rfl rfl rfl (ev_buildS rfl rfl rfl rfl) ?_
      refine r_s [(b2, 24, #[Value.int .i64 (0), U (0#64), U (0#64)])] 0 _ _ _ (#[Value.int .i64 (0), U (0#64), U (0#64)]) (#[Value.int .i64 (0), U (0#64), U (0#64)]) (#[Value.int .i64 (0), U (0#64), U (0#64)]) rfl rfl rfl rfl (.of rfl rfl) rfl rfl ?_
      refine r_v (Value.int .i64 (4)) rfl rfl rfl rfl ?_
      refine lx_nil ?_
      refine hK36 _ _ ?_; try clear hK36 K36
      obtain rfl := Option.some.inj hM
      refine A_ret (fun hn => endsV (v0 := Value.tuple #[Value.agg #[Value.int .i64 (0), U (0#64), U (0#64)], Value.int .i64 (4)]) (by first | rfl | simp only [app_hl]) (res2 (res_cell hn 0 rfl rfl rfl) rfl))
  · clear hM; rintro t l ⟨m1__0, m1__1, hM, ⟨T, rfl⟩, rfl⟩
    unfold vec_Parse_k2 at hM
    refine A_seq fun K5 hK5 => ?_
    refine A_reg ?_
    refine r_v (Value.string (⟨((Lib.cut (s) (([39] : List UInt8))).1).toArray⟩)) rfl rfl rfl rfl ?_
    replace hM := ck_some hM; obtain ⟨ck6, hM⟩ := hM
    refine r_c (Value.tuple #[Value.agg #[U (hi ((parseR ((Lib.cut (s) (([39] : List UInt8))).1) (10)).1)), U (lo ((parseR ((Lib.cut (s) (([39] : List UInt8))).1) (10)).1))], Value.int .i64 ((parseR ((Lib.cut (s) (([39] : List UInt8))).1) (10)).2)]) rfl _ _ (ev_callF rfl call_76 rfl) (parse_t ((Lib.cut (s) (([39] : List UInt8))).1) (10) ck6) ?_
    refine r_v (Value.tuple #[Value.agg #[U (hi ((parseR ((Lib.cut (s) (([39] : List UInt8))).1) (10)).1)), U (lo ((parseR ((Lib.cut (s) (([39] : List UInt8))).1) (10)).1))], Value.int .i64 ((parseR ((Lib.cut (s) (([39] : List UInt8))).1) (10)).2)]) rfl rfl rfl rfl ?_
    refine r_v (Value.agg #[U (hi ((parseR ((Lib.cut (s) (([39] : List UInt8))).1) (10)).1)), U (lo ((parseR ((Lib.cut (s) (([39] : List UInt8))).1) (10)).1))]) rfl rfl rfl rfl ?_
    refine r_v (Value.int .i64 ((parseR ((Lib.cut (s) (([39] : List UInt8))).1) (10)).2)) rfl rfl rfl rfl ?_
    refine r_a (31, #[U (0#64), U (0#64)]) rfl rfl rfl (fun b7 => ?_) (.inr rfl)
    refine r_s [(b7, 31, #[U (hi ((parseR ((Lib.cut (s) (([39] : List UInt8))).1) (10)).1)), U (lo ((parseR ((Lib.cut (s) (([39] : List UInt8))).1) (10)).1))]), (b2, 24, #[Value.int .i64 (m1__0), U (hi (m1__1)), U (lo (m1__1))])] 0 _ _ _ (#[U (0#64), U (0#64)]) (#[U (hi ((parseR ((Lib.cut (s) (([39] : List UInt8))).1) (10)).1)), U (lo ((parseR ((Lib.cut (s) (([39] : List UInt8))).1) (10)).1))]) (#[U (hi ((parseR ((Lib.cut (s) (([39] : List UInt8))).1) (10)).1)), U (lo ((parseR ((Lib.cut (s) (([39] : List UInt8))).1) (10)).1))]) rfl rfl rfl rfl (.of rfl rfl) rfl rfl ?_
    refine r_v (Value.int .i64 ((parseR ((Lib.cut (s) (([39] : List UInt8))).1) (10)).2)) rfl rfl rfl rfl ?_
    refine lx_nil ?_
    refine hK5 _ _ ?_; try clear hK5 K5
    refine A_seq fun K8 hK8 => ?_
    refine A_seq fun K9 hK9 => ?_
    refine A_reg ?_
    refine r_v (Value.int .i64 ((parseR ((Lib.cut (s) (([39] : List UInt8))).1) (10)).2)) rfl rfl rfl rfl ?_
    refine r_v (Value.bool ((((parseR ((Lib.cut (s) (([39] : List UInt8))).1) (10)).2 : Int) != 0))) rfl rfl rfl rfl ?_
    refine lx_nil ?_
    refine hK9 _ _ ?_; try clear hK9 K9
    refine A_cond ((((parseR ((Lib.cut (s) (([39] : List UInt8))).1) (10)).2 : Int) != 0)) rfl (fun hc10 => ?_) (fun hc10 => ?_)
    · replace hM := ifp (bne_iff_ne.1 hc10) hM
      refine A_seq fun K11 hK11 => ?_
      refine A_reg ?_
      refine r_v (Value.agg #[Value.int .i64 (0), U (0#64), U (0#64)]) rfl rfl rfl (ev_buildS rfl rfl rfl rfl) ?_
      refine r_s [(b7, 31, #[U (hi ((parseR ((Lib.cut (s) (([39] : List UInt8))).1) (10)).1)), U (lo ((parseR ((Lib.cut (s) (([39] : List UInt8))).1) (10)).1))]), (b2, 24, #[Value.int .i64 (0), U (0#64), U (0#64)])] 1 _ _ _ (#[Value.int .i64 (m1__0), U (hi (m1__1)), U (lo (m1__1))]) (#[Value.int .i64 (0), U (0#64), U (0#64)]) (#[Value.int .i64 (0), U (0#64), U (0#64)]) rfl rfl rfl rfl (.of rfl rfl) rfl rfl ?_
      refine r_v (Value.int .i64 (4)) rfl rfl rfl rfl ?_
      refine lx_nil ?_
      refine hK11 _ _ ?_; try clear hK11 K11
      obtain rfl := Option.some.inj hM
      refine A_ret (fun hn => endsV (v0 := Value.tuple #[Value.agg #[Value.int .i64 (0), U (0#64), U (0#64)], Value.int .i64 (4)]) (by first | rfl | simp only [app_hl]) (res2 (res_cell hn 1 rfl rfl rfl) rfl))
    · replace hM := ifn (bne_f hc10) hM
      refine A_skip ?_
      refine hK8 _ _ ?_; try clear hK8 K8
      refine A_seq fun K12 hK12 => ?_
      refine A_reg ?_
      refine r_v (Value.string (⟨((Lib.cut (s) (([39] : List UInt8))).2.1).toArray⟩)) rfl rfl rfl rfl ?_
      replace hM := ck_some hM; obtain ⟨ck13, hM⟩ := hM
      refine r_c (Value.tuple #[Value.agg #[U (hi ((parseR ((Lib.cut (s) (([39] : List UInt8))).2.1) (16)).1)), U (lo ((parseR ((Lib.cut (s) (([39] : List UInt8))).2.1) (16)).1))], Value.int .i64 ((parseR ((Lib.cut (s) (([39] : List UInt8))).2.1) (16)).2)]) rfl _ _ (ev_callF rfl call_76 rfl) (parse_t ((Lib.cut (s) (([39] : List UInt8))).2.1) (16) ck13) ?_
      refine r_v (Value.tuple #[Value.agg #[U (hi ((parseR ((Lib.cut (s) (([39] : List UInt8))).2.1) (16)).1)), U (lo ((parseR ((Lib.cut (s) (([39] : List UInt8))).2.1) (16)).1))], Value.int .i64 ((parseR ((Lib.cut (s) (([39] : List UInt8))).2.1) (16)).2)]) rfl rfl rfl rfl ?_
      refine r_v (Value.agg #[U (hi ((parseR ((Lib.cut (s) (([39] : List UInt8))).2.1) (16)).1)), U (lo ((parseR ((Lib.cut (s) (([39] : List UInt8))).2.1) (16)).1))]) rfl rfl rfl rfl ?_
      refine r_v (Value.int .i64 ((parseR ((Lib.cut (s) (([39] : List UInt8))).2.1) (16)).2)) rfl rfl rfl rfl ?_
      refine r_a (31, #[U (0#64), U (0#64)]) rfl rfl rfl (fun b14 => ?_) (.inr rfl)
      refine r_s [(b14, 31, #[U (hi ((parseR ((Lib.cut (s) (([39] : List UInt8))).2.1) (16)).1)), U (lo ((parseR ((Lib.cut (s) (([39] : List UInt8))).2.1) (16)).1))]), (b7, 31, #[U (hi ((parseR ((Lib.cut (s) (([39] : List UInt8))).1) (10)).1)), U (lo ((parseR ((Lib.cut (s) (([39] : List UInt8))).1) (10)).1))]), (b2, 24, #[Value.int .i64 (m1__0), U (hi (m1__1)), U (lo (m1__1))])] 0 _ _ _ (#[U (0#64), U (0#64)]) (#[U (hi ((parseR ((Lib.cut (s) (([39] : List UInt8))).2.1) (16)).1)), U (lo ((parseR ((Lib.cut (s) (([39] : List UInt8))).2.1) (16)).1))]) (#[U (hi ((parseR ((Lib.cut (s) (([39] : List UInt8))).2.1) (16)).1)), U (lo ((parseR ((Lib.cut (s) (([39] : List UInt8))).2.1) (16)).1))]) rfl rfl rfl rfl (.of rfl rfl) rfl rfl ?_
      refine r_v (Value.int .i64 ((parseR ((Lib.cut (s) (([39] : List UInt8))).2.1) (16)).2)) rfl rfl rfl rfl ?_
      refine lx_nil ?_
      refine hK12 _ _ ?_; try clear hK12 K12
      refine A_cut (fun tt ll => ∃ (m3__0 : Int) (m3__1 : BitVec 128), (vec_Parse_k4 N s m3__0 m3__1 = some r) ∧ Is [(2, Value.pointer (some ⟨b2, 0, none⟩)), (7, Value.pointer (some ⟨b7, 0, none⟩)), (8, Value.int .i64 ((parseR ((Lib.cut (s) (([39] : List UInt8))).2.1) (16)).2)), (9, Value.pointer (some ⟨b14, 0, none⟩))] [(b14, 31, #[U (hi ((parseR ((Lib.cut (s) (([39] : List UInt8))).2.1) (16)).1)), U (lo ((parseR ((Lib.cut (s) (([39] : List UInt8))).2.1) (16)).1))]), (b7, 31, #[U (hi ((parseR ((Lib.cut (s) (([39] : List UInt8))).1) (10)).1)), U (lo ((parseR ((Lib.cut (s) (([39] : List UInt8))).1) (10)).1))]), (b2, 24, #[Value.int .i64 (m3__0), U (hi (m3__1)), U (lo (m3__1))])] tt ll) ?_ ?_
      · refine A_seq fun K27 hK27 => ?_
        refine A_reg ?_
        refine r_v (Value.int .i64 ((parseR ((Lib.cut (s) (([39] : List UInt8))).2.1) (16)).2)) rfl rfl rfl rfl ?_
        refine r_v (Value.bool ((((parseR ((Lib.cut (s) (([39] : List UInt8))).2.1) (16)).2 : Int) == 3))) rfl rfl rfl rfl ?_
        refine r_v (Value.bool ((((parseR ((Lib.cut (s) (([39] : List UInt8))).2.1) (16)).2 : Int) == 3))) rfl rfl rfl rfl ?_
        rcases hg28 : ((((parseR ((Lib.cut (s) (([39] : List UInt8))).2.1) (16)).2 : Int) == 3)) with _ | _
        · replace hM := ifn (ne_of_beq_false hg28) hM
          refine r_y rfl ?_
          refine r_v (Value.int .i64 ((parseR ((Lib.cut (s) (([39] : List UInt8))).2.1) (16)).2)) rfl rfl rfl rfl ?_
          refine r_y rfl ?_
          refine r_v (Value.bool ((((parseR ((Lib.cut (s) (([39] : List UInt8))).2.1) (16)).2 : Int) == 4))) rfl rfl rfl rfl ?_
          refine r_v (Value.bool ((((parseR ((Lib.cut (s) (([39] : List UInt8))).2.1) (16)).2 : Int) == 4))) rfl rfl rfl rfl ?_
          refine lx_nil ?_
          refine hK27 _ _ ?_; try clear hK27 K27
          refine A_cond ((((parseR ((Lib.cut (s) (([39] : List UInt8))).2.1) (16)).2 : Int) == 4)) rfl (fun hc29 => ?_) (fun hc29 => ?_)
          · replace hM := ifp (eq_of_beq hc29) hM
            refine A_seq fun K30 hK30 => ?_
            refine A_reg ?_
            refine r_v (Value.agg #[Value.int .i64 (0), U (0#64), U (0#64)]) rfl rfl rfl (ev_buildS rfl rfl rfl rfl) ?_
            refine r_s [(b14, 31, #[U (hi ((parseR ((Lib.cut (s) (([39] : List UInt8))).2.1) (16)).1)), U (lo ((parseR ((Lib.cut (s) (([39] : List UInt8))).2.1) (16)).1))]), (b7, 31, #[U (hi ((parseR ((Lib.cut (s) (([39] : List UInt8))).1) (10)).1)), U (lo ((parseR ((Lib.cut (s) (([39] : List UInt8))).1) (10)).1))]), (b2, 24, #[Value.int .i64 (0), U (0#64), U (0#64)])] 2 _ _ _ (#[Value.int .i64 (m1__0), U (hi (m1__1)), U (lo (m1__1))]) (#[Value.int .i64 (0), U (0#64), U (0#64)]) (#[Value.int .i64 (0), U (0#64), U (0#64)]) rfl rfl rfl rfl (.of rfl rfl) rfl rfl ?_
            refine r_v (Value.int .i64 (4)) rfl rfl rfl rfl ?_
            refine lx_nil ?_
            refine hK30 _ _ ?_; try clear hK30 K30
            obtain rfl := Option.some.inj hM
            refine A_ret (fun hn => endsV (v0 := Value.tuple #[Value.agg #[Value.int .i64 (0), U (0#64), U (0#64)], Value.int .i64 (4)]) (by first | rfl | simp only [app_hl]) (res2 (res_cell hn 2 rfl rfl rfl) rfl))
          · replace hM := ifn (ne_of_beq_false hc29) hM
            refine A_skip ?_
            refine fg _ (Sub.of (List.Sublist.cons_cons _ (List.Sublist.cons_cons _ (List.Sublist.cons_cons _ (List.Sublist.slnil))))) ?_
            exact ⟨m1__0, m1__1, hM, is_mk rfl rfl⟩
        · replace hM := ifp (eq_of_beq hg28) hM
          refine r_n true rfl (by decide) rfl ?_
          refine r_n true rfl (by decide) rfl ?_
          refine r_v (Value.bool (true)) rfl rfl rfl rfl ?_
          refine lx_nil ?_
          refine hK27 _ _ ?_; try clear hK27 K27
          refine A_cond true rfl (fun _ => ?_) (fun h_ => nomatch h_)
          refine A_seq fun K31 hK31 => ?_
          refine A_reg ?_
          refine r_v (Value.agg #[Value.int .i64 (0), U (0#64), U (0#64)]) rfl rfl rfl (ev_buildS rfl rfl rfl rfl) ?_
          refine r_s [(b14, 31, #[U (hi ((parseR ((Lib.cut (s) (([39] : List UInt8))).2.1) (16)).1)), U (lo ((parseR ((Lib.cut (s) (([39] : List UInt8))).2.1) (16)).1))]), (b7, 31, #[U (hi ((parseR ((Lib.cut (s) (([39] : List UInt8))).1) (10)).1)), U (lo ((parseR ((Lib.cut (s) (([39] : List UInt8))).1) (10)).1))]), (b2, 24, #[Value.int .i64 (0), U (0#64), U (0#64)])] 2 _ _ _ (#[Value.int .i64 (m1__0), U (hi (m1__1)), U (lo (m1__1))]) (#[Value.int .i64 (0), U (0#64), U (0#64)]) (#[Value.int .i64 (0), U (0#64), U (0#64)]) rfl rfl rfl rfl (.of rfl rfl) rfl rfl ?_
          refine r_v (Value.int .i64 (4)) rfl rfl rfl rfl ?_
          refine lx_nil ?_
          refine hK31 _ _ ?_; try clear hK31 K31
          obtain rfl := Option.some.inj hM
          refine A_ret (fun hn => endsV (v0 := Value.tuple #[Value.agg #[Value.int .i64 (0), U (0#64), U (0#64)], Value.int .i64 (4)]) (by first | rfl | simp only [app_hl]) (res2 (res_cell hn 2 rfl rfl rfl) rfl))
      · clear hM; rintro t l ⟨m3__0, m3__1, hM, ⟨T, rfl⟩, rfl⟩
        unfold vec_Parse_k4 at hM
        refine A_seq fun K15 hK15 => ?_
        refine A_reg ?_
        refine r_v (Value.pointer (some ⟨b7, 1, none⟩)) rfl rfl rfl rfl ?_
        refine r_l (U (lo ((parseR ((Lib.cut (s) (([39] : List UInt8))).1) (10)).1))) 1 _ _ _ _ rfl rfl rfl rfl rfl ?_
        replace hM := ck_some hM; obtain ⟨ck16, hM⟩ := hM
        refine r_w (Value.int .i64 ((((lo ((parseR ((Lib.cut (s) (([39] : List UInt8))).1) (10)).1)).toNat : Nat) : Int))) rfl rfl (wi64 rfl (by omega) ck16) (fun _ => rfl) ?_
        refine r_v (Value.pointer (some ⟨b14, 0, none⟩)) rfl rfl rfl rfl ?_
        refine r_l (U (hi ((parseR ((Lib.cut (s) (([39] : List UInt8))).2.1) (16)).1))) 0 _ _ _ _ rfl rfl rfl rfl rfl ?_
        refine r_v (Value.pointer (some ⟨b14, 1, none⟩)) rfl rfl rfl rfl ?_
        refine r_l (U (lo ((parseR ((Lib.cut (s) (([39] : List UInt8))).2.1) (16)).1))) 0 _ _ _ _ rfl rfl rfl rfl rfl ?_
        replace hM := bind_sm hM; obtain ⟨r17, hr18, hM⟩ := hM
        refine r_c (Value.tuple #[Value.agg #[Value.int .i64 (r17.1), U (hi (r17.2.1)), U (lo (r17.2.1))], Value.int .i64 (r17.2.2)]) rfl _ _ (ev_callF rfl call_11 rfl) (vec_New_g N ((((lo ((parseR ((Lib.cut (s) (([39] : List UInt8))).1) (10)).1)).toNat : Nat) : Int)) (hi ((parseR ((Lib.cut (s) (([39] : List UInt8))).2.1) (16)).1)) (lo ((parseR ((Lib.cut (s) (([39] : List UInt8))).2.1) (16)).1)) _ hr18) ?_
        refine r_v (Value.tuple #[Value.agg #[Value.int .i64 (r17.1), U (hi (r17.2.1)), U (lo (r17.2.1))], Value.int .i64 (r17.2.2)]) rfl rfl rfl rfl ?_
        refine r_v (Value.agg #[Value.int .i64 (r17.1), U (hi (r17.2.1)), U (lo (r17.2.1))]) rfl rfl rfl rfl ?_
        refine r_v (Value.int .i64 (r17.2.2)) rfl rfl rfl rfl ?_
        refine r_a (24, #[Value.int .i64 (0), U (0#64), U (0#64)]) rfl rfl rfl (fun b19 => ?_) (.inr rfl)
        refine r_s [(b19, 24, #[Value.int .i64 (r17.1), U (hi (r17.2.1)), U (lo (r17.2.1))]), (b14, 31, #[U (hi ((parseR ((Lib.cut (s) (([39] : List UInt8))).2.1) (16)).1)), U (lo ((parseR ((Lib.cut (s) (([39] : List UInt8))).2.1) (16)).1))]), (b7, 31, #[U (hi ((parseR ((Lib.cut (s) (([39] : List UInt8))).1) (10)).1)), U (lo ((parseR ((Lib.cut (s) (([39] : List UInt8))).1) (10)).1))]), (b2, 24, #[Value.int .i64 (m3__0), U (hi (m3__1)), U (lo (m3__1))])] 0 _ _ _ (#[Value.int .i64 (0), U (0#64), U (0#64)]) (#[Value.int .i64 (r17.1), U (hi (r17.2.1)), U (lo (r17.2.1))]) (#[Value.int .i64 (r17.1), U (hi (r17.2.1)), U (lo (r17.2.1))]) rfl rfl rfl rfl (.of rfl rfl) rfl rfl ?_
        refine r_v (Value.int .i64 (r17.2.2)) rfl rfl rfl rfl ?_
        refine lx_nil ?_
        refine hK15 _ _ ?_; try clear hK15 K15
        refine A_seq fun K20 hK20 => ?_
        refine A_seq fun K21 hK21 => ?_
        refine A_reg ?_
        refine r_v (Value.int .i64 (r17.2.2)) rfl rfl rfl rfl ?_
        refine r_v (Value.bool (((r17.2.2 : Int) == 0))) rfl rfl rfl rfl ?_
        refine r_v (Value.bool (((r17.2.2 : Int) == 0))) rfl rfl rfl rfl ?_
        rcases hg22 : (((r17.2.2 : Int) == 0)) with _ | _
        · replace hM := ifn (ne_of_beq_false hg22) hM
          refine r_n false rfl (by decide) rfl ?_
          refine r_n false rfl (by decide) rfl ?_
          refine r_v (Value.bool (false)) rfl rfl rfl rfl ?_
          refine lx_nil ?_
          refine hK21 _ _ ?_; try clear hK21 K21
          refine A_cond false rfl (fun h_ => nomatch h_) (fun _ => ?_)
          refine A_skip ?_
          refine hK20 _ _ ?_; try clear hK20 K20
          refine A_seq fun K23 hK23 => ?_
          refine A_reg ?_
          refine r_l (Value.agg #[Value.int .i64 (r17.1), U (hi (r17.2.1)), U (lo (r17.2.1))]) 0 _ _ _ _ rfl rfl rfl rfl rfl ?_
          refine r_v (Value.int .i64 (r17.2.2)) rfl rfl rfl rfl ?_
          refine r_s [(b19, 24, #[Value.int .i64 (r17.1), U (hi (r17.2.1)), U (lo (r17.2.1))]), (b14, 31, #[U (hi ((parseR ((Lib.cut (s) (([39] : List UInt8))).2.1) (16)).1)), U (lo ((parseR ((Lib.cut (s) (([39] : List UInt8))).2.1) (16)).1))]), (b7, 31, #[U (hi ((parseR ((Lib.cut (s) (([39] : List UInt8))).1) (10)).1)), U (lo ((parseR ((Lib.cut (s) (([39] : List UInt8))).1) (10)).1))]), (b2, 24, #[Value.int .i64 (r17.1), U (hi (r17.2.1)), U (lo (r17.2.1))])] 3 _ _ _ (#[Value.int .i64 (m3__0), U (hi (m3__1)), U (lo (m3__1))]) (#[Value.int .i64 (r17.1), U (hi (r17.2.1)), U (lo (r17.2.1))]) (#[Value.int .i64 (r17.1), U (hi (r17.2.1)), U (lo (r17.2.1))]) rfl rfl rfl rfl (.of rfl rfl) rfl rfl ?_
          refine r_v (Value.int .i64 (r17.2.2)) rfl rfl rfl rfl ?_
          refine lx_nil ?_
          refine hK23 _ _ ?_; try clear hK23 K23
          obtain rfl := Option.some.inj hM
          refine A_ret (fun hn => endsV (v0 := Value.tuple #[Value.agg #[Value.int .i64 (r17.1), U (hi (r17.2.1)), U (lo (r17.2.1))], Value.int .i64 (r17.2.2)]) rfl (res2 (res_cell hn 3 rfl rfl rfl) rfl))
        · replace hM := ifp (eq_of_beq hg22) hM
          refine r_y rfl ?_
          refine r_v (Value.int .i64 ((parseR ((Lib.cut (s) (([39] : List UInt8))).2.1) (16)).2)) rfl rfl rfl rfl ?_
          refine r_y rfl ?_
          refine r_v (Value.bool ((((parseR ((Lib.cut (s) (([39] : List UInt8))).2.1) (16)).2 : Int) != 0))) rfl rfl rfl rfl ?_
          refine r_v (Value.bool ((((parseR ((Lib.cut (s) (([39] : List UInt8))).2.1) (16)).2 : Int) != 0))) rfl rfl rfl rfl ?_
          refine lx_nil ?_
          refine hK21 _ _ ?_; try clear hK21 K21
          refine A_cond ((((parseR ((Lib.cut (s) (([39] : List UInt8))).2.1) (16)).2 : Int) != 0)) rfl (fun hc24 => ?_) (fun hc24 => ?_)
          · replace hM := ifp (bne_iff_ne.1 hc24) hM
            refine A_seq fun K25 hK25 => ?_
            refine A_reg ?_
            refine r_v (Value.agg #[Value.int .i64 (0), U (0#64), U (0#64)]) rfl rfl rfl (ev_buildS rfl rfl rfl rfl) ?_
            refine r_v (Value.int .i64 ((parseR ((Lib.cut (s) (([39] : List UInt8))).2.1) (16)).2)) rfl rfl rfl rfl ?_
            refine r_s [(b19, 24, #[Value.int .i64 (r17.1), U (hi (r17.2.1)), U (lo (r17.2.1))]), (b14, 31, #[U (hi ((parseR ((Lib.cut (s) (([39] : List UInt8))).2.1) (16)).1)), U (lo ((parseR ((Lib.cut (s) (([39] : List UInt8))).2.1) (16)).1))]), (b7, 31, #[U (hi ((parseR ((Lib.cut (s) (([39] : List UInt8))).1) (10)).1)), U (lo ((parseR ((Lib.cut (s) (([39] : List UInt8))).1) (10)).1))]), (b2, 24, #[Value.int .i64 (0), U (0#64), U (0#64)])] 3 _ _ _ (#[Value.int .i64 (m3__0), U (hi (m3__1)), U (lo (m3__1))]) (#[Value.int .i64 (0), U (0#64), U (0#64)]) (#[Value.int .i64 (0), U (0#64), U (0#64)]) rfl rfl rfl rfl (.of rfl rfl) rfl rfl ?_
            refine r_v (Value.int .i64 ((parseR ((Lib.cut (s) (([39] : List UInt8))).2.1) (16)).2)) rfl rfl rfl rfl ?_
            refine lx_nil ?_
            refine hK25 _ _ ?_; try clear hK25 K25
            obtain rfl := Option.some.inj hM
            refine A_ret (fun hn => endsV (v0 := Value.tuple #[Value.agg #[Value.int .i64 (0), U (0#64), U (0#64)], Value.int .i64 ((parseR ((Lib.cut (s) (([39] : List UInt8))).2.1) (16)).2)]) (by first | rfl | simp only [app_hl]) (res2 (res_cell hn 3 rfl rfl rfl) rfl))
          · replace hM := ifn (bne_f hc24) hM
            refine A_skip ?_
            refine hK20 _ _ ?_; try clear hK20 K20
            refine A_seq fun K26 hK26 => ?_
            refine A_reg ?_
            refine r_l (Value.agg #[Value.int .i64 (r17.1), U (hi (r17.2.1)), U (lo (r17.2.1))]) 0 _ _ _ _ rfl rfl rfl rfl rfl ?_
            refine r_v (Value.int .i64 (r17.2.2)) rfl rfl rfl rfl ?_
            refine r_s [(b19, 24, #[Value.int .i64 (r17.1), U (hi (r17.2.1)), U (lo (r17.2.1))]), (b14, 31, #[U (hi ((parseR ((Lib.cut (s) (([39] : List UInt8))).2.1) (16)).1)), U (lo ((parseR ((Lib.cut (s) (([39] : List UInt8))).2.1) (16)).1))]), (b7, 31, #[U (hi ((parseR ((Lib.cut (s) (([39] : List UInt8))).1) (10)).1)), U (lo ((parseR ((Lib.cut (s) (([39] : List UInt8))).1) (10)).1))]), (b2, 24, #[Value.int .i64 (r17.1), U (hi (r17.2.1)), U (lo (r17.2.1))])] 3 _ _ _ (#[Value.int .i64 (m3__0), U (hi (m3__1)), U (lo (m3__1))]) (#[Value.int .i64 (r17.1), U (hi (r17.2.1)), U (lo (r17.2.1))]) (#[Value.int .i64 (r17.1), U (hi (r17.2.1)), U (lo (r17.2.1))]) rfl rfl rfl rfl (.of rfl rfl) rfl rfl ?_
            refine r_v (Value.int .i64 (r17.2.2)) rfl rfl rfl rfl ?_
            refine lx_nil ?_
            refine hK26 _ _ ?_; try clear hK26 K26
            obtain rfl := Option.some.inj hM
            refine A_ret (fun hn => endsV (v0 := Value.tuple #[Value.agg #[Value.int .i64 (r17.1), U (hi (r17.2.1)), U (lo (r17.2.1))], Value.int .i64 (r17.2.2)]) rfl (res2 (res_cell hn 3 rfl rfl rfl) rfl))
def shunterref02_Text_m (N : Nat) (a_0 : Int) (a_1 : BitVec 128) : Option (List UInt8) := (shunterref02_May_m N (a_0) (a_1)).bind fun r5 => if (r5) = true then ck ((2 : Int) ≤ 10 ∧ (10 : Int) ≤ 16) (ck (((textI (10) ((0#64) ++ (BitVec.ofInt 64 (a_0)))).length : Int) + ((([39] : List UInt8)).length : Int) ≤ 9223372036854775807) (ck ((2 : Int) ≤ 16 ∧ (16 : Int) ≤ 16) (ck ((((textI (10) ((0#64) ++ (BitVec.ofInt 64 (a_0)))) ++ (([39] : List UInt8))).length : Int) + ((textI (16) ((hi (a_1)) ++ (lo (a_1)))).length : Int) ≤ 9223372036854775807) (some (((textI (10) ((0#64) ++ (BitVec.ofInt 64 (a_0)))) ++ (([39] : List UInt8))) ++ (textI (16) ((hi (a_1)) ++ (lo (a_1))))))))) else some ([])
set_option maxRecDepth 100000 in
set_option maxHeartbeats 400000 in
theorem shunterref02_Text_g (N : Nat) (a_0 : Int) (a_1 : BitVec 128) (r : List UInt8) (hM : shunterref02_Text_m N a_0 a_1 = some r) : Gives Tryd.prog 48 #[Value.agg #[Value.int .i64 (a_0), U (hi (a_1)), U (lo (a_1))]] (Value.string (⟨(r).toArray⟩)) := by
  unfold shunterref02_Text_m at hM
  refine gives_of_A follows Tryd.func48 rfl 19 rfl (upd (fun _ => undef) 0 (Value.agg #[Value.int .i64 (a_0), U (hi (a_1)), U (lo (a_1))])) (by funext k; match k with | 0 => rfl | k + 1 => rfl) (fun base0_ => ?_)
  refine A_seq fun K1 hK1 => ?_
  refine A_reg ?_
  refine r_a (24, #[Value.int .i64 (a_0), U (hi (a_1)), U (lo (a_1))]) rfl rfl rfl (fun b2 => ?_) (.inr rfl)
  refine r_v (Value.string (⟨#[]⟩)) rfl rfl rfl rfl ?_
  refine lx_nil ?_
  refine hK1 _ _ ?_; try clear hK1 K1
  refine A_seq fun K3 hK3 => ?_
  refine A_seq fun K4 hK4 => ?_
  refine A_reg ?_
  refine r_l (Value.agg #[Value.int .i64 (a_0), U (hi (a_1)), U (lo (a_1))]) 0 _ _ _ _ rfl rfl rfl rfl rfl ?_
  replace hM := bind_sm hM; obtain ⟨r5, hr6, hM⟩ := hM
  refine r_c (Value.bool (r5)) rfl _ _ (ev_callF rfl call_10 rfl) (shunterref02_May_g N (a_0) (a_1) _ hr6) ?_
  refine r_v (Value.bool (!(r5))) rfl rfl rfl rfl ?_
  refine lx_nil ?_
  refine hK4 _ _ ?_; try clear hK4 K4
  refine A_cond (!(r5)) rfl (fun hc7 => ?_) (fun hc7 => ?_)
  · replace hM := ifn (Bool.eq_false_iff.1 (not_t hc7)) hM
    refine A_seq fun K8 hK8 => ?_
    refine A_reg ?_
    refine r_v (Value.string (⟨#[]⟩)) rfl rfl rfl rfl ?_
    refine lx_nil ?_
    refine hK8 _ _ ?_; try clear hK8 K8
    obtain rfl := Option.some.inj hM
    refine A_ret (fun hn => ends_eq (v0 := Value.string (⟨#[]⟩)) rfl (res1 rfl))
  · replace hM := ifp (not_f hc7) hM
    refine A_skip ?_
    refine hK3 _ _ ?_; try clear hK3 K3
    refine A_seq fun K9 hK9 => ?_
    refine A_draw [] (by decide +kernel) (fun hn => sep_nil) ?_
    refine r_v (Value.pointer (some ⟨b2, 0, none⟩)) rfl rfl rfl rfl ?_
    refine r_l (Value.int .i64 (a_0)) 0 _ _ _ _ rfl rfl rfl rfl rfl ?_
    refine r_w (U (BitVec.ofInt 64 (a_0))) rfl rfl (U_wrapI (a_0)) (fun _ => rfl) ?_
    refine r_c (Value.agg (rowF (BitVec.getLsbD ((0#64) ++ (BitVec.ofInt 64 (a_0)))))) rfl _ _ (ev_callF rfl call_50 rfl) (of_g (0#64) (BitVec.ofInt 64 (a_0))) ?_
    replace hM := ck_some hM; obtain ⟨ck10, hM⟩ := hM
    refine r_c (Value.string (⟨(textI (10) ((0#64) ++ (BitVec.ofInt 64 (a_0)))).toArray⟩)) rfl _ _ (ev_callF rfl call_80 rfl) (rtext_t ((0#64) ++ (BitVec.ofInt 64 (a_0))) (10) ck10) ?_
    replace hM := ck_some hM; obtain ⟨ck11, hM⟩ := hM
    refine r_v (Value.string (⟨((textI (10) ((0#64) ++ (BitVec.ofInt 64 (a_0)))) ++ (([39] : List UInt8))).toArray⟩)) rfl rfl rfl (ev_addS ck11 rfl rfl) ?_
    refine r_v (Value.pointer (some ⟨b2, 1, none⟩)) rfl rfl rfl rfl ?_
    refine r_l (U (hi (a_1))) 0 _ _ _ _ rfl rfl rfl rfl rfl ?_
    refine r_v (Value.pointer (some ⟨b2, 2, none⟩)) rfl rfl rfl rfl ?_
    refine r_l (U (lo (a_1))) 0 _ _ _ _ rfl rfl rfl rfl rfl ?_
    refine r_c (Value.agg (rowF (BitVec.getLsbD ((hi (a_1)) ++ (lo (a_1)))))) rfl _ _ (ev_callF rfl call_50 rfl) (of_g (hi (a_1)) (lo (a_1))) ?_
    replace hM := ck_some hM; obtain ⟨ck12, hM⟩ := hM
    refine r_c (Value.string (⟨(textI (16) ((hi (a_1)) ++ (lo (a_1)))).toArray⟩)) rfl _ _ (ev_callF rfl call_80 rfl) (rtext_t ((hi (a_1)) ++ (lo (a_1))) (16) ck12) ?_
    replace hM := ck_some hM; obtain ⟨ck13, hM⟩ := hM
    refine r_v (Value.string (⟨(((textI (10) ((0#64) ++ (BitVec.ofInt 64 (a_0)))) ++ (([39] : List UInt8))) ++ (textI (16) ((hi (a_1)) ++ (lo (a_1))))).toArray⟩)) rfl rfl rfl (ev_addS ck13 rfl rfl) ?_
    refine r_v (Value.string (⟨(((textI (10) ((0#64) ++ (BitVec.ofInt 64 (a_0)))) ++ (([39] : List UInt8))) ++ (textI (16) ((hi (a_1)) ++ (lo (a_1))))).toArray⟩)) rfl rfl rfl rfl ?_
    refine lx_nil ?_
    refine hK9 _ _ ?_; try clear hK9 K9
    obtain rfl := Option.some.inj hM
    refine A_ret (fun hn => ends_eq (v0 := Value.string (⟨(((textI (10) ((0#64) ++ (BitVec.ofInt 64 (a_0)))) ++ (([39] : List UInt8))) ++ (textI (16) ((hi (a_1)) ++ (lo (a_1))))).toArray⟩)) rfl (res1 rfl))
def shunterref02_Parse_k10 (s : List UInt8) (at1_ : Int) (_ : Int) (_ : BitVec 128) : Option (Int × (BitVec 128) × Int) := ck ((((lo ((parseR ((s).take (at1_).toNat) (10)).1)).toNat : Nat) : Int) ≤ 9223372036854775807) (some ((((lo ((parseR ((s).take (at1_).toNat) (10)).1)).toNat : Nat) : Int), (parseR ((s).drop ((at1_ + 1)).toNat) (16)).1, 0))
def shunterref02_Parse_k8 (s : List UInt8) (at1_ : Int) (m7__0 : Int) (m7__1 : BitVec 128) : Option (Int × (BitVec 128) × Int) := if ((parseR ((s).drop ((at1_ + 1)).toNat) (16)).2 : Int) ≠ 0 then some (0, (0#64) ++ (0#64), 7) else ck ((((lo ((parseR ((s).take (at1_).toNat) (10)).1)).toNat : Nat) : Int) ≤ 9223372036854775807) (if (((len128 ((parseR ((s).drop ((at1_ + 1)).toNat) (16)).1) : Nat) : Int) : Int) > (((lo ((parseR ((s).take (at1_).toNat) (10)).1)).toNat : Nat) : Int) then some (0, (0#64) ++ (0#64), 7) else shunterref02_Parse_k10 s at1_ (m7__0) (m7__1))
def shunterref02_Parse_k6 (s : List UInt8) (at1_ : Int) (m5__0 : Int) (m5__1 : BitVec 128) : Option (Int × (BitVec 128) × Int) := if (lo ((parseR ((s).take (at1_).toNat) (10)).1)) < (1#64) then some (0, (0#64) ++ (0#64), 9) else if (128#64) < (lo ((parseR ((s).take (at1_).toNat) (10)).1)) then some (0, (0#64) ++ (0#64), 9) else shunterref02_Parse_k8 s at1_ (m5__0) (m5__1)
def shunterref02_Parse_k4 (s : List UInt8) (at1_ : Int) (m3__0 : Int) (m3__1 : BitVec 128) : Option (Int × (BitVec 128) × Int) := ck (0 ≤ at1_ ∧ at1_ ≤ ((s).length : Int)) (ck (((s).take (at1_).toNat).length ≤ 4611686018427387904) (ck ((-9223372036854775808 ≤ (at1_ + 1) ∧ (at1_ + 1) ≤ 9223372036854775807)) (ck (0 ≤ (at1_ + 1) ∧ (at1_ + 1) ≤ ((s).length : Int)) (ck (((s).drop ((at1_ + 1)).toNat).length ≤ 4611686018427387904) (if ((parseR ((s).take (at1_).toNat) (10)).2 : Int) ≠ 0 then some (0, (0#64) ++ (0#64), 4) else if ((parseR ((s).drop ((at1_ + 1)).toNat) (16)).2 : Int) = 4 then some (0, (0#64) ++ (0#64), 4) else if ((parseR ((s).drop ((at1_ + 1)).toNat) (16)).2 : Int) = 3 then some (0, (0#64) ++ (0#64), 4) else shunterref02_Parse_k6 s at1_ (m3__0) (m3__1))))))
def shunterref02_Parse_k2 (s : List UInt8) (at1_ : Int) : Option (Int × (BitVec 128) × Int) := if (at1_ : Int) = ((s).length : Int) then some (0, (0#64) ++ (0#64), 4) else if (at1_ : Int) < 1 then some (0, (0#64) ++ (0#64), 4) else if (at1_ : Int) > 3 then some (0, (0#64) ++ (0#64), 4) else shunterref02_Parse_k4 s at1_ (0) ((0#64) ++ (0#64))
def shunterref02_Parse_l12 (s : List UInt8) : Nat → Int → Option (Int × (BitVec 128) × Int)
  | 0, _ => none
  | n42 + 1, at11_ => if (at11_ : Int) < ((s).length : Int) then ck (0 ≤ at11_ ∧ at11_ < ((s).length : Int)) (if ((byteAt (s) (at11_)) : Int) ≠ 39 then ck ((-9223372036854775808 ≤ (at11_ + 1) ∧ (at11_ + 1) ≤ 9223372036854775807)) ((shunterref02_Parse_l12 s n42) ((at11_ + 1))) else shunterref02_Parse_k2 s (at11_)) else shunterref02_Parse_k2 s (at11_)
def shunterref02_Parse_m (N : Nat) (s : List UInt8) : Option (Int × (BitVec 128) × Int) := shunterref02_Parse_l12 s N (0)
set_option maxRecDepth 100000 in
set_option maxHeartbeats 400000 in
theorem shunterref02_Parse_g (N : Nat) (s : List UInt8) (r : Int × (BitVec 128) × Int) (hM : shunterref02_Parse_m N s = some r) : Gives Tryd.prog 46 #[Value.string (⟨(s).toArray⟩)] (Value.tuple #[Value.agg #[Value.int .i64 (r.1), U (hi (r.2.1)), U (lo (r.2.1))], Value.int .i64 (r.2.2)]) := by
  unfold shunterref02_Parse_m at hM
  refine gives_of_A follows Tryd.func46 rfl 96 rfl (upd (fun _ => undef) 0 (Value.string (⟨(s).toArray⟩))) (by funext k; match k with | 0 => rfl | k + 1 => rfl) (fun base0_ => ?_)
  refine A_seq fun K1 hK1 => ?_
  refine A_reg ?_
  refine r_a (24, #[Value.int .i64 (0), U (0#64), U (0#64)]) rfl rfl rfl (fun b2 => ?_) (.inr rfl)
  refine r_v (Value.int .i64 (0)) rfl rfl rfl rfl ?_
  refine lx_nil ?_
  refine hK1 _ _ ?_; try clear hK1 K1
  refine A_seq fun K3 hK3 => ?_
  refine A_reg ?_
  refine r_v (Value.int .i64 (0)) rfl rfl rfl rfl ?_
  refine lx_nil ?_
  refine hK3 _ _ ?_; try clear hK3 K3
  refine A_cut (fun tt ll => ∃ (at1_ : Int), (shunterref02_Parse_k2 s at1_ = some r) ∧ Is [(0, Value.string (⟨(s).toArray⟩)), (2, Value.pointer (some ⟨b2, 0, none⟩)), (4, Value.int .i64 (at1_))] [(b2, 24, #[Value.int .i64 (0), U (0#64), U (0#64)])] tt ll) ?_ ?_
  · refine A_block ?_
    refine A_loop (fun tt ll nn => ∃ (n42 : Nat) (at11_ : Int), (shunterref02_Parse_l12 s n42 at11_ = some r) ∧ Is [(0, Value.string (⟨(s).toArray⟩)), (2, Value.pointer (some ⟨b2, 0, none⟩)), (4, Value.int .i64 (at11_))] [(b2, 24, #[Value.int .i64 (0), U (0#64), U (0#64)])] tt ll ∧ nn = n42 + 1) (N + 1) ?_ ?_
    · exact ⟨N, 0, hM, is_mk rfl (by first | rfl | simp only [app_hl]), rfl⟩
    · clear hM; rintro t l _ ⟨n42, at11_, hM, ⟨⟨T, rfl⟩, rfl⟩, rfl⟩
      rcases n42 with _ | n42
      · exact absurd hM (by simp [shunterref02_Parse_l12])
      rw [shunterref02_Parse_l12] at hM
      refine A_seq fun K43 hK43 => ?_
      refine A_seq fun K44 hK44 => ?_
      refine A_reg ?_
      refine r_v (Value.int .i64 (at11_)) rfl rfl rfl rfl ?_
      refine r_v (Value.string (⟨(s).toArray⟩)) rfl rfl rfl rfl ?_
      refine r_v (Value.int .i64 (((s).length : Int))) rfl rfl rfl (ev_lenS rfl rfl rfl) ?_
      refine r_v (Value.bool (decide ((at11_ : Int) < ((s).length : Int)))) rfl rfl rfl rfl ?_
      refine r_v (Value.bool (decide ((at11_ : Int) < ((s).length : Int)))) rfl rfl rfl rfl ?_
      rcases hg45 : (decide ((at11_ : Int) < ((s).length : Int))) with _ | _
      · replace hM := ifn (of_decide_eq_false hg45) hM
        refine r_n false rfl (by decide) rfl ?_
        refine r_n false rfl (by decide) rfl ?_
        refine r_n false rfl (by decide) rfl ?_
        refine r_n false rfl (by decide) rfl ?_
        refine r_v (Value.bool (false)) rfl rfl rfl rfl ?_
        refine lx_nil ?_
        refine hK44 _ _ ?_; try clear hK44 K44
        refine A_cond false rfl (fun h_ => nomatch h_) (fun _ => ?_)
        refine A_exit ?_
        refine fg _ (Sub.of (List.Sublist.cons_cons _ (List.Sublist.slnil))) ?_
        exact ⟨at11_, hM, is_mk rfl (by first | rfl | simp only [app_hl])⟩
      · replace hM := ifp (of_decide_eq_true hg45) hM
        refine r_y rfl ?_
        refine r_v (Value.string (⟨(s).toArray⟩)) rfl rfl rfl rfl ?_
        refine r_y rfl ?_
        refine r_v (Value.int .i64 (at11_)) rfl rfl rfl rfl ?_
        refine r_y rfl ?_
        replace hM := ck_some hM; obtain ⟨ck46, hM⟩ := hM
        refine r_v (Value.int .u8 ((byteAt (s) (at11_)))) rfl rfl rfl (ev_v (ev_indexS rfl ck46)) ?_
        refine r_y rfl ?_
        refine r_v (Value.bool ((((byteAt (s) (at11_)) : Int) != 39))) rfl rfl rfl rfl ?_
        refine r_v (Value.bool ((((byteAt (s) (at11_)) : Int) != 39))) rfl rfl rfl rfl ?_
        refine lx_nil ?_
        refine hK44 _ _ ?_; try clear hK44 K44
        refine A_cond ((((byteAt (s) (at11_)) : Int) != 39)) rfl (fun hc47 => ?_) (fun hc47 => ?_)
        · replace hM := ifp (bne_iff_ne.1 hc47) hM
          refine A_skip ?_
          refine hK43 _ _ ?_; try clear hK43 K43
          refine A_block ?_
          refine A_reg ?_
          refine r_v (Value.int .i64 (at11_)) rfl rfl rfl rfl ?_
          replace hM := ck_some hM; obtain ⟨ck48, hM⟩ := hM
          refine r_v (Value.int .i64 ((at11_ + 1))) rfl rfl (wi64 rfl ck48.1 ck48.2) rfl ?_
          refine r_v (Value.int .i64 ((at11_ + 1))) rfl rfl rfl rfl ?_
          refine lx_nil ?_
          refine fg _ (Sub.of (List.Sublist.cons_cons _ (List.Sublist.slnil))) ?_
          exact ⟨n42 + 1, by omega, n42, (at11_ + 1), hM, is_mk rfl (by first | rfl | simp only [app_hl]), rfl⟩
        · replace hM := ifn (bne_f hc47) hM
          refine A_exit ?_
          refine fg _ (Sub.of (List.Sublist.cons_cons _ (List.Sublist.slnil))) ?_
          exact ⟨at11_, hM, is_mk rfl (by first | rfl | simp only [app_hl])⟩
  · clear hM; rintro t l ⟨at1_, hM, ⟨T, rfl⟩, rfl⟩
    unfold shunterref02_Parse_k2 at hM
    refine A_cut (fun tt ll => ∃ (m3__0 : Int) (m3__1 : BitVec 128), (shunterref02_Parse_k4 s at1_ m3__0 m3__1 = some r) ∧ Is [(0, Value.string (⟨(s).toArray⟩)), (2, Value.pointer (some ⟨b2, 0, none⟩)), (4, Value.int .i64 (at1_))] [(b2, 24, #[Value.int .i64 (m3__0), U (hi (m3__1)), U (lo (m3__1))])] tt ll) ?_ ?_
    · refine A_seq fun K35 hK35 => ?_
      refine A_reg ?_
      refine r_v (Value.int .i64 (at1_)) rfl rfl rfl rfl ?_
      refine r_v (Value.string (⟨(s).toArray⟩)) rfl rfl rfl rfl ?_
      refine r_v (Value.int .i64 (((s).length : Int))) rfl rfl rfl (ev_lenS rfl rfl rfl) ?_
      refine r_v (Value.bool (((at1_ : Int) == ((s).length : Int)))) rfl rfl rfl rfl ?_
      refine r_v (Value.bool (((at1_ : Int) == ((s).length : Int)))) rfl rfl rfl rfl ?_
      rcases hg36 : (((at1_ : Int) == ((s).length : Int))) with _ | _
      · replace hM := ifn (ne_of_beq_false hg36) hM
        refine r_y rfl ?_
        refine r_v (Value.int .i64 (at1_)) rfl rfl rfl rfl ?_
        refine r_y rfl ?_
        refine r_v (Value.bool (decide ((at1_ : Int) < 1))) rfl rfl rfl rfl ?_
        refine r_v (Value.bool (decide ((at1_ : Int) < 1))) rfl rfl rfl rfl ?_
        refine r_v (Value.bool (decide ((at1_ : Int) < 1))) rfl rfl rfl rfl ?_
        rcases hg37 : (decide ((at1_ : Int) < 1)) with _ | _
        · replace hM := ifn (of_decide_eq_false hg37) hM
          refine r_y rfl ?_
          refine r_v (Value.int .i64 (at1_)) rfl rfl rfl rfl ?_
          refine r_y rfl ?_
          refine r_v (Value.bool (decide ((at1_ : Int) > 3))) rfl rfl rfl rfl ?_
          refine r_v (Value.bool (decide ((at1_ : Int) > 3))) rfl rfl rfl rfl ?_
          refine lx_nil ?_
          refine hK35 _ _ ?_; try clear hK35 K35
          refine A_cond (decide ((at1_ : Int) > 3)) rfl (fun hc38 => ?_) (fun hc38 => ?_)
          · replace hM := ifp (of_decide_eq_true hc38) hM
            refine A_seq fun K39 hK39 => ?_
            refine A_reg ?_
            refine r_v (Value.agg #[Value.int .i64 (0), U (0#64), U (0#64)]) rfl rfl rfl (ev_buildS rfl rfl rfl rfl) ?_
            refine r_s [(b2, 24, #[Value.int .i64 (0), U (0#64), U (0#64)])] 0 _ _ _ (#[Value.int .i64 (0), U (0#64), U (0#64)]) (#[Value.int .i64 (0), U (0#64), U (0#64)]) (#[Value.int .i64 (0), U (0#64), U (0#64)]) rfl rfl rfl rfl (.of rfl rfl) rfl rfl ?_
            refine r_v (Value.int .i64 (4)) rfl rfl rfl rfl ?_
            refine lx_nil ?_
            refine hK39 _ _ ?_; try clear hK39 K39
            obtain rfl := Option.some.inj hM
            refine A_ret (fun hn => ends_eq (v0 := Value.tuple #[Value.agg #[Value.int .i64 (0), U (0#64), U (0#64)], Value.int .i64 (4)]) (by first | rfl | simp only [app_hl]) (res2 (res_cell hn 0 rfl rfl rfl) rfl))
          · replace hM := ifn (of_decide_eq_false hc38) hM
            refine A_skip ?_
            refine fg _ (Sub.of (List.Sublist.cons_cons _ (List.Sublist.slnil))) ?_
            exact ⟨0, (0#64) ++ (0#64), hM, is_mk rfl (by first | rfl | simp only [app_hl])⟩
        · replace hM := ifp (of_decide_eq_true hg37) hM
          refine r_n true rfl (by decide) rfl ?_
          refine r_n true rfl (by decide) rfl ?_
          refine r_v (Value.bool (true)) rfl rfl rfl rfl ?_
          refine lx_nil ?_
          refine hK35 _ _ ?_; try clear hK35 K35
          refine A_cond true rfl (fun _ => ?_) (fun h_ => nomatch h_)
          refine A_seq fun K40 hK40 => ?_
          refine A_reg ?_
          refine r_v (Value.agg #[Value.int .i64 (0), U (0#64), U (0#64)]) rfl rfl rfl (ev_buildS rfl rfl rfl rfl) ?_
          refine r_s [(b2, 24, #[Value.int .i64 (0), U (0#64), U (0#64)])] 0 _ _ _ (#[Value.int .i64 (0), U (0#64), U (0#64)]) (#[Value.int .i64 (0), U (0#64), U (0#64)]) (#[Value.int .i64 (0), U (0#64), U (0#64)]) rfl rfl rfl rfl (.of rfl rfl) rfl rfl ?_
          refine r_v (Value.int .i64 (4)) rfl rfl rfl rfl ?_
          refine lx_nil ?_
          refine hK40 _ _ ?_; try clear hK40 K40
          obtain rfl := Option.some.inj hM
          refine A_ret (fun hn => ends_eq (v0 := Value.tuple #[Value.agg #[Value.int .i64 (0), U (0#64), U (0#64)], Value.int .i64 (4)]) (by first | rfl | simp only [app_hl]) (res2 (res_cell hn 0 rfl rfl rfl) rfl))
      · replace hM := ifp (eq_of_beq hg36) hM
        refine r_n true rfl (by decide) rfl ?_
        refine r_n true rfl (by decide) rfl ?_
        refine r_v (Value.bool (true)) rfl rfl rfl rfl ?_
        refine r_v (Value.bool (true)) rfl rfl rfl rfl ?_
        refine r_n true rfl (by decide) rfl ?_
        refine r_n true rfl (by decide) rfl ?_
        refine r_v (Value.bool (true)) rfl rfl rfl rfl ?_
        refine lx_nil ?_
        refine hK35 _ _ ?_; try clear hK35 K35
        refine A_cond true rfl (fun _ => ?_) (fun h_ => nomatch h_)
        refine A_seq fun K41 hK41 => ?_
        refine A_reg ?_
        refine r_v (Value.agg #[Value.int .i64 (0), U (0#64), U (0#64)]) rfl rfl rfl (ev_buildS rfl rfl rfl rfl) ?_
        refine r_s [(b2, 24, #[Value.int .i64 (0), U (0#64), U (0#64)])] 0 _ _ _ (#[Value.int .i64 (0), U (0#64), U (0#64)]) (#[Value.int .i64 (0), U (0#64), U (0#64)]) (#[Value.int .i64 (0), U (0#64), U (0#64)]) rfl rfl rfl rfl (.of rfl rfl) rfl rfl ?_
        refine r_v (Value.int .i64 (4)) rfl rfl rfl rfl ?_
        refine lx_nil ?_
        refine hK41 _ _ ?_; try clear hK41 K41
        obtain rfl := Option.some.inj hM
        refine A_ret (fun hn => ends_eq (v0 := Value.tuple #[Value.agg #[Value.int .i64 (0), U (0#64), U (0#64)], Value.int .i64 (4)]) (by first | rfl | simp only [app_hl]) (res2 (res_cell hn 0 rfl rfl rfl) rfl))
    · clear hM; rintro t l ⟨m3__0, m3__1, hM, ⟨T, rfl⟩, rfl⟩
      unfold shunterref02_Parse_k4 at hM
      refine A_seq fun K4 hK4 => ?_
      refine A_reg ?_
      refine r_v (Value.string (⟨(s).toArray⟩)) rfl rfl rfl rfl ?_
      refine r_v (Value.int .i64 (at1_)) rfl rfl rfl rfl ?_
      replace hM := ck_some hM; obtain ⟨ck5, hM⟩ := hM
      refine r_v (Value.string (⟨((s).take (at1_).toNat).toArray⟩)) rfl rfl rfl (ev_v (ev_sliceS2 rfl ck5)) ?_
      replace hM := ck_some hM; obtain ⟨ck6, hM⟩ := hM
      refine r_c (Value.tuple #[Value.agg (rowF (BitVec.getLsbD ((parseR ((s).take (at1_).toNat) (10)).1))), Value.int .i64 ((parseR ((s).take (at1_).toNat) (10)).2)]) rfl _ _ (ev_callF rfl call_77 rfl) (rparse_t ((s).take (at1_).toNat) (10) ck6) ?_
      refine r_v (Value.tuple #[Value.agg (rowF (BitVec.getLsbD ((parseR ((s).take (at1_).toNat) (10)).1))), Value.int .i64 ((parseR ((s).take (at1_).toNat) (10)).2)]) rfl rfl rfl rfl ?_
      refine r_v (Value.agg (rowF (BitVec.getLsbD ((parseR ((s).take (at1_).toNat) (10)).1)))) rfl rfl rfl rfl ?_
      refine r_v (Value.int .i64 ((parseR ((s).take (at1_).toNat) (10)).2)) rfl rfl rfl rfl ?_
      refine r_a (61, rowF (BitVec.getLsbD (0#128))) rfl rfl ((zrow z_61).trans (congrArg (fun x => some (61, x)) row_zero)) (fun b7 => ?_) (.inr rfl)
      refine r_s [(b7, 61, rowF (BitVec.getLsbD ((parseR ((s).take (at1_).toNat) (10)).1))), (b2, 24, #[Value.int .i64 (m3__0), U (hi (m3__1)), U (lo (m3__1))])] 0 _ _ _ (rowF (BitVec.getLsbD (0#128))) (rowF (BitVec.getLsbD ((parseR ((s).take (at1_).toNat) (10)).1))) (rowF (BitVec.getLsbD ((parseR ((s).take (at1_).toNat) (10)).1))) rfl rfl rfl rfl (stok_rows rfl rfl _ _) (splice_rows _ _) rfl ?_
      refine r_v (Value.int .i64 ((parseR ((s).take (at1_).toNat) (10)).2)) rfl rfl rfl rfl ?_
      refine lx_nil ?_
      refine hK4 _ _ ?_; try clear hK4 K4
      refine A_seq fun K8 hK8 => ?_
      refine A_reg ?_
      refine r_v (Value.string (⟨(s).toArray⟩)) rfl rfl rfl rfl ?_
      refine r_v (Value.int .i64 (at1_)) rfl rfl rfl rfl ?_
      replace hM := ck_some hM; obtain ⟨ck9, hM⟩ := hM
      refine r_v (Value.int .i64 ((at1_ + 1))) rfl rfl (wi64 rfl ck9.1 ck9.2) rfl ?_
      replace hM := ck_some hM; obtain ⟨ck10, hM⟩ := hM
      refine r_v (Value.string (⟨((s).drop ((at1_ + 1)).toNat).toArray⟩)) rfl rfl rfl (ev_v (ev_sliceS1 rfl ck10)) ?_
      replace hM := ck_some hM; obtain ⟨ck11, hM⟩ := hM
      refine r_c (Value.tuple #[Value.agg (rowF (BitVec.getLsbD ((parseR ((s).drop ((at1_ + 1)).toNat) (16)).1))), Value.int .i64 ((parseR ((s).drop ((at1_ + 1)).toNat) (16)).2)]) rfl _ _ (ev_callF rfl call_77 rfl) (rparse_t ((s).drop ((at1_ + 1)).toNat) (16) ck11) ?_
      refine r_v (Value.tuple #[Value.agg (rowF (BitVec.getLsbD ((parseR ((s).drop ((at1_ + 1)).toNat) (16)).1))), Value.int .i64 ((parseR ((s).drop ((at1_ + 1)).toNat) (16)).2)]) rfl rfl rfl rfl ?_
      refine r_v (Value.agg (rowF (BitVec.getLsbD ((parseR ((s).drop ((at1_ + 1)).toNat) (16)).1)))) rfl rfl rfl rfl ?_
      refine r_v (Value.int .i64 ((parseR ((s).drop ((at1_ + 1)).toNat) (16)).2)) rfl rfl rfl rfl ?_
      refine r_a (61, rowF (BitVec.getLsbD (0#128))) rfl rfl ((zrow z_61).trans (congrArg (fun x => some (61, x)) row_zero)) (fun b12 => ?_) (.inr rfl)
      refine r_s [(b12, 61, rowF (BitVec.getLsbD ((parseR ((s).drop ((at1_ + 1)).toNat) (16)).1))), (b7, 61, rowF (BitVec.getLsbD ((parseR ((s).take (at1_).toNat) (10)).1))), (b2, 24, #[Value.int .i64 (m3__0), U (hi (m3__1)), U (lo (m3__1))])] 0 _ _ _ (rowF (BitVec.getLsbD (0#128))) (rowF (BitVec.getLsbD ((parseR ((s).drop ((at1_ + 1)).toNat) (16)).1))) (rowF (BitVec.getLsbD ((parseR ((s).drop ((at1_ + 1)).toNat) (16)).1))) rfl rfl rfl rfl (stok_rows rfl rfl _ _) (splice_rows _ _) rfl ?_
      refine r_v (Value.int .i64 ((parseR ((s).drop ((at1_ + 1)).toNat) (16)).2)) rfl rfl rfl rfl ?_
      refine lx_nil ?_
      refine hK8 _ _ ?_; try clear hK8 K8
      refine A_cut (fun tt ll => ∃ (m5__0 : Int) (m5__1 : BitVec 128), (shunterref02_Parse_k6 s at1_ m5__0 m5__1 = some r) ∧ Is [(2, Value.pointer (some ⟨b2, 0, none⟩)), (5, Value.pointer (some ⟨b7, 0, none⟩)), (7, Value.pointer (some ⟨b12, 0, none⟩)), (8, Value.int .i64 ((parseR ((s).drop ((at1_ + 1)).toNat) (16)).2))] [(b12, 61, rowF (BitVec.getLsbD ((parseR ((s).drop ((at1_ + 1)).toNat) (16)).1))), (b7, 61, rowF (BitVec.getLsbD ((parseR ((s).take (at1_).toNat) (10)).1))), (b2, 24, #[Value.int .i64 (m5__0), U (hi (m5__1)), U (lo (m5__1))])] tt ll) ?_ ?_
      · refine A_seq fun K28 hK28 => ?_
        refine A_reg ?_
        refine r_v (Value.int .i64 ((parseR ((s).take (at1_).toNat) (10)).2)) rfl rfl rfl rfl ?_
        refine r_v (Value.bool ((((parseR ((s).take (at1_).toNat) (10)).2 : Int) != 0))) rfl rfl rfl rfl ?_
        refine r_v (Value.bool ((((parseR ((s).take (at1_).toNat) (10)).2 : Int) != 0))) rfl rfl rfl rfl ?_
        rcases hg29 : ((((parseR ((s).take (at1_).toNat) (10)).2 : Int) != 0)) with _ | _
        · replace hM := ifn (bne_f hg29) hM
          refine r_y rfl ?_
          refine r_v (Value.int .i64 ((parseR ((s).drop ((at1_ + 1)).toNat) (16)).2)) rfl rfl rfl rfl ?_
          refine r_y rfl ?_
          refine r_v (Value.bool ((((parseR ((s).drop ((at1_ + 1)).toNat) (16)).2 : Int) == 4))) rfl rfl rfl rfl ?_
          refine r_v (Value.bool ((((parseR ((s).drop ((at1_ + 1)).toNat) (16)).2 : Int) == 4))) rfl rfl rfl rfl ?_
          refine r_v (Value.bool ((((parseR ((s).drop ((at1_ + 1)).toNat) (16)).2 : Int) == 4))) rfl rfl rfl rfl ?_
          rcases hg30 : ((((parseR ((s).drop ((at1_ + 1)).toNat) (16)).2 : Int) == 4)) with _ | _
          · replace hM := ifn (ne_of_beq_false hg30) hM
            refine r_y rfl ?_
            refine r_v (Value.int .i64 ((parseR ((s).drop ((at1_ + 1)).toNat) (16)).2)) rfl rfl rfl rfl ?_
            refine r_y rfl ?_
            refine r_v (Value.bool ((((parseR ((s).drop ((at1_ + 1)).toNat) (16)).2 : Int) == 3))) rfl rfl rfl rfl ?_
            refine r_v (Value.bool ((((parseR ((s).drop ((at1_ + 1)).toNat) (16)).2 : Int) == 3))) rfl rfl rfl rfl ?_
            refine lx_nil ?_
            refine hK28 _ _ ?_; try clear hK28 K28
            refine A_gen [(2, Value.pointer (some ⟨b2, 0, none⟩)), (5, Value.pointer (some ⟨b7, 0, none⟩)), (7, Value.pointer (some ⟨b12, 0, none⟩)), (8, Value.int .i64 ((parseR ((s).drop ((at1_ + 1)).toNat) (16)).2)), (62, Value.bool ((((parseR ((s).drop ((at1_ + 1)).toNat) (16)).2 : Int) == 3)))] rfl (fun T => ?_)
            refine A_cond ((((parseR ((s).drop ((at1_ + 1)).toNat) (16)).2 : Int) == 3)) rfl (fun hc31 => ?_) (fun hc31 => ?_)
            · replace hM := ifp (eq_of_beq hc31) hM
              refine A_seq fun K32 hK32 => ?_
              refine A_reg ?_
              refine r_v (Value.agg #[Value.int .i64 (0), U (0#64), U (0#64)]) rfl rfl rfl (ev_buildS rfl rfl rfl rfl) ?_
              refine r_s [(b12, 61, rowF (BitVec.getLsbD ((parseR ((s).drop ((at1_ + 1)).toNat) (16)).1))), (b7, 61, rowF (BitVec.getLsbD ((parseR ((s).take (at1_).toNat) (10)).1))), (b2, 24, #[Value.int .i64 (0), U (0#64), U (0#64)])] 2 _ _ _ (#[Value.int .i64 (m3__0), U (hi (m3__1)), U (lo (m3__1))]) (#[Value.int .i64 (0), U (0#64), U (0#64)]) (#[Value.int .i64 (0), U (0#64), U (0#64)]) rfl rfl rfl rfl (.of rfl rfl) rfl rfl ?_
              refine r_v (Value.int .i64 (4)) rfl rfl rfl rfl ?_
              refine lx_nil ?_
              refine hK32 _ _ ?_; try clear hK32 K32
              obtain rfl := Option.some.inj hM
              refine A_ret (fun hn => ends_eq (v0 := Value.tuple #[Value.agg #[Value.int .i64 (0), U (0#64), U (0#64)], Value.int .i64 (4)]) (by first | rfl | simp only [app_hl]) (res2 (res_cell hn 2 rfl rfl rfl) rfl))
            · replace hM := ifn (ne_of_beq_false hc31) hM
              refine A_skip ?_
              refine fg _ (Sub.of (List.Sublist.cons_cons _ (List.Sublist.cons_cons _ (List.Sublist.cons_cons _ (List.Sublist.slnil))))) ?_
              exact ⟨m3__0, m3__1, hM, is_mk rfl rfl⟩
          · replace hM := ifp (eq_of_beq hg30) hM
            refine r_n true rfl (by decide) rfl ?_
            refine r_n true rfl (by decide) rfl ?_
            refine r_v (Value.bool (true)) rfl rfl rfl rfl ?_
            refine lx_nil ?_
            refine hK28 _ _ ?_; try clear hK28 K28
            refine A_gen [(2, Value.pointer (some ⟨b2, 0, none⟩)), (5, Value.pointer (some ⟨b7, 0, none⟩)), (7, Value.pointer (some ⟨b12, 0, none⟩)), (8, Value.int .i64 ((parseR ((s).drop ((at1_ + 1)).toNat) (16)).2)), (62, Value.bool (true))] rfl (fun T => ?_)
            refine A_cond true rfl (fun _ => ?_) (fun h_ => nomatch h_)
            refine A_seq fun K33 hK33 => ?_
            refine A_reg ?_
            refine r_v (Value.agg #[Value.int .i64 (0), U (0#64), U (0#64)]) rfl rfl rfl (ev_buildS rfl rfl rfl rfl) ?_
            refine r_s [(b12, 61, rowF (BitVec.getLsbD ((parseR ((s).drop ((at1_ + 1)).toNat) (16)).1))), (b7, 61, rowF (BitVec.getLsbD ((parseR ((s).take (at1_).toNat) (10)).1))), (b2, 24, #[Value.int .i64 (0), U (0#64), U (0#64)])] 2 _ _ _ (#[Value.int .i64 (m3__0), U (hi (m3__1)), U (lo (m3__1))]) (#[Value.int .i64 (0), U (0#64), U (0#64)]) (#[Value.int .i64 (0), U (0#64), U (0#64)]) rfl rfl rfl rfl (.of rfl rfl) rfl rfl ?_
            refine r_v (Value.int .i64 (4)) rfl rfl rfl rfl ?_
            refine lx_nil ?_
            refine hK33 _ _ ?_; try clear hK33 K33
            obtain rfl := Option.some.inj hM
            refine A_ret (fun hn => ends_eq (v0 := Value.tuple #[Value.agg #[Value.int .i64 (0), U (0#64), U (0#64)], Value.int .i64 (4)]) (by first | rfl | simp only [app_hl]) (res2 (res_cell hn 2 rfl rfl rfl) rfl))
        · replace hM := ifp (bne_iff_ne.1 hg29) hM
          refine r_n true rfl (by decide) rfl ?_
          refine r_n true rfl (by decide) rfl ?_
          refine r_v (Value.bool (true)) rfl rfl rfl rfl ?_
          refine r_v (Value.bool (true)) rfl rfl rfl rfl ?_
          refine r_n true rfl (by decide) rfl ?_
          refine r_n true rfl (by decide) rfl ?_
          refine r_v (Value.bool (true)) rfl rfl rfl rfl ?_
          refine lx_nil ?_
          refine hK28 _ _ ?_; try clear hK28 K28
          refine A_gen [(2, Value.pointer (some ⟨b2, 0, none⟩)), (5, Value.pointer (some ⟨b7, 0, none⟩)), (7, Value.pointer (some ⟨b12, 0, none⟩)), (8, Value.int .i64 ((parseR ((s).drop ((at1_ + 1)).toNat) (16)).2)), (62, Value.bool (true))] rfl (fun T => ?_)
          refine A_cond true rfl (fun _ => ?_) (fun h_ => nomatch h_)
          refine A_seq fun K34 hK34 => ?_
          refine A_reg ?_
          refine r_v (Value.agg #[Value.int .i64 (0), U (0#64), U (0#64)]) rfl rfl rfl (ev_buildS rfl rfl rfl rfl) ?_
          refine r_s [(b12, 61, rowF (BitVec.getLsbD ((parseR ((s).drop ((at1_ + 1)).toNat) (16)).1))), (b7, 61, rowF (BitVec.getLsbD ((parseR ((s).take (at1_).toNat) (10)).1))), (b2, 24, #[Value.int .i64 (0), U (0#64), U (0#64)])] 2 _ _ _ (#[Value.int .i64 (m3__0), U (hi (m3__1)), U (lo (m3__1))]) (#[Value.int .i64 (0), U (0#64), U (0#64)]) (#[Value.int .i64 (0), U (0#64), U (0#64)]) rfl rfl rfl rfl (.of rfl rfl) rfl rfl ?_
          refine r_v (Value.int .i64 (4)) rfl rfl rfl rfl ?_
          refine lx_nil ?_
          refine hK34 _ _ ?_; try clear hK34 K34
          obtain rfl := Option.some.inj hM
          refine A_ret (fun hn => ends_eq (v0 := Value.tuple #[Value.agg #[Value.int .i64 (0), U (0#64), U (0#64)], Value.int .i64 (4)]) (by first | rfl | simp only [app_hl]) (res2 (res_cell hn 2 rfl rfl rfl) rfl))
      · clear hM; rintro t l ⟨m5__0, m5__1, hM, ⟨T, rfl⟩, rfl⟩
        unfold shunterref02_Parse_k6 at hM
        refine A_seq fun K13 hK13 => ?_
        refine A_reg ?_
        refine r_l (Value.agg (rowF (BitVec.getLsbD ((parseR ((s).take (at1_).toNat) (10)).1)))) 1 _ _ _ _ rfl rfl rfl rfl (ld_rows rfl rfl rfl _) ?_
        refine r_c (Value.tuple #[U (hi ((parseR ((s).take (at1_).toNat) (10)).1)), U (lo ((parseR ((s).take (at1_).toNat) (10)).1))]) rfl _ _ (ev_callF rfl call_54 rfl) (halves_t ((parseR ((s).take (at1_).toNat) (10)).1)) ?_
        refine r_v (Value.tuple #[U (hi ((parseR ((s).take (at1_).toNat) (10)).1)), U (lo ((parseR ((s).take (at1_).toNat) (10)).1))]) rfl rfl rfl rfl ?_
        refine r_v (U (hi ((parseR ((s).take (at1_).toNat) (10)).1))) rfl rfl rfl rfl ?_
        refine r_v (U (lo ((parseR ((s).take (at1_).toNat) (10)).1))) rfl rfl rfl rfl ?_
        refine r_v (U (hi ((parseR ((s).take (at1_).toNat) (10)).1))) rfl rfl rfl rfl ?_
        refine r_v (U (lo ((parseR ((s).take (at1_).toNat) (10)).1))) rfl rfl rfl rfl ?_
        refine lx_nil ?_
        refine hK13 _ _ ?_; try clear hK13 K13
        refine A_cut (fun tt ll => ∃ (m7__0 : Int) (m7__1 : BitVec 128), (shunterref02_Parse_k8 s at1_ m7__0 m7__1 = some r) ∧ Is [(2, Value.pointer (some ⟨b2, 0, none⟩)), (7, Value.pointer (some ⟨b12, 0, none⟩)), (8, Value.int .i64 ((parseR ((s).drop ((at1_ + 1)).toNat) (16)).2)), (10, U (lo ((parseR ((s).take (at1_).toNat) (10)).1)))] [(b12, 61, rowF (BitVec.getLsbD ((parseR ((s).drop ((at1_ + 1)).toNat) (16)).1))), (b2, 24, #[Value.int .i64 (m7__0), U (hi (m7__1)), U (lo (m7__1))])] tt ll) ?_ ?_
        · refine A_seq fun K23 hK23 => ?_
          refine A_reg ?_
          refine r_v (U (lo ((parseR ((s).take (at1_).toNat) (10)).1))) rfl rfl rfl rfl ?_
          refine r_v (Value.bool (decide ((lo ((parseR ((s).take (at1_).toNat) (10)).1)) < (1#64)))) rfl rfl (U_lt (lo ((parseR ((s).take (at1_).toNat) (10)).1)) (1#64)) rfl ?_
          refine r_v (Value.bool (decide ((lo ((parseR ((s).take (at1_).toNat) (10)).1)) < (1#64)))) rfl rfl rfl rfl ?_
          rcases hg24 : (decide ((lo ((parseR ((s).take (at1_).toNat) (10)).1)) < (1#64))) with _ | _
          · replace hM := ifn (of_decide_eq_false hg24) hM
            refine r_y rfl ?_
            refine r_v (U (lo ((parseR ((s).take (at1_).toNat) (10)).1))) rfl rfl rfl rfl ?_
            refine r_y rfl ?_
            refine r_v (Value.bool (decide ((128#64) < (lo ((parseR ((s).take (at1_).toNat) (10)).1))))) rfl rfl (U_lt (128#64) (lo ((parseR ((s).take (at1_).toNat) (10)).1))) rfl ?_
            refine r_v (Value.bool (decide ((128#64) < (lo ((parseR ((s).take (at1_).toNat) (10)).1))))) rfl rfl rfl rfl ?_
            refine lx_nil ?_
            refine hK23 _ _ ?_; try clear hK23 K23
            refine A_cond (decide ((128#64) < (lo ((parseR ((s).take (at1_).toNat) (10)).1)))) rfl (fun hc25 => ?_) (fun hc25 => ?_)
            · replace hM := ifp (of_decide_eq_true hc25) hM
              refine A_seq fun K26 hK26 => ?_
              refine A_reg ?_
              refine r_v (Value.agg #[Value.int .i64 (0), U (0#64), U (0#64)]) rfl rfl rfl (ev_buildS rfl rfl rfl rfl) ?_
              refine r_s [(b12, 61, rowF (BitVec.getLsbD ((parseR ((s).drop ((at1_ + 1)).toNat) (16)).1))), (b7, 61, rowF (BitVec.getLsbD ((parseR ((s).take (at1_).toNat) (10)).1))), (b2, 24, #[Value.int .i64 (0), U (0#64), U (0#64)])] 2 _ _ _ (#[Value.int .i64 (m5__0), U (hi (m5__1)), U (lo (m5__1))]) (#[Value.int .i64 (0), U (0#64), U (0#64)]) (#[Value.int .i64 (0), U (0#64), U (0#64)]) rfl rfl rfl rfl (.of rfl rfl) rfl rfl ?_
              refine r_v (Value.int .i64 (9)) rfl rfl rfl rfl ?_
              refine lx_nil ?_
              refine hK26 _ _ ?_; try clear hK26 K26
              obtain rfl := Option.some.inj hM
              refine A_ret (fun hn => ends_eq (v0 := Value.tuple #[Value.agg #[Value.int .i64 (0), U (0#64), U (0#64)], Value.int .i64 (9)]) (by first | rfl | simp only [app_hl]) (res2 (res_cell hn 2 rfl rfl rfl) rfl))
            · replace hM := ifn (of_decide_eq_false hc25) hM
              refine A_skip ?_
              refine fg _ (Sub.of (List.Sublist.cons_cons _ (List.Sublist.cons _ (List.Sublist.cons_cons _ (List.Sublist.slnil))))) ?_
              exact ⟨m5__0, m5__1, hM, is_mk rfl rfl⟩
          · replace hM := ifp (of_decide_eq_true hg24) hM
            refine r_n true rfl (by decide) rfl ?_
            refine r_n true rfl (by decide) rfl ?_
            refine r_v (Value.bool (true)) rfl rfl rfl rfl ?_
            refine lx_nil ?_
            refine hK23 _ _ ?_; try clear hK23 K23
            refine A_cond true rfl (fun _ => ?_) (fun h_ => nomatch h_)
            refine A_seq fun K27 hK27 => ?_
            refine A_reg ?_
            refine r_v (Value.agg #[Value.int .i64 (0), U (0#64), U (0#64)]) rfl rfl rfl (ev_buildS rfl rfl rfl rfl) ?_
            refine r_s [(b12, 61, rowF (BitVec.getLsbD ((parseR ((s).drop ((at1_ + 1)).toNat) (16)).1))), (b7, 61, rowF (BitVec.getLsbD ((parseR ((s).take (at1_).toNat) (10)).1))), (b2, 24, #[Value.int .i64 (0), U (0#64), U (0#64)])] 2 _ _ _ (#[Value.int .i64 (m5__0), U (hi (m5__1)), U (lo (m5__1))]) (#[Value.int .i64 (0), U (0#64), U (0#64)]) (#[Value.int .i64 (0), U (0#64), U (0#64)]) rfl rfl rfl rfl (.of rfl rfl) rfl rfl ?_
            refine r_v (Value.int .i64 (9)) rfl rfl rfl rfl ?_
            refine lx_nil ?_
            refine hK27 _ _ ?_; try clear hK27 K27
            obtain rfl := Option.some.inj hM
            refine A_ret (fun hn => ends_eq (v0 := Value.tuple #[Value.agg #[Value.int .i64 (0), U (0#64), U (0#64)], Value.int .i64 (9)]) (by first | rfl | simp only [app_hl]) (res2 (res_cell hn 2 rfl rfl rfl) rfl))
        · clear hM; rintro t l ⟨m7__0, m7__1, hM, ⟨T, rfl⟩, rfl⟩
          unfold shunterref02_Parse_k8 at hM
          refine A_cut (fun tt ll => ∃ (m9__0 : Int) (m9__1 : BitVec 128), (shunterref02_Parse_k10 s at1_ m9__0 m9__1 = some r) ∧ Is [(2, Value.pointer (some ⟨b2, 0, none⟩)), (7, Value.pointer (some ⟨b12, 0, none⟩)), (10, U (lo ((parseR ((s).take (at1_).toNat) (10)).1)))] [(b12, 61, rowF (BitVec.getLsbD ((parseR ((s).drop ((at1_ + 1)).toNat) (16)).1))), (b2, 24, #[Value.int .i64 (m9__0), U (hi (m9__1)), U (lo (m9__1))])] tt ll) ?_ ?_
          · refine A_seq fun K17 hK17 => ?_
            refine A_reg ?_
            refine r_v (Value.int .i64 ((parseR ((s).drop ((at1_ + 1)).toNat) (16)).2)) rfl rfl rfl rfl ?_
            refine r_v (Value.bool ((((parseR ((s).drop ((at1_ + 1)).toNat) (16)).2 : Int) != 0))) rfl rfl rfl rfl ?_
            refine r_v (Value.bool ((((parseR ((s).drop ((at1_ + 1)).toNat) (16)).2 : Int) != 0))) rfl rfl rfl rfl ?_
            rcases hg18 : ((((parseR ((s).drop ((at1_ + 1)).toNat) (16)).2 : Int) != 0)) with _ | _
            · replace hM := ifn (bne_f hg18) hM
              refine r_y rfl ?_
              refine r_l (Value.agg (rowF (BitVec.getLsbD ((parseR ((s).drop ((at1_ + 1)).toNat) (16)).1)))) 0 _ _ _ _ rfl rfl rfl rfl (ld_rows rfl rfl rfl _) ?_
              refine r_y rfl ?_
              refine r_c (Value.int .i64 (((len128 ((parseR ((s).drop ((at1_ + 1)).toNat) (16)).1) : Nat) : Int))) rfl _ _ (ev_callF rfl call_49 rfl) (rlen_g ((parseR ((s).drop ((at1_ + 1)).toNat) (16)).1)) ?_
              refine r_y rfl ?_
              refine r_v (U (lo ((parseR ((s).take (at1_).toNat) (10)).1))) rfl rfl rfl rfl ?_
              refine r_y rfl ?_
              replace hM := ck_some hM; obtain ⟨ck19, hM⟩ := hM
              refine r_w (Value.int .i64 ((((lo ((parseR ((s).take (at1_).toNat) (10)).1)).toNat : Nat) : Int))) rfl rfl (wi64 rfl (by omega) ck19) (fun _ => rfl) ?_
              refine r_y rfl ?_
              refine r_v (Value.bool (decide ((((len128 ((parseR ((s).drop ((at1_ + 1)).toNat) (16)).1) : Nat) : Int) : Int) > (((lo ((parseR ((s).take (at1_).toNat) (10)).1)).toNat : Nat) : Int)))) rfl rfl rfl rfl ?_
              refine r_v (Value.bool (decide ((((len128 ((parseR ((s).drop ((at1_ + 1)).toNat) (16)).1) : Nat) : Int) : Int) > (((lo ((parseR ((s).take (at1_).toNat) (10)).1)).toNat : Nat) : Int)))) rfl rfl rfl rfl ?_
              refine lx_nil ?_
              refine hK17 _ _ ?_; try clear hK17 K17
              refine A_cond (decide ((((len128 ((parseR ((s).drop ((at1_ + 1)).toNat) (16)).1) : Nat) : Int) : Int) > (((lo ((parseR ((s).take (at1_).toNat) (10)).1)).toNat : Nat) : Int))) rfl (fun hc20 => ?_) (fun hc20 => ?_)
              · replace hM := ifp (of_decide_eq_true hc20) hM
                refine A_seq fun K21 hK21 => ?_
                refine A_reg ?_
                refine r_v (Value.agg #[Value.int .i64 (0), U (0#64), U (0#64)]) rfl rfl rfl (ev_buildS rfl rfl rfl rfl) ?_
                refine r_s [(b12, 61, rowF (BitVec.getLsbD ((parseR ((s).drop ((at1_ + 1)).toNat) (16)).1))), (b2, 24, #[Value.int .i64 (0), U (0#64), U (0#64)])] 1 _ _ _ (#[Value.int .i64 (m7__0), U (hi (m7__1)), U (lo (m7__1))]) (#[Value.int .i64 (0), U (0#64), U (0#64)]) (#[Value.int .i64 (0), U (0#64), U (0#64)]) rfl rfl rfl rfl (.of rfl rfl) rfl rfl ?_
                refine r_v (Value.int .i64 (7)) rfl rfl rfl rfl ?_
                refine lx_nil ?_
                refine hK21 _ _ ?_; try clear hK21 K21
                obtain rfl := Option.some.inj hM
                refine A_ret (fun hn => ends_eq (v0 := Value.tuple #[Value.agg #[Value.int .i64 (0), U (0#64), U (0#64)], Value.int .i64 (7)]) (by first | rfl | simp only [app_hl]) (res2 (res_cell hn 1 rfl rfl rfl) rfl))
              · replace hM := ifn (of_decide_eq_false hc20) hM
                refine A_skip ?_
                refine fg _ (Sub.of (List.Sublist.cons_cons _ (List.Sublist.cons_cons _ (List.Sublist.slnil)))) ?_
                exact ⟨m7__0, m7__1, hM, is_mk rfl rfl⟩
            · replace hM := ifp (bne_iff_ne.1 hg18) hM
              refine r_n true rfl (by decide) rfl ?_
              refine r_n true rfl (by decide) rfl ?_
              refine r_n true rfl (by decide) rfl ?_
              refine r_n true rfl (by decide) rfl ?_
              refine r_n true rfl (by decide) rfl ?_
              refine r_v (Value.bool (true)) rfl rfl rfl rfl ?_
              refine lx_nil ?_
              refine hK17 _ _ ?_; try clear hK17 K17
              refine A_cond true rfl (fun _ => ?_) (fun h_ => nomatch h_)
              refine A_seq fun K22 hK22 => ?_
              refine A_reg ?_
              refine r_v (Value.agg #[Value.int .i64 (0), U (0#64), U (0#64)]) rfl rfl rfl (ev_buildS rfl rfl rfl rfl) ?_
              refine r_s [(b12, 61, rowF (BitVec.getLsbD ((parseR ((s).drop ((at1_ + 1)).toNat) (16)).1))), (b2, 24, #[Value.int .i64 (0), U (0#64), U (0#64)])] 1 _ _ _ (#[Value.int .i64 (m7__0), U (hi (m7__1)), U (lo (m7__1))]) (#[Value.int .i64 (0), U (0#64), U (0#64)]) (#[Value.int .i64 (0), U (0#64), U (0#64)]) rfl rfl rfl rfl (.of rfl rfl) rfl rfl ?_
              refine r_v (Value.int .i64 (7)) rfl rfl rfl rfl ?_
              refine lx_nil ?_
              refine hK22 _ _ ?_; try clear hK22 K22
              obtain rfl := Option.some.inj hM
              refine A_ret (fun hn => ends_eq (v0 := Value.tuple #[Value.agg #[Value.int .i64 (0), U (0#64), U (0#64)], Value.int .i64 (7)]) (by first | rfl | simp only [app_hl]) (res2 (res_cell hn 1 rfl rfl rfl) rfl))
          · clear hM; rintro t l ⟨m9__0, m9__1, hM, ⟨T, rfl⟩, rfl⟩
            unfold shunterref02_Parse_k10 at hM
            refine A_seq fun K14 hK14 => ?_
            refine A_reg ?_
            refine r_l (Value.agg (rowF (BitVec.getLsbD ((parseR ((s).drop ((at1_ + 1)).toNat) (16)).1)))) 0 _ _ _ _ rfl rfl rfl rfl (ld_rows rfl rfl rfl _) ?_
            refine r_c (Value.tuple #[U (hi ((parseR ((s).drop ((at1_ + 1)).toNat) (16)).1)), U (lo ((parseR ((s).drop ((at1_ + 1)).toNat) (16)).1))]) rfl _ _ (ev_callF rfl call_54 rfl) (halves_t ((parseR ((s).drop ((at1_ + 1)).toNat) (16)).1)) ?_
            refine r_v (Value.tuple #[U (hi ((parseR ((s).drop ((at1_ + 1)).toNat) (16)).1)), U (lo ((parseR ((s).drop ((at1_ + 1)).toNat) (16)).1))]) rfl rfl rfl rfl ?_
            refine r_v (U (hi ((parseR ((s).drop ((at1_ + 1)).toNat) (16)).1))) rfl rfl rfl rfl ?_
            refine r_v (U (lo ((parseR ((s).drop ((at1_ + 1)).toNat) (16)).1))) rfl rfl rfl rfl ?_
            refine r_v (U (hi ((parseR ((s).drop ((at1_ + 1)).toNat) (16)).1))) rfl rfl rfl rfl ?_
            refine r_v (U (lo ((parseR ((s).drop ((at1_ + 1)).toNat) (16)).1))) rfl rfl rfl rfl ?_
            refine lx_nil ?_
            refine hK14 _ _ ?_; try clear hK14 K14
            refine A_seq fun K15 hK15 => ?_
            refine A_reg ?_
            refine r_v (U (lo ((parseR ((s).take (at1_).toNat) (10)).1))) rfl rfl rfl rfl ?_
            replace hM := ck_some hM; obtain ⟨ck16, hM⟩ := hM
            refine r_w (Value.int .i64 ((((lo ((parseR ((s).take (at1_).toNat) (10)).1)).toNat : Nat) : Int))) rfl rfl (wi64 rfl (by omega) ck16) (fun _ => rfl) ?_
            refine r_v (U (hi ((parseR ((s).drop ((at1_ + 1)).toNat) (16)).1))) rfl rfl rfl rfl ?_
            refine r_v (U (lo ((parseR ((s).drop ((at1_ + 1)).toNat) (16)).1))) rfl rfl rfl rfl ?_
            refine r_v (Value.agg #[Value.int .i64 ((((lo ((parseR ((s).take (at1_).toNat) (10)).1)).toNat : Nat) : Int)), U (hi ((parseR ((s).drop ((at1_ + 1)).toNat) (16)).1)), U (lo ((parseR ((s).drop ((at1_ + 1)).toNat) (16)).1))]) rfl rfl rfl (ev_buildS rfl rfl rfl rfl) ?_
            refine r_s [(b12, 61, rowF (BitVec.getLsbD ((parseR ((s).drop ((at1_ + 1)).toNat) (16)).1))), (b2, 24, #[Value.int .i64 ((((lo ((parseR ((s).take (at1_).toNat) (10)).1)).toNat : Nat) : Int)), U (hi ((parseR ((s).drop ((at1_ + 1)).toNat) (16)).1)), U (lo ((parseR ((s).drop ((at1_ + 1)).toNat) (16)).1))])] 1 _ _ _ (#[Value.int .i64 (m9__0), U (hi (m9__1)), U (lo (m9__1))]) (#[Value.int .i64 ((((lo ((parseR ((s).take (at1_).toNat) (10)).1)).toNat : Nat) : Int)), U (hi ((parseR ((s).drop ((at1_ + 1)).toNat) (16)).1)), U (lo ((parseR ((s).drop ((at1_ + 1)).toNat) (16)).1))]) (#[Value.int .i64 ((((lo ((parseR ((s).take (at1_).toNat) (10)).1)).toNat : Nat) : Int)), U (hi ((parseR ((s).drop ((at1_ + 1)).toNat) (16)).1)), U (lo ((parseR ((s).drop ((at1_ + 1)).toNat) (16)).1))]) rfl rfl rfl rfl (.of rfl rfl) rfl rfl ?_
            refine r_v (Value.int .i64 (0)) rfl rfl rfl rfl ?_
            refine lx_nil ?_
            refine hK15 _ _ ?_; try clear hK15 K15
            obtain rfl := Option.some.inj hM
            refine A_ret (fun hn => ends_eq (v0 := Value.tuple #[Value.agg #[Value.int .i64 ((((lo ((parseR ((s).take (at1_).toNat) (10)).1)).toNat : Nat) : Int)), U (hi ((parseR ((s).drop ((at1_ + 1)).toNat) (16)).1)), U (lo ((parseR ((s).drop ((at1_ + 1)).toNat) (16)).1))], Value.int .i64 (0)]) rfl (res2 (res_cell hn 1 rfl rfl rfl) rfl))
end Go.Proofs.YtomcfndpnnjihaaDoor
