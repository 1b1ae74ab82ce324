/- models of functions and their walks -/
import Derived.Test.YtdgejbbelmhbdaaBb
namespace Go.Proofs.Ytdgejbbelmhbdaa
open Go Go.RowKit Go.Eng
def wire_take_api_Vec__v2_m (N : Nat) (r_0 : List UInt8) (r_1 : Int) (r_2 : Int) : Option (Int × (BitVec 128) × (List UInt8) × Int × Int) := (wire_Reader_Bad_v1_m N r_0 r_1 r_2).bind fun r7 => if (r7) = true then some (0, (0#64) ++ (0#64), r_0, r_1, r_2) else ck (0 ≤ r_1 ∧ r_1 ≤ ((r_0).length : Int)) ((wire_rowOf_m N (((r_0).take ((r_0).length)).drop ((r_1).toNat))).bind fun r13 => if (r13.2.2.2 : Int) ≠ 0 then (wire_spot_fail_v2_m N r_0 r_1 r_2 r13.2.2.2).bind fun r20 => ck ((r20.1).length = (r_0).length) (some (0, (0#64) ++ (0#64), r20.1, r20.2.1, r20.2.2)) else ck ((-9223372036854775808 ≤ (r_1 + r13.2.2.1) ∧ (r_1 + r13.2.2.1) ≤ 9223372036854775807)) (some (r13.1, r13.2.1, r_0, (r_1 + r13.2.2.1), r_2)))
set_option maxRecDepth 100000 in
set_option maxHeartbeats 8000000 in
theorem wire_take_api_Vec__v2_g (N : Nat) (r_0 : List UInt8) (r_1 : Int) (r_2 : Int) (r : Int × (BitVec 128) × (List UInt8) × Int × Int) (hM : wire_take_api_Vec__v2_m N r_0 r_1 r_2 = some r) (ro : Addr → Option Value) (br : Nat) (r_0v : Value) (Sr_0 : List Bl) (hr_0 : Sl 5 encY r_0v r_0 Sr_0) : Does Try.prog 48 #[Value.pointer (some ⟨br, 0, none⟩), Value.func (.func 49) #[] #[]] ro (List.flatten [[(br, 69, #[r_0v, Value.int .i64 (r_1), Value.int .i64 (r_2)])], Sr_0]) (pO (List.flatten [[(br, 69, #[r_0v, Value.int .i64 (r_1), Value.int .i64 (r_2)])], Sr_0]) (oI 5 encY r_0v r.2.2.1 (oE (Value.agg #[Value.int .i64 (r.1), U (hi (r.2.1)), U (lo (r.2.1))]) [[(br, 69, #[r_0v, Value.int .i64 (r.2.2.2.1), Value.int .i64 (r.2.2.2.2)])]]))) := by
  unfold wire_take_api_Vec__v2_m at hM
  refine doesO_of_A follows Try.func48 rfl 47 rfl (upd (upd (fun _ => undef) 1 (Value.func (.func 49) #[] #[])) 0 (Value.pointer (some ⟨br, 0, none⟩))) (by funext k; match k with | 0 => rfl | 1 => rfl | k + 2 => rfl) (fun _ _ h_ _ => h_) (fun base0_ => ?_)
  refine A_seq fun K1 hK1 => ?_
  refine A_reg ?_
  refine r_a (30, #[Value.int .i64 (0), U (0#64), U (0#64)]) rfl rfl rfl (fun b2 => ?_) (.inr rfl)
  refine lx_nil ?_
  refine hK1 _ _ ?_; try clear hK1 K1
  refine A_seq fun K3 hK3 => ?_
  refine A_reg ?_
  refine r_a (30, #[Value.int .i64 (0), U (0#64), U (0#64)]) rfl rfl rfl (fun b4 => ?_) (.inr rfl)
  refine lx_nil ?_
  refine hK3 _ _ ?_; try clear hK3 K3
  refine A_seq fun K5 hK5 => ?_
  refine A_seq fun K6 hK6 => ?_
  refine A_regC [(some 10, false)] (conG Try.prog [(10, fun _ _ v_ L_ U_ => ∀ u0_, wire_Reader_Bad_v1_m N r_0 r_1 r_2 = some u0_ → (pV (Value.bool (u0_))) v_ L_ U_)]) ?_
  refine r_v (Value.pointer (some ⟨br, 0, none⟩)) rfl rfl rfl rfl ?_
  replace hM := bind_sm hM; obtain ⟨r7, hr8, hM⟩ := hM
  refine r_gv (Value.bool (r7)) 13 _ rfl rfl rfl (ev_callF rfl call_13 rfl) (fun own_ nw_ hs_ => wire_Reader_Bad_v1_g N r_0 r_1 r_2 _ hr8 hs_.view br r_0v ((rd_own hr_0 (mem_chunk (Ls := [[(b4, 30, #[Value.int .i64 (0), U (0#64), U (0#64)])], [(b2, 30, #[Value.int .i64 (0), U (0#64), U (0#64)])], [(br, 69, #[r_0v, Value.int .i64 (r_1), Value.int .i64 (r_2)])], Sr_0]) (k := 3) rfl rfl)) own_ nw_ hs_) (blk_own 2 rfl rfl own_ nw_ hs_)) (fun _ _ v_ L_ U_ => ⟨fun h_ => h_ _ hr8, fun h_ => by intro _ e_; cases Option.some.inj (e_.symm.trans hr8); exact h_⟩) ?_
  refine lx_nil ?_
  refine hK6 _ _ ?_; try clear hK6 K6
  refine A_cond (r7) rfl (fun hc9 => ?_) (fun hc9 => ?_)
  · replace hM := ifp hc9 hM
    refine A_seq fun K10 hK10 => ?_
    refine A_reg ?_
    refine r_l (Value.agg #[Value.int .i64 (0), U (0#64), U (0#64)]) 0 _ _ _ _ rfl rfl rfl rfl rfl ?_
    refine r_s (List.flatten [[(b4, 30, #[Value.int .i64 (0), U (0#64), U (0#64)])], [(b2, 30, #[Value.int .i64 (0), U (0#64), U (0#64)])], [(br, 69, #[r_0v, Value.int .i64 (r_1), Value.int .i64 (r_2)])], Sr_0]) 1 _ _ _ (#[Value.int .i64 (0), U (0#64), U (0#64)]) (#[Value.int .i64 (0), U (0#64), U (0#64)]) (#[Value.int .i64 (0), U (0#64), U (0#64)]) rfl rfl rfl rfl (.of rfl rfl) rfl rfl ?_
    refine lx_nil ?_
    refine hK10 _ _ ?_; try clear hK10 K10
    obtain rfl := Option.some.inj hM
    refine A_ret (fun hn => endsO (v0 := Value.agg #[Value.int .i64 (0), U (0#64), U (0#64)]) (O := [Sr_0, [(br, 69, #[r_0v, Value.int .i64 (r_1), Value.int .i64 (r_2)])]]) (by first | exact (res1 (res_cell hn 1 rfl rfl rfl)) | (simp only [app_hl]; exact (res1 (res_cell hn 1 rfl rfl rfl)))) (Sub.pick [[(b4, 30, #[Value.int .i64 (0), U (0#64), U (0#64)])], [(b2, 30, #[Value.int .i64 (0), U (0#64), U (0#64)])], [(br, 69, #[r_0v, Value.int .i64 (r_1), Value.int .i64 (r_2)])], Sr_0] [3, 2] rfl) (by first | exact ⟨Sr_0, _, hr_0, ⟨rfl, rfl⟩, rfl⟩ | (simp only [app_hl]; exact ⟨Sr_0, _, hr_0, ⟨rfl, rfl⟩, rfl⟩)))
  · replace hM := ifn (Bool.eq_false_iff.1 hc9) hM
    refine A_skip ?_
    refine hK5 _ _ ?_; try clear hK5 K5
    refine A_seq fun K11 hK11 => ?_
    refine A_drawR [(some 24, false)] (conG Try.prog [(24, fun _ _ v_ L_ U_ => ∀ u0_, wire_rowOf_m N (((r_0).take ((r_0).length)).drop ((r_1).toNat)) = some u0_ → (pV (Value.tuple #[Value.agg #[Value.int .i64 (u0_.1), U (hi (u0_.2.1)), U (lo (u0_.2.1))], Value.int .i64 (u0_.2.2.1), Value.int .i64 (u0_.2.2.2)])) v_ L_ U_)]) [] (by decide +kernel) (fun hn => sep_nil) ?_
    refine r_v (Value.func (.func 49) #[] #[]) rfl rfl rfl rfl ?_
    refine r_v (Value.pointer (some ⟨br, 0, none⟩)) rfl rfl rfl rfl ?_
    refine r_v (Value.pointer (some ⟨br, 0, none⟩)) rfl rfl rfl rfl ?_
    refine r_v (Value.pointer (some ⟨br, 0, none⟩)) rfl rfl rfl rfl ?_
    refine r_l (r_0v) 2 _ _ _ _ rfl rfl rfl rfl rfl ?_
    refine r_v (Value.pointer (some ⟨br, 0, none⟩)) rfl rfl rfl rfl ?_
    refine r_v (Value.pointer (some ⟨br, 0, none⟩)) rfl rfl rfl rfl ?_
    refine r_v (Value.pointer (some ⟨br, 1, none⟩)) rfl rfl rfl rfl ?_
    refine r_v (Value.pointer (some ⟨br, 1, none⟩)) rfl rfl rfl rfl ?_
    refine r_l (Value.int .i64 (r_1)) 2 _ _ _ _ rfl rfl rfl rfl rfl ?_
    replace hM := ck_some hM; obtain ⟨ck12, hM⟩ := hM
    refine r_v (subA r_0v ((r_1).toNat) ((r_0).length) 1) rfl rfl rfl (ev_v (ev_subSl1 rfl rfl rfl rfl (Sl.shp hr_0) ck12)) ?_
    replace hM := bind_sm hM; obtain ⟨r13, hr14, hM⟩ := hM
    refine r_gv (Value.tuple #[Value.agg #[Value.int .i64 (r13.1), U (hi (r13.2.1)), U (lo (r13.2.1))], Value.int .i64 (r13.2.2.1), Value.int .i64 (r13.2.2.2)]) 49 _ rfl rfl rfl (ev_callV (caps := []) rfl call_49 rfl) (fun own_ nw_ hs_ => wire_rowOf_g N (((r_0).take ((r_0).length)).drop ((r_1).toNat)) _ hr14 hs_.view (subA r_0v ((r_1).toNat) ((r_0).length) 1) ((rd_sub (rd_own hr_0 (mem_chunk (Ls := [[(b4, 30, #[Value.int .i64 (0), U (0#64), U (0#64)])], [(b2, 30, #[Value.int .i64 (0), U (0#64), U (0#64)])], [(br, 69, #[r_0v, Value.int .i64 (r_1), Value.int .i64 (r_2)])], Sr_0]) (k := 3) rfl rfl)) (toNat_len ck12.2) (Nat.le_refl _)) own_ nw_ hs_)) (fun _ _ v_ L_ U_ => ⟨fun h_ => h_ _ hr14, fun h_ => by intro _ e_; cases Option.some.inj (e_.symm.trans hr14); exact h_⟩) ?_
    refine r_v (Value.tuple #[Value.agg #[Value.int .i64 (r13.1), U (hi (r13.2.1)), U (lo (r13.2.1))], Value.int .i64 (r13.2.2.1), Value.int .i64 (r13.2.2.2)]) rfl rfl rfl rfl ?_
    refine r_v (Value.agg #[Value.int .i64 (r13.1), U (hi (r13.2.1)), U (lo (r13.2.1))]) rfl rfl rfl rfl ?_
    refine r_v (Value.int .i64 (r13.2.2.1)) rfl rfl rfl rfl ?_
    refine r_v (Value.int .i64 (r13.2.2.2)) rfl rfl rfl rfl ?_
    refine r_a (30, #[Value.int .i64 (0), U (0#64), U (0#64)]) rfl rfl rfl (fun b15 => ?_) (.inl rfl)
    refine r_sn (List.flatten [[(b15, 30, #[Value.int .i64 (r13.1), U (hi (r13.2.1)), U (lo (r13.2.1))])], [(b4, 30, #[Value.int .i64 (0), U (0#64), U (0#64)])], [(b2, 30, #[Value.int .i64 (0), U (0#64), U (0#64)])], [(br, 69, #[r_0v, Value.int .i64 (r_1), Value.int .i64 (r_2)])], Sr_0]) 0 _ _ _ (#[Value.int .i64 (0), U (0#64), U (0#64)]) (#[Value.int .i64 (r13.1), U (hi (r13.2.1)), U (lo (r13.2.1))]) (#[Value.int .i64 (r13.1), U (hi (r13.2.1)), U (lo (r13.2.1))]) rfl rfl rfl rfl rfl (.of rfl rfl) rfl rfl ?_
    refine r_v (Value.int .i64 (r13.2.2.1)) rfl rfl rfl rfl ?_
    refine r_v (Value.int .i64 (r13.2.2.2)) rfl rfl rfl rfl ?_
    refine lx_nil ?_
    refine hK11 _ _ ?_; try clear hK11 K11
    refine A_seq fun K16 hK16 => ?_
    refine A_seq fun K17 hK17 => ?_
    refine A_reg ?_
    refine r_v (Value.int .i64 (r13.2.2.2)) rfl rfl rfl rfl ?_
    refine r_v (Value.bool (((r13.2.2.2 : Int) != 0))) rfl rfl rfl rfl ?_
    refine lx_nil ?_
    refine hK17 _ _ ?_; try clear hK17 K17
    refine A_cond (((r13.2.2.2 : Int) != 0)) rfl (fun hc18 => ?_) (fun hc18 => ?_)
    · replace hM := ifp (bne_iff_ne.1 hc18) hM
      refine A_seq fun K19 hK19 => ?_
      refine A_regC [(some 34, true)] (conG Try.prog [(34, fun _ _ v_ L_ U_ => ∀ u0_, wire_spot_fail_v2_m N r_0 r_1 r_2 r13.2.2.2 = some u0_ → (pO (List.flatten [[(br, 69, #[r_0v, Value.int .i64 (r_1), Value.int .i64 (r_2)])], Sr_0]) (oI 5 encY r_0v u0_.1 (oE (Value.tuple #[]) [[(br, 69, #[r_0v, Value.int .i64 (u0_.2.1), Value.int .i64 (u0_.2.2)])]]))) v_ L_ U_)]) ?_
      refine r_v (Value.pointer (some ⟨br, 0, none⟩)) rfl rfl rfl rfl ?_
      refine r_v (Value.pointer (some ⟨br, 0, none⟩)) rfl rfl rfl rfl ?_
      refine r_v (Value.pointer (some ⟨br, 1, none⟩)) rfl rfl rfl rfl ?_
      refine r_v (Value.int .i64 (r13.2.2.2)) rfl rfl rfl rfl ?_
      replace hM := bind_sm hM; obtain ⟨r20, hr21, hM⟩ := hM
      replace hM := ck_some hM; obtain ⟨ck22, hM⟩ := hM
      refine r_gm (Ls := [[(b15, 30, #[Value.int .i64 (r13.1), U (hi (r13.2.1)), U (lo (r13.2.1))])], [(b4, 30, #[Value.int .i64 (0), U (0#64), U (0#64)])], [(b2, 30, #[Value.int .i64 (0), U (0#64), U (0#64)])], [(br, 69, #[r_0v, Value.int .i64 (r_1), Value.int .i64 (r_2)])], Sr_0]) (FL := [[(br, 69, #[r_0v, Value.int .i64 (r_1), Value.int .i64 (r_2)])], Sr_0]) (RL := [[(b15, 30, #[Value.int .i64 (r13.1), U (hi (r13.2.1)), U (lo (r13.2.1))])], [(b4, 30, #[Value.int .i64 (0), U (0#64), U (0#64)])], [(b2, 30, #[Value.int .i64 (0), U (0#64), U (0#64)])]]) [3, 4] (oI 5 encY r_0v r20.1 (oE (Value.tuple #[]) [[(br, 69, #[r_0v, Value.int .i64 (r20.2.1), Value.int .i64 (r20.2.2)])]])) (some 34) 66 _ rfl rfl rfl rfl rfl (ev_callF rfl call_66 rfl) (fun own_ nw_ hn_ hs_ => wire_spot_fail_v2_g N r_0 r_1 r_2 r13.2.2.2 _ hr21 _ br r_0v Sr_0 hr_0) (fun _ _ v_ L_ U_ => ⟨fun h_ => h_ _ hr21, fun h_ => by intro _ e_; cases Option.some.inj (e_.symm.trans hr21); exact h_⟩) (fun h_ => nomatch h_) ?_
      rintro _ _ ⟨S23, _, H24, ⟨rfl, rfl⟩, rfl⟩
      refine lx_perm (Ls := [[(b15, 30, #[Value.int .i64 (r13.1), U (hi (r13.2.1)), U (lo (r13.2.1))])], [(b4, 30, #[Value.int .i64 (0), U (0#64), U (0#64)])], [(b2, 30, #[Value.int .i64 (0), U (0#64), U (0#64)])], S23, [(br, 69, #[r_0v, Value.int .i64 (r20.2.1), Value.int .i64 (r20.2.2)])]]) (Ls' := [[(b15, 30, #[Value.int .i64 (r13.1), U (hi (r13.2.1)), U (lo (r13.2.1))])], [(b4, 30, #[Value.int .i64 (0), U (0#64), U (0#64)])], [(b2, 30, #[Value.int .i64 (0), U (0#64), U (0#64)])], [(br, 69, #[r_0v, Value.int .i64 (r20.2.1), Value.int .i64 (r20.2.2)])], S23]) [0, 1, 2, 4, 3] rfl rfl ?_
      refine lx_nil ?_
      refine hK19 _ _ ?_; try clear hK19 K19
      refine A_gen [(4, Value.pointer (some ⟨b2, 0, none⟩)), (5, Value.pointer (some ⟨b4, 0, none⟩))] rfl (fun T => ?_)
      refine A_seq fun K25 hK25 => ?_
      refine A_reg ?_
      refine r_l (Value.agg #[Value.int .i64 (0), U (0#64), U (0#64)]) 1 _ _ _ _ rfl rfl rfl rfl rfl ?_
      refine r_s (List.flatten [[(b15, 30, #[Value.int .i64 (r13.1), U (hi (r13.2.1)), U (lo (r13.2.1))])], [(b4, 30, #[Value.int .i64 (0), U (0#64), U (0#64)])], [(b2, 30, #[Value.int .i64 (0), U (0#64), U (0#64)])], [(br, 69, #[r_0v, Value.int .i64 (r20.2.1), Value.int .i64 (r20.2.2)])], S23]) 2 _ _ _ (#[Value.int .i64 (0), U (0#64), U (0#64)]) (#[Value.int .i64 (0), U (0#64), U (0#64)]) (#[Value.int .i64 (0), U (0#64), U (0#64)]) rfl rfl rfl rfl (.of rfl rfl) rfl rfl ?_
      refine lx_nil ?_
      refine hK25 _ _ ?_; try clear hK25 K25
      obtain rfl := Option.some.inj hM
      refine A_ret (fun hn => endsO (v0 := Value.agg #[Value.int .i64 (0), U (0#64), U (0#64)]) (O := [S23, [(br, 69, #[r_0v, Value.int .i64 (r20.2.1), Value.int .i64 (r20.2.2)])]]) (by first | exact (res1 (res_cell hn 2 rfl rfl rfl)) | (simp only [app_hl]; exact (res1 (res_cell hn 2 rfl rfl rfl)))) (Sub.pick [[(b15, 30, #[Value.int .i64 (r13.1), U (hi (r13.2.1)), U (lo (r13.2.1))])], [(b4, 30, #[Value.int .i64 (0), U (0#64), U (0#64)])], [(b2, 30, #[Value.int .i64 (0), U (0#64), U (0#64)])], [(br, 69, #[r_0v, Value.int .i64 (r20.2.1), Value.int .i64 (r20.2.2)])], S23] [4, 3] rfl) (by first | exact ⟨S23, _, H24, ⟨rfl, rfl⟩, rfl⟩ | (simp only [app_hl]; exact ⟨S23, _, H24, ⟨rfl, rfl⟩, rfl⟩)))
    · replace hM := ifn (bne_f hc18) hM
      refine A_skip ?_
      refine hK16 _ _ ?_; try clear hK16 K16
      refine A_seq fun K26 hK26 => ?_
      refine A_reg ?_
      refine r_v (Value.pointer (some ⟨br, 0, none⟩)) rfl rfl rfl rfl ?_
      refine r_v (Value.pointer (some ⟨br, 0, none⟩)) rfl rfl rfl rfl ?_
      refine r_v (Value.pointer (some ⟨br, 1, none⟩)) rfl rfl rfl rfl ?_
      refine r_v (Value.pointer (some ⟨br, 1, none⟩)) rfl rfl rfl rfl ?_
      refine r_l (Value.int .i64 (r_1)) 3 _ _ _ _ rfl rfl rfl rfl rfl ?_
      refine r_v (Value.int .i64 (r13.2.2.1)) rfl rfl rfl rfl ?_
      replace hM := ck_some hM; obtain ⟨ck27, hM⟩ := hM
      refine r_v (Value.int .i64 ((r_1 + r13.2.2.1))) rfl rfl (wi64 rfl ck27.1 ck27.2) rfl ?_
      refine r_v (Value.pointer (some ⟨br, 0, none⟩)) rfl rfl rfl rfl ?_
      refine r_v (Value.pointer (some ⟨br, 1, none⟩)) rfl rfl rfl rfl ?_
      refine r_v (Value.pointer (some ⟨br, 1, none⟩)) rfl rfl rfl rfl ?_
      refine r_s (List.flatten [[(b15, 30, #[Value.int .i64 (r13.1), U (hi (r13.2.1)), U (lo (r13.2.1))])], [(b4, 30, #[Value.int .i64 (0), U (0#64), U (0#64)])], [(b2, 30, #[Value.int .i64 (0), U (0#64), U (0#64)])], [(br, 69, #[r_0v, Value.int .i64 ((r_1 + r13.2.2.1)), Value.int .i64 (r_2)])], Sr_0]) 3 _ _ _ (#[r_0v, Value.int .i64 (r_1), Value.int .i64 (r_2)]) (#[Value.int .i64 ((r_1 + r13.2.2.1))]) (#[r_0v, Value.int .i64 ((r_1 + r13.2.2.1)), Value.int .i64 (r_2)]) rfl rfl rfl rfl (.of rfl rfl) rfl rfl ?_
      refine lx_nil ?_
      refine hK26 _ _ ?_; try clear hK26 K26
      refine A_gen [(4, Value.pointer (some ⟨b2, 0, none⟩)), (6, Value.pointer (some ⟨b15, 0, none⟩))] rfl (fun T => ?_)
      refine A_seq fun K28 hK28 => ?_
      refine A_reg ?_
      refine r_l (Value.agg #[Value.int .i64 (r13.1), U (hi (r13.2.1)), U (lo (r13.2.1))]) 0 _ _ _ _ rfl rfl rfl rfl rfl ?_
      refine r_s (List.flatten [[(b15, 30, #[Value.int .i64 (r13.1), U (hi (r13.2.1)), U (lo (r13.2.1))])], [(b4, 30, #[Value.int .i64 (0), U (0#64), U (0#64)])], [(b2, 30, #[Value.int .i64 (r13.1), U (hi (r13.2.1)), U (lo (r13.2.1))])], [(br, 69, #[r_0v, Value.int .i64 ((r_1 + r13.2.2.1)), Value.int .i64 (r_2)])], Sr_0]) 2 _ _ _ (#[Value.int .i64 (0), U (0#64), U (0#64)]) (#[Value.int .i64 (r13.1), U (hi (r13.2.1)), U (lo (r13.2.1))]) (#[Value.int .i64 (r13.1), U (hi (r13.2.1)), U (lo (r13.2.1))]) rfl rfl rfl rfl (.of rfl rfl) rfl rfl ?_
      refine lx_nil ?_
      refine hK28 _ _ ?_; try clear hK28 K28
      obtain rfl := Option.some.inj hM
      refine A_ret (fun hn => endsO (v0 := Value.agg #[Value.int .i64 (r13.1), U (hi (r13.2.1)), U (lo (r13.2.1))]) (O := [Sr_0, [(br, 69, #[r_0v, Value.int .i64 ((r_1 + r13.2.2.1)), Value.int .i64 (r_2)])]]) (res1 (res_cell hn 2 rfl rfl rfl)) (Sub.pick [[(b15, 30, #[Value.int .i64 (r13.1), U (hi (r13.2.1)), U (lo (r13.2.1))])], [(b4, 30, #[Value.int .i64 (0), U (0#64), U (0#64)])], [(b2, 30, #[Value.int .i64 (r13.1), U (hi (r13.2.1)), U (lo (r13.2.1))])], [(br, 69, #[r_0v, Value.int .i64 ((r_1 + r13.2.2.1)), Value.int .i64 (r_2)])], Sr_0] [4, 3] rfl) ⟨Sr_0, _, hr_0, ⟨rfl, rfl⟩, rfl⟩)
def wire_Reader_Vec_v1_m (N : Nat) (r_0 : List UInt8) (r_1 : Int) (r_2 : Int) : Option (Int × (BitVec 128) × (List UInt8) × Int × Int) := (wire_take_api_Vec__v2_m N r_0 r_1 r_2).bind fun r4 => ck ((r4.2.2.1).length = (r_0).length) (some (r4.1, r4.2.1, r4.2.2.1, r4.2.2.2.1, r4.2.2.2.2))
set_option maxRecDepth 100000 in
set_option maxHeartbeats 8000000 in
theorem wire_Reader_Vec_v1_g (N : Nat) (r_0 : List UInt8) (r_1 : Int) (r_2 : Int) (r : Int × (BitVec 128) × (List UInt8) × Int × Int) (hM : wire_Reader_Vec_v1_m N r_0 r_1 r_2 = some r) (ro : Addr → Option Value) (br : Nat) (r_0v : Value) (Sr_0 : List Bl) (hr_0 : Sl 5 encY r_0v r_0 Sr_0) : Does Try.prog 22 #[Value.pointer (some ⟨br, 0, none⟩)] ro (List.flatten [[(br, 69, #[r_0v, Value.int .i64 (r_1), Value.int .i64 (r_2)])], Sr_0]) (pO (List.flatten [[(br, 69, #[r_0v, Value.int .i64 (r_1), Value.int .i64 (r_2)])], Sr_0]) (oI 5 encY r_0v r.2.2.1 (oE (Value.agg #[Value.int .i64 (r.1), U (hi (r.2.1)), U (lo (r.2.1))]) [[(br, 69, #[r_0v, Value.int .i64 (r.2.2.2.1), Value.int .i64 (r.2.2.2.2)])]]))) := by
  unfold wire_Reader_Vec_v1_m at hM
  refine doesO_of_A follows Try.func22 rfl 5 rfl (upd (fun _ => undef) 0 (Value.pointer (some ⟨br, 0, none⟩))) (by funext k; match k with | 0 => rfl | k + 1 => rfl) (fun _ _ h_ _ => h_) (fun base0_ => ?_)
  refine A_seq fun K1 hK1 => ?_
  refine A_reg ?_
  refine r_a (30, #[Value.int .i64 (0), U (0#64), U (0#64)]) rfl rfl rfl (fun b2 => ?_) (.inr rfl)
  refine lx_nil ?_
  refine hK1 _ _ ?_; try clear hK1 K1
  refine A_seq fun K3 hK3 => ?_
  refine A_regC [(some 4, true)] (conG Try.prog [(4, fun _ _ v_ L_ U_ => ∀ u0_, wire_take_api_Vec__v2_m N r_0 r_1 r_2 = some u0_ → (pO (List.flatten [[(br, 69, #[r_0v, Value.int .i64 (r_1), Value.int .i64 (r_2)])], Sr_0]) (oI 5 encY r_0v u0_.2.2.1 (oE (Value.agg #[Value.int .i64 (u0_.1), U (hi (u0_.2.1)), U (lo (u0_.2.1))]) [[(br, 69, #[r_0v, Value.int .i64 (u0_.2.2.2.1), Value.int .i64 (u0_.2.2.2.2)])]]))) v_ L_ U_)]) ?_
  refine r_v (Value.pointer (some ⟨br, 0, none⟩)) rfl rfl rfl rfl ?_
  replace hM := bind_sm hM; obtain ⟨r4, hr5, hM⟩ := hM
  replace hM := ck_some hM; obtain ⟨ck6, hM⟩ := hM
  refine r_gm (Ls := [[(b2, 30, #[Value.int .i64 (0), U (0#64), U (0#64)])], [(br, 69, #[r_0v, Value.int .i64 (r_1), Value.int .i64 (r_2)])], Sr_0]) (FL := [[(br, 69, #[r_0v, Value.int .i64 (r_1), Value.int .i64 (r_2)])], Sr_0]) (RL := [[(b2, 30, #[Value.int .i64 (0), U (0#64), U (0#64)])]]) [1, 2] (oI 5 encY r_0v r4.2.2.1 (oE (Value.agg #[Value.int .i64 (r4.1), U (hi (r4.2.1)), U (lo (r4.2.1))]) [[(br, 69, #[r_0v, Value.int .i64 (r4.2.2.2.1), Value.int .i64 (r4.2.2.2.2)])]])) (some 4) 48 _ rfl rfl rfl rfl rfl (ev_callF rfl call_48 rfl) (fun own_ nw_ hn_ hs_ => wire_take_api_Vec__v2_g N r_0 r_1 r_2 _ hr5 _ br r_0v Sr_0 hr_0) (fun _ _ v_ L_ U_ => ⟨fun h_ => h_ _ hr5, fun h_ => by intro _ e_; cases Option.some.inj (e_.symm.trans hr5); exact h_⟩) (fun h_ => nomatch h_) ?_
  rintro _ _ ⟨S7, _, H8, ⟨rfl, rfl⟩, rfl⟩
  refine lx_perm (Ls := [[(b2, 30, #[Value.int .i64 (0), U (0#64), U (0#64)])], S7, [(br, 69, #[r_0v, Value.int .i64 (r4.2.2.2.1), Value.int .i64 (r4.2.2.2.2)])]]) (Ls' := [[(b2, 30, #[Value.int .i64 (0), U (0#64), U (0#64)])], [(br, 69, #[r_0v, Value.int .i64 (r4.2.2.2.1), Value.int .i64 (r4.2.2.2.2)])], S7]) [0, 2, 1] rfl rfl ?_
  refine r_s (List.flatten [[(b2, 30, #[Value.int .i64 (r4.1), U (hi (r4.2.1)), U (lo (r4.2.1))])], [(br, 69, #[r_0v, Value.int .i64 (r4.2.2.2.1), Value.int .i64 (r4.2.2.2.2)])], S7]) 0 _ _ _ (#[Value.int .i64 (0), U (0#64), U (0#64)]) (#[Value.int .i64 (r4.1), U (hi (r4.2.1)), U (lo (r4.2.1))]) (#[Value.int .i64 (r4.1), U (hi (r4.2.1)), U (lo (r4.2.1))]) rfl rfl rfl rfl (.of rfl rfl) rfl rfl ?_
  refine lx_nil ?_
  refine hK3 _ _ ?_; try clear hK3 K3
  obtain rfl := Option.some.inj hM
  refine A_ret (fun hn => endsO (v0 := Value.agg #[Value.int .i64 (r4.1), U (hi (r4.2.1)), U (lo (r4.2.1))]) (O := [S7, [(br, 69, #[r_0v, Value.int .i64 (r4.2.2.2.1), Value.int .i64 (r4.2.2.2.2)])]]) (res1 (res_cell hn 0 rfl rfl rfl)) (Sub.pick [[(b2, 30, #[Value.int .i64 (r4.1), U (hi (r4.2.1)), U (lo (r4.2.1))])], [(br, 69, #[r_0v, Value.int .i64 (r4.2.2.2.1), Value.int .i64 (r4.2.2.2.2)])], S7] [2, 1] rfl) ⟨S7, _, H8, ⟨rfl, rfl⟩, rfl⟩)
def shunterref07_TakeVec_v1_l4 (N : Nat) (r_0 : List UInt8) (r_1 : Int) (r_2 : Int) (r_3 : Int) (r10 : (List UInt8) × Int × Int × Int × Int) (r39 : List Bool) : Nat → Int → Option ((List UInt8) × Int × Int × Int × Int × (BitVec 128))
  | 0, _ => none
  | n46 + 1, i3_ => ck ((-9223372036854775808 ≤ (((r39).length : Int) - r10.2.2.2.2) ∧ (((r39).length : Int) - r10.2.2.2.2) ≤ 9223372036854775807)) (if (i3_ : Int) < (((r39).length : Int) - r10.2.2.2.2) then ck (0 ≤ i3_ ∧ i3_ < ((r39).length : Int)) (if ((r39)[(i3_).toNat]!) = true then (shunterref07_fail_v1_m N r_0 r_1 r_2 r_3 4 r_1).bind fun r56 => some (r56.1, r56.2.1, r56.2.2.1, r56.2.2.2, 0, (0#64) ++ (0#64)) else ck ((-9223372036854775808 ≤ (i3_ + 1) ∧ (i3_ + 1) ≤ 9223372036854775807)) ((shunterref07_TakeVec_v1_l4 N r_0 r_1 r_2 r_3 r10 r39 n46) ((i3_ + 1)))) else ck (0 ≤ ((r10.2.2.2.2 + 7)) / 8 ∧ ((r10.2.2.2.2 + 7)) / 8 ≤ ((r10.1).length : Int)) (ck ((-9223372036854775808 ≤ (r10.2.1 + ((r10.2.2.2.2 + 7)) / 8) ∧ (r10.2.1 + ((r10.2.2.2.2 + 7)) / 8) ≤ 9223372036854775807)) (ck ((-9223372036854775808 ≤ (((r39).length : Int) - r10.2.2.2.2) ∧ (((r39).length : Int) - r10.2.2.2.2) ≤ 9223372036854775807)) (ck (0 ≤ (((r39).length : Int) - r10.2.2.2.2) ∧ (((r39).length : Int) - r10.2.2.2.2) ≤ ((r39).length : Int)) ((shunterref03_Vec_m N (((r39).take ((r39).length)).drop (((((r39).length : Int) - r10.2.2.2.2)).toNat))).bind fun r68 => some (((r10.1).take ((r10.1).length)).drop ((((r10.2.2.2.2 + 7)) / 8).toNat), (r10.2.1 + ((r10.2.2.2.2 + 7)) / 8), r10.2.2.1, r10.2.2.2.1, r68.1, r68.2))))))
def shunterref07_TakeVec_v1_k2 (N : Nat) (r_0 : List UInt8) (r_1 : Int) (r_2 : Int) (r_3 : Int) (r10 : (List UInt8) × Int × Int × Int × Int) (x1_ : Bool) : Option ((List UInt8) × Int × Int × Int × Int × (BitVec 128)) := if (x1_) = true then (shunterref07_fail_v1_m N r_0 r_1 r_2 r_3 9 r_1).bind fun r22 => some (r22.1, r22.2.1, r22.2.2.1, r22.2.2.2, 0, (0#64) ++ (0#64)) else ck ((-9223372036854775808 ≤ (r10.2.2.2.2 + 7) ∧ (r10.2.2.2.2 + 7) ≤ 9223372036854775807)) (ck (0 ≤ (r10.2.2.2.2 + 7) ∧ (r10.2.2.2.2 + 7) ≤ 9223372036854775807) (if (((r10.1).length : Int) : Int) < ((r10.2.2.2.2 + 7)) / 8 then (shunterref07_fail_v1_m N r_0 r_1 r_2 r_3 3 r_1).bind fun r33 => some (r33.1, r33.2.1, r33.2.2.1, r33.2.2.2, 0, (0#64) ++ (0#64)) else ck (0 ≤ ((r10.2.2.2.2 + 7)) / 8 ∧ ((r10.2.2.2.2 + 7)) / 8 ≤ ((r10.1).length : Int)) ((shunterref03_Bits_m N (((r10.1).take ((((r10.2.2.2.2 + 7)) / 8).toNat)).drop (0))).bind fun r39 => shunterref07_TakeVec_v1_l4 N r_0 r_1 r_2 r_3 r10 r39 N (0))))
def shunterref07_TakeVec_v1_m (N : Nat) (r_0 : List UInt8) (r_1 : Int) (r_2 : Int) (r_3 : Int) : Option ((List UInt8) × Int × Int × Int × Int × (BitVec 128)) := if (r_2 : Int) ≠ 0 then some (r_0, r_1, r_2, r_3, 0, (0#64) ++ (0#64)) else (shunterref07_Take_v1_m N r_0 r_1 r_2 r_3 1 255).bind fun r10 => if (r10.2.2.1 : Int) ≠ 0 then some (r10.1, r10.2.1, r10.2.2.1, r10.2.2.2.1, 0, (0#64) ++ (0#64)) else if (r10.2.2.2.2 : Int) < 1 then shunterref07_TakeVec_v1_k2 N r_0 r_1 r_2 r_3 r10 (true) else shunterref07_TakeVec_v1_k2 N r_0 r_1 r_2 r_3 r10 (decide ((r10.2.2.2.2 : Int) > 128))
set_option maxRecDepth 100000 in
set_option maxHeartbeats 8000000 in
theorem shunterref07_TakeVec_v1_g (N : Nat) (r_0 : List UInt8) (r_1 : Int) (r_2 : Int) (r_3 : Int) (r : (List UInt8) × Int × Int × Int × Int × (BitVec 128)) (hM : shunterref07_TakeVec_v1_m N r_0 r_1 r_2 r_3 = some r) (ro : Addr → Option Value) (r_0v : Value) (hr_0 : Rd encY ro r_0v r_0) : Does Try.prog 36 #[Value.agg #[r_0v, Value.int .i64 (r_1), Value.int .i64 (r_2), Value.int .i64 (r_3)]] ro [] (pO [] (oR encY ro r.1 fun s_0 => (oE (Value.tuple #[Value.agg #[s_0, Value.int .i64 (r.2.1), Value.int .i64 (r.2.2.1), Value.int .i64 (r.2.2.2.1)], Value.agg #[Value.int .i64 (r.2.2.2.2.1), U (hi (r.2.2.2.2.2)), U (lo (r.2.2.2.2.2))]]) []))) := by
  unfold shunterref07_TakeVec_v1_m at hM
  refine doesO_of_A follows Try.func36 rfl 88 rfl (upd (fun _ => undef) 0 (Value.agg #[r_0v, Value.int .i64 (r_1), Value.int .i64 (r_2), Value.int .i64 (r_3)])) (by funext k; match k with | 0 => rfl | k + 1 => rfl) (fun _ _ h_ _ => h_) (fun base0_ => ?_)
  refine A_seq fun K1 hK1 => ?_
  refine A_reg ?_
  refine r_a (39, #[r_0v, Value.int .i64 (r_1), Value.int .i64 (r_2), Value.int .i64 (r_3)]) rfl rfl rfl (fun b2 => ?_) (.inr rfl)
  refine r_a (39, #[Value.slice none 0 0, Value.int .i64 (0), Value.int .i64 (0), Value.int .i64 (0)]) rfl rfl rfl (fun b3 => ?_) (.inr rfl)
  refine r_a (30, #[Value.int .i64 (0), U (0#64), U (0#64)]) rfl rfl rfl (fun b4 => ?_) (.inr rfl)
  refine lx_nil ?_
  refine hK1 _ _ ?_; try clear hK1 K1
  refine A_seq fun K5 hK5 => ?_
  refine A_seq fun K6 hK6 => ?_
  refine A_reg ?_
  refine r_v (Value.pointer (some ⟨b2, 2, none⟩)) rfl rfl rfl rfl ?_
  refine r_l (Value.int .i64 (r_2)) 2 _ _ _ _ rfl rfl rfl rfl rfl ?_
  refine r_v (Value.bool (((r_2 : Int) != 0))) rfl rfl rfl rfl ?_
  refine lx_nil ?_
  refine hK6 _ _ ?_; try clear hK6 K6
  refine A_cond (((r_2 : Int) != 0)) rfl (fun hc7 => ?_) (fun hc7 => ?_)
  · replace hM := ifp (bne_iff_ne.1 hc7) hM
    refine A_seq fun K8 hK8 => ?_
    refine A_reg ?_
    refine r_l (Value.agg #[r_0v, Value.int .i64 (r_1), Value.int .i64 (r_2), Value.int .i64 (r_3)]) 2 _ _ _ _ rfl rfl rfl rfl rfl ?_
    refine r_v (Value.agg #[Value.int .i64 (0), U (0#64), U (0#64)]) rfl rfl rfl (ev_buildS rfl rfl rfl rfl) ?_
    refine r_s [(b4, 30, #[Value.int .i64 (0), U (0#64), U (0#64)]), (b3, 39, #[r_0v, Value.int .i64 (r_1), Value.int .i64 (r_2), Value.int .i64 (r_3)]), (b2, 39, #[r_0v, Value.int .i64 (r_1), Value.int .i64 (r_2), Value.int .i64 (r_3)])] 1 _ _ _ (#[Value.slice none 0 0, Value.int .i64 (0), Value.int .i64 (0), Value.int .i64 (0)]) (#[r_0v, Value.int .i64 (r_1), Value.int .i64 (r_2), Value.int .i64 (r_3)]) (#[r_0v, Value.int .i64 (r_1), Value.int .i64 (r_2), Value.int .i64 (r_3)]) rfl rfl rfl rfl (.ofS rfl rfl (all_cons' (Shp.one (Rd.shp hr_0)) (all_cons' rfl (all_cons' rfl (all_cons' rfl all_nil'))))) rfl rfl ?_
    refine r_s [(b4, 30, #[Value.int .i64 (0), U (0#64), U (0#64)]), (b3, 39, #[r_0v, Value.int .i64 (r_1), Value.int .i64 (r_2), Value.int .i64 (r_3)]), (b2, 39, #[r_0v, Value.int .i64 (r_1), Value.int .i64 (r_2), Value.int .i64 (r_3)])] 0 _ _ _ (#[Value.int .i64 (0), U (0#64), U (0#64)]) (#[Value.int .i64 (0), U (0#64), U (0#64)]) (#[Value.int .i64 (0), U (0#64), U (0#64)]) rfl rfl rfl rfl (.of rfl rfl) rfl rfl ?_
    refine lx_nil ?_
    refine hK8 _ _ ?_; try clear hK8 K8
    obtain rfl := Option.some.inj hM
    refine A_ret (fun hn => endsO (v0 := Value.tuple #[Value.agg #[r_0v, Value.int .i64 (r_1), Value.int .i64 (r_2), Value.int .i64 (r_3)], Value.agg #[Value.int .i64 (0), U (0#64), U (0#64)]]) (O := []) (by first | exact (res2 (res_cell hn 1 rfl rfl rfl) (res_cell hn 0 rfl rfl rfl)) | (simp only [app_hl]; exact (res2 (res_cell hn 1 rfl rfl rfl) (res_cell hn 0 rfl rfl rfl)))) (Sub.nil _) (by first | exact ⟨r_0v, hr_0, ⟨rfl, rfl⟩⟩ | (simp only [app_hl]; exact ⟨r_0v, hr_0, ⟨rfl, rfl⟩⟩)))
  · replace hM := ifn (bne_f hc7) hM
    refine A_skip ?_
    refine hK5 _ _ ?_; try clear hK5 K5
    refine A_seq fun K9 hK9 => ?_
    refine A_regC [(some 16, true)] (conG Try.prog [(16, fun _ _ v_ L_ U_ => ∀ u0_, shunterref07_Take_v1_m N r_0 r_1 r_2 r_3 1 255 = some u0_ → (pO (List.flatten []) (oR encY ro u0_.1 fun s_0 => (oE (Value.tuple #[Value.agg #[s_0, Value.int .i64 (u0_.2.1), Value.int .i64 (u0_.2.2.1), Value.int .i64 (u0_.2.2.2.1)], Value.int .i64 (u0_.2.2.2.2)]) []))) v_ L_ U_)]) ?_
    refine r_l (Value.agg #[r_0v, Value.int .i64 (r_1), Value.int .i64 (r_2), Value.int .i64 (r_3)]) 2 _ _ _ _ rfl rfl rfl rfl rfl ?_
    replace hM := bind_sm hM; obtain ⟨r10, hr11, hM⟩ := hM
    refine r_gm (Ls := [[(b4, 30, #[Value.int .i64 (0), U (0#64), U (0#64)])], [(b3, 39, #[Value.slice none 0 0, Value.int .i64 (0), Value.int .i64 (0), Value.int .i64 (0)])], [(b2, 39, #[r_0v, Value.int .i64 (r_1), Value.int .i64 (r_2), Value.int .i64 (r_3)])]]) (FL := []) (RL := [[(b4, 30, #[Value.int .i64 (0), U (0#64), U (0#64)])], [(b3, 39, #[Value.slice none 0 0, Value.int .i64 (0), Value.int .i64 (0), Value.int .i64 (0)])], [(b2, 39, #[r_0v, Value.int .i64 (r_1), Value.int .i64 (r_2), Value.int .i64 (r_3)])]]) [] (oR encY ro r10.1 fun s_0 => (oE (Value.tuple #[Value.agg #[s_0, Value.int .i64 (r10.2.1), Value.int .i64 (r10.2.2.1), Value.int .i64 (r10.2.2.2.1)], Value.int .i64 (r10.2.2.2.2)]) [])) (some 16) 35 _ rfl rfl rfl rfl rfl (ev_callF rfl call_35 rfl) (fun own_ nw_ hn_ hs_ => DoesI.ro_mono (ro_sans (Ls := [[(b4, 30, #[Value.int .i64 (0), U (0#64), U (0#64)])], [(b3, 39, #[Value.slice none 0 0, Value.int .i64 (0), Value.int .i64 (0), Value.int .i64 (0)])], [(b2, 39, #[r_0v, Value.int .i64 (r_1), Value.int .i64 (r_2), Value.int .i64 (r_3)])]]) (is := []) rfl hs_) (shunterref07_Take_v1_g N r_0 r_1 r_2 r_3 1 255 _ hr11 ro r_0v hr_0)) (fun _ _ v_ L_ U_ => ⟨fun h_ => h_ _ hr11, fun h_ => by intro _ e_; cases Option.some.inj (e_.symm.trans hr11); exact h_⟩) (fun h_ => nomatch h_) ?_
    rintro _ _ ⟨s12, hs13, ⟨rfl, rfl⟩⟩
    refine lx_perm (Ls := [[(b4, 30, #[Value.int .i64 (0), U (0#64), U (0#64)])], [(b3, 39, #[Value.slice none 0 0, Value.int .i64 (0), Value.int .i64 (0), Value.int .i64 (0)])], [(b2, 39, #[r_0v, Value.int .i64 (r_1), Value.int .i64 (r_2), Value.int .i64 (r_3)])]]) (Ls' := [[(b4, 30, #[Value.int .i64 (0), U (0#64), U (0#64)])], [(b3, 39, #[Value.slice none 0 0, Value.int .i64 (0), Value.int .i64 (0), Value.int .i64 (0)])], [(b2, 39, #[r_0v, Value.int .i64 (r_1), Value.int .i64 (r_2), Value.int .i64 (r_3)])]]) [0, 1, 2] rfl rfl ?_
    refine r_v (Value.tuple #[Value.agg #[s12, Value.int .i64 (r10.2.1), Value.int .i64 (r10.2.2.1), Value.int .i64 (r10.2.2.2.1)], Value.int .i64 (r10.2.2.2.2)]) rfl rfl rfl rfl ?_
    refine r_v (Value.agg #[s12, Value.int .i64 (r10.2.1), Value.int .i64 (r10.2.2.1), Value.int .i64 (r10.2.2.2.1)]) rfl rfl rfl rfl ?_
    refine r_v (Value.int .i64 (r10.2.2.2.2)) rfl rfl rfl rfl ?_
    refine r_a (39, #[Value.slice none 0 0, Value.int .i64 (0), Value.int .i64 (0), Value.int .i64 (0)]) rfl rfl rfl (fun b14 => ?_) (.inr rfl)
    refine r_s [(b14, 39, #[s12, Value.int .i64 (r10.2.1), Value.int .i64 (r10.2.2.1), Value.int .i64 (r10.2.2.2.1)]), (b4, 30, #[Value.int .i64 (0), U (0#64), U (0#64)]), (b3, 39, #[Value.slice none 0 0, Value.int .i64 (0), Value.int .i64 (0), Value.int .i64 (0)]), (b2, 39, #[r_0v, Value.int .i64 (r_1), Value.int .i64 (r_2), Value.int .i64 (r_3)])] 0 _ _ _ (#[Value.slice none 0 0, Value.int .i64 (0), Value.int .i64 (0), Value.int .i64 (0)]) (#[s12, Value.int .i64 (r10.2.1), Value.int .i64 (r10.2.2.1), Value.int .i64 (r10.2.2.2.1)]) (#[s12, Value.int .i64 (r10.2.1), Value.int .i64 (r10.2.2.1), Value.int .i64 (r10.2.2.2.1)]) rfl rfl rfl rfl (.ofS rfl rfl (all_cons' (Shp.one (Rd.shp hs13)) (all_cons' rfl (all_cons' rfl (all_cons' rfl all_nil'))))) rfl rfl ?_
    refine r_v (Value.int .i64 (r10.2.2.2.2)) rfl rfl rfl rfl ?_
    refine lx_nil ?_
    refine hK9 _ _ ?_; try clear hK9 K9
    refine A_seq fun K15 hK15 => ?_
    refine A_seq fun K16 hK16 => ?_
    refine A_reg ?_
    refine r_v (Value.pointer (some ⟨b14, 2, none⟩)) rfl rfl rfl rfl ?_
    refine r_l (Value.int .i64 (r10.2.2.1)) 0 _ _ _ _ rfl rfl rfl rfl rfl ?_
    refine r_v (Value.bool (((r10.2.2.1 : Int) != 0))) rfl rfl rfl rfl ?_
    refine lx_nil ?_
    refine hK16 _ _ ?_; try clear hK16 K16
    refine A_cond (((r10.2.2.1 : Int) != 0)) rfl (fun hc17 => ?_) (fun hc17 => ?_)
    · replace hM := ifp (bne_iff_ne.1 hc17) hM
      refine A_seq fun K18 hK18 => ?_
      refine A_reg ?_
      refine r_l (Value.agg #[s12, Value.int .i64 (r10.2.1), Value.int .i64 (r10.2.2.1), Value.int .i64 (r10.2.2.2.1)]) 0 _ _ _ _ rfl rfl rfl rfl rfl ?_
      refine r_v (Value.agg #[Value.int .i64 (0), U (0#64), U (0#64)]) rfl rfl rfl (ev_buildS rfl rfl rfl rfl) ?_
      refine r_s [(b14, 39, #[s12, Value.int .i64 (r10.2.1), Value.int .i64 (r10.2.2.1), Value.int .i64 (r10.2.2.2.1)]), (b4, 30, #[Value.int .i64 (0), U (0#64), U (0#64)]), (b3, 39, #[s12, Value.int .i64 (r10.2.1), Value.int .i64 (r10.2.2.1), Value.int .i64 (r10.2.2.2.1)]), (b2, 39, #[r_0v, Value.int .i64 (r_1), Value.int .i64 (r_2), Value.int .i64 (r_3)])] 2 _ _ _ (#[Value.slice none 0 0, Value.int .i64 (0), Value.int .i64 (0), Value.int .i64 (0)]) (#[s12, Value.int .i64 (r10.2.1), Value.int .i64 (r10.2.2.1), Value.int .i64 (r10.2.2.2.1)]) (#[s12, Value.int .i64 (r10.2.1), Value.int .i64 (r10.2.2.1), Value.int .i64 (r10.2.2.2.1)]) rfl rfl rfl rfl (.ofS rfl rfl (all_cons' (Shp.one (Rd.shp hs13)) (all_cons' rfl (all_cons' rfl (all_cons' rfl all_nil'))))) rfl rfl ?_
      refine r_s [(b14, 39, #[s12, Value.int .i64 (r10.2.1), Value.int .i64 (r10.2.2.1), Value.int .i64 (r10.2.2.2.1)]), (b4, 30, #[Value.int .i64 (0), U (0#64), U (0#64)]), (b3, 39, #[s12, Value.int .i64 (r10.2.1), Value.int .i64 (r10.2.2.1), Value.int .i64 (r10.2.2.2.1)]), (b2, 39, #[r_0v, Value.int .i64 (r_1), Value.int .i64 (r_2), Value.int .i64 (r_3)])] 1 _ _ _ (#[Value.int .i64 (0), U (0#64), U (0#64)]) (#[Value.int .i64 (0), U (0#64), U (0#64)]) (#[Value.int .i64 (0), U (0#64), U (0#64)]) rfl rfl rfl rfl (.of rfl rfl) rfl rfl ?_
      refine lx_nil ?_
      refine hK18 _ _ ?_; try clear hK18 K18
      obtain rfl := Option.some.inj hM
      refine A_ret (fun hn => endsO (v0 := Value.tuple #[Value.agg #[s12, Value.int .i64 (r10.2.1), Value.int .i64 (r10.2.2.1), Value.int .i64 (r10.2.2.2.1)], Value.agg #[Value.int .i64 (0), U (0#64), U (0#64)]]) (O := []) (by first | exact (res2 (res_cell hn 2 rfl rfl rfl) (res_cell hn 1 rfl rfl rfl)) | (simp only [app_hl]; exact (res2 (res_cell hn 2 rfl rfl rfl) (res_cell hn 1 rfl rfl rfl)))) (Sub.nil _) (by first | exact ⟨s12, hs13, ⟨rfl, rfl⟩⟩ | (simp only [app_hl]; exact ⟨s12, hs13, ⟨rfl, rfl⟩⟩)))
    · replace hM := ifn (bne_f hc17) hM
      refine A_skip ?_
      refine hK15 _ _ ?_; try clear hK15 K15
      refine A_seq fun K19 hK19 => ?_
      refine A_cut (fun tt ll => ∃ (x1_ : Bool), (shunterref07_TakeVec_v1_k2 N r_0 r_1 r_2 r_3 r10 x1_ = some r) ∧ Is [(1, Value.pointer (some ⟨b2, 0, none⟩)), (2, Value.pointer (some ⟨b3, 0, none⟩)), (3, Value.pointer (some ⟨b4, 0, none⟩)), (4, Value.pointer (some ⟨b14, 0, none⟩)), (5, Value.int .i64 (r10.2.2.2.2)), (29, Value.bool (x1_))] [(b14, 39, #[s12, Value.int .i64 (r10.2.1), Value.int .i64 (r10.2.2.1), Value.int .i64 (r10.2.2.2.1)]), (b4, 30, #[Value.int .i64 (0), U (0#64), U (0#64)]), (b3, 39, #[Value.slice none 0 0, Value.int .i64 (0), Value.int .i64 (0), Value.int .i64 (0)]), (b2, 39, #[r_0v, Value.int .i64 (r_1), Value.int .i64 (r_2), Value.int .i64 (r_3)])] tt ll) ?_ ?_
      · refine A_reg ?_
        refine r_v (Value.int .i64 (r10.2.2.2.2)) rfl rfl rfl rfl ?_
        refine r_v (Value.bool (decide ((r10.2.2.2.2 : Int) < 1))) rfl rfl rfl rfl ?_
        refine r_v (Value.bool (decide ((r10.2.2.2.2 : Int) < 1))) rfl rfl rfl rfl ?_
        rcases hg70 : (decide ((r10.2.2.2.2 : Int) < 1)) with _ | _
        · replace hM := ifn (of_decide_eq_false hg70) hM
          refine r_y rfl ?_
          refine r_v (Value.int .i64 (r10.2.2.2.2)) rfl rfl rfl rfl ?_
          refine r_y rfl ?_
          refine r_v (Value.bool (decide ((r10.2.2.2.2 : Int) > 128))) rfl rfl rfl rfl ?_
          refine r_v (Value.bool (decide ((r10.2.2.2.2 : Int) > 128))) rfl rfl rfl rfl ?_
          refine lx_nil ?_
          refine fg _ (Sub.of (List.Sublist.cons_cons _ (List.Sublist.cons_cons _ (List.Sublist.cons_cons _ (List.Sublist.cons_cons _ (List.Sublist.slnil)))))) ?_
          exact ⟨decide ((r10.2.2.2.2 : Int) > 128), hM, is_mk (by first | rfl | (simp only [hg70]; done) | (simp only [hg70]; rfl) | (simp only [app_hl]; rfl)) (by first | rfl | simp only [app_hl])⟩
        · replace hM := ifp (of_decide_eq_true hg70) hM
          refine r_n true rfl (by decide) rfl ?_
          refine r_n true rfl (by decide) rfl ?_
          refine r_v (Value.bool (true)) rfl rfl rfl rfl ?_
          refine lx_nil ?_
          refine fg _ (Sub.of (List.Sublist.cons_cons _ (List.Sublist.cons_cons _ (List.Sublist.cons_cons _ (List.Sublist.cons_cons _ (List.Sublist.slnil)))))) ?_
          exact ⟨true, hM, is_mk (by first | rfl | (simp only [hg70]; done) | (simp only [hg70]; rfl) | (simp only [app_hl]; rfl)) (by first | rfl | simp only [app_hl])⟩
      · clear hM; rintro t l ⟨x1_, hM, ⟨T, rfl⟩, rfl⟩
        unfold shunterref07_TakeVec_v1_k2 at hM
        refine A_cond (x1_) rfl (fun hc20 => ?_) (fun hc20 => ?_)
        · replace hM := ifp hc20 hM
          refine A_seq fun K21 hK21 => ?_
          refine A_regC [(some 33, true)] (conG Try.prog [(33, fun _ _ v_ L_ U_ => ∀ u0_, shunterref07_fail_v1_m N r_0 r_1 r_2 r_3 9 r_1 = some u0_ → (pO (List.flatten []) (oR encY ro u0_.1 fun s_0 => (oE (Value.agg #[s_0, Value.int .i64 (u0_.2.1), Value.int .i64 (u0_.2.2.1), Value.int .i64 (u0_.2.2.2)]) []))) v_ L_ U_)]) ?_
          refine r_l (Value.agg #[r_0v, Value.int .i64 (r_1), Value.int .i64 (r_2), Value.int .i64 (r_3)]) 3 _ _ _ _ rfl rfl rfl rfl rfl ?_
          refine r_v (Value.pointer (some ⟨b2, 1, none⟩)) rfl rfl rfl rfl ?_
          refine r_l (Value.int .i64 (r_1)) 3 _ _ _ _ rfl rfl rfl rfl rfl ?_
          replace hM := bind_sm hM; obtain ⟨r22, hr23, hM⟩ := hM
          refine r_gm (Ls := [[(b14, 39, #[s12, Value.int .i64 (r10.2.1), Value.int .i64 (r10.2.2.1), Value.int .i64 (r10.2.2.2.1)])], [(b4, 30, #[Value.int .i64 (0), U (0#64), U (0#64)])], [(b3, 39, #[Value.slice none 0 0, Value.int .i64 (0), Value.int .i64 (0), Value.int .i64 (0)])], [(b2, 39, #[r_0v, Value.int .i64 (r_1), Value.int .i64 (r_2), Value.int .i64 (r_3)])]]) (FL := []) (RL := [[(b14, 39, #[s12, Value.int .i64 (r10.2.1), Value.int .i64 (r10.2.2.1), Value.int .i64 (r10.2.2.2.1)])], [(b4, 30, #[Value.int .i64 (0), U (0#64), U (0#64)])], [(b3, 39, #[Value.slice none 0 0, Value.int .i64 (0), Value.int .i64 (0), Value.int .i64 (0)])], [(b2, 39, #[r_0v, Value.int .i64 (r_1), Value.int .i64 (r_2), Value.int .i64 (r_3)])]]) [] (oR encY ro r22.1 fun s_0 => (oE (Value.agg #[s_0, Value.int .i64 (r22.2.1), Value.int .i64 (r22.2.2.1), Value.int .i64 (r22.2.2.2)]) [])) (some 33) 60 _ rfl rfl rfl rfl rfl (ev_callF rfl call_60 rfl) (fun own_ nw_ hn_ hs_ => DoesI.ro_mono (ro_sans (Ls := [[(b14, 39, #[s12, Value.int .i64 (r10.2.1), Value.int .i64 (r10.2.2.1), Value.int .i64 (r10.2.2.2.1)])], [(b4, 30, #[Value.int .i64 (0), U (0#64), U (0#64)])], [(b3, 39, #[Value.slice none 0 0, Value.int .i64 (0), Value.int .i64 (0), Value.int .i64 (0)])], [(b2, 39, #[r_0v, Value.int .i64 (r_1), Value.int .i64 (r_2), Value.int .i64 (r_3)])]]) (is := []) rfl hs_) (shunterref07_fail_v1_g N r_0 r_1 r_2 r_3 9 r_1 _ hr23 ro r_0v hr_0)) (fun _ _ v_ L_ U_ => ⟨fun h_ => h_ _ hr23, fun h_ => by intro _ e_; cases Option.some.inj (e_.symm.trans hr23); exact h_⟩) (fun h_ => nomatch h_) ?_
          rintro _ _ ⟨s24, hs25, ⟨rfl, rfl⟩⟩
          refine lx_perm (Ls := [[(b14, 39, #[s12, Value.int .i64 (r10.2.1), Value.int .i64 (r10.2.2.1), Value.int .i64 (r10.2.2.2.1)])], [(b4, 30, #[Value.int .i64 (0), U (0#64), U (0#64)])], [(b3, 39, #[Value.slice none 0 0, Value.int .i64 (0), Value.int .i64 (0), Value.int .i64 (0)])], [(b2, 39, #[r_0v, Value.int .i64 (r_1), Value.int .i64 (r_2), Value.int .i64 (r_3)])]]) (Ls' := [[(b14, 39, #[s12, Value.int .i64 (r10.2.1), Value.int .i64 (r10.2.2.1), Value.int .i64 (r10.2.2.2.1)])], [(b4, 30, #[Value.int .i64 (0), U (0#64), U (0#64)])], [(b3, 39, #[Value.slice none 0 0, Value.int .i64 (0), Value.int .i64 (0), Value.int .i64 (0)])], [(b2, 39, #[r_0v, Value.int .i64 (r_1), Value.int .i64 (r_2), Value.int .i64 (r_3)])]]) [0, 1, 2, 3] rfl rfl ?_
          refine r_v (Value.agg #[Value.int .i64 (0), U (0#64), U (0#64)]) rfl rfl rfl (ev_buildS rfl rfl rfl rfl) ?_
          refine r_s [(b14, 39, #[s12, Value.int .i64 (r10.2.1), Value.int .i64 (r10.2.2.1), Value.int .i64 (r10.2.2.2.1)]), (b4, 30, #[Value.int .i64 (0), U (0#64), U (0#64)]), (b3, 39, #[s24, Value.int .i64 (r22.2.1), Value.int .i64 (r22.2.2.1), Value.int .i64 (r22.2.2.2)]), (b2, 39, #[r_0v, Value.int .i64 (r_1), Value.int .i64 (r_2), Value.int .i64 (r_3)])] 2 _ _ _ (#[Value.slice none 0 0, Value.int .i64 (0), Value.int .i64 (0), Value.int .i64 (0)]) (#[s24, Value.int .i64 (r22.2.1), Value.int .i64 (r22.2.2.1), Value.int .i64 (r22.2.2.2)]) (#[s24, Value.int .i64 (r22.2.1), Value.int .i64 (r22.2.2.1), Value.int .i64 (r22.2.2.2)]) rfl rfl rfl rfl (.ofS rfl rfl (all_cons' (Shp.one (Rd.shp hs25)) (all_cons' rfl (all_cons' rfl (all_cons' rfl all_nil'))))) rfl rfl ?_
          refine r_s [(b14, 39, #[s12, Value.int .i64 (r10.2.1), Value.int .i64 (r10.2.2.1), Value.int .i64 (r10.2.2.2.1)]), (b4, 30, #[Value.int .i64 (0), U (0#64), U (0#64)]), (b3, 39, #[s24, Value.int .i64 (r22.2.1), Value.int .i64 (r22.2.2.1), Value.int .i64 (r22.2.2.2)]), (b2, 39, #[r_0v, Value.int .i64 (r_1), Value.int .i64 (r_2), Value.int .i64 (r_3)])] 1 _ _ _ (#[Value.int .i64 (0), U (0#64), U (0#64)]) (#[Value.int .i64 (0), U (0#64), U (0#64)]) (#[Value.int .i64 (0), U (0#64), U (0#64)]) rfl rfl rfl rfl (.of rfl rfl) rfl rfl ?_
          refine lx_nil ?_
          refine hK21 _ _ ?_; try clear hK21 K21
          obtain rfl := Option.some.inj hM
          refine A_ret (fun hn => endsO (v0 := Value.tuple #[Value.agg #[s24, Value.int .i64 (r22.2.1), Value.int .i64 (r22.2.2.1), Value.int .i64 (r22.2.2.2)], Value.agg #[Value.int .i64 (0), U (0#64), U (0#64)]]) (O := []) (by first | exact (res2 (res_cell hn 2 rfl rfl rfl) (res_cell hn 1 rfl rfl rfl)) | (simp only [app_hl]; exact (res2 (res_cell hn 2 rfl rfl rfl) (res_cell hn 1 rfl rfl rfl)))) (Sub.nil _) (by first | exact ⟨s24, hs25, ⟨rfl, rfl⟩⟩ | (simp only [app_hl]; exact ⟨s24, hs25, ⟨rfl, rfl⟩⟩)))
        · replace hM := ifn (Bool.eq_false_iff.1 hc20) hM
          refine A_skip ?_
          refine hK19 _ _ ?_; try clear hK19 K19
          refine A_seq fun K26 hK26 => ?_
          refine A_reg ?_
          refine r_v (Value.int .i64 (r10.2.2.2.2)) rfl rfl rfl rfl ?_
          replace hM := ck_some hM; obtain ⟨ck27, hM⟩ := hM
          refine r_v (Value.int .i64 ((r10.2.2.2.2 + 7))) rfl rfl (wi64 rfl ck27.1 ck27.2) rfl ?_
          replace hM := ck_some hM; obtain ⟨ck28, hM⟩ := hM
          refine r_v (Value.int .i64 (((r10.2.2.2.2 + 7)) / 8)) rfl rfl (quo_i64 ck28.1 (by decide) ck28.2) rfl ?_
          refine r_v (Value.int .i64 (((r10.2.2.2.2 + 7)) / 8)) rfl rfl rfl rfl ?_
          refine lx_nil ?_
          refine hK26 _ _ ?_; try clear hK26 K26
          refine A_seq fun K29 hK29 => ?_
          refine A_seq fun K30 hK30 => ?_
          refine A_reg ?_
          refine r_v (Value.pointer (some ⟨b14, 0, none⟩)) rfl rfl rfl rfl ?_
          refine r_l (s12) 0 _ _ _ _ rfl rfl rfl rfl rfl ?_
          refine r_v (Value.int .i64 (((r10.1).length : Int))) rfl rfl rfl (ev_lenSl rfl rfl rfl (Rd.shp hs13)) ?_
          refine r_v (Value.int .i64 (((r10.2.2.2.2 + 7)) / 8)) rfl rfl rfl rfl ?_
          refine r_v (Value.bool (decide ((((r10.1).length : Int) : Int) < ((r10.2.2.2.2 + 7)) / 8))) rfl rfl rfl rfl ?_
          refine lx_nil ?_
          refine hK30 _ _ ?_; try clear hK30 K30
          refine A_cond (decide ((((r10.1).length : Int) : Int) < ((r10.2.2.2.2 + 7)) / 8)) rfl (fun hc31 => ?_) (fun hc31 => ?_)
          · replace hM := ifp (of_decide_eq_true hc31) hM
            refine A_seq fun K32 hK32 => ?_
            refine A_regC [(some 46, true)] (conG Try.prog [(46, fun _ _ v_ L_ U_ => ∀ u0_, shunterref07_fail_v1_m N r_0 r_1 r_2 r_3 3 r_1 = some u0_ → (pO (List.flatten []) (oR encY ro u0_.1 fun s_0 => (oE (Value.agg #[s_0, Value.int .i64 (u0_.2.1), Value.int .i64 (u0_.2.2.1), Value.int .i64 (u0_.2.2.2)]) []))) v_ L_ U_)]) ?_
            refine r_l (Value.agg #[r_0v, Value.int .i64 (r_1), Value.int .i64 (r_2), Value.int .i64 (r_3)]) 3 _ _ _ _ rfl rfl rfl rfl rfl ?_
            refine r_v (Value.pointer (some ⟨b2, 1, none⟩)) rfl rfl rfl rfl ?_
            refine r_l (Value.int .i64 (r_1)) 3 _ _ _ _ rfl rfl rfl rfl rfl ?_
            replace hM := bind_sm hM; obtain ⟨r33, hr34, hM⟩ := hM
            refine r_gm (Ls := [[(b14, 39, #[s12, Value.int .i64 (r10.2.1), Value.int .i64 (r10.2.2.1), Value.int .i64 (r10.2.2.2.1)])], [(b4, 30, #[Value.int .i64 (0), U (0#64), U (0#64)])], [(b3, 39, #[Value.slice none 0 0, Value.int .i64 (0), Value.int .i64 (0), Value.int .i64 (0)])], [(b2, 39, #[r_0v, Value.int .i64 (r_1), Value.int .i64 (r_2), Value.int .i64 (r_3)])]]) (FL := []) (RL := [[(b14, 39, #[s12, Value.int .i64 (r10.2.1), Value.int .i64 (r10.2.2.1), Value.int .i64 (r10.2.2.2.1)])], [(b4, 30, #[Value.int .i64 (0), U (0#64), U (0#64)])], [(b3, 39, #[Value.slice none 0 0, Value.int .i64 (0), Value.int .i64 (0), Value.int .i64 (0)])], [(b2, 39, #[r_0v, Value.int .i64 (r_1), Value.int .i64 (r_2), Value.int .i64 (r_3)])]]) [] (oR encY ro r33.1 fun s_0 => (oE (Value.agg #[s_0, Value.int .i64 (r33.2.1), Value.int .i64 (r33.2.2.1), Value.int .i64 (r33.2.2.2)]) [])) (some 46) 60 _ rfl rfl rfl rfl rfl (ev_callF rfl call_60 rfl) (fun own_ nw_ hn_ hs_ => DoesI.ro_mono (ro_sans (Ls := [[(b14, 39, #[s12, Value.int .i64 (r10.2.1), Value.int .i64 (r10.2.2.1), Value.int .i64 (r10.2.2.2.1)])], [(b4, 30, #[Value.int .i64 (0), U (0#64), U (0#64)])], [(b3, 39, #[Value.slice none 0 0, Value.int .i64 (0), Value.int .i64 (0), Value.int .i64 (0)])], [(b2, 39, #[r_0v, Value.int .i64 (r_1), Value.int .i64 (r_2), Value.int .i64 (r_3)])]]) (is := []) rfl hs_) (shunterref07_fail_v1_g N r_0 r_1 r_2 r_3 3 r_1 _ hr34 ro r_0v hr_0)) (fun _ _ v_ L_ U_ => ⟨fun h_ => h_ _ hr34, fun h_ => by intro _ e_; cases Option.some.inj (e_.symm.trans hr34); exact h_⟩) (fun h_ => nomatch h_) ?_
            rintro _ _ ⟨s35, hs36, ⟨rfl, rfl⟩⟩
            refine lx_perm (Ls := [[(b14, 39, #[s12, Value.int .i64 (r10.2.1), Value.int .i64 (r10.2.2.1), Value.int .i64 (r10.2.2.2.1)])], [(b4, 30, #[Value.int .i64 (0), U (0#64), U (0#64)])], [(b3, 39, #[Value.slice none 0 0, Value.int .i64 (0), Value.int .i64 (0), Value.int .i64 (0)])], [(b2, 39, #[r_0v, Value.int .i64 (r_1), Value.int .i64 (r_2), Value.int .i64 (r_3)])]]) (Ls' := [[(b14, 39, #[s12, Value.int .i64 (r10.2.1), Value.int .i64 (r10.2.2.1), Value.int .i64 (r10.2.2.2.1)])], [(b4, 30, #[Value.int .i64 (0), U (0#64), U (0#64)])], [(b3, 39, #[Value.slice none 0 0, Value.int .i64 (0), Value.int .i64 (0), Value.int .i64 (0)])], [(b2, 39, #[r_0v, Value.int .i64 (r_1), Value.int .i64 (r_2), Value.int .i64 (r_3)])]]) [0, 1, 2, 3] rfl rfl ?_
            refine r_v (Value.agg #[Value.int .i64 (0), U (0#64), U (0#64)]) rfl rfl rfl (ev_buildS rfl rfl rfl rfl) ?_
            refine r_s [(b14, 39, #[s12, Value.int .i64 (r10.2.1), Value.int .i64 (r10.2.2.1), Value.int .i64 (r10.2.2.2.1)]), (b4, 30, #[Value.int .i64 (0), U (0#64), U (0#64)]), (b3, 39, #[s35, Value.int .i64 (r33.2.1), Value.int .i64 (r33.2.2.1), Value.int .i64 (r33.2.2.2)]), (b2, 39, #[r_0v, Value.int .i64 (r_1), Value.int .i64 (r_2), Value.int .i64 (r_3)])] 2 _ _ _ (#[Value.slice none 0 0, Value.int .i64 (0), Value.int .i64 (0), Value.int .i64 (0)]) (#[s35, Value.int .i64 (r33.2.1), Value.int .i64 (r33.2.2.1), Value.int .i64 (r33.2.2.2)]) (#[s35, Value.int .i64 (r33.2.1), Value.int .i64 (r33.2.2.1), Value.int .i64 (r33.2.2.2)]) rfl rfl rfl rfl (.ofS rfl rfl (all_cons' (Shp.one (Rd.shp hs36)) (all_cons' rfl (all_cons' rfl (all_cons' rfl all_nil'))))) rfl rfl ?_
            refine r_s [(b14, 39, #[s12, Value.int .i64 (r10.2.1), Value.int .i64 (r10.2.2.1), Value.int .i64 (r10.2.2.2.1)]), (b4, 30, #[Value.int .i64 (0), U (0#64), U (0#64)]), (b3, 39, #[s35, Value.int .i64 (r33.2.1), Value.int .i64 (r33.2.2.1), Value.int .i64 (r33.2.2.2)]), (b2, 39, #[r_0v, Value.int .i64 (r_1), Value.int .i64 (r_2), Value.int .i64 (r_3)])] 1 _ _ _ (#[Value.int .i64 (0), U (0#64), U (0#64)]) (#[Value.int .i64 (0), U (0#64), U (0#64)]) (#[Value.int .i64 (0), U (0#64), U (0#64)]) rfl rfl rfl rfl (.of rfl rfl) rfl rfl ?_
            refine lx_nil ?_
            refine hK32 _ _ ?_; try clear hK32 K32
            obtain rfl := Option.some.inj hM
            refine A_ret (fun hn => endsO (v0 := Value.tuple #[Value.agg #[s35, Value.int .i64 (r33.2.1), Value.int .i64 (r33.2.2.1), Value.int .i64 (r33.2.2.2)], Value.agg #[Value.int .i64 (0), U (0#64), U (0#64)]]) (O := []) (by first | exact (res2 (res_cell hn 2 rfl rfl rfl) (res_cell hn 1 rfl rfl rfl)) | (simp only [app_hl]; exact (res2 (res_cell hn 2 rfl rfl rfl) (res_cell hn 1 rfl rfl rfl)))) (Sub.nil _) (by first | exact ⟨s35, hs36, ⟨rfl, rfl⟩⟩ | (simp only [app_hl]; exact ⟨s35, hs36, ⟨rfl, rfl⟩⟩)))
          · replace hM := ifn (of_decide_eq_false hc31) hM
            refine A_skip ?_
            refine hK29 _ _ ?_; try clear hK29 K29
            refine A_seq fun K37 hK37 => ?_
            refine A_regC [(some 52, false)] (conG Try.prog [(52, fun _ _ v_ L_ U_ => ∀ u0_, shunterref03_Bits_m N (((r10.1).take ((((r10.2.2.2.2 + 7)) / 8).toNat)).drop (0)) = some u0_ → (p1 (fun s_ => s_) 4 encB (u0_)) v_ L_ U_)]) ?_
            refine r_v (Value.pointer (some ⟨b14, 0, none⟩)) rfl rfl rfl rfl ?_
            refine r_l (s12) 0 _ _ _ _ rfl rfl rfl rfl rfl ?_
            refine r_v (Value.int .i64 (((r10.2.2.2.2 + 7)) / 8)) rfl rfl rfl rfl ?_
            replace hM := ck_some hM; obtain ⟨ck38, hM⟩ := hM
            refine r_v (subA s12 (0) ((((r10.2.2.2.2 + 7)) / 8).toNat) 1) rfl rfl rfl (ev_v (ev_subSl2 rfl rfl rfl rfl (Rd.shp hs13) ck38)) ?_
            replace hM := bind_sm hM; obtain ⟨r39, hr40, hM⟩ := hM
            refine r_g1 (Ls := [[(b14, 39, #[s12, Value.int .i64 (r10.2.1), Value.int .i64 (r10.2.2.1), Value.int .i64 (r10.2.2.2.1)])], [(b4, 30, #[Value.int .i64 (0), U (0#64), U (0#64)])], [(b3, 39, #[Value.slice none 0 0, Value.int .i64 (0), Value.int .i64 (0), Value.int .i64 (0)])], [(b2, 39, #[r_0v, Value.int .i64 (r_1), Value.int .i64 (r_2), Value.int .i64 (r_3)])]]) (fun s41 => s41) 4 encB (r39) 62 _ rfl rfl rfl (ev_callF rfl call_62 rfl) (fun own_ nw_ hs_ => shunterref03_Bits_g N (((r10.1).take ((((r10.2.2.2.2 + 7)) / 8).toNat)).drop (0)) _ hr40 hs_.view (subA s12 (0) ((((r10.2.2.2.2 + 7)) / 8).toNat) 1) ((rd_sub (rd_ro hs13) (Nat.zero_le _) (toNat_len ck38.2)) own_ nw_ hs_)) (fun _ _ v_ L_ U_ => ⟨fun h_ => h_ _ hr40, fun h_ => by intro _ e_; cases Option.some.inj (e_.symm.trans hr40); exact h_⟩) (fun s41 S42 H43 => ?_)
            refine r_v (s41) rfl rfl rfl rfl ?_
            refine lx_nil ?_
            refine hK37 _ _ ?_; try clear hK37 K37
            refine A_seq fun K44 hK44 => ?_
            refine A_seq fun K45 hK45 => ?_
            refine A_reg ?_
            refine r_v (Value.int .i64 (0)) rfl rfl rfl rfl ?_
            refine lx_nil ?_
            refine hK45 _ _ ?_; try clear hK45 K45
            refine A_block ?_
            refine A_forget _ (Sub.pick [[(b14, 39, #[s12, Value.int .i64 (r10.2.1), Value.int .i64 (r10.2.2.1), Value.int .i64 (r10.2.2.2.1)])], [(b4, 30, #[Value.int .i64 (0), U (0#64), U (0#64)])], [(b3, 39, #[Value.slice none 0 0, Value.int .i64 (0), Value.int .i64 (0), Value.int .i64 (0)])], [(b2, 39, #[r_0v, Value.int .i64 (r_1), Value.int .i64 (r_2), Value.int .i64 (r_3)])], S42] [0, 1, 2, 3, 4] rfl) ?_
            refine A_loop (fun tt ll nn => ∃ (n46 : Nat) (i3_ : Int), (shunterref07_TakeVec_v1_l4 N r_0 r_1 r_2 r_3 r10 r39 n46 i3_ = some r) ∧ Is [(1, Value.pointer (some ⟨b2, 0, none⟩)), (2, Value.pointer (some ⟨b3, 0, none⟩)), (3, Value.pointer (some ⟨b4, 0, none⟩)), (4, Value.pointer (some ⟨b14, 0, none⟩)), (5, Value.int .i64 (r10.2.2.2.2)), (6, Value.int .i64 (((r10.2.2.2.2 + 7)) / 8)), (7, s41), (8, Value.int .i64 (i3_))] (List.flatten [[(b14, 39, #[s12, Value.int .i64 (r10.2.1), Value.int .i64 (r10.2.2.1), Value.int .i64 (r10.2.2.2.1)])], [(b4, 30, #[Value.int .i64 (0), U (0#64), U (0#64)])], [(b3, 39, #[Value.slice none 0 0, Value.int .i64 (0), Value.int .i64 (0), Value.int .i64 (0)])], [(b2, 39, #[r_0v, Value.int .i64 (r_1), Value.int .i64 (r_2), Value.int .i64 (r_3)])], S42]) tt ll ∧ nn = n46 + 1) (N + 1) ?_ ?_
            · exact ⟨N, 0, hM, is_mk rfl (by first | rfl | simp only [app_hl]), rfl⟩
            · clear hM; rintro t l _ ⟨n46, i3_, hM, ⟨⟨T, rfl⟩, rfl⟩, rfl⟩
              rcases n46 with _ | n46
              · exact absurd hM (by simp [shunterref07_TakeVec_v1_l4])
              rw [shunterref07_TakeVec_v1_l4] at hM
              refine A_seq fun K47 hK47 => ?_
              refine A_seq fun K48 hK48 => ?_
              refine A_reg ?_
              refine r_v (Value.int .i64 (i3_)) rfl rfl rfl rfl ?_
              refine r_v (s41) rfl rfl rfl rfl ?_
              refine r_v (Value.int .i64 (((r39).length : Int))) rfl rfl rfl (ev_lenSl rfl rfl rfl (Sl.shp H43)) ?_
              refine r_v (Value.int .i64 (r10.2.2.2.2)) rfl rfl rfl rfl ?_
              replace hM := ck_some hM; obtain ⟨ck49, hM⟩ := hM
              refine r_v (Value.int .i64 ((((r39).length : Int) - r10.2.2.2.2))) rfl rfl (wi64 rfl ck49.1 ck49.2) rfl ?_
              refine r_v (Value.bool (decide ((i3_ : Int) < (((r39).length : Int) - r10.2.2.2.2)))) rfl rfl rfl rfl ?_
              refine lx_nil ?_
              refine hK48 _ _ ?_; try clear hK48 K48
              refine A_cond (decide ((i3_ : Int) < (((r39).length : Int) - r10.2.2.2.2))) rfl (fun hc50 => ?_) (fun hc50 => ?_)
              · replace hM := ifp (of_decide_eq_true hc50) hM
                refine A_skip ?_
                refine hK47 _ _ ?_; try clear hK47 K47
                refine A_seq fun K51 hK51 => ?_
                refine A_block ?_
                refine A_seq fun K52 hK52 => ?_
                refine A_reg ?_
                refine r_v (s41) rfl rfl rfl rfl ?_
                refine r_v (Value.int .i64 (i3_)) rfl rfl rfl rfl ?_
                replace hM := ck_some hM; obtain ⟨ck53, hM⟩ := hM
                refine r_v (elA s41 ((i3_).toNat * 1)) rfl rfl rfl (ev_v (ev_idxSl rfl rfl rfl (Sl.shp H43) ck53)) ?_
                refine r_le (Value.bool ((r39)[(i3_).toNat]!)) (En := encB) ((r39)[(i3_).toNat]!) ((i3_).toNat) 0 rfl rfl (rd_own H43 (mem_chunk (Ls := [[(b14, 39, #[s12, Value.int .i64 (r10.2.1), Value.int .i64 (r10.2.2.1), Value.int .i64 (r10.2.2.2.1)])], [(b4, 30, #[Value.int .i64 (0), U (0#64), U (0#64)])], [(b3, 39, #[Value.slice none 0 0, Value.int .i64 (0), Value.int .i64 (0), Value.int .i64 (0)])], [(b2, 39, #[r_0v, Value.int .i64 (r_1), Value.int .i64 (r_2), Value.int .i64 (r_3)])], S42]) (k := 4) rfl rfl)) (get_of ck53) rfl ?_
                refine lx_nil ?_
                refine hK52 _ _ ?_; try clear hK52 K52
                refine A_cond ((r39)[(i3_).toNat]!) rfl (fun hc54 => ?_) (fun hc54 => ?_)
                · replace hM := ifp hc54 hM
                  refine A_seq fun K55 hK55 => ?_
                  refine A_regC [(some 68, true)] (conG Try.prog [(68, fun _ _ v_ L_ U_ => ∀ u0_, shunterref07_fail_v1_m N r_0 r_1 r_2 r_3 4 r_1 = some u0_ → (pO (List.flatten []) (oR encY ro u0_.1 fun s_0 => (oE (Value.agg #[s_0, Value.int .i64 (u0_.2.1), Value.int .i64 (u0_.2.2.1), Value.int .i64 (u0_.2.2.2)]) []))) v_ L_ U_)]) ?_
                  refine r_l (Value.agg #[r_0v, Value.int .i64 (r_1), Value.int .i64 (r_2), Value.int .i64 (r_3)]) 3 _ _ _ _ rfl rfl rfl rfl rfl ?_
                  refine r_v (Value.pointer (some ⟨b2, 1, none⟩)) rfl rfl rfl rfl ?_
                  refine r_l (Value.int .i64 (r_1)) 3 _ _ _ _ rfl rfl rfl rfl rfl ?_
                  replace hM := bind_sm hM; obtain ⟨r56, hr57, hM⟩ := hM
                  refine r_gm (Ls := [[(b14, 39, #[s12, Value.int .i64 (r10.2.1), Value.int .i64 (r10.2.2.1), Value.int .i64 (r10.2.2.2.1)])], [(b4, 30, #[Value.int .i64 (0), U (0#64), U (0#64)])], [(b3, 39, #[Value.slice none 0 0, Value.int .i64 (0), Value.int .i64 (0), Value.int .i64 (0)])], [(b2, 39, #[r_0v, Value.int .i64 (r_1), Value.int .i64 (r_2), Value.int .i64 (r_3)])], S42]) (FL := []) (RL := [[(b14, 39, #[s12, Value.int .i64 (r10.2.1), Value.int .i64 (r10.2.2.1), Value.int .i64 (r10.2.2.2.1)])], [(b4, 30, #[Value.int .i64 (0), U (0#64), U (0#64)])], [(b3, 39, #[Value.slice none 0 0, Value.int .i64 (0), Value.int .i64 (0), Value.int .i64 (0)])], [(b2, 39, #[r_0v, Value.int .i64 (r_1), Value.int .i64 (r_2), Value.int .i64 (r_3)])], S42]) [] (oR encY ro r56.1 fun s_0 => (oE (Value.agg #[s_0, Value.int .i64 (r56.2.1), Value.int .i64 (r56.2.2.1), Value.int .i64 (r56.2.2.2)]) [])) (some 68) 60 _ rfl rfl rfl rfl rfl (ev_callF rfl call_60 rfl) (fun own_ nw_ hn_ hs_ => DoesI.ro_mono (ro_sans (Ls := [[(b14, 39, #[s12, Value.int .i64 (r10.2.1), Value.int .i64 (r10.2.2.1), Value.int .i64 (r10.2.2.2.1)])], [(b4, 30, #[Value.int .i64 (0), U (0#64), U (0#64)])], [(b3, 39, #[Value.slice none 0 0, Value.int .i64 (0), Value.int .i64 (0), Value.int .i64 (0)])], [(b2, 39, #[r_0v, Value.int .i64 (r_1), Value.int .i64 (r_2), Value.int .i64 (r_3)])], S42]) (is := []) rfl hs_) (shunterref07_fail_v1_g N r_0 r_1 r_2 r_3 4 r_1 _ hr57 ro r_0v hr_0)) (fun _ _ v_ L_ U_ => ⟨fun h_ => h_ _ hr57, fun h_ => by intro _ e_; cases Option.some.inj (e_.symm.trans hr57); exact h_⟩) (fun h_ => nomatch h_) ?_
                  rintro _ _ ⟨s58, hs59, ⟨rfl, rfl⟩⟩
                  refine lx_perm (Ls := [[(b14, 39, #[s12, Value.int .i64 (r10.2.1), Value.int .i64 (r10.2.2.1), Value.int .i64 (r10.2.2.2.1)])], [(b4, 30, #[Value.int .i64 (0), U (0#64), U (0#64)])], [(b3, 39, #[Value.slice none 0 0, Value.int .i64 (0), Value.int .i64 (0), Value.int .i64 (0)])], [(b2, 39, #[r_0v, Value.int .i64 (r_1), Value.int .i64 (r_2), Value.int .i64 (r_3)])], S42]) (Ls' := [[(b14, 39, #[s12, Value.int .i64 (r10.2.1), Value.int .i64 (r10.2.2.1), Value.int .i64 (r10.2.2.2.1)])], [(b4, 30, #[Value.int .i64 (0), U (0#64), U (0#64)])], [(b3, 39, #[Value.slice none 0 0, Value.int .i64 (0), Value.int .i64 (0), Value.int .i64 (0)])], [(b2, 39, #[r_0v, Value.int .i64 (r_1), Value.int .i64 (r_2), Value.int .i64 (r_3)])], S42]) [0, 1, 2, 3, 4] rfl rfl ?_
                  refine r_v (Value.agg #[Value.int .i64 (0), U (0#64), U (0#64)]) rfl rfl rfl (ev_buildS rfl rfl rfl rfl) ?_
                  refine r_s (List.flatten [[(b14, 39, #[s12, Value.int .i64 (r10.2.1), Value.int .i64 (r10.2.2.1), Value.int .i64 (r10.2.2.2.1)])], [(b4, 30, #[Value.int .i64 (0), U (0#64), U (0#64)])], [(b3, 39, #[s58, Value.int .i64 (r56.2.1), Value.int .i64 (r56.2.2.1), Value.int .i64 (r56.2.2.2)])], [(b2, 39, #[r_0v, Value.int .i64 (r_1), Value.int .i64 (r_2), Value.int .i64 (r_3)])], S42]) 2 _ _ _ (#[Value.slice none 0 0, Value.int .i64 (0), Value.int .i64 (0), Value.int .i64 (0)]) (#[s58, Value.int .i64 (r56.2.1), Value.int .i64 (r56.2.2.1), Value.int .i64 (r56.2.2.2)]) (#[s58, Value.int .i64 (r56.2.1), Value.int .i64 (r56.2.2.1), Value.int .i64 (r56.2.2.2)]) rfl rfl rfl rfl (.ofS rfl rfl (all_cons' (Shp.one (Rd.shp hs59)) (all_cons' rfl (all_cons' rfl (all_cons' rfl all_nil'))))) rfl rfl ?_
                  refine r_s (List.flatten [[(b14, 39, #[s12, Value.int .i64 (r10.2.1), Value.int .i64 (r10.2.2.1), Value.int .i64 (r10.2.2.2.1)])], [(b4, 30, #[Value.int .i64 (0), U (0#64), U (0#64)])], [(b3, 39, #[s58, Value.int .i64 (r56.2.1), Value.int .i64 (r56.2.2.1), Value.int .i64 (r56.2.2.2)])], [(b2, 39, #[r_0v, Value.int .i64 (r_1), Value.int .i64 (r_2), Value.int .i64 (r_3)])], S42]) 1 _ _ _ (#[Value.int .i64 (0), U (0#64), U (0#64)]) (#[Value.int .i64 (0), U (0#64), U (0#64)]) (#[Value.int .i64 (0), U (0#64), U (0#64)]) rfl rfl rfl rfl (.of rfl rfl) rfl rfl ?_
                  refine lx_nil ?_
                  refine hK55 _ _ ?_; try clear hK55 K55
                  obtain rfl := Option.some.inj hM
                  refine A_ret (fun hn => endsO (v0 := Value.tuple #[Value.agg #[s58, Value.int .i64 (r56.2.1), Value.int .i64 (r56.2.2.1), Value.int .i64 (r56.2.2.2)], Value.agg #[Value.int .i64 (0), U (0#64), U (0#64)]]) (O := []) (by first | exact (res2 (res_cell hn 2 rfl rfl rfl) (res_cell hn 1 rfl rfl rfl)) | (simp only [app_hl]; exact (res2 (res_cell hn 2 rfl rfl rfl) (res_cell hn 1 rfl rfl rfl)))) (Sub.nil _) (by first | exact ⟨s58, hs59, ⟨rfl, rfl⟩⟩ | (simp only [app_hl]; exact ⟨s58, hs59, ⟨rfl, rfl⟩⟩)))
                · replace hM := ifn (Bool.eq_false_iff.1 hc54) hM
                  refine A_skip ?_
                  refine hK51 _ _ ?_; try clear hK51 K51
                  refine A_reg ?_
                  refine r_v (Value.int .i64 (i3_)) rfl rfl rfl rfl ?_
                  replace hM := ck_some hM; obtain ⟨ck60, hM⟩ := hM
                  refine r_v (Value.int .i64 ((i3_ + 1))) rfl rfl (wi64 rfl ck60.1 ck60.2) rfl ?_
                  refine r_v (Value.int .i64 ((i3_ + 1))) rfl rfl rfl rfl ?_
                  refine lx_nil ?_
                  refine fg _ (Sub.pick [[(b14, 39, #[s12, Value.int .i64 (r10.2.1), Value.int .i64 (r10.2.2.1), Value.int .i64 (r10.2.2.2.1)])], [(b4, 30, #[Value.int .i64 (0), U (0#64), U (0#64)])], [(b3, 39, #[Value.slice none 0 0, Value.int .i64 (0), Value.int .i64 (0), Value.int .i64 (0)])], [(b2, 39, #[r_0v, Value.int .i64 (r_1), Value.int .i64 (r_2), Value.int .i64 (r_3)])], S42] [0, 1, 2, 3, 4] rfl) ?_
                  exact ⟨n46 + 1, by omega, n46, (i3_ + 1), hM, is_mk rfl (by first | rfl | simp only [app_hl]), rfl⟩
              · replace hM := ifn (of_decide_eq_false hc50) hM
                refine A_exit ?_
                refine hK44 _ _ ?_; try clear hK44 K44
                refine A_seq fun K61 hK61 => ?_
                refine A_reg ?_
                refine r_v (Value.pointer (some ⟨b14, 0, none⟩)) rfl rfl rfl rfl ?_
                refine r_l (s12) 0 _ _ _ _ rfl rfl rfl rfl rfl ?_
                refine r_v (Value.int .i64 (((r10.2.2.2.2 + 7)) / 8)) rfl rfl rfl rfl ?_
                replace hM := ck_some hM; obtain ⟨ck62, hM⟩ := hM
                refine r_v (subA s12 ((((r10.2.2.2.2 + 7)) / 8).toNat) ((r10.1).length) 1) rfl rfl rfl (ev_v (ev_subSl1 rfl rfl rfl rfl (Rd.shp hs13) ck62)) ?_
                refine r_v (Value.pointer (some ⟨b14, 0, none⟩)) rfl rfl rfl rfl ?_
                refine r_s (List.flatten [[(b14, 39, #[subA s12 ((((r10.2.2.2.2 + 7)) / 8).toNat) ((r10.1).length) 1, Value.int .i64 (r10.2.1), Value.int .i64 (r10.2.2.1), Value.int .i64 (r10.2.2.2.1)])], [(b4, 30, #[Value.int .i64 (0), U (0#64), U (0#64)])], [(b3, 39, #[Value.slice none 0 0, Value.int .i64 (0), Value.int .i64 (0), Value.int .i64 (0)])], [(b2, 39, #[r_0v, Value.int .i64 (r_1), Value.int .i64 (r_2), Value.int .i64 (r_3)])], S42]) 0 _ _ _ (#[s12, Value.int .i64 (r10.2.1), Value.int .i64 (r10.2.2.1), Value.int .i64 (r10.2.2.2.1)]) (#[subA s12 ((((r10.2.2.2.2 + 7)) / 8).toNat) ((r10.1).length) 1]) (#[subA s12 ((((r10.2.2.2.2 + 7)) / 8).toNat) ((r10.1).length) 1, Value.int .i64 (r10.2.1), Value.int .i64 (r10.2.2.1), Value.int .i64 (r10.2.2.2.1)]) rfl rfl rfl (cells_sl rfl (shp_len (Shp.sub (Rd.shp hs13) (toNat_len ck62.2) (Nat.le_refl _)) (len_td (Nat.le_refl _)))) (.ofS rfl rfl (all_cons' (Shp.one (shp_len (Shp.sub (Rd.shp hs13) (toNat_len ck62.2) (Nat.le_refl _)) (len_td (Nat.le_refl _)))) all_nil')) rfl rfl ?_
                refine lx_nil ?_
                refine hK61 _ _ ?_; try clear hK61 K61
                refine A_seq fun K63 hK63 => ?_
                refine A_reg ?_
                refine r_v (Value.pointer (some ⟨b14, 1, none⟩)) rfl rfl rfl rfl ?_
                refine r_l (Value.int .i64 (r10.2.1)) 0 _ _ _ _ rfl rfl rfl rfl rfl ?_
                refine r_v (Value.int .i64 (((r10.2.2.2.2 + 7)) / 8)) rfl rfl rfl rfl ?_
                replace hM := ck_some hM; obtain ⟨ck64, hM⟩ := hM
                refine r_v (Value.int .i64 ((r10.2.1 + ((r10.2.2.2.2 + 7)) / 8))) rfl rfl (wi64 rfl ck64.1 ck64.2) rfl ?_
                refine r_v (Value.pointer (some ⟨b14, 1, none⟩)) rfl rfl rfl rfl ?_
                refine r_s (List.flatten [[(b14, 39, #[subA s12 ((((r10.2.2.2.2 + 7)) / 8).toNat) ((r10.1).length) 1, Value.int .i64 ((r10.2.1 + ((r10.2.2.2.2 + 7)) / 8)), Value.int .i64 (r10.2.2.1), Value.int .i64 (r10.2.2.2.1)])], [(b4, 30, #[Value.int .i64 (0), U (0#64), U (0#64)])], [(b3, 39, #[Value.slice none 0 0, Value.int .i64 (0), Value.int .i64 (0), Value.int .i64 (0)])], [(b2, 39, #[r_0v, Value.int .i64 (r_1), Value.int .i64 (r_2), Value.int .i64 (r_3)])], S42]) 0 _ _ _ (#[subA s12 ((((r10.2.2.2.2 + 7)) / 8).toNat) ((r10.1).length) 1, Value.int .i64 (r10.2.1), Value.int .i64 (r10.2.2.1), Value.int .i64 (r10.2.2.2.1)]) (#[Value.int .i64 ((r10.2.1 + ((r10.2.2.2.2 + 7)) / 8))]) (#[subA s12 ((((r10.2.2.2.2 + 7)) / 8).toNat) ((r10.1).length) 1, Value.int .i64 ((r10.2.1 + ((r10.2.2.2.2 + 7)) / 8)), Value.int .i64 (r10.2.2.1), Value.int .i64 (r10.2.2.2.1)]) rfl rfl rfl rfl (.of rfl rfl) rfl rfl ?_
                refine lx_nil ?_
                refine hK63 _ _ ?_; try clear hK63 K63
                refine A_seq fun K65 hK65 => ?_
                refine A_drawR [(some 87, false)] (conG Try.prog [(87, fun _ _ v_ L_ U_ => ∀ u0_, shunterref03_Vec_m N (((r39).take ((r39).length)).drop (((((r39).length : Int) - r10.2.2.2.2)).toNat)) = some u0_ → (pV (Value.agg #[Value.int .i64 (u0_.1), U (hi (u0_.2)), U (lo (u0_.2))])) v_ L_ U_)]) [] (by decide +kernel) (fun hn => sep_nil) ?_
                refine r_l (Value.agg #[subA s12 ((((r10.2.2.2.2 + 7)) / 8).toNat) ((r10.1).length) 1, Value.int .i64 ((r10.2.1 + ((r10.2.2.2.2 + 7)) / 8)), Value.int .i64 (r10.2.2.1), Value.int .i64 (r10.2.2.2.1)]) 0 _ _ _ _ rfl rfl rfl rfl rfl ?_
                refine r_v (s41) rfl rfl rfl rfl ?_
                refine r_v (s41) rfl rfl rfl rfl ?_
                refine r_v (Value.int .i64 (((r39).length : Int))) rfl rfl rfl (ev_lenSl rfl rfl rfl (Sl.shp H43)) ?_
                refine r_v (Value.int .i64 (r10.2.2.2.2)) rfl rfl rfl rfl ?_
                replace hM := ck_some hM; obtain ⟨ck66, hM⟩ := hM
                refine r_v (Value.int .i64 ((((r39).length : Int) - r10.2.2.2.2))) rfl rfl (wi64 rfl ck66.1 ck66.2) rfl ?_
                replace hM := ck_some hM; obtain ⟨ck67, hM⟩ := hM
                refine r_v (subA s41 (((((r39).length : Int) - r10.2.2.2.2)).toNat) ((r39).length) 1) rfl rfl rfl (ev_v (ev_subSl1 rfl rfl rfl rfl (Sl.shp H43) ck67)) ?_
                replace hM := bind_sm hM; obtain ⟨r68, hr69, hM⟩ := hM
                refine r_gv (Value.agg #[Value.int .i64 (r68.1), U (hi (r68.2)), U (lo (r68.2))]) 61 _ rfl rfl rfl (ev_callF rfl call_61 rfl) (fun own_ nw_ hs_ => shunterref03_Vec_g N (((r39).take ((r39).length)).drop (((((r39).length : Int) - r10.2.2.2.2)).toNat)) _ hr69 hs_.view (subA s41 (((((r39).length : Int) - r10.2.2.2.2)).toNat) ((r39).length) 1) ((rd_sub (rd_own H43 (mem_chunk (Ls := [[(b14, 39, #[subA s12 ((((r10.2.2.2.2 + 7)) / 8).toNat) ((r10.1).length) 1, Value.int .i64 ((r10.2.1 + ((r10.2.2.2.2 + 7)) / 8)), Value.int .i64 (r10.2.2.1), Value.int .i64 (r10.2.2.2.1)])], [(b4, 30, #[Value.int .i64 (0), U (0#64), U (0#64)])], [(b3, 39, #[Value.slice none 0 0, Value.int .i64 (0), Value.int .i64 (0), Value.int .i64 (0)])], [(b2, 39, #[r_0v, Value.int .i64 (r_1), Value.int .i64 (r_2), Value.int .i64 (r_3)])], S42]) (k := 4) rfl rfl)) (toNat_len ck67.2) (Nat.le_refl _)) own_ nw_ hs_)) (fun _ _ v_ L_ U_ => ⟨fun h_ => h_ _ hr69, fun h_ => by intro _ e_; cases Option.some.inj (e_.symm.trans hr69); exact h_⟩) ?_
                refine r_s (List.flatten [[(b14, 39, #[subA s12 ((((r10.2.2.2.2 + 7)) / 8).toNat) ((r10.1).length) 1, Value.int .i64 ((r10.2.1 + ((r10.2.2.2.2 + 7)) / 8)), Value.int .i64 (r10.2.2.1), Value.int .i64 (r10.2.2.2.1)])], [(b4, 30, #[Value.int .i64 (0), U (0#64), U (0#64)])], [(b3, 39, #[subA s12 ((((r10.2.2.2.2 + 7)) / 8).toNat) ((r10.1).length) 1, Value.int .i64 ((r10.2.1 + ((r10.2.2.2.2 + 7)) / 8)), Value.int .i64 (r10.2.2.1), Value.int .i64 (r10.2.2.2.1)])], [(b2, 39, #[r_0v, Value.int .i64 (r_1), Value.int .i64 (r_2), Value.int .i64 (r_3)])], S42]) 2 _ _ _ (#[Value.slice none 0 0, Value.int .i64 (0), Value.int .i64 (0), Value.int .i64 (0)]) (#[subA s12 ((((r10.2.2.2.2 + 7)) / 8).toNat) ((r10.1).length) 1, Value.int .i64 ((r10.2.1 + ((r10.2.2.2.2 + 7)) / 8)), Value.int .i64 (r10.2.2.1), Value.int .i64 (r10.2.2.2.1)]) (#[subA s12 ((((r10.2.2.2.2 + 7)) / 8).toNat) ((r10.1).length) 1, Value.int .i64 ((r10.2.1 + ((r10.2.2.2.2 + 7)) / 8)), Value.int .i64 (r10.2.2.1), Value.int .i64 (r10.2.2.2.1)]) rfl rfl rfl rfl (.ofS rfl rfl (all_cons' (Shp.one (shp_len (Shp.sub (Rd.shp hs13) (toNat_len ck62.2) (Nat.le_refl _)) (len_td (Nat.le_refl _)))) (all_cons' rfl (all_cons' rfl (all_cons' rfl all_nil'))))) rfl rfl ?_
                refine r_s (List.flatten [[(b14, 39, #[subA s12 ((((r10.2.2.2.2 + 7)) / 8).toNat) ((r10.1).length) 1, Value.int .i64 ((r10.2.1 + ((r10.2.2.2.2 + 7)) / 8)), Value.int .i64 (r10.2.2.1), Value.int .i64 (r10.2.2.2.1)])], [(b4, 30, #[Value.int .i64 (r68.1), U (hi (r68.2)), U (lo (r68.2))])], [(b3, 39, #[subA s12 ((((r10.2.2.2.2 + 7)) / 8).toNat) ((r10.1).length) 1, Value.int .i64 ((r10.2.1 + ((r10.2.2.2.2 + 7)) / 8)), Value.int .i64 (r10.2.2.1), Value.int .i64 (r10.2.2.2.1)])], [(b2, 39, #[r_0v, Value.int .i64 (r_1), Value.int .i64 (r_2), Value.int .i64 (r_3)])], S42]) 1 _ _ _ (#[Value.int .i64 (0), U (0#64), U (0#64)]) (#[Value.int .i64 (r68.1), U (hi (r68.2)), U (lo (r68.2))]) (#[Value.int .i64 (r68.1), U (hi (r68.2)), U (lo (r68.2))]) rfl rfl rfl rfl (.of rfl rfl) rfl rfl ?_
                refine lx_nil ?_
                refine hK65 _ _ ?_; try clear hK65 K65
                refine A_gen [(2, Value.pointer (some ⟨b3, 0, none⟩)), (3, Value.pointer (some ⟨b4, 0, none⟩))] rfl (fun T => ?_)
                obtain rfl := Option.some.inj hM
                refine A_ret (fun hn => endsO (v0 := Value.tuple #[Value.agg #[subA s12 ((((r10.2.2.2.2 + 7)) / 8).toNat) ((r10.1).length) 1, Value.int .i64 ((r10.2.1 + ((r10.2.2.2.2 + 7)) / 8)), Value.int .i64 (r10.2.2.1), Value.int .i64 (r10.2.2.2.1)], Value.agg #[Value.int .i64 (r68.1), U (hi (r68.2)), U (lo (r68.2))]]) (O := []) (res2 (res_cell hn 2 rfl rfl rfl) (res_cell hn 1 rfl rfl rfl)) (Sub.nil _) ⟨subA s12 ((((r10.2.2.2.2 + 7)) / 8).toNat) ((r10.1).length) 1, (Rd.sub hs13 (toNat_len ck62.2) (Nat.le_refl _)), ⟨rfl, rfl⟩⟩)
def name_within_m (_ : Nat) (c : Int) (first : Int) (last : Int) : Option (Bool) := if (c : Int) ≥ first then some (decide ((c : Int) ≤ last)) else some (false)
set_option maxRecDepth 100000 in
set_option maxHeartbeats 8000000 in
theorem name_within_g (N : Nat) (c : Int) (first : Int) (last : Int) (r : Bool) (hM : name_within_m N c first last = some r) : Gives Try.prog 91 #[Value.int .i32 (c), Value.int .i32 (first), Value.int .i32 (last)] (Value.bool (r)) := by
  unfold name_within_m at hM
  refine gives_of_A follows Try.func91 rfl 15 rfl (upd (upd (upd (fun _ => undef) 2 (Value.int .i32 (last))) 1 (Value.int .i32 (first))) 0 (Value.int .i32 (c))) (by funext k; match k with | 0 => rfl | 1 => rfl | 2 => rfl | k + 3 => rfl) (fun base0_ => ?_)
  refine A_seq fun K1 hK1 => ?_
  refine A_reg ?_
  refine r_v (Value.bool (false)) rfl rfl rfl rfl ?_
  refine lx_nil ?_
  refine hK1 _ _ ?_; try clear hK1 K1
  refine A_seq fun K2 hK2 => ?_
  refine A_reg ?_
  refine r_v (Value.int .i32 (c)) rfl rfl rfl rfl ?_
  refine r_v (Value.int .i32 (first)) rfl rfl rfl rfl ?_
  refine r_v (Value.bool (decide ((c : Int) ≥ first))) rfl rfl rfl rfl ?_
  refine r_v (Value.bool (decide ((c : Int) ≥ first))) rfl rfl rfl rfl ?_
  rcases hg3 : (decide ((c : Int) ≥ first)) with _ | _
  · replace hM := ifn (of_decide_eq_false hg3) hM
    refine r_n false rfl (by decide) rfl ?_
    refine r_n false rfl (by decide) rfl ?_
    refine r_n false rfl (by decide) rfl ?_
    refine r_v (Value.bool (false)) rfl rfl rfl rfl ?_
    refine r_v (Value.bool (false)) rfl rfl rfl rfl ?_
    refine lx_nil ?_
    refine hK2 _ _ ?_; try clear hK2 K2
    obtain rfl := Option.some.inj hM
    refine A_ret (fun hn => ends_eq (v0 := Value.bool (false)) rfl (res1 rfl))
  · replace hM := ifp (of_decide_eq_true hg3) hM
    refine r_y rfl ?_
    refine r_v (Value.int .i32 (c)) rfl rfl rfl rfl ?_
    refine r_y rfl ?_
    refine r_v (Value.int .i32 (last)) rfl rfl rfl rfl ?_
    refine r_y rfl ?_
    refine r_v (Value.bool (decide ((c : Int) ≤ last))) rfl rfl rfl rfl ?_
    refine r_v (Value.bool (decide ((c : Int) ≤ last))) rfl rfl rfl rfl ?_
    refine r_v (Value.bool (decide ((c : Int) ≤ last))) rfl rfl rfl rfl ?_
    refine lx_nil ?_
    refine hK2 _ _ ?_; try clear hK2 K2
    obtain rfl := Option.some.inj hM
    refine A_ret (fun hn => ends_eq (v0 := Value.bool (decide ((c : Int) ≤ last))) rfl (res1 rfl))
def name_Letter_k1 (N : Nat) (c : Int) : Option (Bool) := (name_within_m N c 65 90).bind fun r3 => if (r3) = true then some (true) else (name_within_m N c 97 122).bind fun r6 => if (r6) = true then some (true) else if (c : Int) = 95 then some (true) else (name_within_m N c 192 591).bind fun r10 => if (r10) = true then some (true) else (name_within_m N c 913 969).bind fun r13 => if (r13) = true then some (true) else (name_within_m N c 1024 1279).bind fun r16 => some (r16)
def name_Letter_m (N : Nat) (c : Int) : Option (Bool) := if (c : Int) = 215 then if (c : Int) = 215 then some (false) else name_Letter_k1 N c  else if (c : Int) = 247 then if (c : Int) = 247 then some (false) else name_Letter_k1 N c  else if (c : Int) = 930 then some (false) else name_Letter_k1 N c 
set_option maxRecDepth 100000 in
set_option maxHeartbeats 8000000 in
theorem name_Letter_g (N : Nat) (c : Int) (r : Bool) (hM : name_Letter_m N c = some r) : Gives Try.prog 88 #[Value.int .i32 (c)] (Value.bool (r)) := by
  unfold name_Letter_m at hM
  refine gives_of_A follows Try.func88 rfl 30 rfl (upd (fun _ => undef) 0 (Value.int .i32 (c))) (by funext k; match k with | 0 => rfl | k + 1 => rfl) (fun base0_ => ?_)
  refine A_seq fun K1 hK1 => ?_
  refine A_reg ?_
  refine r_v (Value.bool (false)) rfl rfl rfl rfl ?_
  refine lx_nil ?_
  refine hK1 _ _ ?_; try clear hK1 K1
  refine A_cut (fun tt ll => (name_Letter_k1 N c  = some r) ∧ Is [(0, Value.int .i32 (c))] [] tt ll) ?_ ?_
  · refine A_seq fun K18 hK18 => ?_
    refine A_reg ?_
    refine r_v (Value.int .i32 (c)) rfl rfl rfl rfl ?_
    refine lx_nil ?_
    refine hK18 _ _ ?_; try clear hK18 K18
    refine A_block ?_
    refine A_seq fun K19 hK19 => ?_
    refine A_seq fun K20 hK20 => ?_
    refine A_reg ?_
    refine r_v (Value.bool (((c : Int) == 215))) rfl rfl rfl rfl ?_
    refine r_v (Value.bool (((c : Int) == 215))) rfl rfl rfl rfl ?_
    refine lx_nil ?_
    refine hK20 _ _ ?_; try clear hK20 K20
    refine A_cond (((c : Int) == 215)) rfl (fun hc21 => ?_) (fun hc21 => ?_)
    · replace hM := ifp (eq_of_beq hc21) hM
      refine A_skip ?_
      refine hK19 _ _ ?_; try clear hK19 K19
      refine A_cond (((c : Int) == 215)) rfl (fun hc22 => ?_) (fun hc22 => ?_)
      · replace hM := ifp (eq_of_beq hc22) hM
        refine A_seq fun K23 hK23 => ?_
        refine A_reg ?_
        refine r_v (Value.bool (false)) rfl rfl rfl rfl ?_
        refine lx_nil ?_
        refine hK23 _ _ ?_; try clear hK23 K23
        obtain rfl := Option.some.inj hM
        refine A_ret (fun hn => ends_eq (v0 := Value.bool (false)) rfl (res1 rfl))
      · replace hM := ifn (ne_of_beq_false hc22) hM
        refine A_skip ?_
        refine fg _ (Sub.of (List.Sublist.slnil)) ?_
        exact ⟨hM, is_mk rfl rfl⟩
    · replace hM := ifn (ne_of_beq_false hc21) hM
      refine A_seq fun K24 hK24 => ?_
      refine A_reg ?_
      refine r_v (Value.bool (((c : Int) == 247))) rfl rfl rfl rfl ?_
      refine r_v (Value.bool (((c : Int) == 247))) rfl rfl rfl rfl ?_
      refine lx_nil ?_
      refine hK24 _ _ ?_; try clear hK24 K24
      refine A_cond (((c : Int) == 247)) rfl (fun hc25 => ?_) (fun hc25 => ?_)
      · replace hM := ifp (eq_of_beq hc25) hM
        refine A_skip ?_
        refine hK19 _ _ ?_; try clear hK19 K19
        refine A_cond (((c : Int) == 247)) rfl (fun hc26 => ?_) (fun hc26 => ?_)
        · replace hM := ifp (eq_of_beq hc26) hM
          refine A_seq fun K27 hK27 => ?_
          refine A_reg ?_
          refine r_v (Value.bool (false)) rfl rfl rfl rfl ?_
          refine lx_nil ?_
          refine hK27 _ _ ?_; try clear hK27 K27
          obtain rfl := Option.some.inj hM
          refine A_ret (fun hn => ends_eq (v0 := Value.bool (false)) rfl (res1 rfl))
        · replace hM := ifn (ne_of_beq_false hc26) hM
          refine A_skip ?_
          refine fg _ (Sub.of (List.Sublist.slnil)) ?_
          exact ⟨hM, is_mk rfl rfl⟩
      · replace hM := ifn (ne_of_beq_false hc25) hM
        refine A_reg ?_
        refine r_v (Value.bool (((c : Int) == 930))) rfl rfl rfl rfl ?_
        refine r_v (Value.bool (((c : Int) == 930))) rfl rfl rfl rfl ?_
        refine lx_nil ?_
        refine hK19 _ _ ?_; try clear hK19 K19
        refine A_cond (((c : Int) == 930)) rfl (fun hc28 => ?_) (fun hc28 => ?_)
        · replace hM := ifp (eq_of_beq hc28) hM
          refine A_seq fun K29 hK29 => ?_
          refine A_reg ?_
          refine r_v (Value.bool (false)) rfl rfl rfl rfl ?_
          refine lx_nil ?_
          refine hK29 _ _ ?_; try clear hK29 K29
          obtain rfl := Option.some.inj hM
          refine A_ret (fun hn => ends_eq (v0 := Value.bool (false)) rfl (res1 rfl))
        · replace hM := ifn (ne_of_beq_false hc28) hM
          refine A_skip ?_
          refine fg _ (Sub.of (List.Sublist.slnil)) ?_
          exact ⟨hM, is_mk rfl rfl⟩
  · clear hM; rintro t l ⟨hM, ⟨T, rfl⟩, rfl⟩
    unfold name_Letter_k1 at hM
    refine A_seq fun K2 hK2 => ?_
    refine A_reg ?_
    refine r_v (Value.int .i32 (c)) rfl rfl rfl rfl ?_
    replace hM := bind_sm hM; obtain ⟨r3, hr4, hM⟩ := hM
    refine r_c (Value.bool (r3)) rfl _ _ (ev_callF rfl call_91 rfl) (name_within_g N c 65 90 _ hr4) ?_
    refine r_v (Value.bool (r3)) rfl rfl rfl rfl ?_
    rcases hg5 : (r3) with _ | _
    · replace hM := ifn (Bool.eq_false_iff.1 hg5) hM
      refine r_y rfl ?_
      refine r_v (Value.int .i32 (c)) rfl rfl rfl rfl ?_
      refine r_y rfl ?_
      replace hM := bind_sm hM; obtain ⟨r6, hr7, hM⟩ := hM
      refine r_c (Value.bool (r6)) rfl _ _ (ev_callF rfl call_91 rfl) (name_within_g N c 97 122 _ hr7) ?_
      refine r_v (Value.bool (r6)) rfl rfl rfl rfl ?_
      refine r_v (Value.bool (r6)) rfl rfl rfl rfl ?_
      rcases hg8 : (r6) with _ | _
      · replace hM := ifn (Bool.eq_false_iff.1 hg8) hM
        refine r_y rfl ?_
        refine r_v (Value.int .i32 (c)) rfl rfl rfl rfl ?_
        refine r_y rfl ?_
        refine r_v (Value.bool (((c : Int) == 95))) rfl rfl rfl rfl ?_
        refine r_v (Value.bool (((c : Int) == 95))) rfl rfl rfl rfl ?_
        refine r_v (Value.bool (((c : Int) == 95))) rfl rfl rfl rfl ?_
        rcases hg9 : (((c : Int) == 95)) with _ | _
        · replace hM := ifn (ne_of_beq_false hg9) hM
          refine r_y rfl ?_
          refine r_v (Value.int .i32 (c)) rfl rfl rfl rfl ?_
          refine r_y rfl ?_
          replace hM := bind_sm hM; obtain ⟨r10, hr11, hM⟩ := hM
          refine r_c (Value.bool (r10)) rfl _ _ (ev_callF rfl call_91 rfl) (name_within_g N c 192 591 _ hr11) ?_
          refine r_v (Value.bool (r10)) rfl rfl rfl rfl ?_
          refine r_v (Value.bool (r10)) rfl rfl rfl rfl ?_
          rcases hg12 : (r10) with _ | _
          · replace hM := ifn (Bool.eq_false_iff.1 hg12) hM
            refine r_y rfl ?_
            refine r_v (Value.int .i32 (c)) rfl rfl rfl rfl ?_
            refine r_y rfl ?_
            replace hM := bind_sm hM; obtain ⟨r13, hr14, hM⟩ := hM
            refine r_c (Value.bool (r13)) rfl _ _ (ev_callF rfl call_91 rfl) (name_within_g N c 913 969 _ hr14) ?_
            refine r_v (Value.bool (r13)) rfl rfl rfl rfl ?_
            refine r_v (Value.bool (r13)) rfl rfl rfl rfl ?_
            rcases hg15 : (r13) with _ | _
            · replace hM := ifn (Bool.eq_false_iff.1 hg15) hM
              refine r_y rfl ?_
              refine r_v (Value.int .i32 (c)) rfl rfl rfl rfl ?_
              refine r_y rfl ?_
              replace hM := bind_sm hM; obtain ⟨r16, hr17, hM⟩ := hM
              refine r_c (Value.bool (r16)) rfl _ _ (ev_callF rfl call_91 rfl) (name_within_g N c 1024 1279 _ hr17) ?_
              refine r_v (Value.bool (r16)) rfl rfl rfl rfl ?_
              refine r_v (Value.bool (r16)) rfl rfl rfl rfl ?_
              refine lx_nil ?_
              refine hK2 _ _ ?_; try clear hK2 K2
              obtain rfl := Option.some.inj hM
              refine A_ret (fun hn => ends_eq (v0 := Value.bool (r16)) rfl (res1 rfl))
            · replace hM := ifp hg15 hM
              refine r_n true rfl (by decide) rfl ?_
              refine r_n true rfl (by decide) rfl ?_
              refine r_v (Value.bool (true)) rfl rfl rfl rfl ?_
              refine r_v (Value.bool (true)) rfl rfl rfl rfl ?_
              refine lx_nil ?_
              refine hK2 _ _ ?_; try clear hK2 K2
              obtain rfl := Option.some.inj hM
              refine A_ret (fun hn => ends_eq (v0 := Value.bool (true)) rfl (res1 rfl))
          · replace hM := ifp hg12 hM
            refine r_n true rfl (by decide) rfl ?_
            refine r_n true rfl (by decide) rfl ?_
            refine r_v (Value.bool (true)) rfl rfl rfl rfl ?_
            refine r_v (Value.bool (true)) rfl rfl rfl rfl ?_
            refine r_n true rfl (by decide) rfl ?_
            refine r_n true rfl (by decide) rfl ?_
            refine r_v (Value.bool (true)) rfl rfl rfl rfl ?_
            refine r_v (Value.bool (true)) rfl rfl rfl rfl ?_
            refine lx_nil ?_
            refine hK2 _ _ ?_; try clear hK2 K2
            obtain rfl := Option.some.inj hM
            refine A_ret (fun hn => ends_eq (v0 := Value.bool (true)) rfl (res1 rfl))
        · replace hM := ifp (eq_of_beq hg9) hM
          refine r_n true rfl (by decide) rfl ?_
          refine r_n true rfl (by decide) rfl ?_
          refine r_v (Value.bool (true)) rfl rfl rfl rfl ?_
          refine r_v (Value.bool (true)) rfl rfl rfl rfl ?_
          refine r_n true rfl (by decide) rfl ?_
          refine r_n true rfl (by decide) rfl ?_
          refine r_v (Value.bool (true)) rfl rfl rfl rfl ?_
          refine r_v (Value.bool (true)) rfl rfl rfl rfl ?_
          refine r_n true rfl (by decide) rfl ?_
          refine r_n true rfl (by decide) rfl ?_
          refine r_v (Value.bool (true)) rfl rfl rfl rfl ?_
          refine r_v (Value.bool (true)) rfl rfl rfl rfl ?_
          refine lx_nil ?_
          refine hK2 _ _ ?_; try clear hK2 K2
          obtain rfl := Option.some.inj hM
          refine A_ret (fun hn => ends_eq (v0 := Value.bool (true)) rfl (res1 rfl))
      · replace hM := ifp hg8 hM
        refine r_n true rfl (by decide) rfl ?_
        refine r_n true rfl (by decide) rfl ?_
        refine r_v (Value.bool (true)) rfl rfl rfl rfl ?_
        refine r_v (Value.bool (true)) rfl rfl rfl rfl ?_
        refine r_n true rfl (by decide) rfl ?_
        refine r_n true rfl (by decide) rfl ?_
        refine r_v (Value.bool (true)) rfl rfl rfl rfl ?_
        refine r_v (Value.bool (true)) rfl rfl rfl rfl ?_
        refine r_n true rfl (by decide) rfl ?_
        refine r_n true rfl (by decide) rfl ?_
        refine r_v (Value.bool (true)) rfl rfl rfl rfl ?_
        refine r_v (Value.bool (true)) rfl rfl rfl rfl ?_
        refine r_n true rfl (by decide) rfl ?_
        refine r_n true rfl (by decide) rfl ?_
        refine r_v (Value.bool (true)) rfl rfl rfl rfl ?_
        refine r_v (Value.bool (true)) rfl rfl rfl rfl ?_
        refine lx_nil ?_
        refine hK2 _ _ ?_; try clear hK2 K2
        obtain rfl := Option.some.inj hM
        refine A_ret (fun hn => ends_eq (v0 := Value.bool (true)) rfl (res1 rfl))
    · replace hM := ifp hg5 hM
      refine r_n true rfl (by decide) rfl ?_
      refine r_n true rfl (by decide) rfl ?_
      refine r_v (Value.bool (true)) rfl rfl rfl rfl ?_
      refine r_v (Value.bool (true)) rfl rfl rfl rfl ?_
      refine r_n true rfl (by decide) rfl ?_
      refine r_n true rfl (by decide) rfl ?_
      refine r_v (Value.bool (true)) rfl rfl rfl rfl ?_
      refine r_v (Value.bool (true)) rfl rfl rfl rfl ?_
      refine r_n true rfl (by decide) rfl ?_
      refine r_n true rfl (by decide) rfl ?_
      refine r_v (Value.bool (true)) rfl rfl rfl rfl ?_
      refine r_v (Value.bool (true)) rfl rfl rfl rfl ?_
      refine r_n true rfl (by decide) rfl ?_
      refine r_n true rfl (by decide) rfl ?_
      refine r_v (Value.bool (true)) rfl rfl rfl rfl ?_
      refine r_v (Value.bool (true)) rfl rfl rfl rfl ?_
      refine r_n true rfl (by decide) rfl ?_
      refine r_n true rfl (by decide) rfl ?_
      refine r_v (Value.bool (true)) rfl rfl rfl rfl ?_
      refine r_v (Value.bool (true)) rfl rfl rfl rfl ?_
      refine lx_nil ?_
      refine hK2 _ _ ?_; try clear hK2 K2
      obtain rfl := Option.some.inj hM
      refine A_ret (fun hn => ends_eq (v0 := Value.bool (true)) rfl (res1 rfl))
def name_Digit_m (N : Nat) (c : Int) : Option (Bool) := (name_within_m N c 48 57).bind fun r3 => some (r3)
set_option maxRecDepth 100000 in
set_option maxHeartbeats 8000000 in
theorem name_Digit_g (N : Nat) (c : Int) (r : Bool) (hM : name_Digit_m N c = some r) : Gives Try.prog 89 #[Value.int .i32 (c)] (Value.bool (r)) := by
  unfold name_Digit_m at hM
  refine gives_of_A follows Try.func89 rfl 5 rfl (upd (fun _ => undef) 0 (Value.int .i32 (c))) (by funext k; match k with | 0 => rfl | k + 1 => rfl) (fun base0_ => ?_)
  refine A_seq fun K1 hK1 => ?_
  refine A_reg ?_
  refine r_v (Value.bool (false)) rfl rfl rfl rfl ?_
  refine lx_nil ?_
  refine hK1 _ _ ?_; try clear hK1 K1
  refine A_seq fun K2 hK2 => ?_
  refine A_reg ?_
  refine r_v (Value.int .i32 (c)) rfl rfl rfl rfl ?_
  replace hM := bind_sm hM; obtain ⟨r3, hr4, hM⟩ := hM
  refine r_c (Value.bool (r3)) rfl _ _ (ev_callF rfl call_91 rfl) (name_within_g N c 48 57 _ hr4) ?_
  refine r_v (Value.bool (r3)) rfl rfl rfl rfl ?_
  refine lx_nil ?_
  refine hK2 _ _ ?_; try clear hK2 K2
  obtain rfl := Option.some.inj hM
  refine A_ret (fun hn => ends_eq (v0 := Value.bool (r3)) rfl (res1 rfl))
def name_mayStand_m (N : Nat) (c : Int) (ahead : Int) : Option (Bool) := (name_Letter_m N c).bind fun r3 => if (r3) = true then some (true) else if (ahead : Int) > 0 then (name_Digit_m N c).bind fun r7 => if (r7) = true then some (true) else if (c : Int) = 45 then some (true) else some (((c : Int) == 46)) else some (false)
set_option maxRecDepth 100000 in
set_option maxHeartbeats 8000000 in
theorem name_mayStand_g (N : Nat) (c : Int) (ahead : Int) (r : Bool) (hM : name_mayStand_m N c ahead = some r) : Gives Try.prog 82 #[Value.int .i32 (c), Value.int .i64 (ahead)] (Value.bool (r)) := by
  unfold name_mayStand_m at hM
  refine gives_of_A follows Try.func82 rfl 23 rfl (upd (upd (fun _ => undef) 1 (Value.int .i64 (ahead))) 0 (Value.int .i32 (c))) (by funext k; match k with | 0 => rfl | 1 => rfl | k + 2 => rfl) (fun base0_ => ?_)
  refine A_seq fun K1 hK1 => ?_
  refine A_reg ?_
  refine r_v (Value.bool (false)) rfl rfl rfl rfl ?_
  refine lx_nil ?_
  refine hK1 _ _ ?_; try clear hK1 K1
  refine A_seq fun K2 hK2 => ?_
  refine A_reg ?_
  refine r_v (Value.int .i32 (c)) rfl rfl rfl rfl ?_
  replace hM := bind_sm hM; obtain ⟨r3, hr4, hM⟩ := hM
  refine r_c (Value.bool (r3)) rfl _ _ (ev_callF rfl call_88 rfl) (name_Letter_g N c _ hr4) ?_
  refine r_v (Value.bool (r3)) rfl rfl rfl rfl ?_
  rcases hg5 : (r3) with _ | _
  · replace hM := ifn (Bool.eq_false_iff.1 hg5) hM
    refine r_y rfl ?_
    refine r_v (Value.int .i64 (ahead)) rfl rfl rfl rfl ?_
    refine r_y rfl ?_
    refine r_v (Value.bool (decide ((ahead : Int) > 0))) rfl rfl rfl rfl ?_
    refine r_y rfl ?_
    refine r_v (Value.bool (decide ((ahead : Int) > 0))) rfl rfl rfl rfl ?_
    rcases hg6 : (decide ((ahead : Int) > 0)) with _ | _
    · replace hM := ifn (of_decide_eq_false hg6) hM
      refine r_n false rfl (by decide) rfl ?_
      refine r_n false rfl (by decide) rfl ?_
      refine r_n false rfl (by decide) rfl ?_
      refine r_nu rfl rfl ?_
      refine r_nu rfl rfl ?_
      refine r_n false rfl (by decide) rfl ?_
      refine r_n false rfl (by decide) rfl ?_
      refine r_nu rfl rfl ?_
      refine r_nu rfl rfl ?_
      refine r_n false rfl (by decide) rfl ?_
      refine r_y rfl ?_
      refine r_v (Value.bool (false)) rfl rfl rfl rfl ?_
      refine r_v (Value.bool (false)) rfl rfl rfl rfl ?_
      refine r_v (Value.bool (false)) rfl rfl rfl rfl ?_
      refine lx_nil ?_
      refine hK2 _ _ ?_; try clear hK2 K2
      obtain rfl := Option.some.inj hM
      refine A_ret (fun hn => ends_eq (v0 := Value.bool (false)) rfl (res1 rfl))
    · replace hM := ifp (of_decide_eq_true hg6) hM
      refine r_y rfl ?_
      refine r_v (Value.int .i32 (c)) rfl rfl rfl rfl ?_
      refine r_y rfl ?_
      replace hM := bind_sm hM; obtain ⟨r7, hr8, hM⟩ := hM
      refine r_c (Value.bool (r7)) rfl _ _ (ev_callF rfl call_89 rfl) (name_Digit_g N c _ hr8) ?_
      refine r_y rfl ?_
      refine r_v (Value.bool (r7)) rfl rfl rfl rfl ?_
      rcases hg9 : (r7) with _ | _
      · replace hM := ifn (Bool.eq_false_iff.1 hg9) hM
        refine r_y rfl ?_
        refine r_v (Value.int .i32 (c)) rfl rfl rfl rfl ?_
        refine r_y rfl ?_
        refine r_v (Value.bool (((c : Int) == 45))) rfl rfl rfl rfl ?_
        refine r_y rfl ?_
        refine r_v (Value.bool (((c : Int) == 45))) rfl rfl rfl rfl ?_
        refine r_y rfl ?_
        refine r_v (Value.bool (((c : Int) == 45))) rfl rfl rfl rfl ?_
        rcases hg10 : (((c : Int) == 45)) with _ | _
        · replace hM := ifn (ne_of_beq_false hg10) hM
          refine r_y rfl ?_
          refine r_v (Value.int .i32 (c)) rfl rfl rfl rfl ?_
          refine r_y rfl ?_
          refine r_v (Value.bool (((c : Int) == 46))) rfl rfl rfl rfl ?_
          refine r_y rfl ?_
          refine r_v (Value.bool (((c : Int) == 46))) rfl rfl rfl rfl ?_
          refine r_y rfl ?_
          refine r_v (Value.bool (((c : Int) == 46))) rfl rfl rfl rfl ?_
          refine r_v (Value.bool (((c : Int) == 46))) rfl rfl rfl rfl ?_
          refine r_v (Value.bool (((c : Int) == 46))) rfl rfl rfl rfl ?_
          refine lx_nil ?_
          refine hK2 _ _ ?_; try clear hK2 K2
          obtain rfl := Option.some.inj hM
          refine A_ret (fun hn => ends_eq (v0 := Value.bool (((c : Int) == 46))) rfl (res1 rfl))
        · replace hM := ifp (eq_of_beq hg10) hM
          refine r_n true rfl (by decide) rfl ?_
          refine r_n true rfl (by decide) rfl ?_
          refine r_y rfl ?_
          refine r_v (Value.bool (true)) rfl rfl rfl rfl ?_
          refine r_y rfl ?_
          refine r_v (Value.bool (true)) rfl rfl rfl rfl ?_
          refine r_v (Value.bool (true)) rfl rfl rfl rfl ?_
          refine r_v (Value.bool (true)) rfl rfl rfl rfl ?_
          refine lx_nil ?_
          refine hK2 _ _ ?_; try clear hK2 K2
          obtain rfl := Option.some.inj hM
          refine A_ret (fun hn => ends_eq (v0 := Value.bool (true)) rfl (res1 rfl))
      · replace hM := ifp hg9 hM
        refine r_n true rfl (by decide) rfl ?_
        refine r_n true rfl (by decide) rfl ?_
        refine r_y rfl ?_
        refine r_v (Value.bool (true)) rfl rfl rfl rfl ?_
        refine r_y rfl ?_
        refine r_v (Value.bool (true)) rfl rfl rfl rfl ?_
        refine r_n true rfl (by decide) rfl ?_
        refine r_n true rfl (by decide) rfl ?_
        refine r_y rfl ?_
        refine r_v (Value.bool (true)) rfl rfl rfl rfl ?_
        refine r_y rfl ?_
        refine r_v (Value.bool (true)) rfl rfl rfl rfl ?_
        refine r_v (Value.bool (true)) rfl rfl rfl rfl ?_
        refine r_v (Value.bool (true)) rfl rfl rfl rfl ?_
        refine lx_nil ?_
        refine hK2 _ _ ?_; try clear hK2 K2
        obtain rfl := Option.some.inj hM
        refine A_ret (fun hn => ends_eq (v0 := Value.bool (true)) rfl (res1 rfl))
  · replace hM := ifp hg5 hM
    refine r_n true rfl (by decide) rfl ?_
    refine r_n true rfl (by decide) rfl ?_
    refine r_n true rfl (by decide) rfl ?_
    refine r_nu rfl rfl ?_
    refine r_nu rfl rfl ?_
    refine r_nu rfl rfl ?_
    refine r_nu rfl rfl ?_
    refine r_nu rfl rfl ?_
    refine r_nu rfl rfl ?_
    refine r_nu rfl rfl ?_
    refine r_nu rfl rfl ?_
    refine r_nu rfl rfl ?_
    refine r_nu rfl rfl ?_
    refine r_n true rfl (by decide) rfl ?_
    refine r_v (Value.bool (true)) rfl rfl rfl rfl ?_
    refine r_v (Value.bool (true)) rfl rfl rfl rfl ?_
    refine lx_nil ?_
    refine hK2 _ _ ?_; try clear hK2 K2
    obtain rfl := Option.some.inj hM
    refine A_ret (fun hn => ends_eq (v0 := Value.bool (true)) rfl (res1 rfl))
def name_May_l3 (N : Nat) (s : List UInt8) : Nat → Int → Nat → Option (Bool)
  | 0, _, _ => none
  | n6 + 1, count1_, m2_ => if m2_ < (s).length then ck (m2_ < (s).length) (if (count1_ : Int) = 24 then some (false) else (name_mayStand_m N ((runeAt (s) (m2_) : Nat) : Int) count1_).bind fun r15 => if (r15) = true then ck ((-9223372036854775808 ≤ (count1_ + 1) ∧ (count1_ + 1) ≤ 9223372036854775807)) ((name_May_l3 N s n6) ((count1_ + 1)) (nextP (s) (m2_))) else some (false)) else some (decide ((count1_ : Int) > 0))
def name_May_m (N : Nat) (s : List UInt8) : Option (Bool) := name_May_l3 N s N (0) (0)
set_option maxRecDepth 100000 in
set_option maxHeartbeats 8000000 in
theorem name_May_g (N : Nat) (s : List UInt8) (r : Bool) (hM : name_May_m N s = some r) : Gives Try.prog 73 #[Value.string (⟨(s).toArray⟩)] (Value.bool (r)) := by
  unfold name_May_m at hM
  refine gives_of_A follows Try.func73 rfl 23 rfl (upd (fun _ => undef) 0 (Value.string (⟨(s).toArray⟩))) (by funext k; match k with | 0 => rfl | k + 1 => rfl) (fun base0_ => ?_)
  refine A_seq fun K1 hK1 => ?_
  refine A_reg ?_
  refine r_v (Value.bool (false)) rfl rfl rfl rfl ?_
  refine lx_nil ?_
  refine hK1 _ _ ?_; try clear hK1 K1
  refine A_seq fun K2 hK2 => ?_
  refine A_reg ?_
  refine r_v (Value.int .i64 (0)) rfl rfl rfl rfl ?_
  refine lx_nil ?_
  refine hK2 _ _ ?_; try clear hK2 K2
  refine A_seq fun K3 hK3 => ?_
  refine A_seq fun K4 hK4 => ?_
  refine A_regC [(some 7, false)] (conG Try.prog [(7, fun _ _ v_ L_ U_ => (pIt (s)) v_ L_ U_)]) ?_
  refine r_v (Value.string (⟨(s).toArray⟩)) rfl rfl rfl rfl ?_
  refine r_range (s) rfl rfl rfl rfl rfl (fun _ _ _ _ _ => Iff.rfl) (fun b5 => ?_)
  refine lx_nil ?_
  refine hK4 _ _ ?_; try clear hK4 K4
  refine A_block ?_
  refine A_loop (fun tt ll nn => ∃ (n6 : Nat) (count1_ : Int) (m2_ : Nat), (name_May_l3 N s n6 count1_ m2_ = some r) ∧ Is [(3, Value.int .i64 (count1_)), (7, Value.pointer (some ⟨b5, 0, none⟩))] [(b5, (itT (s) (m2_)), #[])] tt ll ∧ nn = n6 + 1) (N + 1) ?_ ?_
  · exact ⟨N, 0, 0, hM, is_mk rfl rfl, rfl⟩
  · clear hM; rintro t l _ ⟨n6, count1_, m2_, hM, ⟨⟨T, rfl⟩, rfl⟩, rfl⟩
    rcases n6 with _ | n6
    · exact absurd hM (by simp [name_May_l3])
    rw [name_May_l3] at hM
    refine A_seq fun K7 hK7 => ?_
    refine A_regC [(some 8, true)] (conG Try.prog [(8, fun _ _ v_ L_ U_ => (pNx b5 (s) (m2_)) v_ L_ U_)]) ?_
    refine r_next (lN := [(b5, (itT (s) (nextP (s) (m2_))), #[])]) 0 b5 (s) (m2_) rfl rfl rfl rfl rfl rfl (fun _ _ _ _ _ => Iff.rfl) rfl ?_
    refine r_v (Value.bool (decide (m2_ < (s).length))) rfl rfl rfl (ev_v (ev_next0 (s) (m2_))) ?_
    refine lx_nil ?_
    refine hK7 _ _ ?_; try clear hK7 K7
    refine A_seq fun K8 hK8 => ?_
    refine A_cond (decide (m2_ < (s).length)) rfl (fun hc9 => ?_) (fun hc9 => ?_)
    · replace hM := ifp (of_decide_eq_true hc9) hM
      refine A_skip ?_
      refine hK8 _ _ ?_; try clear hK8 K8
      refine A_block ?_
      refine A_seq fun K10 hK10 => ?_
      refine A_reg ?_
      replace hM := ck_some hM; obtain ⟨ck11, hM⟩ := hM
      refine r_v (Value.int .i32 (((runeAt (s) (m2_) : Nat) : Int))) rfl rfl rfl (ev_v (ev_next2 ck11)) ?_
      refine r_v (Value.int .i32 (((runeAt (s) (m2_) : Nat) : Int))) rfl rfl rfl rfl ?_
      refine lx_nil ?_
      refine hK10 _ _ ?_; try clear hK10 K10
      refine A_seq fun K12 hK12 => ?_
      refine A_seq fun K13 hK13 => ?_
      refine A_reg ?_
      refine r_v (Value.int .i64 (count1_)) rfl rfl rfl rfl ?_
      refine r_v (Value.bool (((count1_ : Int) == 24))) rfl rfl rfl rfl ?_
      refine r_v (Value.bool (((count1_ : Int) == 24))) rfl rfl rfl rfl ?_
      rcases hg14 : (((count1_ : Int) == 24)) with _ | _
      · replace hM := ifn (ne_of_beq_false hg14) hM
        refine r_y rfl ?_
        refine r_v (Value.int .i32 (((runeAt (s) (m2_) : Nat) : Int))) rfl rfl rfl rfl ?_
        refine r_y rfl ?_
        refine r_v (Value.int .i64 (count1_)) rfl rfl rfl rfl ?_
        refine r_y rfl ?_
        replace hM := bind_sm hM; obtain ⟨r15, hr16, hM⟩ := hM
        refine r_c (Value.bool (r15)) rfl _ _ (ev_callF rfl call_82 rfl) (name_mayStand_g N ((runeAt (s) (m2_) : Nat) : Int) count1_ _ hr16) ?_
        refine r_y rfl ?_
        refine r_v (Value.bool (!(r15))) rfl rfl rfl rfl ?_
        refine r_v (Value.bool (!(r15))) rfl rfl rfl rfl ?_
        refine lx_nil ?_
        refine hK13 _ _ ?_; try clear hK13 K13
        refine A_cond (!(r15)) rfl (fun hc17 => ?_) (fun hc17 => ?_)
        · replace hM := ifn (Bool.eq_false_iff.1 (not_t hc17)) hM
          refine A_seq fun K18 hK18 => ?_
          refine A_reg ?_
          refine r_v (Value.bool (false)) rfl rfl rfl rfl ?_
          refine lx_nil ?_
          refine hK18 _ _ ?_; try clear hK18 K18
          obtain rfl := Option.some.inj hM
          refine A_ret (fun hn => ends_eq (v0 := Value.bool (false)) rfl (res1 rfl))
        · replace hM := ifp (not_f hc17) hM
          refine A_skip ?_
          refine hK12 _ _ ?_; try clear hK12 K12
          refine A_reg ?_
          refine r_v (Value.int .i64 (count1_)) rfl rfl rfl rfl ?_
          replace hM := ck_some hM; obtain ⟨ck19, hM⟩ := hM
          refine r_v (Value.int .i64 ((count1_ + 1))) rfl rfl (wi64 rfl ck19.1 ck19.2) rfl ?_
          refine r_v (Value.int .i64 ((count1_ + 1))) rfl rfl rfl rfl ?_
          refine lx_nil ?_
          refine fg _ (Sub.of (List.Sublist.cons_cons _ (List.Sublist.slnil))) ?_
          exact ⟨n6 + 1, by omega, n6, (count1_ + 1), nextP (s) (m2_), hM, is_mk (by first | rfl | (simp only [hg14]; done) | (simp only [hg14]; rfl) | (simp only [app_hl]; rfl)) rfl, rfl⟩
      · replace hM := ifp (eq_of_beq hg14) hM
        refine r_n true rfl (by decide) rfl ?_
        refine r_n true rfl (by decide) rfl ?_
        refine r_n true rfl (by decide) rfl ?_
        refine r_n true rfl (by decide) rfl ?_
        refine r_v (Value.bool (true)) rfl rfl rfl rfl ?_
        refine lx_nil ?_
        refine hK13 _ _ ?_; try clear hK13 K13
        refine A_cond true rfl (fun _ => ?_) (fun h_ => nomatch h_)
        refine A_seq fun K20 hK20 => ?_
        refine A_reg ?_
        refine r_v (Value.bool (false)) rfl rfl rfl rfl ?_
        refine lx_nil ?_
        refine hK20 _ _ ?_; try clear hK20 K20
        obtain rfl := Option.some.inj hM
        refine A_ret (fun hn => ends_eq (v0 := Value.bool (false)) rfl (res1 rfl))
    · replace hM := ifn (of_decide_eq_false hc9) hM
      refine A_exit ?_
      refine hK3 _ _ ?_; try clear hK3 K3
      refine A_seq fun K21 hK21 => ?_
      refine A_reg ?_
      refine r_v (Value.int .i64 (count1_)) rfl rfl rfl rfl ?_
      refine r_v (Value.bool (decide ((count1_ : Int) > 0))) rfl rfl rfl rfl ?_
      refine r_v (Value.bool (decide ((count1_ : Int) > 0))) rfl rfl rfl rfl ?_
      refine lx_nil ?_
      refine hK21 _ _ ?_; try clear hK21 K21
      obtain rfl := Option.some.inj hM
      refine A_ret (fun hn => ends_eq (v0 := Value.bool (decide ((count1_ : Int) > 0))) rfl (res1 rfl))
def wire_nameOf_m (N : Nat) (b : List UInt8) : Option ((List UInt8) × Int × Int) := if (((b).length : Int) : Int) = 0 then some ([], 0, 3) else ck (0 ≤ (0 : Int) ∧ (0 : Int) < ((b).length : Int)) (ck ((-9223372036854775808 ≤ (1 + ((((b)[((0 : Int)).toNat]!).toNat : Nat) : Int)) ∧ (1 + ((((b)[((0 : Int)).toNat]!).toNat : Nat) : Int)) ≤ 9223372036854775807)) (if (((b).length : Int) : Int) < (1 + ((((b)[((0 : Int)).toNat]!).toNat : Nat) : Int)) then some ([], 0, 3) else ck (0 ≤ (1 : Int) ∧ (1 : Int) ≤ (1 + ((((b)[((0 : Int)).toNat]!).toNat : Nat) : Int)) ∧ (1 + ((((b)[((0 : Int)).toNat]!).toNat : Nat) : Int)) ≤ ((b).length : Int)) ((name_May_m N (((b).take (((1 + ((((b)[((0 : Int)).toNat]!).toNat : Nat) : Int))).toNat)).drop (((1 : Int)).toNat))).bind fun r17 => if (r17) = true then some (((b).take (((1 + ((((b)[((0 : Int)).toNat]!).toNat : Nat) : Int))).toNat)).drop (((1 : Int)).toNat), (1 + ((((b)[((0 : Int)).toNat]!).toNat : Nat) : Int)), 0) else some ([], 0, 4))))
set_option maxRecDepth 100000 in
set_option maxHeartbeats 8000000 in
theorem wire_nameOf_g (N : Nat) (b : List UInt8) (r : (List UInt8) × Int × Int) (hM : wire_nameOf_m N b = some r) (ro : Addr → Option Value) (bv : Value) (hb : Rd encY ro bv b) : Does Try.prog 51 #[bv] ro [] (pV (Value.tuple #[Value.string (⟨(r.1).toArray⟩), Value.int .i64 (r.2.1), Value.int .i64 (r.2.2)])) := by
  unfold wire_nameOf_m at hM
  refine does_of_A follows Try.func51 rfl 28 rfl (upd (fun _ => undef) 0 (bv)) (by funext k; match k with | 0 => rfl | k + 1 => rfl) (fun base0_ => ?_)
  refine A_seq fun K1 hK1 => ?_
  refine A_reg ?_
  refine r_v (Value.string (⟨#[]⟩)) rfl rfl rfl rfl ?_
  refine r_v (Value.int .i64 (0)) rfl rfl rfl rfl ?_
  refine r_v (Value.int .i64 (0)) rfl rfl rfl rfl ?_
  refine lx_nil ?_
  refine hK1 _ _ ?_; try clear hK1 K1
  refine A_seq fun K2 hK2 => ?_
  refine A_seq fun K3 hK3 => ?_
  refine A_reg ?_
  refine r_v (bv) rfl rfl rfl rfl ?_
  refine r_v (Value.int .i64 (((b).length : Int))) rfl rfl rfl (ev_lenSl rfl rfl rfl (Rd.shp hb)) ?_
  refine r_v (Value.bool (((((b).length : Int) : Int) == 0))) rfl rfl rfl rfl ?_
  refine lx_nil ?_
  refine hK3 _ _ ?_; try clear hK3 K3
  refine A_cond (((((b).length : Int) : Int) == 0)) rfl (fun hc4 => ?_) (fun hc4 => ?_)
  · replace hM := ifp (eq_of_beq hc4) hM
    refine A_seq fun K5 hK5 => ?_
    refine A_reg ?_
    refine r_v (Value.string (⟨#[]⟩)) rfl rfl rfl rfl ?_
    refine r_v (Value.int .i64 (0)) rfl rfl rfl rfl ?_
    refine r_v (Value.int .i64 (3)) rfl rfl rfl rfl ?_
    refine lx_nil ?_
    refine hK5 _ _ ?_; try clear hK5 K5
    obtain rfl := Option.some.inj hM
    refine A_ret (fun hn => endsV (v0 := Value.tuple #[Value.string (⟨#[]⟩), Value.int .i64 (0), Value.int .i64 (3)]) rfl (res3 rfl rfl rfl))
  · replace hM := ifn (ne_of_beq_false hc4) hM
    refine A_skip ?_
    refine hK2 _ _ ?_; try clear hK2 K2
    refine A_seq fun K6 hK6 => ?_
    refine A_reg ?_
    refine r_v (bv) rfl rfl rfl rfl ?_
    replace hM := ck_some hM; obtain ⟨ck7, hM⟩ := hM
    refine r_v (elA bv (((0 : Int)).toNat * 1)) rfl rfl rfl (ev_v (ev_idxSl rfl rfl rfl (Rd.shp hb) ck7)) ?_
    refine r_le (Value.int .u8 (((((b)[((0 : Int)).toNat]!).toNat : Nat) : Int))) (En := encY) ((b)[((0 : Int)).toNat]!) (((0 : Int)).toNat) 0 rfl rfl (rd_ro hb) (get_of ck7) rfl ?_
    refine r_w (Value.int .i64 (((((b)[((0 : Int)).toNat]!).toNat : Nat) : Int))) rfl rfl (u8_i64 ((b)[((0 : Int)).toNat]!)) (fun _ => rfl) ?_
    replace hM := ck_some hM; obtain ⟨ck8, hM⟩ := hM
    refine r_v (Value.int .i64 ((1 + ((((b)[((0 : Int)).toNat]!).toNat : Nat) : Int)))) rfl rfl (wi64 rfl ck8.1 ck8.2) rfl ?_
    refine r_v (Value.int .i64 ((1 + ((((b)[((0 : Int)).toNat]!).toNat : Nat) : Int)))) rfl rfl rfl rfl ?_
    refine lx_nil ?_
    refine hK6 _ _ ?_; try clear hK6 K6
    refine A_seq fun K9 hK9 => ?_
    refine A_seq fun K10 hK10 => ?_
    refine A_reg ?_
    refine r_v (bv) rfl rfl rfl rfl ?_
    refine r_v (Value.int .i64 (((b).length : Int))) rfl rfl rfl (ev_lenSl rfl rfl rfl (Rd.shp hb)) ?_
    refine r_v (Value.int .i64 ((1 + ((((b)[((0 : Int)).toNat]!).toNat : Nat) : Int)))) rfl rfl rfl rfl ?_
    refine r_v (Value.bool (decide ((((b).length : Int) : Int) < (1 + ((((b)[((0 : Int)).toNat]!).toNat : Nat) : Int))))) rfl rfl rfl rfl ?_
    refine lx_nil ?_
    refine hK10 _ _ ?_; try clear hK10 K10
    refine A_cond (decide ((((b).length : Int) : Int) < (1 + ((((b)[((0 : Int)).toNat]!).toNat : Nat) : Int)))) rfl (fun hc11 => ?_) (fun hc11 => ?_)
    · replace hM := ifp (of_decide_eq_true hc11) hM
      refine A_seq fun K12 hK12 => ?_
      refine A_reg ?_
      refine r_v (Value.string (⟨#[]⟩)) rfl rfl rfl rfl ?_
      refine r_v (Value.int .i64 (0)) rfl rfl rfl rfl ?_
      refine r_v (Value.int .i64 (3)) rfl rfl rfl rfl ?_
      refine lx_nil ?_
      refine hK12 _ _ ?_; try clear hK12 K12
      obtain rfl := Option.some.inj hM
      refine A_ret (fun hn => endsV (v0 := Value.tuple #[Value.string (⟨#[]⟩), Value.int .i64 (0), Value.int .i64 (3)]) rfl (res3 rfl rfl rfl))
    · replace hM := ifn (of_decide_eq_false hc11) hM
      refine A_skip ?_
      refine hK9 _ _ ?_; try clear hK9 K9
      refine A_seq fun K13 hK13 => ?_
      refine A_reg ?_
      refine r_v (bv) rfl rfl rfl rfl ?_
      refine r_v (Value.int .i64 ((1 + ((((b)[((0 : Int)).toNat]!).toNat : Nat) : Int)))) rfl rfl rfl rfl ?_
      replace hM := ck_some hM; obtain ⟨ck14, hM⟩ := hM
      refine r_v (subA bv (((1 : Int)).toNat) (((1 + ((((b)[((0 : Int)).toNat]!).toNat : Nat) : Int))).toNat) 1) rfl rfl rfl (ev_v (ev_subSl rfl rfl rfl rfl rfl (Rd.shp hb) ck14)) ?_
      refine r_stl (e := 5) (((b).take (((1 + ((((b)[((0 : Int)).toNat]!).toNat : Nat) : Int))).toNat)).drop (((1 : Int)).toNat)) rfl rfl rfl rfl rfl (rd_sub (rd_ro hb) (toNat_le ck14) (toNat_len ck14.2.2)) ?_
      refine r_v (Value.string (⟨(((b).take (((1 + ((((b)[((0 : Int)).toNat]!).toNat : Nat) : Int))).toNat)).drop (((1 : Int)).toNat)).toArray⟩)) rfl rfl rfl rfl ?_
      refine lx_nil ?_
      refine hK13 _ _ ?_; try clear hK13 K13
      refine A_seq fun K15 hK15 => ?_
      refine A_seq fun K16 hK16 => ?_
      refine A_reg ?_
      refine r_v (Value.string (⟨(((b).take (((1 + ((((b)[((0 : Int)).toNat]!).toNat : Nat) : Int))).toNat)).drop (((1 : Int)).toNat)).toArray⟩)) rfl rfl rfl rfl ?_
      replace hM := bind_sm hM; obtain ⟨r17, hr18, hM⟩ := hM
      refine r_c (Value.bool (r17)) rfl _ _ (ev_callF rfl call_73 rfl) (name_May_g N (((b).take (((1 + ((((b)[((0 : Int)).toNat]!).toNat : Nat) : Int))).toNat)).drop (((1 : Int)).toNat)) _ hr18) ?_
      refine r_v (Value.bool (!(r17))) rfl rfl rfl rfl ?_
      refine lx_nil ?_
      refine hK16 _ _ ?_; try clear hK16 K16
      refine A_cond (!(r17)) rfl (fun hc19 => ?_) (fun hc19 => ?_)
      · replace hM := ifn (Bool.eq_false_iff.1 (not_t hc19)) hM
        refine A_seq fun K20 hK20 => ?_
        refine A_reg ?_
        refine r_v (Value.string (⟨#[]⟩)) rfl rfl rfl rfl ?_
        refine r_v (Value.int .i64 (0)) rfl rfl rfl rfl ?_
        refine r_v (Value.int .i64 (4)) rfl rfl rfl rfl ?_
        refine lx_nil ?_
        refine hK20 _ _ ?_; try clear hK20 K20
        obtain rfl := Option.some.inj hM
        refine A_ret (fun hn => endsV (v0 := Value.tuple #[Value.string (⟨#[]⟩), Value.int .i64 (0), Value.int .i64 (4)]) rfl (res3 rfl rfl rfl))
      · replace hM := ifp (not_f hc19) hM
        refine A_skip ?_
        refine hK15 _ _ ?_; try clear hK15 K15
        refine A_seq fun K21 hK21 => ?_
        refine A_reg ?_
        refine r_v (Value.string (⟨(((b).take (((1 + ((((b)[((0 : Int)).toNat]!).toNat : Nat) : Int))).toNat)).drop (((1 : Int)).toNat)).toArray⟩)) rfl rfl rfl rfl ?_
        refine r_v (Value.int .i64 ((1 + ((((b)[((0 : Int)).toNat]!).toNat : Nat) : Int)))) rfl rfl rfl rfl ?_
        refine r_v (Value.string (⟨(((b).take (((1 + ((((b)[((0 : Int)).toNat]!).toNat : Nat) : Int))).toNat)).drop (((1 : Int)).toNat)).toArray⟩)) rfl rfl rfl rfl ?_
        refine r_v (Value.int .i64 ((1 + ((((b)[((0 : Int)).toNat]!).toNat : Nat) : Int)))) rfl rfl rfl rfl ?_
        refine r_v (Value.int .i64 (0)) rfl rfl rfl rfl ?_
        refine lx_nil ?_
        refine hK21 _ _ ?_; try clear hK21 K21
        obtain rfl := Option.some.inj hM
        refine A_ret (fun hn => endsV (v0 := Value.tuple #[Value.string (⟨(((b).take (((1 + ((((b)[((0 : Int)).toNat]!).toNat : Nat) : Int))).toNat)).drop (((1 : Int)).toNat)).toArray⟩), Value.int .i64 ((1 + ((((b)[((0 : Int)).toNat]!).toNat : Nat) : Int))), Value.int .i64 (0)]) rfl (res3 rfl rfl rfl))
def wire_take_string__v2_m (N : Nat) (r_0 : List UInt8) (r_1 : Int) (r_2 : Int) : Option ((List UInt8) × (List UInt8) × Int × Int) := (wire_Reader_Bad_v1_m N r_0 r_1 r_2).bind fun r5 => if (r5) = true then some ([], r_0, r_1, r_2) else ck (0 ≤ r_1 ∧ r_1 ≤ ((r_0).length : Int)) ((wire_nameOf_m N (((r_0).take ((r_0).length)).drop ((r_1).toNat))).bind fun r11 => if (r11.2.2 : Int) ≠ 0 then (wire_spot_fail_v2_m N r_0 r_1 r_2 r11.2.2).bind fun r17 => ck ((r17.1).length = (r_0).length) (some ([], r17.1, r17.2.1, r17.2.2)) else ck ((-9223372036854775808 ≤ (r_1 + r11.2.1) ∧ (r_1 + r11.2.1) ≤ 9223372036854775807)) (some (r11.1, r_0, (r_1 + r11.2.1), r_2)))
set_option maxRecDepth 100000 in
set_option maxHeartbeats 8000000 in
theorem wire_take_string__v2_g (N : Nat) (r_0 : List UInt8) (r_1 : Int) (r_2 : Int) (r : (List UInt8) × (List UInt8) × Int × Int) (hM : wire_take_string__v2_m N r_0 r_1 r_2 = some r) (ro : Addr → Option Value) (br : Nat) (r_0v : Value) (Sr_0 : List Bl) (hr_0 : Sl 5 encY r_0v r_0 Sr_0) : Does Try.prog 50 #[Value.pointer (some ⟨br, 0, none⟩), Value.func (.func 51) #[] #[]] ro (List.flatten [[(br, 69, #[r_0v, Value.int .i64 (r_1), Value.int .i64 (r_2)])], Sr_0]) (pO (List.flatten [[(br, 69, #[r_0v, Value.int .i64 (r_1), Value.int .i64 (r_2)])], Sr_0]) (oI 5 encY r_0v r.2.1 (oE (Value.string (⟨(r.1).toArray⟩)) [[(br, 69, #[r_0v, Value.int .i64 (r.2.2.1), Value.int .i64 (r.2.2.2)])]]))) := by
  unfold wire_take_string__v2_m at hM
  refine doesO_of_A follows Try.func50 rfl 47 rfl (upd (upd (fun _ => undef) 1 (Value.func (.func 51) #[] #[])) 0 (Value.pointer (some ⟨br, 0, none⟩))) (by funext k; match k with | 0 => rfl | 1 => rfl | k + 2 => rfl) (fun _ _ h_ _ => h_) (fun base0_ => ?_)
  refine A_seq fun K1 hK1 => ?_
  refine A_reg ?_
  refine r_v (Value.string (⟨#[]⟩)) rfl rfl rfl rfl ?_
  refine lx_nil ?_
  refine hK1 _ _ ?_; try clear hK1 K1
  refine A_seq fun K2 hK2 => ?_
  refine A_reg ?_
  refine r_v (Value.string (⟨#[]⟩)) rfl rfl rfl rfl ?_
  refine lx_nil ?_
  refine hK2 _ _ ?_; try clear hK2 K2
  refine A_seq fun K3 hK3 => ?_
  refine A_seq fun K4 hK4 => ?_
  refine A_regC [(some 10, false)] (conG Try.prog [(10, fun _ _ v_ L_ U_ => ∀ u0_, wire_Reader_Bad_v1_m N r_0 r_1 r_2 = some u0_ → (pV (Value.bool (u0_))) v_ L_ U_)]) ?_
  refine r_v (Value.pointer (some ⟨br, 0, none⟩)) rfl rfl rfl rfl ?_
  replace hM := bind_sm hM; obtain ⟨r5, hr6, hM⟩ := hM
  refine r_gv (Value.bool (r5)) 13 _ rfl rfl rfl (ev_callF rfl call_13 rfl) (fun own_ nw_ hs_ => wire_Reader_Bad_v1_g N r_0 r_1 r_2 _ hr6 hs_.view br r_0v ((rd_own hr_0 (mem_chunk (Ls := [[(br, 69, #[r_0v, Value.int .i64 (r_1), Value.int .i64 (r_2)])], Sr_0]) (k := 1) rfl rfl)) own_ nw_ hs_) (blk_own 0 rfl rfl own_ nw_ hs_)) (fun _ _ v_ L_ U_ => ⟨fun h_ => h_ _ hr6, fun h_ => by intro _ e_; cases Option.some.inj (e_.symm.trans hr6); exact h_⟩) ?_
  refine lx_nil ?_
  refine hK4 _ _ ?_; try clear hK4 K4
  refine A_cond (r5) rfl (fun hc7 => ?_) (fun hc7 => ?_)
  · replace hM := ifp hc7 hM
    refine A_seq fun K8 hK8 => ?_
    refine A_reg ?_
    refine r_v (Value.string (⟨#[]⟩)) rfl rfl rfl rfl ?_
    refine r_v (Value.string (⟨#[]⟩)) rfl rfl rfl rfl ?_
    refine lx_nil ?_
    refine hK8 _ _ ?_; try clear hK8 K8
    obtain rfl := Option.some.inj hM
    refine A_ret (fun hn => endsO (v0 := Value.string (⟨#[]⟩)) (O := [Sr_0, [(br, 69, #[r_0v, Value.int .i64 (r_1), Value.int .i64 (r_2)])]]) (res1 rfl) (Sub.pick [[(br, 69, #[r_0v, Value.int .i64 (r_1), Value.int .i64 (r_2)])], Sr_0] [1, 0] rfl) ⟨Sr_0, _, hr_0, ⟨rfl, rfl⟩, rfl⟩)
  · replace hM := ifn (Bool.eq_false_iff.1 hc7) hM
    refine A_skip ?_
    refine hK3 _ _ ?_; try clear hK3 K3
    refine A_seq fun K9 hK9 => ?_
    refine A_drawR [(some 24, false)] (conG Try.prog [(24, fun _ _ v_ L_ U_ => ∀ u0_, wire_nameOf_m N (((r_0).take ((r_0).length)).drop ((r_1).toNat)) = some u0_ → (pV (Value.tuple #[Value.string (⟨(u0_.1).toArray⟩), Value.int .i64 (u0_.2.1), Value.int .i64 (u0_.2.2)])) v_ L_ U_)]) [] (by decide +kernel) (fun hn => sep_nil) ?_
    refine r_v (Value.func (.func 51) #[] #[]) rfl rfl rfl rfl ?_
    refine r_v (Value.pointer (some ⟨br, 0, none⟩)) rfl rfl rfl rfl ?_
    refine r_v (Value.pointer (some ⟨br, 0, none⟩)) rfl rfl rfl rfl ?_
    refine r_v (Value.pointer (some ⟨br, 0, none⟩)) rfl rfl rfl rfl ?_
    refine r_l (r_0v) 0 _ _ _ _ rfl rfl rfl rfl rfl ?_
    refine r_v (Value.pointer (some ⟨br, 0, none⟩)) rfl rfl rfl rfl ?_
    refine r_v (Value.pointer (some ⟨br, 0, none⟩)) rfl rfl rfl rfl ?_
    refine r_v (Value.pointer (some ⟨br, 1, none⟩)) rfl rfl rfl rfl ?_
    refine r_v (Value.pointer (some ⟨br, 1, none⟩)) rfl rfl rfl rfl ?_
    refine r_l (Value.int .i64 (r_1)) 0 _ _ _ _ rfl rfl rfl rfl rfl ?_
    replace hM := ck_some hM; obtain ⟨ck10, hM⟩ := hM
    refine r_v (subA r_0v ((r_1).toNat) ((r_0).length) 1) rfl rfl rfl (ev_v (ev_subSl1 rfl rfl rfl rfl (Sl.shp hr_0) ck10)) ?_
    replace hM := bind_sm hM; obtain ⟨r11, hr12, hM⟩ := hM
    refine r_gv (Value.tuple #[Value.string (⟨(r11.1).toArray⟩), Value.int .i64 (r11.2.1), Value.int .i64 (r11.2.2)]) 51 _ rfl rfl rfl (ev_callV (caps := []) rfl call_51 rfl) (fun own_ nw_ hs_ => wire_nameOf_g N (((r_0).take ((r_0).length)).drop ((r_1).toNat)) _ hr12 hs_.view (subA r_0v ((r_1).toNat) ((r_0).length) 1) ((rd_sub (rd_own hr_0 (mem_chunk (Ls := [[(br, 69, #[r_0v, Value.int .i64 (r_1), Value.int .i64 (r_2)])], Sr_0]) (k := 1) rfl rfl)) (toNat_len ck10.2) (Nat.le_refl _)) own_ nw_ hs_)) (fun _ _ v_ L_ U_ => ⟨fun h_ => h_ _ hr12, fun h_ => by intro _ e_; cases Option.some.inj (e_.symm.trans hr12); exact h_⟩) ?_
    refine r_v (Value.tuple #[Value.string (⟨(r11.1).toArray⟩), Value.int .i64 (r11.2.1), Value.int .i64 (r11.2.2)]) rfl rfl rfl rfl ?_
    refine r_v (Value.string (⟨(r11.1).toArray⟩)) rfl rfl rfl rfl ?_
    refine r_v (Value.int .i64 (r11.2.1)) rfl rfl rfl rfl ?_
    refine r_v (Value.int .i64 (r11.2.2)) rfl rfl rfl rfl ?_
    refine r_v (Value.string (⟨(r11.1).toArray⟩)) rfl rfl rfl rfl ?_
    refine r_v (Value.int .i64 (r11.2.1)) rfl rfl rfl rfl ?_
    refine r_v (Value.int .i64 (r11.2.2)) rfl rfl rfl rfl ?_
    refine lx_nil ?_
    refine hK9 _ _ ?_; try clear hK9 K9
    refine A_seq fun K13 hK13 => ?_
    refine A_seq fun K14 hK14 => ?_
    refine A_reg ?_
    refine r_v (Value.int .i64 (r11.2.2)) rfl rfl rfl rfl ?_
    refine r_v (Value.bool (((r11.2.2 : Int) != 0))) rfl rfl rfl rfl ?_
    refine lx_nil ?_
    refine hK14 _ _ ?_; try clear hK14 K14
    refine A_cond (((r11.2.2 : Int) != 0)) rfl (fun hc15 => ?_) (fun hc15 => ?_)
    · replace hM := ifp (bne_iff_ne.1 hc15) hM
      refine A_seq fun K16 hK16 => ?_
      refine A_regC [(some 34, true)] (conG Try.prog [(34, fun _ _ v_ L_ U_ => ∀ u0_, wire_spot_fail_v2_m N r_0 r_1 r_2 r11.2.2 = some u0_ → (pO (List.flatten [[(br, 69, #[r_0v, Value.int .i64 (r_1), Value.int .i64 (r_2)])], Sr_0]) (oI 5 encY r_0v u0_.1 (oE (Value.tuple #[]) [[(br, 69, #[r_0v, Value.int .i64 (u0_.2.1), Value.int .i64 (u0_.2.2)])]]))) v_ L_ U_)]) ?_
      refine r_v (Value.pointer (some ⟨br, 0, none⟩)) rfl rfl rfl rfl ?_
      refine r_v (Value.pointer (some ⟨br, 0, none⟩)) rfl rfl rfl rfl ?_
      refine r_v (Value.pointer (some ⟨br, 1, none⟩)) rfl rfl rfl rfl ?_
      refine r_v (Value.int .i64 (r11.2.2)) rfl rfl rfl rfl ?_
      replace hM := bind_sm hM; obtain ⟨r17, hr18, hM⟩ := hM
      replace hM := ck_some hM; obtain ⟨ck19, hM⟩ := hM
      refine r_gm (Ls := [[(br, 69, #[r_0v, Value.int .i64 (r_1), Value.int .i64 (r_2)])], Sr_0]) (FL := [[(br, 69, #[r_0v, Value.int .i64 (r_1), Value.int .i64 (r_2)])], Sr_0]) (RL := []) [0, 1] (oI 5 encY r_0v r17.1 (oE (Value.tuple #[]) [[(br, 69, #[r_0v, Value.int .i64 (r17.2.1), Value.int .i64 (r17.2.2)])]])) (some 34) 66 _ rfl rfl rfl rfl rfl (ev_callF rfl call_66 rfl) (fun own_ nw_ hn_ hs_ => wire_spot_fail_v2_g N r_0 r_1 r_2 r11.2.2 _ hr18 _ br r_0v Sr_0 hr_0) (fun _ _ v_ L_ U_ => ⟨fun h_ => h_ _ hr18, fun h_ => by intro _ e_; cases Option.some.inj (e_.symm.trans hr18); exact h_⟩) (fun h_ => nomatch h_) ?_
      rintro _ _ ⟨S20, _, H21, ⟨rfl, rfl⟩, rfl⟩
      refine lx_perm (Ls := [S20, [(br, 69, #[r_0v, Value.int .i64 (r17.2.1), Value.int .i64 (r17.2.2)])]]) (Ls' := [[(br, 69, #[r_0v, Value.int .i64 (r17.2.1), Value.int .i64 (r17.2.2)])], S20]) [1, 0] rfl rfl ?_
      refine lx_nil ?_
      refine hK16 _ _ ?_; try clear hK16 K16
      refine A_gen [(5, Value.string (⟨#[]⟩))] rfl (fun T => ?_)
      refine A_seq fun K22 hK22 => ?_
      refine A_reg ?_
      refine r_v (Value.string (⟨#[]⟩)) rfl rfl rfl rfl ?_
      refine r_v (Value.string (⟨#[]⟩)) rfl rfl rfl rfl ?_
      refine lx_nil ?_
      refine hK22 _ _ ?_; try clear hK22 K22
      obtain rfl := Option.some.inj hM
      refine A_ret (fun hn => endsO (v0 := Value.string (⟨#[]⟩)) (O := [S20, [(br, 69, #[r_0v, Value.int .i64 (r17.2.1), Value.int .i64 (r17.2.2)])]]) (res1 rfl) (Sub.pick [[(br, 69, #[r_0v, Value.int .i64 (r17.2.1), Value.int .i64 (r17.2.2)])], S20] [1, 0] rfl) ⟨S20, _, H21, ⟨rfl, rfl⟩, rfl⟩)
    · replace hM := ifn (bne_f hc15) hM
      refine A_skip ?_
      refine hK13 _ _ ?_; try clear hK13 K13
      refine A_seq fun K23 hK23 => ?_
      refine A_reg ?_
      refine r_v (Value.pointer (some ⟨br, 0, none⟩)) rfl rfl rfl rfl ?_
      refine r_v (Value.pointer (some ⟨br, 0, none⟩)) rfl rfl rfl rfl ?_
      refine r_v (Value.pointer (some ⟨br, 1, none⟩)) rfl rfl rfl rfl ?_
      refine r_v (Value.pointer (some ⟨br, 1, none⟩)) rfl rfl rfl rfl ?_
      refine r_l (Value.int .i64 (r_1)) 0 _ _ _ _ rfl rfl rfl rfl rfl ?_
      refine r_v (Value.int .i64 (r11.2.1)) rfl rfl rfl rfl ?_
      replace hM := ck_some hM; obtain ⟨ck24, hM⟩ := hM
      refine r_v (Value.int .i64 ((r_1 + r11.2.1))) rfl rfl (wi64 rfl ck24.1 ck24.2) rfl ?_
      refine r_v (Value.pointer (some ⟨br, 0, none⟩)) rfl rfl rfl rfl ?_
      refine r_v (Value.pointer (some ⟨br, 1, none⟩)) rfl rfl rfl rfl ?_
      refine r_v (Value.pointer (some ⟨br, 1, none⟩)) rfl rfl rfl rfl ?_
      refine r_s (List.flatten [[(br, 69, #[r_0v, Value.int .i64 ((r_1 + r11.2.1)), Value.int .i64 (r_2)])], Sr_0]) 0 _ _ _ (#[r_0v, Value.int .i64 (r_1), Value.int .i64 (r_2)]) (#[Value.int .i64 ((r_1 + r11.2.1))]) (#[r_0v, Value.int .i64 ((r_1 + r11.2.1)), Value.int .i64 (r_2)]) rfl rfl rfl rfl (.of rfl rfl) rfl rfl ?_
      refine lx_nil ?_
      refine hK23 _ _ ?_; try clear hK23 K23
      refine A_gen [(6, Value.string (⟨(r11.1).toArray⟩))] rfl (fun T => ?_)
      refine A_seq fun K25 hK25 => ?_
      refine A_reg ?_
      refine r_v (Value.string (⟨(r11.1).toArray⟩)) rfl rfl rfl rfl ?_
      refine r_v (Value.string (⟨(r11.1).toArray⟩)) rfl rfl rfl rfl ?_
      refine lx_nil ?_
      refine hK25 _ _ ?_; try clear hK25 K25
      obtain rfl := Option.some.inj hM
      refine A_ret (fun hn => endsO (v0 := Value.string (⟨(r11.1).toArray⟩)) (O := [Sr_0, [(br, 69, #[r_0v, Value.int .i64 ((r_1 + r11.2.1)), Value.int .i64 (r_2)])]]) (res1 rfl) (Sub.pick [[(br, 69, #[r_0v, Value.int .i64 ((r_1 + r11.2.1)), Value.int .i64 (r_2)])], Sr_0] [1, 0] rfl) ⟨Sr_0, _, hr_0, ⟨rfl, rfl⟩, rfl⟩)
def wire_Reader_Name_v1_m (N : Nat) (r_0 : List UInt8) (r_1 : Int) (r_2 : Int) : Option ((List UInt8) × (List UInt8) × Int × Int) := (wire_take_string__v2_m N r_0 r_1 r_2).bind fun r3 => ck ((r3.2.1).length = (r_0).length) (some (r3.1, r3.2.1, r3.2.2.1, r3.2.2.2))
set_option maxRecDepth 100000 in
set_option maxHeartbeats 8000000 in
theorem wire_Reader_Name_v1_g (N : Nat) (r_0 : List UInt8) (r_1 : Int) (r_2 : Int) (r : (List UInt8) × (List UInt8) × Int × Int) (hM : wire_Reader_Name_v1_m N r_0 r_1 r_2 = some r) (ro : Addr → Option Value) (br : Nat) (r_0v : Value) (Sr_0 : List Bl) (hr_0 : Sl 5 encY r_0v r_0 Sr_0) : Does Try.prog 23 #[Value.pointer (some ⟨br, 0, none⟩)] ro (List.flatten [[(br, 69, #[r_0v, Value.int .i64 (r_1), Value.int .i64 (r_2)])], Sr_0]) (pO (List.flatten [[(br, 69, #[r_0v, Value.int .i64 (r_1), Value.int .i64 (r_2)])], Sr_0]) (oI 5 encY r_0v r.2.1 (oE (Value.string (⟨(r.1).toArray⟩)) [[(br, 69, #[r_0v, Value.int .i64 (r.2.2.1), Value.int .i64 (r.2.2.2)])]]))) := by
  unfold wire_Reader_Name_v1_m at hM
  refine doesO_of_A follows Try.func23 rfl 5 rfl (upd (fun _ => undef) 0 (Value.pointer (some ⟨br, 0, none⟩))) (by funext k; match k with | 0 => rfl | k + 1 => rfl) (fun _ _ h_ _ => h_) (fun base0_ => ?_)
  refine A_seq fun K1 hK1 => ?_
  refine A_reg ?_
  refine r_v (Value.string (⟨#[]⟩)) rfl rfl rfl rfl ?_
  refine lx_nil ?_
  refine hK1 _ _ ?_; try clear hK1 K1
  refine A_seq fun K2 hK2 => ?_
  refine A_regC [(some 4, true)] (conG Try.prog [(4, fun _ _ v_ L_ U_ => ∀ u0_, wire_take_string__v2_m N r_0 r_1 r_2 = some u0_ → (pO (List.flatten [[(br, 69, #[r_0v, Value.int .i64 (r_1), Value.int .i64 (r_2)])], Sr_0]) (oI 5 encY r_0v u0_.2.1 (oE (Value.string (⟨(u0_.1).toArray⟩)) [[(br, 69, #[r_0v, Value.int .i64 (u0_.2.2.1), Value.int .i64 (u0_.2.2.2)])]]))) v_ L_ U_)]) ?_
  refine r_v (Value.pointer (some ⟨br, 0, none⟩)) rfl rfl rfl rfl ?_
  replace hM := bind_sm hM; obtain ⟨r3, hr4, hM⟩ := hM
  replace hM := ck_some hM; obtain ⟨ck5, hM⟩ := hM
  refine r_gm (Ls := [[(br, 69, #[r_0v, Value.int .i64 (r_1), Value.int .i64 (r_2)])], Sr_0]) (FL := [[(br, 69, #[r_0v, Value.int .i64 (r_1), Value.int .i64 (r_2)])], Sr_0]) (RL := []) [0, 1] (oI 5 encY r_0v r3.2.1 (oE (Value.string (⟨(r3.1).toArray⟩)) [[(br, 69, #[r_0v, Value.int .i64 (r3.2.2.1), Value.int .i64 (r3.2.2.2)])]])) (some 4) 50 _ rfl rfl rfl rfl rfl (ev_callF rfl call_50 rfl) (fun own_ nw_ hn_ hs_ => wire_take_string__v2_g N r_0 r_1 r_2 _ hr4 _ br r_0v Sr_0 hr_0) (fun _ _ v_ L_ U_ => ⟨fun h_ => h_ _ hr4, fun h_ => by intro _ e_; cases Option.some.inj (e_.symm.trans hr4); exact h_⟩) (fun h_ => nomatch h_) ?_
  rintro _ _ ⟨S6, _, H7, ⟨rfl, rfl⟩, rfl⟩
  refine lx_perm (Ls := [S6, [(br, 69, #[r_0v, Value.int .i64 (r3.2.2.1), Value.int .i64 (r3.2.2.2)])]]) (Ls' := [[(br, 69, #[r_0v, Value.int .i64 (r3.2.2.1), Value.int .i64 (r3.2.2.2)])], S6]) [1, 0] rfl rfl ?_
  refine r_v (Value.string (⟨(r3.1).toArray⟩)) rfl rfl rfl rfl ?_
  refine lx_nil ?_
  refine hK2 _ _ ?_; try clear hK2 K2
  obtain rfl := Option.some.inj hM
  refine A_ret (fun hn => endsO (v0 := Value.string (⟨(r3.1).toArray⟩)) (O := [S6, [(br, 69, #[r_0v, Value.int .i64 (r3.2.2.1), Value.int .i64 (r3.2.2.2)])]]) (res1 rfl) (Sub.pick [[(br, 69, #[r_0v, Value.int .i64 (r3.2.2.1), Value.int .i64 (r3.2.2.2)])], S6] [1, 0] rfl) ⟨S6, _, H7, ⟨rfl, rfl⟩, rfl⟩)
def shunterref05_more_m (_ : Nat) (c : UInt8) : Option (Bool) := if (((c.toNat : Nat) : Int) : Int) ≥ 128 then some (decide ((((c.toNat : Nat) : Int) : Int) < 192)) else some (false)
set_option maxRecDepth 100000 in
set_option maxHeartbeats 8000000 in
theorem shunterref05_more_g (N : Nat) (c : UInt8) (r : Bool) (hM : shunterref05_more_m N c = some r) : Gives Try.prog 78 #[Value.int .u8 (((c.toNat : Nat) : Int))] (Value.bool (r)) := by
  unfold shunterref05_more_m at hM
  refine gives_of_A follows Try.func78 rfl 9 rfl (upd (fun _ => undef) 0 (Value.int .u8 (((c.toNat : Nat) : Int)))) (by funext k; match k with | 0 => rfl | k + 1 => rfl) (fun base0_ => ?_)
  refine A_seq fun K1 hK1 => ?_
  refine A_reg ?_
  refine r_v (Value.bool (false)) rfl rfl rfl rfl ?_
  refine lx_nil ?_
  refine hK1 _ _ ?_; try clear hK1 K1
  refine A_seq fun K2 hK2 => ?_
  refine A_reg ?_
  refine r_v (Value.int .u8 (((c.toNat : Nat) : Int))) rfl rfl rfl rfl ?_
  refine r_v (Value.bool (decide ((((c.toNat : Nat) : Int) : Int) ≥ 128))) rfl rfl rfl rfl ?_
  refine r_v (Value.bool (decide ((((c.toNat : Nat) : Int) : Int) ≥ 128))) rfl rfl rfl rfl ?_
  rcases hg3 : (decide ((((c.toNat : Nat) : Int) : Int) ≥ 128)) with _ | _
  · replace hM := ifn (of_decide_eq_false hg3) hM
    refine r_n false rfl (by decide) rfl ?_
    refine r_n false rfl (by decide) rfl ?_
    refine r_v (Value.bool (false)) rfl rfl rfl rfl ?_
    refine r_v (Value.bool (false)) rfl rfl rfl rfl ?_
    refine lx_nil ?_
    refine hK2 _ _ ?_; try clear hK2 K2
    obtain rfl := Option.some.inj hM
    refine A_ret (fun hn => ends_eq (v0 := Value.bool (false)) rfl (res1 rfl))
  · replace hM := ifp (of_decide_eq_true hg3) hM
    refine r_y rfl ?_
    refine r_v (Value.int .u8 (((c.toNat : Nat) : Int))) rfl rfl rfl rfl ?_
    refine r_y rfl ?_
    refine r_v (Value.bool (decide ((((c.toNat : Nat) : Int) : Int) < 192))) rfl rfl rfl rfl ?_
    refine r_v (Value.bool (decide ((((c.toNat : Nat) : Int) : Int) < 192))) rfl rfl rfl rfl ?_
    refine r_v (Value.bool (decide ((((c.toNat : Nat) : Int) : Int) < 192))) rfl rfl rfl rfl ?_
    refine lx_nil ?_
    refine hK2 _ _ ?_; try clear hK2 K2
    obtain rfl := Option.some.inj hM
    refine A_ret (fun hn => ends_eq (v0 := Value.bool (decide ((((c.toNat : Nat) : Int) : Int) < 192))) rfl (res1 rfl))
def shunterref05_First_k5 (s : List UInt8) (x4_ : Bool) : Option (Int × Int) := if (x4_) = true then ck ((-9223372036854775808 ≤ ((((byteN (s) (0)).toNat : Nat) : Int) - 240) ∧ ((((byteN (s) (0)).toNat : Nat) : Int) - 240) ≤ 9223372036854775807)) (ck ((-9223372036854775808 ≤ (262144 * ((((byteN (s) (0)).toNat : Nat) : Int) - 240)) ∧ (262144 * ((((byteN (s) (0)).toNat : Nat) : Int) - 240)) ≤ 9223372036854775807)) (ck ((0 : Int) ≤ 1 ∧ 1 < ((s).length : Int)) (ck ((-9223372036854775808 ≤ ((((byteN (s) (1)).toNat : Nat) : Int) - 128) ∧ ((((byteN (s) (1)).toNat : Nat) : Int) - 128) ≤ 9223372036854775807)) (ck ((-9223372036854775808 ≤ (4096 * ((((byteN (s) (1)).toNat : Nat) : Int) - 128)) ∧ (4096 * ((((byteN (s) (1)).toNat : Nat) : Int) - 128)) ≤ 9223372036854775807)) (ck ((-9223372036854775808 ≤ ((262144 * ((((byteN (s) (0)).toNat : Nat) : Int) - 240)) + (4096 * ((((byteN (s) (1)).toNat : Nat) : Int) - 128))) ∧ ((262144 * ((((byteN (s) (0)).toNat : Nat) : Int) - 240)) + (4096 * ((((byteN (s) (1)).toNat : Nat) : Int) - 128))) ≤ 9223372036854775807)) (ck ((0 : Int) ≤ 2 ∧ 2 < ((s).length : Int)) (ck ((-9223372036854775808 ≤ ((((byteN (s) (2)).toNat : Nat) : Int) - 128) ∧ ((((byteN (s) (2)).toNat : Nat) : Int) - 128) ≤ 9223372036854775807)) (ck ((-9223372036854775808 ≤ (64 * ((((byteN (s) (2)).toNat : Nat) : Int) - 128)) ∧ (64 * ((((byteN (s) (2)).toNat : Nat) : Int) - 128)) ≤ 9223372036854775807)) (ck ((-9223372036854775808 ≤ (((262144 * ((((byteN (s) (0)).toNat : Nat) : Int) - 240)) + (4096 * ((((byteN (s) (1)).toNat : Nat) : Int) - 128))) + (64 * ((((byteN (s) (2)).toNat : Nat) : Int) - 128))) ∧ (((262144 * ((((byteN (s) (0)).toNat : Nat) : Int) - 240)) + (4096 * ((((byteN (s) (1)).toNat : Nat) : Int) - 128))) + (64 * ((((byteN (s) (2)).toNat : Nat) : Int) - 128))) ≤ 9223372036854775807)) (ck ((0 : Int) ≤ 3 ∧ 3 < ((s).length : Int)) (ck ((-9223372036854775808 ≤ ((((262144 * ((((byteN (s) (0)).toNat : Nat) : Int) - 240)) + (4096 * ((((byteN (s) (1)).toNat : Nat) : Int) - 128))) + (64 * ((((byteN (s) (2)).toNat : Nat) : Int) - 128))) + (((byteN (s) (3)).toNat : Nat) : Int)) ∧ ((((262144 * ((((byteN (s) (0)).toNat : Nat) : Int) - 240)) + (4096 * ((((byteN (s) (1)).toNat : Nat) : Int) - 128))) + (64 * ((((byteN (s) (2)).toNat : Nat) : Int) - 128))) + (((byteN (s) (3)).toNat : Nat) : Int)) ≤ 9223372036854775807)) (ck ((-9223372036854775808 ≤ (((((262144 * ((((byteN (s) (0)).toNat : Nat) : Int) - 240)) + (4096 * ((((byteN (s) (1)).toNat : Nat) : Int) - 128))) + (64 * ((((byteN (s) (2)).toNat : Nat) : Int) - 128))) + (((byteN (s) (3)).toNat : Nat) : Int)) - 128) ∧ (((((262144 * ((((byteN (s) (0)).toNat : Nat) : Int) - 240)) + (4096 * ((((byteN (s) (1)).toNat : Nat) : Int) - 128))) + (64 * ((((byteN (s) (2)).toNat : Nat) : Int) - 128))) + (((byteN (s) (3)).toNat : Nat) : Int)) - 128) ≤ 9223372036854775807)) (if ((((((262144 * ((((byteN (s) (0)).toNat : Nat) : Int) - 240)) + (4096 * ((((byteN (s) (1)).toNat : Nat) : Int) - 128))) + (64 * ((((byteN (s) (2)).toNat : Nat) : Int) - 128))) + (((byteN (s) (3)).toNat : Nat) : Int)) - 128) : Int) ≥ 65536 then if ((((((262144 * ((((byteN (s) (0)).toNat : Nat) : Int) - 240)) + (4096 * ((((byteN (s) (1)).toNat : Nat) : Int) - 128))) + (64 * ((((byteN (s) (2)).toNat : Nat) : Int) - 128))) + (((byteN (s) (3)).toNat : Nat) : Int)) - 128) : Int) ≤ 1114111 then some ((((((262144 * ((((byteN (s) (0)).toNat : Nat) : Int) - 240)) + (4096 * ((((byteN (s) (1)).toNat : Nat) : Int) - 128))) + (64 * ((((byteN (s) (2)).toNat : Nat) : Int) - 128))) + (((byteN (s) (3)).toNat : Nat) : Int)) - 128), 4) else some (65533, 1) else some (65533, 1)))))))))))))) else some (65533, 1)
def shunterref05_First_k3 (N : Nat) (s : List UInt8) : Option (Int × Int) := if ((((byteN (s) (0)).toNat : Nat) : Int) : Int) ≥ 240 then if ((((byteN (s) (0)).toNat : Nat) : Int) : Int) < 245 then if (((s).length : Int) : Int) ≥ 4 then ck ((0 : Int) ≤ 1 ∧ 1 < ((s).length : Int)) ((shunterref05_more_m N (byteN (s) (1))).bind fun r47 => if (r47) = true then ck ((0 : Int) ≤ 2 ∧ 2 < ((s).length : Int)) ((shunterref05_more_m N (byteN (s) (2))).bind fun r51 => if (r51) = true then ck ((0 : Int) ≤ 3 ∧ 3 < ((s).length : Int)) ((shunterref05_more_m N (byteN (s) (3))).bind fun r55 => shunterref05_First_k5 s (r55)) else shunterref05_First_k5 s (false)) else shunterref05_First_k5 s (false)) else shunterref05_First_k5 s (false) else shunterref05_First_k5 s (false) else shunterref05_First_k5 s (false)
def shunterref05_First_k7 (N : Nat) (s : List UInt8) (x6_ : Bool) : Option (Int × Int) := if (x6_) = true then ck ((-9223372036854775808 ≤ ((((byteN (s) (0)).toNat : Nat) : Int) - 224) ∧ ((((byteN (s) (0)).toNat : Nat) : Int) - 224) ≤ 9223372036854775807)) (ck ((-9223372036854775808 ≤ (4096 * ((((byteN (s) (0)).toNat : Nat) : Int) - 224)) ∧ (4096 * ((((byteN (s) (0)).toNat : Nat) : Int) - 224)) ≤ 9223372036854775807)) (ck ((0 : Int) ≤ 1 ∧ 1 < ((s).length : Int)) (ck ((-9223372036854775808 ≤ ((((byteN (s) (1)).toNat : Nat) : Int) - 128) ∧ ((((byteN (s) (1)).toNat : Nat) : Int) - 128) ≤ 9223372036854775807)) (ck ((-9223372036854775808 ≤ (64 * ((((byteN (s) (1)).toNat : Nat) : Int) - 128)) ∧ (64 * ((((byteN (s) (1)).toNat : Nat) : Int) - 128)) ≤ 9223372036854775807)) (ck ((-9223372036854775808 ≤ ((4096 * ((((byteN (s) (0)).toNat : Nat) : Int) - 224)) + (64 * ((((byteN (s) (1)).toNat : Nat) : Int) - 128))) ∧ ((4096 * ((((byteN (s) (0)).toNat : Nat) : Int) - 224)) + (64 * ((((byteN (s) (1)).toNat : Nat) : Int) - 128))) ≤ 9223372036854775807)) (ck ((0 : Int) ≤ 2 ∧ 2 < ((s).length : Int)) (ck ((-9223372036854775808 ≤ (((4096 * ((((byteN (s) (0)).toNat : Nat) : Int) - 224)) + (64 * ((((byteN (s) (1)).toNat : Nat) : Int) - 128))) + (((byteN (s) (2)).toNat : Nat) : Int)) ∧ (((4096 * ((((byteN (s) (0)).toNat : Nat) : Int) - 224)) + (64 * ((((byteN (s) (1)).toNat : Nat) : Int) - 128))) + (((byteN (s) (2)).toNat : Nat) : Int)) ≤ 9223372036854775807)) (ck ((-9223372036854775808 ≤ ((((4096 * ((((byteN (s) (0)).toNat : Nat) : Int) - 224)) + (64 * ((((byteN (s) (1)).toNat : Nat) : Int) - 128))) + (((byteN (s) (2)).toNat : Nat) : Int)) - 128) ∧ ((((4096 * ((((byteN (s) (0)).toNat : Nat) : Int) - 224)) + (64 * ((((byteN (s) (1)).toNat : Nat) : Int) - 128))) + (((byteN (s) (2)).toNat : Nat) : Int)) - 128) ≤ 9223372036854775807)) (if (((((4096 * ((((byteN (s) (0)).toNat : Nat) : Int) - 224)) + (64 * ((((byteN (s) (1)).toNat : Nat) : Int) - 128))) + (((byteN (s) (2)).toNat : Nat) : Int)) - 128) : Int) ≥ 2048 then if (((((4096 * ((((byteN (s) (0)).toNat : Nat) : Int) - 224)) + (64 * ((((byteN (s) (1)).toNat : Nat) : Int) - 128))) + (((byteN (s) (2)).toNat : Nat) : Int)) - 128) : Int) < 55296 then some (((((4096 * ((((byteN (s) (0)).toNat : Nat) : Int) - 224)) + (64 * ((((byteN (s) (1)).toNat : Nat) : Int) - 128))) + (((byteN (s) (2)).toNat : Nat) : Int)) - 128), 3) else if (((((4096 * ((((byteN (s) (0)).toNat : Nat) : Int) - 224)) + (64 * ((((byteN (s) (1)).toNat : Nat) : Int) - 128))) + (((byteN (s) (2)).toNat : Nat) : Int)) - 128) : Int) > 57343 then some (((((4096 * ((((byteN (s) (0)).toNat : Nat) : Int) - 224)) + (64 * ((((byteN (s) (1)).toNat : Nat) : Int) - 128))) + (((byteN (s) (2)).toNat : Nat) : Int)) - 128), 3) else shunterref05_First_k3 N s  else shunterref05_First_k3 N s ))))))))) else shunterref05_First_k3 N s 
def shunterref05_First_k2 (N : Nat) (s : List UInt8) (x1_ : Bool) : Option (Int × Int) := if (x1_) = true then ck ((-9223372036854775808 ≤ ((((byteN (s) (0)).toNat : Nat) : Int) - 192) ∧ ((((byteN (s) (0)).toNat : Nat) : Int) - 192) ≤ 9223372036854775807)) (ck ((-9223372036854775808 ≤ (64 * ((((byteN (s) (0)).toNat : Nat) : Int) - 192)) ∧ (64 * ((((byteN (s) (0)).toNat : Nat) : Int) - 192)) ≤ 9223372036854775807)) (ck ((0 : Int) ≤ 1 ∧ 1 < ((s).length : Int)) (ck ((-9223372036854775808 ≤ ((64 * ((((byteN (s) (0)).toNat : Nat) : Int) - 192)) + (((byteN (s) (1)).toNat : Nat) : Int)) ∧ ((64 * ((((byteN (s) (0)).toNat : Nat) : Int) - 192)) + (((byteN (s) (1)).toNat : Nat) : Int)) ≤ 9223372036854775807)) (ck ((-9223372036854775808 ≤ (((64 * ((((byteN (s) (0)).toNat : Nat) : Int) - 192)) + (((byteN (s) (1)).toNat : Nat) : Int)) - 128) ∧ (((64 * ((((byteN (s) (0)).toNat : Nat) : Int) - 192)) + (((byteN (s) (1)).toNat : Nat) : Int)) - 128) ≤ 9223372036854775807)) (some ((((64 * ((((byteN (s) (0)).toNat : Nat) : Int) - 192)) + (((byteN (s) (1)).toNat : Nat) : Int)) - 128), 2)))))) else if ((((byteN (s) (0)).toNat : Nat) : Int) : Int) ≥ 224 then if ((((byteN (s) (0)).toNat : Nat) : Int) : Int) < 240 then if (((s).length : Int) : Int) ≥ 3 then ck ((0 : Int) ≤ 1 ∧ 1 < ((s).length : Int)) ((shunterref05_more_m N (byteN (s) (1))).bind fun r78 => if (r78) = true then ck ((0 : Int) ≤ 2 ∧ 2 < ((s).length : Int)) ((shunterref05_more_m N (byteN (s) (2))).bind fun r82 => shunterref05_First_k7 N s (r82)) else shunterref05_First_k7 N s (false)) else shunterref05_First_k7 N s (false) else shunterref05_First_k7 N s (false) else shunterref05_First_k7 N s (false)
def shunterref05_First_m (N : Nat) (s : List UInt8) : Option (Int × Int) := if (((s).length : Int) : Int) = 0 then some (65533, 0) else ck ((0 : Int) ≤ 0 ∧ 0 < ((s).length : Int)) (if ((((byteN (s) (0)).toNat : Nat) : Int) : Int) < 128 then some ((((byteN (s) (0)).toNat : Nat) : Int), 1) else if ((((byteN (s) (0)).toNat : Nat) : Int) : Int) ≥ 194 then if ((((byteN (s) (0)).toNat : Nat) : Int) : Int) < 224 then if (((s).length : Int) : Int) ≥ 2 then ck ((0 : Int) ≤ 1 ∧ 1 < ((s).length : Int)) ((shunterref05_more_m N (byteN (s) (1))).bind fun r88 => shunterref05_First_k2 N s (r88)) else shunterref05_First_k2 N s (false) else shunterref05_First_k2 N s (false) else shunterref05_First_k2 N s (false))
set_option maxRecDepth 100000 in
set_option maxHeartbeats 8000000 in
theorem shunterref05_First_g (N : Nat) (s : List UInt8) (r : Int × Int) (hM : shunterref05_First_m N s = some r) : Gives Try.prog 67 #[Value.string (⟨(s).toArray⟩)] (Value.tuple #[Value.int .i64 (r.1), Value.int .i64 (r.2)]) := by
  unfold shunterref05_First_m at hM
  refine gives_of_A follows Try.func67 rfl 139 rfl (upd (fun _ => undef) 0 (Value.string (⟨(s).toArray⟩))) (by funext k; match k with | 0 => rfl | k + 1 => rfl) (fun base0_ => ?_)
  refine A_seq fun K1 hK1 => ?_
  refine A_reg ?_
  refine r_v (Value.int .i64 (0)) rfl rfl rfl rfl ?_
  refine r_v (Value.int .i64 (0)) rfl rfl rfl rfl ?_
  refine lx_nil ?_
  refine hK1 _ _ ?_; try clear hK1 K1
  refine A_seq fun K2 hK2 => ?_
  refine A_seq fun K3 hK3 => ?_
  refine A_reg ?_
  refine r_v (Value.string (⟨(s).toArray⟩)) rfl rfl rfl rfl ?_
  refine r_v (Value.int .i64 (((s).length : Int))) rfl rfl rfl (ev_lenS rfl rfl rfl) ?_
  refine r_v (Value.bool (((((s).length : Int) : Int) == 0))) rfl rfl rfl rfl ?_
  refine lx_nil ?_
  refine hK3 _ _ ?_; try clear hK3 K3
  refine A_cond (((((s).length : Int) : Int) == 0)) rfl (fun hc4 => ?_) (fun hc4 => ?_)
  · replace hM := ifp (eq_of_beq hc4) hM
    refine A_seq fun K5 hK5 => ?_
    refine A_reg ?_
    refine r_v (Value.int .i64 (65533)) rfl rfl rfl rfl ?_
    refine r_v (Value.int .i64 (0)) rfl rfl rfl rfl ?_
    refine lx_nil ?_
    refine hK5 _ _ ?_; try clear hK5 K5
    obtain rfl := Option.some.inj hM
    refine A_ret (fun hn => ends_eq (v0 := Value.tuple #[Value.int .i64 (65533), Value.int .i64 (0)]) rfl (res2 rfl rfl))
  · replace hM := ifn (ne_of_beq_false hc4) hM
    refine A_skip ?_
    refine hK2 _ _ ?_; try clear hK2 K2
    refine A_seq fun K6 hK6 => ?_
    refine A_reg ?_
    refine r_v (Value.string (⟨(s).toArray⟩)) rfl rfl rfl rfl ?_
    replace hM := ck_some hM; obtain ⟨ck7, hM⟩ := hM
    refine r_v (Value.int .u8 ((byteAt (s) (0)))) rfl rfl rfl (ev_v (ev_indexS rfl ck7)) ?_
    refine r_w (Value.int .i64 ((((byteN (s) (0)).toNat : Nat) : Int))) rfl rfl (u8_i64 (byteN (s) (0))) (fun _ => rfl) ?_
    refine r_v (Value.int .i64 ((((byteN (s) (0)).toNat : Nat) : Int))) rfl rfl rfl rfl ?_
    refine lx_nil ?_
    refine hK6 _ _ ?_; try clear hK6 K6
    refine A_seq fun K8 hK8 => ?_
    refine A_seq fun K9 hK9 => ?_
    refine A_reg ?_
    refine r_v (Value.int .i64 ((((byteN (s) (0)).toNat : Nat) : Int))) rfl rfl rfl rfl ?_
    refine r_v (Value.bool (decide (((((byteN (s) (0)).toNat : Nat) : Int) : Int) < 128))) rfl rfl rfl rfl ?_
    refine lx_nil ?_
    refine hK9 _ _ ?_; try clear hK9 K9
    refine A_cond (decide (((((byteN (s) (0)).toNat : Nat) : Int) : Int) < 128)) rfl (fun hc10 => ?_) (fun hc10 => ?_)
    · replace hM := ifp (of_decide_eq_true hc10) hM
      refine A_seq fun K11 hK11 => ?_
      refine A_reg ?_
      refine r_v (Value.int .i64 ((((byteN (s) (0)).toNat : Nat) : Int))) rfl rfl rfl rfl ?_
      refine r_v (Value.int .i64 ((((byteN (s) (0)).toNat : Nat) : Int))) rfl rfl rfl rfl ?_
      refine r_v (Value.int .i64 (1)) rfl rfl rfl rfl ?_
      refine lx_nil ?_
      refine hK11 _ _ ?_; try clear hK11 K11
      obtain rfl := Option.some.inj hM
      refine A_ret (fun hn => ends_eq (v0 := Value.tuple #[Value.int .i64 ((((byteN (s) (0)).toNat : Nat) : Int)), Value.int .i64 (1)]) rfl (res2 rfl rfl))
    · replace hM := ifn (of_decide_eq_false hc10) hM
      refine A_skip ?_
      refine hK8 _ _ ?_; try clear hK8 K8
      refine A_seq fun K12 hK12 => ?_
      refine A_cut (fun tt ll => ∃ (x1_ : Bool), (shunterref05_First_k2 N s x1_ = some r) ∧ Is [(0, Value.string (⟨(s).toArray⟩)), (4, Value.int .i64 ((((byteN (s) (0)).toNat : Nat) : Int))), (31, Value.bool (x1_))] [] tt ll) ?_ ?_
      · refine A_reg ?_
        refine r_v (Value.int .i64 ((((byteN (s) (0)).toNat : Nat) : Int))) rfl rfl rfl rfl ?_
        refine r_v (Value.bool (decide (((((byteN (s) (0)).toNat : Nat) : Int) : Int) ≥ 194))) rfl rfl rfl rfl ?_
        refine r_v (Value.bool (decide (((((byteN (s) (0)).toNat : Nat) : Int) : Int) ≥ 194))) rfl rfl rfl rfl ?_
        rcases hg84 : (decide (((((byteN (s) (0)).toNat : Nat) : Int) : Int) ≥ 194)) with _ | _
        · replace hM := ifn (of_decide_eq_false hg84) hM
          refine r_n false rfl (by decide) rfl ?_
          refine r_n false rfl (by decide) rfl ?_
          refine r_v (Value.bool (false)) rfl rfl rfl rfl ?_
          refine r_v (Value.bool (false)) rfl rfl rfl rfl ?_
          refine r_n false rfl (by decide) rfl ?_
          refine r_n false rfl (by decide) rfl ?_
          refine r_n false rfl (by decide) rfl ?_
          refine r_v (Value.bool (false)) rfl rfl rfl rfl ?_
          refine r_v (Value.bool (false)) rfl rfl rfl rfl ?_
          refine r_n false rfl (by decide) rfl ?_
          refine r_n false rfl (by decide) rfl ?_
          refine r_n false rfl (by decide) rfl ?_
          refine r_v (Value.bool (false)) rfl rfl rfl rfl ?_
          refine lx_nil ?_
          refine fg _ (Sub.of (List.Sublist.slnil)) ?_
          exact ⟨false, hM, is_mk (by first | rfl | (simp only [hg84]; done) | (simp only [hg84]; rfl) | (simp only [app_hl]; rfl)) rfl⟩
        · replace hM := ifp (of_decide_eq_true hg84) hM
          refine r_y rfl ?_
          refine r_v (Value.int .i64 ((((byteN (s) (0)).toNat : Nat) : Int))) rfl rfl rfl rfl ?_
          refine r_y rfl ?_
          refine r_v (Value.bool (decide (((((byteN (s) (0)).toNat : Nat) : Int) : Int) < 224))) rfl rfl rfl rfl ?_
          refine r_v (Value.bool (decide (((((byteN (s) (0)).toNat : Nat) : Int) : Int) < 224))) rfl rfl rfl rfl ?_
          refine r_v (Value.bool (decide (((((byteN (s) (0)).toNat : Nat) : Int) : Int) < 224))) rfl rfl rfl rfl ?_
          rcases hg85 : (decide (((((byteN (s) (0)).toNat : Nat) : Int) : Int) < 224)) with _ | _
          · replace hM := ifn (of_decide_eq_false hg85) hM
            refine r_n false rfl (by decide) rfl ?_
            refine r_n false rfl (by decide) rfl ?_
            refine r_n false rfl (by decide) rfl ?_
            refine r_v (Value.bool (false)) rfl rfl rfl rfl ?_
            refine r_v (Value.bool (false)) rfl rfl rfl rfl ?_
            refine r_n false rfl (by decide) rfl ?_
            refine r_n false rfl (by decide) rfl ?_
            refine r_n false rfl (by decide) rfl ?_
            refine r_v (Value.bool (false)) rfl rfl rfl rfl ?_
            refine lx_nil ?_
            refine fg _ (Sub.of (List.Sublist.slnil)) ?_
            exact ⟨false, hM, is_mk (by first | rfl | (simp only [hg84, hg85]; done) | (simp only [hg84, hg85]; rfl) | (simp only [app_hl]; rfl)) rfl⟩
          · replace hM := ifp (of_decide_eq_true hg85) hM
            refine r_y rfl ?_
            refine r_v (Value.string (⟨(s).toArray⟩)) rfl rfl rfl rfl ?_
            refine r_y rfl ?_
            refine r_v (Value.int .i64 (((s).length : Int))) rfl rfl rfl (ev_lenS rfl rfl rfl) ?_
            refine r_y rfl ?_
            refine r_v (Value.bool (decide ((((s).length : Int) : Int) ≥ 2))) rfl rfl rfl rfl ?_
            refine r_v (Value.bool (decide ((((s).length : Int) : Int) ≥ 2))) rfl rfl rfl rfl ?_
            refine r_v (Value.bool (decide ((((s).length : Int) : Int) ≥ 2))) rfl rfl rfl rfl ?_
            rcases hg86 : (decide ((((s).length : Int) : Int) ≥ 2)) with _ | _
            · replace hM := ifn (of_decide_eq_false hg86) hM
              refine r_n false rfl (by decide) rfl ?_
              refine r_n false rfl (by decide) rfl ?_
              refine r_n false rfl (by decide) rfl ?_
              refine r_v (Value.bool (false)) rfl rfl rfl rfl ?_
              refine lx_nil ?_
              refine fg _ (Sub.of (List.Sublist.slnil)) ?_
              exact ⟨false, hM, is_mk (by first | rfl | (simp only [hg84, hg85, hg86]; done) | (simp only [hg84, hg85, hg86]; rfl) | (simp only [app_hl]; rfl)) rfl⟩
            · replace hM := ifp (of_decide_eq_true hg86) hM
              refine r_y rfl ?_
              refine r_v (Value.string (⟨(s).toArray⟩)) rfl rfl rfl rfl ?_
              refine r_y rfl ?_
              replace hM := ck_some hM; obtain ⟨ck87, hM⟩ := hM
              refine r_v (Value.int .u8 ((byteAt (s) (1)))) rfl rfl rfl (ev_v (ev_indexS rfl ck87)) ?_
              refine r_y rfl ?_
              replace hM := bind_sm hM; obtain ⟨r88, hr89, hM⟩ := hM
              refine r_c (Value.bool (r88)) rfl _ _ (ev_callF rfl call_78 rfl) (shunterref05_more_g N (byteN (s) (1)) _ hr89) ?_
              refine r_v (Value.bool (r88)) rfl rfl rfl rfl ?_
              refine lx_nil ?_
              refine fg _ (Sub.of (List.Sublist.slnil)) ?_
              exact ⟨r88, hM, is_mk (by first | rfl | (simp only [hg84, hg85, hg86]; done) | (simp only [hg84, hg85, hg86]; rfl) | (simp only [app_hl]; rfl)) rfl⟩
      · clear hM; rintro t l ⟨x1_, hM, ⟨T, rfl⟩, rfl⟩
        unfold shunterref05_First_k2 at hM
        refine A_cond (x1_) rfl (fun hc13 => ?_) (fun hc13 => ?_)
        · replace hM := ifp hc13 hM
          refine A_seq fun K14 hK14 => ?_
          refine A_reg ?_
          refine r_v (Value.int .i64 ((((byteN (s) (0)).toNat : Nat) : Int))) rfl rfl rfl rfl ?_
          replace hM := ck_some hM; obtain ⟨ck15, hM⟩ := hM
          refine r_v (Value.int .i64 (((((byteN (s) (0)).toNat : Nat) : Int) - 192))) rfl rfl (wi64 rfl ck15.1 ck15.2) rfl ?_
          replace hM := ck_some hM; obtain ⟨ck16, hM⟩ := hM
          refine r_v (Value.int .i64 ((64 * ((((byteN (s) (0)).toNat : Nat) : Int) - 192)))) rfl rfl (wi64 rfl ck16.1 ck16.2) rfl ?_
          refine r_v (Value.string (⟨(s).toArray⟩)) rfl rfl rfl rfl ?_
          replace hM := ck_some hM; obtain ⟨ck17, hM⟩ := hM
          refine r_v (Value.int .u8 ((byteAt (s) (1)))) rfl rfl rfl (ev_v (ev_indexS rfl ck17)) ?_
          refine r_w (Value.int .i64 ((((byteN (s) (1)).toNat : Nat) : Int))) rfl rfl (u8_i64 (byteN (s) (1))) (fun _ => rfl) ?_
          replace hM := ck_some hM; obtain ⟨ck18, hM⟩ := hM
          refine r_v (Value.int .i64 (((64 * ((((byteN (s) (0)).toNat : Nat) : Int) - 192)) + (((byteN (s) (1)).toNat : Nat) : Int)))) rfl rfl (wi64 rfl ck18.1 ck18.2) rfl ?_
          replace hM := ck_some hM; obtain ⟨ck19, hM⟩ := hM
          refine r_v (Value.int .i64 ((((64 * ((((byteN (s) (0)).toNat : Nat) : Int) - 192)) + (((byteN (s) (1)).toNat : Nat) : Int)) - 128))) rfl rfl (wi64 rfl ck19.1 ck19.2) rfl ?_
          refine r_v (Value.int .i64 ((((64 * ((((byteN (s) (0)).toNat : Nat) : Int) - 192)) + (((byteN (s) (1)).toNat : Nat) : Int)) - 128))) rfl rfl rfl rfl ?_
          refine r_v (Value.int .i64 (2)) rfl rfl rfl rfl ?_
          refine lx_nil ?_
          refine hK14 _ _ ?_; try clear hK14 K14
          obtain rfl := Option.some.inj hM
          refine A_ret (fun hn => ends_eq (v0 := Value.tuple #[Value.int .i64 ((((64 * ((((byteN (s) (0)).toNat : Nat) : Int) - 192)) + (((byteN (s) (1)).toNat : Nat) : Int)) - 128)), Value.int .i64 (2)]) rfl (res2 rfl rfl))
        · replace hM := ifn (Bool.eq_false_iff.1 hc13) hM
          refine A_skip ?_
          refine hK12 _ _ ?_; try clear hK12 K12
          refine A_cut (fun tt ll => (shunterref05_First_k3 N s  = some r) ∧ Is [(0, Value.string (⟨(s).toArray⟩)), (4, Value.int .i64 ((((byteN (s) (0)).toNat : Nat) : Int)))] [] tt ll) ?_ ?_
          · refine A_cut (fun tt ll => ∃ (x6_ : Bool), (shunterref05_First_k7 N s x6_ = some r) ∧ Is [(0, Value.string (⟨(s).toArray⟩)), (4, Value.int .i64 ((((byteN (s) (0)).toNat : Nat) : Int))), (60, Value.bool (x6_))] [] tt ll) ?_ ?_
            · refine A_reg ?_
              refine r_v (Value.int .i64 ((((byteN (s) (0)).toNat : Nat) : Int))) rfl rfl rfl rfl ?_
              refine r_v (Value.bool (decide (((((byteN (s) (0)).toNat : Nat) : Int) : Int) ≥ 224))) rfl rfl rfl rfl ?_
              refine r_v (Value.bool (decide (((((byteN (s) (0)).toNat : Nat) : Int) : Int) ≥ 224))) rfl rfl rfl rfl ?_
              rcases hg74 : (decide (((((byteN (s) (0)).toNat : Nat) : Int) : Int) ≥ 224)) with _ | _
              · replace hM := ifn (of_decide_eq_false hg74) hM
                refine r_n false rfl (by decide) rfl ?_
                refine r_n false rfl (by decide) rfl ?_
                refine r_v (Value.bool (false)) rfl rfl rfl rfl ?_
                refine r_v (Value.bool (false)) rfl rfl rfl rfl ?_
                refine r_n false rfl (by decide) rfl ?_
                refine r_n false rfl (by decide) rfl ?_
                refine r_n false rfl (by decide) rfl ?_
                refine r_v (Value.bool (false)) rfl rfl rfl rfl ?_
                refine r_v (Value.bool (false)) rfl rfl rfl rfl ?_
                refine r_n false rfl (by decide) rfl ?_
                refine r_n false rfl (by decide) rfl ?_
                refine r_n false rfl (by decide) rfl ?_
                refine r_v (Value.bool (false)) rfl rfl rfl rfl ?_
                refine r_v (Value.bool (false)) rfl rfl rfl rfl ?_
                refine r_n false rfl (by decide) rfl ?_
                refine r_n false rfl (by decide) rfl ?_
                refine r_n false rfl (by decide) rfl ?_
                refine r_v (Value.bool (false)) rfl rfl rfl rfl ?_
                refine lx_nil ?_
                refine fg _ (Sub.of (List.Sublist.slnil)) ?_
                exact ⟨false, hM, is_mk (by first | rfl | (simp only [hg74]; done) | (simp only [hg74]; rfl) | (simp only [app_hl]; rfl)) rfl⟩
              · replace hM := ifp (of_decide_eq_true hg74) hM
                refine r_y rfl ?_
                refine r_v (Value.int .i64 ((((byteN (s) (0)).toNat : Nat) : Int))) rfl rfl rfl rfl ?_
                refine r_y rfl ?_
                refine r_v (Value.bool (decide (((((byteN (s) (0)).toNat : Nat) : Int) : Int) < 240))) rfl rfl rfl rfl ?_
                refine r_v (Value.bool (decide (((((byteN (s) (0)).toNat : Nat) : Int) : Int) < 240))) rfl rfl rfl rfl ?_
                refine r_v (Value.bool (decide (((((byteN (s) (0)).toNat : Nat) : Int) : Int) < 240))) rfl rfl rfl rfl ?_
                rcases hg75 : (decide (((((byteN (s) (0)).toNat : Nat) : Int) : Int) < 240)) with _ | _
                · replace hM := ifn (of_decide_eq_false hg75) hM
                  refine r_n false rfl (by decide) rfl ?_
                  refine r_n false rfl (by decide) rfl ?_
                  refine r_n false rfl (by decide) rfl ?_
                  refine r_v (Value.bool (false)) rfl rfl rfl rfl ?_
                  refine r_v (Value.bool (false)) rfl rfl rfl rfl ?_
                  refine r_n false rfl (by decide) rfl ?_
                  refine r_n false rfl (by decide) rfl ?_
                  refine r_n false rfl (by decide) rfl ?_
                  refine r_v (Value.bool (false)) rfl rfl rfl rfl ?_
                  refine r_v (Value.bool (false)) rfl rfl rfl rfl ?_
                  refine r_n false rfl (by decide) rfl ?_
                  refine r_n false rfl (by decide) rfl ?_
                  refine r_n false rfl (by decide) rfl ?_
                  refine r_v (Value.bool (false)) rfl rfl rfl rfl ?_
                  refine lx_nil ?_
                  refine fg _ (Sub.of (List.Sublist.slnil)) ?_
                  exact ⟨false, hM, is_mk (by first | rfl | (simp only [hg74, hg75]; done) | (simp only [hg74, hg75]; rfl) | (simp only [app_hl]; rfl)) rfl⟩
                · replace hM := ifp (of_decide_eq_true hg75) hM
                  refine r_y rfl ?_
                  refine r_v (Value.string (⟨(s).toArray⟩)) rfl rfl rfl rfl ?_
                  refine r_y rfl ?_
                  refine r_v (Value.int .i64 (((s).length : Int))) rfl rfl rfl (ev_lenS rfl rfl rfl) ?_
                  refine r_y rfl ?_
                  refine r_v (Value.bool (decide ((((s).length : Int) : Int) ≥ 3))) rfl rfl rfl rfl ?_
                  refine r_v (Value.bool (decide ((((s).length : Int) : Int) ≥ 3))) rfl rfl rfl rfl ?_
                  refine r_v (Value.bool (decide ((((s).length : Int) : Int) ≥ 3))) rfl rfl rfl rfl ?_
                  rcases hg76 : (decide ((((s).length : Int) : Int) ≥ 3)) with _ | _
                  · replace hM := ifn (of_decide_eq_false hg76) hM
                    refine r_n false rfl (by decide) rfl ?_
                    refine r_n false rfl (by decide) rfl ?_
                    refine r_n false rfl (by decide) rfl ?_
                    refine r_v (Value.bool (false)) rfl rfl rfl rfl ?_
                    refine r_v (Value.bool (false)) rfl rfl rfl rfl ?_
                    refine r_n false rfl (by decide) rfl ?_
                    refine r_n false rfl (by decide) rfl ?_
                    refine r_n false rfl (by decide) rfl ?_
                    refine r_v (Value.bool (false)) rfl rfl rfl rfl ?_
                    refine lx_nil ?_
                    refine fg _ (Sub.of (List.Sublist.slnil)) ?_
                    exact ⟨false, hM, is_mk (by first | rfl | (simp only [hg74, hg75, hg76]; done) | (simp only [hg74, hg75, hg76]; rfl) | (simp only [app_hl]; rfl)) rfl⟩
                  · replace hM := ifp (of_decide_eq_true hg76) hM
                    refine r_y rfl ?_
                    refine r_v (Value.string (⟨(s).toArray⟩)) rfl rfl rfl rfl ?_
                    refine r_y rfl ?_
                    replace hM := ck_some hM; obtain ⟨ck77, hM⟩ := hM
                    refine r_v (Value.int .u8 ((byteAt (s) (1)))) rfl rfl rfl (ev_v (ev_indexS rfl ck77)) ?_
                    refine r_y rfl ?_
                    replace hM := bind_sm hM; obtain ⟨r78, hr79, hM⟩ := hM
                    refine r_c (Value.bool (r78)) rfl _ _ (ev_callF rfl call_78 rfl) (shunterref05_more_g N (byteN (s) (1)) _ hr79) ?_
                    refine r_v (Value.bool (r78)) rfl rfl rfl rfl ?_
                    refine r_v (Value.bool (r78)) rfl rfl rfl rfl ?_
                    rcases hg80 : (r78) with _ | _
                    · replace hM := ifn (Bool.eq_false_iff.1 hg80) hM
                      refine r_n false rfl (by decide) rfl ?_
                      refine r_n false rfl (by decide) rfl ?_
                      refine r_n false rfl (by decide) rfl ?_
                      refine r_v (Value.bool (false)) rfl rfl rfl rfl ?_
                      refine lx_nil ?_
                      refine fg _ (Sub.of (List.Sublist.slnil)) ?_
                      exact ⟨false, hM, is_mk (by first | rfl | (simp only [hg74, hg75, hg76, hg80]; done) | (simp only [hg74, hg75, hg76, hg80]; rfl) | (simp only [app_hl]; rfl)) rfl⟩
                    · replace hM := ifp hg80 hM
                      refine r_y rfl ?_
                      refine r_v (Value.string (⟨(s).toArray⟩)) rfl rfl rfl rfl ?_
                      refine r_y rfl ?_
                      replace hM := ck_some hM; obtain ⟨ck81, hM⟩ := hM
                      refine r_v (Value.int .u8 ((byteAt (s) (2)))) rfl rfl rfl (ev_v (ev_indexS rfl ck81)) ?_
                      refine r_y rfl ?_
                      replace hM := bind_sm hM; obtain ⟨r82, hr83, hM⟩ := hM
                      refine r_c (Value.bool (r82)) rfl _ _ (ev_callF rfl call_78 rfl) (shunterref05_more_g N (byteN (s) (2)) _ hr83) ?_
                      refine r_v (Value.bool (r82)) rfl rfl rfl rfl ?_
                      refine lx_nil ?_
                      refine fg _ (Sub.of (List.Sublist.slnil)) ?_
                      exact ⟨r82, hM, is_mk (by first | rfl | (simp only [hg74, hg75, hg76, hg80]; done) | (simp only [hg74, hg75, hg76, hg80]; rfl) | (simp only [app_hl]; rfl)) rfl⟩
            · clear hM; rintro t l ⟨x6_, hM, ⟨T, rfl⟩, rfl⟩
              unfold shunterref05_First_k7 at hM
              refine A_cond (x6_) rfl (fun hc57 => ?_) (fun hc57 => ?_)
              · replace hM := ifp hc57 hM
                refine A_seq fun K58 hK58 => ?_
                refine A_draw [] (by decide +kernel) (fun hn => sep_nil) ?_
                refine r_v (Value.int .i64 ((((byteN (s) (0)).toNat : Nat) : Int))) rfl rfl rfl rfl ?_
                replace hM := ck_some hM; obtain ⟨ck59, hM⟩ := hM
                refine r_v (Value.int .i64 (((((byteN (s) (0)).toNat : Nat) : Int) - 224))) rfl rfl (wi64 rfl ck59.1 ck59.2) rfl ?_
                replace hM := ck_some hM; obtain ⟨ck60, hM⟩ := hM
                refine r_v (Value.int .i64 ((4096 * ((((byteN (s) (0)).toNat : Nat) : Int) - 224)))) rfl rfl (wi64 rfl ck60.1 ck60.2) rfl ?_
                refine r_v (Value.string (⟨(s).toArray⟩)) rfl rfl rfl rfl ?_
                replace hM := ck_some hM; obtain ⟨ck61, hM⟩ := hM
                refine r_v (Value.int .u8 ((byteAt (s) (1)))) rfl rfl rfl (ev_v (ev_indexS rfl ck61)) ?_
                refine r_w (Value.int .i64 ((((byteN (s) (1)).toNat : Nat) : Int))) rfl rfl (u8_i64 (byteN (s) (1))) (fun _ => rfl) ?_
                replace hM := ck_some hM; obtain ⟨ck62, hM⟩ := hM
                refine r_v (Value.int .i64 (((((byteN (s) (1)).toNat : Nat) : Int) - 128))) rfl rfl (wi64 rfl ck62.1 ck62.2) rfl ?_
                replace hM := ck_some hM; obtain ⟨ck63, hM⟩ := hM
                refine r_v (Value.int .i64 ((64 * ((((byteN (s) (1)).toNat : Nat) : Int) - 128)))) rfl rfl (wi64 rfl ck63.1 ck63.2) rfl ?_
                replace hM := ck_some hM; obtain ⟨ck64, hM⟩ := hM
                refine r_v (Value.int .i64 (((4096 * ((((byteN (s) (0)).toNat : Nat) : Int) - 224)) + (64 * ((((byteN (s) (1)).toNat : Nat) : Int) - 128))))) rfl rfl (wi64 rfl ck64.1 ck64.2) rfl ?_
                refine r_v (Value.string (⟨(s).toArray⟩)) rfl rfl rfl rfl ?_
                replace hM := ck_some hM; obtain ⟨ck65, hM⟩ := hM
                refine r_v (Value.int .u8 ((byteAt (s) (2)))) rfl rfl rfl (ev_v (ev_indexS rfl ck65)) ?_
                refine r_w (Value.int .i64 ((((byteN (s) (2)).toNat : Nat) : Int))) rfl rfl (u8_i64 (byteN (s) (2))) (fun _ => rfl) ?_
                replace hM := ck_some hM; obtain ⟨ck66, hM⟩ := hM
                refine r_v (Value.int .i64 ((((4096 * ((((byteN (s) (0)).toNat : Nat) : Int) - 224)) + (64 * ((((byteN (s) (1)).toNat : Nat) : Int) - 128))) + (((byteN (s) (2)).toNat : Nat) : Int)))) rfl rfl (wi64 rfl ck66.1 ck66.2) rfl ?_
                replace hM := ck_some hM; obtain ⟨ck67, hM⟩ := hM
                refine r_v (Value.int .i64 (((((4096 * ((((byteN (s) (0)).toNat : Nat) : Int) - 224)) + (64 * ((((byteN (s) (1)).toNat : Nat) : Int) - 128))) + (((byteN (s) (2)).toNat : Nat) : Int)) - 128))) rfl rfl (wi64 rfl ck67.1 ck67.2) rfl ?_
                refine r_v (Value.int .i64 (((((4096 * ((((byteN (s) (0)).toNat : Nat) : Int) - 224)) + (64 * ((((byteN (s) (1)).toNat : Nat) : Int) - 128))) + (((byteN (s) (2)).toNat : Nat) : Int)) - 128))) rfl rfl rfl rfl ?_
                refine lx_nil ?_
                refine hK58 _ _ ?_; try clear hK58 K58
                refine A_seq fun K68 hK68 => ?_
                refine A_reg ?_
                refine r_v (Value.int .i64 (((((4096 * ((((byteN (s) (0)).toNat : Nat) : Int) - 224)) + (64 * ((((byteN (s) (1)).toNat : Nat) : Int) - 128))) + (((byteN (s) (2)).toNat : Nat) : Int)) - 128))) rfl rfl rfl rfl ?_
                refine r_v (Value.bool (decide ((((((4096 * ((((byteN (s) (0)).toNat : Nat) : Int) - 224)) + (64 * ((((byteN (s) (1)).toNat : Nat) : Int) - 128))) + (((byteN (s) (2)).toNat : Nat) : Int)) - 128) : Int) ≥ 2048))) rfl rfl rfl rfl ?_
                refine r_v (Value.bool (decide ((((((4096 * ((((byteN (s) (0)).toNat : Nat) : Int) - 224)) + (64 * ((((byteN (s) (1)).toNat : Nat) : Int) - 128))) + (((byteN (s) (2)).toNat : Nat) : Int)) - 128) : Int) ≥ 2048))) rfl rfl rfl rfl ?_
                rcases hg69 : (decide ((((((4096 * ((((byteN (s) (0)).toNat : Nat) : Int) - 224)) + (64 * ((((byteN (s) (1)).toNat : Nat) : Int) - 128))) + (((byteN (s) (2)).toNat : Nat) : Int)) - 128) : Int) ≥ 2048)) with _ | _
                · replace hM := ifn (of_decide_eq_false hg69) hM
                  refine r_n false rfl (by decide) rfl ?_
                  refine r_n false rfl (by decide) rfl ?_
                  refine r_n false rfl (by decide) rfl ?_
                  refine r_nu rfl rfl ?_
                  refine r_nu rfl rfl ?_
                  refine r_n false rfl (by decide) rfl ?_
                  refine r_v (Value.bool (false)) rfl rfl rfl rfl ?_
                  refine lx_nil ?_
                  refine hK68 _ _ ?_; try clear hK68 K68
                  refine A_cond false rfl (fun h_ => nomatch h_) (fun _ => ?_)
                  refine A_skip ?_
                  refine fg _ (Sub.of (List.Sublist.slnil)) ?_
                  exact ⟨hM, is_mk rfl rfl⟩
                · replace hM := ifp (of_decide_eq_true hg69) hM
                  refine r_y rfl ?_
                  refine r_v (Value.int .i64 (((((4096 * ((((byteN (s) (0)).toNat : Nat) : Int) - 224)) + (64 * ((((byteN (s) (1)).toNat : Nat) : Int) - 128))) + (((byteN (s) (2)).toNat : Nat) : Int)) - 128))) rfl rfl rfl rfl ?_
                  refine r_y rfl ?_
                  refine r_v (Value.bool (decide ((((((4096 * ((((byteN (s) (0)).toNat : Nat) : Int) - 224)) + (64 * ((((byteN (s) (1)).toNat : Nat) : Int) - 128))) + (((byteN (s) (2)).toNat : Nat) : Int)) - 128) : Int) < 55296))) rfl rfl rfl rfl ?_
                  refine r_y rfl ?_
                  refine r_v (Value.bool (decide ((((((4096 * ((((byteN (s) (0)).toNat : Nat) : Int) - 224)) + (64 * ((((byteN (s) (1)).toNat : Nat) : Int) - 128))) + (((byteN (s) (2)).toNat : Nat) : Int)) - 128) : Int) < 55296))) rfl rfl rfl rfl ?_
                  rcases hg70 : (decide ((((((4096 * ((((byteN (s) (0)).toNat : Nat) : Int) - 224)) + (64 * ((((byteN (s) (1)).toNat : Nat) : Int) - 128))) + (((byteN (s) (2)).toNat : Nat) : Int)) - 128) : Int) < 55296)) with _ | _
                  · replace hM := ifn (of_decide_eq_false hg70) hM
                    refine r_y rfl ?_
                    refine r_v (Value.int .i64 (((((4096 * ((((byteN (s) (0)).toNat : Nat) : Int) - 224)) + (64 * ((((byteN (s) (1)).toNat : Nat) : Int) - 128))) + (((byteN (s) (2)).toNat : Nat) : Int)) - 128))) rfl rfl rfl rfl ?_
                    refine r_y rfl ?_
                    refine r_v (Value.bool (decide ((((((4096 * ((((byteN (s) (0)).toNat : Nat) : Int) - 224)) + (64 * ((((byteN (s) (1)).toNat : Nat) : Int) - 128))) + (((byteN (s) (2)).toNat : Nat) : Int)) - 128) : Int) > 57343))) rfl rfl rfl rfl ?_
                    refine r_y rfl ?_
                    refine r_v (Value.bool (decide ((((((4096 * ((((byteN (s) (0)).toNat : Nat) : Int) - 224)) + (64 * ((((byteN (s) (1)).toNat : Nat) : Int) - 128))) + (((byteN (s) (2)).toNat : Nat) : Int)) - 128) : Int) > 57343))) rfl rfl rfl rfl ?_
                    refine r_v (Value.bool (decide ((((((4096 * ((((byteN (s) (0)).toNat : Nat) : Int) - 224)) + (64 * ((((byteN (s) (1)).toNat : Nat) : Int) - 128))) + (((byteN (s) (2)).toNat : Nat) : Int)) - 128) : Int) > 57343))) rfl rfl rfl rfl ?_
                    refine lx_nil ?_
                    refine hK68 _ _ ?_; try clear hK68 K68
                    refine A_cond (decide ((((((4096 * ((((byteN (s) (0)).toNat : Nat) : Int) - 224)) + (64 * ((((byteN (s) (1)).toNat : Nat) : Int) - 128))) + (((byteN (s) (2)).toNat : Nat) : Int)) - 128) : Int) > 57343)) rfl (fun hc71 => ?_) (fun hc71 => ?_)
                    · replace hM := ifp (of_decide_eq_true hc71) hM
                      refine A_seq fun K72 hK72 => ?_
                      refine A_reg ?_
                      refine r_v (Value.int .i64 (((((4096 * ((((byteN (s) (0)).toNat : Nat) : Int) - 224)) + (64 * ((((byteN (s) (1)).toNat : Nat) : Int) - 128))) + (((byteN (s) (2)).toNat : Nat) : Int)) - 128))) rfl rfl rfl rfl ?_
                      refine r_v (Value.int .i64 (((((4096 * ((((byteN (s) (0)).toNat : Nat) : Int) - 224)) + (64 * ((((byteN (s) (1)).toNat : Nat) : Int) - 128))) + (((byteN (s) (2)).toNat : Nat) : Int)) - 128))) rfl rfl rfl rfl ?_
                      refine r_v (Value.int .i64 (3)) rfl rfl rfl rfl ?_
                      refine lx_nil ?_
                      refine hK72 _ _ ?_; try clear hK72 K72
                      refine A_gen [(2, Value.int .i64 (((((4096 * ((((byteN (s) (0)).toNat : Nat) : Int) - 224)) + (64 * ((((byteN (s) (1)).toNat : Nat) : Int) - 128))) + (((byteN (s) (2)).toNat : Nat) : Int)) - 128))), (3, Value.int .i64 (3))] rfl (fun T => ?_)
                      obtain rfl := Option.some.inj hM
                      refine A_ret (fun hn => ends_eq (v0 := Value.tuple #[Value.int .i64 (((((4096 * ((((byteN (s) (0)).toNat : Nat) : Int) - 224)) + (64 * ((((byteN (s) (1)).toNat : Nat) : Int) - 128))) + (((byteN (s) (2)).toNat : Nat) : Int)) - 128)), Value.int .i64 (3)]) rfl (res2 rfl rfl))
                    · replace hM := ifn (of_decide_eq_false hc71) hM
                      refine A_skip ?_
                      refine fg _ (Sub.of (List.Sublist.slnil)) ?_
                      exact ⟨hM, is_mk rfl rfl⟩
                  · replace hM := ifp (of_decide_eq_true hg70) hM
                    refine r_n true rfl (by decide) rfl ?_
                    refine r_n true rfl (by decide) rfl ?_
                    refine r_y rfl ?_
                    refine r_v (Value.bool (true)) rfl rfl rfl rfl ?_
                    refine r_v (Value.bool (true)) rfl rfl rfl rfl ?_
                    refine lx_nil ?_
                    refine hK68 _ _ ?_; try clear hK68 K68
                    refine A_cond true rfl (fun _ => ?_) (fun h_ => nomatch h_)
                    refine A_seq fun K73 hK73 => ?_
                    refine A_reg ?_
                    refine r_v (Value.int .i64 (((((4096 * ((((byteN (s) (0)).toNat : Nat) : Int) - 224)) + (64 * ((((byteN (s) (1)).toNat : Nat) : Int) - 128))) + (((byteN (s) (2)).toNat : Nat) : Int)) - 128))) rfl rfl rfl rfl ?_
                    refine r_v (Value.int .i64 (((((4096 * ((((byteN (s) (0)).toNat : Nat) : Int) - 224)) + (64 * ((((byteN (s) (1)).toNat : Nat) : Int) - 128))) + (((byteN (s) (2)).toNat : Nat) : Int)) - 128))) rfl rfl rfl rfl ?_
                    refine r_v (Value.int .i64 (3)) rfl rfl rfl rfl ?_
                    refine lx_nil ?_
                    refine hK73 _ _ ?_; try clear hK73 K73
                    refine A_gen [(2, Value.int .i64 (((((4096 * ((((byteN (s) (0)).toNat : Nat) : Int) - 224)) + (64 * ((((byteN (s) (1)).toNat : Nat) : Int) - 128))) + (((byteN (s) (2)).toNat : Nat) : Int)) - 128))), (3, Value.int .i64 (3))] rfl (fun T => ?_)
                    obtain rfl := Option.some.inj hM
                    refine A_ret (fun hn => ends_eq (v0 := Value.tuple #[Value.int .i64 (((((4096 * ((((byteN (s) (0)).toNat : Nat) : Int) - 224)) + (64 * ((((byteN (s) (1)).toNat : Nat) : Int) - 128))) + (((byteN (s) (2)).toNat : Nat) : Int)) - 128)), Value.int .i64 (3)]) rfl (res2 rfl rfl))
              · replace hM := ifn (Bool.eq_false_iff.1 hc57) hM
                refine A_skip ?_
                refine fg _ (Sub.of (List.Sublist.slnil)) ?_
                exact ⟨hM, is_mk rfl rfl⟩
          · clear hM; rintro t l ⟨hM, ⟨T, rfl⟩, rfl⟩
            unfold shunterref05_First_k3 at hM
            refine A_seq fun K20 hK20 => ?_
            refine A_cut (fun tt ll => ∃ (x4_ : Bool), (shunterref05_First_k5 s x4_ = some r) ∧ Is [(0, Value.string (⟨(s).toArray⟩)), (4, Value.int .i64 ((((byteN (s) (0)).toNat : Nat) : Int))), (111, Value.bool (x4_))] [] tt ll) ?_ ?_
            · refine A_reg ?_
              refine r_v (Value.int .i64 ((((byteN (s) (0)).toNat : Nat) : Int))) rfl rfl rfl rfl ?_
              refine r_v (Value.bool (decide (((((byteN (s) (0)).toNat : Nat) : Int) : Int) ≥ 240))) rfl rfl rfl rfl ?_
              refine r_v (Value.bool (decide (((((byteN (s) (0)).toNat : Nat) : Int) : Int) ≥ 240))) rfl rfl rfl rfl ?_
              rcases hg43 : (decide (((((byteN (s) (0)).toNat : Nat) : Int) : Int) ≥ 240)) with _ | _
              · replace hM := ifn (of_decide_eq_false hg43) hM
                refine r_n false rfl (by decide) rfl ?_
                refine r_n false rfl (by decide) rfl ?_
                refine r_v (Value.bool (false)) rfl rfl rfl rfl ?_
                refine r_v (Value.bool (false)) rfl rfl rfl rfl ?_
                refine r_n false rfl (by decide) rfl ?_
                refine r_n false rfl (by decide) rfl ?_
                refine r_n false rfl (by decide) rfl ?_
                refine r_v (Value.bool (false)) rfl rfl rfl rfl ?_
                refine r_v (Value.bool (false)) rfl rfl rfl rfl ?_
                refine r_n false rfl (by decide) rfl ?_
                refine r_n false rfl (by decide) rfl ?_
                refine r_n false rfl (by decide) rfl ?_
                refine r_v (Value.bool (false)) rfl rfl rfl rfl ?_
                refine r_v (Value.bool (false)) rfl rfl rfl rfl ?_
                refine r_n false rfl (by decide) rfl ?_
                refine r_n false rfl (by decide) rfl ?_
                refine r_n false rfl (by decide) rfl ?_
                refine r_v (Value.bool (false)) rfl rfl rfl rfl ?_
                refine r_v (Value.bool (false)) rfl rfl rfl rfl ?_
                refine r_n false rfl (by decide) rfl ?_
                refine r_n false rfl (by decide) rfl ?_
                refine r_n false rfl (by decide) rfl ?_
                refine r_v (Value.bool (false)) rfl rfl rfl rfl ?_
                refine lx_nil ?_
                refine fg _ (Sub.of (List.Sublist.slnil)) ?_
                exact ⟨false, hM, is_mk (by first | rfl | (simp only [hg43]; done) | (simp only [hg43]; rfl) | (simp only [app_hl]; rfl)) rfl⟩
              · replace hM := ifp (of_decide_eq_true hg43) hM
                refine r_y rfl ?_
                refine r_v (Value.int .i64 ((((byteN (s) (0)).toNat : Nat) : Int))) rfl rfl rfl rfl ?_
                refine r_y rfl ?_
                refine r_v (Value.bool (decide (((((byteN (s) (0)).toNat : Nat) : Int) : Int) < 245))) rfl rfl rfl rfl ?_
                refine r_v (Value.bool (decide (((((byteN (s) (0)).toNat : Nat) : Int) : Int) < 245))) rfl rfl rfl rfl ?_
                refine r_v (Value.bool (decide (((((byteN (s) (0)).toNat : Nat) : Int) : Int) < 245))) rfl rfl rfl rfl ?_
                rcases hg44 : (decide (((((byteN (s) (0)).toNat : Nat) : Int) : Int) < 245)) with _ | _
                · replace hM := ifn (of_decide_eq_false hg44) hM
                  refine r_n false rfl (by decide) rfl ?_
                  refine r_n false rfl (by decide) rfl ?_
                  refine r_n false rfl (by decide) rfl ?_
                  refine r_v (Value.bool (false)) rfl rfl rfl rfl ?_
                  refine r_v (Value.bool (false)) rfl rfl rfl rfl ?_
                  refine r_n false rfl (by decide) rfl ?_
                  refine r_n false rfl (by decide) rfl ?_
                  refine r_n false rfl (by decide) rfl ?_
                  refine r_v (Value.bool (false)) rfl rfl rfl rfl ?_
                  refine r_v (Value.bool (false)) rfl rfl rfl rfl ?_
                  refine r_n false rfl (by decide) rfl ?_
                  refine r_n false rfl (by decide) rfl ?_
                  refine r_n false rfl (by decide) rfl ?_
                  refine r_v (Value.bool (false)) rfl rfl rfl rfl ?_
                  refine r_v (Value.bool (false)) rfl rfl rfl rfl ?_
                  refine r_n false rfl (by decide) rfl ?_
                  refine r_n false rfl (by decide) rfl ?_
                  refine r_n false rfl (by decide) rfl ?_
                  refine r_v (Value.bool (false)) rfl rfl rfl rfl ?_
                  refine lx_nil ?_
                  refine fg _ (Sub.of (List.Sublist.slnil)) ?_
                  exact ⟨false, hM, is_mk (by first | rfl | (simp only [hg43, hg44]; done) | (simp only [hg43, hg44]; rfl) | (simp only [app_hl]; rfl)) rfl⟩
                · replace hM := ifp (of_decide_eq_true hg44) hM
                  refine r_y rfl ?_
                  refine r_v (Value.string (⟨(s).toArray⟩)) rfl rfl rfl rfl ?_
                  refine r_y rfl ?_
                  refine r_v (Value.int .i64 (((s).length : Int))) rfl rfl rfl (ev_lenS rfl rfl rfl) ?_
                  refine r_y rfl ?_
                  refine r_v (Value.bool (decide ((((s).length : Int) : Int) ≥ 4))) rfl rfl rfl rfl ?_
                  refine r_v (Value.bool (decide ((((s).length : Int) : Int) ≥ 4))) rfl rfl rfl rfl ?_
                  refine r_v (Value.bool (decide ((((s).length : Int) : Int) ≥ 4))) rfl rfl rfl rfl ?_
                  rcases hg45 : (decide ((((s).length : Int) : Int) ≥ 4)) with _ | _
                  · replace hM := ifn (of_decide_eq_false hg45) hM
                    refine r_n false rfl (by decide) rfl ?_
                    refine r_n false rfl (by decide) rfl ?_
                    refine r_n false rfl (by decide) rfl ?_
                    refine r_v (Value.bool (false)) rfl rfl rfl rfl ?_
                    refine r_v (Value.bool (false)) rfl rfl rfl rfl ?_
                    refine r_n false rfl (by decide) rfl ?_
                    refine r_n false rfl (by decide) rfl ?_
                    refine r_n false rfl (by decide) rfl ?_
                    refine r_v (Value.bool (false)) rfl rfl rfl rfl ?_
                    refine r_v (Value.bool (false)) rfl rfl rfl rfl ?_
                    refine r_n false rfl (by decide) rfl ?_
                    refine r_n false rfl (by decide) rfl ?_
                    refine r_n false rfl (by decide) rfl ?_
                    refine r_v (Value.bool (false)) rfl rfl rfl rfl ?_
                    refine lx_nil ?_
                    refine fg _ (Sub.of (List.Sublist.slnil)) ?_
                    exact ⟨false, hM, is_mk (by first | rfl | (simp only [hg43, hg44, hg45]; done) | (simp only [hg43, hg44, hg45]; rfl) | (simp only [app_hl]; rfl)) rfl⟩
                  · replace hM := ifp (of_decide_eq_true hg45) hM
                    refine r_y rfl ?_
                    refine r_v (Value.string (⟨(s).toArray⟩)) rfl rfl rfl rfl ?_
                    refine r_y rfl ?_
                    replace hM := ck_some hM; obtain ⟨ck46, hM⟩ := hM
                    refine r_v (Value.int .u8 ((byteAt (s) (1)))) rfl rfl rfl (ev_v (ev_indexS rfl ck46)) ?_
                    refine r_y rfl ?_
                    replace hM := bind_sm hM; obtain ⟨r47, hr48, hM⟩ := hM
                    refine r_c (Value.bool (r47)) rfl _ _ (ev_callF rfl call_78 rfl) (shunterref05_more_g N (byteN (s) (1)) _ hr48) ?_
                    refine r_v (Value.bool (r47)) rfl rfl rfl rfl ?_
                    refine r_v (Value.bool (r47)) rfl rfl rfl rfl ?_
                    rcases hg49 : (r47) with _ | _
                    · replace hM := ifn (Bool.eq_false_iff.1 hg49) hM
                      refine r_n false rfl (by decide) rfl ?_
                      refine r_n false rfl (by decide) rfl ?_
                      refine r_n false rfl (by decide) rfl ?_
                      refine r_v (Value.bool (false)) rfl rfl rfl rfl ?_
                      refine r_v (Value.bool (false)) rfl rfl rfl rfl ?_
                      refine r_n false rfl (by decide) rfl ?_
                      refine r_n false rfl (by decide) rfl ?_
                      refine r_n false rfl (by decide) rfl ?_
                      refine r_v (Value.bool (false)) rfl rfl rfl rfl ?_
                      refine lx_nil ?_
                      refine fg _ (Sub.of (List.Sublist.slnil)) ?_
                      exact ⟨false, hM, is_mk (by first | rfl | (simp only [hg43, hg44, hg45, hg49]; done) | (simp only [hg43, hg44, hg45, hg49]; rfl) | (simp only [app_hl]; rfl)) rfl⟩
                    · replace hM := ifp hg49 hM
                      refine r_y rfl ?_
                      refine r_v (Value.string (⟨(s).toArray⟩)) rfl rfl rfl rfl ?_
                      refine r_y rfl ?_
                      replace hM := ck_some hM; obtain ⟨ck50, hM⟩ := hM
                      refine r_v (Value.int .u8 ((byteAt (s) (2)))) rfl rfl rfl (ev_v (ev_indexS rfl ck50)) ?_
                      refine r_y rfl ?_
                      replace hM := bind_sm hM; obtain ⟨r51, hr52, hM⟩ := hM
                      refine r_c (Value.bool (r51)) rfl _ _ (ev_callF rfl call_78 rfl) (shunterref05_more_g N (byteN (s) (2)) _ hr52) ?_
                      refine r_v (Value.bool (r51)) rfl rfl rfl rfl ?_
                      refine r_v (Value.bool (r51)) rfl rfl rfl rfl ?_
                      rcases hg53 : (r51) with _ | _
                      · replace hM := ifn (Bool.eq_false_iff.1 hg53) hM
                        refine r_n false rfl (by decide) rfl ?_
                        refine r_n false rfl (by decide) rfl ?_
                        refine r_n false rfl (by decide) rfl ?_
                        refine r_v (Value.bool (false)) rfl rfl rfl rfl ?_
                        refine lx_nil ?_
                        refine fg _ (Sub.of (List.Sublist.slnil)) ?_
                        exact ⟨false, hM, is_mk (by first | rfl | (simp only [hg43, hg44, hg45, hg49, hg53]; done) | (simp only [hg43, hg44, hg45, hg49, hg53]; rfl) | (simp only [app_hl]; rfl)) rfl⟩
                      · replace hM := ifp hg53 hM
                        refine r_y rfl ?_
                        refine r_v (Value.string (⟨(s).toArray⟩)) rfl rfl rfl rfl ?_
                        refine r_y rfl ?_
                        replace hM := ck_some hM; obtain ⟨ck54, hM⟩ := hM
                        refine r_v (Value.int .u8 ((byteAt (s) (3)))) rfl rfl rfl (ev_v (ev_indexS rfl ck54)) ?_
                        refine r_y rfl ?_
                        replace hM := bind_sm hM; obtain ⟨r55, hr56, hM⟩ := hM
                        refine r_c (Value.bool (r55)) rfl _ _ (ev_callF rfl call_78 rfl) (shunterref05_more_g N (byteN (s) (3)) _ hr56) ?_
                        refine r_v (Value.bool (r55)) rfl rfl rfl rfl ?_
                        refine lx_nil ?_
                        refine fg _ (Sub.of (List.Sublist.slnil)) ?_
                        exact ⟨r55, hM, is_mk (by first | rfl | (simp only [hg43, hg44, hg45, hg49, hg53]; done) | (simp only [hg43, hg44, hg45, hg49, hg53]; rfl) | (simp only [app_hl]; rfl)) rfl⟩
            · clear hM; rintro t l ⟨x4_, hM, ⟨T, rfl⟩, rfl⟩
              unfold shunterref05_First_k5 at hM
              refine A_cond (x4_) rfl (fun hc21 => ?_) (fun hc21 => ?_)
              · replace hM := ifp hc21 hM
                refine A_seq fun K22 hK22 => ?_
                refine A_draw [] (by decide +kernel) (fun hn => sep_nil) ?_
                refine r_v (Value.int .i64 ((((byteN (s) (0)).toNat : Nat) : Int))) rfl rfl rfl rfl ?_
                replace hM := ck_some hM; obtain ⟨ck23, hM⟩ := hM
                refine r_v (Value.int .i64 (((((byteN (s) (0)).toNat : Nat) : Int) - 240))) rfl rfl (wi64 rfl ck23.1 ck23.2) rfl ?_
                replace hM := ck_some hM; obtain ⟨ck24, hM⟩ := hM
                refine r_v (Value.int .i64 ((262144 * ((((byteN (s) (0)).toNat : Nat) : Int) - 240)))) rfl rfl (wi64 rfl ck24.1 ck24.2) rfl ?_
                refine r_v (Value.string (⟨(s).toArray⟩)) rfl rfl rfl rfl ?_
                replace hM := ck_some hM; obtain ⟨ck25, hM⟩ := hM
                refine r_v (Value.int .u8 ((byteAt (s) (1)))) rfl rfl rfl (ev_v (ev_indexS rfl ck25)) ?_
                refine r_w (Value.int .i64 ((((byteN (s) (1)).toNat : Nat) : Int))) rfl rfl (u8_i64 (byteN (s) (1))) (fun _ => rfl) ?_
                replace hM := ck_some hM; obtain ⟨ck26, hM⟩ := hM
                refine r_v (Value.int .i64 (((((byteN (s) (1)).toNat : Nat) : Int) - 128))) rfl rfl (wi64 rfl ck26.1 ck26.2) rfl ?_
                replace hM := ck_some hM; obtain ⟨ck27, hM⟩ := hM
                refine r_v (Value.int .i64 ((4096 * ((((byteN (s) (1)).toNat : Nat) : Int) - 128)))) rfl rfl (wi64 rfl ck27.1 ck27.2) rfl ?_
                replace hM := ck_some hM; obtain ⟨ck28, hM⟩ := hM
                refine r_v (Value.int .i64 (((262144 * ((((byteN (s) (0)).toNat : Nat) : Int) - 240)) + (4096 * ((((byteN (s) (1)).toNat : Nat) : Int) - 128))))) rfl rfl (wi64 rfl ck28.1 ck28.2) rfl ?_
                refine r_v (Value.string (⟨(s).toArray⟩)) rfl rfl rfl rfl ?_
                replace hM := ck_some hM; obtain ⟨ck29, hM⟩ := hM
                refine r_v (Value.int .u8 ((byteAt (s) (2)))) rfl rfl rfl (ev_v (ev_indexS rfl ck29)) ?_
                refine r_w (Value.int .i64 ((((byteN (s) (2)).toNat : Nat) : Int))) rfl rfl (u8_i64 (byteN (s) (2))) (fun _ => rfl) ?_
                replace hM := ck_some hM; obtain ⟨ck30, hM⟩ := hM
                refine r_v (Value.int .i64 (((((byteN (s) (2)).toNat : Nat) : Int) - 128))) rfl rfl (wi64 rfl ck30.1 ck30.2) rfl ?_
                replace hM := ck_some hM; obtain ⟨ck31, hM⟩ := hM
                refine r_v (Value.int .i64 ((64 * ((((byteN (s) (2)).toNat : Nat) : Int) - 128)))) rfl rfl (wi64 rfl ck31.1 ck31.2) rfl ?_
                replace hM := ck_some hM; obtain ⟨ck32, hM⟩ := hM
                refine r_v (Value.int .i64 ((((262144 * ((((byteN (s) (0)).toNat : Nat) : Int) - 240)) + (4096 * ((((byteN (s) (1)).toNat : Nat) : Int) - 128))) + (64 * ((((byteN (s) (2)).toNat : Nat) : Int) - 128))))) rfl rfl (wi64 rfl ck32.1 ck32.2) rfl ?_
                refine r_v (Value.string (⟨(s).toArray⟩)) rfl rfl rfl rfl ?_
                replace hM := ck_some hM; obtain ⟨ck33, hM⟩ := hM
                refine r_v (Value.int .u8 ((byteAt (s) (3)))) rfl rfl rfl (ev_v (ev_indexS rfl ck33)) ?_
                refine r_w (Value.int .i64 ((((byteN (s) (3)).toNat : Nat) : Int))) rfl rfl (u8_i64 (byteN (s) (3))) (fun _ => rfl) ?_
                replace hM := ck_some hM; obtain ⟨ck34, hM⟩ := hM
                refine r_v (Value.int .i64 (((((262144 * ((((byteN (s) (0)).toNat : Nat) : Int) - 240)) + (4096 * ((((byteN (s) (1)).toNat : Nat) : Int) - 128))) + (64 * ((((byteN (s) (2)).toNat : Nat) : Int) - 128))) + (((byteN (s) (3)).toNat : Nat) : Int)))) rfl rfl (wi64 rfl ck34.1 ck34.2) rfl ?_
                replace hM := ck_some hM; obtain ⟨ck35, hM⟩ := hM
                refine r_v (Value.int .i64 ((((((262144 * ((((byteN (s) (0)).toNat : Nat) : Int) - 240)) + (4096 * ((((byteN (s) (1)).toNat : Nat) : Int) - 128))) + (64 * ((((byteN (s) (2)).toNat : Nat) : Int) - 128))) + (((byteN (s) (3)).toNat : Nat) : Int)) - 128))) rfl rfl (wi64 rfl ck35.1 ck35.2) rfl ?_
                refine r_v (Value.int .i64 ((((((262144 * ((((byteN (s) (0)).toNat : Nat) : Int) - 240)) + (4096 * ((((byteN (s) (1)).toNat : Nat) : Int) - 128))) + (64 * ((((byteN (s) (2)).toNat : Nat) : Int) - 128))) + (((byteN (s) (3)).toNat : Nat) : Int)) - 128))) rfl rfl rfl rfl ?_
                refine lx_nil ?_
                refine hK22 _ _ ?_; try clear hK22 K22
                refine A_seq fun K36 hK36 => ?_
                refine A_reg ?_
                refine r_v (Value.int .i64 ((((((262144 * ((((byteN (s) (0)).toNat : Nat) : Int) - 240)) + (4096 * ((((byteN (s) (1)).toNat : Nat) : Int) - 128))) + (64 * ((((byteN (s) (2)).toNat : Nat) : Int) - 128))) + (((byteN (s) (3)).toNat : Nat) : Int)) - 128))) rfl rfl rfl rfl ?_
                refine r_v (Value.bool (decide (((((((262144 * ((((byteN (s) (0)).toNat : Nat) : Int) - 240)) + (4096 * ((((byteN (s) (1)).toNat : Nat) : Int) - 128))) + (64 * ((((byteN (s) (2)).toNat : Nat) : Int) - 128))) + (((byteN (s) (3)).toNat : Nat) : Int)) - 128) : Int) ≥ 65536))) rfl rfl rfl rfl ?_
                refine r_v (Value.bool (decide (((((((262144 * ((((byteN (s) (0)).toNat : Nat) : Int) - 240)) + (4096 * ((((byteN (s) (1)).toNat : Nat) : Int) - 128))) + (64 * ((((byteN (s) (2)).toNat : Nat) : Int) - 128))) + (((byteN (s) (3)).toNat : Nat) : Int)) - 128) : Int) ≥ 65536))) rfl rfl rfl rfl ?_
                rcases hg37 : (decide (((((((262144 * ((((byteN (s) (0)).toNat : Nat) : Int) - 240)) + (4096 * ((((byteN (s) (1)).toNat : Nat) : Int) - 128))) + (64 * ((((byteN (s) (2)).toNat : Nat) : Int) - 128))) + (((byteN (s) (3)).toNat : Nat) : Int)) - 128) : Int) ≥ 65536)) with _ | _
                · replace hM := ifn (of_decide_eq_false hg37) hM
                  refine r_n false rfl (by decide) rfl ?_
                  refine r_n false rfl (by decide) rfl ?_
                  refine r_v (Value.bool (false)) rfl rfl rfl rfl ?_
                  refine lx_nil ?_
                  refine hK36 _ _ ?_; try clear hK36 K36
                  refine A_gen [(6, Value.int .i64 ((((((262144 * ((((byteN (s) (0)).toNat : Nat) : Int) - 240)) + (4096 * ((((byteN (s) (1)).toNat : Nat) : Int) - 128))) + (64 * ((((byteN (s) (2)).toNat : Nat) : Int) - 128))) + (((byteN (s) (3)).toNat : Nat) : Int)) - 128))), (137, Value.bool (false))] rfl (fun T => ?_)
                  refine A_cond false rfl (fun h_ => nomatch h_) (fun _ => ?_)
                  refine A_skip ?_
                  refine hK20 _ _ ?_; try clear hK20 K20
                  refine A_seq fun K38 hK38 => ?_
                  refine A_reg ?_
                  refine r_v (Value.int .i64 (65533)) rfl rfl rfl rfl ?_
                  refine r_v (Value.int .i64 (1)) rfl rfl rfl rfl ?_
                  refine lx_nil ?_
                  refine hK38 _ _ ?_; try clear hK38 K38
                  obtain rfl := Option.some.inj hM
                  refine A_ret (fun hn => ends_eq (v0 := Value.tuple #[Value.int .i64 (65533), Value.int .i64 (1)]) rfl (res2 rfl rfl))
                · replace hM := ifp (of_decide_eq_true hg37) hM
                  refine r_y rfl ?_
                  refine r_v (Value.int .i64 ((((((262144 * ((((byteN (s) (0)).toNat : Nat) : Int) - 240)) + (4096 * ((((byteN (s) (1)).toNat : Nat) : Int) - 128))) + (64 * ((((byteN (s) (2)).toNat : Nat) : Int) - 128))) + (((byteN (s) (3)).toNat : Nat) : Int)) - 128))) rfl rfl rfl rfl ?_
                  refine r_y rfl ?_
                  refine r_v (Value.bool (decide (((((((262144 * ((((byteN (s) (0)).toNat : Nat) : Int) - 240)) + (4096 * ((((byteN (s) (1)).toNat : Nat) : Int) - 128))) + (64 * ((((byteN (s) (2)).toNat : Nat) : Int) - 128))) + (((byteN (s) (3)).toNat : Nat) : Int)) - 128) : Int) ≤ 1114111))) rfl rfl rfl rfl ?_
                  refine r_v (Value.bool (decide (((((((262144 * ((((byteN (s) (0)).toNat : Nat) : Int) - 240)) + (4096 * ((((byteN (s) (1)).toNat : Nat) : Int) - 128))) + (64 * ((((byteN (s) (2)).toNat : Nat) : Int) - 128))) + (((byteN (s) (3)).toNat : Nat) : Int)) - 128) : Int) ≤ 1114111))) rfl rfl rfl rfl ?_
                  refine lx_nil ?_
                  refine hK36 _ _ ?_; try clear hK36 K36
                  refine A_gen [(6, Value.int .i64 ((((((262144 * ((((byteN (s) (0)).toNat : Nat) : Int) - 240)) + (4096 * ((((byteN (s) (1)).toNat : Nat) : Int) - 128))) + (64 * ((((byteN (s) (2)).toNat : Nat) : Int) - 128))) + (((byteN (s) (3)).toNat : Nat) : Int)) - 128))), (137, Value.bool (decide (((((((262144 * ((((byteN (s) (0)).toNat : Nat) : Int) - 240)) + (4096 * ((((byteN (s) (1)).toNat : Nat) : Int) - 128))) + (64 * ((((byteN (s) (2)).toNat : Nat) : Int) - 128))) + (((byteN (s) (3)).toNat : Nat) : Int)) - 128) : Int) ≤ 1114111)))] rfl (fun T => ?_)
                  refine A_cond (decide (((((((262144 * ((((byteN (s) (0)).toNat : Nat) : Int) - 240)) + (4096 * ((((byteN (s) (1)).toNat : Nat) : Int) - 128))) + (64 * ((((byteN (s) (2)).toNat : Nat) : Int) - 128))) + (((byteN (s) (3)).toNat : Nat) : Int)) - 128) : Int) ≤ 1114111)) rfl (fun hc39 => ?_) (fun hc39 => ?_)
                  · replace hM := ifp (of_decide_eq_true hc39) hM
                    refine A_seq fun K40 hK40 => ?_
                    refine A_reg ?_
                    refine r_v (Value.int .i64 ((((((262144 * ((((byteN (s) (0)).toNat : Nat) : Int) - 240)) + (4096 * ((((byteN (s) (1)).toNat : Nat) : Int) - 128))) + (64 * ((((byteN (s) (2)).toNat : Nat) : Int) - 128))) + (((byteN (s) (3)).toNat : Nat) : Int)) - 128))) rfl rfl rfl rfl ?_
                    refine r_v (Value.int .i64 ((((((262144 * ((((byteN (s) (0)).toNat : Nat) : Int) - 240)) + (4096 * ((((byteN (s) (1)).toNat : Nat) : Int) - 128))) + (64 * ((((byteN (s) (2)).toNat : Nat) : Int) - 128))) + (((byteN (s) (3)).toNat : Nat) : Int)) - 128))) rfl rfl rfl rfl ?_
                    refine r_v (Value.int .i64 (4)) rfl rfl rfl rfl ?_
                    refine lx_nil ?_
                    refine hK40 _ _ ?_; try clear hK40 K40
                    obtain rfl := Option.some.inj hM
                    refine A_ret (fun hn => ends_eq (v0 := Value.tuple #[Value.int .i64 ((((((262144 * ((((byteN (s) (0)).toNat : Nat) : Int) - 240)) + (4096 * ((((byteN (s) (1)).toNat : Nat) : Int) - 128))) + (64 * ((((byteN (s) (2)).toNat : Nat) : Int) - 128))) + (((byteN (s) (3)).toNat : Nat) : Int)) - 128)), Value.int .i64 (4)]) rfl (res2 rfl rfl))
                  · replace hM := ifn (of_decide_eq_false hc39) hM
                    refine A_skip ?_
                    refine hK20 _ _ ?_; try clear hK20 K20
                    refine A_seq fun K41 hK41 => ?_
                    refine A_reg ?_
                    refine r_v (Value.int .i64 (65533)) rfl rfl rfl rfl ?_
                    refine r_v (Value.int .i64 (1)) rfl rfl rfl rfl ?_
                    refine lx_nil ?_
                    refine hK41 _ _ ?_; try clear hK41 K41
                    obtain rfl := Option.some.inj hM
                    refine A_ret (fun hn => ends_eq (v0 := Value.tuple #[Value.int .i64 (65533), Value.int .i64 (1)]) rfl (res2 rfl rfl))
              · replace hM := ifn (Bool.eq_false_iff.1 hc21) hM
                refine A_skip ?_
                refine hK20 _ _ ?_; try clear hK20 K20
                refine A_seq fun K42 hK42 => ?_
                refine A_reg ?_
                refine r_v (Value.int .i64 (65533)) rfl rfl rfl rfl ?_
                refine r_v (Value.int .i64 (1)) rfl rfl rfl rfl ?_
                refine lx_nil ?_
                refine hK42 _ _ ?_; try clear hK42 K42
                obtain rfl := Option.some.inj hM
                refine A_ret (fun hn => ends_eq (v0 := Value.tuple #[Value.int .i64 (65533), Value.int .i64 (1)]) rfl (res2 rfl rfl))
end Go.Proofs.Ytdgejbbelmhbdaa
