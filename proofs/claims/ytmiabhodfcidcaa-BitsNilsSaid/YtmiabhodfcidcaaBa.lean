/- models of functions and their walks -/
import Derived.Test.YtmiabhodfcidcaaYt
import Derived.Test.YtmiabhodfcidcaaMove
import Derived.Test.YtmiabhodfcidcaaReft
namespace Go.Proofs.Ytmiabhodfcidcaa
open Go Go.RowKit Go.Eng
def enc_26 : Enc (Int × BitVec 128) := ⟨fun x => [Value.int .i64 (x.1), U (hi (x.2)), U (lo (x.2))], 3, by decide, fun _ => rfl, fun x v h => by simp only [List.mem_cons, List.not_mem_nil, or_false] at h; rcases h with rfl | rfl | rfl <;> rfl⟩
def encr_39 : EncR (Int × Int × Int × (BitVec 128) × (List UInt8)) := ⟨fun c x vs => ∃ (s0 : Value), Rd encY c s0 x.2.2.2.2 ∧ vs = [Value.int .i64 (x.1), Value.int .i64 (x.2.1), Value.int .i64 (x.2.2.1), U (hi (x.2.2.2.1)), U (lo (x.2.2.2.1)), s0], 6, by decide, fun hc ⟨s0, h0, hv⟩ => ⟨s0, h0.mono hc, hv⟩⟩
def bits_mayWidth_m (_ : Nat) (w : Int) : Option (Bool) := if (w : Int) ≥ 1 then some (decide ((w : Int) ≤ 128)) else some (false)
set_option maxRecDepth 100000 in
set_option maxHeartbeats 400000 in
theorem bits_mayWidth_g (N : Nat) (w : Int) (r : Bool) (hM : bits_mayWidth_m N w = some r) : Gives Try.prog 29 #[Value.int .i64 (w)] (Value.bool (r)) := by
  unfold bits_mayWidth_m at hM
  refine gives_of_A follows Try.func29 rfl 9 rfl (upd (fun _ => undef) 0 (Value.int .i64 (w))) (by funext k; match k with | 0 => rfl | k + 1 => rfl) (fun base0_ => ?_)
  refine A_seq fun K1 hK1 => ?_
  refine A_reg ?_
  refine r_v (Value.bool (false)) rfl rfl rfl rfl ?_
  refine lx_nil ?_
  refine hK1 _ _ ?_; try clear hK1 K1
  refine A_seq fun K2 hK2 => ?_
  refine A_reg ?_
  refine r_v (Value.int .i64 (w)) rfl rfl rfl rfl ?_
  refine r_v (Value.bool (decide ((w : Int) ≥ 1))) rfl rfl rfl rfl ?_
  refine r_v (Value.bool (decide ((w : Int) ≥ 1))) rfl rfl rfl rfl ?_
  rcases hg3 : (decide ((w : Int) ≥ 1)) with _ | _
  · replace hM := ifn (of_decide_eq_false hg3) hM
    refine r_n false rfl (by decide) rfl ?_
    refine r_n false rfl (by decide) rfl ?_
    refine r_v (Value.bool (false)) rfl rfl rfl rfl ?_
    refine r_v (Value.bool (false)) rfl rfl rfl rfl ?_
    refine lx_nil ?_
    refine hK2 _ _ ?_; try clear hK2 K2
    obtain rfl := Option.some.inj hM
    refine A_ret (fun hn => ends_eq (v0 := Value.bool (false)) rfl (res1 rfl))
  · replace hM := ifp (of_decide_eq_true hg3) hM
    refine r_y rfl ?_
    refine r_v (Value.int .i64 (w)) rfl rfl rfl rfl ?_
    refine r_y rfl ?_
    refine r_v (Value.bool (decide ((w : Int) ≤ 128))) rfl rfl rfl rfl ?_
    refine r_v (Value.bool (decide ((w : Int) ≤ 128))) rfl rfl rfl rfl ?_
    refine r_v (Value.bool (decide ((w : Int) ≤ 128))) rfl rfl rfl rfl ?_
    refine lx_nil ?_
    refine hK2 _ _ ?_; try clear hK2 K2
    obtain rfl := Option.some.inj hM
    refine A_ret (fun hn => ends_eq (v0 := Value.bool (decide ((w : Int) ≤ 128))) rfl (res1 rfl))
def bits_has_m (_ : Nat) (b : List UInt8) (at' : Int) (w : Int) : Option (Bool) := if (at' : Int) ≥ 0 then ck ((-9223372036854775808 ≤ (8 * ((b).length : Int)) ∧ (8 * ((b).length : Int)) ≤ 9223372036854775807)) (ck ((-9223372036854775808 ≤ ((8 * ((b).length : Int)) - w) ∧ ((8 * ((b).length : Int)) - w) ≤ 9223372036854775807)) (some (decide ((at' : Int) ≤ ((8 * ((b).length : Int)) - w))))) else some (false)
set_option maxRecDepth 100000 in
set_option maxHeartbeats 400000 in
theorem bits_has_g (N : Nat) (b : List UInt8) (at' : Int) (w : Int) (r : Bool) (hM : bits_has_m N b at' w = some r) (ro : Addr → Option Value) (bv : Value) (hb : Rd encY ro bv b) : Does Try.prog 30 #[bv, Value.int .i64 (at'), Value.int .i64 (w)] ro [] (pV (Value.bool (r))) := by
  unfold bits_has_m at hM
  refine does_of_A follows Try.func30 rfl 18 rfl (upd (upd (upd (fun _ => undef) 2 (Value.int .i64 (w))) 1 (Value.int .i64 (at'))) 0 (bv)) (by funext k; match k with | 0 => rfl | 1 => rfl | 2 => rfl | k + 3 => rfl) (fun base0_ => ?_)
  refine A_seq fun K1 hK1 => ?_
  refine A_reg ?_
  refine r_v (Value.bool (false)) rfl rfl rfl rfl ?_
  refine lx_nil ?_
  refine hK1 _ _ ?_; try clear hK1 K1
  refine A_seq fun K2 hK2 => ?_
  refine A_reg ?_
  refine r_v (Value.int .i64 (at')) rfl rfl rfl rfl ?_
  refine r_v (Value.bool (decide ((at' : Int) ≥ 0))) rfl rfl rfl rfl ?_
  refine r_v (Value.bool (decide ((at' : Int) ≥ 0))) rfl rfl rfl rfl ?_
  rcases hg3 : (decide ((at' : Int) ≥ 0)) with _ | _
  · replace hM := ifn (of_decide_eq_false hg3) hM
    refine r_n false rfl (by decide) rfl ?_
    refine r_n false rfl (by decide) rfl ?_
    refine r_n false rfl (by decide) rfl ?_
    refine r_n false rfl (by decide) rfl ?_
    refine r_n false rfl (by decide) rfl ?_
    refine r_n false rfl (by decide) rfl ?_
    refine r_n false rfl (by decide) rfl ?_
    refine r_v (Value.bool (false)) rfl rfl rfl rfl ?_
    refine r_v (Value.bool (false)) rfl rfl rfl rfl ?_
    refine lx_nil ?_
    refine hK2 _ _ ?_; try clear hK2 K2
    obtain rfl := Option.some.inj hM
    refine A_ret (fun hn => endsV (v0 := Value.bool (false)) rfl (res1 rfl))
  · replace hM := ifp (of_decide_eq_true hg3) hM
    refine r_y rfl ?_
    refine r_v (Value.int .i64 (at')) rfl rfl rfl rfl ?_
    refine r_y rfl ?_
    refine r_v (bv) rfl rfl rfl rfl ?_
    refine r_y rfl ?_
    refine r_v (Value.int .i64 (((b).length : Int))) rfl rfl rfl (ev_lenSl rfl rfl rfl (Rd.shp hb)) ?_
    refine r_y rfl ?_
    replace hM := ck_some hM; obtain ⟨ck4, hM⟩ := hM
    refine r_v (Value.int .i64 ((8 * ((b).length : Int)))) rfl rfl (wi64 rfl ck4.1 ck4.2) rfl ?_
    refine r_y rfl ?_
    refine r_v (Value.int .i64 (w)) rfl rfl rfl rfl ?_
    refine r_y rfl ?_
    replace hM := ck_some hM; obtain ⟨ck5, hM⟩ := hM
    refine r_v (Value.int .i64 (((8 * ((b).length : Int)) - w))) rfl rfl (wi64 rfl ck5.1 ck5.2) rfl ?_
    refine r_y rfl ?_
    refine r_v (Value.bool (decide ((at' : Int) ≤ ((8 * ((b).length : Int)) - w)))) rfl rfl rfl rfl ?_
    refine r_v (Value.bool (decide ((at' : Int) ≤ ((8 * ((b).length : Int)) - w)))) rfl rfl rfl rfl ?_
    refine r_v (Value.bool (decide ((at' : Int) ≤ ((8 * ((b).length : Int)) - w)))) rfl rfl rfl rfl ?_
    refine lx_nil ?_
    refine hK2 _ _ ?_; try clear hK2 K2
    obtain rfl := Option.some.inj hM
    refine A_ret (fun hn => endsV (v0 := Value.bool (decide ((at' : Int) ≤ ((8 * ((b).length : Int)) - w)))) rfl (res1 rfl))
def bits_part_mask_m (_ : Nat) (_ : Int) (p_1 : Int) (p_2 : Int) (_ : Int) : Option (UInt8) := ck ((-9223372036854775808 ≤ (8 - p_1) ∧ (8 - p_1) ≤ 9223372036854775807)) (ck ((0 : Int) ≤ (8 - p_1)) (ck ((0 : Int) ≤ p_2) (some ((sl8 (sr8 (255 : UInt8) ((8 - p_1)).toNat) (p_2).toNat)))))
set_option maxRecDepth 100000 in
set_option maxHeartbeats 400000 in
theorem bits_part_mask_g (N : Nat) (p_0 : Int) (p_1 : Int) (p_2 : Int) (p_3 : Int) (r : UInt8) (hM : bits_part_mask_m N p_0 p_1 p_2 p_3 = some r) : Gives Try.prog 33 #[Value.agg #[Value.int .i64 (p_0), Value.int .i64 (p_1), Value.int .i64 (p_2), Value.int .i64 (p_3)]] (Value.int .u8 (((r.toNat : Nat) : Int))) := by
  unfold bits_part_mask_m at hM
  refine gives_of_A follows Try.func33 rfl 10 rfl (upd (fun _ => undef) 0 (Value.agg #[Value.int .i64 (p_0), Value.int .i64 (p_1), Value.int .i64 (p_2), Value.int .i64 (p_3)])) (by funext k; match k with | 0 => rfl | k + 1 => rfl) (fun base0_ => ?_)
  refine A_seq fun K1 hK1 => ?_
  refine A_reg ?_
  refine r_a (65, #[Value.int .i64 (p_0), Value.int .i64 (p_1), Value.int .i64 (p_2), Value.int .i64 (p_3)]) rfl rfl rfl (fun b2 => ?_) (.inr rfl)
  refine r_v (Value.int .u8 (0)) rfl rfl rfl rfl ?_
  refine lx_nil ?_
  refine hK1 _ _ ?_; try clear hK1 K1
  refine A_seq fun K3 hK3 => ?_
  refine A_draw [] (by decide +kernel) (fun hn => sep_nil) ?_
  refine r_v (Value.pointer (some ⟨b2, 1, none⟩)) rfl rfl rfl rfl ?_
  refine r_l (Value.int .i64 (p_1)) 0 _ _ _ _ rfl rfl rfl rfl rfl ?_
  replace hM := ck_some hM; obtain ⟨ck4, hM⟩ := hM
  refine r_v (Value.int .i64 ((8 - p_1))) rfl rfl (wi64 rfl ck4.1 ck4.2) rfl ?_
  replace hM := ck_some hM; obtain ⟨ck5, hM⟩ := hM
  refine r_v (Value.int .u8 ((((sr8 (255 : UInt8) ((8 - p_1)).toNat).toNat : Nat) : Int))) rfl rfl rfl (ev_shr8 (x := (255 : UInt8)) rfl rfl ck5) ?_
  refine r_v (Value.pointer (some ⟨b2, 2, none⟩)) rfl rfl rfl rfl ?_
  refine r_l (Value.int .i64 (p_2)) 0 _ _ _ _ rfl rfl rfl rfl rfl ?_
  replace hM := ck_some hM; obtain ⟨ck6, hM⟩ := hM
  refine r_v (Value.int .u8 ((((sl8 (sr8 (255 : UInt8) ((8 - p_1)).toNat) (p_2).toNat).toNat : Nat) : Int))) rfl rfl rfl (ev_shl8 (x := (sr8 (255 : UInt8) ((8 - p_1)).toNat)) rfl rfl ck6) ?_
  refine r_v (Value.int .u8 ((((sl8 (sr8 (255 : UInt8) ((8 - p_1)).toNat) (p_2).toNat).toNat : Nat) : Int))) rfl rfl rfl rfl ?_
  refine lx_nil ?_
  refine hK3 _ _ ?_; try clear hK3 K3
  obtain rfl := Option.some.inj hM
  refine A_ret (fun hn => ends_eq (v0 := Value.int .u8 ((((sl8 (sr8 (255 : UInt8) ((8 - p_1)).toNat) (p_2).toNat).toNat : Nat) : Int))) rfl (res1 rfl))
def bits_Get_1_v1_m (N : Nat) (p_0 : Int) (p_1 : Int) (p_2 : Int) (p_3 : Int) (c1_ : List UInt8) (c2_ : BitVec 128) : Option (BitVec 128) := ck (0 ≤ p_0 ∧ p_0 < ((c1_).length : Int)) ((bits_part_mask_m N p_0 p_1 p_2 p_3).bind fun r5 => ck ((0 : Int) ≤ p_2) (ck (-9223372036854775808 ≤ (p_3 : Int) ∧ (p_3 : Int) ≤ 9223372036854775807) (some ((c2_) ||| (shiftI ((0#64) ++ (BitVec.ofNat 64 (sr8 (((c1_)[(p_0).toNat]!) &&& r5) (p_2).toNat).toNat)) (p_3))))))
set_option maxRecDepth 100000 in
set_option maxHeartbeats 400000 in
theorem bits_Get_1_v1_g (N : Nat) (p_0 : Int) (p_1 : Int) (p_2 : Int) (p_3 : Int) (c1_ : List UInt8) (c2_ : BitVec 128) (r : BitVec 128) (hM : bits_Get_1_v1_m N p_0 p_1 p_2 p_3 c1_ c2_ = some r) (ro : Addr → Option Value) (bc1_ : Nat) (c1_v : Value) (hc1_ : Rd encY ro c1_v c1_) (hbc1_ : Blk ro bc1_ [c1_v]) (bc2_ : Nat) : Does Try.prog 32 #[Value.agg #[Value.int .i64 (p_0), Value.int .i64 (p_1), Value.int .i64 (p_2), Value.int .i64 (p_3)], Value.pointer (some ⟨bc1_, 0, none⟩), Value.pointer (some ⟨bc2_, 0, none⟩)] ro [(bc2_, 62, #[U (hi (c2_)), U (lo (c2_))])] (pO [(bc2_, 62, #[U (hi (c2_)), U (lo (c2_))])] (oE (Value.tuple #[]) [[(bc2_, 62, #[U (hi (r)), U (lo (r))])]])) := by
  unfold bits_Get_1_v1_m at hM
  refine doesO_of_A follows Try.func32 rfl 24 rfl (upd (upd (upd (fun _ => undef) 2 (Value.pointer (some ⟨bc2_, 0, none⟩))) 1 (Value.pointer (some ⟨bc1_, 0, none⟩))) 0 (Value.agg #[Value.int .i64 (p_0), Value.int .i64 (p_1), Value.int .i64 (p_2), Value.int .i64 (p_3)])) (by funext k; match k with | 0 => rfl | 1 => rfl | 2 => rfl | k + 3 => rfl) (fun _ _ h_ _ => h_) (fun base0_ => ?_)
  refine A_seq fun K1 hK1 => ?_
  refine A_reg ?_
  refine r_a (65, #[Value.int .i64 (p_0), Value.int .i64 (p_1), Value.int .i64 (p_2), Value.int .i64 (p_3)]) rfl rfl rfl (fun b2 => ?_) (.inr rfl)
  refine lx_nil ?_
  refine hK1 _ _ ?_; try clear hK1 K1
  refine A_seq fun K3 hK3 => ?_
  refine A_draw [] (by decide +kernel) (fun hn => sep_nil) ?_
  refine r_lb (c1_v) (vs := [c1_v]) (o := 0) rfl rfl (blk_ro hbc1_) rfl ?_
  refine r_v (Value.pointer (some ⟨b2, 0, none⟩)) rfl rfl rfl rfl ?_
  refine r_l (Value.int .i64 (p_0)) 0 _ _ _ _ rfl rfl rfl rfl rfl ?_
  replace hM := ck_some hM; obtain ⟨ck4, hM⟩ := hM
  refine r_v (elA c1_v ((p_0).toNat * 1)) rfl rfl rfl (ev_v (ev_idxSl rfl rfl rfl (Rd.shp hc1_) ck4)) ?_
  refine r_le (Value.int .u8 (((((c1_)[(p_0).toNat]!).toNat : Nat) : Int))) (En := encY) ((c1_)[(p_0).toNat]!) ((p_0).toNat) 0 rfl rfl (rd_ro hc1_) (get_of ck4) rfl ?_
  refine r_l (Value.agg #[Value.int .i64 (p_0), Value.int .i64 (p_1), Value.int .i64 (p_2), Value.int .i64 (p_3)]) 0 _ _ _ _ rfl rfl rfl rfl rfl ?_
  replace hM := bind_sm hM; obtain ⟨r5, hr6, hM⟩ := hM
  refine r_c (Value.int .u8 (((r5.toNat : Nat) : Int))) rfl _ _ (ev_callF rfl call_33 rfl) (bits_part_mask_g N p_0 p_1 p_2 p_3 _ hr6) ?_
  refine r_v (Value.int .u8 ((((((c1_)[(p_0).toNat]!) &&& r5).toNat : Nat) : Int))) rfl rfl (Y_and ((c1_)[(p_0).toNat]!) r5) rfl ?_
  refine r_v (Value.pointer (some ⟨b2, 2, none⟩)) rfl rfl rfl rfl ?_
  refine r_l (Value.int .i64 (p_2)) 0 _ _ _ _ rfl rfl rfl rfl rfl ?_
  replace hM := ck_some hM; obtain ⟨ck7, hM⟩ := hM
  refine r_v (Value.int .u8 ((((sr8 (((c1_)[(p_0).toNat]!) &&& r5) (p_2).toNat).toNat : Nat) : Int))) rfl rfl rfl (ev_shr8 (x := (((c1_)[(p_0).toNat]!) &&& r5)) rfl rfl ck7) ?_
  refine r_v (Value.int .u8 ((((sr8 (((c1_)[(p_0).toNat]!) &&& r5) (p_2).toNat).toNat : Nat) : Int))) rfl rfl rfl rfl ?_
  refine lx_nil ?_
  refine hK3 _ _ ?_; try clear hK3 K3
  refine A_draw [] (by decide +kernel) (fun hn => sep_nil) ?_
  refine r_l (Value.agg #[U (hi (c2_)), U (lo (c2_))]) 1 _ _ _ _ rfl rfl rfl rfl rfl ?_
  refine r_v (Value.int .u8 ((((sr8 (((c1_)[(p_0).toNat]!) &&& r5) (p_2).toNat).toNat : Nat) : Int))) rfl rfl rfl rfl ?_
  refine r_w (U (BitVec.ofNat 64 (sr8 (((c1_)[(p_0).toNat]!) &&& r5) (p_2).toNat).toNat)) rfl rfl (u8_u64 (sr8 (((c1_)[(p_0).toNat]!) &&& r5) (p_2).toNat)) (fun _ => rfl) ?_
  refine r_v (Value.agg #[U (0#64), U (BitVec.ofNat 64 (sr8 (((c1_)[(p_0).toNat]!) &&& r5) (p_2).toNat).toNat)]) rfl rfl rfl (ev_buildS rfl rfl rfl rfl) ?_
  refine r_v (Value.pointer (some ⟨b2, 3, none⟩)) rfl rfl rfl rfl ?_
  refine r_l (Value.int .i64 (p_3)) 0 _ _ _ _ rfl rfl rfl rfl rfl ?_
  replace hM := ck_some hM; obtain ⟨ck8, hM⟩ := hM
  refine r_c (Value.agg #[U (hi (shiftI ((0#64) ++ (BitVec.ofNat 64 (sr8 (((c1_)[(p_0).toNat]!) &&& r5) (p_2).toNat).toNat)) (p_3))), U (lo (shiftI ((0#64) ++ (BitVec.ofNat 64 (sr8 (((c1_)[(p_0).toNat]!) &&& r5) (p_2).toNat).toNat)) (p_3)))]) rfl _ _ (ev_callF rfl call_35 rfl) (by have h_ := (shl_g ((0#64) ++ (BitVec.ofNat 64 (sr8 (((c1_)[(p_0).toNat]!) &&& r5) (p_2).toNat).toNat)) (p_3) ck8.1 ck8.2); simp only [app_hl] at h_; exact h_) ?_
  refine r_c (Value.agg #[U (hi ((c2_) ||| (shiftI ((0#64) ++ (BitVec.ofNat 64 (sr8 (((c1_)[(p_0).toNat]!) &&& r5) (p_2).toNat).toNat)) (p_3)))), U (lo ((c2_) ||| (shiftI ((0#64) ++ (BitVec.ofNat 64 (sr8 (((c1_)[(p_0).toNat]!) &&& r5) (p_2).toNat).toNat)) (p_3))))]) rfl _ _ (ev_callF rfl call_34 rfl) (or_g (c2_) (shiftI ((0#64) ++ (BitVec.ofNat 64 (sr8 (((c1_)[(p_0).toNat]!) &&& r5) (p_2).toNat).toNat)) (p_3))) ?_
  refine r_s [(b2, 65, #[Value.int .i64 (p_0), Value.int .i64 (p_1), Value.int .i64 (p_2), Value.int .i64 (p_3)]), (bc2_, 62, #[U (hi ((c2_) ||| (shiftI ((0#64) ++ (BitVec.ofNat 64 (sr8 (((c1_)[(p_0).toNat]!) &&& r5) (p_2).toNat).toNat)) (p_3)))), U (lo ((c2_) ||| (shiftI ((0#64) ++ (BitVec.ofNat 64 (sr8 (((c1_)[(p_0).toNat]!) &&& r5) (p_2).toNat).toNat)) (p_3))))])] 1 _ _ _ (#[U (hi (c2_)), U (lo (c2_))]) (#[U (hi ((c2_) ||| (shiftI ((0#64) ++ (BitVec.ofNat 64 (sr8 (((c1_)[(p_0).toNat]!) &&& r5) (p_2).toNat).toNat)) (p_3)))), U (lo ((c2_) ||| (shiftI ((0#64) ++ (BitVec.ofNat 64 (sr8 (((c1_)[(p_0).toNat]!) &&& r5) (p_2).toNat).toNat)) (p_3))))]) (#[U (hi ((c2_) ||| (shiftI ((0#64) ++ (BitVec.ofNat 64 (sr8 (((c1_)[(p_0).toNat]!) &&& r5) (p_2).toNat).toNat)) (p_3)))), U (lo ((c2_) ||| (shiftI ((0#64) ++ (BitVec.ofNat 64 (sr8 (((c1_)[(p_0).toNat]!) &&& r5) (p_2).toNat).toNat)) (p_3))))]) rfl rfl rfl rfl (.of rfl rfl) rfl rfl ?_
  refine lx_nil ?_
  obtain rfl := Option.some.inj hM
  refine endsN (v0 := Value.tuple #[]) (O := [[(bc2_, 62, #[U (hi ((c2_) ||| (shiftI ((0#64) ++ (BitVec.ofNat 64 (sr8 (((c1_)[(p_0).toNat]!) &&& r5) (p_2).toNat).toNat)) (p_3)))), U (lo ((c2_) ||| (shiftI ((0#64) ++ (BitVec.ofNat 64 (sr8 (((c1_)[(p_0).toNat]!) &&& r5) (p_2).toNat).toNat)) (p_3))))])]]) rfl (Sub.pick [[(b2, 65, #[Value.int .i64 (p_0), Value.int .i64 (p_1), Value.int .i64 (p_2), Value.int .i64 (p_3)])], [(bc2_, 62, #[U (hi ((c2_) ||| (shiftI ((0#64) ++ (BitVec.ofNat 64 (sr8 (((c1_)[(p_0).toNat]!) &&& r5) (p_2).toNat).toNat)) (p_3)))), U (lo ((c2_) ||| (shiftI ((0#64) ++ (BitVec.ofNat 64 (sr8 (((c1_)[(p_0).toNat]!) &&& r5) (p_2).toNat).toNat)) (p_3))))])]] [1] rfl) ⟨rfl, rfl⟩
def bits_eachPart_v1_l4 (N : Nat) (do0_ : List UInt8) : Nat → Int → Int → BitVec 128 → Option (BitVec 128)
  | 0, _, _, _ => none
  | n1 + 1, at1_, w2_, m3_ => if (w2_ : Int) > 0 then ck (0 ≤ at1_ ∧ at1_ ≤ 9223372036854775807) (ck ((-9223372036854775808 ≤ (8 - (at1_) % 8) ∧ (8 - (at1_) % 8) ≤ 9223372036854775807)) (ck ((-9223372036854775808 ≤ (w2_ - min ((8 - (at1_) % 8)) (w2_)) ∧ (w2_ - min ((8 - (at1_) % 8)) (w2_)) ≤ 9223372036854775807)) (ck (0 ≤ at1_ ∧ at1_ ≤ 9223372036854775807) (ck ((-9223372036854775808 ≤ ((8 - (at1_) % 8) - min ((8 - (at1_) % 8)) (w2_)) ∧ ((8 - (at1_) % 8) - min ((8 - (at1_) % 8)) (w2_)) ≤ 9223372036854775807)) ((bits_Get_1_v1_m N ((at1_) / 8) (min ((8 - (at1_) % 8)) (w2_)) ((8 - (at1_) % 8) - min ((8 - (at1_) % 8)) (w2_)) (w2_ - min ((8 - (at1_) % 8)) (w2_)) do0_ m3_).bind fun r14 => ck ((-9223372036854775808 ≤ (at1_ + min ((8 - (at1_) % 8)) (w2_)) ∧ (at1_ + min ((8 - (at1_) % 8)) (w2_)) ≤ 9223372036854775807)) ((bits_eachPart_v1_l4 N do0_ n1) ((at1_ + min ((8 - (at1_) % 8)) (w2_))) ((w2_ - min ((8 - (at1_) % 8)) (w2_))) (r14))))))) else some (m3_)
def bits_eachPart_v1_m (N : Nat) (at' : Int) (w : Int) (do0_ : List UInt8) (do1_ : BitVec 128) : Option (BitVec 128) := bits_eachPart_v1_l4 N do0_ N (at') (w) (do1_)
set_option maxRecDepth 100000 in
set_option maxHeartbeats 400000 in
theorem bits_eachPart_v1_g (N : Nat) (at' : Int) (w : Int) (do0_ : List UInt8) (do1_ : BitVec 128) (r : BitVec 128) (hM : bits_eachPart_v1_m N at' w do0_ do1_ = some r) (ro : Addr → Option Value) (bdo0_ : Nat) (do0_v : Value) (hdo0_ : Rd encY ro do0_v do0_) (hbdo0_ : Blk ro bdo0_ [do0_v]) (bdo1_ : Nat) : Does Try.prog 31 #[Value.int .i64 (at'), Value.int .i64 (w), Value.func (.func 32) #[] #[Value.pointer (some ⟨bdo0_, 0, none⟩), Value.pointer (some ⟨bdo1_, 0, none⟩)]] ro [(bdo1_, 62, #[U (hi (do1_)), U (lo (do1_))])] (pO [(bdo1_, 62, #[U (hi (do1_)), U (lo (do1_))])] (oE (Value.tuple #[]) [[(bdo1_, 62, #[U (hi (r)), U (lo (r))])]])) := by
  unfold bits_eachPart_v1_m at hM
  refine doesO_of_A follows Try.func31 rfl 32 rfl (upd (upd (upd (fun _ => undef) 2 (Value.func (.func 32) #[] #[Value.pointer (some ⟨bdo0_, 0, none⟩), Value.pointer (some ⟨bdo1_, 0, none⟩)])) 1 (Value.int .i64 (w))) 0 (Value.int .i64 (at'))) (by funext k; match k with | 0 => rfl | 1 => rfl | 2 => rfl | k + 3 => rfl) (fun _ _ h_ _ => h_) (fun base0_ => ?_)
  refine A_block ?_
  refine A_loop (fun tt ll nn => ∃ (n1 : Nat) (at1_ : Int) (w2_ : Int) (m3_ : BitVec 128), (bits_eachPart_v1_l4 N do0_ n1 at1_ w2_ m3_ = some r) ∧ Is [(0, Value.int .i64 (at1_)), (1, Value.int .i64 (w2_)), (2, Value.func (.func 32) #[] #[Value.pointer (some ⟨bdo0_, 0, none⟩), Value.pointer (some ⟨bdo1_, 0, none⟩)])] [(bdo1_, 62, #[U (hi (m3_)), U (lo (m3_))])] tt ll ∧ nn = n1 + 1) (N + 1) ?_ ?_
  · exact ⟨N, at', w, do1_, hM, is_mk rfl rfl, rfl⟩
  · clear hM; rintro t l _ ⟨n1, at1_, w2_, m3_, hM, ⟨⟨T, rfl⟩, rfl⟩, rfl⟩
    rcases n1 with _ | n1
    · exact absurd hM (by simp [bits_eachPart_v1_l4])
    rw [bits_eachPart_v1_l4] at hM
    refine A_seq fun K2 hK2 => ?_
    refine A_seq fun K3 hK3 => ?_
    refine A_reg ?_
    refine r_v (Value.int .i64 (w2_)) rfl rfl rfl rfl ?_
    refine r_v (Value.bool (decide ((w2_ : Int) > 0))) rfl rfl rfl rfl ?_
    refine lx_nil ?_
    refine hK3 _ _ ?_; try clear hK3 K3
    refine A_cond (decide ((w2_ : Int) > 0)) rfl (fun hc4 => ?_) (fun hc4 => ?_)
    · replace hM := ifp (of_decide_eq_true hc4) hM
      refine A_skip ?_
      refine hK2 _ _ ?_; try clear hK2 K2
      refine A_block ?_
      refine A_seq fun K5 hK5 => ?_
      refine A_reg ?_
      refine r_v (Value.int .i64 (at1_)) rfl rfl rfl rfl ?_
      replace hM := ck_some hM; obtain ⟨ck6, hM⟩ := hM
      refine r_v (Value.int .i64 ((at1_) % 8)) rfl rfl (rem_i64 ck6.1) rfl ?_
      replace hM := ck_some hM; obtain ⟨ck7, hM⟩ := hM
      refine r_v (Value.int .i64 ((8 - (at1_) % 8))) rfl rfl (wi64 rfl ck7.1 ck7.2) rfl ?_
      refine r_v (Value.int .i64 ((8 - (at1_) % 8))) rfl rfl rfl rfl ?_
      refine lx_nil ?_
      refine hK5 _ _ ?_; try clear hK5 K5
      refine A_seq fun K8 hK8 => ?_
      refine A_reg ?_
      refine r_v (Value.int .i64 ((8 - (at1_) % 8))) rfl rfl rfl rfl ?_
      refine r_v (Value.int .i64 (w2_)) rfl rfl rfl rfl ?_
      refine r_v (Value.int .i64 (min ((8 - (at1_) % 8)) (w2_))) rfl rfl rfl (ev_min rfl rfl) ?_
      refine r_v (Value.int .i64 (min ((8 - (at1_) % 8)) (w2_))) rfl rfl rfl rfl ?_
      refine lx_nil ?_
      refine hK8 _ _ ?_; try clear hK8 K8
      refine A_seq fun K9 hK9 => ?_
      refine A_reg ?_
      refine r_v (Value.int .i64 (w2_)) rfl rfl rfl rfl ?_
      refine r_v (Value.int .i64 (min ((8 - (at1_) % 8)) (w2_))) rfl rfl rfl rfl ?_
      replace hM := ck_some hM; obtain ⟨ck10, hM⟩ := hM
      refine r_v (Value.int .i64 ((w2_ - min ((8 - (at1_) % 8)) (w2_)))) rfl rfl (wi64 rfl ck10.1 ck10.2) rfl ?_
      refine r_v (Value.int .i64 ((w2_ - min ((8 - (at1_) % 8)) (w2_)))) rfl rfl rfl rfl ?_
      refine lx_nil ?_
      refine hK9 _ _ ?_; try clear hK9 K9
      refine A_seq fun K11 hK11 => ?_
      refine A_regC [(some 28, true)] (conG Try.prog [(28, fun v_ L_ U_ => ∀ u0_, bits_Get_1_v1_m N ((at1_) / 8) (min ((8 - (at1_) % 8)) (w2_)) ((8 - (at1_) % 8) - min ((8 - (at1_) % 8)) (w2_)) (w2_ - min ((8 - (at1_) % 8)) (w2_)) do0_ m3_ = some u0_ → (pO (List.flatten [[(bdo1_, 62, #[U (hi (m3_)), U (lo (m3_))])]]) (oE (Value.tuple #[]) [[(bdo1_, 62, #[U (hi (u0_)), U (lo (u0_))])]])) v_ L_ U_)]) ?_
      refine r_v (Value.func (.func 32) #[] #[Value.pointer (some ⟨bdo0_, 0, none⟩), Value.pointer (some ⟨bdo1_, 0, none⟩)]) rfl rfl rfl rfl ?_
      refine r_v (Value.int .i64 (at1_)) rfl rfl rfl rfl ?_
      replace hM := ck_some hM; obtain ⟨ck12, hM⟩ := hM
      refine r_v (Value.int .i64 ((at1_) / 8)) rfl rfl (quo_i64 ck12.1 (by decide) ck12.2) rfl ?_
      refine r_v (Value.int .i64 (min ((8 - (at1_) % 8)) (w2_))) rfl rfl rfl rfl ?_
      refine r_v (Value.int .i64 ((8 - (at1_) % 8))) rfl rfl rfl rfl ?_
      refine r_v (Value.int .i64 (min ((8 - (at1_) % 8)) (w2_))) rfl rfl rfl rfl ?_
      replace hM := ck_some hM; obtain ⟨ck13, hM⟩ := hM
      refine r_v (Value.int .i64 (((8 - (at1_) % 8) - min ((8 - (at1_) % 8)) (w2_)))) rfl rfl (wi64 rfl ck13.1 ck13.2) rfl ?_
      refine r_v (Value.int .i64 ((w2_ - min ((8 - (at1_) % 8)) (w2_)))) rfl rfl rfl rfl ?_
      refine r_v (Value.agg #[Value.int .i64 ((at1_) / 8), Value.int .i64 (min ((8 - (at1_) % 8)) (w2_)), Value.int .i64 (((8 - (at1_) % 8) - min ((8 - (at1_) % 8)) (w2_))), Value.int .i64 ((w2_ - min ((8 - (at1_) % 8)) (w2_)))]) rfl rfl rfl (ev_buildS rfl rfl rfl rfl) ?_
      replace hM := bind_sm hM; obtain ⟨r14, hr15, hM⟩ := hM
      refine r_gm (Ls := [[(bdo1_, 62, #[U (hi (m3_)), U (lo (m3_))])]]) (FL := [[(bdo1_, 62, #[U (hi (m3_)), U (lo (m3_))])]]) (RL := []) [0] (oE (Value.tuple #[]) [[(bdo1_, 62, #[U (hi (r14)), U (lo (r14))])]]) (some 28) 32 _ rfl rfl rfl rfl rfl (ev_callV (caps := [Value.pointer (some ⟨bdo0_, 0, none⟩), Value.pointer (some ⟨bdo1_, 0, none⟩)]) rfl call_32 rfl) (fun own_ nw_ hn_ hs_ => bits_Get_1_v1_g N ((at1_) / 8) (min ((8 - (at1_) % 8)) (w2_)) ((8 - (at1_) % 8) - min ((8 - (at1_) % 8)) (w2_)) (w2_ - min ((8 - (at1_) % 8)) (w2_)) do0_ m3_ _ hr15 _ bdo0_ do0_v (Rd.mono (ro_sans (Ls := [[(bdo1_, 62, #[U (hi (m3_)), U (lo (m3_))])]]) (is := [0]) rfl hs_) hdo0_) (Blk.mono hbdo0_ (ro_sans (Ls := [[(bdo1_, 62, #[U (hi (m3_)), U (lo (m3_))])]]) (is := [0]) rfl hs_)) bdo1_) (fun _ _ v_ L_ U_ => ⟨fun h_ => h_ _ hr15, fun h_ => by intro _ e_; cases Option.some.inj (e_.symm.trans hr15); exact h_⟩) (NiceO.sub (R := ([(bdo1_, 62, #[U (hi (m3_)), U (lo (m3_))])] ++ [])) (niceE rfl) (Sub.pick [[(bdo1_, 62, #[U (hi (m3_)), U (lo (m3_))])]] [0] rfl)) ?_
      rintro _ _ ⟨rfl, rfl⟩
      refine lx_perm (Ls := [[(bdo1_, 62, #[U (hi (r14)), U (lo (r14))])]]) (Ls' := [[(bdo1_, 62, #[U (hi (r14)), U (lo (r14))])]]) [0] rfl rfl ?_
      refine lx_nil ?_
      refine hK11 _ _ ?_; try clear hK11 K11
      refine A_reg ?_
      refine r_v (Value.int .i64 (at1_)) rfl rfl rfl rfl ?_
      refine r_v (Value.int .i64 (min ((8 - (at1_) % 8)) (w2_))) rfl rfl rfl rfl ?_
      replace hM := ck_some hM; obtain ⟨ck16, hM⟩ := hM
      refine r_v (Value.int .i64 ((at1_ + min ((8 - (at1_) % 8)) (w2_)))) rfl rfl (wi64 rfl ck16.1 ck16.2) rfl ?_
      refine r_v (Value.int .i64 ((at1_ + min ((8 - (at1_) % 8)) (w2_)))) rfl rfl rfl rfl ?_
      refine lx_nil ?_
      refine fg _ (Sub.of (List.Sublist.cons_cons _ (List.Sublist.slnil))) ?_
      exact ⟨n1 + 1, by omega, n1, (at1_ + min ((8 - (at1_) % 8)) (w2_)), (w2_ - min ((8 - (at1_) % 8)) (w2_)), r14, hM, is_mk rfl rfl, rfl⟩
    · replace hM := ifn (of_decide_eq_false hc4) hM
      refine A_exit ?_
      obtain rfl := Option.some.inj hM
      refine endsN (v0 := Value.tuple #[]) (O := [[(bdo1_, 62, #[U (hi (m3_)), U (lo (m3_))])]]) rfl (Sub.pick [[(bdo1_, 62, #[U (hi (m3_)), U (lo (m3_))])]] [0] rfl) ⟨rfl, rfl⟩
def vec_mayWidth_m (_ : Nat) (w : Int) : Option (Bool) := if (w : Int) ≥ 1 then some (decide ((w : Int) ≤ 128)) else some (false)
set_option maxRecDepth 100000 in
set_option maxHeartbeats 400000 in
theorem vec_mayWidth_g (N : Nat) (w : Int) (r : Bool) (hM : vec_mayWidth_m N w = some r) : Gives Try.prog 48 #[Value.int .i64 (w)] (Value.bool (r)) := by
  unfold vec_mayWidth_m at hM
  refine gives_of_A follows Try.func48 rfl 9 rfl (upd (fun _ => undef) 0 (Value.int .i64 (w))) (by funext k; match k with | 0 => rfl | k + 1 => rfl) (fun base0_ => ?_)
  refine A_seq fun K1 hK1 => ?_
  refine A_reg ?_
  refine r_v (Value.bool (false)) rfl rfl rfl rfl ?_
  refine lx_nil ?_
  refine hK1 _ _ ?_; try clear hK1 K1
  refine A_seq fun K2 hK2 => ?_
  refine A_reg ?_
  refine r_v (Value.int .i64 (w)) rfl rfl rfl rfl ?_
  refine r_v (Value.bool (decide ((w : Int) ≥ 1))) rfl rfl rfl rfl ?_
  refine r_v (Value.bool (decide ((w : Int) ≥ 1))) rfl rfl rfl rfl ?_
  rcases hg3 : (decide ((w : Int) ≥ 1)) with _ | _
  · replace hM := ifn (of_decide_eq_false hg3) hM
    refine r_n false rfl (by decide) rfl ?_
    refine r_n false rfl (by decide) rfl ?_
    refine r_v (Value.bool (false)) rfl rfl rfl rfl ?_
    refine r_v (Value.bool (false)) rfl rfl rfl rfl ?_
    refine lx_nil ?_
    refine hK2 _ _ ?_; try clear hK2 K2
    obtain rfl := Option.some.inj hM
    refine A_ret (fun hn => ends_eq (v0 := Value.bool (false)) rfl (res1 rfl))
  · replace hM := ifp (of_decide_eq_true hg3) hM
    refine r_y rfl ?_
    refine r_v (Value.int .i64 (w)) rfl rfl rfl rfl ?_
    refine r_y rfl ?_
    refine r_v (Value.bool (decide ((w : Int) ≤ 128))) rfl rfl rfl rfl ?_
    refine r_v (Value.bool (decide ((w : Int) ≤ 128))) rfl rfl rfl rfl ?_
    refine r_v (Value.bool (decide ((w : Int) ≤ 128))) rfl rfl rfl rfl ?_
    refine lx_nil ?_
    refine hK2 _ _ ?_; try clear hK2 K2
    obtain rfl := Option.some.inj hM
    refine A_ret (fun hn => ends_eq (v0 := Value.bool (decide ((w : Int) ≤ 128))) rfl (res1 rfl))
def vec_lowest_m (_ : Nat) (w : Int) (x : BitVec 128) : Option (Int × (BitVec 128)) := ck (-9223372036854775808 ≤ (w : Int) ∧ (w : Int) ≤ 9223372036854775807) (some (w, (x) &&& (onesI (w))))
set_option maxRecDepth 100000 in
set_option maxHeartbeats 400000 in
theorem vec_lowest_g (N : Nat) (w : Int) (x : BitVec 128) (r : Int × (BitVec 128)) (hM : vec_lowest_m N w x = some r) : Gives Try.prog 49 #[Value.int .i64 (w), Value.agg #[U (hi (x)), U (lo (x))]] (Value.agg #[Value.int .i64 (r.1), U (hi (r.2)), U (lo (r.2))]) := by
  unfold vec_lowest_m at hM
  refine gives_of_A follows Try.func49 rfl 15 rfl (upd (upd (fun _ => undef) 1 (Value.agg #[U (hi (x)), U (lo (x))])) 0 (Value.int .i64 (w))) (by funext k; match k with | 0 => rfl | 1 => rfl | k + 2 => rfl) (fun base0_ => ?_)
  refine A_seq fun K1 hK1 => ?_
  refine A_reg ?_
  refine r_a (62, #[U (hi (x)), U (lo (x))]) rfl rfl rfl (fun b2 => ?_) (.inr rfl)
  refine r_a (26, #[Value.int .i64 (0), U (0#64), U (0#64)]) rfl rfl rfl (fun b3 => ?_) (.inr rfl)
  refine lx_nil ?_
  refine hK1 _ _ ?_; try clear hK1 K1
  refine A_seq fun K4 hK4 => ?_
  refine A_draw [] (by decide +kernel) (fun hn => sep_nil) ?_
  refine r_l (Value.agg #[U (hi (x)), U (lo (x))]) 1 _ _ _ _ rfl rfl rfl rfl rfl ?_
  refine r_v (Value.int .i64 (w)) rfl rfl rfl rfl ?_
  replace hM := ck_some hM; obtain ⟨ck5, hM⟩ := hM
  refine r_c (Value.agg #[U (hi (onesI (w))), U (lo (onesI (w)))]) rfl _ _ (ev_callF rfl call_56 rfl) (ones_g (w) ck5.1 ck5.2) ?_
  refine r_c (Value.agg #[U (hi ((x) &&& (onesI (w)))), U (lo ((x) &&& (onesI (w))))]) rfl _ _ (ev_callF rfl call_55 rfl) (and_g (x) (onesI (w))) ?_
  refine r_s [(b3, 26, #[Value.int .i64 (0), U (0#64), U (0#64)]), (b2, 62, #[U (hi ((x) &&& (onesI (w)))), U (lo ((x) &&& (onesI (w))))])] 1 _ _ _ (#[U (hi (x)), U (lo (x))]) (#[U (hi ((x) &&& (onesI (w)))), U (lo ((x) &&& (onesI (w))))]) (#[U (hi ((x) &&& (onesI (w)))), U (lo ((x) &&& (onesI (w))))]) rfl rfl rfl rfl (.of rfl rfl) rfl rfl ?_
  refine lx_nil ?_
  refine hK4 _ _ ?_; try clear hK4 K4
  refine A_seq fun K6 hK6 => ?_
  refine A_reg ?_
  refine r_v (Value.int .i64 (w)) rfl rfl rfl rfl ?_
  refine r_v (Value.pointer (some ⟨b2, 0, none⟩)) rfl rfl rfl rfl ?_
  refine r_l (U (hi ((x) &&& (onesI (w))))) 1 _ _ _ _ rfl rfl rfl rfl rfl ?_
  refine r_v (Value.pointer (some ⟨b2, 1, none⟩)) rfl rfl rfl rfl ?_
  refine r_l (U (lo ((x) &&& (onesI (w))))) 1 _ _ _ _ rfl rfl rfl rfl rfl ?_
  refine r_v (Value.agg #[Value.int .i64 (w), U (hi ((x) &&& (onesI (w)))), U (lo ((x) &&& (onesI (w))))]) rfl rfl rfl (ev_buildS rfl rfl rfl rfl) ?_
  refine r_s [(b3, 26, #[Value.int .i64 (w), U (hi ((x) &&& (onesI (w)))), U (lo ((x) &&& (onesI (w))))]), (b2, 62, #[U (hi ((x) &&& (onesI (w)))), U (lo ((x) &&& (onesI (w))))])] 0 _ _ _ (#[Value.int .i64 (0), U (0#64), U (0#64)]) (#[Value.int .i64 (w), U (hi ((x) &&& (onesI (w)))), U (lo ((x) &&& (onesI (w))))]) (#[Value.int .i64 (w), U (hi ((x) &&& (onesI (w)))), U (lo ((x) &&& (onesI (w))))]) rfl rfl rfl rfl (.of rfl rfl) rfl rfl ?_
  refine lx_nil ?_
  refine hK6 _ _ ?_; try clear hK6 K6
  obtain rfl := Option.some.inj hM
  refine A_ret (fun hn => ends_eq (v0 := Value.agg #[Value.int .i64 (w), U (hi ((x) &&& (onesI (w)))), U (lo ((x) &&& (onesI (w))))]) rfl (res1 (res_cell hn 0 rfl rfl rfl)))
def vec_Cut_m (N : Nat) (w : Int) (x : BitVec 128) : Option (Int × (BitVec 128) × Int) := (vec_mayWidth_m N w).bind fun r6 => if (r6) = true then (vec_lowest_m N w x).bind fun r11 => some (r11.1, r11.2, 0) else some (0, (0#64) ++ (0#64), 9)
set_option maxRecDepth 100000 in
set_option maxHeartbeats 400000 in
theorem vec_Cut_g (N : Nat) (w : Int) (x : BitVec 128) (r : Int × (BitVec 128) × Int) (hM : vec_Cut_m N w x = some r) : Gives Try.prog 36 #[Value.int .i64 (w), Value.agg #[U (hi (x)), U (lo (x))]] (Value.tuple #[Value.agg #[Value.int .i64 (r.1), U (hi (r.2.1)), U (lo (r.2.1))], Value.int .i64 (r.2.2)]) := by
  unfold vec_Cut_m at hM
  refine gives_of_A follows Try.func36 rfl 13 rfl (upd (upd (fun _ => undef) 1 (Value.agg #[U (hi (x)), U (lo (x))])) 0 (Value.int .i64 (w))) (by funext k; match k with | 0 => rfl | 1 => rfl | k + 2 => rfl) (fun base0_ => ?_)
  refine A_seq fun K1 hK1 => ?_
  refine A_reg ?_
  refine r_a (62, #[U (hi (x)), U (lo (x))]) rfl rfl rfl (fun b2 => ?_) (.inr rfl)
  refine r_a (26, #[Value.int .i64 (0), U (0#64), U (0#64)]) rfl rfl rfl (fun b3 => ?_) (.inr rfl)
  refine r_v (Value.int .i64 (0)) rfl rfl rfl rfl ?_
  refine lx_nil ?_
  refine hK1 _ _ ?_; try clear hK1 K1
  refine A_seq fun K4 hK4 => ?_
  refine A_seq fun K5 hK5 => ?_
  refine A_reg ?_
  refine r_v (Value.int .i64 (w)) rfl rfl rfl rfl ?_
  replace hM := bind_sm hM; obtain ⟨r6, hr7, hM⟩ := hM
  refine r_c (Value.bool (r6)) rfl _ _ (ev_callF rfl call_48 rfl) (vec_mayWidth_g N w _ hr7) ?_
  refine r_v (Value.bool (!(r6))) rfl rfl rfl rfl ?_
  refine lx_nil ?_
  refine hK5 _ _ ?_; try clear hK5 K5
  refine A_cond (!(r6)) rfl (fun hc8 => ?_) (fun hc8 => ?_)
  · replace hM := ifn (Bool.eq_false_iff.1 (not_t hc8)) hM
    refine A_seq fun K9 hK9 => ?_
    refine A_reg ?_
    refine r_v (Value.agg #[Value.int .i64 (0), U (0#64), U (0#64)]) rfl rfl rfl (ev_buildS rfl rfl rfl rfl) ?_
    refine r_s [(b3, 26, #[Value.int .i64 (0), U (0#64), U (0#64)]), (b2, 62, #[U (hi (x)), U (lo (x))])] 0 _ _ _ (#[Value.int .i64 (0), U (0#64), U (0#64)]) (#[Value.int .i64 (0), U (0#64), U (0#64)]) (#[Value.int .i64 (0), U (0#64), U (0#64)]) rfl rfl rfl rfl (.of rfl rfl) rfl rfl ?_
    refine r_v (Value.int .i64 (9)) rfl rfl rfl rfl ?_
    refine lx_nil ?_
    refine hK9 _ _ ?_; try clear hK9 K9
    obtain rfl := Option.some.inj hM
    refine A_ret (fun hn => ends_eq (v0 := Value.tuple #[Value.agg #[Value.int .i64 (0), U (0#64), U (0#64)], Value.int .i64 (9)]) (by first | rfl | simp only [app_hl]) (res2 (res_cell hn 0 rfl rfl rfl) rfl))
  · replace hM := ifp (not_f hc8) hM
    refine A_skip ?_
    refine hK4 _ _ ?_; try clear hK4 K4
    refine A_seq fun K10 hK10 => ?_
    refine A_reg ?_
    refine r_v (Value.int .i64 (w)) rfl rfl rfl rfl ?_
    refine r_l (Value.agg #[U (hi (x)), U (lo (x))]) 1 _ _ _ _ rfl rfl rfl rfl rfl ?_
    replace hM := bind_sm hM; obtain ⟨r11, hr12, hM⟩ := hM
    refine r_c (Value.agg #[Value.int .i64 (r11.1), U (hi (r11.2)), U (lo (r11.2))]) rfl _ _ (ev_callF rfl call_49 rfl) (vec_lowest_g N w x _ hr12) ?_
    refine r_s [(b3, 26, #[Value.int .i64 (r11.1), U (hi (r11.2)), U (lo (r11.2))]), (b2, 62, #[U (hi (x)), U (lo (x))])] 0 _ _ _ (#[Value.int .i64 (0), U (0#64), U (0#64)]) (#[Value.int .i64 (r11.1), U (hi (r11.2)), U (lo (r11.2))]) (#[Value.int .i64 (r11.1), U (hi (r11.2)), U (lo (r11.2))]) rfl rfl rfl rfl (.of rfl rfl) rfl rfl ?_
    refine r_v (Value.int .i64 (0)) rfl rfl rfl rfl ?_
    refine lx_nil ?_
    refine hK10 _ _ ?_; try clear hK10 K10
    obtain rfl := Option.some.inj hM
    refine A_ret (fun hn => ends_eq (v0 := Value.tuple #[Value.agg #[Value.int .i64 (r11.1), U (hi (r11.2)), U (lo (r11.2))], Value.int .i64 (0)]) rfl (res2 (res_cell hn 0 rfl rfl rfl) rfl))
def bits_Get_m (N : Nat) (b : List UInt8) (at' : Int) (w : Int) : Option (Int × (BitVec 128) × Int) := (bits_mayWidth_m N w).bind fun r6 => if (r6) = true then (bits_has_m N b at' w).bind fun r12 => if (r12) = true then (bits_eachPart_v1_m N at' w b ((0#64) ++ (0#64))).bind fun r19 => (vec_Cut_m N w r19).bind fun r22 => some (r22.1, r22.2.1, r22.2.2) else some (0, (0#64) ++ (0#64), 7) else some (0, (0#64) ++ (0#64), 9)
set_option maxRecDepth 100000 in
set_option maxHeartbeats 400000 in
theorem bits_Get_g (N : Nat) (b : List UInt8) (at' : Int) (w : Int) (r : Int × (BitVec 128) × Int) (hM : bits_Get_m N b at' w = some r) (ro : Addr → Option Value) (bv : Value) (hb : Rd encY ro bv b) : Does Try.prog 10 #[bv, Value.int .i64 (at'), Value.int .i64 (w)] ro [] (pV (Value.tuple #[Value.agg #[Value.int .i64 (r.1), U (hi (r.2.1)), U (lo (r.2.1))], Value.int .i64 (r.2.2)])) := by
  unfold bits_Get_m at hM
  refine does_of_A follows Try.func10 rfl 28 rfl (upd (upd (upd (fun _ => undef) 2 (Value.int .i64 (w))) 1 (Value.int .i64 (at'))) 0 (bv)) (by funext k; match k with | 0 => rfl | 1 => rfl | 2 => rfl | k + 3 => rfl) (fun base0_ => ?_)
  refine A_seq fun K1 hK1 => ?_
  refine A_reg ?_
  refine r_a (22, #[bv]) rfl rfl (alloc_sl rfl (Rd.shp hb)) (fun b2 => ?_) (.inr rfl)
  refine r_a (26, #[Value.int .i64 (0), U (0#64), U (0#64)]) rfl rfl rfl (fun b3 => ?_) (.inr rfl)
  refine r_v (Value.int .i64 (0)) rfl rfl rfl rfl ?_
  refine lx_nil ?_
  refine hK1 _ _ ?_; try clear hK1 K1
  refine A_seq fun K4 hK4 => ?_
  refine A_seq fun K5 hK5 => ?_
  refine A_reg ?_
  refine r_v (Value.int .i64 (w)) rfl rfl rfl rfl ?_
  replace hM := bind_sm hM; obtain ⟨r6, hr7, hM⟩ := hM
  refine r_c (Value.bool (r6)) rfl _ _ (ev_callF rfl call_29 rfl) (bits_mayWidth_g N w _ hr7) ?_
  refine r_v (Value.bool (!(r6))) rfl rfl rfl rfl ?_
  refine lx_nil ?_
  refine hK5 _ _ ?_; try clear hK5 K5
  refine A_cond (!(r6)) rfl (fun hc8 => ?_) (fun hc8 => ?_)
  · replace hM := ifn (Bool.eq_false_iff.1 (not_t hc8)) hM
    refine A_seq fun K9 hK9 => ?_
    refine A_reg ?_
    refine r_v (Value.agg #[Value.int .i64 (0), U (0#64), U (0#64)]) rfl rfl rfl (ev_buildS rfl rfl rfl rfl) ?_
    refine r_s [(b3, 26, #[Value.int .i64 (0), U (0#64), U (0#64)]), (b2, 22, #[bv])] 0 _ _ _ (#[Value.int .i64 (0), U (0#64), U (0#64)]) (#[Value.int .i64 (0), U (0#64), U (0#64)]) (#[Value.int .i64 (0), U (0#64), U (0#64)]) rfl rfl rfl rfl (.of rfl rfl) rfl rfl ?_
    refine r_v (Value.int .i64 (9)) rfl rfl rfl rfl ?_
    refine lx_nil ?_
    refine hK9 _ _ ?_; try clear hK9 K9
    obtain rfl := Option.some.inj hM
    refine A_ret (fun hn => endsV (v0 := Value.tuple #[Value.agg #[Value.int .i64 (0), U (0#64), U (0#64)], Value.int .i64 (9)]) (by first | rfl | simp only [app_hl]) (res2 (res_cell hn 0 rfl rfl rfl) rfl))
  · replace hM := ifp (not_f hc8) hM
    refine A_skip ?_
    refine hK4 _ _ ?_; try clear hK4 K4
    refine A_seq fun K10 hK10 => ?_
    refine A_seq fun K11 hK11 => ?_
    refine A_regC [(some 16, false)] (conG Try.prog [(16, fun v_ L_ U_ => ∀ u0_, bits_has_m N b at' w = some u0_ → (pV (Value.bool (u0_))) v_ L_ U_)]) ?_
    refine r_l (bv) 1 _ _ _ _ rfl rfl rfl rfl rfl ?_
    refine r_v (Value.int .i64 (at')) rfl rfl rfl rfl ?_
    refine r_v (Value.int .i64 (w)) rfl rfl rfl rfl ?_
    replace hM := bind_sm hM; obtain ⟨r12, hr13, hM⟩ := hM
    refine r_gv (Value.bool (r12)) 30 _ rfl rfl rfl (ev_callF rfl call_30 rfl) (fun own_ nw_ hs_ => bits_has_g N b at' w _ hr13 hs_.view bv ((rd_ro hb) own_ nw_ hs_)) (fun _ _ v_ L_ U_ => ⟨fun h_ => h_ _ hr13, fun h_ => by intro _ e_; cases Option.some.inj (e_.symm.trans hr13); exact h_⟩) ?_
    refine r_v (Value.bool (!(r12))) rfl rfl rfl rfl ?_
    refine lx_nil ?_
    refine hK11 _ _ ?_; try clear hK11 K11
    refine A_cond (!(r12)) rfl (fun hc14 => ?_) (fun hc14 => ?_)
    · replace hM := ifn (Bool.eq_false_iff.1 (not_t hc14)) hM
      refine A_seq fun K15 hK15 => ?_
      refine A_reg ?_
      refine r_v (Value.agg #[Value.int .i64 (0), U (0#64), U (0#64)]) rfl rfl rfl (ev_buildS rfl rfl rfl rfl) ?_
      refine r_s [(b3, 26, #[Value.int .i64 (0), U (0#64), U (0#64)]), (b2, 22, #[bv])] 0 _ _ _ (#[Value.int .i64 (0), U (0#64), U (0#64)]) (#[Value.int .i64 (0), U (0#64), U (0#64)]) (#[Value.int .i64 (0), U (0#64), U (0#64)]) rfl rfl rfl rfl (.of rfl rfl) rfl rfl ?_
      refine r_v (Value.int .i64 (7)) rfl rfl rfl rfl ?_
      refine lx_nil ?_
      refine hK15 _ _ ?_; try clear hK15 K15
      obtain rfl := Option.some.inj hM
      refine A_ret (fun hn => endsV (v0 := Value.tuple #[Value.agg #[Value.int .i64 (0), U (0#64), U (0#64)], Value.int .i64 (7)]) (by first | rfl | simp only [app_hl]) (res2 (res_cell hn 0 rfl rfl rfl) rfl))
    · replace hM := ifp (not_f hc14) hM
      refine A_skip ?_
      refine hK10 _ _ ?_; try clear hK10 K10
      refine A_seq fun K16 hK16 => ?_
      refine A_reg ?_
      refine r_a (62, #[U (0#64), U (0#64)]) rfl rfl rfl (fun b17 => ?_) (.inr rfl)
      refine lx_nil ?_
      refine hK16 _ _ ?_; try clear hK16 K16
      refine A_seq fun K18 hK18 => ?_
      refine A_regC [(some 22, true)] (conG Try.prog [(22, fun v_ L_ U_ => ∀ u0_, bits_eachPart_v1_m N at' w b ((0#64) ++ (0#64)) = some u0_ → (pO (List.flatten [[(b17, 62, #[U (0#64), U (0#64)])]]) (oE (Value.tuple #[]) [[(b17, 62, #[U (hi (u0_)), U (lo (u0_))])]])) v_ L_ U_)]) ?_
      refine r_v (Value.int .i64 (at')) rfl rfl rfl rfl ?_
      refine r_v (Value.int .i64 (w)) rfl rfl rfl rfl ?_
      refine r_v (Value.func (.func 32) #[] #[Value.pointer (some ⟨b2, 0, none⟩), Value.pointer (some ⟨b17, 0, none⟩)]) rfl rfl rfl (ev_mkF rfl) ?_
      replace hM := bind_sm hM; obtain ⟨r19, hr20, hM⟩ := hM
      refine r_gm (Ls := [[(b17, 62, #[U (0#64), U (0#64)])], [(b3, 26, #[Value.int .i64 (0), U (0#64), U (0#64)])], [(b2, 22, #[bv])]]) (FL := [[(b17, 62, #[U (0#64), U (0#64)])]]) (RL := [[(b3, 26, #[Value.int .i64 (0), U (0#64), U (0#64)])], [(b2, 22, #[bv])]]) [0] (oE (Value.tuple #[]) [[(b17, 62, #[U (hi (r19)), U (lo (r19))])]]) (some 22) 31 _ rfl rfl rfl rfl rfl (ev_callF rfl call_31 rfl) (fun own_ nw_ hn_ hs_ => (by have h_ := bits_eachPart_v1_g N at' w b ((0#64) ++ (0#64)) _ hr20 (sans hs_.view (([[(b17, 62, #[U (0#64), U (0#64)])]]).flatten.map (·.1))) b2 bv (Rd.mono (ro_sans (Ls := [[(b17, 62, #[U (0#64), U (0#64)])], [(b3, 26, #[Value.int .i64 (0), U (0#64), U (0#64)])], [(b2, 22, #[bv])]]) (is := [0]) rfl hs_) hb) (blk_sans (Ls := [[(b17, 62, #[U (0#64), U (0#64)])], [(b3, 26, #[Value.int .i64 (0), U (0#64), U (0#64)])], [(b2, 22, #[bv])]]) (is := [0]) 2 rfl rfl hn_ hs_) b17; simp only [app_hl] at h_; exact h_)) (fun _ _ v_ L_ U_ => ⟨fun h_ => h_ _ hr20, fun h_ => by intro _ e_; cases Option.some.inj (e_.symm.trans hr20); exact h_⟩) (NiceO.sub (R := ([(b17, 62, #[U (0#64), U (0#64)])] ++ [])) (niceE rfl) (Sub.pick [[(b17, 62, #[U (0#64), U (0#64)])]] [0] rfl)) ?_
      rintro _ _ ⟨rfl, rfl⟩
      refine lx_perm (Ls := [[(b3, 26, #[Value.int .i64 (0), U (0#64), U (0#64)])], [(b2, 22, #[bv])], [(b17, 62, #[U (hi (r19)), U (lo (r19))])]]) (Ls' := [[(b3, 26, #[Value.int .i64 (0), U (0#64), U (0#64)])], [(b2, 22, #[bv])], [(b17, 62, #[U (hi (r19)), U (lo (r19))])]]) [0, 1, 2] rfl rfl ?_
      refine lx_nil ?_
      refine hK18 _ _ ?_; try clear hK18 K18
      refine A_seq fun K21 hK21 => ?_
      refine A_reg ?_
      refine r_v (Value.int .i64 (w)) rfl rfl rfl rfl ?_
      refine r_l (Value.agg #[U (hi (r19)), U (lo (r19))]) 2 _ _ _ _ rfl rfl rfl rfl rfl ?_
      replace hM := bind_sm hM; obtain ⟨r22, hr23, hM⟩ := hM
      refine r_c (Value.tuple #[Value.agg #[Value.int .i64 (r22.1), U (hi (r22.2.1)), U (lo (r22.2.1))], Value.int .i64 (r22.2.2)]) rfl _ _ (ev_callF rfl call_36 rfl) (vec_Cut_g N w r19 _ hr23) ?_
      refine r_v (Value.agg #[Value.int .i64 (r22.1), U (hi (r22.2.1)), U (lo (r22.2.1))]) rfl rfl rfl rfl ?_
      refine r_v (Value.int .i64 (r22.2.2)) rfl rfl rfl rfl ?_
      refine r_s [(b3, 26, #[Value.int .i64 (r22.1), U (hi (r22.2.1)), U (lo (r22.2.1))]), (b2, 22, #[bv]), (b17, 62, #[U (hi (r19)), U (lo (r19))])] 0 _ _ _ (#[Value.int .i64 (0), U (0#64), U (0#64)]) (#[Value.int .i64 (r22.1), U (hi (r22.2.1)), U (lo (r22.2.1))]) (#[Value.int .i64 (r22.1), U (hi (r22.2.1)), U (lo (r22.2.1))]) rfl rfl rfl rfl (.of rfl rfl) rfl rfl ?_
      refine r_v (Value.int .i64 (r22.2.2)) rfl rfl rfl rfl ?_
      refine lx_nil ?_
      refine hK21 _ _ ?_; try clear hK21 K21
      obtain rfl := Option.some.inj hM
      refine A_ret (fun hn => endsV (v0 := Value.tuple #[Value.agg #[Value.int .i64 (r22.1), U (hi (r22.2.1)), U (lo (r22.2.1))], Value.int .i64 (r22.2.2)]) rfl (res2 (res_cell hn 0 rfl rfl rfl) rfl))
theorem eg_26 : Try.prog.eqGuardType Try.prog.depth 26 = false := by kernel_rfl
theorem si_26 : Try.prog.stoodInHeld 26 = false := by kernel_rfl
set_option maxRecDepth 100000 in
theorem eqst_26 {c : Addr → Option Value} (x0 y0 : Int) (x1 y1 : BitVec 128) : ev Try.prog c (Op.equal 26 (.agg #[Value.int .i64 (x0), U (hi (x1)), U (lo (x1))]) (.agg #[Value.int .i64 (y0), U (hi (y1)), U (lo (y1))])) = some ((x0 == y0) && (x1 == y1)) := by
  have h := ev_eqStruct (P := Try.prog) (c := c) 9999 (t := 26) #[Value.int .i64 (x0), U (hi (x1)), U (lo (x1))] #[Value.int .i64 (y0), U (hi (y1)), U (lo (y1))] rfl si_26 (fun f => if f.offset = 0 then ((x0 : Int) == y0) else if f.offset = 1 then (((hi (x1)).toNat : Int) == ((hi (y1)).toNat : Int)) else (((lo (x1)).toNat : Int) == ((lo (y1)).toNat : Int)))
    (fun f hf => by
      simp only [List.mem_cons, List.not_mem_nil, or_false] at hf
      rcases hf with rfl | rfl | rfl
      · exact ⟨by decide, _, _, ev_partS (P := Try.prog) (t := 3) rfl (by intro fs h; cases h) (by intro n e h; cases h) _ _ rfl, ev_partS (P := Try.prog) (t := 3) rfl (by intro fs h; cases h) (by intro n e h; cases h) _ _ rfl, ev_eqInt _ _ _ rfl⟩
      · exact ⟨by decide, _, _, ev_partS (P := Try.prog) (t := 24) rfl (by intro fs h; cases h) (by intro n e h; cases h) _ _ rfl, ev_partS (P := Try.prog) (t := 24) rfl (by intro fs h; cases h) (by intro n e h; cases h) _ _ rfl, ev_eqInt _ _ _ rfl⟩
      · exact ⟨by decide, _, _, ev_partS (P := Try.prog) (t := 24) rfl (by intro fs h; cases h) (by intro n e h; cases h) _ _ rfl, ev_partS (P := Try.prog) (t := 24) rfl (by intro fs h; cases h) (by intro n e h; cases h) _ _ rfl, ev_eqInt _ _ _ rfl⟩)
  rw [← word_beq x1 y1]; rw [show Op.equal 26 (.agg #[Value.int .i64 (x0), U (hi (x1)), U (lo (x1))]) (.agg #[Value.int .i64 (y0), U (hi (y1)), U (lo (y1))]) = Op.equalIn (9999 + 1) 26 (.agg #[Value.int .i64 (x0), U (hi (x1)), U (lo (x1))]) (.agg #[Value.int .i64 (y0), U (hi (y1)), U (lo (y1))]) from rfl, h]
  first | (simp; done) | simp [Bool.and_assoc]
def shunterlaw03_lives_m (N : Nat) : Option (Bool) := (bits_Get_m N ([(18 : UInt8), (52 : UInt8)]) 4 8).bind fun r6 => if (((r6.1) == (8)) && ((r6.2.1) == ((0#64) ++ (35#64)))) = true then some (((r6.2.2 : Int) == 0)) else some (false)
set_option maxRecDepth 100000 in
set_option maxHeartbeats 400000 in
theorem shunterlaw03_lives_g (N : Nat) (r : Bool) (hM : shunterlaw03_lives_m N = some r) : Gives Try.prog 9 #[] (Value.bool (r)) := by
  unfold shunterlaw03_lives_m at hM
  refine gives_of_A follows Try.func9 rfl 15 rfl (fun _ => undef) (by funext k; rfl) (fun base0_ => ?_)
  refine A_seq fun K1 hK1 => ?_
  refine A_reg ?_
  refine r_v (Value.bool (false)) rfl rfl rfl rfl ?_
  refine lx_nil ?_
  refine hK1 _ _ ?_; try clear hK1 K1
  refine A_seq fun K2 hK2 => ?_
  refine A_regC [(some 4, false), (some 5, false)] (conG Try.prog [(5, fun v_ L_ U_ => ∀ u0_, bits_Get_m N ([(18 : UInt8), (52 : UInt8)]) 4 8 = some u0_ → (pV (Value.tuple #[Value.agg #[Value.int .i64 (u0_.1), U (hi (u0_.2.1)), U (lo (u0_.2.1))], Value.int .i64 (u0_.2.2)])) v_ L_ U_)]) ?_
  refine r_bs (cs0 := [(5, fun v_ L_ U_ => ∀ u0_, bits_Get_m N ([(18 : UInt8), (52 : UInt8)]) 4 8 = some u0_ → (pV (Value.tuple #[Value.agg #[Value.int .i64 (u0_.1), U (hi (u0_.2.1)), U (lo (u0_.2.1))], Value.int .i64 (u0_.2.2)])) v_ L_ U_)]) (Ls := []) 5 encY [(18 : UInt8), (52 : UInt8)] [Value.int .u8 (18), Value.int .u8 (52)] [Value.int .u8 (0), Value.int .u8 (0)] rfl rfl rfl rfl rfl rfl rfl rfl (by kernel_rfl) (by kernel_rfl) rfl rfl rfl (fun s3 S4 H5 => ?_)
  replace hM := bind_sm hM; obtain ⟨r6, hr7, hM⟩ := hM
  refine r_gv (Value.tuple #[Value.agg #[Value.int .i64 (r6.1), U (hi (r6.2.1)), U (lo (r6.2.1))], Value.int .i64 (r6.2.2)]) 10 _ rfl rfl rfl (ev_callF rfl call_10 rfl) (fun own_ nw_ hs_ => bits_Get_g N ([(18 : UInt8), (52 : UInt8)]) 4 8 _ hr7 hs_.view s3 ((rd_own H5 (mem_chunk (Ls := [S4]) (k := 0) rfl rfl)) own_ nw_ hs_)) (fun _ _ v_ L_ U_ => ⟨fun h_ => h_ _ hr7, fun h_ => by intro _ e_; cases Option.some.inj (e_.symm.trans hr7); exact h_⟩) ?_
  refine r_v (Value.tuple #[Value.agg #[Value.int .i64 (r6.1), U (hi (r6.2.1)), U (lo (r6.2.1))], Value.int .i64 (r6.2.2)]) rfl rfl rfl rfl ?_
  refine r_v (Value.agg #[Value.int .i64 (r6.1), U (hi (r6.2.1)), U (lo (r6.2.1))]) rfl rfl rfl rfl ?_
  refine r_v (Value.int .i64 (r6.2.2)) rfl rfl rfl rfl ?_
  refine r_a (26, #[Value.int .i64 (0), U (0#64), U (0#64)]) rfl rfl rfl (fun b8 => ?_) (.inr rfl)
  refine r_s (List.flatten [[(b8, 26, #[Value.int .i64 (r6.1), U (hi (r6.2.1)), U (lo (r6.2.1))])], S4]) 0 _ _ _ (#[Value.int .i64 (0), U (0#64), U (0#64)]) (#[Value.int .i64 (r6.1), U (hi (r6.2.1)), U (lo (r6.2.1))]) (#[Value.int .i64 (r6.1), U (hi (r6.2.1)), U (lo (r6.2.1))]) rfl rfl rfl rfl (.of rfl rfl) rfl rfl ?_
  refine r_v (Value.int .i64 (r6.2.2)) rfl rfl rfl rfl ?_
  refine lx_nil ?_
  refine hK2 _ _ ?_; try clear hK2 K2
  refine A_seq fun K9 hK9 => ?_
  refine A_reg ?_
  refine r_l (Value.agg #[Value.int .i64 (r6.1), U (hi (r6.2.1)), U (lo (r6.2.1))]) 0 _ _ _ _ rfl rfl rfl rfl rfl ?_
  refine r_v (Value.agg #[Value.int .i64 (8), U (0#64), U (35#64)]) rfl rfl rfl (ev_buildS rfl rfl rfl rfl) ?_
  refine r_v (Value.bool (((r6.1) == (8)) && ((r6.2.1) == ((0#64) ++ (35#64))))) rfl rfl rfl (ev_binEq rfl rfl eg_26 (by have h_ := fun c => eqst_26 (c := c) (r6.1) (8) (r6.2.1) ((0#64) ++ (35#64)); simp only [app_hl] at h_; exact h_ _)) ?_
  refine r_v (Value.bool (((r6.1) == (8)) && ((r6.2.1) == ((0#64) ++ (35#64))))) rfl rfl rfl rfl ?_
  rcases hg10 : (((r6.1) == (8)) && ((r6.2.1) == ((0#64) ++ (35#64)))) with _ | _
  · replace hM := ifn (Bool.eq_false_iff.1 hg10) hM
    refine r_n false rfl (by decide) rfl ?_
    refine r_n false rfl (by decide) rfl ?_
    refine r_v (Value.bool (false)) rfl rfl rfl rfl ?_
    refine r_v (Value.bool (false)) rfl rfl rfl rfl ?_
    refine lx_nil ?_
    refine hK9 _ _ ?_; try clear hK9 K9
    obtain rfl := Option.some.inj hM
    refine A_ret (fun hn => ends_eq (v0 := Value.bool (false)) rfl (res1 rfl))
  · replace hM := ifp hg10 hM
    refine r_y rfl ?_
    refine r_v (Value.int .i64 (r6.2.2)) rfl rfl rfl rfl ?_
    refine r_y rfl ?_
    refine r_v (Value.bool (((r6.2.2 : Int) == 0))) rfl rfl rfl rfl ?_
    refine r_v (Value.bool (((r6.2.2 : Int) == 0))) rfl rfl rfl rfl ?_
    refine r_v (Value.bool (((r6.2.2 : Int) == 0))) rfl rfl rfl rfl ?_
    refine lx_nil ?_
    refine hK9 _ _ ?_; try clear hK9 K9
    obtain rfl := Option.some.inj hM
    refine A_ret (fun hn => ends_eq (v0 := Value.bool (((r6.2.2 : Int) == 0))) rfl (res1 rfl))
def shunterref03_Bits_l7 (i2_ : Int) (rec_shunterref03_Bits_l3 : List Bool → Int → Option (List Bool)) : Nat → List Bool → Int → Int → Option (List Bool)
  | 0, _, _, _ => none
  | n13 + 1, l4_, n5_, k6_ => if (k6_ : Int) ≥ 1 then ck ((l4_).length + ([decide ((n5_ : Int) ≥ k6_)]).length ≤ 140737488355328) (if (n5_ : Int) ≥ k6_ then ck ((-9223372036854775808 ≤ (n5_ - k6_) ∧ (n5_ - k6_) ≤ 9223372036854775807)) (ck (0 ≤ k6_ ∧ k6_ ≤ 9223372036854775807) ((shunterref03_Bits_l7 i2_ rec_shunterref03_Bits_l3 n13) ((l4_ ++ ([decide ((n5_ : Int) ≥ k6_)]))) ((n5_ - k6_)) ((k6_) / 2))) else ck (0 ≤ k6_ ∧ k6_ ≤ 9223372036854775807) ((shunterref03_Bits_l7 i2_ rec_shunterref03_Bits_l3 n13) ((l4_ ++ ([decide ((n5_ : Int) ≥ k6_)]))) (n5_) ((k6_) / 2))) else ck ((-9223372036854775808 ≤ (i2_ + 1) ∧ (i2_ + 1) ≤ 9223372036854775807)) (rec_shunterref03_Bits_l3 (l4_) ((i2_ + 1)))
def shunterref03_Bits_l3 (N : Nat) (b : List UInt8) : Nat → List Bool → Int → Option (List Bool)
  | 0, _, _ => none
  | n5 + 1, l1_, i2_ => if (i2_ : Int) < ((b).length : Int) then ck (0 ≤ i2_ ∧ i2_ < ((b).length : Int)) (shunterref03_Bits_l7 i2_ (shunterref03_Bits_l3 N b n5) N (l1_) (((((b)[(i2_).toNat]!).toNat : Nat) : Int)) (128)) else some (l1_)
def shunterref03_Bits_m (N : Nat) (b : List UInt8) : Option (List Bool) := shunterref03_Bits_l3 N b N ([]) (0)
set_option maxRecDepth 100000 in
set_option maxHeartbeats 400000 in
theorem shunterref03_Bits_g (N : Nat) (b : List UInt8) (r : List Bool) (hM : shunterref03_Bits_m N b = some r) (ro : Addr → Option Value) (bv : Value) (hb : Rd encY ro bv b) : Does Try.prog 15 #[bv] ro [] (p1 (fun s_ => s_) 4 encB r) := by
  unfold shunterref03_Bits_m at hM
  refine does_of_A follows Try.func15 rfl 35 rfl (upd (fun _ => undef) 0 (bv)) (by funext k; match k with | 0 => rfl | k + 1 => rfl) (fun base0_ => ?_)
  refine A_seq fun K1 hK1 => ?_
  refine A_reg ?_
  refine r_v (Value.slice none 0 0) rfl rfl rfl rfl ?_
  refine lx_nil ?_
  refine hK1 _ _ ?_; try clear hK1 K1
  refine A_seq fun K2 hK2 => ?_
  refine A_reg ?_
  refine r_v (Value.slice none 0 0) rfl rfl rfl rfl ?_
  refine lx_nil ?_
  refine hK2 _ _ ?_; try clear hK2 K2
  refine A_seq fun K3 hK3 => ?_
  refine A_seq fun K4 hK4 => ?_
  refine A_reg ?_
  refine r_v (Value.int .i64 (0)) rfl rfl rfl rfl ?_
  refine lx_nil ?_
  refine hK4 _ _ ?_; try clear hK4 K4
  refine A_block ?_
  refine A_forget _ (Sub.pickE (Ls := [[]]) (Ls0 := []) rfl [0] rfl) ?_
  refine A_loop (fun tt ll nn => ∃ (n5 : Nat) (l1_ : List Bool) (i2_ : Int), (shunterref03_Bits_l3 N b n5 l1_ i2_ = some r) ∧ ∃ (vl1_ : Value) (Sl1_ : List Bl), Sl 4 encB vl1_ l1_ Sl1_ ∧ Is [(0, bv), (3, vl1_), (4, Value.int .i64 (i2_))] (List.flatten [Sl1_]) tt ll ∧ nn = n5 + 1) (N + 1) ?_ ?_
  · exact ⟨N, [], 0, hM, Value.slice none 0 0, [], Sl.nil, is_mk rfl rfl, rfl⟩
  · clear hM; rintro t l _ ⟨n5, l1_, i2_, hM, vl1_, Sl1_, hl1_, ⟨⟨T, rfl⟩, rfl⟩, rfl⟩
    rcases n5 with _ | n5
    · exact absurd hM (by simp [shunterref03_Bits_l3])
    rw [shunterref03_Bits_l3] at hM
    refine A_seq fun K6 hK6 => ?_
    refine A_seq fun K7 hK7 => ?_
    refine A_reg ?_
    refine r_v (Value.int .i64 (i2_)) rfl rfl rfl rfl ?_
    refine r_v (bv) rfl rfl rfl rfl ?_
    refine r_v (Value.int .i64 (((b).length : Int))) rfl rfl rfl (ev_lenSl rfl rfl rfl (Rd.shp hb)) ?_
    refine r_v (Value.bool (decide ((i2_ : Int) < ((b).length : Int)))) rfl rfl rfl rfl ?_
    refine lx_nil ?_
    refine hK7 _ _ ?_; try clear hK7 K7
    refine A_cond (decide ((i2_ : Int) < ((b).length : Int))) rfl (fun hc8 => ?_) (fun hc8 => ?_)
    · replace hM := ifp (of_decide_eq_true hc8) hM
      refine A_skip ?_
      refine hK6 _ _ ?_; try clear hK6 K6
      refine A_seq fun K9 hK9 => ?_
      refine A_block ?_
      refine A_seq fun K10 hK10 => ?_
      refine A_reg ?_
      refine r_v (bv) rfl rfl rfl rfl ?_
      refine r_v (Value.int .i64 (i2_)) rfl rfl rfl rfl ?_
      replace hM := ck_some hM; obtain ⟨ck11, hM⟩ := hM
      refine r_v (elA bv ((i2_).toNat * 1)) rfl rfl rfl (ev_v (ev_idxSl rfl rfl rfl (Rd.shp hb) ck11)) ?_
      refine r_le (Value.int .u8 (((((b)[(i2_).toNat]!).toNat : Nat) : Int))) (En := encY) ((b)[(i2_).toNat]!) ((i2_).toNat) 0 rfl rfl (rd_ro hb) (get_of ck11) rfl ?_
      refine r_w (Value.int .i64 (((((b)[(i2_).toNat]!).toNat : Nat) : Int))) rfl rfl (u8_i64 ((b)[(i2_).toNat]!)) (fun _ => rfl) ?_
      refine r_v (Value.int .i64 (((((b)[(i2_).toNat]!).toNat : Nat) : Int))) rfl rfl rfl rfl ?_
      refine lx_nil ?_
      refine hK10 _ _ ?_; try clear hK10 K10
      refine A_seq fun K12 hK12 => ?_
      refine A_reg ?_
      refine r_v (Value.int .i64 (128)) rfl rfl rfl rfl ?_
      refine lx_nil ?_
      refine hK12 _ _ ?_; try clear hK12 K12
      refine A_block ?_
      refine A_forget _ (Sub.pick [Sl1_] [0] rfl) ?_
      refine A_loop (fun tt ll nn => ∃ (n13 : Nat) (l4_ : List Bool) (n5_ : Int) (k6_ : Int), (shunterref03_Bits_l7 i2_ (shunterref03_Bits_l3 N b n5) n13 l4_ n5_ k6_ = some r) ∧ ∃ (vl4_ : Value) (Sl4_ : List Bl), Sl 4 encB vl4_ l4_ Sl4_ ∧ Is [(0, bv), (3, vl4_), (4, Value.int .i64 (i2_)), (5, Value.int .i64 (n5_)), (6, Value.int .i64 (k6_))] (List.flatten [Sl4_]) tt ll ∧ nn = n13 + 1) (N + 1) ?_ ?_
      · exact ⟨N, l1_, ((((b)[(i2_).toNat]!).toNat : Nat) : Int), 128, hM, vl1_, Sl1_, hl1_, is_mk rfl rfl, rfl⟩
      · clear hM; rintro t l _ ⟨n13, l4_, n5_, k6_, hM, vl4_, Sl4_, hl4_, ⟨⟨T, rfl⟩, rfl⟩, rfl⟩
        rcases n13 with _ | n13
        · exact absurd hM (by simp [shunterref03_Bits_l7])
        rw [shunterref03_Bits_l7] at hM
        refine A_seq fun K14 hK14 => ?_
        refine A_seq fun K15 hK15 => ?_
        refine A_reg ?_
        refine r_v (Value.int .i64 (k6_)) rfl rfl rfl rfl ?_
        refine r_v (Value.bool (decide ((k6_ : Int) ≥ 1))) rfl rfl rfl rfl ?_
        refine lx_nil ?_
        refine hK15 _ _ ?_; try clear hK15 K15
        refine A_cond (decide ((k6_ : Int) ≥ 1)) rfl (fun hc16 => ?_) (fun hc16 => ?_)
        · replace hM := ifp (of_decide_eq_true hc16) hM
          refine A_skip ?_
          refine hK14 _ _ ?_; try clear hK14 K14
          refine A_seq fun K17 hK17 => ?_
          refine A_block ?_
          refine A_seq fun K18 hK18 => ?_
          refine A_regC [(some 26, false), (some 27, true)] (conG Try.prog []) ?_
          refine r_v (vl4_) rfl rfl rfl rfl ?_
          refine r_v (Value.int .i64 (n5_)) rfl rfl rfl rfl ?_
          refine r_v (Value.int .i64 (k6_)) rfl rfl rfl rfl ?_
          refine r_v (Value.bool (decide ((n5_ : Int) ≥ k6_))) rfl rfl rfl rfl ?_
          refine r_bs (cs0 := []) (Ls := [Sl4_]) 4 encB [decide ((n5_ : Int) ≥ k6_)] [Value.bool (decide ((n5_ : Int) ≥ k6_))] [Value.bool (false)] rfl rfl rfl rfl rfl rfl rfl rfl (by kernel_rfl) (by kernel_rfl) rfl rfl rfl (fun s19 S20 H21 => ?_)
          replace hM := ck_some hM; obtain ⟨ck22, hM⟩ := hM
          refine r_app (cs0 := []) (Ls := [Sl4_, S20]) 0 (En := encB) rfl rfl rfl rfl rfl hl4_ rfl (rd_own H21 (mem_chunk (Ls := [Sl4_, S20]) (k := 1) rfl rfl)) rfl rfl rfl rfl rfl (app_b ck22 rfl) (app_m ck22 rfl) rfl (fun s23 S24 H25 => ?_)
          refine r_v (s23) rfl rfl rfl rfl ?_
          refine lx_nil ?_
          refine hK18 _ _ ?_; try clear hK18 K18
          refine A_seq fun K26 hK26 => ?_
          refine A_reg ?_
          refine r_v (Value.int .i64 (n5_)) rfl rfl rfl rfl ?_
          refine r_v (Value.int .i64 (k6_)) rfl rfl rfl rfl ?_
          refine r_v (Value.bool (decide ((n5_ : Int) ≥ k6_))) rfl rfl rfl rfl ?_
          refine lx_nil ?_
          refine hK26 _ _ ?_; try clear hK26 K26
          refine A_cond (decide ((n5_ : Int) ≥ k6_)) rfl (fun hc27 => ?_) (fun hc27 => ?_)
          · replace hM := ifp (of_decide_eq_true hc27) hM
            refine A_reg ?_
            refine r_v (Value.int .i64 (n5_)) rfl rfl rfl rfl ?_
            refine r_v (Value.int .i64 (k6_)) rfl rfl rfl rfl ?_
            replace hM := ck_some hM; obtain ⟨ck28, hM⟩ := hM
            refine r_v (Value.int .i64 ((n5_ - k6_))) rfl rfl (wi64 rfl ck28.1 ck28.2) rfl ?_
            refine r_v (Value.int .i64 ((n5_ - k6_))) rfl rfl rfl rfl ?_
            refine lx_nil ?_
            refine hK17 _ _ ?_; try clear hK17 K17
            refine A_reg ?_
            refine r_v (Value.int .i64 (k6_)) rfl rfl rfl rfl ?_
            replace hM := ck_some hM; obtain ⟨ck29, hM⟩ := hM
            refine r_v (Value.int .i64 ((k6_) / 2)) rfl rfl (quo_i64 ck29.1 (by decide) ck29.2) rfl ?_
            refine r_v (Value.int .i64 ((k6_) / 2)) rfl rfl rfl rfl ?_
            refine lx_nil ?_
            refine fg _ (Sub.pick [S24, S20] [0] rfl) ?_
            exact ⟨n13 + 1, by omega, n13, (l4_ ++ ([decide ((n5_ : Int) ≥ k6_)])), (n5_ - k6_), (k6_) / 2, hM, s23, S24, H25, is_mk rfl rfl, rfl⟩
          · replace hM := ifn (of_decide_eq_false hc27) hM
            refine A_skip ?_
            refine hK17 _ _ ?_; try clear hK17 K17
            refine A_reg ?_
            refine r_v (Value.int .i64 (k6_)) rfl rfl rfl rfl ?_
            replace hM := ck_some hM; obtain ⟨ck30, hM⟩ := hM
            refine r_v (Value.int .i64 ((k6_) / 2)) rfl rfl (quo_i64 ck30.1 (by decide) ck30.2) rfl ?_
            refine r_v (Value.int .i64 ((k6_) / 2)) rfl rfl rfl rfl ?_
            refine lx_nil ?_
            refine fg _ (Sub.pick [S24, S20] [0] rfl) ?_
            exact ⟨n13 + 1, by omega, n13, (l4_ ++ ([decide ((n5_ : Int) ≥ k6_)])), n5_, (k6_) / 2, hM, s23, S24, H25, is_mk rfl rfl, rfl⟩
        · replace hM := ifn (of_decide_eq_false hc16) hM
          refine A_exit ?_
          refine hK9 _ _ ?_; try clear hK9 K9
          refine A_reg ?_
          refine r_v (Value.int .i64 (i2_)) rfl rfl rfl rfl ?_
          replace hM := ck_some hM; obtain ⟨ck31, hM⟩ := hM
          refine r_v (Value.int .i64 ((i2_ + 1))) rfl rfl (wi64 rfl ck31.1 ck31.2) rfl ?_
          refine r_v (Value.int .i64 ((i2_ + 1))) rfl rfl rfl rfl ?_
          refine lx_nil ?_
          refine fg _ (Sub.pick [Sl4_] [0] rfl) ?_
          exact ⟨n5 + 1, by omega, n5, l4_, (i2_ + 1), hM, vl4_, Sl4_, hl4_, is_mk rfl rfl, rfl⟩
    · replace hM := ifn (of_decide_eq_false hc8) hM
      refine A_exit ?_
      refine hK3 _ _ ?_; try clear hK3 K3
      refine A_seq fun K32 hK32 => ?_
      refine A_reg ?_
      refine r_v (vl1_) rfl rfl rfl rfl ?_
      refine r_v (vl1_) rfl rfl rfl rfl ?_
      refine lx_nil ?_
      refine hK32 _ _ ?_; try clear hK32 K32
      obtain rfl := Option.some.inj hM
      refine A_ret (fun hn => ends1 (v0 := vl1_) hl1_ (sub_one (Sub.pick [Sl1_] [0] rfl)) rfl (res1 rfl))
def shunterref01_Halves_k6 (r' : BitVec 128) (lo2_ : BitVec 64) (i3_ : Int) (rec_shunterref01_Halves_l4 : BitVec 64 → BitVec 64 → Int → Option ((BitVec 64) × (BitVec 64))) (hi5_ : BitVec 64) : Option ((BitVec 64) × (BitVec 64)) := ck (0 ≤ i3_ ∧ i3_ < 128) (if ((r').getLsbD ((i3_).toNat)) = true then ck ((-9223372036854775808 ≤ (i3_ - 1) ∧ (i3_ - 1) ≤ 9223372036854775807)) (rec_shunterref01_Halves_l4 (hi5_) (((2#64 * lo2_) + 1#64)) ((i3_ - 1))) else ck ((-9223372036854775808 ≤ (i3_ - 1) ∧ (i3_ - 1) ≤ 9223372036854775807)) (rec_shunterref01_Halves_l4 (hi5_) ((2#64 * lo2_)) ((i3_ - 1))))
def shunterref01_Halves_l4 (r' : BitVec 128) : Nat → BitVec 64 → BitVec 64 → Int → Option ((BitVec 64) × (BitVec 64))
  | 0, _, _, _ => none
  | n6 + 1, hi1_, lo2_, i3_ => if (i3_ : Int) ≥ 0 then ck ((-9223372036854775808 ≤ (i3_ + 64) ∧ (i3_ + 64) ≤ 9223372036854775807)) (ck (0 ≤ (i3_ + 64) ∧ (i3_ + 64) < 128) (if ((r').getLsbD (((i3_ + 64)).toNat)) = true then shunterref01_Halves_k6 r' lo2_ i3_ (shunterref01_Halves_l4 r' n6) (((2#64 * hi1_) + 1#64)) else shunterref01_Halves_k6 r' lo2_ i3_ (shunterref01_Halves_l4 r' n6) ((2#64 * hi1_)))) else some (hi1_, lo2_)
def shunterref01_Halves_m (N : Nat) (r' : BitVec 128) : Option ((BitVec 64) × (BitVec 64)) := shunterref01_Halves_l4 r' N (0#64) (0#64) (63)
set_option maxRecDepth 100000 in
set_option maxHeartbeats 400000 in
theorem shunterref01_Halves_g (N : Nat) (r' : BitVec 128) (r : (BitVec 64) × (BitVec 64)) (hM : shunterref01_Halves_m N r' = some r) : Gives Try.prog 54 #[Value.agg (rowF (BitVec.getLsbD (r')))] (Value.tuple #[U (r.1), U (r.2)]) := by
  unfold shunterref01_Halves_m at hM
  refine gives_of_A follows Try.func54 rfl 28 rfl (upd (fun _ => undef) 0 (Value.agg (rowF (BitVec.getLsbD (r'))))) (by funext k; match k with | 0 => rfl | k + 1 => rfl) (fun base0_ => ?_)
  refine A_seq fun K1 hK1 => ?_
  refine A_reg ?_
  refine r_a (76, rowF (BitVec.getLsbD (r'))) rfl rfl rfl (fun b2 => ?_) (.inr rfl)
  refine r_v (U (0#64)) rfl rfl rfl rfl ?_
  refine r_v (U (0#64)) rfl rfl rfl rfl ?_
  refine lx_nil ?_
  refine hK1 _ _ ?_; try clear hK1 K1
  refine A_seq fun K3 hK3 => ?_
  refine A_reg ?_
  refine r_v (U (0#64)) rfl rfl rfl rfl ?_
  refine r_v (U (0#64)) rfl rfl rfl rfl ?_
  refine lx_nil ?_
  refine hK3 _ _ ?_; try clear hK3 K3
  refine A_seq fun K4 hK4 => ?_
  refine A_seq fun K5 hK5 => ?_
  refine A_reg ?_
  refine r_v (Value.int .i64 (63)) rfl rfl rfl rfl ?_
  refine lx_nil ?_
  refine hK5 _ _ ?_; try clear hK5 K5
  refine A_block ?_
  refine A_loop (fun tt ll nn => ∃ (n6 : Nat) (hi1_ : BitVec 64) (lo2_ : BitVec 64) (i3_ : Int), (shunterref01_Halves_l4 r' n6 hi1_ lo2_ i3_ = some r) ∧ Is [(1, Value.pointer (some ⟨b2, 0, none⟩)), (4, U (hi1_)), (5, U (lo2_)), (6, Value.int .i64 (i3_))] [(b2, 76, rowF (BitVec.getLsbD (r')))] tt ll ∧ nn = n6 + 1) (N + 1) ?_ ?_
  · exact ⟨N, 0#64, 0#64, 63, hM, is_mk rfl rfl, rfl⟩
  · clear hM; rintro t l _ ⟨n6, hi1_, lo2_, i3_, hM, ⟨⟨T, rfl⟩, rfl⟩, rfl⟩
    rcases n6 with _ | n6
    · exact absurd hM (by simp [shunterref01_Halves_l4])
    rw [shunterref01_Halves_l4] at hM
    refine A_seq fun K7 hK7 => ?_
    refine A_seq fun K8 hK8 => ?_
    refine A_reg ?_
    refine r_v (Value.int .i64 (i3_)) rfl rfl rfl rfl ?_
    refine r_v (Value.bool (decide ((i3_ : Int) ≥ 0))) rfl rfl rfl rfl ?_
    refine lx_nil ?_
    refine hK8 _ _ ?_; try clear hK8 K8
    refine A_cond (decide ((i3_ : Int) ≥ 0)) rfl (fun hc9 => ?_) (fun hc9 => ?_)
    · replace hM := ifp (of_decide_eq_true hc9) hM
      refine A_skip ?_
      refine hK7 _ _ ?_; try clear hK7 K7
      refine A_seq fun K10 hK10 => ?_
      refine A_block ?_
      refine A_seq fun K11 hK11 => ?_
      refine A_reg ?_
      refine r_v (U (hi1_)) rfl rfl rfl rfl ?_
      refine r_v (U ((2#64 * hi1_))) rfl rfl (U_mul (2#64) (hi1_)) rfl ?_
      refine r_v (U ((2#64 * hi1_))) rfl rfl rfl rfl ?_
      refine lx_nil ?_
      refine hK11 _ _ ?_; try clear hK11 K11
      refine A_seq fun K12 hK12 => ?_
      refine A_reg ?_
      refine r_v (U (lo2_)) rfl rfl rfl rfl ?_
      refine r_v (U ((2#64 * lo2_))) rfl rfl (U_mul (2#64) (lo2_)) rfl ?_
      refine r_v (U ((2#64 * lo2_))) rfl rfl rfl rfl ?_
      refine lx_nil ?_
      refine hK12 _ _ ?_; try clear hK12 K12
      refine A_cut (fun tt ll => ∃ (hi5_ : BitVec 64), (shunterref01_Halves_k6 r' lo2_ i3_ (shunterref01_Halves_l4 r' n6) hi5_ = some r) ∧ Is [(1, Value.pointer (some ⟨b2, 0, none⟩)), (4, U (hi5_)), (5, U ((2#64 * lo2_))), (6, Value.int .i64 (i3_))] [(b2, 76, rowF (BitVec.getLsbD (r')))] tt ll) ?_ ?_
      · refine A_seq fun K19 hK19 => ?_
        refine A_reg ?_
        refine r_v (Value.int .i64 (i3_)) rfl rfl rfl rfl ?_
        replace hM := ck_some hM; obtain ⟨ck20, hM⟩ := hM
        refine r_v (Value.int .i64 ((i3_ + 64))) rfl rfl (wi64 rfl ck20.1 ck20.2) rfl ?_
        replace hM := ck_some hM; obtain ⟨ck21, hM⟩ := hM
        have hx22 := fun c => ev_v (ev_idxI (P := Try.prog) (c := c) (t := 76) (b := b2) (off := 0) (k := .i64) rfl rfl rfl ck21)
        simp only [Nat.zero_add] at hx22
        have ck21n : ((i3_ + 64)).toNat < 128 := by omega
        refine r_v (Value.pointer (some ⟨b2, ((i3_ + 64)).toNat, none⟩)) rfl rfl rfl (hx22 _) ?_
        refine r_l (Value.bool ((r').getLsbD (((i3_ + 64)).toNat))) 0 _ _ _ _ rfl rfl rfl rfl (ld_row1 rfl _ ck21n) ?_
        refine lx_nil ?_
        refine hK19 _ _ ?_; try clear hK19 K19
        refine A_cond ((r').getLsbD (((i3_ + 64)).toNat)) rfl (fun hc23 => ?_) (fun hc23 => ?_)
        · replace hM := ifp hc23 hM
          refine A_reg ?_
          refine r_v (U ((2#64 * hi1_))) rfl rfl rfl rfl ?_
          refine r_v (U (((2#64 * hi1_) + 1#64))) rfl rfl (U_add ((2#64 * hi1_)) (1#64)) rfl ?_
          refine r_v (U (((2#64 * hi1_) + 1#64))) rfl rfl rfl rfl ?_
          refine lx_nil ?_
          refine fg _ (Sub.of (List.Sublist.cons_cons _ (List.Sublist.slnil))) ?_
          exact ⟨((2#64 * hi1_) + 1#64), hM, is_mk rfl rfl⟩
        · replace hM := ifn (Bool.eq_false_iff.1 hc23) hM
          refine A_skip ?_
          refine fg _ (Sub.of (List.Sublist.cons_cons _ (List.Sublist.slnil))) ?_
          exact ⟨(2#64 * hi1_), hM, is_mk rfl rfl⟩
      · clear hM; rintro t l ⟨hi5_, hM, ⟨T, rfl⟩, rfl⟩
        unfold shunterref01_Halves_k6 at hM
        refine A_seq fun K13 hK13 => ?_
        refine A_reg ?_
        refine r_v (Value.int .i64 (i3_)) rfl rfl rfl rfl ?_
        replace hM := ck_some hM; obtain ⟨ck14, hM⟩ := hM
        have hx15 := fun c => ev_v (ev_idxI (P := Try.prog) (c := c) (t := 76) (b := b2) (off := 0) (k := .i64) rfl rfl rfl ck14)
        simp only [Nat.zero_add] at hx15
        have ck14n : (i3_).toNat < 128 := by omega
        refine r_v (Value.pointer (some ⟨b2, (i3_).toNat, none⟩)) rfl rfl rfl (hx15 _) ?_
        refine r_l (Value.bool ((r').getLsbD ((i3_).toNat))) 0 _ _ _ _ rfl rfl rfl rfl (ld_row1 rfl _ ck14n) ?_
        refine lx_nil ?_
        refine hK13 _ _ ?_; try clear hK13 K13
        refine A_cond ((r').getLsbD ((i3_).toNat)) rfl (fun hc16 => ?_) (fun hc16 => ?_)
        · replace hM := ifp hc16 hM
          refine A_reg ?_
          refine r_v (U ((2#64 * lo2_))) rfl rfl rfl rfl ?_
          refine r_v (U (((2#64 * lo2_) + 1#64))) rfl rfl (U_add ((2#64 * lo2_)) (1#64)) rfl ?_
          refine r_v (U (((2#64 * lo2_) + 1#64))) rfl rfl rfl rfl ?_
          refine lx_nil ?_
          refine hK10 _ _ ?_; try clear hK10 K10
          refine A_reg ?_
          refine r_v (Value.int .i64 (i3_)) rfl rfl rfl rfl ?_
          replace hM := ck_some hM; obtain ⟨ck17, hM⟩ := hM
          refine r_v (Value.int .i64 ((i3_ - 1))) rfl rfl (wi64 rfl ck17.1 ck17.2) rfl ?_
          refine r_v (Value.int .i64 ((i3_ - 1))) rfl rfl rfl rfl ?_
          refine lx_nil ?_
          refine fg _ (Sub.of (List.Sublist.cons_cons _ (List.Sublist.slnil))) ?_
          exact ⟨n6 + 1, by omega, n6, hi5_, ((2#64 * lo2_) + 1#64), (i3_ - 1), hM, is_mk rfl rfl, rfl⟩
        · replace hM := ifn (Bool.eq_false_iff.1 hc16) hM
          refine A_skip ?_
          refine hK10 _ _ ?_; try clear hK10 K10
          refine A_reg ?_
          refine r_v (Value.int .i64 (i3_)) rfl rfl rfl rfl ?_
          replace hM := ck_some hM; obtain ⟨ck18, hM⟩ := hM
          refine r_v (Value.int .i64 ((i3_ - 1))) rfl rfl (wi64 rfl ck18.1 ck18.2) rfl ?_
          refine r_v (Value.int .i64 ((i3_ - 1))) rfl rfl rfl rfl ?_
          refine lx_nil ?_
          refine fg _ (Sub.of (List.Sublist.cons_cons _ (List.Sublist.slnil))) ?_
          exact ⟨n6 + 1, by omega, n6, hi5_, (2#64 * lo2_), (i3_ - 1), hM, is_mk rfl rfl, rfl⟩
    · replace hM := ifn (of_decide_eq_false hc9) hM
      refine A_exit ?_
      refine hK4 _ _ ?_; try clear hK4 K4
      refine A_seq fun K24 hK24 => ?_
      refine A_reg ?_
      refine r_v (U (hi1_)) rfl rfl rfl rfl ?_
      refine r_v (U (lo2_)) rfl rfl rfl rfl ?_
      refine r_v (U (hi1_)) rfl rfl rfl rfl ?_
      refine r_v (U (lo2_)) rfl rfl rfl rfl ?_
      refine lx_nil ?_
      refine hK24 _ _ ?_; try clear hK24 K24
      obtain rfl := Option.some.inj hM
      refine A_ret (fun hn => ends_eq (v0 := Value.tuple #[U (hi1_), U (lo2_)]) rfl (res2 rfl rfl))
def shunterref02_Of_k2 (N : Nat) (l' : List Bool) (m1_ : BitVec 128) : Option (Int × (BitVec 128)) := (shunterref01_Halves_m N m1_).bind fun r6 => some (((l').length : Int), (r6.1) ++ (r6.2))
def shunterref02_Of_k6 (l' : List Bool) (i3_ : Int) (m4_ : BitVec 128) (rec_shunterref02_Of_l5 : Int → BitVec 128 → Option (Int × (BitVec 128))) : Option (Int × (BitVec 128)) := ck (0 ≤ i3_ ∧ i3_ < ((l').length : Int)) (ck (0 ≤ i3_ ∧ i3_ < 128) (ck ((-9223372036854775808 ≤ (i3_ + 1) ∧ (i3_ + 1) ≤ 9223372036854775807)) (rec_shunterref02_Of_l5 ((i3_ + 1)) (setb (m4_) ((i3_).toNat) ((l')[(i3_).toNat]!)))))
def shunterref02_Of_l5 (N : Nat) (l' : List Bool) : Nat → Int → BitVec 128 → Option (Int × (BitVec 128))
  | 0, _, _ => none
  | n10 + 1, i3_, m4_ => if (i3_ : Int) < ((l').length : Int) then if (i3_ : Int) < 128 then shunterref02_Of_k6 l' i3_ m4_ (shunterref02_Of_l5 N l' n10)  else shunterref02_Of_k2 N l' (m4_) else shunterref02_Of_k2 N l' (m4_)
def shunterref02_Of_m (N : Nat) (l' : List Bool) : Option (Int × (BitVec 128)) := shunterref02_Of_l5 N l' N (0) (0#128)
set_option maxRecDepth 100000 in
set_option maxHeartbeats 400000 in
theorem shunterref02_Of_g (N : Nat) (l' : List Bool) (r : Int × (BitVec 128)) (hM : shunterref02_Of_m N l' = some r) (ro : Addr → Option Value) (l'v : Value) (hl' : Rd encB ro l'v l') : Does Try.prog 45 #[l'v] ro [] (pV (Value.agg #[Value.int .i64 (r.1), U (hi (r.2)), U (lo (r.2))])) := by
  unfold shunterref02_Of_m at hM
  refine does_of_A follows Try.func45 rfl 33 rfl (upd (fun _ => undef) 0 (l'v)) (by funext k; match k with | 0 => rfl | k + 1 => rfl) (fun base0_ => ?_)
  refine A_seq fun K1 hK1 => ?_
  refine A_reg ?_
  refine r_a (26, #[Value.int .i64 (0), U (0#64), U (0#64)]) rfl rfl rfl (fun b2 => ?_) (.inr rfl)
  refine lx_nil ?_
  refine hK1 _ _ ?_; try clear hK1 K1
  refine A_seq fun K3 hK3 => ?_
  refine A_reg ?_
  refine r_a (76, rowF (BitVec.getLsbD (0#128))) rfl rfl ((zrow z_76).trans (congrArg (fun x => some (76, x)) row_zero)) (fun b4 => ?_) (.inr rfl)
  refine lx_nil ?_
  refine hK3 _ _ ?_; try clear hK3 K3
  refine A_cut (fun tt ll => ∃ (m1_ : BitVec 128), (shunterref02_Of_k2 N l' m1_ = some r) ∧ Is [(0, l'v), (2, Value.pointer (some ⟨b2, 0, none⟩)), (3, Value.pointer (some ⟨b4, 0, none⟩))] [(b4, 76, rowF (BitVec.getLsbD (m1_))), (b2, 26, #[Value.int .i64 (0), U (0#64), U (0#64)])] tt ll) ?_ ?_
  · refine A_seq fun K9 hK9 => ?_
    refine A_reg ?_
    refine r_v (Value.int .i64 (0)) rfl rfl rfl rfl ?_
    refine lx_nil ?_
    refine hK9 _ _ ?_; try clear hK9 K9
    refine A_block ?_
    refine A_loop (fun tt ll nn => ∃ (n10 : Nat) (i3_ : Int) (m4_ : BitVec 128), (shunterref02_Of_l5 N l' n10 i3_ m4_ = some r) ∧ Is [(0, l'v), (2, Value.pointer (some ⟨b2, 0, none⟩)), (3, Value.pointer (some ⟨b4, 0, none⟩)), (4, Value.int .i64 (i3_))] [(b4, 76, rowF (BitVec.getLsbD (m4_))), (b2, 26, #[Value.int .i64 (0), U (0#64), U (0#64)])] tt ll ∧ nn = n10 + 1) (N + 1) ?_ ?_
    · exact ⟨N, 0, 0#128, hM, is_mk rfl (by first | rfl | simp only [app_hl]), rfl⟩
    · clear hM; rintro t l _ ⟨n10, i3_, m4_, hM, ⟨⟨T, rfl⟩, rfl⟩, rfl⟩
      rcases n10 with _ | n10
      · exact absurd hM (by simp [shunterref02_Of_l5])
      rw [shunterref02_Of_l5] at hM
      refine A_cut (fun tt ll => (shunterref02_Of_k6 l' i3_ m4_ (shunterref02_Of_l5 N l' n10)  = some r) ∧ Is [(0, l'v), (2, Value.pointer (some ⟨b2, 0, none⟩)), (3, Value.pointer (some ⟨b4, 0, none⟩)), (4, Value.int .i64 (i3_))] [(b4, 76, rowF (BitVec.getLsbD (m4_))), (b2, 26, #[Value.int .i64 (0), U (0#64), U (0#64)])] tt ll) ?_ ?_
      · refine A_seq fun K16 hK16 => ?_
        refine A_reg ?_
        refine r_v (Value.int .i64 (i3_)) rfl rfl rfl rfl ?_
        refine r_v (l'v) rfl rfl rfl rfl ?_
        refine r_v (Value.int .i64 (((l').length : Int))) rfl rfl rfl (ev_lenSl rfl rfl rfl (Rd.shp hl')) ?_
        refine r_v (Value.bool (decide ((i3_ : Int) < ((l').length : Int)))) rfl rfl rfl rfl ?_
        refine r_v (Value.bool (decide ((i3_ : Int) < ((l').length : Int)))) rfl rfl rfl rfl ?_
        rcases hg17 : (decide ((i3_ : Int) < ((l').length : Int))) with _ | _
        · replace hM := ifn (of_decide_eq_false hg17) hM
          refine r_n false rfl (by decide) rfl ?_
          refine r_n false rfl (by decide) rfl ?_
          refine r_v (Value.bool (false)) rfl rfl rfl rfl ?_
          refine lx_nil ?_
          refine hK16 _ _ ?_; try clear hK16 K16
          refine A_cond false rfl (fun h_ => nomatch h_) (fun _ => ?_)
          refine A_exit ?_
          refine fg _ (Sub.of (List.Sublist.cons_cons _ (List.Sublist.cons_cons _ (List.Sublist.slnil)))) ?_
          exact ⟨m4_, hM, is_mk rfl (by first | rfl | simp only [app_hl])⟩
        · replace hM := ifp (of_decide_eq_true hg17) hM
          refine r_y rfl ?_
          refine r_v (Value.int .i64 (i3_)) rfl rfl rfl rfl ?_
          refine r_y rfl ?_
          refine r_v (Value.bool (decide ((i3_ : Int) < 128))) rfl rfl rfl rfl ?_
          refine r_v (Value.bool (decide ((i3_ : Int) < 128))) rfl rfl rfl rfl ?_
          refine lx_nil ?_
          refine hK16 _ _ ?_; try clear hK16 K16
          refine A_cond (decide ((i3_ : Int) < 128)) rfl (fun hc18 => ?_) (fun hc18 => ?_)
          · replace hM := ifp (of_decide_eq_true hc18) hM
            refine A_skip ?_
            refine fg _ (Sub.of (List.Sublist.cons_cons _ (List.Sublist.cons_cons _ (List.Sublist.slnil)))) ?_
            exact ⟨hM, is_mk rfl (by first | rfl | simp only [app_hl])⟩
          · replace hM := ifn (of_decide_eq_false hc18) hM
            refine A_exit ?_
            refine fg _ (Sub.of (List.Sublist.cons_cons _ (List.Sublist.cons_cons _ (List.Sublist.slnil)))) ?_
            exact ⟨m4_, hM, is_mk rfl (by first | rfl | simp only [app_hl])⟩
      · clear hM; rintro t l ⟨hM, ⟨T, rfl⟩, rfl⟩
        unfold shunterref02_Of_k6 at hM
        refine A_seq fun K11 hK11 => ?_
        refine A_block ?_
        refine A_reg ?_
        refine r_v (Value.int .i64 (i3_)) rfl rfl rfl rfl ?_
        refine r_v (l'v) rfl rfl rfl rfl ?_
        refine r_v (Value.int .i64 (i3_)) rfl rfl rfl rfl ?_
        replace hM := ck_some hM; obtain ⟨ck12, hM⟩ := hM
        refine r_v (elA l'v ((i3_).toNat * 1)) rfl rfl rfl (ev_v (ev_idxSl rfl rfl rfl (Rd.shp hl') ck12)) ?_
        refine r_le (Value.bool ((l')[(i3_).toNat]!)) (En := encB) ((l')[(i3_).toNat]!) ((i3_).toNat) 0 rfl rfl (rd_ro hl') (get_of ck12) rfl ?_
        replace hM := ck_some hM; obtain ⟨ck13, hM⟩ := hM
        have hx14 := fun c => ev_v (ev_idxI (P := Try.prog) (c := c) (t := 76) (b := b4) (off := 0) (k := .i64) rfl rfl rfl ck13)
        simp only [Nat.zero_add] at hx14
        have ck13n : (i3_).toNat < 128 := by omega
        refine r_v (Value.pointer (some ⟨b4, (i3_).toNat, none⟩)) rfl rfl rfl (hx14 _) ?_
        refine r_s [(b4, 76, rowF (BitVec.getLsbD (setb (m4_) ((i3_).toNat) ((l')[(i3_).toNat]!)))), (b2, 26, #[Value.int .i64 (0), U (0#64), U (0#64)])] 0 _ _ _ (rowF (BitVec.getLsbD (m4_))) (#[Value.bool ((l')[(i3_).toNat]!)]) (rowF (BitVec.getLsbD (setb (m4_) ((i3_).toNat) ((l')[(i3_).toNat]!)))) rfl rfl rfl rfl (stok_row1 rfl rfl _ _ ck13n) ((splice_row1 _ _ _).trans (rowF_setb _ _ _ ck13n)) rfl ?_
        refine lx_nil ?_
        refine hK11 _ _ ?_; try clear hK11 K11
        refine A_reg ?_
        refine r_v (Value.int .i64 (i3_)) rfl rfl rfl rfl ?_
        replace hM := ck_some hM; obtain ⟨ck15, hM⟩ := hM
        refine r_v (Value.int .i64 ((i3_ + 1))) rfl rfl (wi64 rfl ck15.1 ck15.2) rfl ?_
        refine r_v (Value.int .i64 ((i3_ + 1))) rfl rfl rfl rfl ?_
        refine lx_nil ?_
        refine fg _ (Sub.of (List.Sublist.cons_cons _ (List.Sublist.cons_cons _ (List.Sublist.slnil)))) ?_
        exact ⟨n10 + 1, by omega, n10, (i3_ + 1), setb (m4_) ((i3_).toNat) ((l')[(i3_).toNat]!), hM, is_mk rfl (by first | rfl | simp only [app_hl]), rfl⟩
  · clear hM; rintro t l ⟨m1_, hM, ⟨T, rfl⟩, rfl⟩
    unfold shunterref02_Of_k2 at hM
    refine A_seq fun K5 hK5 => ?_
    refine A_reg ?_
    refine r_l (Value.agg (rowF (BitVec.getLsbD (m1_)))) 0 _ _ _ _ rfl rfl rfl rfl (ld_rows rfl rfl rfl _) ?_
    replace hM := bind_sm hM; obtain ⟨r6, hr7, hM⟩ := hM
    refine r_c (Value.tuple #[U (r6.1), U (r6.2)]) rfl _ _ (ev_callF rfl call_54 rfl) (shunterref01_Halves_g N m1_ _ hr7) ?_
    refine r_v (Value.tuple #[U (r6.1), U (r6.2)]) rfl rfl rfl rfl ?_
    refine r_v (U (r6.1)) rfl rfl rfl rfl ?_
    refine r_v (U (r6.2)) rfl rfl rfl rfl ?_
    refine r_v (U (r6.1)) rfl rfl rfl rfl ?_
    refine r_v (U (r6.2)) rfl rfl rfl rfl ?_
    refine lx_nil ?_
    refine hK5 _ _ ?_; try clear hK5 K5
    refine A_seq fun K8 hK8 => ?_
    refine A_reg ?_
    refine r_v (l'v) rfl rfl rfl rfl ?_
    refine r_v (Value.int .i64 (((l').length : Int))) rfl rfl rfl (ev_lenSl rfl rfl rfl (Rd.shp hl')) ?_
    refine r_v (U (r6.1)) rfl rfl rfl rfl ?_
    refine r_v (U (r6.2)) rfl rfl rfl rfl ?_
    refine r_v (Value.agg #[Value.int .i64 (((l').length : Int)), U (r6.1), U (r6.2)]) rfl rfl rfl (ev_buildS rfl rfl rfl rfl) ?_
    refine r_s [(b4, 76, rowF (BitVec.getLsbD (m1_))), (b2, 26, #[Value.int .i64 (((l').length : Int)), U (r6.1), U (r6.2)])] 1 _ _ _ (#[Value.int .i64 (0), U (0#64), U (0#64)]) (#[Value.int .i64 (((l').length : Int)), U (r6.1), U (r6.2)]) (#[Value.int .i64 (((l').length : Int)), U (r6.1), U (r6.2)]) rfl rfl rfl rfl (.of rfl rfl) rfl rfl ?_
    refine lx_nil ?_
    refine hK8 _ _ ?_; try clear hK8 K8
    obtain rfl := Option.some.inj hM
    refine A_ret (fun hn => endsV (v0 := Value.agg #[Value.int .i64 (((l').length : Int)), U (r6.1), U (r6.2)]) (by first | rfl | simp only [app_hl]) (res1 (res_cell hn 1 rfl rfl rfl)))
def shunterref03_Vec_l3 (N : Nat) (l' : List Bool) : Nat → List Bool → Int → Option (Int × (BitVec 128))
  | 0, _, _ => none
  | n7 + 1, low1_, i2_ => if (i2_ : Int) ≥ 0 then ck (0 ≤ i2_ ∧ i2_ < ((l').length : Int)) (ck ((low1_).length + ([(l')[(i2_).toNat]!]).length ≤ 140737488355328) (ck ((-9223372036854775808 ≤ (i2_ - 1) ∧ (i2_ - 1) ≤ 9223372036854775807)) ((shunterref03_Vec_l3 N l' n7) ((low1_ ++ ([(l')[(i2_).toNat]!]))) ((i2_ - 1))))) else (shunterref02_Of_m N low1_).bind fun r22 => some (r22.1, r22.2)
def shunterref03_Vec_m (N : Nat) (l' : List Bool) : Option (Int × (BitVec 128)) := ck ((-9223372036854775808 ≤ (((l').length : Int) - 1) ∧ (((l').length : Int) - 1) ≤ 9223372036854775807)) (shunterref03_Vec_l3 N l' N ([]) ((((l').length : Int) - 1)))
set_option maxRecDepth 100000 in
set_option maxHeartbeats 400000 in
theorem shunterref03_Vec_g (N : Nat) (l' : List Bool) (r : Int × (BitVec 128)) (hM : shunterref03_Vec_m N l' = some r) (ro : Addr → Option Value) (l'v : Value) (hl' : Rd encB ro l'v l') : Does Try.prog 25 #[l'v] ro [] (pV (Value.agg #[Value.int .i64 (r.1), U (hi (r.2)), U (lo (r.2))])) := by
  unfold shunterref03_Vec_m at hM
  refine does_of_A follows Try.func25 rfl 21 rfl (upd (fun _ => undef) 0 (l'v)) (by funext k; match k with | 0 => rfl | k + 1 => rfl) (fun base0_ => ?_)
  refine A_seq fun K1 hK1 => ?_
  refine A_reg ?_
  refine r_a (26, #[Value.int .i64 (0), U (0#64), U (0#64)]) rfl rfl rfl (fun b2 => ?_) (.inr rfl)
  refine lx_nil ?_
  refine hK1 _ _ ?_; try clear hK1 K1
  refine A_seq fun K3 hK3 => ?_
  refine A_reg ?_
  refine r_v (Value.slice none 0 0) rfl rfl rfl rfl ?_
  refine lx_nil ?_
  refine hK3 _ _ ?_; try clear hK3 K3
  refine A_seq fun K4 hK4 => ?_
  refine A_seq fun K5 hK5 => ?_
  refine A_reg ?_
  refine r_v (l'v) rfl rfl rfl rfl ?_
  refine r_v (Value.int .i64 (((l').length : Int))) rfl rfl rfl (ev_lenSl rfl rfl rfl (Rd.shp hl')) ?_
  replace hM := ck_some hM; obtain ⟨ck6, hM⟩ := hM
  refine r_v (Value.int .i64 ((((l').length : Int) - 1))) rfl rfl (wi64 rfl ck6.1 ck6.2) rfl ?_
  refine r_v (Value.int .i64 ((((l').length : Int) - 1))) rfl rfl rfl rfl ?_
  refine lx_nil ?_
  refine hK5 _ _ ?_; try clear hK5 K5
  refine A_block ?_
  refine A_forget _ (Sub.pickE (Ls := [[(b2, 26, #[Value.int .i64 (0), U (0#64), U (0#64)])], []]) (Ls0 := [[(b2, 26, #[Value.int .i64 (0), U (0#64), U (0#64)])]]) rfl [0, 1] rfl) ?_
  refine A_loop (fun tt ll nn => ∃ (n7 : Nat) (low1_ : List Bool) (i2_ : Int), (shunterref03_Vec_l3 N l' n7 low1_ i2_ = some r) ∧ ∃ (vlow1_ : Value) (Slow1_ : List Bl), Sl 4 encB vlow1_ low1_ Slow1_ ∧ Is [(0, l'v), (2, Value.pointer (some ⟨b2, 0, none⟩)), (3, vlow1_), (4, Value.int .i64 (i2_))] (List.flatten [[(b2, 26, #[Value.int .i64 (0), U (0#64), U (0#64)])], Slow1_]) tt ll ∧ nn = n7 + 1) (N + 1) ?_ ?_
  · exact ⟨N, [], (((l').length : Int) - 1), hM, Value.slice none 0 0, [], Sl.nil, is_mk rfl (by first | rfl | simp only [app_hl]), rfl⟩
  · clear hM; rintro t l _ ⟨n7, low1_, i2_, hM, vlow1_, Slow1_, hlow1_, ⟨⟨T, rfl⟩, rfl⟩, rfl⟩
    rcases n7 with _ | n7
    · exact absurd hM (by simp [shunterref03_Vec_l3])
    rw [shunterref03_Vec_l3] at hM
    refine A_seq fun K8 hK8 => ?_
    refine A_seq fun K9 hK9 => ?_
    refine A_reg ?_
    refine r_v (Value.int .i64 (i2_)) rfl rfl rfl rfl ?_
    refine r_v (Value.bool (decide ((i2_ : Int) ≥ 0))) rfl rfl rfl rfl ?_
    refine lx_nil ?_
    refine hK9 _ _ ?_; try clear hK9 K9
    refine A_cond (decide ((i2_ : Int) ≥ 0)) rfl (fun hc10 => ?_) (fun hc10 => ?_)
    · replace hM := ifp (of_decide_eq_true hc10) hM
      refine A_skip ?_
      refine hK8 _ _ ?_; try clear hK8 K8
      refine A_seq fun K11 hK11 => ?_
      refine A_block ?_
      refine A_regC [(some 17, false), (some 18, true)] (conG Try.prog []) ?_
      refine r_v (vlow1_) rfl rfl rfl rfl ?_
      refine r_v (l'v) rfl rfl rfl rfl ?_
      refine r_v (Value.int .i64 (i2_)) rfl rfl rfl rfl ?_
      replace hM := ck_some hM; obtain ⟨ck12, hM⟩ := hM
      refine r_v (elA l'v ((i2_).toNat * 1)) rfl rfl rfl (ev_v (ev_idxSl rfl rfl rfl (Rd.shp hl') ck12)) ?_
      refine r_le (Value.bool ((l')[(i2_).toNat]!)) (En := encB) ((l')[(i2_).toNat]!) ((i2_).toNat) 0 rfl rfl (rd_ro hl') (get_of ck12) rfl ?_
      refine r_bs (cs0 := []) (Ls := [[(b2, 26, #[Value.int .i64 (0), U (0#64), U (0#64)])], Slow1_]) 4 encB [(l')[(i2_).toNat]!] [Value.bool ((l')[(i2_).toNat]!)] [Value.bool (false)] rfl rfl rfl rfl rfl rfl rfl rfl (by kernel_rfl) (by kernel_rfl) rfl rfl rfl (fun s13 S14 H15 => ?_)
      replace hM := ck_some hM; obtain ⟨ck16, hM⟩ := hM
      refine r_app (cs0 := []) (Ls := [[(b2, 26, #[Value.int .i64 (0), U (0#64), U (0#64)])], Slow1_, S14]) 1 (En := encB) rfl rfl rfl rfl rfl hlow1_ rfl (rd_own H15 (mem_chunk (Ls := [[(b2, 26, #[Value.int .i64 (0), U (0#64), U (0#64)])], Slow1_, S14]) (k := 2) rfl rfl)) rfl rfl rfl rfl rfl (app_b ck16 rfl) (app_m ck16 rfl) rfl (fun s17 S18 H19 => ?_)
      refine r_v (s17) rfl rfl rfl rfl ?_
      refine lx_nil ?_
      refine hK11 _ _ ?_; try clear hK11 K11
      refine A_reg ?_
      refine r_v (Value.int .i64 (i2_)) rfl rfl rfl rfl ?_
      replace hM := ck_some hM; obtain ⟨ck20, hM⟩ := hM
      refine r_v (Value.int .i64 ((i2_ - 1))) rfl rfl (wi64 rfl ck20.1 ck20.2) rfl ?_
      refine r_v (Value.int .i64 ((i2_ - 1))) rfl rfl rfl rfl ?_
      refine lx_nil ?_
      refine fg _ (Sub.pick [[(b2, 26, #[Value.int .i64 (0), U (0#64), U (0#64)])], S18, S14] [0, 1] rfl) ?_
      exact ⟨n7 + 1, by omega, n7, (low1_ ++ ([(l')[(i2_).toNat]!])), (i2_ - 1), hM, s17, S18, H19, is_mk rfl (by first | rfl | simp only [app_hl]), rfl⟩
    · replace hM := ifn (of_decide_eq_false hc10) hM
      refine A_exit ?_
      refine hK4 _ _ ?_; try clear hK4 K4
      refine A_seq fun K21 hK21 => ?_
      refine A_regC [(some 20, false)] (conG Try.prog [(20, fun v_ L_ U_ => ∀ u0_, shunterref02_Of_m N low1_ = some u0_ → (pV (Value.agg #[Value.int .i64 (u0_.1), U (hi (u0_.2)), U (lo (u0_.2))])) v_ L_ U_)]) ?_
      refine r_v (vlow1_) rfl rfl rfl rfl ?_
      replace hM := bind_sm hM; obtain ⟨r22, hr23, hM⟩ := hM
      refine r_gv (Value.agg #[Value.int .i64 (r22.1), U (hi (r22.2)), U (lo (r22.2))]) 45 _ rfl rfl rfl (ev_callF rfl call_45 rfl) (fun own_ nw_ hs_ => shunterref02_Of_g N low1_ _ hr23 hs_.view vlow1_ ((rd_own hlow1_ (mem_chunk (Ls := [[(b2, 26, #[Value.int .i64 (0), U (0#64), U (0#64)])], Slow1_]) (k := 1) rfl rfl)) own_ nw_ hs_)) (fun _ _ v_ L_ U_ => ⟨fun h_ => h_ _ hr23, fun h_ => by intro _ e_; cases Option.some.inj (e_.symm.trans hr23); exact h_⟩) ?_
      refine r_s (List.flatten [[(b2, 26, #[Value.int .i64 (r22.1), U (hi (r22.2)), U (lo (r22.2))])], Slow1_]) 0 _ _ _ (#[Value.int .i64 (0), U (0#64), U (0#64)]) (#[Value.int .i64 (r22.1), U (hi (r22.2)), U (lo (r22.2))]) (#[Value.int .i64 (r22.1), U (hi (r22.2)), U (lo (r22.2))]) rfl rfl rfl rfl (.of rfl rfl) rfl rfl ?_
      refine lx_nil ?_
      refine hK21 _ _ ?_; try clear hK21 K21
      obtain rfl := Option.some.inj hM
      refine A_ret (fun hn => endsV (v0 := Value.agg #[Value.int .i64 (r22.1), U (hi (r22.2)), U (lo (r22.2))]) rfl (res1 (res_cell hn 0 rfl rfl rfl)))
def shunterref03_Get_k2 (N : Nat) (at' : Int) (w : Int) (r4 : List Bool) : Option (Int × (BitVec 128) × Int) := ck ((-9223372036854775808 ≤ (at' + w) ∧ (at' + w) ≤ 9223372036854775807)) (ck (0 ≤ at' ∧ at' ≤ (at' + w) ∧ (at' + w) ≤ ((r4).length : Int)) ((shunterref03_Vec_m N (((r4).take (((at' + w)).toNat)).drop ((at').toNat))).bind fun r12 => some (r12.1, r12.2, 0)))
def shunterref03_Get_k1 (N : Nat) (b : List UInt8) (at' : Int) (w : Int) : Option (Int × (BitVec 128) × Int) := (shunterref03_Bits_m N b).bind fun r4 => if (at' : Int) < 0 then some (0, (0#64) ++ (0#64), 7) else if (at' : Int) > ((r4).length : Int) then some (0, (0#64) ++ (0#64), 7) else ck ((-9223372036854775808 ≤ (((r4).length : Int) - at') ∧ (((r4).length : Int) - at') ≤ 9223372036854775807)) (if (w : Int) > (((r4).length : Int) - at') then some (0, (0#64) ++ (0#64), 7) else shunterref03_Get_k2 N at' w r4 )
def shunterref03_Get_m (N : Nat) (b : List UInt8) (at' : Int) (w : Int) : Option (Int × (BitVec 128) × Int) := if (w : Int) < 1 then some (0, (0#64) ++ (0#64), 9) else if (w : Int) > 128 then some (0, (0#64) ++ (0#64), 9) else shunterref03_Get_k1 N b at' w 
set_option maxRecDepth 100000 in
set_option maxHeartbeats 400000 in
theorem shunterref03_Get_g (N : Nat) (b : List UInt8) (at' : Int) (w : Int) (r : Int × (BitVec 128) × Int) (hM : shunterref03_Get_m N b at' w = some r) (ro : Addr → Option Value) (bv : Value) (hb : Rd encY ro bv b) : Does Try.prog 11 #[bv, Value.int .i64 (at'), Value.int .i64 (w)] ro [] (pV (Value.tuple #[Value.agg #[Value.int .i64 (r.1), U (hi (r.2.1)), U (lo (r.2.1))], Value.int .i64 (r.2.2)])) := by
  unfold shunterref03_Get_m at hM
  refine does_of_A follows Try.func11 rfl 42 rfl (upd (upd (upd (fun _ => undef) 2 (Value.int .i64 (w))) 1 (Value.int .i64 (at'))) 0 (bv)) (by funext k; match k with | 0 => rfl | 1 => rfl | 2 => rfl | k + 3 => rfl) (fun base0_ => ?_)
  refine A_seq fun K1 hK1 => ?_
  refine A_reg ?_
  refine r_a (26, #[Value.int .i64 (0), U (0#64), U (0#64)]) rfl rfl rfl (fun b2 => ?_) (.inr rfl)
  refine r_v (Value.int .i64 (0)) rfl rfl rfl rfl ?_
  refine lx_nil ?_
  refine hK1 _ _ ?_; try clear hK1 K1
  refine A_cut (fun tt ll => (shunterref03_Get_k1 N b at' w  = some r) ∧ Is [(0, bv), (1, Value.int .i64 (at')), (2, Value.int .i64 (w)), (6, Value.pointer (some ⟨b2, 0, none⟩))] [(b2, 26, #[Value.int .i64 (0), U (0#64), U (0#64)])] tt ll) ?_ ?_
  · refine A_seq fun K22 hK22 => ?_
    refine A_reg ?_
    refine r_v (Value.int .i64 (w)) rfl rfl rfl rfl ?_
    refine r_v (Value.bool (decide ((w : Int) < 1))) rfl rfl rfl rfl ?_
    refine r_v (Value.bool (decide ((w : Int) < 1))) rfl rfl rfl rfl ?_
    rcases hg23 : (decide ((w : Int) < 1)) with _ | _
    · replace hM := ifn (of_decide_eq_false hg23) hM
      refine r_y rfl ?_
      refine r_v (Value.int .i64 (w)) rfl rfl rfl rfl ?_
      refine r_y rfl ?_
      refine r_v (Value.bool (decide ((w : Int) > 128))) rfl rfl rfl rfl ?_
      refine r_v (Value.bool (decide ((w : Int) > 128))) rfl rfl rfl rfl ?_
      refine lx_nil ?_
      refine hK22 _ _ ?_; try clear hK22 K22
      refine A_cond (decide ((w : Int) > 128)) rfl (fun hc24 => ?_) (fun hc24 => ?_)
      · replace hM := ifp (of_decide_eq_true hc24) hM
        refine A_seq fun K25 hK25 => ?_
        refine A_reg ?_
        refine r_v (Value.agg #[Value.int .i64 (0), U (0#64), U (0#64)]) rfl rfl rfl (ev_buildS rfl rfl rfl rfl) ?_
        refine r_s [(b2, 26, #[Value.int .i64 (0), U (0#64), U (0#64)])] 0 _ _ _ (#[Value.int .i64 (0), U (0#64), U (0#64)]) (#[Value.int .i64 (0), U (0#64), U (0#64)]) (#[Value.int .i64 (0), U (0#64), U (0#64)]) rfl rfl rfl rfl (.of rfl rfl) rfl rfl ?_
        refine r_v (Value.int .i64 (9)) rfl rfl rfl rfl ?_
        refine lx_nil ?_
        refine hK25 _ _ ?_; try clear hK25 K25
        obtain rfl := Option.some.inj hM
        refine A_ret (fun hn => endsV (v0 := Value.tuple #[Value.agg #[Value.int .i64 (0), U (0#64), U (0#64)], Value.int .i64 (9)]) (by first | rfl | simp only [app_hl]) (res2 (res_cell hn 0 rfl rfl rfl) rfl))
      · replace hM := ifn (of_decide_eq_false hc24) hM
        refine A_skip ?_
        refine fg _ (Sub.of (List.Sublist.cons_cons _ (List.Sublist.slnil))) ?_
        exact ⟨hM, is_mk rfl (by first | rfl | simp only [app_hl])⟩
    · replace hM := ifp (of_decide_eq_true hg23) hM
      refine r_n true rfl (by decide) rfl ?_
      refine r_n true rfl (by decide) rfl ?_
      refine r_v (Value.bool (true)) rfl rfl rfl rfl ?_
      refine lx_nil ?_
      refine hK22 _ _ ?_; try clear hK22 K22
      refine A_cond true rfl (fun _ => ?_) (fun h_ => nomatch h_)
      refine A_seq fun K26 hK26 => ?_
      refine A_reg ?_
      refine r_v (Value.agg #[Value.int .i64 (0), U (0#64), U (0#64)]) rfl rfl rfl (ev_buildS rfl rfl rfl rfl) ?_
      refine r_s [(b2, 26, #[Value.int .i64 (0), U (0#64), U (0#64)])] 0 _ _ _ (#[Value.int .i64 (0), U (0#64), U (0#64)]) (#[Value.int .i64 (0), U (0#64), U (0#64)]) (#[Value.int .i64 (0), U (0#64), U (0#64)]) rfl rfl rfl rfl (.of rfl rfl) rfl rfl ?_
      refine r_v (Value.int .i64 (9)) rfl rfl rfl rfl ?_
      refine lx_nil ?_
      refine hK26 _ _ ?_; try clear hK26 K26
      obtain rfl := Option.some.inj hM
      refine A_ret (fun hn => endsV (v0 := Value.tuple #[Value.agg #[Value.int .i64 (0), U (0#64), U (0#64)], Value.int .i64 (9)]) (by first | rfl | simp only [app_hl]) (res2 (res_cell hn 0 rfl rfl rfl) rfl))
  · clear hM; rintro t l ⟨hM, ⟨T, rfl⟩, rfl⟩
    unfold shunterref03_Get_k1 at hM
    refine A_seq fun K3 hK3 => ?_
    refine A_regC [(some 17, false)] (conG Try.prog [(17, fun v_ L_ U_ => ∀ u0_, shunterref03_Bits_m N b = some u0_ → (p1 (fun s_ => s_) 4 encB (u0_)) v_ L_ U_)]) ?_
    refine r_v (bv) rfl rfl rfl rfl ?_
    replace hM := bind_sm hM; obtain ⟨r4, hr5, hM⟩ := hM
    refine r_g1 (Ls := [[(b2, 26, #[Value.int .i64 (0), U (0#64), U (0#64)])]]) (fun s6 => s6) 4 encB (r4) 15 _ rfl rfl rfl (ev_callF rfl call_15 rfl) (fun own_ nw_ hs_ => shunterref03_Bits_g N b _ hr5 hs_.view bv ((rd_ro hb) own_ nw_ hs_)) (fun _ _ v_ L_ U_ => ⟨fun h_ => h_ _ hr5, fun h_ => by intro _ e_; cases Option.some.inj (e_.symm.trans hr5); exact h_⟩) (fun s6 S7 H8 => ?_)
    refine r_v (s6) rfl rfl rfl rfl ?_
    refine lx_nil ?_
    refine hK3 _ _ ?_; try clear hK3 K3
    refine A_cut (fun tt ll => (shunterref03_Get_k2 N at' w r4  = some r) ∧ Is [(1, Value.int .i64 (at')), (2, Value.int .i64 (w)), (6, Value.pointer (some ⟨b2, 0, none⟩)), (8, s6)] (List.flatten [[(b2, 26, #[Value.int .i64 (0), U (0#64), U (0#64)])], S7]) tt ll) ?_ ?_
    · refine A_seq fun K14 hK14 => ?_
      refine A_reg ?_
      refine r_v (Value.int .i64 (at')) rfl rfl rfl rfl ?_
      refine r_v (Value.bool (decide ((at' : Int) < 0))) rfl rfl rfl rfl ?_
      refine r_v (Value.bool (decide ((at' : Int) < 0))) rfl rfl rfl rfl ?_
      rcases hg15 : (decide ((at' : Int) < 0)) with _ | _
      · replace hM := ifn (of_decide_eq_false hg15) hM
        refine r_y rfl ?_
        refine r_v (Value.int .i64 (at')) rfl rfl rfl rfl ?_
        refine r_y rfl ?_
        refine r_v (s6) rfl rfl rfl rfl ?_
        refine r_y rfl ?_
        refine r_v (Value.int .i64 (((r4).length : Int))) rfl rfl rfl (ev_lenSl rfl rfl rfl (Sl.shp H8)) ?_
        refine r_y rfl ?_
        refine r_v (Value.bool (decide ((at' : Int) > ((r4).length : Int)))) rfl rfl rfl rfl ?_
        refine r_v (Value.bool (decide ((at' : Int) > ((r4).length : Int)))) rfl rfl rfl rfl ?_
        refine r_v (Value.bool (decide ((at' : Int) > ((r4).length : Int)))) rfl rfl rfl rfl ?_
        rcases hg16 : (decide ((at' : Int) > ((r4).length : Int))) with _ | _
        · replace hM := ifn (of_decide_eq_false hg16) hM
          refine r_y rfl ?_
          refine r_v (Value.int .i64 (w)) rfl rfl rfl rfl ?_
          refine r_y rfl ?_
          refine r_v (s6) rfl rfl rfl rfl ?_
          refine r_y rfl ?_
          refine r_v (Value.int .i64 (((r4).length : Int))) rfl rfl rfl (ev_lenSl rfl rfl rfl (Sl.shp H8)) ?_
          refine r_y rfl ?_
          refine r_v (Value.int .i64 (at')) rfl rfl rfl rfl ?_
          refine r_y rfl ?_
          replace hM := ck_some hM; obtain ⟨ck17, hM⟩ := hM
          refine r_v (Value.int .i64 ((((r4).length : Int) - at'))) rfl rfl (wi64 rfl ck17.1 ck17.2) rfl ?_
          refine r_y rfl ?_
          refine r_v (Value.bool (decide ((w : Int) > (((r4).length : Int) - at')))) rfl rfl rfl rfl ?_
          refine r_v (Value.bool (decide ((w : Int) > (((r4).length : Int) - at')))) rfl rfl rfl rfl ?_
          refine lx_nil ?_
          refine hK14 _ _ ?_; try clear hK14 K14
          refine A_cond (decide ((w : Int) > (((r4).length : Int) - at'))) rfl (fun hc18 => ?_) (fun hc18 => ?_)
          · replace hM := ifp (of_decide_eq_true hc18) hM
            refine A_seq fun K19 hK19 => ?_
            refine A_reg ?_
            refine r_v (Value.agg #[Value.int .i64 (0), U (0#64), U (0#64)]) rfl rfl rfl (ev_buildS rfl rfl rfl rfl) ?_
            refine r_s (List.flatten [[(b2, 26, #[Value.int .i64 (0), U (0#64), U (0#64)])], S7]) 0 _ _ _ (#[Value.int .i64 (0), U (0#64), U (0#64)]) (#[Value.int .i64 (0), U (0#64), U (0#64)]) (#[Value.int .i64 (0), U (0#64), U (0#64)]) rfl rfl rfl rfl (.of rfl rfl) rfl rfl ?_
            refine r_v (Value.int .i64 (7)) rfl rfl rfl rfl ?_
            refine lx_nil ?_
            refine hK19 _ _ ?_; try clear hK19 K19
            obtain rfl := Option.some.inj hM
            refine A_ret (fun hn => endsV (v0 := Value.tuple #[Value.agg #[Value.int .i64 (0), U (0#64), U (0#64)], Value.int .i64 (7)]) (by first | rfl | simp only [app_hl]) (res2 (res_cell hn 0 rfl rfl rfl) rfl))
          · replace hM := ifn (of_decide_eq_false hc18) hM
            refine A_skip ?_
            refine fg _ (Sub.pick [[(b2, 26, #[Value.int .i64 (0), U (0#64), U (0#64)])], S7] [0, 1] rfl) ?_
            exact ⟨hM, is_mk rfl (by first | rfl | simp only [app_hl])⟩
        · replace hM := ifp (of_decide_eq_true hg16) hM
          refine r_n true rfl (by decide) rfl ?_
          refine r_n true rfl (by decide) rfl ?_
          refine r_n true rfl (by decide) rfl ?_
          refine r_n true rfl (by decide) rfl ?_
          refine r_n true rfl (by decide) rfl ?_
          refine r_n true rfl (by decide) rfl ?_
          refine r_v (Value.bool (true)) rfl rfl rfl rfl ?_
          refine lx_nil ?_
          refine hK14 _ _ ?_; try clear hK14 K14
          refine A_cond true rfl (fun _ => ?_) (fun h_ => nomatch h_)
          refine A_seq fun K20 hK20 => ?_
          refine A_reg ?_
          refine r_v (Value.agg #[Value.int .i64 (0), U (0#64), U (0#64)]) rfl rfl rfl (ev_buildS rfl rfl rfl rfl) ?_
          refine r_s (List.flatten [[(b2, 26, #[Value.int .i64 (0), U (0#64), U (0#64)])], S7]) 0 _ _ _ (#[Value.int .i64 (0), U (0#64), U (0#64)]) (#[Value.int .i64 (0), U (0#64), U (0#64)]) (#[Value.int .i64 (0), U (0#64), U (0#64)]) rfl rfl rfl rfl (.of rfl rfl) rfl rfl ?_
          refine r_v (Value.int .i64 (7)) rfl rfl rfl rfl ?_
          refine lx_nil ?_
          refine hK20 _ _ ?_; try clear hK20 K20
          obtain rfl := Option.some.inj hM
          refine A_ret (fun hn => endsV (v0 := Value.tuple #[Value.agg #[Value.int .i64 (0), U (0#64), U (0#64)], Value.int .i64 (7)]) (by first | rfl | simp only [app_hl]) (res2 (res_cell hn 0 rfl rfl rfl) rfl))
      · replace hM := ifp (of_decide_eq_true hg15) hM
        refine r_n true rfl (by decide) rfl ?_
        refine r_n true rfl (by decide) rfl ?_
        refine r_n true rfl (by decide) rfl ?_
        refine r_n true rfl (by decide) rfl ?_
        refine r_v (Value.bool (true)) rfl rfl rfl rfl ?_
        refine r_v (Value.bool (true)) rfl rfl rfl rfl ?_
        refine r_n true rfl (by decide) rfl ?_
        refine r_n true rfl (by decide) rfl ?_
        refine r_n true rfl (by decide) rfl ?_
        refine r_n true rfl (by decide) rfl ?_
        refine r_n true rfl (by decide) rfl ?_
        refine r_n true rfl (by decide) rfl ?_
        refine r_v (Value.bool (true)) rfl rfl rfl rfl ?_
        refine lx_nil ?_
        refine hK14 _ _ ?_; try clear hK14 K14
        refine A_cond true rfl (fun _ => ?_) (fun h_ => nomatch h_)
        refine A_seq fun K21 hK21 => ?_
        refine A_reg ?_
        refine r_v (Value.agg #[Value.int .i64 (0), U (0#64), U (0#64)]) rfl rfl rfl (ev_buildS rfl rfl rfl rfl) ?_
        refine r_s (List.flatten [[(b2, 26, #[Value.int .i64 (0), U (0#64), U (0#64)])], S7]) 0 _ _ _ (#[Value.int .i64 (0), U (0#64), U (0#64)]) (#[Value.int .i64 (0), U (0#64), U (0#64)]) (#[Value.int .i64 (0), U (0#64), U (0#64)]) rfl rfl rfl rfl (.of rfl rfl) rfl rfl ?_
        refine r_v (Value.int .i64 (7)) rfl rfl rfl rfl ?_
        refine lx_nil ?_
        refine hK21 _ _ ?_; try clear hK21 K21
        obtain rfl := Option.some.inj hM
        refine A_ret (fun hn => endsV (v0 := Value.tuple #[Value.agg #[Value.int .i64 (0), U (0#64), U (0#64)], Value.int .i64 (7)]) (by first | rfl | simp only [app_hl]) (res2 (res_cell hn 0 rfl rfl rfl) rfl))
    · clear hM; rintro t l ⟨hM, ⟨T, rfl⟩, rfl⟩
      unfold shunterref03_Get_k2 at hM
      refine A_seq fun K9 hK9 => ?_
      refine A_regC [(some 41, false)] (conG Try.prog [(41, fun v_ L_ U_ => ∀ u0_, shunterref03_Vec_m N (((r4).take (((at' + w)).toNat)).drop ((at').toNat)) = some u0_ → (pV (Value.agg #[Value.int .i64 (u0_.1), U (hi (u0_.2)), U (lo (u0_.2))])) v_ L_ U_)]) ?_
      refine r_v (s6) rfl rfl rfl rfl ?_
      refine r_v (Value.int .i64 (at')) rfl rfl rfl rfl ?_
      refine r_v (Value.int .i64 (at')) rfl rfl rfl rfl ?_
      refine r_v (Value.int .i64 (w)) rfl rfl rfl rfl ?_
      replace hM := ck_some hM; obtain ⟨ck10, hM⟩ := hM
      refine r_v (Value.int .i64 ((at' + w))) rfl rfl (wi64 rfl ck10.1 ck10.2) rfl ?_
      replace hM := ck_some hM; obtain ⟨ck11, hM⟩ := hM
      refine r_v (subA s6 ((at').toNat) (((at' + w)).toNat) 1) rfl rfl rfl (ev_v (ev_subSl rfl rfl rfl rfl rfl (Sl.shp H8) ck11)) ?_
      replace hM := bind_sm hM; obtain ⟨r12, hr13, hM⟩ := hM
      refine r_gv (Value.agg #[Value.int .i64 (r12.1), U (hi (r12.2)), U (lo (r12.2))]) 25 _ rfl rfl rfl (ev_callF rfl call_25 rfl) (fun own_ nw_ hs_ => shunterref03_Vec_g N (((r4).take (((at' + w)).toNat)).drop ((at').toNat)) _ hr13 hs_.view (subA s6 ((at').toNat) (((at' + w)).toNat) 1) ((rd_sub (rd_own H8 (mem_chunk (Ls := [[(b2, 26, #[Value.int .i64 (0), U (0#64), U (0#64)])], S7]) (k := 1) rfl rfl)) (toNat_le ck11) (toNat_len ck11.2.2)) own_ nw_ hs_)) (fun _ _ v_ L_ U_ => ⟨fun h_ => h_ _ hr13, fun h_ => by intro _ e_; cases Option.some.inj (e_.symm.trans hr13); exact h_⟩) ?_
      refine r_s (List.flatten [[(b2, 26, #[Value.int .i64 (r12.1), U (hi (r12.2)), U (lo (r12.2))])], S7]) 0 _ _ _ (#[Value.int .i64 (0), U (0#64), U (0#64)]) (#[Value.int .i64 (r12.1), U (hi (r12.2)), U (lo (r12.2))]) (#[Value.int .i64 (r12.1), U (hi (r12.2)), U (lo (r12.2))]) rfl rfl rfl rfl (.of rfl rfl) rfl rfl ?_
      refine r_v (Value.int .i64 (0)) rfl rfl rfl rfl ?_
      refine lx_nil ?_
      refine hK9 _ _ ?_; try clear hK9 K9
      obtain rfl := Option.some.inj hM
      refine A_ret (fun hn => endsV (v0 := Value.tuple #[Value.agg #[Value.int .i64 (r12.1), U (hi (r12.2)), U (lo (r12.2))], Value.int .i64 (0)]) rfl (res2 (res_cell hn 0 rfl rfl rfl) rfl))
def vec_Word_m (_ : Nat) (_ : Int) (v_1 : BitVec 128) : Option (BitVec 128) := some (v_1)
set_option maxRecDepth 100000 in
set_option maxHeartbeats 400000 in
theorem vec_Word_g (N : Nat) (v_0 : Int) (v_1 : BitVec 128) (r : BitVec 128) (hM : vec_Word_m N v_0 v_1 = some r) : Gives Try.prog 51 #[Value.agg #[Value.int .i64 (v_0), U (hi (v_1)), U (lo (v_1))]] (Value.agg #[U (hi (r)), U (lo (r))]) := by
  unfold vec_Word_m at hM
  refine gives_of_A follows Try.func51 rfl 8 rfl (upd (fun _ => undef) 0 (Value.agg #[Value.int .i64 (v_0), U (hi (v_1)), U (lo (v_1))])) (by funext k; match k with | 0 => rfl | k + 1 => rfl) (fun base0_ => ?_)
  refine A_seq fun K1 hK1 => ?_
  refine A_reg ?_
  refine r_a (26, #[Value.int .i64 (v_0), U (hi (v_1)), U (lo (v_1))]) rfl rfl rfl (fun b2 => ?_) (.inr rfl)
  refine r_a (62, #[U (0#64), U (0#64)]) rfl rfl rfl (fun b3 => ?_) (.inr rfl)
  refine lx_nil ?_
  refine hK1 _ _ ?_; try clear hK1 K1
  refine A_seq fun K4 hK4 => ?_
  refine A_reg ?_
  refine r_v (Value.pointer (some ⟨b2, 1, none⟩)) rfl rfl rfl rfl ?_
  refine r_l (U (hi (v_1))) 1 _ _ _ _ rfl rfl rfl rfl rfl ?_
  refine r_v (Value.pointer (some ⟨b2, 2, none⟩)) rfl rfl rfl rfl ?_
  refine r_l (U (lo (v_1))) 1 _ _ _ _ rfl rfl rfl rfl rfl ?_
  refine r_v (Value.agg #[U (hi (v_1)), U (lo (v_1))]) rfl rfl rfl (ev_buildS rfl rfl rfl rfl) ?_
  refine r_s [(b3, 62, #[U (hi (v_1)), U (lo (v_1))]), (b2, 26, #[Value.int .i64 (v_0), U (hi (v_1)), U (lo (v_1))])] 0 _ _ _ (#[U (0#64), U (0#64)]) (#[U (hi (v_1)), U (lo (v_1))]) (#[U (hi (v_1)), U (lo (v_1))]) rfl rfl rfl rfl (.of rfl rfl) rfl rfl ?_
  refine lx_nil ?_
  refine hK4 _ _ ?_; try clear hK4 K4
  obtain rfl := Option.some.inj hM
  refine A_ret (fun hn => ends_eq (v0 := Value.agg #[U (hi (v_1)), U (lo (v_1))]) rfl (res1 (res_cell hn 0 rfl rfl rfl)))
def vec_May_m (N : Nat) (v_0 : Int) (v_1 : BitVec 128) : Option (Bool) := (vec_mayWidth_m N v_0).bind fun r4 => if (r4) = true then (vec_Word_m N v_0 v_1).bind fun r7 => some (decide ((((len128 (r7) : Nat) : Int) : Int) ≤ v_0)) else some (false)
set_option maxRecDepth 100000 in
set_option maxHeartbeats 400000 in
theorem vec_May_g (N : Nat) (v_0 : Int) (v_1 : BitVec 128) (r : Bool) (hM : vec_May_m N v_0 v_1 = some r) : Gives Try.prog 37 #[Value.agg #[Value.int .i64 (v_0), U (hi (v_1)), U (lo (v_1))]] (Value.bool (r)) := by
  unfold vec_May_m at hM
  refine gives_of_A follows Try.func37 rfl 14 rfl (upd (fun _ => undef) 0 (Value.agg #[Value.int .i64 (v_0), U (hi (v_1)), U (lo (v_1))])) (by funext k; match k with | 0 => rfl | k + 1 => rfl) (fun base0_ => ?_)
  refine A_seq fun K1 hK1 => ?_
  refine A_reg ?_
  refine r_a (26, #[Value.int .i64 (v_0), U (hi (v_1)), U (lo (v_1))]) rfl rfl rfl (fun b2 => ?_) (.inr rfl)
  refine r_v (Value.bool (false)) rfl rfl rfl rfl ?_
  refine lx_nil ?_
  refine hK1 _ _ ?_; try clear hK1 K1
  refine A_seq fun K3 hK3 => ?_
  refine A_draw [] (by decide +kernel) (fun hn => sep_nil) ?_
  refine r_v (Value.pointer (some ⟨b2, 0, none⟩)) rfl rfl rfl rfl ?_
  refine r_l (Value.int .i64 (v_0)) 0 _ _ _ _ rfl rfl rfl rfl rfl ?_
  replace hM := bind_sm hM; obtain ⟨r4, hr5, hM⟩ := hM
  refine r_c (Value.bool (r4)) rfl _ _ (ev_callF rfl call_48 rfl) (vec_mayWidth_g N v_0 _ hr5) ?_
  refine r_v (Value.bool (r4)) rfl rfl rfl rfl ?_
  rcases hg6 : (r4) with _ | _
  · replace hM := ifn (Bool.eq_false_iff.1 hg6) hM
    refine r_n false rfl (by decide) rfl ?_
    refine r_n false rfl (by decide) rfl ?_
    refine r_n false rfl (by decide) rfl ?_
    refine r_n false rfl (by decide) rfl ?_
    refine r_n false rfl (by decide) rfl ?_
    refine r_n false rfl (by decide) rfl ?_
    refine r_v (Value.bool (false)) rfl rfl rfl rfl ?_
    refine r_v (Value.bool (false)) rfl rfl rfl rfl ?_
    refine lx_nil ?_
    refine hK3 _ _ ?_; try clear hK3 K3
    obtain rfl := Option.some.inj hM
    refine A_ret (fun hn => ends_eq (v0 := Value.bool (false)) rfl (res1 rfl))
  · replace hM := ifp hg6 hM
    refine r_y rfl ?_
    refine r_l (Value.agg #[Value.int .i64 (v_0), U (hi (v_1)), U (lo (v_1))]) 0 _ _ _ _ rfl rfl rfl rfl rfl ?_
    refine r_y rfl ?_
    replace hM := bind_sm hM; obtain ⟨r7, hr8, hM⟩ := hM
    refine r_c (Value.agg #[U (hi (r7)), U (lo (r7))]) rfl _ _ (ev_callF rfl call_51 rfl) (vec_Word_g N v_0 v_1 _ hr8) ?_
    refine r_y rfl ?_
    refine r_c (Value.int .i64 (((len128 (r7) : Nat) : Int))) rfl _ _ (ev_callF rfl call_50 rfl) (len_g (r7)) ?_
    refine r_y rfl ?_
    refine r_v (Value.pointer (some ⟨b2, 0, none⟩)) rfl rfl rfl rfl ?_
    refine r_y rfl ?_
    refine r_l (Value.int .i64 (v_0)) 0 _ _ _ _ rfl rfl rfl rfl rfl ?_
    refine r_y rfl ?_
    refine r_v (Value.bool (decide ((((len128 (r7) : Nat) : Int) : Int) ≤ v_0))) rfl rfl rfl rfl ?_
    refine r_v (Value.bool (decide ((((len128 (r7) : Nat) : Int) : Int) ≤ v_0))) rfl rfl rfl rfl ?_
    refine r_v (Value.bool (decide ((((len128 (r7) : Nat) : Int) : Int) ≤ v_0))) rfl rfl rfl rfl ?_
    refine lx_nil ?_
    refine hK3 _ _ ?_; try clear hK3 K3
    obtain rfl := Option.some.inj hM
    refine A_ret (fun hn => ends_eq (v0 := Value.bool (decide ((((len128 (r7) : Nat) : Int) : Int) ≤ v_0))) rfl (res1 rfl))
def bits_fresh_m (_ : Nat) (b : List UInt8) : Option (List UInt8) := ck ((([] : List UInt8)).length + (b).length ≤ 140737488355328) (some ((([] : List UInt8) ++ b)))
set_option maxRecDepth 100000 in
set_option maxHeartbeats 400000 in
theorem bits_fresh_g (N : Nat) (b : List UInt8) (r : List UInt8) (hM : bits_fresh_m N b = some r) (ro : Addr → Option Value) (bv : Value) (hb : Rd encY ro bv b) : Does Try.prog 38 #[bv] ro [] (p1 (fun s_ => s_) 5 encY r) := by
  unfold bits_fresh_m at hM
  refine does_of_A follows Try.func38 rfl 7 rfl (upd (fun _ => undef) 0 (bv)) (by funext k; match k with | 0 => rfl | k + 1 => rfl) (fun base0_ => ?_)
  refine A_seq fun K1 hK1 => ?_
  refine A_reg ?_
  refine r_v (Value.slice none 0 0) rfl rfl rfl rfl ?_
  refine lx_nil ?_
  refine hK1 _ _ ?_; try clear hK1 K1
  refine A_seq fun K2 hK2 => ?_
  refine A_regC [(some 6, true)] (conG Try.prog []) ?_
  refine r_v (bv) rfl rfl rfl rfl ?_
  refine r_v (cut0 bv) rfl rfl rfl (ev_v (ev_cut0 rfl rfl rfl rfl (Rd.shp hb))) ?_
  refine r_v (bv) rfl rfl rfl rfl ?_
  replace hM := ck_some hM; obtain ⟨ck3, hM⟩ := hM
  refine lx_nilp [] ?_
  refine r_app (cs0 := []) (Ls := [[]]) 0 (En := encY) rfl rfl rfl rfl rfl (cut0_sl (Rd.shp hb)) rfl (rd_ro hb) rfl rfl rfl rfl rfl (app_b ck3 rfl) (app_m ck3 rfl) rfl (fun s4 S5 H6 => ?_)
  refine r_v (s4) rfl rfl rfl rfl ?_
  refine lx_nil ?_
  refine hK2 _ _ ?_; try clear hK2 K2
  obtain rfl := Option.some.inj hM
  refine A_ret (fun hn => ends1 (v0 := s4) H6 (sub_one (Sub.pick [S5] [0] rfl)) rfl (res1 rfl))
def bits_lay_1_v1_m (N : Nat) (p_0 : Int) (p_1 : Int) (p_2 : Int) (p_3 : Int) (c1__0 : Int) (c1__1 : BitVec 128) (c2_ : List UInt8) : Option (List UInt8) := (vec_Word_m N c1__0 c1__1).bind fun r4 => ck (-9223372036854775808 ≤ (p_3 : Int) ∧ (p_3 : Int) ≤ 9223372036854775807) (ck ((0 : Int) ≤ p_2) (ck (0 ≤ p_0 ∧ p_0 < ((c2_).length : Int)) ((bits_part_mask_m N p_0 p_1 p_2 p_3).bind fun r9 => (bits_part_mask_m N p_0 p_1 p_2 p_3).bind fun r11 => ck (0 ≤ p_0 ∧ p_0 < ((c2_).length : Int)) (some ((c2_).set ((p_0).toNat) (((((c2_)[(p_0).toNat]!) &&& ~~~r9) ||| ((sl8 (byteU (lo (shiftI (r4) (-(p_3))))) (p_2).toNat) &&& r11))))))))
set_option maxRecDepth 100000 in
set_option maxHeartbeats 400000 in
theorem bits_lay_1_v1_g (N : Nat) (p_0 : Int) (p_1 : Int) (p_2 : Int) (p_3 : Int) (c1__0 : Int) (c1__1 : BitVec 128) (c2_ : List UInt8) (r : List UInt8) (hM : bits_lay_1_v1_m N p_0 p_1 p_2 p_3 c1__0 c1__1 c2_ = some r) (ro : Addr → Option Value) (bc1_ : Nat) (hbc1_ : Blk ro bc1_ [Value.int .i64 (c1__0), U (hi (c1__1)), U (lo (c1__1))]) (bc2_ : Nat) (c2_v : Value) (Sc2_ : List Bl) (hc2_ : Sl 5 encY c2_v c2_ Sc2_) : Does Try.prog 52 #[Value.agg #[Value.int .i64 (p_0), Value.int .i64 (p_1), Value.int .i64 (p_2), Value.int .i64 (p_3)], Value.pointer (some ⟨bc1_, 0, none⟩), Value.pointer (some ⟨bc2_, 0, none⟩)] ro (List.flatten [[(bc2_, 22, #[c2_v])], Sc2_]) (pO (List.flatten [[(bc2_, 22, #[c2_v])], Sc2_]) (oI 5 encY c2_v r (oE (Value.tuple #[]) [[(bc2_, 22, #[c2_v])]]))) := by
  unfold bits_lay_1_v1_m at hM
  refine doesO_of_A follows Try.func52 rfl 32 rfl (upd (upd (upd (fun _ => undef) 2 (Value.pointer (some ⟨bc2_, 0, none⟩))) 1 (Value.pointer (some ⟨bc1_, 0, none⟩))) 0 (Value.agg #[Value.int .i64 (p_0), Value.int .i64 (p_1), Value.int .i64 (p_2), Value.int .i64 (p_3)])) (by funext k; match k with | 0 => rfl | 1 => rfl | 2 => rfl | k + 3 => rfl) (fun _ _ h_ _ => h_) (fun base0_ => ?_)
  refine A_seq fun K1 hK1 => ?_
  refine A_reg ?_
  refine r_a (65, #[Value.int .i64 (p_0), Value.int .i64 (p_1), Value.int .i64 (p_2), Value.int .i64 (p_3)]) rfl rfl rfl (fun b2 => ?_) (.inr rfl)
  refine lx_nil ?_
  refine hK1 _ _ ?_; try clear hK1 K1
  refine A_seq fun K3 hK3 => ?_
  refine A_draw [] (by decide +kernel) (fun hn => sep_nil) ?_
  refine r_lb (Value.agg #[Value.int .i64 (c1__0), U (hi (c1__1)), U (lo (c1__1))]) (vs := [Value.int .i64 (c1__0), U (hi (c1__1)), U (lo (c1__1))]) (o := 0) rfl rfl (blk_ro hbc1_) rfl ?_
  replace hM := bind_sm hM; obtain ⟨r4, hr5, hM⟩ := hM
  refine r_c (Value.agg #[U (hi (r4)), U (lo (r4))]) rfl _ _ (ev_callF rfl call_51 rfl) (vec_Word_g N c1__0 c1__1 _ hr5) ?_
  refine r_v (Value.pointer (some ⟨b2, 3, none⟩)) rfl rfl rfl rfl ?_
  refine r_l (Value.int .i64 (p_3)) 0 _ _ _ _ rfl rfl rfl rfl rfl ?_
  replace hM := ck_some hM; obtain ⟨ck6, hM⟩ := hM
  refine r_c (Value.agg #[U (hi (shiftI (r4) (-(p_3)))), U (lo (shiftI (r4) (-(p_3))))]) rfl _ _ (ev_callF rfl call_53 rfl) (shr_g (r4) (p_3) ck6.1 ck6.2) ?_
  refine r_v (U (lo (shiftI (r4) (-(p_3))))) rfl rfl rfl rfl ?_
  refine r_w (Value.int .u8 ((((byteU (lo (shiftI (r4) (-(p_3))))).toNat : Nat) : Int))) rfl rfl (u64_u8 (lo (shiftI (r4) (-(p_3))))) (fun _ => rfl) ?_
  refine r_v (Value.pointer (some ⟨b2, 2, none⟩)) rfl rfl rfl rfl ?_
  refine r_l (Value.int .i64 (p_2)) 0 _ _ _ _ rfl rfl rfl rfl rfl ?_
  replace hM := ck_some hM; obtain ⟨ck7, hM⟩ := hM
  refine r_v (Value.int .u8 ((((sl8 (byteU (lo (shiftI (r4) (-(p_3))))) (p_2).toNat).toNat : Nat) : Int))) rfl rfl rfl (ev_shl8 (x := (byteU (lo (shiftI (r4) (-(p_3)))))) rfl rfl ck7) ?_
  refine r_v (Value.int .u8 ((((sl8 (byteU (lo (shiftI (r4) (-(p_3))))) (p_2).toNat).toNat : Nat) : Int))) rfl rfl rfl rfl ?_
  refine lx_nil ?_
  refine hK3 _ _ ?_; try clear hK3 K3
  refine A_draw [] (by decide +kernel) (fun hn => sep_nil) ?_
  refine r_l (c2_v) 1 _ _ _ _ rfl rfl rfl rfl rfl ?_
  refine r_v (Value.pointer (some ⟨b2, 0, none⟩)) rfl rfl rfl rfl ?_
  refine r_l (Value.int .i64 (p_0)) 0 _ _ _ _ rfl rfl rfl rfl rfl ?_
  refine r_l (c2_v) 1 _ _ _ _ rfl rfl rfl rfl rfl ?_
  refine r_v (Value.pointer (some ⟨b2, 0, none⟩)) rfl rfl rfl rfl ?_
  refine r_l (Value.int .i64 (p_0)) 0 _ _ _ _ rfl rfl rfl rfl rfl ?_
  replace hM := ck_some hM; obtain ⟨ck8, hM⟩ := hM
  refine r_v (elA c2_v ((p_0).toNat * 1)) rfl rfl rfl (ev_v (ev_idxSl rfl rfl rfl (Sl.shp hc2_) ck8)) ?_
  refine r_le (Value.int .u8 (((((c2_)[(p_0).toNat]!).toNat : Nat) : Int))) (En := encY) ((c2_)[(p_0).toNat]!) ((p_0).toNat) 0 rfl rfl (rd_own hc2_ (mem_chunk (Ls := [[(b2, 65, #[Value.int .i64 (p_0), Value.int .i64 (p_1), Value.int .i64 (p_2), Value.int .i64 (p_3)])], [(bc2_, 22, #[c2_v])], Sc2_]) (k := 2) rfl rfl)) (get_of ck8) rfl ?_
  refine r_l (Value.agg #[Value.int .i64 (p_0), Value.int .i64 (p_1), Value.int .i64 (p_2), Value.int .i64 (p_3)]) 0 _ _ _ _ rfl rfl rfl rfl rfl ?_
  replace hM := bind_sm hM; obtain ⟨r9, hr10, hM⟩ := hM
  refine r_c (Value.int .u8 (((r9.toNat : Nat) : Int))) rfl _ _ (ev_callF rfl call_33 rfl) (bits_part_mask_g N p_0 p_1 p_2 p_3 _ hr10) ?_
  refine r_v (Value.int .u8 ((((((c2_)[(p_0).toNat]!) &&& ~~~r9).toNat : Nat) : Int))) rfl rfl (Y_andNot ((c2_)[(p_0).toNat]!) r9) rfl ?_
  refine r_v (Value.int .u8 ((((sl8 (byteU (lo (shiftI (r4) (-(p_3))))) (p_2).toNat).toNat : Nat) : Int))) rfl rfl rfl rfl ?_
  refine r_l (Value.agg #[Value.int .i64 (p_0), Value.int .i64 (p_1), Value.int .i64 (p_2), Value.int .i64 (p_3)]) 0 _ _ _ _ rfl rfl rfl rfl rfl ?_
  replace hM := bind_sm hM; obtain ⟨r11, hr12, hM⟩ := hM
  refine r_c (Value.int .u8 (((r11.toNat : Nat) : Int))) rfl _ _ (ev_callF rfl call_33 rfl) (bits_part_mask_g N p_0 p_1 p_2 p_3 _ hr12) ?_
  refine r_v (Value.int .u8 (((((sl8 (byteU (lo (shiftI (r4) (-(p_3))))) (p_2).toNat) &&& r11).toNat : Nat) : Int))) rfl rfl (Y_and (sl8 (byteU (lo (shiftI (r4) (-(p_3))))) (p_2).toNat) r11) rfl ?_
  refine r_v (Value.int .u8 (((((((c2_)[(p_0).toNat]!) &&& ~~~r9) ||| ((sl8 (byteU (lo (shiftI (r4) (-(p_3))))) (p_2).toNat) &&& r11)).toNat : Nat) : Int))) rfl rfl (Y_or (((c2_)[(p_0).toNat]!) &&& ~~~r9) ((sl8 (byteU (lo (shiftI (r4) (-(p_3))))) (p_2).toNat) &&& r11)) rfl ?_
  replace hM := ck_some hM; obtain ⟨ck13, hM⟩ := hM
  refine r_v (elA c2_v ((p_0).toNat * 1)) rfl rfl rfl (ev_v (ev_idxSl rfl rfl rfl (Sl.shp hc2_) ck13)) ?_
  refine r_se (Ls := [[(b2, 65, #[Value.int .i64 (p_0), Value.int .i64 (p_1), Value.int .i64 (p_2), Value.int .i64 (p_3)])], [(bc2_, 22, #[c2_v])], Sc2_]) 2 (En := encY) ((c2_)[(p_0).toNat]!) (((((c2_)[(p_0).toNat]!) &&& ~~~r9) ||| ((sl8 (byteU (lo (shiftI (r4) (-(p_3))))) (p_2).toNat) &&& r11))) ((p_0).toNat) 0 rfl rfl rfl hc2_ (get_of ck13) rfl rfl rfl (one_all rfl) rfl (fun S14 H15 => ?_)
  refine lx_nil ?_
  obtain rfl := Option.some.inj hM
  refine endsN (v0 := Value.tuple #[]) (O := [S14, [(bc2_, 22, #[c2_v])]]) rfl (Sub.pick [[(b2, 65, #[Value.int .i64 (p_0), Value.int .i64 (p_1), Value.int .i64 (p_2), Value.int .i64 (p_3)])], [(bc2_, 22, #[c2_v])], S14] [2, 1] rfl) ⟨S14, _, H15, ⟨rfl, rfl⟩, rfl⟩
def bits_eachPart_v2_l4 (N : Nat) (do0__0 : Int) (do0__1 : BitVec 128) : Nat → Int → Int → List UInt8 → Option (List UInt8)
  | 0, _, _, _ => none
  | n1 + 1, at1_, w2_, dov3_ => if (w2_ : Int) > 0 then ck (0 ≤ at1_ ∧ at1_ ≤ 9223372036854775807) (ck ((-9223372036854775808 ≤ (8 - (at1_) % 8) ∧ (8 - (at1_) % 8) ≤ 9223372036854775807)) (ck ((-9223372036854775808 ≤ (w2_ - min ((8 - (at1_) % 8)) (w2_)) ∧ (w2_ - min ((8 - (at1_) % 8)) (w2_)) ≤ 9223372036854775807)) (ck (0 ≤ at1_ ∧ at1_ ≤ 9223372036854775807) (ck ((-9223372036854775808 ≤ ((8 - (at1_) % 8) - min ((8 - (at1_) % 8)) (w2_)) ∧ ((8 - (at1_) % 8) - min ((8 - (at1_) % 8)) (w2_)) ≤ 9223372036854775807)) ((bits_lay_1_v1_m N ((at1_) / 8) (min ((8 - (at1_) % 8)) (w2_)) ((8 - (at1_) % 8) - min ((8 - (at1_) % 8)) (w2_)) (w2_ - min ((8 - (at1_) % 8)) (w2_)) do0__0 do0__1 dov3_).bind fun r14 => ck ((r14).length = (dov3_).length) (ck ((-9223372036854775808 ≤ (at1_ + min ((8 - (at1_) % 8)) (w2_)) ∧ (at1_ + min ((8 - (at1_) % 8)) (w2_)) ≤ 9223372036854775807)) ((bits_eachPart_v2_l4 N do0__0 do0__1 n1) ((at1_ + min ((8 - (at1_) % 8)) (w2_))) ((w2_ - min ((8 - (at1_) % 8)) (w2_))) (r14)))))))) else some (dov3_)
def bits_eachPart_v2_m (N : Nat) (at' : Int) (w : Int) (do0__0 : Int) (do0__1 : BitVec 128) (do1_ : List UInt8) : Option (List UInt8) := bits_eachPart_v2_l4 N do0__0 do0__1 N (at') (w) (do1_)
set_option maxRecDepth 100000 in
set_option maxHeartbeats 400000 in
theorem bits_eachPart_v2_g (N : Nat) (at' : Int) (w : Int) (do0__0 : Int) (do0__1 : BitVec 128) (do1_ : List UInt8) (r : List UInt8) (hM : bits_eachPart_v2_m N at' w do0__0 do0__1 do1_ = some r) (ro : Addr → Option Value) (bdo0_ : Nat) (hbdo0_ : Blk ro bdo0_ [Value.int .i64 (do0__0), U (hi (do0__1)), U (lo (do0__1))]) (bdo1_ : Nat) (do1_v : Value) (Sdo1_ : List Bl) (hdo1_ : Sl 5 encY do1_v do1_ Sdo1_) : Does Try.prog 31 #[Value.int .i64 (at'), Value.int .i64 (w), Value.func (.func 52) #[] #[Value.pointer (some ⟨bdo0_, 0, none⟩), Value.pointer (some ⟨bdo1_, 0, none⟩)]] ro (List.flatten [[(bdo1_, 22, #[do1_v])], Sdo1_]) (pO (List.flatten [[(bdo1_, 22, #[do1_v])], Sdo1_]) (oI 5 encY do1_v r (oE (Value.tuple #[]) [[(bdo1_, 22, #[do1_v])]]))) := by
  unfold bits_eachPart_v2_m at hM
  refine doesO_of_A follows Try.func31 rfl 32 rfl (upd (upd (upd (fun _ => undef) 2 (Value.func (.func 52) #[] #[Value.pointer (some ⟨bdo0_, 0, none⟩), Value.pointer (some ⟨bdo1_, 0, none⟩)])) 1 (Value.int .i64 (w))) 0 (Value.int .i64 (at'))) (by funext k; match k with | 0 => rfl | 1 => rfl | 2 => rfl | k + 3 => rfl) (fun _ _ h_ _ => h_) (fun base0_ => ?_)
  refine A_block ?_
  refine A_forget _ (Sub.pick [[(bdo1_, 22, #[do1_v])], Sdo1_] [0, 1] rfl) ?_
  refine A_loop (fun tt ll nn => ∃ (n1 : Nat) (at1_ : Int) (w2_ : Int) (dov3_ : List UInt8), (bits_eachPart_v2_l4 N do0__0 do0__1 n1 at1_ w2_ dov3_ = some r) ∧ ∃ (Sdov3_ : List Bl), Sl 5 encY do1_v dov3_ Sdov3_ ∧ Is [(0, Value.int .i64 (at1_)), (1, Value.int .i64 (w2_)), (2, Value.func (.func 52) #[] #[Value.pointer (some ⟨bdo0_, 0, none⟩), Value.pointer (some ⟨bdo1_, 0, none⟩)])] (List.flatten [[(bdo1_, 22, #[do1_v])], Sdov3_]) tt ll ∧ nn = n1 + 1) (N + 1) ?_ ?_
  · exact ⟨N, at', w, do1_, hM, Sdo1_, hdo1_, is_mk rfl rfl, rfl⟩
  · clear hM; rintro t l _ ⟨n1, at1_, w2_, dov3_, hM, Sdov3_, hdov3_, ⟨⟨T, rfl⟩, rfl⟩, rfl⟩
    rcases n1 with _ | n1
    · exact absurd hM (by simp [bits_eachPart_v2_l4])
    rw [bits_eachPart_v2_l4] at hM
    refine A_seq fun K2 hK2 => ?_
    refine A_seq fun K3 hK3 => ?_
    refine A_reg ?_
    refine r_v (Value.int .i64 (w2_)) rfl rfl rfl rfl ?_
    refine r_v (Value.bool (decide ((w2_ : Int) > 0))) rfl rfl rfl rfl ?_
    refine lx_nil ?_
    refine hK3 _ _ ?_; try clear hK3 K3
    refine A_cond (decide ((w2_ : Int) > 0)) rfl (fun hc4 => ?_) (fun hc4 => ?_)
    · replace hM := ifp (of_decide_eq_true hc4) hM
      refine A_skip ?_
      refine hK2 _ _ ?_; try clear hK2 K2
      refine A_block ?_
      refine A_seq fun K5 hK5 => ?_
      refine A_reg ?_
      refine r_v (Value.int .i64 (at1_)) rfl rfl rfl rfl ?_
      replace hM := ck_some hM; obtain ⟨ck6, hM⟩ := hM
      refine r_v (Value.int .i64 ((at1_) % 8)) rfl rfl (rem_i64 ck6.1) rfl ?_
      replace hM := ck_some hM; obtain ⟨ck7, hM⟩ := hM
      refine r_v (Value.int .i64 ((8 - (at1_) % 8))) rfl rfl (wi64 rfl ck7.1 ck7.2) rfl ?_
      refine r_v (Value.int .i64 ((8 - (at1_) % 8))) rfl rfl rfl rfl ?_
      refine lx_nil ?_
      refine hK5 _ _ ?_; try clear hK5 K5
      refine A_seq fun K8 hK8 => ?_
      refine A_reg ?_
      refine r_v (Value.int .i64 ((8 - (at1_) % 8))) rfl rfl rfl rfl ?_
      refine r_v (Value.int .i64 (w2_)) rfl rfl rfl rfl ?_
      refine r_v (Value.int .i64 (min ((8 - (at1_) % 8)) (w2_))) rfl rfl rfl (ev_min rfl rfl) ?_
      refine r_v (Value.int .i64 (min ((8 - (at1_) % 8)) (w2_))) rfl rfl rfl rfl ?_
      refine lx_nil ?_
      refine hK8 _ _ ?_; try clear hK8 K8
      refine A_seq fun K9 hK9 => ?_
      refine A_reg ?_
      refine r_v (Value.int .i64 (w2_)) rfl rfl rfl rfl ?_
      refine r_v (Value.int .i64 (min ((8 - (at1_) % 8)) (w2_))) rfl rfl rfl rfl ?_
      replace hM := ck_some hM; obtain ⟨ck10, hM⟩ := hM
      refine r_v (Value.int .i64 ((w2_ - min ((8 - (at1_) % 8)) (w2_)))) rfl rfl (wi64 rfl ck10.1 ck10.2) rfl ?_
      refine r_v (Value.int .i64 ((w2_ - min ((8 - (at1_) % 8)) (w2_)))) rfl rfl rfl rfl ?_
      refine lx_nil ?_
      refine hK9 _ _ ?_; try clear hK9 K9
      refine A_seq fun K11 hK11 => ?_
      refine A_regC [(some 28, true)] (conG Try.prog [(28, fun v_ L_ U_ => ∀ u0_, bits_lay_1_v1_m N ((at1_) / 8) (min ((8 - (at1_) % 8)) (w2_)) ((8 - (at1_) % 8) - min ((8 - (at1_) % 8)) (w2_)) (w2_ - min ((8 - (at1_) % 8)) (w2_)) do0__0 do0__1 dov3_ = some u0_ → (pO (List.flatten [[(bdo1_, 22, #[do1_v])], Sdov3_]) (oI 5 encY do1_v u0_ (oE (Value.tuple #[]) [[(bdo1_, 22, #[do1_v])]]))) v_ L_ U_)]) ?_
      refine r_v (Value.func (.func 52) #[] #[Value.pointer (some ⟨bdo0_, 0, none⟩), Value.pointer (some ⟨bdo1_, 0, none⟩)]) rfl rfl rfl rfl ?_
      refine r_v (Value.int .i64 (at1_)) rfl rfl rfl rfl ?_
      replace hM := ck_some hM; obtain ⟨ck12, hM⟩ := hM
      refine r_v (Value.int .i64 ((at1_) / 8)) rfl rfl (quo_i64 ck12.1 (by decide) ck12.2) rfl ?_
      refine r_v (Value.int .i64 (min ((8 - (at1_) % 8)) (w2_))) rfl rfl rfl rfl ?_
      refine r_v (Value.int .i64 ((8 - (at1_) % 8))) rfl rfl rfl rfl ?_
      refine r_v (Value.int .i64 (min ((8 - (at1_) % 8)) (w2_))) rfl rfl rfl rfl ?_
      replace hM := ck_some hM; obtain ⟨ck13, hM⟩ := hM
      refine r_v (Value.int .i64 (((8 - (at1_) % 8) - min ((8 - (at1_) % 8)) (w2_)))) rfl rfl (wi64 rfl ck13.1 ck13.2) rfl ?_
      refine r_v (Value.int .i64 ((w2_ - min ((8 - (at1_) % 8)) (w2_)))) rfl rfl rfl rfl ?_
      refine r_v (Value.agg #[Value.int .i64 ((at1_) / 8), Value.int .i64 (min ((8 - (at1_) % 8)) (w2_)), Value.int .i64 (((8 - (at1_) % 8) - min ((8 - (at1_) % 8)) (w2_))), Value.int .i64 ((w2_ - min ((8 - (at1_) % 8)) (w2_)))]) rfl rfl rfl (ev_buildS rfl rfl rfl rfl) ?_
      replace hM := bind_sm hM; obtain ⟨r14, hr15, hM⟩ := hM
      replace hM := ck_some hM; obtain ⟨ck16, hM⟩ := hM
      refine r_gm (Ls := [[(bdo1_, 22, #[do1_v])], Sdov3_]) (FL := [[(bdo1_, 22, #[do1_v])], Sdov3_]) (RL := []) [0, 1] (oI 5 encY do1_v r14 (oE (Value.tuple #[]) [[(bdo1_, 22, #[do1_v])]])) (some 28) 52 _ rfl rfl rfl rfl rfl (ev_callV (caps := [Value.pointer (some ⟨bdo0_, 0, none⟩), Value.pointer (some ⟨bdo1_, 0, none⟩)]) rfl call_52 rfl) (fun own_ nw_ hn_ hs_ => bits_lay_1_v1_g N ((at1_) / 8) (min ((8 - (at1_) % 8)) (w2_)) ((8 - (at1_) % 8) - min ((8 - (at1_) % 8)) (w2_)) (w2_ - min ((8 - (at1_) % 8)) (w2_)) do0__0 do0__1 dov3_ _ hr15 _ bdo0_ (Blk.mono hbdo0_ (ro_sans (Ls := [[(bdo1_, 22, #[do1_v])], Sdov3_]) (is := [0, 1]) rfl hs_)) bdo1_ do1_v Sdov3_ hdov3_) (fun _ _ v_ L_ U_ => ⟨fun h_ => h_ _ hr15, fun h_ => by intro _ e_; cases Option.some.inj (e_.symm.trans hr15); exact h_⟩) (NiceO.sub (R := (Sdov3_ ++ ([(bdo1_, 22, #[do1_v])] ++ []))) (niceI hdov3_ ck16 (niceE rfl)) (Sub.pick [[(bdo1_, 22, #[do1_v])], Sdov3_] [1, 0] rfl)) ?_
      rintro _ _ ⟨S17, _, H18, ⟨rfl, rfl⟩, rfl⟩
      refine lx_perm (Ls := [S17, [(bdo1_, 22, #[do1_v])]]) (Ls' := [[(bdo1_, 22, #[do1_v])], S17]) [1, 0] rfl rfl ?_
      refine lx_nil ?_
      refine hK11 _ _ ?_; try clear hK11 K11
      refine A_reg ?_
      refine r_v (Value.int .i64 (at1_)) rfl rfl rfl rfl ?_
      refine r_v (Value.int .i64 (min ((8 - (at1_) % 8)) (w2_))) rfl rfl rfl rfl ?_
      replace hM := ck_some hM; obtain ⟨ck19, hM⟩ := hM
      refine r_v (Value.int .i64 ((at1_ + min ((8 - (at1_) % 8)) (w2_)))) rfl rfl (wi64 rfl ck19.1 ck19.2) rfl ?_
      refine r_v (Value.int .i64 ((at1_ + min ((8 - (at1_) % 8)) (w2_)))) rfl rfl rfl rfl ?_
      refine lx_nil ?_
      refine fg _ (Sub.pick [[(bdo1_, 22, #[do1_v])], S17] [0, 1] rfl) ?_
      exact ⟨n1 + 1, by omega, n1, (at1_ + min ((8 - (at1_) % 8)) (w2_)), (w2_ - min ((8 - (at1_) % 8)) (w2_)), r14, hM, S17, H18, is_mk rfl rfl, rfl⟩
    · replace hM := ifn (of_decide_eq_false hc4) hM
      refine A_exit ?_
      obtain rfl := Option.some.inj hM
      refine endsN (v0 := Value.tuple #[]) (O := [Sdov3_, [(bdo1_, 22, #[do1_v])]]) rfl (Sub.pick [[(bdo1_, 22, #[do1_v])], Sdov3_] [1, 0] rfl) ⟨Sdov3_, _, hdov3_, ⟨rfl, rfl⟩, rfl⟩
def bits_lay_v1_m (N : Nat) (b : List UInt8) (at' : Int) (v_0 : Int) (v_1 : BitVec 128) : Option (List UInt8) := (bits_eachPart_v2_m N at' v_0 v_0 v_1 b).bind fun r4 => ck ((r4).length = (b).length) (some (r4))
set_option maxRecDepth 100000 in
set_option maxHeartbeats 400000 in
theorem bits_lay_v1_g (N : Nat) (b : List UInt8) (at' : Int) (v_0 : Int) (v_1 : BitVec 128) (r : List UInt8) (hM : bits_lay_v1_m N b at' v_0 v_1 = some r) (ro : Addr → Option Value) (bv : Value) (Sb : List Bl) (hb : Sl 5 encY bv b Sb) : Does Try.prog 39 #[bv, Value.int .i64 (at'), Value.agg #[Value.int .i64 (v_0), U (hi (v_1)), U (lo (v_1))]] ro (List.flatten [Sb]) (pO (List.flatten [Sb]) (oI 5 encY bv r (oE (Value.tuple #[]) []))) := by
  unfold bits_lay_v1_m at hM
  refine doesO_of_A follows Try.func39 rfl 11 rfl (upd (upd (upd (fun _ => undef) 2 (Value.agg #[Value.int .i64 (v_0), U (hi (v_1)), U (lo (v_1))])) 1 (Value.int .i64 (at'))) 0 (bv)) (by funext k; match k with | 0 => rfl | 1 => rfl | 2 => rfl | k + 3 => rfl) (fun _ _ h_ _ => h_) (fun base0_ => ?_)
  refine A_seq fun K1 hK1 => ?_
  refine A_reg ?_
  refine r_a (22, #[bv]) rfl rfl (alloc_sl rfl (Sl.shp hb)) (fun b2 => ?_) (.inr rfl)
  refine r_a (26, #[Value.int .i64 (v_0), U (hi (v_1)), U (lo (v_1))]) rfl rfl rfl (fun b3 => ?_) (.inr rfl)
  refine lx_nil ?_
  refine hK1 _ _ ?_; try clear hK1 K1
  refine A_regC [(some 10, true)] (conG Try.prog [(10, fun v_ L_ U_ => ∀ u0_, bits_eachPart_v2_m N at' v_0 v_0 v_1 b = some u0_ → (pO (List.flatten [[(b2, 22, #[bv])], Sb]) (oI 5 encY bv u0_ (oE (Value.tuple #[]) [[(b2, 22, #[bv])]]))) v_ L_ U_)]) ?_
  refine r_v (Value.int .i64 (at')) rfl rfl rfl rfl ?_
  refine r_v (Value.pointer (some ⟨b3, 0, none⟩)) rfl rfl rfl rfl ?_
  refine r_l (Value.int .i64 (v_0)) 0 _ _ _ _ rfl rfl rfl rfl rfl ?_
  refine r_v (Value.func (.func 52) #[] #[Value.pointer (some ⟨b3, 0, none⟩), Value.pointer (some ⟨b2, 0, none⟩)]) rfl rfl rfl (ev_mkF rfl) ?_
  replace hM := bind_sm hM; obtain ⟨r4, hr5, hM⟩ := hM
  replace hM := ck_some hM; obtain ⟨ck6, hM⟩ := hM
  refine r_gm (Ls := [[(b3, 26, #[Value.int .i64 (v_0), U (hi (v_1)), U (lo (v_1))])], [(b2, 22, #[bv])], Sb]) (FL := [[(b2, 22, #[bv])], Sb]) (RL := [[(b3, 26, #[Value.int .i64 (v_0), U (hi (v_1)), U (lo (v_1))])]]) [1, 2] (oI 5 encY bv r4 (oE (Value.tuple #[]) [[(b2, 22, #[bv])]])) (some 10) 31 _ rfl rfl rfl rfl rfl (ev_callF rfl call_31 rfl) (fun own_ nw_ hn_ hs_ => bits_eachPart_v2_g N at' v_0 v_0 v_1 b _ hr5 _ b3 (blk_sans (Ls := [[(b3, 26, #[Value.int .i64 (v_0), U (hi (v_1)), U (lo (v_1))])], [(b2, 22, #[bv])], Sb]) (is := [1, 2]) 0 rfl rfl hn_ hs_) b2 bv Sb hb) (fun _ _ v_ L_ U_ => ⟨fun h_ => h_ _ hr5, fun h_ => by intro _ e_; cases Option.some.inj (e_.symm.trans hr5); exact h_⟩) (NiceO.sub (R := (Sb ++ ([(b2, 22, #[bv])] ++ []))) (niceI hb ck6 (niceE rfl)) (Sub.pick [[(b2, 22, #[bv])], Sb] [1, 0] rfl)) ?_
  rintro _ _ ⟨S7, _, H8, ⟨rfl, rfl⟩, rfl⟩
  refine lx_perm (Ls := [[(b3, 26, #[Value.int .i64 (v_0), U (hi (v_1)), U (lo (v_1))])], S7, [(b2, 22, #[bv])]]) (Ls' := [[(b3, 26, #[Value.int .i64 (v_0), U (hi (v_1)), U (lo (v_1))])], [(b2, 22, #[bv])], S7]) [0, 2, 1] rfl rfl ?_
  refine lx_nil ?_
  obtain rfl := Option.some.inj hM
  refine endsN (v0 := Value.tuple #[]) (O := [S7]) rfl (Sub.pick [[(b3, 26, #[Value.int .i64 (v_0), U (hi (v_1)), U (lo (v_1))])], [(b2, 22, #[bv])], S7] [2] rfl) ⟨S7, _, H8, ⟨rfl, rfl⟩, rfl⟩
def bits_Put_m (N : Nat) (b : List UInt8) (at' : Int) (v_0 : Int) (v_1 : BitVec 128) : Option ((List UInt8) × Int) := (vec_May_m N v_0 v_1).bind fun r5 => if (r5) = true then (bits_has_m N b at' v_0).bind fun r11 => if (r11) = true then (bits_fresh_m N b).bind fun r16 => (bits_lay_v1_m N r16 at' v_0 v_1).bind fun r22 => ck ((r22).length = (r16).length) (some (r22, 0)) else some ([], 7) else some ([], 1)
set_option maxRecDepth 100000 in
set_option maxHeartbeats 400000 in
theorem bits_Put_g (N : Nat) (b : List UInt8) (at' : Int) (v_0 : Int) (v_1 : BitVec 128) (r : (List UInt8) × Int) (hM : bits_Put_m N b at' v_0 v_1 = some r) (ro : Addr → Option Value) (bv : Value) (hb : Rd encY ro bv b) : Does Try.prog 12 #[bv, Value.int .i64 (at'), Value.agg #[Value.int .i64 (v_0), U (hi (v_1)), U (lo (v_1))]] ro [] (p1 (fun s_ => Value.tuple #[s_, Value.int .i64 (r.2)]) 5 encY r.1) := by
  unfold bits_Put_m at hM
  refine does_of_A follows Try.func12 rfl 24 rfl (upd (upd (upd (fun _ => undef) 2 (Value.agg #[Value.int .i64 (v_0), U (hi (v_1)), U (lo (v_1))])) 1 (Value.int .i64 (at'))) 0 (bv)) (by funext k; match k with | 0 => rfl | 1 => rfl | 2 => rfl | k + 3 => rfl) (fun base0_ => ?_)
  refine A_seq fun K1 hK1 => ?_
  refine A_reg ?_
  refine r_a (26, #[Value.int .i64 (v_0), U (hi (v_1)), U (lo (v_1))]) rfl rfl rfl (fun b2 => ?_) (.inr rfl)
  refine r_v (Value.slice none 0 0) rfl rfl rfl rfl ?_
  refine r_v (Value.int .i64 (0)) rfl rfl rfl rfl ?_
  refine lx_nil ?_
  refine hK1 _ _ ?_; try clear hK1 K1
  refine A_seq fun K3 hK3 => ?_
  refine A_seq fun K4 hK4 => ?_
  refine A_reg ?_
  refine r_l (Value.agg #[Value.int .i64 (v_0), U (hi (v_1)), U (lo (v_1))]) 0 _ _ _ _ rfl rfl rfl rfl rfl ?_
  replace hM := bind_sm hM; obtain ⟨r5, hr6, hM⟩ := hM
  refine r_c (Value.bool (r5)) rfl _ _ (ev_callF rfl call_37 rfl) (vec_May_g N v_0 v_1 _ hr6) ?_
  refine r_v (Value.bool (!(r5))) rfl rfl rfl rfl ?_
  refine lx_nil ?_
  refine hK4 _ _ ?_; try clear hK4 K4
  refine A_cond (!(r5)) rfl (fun hc7 => ?_) (fun hc7 => ?_)
  · replace hM := ifn (Bool.eq_false_iff.1 (not_t hc7)) hM
    refine A_seq fun K8 hK8 => ?_
    refine A_reg ?_
    refine r_v (Value.slice none 0 0) rfl rfl rfl rfl ?_
    refine r_v (Value.int .i64 (1)) rfl rfl rfl rfl ?_
    refine lx_nil ?_
    refine hK8 _ _ ?_; try clear hK8 K8
    obtain rfl := Option.some.inj hM
    refine A_ret (fun hn => ends1 (v0 := Value.tuple #[Value.slice none 0 0, Value.int .i64 (1)]) Sl.nil (Sub.nil _) rfl (res2 rfl rfl))
  · replace hM := ifp (not_f hc7) hM
    refine A_skip ?_
    refine hK3 _ _ ?_; try clear hK3 K3
    refine A_seq fun K9 hK9 => ?_
    refine A_seq fun K10 hK10 => ?_
    refine A_regC [(some 15, false)] (conG Try.prog [(15, fun v_ L_ U_ => ∀ u0_, bits_has_m N b at' v_0 = some u0_ → (pV (Value.bool (u0_))) v_ L_ U_)]) ?_
    refine r_v (bv) rfl rfl rfl rfl ?_
    refine r_v (Value.int .i64 (at')) rfl rfl rfl rfl ?_
    refine r_v (Value.pointer (some ⟨b2, 0, none⟩)) rfl rfl rfl rfl ?_
    refine r_l (Value.int .i64 (v_0)) 0 _ _ _ _ rfl rfl rfl rfl rfl ?_
    replace hM := bind_sm hM; obtain ⟨r11, hr12, hM⟩ := hM
    refine r_gv (Value.bool (r11)) 30 _ rfl rfl rfl (ev_callF rfl call_30 rfl) (fun own_ nw_ hs_ => bits_has_g N b at' v_0 _ hr12 hs_.view bv ((rd_ro hb) own_ nw_ hs_)) (fun _ _ v_ L_ U_ => ⟨fun h_ => h_ _ hr12, fun h_ => by intro _ e_; cases Option.some.inj (e_.symm.trans hr12); exact h_⟩) ?_
    refine r_v (Value.bool (!(r11))) rfl rfl rfl rfl ?_
    refine lx_nil ?_
    refine hK10 _ _ ?_; try clear hK10 K10
    refine A_cond (!(r11)) rfl (fun hc13 => ?_) (fun hc13 => ?_)
    · replace hM := ifn (Bool.eq_false_iff.1 (not_t hc13)) hM
      refine A_seq fun K14 hK14 => ?_
      refine A_reg ?_
      refine r_v (Value.slice none 0 0) rfl rfl rfl rfl ?_
      refine r_v (Value.int .i64 (7)) rfl rfl rfl rfl ?_
      refine lx_nil ?_
      refine hK14 _ _ ?_; try clear hK14 K14
      obtain rfl := Option.some.inj hM
      refine A_ret (fun hn => ends1 (v0 := Value.tuple #[Value.slice none 0 0, Value.int .i64 (7)]) Sl.nil (Sub.nil _) rfl (res2 rfl rfl))
    · replace hM := ifp (not_f hc13) hM
      refine A_skip ?_
      refine hK9 _ _ ?_; try clear hK9 K9
      refine A_seq fun K15 hK15 => ?_
      refine A_regC [(some 18, false)] (conG Try.prog [(18, fun v_ L_ U_ => ∀ u0_, bits_fresh_m N b = some u0_ → (p1 (fun s_ => s_) 5 encY (u0_)) v_ L_ U_)]) ?_
      refine r_v (bv) rfl rfl rfl rfl ?_
      replace hM := bind_sm hM; obtain ⟨r16, hr17, hM⟩ := hM
      refine r_g1 (Ls := [[(b2, 26, #[Value.int .i64 (v_0), U (hi (v_1)), U (lo (v_1))])]]) (fun s18 => s18) 5 encY (r16) 38 _ rfl rfl rfl (ev_callF rfl call_38 rfl) (fun own_ nw_ hs_ => bits_fresh_g N b _ hr17 hs_.view bv ((rd_ro hb) own_ nw_ hs_)) (fun _ _ v_ L_ U_ => ⟨fun h_ => h_ _ hr17, fun h_ => by intro _ e_; cases Option.some.inj (e_.symm.trans hr17); exact h_⟩) (fun s18 S19 H20 => ?_)
      refine r_v (s18) rfl rfl rfl rfl ?_
      refine lx_nil ?_
      refine hK15 _ _ ?_; try clear hK15 K15
      refine A_seq fun K21 hK21 => ?_
      refine A_regC [(some 22, true)] (conG Try.prog [(22, fun v_ L_ U_ => ∀ u0_, bits_lay_v1_m N r16 at' v_0 v_1 = some u0_ → (pO (List.flatten [S19]) (oI 5 encY s18 u0_ (oE (Value.tuple #[]) []))) v_ L_ U_)]) ?_
      refine r_v (s18) rfl rfl rfl rfl ?_
      refine r_v (Value.int .i64 (at')) rfl rfl rfl rfl ?_
      refine r_l (Value.agg #[Value.int .i64 (v_0), U (hi (v_1)), U (lo (v_1))]) 0 _ _ _ _ rfl rfl rfl rfl rfl ?_
      replace hM := bind_sm hM; obtain ⟨r22, hr23, hM⟩ := hM
      replace hM := ck_some hM; obtain ⟨ck24, hM⟩ := hM
      refine r_gm (Ls := [[(b2, 26, #[Value.int .i64 (v_0), U (hi (v_1)), U (lo (v_1))])], S19]) (FL := [S19]) (RL := [[(b2, 26, #[Value.int .i64 (v_0), U (hi (v_1)), U (lo (v_1))])]]) [1] (oI 5 encY s18 r22 (oE (Value.tuple #[]) [])) (some 22) 39 _ rfl rfl rfl rfl rfl (ev_callF rfl call_39 rfl) (fun own_ nw_ hn_ hs_ => bits_lay_v1_g N r16 at' v_0 v_1 _ hr23 _ s18 S19 H20) (fun _ _ v_ L_ U_ => ⟨fun h_ => h_ _ hr23, fun h_ => by intro _ e_; cases Option.some.inj (e_.symm.trans hr23); exact h_⟩) (NiceO.sub (R := (S19 ++ [])) (niceI H20 ck24 (niceE rfl)) (Sub.pick [S19] [0] rfl)) ?_
      rintro _ _ ⟨S25, _, H26, ⟨rfl, rfl⟩, rfl⟩
      refine lx_perm (Ls := [[(b2, 26, #[Value.int .i64 (v_0), U (hi (v_1)), U (lo (v_1))])], S25]) (Ls' := [[(b2, 26, #[Value.int .i64 (v_0), U (hi (v_1)), U (lo (v_1))])], S25]) [0, 1] rfl rfl ?_
      refine lx_nil ?_
      refine hK21 _ _ ?_; try clear hK21 K21
      refine A_seq fun K27 hK27 => ?_
      refine A_reg ?_
      refine r_v (s18) rfl rfl rfl rfl ?_
      refine r_v (s18) rfl rfl rfl rfl ?_
      refine r_v (Value.int .i64 (0)) rfl rfl rfl rfl ?_
      refine lx_nil ?_
      refine hK27 _ _ ?_; try clear hK27 K27
      obtain rfl := Option.some.inj hM
      refine A_ret (fun hn => ends1 (v0 := Value.tuple #[s18, Value.int .i64 (0)]) H26 (sub_one (Sub.pick [[(b2, 26, #[Value.int .i64 (v_0), U (hi (v_1)), U (lo (v_1))])], S25] [1] rfl)) rfl (res2 rfl rfl))
def shunterref02_May_m (_ : Nat) (v_0 : Int) (v_1 : BitVec 128) : Option (Bool) := if (v_0 : Int) ≥ 1 then if (v_0 : Int) ≤ 128 then some (decide ((((len128 ((hi (v_1)) ++ (lo (v_1))) : Nat) : Int) : Int) ≤ v_0)) else some (false) else some (false)
set_option maxRecDepth 100000 in
set_option maxHeartbeats 400000 in
theorem shunterref02_May_g (N : Nat) (v_0 : Int) (v_1 : BitVec 128) (r : Bool) (hM : shunterref02_May_m N v_0 v_1 = some r) : Gives Try.prog 17 #[Value.agg #[Value.int .i64 (v_0), U (hi (v_1)), U (lo (v_1))]] (Value.bool (r)) := by
  unfold shunterref02_May_m at hM
  refine gives_of_A follows Try.func17 rfl 22 rfl (upd (fun _ => undef) 0 (Value.agg #[Value.int .i64 (v_0), U (hi (v_1)), U (lo (v_1))])) (by funext k; match k with | 0 => rfl | k + 1 => rfl) (fun base0_ => ?_)
  refine A_seq fun K1 hK1 => ?_
  refine A_reg ?_
  refine r_a (26, #[Value.int .i64 (v_0), U (hi (v_1)), U (lo (v_1))]) rfl rfl rfl (fun b2 => ?_) (.inr rfl)
  refine r_v (Value.bool (false)) rfl rfl rfl rfl ?_
  refine lx_nil ?_
  refine hK1 _ _ ?_; try clear hK1 K1
  refine A_seq fun K3 hK3 => ?_
  refine A_draw [] (by decide +kernel) (fun hn => sep_nil) ?_
  refine r_v (Value.pointer (some ⟨b2, 0, none⟩)) rfl rfl rfl rfl ?_
  refine r_l (Value.int .i64 (v_0)) 0 _ _ _ _ rfl rfl rfl rfl rfl ?_
  refine r_v (Value.bool (decide ((v_0 : Int) ≥ 1))) rfl rfl rfl rfl ?_
  refine r_v (Value.bool (decide ((v_0 : Int) ≥ 1))) rfl rfl rfl rfl ?_
  rcases hg4 : (decide ((v_0 : Int) ≥ 1)) with _ | _
  · replace hM := ifn (of_decide_eq_false hg4) hM
    refine r_n false rfl (by decide) rfl ?_
    refine r_n false rfl (by decide) rfl ?_
    refine r_n false rfl (by decide) rfl ?_
    refine r_v (Value.bool (false)) rfl rfl rfl rfl ?_
    refine r_v (Value.bool (false)) rfl rfl rfl rfl ?_
    refine r_n false rfl (by decide) rfl ?_
    refine r_n false rfl (by decide) rfl ?_
    refine r_n false rfl (by decide) rfl ?_
    refine r_n false rfl (by decide) rfl ?_
    refine r_n false rfl (by decide) rfl ?_
    refine r_n false rfl (by decide) rfl ?_
    refine r_n false rfl (by decide) rfl ?_
    refine r_n false rfl (by decide) rfl ?_
    refine r_n false rfl (by decide) rfl ?_
    refine r_v (Value.bool (false)) rfl rfl rfl rfl ?_
    refine r_v (Value.bool (false)) rfl rfl rfl rfl ?_
    refine lx_nil ?_
    refine hK3 _ _ ?_; try clear hK3 K3
    obtain rfl := Option.some.inj hM
    refine A_ret (fun hn => ends_eq (v0 := Value.bool (false)) rfl (res1 rfl))
  · replace hM := ifp (of_decide_eq_true hg4) hM
    refine r_y rfl ?_
    refine r_v (Value.pointer (some ⟨b2, 0, none⟩)) rfl rfl rfl rfl ?_
    refine r_y rfl ?_
    refine r_l (Value.int .i64 (v_0)) 0 _ _ _ _ rfl rfl rfl rfl rfl ?_
    refine r_y rfl ?_
    refine r_v (Value.bool (decide ((v_0 : Int) ≤ 128))) rfl rfl rfl rfl ?_
    refine r_v (Value.bool (decide ((v_0 : Int) ≤ 128))) rfl rfl rfl rfl ?_
    refine r_v (Value.bool (decide ((v_0 : Int) ≤ 128))) rfl rfl rfl rfl ?_
    rcases hg5 : (decide ((v_0 : Int) ≤ 128)) with _ | _
    · replace hM := ifn (of_decide_eq_false hg5) hM
      refine r_n false rfl (by decide) rfl ?_
      refine r_n false rfl (by decide) rfl ?_
      refine r_n false rfl (by decide) rfl ?_
      refine r_n false rfl (by decide) rfl ?_
      refine r_n false rfl (by decide) rfl ?_
      refine r_n false rfl (by decide) rfl ?_
      refine r_n false rfl (by decide) rfl ?_
      refine r_n false rfl (by decide) rfl ?_
      refine r_n false rfl (by decide) rfl ?_
      refine r_v (Value.bool (false)) rfl rfl rfl rfl ?_
      refine r_v (Value.bool (false)) rfl rfl rfl rfl ?_
      refine lx_nil ?_
      refine hK3 _ _ ?_; try clear hK3 K3
      obtain rfl := Option.some.inj hM
      refine A_ret (fun hn => ends_eq (v0 := Value.bool (false)) rfl (res1 rfl))
    · replace hM := ifp (of_decide_eq_true hg5) hM
      refine r_y rfl ?_
      refine r_v (Value.pointer (some ⟨b2, 1, none⟩)) rfl rfl rfl rfl ?_
      refine r_y rfl ?_
      refine r_l (U (hi (v_1))) 0 _ _ _ _ rfl rfl rfl rfl rfl ?_
      refine r_y rfl ?_
      refine r_v (Value.pointer (some ⟨b2, 2, none⟩)) rfl rfl rfl rfl ?_
      refine r_y rfl ?_
      refine r_l (U (lo (v_1))) 0 _ _ _ _ rfl rfl rfl rfl rfl ?_
      refine r_y rfl ?_
      refine r_c (Value.agg (rowF (BitVec.getLsbD ((hi (v_1)) ++ (lo (v_1)))))) rfl _ _ (ev_callF rfl call_42 rfl) (of_g (hi (v_1)) (lo (v_1))) ?_
      refine r_y rfl ?_
      refine r_c (Value.int .i64 (((len128 ((hi (v_1)) ++ (lo (v_1))) : Nat) : Int))) rfl _ _ (ev_callF rfl call_41 rfl) (rlen_g ((hi (v_1)) ++ (lo (v_1)))) ?_
      refine r_y rfl ?_
      refine r_v (Value.pointer (some ⟨b2, 0, none⟩)) rfl rfl rfl rfl ?_
      refine r_y rfl ?_
      refine r_l (Value.int .i64 (v_0)) 0 _ _ _ _ rfl rfl rfl rfl rfl ?_
      refine r_y rfl ?_
      refine r_v (Value.bool (decide ((((len128 ((hi (v_1)) ++ (lo (v_1))) : Nat) : Int) : Int) ≤ v_0))) rfl rfl rfl rfl ?_
      refine r_v (Value.bool (decide ((((len128 ((hi (v_1)) ++ (lo (v_1))) : Nat) : Int) : Int) ≤ v_0))) rfl rfl rfl rfl ?_
      refine r_v (Value.bool (decide ((((len128 ((hi (v_1)) ++ (lo (v_1))) : Nat) : Int) : Int) ≤ v_0))) rfl rfl rfl rfl ?_
      refine lx_nil ?_
      refine hK3 _ _ ?_; try clear hK3 K3
      obtain rfl := Option.some.inj hM
      refine A_ret (fun hn => ends_eq (v0 := Value.bool (decide ((((len128 ((hi (v_1)) ++ (lo (v_1))) : Nat) : Int) : Int) ≤ v_0))) rfl (res1 rfl))
def shunterref02_Bits_k4 (v_1 : BitVec 128) (l1_ : List Bool) (i2_ : Int) (rec_shunterref02_Bits_l3 : List Bool → Int → Option (List Bool)) : Option (List Bool) := ck (0 ≤ i2_ ∧ i2_ < 128) (ck ((l1_).length + ([((hi (v_1)) ++ (lo (v_1))).getLsbD ((i2_).toNat)]).length ≤ 140737488355328) (ck ((-9223372036854775808 ≤ (i2_ + 1) ∧ (i2_ + 1) ≤ 9223372036854775807)) (rec_shunterref02_Bits_l3 ((l1_ ++ ([((hi (v_1)) ++ (lo (v_1))).getLsbD ((i2_).toNat)]))) ((i2_ + 1)))))
def shunterref02_Bits_l3 (v_0 : Int) (v_1 : BitVec 128) : Nat → List Bool → Int → Option (List Bool)
  | 0, _, _ => none
  | n8 + 1, l1_, i2_ => if (i2_ : Int) < v_0 then if (i2_ : Int) < 128 then shunterref02_Bits_k4 v_1 l1_ i2_ (shunterref02_Bits_l3 v_0 v_1 n8)  else some (l1_) else some (l1_)
def shunterref02_Bits_m (N : Nat) (v_0 : Int) (v_1 : BitVec 128) : Option (List Bool) := shunterref02_Bits_l3 v_0 v_1 N ([]) (0)
set_option maxRecDepth 100000 in
set_option maxHeartbeats 400000 in
theorem shunterref02_Bits_g (N : Nat) (v_0 : Int) (v_1 : BitVec 128) (r : List Bool) (hM : shunterref02_Bits_m N v_0 v_1 = some r) (ro : Addr → Option Value)  : Does Try.prog 43 #[Value.agg #[Value.int .i64 (v_0), U (hi (v_1)), U (lo (v_1))]] ro [] (p1 (fun s_ => s_) 4 encB r) := by
  unfold shunterref02_Bits_m at hM
  refine does_of_A follows Try.func43 rfl 28 rfl (upd (fun _ => undef) 0 (Value.agg #[Value.int .i64 (v_0), U (hi (v_1)), U (lo (v_1))])) (by funext k; match k with | 0 => rfl | k + 1 => rfl) (fun base0_ => ?_)
  refine A_seq fun K1 hK1 => ?_
  refine A_reg ?_
  refine r_a (26, #[Value.int .i64 (v_0), U (hi (v_1)), U (lo (v_1))]) rfl rfl rfl (fun b2 => ?_) (.inr rfl)
  refine r_v (Value.slice none 0 0) rfl rfl rfl rfl ?_
  refine lx_nil ?_
  refine hK1 _ _ ?_; try clear hK1 K1
  refine A_seq fun K3 hK3 => ?_
  refine A_reg ?_
  refine r_v (Value.pointer (some ⟨b2, 1, none⟩)) rfl rfl rfl rfl ?_
  refine r_l (U (hi (v_1))) 0 _ _ _ _ rfl rfl rfl rfl rfl ?_
  refine r_v (Value.pointer (some ⟨b2, 2, none⟩)) rfl rfl rfl rfl ?_
  refine r_l (U (lo (v_1))) 0 _ _ _ _ rfl rfl rfl rfl rfl ?_
  refine r_c (Value.agg (rowF (BitVec.getLsbD ((hi (v_1)) ++ (lo (v_1)))))) rfl _ _ (ev_callF rfl call_42 rfl) (of_g (hi (v_1)) (lo (v_1))) ?_
  refine r_a (76, rowF (BitVec.getLsbD (0#128))) rfl rfl ((zrow z_76).trans (congrArg (fun x => some (76, x)) row_zero)) (fun b4 => ?_) (.inr rfl)
  refine r_s [(b4, 76, rowF (BitVec.getLsbD ((hi (v_1)) ++ (lo (v_1))))), (b2, 26, #[Value.int .i64 (v_0), U (hi (v_1)), U (lo (v_1))])] 0 _ _ _ (rowF (BitVec.getLsbD (0#128))) (rowF (BitVec.getLsbD ((hi (v_1)) ++ (lo (v_1))))) (rowF (BitVec.getLsbD ((hi (v_1)) ++ (lo (v_1))))) rfl rfl rfl rfl (stok_rows rfl rfl _ _) (splice_rows _ _) rfl ?_
  refine lx_nil ?_
  refine hK3 _ _ ?_; try clear hK3 K3
  refine A_seq fun K5 hK5 => ?_
  refine A_reg ?_
  refine r_v (Value.slice none 0 0) rfl rfl rfl rfl ?_
  refine lx_nil ?_
  refine hK5 _ _ ?_; try clear hK5 K5
  refine A_seq fun K6 hK6 => ?_
  refine A_seq fun K7 hK7 => ?_
  refine A_reg ?_
  refine r_v (Value.int .i64 (0)) rfl rfl rfl rfl ?_
  refine lx_nil ?_
  refine hK7 _ _ ?_; try clear hK7 K7
  refine A_block ?_
  refine A_forget _ (Sub.pickE (Ls := [[(b4, 76, rowF (BitVec.getLsbD ((hi (v_1)) ++ (lo (v_1)))))], [(b2, 26, #[Value.int .i64 (v_0), U (hi (v_1)), U (lo (v_1))])], []]) (Ls0 := [[(b4, 76, rowF (BitVec.getLsbD ((hi (v_1)) ++ (lo (v_1)))))], [(b2, 26, #[Value.int .i64 (v_0), U (hi (v_1)), U (lo (v_1))])]]) rfl [0, 1, 2] rfl) ?_
  refine A_loop (fun tt ll nn => ∃ (n8 : Nat) (l1_ : List Bool) (i2_ : Int), (shunterref02_Bits_l3 v_0 v_1 n8 l1_ i2_ = some r) ∧ ∃ (vl1_ : Value) (Sl1_ : List Bl), Sl 4 encB vl1_ l1_ Sl1_ ∧ Is [(1, Value.pointer (some ⟨b2, 0, none⟩)), (3, Value.pointer (some ⟨b4, 0, none⟩)), (4, vl1_), (5, Value.int .i64 (i2_))] (List.flatten [[(b4, 76, rowF (BitVec.getLsbD ((hi (v_1)) ++ (lo (v_1)))))], [(b2, 26, #[Value.int .i64 (v_0), U (hi (v_1)), U (lo (v_1))])], Sl1_]) tt ll ∧ nn = n8 + 1) (N + 1) ?_ ?_
  · exact ⟨N, [], 0, hM, Value.slice none 0 0, [], Sl.nil, is_mk rfl rfl, rfl⟩
  · clear hM; rintro t l _ ⟨n8, l1_, i2_, hM, vl1_, Sl1_, hl1_, ⟨⟨T, rfl⟩, rfl⟩, rfl⟩
    rcases n8 with _ | n8
    · exact absurd hM (by simp [shunterref02_Bits_l3])
    rw [shunterref02_Bits_l3] at hM
    refine A_cut (fun tt ll => (shunterref02_Bits_k4 v_1 l1_ i2_ (shunterref02_Bits_l3 v_0 v_1 n8)  = some r) ∧ Is [(1, Value.pointer (some ⟨b2, 0, none⟩)), (3, Value.pointer (some ⟨b4, 0, none⟩)), (4, vl1_), (5, Value.int .i64 (i2_))] (List.flatten [[(b4, 76, rowF (BitVec.getLsbD ((hi (v_1)) ++ (lo (v_1)))))], [(b2, 26, #[Value.int .i64 (v_0), U (hi (v_1)), U (lo (v_1))])], Sl1_]) tt ll) ?_ ?_
    · refine A_seq fun K20 hK20 => ?_
      refine A_reg ?_
      refine r_v (Value.int .i64 (i2_)) rfl rfl rfl rfl ?_
      refine r_v (Value.pointer (some ⟨b2, 0, none⟩)) rfl rfl rfl rfl ?_
      refine r_l (Value.int .i64 (v_0)) 1 _ _ _ _ rfl rfl rfl rfl rfl ?_
      refine r_v (Value.bool (decide ((i2_ : Int) < v_0))) rfl rfl rfl rfl ?_
      refine r_v (Value.bool (decide ((i2_ : Int) < v_0))) rfl rfl rfl rfl ?_
      rcases hg21 : (decide ((i2_ : Int) < v_0)) with _ | _
      · replace hM := ifn (of_decide_eq_false hg21) hM
        refine r_n false rfl (by decide) rfl ?_
        refine r_n false rfl (by decide) rfl ?_
        refine r_v (Value.bool (false)) rfl rfl rfl rfl ?_
        refine lx_nil ?_
        refine hK20 _ _ ?_; try clear hK20 K20
        refine A_cond false rfl (fun h_ => nomatch h_) (fun _ => ?_)
        refine A_exit ?_
        refine hK6 _ _ ?_; try clear hK6 K6
        refine A_seq fun K22 hK22 => ?_
        refine A_reg ?_
        refine r_v (vl1_) rfl rfl rfl rfl ?_
        refine r_v (vl1_) rfl rfl rfl rfl ?_
        refine lx_nil ?_
        refine hK22 _ _ ?_; try clear hK22 K22
        obtain rfl := Option.some.inj hM
        refine A_ret (fun hn => ends1 (v0 := vl1_) hl1_ (sub_one (Sub.pick [[(b4, 76, rowF (BitVec.getLsbD ((hi (v_1)) ++ (lo (v_1)))))], [(b2, 26, #[Value.int .i64 (v_0), U (hi (v_1)), U (lo (v_1))])], Sl1_] [2] rfl)) rfl (res1 rfl))
      · replace hM := ifp (of_decide_eq_true hg21) hM
        refine r_y rfl ?_
        refine r_v (Value.int .i64 (i2_)) rfl rfl rfl rfl ?_
        refine r_y rfl ?_
        refine r_v (Value.bool (decide ((i2_ : Int) < 128))) rfl rfl rfl rfl ?_
        refine r_v (Value.bool (decide ((i2_ : Int) < 128))) rfl rfl rfl rfl ?_
        refine lx_nil ?_
        refine hK20 _ _ ?_; try clear hK20 K20
        refine A_cond (decide ((i2_ : Int) < 128)) rfl (fun hc23 => ?_) (fun hc23 => ?_)
        · replace hM := ifp (of_decide_eq_true hc23) hM
          refine A_skip ?_
          refine fg _ (Sub.pick [[(b4, 76, rowF (BitVec.getLsbD ((hi (v_1)) ++ (lo (v_1)))))], [(b2, 26, #[Value.int .i64 (v_0), U (hi (v_1)), U (lo (v_1))])], Sl1_] [0, 1, 2] rfl) ?_
          exact ⟨hM, is_mk rfl rfl⟩
        · replace hM := ifn (of_decide_eq_false hc23) hM
          refine A_exit ?_
          refine hK6 _ _ ?_; try clear hK6 K6
          refine A_seq fun K24 hK24 => ?_
          refine A_reg ?_
          refine r_v (vl1_) rfl rfl rfl rfl ?_
          refine r_v (vl1_) rfl rfl rfl rfl ?_
          refine lx_nil ?_
          refine hK24 _ _ ?_; try clear hK24 K24
          obtain rfl := Option.some.inj hM
          refine A_ret (fun hn => ends1 (v0 := vl1_) hl1_ (sub_one (Sub.pick [[(b4, 76, rowF (BitVec.getLsbD ((hi (v_1)) ++ (lo (v_1)))))], [(b2, 26, #[Value.int .i64 (v_0), U (hi (v_1)), U (lo (v_1))])], Sl1_] [2] rfl)) rfl (res1 rfl))
    · clear hM; rintro t l ⟨hM, ⟨T, rfl⟩, rfl⟩
      unfold shunterref02_Bits_k4 at hM
      refine A_seq fun K9 hK9 => ?_
      refine A_block ?_
      refine A_regC [(some 25, false), (some 26, true)] (conG Try.prog []) ?_
      refine r_v (vl1_) rfl rfl rfl rfl ?_
      refine r_v (Value.int .i64 (i2_)) rfl rfl rfl rfl ?_
      replace hM := ck_some hM; obtain ⟨ck10, hM⟩ := hM
      have hx11 := fun c => ev_v (ev_idxI (P := Try.prog) (c := c) (t := 76) (b := b4) (off := 0) (k := .i64) rfl rfl rfl ck10)
      simp only [Nat.zero_add] at hx11
      have ck10n : (i2_).toNat < 128 := by omega
      refine r_v (Value.pointer (some ⟨b4, (i2_).toNat, none⟩)) rfl rfl rfl (hx11 _) ?_
      refine r_l (Value.bool (((hi (v_1)) ++ (lo (v_1))).getLsbD ((i2_).toNat))) 0 _ _ _ _ rfl rfl rfl rfl (ld_row1 rfl _ ck10n) ?_
      refine r_bs (cs0 := []) (Ls := [[(b4, 76, rowF (BitVec.getLsbD ((hi (v_1)) ++ (lo (v_1)))))], [(b2, 26, #[Value.int .i64 (v_0), U (hi (v_1)), U (lo (v_1))])], Sl1_]) 4 encB [((hi (v_1)) ++ (lo (v_1))).getLsbD ((i2_).toNat)] [Value.bool (((hi (v_1)) ++ (lo (v_1))).getLsbD ((i2_).toNat))] [Value.bool (false)] rfl rfl rfl rfl rfl rfl rfl rfl (by kernel_rfl) (by kernel_rfl) rfl rfl rfl (fun s12 S13 H14 => ?_)
      replace hM := ck_some hM; obtain ⟨ck15, hM⟩ := hM
      refine r_app (cs0 := []) (Ls := [[(b4, 76, rowF (BitVec.getLsbD ((hi (v_1)) ++ (lo (v_1)))))], [(b2, 26, #[Value.int .i64 (v_0), U (hi (v_1)), U (lo (v_1))])], Sl1_, S13]) 2 (En := encB) rfl rfl rfl rfl rfl hl1_ rfl (rd_own H14 (mem_chunk (Ls := [[(b4, 76, rowF (BitVec.getLsbD ((hi (v_1)) ++ (lo (v_1)))))], [(b2, 26, #[Value.int .i64 (v_0), U (hi (v_1)), U (lo (v_1))])], Sl1_, S13]) (k := 3) rfl rfl)) rfl rfl rfl rfl rfl (app_b ck15 rfl) (app_m ck15 rfl) rfl (fun s16 S17 H18 => ?_)
      refine r_v (s16) rfl rfl rfl rfl ?_
      refine lx_nil ?_
      refine hK9 _ _ ?_; try clear hK9 K9
      refine A_reg ?_
      refine r_v (Value.int .i64 (i2_)) rfl rfl rfl rfl ?_
      replace hM := ck_some hM; obtain ⟨ck19, hM⟩ := hM
      refine r_v (Value.int .i64 ((i2_ + 1))) rfl rfl (wi64 rfl ck19.1 ck19.2) rfl ?_
      refine r_v (Value.int .i64 ((i2_ + 1))) rfl rfl rfl rfl ?_
      refine lx_nil ?_
      refine fg _ (Sub.pick [[(b4, 76, rowF (BitVec.getLsbD ((hi (v_1)) ++ (lo (v_1)))))], [(b2, 26, #[Value.int .i64 (v_0), U (hi (v_1)), U (lo (v_1))])], S17, S13] [0, 1, 2] rfl) ?_
      exact ⟨n8 + 1, by omega, n8, (l1_ ++ ([((hi (v_1)) ++ (lo (v_1))).getLsbD ((i2_).toNat)])), (i2_ + 1), hM, s16, S17, H18, is_mk rfl rfl, rfl⟩
def shunterref03_Of_l3 (r4 : List Bool) : Nat → List Bool → Int → Option (List Bool)
  | 0, _, _ => none
  | n13 + 1, high1_, i2_ => if (i2_ : Int) ≥ 0 then ck (0 ≤ i2_ ∧ i2_ < ((r4).length : Int)) (ck ((high1_).length + ([(r4)[(i2_).toNat]!]).length ≤ 140737488355328) (ck ((-9223372036854775808 ≤ (i2_ - 1) ∧ (i2_ - 1) ≤ 9223372036854775807)) ((shunterref03_Of_l3 r4 n13) ((high1_ ++ ([(r4)[(i2_).toNat]!]))) ((i2_ - 1))))) else some (high1_)
def shunterref03_Of_m (N : Nat) (v_0 : Int) (v_1 : BitVec 128) : Option (List Bool) := (shunterref02_Bits_m N v_0 v_1).bind fun r4 => ck ((-9223372036854775808 ≤ (((r4).length : Int) - 1) ∧ (((r4).length : Int) - 1) ≤ 9223372036854775807)) (shunterref03_Of_l3 r4 N ([]) ((((r4).length : Int) - 1)))
set_option maxRecDepth 100000 in
set_option maxHeartbeats 400000 in
theorem shunterref03_Of_g (N : Nat) (v_0 : Int) (v_1 : BitVec 128) (r : List Bool) (hM : shunterref03_Of_m N v_0 v_1 = some r) (ro : Addr → Option Value)  : Does Try.prog 18 #[Value.agg #[Value.int .i64 (v_0), U (hi (v_1)), U (lo (v_1))]] ro [] (p1 (fun s_ => s_) 4 encB r) := by
  unfold shunterref03_Of_m at hM
  refine does_of_A follows Try.func18 rfl 23 rfl (upd (fun _ => undef) 0 (Value.agg #[Value.int .i64 (v_0), U (hi (v_1)), U (lo (v_1))])) (by funext k; match k with | 0 => rfl | k + 1 => rfl) (fun base0_ => ?_)
  refine A_seq fun K1 hK1 => ?_
  refine A_reg ?_
  refine r_a (26, #[Value.int .i64 (v_0), U (hi (v_1)), U (lo (v_1))]) rfl rfl rfl (fun b2 => ?_) (.inr rfl)
  refine r_v (Value.slice none 0 0) rfl rfl rfl rfl ?_
  refine lx_nil ?_
  refine hK1 _ _ ?_; try clear hK1 K1
  refine A_seq fun K3 hK3 => ?_
  refine A_regC [(some 7, false)] (conG Try.prog [(7, fun v_ L_ U_ => ∀ u0_, shunterref02_Bits_m N v_0 v_1 = some u0_ → (p1 (fun s_ => s_) 4 encB (u0_)) v_ L_ U_)]) ?_
  refine r_l (Value.agg #[Value.int .i64 (v_0), U (hi (v_1)), U (lo (v_1))]) 0 _ _ _ _ rfl rfl rfl rfl rfl ?_
  replace hM := bind_sm hM; obtain ⟨r4, hr5, hM⟩ := hM
  refine r_g1 (Ls := [[(b2, 26, #[Value.int .i64 (v_0), U (hi (v_1)), U (lo (v_1))])]]) (fun s6 => s6) 4 encB (r4) 43 _ rfl rfl rfl (ev_callF rfl call_43 rfl) (fun own_ nw_ hs_ => shunterref02_Bits_g N v_0 v_1 _ hr5 hs_.view ) (fun _ _ v_ L_ U_ => ⟨fun h_ => h_ _ hr5, fun h_ => by intro _ e_; cases Option.some.inj (e_.symm.trans hr5); exact h_⟩) (fun s6 S7 H8 => ?_)
  refine r_v (s6) rfl rfl rfl rfl ?_
  refine lx_nil ?_
  refine hK3 _ _ ?_; try clear hK3 K3
  refine A_seq fun K9 hK9 => ?_
  refine A_reg ?_
  refine r_v (Value.slice none 0 0) rfl rfl rfl rfl ?_
  refine lx_nil ?_
  refine hK9 _ _ ?_; try clear hK9 K9
  refine A_seq fun K10 hK10 => ?_
  refine A_seq fun K11 hK11 => ?_
  refine A_reg ?_
  refine r_v (s6) rfl rfl rfl rfl ?_
  refine r_v (Value.int .i64 (((r4).length : Int))) rfl rfl rfl (ev_lenSl rfl rfl rfl (Sl.shp H8)) ?_
  replace hM := ck_some hM; obtain ⟨ck12, hM⟩ := hM
  refine r_v (Value.int .i64 ((((r4).length : Int) - 1))) rfl rfl (wi64 rfl ck12.1 ck12.2) rfl ?_
  refine r_v (Value.int .i64 ((((r4).length : Int) - 1))) rfl rfl rfl rfl ?_
  refine lx_nil ?_
  refine hK11 _ _ ?_; try clear hK11 K11
  refine A_block ?_
  refine A_forget _ (Sub.pickE (Ls := [[(b2, 26, #[Value.int .i64 (v_0), U (hi (v_1)), U (lo (v_1))])], S7, []]) (Ls0 := [[(b2, 26, #[Value.int .i64 (v_0), U (hi (v_1)), U (lo (v_1))])], S7]) rfl [1, 2] rfl) ?_
  refine A_loop (fun tt ll nn => ∃ (n13 : Nat) (high1_ : List Bool) (i2_ : Int), (shunterref03_Of_l3 r4 n13 high1_ i2_ = some r) ∧ ∃ (vhigh1_ : Value) (Shigh1_ : List Bl), Sl 4 encB vhigh1_ high1_ Shigh1_ ∧ Is [(3, s6), (4, vhigh1_), (5, Value.int .i64 (i2_))] (List.flatten [S7, Shigh1_]) tt ll ∧ nn = n13 + 1) (N + 1) ?_ ?_
  · exact ⟨N, [], (((r4).length : Int) - 1), hM, Value.slice none 0 0, [], Sl.nil, is_mk rfl rfl, rfl⟩
  · clear hM; rintro t l _ ⟨n13, high1_, i2_, hM, vhigh1_, Shigh1_, hhigh1_, ⟨⟨T, rfl⟩, rfl⟩, rfl⟩
    rcases n13 with _ | n13
    · exact absurd hM (by simp [shunterref03_Of_l3])
    rw [shunterref03_Of_l3] at hM
    refine A_seq fun K14 hK14 => ?_
    refine A_seq fun K15 hK15 => ?_
    refine A_reg ?_
    refine r_v (Value.int .i64 (i2_)) rfl rfl rfl rfl ?_
    refine r_v (Value.bool (decide ((i2_ : Int) ≥ 0))) rfl rfl rfl rfl ?_
    refine lx_nil ?_
    refine hK15 _ _ ?_; try clear hK15 K15
    refine A_cond (decide ((i2_ : Int) ≥ 0)) rfl (fun hc16 => ?_) (fun hc16 => ?_)
    · replace hM := ifp (of_decide_eq_true hc16) hM
      refine A_skip ?_
      refine hK14 _ _ ?_; try clear hK14 K14
      refine A_seq fun K17 hK17 => ?_
      refine A_block ?_
      refine A_regC [(some 20, false), (some 21, true)] (conG Try.prog []) ?_
      refine r_v (vhigh1_) rfl rfl rfl rfl ?_
      refine r_v (s6) rfl rfl rfl rfl ?_
      refine r_v (Value.int .i64 (i2_)) rfl rfl rfl rfl ?_
      replace hM := ck_some hM; obtain ⟨ck18, hM⟩ := hM
      refine r_v (elA s6 ((i2_).toNat * 1)) rfl rfl rfl (ev_v (ev_idxSl rfl rfl rfl (Sl.shp H8) ck18)) ?_
      refine r_le (Value.bool ((r4)[(i2_).toNat]!)) (En := encB) ((r4)[(i2_).toNat]!) ((i2_).toNat) 0 rfl rfl (rd_own H8 (mem_chunk (Ls := [S7, Shigh1_]) (k := 0) rfl rfl)) (get_of ck18) rfl ?_
      refine r_bs (cs0 := []) (Ls := [S7, Shigh1_]) 4 encB [(r4)[(i2_).toNat]!] [Value.bool ((r4)[(i2_).toNat]!)] [Value.bool (false)] rfl rfl rfl rfl rfl rfl rfl rfl (by kernel_rfl) (by kernel_rfl) rfl rfl rfl (fun s19 S20 H21 => ?_)
      replace hM := ck_some hM; obtain ⟨ck22, hM⟩ := hM
      refine r_app (cs0 := []) (Ls := [S7, Shigh1_, S20]) 1 (En := encB) rfl rfl rfl rfl rfl hhigh1_ rfl (rd_own H21 (mem_chunk (Ls := [S7, Shigh1_, S20]) (k := 2) rfl rfl)) rfl rfl rfl rfl rfl (app_b ck22 rfl) (app_m ck22 rfl) rfl (fun s23 S24 H25 => ?_)
      refine r_v (s23) rfl rfl rfl rfl ?_
      refine lx_nil ?_
      refine hK17 _ _ ?_; try clear hK17 K17
      refine A_reg ?_
      refine r_v (Value.int .i64 (i2_)) rfl rfl rfl rfl ?_
      replace hM := ck_some hM; obtain ⟨ck26, hM⟩ := hM
      refine r_v (Value.int .i64 ((i2_ - 1))) rfl rfl (wi64 rfl ck26.1 ck26.2) rfl ?_
      refine r_v (Value.int .i64 ((i2_ - 1))) rfl rfl rfl rfl ?_
      refine lx_nil ?_
      refine fg _ (Sub.pick [S7, S24, S20] [0, 1] rfl) ?_
      exact ⟨n13 + 1, by omega, n13, (high1_ ++ ([(r4)[(i2_).toNat]!])), (i2_ - 1), hM, s23, S24, H25, is_mk rfl rfl, rfl⟩
    · replace hM := ifn (of_decide_eq_false hc16) hM
      refine A_exit ?_
      refine hK10 _ _ ?_; try clear hK10 K10
      refine A_seq fun K27 hK27 => ?_
      refine A_reg ?_
      refine r_v (vhigh1_) rfl rfl rfl rfl ?_
      refine r_v (vhigh1_) rfl rfl rfl rfl ?_
      refine lx_nil ?_
      refine hK27 _ _ ?_; try clear hK27 K27
      obtain rfl := Option.some.inj hM
      refine A_ret (fun hn => ends1 (v0 := vhigh1_) hhigh1_ (sub_one (Sub.pick [S7, Shigh1_] [1] rfl)) rfl (res1 rfl))
def shunterref03_Bytes_l6 (l' : List Bool) (b1_ : List UInt8) (i2_ : Int) (rec_shunterref03_Bytes_l3 : List UInt8 → Int → Option (List UInt8)) : Nat → Int → Int → Option (List UInt8)
  | 0, _, _ => none
  | n13 + 1, n4_, k5_ => ck ((-9223372036854775808 ≤ (i2_ + 8) ∧ (i2_ + 8) ≤ 9223372036854775807)) (if (k5_ : Int) < (i2_ + 8) then ck ((-9223372036854775808 ≤ (2 * n4_) ∧ (2 * n4_) ≤ 9223372036854775807)) (if (k5_ : Int) < ((l').length : Int) then ck (0 ≤ k5_ ∧ k5_ < ((l').length : Int)) (if ((l')[(k5_).toNat]!) = true then ck ((-9223372036854775808 ≤ ((2 * n4_) + 1) ∧ ((2 * n4_) + 1) ≤ 9223372036854775807)) (ck ((-9223372036854775808 ≤ (k5_ + 1) ∧ (k5_ + 1) ≤ 9223372036854775807)) ((shunterref03_Bytes_l6 l' b1_ i2_ rec_shunterref03_Bytes_l3 n13) (((2 * n4_) + 1)) ((k5_ + 1)))) else ck ((-9223372036854775808 ≤ (k5_ + 1) ∧ (k5_ + 1) ≤ 9223372036854775807)) ((shunterref03_Bytes_l6 l' b1_ i2_ rec_shunterref03_Bytes_l3 n13) ((2 * n4_)) ((k5_ + 1)))) else ck ((-9223372036854775808 ≤ (k5_ + 1) ∧ (k5_ + 1) ≤ 9223372036854775807)) ((shunterref03_Bytes_l6 l' b1_ i2_ rec_shunterref03_Bytes_l3 n13) ((2 * n4_)) ((k5_ + 1)))) else ck ((b1_).length + ([(byteI (n4_))]).length ≤ 140737488355328) (ck ((-9223372036854775808 ≤ (i2_ + 8) ∧ (i2_ + 8) ≤ 9223372036854775807)) (rec_shunterref03_Bytes_l3 ((b1_ ++ ([(byteI (n4_))]))) ((i2_ + 8)))))
def shunterref03_Bytes_l3 (N : Nat) (l' : List Bool) : Nat → List UInt8 → Int → Option (List UInt8)
  | 0, _, _ => none
  | n5 + 1, b1_, i2_ => if (i2_ : Int) < ((l').length : Int) then shunterref03_Bytes_l6 l' b1_ i2_ (shunterref03_Bytes_l3 N l' n5) N (0) (i2_) else some (b1_)
def shunterref03_Bytes_m (N : Nat) (l' : List Bool) : Option (List UInt8) := shunterref03_Bytes_l3 N l' N ([]) (0)
set_option maxRecDepth 100000 in
set_option maxHeartbeats 400000 in
theorem shunterref03_Bytes_g (N : Nat) (l' : List Bool) (r : List UInt8) (hM : shunterref03_Bytes_m N l' = some r) (ro : Addr → Option Value) (l'v : Value) (hl' : Rd encB ro l'v l') : Does Try.prog 21 #[l'v] ro [] (p1 (fun s_ => s_) 5 encY r) := by
  unfold shunterref03_Bytes_m at hM
  refine does_of_A follows Try.func21 rfl 40 rfl (upd (fun _ => undef) 0 (l'v)) (by funext k; match k with | 0 => rfl | k + 1 => rfl) (fun base0_ => ?_)
  refine A_seq fun K1 hK1 => ?_
  refine A_reg ?_
  refine r_v (Value.slice none 0 0) rfl rfl rfl rfl ?_
  refine lx_nil ?_
  refine hK1 _ _ ?_; try clear hK1 K1
  refine A_seq fun K2 hK2 => ?_
  refine A_reg ?_
  refine r_v (Value.slice none 0 0) rfl rfl rfl rfl ?_
  refine lx_nil ?_
  refine hK2 _ _ ?_; try clear hK2 K2
  refine A_seq fun K3 hK3 => ?_
  refine A_seq fun K4 hK4 => ?_
  refine A_reg ?_
  refine r_v (Value.int .i64 (0)) rfl rfl rfl rfl ?_
  refine lx_nil ?_
  refine hK4 _ _ ?_; try clear hK4 K4
  refine A_block ?_
  refine A_forget _ (Sub.pickE (Ls := [[]]) (Ls0 := []) rfl [0] rfl) ?_
  refine A_loop (fun tt ll nn => ∃ (n5 : Nat) (b1_ : List UInt8) (i2_ : Int), (shunterref03_Bytes_l3 N l' n5 b1_ i2_ = some r) ∧ ∃ (vb1_ : Value) (Sb1_ : List Bl), Sl 5 encY vb1_ b1_ Sb1_ ∧ Is [(0, l'v), (3, vb1_), (4, Value.int .i64 (i2_))] (List.flatten [Sb1_]) tt ll ∧ nn = n5 + 1) (N + 1) ?_ ?_
  · exact ⟨N, [], 0, hM, Value.slice none 0 0, [], Sl.nil, is_mk rfl rfl, rfl⟩
  · clear hM; rintro t l _ ⟨n5, b1_, i2_, hM, vb1_, Sb1_, hb1_, ⟨⟨T, rfl⟩, rfl⟩, rfl⟩
    rcases n5 with _ | n5
    · exact absurd hM (by simp [shunterref03_Bytes_l3])
    rw [shunterref03_Bytes_l3] at hM
    refine A_seq fun K6 hK6 => ?_
    refine A_seq fun K7 hK7 => ?_
    refine A_reg ?_
    refine r_v (Value.int .i64 (i2_)) rfl rfl rfl rfl ?_
    refine r_v (l'v) rfl rfl rfl rfl ?_
    refine r_v (Value.int .i64 (((l').length : Int))) rfl rfl rfl (ev_lenSl rfl rfl rfl (Rd.shp hl')) ?_
    refine r_v (Value.bool (decide ((i2_ : Int) < ((l').length : Int)))) rfl rfl rfl rfl ?_
    refine lx_nil ?_
    refine hK7 _ _ ?_; try clear hK7 K7
    refine A_cond (decide ((i2_ : Int) < ((l').length : Int))) rfl (fun hc8 => ?_) (fun hc8 => ?_)
    · replace hM := ifp (of_decide_eq_true hc8) hM
      refine A_skip ?_
      refine hK6 _ _ ?_; try clear hK6 K6
      refine A_seq fun K9 hK9 => ?_
      refine A_block ?_
      refine A_seq fun K10 hK10 => ?_
      refine A_reg ?_
      refine r_v (Value.int .i64 (0)) rfl rfl rfl rfl ?_
      refine lx_nil ?_
      refine hK10 _ _ ?_; try clear hK10 K10
      refine A_seq fun K11 hK11 => ?_
      refine A_seq fun K12 hK12 => ?_
      refine A_reg ?_
      refine r_v (Value.int .i64 (i2_)) rfl rfl rfl rfl ?_
      refine r_v (Value.int .i64 (i2_)) rfl rfl rfl rfl ?_
      refine lx_nil ?_
      refine hK12 _ _ ?_; try clear hK12 K12
      refine A_block ?_
      refine A_forget _ (Sub.pick [Sb1_] [0] rfl) ?_
      refine A_loop (fun tt ll nn => ∃ (n13 : Nat) (n4_ : Int) (k5_ : Int), (shunterref03_Bytes_l6 l' b1_ i2_ (shunterref03_Bytes_l3 N l' n5) n13 n4_ k5_ = some r) ∧ Is [(0, l'v), (3, vb1_), (4, Value.int .i64 (i2_)), (5, Value.int .i64 (n4_)), (6, Value.int .i64 (k5_))] (List.flatten [Sb1_]) tt ll ∧ nn = n13 + 1) (N + 1) ?_ ?_
      · exact ⟨N, 0, i2_, hM, is_mk rfl rfl, rfl⟩
      · clear hM; rintro t l _ ⟨n13, n4_, k5_, hM, ⟨⟨T, rfl⟩, rfl⟩, rfl⟩
        rcases n13 with _ | n13
        · exact absurd hM (by simp [shunterref03_Bytes_l6])
        rw [shunterref03_Bytes_l6] at hM
        refine A_seq fun K14 hK14 => ?_
        refine A_seq fun K15 hK15 => ?_
        refine A_reg ?_
        refine r_v (Value.int .i64 (k5_)) rfl rfl rfl rfl ?_
        refine r_v (Value.int .i64 (i2_)) rfl rfl rfl rfl ?_
        replace hM := ck_some hM; obtain ⟨ck16, hM⟩ := hM
        refine r_v (Value.int .i64 ((i2_ + 8))) rfl rfl (wi64 rfl ck16.1 ck16.2) rfl ?_
        refine r_v (Value.bool (decide ((k5_ : Int) < (i2_ + 8)))) rfl rfl rfl rfl ?_
        refine lx_nil ?_
        refine hK15 _ _ ?_; try clear hK15 K15
        refine A_cond (decide ((k5_ : Int) < (i2_ + 8))) rfl (fun hc17 => ?_) (fun hc17 => ?_)
        · replace hM := ifp (of_decide_eq_true hc17) hM
          refine A_skip ?_
          refine hK14 _ _ ?_; try clear hK14 K14
          refine A_seq fun K18 hK18 => ?_
          refine A_block ?_
          refine A_seq fun K19 hK19 => ?_
          refine A_reg ?_
          refine r_v (Value.int .i64 (n4_)) rfl rfl rfl rfl ?_
          replace hM := ck_some hM; obtain ⟨ck20, hM⟩ := hM
          refine r_v (Value.int .i64 ((2 * n4_))) rfl rfl (wi64 rfl ck20.1 ck20.2) rfl ?_
          refine r_v (Value.int .i64 ((2 * n4_))) rfl rfl rfl rfl ?_
          refine lx_nil ?_
          refine hK19 _ _ ?_; try clear hK19 K19
          refine A_seq fun K21 hK21 => ?_
          refine A_reg ?_
          refine r_v (Value.int .i64 (k5_)) rfl rfl rfl rfl ?_
          refine r_v (l'v) rfl rfl rfl rfl ?_
          refine r_v (Value.int .i64 (((l').length : Int))) rfl rfl rfl (ev_lenSl rfl rfl rfl (Rd.shp hl')) ?_
          refine r_v (Value.bool (decide ((k5_ : Int) < ((l').length : Int)))) rfl rfl rfl rfl ?_
          refine r_v (Value.bool (decide ((k5_ : Int) < ((l').length : Int)))) rfl rfl rfl rfl ?_
          rcases hg22 : (decide ((k5_ : Int) < ((l').length : Int))) with _ | _
          · replace hM := ifn (of_decide_eq_false hg22) hM
            refine r_n false rfl (by decide) rfl ?_
            refine r_n false rfl (by decide) rfl ?_
            refine r_n false rfl (by decide) rfl ?_
            refine r_n false rfl (by decide) rfl ?_
            refine r_v (Value.bool (false)) rfl rfl rfl rfl ?_
            refine lx_nil ?_
            refine hK21 _ _ ?_; try clear hK21 K21
            refine A_cond false rfl (fun h_ => nomatch h_) (fun _ => ?_)
            refine A_skip ?_
            refine hK18 _ _ ?_; try clear hK18 K18
            refine A_reg ?_
            refine r_v (Value.int .i64 (k5_)) rfl rfl rfl rfl ?_
            replace hM := ck_some hM; obtain ⟨ck23, hM⟩ := hM
            refine r_v (Value.int .i64 ((k5_ + 1))) rfl rfl (wi64 rfl ck23.1 ck23.2) rfl ?_
            refine r_v (Value.int .i64 ((k5_ + 1))) rfl rfl rfl rfl ?_
            refine lx_nil ?_
            refine fg _ (Sub.pick [Sb1_] [0] rfl) ?_
            exact ⟨n13 + 1, by omega, n13, (2 * n4_), (k5_ + 1), hM, is_mk rfl rfl, rfl⟩
          · replace hM := ifp (of_decide_eq_true hg22) hM
            refine r_y rfl ?_
            refine r_v (l'v) rfl rfl rfl rfl ?_
            refine r_y rfl ?_
            refine r_v (Value.int .i64 (k5_)) rfl rfl rfl rfl ?_
            refine r_y rfl ?_
            replace hM := ck_some hM; obtain ⟨ck24, hM⟩ := hM
            refine r_v (elA l'v ((k5_).toNat * 1)) rfl rfl rfl (ev_v (ev_idxSl rfl rfl rfl (Rd.shp hl') ck24)) ?_
            refine r_y rfl ?_
            refine r_le (Value.bool ((l')[(k5_).toNat]!)) (En := encB) ((l')[(k5_).toNat]!) ((k5_).toNat) 0 rfl rfl (rd_ro hl') (get_of ck24) rfl ?_
            refine r_v (Value.bool ((l')[(k5_).toNat]!)) rfl rfl rfl rfl ?_
            refine lx_nil ?_
            refine hK21 _ _ ?_; try clear hK21 K21
            refine A_cond ((l')[(k5_).toNat]!) rfl (fun hc25 => ?_) (fun hc25 => ?_)
            · replace hM := ifp hc25 hM
              refine A_reg ?_
              refine r_v (Value.int .i64 ((2 * n4_))) rfl rfl rfl rfl ?_
              replace hM := ck_some hM; obtain ⟨ck26, hM⟩ := hM
              refine r_v (Value.int .i64 (((2 * n4_) + 1))) rfl rfl (wi64 rfl ck26.1 ck26.2) rfl ?_
              refine r_v (Value.int .i64 (((2 * n4_) + 1))) rfl rfl rfl rfl ?_
              refine lx_nil ?_
              refine hK18 _ _ ?_; try clear hK18 K18
              refine A_reg ?_
              refine r_v (Value.int .i64 (k5_)) rfl rfl rfl rfl ?_
              replace hM := ck_some hM; obtain ⟨ck27, hM⟩ := hM
              refine r_v (Value.int .i64 ((k5_ + 1))) rfl rfl (wi64 rfl ck27.1 ck27.2) rfl ?_
              refine r_v (Value.int .i64 ((k5_ + 1))) rfl rfl rfl rfl ?_
              refine lx_nil ?_
              refine fg _ (Sub.pick [Sb1_] [0] rfl) ?_
              exact ⟨n13 + 1, by omega, n13, ((2 * n4_) + 1), (k5_ + 1), hM, is_mk rfl rfl, rfl⟩
            · replace hM := ifn (Bool.eq_false_iff.1 hc25) hM
              refine A_skip ?_
              refine hK18 _ _ ?_; try clear hK18 K18
              refine A_reg ?_
              refine r_v (Value.int .i64 (k5_)) rfl rfl rfl rfl ?_
              replace hM := ck_some hM; obtain ⟨ck28, hM⟩ := hM
              refine r_v (Value.int .i64 ((k5_ + 1))) rfl rfl (wi64 rfl ck28.1 ck28.2) rfl ?_
              refine r_v (Value.int .i64 ((k5_ + 1))) rfl rfl rfl rfl ?_
              refine lx_nil ?_
              refine fg _ (Sub.pick [Sb1_] [0] rfl) ?_
              exact ⟨n13 + 1, by omega, n13, (2 * n4_), (k5_ + 1), hM, is_mk rfl rfl, rfl⟩
        · replace hM := ifn (of_decide_eq_false hc17) hM
          refine A_exit ?_
          refine hK11 _ _ ?_; try clear hK11 K11
          refine A_regC [(some 37, false), (some 38, true)] (conG Try.prog []) ?_
          refine r_v (vb1_) rfl rfl rfl rfl ?_
          refine r_v (Value.int .i64 (n4_)) rfl rfl rfl rfl ?_
          refine r_w (Value.int .u8 ((((byteI (n4_)).toNat : Nat) : Int))) rfl rfl (u8_wrap (n4_)) (fun _ => rfl) ?_
          refine r_bs (cs0 := []) (Ls := [Sb1_]) 5 encY [(byteI (n4_))] [Value.int .u8 ((((byteI (n4_)).toNat : Nat) : Int))] [Value.int .u8 (0)] rfl rfl rfl rfl rfl rfl rfl rfl (by kernel_rfl) (by kernel_rfl) rfl rfl rfl (fun s29 S30 H31 => ?_)
          replace hM := ck_some hM; obtain ⟨ck32, hM⟩ := hM
          refine r_app (cs0 := []) (Ls := [Sb1_, S30]) 0 (En := encY) rfl rfl rfl rfl rfl hb1_ rfl (rd_own H31 (mem_chunk (Ls := [Sb1_, S30]) (k := 1) rfl rfl)) rfl rfl rfl rfl rfl (app_b ck32 rfl) (app_m ck32 rfl) rfl (fun s33 S34 H35 => ?_)
          refine r_v (s33) rfl rfl rfl rfl ?_
          refine lx_nil ?_
          refine hK9 _ _ ?_; try clear hK9 K9
          refine A_reg ?_
          refine r_v (Value.int .i64 (i2_)) rfl rfl rfl rfl ?_
          replace hM := ck_some hM; obtain ⟨ck36, hM⟩ := hM
          refine r_v (Value.int .i64 ((i2_ + 8))) rfl rfl (wi64 rfl ck36.1 ck36.2) rfl ?_
          refine r_v (Value.int .i64 ((i2_ + 8))) rfl rfl rfl rfl ?_
          refine lx_nil ?_
          refine fg _ (Sub.pick [S34, S30] [0] rfl) ?_
          exact ⟨n5 + 1, by omega, n5, (b1_ ++ ([(byteI (n4_))])), (i2_ + 8), hM, s33, S34, H35, is_mk rfl rfl, rfl⟩
    · replace hM := ifn (of_decide_eq_false hc8) hM
      refine A_exit ?_
      refine hK3 _ _ ?_; try clear hK3 K3
      refine A_seq fun K37 hK37 => ?_
      refine A_reg ?_
      refine r_v (vb1_) rfl rfl rfl rfl ?_
      refine r_v (vb1_) rfl rfl rfl rfl ?_
      refine lx_nil ?_
      refine hK37 _ _ ?_; try clear hK37 K37
      obtain rfl := Option.some.inj hM
      refine A_ret (fun hn => ends1 (v0 := vb1_) hb1_ (sub_one (Sub.pick [Sb1_] [0] rfl)) rfl (res1 rfl))
def shunterref03_Put_l4 (N : Nat) (at' : Int) (r16 : List Bool) : Nat → List Bool → Int → Option ((List UInt8) × Int)
  | 0, _, _ => none
  | n23 + 1, s2_, i3_ => if (i3_ : Int) < ((r16).length : Int) then ck ((-9223372036854775808 ≤ (at' + i3_) ∧ (at' + i3_) ≤ 9223372036854775807)) (ck (0 ≤ i3_ ∧ i3_ < ((r16).length : Int)) (ck (0 ≤ (at' + i3_) ∧ (at' + i3_) < ((s2_).length : Int)) (ck ((-9223372036854775808 ≤ (i3_ + 1) ∧ (i3_ + 1) ≤ 9223372036854775807)) ((shunterref03_Put_l4 N at' r16 n23) ((s2_).set (((at' + i3_)).toNat) ((r16)[(i3_).toNat]!)) ((i3_ + 1)))))) else (shunterref03_Bytes_m N s2_).bind fun r35 => some (r35, 0)
def shunterref03_Put_k1 (N : Nat) (at' : Int) (v_0 : Int) (v_1 : BitVec 128) (r10 : List Bool) : Option ((List UInt8) × Int) := (shunterref03_Of_m N v_0 v_1).bind fun r16 => shunterref03_Put_l4 N at' r16 N (r10) (0)
def shunterref03_Put_m (N : Nat) (b : List UInt8) (at' : Int) (v_0 : Int) (v_1 : BitVec 128) : Option ((List UInt8) × Int) := (shunterref02_May_m N v_0 v_1).bind fun r5 => if (r5) = true then (shunterref03_Bits_m N b).bind fun r10 => if (at' : Int) < 0 then some ([], 7) else if (at' : Int) > ((r10).length : Int) then some ([], 7) else ck ((-9223372036854775808 ≤ (((r10).length : Int) - at') ∧ (((r10).length : Int) - at') ≤ 9223372036854775807)) (if (v_0 : Int) > (((r10).length : Int) - at') then some ([], 7) else shunterref03_Put_k1 N at' v_0 v_1 r10 ) else some ([], 1)
set_option maxRecDepth 100000 in
set_option maxHeartbeats 400000 in
theorem shunterref03_Put_g (N : Nat) (b : List UInt8) (at' : Int) (v_0 : Int) (v_1 : BitVec 128) (r : (List UInt8) × Int) (hM : shunterref03_Put_m N b at' v_0 v_1 = some r) (ro : Addr → Option Value) (bv : Value) (hb : Rd encY ro bv b) : Does Try.prog 13 #[bv, Value.int .i64 (at'), Value.agg #[Value.int .i64 (v_0), U (hi (v_1)), U (lo (v_1))]] ro [] (p1 (fun s_ => Value.tuple #[s_, Value.int .i64 (r.2)]) 5 encY r.1) := by
  unfold shunterref03_Put_m at hM
  refine does_of_A follows Try.func13 rfl 52 rfl (upd (upd (upd (fun _ => undef) 2 (Value.agg #[Value.int .i64 (v_0), U (hi (v_1)), U (lo (v_1))])) 1 (Value.int .i64 (at'))) 0 (bv)) (by funext k; match k with | 0 => rfl | 1 => rfl | 2 => rfl | k + 3 => rfl) (fun base0_ => ?_)
  refine A_seq fun K1 hK1 => ?_
  refine A_reg ?_
  refine r_a (26, #[Value.int .i64 (v_0), U (hi (v_1)), U (lo (v_1))]) rfl rfl rfl (fun b2 => ?_) (.inr rfl)
  refine r_v (Value.slice none 0 0) rfl rfl rfl rfl ?_
  refine r_v (Value.int .i64 (0)) rfl rfl rfl rfl ?_
  refine lx_nil ?_
  refine hK1 _ _ ?_; try clear hK1 K1
  refine A_seq fun K3 hK3 => ?_
  refine A_seq fun K4 hK4 => ?_
  refine A_reg ?_
  refine r_l (Value.agg #[Value.int .i64 (v_0), U (hi (v_1)), U (lo (v_1))]) 0 _ _ _ _ rfl rfl rfl rfl rfl ?_
  replace hM := bind_sm hM; obtain ⟨r5, hr6, hM⟩ := hM
  refine r_c (Value.bool (r5)) rfl _ _ (ev_callF rfl call_17 rfl) (shunterref02_May_g N v_0 v_1 _ hr6) ?_
  refine r_v (Value.bool (!(r5))) rfl rfl rfl rfl ?_
  refine lx_nil ?_
  refine hK4 _ _ ?_; try clear hK4 K4
  refine A_cond (!(r5)) rfl (fun hc7 => ?_) (fun hc7 => ?_)
  · replace hM := ifn (Bool.eq_false_iff.1 (not_t hc7)) hM
    refine A_seq fun K8 hK8 => ?_
    refine A_reg ?_
    refine r_v (Value.slice none 0 0) rfl rfl rfl rfl ?_
    refine r_v (Value.int .i64 (1)) rfl rfl rfl rfl ?_
    refine lx_nil ?_
    refine hK8 _ _ ?_; try clear hK8 K8
    obtain rfl := Option.some.inj hM
    refine A_ret (fun hn => ends1 (v0 := Value.tuple #[Value.slice none 0 0, Value.int .i64 (1)]) Sl.nil (Sub.nil _) rfl (res2 rfl rfl))
  · replace hM := ifp (not_f hc7) hM
    refine A_skip ?_
    refine hK3 _ _ ?_; try clear hK3 K3
    refine A_seq fun K9 hK9 => ?_
    refine A_regC [(some 15, false)] (conG Try.prog [(15, fun v_ L_ U_ => ∀ u0_, shunterref03_Bits_m N b = some u0_ → (p1 (fun s_ => s_) 4 encB (u0_)) v_ L_ U_)]) ?_
    refine r_v (bv) rfl rfl rfl rfl ?_
    replace hM := bind_sm hM; obtain ⟨r10, hr11, hM⟩ := hM
    refine r_g1 (Ls := [[(b2, 26, #[Value.int .i64 (v_0), U (hi (v_1)), U (lo (v_1))])]]) (fun s12 => s12) 4 encB (r10) 15 _ rfl rfl rfl (ev_callF rfl call_15 rfl) (fun own_ nw_ hs_ => shunterref03_Bits_g N b _ hr11 hs_.view bv ((rd_ro hb) own_ nw_ hs_)) (fun _ _ v_ L_ U_ => ⟨fun h_ => h_ _ hr11, fun h_ => by intro _ e_; cases Option.some.inj (e_.symm.trans hr11); exact h_⟩) (fun s12 S13 H14 => ?_)
    refine r_v (s12) rfl rfl rfl rfl ?_
    refine lx_nil ?_
    refine hK9 _ _ ?_; try clear hK9 K9
    refine A_cut (fun tt ll => (shunterref03_Put_k1 N at' v_0 v_1 r10  = some r) ∧ Is [(1, Value.int .i64 (at')), (5, Value.pointer (some ⟨b2, 0, none⟩)), (8, s12)] (List.flatten [[(b2, 26, #[Value.int .i64 (v_0), U (hi (v_1)), U (lo (v_1))])], S13]) tt ll) ?_ ?_
    · refine A_seq fun K40 hK40 => ?_
      refine A_reg ?_
      refine r_v (Value.int .i64 (at')) rfl rfl rfl rfl ?_
      refine r_v (Value.bool (decide ((at' : Int) < 0))) rfl rfl rfl rfl ?_
      refine r_v (Value.bool (decide ((at' : Int) < 0))) rfl rfl rfl rfl ?_
      rcases hg41 : (decide ((at' : Int) < 0)) with _ | _
      · replace hM := ifn (of_decide_eq_false hg41) hM
        refine r_y rfl ?_
        refine r_v (Value.int .i64 (at')) rfl rfl rfl rfl ?_
        refine r_y rfl ?_
        refine r_v (s12) rfl rfl rfl rfl ?_
        refine r_y rfl ?_
        refine r_v (Value.int .i64 (((r10).length : Int))) rfl rfl rfl (ev_lenSl rfl rfl rfl (Sl.shp H14)) ?_
        refine r_y rfl ?_
        refine r_v (Value.bool (decide ((at' : Int) > ((r10).length : Int)))) rfl rfl rfl rfl ?_
        refine r_v (Value.bool (decide ((at' : Int) > ((r10).length : Int)))) rfl rfl rfl rfl ?_
        refine r_v (Value.bool (decide ((at' : Int) > ((r10).length : Int)))) rfl rfl rfl rfl ?_
        rcases hg42 : (decide ((at' : Int) > ((r10).length : Int))) with _ | _
        · replace hM := ifn (of_decide_eq_false hg42) hM
          refine r_y rfl ?_
          refine r_v (Value.pointer (some ⟨b2, 0, none⟩)) rfl rfl rfl rfl ?_
          refine r_y rfl ?_
          refine r_l (Value.int .i64 (v_0)) 0 _ _ _ _ rfl rfl rfl rfl rfl ?_
          refine r_y rfl ?_
          refine r_v (s12) rfl rfl rfl rfl ?_
          refine r_y rfl ?_
          refine r_v (Value.int .i64 (((r10).length : Int))) rfl rfl rfl (ev_lenSl rfl rfl rfl (Sl.shp H14)) ?_
          refine r_y rfl ?_
          refine r_v (Value.int .i64 (at')) rfl rfl rfl rfl ?_
          refine r_y rfl ?_
          replace hM := ck_some hM; obtain ⟨ck43, hM⟩ := hM
          refine r_v (Value.int .i64 ((((r10).length : Int) - at'))) rfl rfl (wi64 rfl ck43.1 ck43.2) rfl ?_
          refine r_y rfl ?_
          refine r_v (Value.bool (decide ((v_0 : Int) > (((r10).length : Int) - at')))) rfl rfl rfl rfl ?_
          refine r_v (Value.bool (decide ((v_0 : Int) > (((r10).length : Int) - at')))) rfl rfl rfl rfl ?_
          refine lx_nil ?_
          refine hK40 _ _ ?_; try clear hK40 K40
          refine A_cond (decide ((v_0 : Int) > (((r10).length : Int) - at'))) rfl (fun hc44 => ?_) (fun hc44 => ?_)
          · replace hM := ifp (of_decide_eq_true hc44) hM
            refine A_seq fun K45 hK45 => ?_
            refine A_reg ?_
            refine r_v (Value.slice none 0 0) rfl rfl rfl rfl ?_
            refine r_v (Value.int .i64 (7)) rfl rfl rfl rfl ?_
            refine lx_nil ?_
            refine hK45 _ _ ?_; try clear hK45 K45
            refine A_gen [(6, Value.slice none 0 0), (7, Value.int .i64 (7))] rfl (fun T => ?_)
            obtain rfl := Option.some.inj hM
            refine A_ret (fun hn => ends1 (v0 := Value.tuple #[Value.slice none 0 0, Value.int .i64 (7)]) Sl.nil (Sub.nil _) rfl (res2 rfl rfl))
          · replace hM := ifn (of_decide_eq_false hc44) hM
            refine A_skip ?_
            refine fg _ (Sub.pick [[(b2, 26, #[Value.int .i64 (v_0), U (hi (v_1)), U (lo (v_1))])], S13] [0, 1] rfl) ?_
            exact ⟨hM, is_mk rfl rfl⟩
        · replace hM := ifp (of_decide_eq_true hg42) hM
          refine r_n true rfl (by decide) rfl ?_
          refine r_n true rfl (by decide) rfl ?_
          refine r_n true rfl (by decide) rfl ?_
          refine r_n true rfl (by decide) rfl ?_
          refine r_n true rfl (by decide) rfl ?_
          refine r_n true rfl (by decide) rfl ?_
          refine r_n true rfl (by decide) rfl ?_
          refine r_v (Value.bool (true)) rfl rfl rfl rfl ?_
          refine lx_nil ?_
          refine hK40 _ _ ?_; try clear hK40 K40
          refine A_cond true rfl (fun _ => ?_) (fun h_ => nomatch h_)
          refine A_seq fun K46 hK46 => ?_
          refine A_reg ?_
          refine r_v (Value.slice none 0 0) rfl rfl rfl rfl ?_
          refine r_v (Value.int .i64 (7)) rfl rfl rfl rfl ?_
          refine lx_nil ?_
          refine hK46 _ _ ?_; try clear hK46 K46
          refine A_gen [(6, Value.slice none 0 0), (7, Value.int .i64 (7))] rfl (fun T => ?_)
          obtain rfl := Option.some.inj hM
          refine A_ret (fun hn => ends1 (v0 := Value.tuple #[Value.slice none 0 0, Value.int .i64 (7)]) Sl.nil (Sub.nil _) rfl (res2 rfl rfl))
      · replace hM := ifp (of_decide_eq_true hg41) hM
        refine r_n true rfl (by decide) rfl ?_
        refine r_n true rfl (by decide) rfl ?_
        refine r_n true rfl (by decide) rfl ?_
        refine r_n true rfl (by decide) rfl ?_
        refine r_v (Value.bool (true)) rfl rfl rfl rfl ?_
        refine r_v (Value.bool (true)) rfl rfl rfl rfl ?_
        refine r_n true rfl (by decide) rfl ?_
        refine r_n true rfl (by decide) rfl ?_
        refine r_n true rfl (by decide) rfl ?_
        refine r_n true rfl (by decide) rfl ?_
        refine r_n true rfl (by decide) rfl ?_
        refine r_n true rfl (by decide) rfl ?_
        refine r_n true rfl (by decide) rfl ?_
        refine r_v (Value.bool (true)) rfl rfl rfl rfl ?_
        refine lx_nil ?_
        refine hK40 _ _ ?_; try clear hK40 K40
        refine A_cond true rfl (fun _ => ?_) (fun h_ => nomatch h_)
        refine A_seq fun K47 hK47 => ?_
        refine A_reg ?_
        refine r_v (Value.slice none 0 0) rfl rfl rfl rfl ?_
        refine r_v (Value.int .i64 (7)) rfl rfl rfl rfl ?_
        refine lx_nil ?_
        refine hK47 _ _ ?_; try clear hK47 K47
        refine A_gen [(6, Value.slice none 0 0), (7, Value.int .i64 (7))] rfl (fun T => ?_)
        obtain rfl := Option.some.inj hM
        refine A_ret (fun hn => ends1 (v0 := Value.tuple #[Value.slice none 0 0, Value.int .i64 (7)]) Sl.nil (Sub.nil _) rfl (res2 rfl rfl))
    · clear hM; rintro t l ⟨hM, ⟨T, rfl⟩, rfl⟩
      unfold shunterref03_Put_k1 at hM
      refine A_seq fun K15 hK15 => ?_
      refine A_regC [(some 34, false)] (conG Try.prog [(34, fun v_ L_ U_ => ∀ u0_, shunterref03_Of_m N v_0 v_1 = some u0_ → (p1 (fun s_ => s_) 4 encB (u0_)) v_ L_ U_)]) ?_
      refine r_l (Value.agg #[Value.int .i64 (v_0), U (hi (v_1)), U (lo (v_1))]) 0 _ _ _ _ rfl rfl rfl rfl rfl ?_
      replace hM := bind_sm hM; obtain ⟨r16, hr17, hM⟩ := hM
      refine r_g1 (Ls := [[(b2, 26, #[Value.int .i64 (v_0), U (hi (v_1)), U (lo (v_1))])], S13]) (fun s18 => s18) 4 encB (r16) 18 _ rfl rfl rfl (ev_callF rfl call_18 rfl) (fun own_ nw_ hs_ => shunterref03_Of_g N v_0 v_1 _ hr17 hs_.view ) (fun _ _ v_ L_ U_ => ⟨fun h_ => h_ _ hr17, fun h_ => by intro _ e_; cases Option.some.inj (e_.symm.trans hr17); exact h_⟩) (fun s18 S19 H20 => ?_)
      refine r_v (s18) rfl rfl rfl rfl ?_
      refine lx_nil ?_
      refine hK15 _ _ ?_; try clear hK15 K15
      refine A_seq fun K21 hK21 => ?_
      refine A_seq fun K22 hK22 => ?_
      refine A_reg ?_
      refine r_v (Value.int .i64 (0)) rfl rfl rfl rfl ?_
      refine lx_nil ?_
      refine hK22 _ _ ?_; try clear hK22 K22
      refine A_block ?_
      refine A_forget _ (Sub.pick [[(b2, 26, #[Value.int .i64 (v_0), U (hi (v_1)), U (lo (v_1))])], S13, S19] [2, 1] rfl) ?_
      refine A_loop (fun tt ll nn => ∃ (n23 : Nat) (s2_ : List Bool) (i3_ : Int), (shunterref03_Put_l4 N at' r16 n23 s2_ i3_ = some r) ∧ ∃ (Ss2_ : List Bl), Sl 4 encB s12 s2_ Ss2_ ∧ Is [(1, Value.int .i64 (at')), (8, s12), (9, s18), (10, Value.int .i64 (i3_))] (List.flatten [S19, Ss2_]) tt ll ∧ nn = n23 + 1) (N + 1) ?_ ?_
      · exact ⟨N, r10, 0, hM, S13, H14, is_mk rfl rfl, rfl⟩
      · clear hM; rintro t l _ ⟨n23, s2_, i3_, hM, Ss2_, hs2_, ⟨⟨T, rfl⟩, rfl⟩, rfl⟩
        rcases n23 with _ | n23
        · exact absurd hM (by simp [shunterref03_Put_l4])
        rw [shunterref03_Put_l4] at hM
        refine A_seq fun K24 hK24 => ?_
        refine A_seq fun K25 hK25 => ?_
        refine A_reg ?_
        refine r_v (Value.int .i64 (i3_)) rfl rfl rfl rfl ?_
        refine r_v (s18) rfl rfl rfl rfl ?_
        refine r_v (Value.int .i64 (((r16).length : Int))) rfl rfl rfl (ev_lenSl rfl rfl rfl (Sl.shp H20)) ?_
        refine r_v (Value.bool (decide ((i3_ : Int) < ((r16).length : Int)))) rfl rfl rfl rfl ?_
        refine lx_nil ?_
        refine hK25 _ _ ?_; try clear hK25 K25
        refine A_cond (decide ((i3_ : Int) < ((r16).length : Int))) rfl (fun hc26 => ?_) (fun hc26 => ?_)
        · replace hM := ifp (of_decide_eq_true hc26) hM
          refine A_skip ?_
          refine hK24 _ _ ?_; try clear hK24 K24
          refine A_seq fun K27 hK27 => ?_
          refine A_block ?_
          refine A_reg ?_
          refine r_v (s12) rfl rfl rfl rfl ?_
          refine r_v (Value.int .i64 (at')) rfl rfl rfl rfl ?_
          refine r_v (Value.int .i64 (i3_)) rfl rfl rfl rfl ?_
          replace hM := ck_some hM; obtain ⟨ck28, hM⟩ := hM
          refine r_v (Value.int .i64 ((at' + i3_))) rfl rfl (wi64 rfl ck28.1 ck28.2) rfl ?_
          refine r_v (s18) rfl rfl rfl rfl ?_
          refine r_v (Value.int .i64 (i3_)) rfl rfl rfl rfl ?_
          replace hM := ck_some hM; obtain ⟨ck29, hM⟩ := hM
          refine r_v (elA s18 ((i3_).toNat * 1)) rfl rfl rfl (ev_v (ev_idxSl rfl rfl rfl (Sl.shp H20) ck29)) ?_
          refine r_le (Value.bool ((r16)[(i3_).toNat]!)) (En := encB) ((r16)[(i3_).toNat]!) ((i3_).toNat) 0 rfl rfl (rd_own H20 (mem_chunk (Ls := [S19, Ss2_]) (k := 0) rfl rfl)) (get_of ck29) rfl ?_
          replace hM := ck_some hM; obtain ⟨ck30, hM⟩ := hM
          refine r_v (elA s12 (((at' + i3_)).toNat * 1)) rfl rfl rfl (ev_v (ev_idxSl rfl rfl rfl (Sl.shp hs2_) ck30)) ?_
          refine r_se (Ls := [S19, Ss2_]) 1 (En := encB) ((s2_)[((at' + i3_)).toNat]!) ((r16)[(i3_).toNat]!) (((at' + i3_)).toNat) 0 rfl rfl rfl hs2_ (get_of ck30) rfl rfl rfl (one_all rfl) rfl (fun S31 H32 => ?_)
          refine lx_nil ?_
          refine hK27 _ _ ?_; try clear hK27 K27
          refine A_reg ?_
          refine r_v (Value.int .i64 (i3_)) rfl rfl rfl rfl ?_
          replace hM := ck_some hM; obtain ⟨ck33, hM⟩ := hM
          refine r_v (Value.int .i64 ((i3_ + 1))) rfl rfl (wi64 rfl ck33.1 ck33.2) rfl ?_
          refine r_v (Value.int .i64 ((i3_ + 1))) rfl rfl rfl rfl ?_
          refine lx_nil ?_
          refine fg _ (Sub.pick [S19, S31] [0, 1] rfl) ?_
          exact ⟨n23 + 1, by omega, n23, (s2_).set (((at' + i3_)).toNat) ((r16)[(i3_).toNat]!), (i3_ + 1), hM, S31, H32, is_mk rfl rfl, rfl⟩
        · replace hM := ifn (of_decide_eq_false hc26) hM
          refine A_exit ?_
          refine hK21 _ _ ?_; try clear hK21 K21
          refine A_seq fun K34 hK34 => ?_
          refine A_regC [(some 51, false)] (conG Try.prog [(51, fun v_ L_ U_ => ∀ u0_, shunterref03_Bytes_m N s2_ = some u0_ → (p1 (fun s_ => s_) 5 encY (u0_)) v_ L_ U_)]) ?_
          refine r_v (s12) rfl rfl rfl rfl ?_
          replace hM := bind_sm hM; obtain ⟨r35, hr36, hM⟩ := hM
          refine r_g1 (Ls := [S19, Ss2_]) (fun s37 => s37) 5 encY (r35) 21 _ rfl rfl rfl (ev_callF rfl call_21 rfl) (fun own_ nw_ hs_ => shunterref03_Bytes_g N s2_ _ hr36 hs_.view s12 ((rd_own hs2_ (mem_chunk (Ls := [S19, Ss2_]) (k := 1) rfl rfl)) own_ nw_ hs_)) (fun _ _ v_ L_ U_ => ⟨fun h_ => h_ _ hr36, fun h_ => by intro _ e_; cases Option.some.inj (e_.symm.trans hr36); exact h_⟩) (fun s37 S38 H39 => ?_)
          refine r_v (s37) rfl rfl rfl rfl ?_
          refine r_v (Value.int .i64 (0)) rfl rfl rfl rfl ?_
          refine lx_nil ?_
          refine hK34 _ _ ?_; try clear hK34 K34
          obtain rfl := Option.some.inj hM
          refine A_ret (fun hn => ends1 (v0 := Value.tuple #[s37, Value.int .i64 (0)]) H39 (sub_one (Sub.pick [S19, Ss2_, S38] [2] rfl)) rfl (res2 rfl rfl))
def bits_Row_Bytes_v1_m (_ : Nat) (r_0 : List UInt8) (r_1 : Int) (b : List UInt8) : Option (Int × (List UInt8) × Int) := ck (0 ≤ r_1 ∧ r_1 ≤ 9223372036854775807) (if ((r_1) % 8 : Int) ≠ 0 then some (13, r_0, r_1) else ck ((-9223372036854775808 ≤ (9216 - ((r_0).length : Int)) ∧ (9216 - ((r_0).length : Int)) ≤ 9223372036854775807)) (if (((b).length : Int) : Int) > (9216 - ((r_0).length : Int)) then some (2, r_0, r_1) else ck ((r_0).length + (b).length ≤ 140737488355328) (ck ((-9223372036854775808 ≤ (8 * ((b).length : Int)) ∧ (8 * ((b).length : Int)) ≤ 9223372036854775807)) (ck ((-9223372036854775808 ≤ (r_1 + (8 * ((b).length : Int))) ∧ (r_1 + (8 * ((b).length : Int))) ≤ 9223372036854775807)) (some (0, (r_0 ++ b), (r_1 + (8 * ((b).length : Int)))))))))
set_option maxRecDepth 100000 in
set_option maxHeartbeats 400000 in
theorem bits_Row_Bytes_v1_g (N : Nat) (r_0 : List UInt8) (r_1 : Int) (b : List UInt8) (r : Int × (List UInt8) × Int) (hM : bits_Row_Bytes_v1_m N r_0 r_1 b = some r) (ro : Addr → Option Value) (br : Nat) (r_0v : Value) (Sr_0 : List Bl) (hr_0 : Sl 5 encY r_0v r_0 Sr_0) (bv : Value) (hb : Rd encY ro bv b) : Does Try.prog 14 #[Value.pointer (some ⟨br, 0, none⟩), bv] ro (List.flatten [[(br, 36, #[r_0v, Value.int .i64 (r_1)])], Sr_0]) (pO (List.flatten [[(br, 36, #[r_0v, Value.int .i64 (r_1)])], Sr_0]) (oS 5 encY r.2.1 fun s_0 => (oE (Value.int .i64 (r.1)) [[(br, 36, #[s_0, Value.int .i64 (r.2.2)])]]))) := by
  unfold bits_Row_Bytes_v1_m at hM
  refine doesO_of_A follows Try.func14 rfl 41 rfl (upd (upd (fun _ => undef) 1 (bv)) 0 (Value.pointer (some ⟨br, 0, none⟩))) (by funext k; match k with | 0 => rfl | 1 => rfl | k + 2 => rfl) (fun _ _ h_ _ => h_) (fun base0_ => ?_)
  refine A_seq fun K1 hK1 => ?_
  refine A_reg ?_
  refine r_v (Value.int .i64 (0)) rfl rfl rfl rfl ?_
  refine lx_nil ?_
  refine hK1 _ _ ?_; try clear hK1 K1
  refine A_seq fun K2 hK2 => ?_
  refine A_seq fun K3 hK3 => ?_
  refine A_reg ?_
  refine r_v (Value.pointer (some ⟨br, 0, none⟩)) rfl rfl rfl rfl ?_
  refine r_v (Value.bool (false)) rfl rfl rfl rfl ?_
  refine lx_nil ?_
  refine hK3 _ _ ?_; try clear hK3 K3
  refine A_cond false rfl (fun h_ => nomatch h_) (fun _ => ?_)
  refine A_skip ?_
  refine hK2 _ _ ?_; try clear hK2 K2
  refine A_seq fun K4 hK4 => ?_
  refine A_seq fun K5 hK5 => ?_
  refine A_reg ?_
  refine r_v (Value.pointer (some ⟨br, 0, none⟩)) rfl rfl rfl rfl ?_
  refine r_v (Value.pointer (some ⟨br, 0, none⟩)) rfl rfl rfl rfl ?_
  refine r_v (Value.pointer (some ⟨br, 1, none⟩)) rfl rfl rfl rfl ?_
  refine r_l (Value.int .i64 (r_1)) 0 _ _ _ _ rfl rfl rfl rfl rfl ?_
  replace hM := ck_some hM; obtain ⟨ck6, hM⟩ := hM
  refine r_v (Value.int .i64 ((r_1) % 8)) rfl rfl (rem_i64 ck6.1) rfl ?_
  refine r_v (Value.bool ((((r_1) % 8 : Int) != 0))) rfl rfl rfl rfl ?_
  refine lx_nil ?_
  refine hK5 _ _ ?_; try clear hK5 K5
  refine A_cond ((((r_1) % 8 : Int) != 0)) rfl (fun hc7 => ?_) (fun hc7 => ?_)
  · replace hM := ifp (bne_iff_ne.1 hc7) hM
    refine A_seq fun K8 hK8 => ?_
    refine A_reg ?_
    refine r_v (Value.int .i64 (13)) rfl rfl rfl rfl ?_
    refine lx_nil ?_
    refine hK8 _ _ ?_; try clear hK8 K8
    obtain rfl := Option.some.inj hM
    refine A_ret (fun hn => endsO (v0 := Value.int .i64 (13)) (O := [Sr_0, [(br, 36, #[r_0v, Value.int .i64 (r_1)])]]) (res1 rfl) (Sub.pick [[(br, 36, #[r_0v, Value.int .i64 (r_1)])], Sr_0] [1, 0] rfl) ⟨r_0v, Sr_0, _, hr_0, ⟨rfl, rfl⟩, rfl⟩)
  · replace hM := ifn (bne_f hc7) hM
    refine A_skip ?_
    refine hK4 _ _ ?_; try clear hK4 K4
    refine A_seq fun K9 hK9 => ?_
    refine A_seq fun K10 hK10 => ?_
    refine A_reg ?_
    refine r_v (bv) rfl rfl rfl rfl ?_
    refine r_v (Value.int .i64 (((b).length : Int))) rfl rfl rfl (ev_lenSl rfl rfl rfl (Rd.shp hb)) ?_
    refine r_v (Value.pointer (some ⟨br, 0, none⟩)) rfl rfl rfl rfl ?_
    refine r_v (Value.pointer (some ⟨br, 0, none⟩)) rfl rfl rfl rfl ?_
    refine r_v (Value.pointer (some ⟨br, 0, none⟩)) rfl rfl rfl rfl ?_
    refine r_l (r_0v) 0 _ _ _ _ rfl rfl rfl rfl rfl ?_
    refine r_v (Value.int .i64 (((r_0).length : Int))) rfl rfl rfl (ev_lenSl rfl rfl rfl (Sl.shp hr_0)) ?_
    replace hM := ck_some hM; obtain ⟨ck11, hM⟩ := hM
    refine r_v (Value.int .i64 ((9216 - ((r_0).length : Int)))) rfl rfl (wi64 rfl ck11.1 ck11.2) rfl ?_
    refine r_v (Value.bool (decide ((((b).length : Int) : Int) > (9216 - ((r_0).length : Int))))) rfl rfl rfl rfl ?_
    refine lx_nil ?_
    refine hK10 _ _ ?_; try clear hK10 K10
    refine A_cond (decide ((((b).length : Int) : Int) > (9216 - ((r_0).length : Int)))) rfl (fun hc12 => ?_) (fun hc12 => ?_)
    · replace hM := ifp (of_decide_eq_true hc12) hM
      refine A_seq fun K13 hK13 => ?_
      refine A_reg ?_
      refine r_v (Value.int .i64 (2)) rfl rfl rfl rfl ?_
      refine lx_nil ?_
      refine hK13 _ _ ?_; try clear hK13 K13
      obtain rfl := Option.some.inj hM
      refine A_ret (fun hn => endsO (v0 := Value.int .i64 (2)) (O := [Sr_0, [(br, 36, #[r_0v, Value.int .i64 (r_1)])]]) (res1 rfl) (Sub.pick [[(br, 36, #[r_0v, Value.int .i64 (r_1)])], Sr_0] [1, 0] rfl) ⟨r_0v, Sr_0, _, hr_0, ⟨rfl, rfl⟩, rfl⟩)
    · replace hM := ifn (of_decide_eq_false hc12) hM
      refine A_skip ?_
      refine hK9 _ _ ?_; try clear hK9 K9
      refine A_seq fun K14 hK14 => ?_
      refine A_regC [(some 28, true)] (conG Try.prog []) ?_
      refine r_v (Value.pointer (some ⟨br, 0, none⟩)) rfl rfl rfl rfl ?_
      refine r_v (Value.pointer (some ⟨br, 0, none⟩)) rfl rfl rfl rfl ?_
      refine r_v (Value.pointer (some ⟨br, 0, none⟩)) rfl rfl rfl rfl ?_
      refine r_v (Value.pointer (some ⟨br, 0, none⟩)) rfl rfl rfl rfl ?_
      refine r_l (r_0v) 0 _ _ _ _ rfl rfl rfl rfl rfl ?_
      refine r_v (bv) rfl rfl rfl rfl ?_
      replace hM := ck_some hM; obtain ⟨ck15, hM⟩ := hM
      refine r_app (cs0 := []) (Ls := [[(br, 36, #[r_0v, Value.int .i64 (r_1)])], Sr_0]) 1 (En := encY) rfl rfl rfl rfl rfl hr_0 rfl (rd_ro hb) rfl rfl rfl rfl rfl (app_b ck15 rfl) (app_m ck15 rfl) rfl (fun s16 S17 H18 => ?_)
      refine r_v (Value.pointer (some ⟨br, 0, none⟩)) rfl rfl rfl rfl ?_
      refine r_v (Value.pointer (some ⟨br, 0, none⟩)) rfl rfl rfl rfl ?_
      refine r_s (List.flatten [[(br, 36, #[s16, Value.int .i64 (r_1)])], S17]) 0 _ _ _ (#[r_0v, Value.int .i64 (r_1)]) (#[s16]) (#[s16, Value.int .i64 (r_1)]) rfl rfl rfl (cells_sl rfl (Sl.shp H18)) (.ofS rfl rfl (all_cons' (Shp.one (Sl.shp H18)) all_nil')) rfl rfl ?_
      refine lx_nil ?_
      refine hK14 _ _ ?_; try clear hK14 K14
      refine A_gen [(0, Value.pointer (some ⟨br, 0, none⟩)), (1, bv)] rfl (fun T => ?_)
      refine A_seq fun K19 hK19 => ?_
      refine A_reg ?_
      refine r_v (Value.pointer (some ⟨br, 0, none⟩)) rfl rfl rfl rfl ?_
      refine r_v (Value.pointer (some ⟨br, 0, none⟩)) rfl rfl rfl rfl ?_
      refine r_v (Value.pointer (some ⟨br, 1, none⟩)) rfl rfl rfl rfl ?_
      refine r_l (Value.int .i64 (r_1)) 0 _ _ _ _ rfl rfl rfl rfl rfl ?_
      refine r_v (bv) rfl rfl rfl rfl ?_
      refine r_v (Value.int .i64 (((b).length : Int))) rfl rfl rfl (ev_lenSl rfl rfl rfl (Rd.shp hb)) ?_
      replace hM := ck_some hM; obtain ⟨ck20, hM⟩ := hM
      refine r_v (Value.int .i64 ((8 * ((b).length : Int)))) rfl rfl (wi64 rfl ck20.1 ck20.2) rfl ?_
      replace hM := ck_some hM; obtain ⟨ck21, hM⟩ := hM
      refine r_v (Value.int .i64 ((r_1 + (8 * ((b).length : Int))))) rfl rfl (wi64 rfl ck21.1 ck21.2) rfl ?_
      refine r_v (Value.pointer (some ⟨br, 0, none⟩)) rfl rfl rfl rfl ?_
      refine r_v (Value.pointer (some ⟨br, 1, none⟩)) rfl rfl rfl rfl ?_
      refine r_s (List.flatten [[(br, 36, #[s16, Value.int .i64 ((r_1 + (8 * ((b).length : Int))))])], S17]) 0 _ _ _ (#[s16, Value.int .i64 (r_1)]) (#[Value.int .i64 ((r_1 + (8 * ((b).length : Int))))]) (#[s16, Value.int .i64 ((r_1 + (8 * ((b).length : Int))))]) rfl rfl rfl rfl (.of rfl rfl) rfl rfl ?_
      refine lx_nil ?_
      refine hK19 _ _ ?_; try clear hK19 K19
      refine A_seq fun K22 hK22 => ?_
      refine A_reg ?_
      refine r_v (Value.int .i64 (0)) rfl rfl rfl rfl ?_
      refine lx_nil ?_
      refine hK22 _ _ ?_; try clear hK22 K22
      obtain rfl := Option.some.inj hM
      refine A_ret (fun hn => endsO (v0 := Value.int .i64 (0)) (O := [S17, [(br, 36, #[s16, Value.int .i64 ((r_1 + (8 * ((b).length : Int))))])]]) (res1 rfl) (Sub.pick [[(br, 36, #[s16, Value.int .i64 ((r_1 + (8 * ((b).length : Int))))])], S17] [1, 0] rfl) ⟨s16, S17, _, H18, ⟨rfl, rfl⟩, rfl⟩)
def bits_bytesOf_m (_ : Nat) (count : Int) : Option (Int) := ck ((-9223372036854775808 ≤ (count + 8) ∧ (count + 8) ≤ 9223372036854775807)) (ck ((-9223372036854775808 ≤ ((count + 8) - 1) ∧ ((count + 8) - 1) ≤ 9223372036854775807)) (ck (0 ≤ ((count + 8) - 1) ∧ ((count + 8) - 1) ≤ 9223372036854775807) (some ((((count + 8) - 1)) / 8))))
set_option maxRecDepth 100000 in
set_option maxHeartbeats 400000 in
theorem bits_bytesOf_g (N : Nat) (count : Int) (r : Int) (hM : bits_bytesOf_m N count = some r) : Gives Try.prog 40 #[Value.int .i64 (count)] (Value.int .i64 (r)) := by
  unfold bits_bytesOf_m at hM
  refine gives_of_A follows Try.func40 rfl 7 rfl (upd (fun _ => undef) 0 (Value.int .i64 (count))) (by funext k; match k with | 0 => rfl | k + 1 => rfl) (fun base0_ => ?_)
  refine A_seq fun K1 hK1 => ?_
  refine A_reg ?_
  refine r_v (Value.int .i64 (0)) rfl rfl rfl rfl ?_
  refine lx_nil ?_
  refine hK1 _ _ ?_; try clear hK1 K1
  refine A_seq fun K2 hK2 => ?_
  refine A_reg ?_
  refine r_v (Value.int .i64 (count)) rfl rfl rfl rfl ?_
  replace hM := ck_some hM; obtain ⟨ck3, hM⟩ := hM
  refine r_v (Value.int .i64 ((count + 8))) rfl rfl (wi64 rfl ck3.1 ck3.2) rfl ?_
  replace hM := ck_some hM; obtain ⟨ck4, hM⟩ := hM
  refine r_v (Value.int .i64 (((count + 8) - 1))) rfl rfl (wi64 rfl ck4.1 ck4.2) rfl ?_
  replace hM := ck_some hM; obtain ⟨ck5, hM⟩ := hM
  refine r_v (Value.int .i64 ((((count + 8) - 1)) / 8)) rfl rfl (quo_i64 ck5.1 (by decide) ck5.2) rfl ?_
  refine r_v (Value.int .i64 ((((count + 8) - 1)) / 8)) rfl rfl rfl rfl ?_
  refine lx_nil ?_
  refine hK2 _ _ ?_; try clear hK2 K2
  obtain rfl := Option.some.inj hM
  refine A_ret (fun hn => ends_eq (v0 := Value.int .i64 ((((count + 8) - 1)) / 8)) rfl (res1 rfl))
def bits_Row_Add_v1_k1 (N : Nat) (r_0 : List UInt8) (r_1 : Int) (v_0 : Int) (v_1 : BitVec 128) : Option (Int × (List UInt8) × Int) := ck ((-9223372036854775808 ≤ (73728 - r_1) ∧ (73728 - r_1) ≤ 9223372036854775807)) (if (v_0 : Int) > (73728 - r_1) then some (2, r_0, r_1) else ck ((-9223372036854775808 ≤ (r_1 + v_0) ∧ (r_1 + v_0) ≤ 9223372036854775807)) ((bits_bytesOf_m N (r_1 + v_0)).bind fun r12 => ck ((-9223372036854775808 ≤ (r12 - ((r_0).length : Int)) ∧ (r12 - ((r_0).length : Int)) ≤ 9223372036854775807)) (ck (0 ≤ (r12 - ((r_0).length : Int)) ∧ ((r_0).length : Int) + (r12 - ((r_0).length : Int)) ≤ 140737488355328) ((bits_lay_v1_m N (r_0 ++ List.replicate ((r12 - ((r_0).length : Int))).toNat (0 : UInt8)) r_1 v_0 v_1).bind fun r20 => ck ((r20).length = ((r_0 ++ List.replicate ((r12 - ((r_0).length : Int))).toNat (0 : UInt8))).length) (some (0, r20, (r_1 + v_0)))))))
def bits_Row_Add_v1_m (N : Nat) (r_0 : List UInt8) (r_1 : Int) (v_0 : Int) (v_1 : BitVec 128) : Option (Int × (List UInt8) × Int) := (vec_May_m N v_0 v_1).bind fun r27 => if (r27) = true then bits_Row_Add_v1_k1 N r_0 r_1 v_0 v_1  else some (1, r_0, r_1)
set_option maxRecDepth 100000 in
set_option maxHeartbeats 400000 in
theorem bits_Row_Add_v1_g (N : Nat) (r_0 : List UInt8) (r_1 : Int) (v_0 : Int) (v_1 : BitVec 128) (r : Int × (List UInt8) × Int) (hM : bits_Row_Add_v1_m N r_0 r_1 v_0 v_1 = some r) (ro : Addr → Option Value) (br : Nat) (r_0v : Value) (Sr_0 : List Bl) (hr_0 : Sl 5 encY r_0v r_0 Sr_0) : Does Try.prog 16 #[Value.pointer (some ⟨br, 0, none⟩), Value.agg #[Value.int .i64 (v_0), U (hi (v_1)), U (lo (v_1))]] ro (List.flatten [[(br, 36, #[r_0v, Value.int .i64 (r_1)])], Sr_0]) (pO (List.flatten [[(br, 36, #[r_0v, Value.int .i64 (r_1)])], Sr_0]) (oS 5 encY r.2.1 fun s_0 => (oE (Value.int .i64 (r.1)) [[(br, 36, #[s_0, Value.int .i64 (r.2.2)])]]))) := by
  unfold bits_Row_Add_v1_m at hM
  refine doesO_of_A follows Try.func16 rfl 60 rfl (upd (upd (fun _ => undef) 1 (Value.agg #[Value.int .i64 (v_0), U (hi (v_1)), U (lo (v_1))])) 0 (Value.pointer (some ⟨br, 0, none⟩))) (by funext k; match k with | 0 => rfl | 1 => rfl | k + 2 => rfl) (fun _ _ h_ _ => h_) (fun base0_ => ?_)
  refine A_seq fun K1 hK1 => ?_
  refine A_reg ?_
  refine r_a (26, #[Value.int .i64 (v_0), U (hi (v_1)), U (lo (v_1))]) rfl rfl rfl (fun b2 => ?_) (.inr rfl)
  refine r_v (Value.int .i64 (0)) rfl rfl rfl rfl ?_
  refine lx_nil ?_
  refine hK1 _ _ ?_; try clear hK1 K1
  refine A_cut (fun tt ll => (bits_Row_Add_v1_k1 N r_0 r_1 v_0 v_1  = some r) ∧ Is [(0, Value.pointer (some ⟨br, 0, none⟩)), (3, Value.pointer (some ⟨b2, 0, none⟩))] (List.flatten [[(b2, 26, #[Value.int .i64 (v_0), U (hi (v_1)), U (lo (v_1))])], [(br, 36, #[r_0v, Value.int .i64 (r_1)])], Sr_0]) tt ll) ?_ ?_
  · refine A_seq fun K26 hK26 => ?_
    refine A_reg ?_
    refine r_v (Value.pointer (some ⟨br, 0, none⟩)) rfl rfl rfl rfl ?_
    refine r_v (Value.bool (false)) rfl rfl rfl rfl ?_
    refine r_v (Value.bool (false)) rfl rfl rfl rfl ?_
    refine r_y rfl ?_
    refine r_l (Value.agg #[Value.int .i64 (v_0), U (hi (v_1)), U (lo (v_1))]) 0 _ _ _ _ rfl rfl rfl rfl rfl ?_
    refine r_y rfl ?_
    replace hM := bind_sm hM; obtain ⟨r27, hr28, hM⟩ := hM
    refine r_c (Value.bool (r27)) rfl _ _ (ev_callF rfl call_37 rfl) (vec_May_g N v_0 v_1 _ hr28) ?_
    refine r_y rfl ?_
    refine r_v (Value.bool (!(r27))) rfl rfl rfl rfl ?_
    refine r_v (Value.bool (!(r27))) rfl rfl rfl rfl ?_
    refine lx_nil ?_
    refine hK26 _ _ ?_; try clear hK26 K26
    refine A_cond (!(r27)) rfl (fun hc29 => ?_) (fun hc29 => ?_)
    · replace hM := ifn (Bool.eq_false_iff.1 (not_t hc29)) hM
      refine A_seq fun K30 hK30 => ?_
      refine A_reg ?_
      refine r_v (Value.int .i64 (1)) rfl rfl rfl rfl ?_
      refine lx_nil ?_
      refine hK30 _ _ ?_; try clear hK30 K30
      obtain rfl := Option.some.inj hM
      refine A_ret (fun hn => endsO (v0 := Value.int .i64 (1)) (O := [Sr_0, [(br, 36, #[r_0v, Value.int .i64 (r_1)])]]) (res1 rfl) (Sub.pick [[(b2, 26, #[Value.int .i64 (v_0), U (hi (v_1)), U (lo (v_1))])], [(br, 36, #[r_0v, Value.int .i64 (r_1)])], Sr_0] [2, 1] rfl) ⟨r_0v, Sr_0, _, hr_0, ⟨rfl, rfl⟩, rfl⟩)
    · replace hM := ifp (not_f hc29) hM
      refine A_skip ?_
      refine fg _ (Sub.pick [[(b2, 26, #[Value.int .i64 (v_0), U (hi (v_1)), U (lo (v_1))])], [(br, 36, #[r_0v, Value.int .i64 (r_1)])], Sr_0] [0, 1, 2] rfl) ?_
      exact ⟨hM, is_mk rfl rfl⟩
  · clear hM; rintro t l ⟨hM, ⟨T, rfl⟩, rfl⟩
    unfold bits_Row_Add_v1_k1 at hM
    refine A_seq fun K3 hK3 => ?_
    refine A_seq fun K4 hK4 => ?_
    refine A_draw [] (by decide +kernel) (fun hn => sep_nil) ?_
    refine r_v (Value.pointer (some ⟨b2, 0, none⟩)) rfl rfl rfl rfl ?_
    refine r_l (Value.int .i64 (v_0)) 0 _ _ _ _ rfl rfl rfl rfl rfl ?_
    refine r_v (Value.pointer (some ⟨br, 0, none⟩)) rfl rfl rfl rfl ?_
    refine r_v (Value.pointer (some ⟨br, 0, none⟩)) rfl rfl rfl rfl ?_
    refine r_v (Value.pointer (some ⟨br, 1, none⟩)) rfl rfl rfl rfl ?_
    refine r_l (Value.int .i64 (r_1)) 1 _ _ _ _ rfl rfl rfl rfl rfl ?_
    replace hM := ck_some hM; obtain ⟨ck5, hM⟩ := hM
    refine r_v (Value.int .i64 ((73728 - r_1))) rfl rfl (wi64 rfl ck5.1 ck5.2) rfl ?_
    refine r_v (Value.bool (decide ((v_0 : Int) > (73728 - r_1)))) rfl rfl rfl rfl ?_
    refine lx_nil ?_
    refine hK4 _ _ ?_; try clear hK4 K4
    refine A_cond (decide ((v_0 : Int) > (73728 - r_1))) rfl (fun hc6 => ?_) (fun hc6 => ?_)
    · replace hM := ifp (of_decide_eq_true hc6) hM
      refine A_seq fun K7 hK7 => ?_
      refine A_reg ?_
      refine r_v (Value.int .i64 (2)) rfl rfl rfl rfl ?_
      refine lx_nil ?_
      refine hK7 _ _ ?_; try clear hK7 K7
      obtain rfl := Option.some.inj hM
      refine A_ret (fun hn => endsO (v0 := Value.int .i64 (2)) (O := [Sr_0, [(br, 36, #[r_0v, Value.int .i64 (r_1)])]]) (res1 rfl) (Sub.pick [[(b2, 26, #[Value.int .i64 (v_0), U (hi (v_1)), U (lo (v_1))])], [(br, 36, #[r_0v, Value.int .i64 (r_1)])], Sr_0] [2, 1] rfl) ⟨r_0v, Sr_0, _, hr_0, ⟨rfl, rfl⟩, rfl⟩)
    · replace hM := ifn (of_decide_eq_false hc6) hM
      refine A_skip ?_
      refine hK3 _ _ ?_; try clear hK3 K3
      refine A_seq fun K8 hK8 => ?_
      refine A_reg ?_
      refine r_v (Value.pointer (some ⟨br, 0, none⟩)) rfl rfl rfl rfl ?_
      refine r_v (Value.pointer (some ⟨br, 0, none⟩)) rfl rfl rfl rfl ?_
      refine r_v (Value.pointer (some ⟨br, 1, none⟩)) rfl rfl rfl rfl ?_
      refine r_l (Value.int .i64 (r_1)) 1 _ _ _ _ rfl rfl rfl rfl rfl ?_
      refine r_v (Value.int .i64 (r_1)) rfl rfl rfl rfl ?_
      refine lx_nil ?_
      refine hK8 _ _ ?_; try clear hK8 K8
      refine A_seq fun K9 hK9 => ?_
      refine A_draw [] (by decide +kernel) (fun hn => sep_nil) ?_
      refine r_v (Value.pointer (some ⟨br, 0, none⟩)) rfl rfl rfl rfl ?_
      refine r_v (Value.pointer (some ⟨br, 0, none⟩)) rfl rfl rfl rfl ?_
      refine r_v (Value.pointer (some ⟨br, 1, none⟩)) rfl rfl rfl rfl ?_
      refine r_l (Value.int .i64 (r_1)) 1 _ _ _ _ rfl rfl rfl rfl rfl ?_
      refine r_v (Value.pointer (some ⟨b2, 0, none⟩)) rfl rfl rfl rfl ?_
      refine r_l (Value.int .i64 (v_0)) 0 _ _ _ _ rfl rfl rfl rfl rfl ?_
      replace hM := ck_some hM; obtain ⟨ck10, hM⟩ := hM
      refine r_v (Value.int .i64 ((r_1 + v_0))) rfl rfl (wi64 rfl ck10.1 ck10.2) rfl ?_
      refine r_v (Value.pointer (some ⟨br, 0, none⟩)) rfl rfl rfl rfl ?_
      refine r_v (Value.pointer (some ⟨br, 1, none⟩)) rfl rfl rfl rfl ?_
      refine r_s (List.flatten [[(b2, 26, #[Value.int .i64 (v_0), U (hi (v_1)), U (lo (v_1))])], [(br, 36, #[r_0v, Value.int .i64 ((r_1 + v_0))])], Sr_0]) 1 _ _ _ (#[r_0v, Value.int .i64 (r_1)]) (#[Value.int .i64 ((r_1 + v_0))]) (#[r_0v, Value.int .i64 ((r_1 + v_0))]) rfl rfl rfl rfl (.of rfl rfl) rfl rfl ?_
      refine lx_nil ?_
      refine hK9 _ _ ?_; try clear hK9 K9
      refine A_seq fun K11 hK11 => ?_
      refine A_drawR [(some 50, true)] (conG Try.prog []) [] (by decide +kernel) (fun hn => sep_nil) ?_
      refine r_v (Value.pointer (some ⟨br, 0, none⟩)) rfl rfl rfl rfl ?_
      refine r_v (Value.pointer (some ⟨br, 0, none⟩)) rfl rfl rfl rfl ?_
      refine r_v (Value.pointer (some ⟨br, 0, none⟩)) rfl rfl rfl rfl ?_
      refine r_v (Value.pointer (some ⟨br, 0, none⟩)) rfl rfl rfl rfl ?_
      refine r_l (r_0v) 1 _ _ _ _ rfl rfl rfl rfl rfl ?_
      refine r_v (Value.pointer (some ⟨br, 0, none⟩)) rfl rfl rfl rfl ?_
      refine r_v (Value.pointer (some ⟨br, 0, none⟩)) rfl rfl rfl rfl ?_
      refine r_v (Value.pointer (some ⟨br, 1, none⟩)) rfl rfl rfl rfl ?_
      refine r_l (Value.int .i64 ((r_1 + v_0))) 1 _ _ _ _ rfl rfl rfl rfl rfl ?_
      replace hM := bind_sm hM; obtain ⟨r12, hr13, hM⟩ := hM
      refine r_c (Value.int .i64 (r12)) rfl _ _ (ev_callF rfl call_40 rfl) (bits_bytesOf_g N (r_1 + v_0) _ hr13) ?_
      refine r_v (Value.pointer (some ⟨br, 0, none⟩)) rfl rfl rfl rfl ?_
      refine r_v (Value.pointer (some ⟨br, 0, none⟩)) rfl rfl rfl rfl ?_
      refine r_v (Value.pointer (some ⟨br, 0, none⟩)) rfl rfl rfl rfl ?_
      refine r_l (r_0v) 1 _ _ _ _ rfl rfl rfl rfl rfl ?_
      refine r_v (Value.int .i64 (((r_0).length : Int))) rfl rfl rfl (ev_lenSl rfl rfl rfl (Sl.shp hr_0)) ?_
      replace hM := ck_some hM; obtain ⟨ck14, hM⟩ := hM
      refine r_v (Value.int .i64 ((r12 - ((r_0).length : Int)))) rfl rfl (wi64 rfl ck14.1 ck14.2) rfl ?_
      replace hM := ck_some hM; obtain ⟨ck15, hM⟩ := hM
      refine r_apz (cs0 := []) (Ls := [[(b2, 26, #[Value.int .i64 (v_0), U (hi (v_1)), U (lo (v_1))])], [(br, 36, #[r_0v, Value.int .i64 ((r_1 + v_0))])], Sr_0]) 2 (En := encY) ((0 : UInt8)) ((r12 - ((r_0).length : Int))) rfl rfl rfl rfl rfl hr_0 rfl rfl rfl rfl rfl rfl rfl 140737488355328 rfl ck15 rfl (fun s16 S17 H18 => ?_)
      refine r_v (Value.pointer (some ⟨br, 0, none⟩)) rfl rfl rfl rfl ?_
      refine r_v (Value.pointer (some ⟨br, 0, none⟩)) rfl rfl rfl rfl ?_
      refine r_s (List.flatten [[(b2, 26, #[Value.int .i64 (v_0), U (hi (v_1)), U (lo (v_1))])], [(br, 36, #[s16, Value.int .i64 ((r_1 + v_0))])], S17]) 1 _ _ _ (#[r_0v, Value.int .i64 ((r_1 + v_0))]) (#[s16]) (#[s16, Value.int .i64 ((r_1 + v_0))]) rfl rfl rfl (cells_sl rfl (Sl.shp H18)) (.ofS rfl rfl (all_cons' (Shp.one (Sl.shp H18)) all_nil')) rfl rfl ?_
      refine lx_nil ?_
      refine hK11 _ _ ?_; try clear hK11 K11
      refine A_gen [(0, Value.pointer (some ⟨br, 0, none⟩)), (3, Value.pointer (some ⟨b2, 0, none⟩)), (5, Value.int .i64 (r_1))] rfl (fun T => ?_)
      refine A_seq fun K19 hK19 => ?_
      refine A_drawR [(some 59, true)] (conG Try.prog [(59, fun v_ L_ U_ => ∀ u0_, bits_lay_v1_m N (r_0 ++ List.replicate ((r12 - ((r_0).length : Int))).toNat (0 : UInt8)) r_1 v_0 v_1 = some u0_ → (pO (List.flatten [S17]) (oI 5 encY s16 u0_ (oE (Value.tuple #[]) []))) v_ L_ U_)]) [] (by decide +kernel) (fun hn => sep_nil) ?_
      refine r_v (Value.pointer (some ⟨br, 0, none⟩)) rfl rfl rfl rfl ?_
      refine r_v (Value.pointer (some ⟨br, 0, none⟩)) rfl rfl rfl rfl ?_
      refine r_v (Value.pointer (some ⟨br, 0, none⟩)) rfl rfl rfl rfl ?_
      refine r_l (s16) 1 _ _ _ _ rfl rfl rfl rfl rfl ?_
      refine r_v (Value.int .i64 (r_1)) rfl rfl rfl rfl ?_
      refine r_l (Value.agg #[Value.int .i64 (v_0), U (hi (v_1)), U (lo (v_1))]) 0 _ _ _ _ rfl rfl rfl rfl rfl ?_
      replace hM := bind_sm hM; obtain ⟨r20, hr21, hM⟩ := hM
      replace hM := ck_some hM; obtain ⟨ck22, hM⟩ := hM
      refine r_gm (Ls := [[(b2, 26, #[Value.int .i64 (v_0), U (hi (v_1)), U (lo (v_1))])], [(br, 36, #[s16, Value.int .i64 ((r_1 + v_0))])], S17]) (FL := [S17]) (RL := [[(b2, 26, #[Value.int .i64 (v_0), U (hi (v_1)), U (lo (v_1))])], [(br, 36, #[s16, Value.int .i64 ((r_1 + v_0))])]]) [2] (oI 5 encY s16 r20 (oE (Value.tuple #[]) [])) (some 59) 39 _ rfl rfl rfl rfl rfl (ev_callF rfl call_39 rfl) (fun own_ nw_ hn_ hs_ => bits_lay_v1_g N (r_0 ++ List.replicate ((r12 - ((r_0).length : Int))).toNat (0 : UInt8)) r_1 v_0 v_1 _ hr21 _ s16 S17 H18) (fun _ _ v_ L_ U_ => ⟨fun h_ => h_ _ hr21, fun h_ => by intro _ e_; cases Option.some.inj (e_.symm.trans hr21); exact h_⟩) (NiceO.sub (R := (S17 ++ [])) (niceI H18 ck22 (niceE rfl)) (Sub.pick [S17] [0] rfl)) ?_
      rintro _ _ ⟨S23, _, H24, ⟨rfl, rfl⟩, rfl⟩
      refine lx_perm (Ls := [[(b2, 26, #[Value.int .i64 (v_0), U (hi (v_1)), U (lo (v_1))])], [(br, 36, #[s16, Value.int .i64 ((r_1 + v_0))])], S23]) (Ls' := [[(b2, 26, #[Value.int .i64 (v_0), U (hi (v_1)), U (lo (v_1))])], [(br, 36, #[s16, Value.int .i64 ((r_1 + v_0))])], S23]) [0, 1, 2] rfl rfl ?_
      refine lx_nil ?_
      refine hK19 _ _ ?_; try clear hK19 K19
      refine A_seq fun K25 hK25 => ?_
      refine A_reg ?_
      refine r_v (Value.int .i64 (0)) rfl rfl rfl rfl ?_
      refine lx_nil ?_
      refine hK25 _ _ ?_; try clear hK25 K25
      obtain rfl := Option.some.inj hM
      refine A_ret (fun hn => endsO (v0 := Value.int .i64 (0)) (O := [S23, [(br, 36, #[s16, Value.int .i64 ((r_1 + v_0))])]]) (res1 rfl) (Sub.pick [[(b2, 26, #[Value.int .i64 (v_0), U (hi (v_1)), U (lo (v_1))])], [(br, 36, #[s16, Value.int .i64 ((r_1 + v_0))])], S23] [2, 1] rfl) ⟨s16, S23, _, H24, ⟨rfl, rfl⟩, rfl⟩)
end Go.Proofs.Ytmiabhodfcidcaa
