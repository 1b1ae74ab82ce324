/- models of functions and their walks -/
import Derived.Test.YtomcfndpnnjihaaDoorSr
import Derived.Test.YtomcfndpnnjihaaDoorMove
import Derived.Test.YtomcfndpnnjihaaDoorReft
namespace Go.Proofs.YtomcfndpnnjihaaDoor
open Go Go.RowKit Go.Eng
def decS (n : Int) : List UInt8 := Lib.decDigits n.toNat
theorem itoa_small_t (n : Int) (h : 0 ≤ n ∧ n < 100) : Gives Tryd.prog 78 #[Value.int .i64 n] (Value.string (⟨(decS n).toArray⟩)) := by
  have := Gives.of_same (fun w => Tryd.strconv_Itoa_small n.toNat (by omega) w)
  rwa [show ((n.toNat : Nat) : Int) = n from by omega] at this
theorem eg_24 : Tryd.prog.eqGuardType Tryd.prog.depth 24 = false := by kernel_rfl
theorem si_24 : Tryd.prog.stoodInHeld 24 = false := by kernel_rfl
set_option maxRecDepth 100000 in
theorem eqst_24 {c : Addr → Option Value} (x0 y0 : Int) (x1 y1 : BitVec 128) : ev Tryd.prog c (Op.equal 24 (.agg #[Value.int .i64 (x0), U (hi (x1)), U (lo (x1))]) (.agg #[Value.int .i64 (y0), U (hi (y1)), U (lo (y1))])) = some ((x0 == y0) && (x1 == y1)) := by
  have h := ev_eqStruct (P := Tryd.prog) (c := c) 9999 (t := 24) #[Value.int .i64 (x0), U (hi (x1)), U (lo (x1))] #[Value.int .i64 (y0), U (hi (y1)), U (lo (y1))] rfl si_24 (fun f => if f.offset = 0 then ((x0 : Int) == y0) else if f.offset = 1 then (((hi (x1)).toNat : Int) == ((hi (y1)).toNat : Int)) else (((lo (x1)).toNat : Int) == ((lo (y1)).toNat : Int)))
    (fun f hf => by
      simp only [List.mem_cons, List.not_mem_nil, or_false] at hf
      rcases hf with rfl | rfl | rfl
      · exact ⟨by decide, _, _, ev_partS (P := Tryd.prog) (t := 3) rfl (by intro fs h; cases h) (by intro n e h; cases h) _ _ rfl, ev_partS (P := Tryd.prog) (t := 3) rfl (by intro fs h; cases h) (by intro n e h; cases h) _ _ rfl, ev_eqInt _ _ _ rfl⟩
      · exact ⟨by decide, _, _, ev_partS (P := Tryd.prog) (t := 22) rfl (by intro fs h; cases h) (by intro n e h; cases h) _ _ rfl, ev_partS (P := Tryd.prog) (t := 22) rfl (by intro fs h; cases h) (by intro n e h; cases h) _ _ rfl, ev_eqInt _ _ _ rfl⟩
      · exact ⟨by decide, _, _, ev_partS (P := Tryd.prog) (t := 22) rfl (by intro fs h; cases h) (by intro n e h; cases h) _ _ rfl, ev_partS (P := Tryd.prog) (t := 22) rfl (by intro fs h; cases h) (by intro n e h; cases h) _ _ rfl, ev_eqInt _ _ _ rfl⟩)
  rw [← word_beq x1 y1]; rw [show Op.equal 24 (.agg #[Value.int .i64 (x0), U (hi (x1)), U (lo (x1))]) (.agg #[Value.int .i64 (y0), U (hi (y1)), U (lo (y1))]) = Op.equalIn (9999 + 1) 24 (.agg #[Value.int .i64 (x0), U (hi (x1)), U (lo (x1))]) (.agg #[Value.int .i64 (y0), U (hi (y1)), U (lo (y1))]) from rfl, h]
  first | (simp; done) | simp [Bool.and_assoc]
def vec_mayWidth_m (_ : Nat) (w : Int) : Option (Bool) := if (w : Int) ≥ 1 then some (decide ((w : Int) ≤ 128)) else some (false)
set_option maxRecDepth 100000 in
set_option maxHeartbeats 400000 in
theorem vec_mayWidth_g (N : Nat) (w : Int) (r : Bool) (hM : vec_mayWidth_m N w = some r) : Gives Tryd.prog 51 #[Value.int .i64 (w)] (Value.bool (r)) := by
  unfold vec_mayWidth_m at hM
  refine gives_of_A follows Tryd.func51 rfl 9 rfl (upd (fun _ => undef) 0 (Value.int .i64 (w))) (by funext k; match k with | 0 => rfl | k + 1 => rfl) (fun base0_ => ?_)
  refine A_seq fun K1 hK1 => ?_
  refine A_reg ?_
  refine r_v (Value.bool (false)) rfl rfl rfl rfl ?_
  refine lx_nil ?_
  refine hK1 _ _ ?_; try clear hK1 K1
  refine A_seq fun K2 hK2 => ?_
  refine A_reg ?_
  refine r_v (Value.int .i64 (w)) rfl rfl rfl rfl ?_
  refine r_v (Value.bool (decide ((w : Int) ≥ 1))) rfl rfl rfl rfl ?_
  refine r_v (Value.bool (decide ((w : Int) ≥ 1))) rfl rfl rfl rfl ?_
  rcases hg3 : (decide ((w : Int) ≥ 1)) with _ | _
  · replace hM := ifn (of_decide_eq_false hg3) hM
    refine r_n false rfl (by decide) rfl ?_
    refine r_n false rfl (by decide) rfl ?_
    refine r_v (Value.bool (false)) rfl rfl rfl rfl ?_
    refine r_v (Value.bool (false)) rfl rfl rfl rfl ?_
    refine lx_nil ?_
    refine hK2 _ _ ?_; try clear hK2 K2
    obtain rfl := Option.some.inj hM
    refine A_ret (fun hn => ends_eq (v0 := Value.bool (false)) rfl (res1 rfl))
  · replace hM := ifp (of_decide_eq_true hg3) hM
    refine r_y rfl ?_
    refine r_v (Value.int .i64 (w)) rfl rfl rfl rfl ?_
    refine r_y rfl ?_
    refine r_v (Value.bool (decide ((w : Int) ≤ 128))) rfl rfl rfl rfl ?_
    refine r_v (Value.bool (decide ((w : Int) ≤ 128))) rfl rfl rfl rfl ?_
    refine r_v (Value.bool (decide ((w : Int) ≤ 128))) rfl rfl rfl rfl ?_
    refine lx_nil ?_
    refine hK2 _ _ ?_; try clear hK2 K2
    obtain rfl := Option.some.inj hM
    refine A_ret (fun hn => ends_eq (v0 := Value.bool (decide ((w : Int) ≤ 128))) rfl (res1 rfl))
def vec_Word_m (_ : Nat) (_ : Int) (v_1 : BitVec 128) : Option (BitVec 128) := some (v_1)
set_option maxRecDepth 100000 in
set_option maxHeartbeats 400000 in
theorem vec_Word_g (N : Nat) (v_0 : Int) (v_1 : BitVec 128) (r : BitVec 128) (hM : vec_Word_m N v_0 v_1 = some r) : Gives Tryd.prog 14 #[Value.agg #[Value.int .i64 (v_0), U (hi (v_1)), U (lo (v_1))]] (Value.agg #[U (hi (r)), U (lo (r))]) := by
  unfold vec_Word_m at hM
  refine gives_of_A follows Tryd.func14 rfl 8 rfl (upd (fun _ => undef) 0 (Value.agg #[Value.int .i64 (v_0), U (hi (v_1)), U (lo (v_1))])) (by funext k; match k with | 0 => rfl | k + 1 => rfl) (fun base0_ => ?_)
  refine A_seq fun K1 hK1 => ?_
  refine A_reg ?_
  refine r_a (24, #[Value.int .i64 (v_0), U (hi (v_1)), U (lo (v_1))]) rfl rfl rfl (fun b2 => ?_) (.inr rfl)
  refine r_a (31, #[U (0#64), U (0#64)]) rfl rfl rfl (fun b3 => ?_) (.inr rfl)
  refine lx_nil ?_
  refine hK1 _ _ ?_; try clear hK1 K1
  refine A_seq fun K4 hK4 => ?_
  refine A_reg ?_
  refine r_v (Value.pointer (some ⟨b2, 1, none⟩)) rfl rfl rfl rfl ?_
  refine r_l (U (hi (v_1))) 1 _ _ _ _ rfl rfl rfl rfl rfl ?_
  refine r_v (Value.pointer (some ⟨b2, 2, none⟩)) rfl rfl rfl rfl ?_
  refine r_l (U (lo (v_1))) 1 _ _ _ _ rfl rfl rfl rfl rfl ?_
  refine r_v (Value.agg #[U (hi (v_1)), U (lo (v_1))]) rfl rfl rfl (ev_buildS rfl rfl rfl rfl) ?_
  refine r_s [(b3, 31, #[U (hi (v_1)), U (lo (v_1))]), (b2, 24, #[Value.int .i64 (v_0), U (hi (v_1)), U (lo (v_1))])] 0 _ _ _ (#[U (0#64), U (0#64)]) (#[U (hi (v_1)), U (lo (v_1))]) (#[U (hi (v_1)), U (lo (v_1))]) rfl rfl rfl rfl (.of rfl rfl) rfl rfl ?_
  refine lx_nil ?_
  refine hK4 _ _ ?_; try clear hK4 K4
  obtain rfl := Option.some.inj hM
  refine A_ret (fun hn => ends_eq (v0 := Value.agg #[U (hi (v_1)), U (lo (v_1))]) rfl (res1 (res_cell hn 0 rfl rfl rfl)))
def vec_May_m (N : Nat) (v_0 : Int) (v_1 : BitVec 128) : Option (Bool) := (vec_mayWidth_m N (v_0)).bind fun r4 => if (r4) = true then (vec_Word_m N (v_0) (v_1)).bind fun r7 => some (decide ((((len128 (r7) : Nat) : Int) : Int) ≤ v_0)) else some (false)
set_option maxRecDepth 100000 in
set_option maxHeartbeats 400000 in
theorem vec_May_g (N : Nat) (v_0 : Int) (v_1 : BitVec 128) (r : Bool) (hM : vec_May_m N v_0 v_1 = some r) : Gives Tryd.prog 13 #[Value.agg #[Value.int .i64 (v_0), U (hi (v_1)), U (lo (v_1))]] (Value.bool (r)) := by
  unfold vec_May_m at hM
  refine gives_of_A follows Tryd.func13 rfl 14 rfl (upd (fun _ => undef) 0 (Value.agg #[Value.int .i64 (v_0), U (hi (v_1)), U (lo (v_1))])) (by funext k; match k with | 0 => rfl | k + 1 => rfl) (fun base0_ => ?_)
  refine A_seq fun K1 hK1 => ?_
  refine A_reg ?_
  refine r_a (24, #[Value.int .i64 (v_0), U (hi (v_1)), U (lo (v_1))]) rfl rfl rfl (fun b2 => ?_) (.inr rfl)
  refine r_v (Value.bool (false)) rfl rfl rfl rfl ?_
  refine lx_nil ?_
  refine hK1 _ _ ?_; try clear hK1 K1
  refine A_seq fun K3 hK3 => ?_
  refine A_draw [] (by decide +kernel) (fun hn => sep_nil) ?_
  refine r_v (Value.pointer (some ⟨b2, 0, none⟩)) rfl rfl rfl rfl ?_
  refine r_l (Value.int .i64 (v_0)) 0 _ _ _ _ rfl rfl rfl rfl rfl ?_
  replace hM := bind_sm hM; obtain ⟨r4, hr5, hM⟩ := hM
  refine r_c (Value.bool (r4)) rfl _ _ (ev_callF rfl call_51 rfl) (vec_mayWidth_g N (v_0) _ hr5) ?_
  refine r_v (Value.bool (r4)) rfl rfl rfl rfl ?_
  rcases hg6 : (r4) with _ | _
  · replace hM := ifn (Bool.eq_false_iff.1 hg6) hM
    refine r_n false rfl (by decide) rfl ?_
    refine r_n false rfl (by decide) rfl ?_
    refine r_n false rfl (by decide) rfl ?_
    refine r_n false rfl (by decide) rfl ?_
    refine r_n false rfl (by decide) rfl ?_
    refine r_n false rfl (by decide) rfl ?_
    refine r_v (Value.bool (false)) rfl rfl rfl rfl ?_
    refine r_v (Value.bool (false)) rfl rfl rfl rfl ?_
    refine lx_nil ?_
    refine hK3 _ _ ?_; try clear hK3 K3
    obtain rfl := Option.some.inj hM
    refine A_ret (fun hn => ends_eq (v0 := Value.bool (false)) rfl (res1 rfl))
  · replace hM := ifp hg6 hM
    refine r_y rfl ?_
    refine r_l (Value.agg #[Value.int .i64 (v_0), U (hi (v_1)), U (lo (v_1))]) 0 _ _ _ _ rfl rfl rfl rfl rfl ?_
    refine r_y rfl ?_
    replace hM := bind_sm hM; obtain ⟨r7, hr8, hM⟩ := hM
    refine r_c (Value.agg #[U (hi (r7)), U (lo (r7))]) rfl _ _ (ev_callF rfl call_14 rfl) (vec_Word_g N (v_0) (v_1) _ hr8) ?_
    refine r_y rfl ?_
    refine r_c (Value.int .i64 (((len128 (r7) : Nat) : Int))) rfl _ _ (ev_callF rfl call_53 rfl) (len_g (r7)) ?_
    refine r_y rfl ?_
    refine r_v (Value.pointer (some ⟨b2, 0, none⟩)) rfl rfl rfl rfl ?_
    refine r_y rfl ?_
    refine r_l (Value.int .i64 (v_0)) 0 _ _ _ _ rfl rfl rfl rfl rfl ?_
    refine r_y rfl ?_
    refine r_v (Value.bool (decide ((((len128 (r7) : Nat) : Int) : Int) ≤ v_0))) rfl rfl rfl rfl ?_
    refine r_v (Value.bool (decide ((((len128 (r7) : Nat) : Int) : Int) ≤ v_0))) rfl rfl rfl rfl ?_
    refine r_v (Value.bool (decide ((((len128 (r7) : Nat) : Int) : Int) ≤ v_0))) rfl rfl rfl rfl ?_
    refine lx_nil ?_
    refine hK3 _ _ ?_; try clear hK3 K3
    obtain rfl := Option.some.inj hM
    refine A_ret (fun hn => ends_eq (v0 := Value.bool (decide ((((len128 (r7) : Nat) : Int) : Int) ≤ v_0))) rfl (res1 rfl))
def vec_New_m (N : Nat) (w : Int) (hi' : BitVec 64) (lo' : BitVec 64) : Option (Int × (BitVec 128) × Int) := (vec_mayWidth_m N (w)).bind fun r5 => if (r5) = true then (vec_May_m N (w) ((hi') ++ (lo'))).bind fun r13 => if (r13) = true then some (w, (hi') ++ (lo'), 0) else some (0, (0#64) ++ (0#64), 7) else some (0, (0#64) ++ (0#64), 9)
set_option maxRecDepth 100000 in
set_option maxHeartbeats 400000 in
theorem vec_New_g (N : Nat) (w : Int) (hi' : BitVec 64) (lo' : BitVec 64) (r : Int × (BitVec 128) × Int) (hM : vec_New_m N w hi' lo' = some r) : Gives Tryd.prog 11 #[Value.int .i64 (w), U (hi'), U (lo')] (Value.tuple #[Value.agg #[Value.int .i64 (r.1), U (hi (r.2.1)), U (lo (r.2.1))], Value.int .i64 (r.2.2)]) := by
  unfold vec_New_m at hM
  refine gives_of_A follows Tryd.func11 rfl 22 rfl (upd (upd (upd (fun _ => undef) 2 (U (lo'))) 1 (U (hi'))) 0 (Value.int .i64 (w))) (by funext k; match k with | 0 => rfl | 1 => rfl | 2 => rfl | k + 3 => rfl) (fun base0_ => ?_)
  refine A_seq fun K1 hK1 => ?_
  refine A_reg ?_
  refine r_a (24, #[Value.int .i64 (0), U (0#64), U (0#64)]) rfl rfl rfl (fun b2 => ?_) (.inr rfl)
  refine r_v (Value.int .i64 (0)) rfl rfl rfl rfl ?_
  refine lx_nil ?_
  refine hK1 _ _ ?_; try clear hK1 K1
  refine A_seq fun K3 hK3 => ?_
  refine A_seq fun K4 hK4 => ?_
  refine A_reg ?_
  refine r_v (Value.int .i64 (w)) rfl rfl rfl rfl ?_
  replace hM := bind_sm hM; obtain ⟨r5, hr6, hM⟩ := hM
  refine r_c (Value.bool (r5)) rfl _ _ (ev_callF rfl call_51 rfl) (vec_mayWidth_g N (w) _ hr6) ?_
  refine r_v (Value.bool (!(r5))) rfl rfl rfl rfl ?_
  refine lx_nil ?_
  refine hK4 _ _ ?_; try clear hK4 K4
  refine A_cond (!(r5)) rfl (fun hc7 => ?_) (fun hc7 => ?_)
  · replace hM := ifn (Bool.eq_false_iff.1 (not_t hc7)) hM
    refine A_seq fun K8 hK8 => ?_
    refine A_reg ?_
    refine r_v (Value.agg #[Value.int .i64 (0), U (0#64), U (0#64)]) rfl rfl rfl (ev_buildS rfl rfl rfl rfl) ?_
    refine r_s [(b2, 24, #[Value.int .i64 (0), U (0#64), U (0#64)])] 0 _ _ _ (#[Value.int .i64 (0), U (0#64), U (0#64)]) (#[Value.int .i64 (0), U (0#64), U (0#64)]) (#[Value.int .i64 (0), U (0#64), U (0#64)]) rfl rfl rfl rfl (.of rfl rfl) rfl rfl ?_
    refine r_v (Value.int .i64 (9)) rfl rfl rfl rfl ?_
    refine lx_nil ?_
    refine hK8 _ _ ?_; try clear hK8 K8
    obtain rfl := Option.some.inj hM
    refine A_ret (fun hn => ends_eq (v0 := Value.tuple #[Value.agg #[Value.int .i64 (0), U (0#64), U (0#64)], Value.int .i64 (9)]) (by first | rfl | simp only [app_hl]) (res2 (res_cell hn 0 rfl rfl rfl) rfl))
  · replace hM := ifp (not_f hc7) hM
    refine A_skip ?_
    refine hK3 _ _ ?_; try clear hK3 K3
    refine A_seq fun K9 hK9 => ?_
    refine A_reg ?_
    refine r_v (Value.int .i64 (w)) rfl rfl rfl rfl ?_
    refine r_v (U (hi')) rfl rfl rfl rfl ?_
    refine r_v (U (lo')) rfl rfl rfl rfl ?_
    refine r_v (Value.agg #[Value.int .i64 (w), U (hi'), U (lo')]) rfl rfl rfl (ev_buildS rfl rfl rfl rfl) ?_
    refine r_a (24, #[Value.int .i64 (0), U (0#64), U (0#64)]) rfl rfl rfl (fun b10 => ?_) (.inr rfl)
    refine r_s [(b10, 24, #[Value.int .i64 (w), U (hi'), U (lo')]), (b2, 24, #[Value.int .i64 (0), U (0#64), U (0#64)])] 0 _ _ _ (#[Value.int .i64 (0), U (0#64), U (0#64)]) (#[Value.int .i64 (w), U (hi'), U (lo')]) (#[Value.int .i64 (w), U (hi'), U (lo')]) rfl rfl rfl rfl (.of rfl rfl) rfl rfl ?_
    refine lx_nil ?_
    refine hK9 _ _ ?_; try clear hK9 K9
    refine A_seq fun K11 hK11 => ?_
    refine A_seq fun K12 hK12 => ?_
    refine A_reg ?_
    refine r_l (Value.agg #[Value.int .i64 (w), U (hi'), U (lo')]) 0 _ _ _ _ rfl rfl rfl rfl rfl ?_
    replace hM := bind_sm hM; obtain ⟨r13, hr14, hM⟩ := hM
    refine r_c (Value.bool (r13)) rfl _ _ (ev_callF rfl call_13 rfl) (by have h_ := (vec_May_g N (w) ((hi') ++ (lo')) _ hr14); simp only [app_hl] at h_; exact h_) ?_
    refine r_v (Value.bool (!(r13))) rfl rfl rfl rfl ?_
    refine lx_nil ?_
    refine hK12 _ _ ?_; try clear hK12 K12
    refine A_cond (!(r13)) rfl (fun hc15 => ?_) (fun hc15 => ?_)
    · replace hM := ifn (Bool.eq_false_iff.1 (not_t hc15)) hM
      refine A_seq fun K16 hK16 => ?_
      refine A_reg ?_
      refine r_v (Value.agg #[Value.int .i64 (0), U (0#64), U (0#64)]) rfl rfl rfl (ev_buildS rfl rfl rfl rfl) ?_
      refine r_s [(b10, 24, #[Value.int .i64 (w), U (hi'), U (lo')]), (b2, 24, #[Value.int .i64 (0), U (0#64), U (0#64)])] 1 _ _ _ (#[Value.int .i64 (0), U (0#64), U (0#64)]) (#[Value.int .i64 (0), U (0#64), U (0#64)]) (#[Value.int .i64 (0), U (0#64), U (0#64)]) rfl rfl rfl rfl (.of rfl rfl) rfl rfl ?_
      refine r_v (Value.int .i64 (7)) rfl rfl rfl rfl ?_
      refine lx_nil ?_
      refine hK16 _ _ ?_; try clear hK16 K16
      obtain rfl := Option.some.inj hM
      refine A_ret (fun hn => ends_eq (v0 := Value.tuple #[Value.agg #[Value.int .i64 (0), U (0#64), U (0#64)], Value.int .i64 (7)]) (by first | rfl | simp only [app_hl]) (res2 (res_cell hn 1 rfl rfl rfl) rfl))
    · replace hM := ifp (not_f hc15) hM
      refine A_skip ?_
      refine hK11 _ _ ?_; try clear hK11 K11
      refine A_seq fun K17 hK17 => ?_
      refine A_reg ?_
      refine r_l (Value.agg #[Value.int .i64 (w), U (hi'), U (lo')]) 0 _ _ _ _ rfl rfl rfl rfl rfl ?_
      refine r_s [(b10, 24, #[Value.int .i64 (w), U (hi'), U (lo')]), (b2, 24, #[Value.int .i64 (w), U (hi'), U (lo')])] 1 _ _ _ (#[Value.int .i64 (0), U (0#64), U (0#64)]) (#[Value.int .i64 (w), U (hi'), U (lo')]) (#[Value.int .i64 (w), U (hi'), U (lo')]) rfl rfl rfl rfl (.of rfl rfl) rfl rfl ?_
      refine r_v (Value.int .i64 (0)) rfl rfl rfl rfl ?_
      refine lx_nil ?_
      refine hK17 _ _ ?_; try clear hK17 K17
      obtain rfl := Option.some.inj hM
      refine A_ret (fun hn => ends_eq (v0 := Value.tuple #[Value.agg #[Value.int .i64 (w), U (hi'), U (lo')], Value.int .i64 (0)]) (by first | rfl | simp only [app_hl]) (res2 (res_cell hn 1 rfl rfl rfl) rfl))
def vec_lowest_m (_ : Nat) (w : Int) (x : BitVec 128) : Option (Int × (BitVec 128)) := ck (-9223372036854775808 ≤ (w : Int) ∧ (w : Int) ≤ 9223372036854775807) (some (w, (x) &&& (onesI (w))))
set_option maxRecDepth 100000 in
set_option maxHeartbeats 400000 in
theorem vec_lowest_g (N : Nat) (w : Int) (x : BitVec 128) (r : Int × (BitVec 128)) (hM : vec_lowest_m N w x = some r) : Gives Tryd.prog 52 #[Value.int .i64 (w), Value.agg #[U (hi (x)), U (lo (x))]] (Value.agg #[Value.int .i64 (r.1), U (hi (r.2)), U (lo (r.2))]) := by
  unfold vec_lowest_m at hM
  refine gives_of_A follows Tryd.func52 rfl 15 rfl (upd (upd (fun _ => undef) 1 (Value.agg #[U (hi (x)), U (lo (x))])) 0 (Value.int .i64 (w))) (by funext k; match k with | 0 => rfl | 1 => rfl | k + 2 => rfl) (fun base0_ => ?_)
  refine A_seq fun K1 hK1 => ?_
  refine A_reg ?_
  refine r_a (31, #[U (hi (x)), U (lo (x))]) rfl rfl rfl (fun b2 => ?_) (.inr rfl)
  refine r_a (24, #[Value.int .i64 (0), U (0#64), U (0#64)]) rfl rfl rfl (fun b3 => ?_) (.inr rfl)
  refine lx_nil ?_
  refine hK1 _ _ ?_; try clear hK1 K1
  refine A_seq fun K4 hK4 => ?_
  refine A_draw [] (by decide +kernel) (fun hn => sep_nil) ?_
  refine r_l (Value.agg #[U (hi (x)), U (lo (x))]) 1 _ _ _ _ rfl rfl rfl rfl rfl ?_
  refine r_v (Value.int .i64 (w)) rfl rfl rfl rfl ?_
  replace hM := ck_some hM; obtain ⟨ck5, hM⟩ := hM
  refine r_c (Value.agg #[U (hi (onesI (w))), U (lo (onesI (w)))]) rfl _ _ (ev_callF rfl call_61 rfl) (ones_g (w) ck5.1 ck5.2) ?_
  refine r_c (Value.agg #[U (hi ((x) &&& (onesI (w)))), U (lo ((x) &&& (onesI (w))))]) rfl _ _ (ev_callF rfl call_64 rfl) (and_g (x) (onesI (w))) ?_
  refine r_s [(b3, 24, #[Value.int .i64 (0), U (0#64), U (0#64)]), (b2, 31, #[U (hi ((x) &&& (onesI (w)))), U (lo ((x) &&& (onesI (w))))])] 1 _ _ _ (#[U (hi (x)), U (lo (x))]) (#[U (hi ((x) &&& (onesI (w)))), U (lo ((x) &&& (onesI (w))))]) (#[U (hi ((x) &&& (onesI (w)))), U (lo ((x) &&& (onesI (w))))]) rfl rfl rfl rfl (.of rfl rfl) rfl rfl ?_
  refine lx_nil ?_
  refine hK4 _ _ ?_; try clear hK4 K4
  refine A_seq fun K6 hK6 => ?_
  refine A_reg ?_
  refine r_v (Value.int .i64 (w)) rfl rfl rfl rfl ?_
  refine r_v (Value.pointer (some ⟨b2, 0, none⟩)) rfl rfl rfl rfl ?_
  refine r_l (U (hi ((x) &&& (onesI (w))))) 1 _ _ _ _ rfl rfl rfl rfl rfl ?_
  refine r_v (Value.pointer (some ⟨b2, 1, none⟩)) rfl rfl rfl rfl ?_
  refine r_l (U (lo ((x) &&& (onesI (w))))) 1 _ _ _ _ rfl rfl rfl rfl rfl ?_
  refine r_v (Value.agg #[Value.int .i64 (w), U (hi ((x) &&& (onesI (w)))), U (lo ((x) &&& (onesI (w))))]) rfl rfl rfl (ev_buildS rfl rfl rfl rfl) ?_
  refine r_s [(b3, 24, #[Value.int .i64 (w), U (hi ((x) &&& (onesI (w)))), U (lo ((x) &&& (onesI (w))))]), (b2, 31, #[U (hi ((x) &&& (onesI (w)))), U (lo ((x) &&& (onesI (w))))])] 0 _ _ _ (#[Value.int .i64 (0), U (0#64), U (0#64)]) (#[Value.int .i64 (w), U (hi ((x) &&& (onesI (w)))), U (lo ((x) &&& (onesI (w))))]) (#[Value.int .i64 (w), U (hi ((x) &&& (onesI (w)))), U (lo ((x) &&& (onesI (w))))]) rfl rfl rfl rfl (.of rfl rfl) rfl rfl ?_
  refine lx_nil ?_
  refine hK6 _ _ ?_; try clear hK6 K6
  obtain rfl := Option.some.inj hM
  refine A_ret (fun hn => ends_eq (v0 := Value.agg #[Value.int .i64 (w), U (hi ((x) &&& (onesI (w)))), U (lo ((x) &&& (onesI (w))))]) rfl (res1 (res_cell hn 0 rfl rfl rfl)))
def vec_Cut_m (N : Nat) (w : Int) (x : BitVec 128) : Option (Int × (BitVec 128) × Int) := (vec_mayWidth_m N (w)).bind fun r6 => if (r6) = true then (vec_lowest_m N (w) (x)).bind fun r11 => some (r11.1, r11.2, 0) else some (0, (0#64) ++ (0#64), 9)
set_option maxRecDepth 100000 in
set_option maxHeartbeats 400000 in
theorem vec_Cut_g (N : Nat) (w : Int) (x : BitVec 128) (r : Int × (BitVec 128) × Int) (hM : vec_Cut_m N w x = some r) : Gives Tryd.prog 12 #[Value.int .i64 (w), Value.agg #[U (hi (x)), U (lo (x))]] (Value.tuple #[Value.agg #[Value.int .i64 (r.1), U (hi (r.2.1)), U (lo (r.2.1))], Value.int .i64 (r.2.2)]) := by
  unfold vec_Cut_m at hM
  refine gives_of_A follows Tryd.func12 rfl 13 rfl (upd (upd (fun _ => undef) 1 (Value.agg #[U (hi (x)), U (lo (x))])) 0 (Value.int .i64 (w))) (by funext k; match k with | 0 => rfl | 1 => rfl | k + 2 => rfl) (fun base0_ => ?_)
  refine A_seq fun K1 hK1 => ?_
  refine A_reg ?_
  refine r_a (31, #[U (hi (x)), U (lo (x))]) rfl rfl rfl (fun b2 => ?_) (.inr rfl)
  refine r_a (24, #[Value.int .i64 (0), U (0#64), U (0#64)]) rfl rfl rfl (fun b3 => ?_) (.inr rfl)
  refine r_v (Value.int .i64 (0)) rfl rfl rfl rfl ?_
  refine lx_nil ?_
  refine hK1 _ _ ?_; try clear hK1 K1
  refine A_seq fun K4 hK4 => ?_
  refine A_seq fun K5 hK5 => ?_
  refine A_reg ?_
  refine r_v (Value.int .i64 (w)) rfl rfl rfl rfl ?_
  replace hM := bind_sm hM; obtain ⟨r6, hr7, hM⟩ := hM
  refine r_c (Value.bool (r6)) rfl _ _ (ev_callF rfl call_51 rfl) (vec_mayWidth_g N (w) _ hr7) ?_
  refine r_v (Value.bool (!(r6))) rfl rfl rfl rfl ?_
  refine lx_nil ?_
  refine hK5 _ _ ?_; try clear hK5 K5
  refine A_cond (!(r6)) rfl (fun hc8 => ?_) (fun hc8 => ?_)
  · replace hM := ifn (Bool.eq_false_iff.1 (not_t hc8)) hM
    refine A_seq fun K9 hK9 => ?_
    refine A_reg ?_
    refine r_v (Value.agg #[Value.int .i64 (0), U (0#64), U (0#64)]) rfl rfl rfl (ev_buildS rfl rfl rfl rfl) ?_
    refine r_s [(b3, 24, #[Value.int .i64 (0), U (0#64), U (0#64)]), (b2, 31, #[U (hi (x)), U (lo (x))])] 0 _ _ _ (#[Value.int .i64 (0), U (0#64), U (0#64)]) (#[Value.int .i64 (0), U (0#64), U (0#64)]) (#[Value.int .i64 (0), U (0#64), U (0#64)]) rfl rfl rfl rfl (.of rfl rfl) rfl rfl ?_
    refine r_v (Value.int .i64 (9)) rfl rfl rfl rfl ?_
    refine lx_nil ?_
    refine hK9 _ _ ?_; try clear hK9 K9
    obtain rfl := Option.some.inj hM
    refine A_ret (fun hn => ends_eq (v0 := Value.tuple #[Value.agg #[Value.int .i64 (0), U (0#64), U (0#64)], Value.int .i64 (9)]) (by first | rfl | simp only [app_hl]) (res2 (res_cell hn 0 rfl rfl rfl) rfl))
  · replace hM := ifp (not_f hc8) hM
    refine A_skip ?_
    refine hK4 _ _ ?_; try clear hK4 K4
    refine A_seq fun K10 hK10 => ?_
    refine A_reg ?_
    refine r_v (Value.int .i64 (w)) rfl rfl rfl rfl ?_
    refine r_l (Value.agg #[U (hi (x)), U (lo (x))]) 1 _ _ _ _ rfl rfl rfl rfl rfl ?_
    replace hM := bind_sm hM; obtain ⟨r11, hr12, hM⟩ := hM
    refine r_c (Value.agg #[Value.int .i64 (r11.1), U (hi (r11.2)), U (lo (r11.2))]) rfl _ _ (ev_callF rfl call_52 rfl) (vec_lowest_g N (w) (x) _ hr12) ?_
    refine r_s [(b3, 24, #[Value.int .i64 (r11.1), U (hi (r11.2)), U (lo (r11.2))]), (b2, 31, #[U (hi (x)), U (lo (x))])] 0 _ _ _ (#[Value.int .i64 (0), U (0#64), U (0#64)]) (#[Value.int .i64 (r11.1), U (hi (r11.2)), U (lo (r11.2))]) (#[Value.int .i64 (r11.1), U (hi (r11.2)), U (lo (r11.2))]) rfl rfl rfl rfl (.of rfl rfl) rfl rfl ?_
    refine r_v (Value.int .i64 (0)) rfl rfl rfl rfl ?_
    refine lx_nil ?_
    refine hK10 _ _ ?_; try clear hK10 K10
    obtain rfl := Option.some.inj hM
    refine A_ret (fun hn => ends_eq (v0 := Value.tuple #[Value.agg #[Value.int .i64 (r11.1), U (hi (r11.2)), U (lo (r11.2))], Value.int .i64 (0)]) rfl (res2 (res_cell hn 0 rfl rfl rfl) rfl))
def vec_Truth_m (_ : Nat) (b : Bool) : Option (Int × (BitVec 128)) := if (b) = true then some (1, (0#64) ++ (1#64)) else some (1, (0#64) ++ (0#64))
set_option maxRecDepth 100000 in
set_option maxHeartbeats 400000 in
theorem vec_Truth_g (N : Nat) (b : Bool) (r : Int × (BitVec 128)) (hM : vec_Truth_m N b = some r) : Gives Tryd.prog 15 #[Value.bool (b)] (Value.agg #[Value.int .i64 (r.1), U (hi (r.2)), U (lo (r.2))]) := by
  unfold vec_Truth_m at hM
  refine gives_of_A follows Tryd.func15 rfl 6 rfl (upd (fun _ => undef) 0 (Value.bool (b))) (by funext k; match k with | 0 => rfl | k + 1 => rfl) (fun base0_ => ?_)
  refine A_seq fun K1 hK1 => ?_
  refine A_reg ?_
  refine r_a (24, #[Value.int .i64 (0), U (0#64), U (0#64)]) rfl rfl rfl (fun b2 => ?_) (.inr rfl)
  refine lx_nil ?_
  refine hK1 _ _ ?_; try clear hK1 K1
  refine A_seq fun K3 hK3 => ?_
  refine A_seq fun K4 hK4 => ?_
  refine A_reg ?_
  refine r_v (Value.bool (b)) rfl rfl rfl rfl ?_
  refine lx_nil ?_
  refine hK4 _ _ ?_; try clear hK4 K4
  refine A_cond (b) rfl (fun hc5 => ?_) (fun hc5 => ?_)
  · replace hM := ifp hc5 hM
    refine A_seq fun K6 hK6 => ?_
    refine A_reg ?_
    refine r_v (Value.agg #[Value.int .i64 (1), U (0#64), U (1#64)]) rfl rfl rfl (ev_buildS rfl rfl rfl rfl) ?_
    refine r_s [(b2, 24, #[Value.int .i64 (1), U (0#64), U (1#64)])] 0 _ _ _ (#[Value.int .i64 (0), U (0#64), U (0#64)]) (#[Value.int .i64 (1), U (0#64), U (1#64)]) (#[Value.int .i64 (1), U (0#64), U (1#64)]) rfl rfl rfl rfl (.of rfl rfl) rfl rfl ?_
    refine lx_nil ?_
    refine hK6 _ _ ?_; try clear hK6 K6
    obtain rfl := Option.some.inj hM
    refine A_ret (fun hn => ends_eq (v0 := Value.agg #[Value.int .i64 (1), U (0#64), U (1#64)]) (by first | rfl | simp only [app_hl]) (res1 (res_cell hn 0 rfl rfl rfl)))
  · replace hM := ifn (Bool.eq_false_iff.1 hc5) hM
    refine A_skip ?_
    refine hK3 _ _ ?_; try clear hK3 K3
    refine A_seq fun K7 hK7 => ?_
    refine A_reg ?_
    refine r_v (Value.agg #[Value.int .i64 (1), U (0#64), U (0#64)]) rfl rfl rfl (ev_buildS rfl rfl rfl rfl) ?_
    refine r_s [(b2, 24, #[Value.int .i64 (1), U (0#64), U (0#64)])] 0 _ _ _ (#[Value.int .i64 (0), U (0#64), U (0#64)]) (#[Value.int .i64 (1), U (0#64), U (0#64)]) (#[Value.int .i64 (1), U (0#64), U (0#64)]) rfl rfl rfl rfl (.of rfl rfl) rfl rfl ?_
    refine lx_nil ?_
    refine hK7 _ _ ?_; try clear hK7 K7
    obtain rfl := Option.some.inj hM
    refine A_ret (fun hn => ends_eq (v0 := Value.agg #[Value.int .i64 (1), U (0#64), U (0#64)]) (by first | rfl | simp only [app_hl]) (res1 (res_cell hn 0 rfl rfl rfl)))
def vec_Not_m (N : Nat) (a_0 : Int) (a_1 : BitVec 128) : Option (Int × (BitVec 128) × Int) := (vec_May_m N (a_0) (a_1)).bind fun r6 => if (r6) = true then (vec_Word_m N (a_0) (a_1)).bind fun r11 => (vec_lowest_m N (a_0) (~~~(r11))).bind fun r13 => some (r13.1, r13.2, 0) else some (0, (0#64) ++ (0#64), 1)
set_option maxRecDepth 100000 in
set_option maxHeartbeats 400000 in
theorem vec_Not_g (N : Nat) (a_0 : Int) (a_1 : BitVec 128) (r : Int × (BitVec 128) × Int) (hM : vec_Not_m N a_0 a_1 = some r) : Gives Tryd.prog 29 #[Value.agg #[Value.int .i64 (a_0), U (hi (a_1)), U (lo (a_1))]] (Value.tuple #[Value.agg #[Value.int .i64 (r.1), U (hi (r.2.1)), U (lo (r.2.1))], Value.int .i64 (r.2.2)]) := by
  unfold vec_Not_m at hM
  refine gives_of_A follows Tryd.func29 rfl 14 rfl (upd (fun _ => undef) 0 (Value.agg #[Value.int .i64 (a_0), U (hi (a_1)), U (lo (a_1))])) (by funext k; match k with | 0 => rfl | k + 1 => rfl) (fun base0_ => ?_)
  refine A_seq fun K1 hK1 => ?_
  refine A_reg ?_
  refine r_a (24, #[Value.int .i64 (a_0), U (hi (a_1)), U (lo (a_1))]) rfl rfl rfl (fun b2 => ?_) (.inr rfl)
  refine r_a (24, #[Value.int .i64 (0), U (0#64), U (0#64)]) rfl rfl rfl (fun b3 => ?_) (.inr rfl)
  refine r_v (Value.int .i64 (0)) rfl rfl rfl rfl ?_
  refine lx_nil ?_
  refine hK1 _ _ ?_; try clear hK1 K1
  refine A_seq fun K4 hK4 => ?_
  refine A_seq fun K5 hK5 => ?_
  refine A_reg ?_
  refine r_l (Value.agg #[Value.int .i64 (a_0), U (hi (a_1)), U (lo (a_1))]) 1 _ _ _ _ rfl rfl rfl rfl rfl ?_
  replace hM := bind_sm hM; obtain ⟨r6, hr7, hM⟩ := hM
  refine r_c (Value.bool (r6)) rfl _ _ (ev_callF rfl call_13 rfl) (vec_May_g N (a_0) (a_1) _ hr7) ?_
  refine r_v (Value.bool (!(r6))) rfl rfl rfl rfl ?_
  refine lx_nil ?_
  refine hK5 _ _ ?_; try clear hK5 K5
  refine A_cond (!(r6)) rfl (fun hc8 => ?_) (fun hc8 => ?_)
  · replace hM := ifn (Bool.eq_false_iff.1 (not_t hc8)) hM
    refine A_seq fun K9 hK9 => ?_
    refine A_reg ?_
    refine r_v (Value.agg #[Value.int .i64 (0), U (0#64), U (0#64)]) rfl rfl rfl (ev_buildS rfl rfl rfl rfl) ?_
    refine r_s [(b3, 24, #[Value.int .i64 (0), U (0#64), U (0#64)]), (b2, 24, #[Value.int .i64 (a_0), U (hi (a_1)), U (lo (a_1))])] 0 _ _ _ (#[Value.int .i64 (0), U (0#64), U (0#64)]) (#[Value.int .i64 (0), U (0#64), U (0#64)]) (#[Value.int .i64 (0), U (0#64), U (0#64)]) rfl rfl rfl rfl (.of rfl rfl) rfl rfl ?_
    refine r_v (Value.int .i64 (1)) rfl rfl rfl rfl ?_
    refine lx_nil ?_
    refine hK9 _ _ ?_; try clear hK9 K9
    obtain rfl := Option.some.inj hM
    refine A_ret (fun hn => ends_eq (v0 := Value.tuple #[Value.agg #[Value.int .i64 (0), U (0#64), U (0#64)], Value.int .i64 (1)]) (by first | rfl | simp only [app_hl]) (res2 (res_cell hn 0 rfl rfl rfl) rfl))
  · replace hM := ifp (not_f hc8) hM
    refine A_skip ?_
    refine hK4 _ _ ?_; try clear hK4 K4
    refine A_seq fun K10 hK10 => ?_
    refine A_draw [] (by decide +kernel) (fun hn => sep_nil) ?_
    refine r_v (Value.pointer (some ⟨b2, 0, none⟩)) rfl rfl rfl rfl ?_
    refine r_l (Value.int .i64 (a_0)) 1 _ _ _ _ rfl rfl rfl rfl rfl ?_
    refine r_l (Value.agg #[Value.int .i64 (a_0), U (hi (a_1)), U (lo (a_1))]) 1 _ _ _ _ rfl rfl rfl rfl rfl ?_
    replace hM := bind_sm hM; obtain ⟨r11, hr12, hM⟩ := hM
    refine r_c (Value.agg #[U (hi (r11)), U (lo (r11))]) rfl _ _ (ev_callF rfl call_14 rfl) (vec_Word_g N (a_0) (a_1) _ hr12) ?_
    refine r_c (Value.agg #[U (hi (~~~(r11))), U (lo (~~~(r11)))]) rfl _ _ (ev_callF rfl call_70 rfl) (not_g (r11)) ?_
    replace hM := bind_sm hM; obtain ⟨r13, hr14, hM⟩ := hM
    refine r_c (Value.agg #[Value.int .i64 (r13.1), U (hi (r13.2)), U (lo (r13.2))]) rfl _ _ (ev_callF rfl call_52 rfl) (vec_lowest_g N (a_0) (~~~(r11)) _ hr14) ?_
    refine r_s [(b3, 24, #[Value.int .i64 (r13.1), U (hi (r13.2)), U (lo (r13.2))]), (b2, 24, #[Value.int .i64 (a_0), U (hi (a_1)), U (lo (a_1))])] 0 _ _ _ (#[Value.int .i64 (0), U (0#64), U (0#64)]) (#[Value.int .i64 (r13.1), U (hi (r13.2)), U (lo (r13.2))]) (#[Value.int .i64 (r13.1), U (hi (r13.2)), U (lo (r13.2))]) rfl rfl rfl rfl (.of rfl rfl) rfl rfl ?_
    refine r_v (Value.int .i64 (0)) rfl rfl rfl rfl ?_
    refine lx_nil ?_
    refine hK10 _ _ ?_; try clear hK10 K10
    obtain rfl := Option.some.inj hM
    refine A_ret (fun hn => ends_eq (v0 := Value.tuple #[Value.agg #[Value.int .i64 (r13.1), U (hi (r13.2)), U (lo (r13.2))], Value.int .i64 (0)]) rfl (res2 (res_cell hn 0 rfl rfl rfl) rfl))
def vec_unlike_k1 (a_0 : Int) (b_0 : Int) : Option (Int) := if (a_0 : Int) ≠ b_0 then some (9) else some (0)
def vec_unlike_m (N : Nat) (a_0 : Int) (a_1 : BitVec 128) (b_0 : Int) (b_1 : BitVec 128) : Option (Int) := (vec_May_m N (a_0) (a_1)).bind fun r10 => if (r10) = true then (vec_May_m N (b_0) (b_1)).bind fun r13 => if (r13) = true then vec_unlike_k1 a_0 b_0  else some (1) else some (1)
set_option maxRecDepth 100000 in
set_option maxHeartbeats 400000 in
theorem vec_unlike_g (N : Nat) (a_0 : Int) (a_1 : BitVec 128) (b_0 : Int) (b_1 : BitVec 128) (r : Int) (hM : vec_unlike_m N a_0 a_1 b_0 b_1 = some r) : Gives Tryd.prog 74 #[Value.agg #[Value.int .i64 (a_0), U (hi (a_1)), U (lo (a_1))], Value.agg #[Value.int .i64 (b_0), U (hi (b_1)), U (lo (b_1))]] (Value.int .i64 (r)) := by
  unfold vec_unlike_m at hM
  refine gives_of_A follows Tryd.func74 rfl 18 rfl (upd (upd (fun _ => undef) 1 (Value.agg #[Value.int .i64 (b_0), U (hi (b_1)), U (lo (b_1))])) 0 (Value.agg #[Value.int .i64 (a_0), U (hi (a_1)), U (lo (a_1))])) (by funext k; match k with | 0 => rfl | 1 => rfl | k + 2 => rfl) (fun base0_ => ?_)
  refine A_seq fun K1 hK1 => ?_
  refine A_reg ?_
  refine r_a (24, #[Value.int .i64 (a_0), U (hi (a_1)), U (lo (a_1))]) rfl rfl rfl (fun b2 => ?_) (.inr rfl)
  refine r_a (24, #[Value.int .i64 (b_0), U (hi (b_1)), U (lo (b_1))]) rfl rfl rfl (fun b3 => ?_) (.inr rfl)
  refine r_v (Value.int .i64 (0)) rfl rfl rfl rfl ?_
  refine lx_nil ?_
  refine hK1 _ _ ?_; try clear hK1 K1
  refine A_cut (fun tt ll => (vec_unlike_k1 a_0 b_0  = some r) ∧ Is [(2, Value.pointer (some ⟨b2, 0, none⟩)), (3, Value.pointer (some ⟨b3, 0, none⟩))] [(b3, 24, #[Value.int .i64 (b_0), U (hi (b_1)), U (lo (b_1))]), (b2, 24, #[Value.int .i64 (a_0), U (hi (a_1)), U (lo (a_1))])] tt ll) ?_ ?_
  · refine A_seq fun K9 hK9 => ?_
    refine A_reg ?_
    refine r_l (Value.agg #[Value.int .i64 (a_0), U (hi (a_1)), U (lo (a_1))]) 1 _ _ _ _ rfl rfl rfl rfl rfl ?_
    replace hM := bind_sm hM; obtain ⟨r10, hr11, hM⟩ := hM
    refine r_c (Value.bool (r10)) rfl _ _ (ev_callF rfl call_13 rfl) (vec_May_g N (a_0) (a_1) _ hr11) ?_
    refine r_v (Value.bool (!(r10))) rfl rfl rfl rfl ?_
    refine r_v (Value.bool (!(r10))) rfl rfl rfl rfl ?_
    rcases hg12 : (!(r10)) with _ | _
    · replace hM := ifp (not_f hg12) hM
      refine r_y rfl ?_
      refine r_l (Value.agg #[Value.int .i64 (b_0), U (hi (b_1)), U (lo (b_1))]) 0 _ _ _ _ rfl rfl rfl rfl rfl ?_
      refine r_y rfl ?_
      replace hM := bind_sm hM; obtain ⟨r13, hr14, hM⟩ := hM
      refine r_c (Value.bool (r13)) rfl _ _ (ev_callF rfl call_13 rfl) (vec_May_g N (b_0) (b_1) _ hr14) ?_
      refine r_y rfl ?_
      refine r_v (Value.bool (!(r13))) rfl rfl rfl rfl ?_
      refine r_v (Value.bool (!(r13))) rfl rfl rfl rfl ?_
      refine lx_nil ?_
      refine hK9 _ _ ?_; try clear hK9 K9
      refine A_cond (!(r13)) rfl (fun hc15 => ?_) (fun hc15 => ?_)
      · replace hM := ifn (Bool.eq_false_iff.1 (not_t hc15)) hM
        refine A_seq fun K16 hK16 => ?_
        refine A_reg ?_
        refine r_v (Value.int .i64 (1)) rfl rfl rfl rfl ?_
        refine lx_nil ?_
        refine hK16 _ _ ?_; try clear hK16 K16
        obtain rfl := Option.some.inj hM
        refine A_ret (fun hn => ends_eq (v0 := Value.int .i64 (1)) rfl (res1 rfl))
      · replace hM := ifp (not_f hc15) hM
        refine A_skip ?_
        refine fg _ (Sub.of (List.Sublist.cons_cons _ (List.Sublist.cons_cons _ (List.Sublist.slnil)))) ?_
        exact ⟨hM, is_mk rfl rfl⟩
    · replace hM := ifn (Bool.eq_false_iff.1 (not_t hg12)) hM
      refine r_n true rfl (by decide) rfl ?_
      refine r_n true rfl (by decide) rfl ?_
      refine r_n true rfl (by decide) rfl ?_
      refine r_v (Value.bool (true)) rfl rfl rfl rfl ?_
      refine lx_nil ?_
      refine hK9 _ _ ?_; try clear hK9 K9
      refine A_cond true rfl (fun _ => ?_) (fun h_ => nomatch h_)
      refine A_seq fun K17 hK17 => ?_
      refine A_reg ?_
      refine r_v (Value.int .i64 (1)) rfl rfl rfl rfl ?_
      refine lx_nil ?_
      refine hK17 _ _ ?_; try clear hK17 K17
      obtain rfl := Option.some.inj hM
      refine A_ret (fun hn => ends_eq (v0 := Value.int .i64 (1)) rfl (res1 rfl))
  · clear hM; rintro t l ⟨hM, ⟨T, rfl⟩, rfl⟩
    unfold vec_unlike_k1 at hM
    refine A_seq fun K4 hK4 => ?_
    refine A_seq fun K5 hK5 => ?_
    refine A_reg ?_
    refine r_v (Value.pointer (some ⟨b2, 0, none⟩)) rfl rfl rfl rfl ?_
    refine r_l (Value.int .i64 (a_0)) 1 _ _ _ _ rfl rfl rfl rfl rfl ?_
    refine r_v (Value.pointer (some ⟨b3, 0, none⟩)) rfl rfl rfl rfl ?_
    refine r_l (Value.int .i64 (b_0)) 0 _ _ _ _ rfl rfl rfl rfl rfl ?_
    refine r_v (Value.bool (((a_0 : Int) != b_0))) rfl rfl rfl rfl ?_
    refine lx_nil ?_
    refine hK5 _ _ ?_; try clear hK5 K5
    refine A_cond (((a_0 : Int) != b_0)) rfl (fun hc6 => ?_) (fun hc6 => ?_)
    · replace hM := ifp (bne_iff_ne.1 hc6) hM
      refine A_seq fun K7 hK7 => ?_
      refine A_reg ?_
      refine r_v (Value.int .i64 (9)) rfl rfl rfl rfl ?_
      refine lx_nil ?_
      refine hK7 _ _ ?_; try clear hK7 K7
      obtain rfl := Option.some.inj hM
      refine A_ret (fun hn => ends_eq (v0 := Value.int .i64 (9)) rfl (res1 rfl))
    · replace hM := ifn (bne_f hc6) hM
      refine A_skip ?_
      refine hK4 _ _ ?_; try clear hK4 K4
      refine A_seq fun K8 hK8 => ?_
      refine A_reg ?_
      refine r_v (Value.int .i64 (0)) rfl rfl rfl rfl ?_
      refine lx_nil ?_
      refine hK8 _ _ ?_; try clear hK8 K8
      obtain rfl := Option.some.inj hM
      refine A_ret (fun hn => ends_eq (v0 := Value.int .i64 (0)) rfl (res1 rfl))
def vec_pair_m (N : Nat) (a_0 : Int) (a_1 : BitVec 128) (b_0 : Int) (b_1 : BitVec 128) (do' : (BitVec 128 → BitVec 128 → Option (Int × BitVec 128))) : Option (Int × (BitVec 128) × Int) := (vec_unlike_m N (a_0) (a_1) (b_0) (b_1)).bind fun r7 => if (r7 : Int) ≠ 0 then some (0, (0#64) ++ (0#64), r7) else (vec_Word_m N (a_0) (a_1)).bind fun r13 => (vec_Word_m N (b_0) (b_1)).bind fun r15 => (do' r13 r15).bind fun r17 => some (r17.1, r17.2, 0)
set_option maxRecDepth 100000 in
set_option maxHeartbeats 400000 in
theorem vec_pair_g (N : Nat) (a_0 : Int) (a_1 : BitVec 128) (b_0 : Int) (b_1 : BitVec 128) (do' : (BitVec 128 → BitVec 128 → Option (Int × BitVec 128))) (r : Int × (BitVec 128) × Int) (hM : vec_pair_m N a_0 a_1 b_0 b_1 do' = some r) (ro : Addr → Option Value) (fdo : FuncId) (cdo : List Value) (cbdo : callB Tryd.prog fdo = true) (hdo : ∀ (y0 : BitVec 128) (y1 : BitVec 128) (q : Int × BitVec 128), do' y0 y1 = some q → Does Tryd.prog fdo ([Value.agg #[U (hi (y0)), U (lo (y0))], Value.agg #[U (hi (y1)), U (lo (y1))]] ++ cdo).toArray ro [] (pV (Value.agg #[Value.int .i64 (q.1), U (hi (q.2)), U (lo (q.2))]))) : Does Tryd.prog 55 #[Value.agg #[Value.int .i64 (a_0), U (hi (a_1)), U (lo (a_1))], Value.agg #[Value.int .i64 (b_0), U (hi (b_1)), U (lo (b_1))], Value.func (.func fdo) #[] cdo.toArray] ro [] (pV (Value.tuple #[Value.agg #[Value.int .i64 (r.1), U (hi (r.2.1)), U (lo (r.2.1))], Value.int .i64 (r.2.2)])) := by
  unfold vec_pair_m at hM
  refine does_of_A follows Tryd.func55 rfl 22 rfl (upd (upd (upd (fun _ => undef) 2 (Value.func (.func fdo) #[] cdo.toArray)) 1 (Value.agg #[Value.int .i64 (b_0), U (hi (b_1)), U (lo (b_1))])) 0 (Value.agg #[Value.int .i64 (a_0), U (hi (a_1)), U (lo (a_1))])) (by funext k; match k with | 0 => rfl | 1 => rfl | 2 => rfl | k + 3 => rfl) (fun base0_ => ?_)
  refine A_seq fun K1 hK1 => ?_
  refine A_reg ?_
  refine r_a (24, #[Value.int .i64 (a_0), U (hi (a_1)), U (lo (a_1))]) rfl rfl rfl (fun b2 => ?_) (.inr rfl)
  refine r_a (24, #[Value.int .i64 (b_0), U (hi (b_1)), U (lo (b_1))]) rfl rfl rfl (fun b3 => ?_) (.inr rfl)
  refine r_a (24, #[Value.int .i64 (0), U (0#64), U (0#64)]) rfl rfl rfl (fun b4 => ?_) (.inr rfl)
  refine r_v (Value.int .i64 (0)) rfl rfl rfl rfl ?_
  refine lx_nil ?_
  refine hK1 _ _ ?_; try clear hK1 K1
  refine A_seq fun K5 hK5 => ?_
  refine A_seq fun K6 hK6 => ?_
  refine A_reg ?_
  refine r_l (Value.agg #[Value.int .i64 (a_0), U (hi (a_1)), U (lo (a_1))]) 2 _ _ _ _ rfl rfl rfl rfl rfl ?_
  refine r_l (Value.agg #[Value.int .i64 (b_0), U (hi (b_1)), U (lo (b_1))]) 1 _ _ _ _ rfl rfl rfl rfl rfl ?_
  replace hM := bind_sm hM; obtain ⟨r7, hr8, hM⟩ := hM
  refine r_c (Value.int .i64 (r7)) rfl _ _ (ev_callF rfl call_74 rfl) (vec_unlike_g N (a_0) (a_1) (b_0) (b_1) _ hr8) ?_
  refine r_v (Value.int .i64 (r7)) rfl rfl rfl rfl ?_
  refine lx_nil ?_
  refine hK6 _ _ ?_; try clear hK6 K6
  refine A_seq fun K9 hK9 => ?_
  refine A_reg ?_
  refine r_v (Value.int .i64 (r7)) rfl rfl rfl rfl ?_
  refine r_v (Value.bool (((r7 : Int) != 0))) rfl rfl rfl rfl ?_
  refine lx_nil ?_
  refine hK9 _ _ ?_; try clear hK9 K9
  refine A_cond (((r7 : Int) != 0)) rfl (fun hc10 => ?_) (fun hc10 => ?_)
  · replace hM := ifp (bne_iff_ne.1 hc10) hM
    refine A_seq fun K11 hK11 => ?_
    refine A_reg ?_
    refine r_v (Value.agg #[Value.int .i64 (0), U (0#64), U (0#64)]) rfl rfl rfl (ev_buildS rfl rfl rfl rfl) ?_
    refine r_v (Value.int .i64 (r7)) rfl rfl rfl rfl ?_
    refine r_s [(b4, 24, #[Value.int .i64 (0), U (0#64), U (0#64)]), (b3, 24, #[Value.int .i64 (b_0), U (hi (b_1)), U (lo (b_1))]), (b2, 24, #[Value.int .i64 (a_0), U (hi (a_1)), U (lo (a_1))])] 0 _ _ _ (#[Value.int .i64 (0), U (0#64), U (0#64)]) (#[Value.int .i64 (0), U (0#64), U (0#64)]) (#[Value.int .i64 (0), U (0#64), U (0#64)]) rfl rfl rfl rfl (.of rfl rfl) rfl rfl ?_
    refine r_v (Value.int .i64 (r7)) rfl rfl rfl rfl ?_
    refine lx_nil ?_
    refine hK11 _ _ ?_; try clear hK11 K11
    obtain rfl := Option.some.inj hM
    refine A_ret (fun hn => endsV (v0 := Value.tuple #[Value.agg #[Value.int .i64 (0), U (0#64), U (0#64)], Value.int .i64 (r7)]) (by first | rfl | simp only [app_hl]) (res2 (res_cell hn 0 rfl rfl rfl) rfl))
  · replace hM := ifn (bne_f hc10) hM
    refine A_skip ?_
    refine hK5 _ _ ?_; try clear hK5 K5
    refine A_seq fun K12 hK12 => ?_
    refine A_drawR [(some 21, false)] (conG Tryd.prog [(21, fun v_ L_ U_ => ∀ u0_, vec_Word_m N (a_0) (a_1) = some u0_ → ∀ u1_, vec_Word_m N (b_0) (b_1) = some u1_ → ∀ u2_, do' u0_ u1_ = some u2_ → (pV (Value.agg #[Value.int .i64 (u2_.1), U (hi (u2_.2)), U (lo (u2_.2))])) v_ L_ U_)]) [] (by decide +kernel) (fun hn => sep_nil) ?_
    refine r_v (Value.func (.func fdo) #[] cdo.toArray) rfl rfl rfl rfl ?_
    refine r_l (Value.agg #[Value.int .i64 (a_0), U (hi (a_1)), U (lo (a_1))]) 2 _ _ _ _ rfl rfl rfl rfl rfl ?_
    replace hM := bind_sm hM; obtain ⟨r13, hr14, hM⟩ := hM
    refine r_c (Value.agg #[U (hi (r13)), U (lo (r13))]) rfl _ _ (ev_callF rfl call_14 rfl) (vec_Word_g N (a_0) (a_1) _ hr14) ?_
    refine r_l (Value.agg #[Value.int .i64 (b_0), U (hi (b_1)), U (lo (b_1))]) 1 _ _ _ _ rfl rfl rfl rfl rfl ?_
    replace hM := bind_sm hM; obtain ⟨r15, hr16, hM⟩ := hM
    refine r_c (Value.agg #[U (hi (r15)), U (lo (r15))]) rfl _ _ (ev_callF rfl call_14 rfl) (vec_Word_g N (b_0) (b_1) _ hr16) ?_
    replace hM := bind_sm hM; obtain ⟨r17, hr18, hM⟩ := hM
    refine r_gv (Value.agg #[Value.int .i64 (r17.1), U (hi (r17.2)), U (lo (r17.2))]) fdo _ rfl rfl rfl (ev_callV rfl cbdo rfl) (fun own_ nw_ hs_ => (hdo r13 r15 _ hr18).mono hs_.ro_cell) (fun _ _ v_ L_ U_ => ⟨fun h_ => h_ _ hr14 _ hr16 _ hr18, fun h_ => by intro _ e_; cases Option.some.inj (e_.symm.trans hr14); intro _ e_; cases Option.some.inj (e_.symm.trans hr16); intro _ e_; cases Option.some.inj (e_.symm.trans hr18); exact h_⟩) ?_
    refine r_s [(b4, 24, #[Value.int .i64 (r17.1), U (hi (r17.2)), U (lo (r17.2))]), (b3, 24, #[Value.int .i64 (b_0), U (hi (b_1)), U (lo (b_1))]), (b2, 24, #[Value.int .i64 (a_0), U (hi (a_1)), U (lo (a_1))])] 0 _ _ _ (#[Value.int .i64 (0), U (0#64), U (0#64)]) (#[Value.int .i64 (r17.1), U (hi (r17.2)), U (lo (r17.2))]) (#[Value.int .i64 (r17.1), U (hi (r17.2)), U (lo (r17.2))]) rfl rfl rfl rfl (.of rfl rfl) rfl rfl ?_
    refine r_v (Value.int .i64 (0)) rfl rfl rfl rfl ?_
    refine lx_nil ?_
    refine hK12 _ _ ?_; try clear hK12 K12
    obtain rfl := Option.some.inj hM
    refine A_ret (fun hn => endsV (v0 := Value.tuple #[Value.agg #[Value.int .i64 (r17.1), U (hi (r17.2)), U (lo (r17.2))], Value.int .i64 (0)]) rfl (res2 (res_cell hn 0 rfl rfl rfl) rfl))
def vec_Sub_1_m (N : Nat) (x : BitVec 128) (y : BitVec 128) (c0__0 : Int) (_ : BitVec 128) : Option (Int × (BitVec 128)) := (vec_lowest_m N (c0__0) ((x) - (y))).bind fun r8 => some (r8.1, r8.2)
set_option maxRecDepth 100000 in
set_option maxHeartbeats 400000 in
theorem vec_Sub_1_g (N : Nat) (x : BitVec 128) (y : BitVec 128) (c0__0 : Int) (c0__1 : BitVec 128) (r : Int × (BitVec 128)) (hM : vec_Sub_1_m N x y c0__0 c0__1 = some r) (ro : Addr → Option Value) (b0_ : Nat) (hb0_ : Blk ro b0_ [Value.int .i64 (c0__0), U (hi (c0__1)), U (lo (c0__1))]) : Does Tryd.prog 58 #[Value.agg #[U (hi (x)), U (lo (x))], Value.agg #[U (hi (y)), U (lo (y))], Value.pointer (some ⟨b0_, 0, none⟩)] ro [] (pV (Value.agg #[Value.int .i64 (r.1), U (hi (r.2)), U (lo (r.2))])) := by
  unfold vec_Sub_1_m at hM
  refine does_of_A follows Tryd.func58 rfl 18 rfl (upd (upd (upd (fun _ => undef) 2 (Value.pointer (some ⟨b0_, 0, none⟩))) 1 (Value.agg #[U (hi (y)), U (lo (y))])) 0 (Value.agg #[U (hi (x)), U (lo (x))])) (by funext k; match k with | 0 => rfl | 1 => rfl | 2 => rfl | k + 3 => rfl) (fun base0_ => ?_)
  refine A_seq fun K1 hK1 => ?_
  refine A_reg ?_
  refine r_a (31, #[U (hi (x)), U (lo (x))]) rfl rfl rfl (fun b2 => ?_) (.inr rfl)
  refine r_a (31, #[U (hi (y)), U (lo (y))]) rfl rfl rfl (fun b3 => ?_) (.inr rfl)
  refine r_a (24, #[Value.int .i64 (0), U (0#64), U (0#64)]) rfl rfl rfl (fun b4 => ?_) (.inr rfl)
  refine lx_nil ?_
  refine hK1 _ _ ?_; try clear hK1 K1
  refine A_seq fun K5 hK5 => ?_
  refine A_reg ?_
  refine r_l (Value.agg #[U (hi (x)), U (lo (x))]) 2 _ _ _ _ rfl rfl rfl rfl rfl ?_
  refine r_l (Value.agg #[U (hi (y)), U (lo (y))]) 1 _ _ _ _ rfl rfl rfl rfl rfl ?_
  refine r_c (Value.tuple #[Value.agg #[U (hi ((x) - (y))), U (lo ((x) - (y)))], Value.bool (decide ((x) < (y)))]) rfl _ _ (ev_callF rfl call_59 rfl) (sub_g (x) (y)) ?_
  refine r_v (Value.tuple #[Value.agg #[U (hi ((x) - (y))), U (lo ((x) - (y)))], Value.bool (decide ((x) < (y)))]) rfl rfl rfl rfl ?_
  refine r_v (Value.agg #[U (hi ((x) - (y))), U (lo ((x) - (y)))]) rfl rfl rfl rfl ?_
  refine r_v (Value.bool (decide ((x) < (y)))) rfl rfl rfl rfl ?_
  refine r_a (31, #[U (0#64), U (0#64)]) rfl rfl rfl (fun b6 => ?_) (.inr rfl)
  refine r_s [(b6, 31, #[U (hi ((x) - (y))), U (lo ((x) - (y)))]), (b4, 24, #[Value.int .i64 (0), U (0#64), U (0#64)]), (b3, 31, #[U (hi (y)), U (lo (y))]), (b2, 31, #[U (hi (x)), U (lo (x))])] 0 _ _ _ (#[U (0#64), U (0#64)]) (#[U (hi ((x) - (y))), U (lo ((x) - (y)))]) (#[U (hi ((x) - (y))), U (lo ((x) - (y)))]) rfl rfl rfl rfl (.of rfl rfl) rfl rfl ?_
  refine r_v (Value.bool (decide ((x) < (y)))) rfl rfl rfl rfl ?_
  refine lx_nil ?_
  refine hK5 _ _ ?_; try clear hK5 K5
  refine A_seq fun K7 hK7 => ?_
  refine A_reg ?_
  refine r_v (Value.pointer (some ⟨b0_, 0, none⟩)) rfl rfl rfl rfl ?_
  refine r_lb (Value.int .i64 (c0__0)) (vs := [Value.int .i64 (c0__0), U (hi (c0__1)), U (lo (c0__1))]) (o := 0) rfl rfl (blk_ro hb0_) rfl ?_
  refine r_l (Value.agg #[U (hi ((x) - (y))), U (lo ((x) - (y)))]) 0 _ _ _ _ rfl rfl rfl rfl rfl ?_
  replace hM := bind_sm hM; obtain ⟨r8, hr9, hM⟩ := hM
  refine r_c (Value.agg #[Value.int .i64 (r8.1), U (hi (r8.2)), U (lo (r8.2))]) rfl _ _ (ev_callF rfl call_52 rfl) (vec_lowest_g N (c0__0) ((x) - (y)) _ hr9) ?_
  refine r_s [(b6, 31, #[U (hi ((x) - (y))), U (lo ((x) - (y)))]), (b4, 24, #[Value.int .i64 (r8.1), U (hi (r8.2)), U (lo (r8.2))]), (b3, 31, #[U (hi (y)), U (lo (y))]), (b2, 31, #[U (hi (x)), U (lo (x))])] 1 _ _ _ (#[Value.int .i64 (0), U (0#64), U (0#64)]) (#[Value.int .i64 (r8.1), U (hi (r8.2)), U (lo (r8.2))]) (#[Value.int .i64 (r8.1), U (hi (r8.2)), U (lo (r8.2))]) rfl rfl rfl rfl (.of rfl rfl) rfl rfl ?_
  refine lx_nil ?_
  refine hK7 _ _ ?_; try clear hK7 K7
  obtain rfl := Option.some.inj hM
  refine A_ret (fun hn => endsV (v0 := Value.agg #[Value.int .i64 (r8.1), U (hi (r8.2)), U (lo (r8.2))]) rfl (res1 (res_cell hn 1 rfl rfl rfl)))
def vec_Sub_m (N : Nat) (a_0 : Int) (a_1 : BitVec 128) (b_0 : Int) (b_1 : BitVec 128) : Option (Int × (BitVec 128) × Int) := (vec_pair_m N a_0 a_1 b_0 b_1 (fun (z0_ : BitVec 128) (z1_ : BitVec 128) => vec_Sub_1_m N z0_ z1_ a_0 a_1)).bind fun r6 => some (r6.1, r6.2.1, r6.2.2)
set_option maxRecDepth 100000 in
set_option maxHeartbeats 400000 in
theorem vec_Sub_g (N : Nat) (a_0 : Int) (a_1 : BitVec 128) (b_0 : Int) (b_1 : BitVec 128) (r : Int × (BitVec 128) × Int) (hM : vec_Sub_m N a_0 a_1 b_0 b_1 = some r) : Gives Tryd.prog 20 #[Value.agg #[Value.int .i64 (a_0), U (hi (a_1)), U (lo (a_1))], Value.agg #[Value.int .i64 (b_0), U (hi (b_1)), U (lo (b_1))]] (Value.tuple #[Value.agg #[Value.int .i64 (r.1), U (hi (r.2.1)), U (lo (r.2.1))], Value.int .i64 (r.2.2)]) := by
  unfold vec_Sub_m at hM
  refine gives_of_A follows Tryd.func20 rfl 12 rfl (upd (upd (fun _ => undef) 1 (Value.agg #[Value.int .i64 (b_0), U (hi (b_1)), U (lo (b_1))])) 0 (Value.agg #[Value.int .i64 (a_0), U (hi (a_1)), U (lo (a_1))])) (by funext k; match k with | 0 => rfl | 1 => rfl | k + 2 => rfl) (fun base0_ => ?_)
  refine A_seq fun K1 hK1 => ?_
  refine A_reg ?_
  refine r_a (24, #[Value.int .i64 (a_0), U (hi (a_1)), U (lo (a_1))]) rfl rfl rfl (fun b2 => ?_) (.inr rfl)
  refine r_a (24, #[Value.int .i64 (b_0), U (hi (b_1)), U (lo (b_1))]) rfl rfl rfl (fun b3 => ?_) (.inr rfl)
  refine r_a (24, #[Value.int .i64 (0), U (0#64), U (0#64)]) rfl rfl rfl (fun b4 => ?_) (.inr rfl)
  refine r_v (Value.int .i64 (0)) rfl rfl rfl rfl ?_
  refine lx_nil ?_
  refine hK1 _ _ ?_; try clear hK1 K1
  refine A_seq fun K5 hK5 => ?_
  refine A_regC [(some 9, false)] (conG Tryd.prog [(9, fun v_ L_ U_ => ∀ u0_, vec_pair_m N a_0 a_1 b_0 b_1 (fun (z0_ : BitVec 128) (z1_ : BitVec 128) => vec_Sub_1_m N z0_ z1_ a_0 a_1) = some u0_ → (pV (Value.tuple #[Value.agg #[Value.int .i64 (u0_.1), U (hi (u0_.2.1)), U (lo (u0_.2.1))], Value.int .i64 (u0_.2.2)])) v_ L_ U_)]) ?_
  refine r_l (Value.agg #[Value.int .i64 (a_0), U (hi (a_1)), U (lo (a_1))]) 2 _ _ _ _ rfl rfl rfl rfl rfl ?_
  refine r_l (Value.agg #[Value.int .i64 (b_0), U (hi (b_1)), U (lo (b_1))]) 1 _ _ _ _ rfl rfl rfl rfl rfl ?_
  refine r_v (Value.func (.func 58) #[] #[Value.pointer (some ⟨b2, 0, none⟩)]) rfl rfl rfl (ev_mkF rfl) ?_
  replace hM := bind_sm hM; obtain ⟨r6, hr7, hM⟩ := hM
  refine r_gv (Value.tuple #[Value.agg #[Value.int .i64 (r6.1), U (hi (r6.2.1)), U (lo (r6.2.1))], Value.int .i64 (r6.2.2)]) 55 _ rfl rfl rfl (ev_callF rfl call_55 rfl) (fun own_ nw_ hs_ => vec_pair_g N a_0 a_1 b_0 b_1 (fun (z0_ : BitVec 128) (z1_ : BitVec 128) => vec_Sub_1_m N z0_ z1_ a_0 a_1) _ hr7 hs_.view 58 [Value.pointer (some ⟨b2, 0, none⟩)] call_58 (fun z0_ z1_ q_ h_ => vec_Sub_1_g N z0_ z1_ a_0 a_1 q_ h_ hs_.view b2 (blk_own 2 rfl rfl own_ nw_ hs_))) (fun _ _ v_ L_ U_ => ⟨fun h_ => h_ _ hr7, fun h_ => by intro _ e_; cases Option.some.inj (e_.symm.trans hr7); exact h_⟩) ?_
  refine r_v (Value.agg #[Value.int .i64 (r6.1), U (hi (r6.2.1)), U (lo (r6.2.1))]) rfl rfl rfl rfl ?_
  refine r_v (Value.int .i64 (r6.2.2)) rfl rfl rfl rfl ?_
  refine r_s [(b4, 24, #[Value.int .i64 (r6.1), U (hi (r6.2.1)), U (lo (r6.2.1))]), (b3, 24, #[Value.int .i64 (b_0), U (hi (b_1)), U (lo (b_1))]), (b2, 24, #[Value.int .i64 (a_0), U (hi (a_1)), U (lo (a_1))])] 0 _ _ _ (#[Value.int .i64 (0), U (0#64), U (0#64)]) (#[Value.int .i64 (r6.1), U (hi (r6.2.1)), U (lo (r6.2.1))]) (#[Value.int .i64 (r6.1), U (hi (r6.2.1)), U (lo (r6.2.1))]) rfl rfl rfl rfl (.of rfl rfl) rfl rfl ?_
  refine r_v (Value.int .i64 (r6.2.2)) rfl rfl rfl rfl ?_
  refine lx_nil ?_
  refine hK5 _ _ ?_; try clear hK5 K5
  obtain rfl := Option.some.inj hM
  refine A_ret (fun hn => ends_eq (v0 := Value.tuple #[Value.agg #[Value.int .i64 (r6.1), U (hi (r6.2.1)), U (lo (r6.2.1))], Value.int .i64 (r6.2.2)]) rfl (res2 (res_cell hn 0 rfl rfl rfl) rfl))
def vec_Neg_m (N : Nat) (a_0 : Int) (a_1 : BitVec 128) : Option (Int × (BitVec 128) × Int) := (vec_Sub_m N (a_0) ((0#64) ++ (0#64)) (a_0) (a_1)).bind fun r5 => some (r5.1, r5.2.1, r5.2.2)
set_option maxRecDepth 100000 in
set_option maxHeartbeats 400000 in
theorem vec_Neg_g (N : Nat) (a_0 : Int) (a_1 : BitVec 128) (r : Int × (BitVec 128) × Int) (hM : vec_Neg_m N a_0 a_1 = some r) : Gives Tryd.prog 30 #[Value.agg #[Value.int .i64 (a_0), U (hi (a_1)), U (lo (a_1))]] (Value.tuple #[Value.agg #[Value.int .i64 (r.1), U (hi (r.2.1)), U (lo (r.2.1))], Value.int .i64 (r.2.2)]) := by
  unfold vec_Neg_m at hM
  refine gives_of_A follows Tryd.func30 rfl 11 rfl (upd (fun _ => undef) 0 (Value.agg #[Value.int .i64 (a_0), U (hi (a_1)), U (lo (a_1))])) (by funext k; match k with | 0 => rfl | k + 1 => rfl) (fun base0_ => ?_)
  refine A_seq fun K1 hK1 => ?_
  refine A_reg ?_
  refine r_a (24, #[Value.int .i64 (a_0), U (hi (a_1)), U (lo (a_1))]) rfl rfl rfl (fun b2 => ?_) (.inr rfl)
  refine r_a (24, #[Value.int .i64 (0), U (0#64), U (0#64)]) rfl rfl rfl (fun b3 => ?_) (.inr rfl)
  refine r_v (Value.int .i64 (0)) rfl rfl rfl rfl ?_
  refine lx_nil ?_
  refine hK1 _ _ ?_; try clear hK1 K1
  refine A_seq fun K4 hK4 => ?_
  refine A_reg ?_
  refine r_v (Value.pointer (some ⟨b2, 0, none⟩)) rfl rfl rfl rfl ?_
  refine r_l (Value.int .i64 (a_0)) 1 _ _ _ _ rfl rfl rfl rfl rfl ?_
  refine r_v (Value.agg #[Value.int .i64 (a_0), U (0#64), U (0#64)]) rfl rfl rfl (ev_buildS rfl rfl rfl rfl) ?_
  refine r_l (Value.agg #[Value.int .i64 (a_0), U (hi (a_1)), U (lo (a_1))]) 1 _ _ _ _ rfl rfl rfl rfl rfl ?_
  replace hM := bind_sm hM; obtain ⟨r5, hr6, hM⟩ := hM
  refine r_c (Value.tuple #[Value.agg #[Value.int .i64 (r5.1), U (hi (r5.2.1)), U (lo (r5.2.1))], Value.int .i64 (r5.2.2)]) rfl _ _ (ev_callF rfl call_20 rfl) (by have h_ := (vec_Sub_g N (a_0) ((0#64) ++ (0#64)) (a_0) (a_1) _ hr6); simp only [app_hl] at h_; exact h_) ?_
  refine r_v (Value.agg #[Value.int .i64 (r5.1), U (hi (r5.2.1)), U (lo (r5.2.1))]) rfl rfl rfl rfl ?_
  refine r_v (Value.int .i64 (r5.2.2)) rfl rfl rfl rfl ?_
  refine r_s [(b3, 24, #[Value.int .i64 (r5.1), U (hi (r5.2.1)), U (lo (r5.2.1))]), (b2, 24, #[Value.int .i64 (a_0), U (hi (a_1)), U (lo (a_1))])] 0 _ _ _ (#[Value.int .i64 (0), U (0#64), U (0#64)]) (#[Value.int .i64 (r5.1), U (hi (r5.2.1)), U (lo (r5.2.1))]) (#[Value.int .i64 (r5.1), U (hi (r5.2.1)), U (lo (r5.2.1))]) rfl rfl rfl rfl (.of rfl rfl) rfl rfl ?_
  refine r_v (Value.int .i64 (r5.2.2)) rfl rfl rfl rfl ?_
  refine lx_nil ?_
  refine hK4 _ _ ?_; try clear hK4 K4
  obtain rfl := Option.some.inj hM
  refine A_ret (fun hn => ends_eq (v0 := Value.tuple #[Value.agg #[Value.int .i64 (r5.1), U (hi (r5.2.1)), U (lo (r5.2.1))], Value.int .i64 (r5.2.2)]) rfl (res2 (res_cell hn 0 rfl rfl rfl) rfl))
def vec_move_m (N : Nat) (a_0 : Int) (a_1 : BitVec 128) (n : Int) (by' : (BitVec 128 → Int → Option (BitVec 128))) : Option (Int × (BitVec 128) × Int) := (vec_May_m N (a_0) (a_1)).bind fun r6 => if (r6) = true then if (n : Int) < 0 then some (0, (0#64) ++ (0#64), 7) else (vec_Word_m N (a_0) (a_1)).bind fun r15 => (by' r15 n).bind fun r17 => (vec_lowest_m N (a_0) (r17)).bind fun r19 => some (r19.1, r19.2, 0) else some (0, (0#64) ++ (0#64), 1)
set_option maxRecDepth 100000 in
set_option maxHeartbeats 400000 in
theorem vec_move_g (N : Nat) (a_0 : Int) (a_1 : BitVec 128) (n : Int) (by' : (BitVec 128 → Int → Option (BitVec 128))) (r : Int × (BitVec 128) × Int) (hM : vec_move_m N a_0 a_1 n by' = some r) (ro : Addr → Option Value) (fby : FuncId) (cby : List Value) (cbby : callB Tryd.prog fby = true) (hby : ∀ (y0 : BitVec 128) (y1 : Int) (q : BitVec 128), by' y0 y1 = some q → Does Tryd.prog fby ([Value.agg #[U (hi (y0)), U (lo (y0))], Value.int .i64 (y1)] ++ cby).toArray ro [] (pV (Value.agg #[U (hi (q)), U (lo (q))]))) : Does Tryd.prog 71 #[Value.agg #[Value.int .i64 (a_0), U (hi (a_1)), U (lo (a_1))], Value.int .i64 (n), Value.func (.func fby) #[] cby.toArray] ro [] (pV (Value.tuple #[Value.agg #[Value.int .i64 (r.1), U (hi (r.2.1)), U (lo (r.2.1))], Value.int .i64 (r.2.2)])) := by
  unfold vec_move_m at hM
  refine does_of_A follows Tryd.func71 rfl 23 rfl (upd (upd (upd (fun _ => undef) 2 (Value.func (.func fby) #[] cby.toArray)) 1 (Value.int .i64 (n))) 0 (Value.agg #[Value.int .i64 (a_0), U (hi (a_1)), U (lo (a_1))])) (by funext k; match k with | 0 => rfl | 1 => rfl | 2 => rfl | k + 3 => rfl) (fun base0_ => ?_)
  refine A_seq fun K1 hK1 => ?_
  refine A_reg ?_
  refine r_a (24, #[Value.int .i64 (a_0), U (hi (a_1)), U (lo (a_1))]) rfl rfl rfl (fun b2 => ?_) (.inr rfl)
  refine r_a (24, #[Value.int .i64 (0), U (0#64), U (0#64)]) rfl rfl rfl (fun b3 => ?_) (.inr rfl)
  refine r_v (Value.int .i64 (0)) rfl rfl rfl rfl ?_
  refine lx_nil ?_
  refine hK1 _ _ ?_; try clear hK1 K1
  refine A_seq fun K4 hK4 => ?_
  refine A_seq fun K5 hK5 => ?_
  refine A_reg ?_
  refine r_l (Value.agg #[Value.int .i64 (a_0), U (hi (a_1)), U (lo (a_1))]) 1 _ _ _ _ rfl rfl rfl rfl rfl ?_
  replace hM := bind_sm hM; obtain ⟨r6, hr7, hM⟩ := hM
  refine r_c (Value.bool (r6)) rfl _ _ (ev_callF rfl call_13 rfl) (vec_May_g N (a_0) (a_1) _ hr7) ?_
  refine r_v (Value.bool (!(r6))) rfl rfl rfl rfl ?_
  refine lx_nil ?_
  refine hK5 _ _ ?_; try clear hK5 K5
  refine A_cond (!(r6)) rfl (fun hc8 => ?_) (fun hc8 => ?_)
  · replace hM := ifn (Bool.eq_false_iff.1 (not_t hc8)) hM
    refine A_seq fun K9 hK9 => ?_
    refine A_reg ?_
    refine r_v (Value.agg #[Value.int .i64 (0), U (0#64), U (0#64)]) rfl rfl rfl (ev_buildS rfl rfl rfl rfl) ?_
    refine r_s [(b3, 24, #[Value.int .i64 (0), U (0#64), U (0#64)]), (b2, 24, #[Value.int .i64 (a_0), U (hi (a_1)), U (lo (a_1))])] 0 _ _ _ (#[Value.int .i64 (0), U (0#64), U (0#64)]) (#[Value.int .i64 (0), U (0#64), U (0#64)]) (#[Value.int .i64 (0), U (0#64), U (0#64)]) rfl rfl rfl rfl (.of rfl rfl) rfl rfl ?_
    refine r_v (Value.int .i64 (1)) rfl rfl rfl rfl ?_
    refine lx_nil ?_
    refine hK9 _ _ ?_; try clear hK9 K9
    obtain rfl := Option.some.inj hM
    refine A_ret (fun hn => endsV (v0 := Value.tuple #[Value.agg #[Value.int .i64 (0), U (0#64), U (0#64)], Value.int .i64 (1)]) (by first | rfl | simp only [app_hl]) (res2 (res_cell hn 0 rfl rfl rfl) rfl))
  · replace hM := ifp (not_f hc8) hM
    refine A_skip ?_
    refine hK4 _ _ ?_; try clear hK4 K4
    refine A_seq fun K10 hK10 => ?_
    refine A_seq fun K11 hK11 => ?_
    refine A_reg ?_
    refine r_v (Value.int .i64 (n)) rfl rfl rfl rfl ?_
    refine r_v (Value.bool (decide ((n : Int) < 0))) rfl rfl rfl rfl ?_
    refine lx_nil ?_
    refine hK11 _ _ ?_; try clear hK11 K11
    refine A_cond (decide ((n : Int) < 0)) rfl (fun hc12 => ?_) (fun hc12 => ?_)
    · replace hM := ifp (of_decide_eq_true hc12) hM
      refine A_seq fun K13 hK13 => ?_
      refine A_reg ?_
      refine r_v (Value.agg #[Value.int .i64 (0), U (0#64), U (0#64)]) rfl rfl rfl (ev_buildS rfl rfl rfl rfl) ?_
      refine r_s [(b3, 24, #[Value.int .i64 (0), U (0#64), U (0#64)]), (b2, 24, #[Value.int .i64 (a_0), U (hi (a_1)), U (lo (a_1))])] 0 _ _ _ (#[Value.int .i64 (0), U (0#64), U (0#64)]) (#[Value.int .i64 (0), U (0#64), U (0#64)]) (#[Value.int .i64 (0), U (0#64), U (0#64)]) rfl rfl rfl rfl (.of rfl rfl) rfl rfl ?_
      refine r_v (Value.int .i64 (7)) rfl rfl rfl rfl ?_
      refine lx_nil ?_
      refine hK13 _ _ ?_; try clear hK13 K13
      obtain rfl := Option.some.inj hM
      refine A_ret (fun hn => endsV (v0 := Value.tuple #[Value.agg #[Value.int .i64 (0), U (0#64), U (0#64)], Value.int .i64 (7)]) (by first | rfl | simp only [app_hl]) (res2 (res_cell hn 0 rfl rfl rfl) rfl))
    · replace hM := ifn (of_decide_eq_false hc12) hM
      refine A_skip ?_
      refine hK10 _ _ ?_; try clear hK10 K10
      refine A_seq fun K14 hK14 => ?_
      refine A_drawR [(some 21, false)] (conG Tryd.prog [(21, fun v_ L_ U_ => ∀ u0_, vec_Word_m N (a_0) (a_1) = some u0_ → ∀ u1_, by' u0_ n = some u1_ → (pV (Value.agg #[U (hi (u1_)), U (lo (u1_))])) v_ L_ U_)]) [] (by decide +kernel) (fun hn => sep_nil) ?_
      refine r_v (Value.pointer (some ⟨b2, 0, none⟩)) rfl rfl rfl rfl ?_
      refine r_l (Value.int .i64 (a_0)) 1 _ _ _ _ rfl rfl rfl rfl rfl ?_
      refine r_v (Value.func (.func fby) #[] cby.toArray) rfl rfl rfl rfl ?_
      refine r_l (Value.agg #[Value.int .i64 (a_0), U (hi (a_1)), U (lo (a_1))]) 1 _ _ _ _ rfl rfl rfl rfl rfl ?_
      replace hM := bind_sm hM; obtain ⟨r15, hr16, hM⟩ := hM
      refine r_c (Value.agg #[U (hi (r15)), U (lo (r15))]) rfl _ _ (ev_callF rfl call_14 rfl) (vec_Word_g N (a_0) (a_1) _ hr16) ?_
      refine r_v (Value.int .i64 (n)) rfl rfl rfl rfl ?_
      replace hM := bind_sm hM; obtain ⟨r17, hr18, hM⟩ := hM
      refine r_gv (Value.agg #[U (hi (r17)), U (lo (r17))]) fby _ rfl rfl rfl (ev_callV rfl cbby rfl) (fun own_ nw_ hs_ => (hby r15 n _ hr18).mono hs_.ro_cell) (fun _ _ v_ L_ U_ => ⟨fun h_ => h_ _ hr16 _ hr18, fun h_ => by intro _ e_; cases Option.some.inj (e_.symm.trans hr16); intro _ e_; cases Option.some.inj (e_.symm.trans hr18); exact h_⟩) ?_
      replace hM := bind_sm hM; obtain ⟨r19, hr20, hM⟩ := hM
      refine r_c (Value.agg #[Value.int .i64 (r19.1), U (hi (r19.2)), U (lo (r19.2))]) rfl _ _ (ev_callF rfl call_52 rfl) (vec_lowest_g N (a_0) (r17) _ hr20) ?_
      refine r_s [(b3, 24, #[Value.int .i64 (r19.1), U (hi (r19.2)), U (lo (r19.2))]), (b2, 24, #[Value.int .i64 (a_0), U (hi (a_1)), U (lo (a_1))])] 0 _ _ _ (#[Value.int .i64 (0), U (0#64), U (0#64)]) (#[Value.int .i64 (r19.1), U (hi (r19.2)), U (lo (r19.2))]) (#[Value.int .i64 (r19.1), U (hi (r19.2)), U (lo (r19.2))]) rfl rfl rfl rfl (.of rfl rfl) rfl rfl ?_
      refine r_v (Value.int .i64 (0)) rfl rfl rfl rfl ?_
      refine lx_nil ?_
      refine hK14 _ _ ?_; try clear hK14 K14
      obtain rfl := Option.some.inj hM
      refine A_ret (fun hn => endsV (v0 := Value.tuple #[Value.agg #[Value.int .i64 (r19.1), U (hi (r19.2)), U (lo (r19.2))], Value.int .i64 (0)]) rfl (res2 (res_cell hn 0 rfl rfl rfl) rfl))
def vec_Shl_m (N : Nat) (a_0 : Int) (a_1 : BitVec 128) (n : Int) : Option (Int × (BitVec 128) × Int) := (vec_move_m N a_0 a_1 n (fun (z0_ : BitVec 128) (z1_ : Int) => ck (-9223372036854775808 ≤ (z1_ : Int) ∧ (z1_ : Int) ≤ 9223372036854775807) (some (shiftI (z0_) (z1_))))).bind fun r5 => some (r5.1, r5.2.1, r5.2.2)
set_option maxRecDepth 100000 in
set_option maxHeartbeats 400000 in
theorem vec_Shl_g (N : Nat) (a_0 : Int) (a_1 : BitVec 128) (n : Int) (r : Int × (BitVec 128) × Int) (hM : vec_Shl_m N a_0 a_1 n = some r) : Gives Tryd.prog 31 #[Value.agg #[Value.int .i64 (a_0), U (hi (a_1)), U (lo (a_1))], Value.int .i64 (n)] (Value.tuple #[Value.agg #[Value.int .i64 (r.1), U (hi (r.2.1)), U (lo (r.2.1))], Value.int .i64 (r.2.2)]) := by
  unfold vec_Shl_m at hM
  refine gives_of_A follows Tryd.func31 rfl 11 rfl (upd (upd (fun _ => undef) 1 (Value.int .i64 (n))) 0 (Value.agg #[Value.int .i64 (a_0), U (hi (a_1)), U (lo (a_1))])) (by funext k; match k with | 0 => rfl | 1 => rfl | k + 2 => rfl) (fun base0_ => ?_)
  refine A_seq fun K1 hK1 => ?_
  refine A_reg ?_
  refine r_a (24, #[Value.int .i64 (a_0), U (hi (a_1)), U (lo (a_1))]) rfl rfl rfl (fun b2 => ?_) (.inr rfl)
  refine r_a (24, #[Value.int .i64 (0), U (0#64), U (0#64)]) rfl rfl rfl (fun b3 => ?_) (.inr rfl)
  refine r_v (Value.int .i64 (0)) rfl rfl rfl rfl ?_
  refine lx_nil ?_
  refine hK1 _ _ ?_; try clear hK1 K1
  refine A_seq fun K4 hK4 => ?_
  refine A_regC [(some 8, false)] (conG Tryd.prog [(8, fun v_ L_ U_ => ∀ u0_, vec_move_m N a_0 a_1 n (fun (z0_ : BitVec 128) (z1_ : Int) => ck (-9223372036854775808 ≤ (z1_ : Int) ∧ (z1_ : Int) ≤ 9223372036854775807) (some (shiftI (z0_) (z1_)))) = some u0_ → (pV (Value.tuple #[Value.agg #[Value.int .i64 (u0_.1), U (hi (u0_.2.1)), U (lo (u0_.2.1))], Value.int .i64 (u0_.2.2)])) v_ L_ U_)]) ?_
  refine r_l (Value.agg #[Value.int .i64 (a_0), U (hi (a_1)), U (lo (a_1))]) 1 _ _ _ _ rfl rfl rfl rfl rfl ?_
  refine r_v (Value.int .i64 (n)) rfl rfl rfl rfl ?_
  replace hM := bind_sm hM; obtain ⟨r5, hr6, hM⟩ := hM
  refine r_gv (Value.tuple #[Value.agg #[Value.int .i64 (r5.1), U (hi (r5.2.1)), U (lo (r5.2.1))], Value.int .i64 (r5.2.2)]) 71 _ rfl rfl rfl (ev_callF rfl call_71 rfl) (fun own_ nw_ hs_ => vec_move_g N a_0 a_1 n (fun (z0_ : BitVec 128) (z1_ : Int) => ck (-9223372036854775808 ≤ (z1_ : Int) ∧ (z1_ : Int) ≤ 9223372036854775807) (some (shiftI (z0_) (z1_)))) _ hr6 hs_.view 72 [] call_72 (fun z0_ z1_ q_ h_ => by obtain ⟨g0_, h_⟩ := ck_some h_; obtain rfl := Option.some.inj h_; exact Gives.doesV (shl_g (z0_) (z1_) g0_.1 g0_.2) _)) (fun _ _ v_ L_ U_ => ⟨fun h_ => h_ _ hr6, fun h_ => by intro _ e_; cases Option.some.inj (e_.symm.trans hr6); exact h_⟩) ?_
  refine r_v (Value.agg #[Value.int .i64 (r5.1), U (hi (r5.2.1)), U (lo (r5.2.1))]) rfl rfl rfl rfl ?_
  refine r_v (Value.int .i64 (r5.2.2)) rfl rfl rfl rfl ?_
  refine r_s [(b3, 24, #[Value.int .i64 (r5.1), U (hi (r5.2.1)), U (lo (r5.2.1))]), (b2, 24, #[Value.int .i64 (a_0), U (hi (a_1)), U (lo (a_1))])] 0 _ _ _ (#[Value.int .i64 (0), U (0#64), U (0#64)]) (#[Value.int .i64 (r5.1), U (hi (r5.2.1)), U (lo (r5.2.1))]) (#[Value.int .i64 (r5.1), U (hi (r5.2.1)), U (lo (r5.2.1))]) rfl rfl rfl rfl (.of rfl rfl) rfl rfl ?_
  refine r_v (Value.int .i64 (r5.2.2)) rfl rfl rfl rfl ?_
  refine lx_nil ?_
  refine hK4 _ _ ?_; try clear hK4 K4
  obtain rfl := Option.some.inj hM
  refine A_ret (fun hn => ends_eq (v0 := Value.tuple #[Value.agg #[Value.int .i64 (r5.1), U (hi (r5.2.1)), U (lo (r5.2.1))], Value.int .i64 (r5.2.2)]) rfl (res2 (res_cell hn 0 rfl rfl rfl) rfl))
def vec_Shr_m (N : Nat) (a_0 : Int) (a_1 : BitVec 128) (n : Int) : Option (Int × (BitVec 128) × Int) := (vec_move_m N a_0 a_1 n (fun (z0_ : BitVec 128) (z1_ : Int) => ck (-9223372036854775808 ≤ (z1_ : Int) ∧ (z1_ : Int) ≤ 9223372036854775807) (some (shiftI (z0_) (-(z1_)))))).bind fun r5 => some (r5.1, r5.2.1, r5.2.2)
set_option maxRecDepth 100000 in
set_option maxHeartbeats 400000 in
theorem vec_Shr_g (N : Nat) (a_0 : Int) (a_1 : BitVec 128) (n : Int) (r : Int × (BitVec 128) × Int) (hM : vec_Shr_m N a_0 a_1 n = some r) : Gives Tryd.prog 32 #[Value.agg #[Value.int .i64 (a_0), U (hi (a_1)), U (lo (a_1))], Value.int .i64 (n)] (Value.tuple #[Value.agg #[Value.int .i64 (r.1), U (hi (r.2.1)), U (lo (r.2.1))], Value.int .i64 (r.2.2)]) := by
  unfold vec_Shr_m at hM
  refine gives_of_A follows Tryd.func32 rfl 11 rfl (upd (upd (fun _ => undef) 1 (Value.int .i64 (n))) 0 (Value.agg #[Value.int .i64 (a_0), U (hi (a_1)), U (lo (a_1))])) (by funext k; match k with | 0 => rfl | 1 => rfl | k + 2 => rfl) (fun base0_ => ?_)
  refine A_seq fun K1 hK1 => ?_
  refine A_reg ?_
  refine r_a (24, #[Value.int .i64 (a_0), U (hi (a_1)), U (lo (a_1))]) rfl rfl rfl (fun b2 => ?_) (.inr rfl)
  refine r_a (24, #[Value.int .i64 (0), U (0#64), U (0#64)]) rfl rfl rfl (fun b3 => ?_) (.inr rfl)
  refine r_v (Value.int .i64 (0)) rfl rfl rfl rfl ?_
  refine lx_nil ?_
  refine hK1 _ _ ?_; try clear hK1 K1
  refine A_seq fun K4 hK4 => ?_
  refine A_regC [(some 8, false)] (conG Tryd.prog [(8, fun v_ L_ U_ => ∀ u0_, vec_move_m N a_0 a_1 n (fun (z0_ : BitVec 128) (z1_ : Int) => ck (-9223372036854775808 ≤ (z1_ : Int) ∧ (z1_ : Int) ≤ 9223372036854775807) (some (shiftI (z0_) (-(z1_))))) = some u0_ → (pV (Value.tuple #[Value.agg #[Value.int .i64 (u0_.1), U (hi (u0_.2.1)), U (lo (u0_.2.1))], Value.int .i64 (u0_.2.2)])) v_ L_ U_)]) ?_
  refine r_l (Value.agg #[Value.int .i64 (a_0), U (hi (a_1)), U (lo (a_1))]) 1 _ _ _ _ rfl rfl rfl rfl rfl ?_
  refine r_v (Value.int .i64 (n)) rfl rfl rfl rfl ?_
  replace hM := bind_sm hM; obtain ⟨r5, hr6, hM⟩ := hM
  refine r_gv (Value.tuple #[Value.agg #[Value.int .i64 (r5.1), U (hi (r5.2.1)), U (lo (r5.2.1))], Value.int .i64 (r5.2.2)]) 71 _ rfl rfl rfl (ev_callF rfl call_71 rfl) (fun own_ nw_ hs_ => vec_move_g N a_0 a_1 n (fun (z0_ : BitVec 128) (z1_ : Int) => ck (-9223372036854775808 ≤ (z1_ : Int) ∧ (z1_ : Int) ≤ 9223372036854775807) (some (shiftI (z0_) (-(z1_))))) _ hr6 hs_.view 73 [] call_73 (fun z0_ z1_ q_ h_ => by obtain ⟨g0_, h_⟩ := ck_some h_; obtain rfl := Option.some.inj h_; exact Gives.doesV (shr_g (z0_) (z1_) g0_.1 g0_.2) _)) (fun _ _ v_ L_ U_ => ⟨fun h_ => h_ _ hr6, fun h_ => by intro _ e_; cases Option.some.inj (e_.symm.trans hr6); exact h_⟩) ?_
  refine r_v (Value.agg #[Value.int .i64 (r5.1), U (hi (r5.2.1)), U (lo (r5.2.1))]) rfl rfl rfl rfl ?_
  refine r_v (Value.int .i64 (r5.2.2)) rfl rfl rfl rfl ?_
  refine r_s [(b3, 24, #[Value.int .i64 (r5.1), U (hi (r5.2.1)), U (lo (r5.2.1))]), (b2, 24, #[Value.int .i64 (a_0), U (hi (a_1)), U (lo (a_1))])] 0 _ _ _ (#[Value.int .i64 (0), U (0#64), U (0#64)]) (#[Value.int .i64 (r5.1), U (hi (r5.2.1)), U (lo (r5.2.1))]) (#[Value.int .i64 (r5.1), U (hi (r5.2.1)), U (lo (r5.2.1))]) rfl rfl rfl rfl (.of rfl rfl) rfl rfl ?_
  refine r_v (Value.int .i64 (r5.2.2)) rfl rfl rfl rfl ?_
  refine lx_nil ?_
  refine hK4 _ _ ?_; try clear hK4 K4
  obtain rfl := Option.some.inj hM
  refine A_ret (fun hn => ends_eq (v0 := Value.tuple #[Value.agg #[Value.int .i64 (r5.1), U (hi (r5.2.1)), U (lo (r5.2.1))], Value.int .i64 (r5.2.2)]) rfl (res2 (res_cell hn 0 rfl rfl rfl) rfl))
def vec_Slice_k2 (N : Nat) (a_0 : Int) (a_1 : BitVec 128) (hi' : Int) (lo' : Int) (_ : Int) (_ : BitVec 128) : Option (Int × (BitVec 128) × Int) := ck ((-9223372036854775808 ≤ (hi' - lo') ∧ (hi' - lo') ≤ 9223372036854775807)) (ck ((-9223372036854775808 ≤ ((hi' - lo') + 1) ∧ ((hi' - lo') + 1) ≤ 9223372036854775807)) ((vec_Word_m N (a_0) (a_1)).bind fun r13 => ck (-9223372036854775808 ≤ (lo' : Int) ∧ (lo' : Int) ≤ 9223372036854775807) ((vec_lowest_m N (((hi' - lo') + 1)) (shiftI (r13) (-(lo')))).bind fun r16 => some (r16.1, r16.2, 0))))
def vec_Slice_m (N : Nat) (a_0 : Int) (a_1 : BitVec 128) (hi' : Int) (lo' : Int) : Option (Int × (BitVec 128) × Int) := (vec_May_m N (a_0) (a_1)).bind fun r6 => if (r6) = true then if (lo' : Int) < 0 then some (0, (0#64) ++ (0#64), 7) else if (lo' : Int) > hi' then some (0, (0#64) ++ (0#64), 7) else if (hi' : Int) ≥ a_0 then some (0, (0#64) ++ (0#64), 7) else vec_Slice_k2 N a_0 a_1 hi' lo' (0) ((0#64) ++ (0#64)) else some (0, (0#64) ++ (0#64), 1)
set_option maxRecDepth 100000 in
set_option maxHeartbeats 400000 in
theorem vec_Slice_g (N : Nat) (a_0 : Int) (a_1 : BitVec 128) (hi' : Int) (lo' : Int) (r : Int × (BitVec 128) × Int) (hM : vec_Slice_m N a_0 a_1 hi' lo' = some r) : Gives Tryd.prog 37 #[Value.agg #[Value.int .i64 (a_0), U (hi (a_1)), U (lo (a_1))], Value.int .i64 (hi'), Value.int .i64 (lo')] (Value.tuple #[Value.agg #[Value.int .i64 (r.1), U (hi (r.2.1)), U (lo (r.2.1))], Value.int .i64 (r.2.2)]) := by
  unfold vec_Slice_m at hM
  refine gives_of_A follows Tryd.func37 rfl 35 rfl (upd (upd (upd (fun _ => undef) 2 (Value.int .i64 (lo'))) 1 (Value.int .i64 (hi'))) 0 (Value.agg #[Value.int .i64 (a_0), U (hi (a_1)), U (lo (a_1))])) (by funext k; match k with | 0 => rfl | 1 => rfl | 2 => rfl | k + 3 => rfl) (fun base0_ => ?_)
  refine A_seq fun K1 hK1 => ?_
  refine A_reg ?_
  refine r_a (24, #[Value.int .i64 (a_0), U (hi (a_1)), U (lo (a_1))]) rfl rfl rfl (fun b2 => ?_) (.inr rfl)
  refine r_a (24, #[Value.int .i64 (0), U (0#64), U (0#64)]) rfl rfl rfl (fun b3 => ?_) (.inr rfl)
  refine r_v (Value.int .i64 (0)) rfl rfl rfl rfl ?_
  refine lx_nil ?_
  refine hK1 _ _ ?_; try clear hK1 K1
  refine A_seq fun K4 hK4 => ?_
  refine A_seq fun K5 hK5 => ?_
  refine A_reg ?_
  refine r_l (Value.agg #[Value.int .i64 (a_0), U (hi (a_1)), U (lo (a_1))]) 1 _ _ _ _ rfl rfl rfl rfl rfl ?_
  replace hM := bind_sm hM; obtain ⟨r6, hr7, hM⟩ := hM
  refine r_c (Value.bool (r6)) rfl _ _ (ev_callF rfl call_13 rfl) (vec_May_g N (a_0) (a_1) _ hr7) ?_
  refine r_v (Value.bool (!(r6))) rfl rfl rfl rfl ?_
  refine lx_nil ?_
  refine hK5 _ _ ?_; try clear hK5 K5
  refine A_cond (!(r6)) rfl (fun hc8 => ?_) (fun hc8 => ?_)
  · replace hM := ifn (Bool.eq_false_iff.1 (not_t hc8)) hM
    refine A_seq fun K9 hK9 => ?_
    refine A_reg ?_
    refine r_v (Value.agg #[Value.int .i64 (0), U (0#64), U (0#64)]) rfl rfl rfl (ev_buildS rfl rfl rfl rfl) ?_
    refine r_s [(b3, 24, #[Value.int .i64 (0), U (0#64), U (0#64)]), (b2, 24, #[Value.int .i64 (a_0), U (hi (a_1)), U (lo (a_1))])] 0 _ _ _ (#[Value.int .i64 (0), U (0#64), U (0#64)]) (#[Value.int .i64 (0), U (0#64), U (0#64)]) (#[Value.int .i64 (0), U (0#64), U (0#64)]) rfl rfl rfl rfl (.of rfl rfl) rfl rfl ?_
    refine r_v (Value.int .i64 (1)) rfl rfl rfl rfl ?_
    refine lx_nil ?_
    refine hK9 _ _ ?_; try clear hK9 K9
    obtain rfl := Option.some.inj hM
    refine A_ret (fun hn => ends_eq (v0 := Value.tuple #[Value.agg #[Value.int .i64 (0), U (0#64), U (0#64)], Value.int .i64 (1)]) (by first | rfl | simp only [app_hl]) (res2 (res_cell hn 0 rfl rfl rfl) rfl))
  · replace hM := ifp (not_f hc8) hM
    refine A_skip ?_
    refine hK4 _ _ ?_; try clear hK4 K4
    refine A_cut (fun tt ll => ∃ (m1__0 : Int) (m1__1 : BitVec 128), (vec_Slice_k2 N a_0 a_1 hi' lo' m1__0 m1__1 = some r) ∧ Is [(1, Value.int .i64 (hi')), (2, Value.int .i64 (lo')), (3, Value.pointer (some ⟨b2, 0, none⟩)), (6, Value.pointer (some ⟨b3, 0, none⟩))] [(b3, 24, #[Value.int .i64 (m1__0), U (hi (m1__1)), U (lo (m1__1))]), (b2, 24, #[Value.int .i64 (a_0), U (hi (a_1)), U (lo (a_1))])] tt ll) ?_ ?_
    · refine A_seq fun K18 hK18 => ?_
      refine A_reg ?_
      refine r_v (Value.int .i64 (lo')) rfl rfl rfl rfl ?_
      refine r_v (Value.bool (decide ((lo' : Int) < 0))) rfl rfl rfl rfl ?_
      refine r_v (Value.bool (decide ((lo' : Int) < 0))) rfl rfl rfl rfl ?_
      rcases hg19 : (decide ((lo' : Int) < 0)) with _ | _
      · replace hM := ifn (of_decide_eq_false hg19) hM
        refine r_y rfl ?_
        refine r_v (Value.int .i64 (lo')) rfl rfl rfl rfl ?_
        refine r_y rfl ?_
        refine r_v (Value.int .i64 (hi')) rfl rfl rfl rfl ?_
        refine r_y rfl ?_
        refine r_v (Value.bool (decide ((lo' : Int) > hi'))) rfl rfl rfl rfl ?_
        refine r_v (Value.bool (decide ((lo' : Int) > hi'))) rfl rfl rfl rfl ?_
        refine r_v (Value.bool (decide ((lo' : Int) > hi'))) rfl rfl rfl rfl ?_
        rcases hg20 : (decide ((lo' : Int) > hi')) with _ | _
        · replace hM := ifn (of_decide_eq_false hg20) hM
          refine r_y rfl ?_
          refine r_v (Value.int .i64 (hi')) rfl rfl rfl rfl ?_
          refine r_y rfl ?_
          refine r_v (Value.pointer (some ⟨b2, 0, none⟩)) rfl rfl rfl rfl ?_
          refine r_y rfl ?_
          refine r_l (Value.int .i64 (a_0)) 1 _ _ _ _ rfl rfl rfl rfl rfl ?_
          refine r_y rfl ?_
          refine r_v (Value.bool (decide ((hi' : Int) ≥ a_0))) rfl rfl rfl rfl ?_
          refine r_v (Value.bool (decide ((hi' : Int) ≥ a_0))) rfl rfl rfl rfl ?_
          refine lx_nil ?_
          refine hK18 _ _ ?_; try clear hK18 K18
          refine A_cond (decide ((hi' : Int) ≥ a_0)) rfl (fun hc21 => ?_) (fun hc21 => ?_)
          · replace hM := ifp (of_decide_eq_true hc21) hM
            refine A_seq fun K22 hK22 => ?_
            refine A_reg ?_
            refine r_v (Value.agg #[Value.int .i64 (0), U (0#64), U (0#64)]) rfl rfl rfl (ev_buildS rfl rfl rfl rfl) ?_
            refine r_s [(b3, 24, #[Value.int .i64 (0), U (0#64), U (0#64)]), (b2, 24, #[Value.int .i64 (a_0), U (hi (a_1)), U (lo (a_1))])] 0 _ _ _ (#[Value.int .i64 (0), U (0#64), U (0#64)]) (#[Value.int .i64 (0), U (0#64), U (0#64)]) (#[Value.int .i64 (0), U (0#64), U (0#64)]) rfl rfl rfl rfl (.of rfl rfl) rfl rfl ?_
            refine r_v (Value.int .i64 (7)) rfl rfl rfl rfl ?_
            refine lx_nil ?_
            refine hK22 _ _ ?_; try clear hK22 K22
            obtain rfl := Option.some.inj hM
            refine A_ret (fun hn => ends_eq (v0 := Value.tuple #[Value.agg #[Value.int .i64 (0), U (0#64), U (0#64)], Value.int .i64 (7)]) (by first | rfl | simp only [app_hl]) (res2 (res_cell hn 0 rfl rfl rfl) rfl))
          · replace hM := ifn (of_decide_eq_false hc21) hM
            refine A_skip ?_
            refine fg _ (Sub.of (List.Sublist.cons_cons _ (List.Sublist.cons_cons _ (List.Sublist.slnil)))) ?_
            exact ⟨0, (0#64) ++ (0#64), hM, is_mk rfl (by first | rfl | simp only [app_hl])⟩
        · replace hM := ifp (of_decide_eq_true hg20) hM
          refine r_n true rfl (by decide) rfl ?_
          refine r_n true rfl (by decide) rfl ?_
          refine r_n true rfl (by decide) rfl ?_
          refine r_n true rfl (by decide) rfl ?_
          refine r_v (Value.bool (true)) rfl rfl rfl rfl ?_
          refine lx_nil ?_
          refine hK18 _ _ ?_; try clear hK18 K18
          refine A_cond true rfl (fun _ => ?_) (fun h_ => nomatch h_)
          refine A_seq fun K23 hK23 => ?_
          refine A_reg ?_
          refine r_v (Value.agg #[Value.int .i64 (0), U (0#64), U (0#64)]) rfl rfl rfl (ev_buildS rfl rfl rfl rfl) ?_
          refine r_s [(b3, 24, #[Value.int .i64 (0), U (0#64), U (0#64)]), (b2, 24, #[Value.int .i64 (a_0), U (hi (a_1)), U (lo (a_1))])] 0 _ _ _ (#[Value.int .i64 (0), U (0#64), U (0#64)]) (#[Value.int .i64 (0), U (0#64), U (0#64)]) (#[Value.int .i64 (0), U (0#64), U (0#64)]) rfl rfl rfl rfl (.of rfl rfl) rfl rfl ?_
          refine r_v (Value.int .i64 (7)) rfl rfl rfl rfl ?_
          refine lx_nil ?_
          refine hK23 _ _ ?_; try clear hK23 K23
          obtain rfl := Option.some.inj hM
          refine A_ret (fun hn => ends_eq (v0 := Value.tuple #[Value.agg #[Value.int .i64 (0), U (0#64), U (0#64)], Value.int .i64 (7)]) (by first | rfl | simp only [app_hl]) (res2 (res_cell hn 0 rfl rfl rfl) rfl))
      · replace hM := ifp (of_decide_eq_true hg19) hM
        refine r_n true rfl (by decide) rfl ?_
        refine r_n true rfl (by decide) rfl ?_
        refine r_n true rfl (by decide) rfl ?_
        refine r_v (Value.bool (true)) rfl rfl rfl rfl ?_
        refine r_v (Value.bool (true)) rfl rfl rfl rfl ?_
        refine r_n true rfl (by decide) rfl ?_
        refine r_n true rfl (by decide) rfl ?_
        refine r_n true rfl (by decide) rfl ?_
        refine r_n true rfl (by decide) rfl ?_
        refine r_v (Value.bool (true)) rfl rfl rfl rfl ?_
        refine lx_nil ?_
        refine hK18 _ _ ?_; try clear hK18 K18
        refine A_cond true rfl (fun _ => ?_) (fun h_ => nomatch h_)
        refine A_seq fun K24 hK24 => ?_
        refine A_reg ?_
        refine r_v (Value.agg #[Value.int .i64 (0), U (0#64), U (0#64)]) rfl rfl rfl (ev_buildS rfl rfl rfl rfl) ?_
        refine r_s [(b3, 24, #[Value.int .i64 (0), U (0#64), U (0#64)]), (b2, 24, #[Value.int .i64 (a_0), U (hi (a_1)), U (lo (a_1))])] 0 _ _ _ (#[Value.int .i64 (0), U (0#64), U (0#64)]) (#[Value.int .i64 (0), U (0#64), U (0#64)]) (#[Value.int .i64 (0), U (0#64), U (0#64)]) rfl rfl rfl rfl (.of rfl rfl) rfl rfl ?_
        refine r_v (Value.int .i64 (7)) rfl rfl rfl rfl ?_
        refine lx_nil ?_
        refine hK24 _ _ ?_; try clear hK24 K24
        obtain rfl := Option.some.inj hM
        refine A_ret (fun hn => ends_eq (v0 := Value.tuple #[Value.agg #[Value.int .i64 (0), U (0#64), U (0#64)], Value.int .i64 (7)]) (by first | rfl | simp only [app_hl]) (res2 (res_cell hn 0 rfl rfl rfl) rfl))
    · clear hM; rintro t l ⟨m1__0, m1__1, hM, ⟨T, rfl⟩, rfl⟩
      unfold vec_Slice_k2 at hM
      refine A_seq fun K10 hK10 => ?_
      refine A_reg ?_
      refine r_v (Value.int .i64 (hi')) rfl rfl rfl rfl ?_
      refine r_v (Value.int .i64 (lo')) rfl rfl rfl rfl ?_
      replace hM := ck_some hM; obtain ⟨ck11, hM⟩ := hM
      refine r_v (Value.int .i64 ((hi' - lo'))) rfl rfl (wi64 rfl ck11.1 ck11.2) rfl ?_
      replace hM := ck_some hM; obtain ⟨ck12, hM⟩ := hM
      refine r_v (Value.int .i64 (((hi' - lo') + 1))) rfl rfl (wi64 rfl ck12.1 ck12.2) rfl ?_
      refine r_l (Value.agg #[Value.int .i64 (a_0), U (hi (a_1)), U (lo (a_1))]) 1 _ _ _ _ rfl rfl rfl rfl rfl ?_
      replace hM := bind_sm hM; obtain ⟨r13, hr14, hM⟩ := hM
      refine r_c (Value.agg #[U (hi (r13)), U (lo (r13))]) rfl _ _ (ev_callF rfl call_14 rfl) (vec_Word_g N (a_0) (a_1) _ hr14) ?_
      refine r_v (Value.int .i64 (lo')) rfl rfl rfl rfl ?_
      replace hM := ck_some hM; obtain ⟨ck15, hM⟩ := hM
      refine r_c (Value.agg #[U (hi (shiftI (r13) (-(lo')))), U (lo (shiftI (r13) (-(lo'))))]) rfl _ _ (ev_callF rfl call_73 rfl) (shr_g (r13) (lo') ck15.1 ck15.2) ?_
      replace hM := bind_sm hM; obtain ⟨r16, hr17, hM⟩ := hM
      refine r_c (Value.agg #[Value.int .i64 (r16.1), U (hi (r16.2)), U (lo (r16.2))]) rfl _ _ (ev_callF rfl call_52 rfl) (vec_lowest_g N (((hi' - lo') + 1)) (shiftI (r13) (-(lo'))) _ hr17) ?_
      refine r_s [(b3, 24, #[Value.int .i64 (r16.1), U (hi (r16.2)), U (lo (r16.2))]), (b2, 24, #[Value.int .i64 (a_0), U (hi (a_1)), U (lo (a_1))])] 0 _ _ _ (#[Value.int .i64 (m1__0), U (hi (m1__1)), U (lo (m1__1))]) (#[Value.int .i64 (r16.1), U (hi (r16.2)), U (lo (r16.2))]) (#[Value.int .i64 (r16.1), U (hi (r16.2)), U (lo (r16.2))]) rfl rfl rfl rfl (.of rfl rfl) rfl rfl ?_
      refine r_v (Value.int .i64 (0)) rfl rfl rfl rfl ?_
      refine lx_nil ?_
      refine hK10 _ _ ?_; try clear hK10 K10
      obtain rfl := Option.some.inj hM
      refine A_ret (fun hn => ends_eq (v0 := Value.tuple #[Value.agg #[Value.int .i64 (r16.1), U (hi (r16.2)), U (lo (r16.2))], Value.int .i64 (0)]) rfl (res2 (res_cell hn 0 rfl rfl rfl) rfl))
def vec_Cat_k2 (N : Nat) (a_0 : Int) (a_1 : BitVec 128) (b_0 : Int) (b_1 : BitVec 128) (_ : Int) (_ : BitVec 128) : Option (Int × (BitVec 128) × Int) := ck ((-9223372036854775808 ≤ (a_0 + b_0) ∧ (a_0 + b_0) ≤ 9223372036854775807)) ((vec_Word_m N (a_0) (a_1)).bind fun r7 => ck (-9223372036854775808 ≤ (b_0 : Int) ∧ (b_0 : Int) ≤ 9223372036854775807) ((vec_Word_m N (b_0) (b_1)).bind fun r10 => (vec_Cut_m N ((a_0 + b_0)) ((shiftI (r7) (b_0)) ||| (r10))).bind fun r12 => some (r12.1, r12.2.1, r12.2.2)))
def vec_Cat_m (N : Nat) (a_0 : Int) (a_1 : BitVec 128) (b_0 : Int) (b_1 : BitVec 128) : Option (Int × (BitVec 128) × Int) := (vec_May_m N (a_0) (a_1)).bind fun r15 => if (r15) = true then (vec_May_m N (b_0) (b_1)).bind fun r18 => if (r18) = true then vec_Cat_k2 N a_0 a_1 b_0 b_1 (0) ((0#64) ++ (0#64)) else some (0, (0#64) ++ (0#64), 1) else some (0, (0#64) ++ (0#64), 1)
set_option maxRecDepth 100000 in
set_option maxHeartbeats 400000 in
theorem vec_Cat_g (N : Nat) (a_0 : Int) (a_1 : BitVec 128) (b_0 : Int) (b_1 : BitVec 128) (r : Int × (BitVec 128) × Int) (hM : vec_Cat_m N a_0 a_1 b_0 b_1 = some r) : Gives Tryd.prog 39 #[Value.agg #[Value.int .i64 (a_0), U (hi (a_1)), U (lo (a_1))], Value.agg #[Value.int .i64 (b_0), U (hi (b_1)), U (lo (b_1))]] (Value.tuple #[Value.agg #[Value.int .i64 (r.1), U (hi (r.2.1)), U (lo (r.2.1))], Value.int .i64 (r.2.2)]) := by
  unfold vec_Cat_m at hM
  refine gives_of_A follows Tryd.func39 rfl 31 rfl (upd (upd (fun _ => undef) 1 (Value.agg #[Value.int .i64 (b_0), U (hi (b_1)), U (lo (b_1))])) 0 (Value.agg #[Value.int .i64 (a_0), U (hi (a_1)), U (lo (a_1))])) (by funext k; match k with | 0 => rfl | 1 => rfl | k + 2 => rfl) (fun base0_ => ?_)
  refine A_seq fun K1 hK1 => ?_
  refine A_reg ?_
  refine r_a (24, #[Value.int .i64 (a_0), U (hi (a_1)), U (lo (a_1))]) rfl rfl rfl (fun b2 => ?_) (.inr rfl)
  refine r_a (24, #[Value.int .i64 (b_0), U (hi (b_1)), U (lo (b_1))]) rfl rfl rfl (fun b3 => ?_) (.inr rfl)
  refine r_a (24, #[Value.int .i64 (0), U (0#64), U (0#64)]) rfl rfl rfl (fun b4 => ?_) (.inr rfl)
  refine r_v (Value.int .i64 (0)) rfl rfl rfl rfl ?_
  refine lx_nil ?_
  refine hK1 _ _ ?_; try clear hK1 K1
  refine A_cut (fun tt ll => ∃ (m1__0 : Int) (m1__1 : BitVec 128), (vec_Cat_k2 N a_0 a_1 b_0 b_1 m1__0 m1__1 = some r) ∧ Is [(2, Value.pointer (some ⟨b2, 0, none⟩)), (3, Value.pointer (some ⟨b3, 0, none⟩)), (4, Value.pointer (some ⟨b4, 0, none⟩))] [(b4, 24, #[Value.int .i64 (m1__0), U (hi (m1__1)), U (lo (m1__1))]), (b3, 24, #[Value.int .i64 (b_0), U (hi (b_1)), U (lo (b_1))]), (b2, 24, #[Value.int .i64 (a_0), U (hi (a_1)), U (lo (a_1))])] tt ll) ?_ ?_
  · refine A_seq fun K14 hK14 => ?_
    refine A_reg ?_
    refine r_l (Value.agg #[Value.int .i64 (a_0), U (hi (a_1)), U (lo (a_1))]) 2 _ _ _ _ rfl rfl rfl rfl rfl ?_
    replace hM := bind_sm hM; obtain ⟨r15, hr16, hM⟩ := hM
    refine r_c (Value.bool (r15)) rfl _ _ (ev_callF rfl call_13 rfl) (vec_May_g N (a_0) (a_1) _ hr16) ?_
    refine r_v (Value.bool (!(r15))) rfl rfl rfl rfl ?_
    refine r_v (Value.bool (!(r15))) rfl rfl rfl rfl ?_
    rcases hg17 : (!(r15)) with _ | _
    · replace hM := ifp (not_f hg17) hM
      refine r_y rfl ?_
      refine r_l (Value.agg #[Value.int .i64 (b_0), U (hi (b_1)), U (lo (b_1))]) 1 _ _ _ _ rfl rfl rfl rfl rfl ?_
      refine r_y rfl ?_
      replace hM := bind_sm hM; obtain ⟨r18, hr19, hM⟩ := hM
      refine r_c (Value.bool (r18)) rfl _ _ (ev_callF rfl call_13 rfl) (vec_May_g N (b_0) (b_1) _ hr19) ?_
      refine r_y rfl ?_
      refine r_v (Value.bool (!(r18))) rfl rfl rfl rfl ?_
      refine r_v (Value.bool (!(r18))) rfl rfl rfl rfl ?_
      refine lx_nil ?_
      refine hK14 _ _ ?_; try clear hK14 K14
      refine A_cond (!(r18)) rfl (fun hc20 => ?_) (fun hc20 => ?_)
      · replace hM := ifn (Bool.eq_false_iff.1 (not_t hc20)) hM
        refine A_seq fun K21 hK21 => ?_
        refine A_reg ?_
        refine r_v (Value.agg #[Value.int .i64 (0), U (0#64), U (0#64)]) rfl rfl rfl (ev_buildS rfl rfl rfl rfl) ?_
        refine r_s [(b4, 24, #[Value.int .i64 (0), U (0#64), U (0#64)]), (b3, 24, #[Value.int .i64 (b_0), U (hi (b_1)), U (lo (b_1))]), (b2, 24, #[Value.int .i64 (a_0), U (hi (a_1)), U (lo (a_1))])] 0 _ _ _ (#[Value.int .i64 (0), U (0#64), U (0#64)]) (#[Value.int .i64 (0), U (0#64), U (0#64)]) (#[Value.int .i64 (0), U (0#64), U (0#64)]) rfl rfl rfl rfl (.of rfl rfl) rfl rfl ?_
        refine r_v (Value.int .i64 (1)) rfl rfl rfl rfl ?_
        refine lx_nil ?_
        refine hK21 _ _ ?_; try clear hK21 K21
        obtain rfl := Option.some.inj hM
        refine A_ret (fun hn => ends_eq (v0 := Value.tuple #[Value.agg #[Value.int .i64 (0), U (0#64), U (0#64)], Value.int .i64 (1)]) (by first | rfl | simp only [app_hl]) (res2 (res_cell hn 0 rfl rfl rfl) rfl))
      · replace hM := ifp (not_f hc20) hM
        refine A_skip ?_
        refine fg _ (Sub.of (List.Sublist.cons_cons _ (List.Sublist.cons_cons _ (List.Sublist.cons_cons _ (List.Sublist.slnil))))) ?_
        exact ⟨0, (0#64) ++ (0#64), hM, is_mk rfl (by first | rfl | simp only [app_hl])⟩
    · replace hM := ifn (Bool.eq_false_iff.1 (not_t hg17)) hM
      refine r_n true rfl (by decide) rfl ?_
      refine r_n true rfl (by decide) rfl ?_
      refine r_n true rfl (by decide) rfl ?_
      refine r_v (Value.bool (true)) rfl rfl rfl rfl ?_
      refine lx_nil ?_
      refine hK14 _ _ ?_; try clear hK14 K14
      refine A_cond true rfl (fun _ => ?_) (fun h_ => nomatch h_)
      refine A_seq fun K22 hK22 => ?_
      refine A_reg ?_
      refine r_v (Value.agg #[Value.int .i64 (0), U (0#64), U (0#64)]) rfl rfl rfl (ev_buildS rfl rfl rfl rfl) ?_
      refine r_s [(b4, 24, #[Value.int .i64 (0), U (0#64), U (0#64)]), (b3, 24, #[Value.int .i64 (b_0), U (hi (b_1)), U (lo (b_1))]), (b2, 24, #[Value.int .i64 (a_0), U (hi (a_1)), U (lo (a_1))])] 0 _ _ _ (#[Value.int .i64 (0), U (0#64), U (0#64)]) (#[Value.int .i64 (0), U (0#64), U (0#64)]) (#[Value.int .i64 (0), U (0#64), U (0#64)]) rfl rfl rfl rfl (.of rfl rfl) rfl rfl ?_
      refine r_v (Value.int .i64 (1)) rfl rfl rfl rfl ?_
      refine lx_nil ?_
      refine hK22 _ _ ?_; try clear hK22 K22
      obtain rfl := Option.some.inj hM
      refine A_ret (fun hn => ends_eq (v0 := Value.tuple #[Value.agg #[Value.int .i64 (0), U (0#64), U (0#64)], Value.int .i64 (1)]) (by first | rfl | simp only [app_hl]) (res2 (res_cell hn 0 rfl rfl rfl) rfl))
  · clear hM; rintro t l ⟨m1__0, m1__1, hM, ⟨T, rfl⟩, rfl⟩
    unfold vec_Cat_k2 at hM
    refine A_seq fun K5 hK5 => ?_
    refine A_draw [] (by decide +kernel) (fun hn => sep_nil) ?_
    refine r_v (Value.pointer (some ⟨b2, 0, none⟩)) rfl rfl rfl rfl ?_
    refine r_l (Value.int .i64 (a_0)) 2 _ _ _ _ rfl rfl rfl rfl rfl ?_
    refine r_v (Value.pointer (some ⟨b3, 0, none⟩)) rfl rfl rfl rfl ?_
    refine r_l (Value.int .i64 (b_0)) 1 _ _ _ _ rfl rfl rfl rfl rfl ?_
    replace hM := ck_some hM; obtain ⟨ck6, hM⟩ := hM
    refine r_v (Value.int .i64 ((a_0 + b_0))) rfl rfl (wi64 rfl ck6.1 ck6.2) rfl ?_
    refine r_l (Value.agg #[Value.int .i64 (a_0), U (hi (a_1)), U (lo (a_1))]) 2 _ _ _ _ rfl rfl rfl rfl rfl ?_
    replace hM := bind_sm hM; obtain ⟨r7, hr8, hM⟩ := hM
    refine r_c (Value.agg #[U (hi (r7)), U (lo (r7))]) rfl _ _ (ev_callF rfl call_14 rfl) (vec_Word_g N (a_0) (a_1) _ hr8) ?_
    refine r_v (Value.pointer (some ⟨b3, 0, none⟩)) rfl rfl rfl rfl ?_
    refine r_l (Value.int .i64 (b_0)) 1 _ _ _ _ rfl rfl rfl rfl rfl ?_
    replace hM := ck_some hM; obtain ⟨ck9, hM⟩ := hM
    refine r_c (Value.agg #[U (hi (shiftI (r7) (b_0))), U (lo (shiftI (r7) (b_0)))]) rfl _ _ (ev_callF rfl call_72 rfl) (shl_g (r7) (b_0) ck9.1 ck9.2) ?_
    refine r_l (Value.agg #[Value.int .i64 (b_0), U (hi (b_1)), U (lo (b_1))]) 1 _ _ _ _ rfl rfl rfl rfl rfl ?_
    replace hM := bind_sm hM; obtain ⟨r10, hr11, hM⟩ := hM
    refine r_c (Value.agg #[U (hi (r10)), U (lo (r10))]) rfl _ _ (ev_callF rfl call_14 rfl) (vec_Word_g N (b_0) (b_1) _ hr11) ?_
    refine r_c (Value.agg #[U (hi ((shiftI (r7) (b_0)) ||| (r10))), U (lo ((shiftI (r7) (b_0)) ||| (r10)))]) rfl _ _ (ev_callF rfl call_65 rfl) (or_g (shiftI (r7) (b_0)) (r10)) ?_
    replace hM := bind_sm hM; obtain ⟨r12, hr13, hM⟩ := hM
    refine r_c (Value.tuple #[Value.agg #[Value.int .i64 (r12.1), U (hi (r12.2.1)), U (lo (r12.2.1))], Value.int .i64 (r12.2.2)]) rfl _ _ (ev_callF rfl call_12 rfl) (vec_Cut_g N ((a_0 + b_0)) ((shiftI (r7) (b_0)) ||| (r10)) _ hr13) ?_
    refine r_v (Value.agg #[Value.int .i64 (r12.1), U (hi (r12.2.1)), U (lo (r12.2.1))]) rfl rfl rfl rfl ?_
    refine r_v (Value.int .i64 (r12.2.2)) rfl rfl rfl rfl ?_
    refine r_s [(b4, 24, #[Value.int .i64 (r12.1), U (hi (r12.2.1)), U (lo (r12.2.1))]), (b3, 24, #[Value.int .i64 (b_0), U (hi (b_1)), U (lo (b_1))]), (b2, 24, #[Value.int .i64 (a_0), U (hi (a_1)), U (lo (a_1))])] 0 _ _ _ (#[Value.int .i64 (m1__0), U (hi (m1__1)), U (lo (m1__1))]) (#[Value.int .i64 (r12.1), U (hi (r12.2.1)), U (lo (r12.2.1))]) (#[Value.int .i64 (r12.1), U (hi (r12.2.1)), U (lo (r12.2.1))]) rfl rfl rfl rfl (.of rfl rfl) rfl rfl ?_
    refine r_v (Value.int .i64 (r12.2.2)) rfl rfl rfl rfl ?_
    refine lx_nil ?_
    refine hK5 _ _ ?_; try clear hK5 K5
    obtain rfl := Option.some.inj hM
    refine A_ret (fun hn => ends_eq (v0 := Value.tuple #[Value.agg #[Value.int .i64 (r12.1), U (hi (r12.2.1)), U (lo (r12.2.1))], Value.int .i64 (r12.2.2)]) rfl (res2 (res_cell hn 0 rfl rfl rfl) rfl))
def vec_Cast_m (N : Nat) (a_0 : Int) (a_1 : BitVec 128) (w : Int) : Option (Int × (BitVec 128) × Int) := (vec_May_m N (a_0) (a_1)).bind fun r6 => if (r6) = true then (vec_Word_m N (a_0) (a_1)).bind fun r11 => (vec_Cut_m N (w) (r11)).bind fun r13 => some (r13.1, r13.2.1, r13.2.2) else some (0, (0#64) ++ (0#64), 1)
set_option maxRecDepth 100000 in
set_option maxHeartbeats 400000 in
theorem vec_Cast_g (N : Nat) (a_0 : Int) (a_1 : BitVec 128) (w : Int) (r : Int × (BitVec 128) × Int) (hM : vec_Cast_m N a_0 a_1 w = some r) : Gives Tryd.prog 33 #[Value.agg #[Value.int .i64 (a_0), U (hi (a_1)), U (lo (a_1))], Value.int .i64 (w)] (Value.tuple #[Value.agg #[Value.int .i64 (r.1), U (hi (r.2.1)), U (lo (r.2.1))], Value.int .i64 (r.2.2)]) := by
  unfold vec_Cast_m at hM
  refine gives_of_A follows Tryd.func33 rfl 16 rfl (upd (upd (fun _ => undef) 1 (Value.int .i64 (w))) 0 (Value.agg #[Value.int .i64 (a_0), U (hi (a_1)), U (lo (a_1))])) (by funext k; match k with | 0 => rfl | 1 => rfl | k + 2 => rfl) (fun base0_ => ?_)
  refine A_seq fun K1 hK1 => ?_
  refine A_reg ?_
  refine r_a (24, #[Value.int .i64 (a_0), U (hi (a_1)), U (lo (a_1))]) rfl rfl rfl (fun b2 => ?_) (.inr rfl)
  refine r_a (24, #[Value.int .i64 (0), U (0#64), U (0#64)]) rfl rfl rfl (fun b3 => ?_) (.inr rfl)
  refine r_v (Value.int .i64 (0)) rfl rfl rfl rfl ?_
  refine lx_nil ?_
  refine hK1 _ _ ?_; try clear hK1 K1
  refine A_seq fun K4 hK4 => ?_
  refine A_seq fun K5 hK5 => ?_
  refine A_reg ?_
  refine r_l (Value.agg #[Value.int .i64 (a_0), U (hi (a_1)), U (lo (a_1))]) 1 _ _ _ _ rfl rfl rfl rfl rfl ?_
  replace hM := bind_sm hM; obtain ⟨r6, hr7, hM⟩ := hM
  refine r_c (Value.bool (r6)) rfl _ _ (ev_callF rfl call_13 rfl) (vec_May_g N (a_0) (a_1) _ hr7) ?_
  refine r_v (Value.bool (!(r6))) rfl rfl rfl rfl ?_
  refine lx_nil ?_
  refine hK5 _ _ ?_; try clear hK5 K5
  refine A_cond (!(r6)) rfl (fun hc8 => ?_) (fun hc8 => ?_)
  · replace hM := ifn (Bool.eq_false_iff.1 (not_t hc8)) hM
    refine A_seq fun K9 hK9 => ?_
    refine A_reg ?_
    refine r_v (Value.agg #[Value.int .i64 (0), U (0#64), U (0#64)]) rfl rfl rfl (ev_buildS rfl rfl rfl rfl) ?_
    refine r_s [(b3, 24, #[Value.int .i64 (0), U (0#64), U (0#64)]), (b2, 24, #[Value.int .i64 (a_0), U (hi (a_1)), U (lo (a_1))])] 0 _ _ _ (#[Value.int .i64 (0), U (0#64), U (0#64)]) (#[Value.int .i64 (0), U (0#64), U (0#64)]) (#[Value.int .i64 (0), U (0#64), U (0#64)]) rfl rfl rfl rfl (.of rfl rfl) rfl rfl ?_
    refine r_v (Value.int .i64 (1)) rfl rfl rfl rfl ?_
    refine lx_nil ?_
    refine hK9 _ _ ?_; try clear hK9 K9
    obtain rfl := Option.some.inj hM
    refine A_ret (fun hn => ends_eq (v0 := Value.tuple #[Value.agg #[Value.int .i64 (0), U (0#64), U (0#64)], Value.int .i64 (1)]) (by first | rfl | simp only [app_hl]) (res2 (res_cell hn 0 rfl rfl rfl) rfl))
  · replace hM := ifp (not_f hc8) hM
    refine A_skip ?_
    refine hK4 _ _ ?_; try clear hK4 K4
    refine A_seq fun K10 hK10 => ?_
    refine A_reg ?_
    refine r_v (Value.int .i64 (w)) rfl rfl rfl rfl ?_
    refine r_l (Value.agg #[Value.int .i64 (a_0), U (hi (a_1)), U (lo (a_1))]) 1 _ _ _ _ rfl rfl rfl rfl rfl ?_
    replace hM := bind_sm hM; obtain ⟨r11, hr12, hM⟩ := hM
    refine r_c (Value.agg #[U (hi (r11)), U (lo (r11))]) rfl _ _ (ev_callF rfl call_14 rfl) (vec_Word_g N (a_0) (a_1) _ hr12) ?_
    replace hM := bind_sm hM; obtain ⟨r13, hr14, hM⟩ := hM
    refine r_c (Value.tuple #[Value.agg #[Value.int .i64 (r13.1), U (hi (r13.2.1)), U (lo (r13.2.1))], Value.int .i64 (r13.2.2)]) rfl _ _ (ev_callF rfl call_12 rfl) (vec_Cut_g N (w) (r11) _ hr14) ?_
    refine r_v (Value.agg #[Value.int .i64 (r13.1), U (hi (r13.2.1)), U (lo (r13.2.1))]) rfl rfl rfl rfl ?_
    refine r_v (Value.int .i64 (r13.2.2)) rfl rfl rfl rfl ?_
    refine r_s [(b3, 24, #[Value.int .i64 (r13.1), U (hi (r13.2.1)), U (lo (r13.2.1))]), (b2, 24, #[Value.int .i64 (a_0), U (hi (a_1)), U (lo (a_1))])] 0 _ _ _ (#[Value.int .i64 (0), U (0#64), U (0#64)]) (#[Value.int .i64 (r13.1), U (hi (r13.2.1)), U (lo (r13.2.1))]) (#[Value.int .i64 (r13.1), U (hi (r13.2.1)), U (lo (r13.2.1))]) rfl rfl rfl rfl (.of rfl rfl) rfl rfl ?_
    refine r_v (Value.int .i64 (r13.2.2)) rfl rfl rfl rfl ?_
    refine lx_nil ?_
    refine hK10 _ _ ?_; try clear hK10 K10
    obtain rfl := Option.some.inj hM
    refine A_ret (fun hn => ends_eq (v0 := Value.tuple #[Value.agg #[Value.int .i64 (r13.1), U (hi (r13.2.1)), U (lo (r13.2.1))], Value.int .i64 (r13.2.2)]) rfl (res2 (res_cell hn 0 rfl rfl rfl) rfl))
def vec_Prefix_k2 (N : Nat) (w : Int) (n : Int) (_ : Int) (_ : BitVec 128) : Option (Int × (BitVec 128) × Int) := ck (-9223372036854775808 ≤ (n : Int) ∧ (n : Int) ≤ 9223372036854775807) (ck ((-9223372036854775808 ≤ (w - n) ∧ (w - n) ≤ 9223372036854775807)) (ck (-9223372036854775808 ≤ ((w - n) : Int) ∧ ((w - n) : Int) ≤ 9223372036854775807) ((vec_lowest_m N (w) (shiftI (onesI (n)) ((w - n)))).bind fun r13 => some (r13.1, r13.2, 0))))
def vec_Prefix_m (N : Nat) (w : Int) (n : Int) : Option (Int × (BitVec 128) × Int) := (vec_mayWidth_m N (w)).bind fun r5 => if (r5) = true then if (n : Int) < 0 then some (0, (0#64) ++ (0#64), 15) else if (n : Int) > w then some (0, (0#64) ++ (0#64), 15) else vec_Prefix_k2 N w n (0) ((0#64) ++ (0#64)) else some (0, (0#64) ++ (0#64), 9)
set_option maxRecDepth 100000 in
set_option maxHeartbeats 400000 in
theorem vec_Prefix_g (N : Nat) (w : Int) (n : Int) (r : Int × (BitVec 128) × Int) (hM : vec_Prefix_m N w n = some r) : Gives Tryd.prog 35 #[Value.int .i64 (w), Value.int .i64 (n)] (Value.tuple #[Value.agg #[Value.int .i64 (r.1), U (hi (r.2.1)), U (lo (r.2.1))], Value.int .i64 (r.2.2)]) := by
  unfold vec_Prefix_m at hM
  refine gives_of_A follows Tryd.func35 rfl 26 rfl (upd (upd (fun _ => undef) 1 (Value.int .i64 (n))) 0 (Value.int .i64 (w))) (by funext k; match k with | 0 => rfl | 1 => rfl | k + 2 => rfl) (fun base0_ => ?_)
  refine A_seq fun K1 hK1 => ?_
  refine A_reg ?_
  refine r_a (24, #[Value.int .i64 (0), U (0#64), U (0#64)]) rfl rfl rfl (fun b2 => ?_) (.inr rfl)
  refine r_v (Value.int .i64 (0)) rfl rfl rfl rfl ?_
  refine lx_nil ?_
  refine hK1 _ _ ?_; try clear hK1 K1
  refine A_seq fun K3 hK3 => ?_
  refine A_seq fun K4 hK4 => ?_
  refine A_reg ?_
  refine r_v (Value.int .i64 (w)) rfl rfl rfl rfl ?_
  replace hM := bind_sm hM; obtain ⟨r5, hr6, hM⟩ := hM
  refine r_c (Value.bool (r5)) rfl _ _ (ev_callF rfl call_51 rfl) (vec_mayWidth_g N (w) _ hr6) ?_
  refine r_v (Value.bool (!(r5))) rfl rfl rfl rfl ?_
  refine lx_nil ?_
  refine hK4 _ _ ?_; try clear hK4 K4
  refine A_cond (!(r5)) rfl (fun hc7 => ?_) (fun hc7 => ?_)
  · replace hM := ifn (Bool.eq_false_iff.1 (not_t hc7)) hM
    refine A_seq fun K8 hK8 => ?_
    refine A_reg ?_
    refine r_v (Value.agg #[Value.int .i64 (0), U (0#64), U (0#64)]) rfl rfl rfl (ev_buildS rfl rfl rfl rfl) ?_
    refine r_s [(b2, 24, #[Value.int .i64 (0), U (0#64), U (0#64)])] 0 _ _ _ (#[Value.int .i64 (0), U (0#64), U (0#64)]) (#[Value.int .i64 (0), U (0#64), U (0#64)]) (#[Value.int .i64 (0), U (0#64), U (0#64)]) rfl rfl rfl rfl (.of rfl rfl) rfl rfl ?_
    refine r_v (Value.int .i64 (9)) rfl rfl rfl rfl ?_
    refine lx_nil ?_
    refine hK8 _ _ ?_; try clear hK8 K8
    obtain rfl := Option.some.inj hM
    refine A_ret (fun hn => ends_eq (v0 := Value.tuple #[Value.agg #[Value.int .i64 (0), U (0#64), U (0#64)], Value.int .i64 (9)]) (by first | rfl | simp only [app_hl]) (res2 (res_cell hn 0 rfl rfl rfl) rfl))
  · replace hM := ifp (not_f hc7) hM
    refine A_skip ?_
    refine hK3 _ _ ?_; try clear hK3 K3
    refine A_cut (fun tt ll => ∃ (m1__0 : Int) (m1__1 : BitVec 128), (vec_Prefix_k2 N w n m1__0 m1__1 = some r) ∧ Is [(0, Value.int .i64 (w)), (1, Value.int .i64 (n)), (4, Value.pointer (some ⟨b2, 0, none⟩))] [(b2, 24, #[Value.int .i64 (m1__0), U (hi (m1__1)), U (lo (m1__1))])] tt ll) ?_ ?_
    · refine A_seq fun K15 hK15 => ?_
      refine A_reg ?_
      refine r_v (Value.int .i64 (n)) rfl rfl rfl rfl ?_
      refine r_v (Value.bool (decide ((n : Int) < 0))) rfl rfl rfl rfl ?_
      refine r_v (Value.bool (decide ((n : Int) < 0))) rfl rfl rfl rfl ?_
      rcases hg16 : (decide ((n : Int) < 0)) with _ | _
      · replace hM := ifn (of_decide_eq_false hg16) hM
        refine r_y rfl ?_
        refine r_v (Value.int .i64 (n)) rfl rfl rfl rfl ?_
        refine r_y rfl ?_
        refine r_v (Value.int .i64 (w)) rfl rfl rfl rfl ?_
        refine r_y rfl ?_
        refine r_v (Value.bool (decide ((n : Int) > w))) rfl rfl rfl rfl ?_
        refine r_v (Value.bool (decide ((n : Int) > w))) rfl rfl rfl rfl ?_
        refine lx_nil ?_
        refine hK15 _ _ ?_; try clear hK15 K15
        refine A_cond (decide ((n : Int) > w)) rfl (fun hc17 => ?_) (fun hc17 => ?_)
        · replace hM := ifp (of_decide_eq_true hc17) hM
          refine A_seq fun K18 hK18 => ?_
          refine A_reg ?_
          refine r_v (Value.agg #[Value.int .i64 (0), U (0#64), U (0#64)]) rfl rfl rfl (ev_buildS rfl rfl rfl rfl) ?_
          refine r_s [(b2, 24, #[Value.int .i64 (0), U (0#64), U (0#64)])] 0 _ _ _ (#[Value.int .i64 (0), U (0#64), U (0#64)]) (#[Value.int .i64 (0), U (0#64), U (0#64)]) (#[Value.int .i64 (0), U (0#64), U (0#64)]) rfl rfl rfl rfl (.of rfl rfl) rfl rfl ?_
          refine r_v (Value.int .i64 (15)) rfl rfl rfl rfl ?_
          refine lx_nil ?_
          refine hK18 _ _ ?_; try clear hK18 K18
          obtain rfl := Option.some.inj hM
          refine A_ret (fun hn => ends_eq (v0 := Value.tuple #[Value.agg #[Value.int .i64 (0), U (0#64), U (0#64)], Value.int .i64 (15)]) (by first | rfl | simp only [app_hl]) (res2 (res_cell hn 0 rfl rfl rfl) rfl))
        · replace hM := ifn (of_decide_eq_false hc17) hM
          refine A_skip ?_
          refine fg _ (Sub.of (List.Sublist.cons_cons _ (List.Sublist.slnil))) ?_
          exact ⟨0, (0#64) ++ (0#64), hM, is_mk rfl (by first | rfl | simp only [app_hl])⟩
      · replace hM := ifp (of_decide_eq_true hg16) hM
        refine r_n true rfl (by decide) rfl ?_
        refine r_n true rfl (by decide) rfl ?_
        refine r_n true rfl (by decide) rfl ?_
        refine r_v (Value.bool (true)) rfl rfl rfl rfl ?_
        refine lx_nil ?_
        refine hK15 _ _ ?_; try clear hK15 K15
        refine A_cond true rfl (fun _ => ?_) (fun h_ => nomatch h_)
        refine A_seq fun K19 hK19 => ?_
        refine A_reg ?_
        refine r_v (Value.agg #[Value.int .i64 (0), U (0#64), U (0#64)]) rfl rfl rfl (ev_buildS rfl rfl rfl rfl) ?_
        refine r_s [(b2, 24, #[Value.int .i64 (0), U (0#64), U (0#64)])] 0 _ _ _ (#[Value.int .i64 (0), U (0#64), U (0#64)]) (#[Value.int .i64 (0), U (0#64), U (0#64)]) (#[Value.int .i64 (0), U (0#64), U (0#64)]) rfl rfl rfl rfl (.of rfl rfl) rfl rfl ?_
        refine r_v (Value.int .i64 (15)) rfl rfl rfl rfl ?_
        refine lx_nil ?_
        refine hK19 _ _ ?_; try clear hK19 K19
        obtain rfl := Option.some.inj hM
        refine A_ret (fun hn => ends_eq (v0 := Value.tuple #[Value.agg #[Value.int .i64 (0), U (0#64), U (0#64)], Value.int .i64 (15)]) (by first | rfl | simp only [app_hl]) (res2 (res_cell hn 0 rfl rfl rfl) rfl))
    · clear hM; rintro t l ⟨m1__0, m1__1, hM, ⟨T, rfl⟩, rfl⟩
      unfold vec_Prefix_k2 at hM
      refine A_seq fun K9 hK9 => ?_
      refine A_reg ?_
      refine r_v (Value.int .i64 (w)) rfl rfl rfl rfl ?_
      refine r_v (Value.int .i64 (n)) rfl rfl rfl rfl ?_
      replace hM := ck_some hM; obtain ⟨ck10, hM⟩ := hM
      refine r_c (Value.agg #[U (hi (onesI (n))), U (lo (onesI (n)))]) rfl _ _ (ev_callF rfl call_61 rfl) (ones_g (n) ck10.1 ck10.2) ?_
      refine r_v (Value.int .i64 (w)) rfl rfl rfl rfl ?_
      refine r_v (Value.int .i64 (n)) rfl rfl rfl rfl ?_
      replace hM := ck_some hM; obtain ⟨ck11, hM⟩ := hM
      refine r_v (Value.int .i64 ((w - n))) rfl rfl (wi64 rfl ck11.1 ck11.2) rfl ?_
      replace hM := ck_some hM; obtain ⟨ck12, hM⟩ := hM
      refine r_c (Value.agg #[U (hi (shiftI (onesI (n)) ((w - n)))), U (lo (shiftI (onesI (n)) ((w - n))))]) rfl _ _ (ev_callF rfl call_72 rfl) (shl_g (onesI (n)) ((w - n)) ck12.1 ck12.2) ?_
      replace hM := bind_sm hM; obtain ⟨r13, hr14, hM⟩ := hM
      refine r_c (Value.agg #[Value.int .i64 (r13.1), U (hi (r13.2)), U (lo (r13.2))]) rfl _ _ (ev_callF rfl call_52 rfl) (vec_lowest_g N (w) (shiftI (onesI (n)) ((w - n))) _ hr14) ?_
      refine r_s [(b2, 24, #[Value.int .i64 (r13.1), U (hi (r13.2)), U (lo (r13.2))])] 0 _ _ _ (#[Value.int .i64 (m1__0), U (hi (m1__1)), U (lo (m1__1))]) (#[Value.int .i64 (r13.1), U (hi (r13.2)), U (lo (r13.2))]) (#[Value.int .i64 (r13.1), U (hi (r13.2)), U (lo (r13.2))]) rfl rfl rfl rfl (.of rfl rfl) rfl rfl ?_
      refine r_v (Value.int .i64 (0)) rfl rfl rfl rfl ?_
      refine lx_nil ?_
      refine hK9 _ _ ?_; try clear hK9 K9
      obtain rfl := Option.some.inj hM
      refine A_ret (fun hn => ends_eq (v0 := Value.tuple #[Value.agg #[Value.int .i64 (r13.1), U (hi (r13.2)), U (lo (r13.2))], Value.int .i64 (0)]) rfl (res2 (res_cell hn 0 rfl rfl rfl) rfl))
def vec_Add_1_m (N : Nat) (x : BitVec 128) (y : BitVec 128) (c0__0 : Int) (_ : BitVec 128) : Option (Int × (BitVec 128)) := (vec_lowest_m N (c0__0) ((x) + (y))).bind fun r8 => some (r8.1, r8.2)
set_option maxRecDepth 100000 in
set_option maxHeartbeats 400000 in
theorem vec_Add_1_g (N : Nat) (x : BitVec 128) (y : BitVec 128) (c0__0 : Int) (c0__1 : BitVec 128) (r : Int × (BitVec 128)) (hM : vec_Add_1_m N x y c0__0 c0__1 = some r) (ro : Addr → Option Value) (b0_ : Nat) (hb0_ : Blk ro b0_ [Value.int .i64 (c0__0), U (hi (c0__1)), U (lo (c0__1))]) : Does Tryd.prog 56 #[Value.agg #[U (hi (x)), U (lo (x))], Value.agg #[U (hi (y)), U (lo (y))], Value.pointer (some ⟨b0_, 0, none⟩)] ro [] (pV (Value.agg #[Value.int .i64 (r.1), U (hi (r.2)), U (lo (r.2))])) := by
  unfold vec_Add_1_m at hM
  refine does_of_A follows Tryd.func56 rfl 18 rfl (upd (upd (upd (fun _ => undef) 2 (Value.pointer (some ⟨b0_, 0, none⟩))) 1 (Value.agg #[U (hi (y)), U (lo (y))])) 0 (Value.agg #[U (hi (x)), U (lo (x))])) (by funext k; match k with | 0 => rfl | 1 => rfl | 2 => rfl | k + 3 => rfl) (fun base0_ => ?_)
  refine A_seq fun K1 hK1 => ?_
  refine A_reg ?_
  refine r_a (31, #[U (hi (x)), U (lo (x))]) rfl rfl rfl (fun b2 => ?_) (.inr rfl)
  refine r_a (31, #[U (hi (y)), U (lo (y))]) rfl rfl rfl (fun b3 => ?_) (.inr rfl)
  refine r_a (24, #[Value.int .i64 (0), U (0#64), U (0#64)]) rfl rfl rfl (fun b4 => ?_) (.inr rfl)
  refine lx_nil ?_
  refine hK1 _ _ ?_; try clear hK1 K1
  refine A_seq fun K5 hK5 => ?_
  refine A_reg ?_
  refine r_l (Value.agg #[U (hi (x)), U (lo (x))]) 2 _ _ _ _ rfl rfl rfl rfl rfl ?_
  refine r_l (Value.agg #[U (hi (y)), U (lo (y))]) 1 _ _ _ _ rfl rfl rfl rfl rfl ?_
  refine r_c (Value.tuple #[Value.agg #[U (hi ((x) + (y))), U (lo ((x) + (y)))], Value.bool (BitVec.carry 128 (x) (y) false)]) rfl _ _ (ev_callF rfl call_57 rfl) (add_g (x) (y)) ?_
  refine r_v (Value.tuple #[Value.agg #[U (hi ((x) + (y))), U (lo ((x) + (y)))], Value.bool (BitVec.carry 128 (x) (y) false)]) rfl rfl rfl rfl ?_
  refine r_v (Value.agg #[U (hi ((x) + (y))), U (lo ((x) + (y)))]) rfl rfl rfl rfl ?_
  refine r_v (Value.bool (BitVec.carry 128 (x) (y) false)) rfl rfl rfl rfl ?_
  refine r_a (31, #[U (0#64), U (0#64)]) rfl rfl rfl (fun b6 => ?_) (.inr rfl)
  refine r_s [(b6, 31, #[U (hi ((x) + (y))), U (lo ((x) + (y)))]), (b4, 24, #[Value.int .i64 (0), U (0#64), U (0#64)]), (b3, 31, #[U (hi (y)), U (lo (y))]), (b2, 31, #[U (hi (x)), U (lo (x))])] 0 _ _ _ (#[U (0#64), U (0#64)]) (#[U (hi ((x) + (y))), U (lo ((x) + (y)))]) (#[U (hi ((x) + (y))), U (lo ((x) + (y)))]) rfl rfl rfl rfl (.of rfl rfl) rfl rfl ?_
  refine r_v (Value.bool (BitVec.carry 128 (x) (y) false)) rfl rfl rfl rfl ?_
  refine lx_nil ?_
  refine hK5 _ _ ?_; try clear hK5 K5
  refine A_seq fun K7 hK7 => ?_
  refine A_reg ?_
  refine r_v (Value.pointer (some ⟨b0_, 0, none⟩)) rfl rfl rfl rfl ?_
  refine r_lb (Value.int .i64 (c0__0)) (vs := [Value.int .i64 (c0__0), U (hi (c0__1)), U (lo (c0__1))]) (o := 0) rfl rfl (blk_ro hb0_) rfl ?_
  refine r_l (Value.agg #[U (hi ((x) + (y))), U (lo ((x) + (y)))]) 0 _ _ _ _ rfl rfl rfl rfl rfl ?_
  replace hM := bind_sm hM; obtain ⟨r8, hr9, hM⟩ := hM
  refine r_c (Value.agg #[Value.int .i64 (r8.1), U (hi (r8.2)), U (lo (r8.2))]) rfl _ _ (ev_callF rfl call_52 rfl) (vec_lowest_g N (c0__0) ((x) + (y)) _ hr9) ?_
  refine r_s [(b6, 31, #[U (hi ((x) + (y))), U (lo ((x) + (y)))]), (b4, 24, #[Value.int .i64 (r8.1), U (hi (r8.2)), U (lo (r8.2))]), (b3, 31, #[U (hi (y)), U (lo (y))]), (b2, 31, #[U (hi (x)), U (lo (x))])] 1 _ _ _ (#[Value.int .i64 (0), U (0#64), U (0#64)]) (#[Value.int .i64 (r8.1), U (hi (r8.2)), U (lo (r8.2))]) (#[Value.int .i64 (r8.1), U (hi (r8.2)), U (lo (r8.2))]) rfl rfl rfl rfl (.of rfl rfl) rfl rfl ?_
  refine lx_nil ?_
  refine hK7 _ _ ?_; try clear hK7 K7
  obtain rfl := Option.some.inj hM
  refine A_ret (fun hn => endsV (v0 := Value.agg #[Value.int .i64 (r8.1), U (hi (r8.2)), U (lo (r8.2))]) rfl (res1 (res_cell hn 1 rfl rfl rfl)))
def vec_Add_m (N : Nat) (a_0 : Int) (a_1 : BitVec 128) (b_0 : Int) (b_1 : BitVec 128) : Option (Int × (BitVec 128) × Int) := (vec_pair_m N a_0 a_1 b_0 b_1 (fun (z0_ : BitVec 128) (z1_ : BitVec 128) => vec_Add_1_m N z0_ z1_ a_0 a_1)).bind fun r6 => some (r6.1, r6.2.1, r6.2.2)
set_option maxRecDepth 100000 in
set_option maxHeartbeats 400000 in
theorem vec_Add_g (N : Nat) (a_0 : Int) (a_1 : BitVec 128) (b_0 : Int) (b_1 : BitVec 128) (r : Int × (BitVec 128) × Int) (hM : vec_Add_m N a_0 a_1 b_0 b_1 = some r) : Gives Tryd.prog 19 #[Value.agg #[Value.int .i64 (a_0), U (hi (a_1)), U (lo (a_1))], Value.agg #[Value.int .i64 (b_0), U (hi (b_1)), U (lo (b_1))]] (Value.tuple #[Value.agg #[Value.int .i64 (r.1), U (hi (r.2.1)), U (lo (r.2.1))], Value.int .i64 (r.2.2)]) := by
  unfold vec_Add_m at hM
  refine gives_of_A follows Tryd.func19 rfl 12 rfl (upd (upd (fun _ => undef) 1 (Value.agg #[Value.int .i64 (b_0), U (hi (b_1)), U (lo (b_1))])) 0 (Value.agg #[Value.int .i64 (a_0), U (hi (a_1)), U (lo (a_1))])) (by funext k; match k with | 0 => rfl | 1 => rfl | k + 2 => rfl) (fun base0_ => ?_)
  refine A_seq fun K1 hK1 => ?_
  refine A_reg ?_
  refine r_a (24, #[Value.int .i64 (a_0), U (hi (a_1)), U (lo (a_1))]) rfl rfl rfl (fun b2 => ?_) (.inr rfl)
  refine r_a (24, #[Value.int .i64 (b_0), U (hi (b_1)), U (lo (b_1))]) rfl rfl rfl (fun b3 => ?_) (.inr rfl)
  refine r_a (24, #[Value.int .i64 (0), U (0#64), U (0#64)]) rfl rfl rfl (fun b4 => ?_) (.inr rfl)
  refine r_v (Value.int .i64 (0)) rfl rfl rfl rfl ?_
  refine lx_nil ?_
  refine hK1 _ _ ?_; try clear hK1 K1
  refine A_seq fun K5 hK5 => ?_
  refine A_regC [(some 9, false)] (conG Tryd.prog [(9, fun v_ L_ U_ => ∀ u0_, vec_pair_m N a_0 a_1 b_0 b_1 (fun (z0_ : BitVec 128) (z1_ : BitVec 128) => vec_Add_1_m N z0_ z1_ a_0 a_1) = some u0_ → (pV (Value.tuple #[Value.agg #[Value.int .i64 (u0_.1), U (hi (u0_.2.1)), U (lo (u0_.2.1))], Value.int .i64 (u0_.2.2)])) v_ L_ U_)]) ?_
  refine r_l (Value.agg #[Value.int .i64 (a_0), U (hi (a_1)), U (lo (a_1))]) 2 _ _ _ _ rfl rfl rfl rfl rfl ?_
  refine r_l (Value.agg #[Value.int .i64 (b_0), U (hi (b_1)), U (lo (b_1))]) 1 _ _ _ _ rfl rfl rfl rfl rfl ?_
  refine r_v (Value.func (.func 56) #[] #[Value.pointer (some ⟨b2, 0, none⟩)]) rfl rfl rfl (ev_mkF rfl) ?_
  replace hM := bind_sm hM; obtain ⟨r6, hr7, hM⟩ := hM
  refine r_gv (Value.tuple #[Value.agg #[Value.int .i64 (r6.1), U (hi (r6.2.1)), U (lo (r6.2.1))], Value.int .i64 (r6.2.2)]) 55 _ rfl rfl rfl (ev_callF rfl call_55 rfl) (fun own_ nw_ hs_ => vec_pair_g N a_0 a_1 b_0 b_1 (fun (z0_ : BitVec 128) (z1_ : BitVec 128) => vec_Add_1_m N z0_ z1_ a_0 a_1) _ hr7 hs_.view 56 [Value.pointer (some ⟨b2, 0, none⟩)] call_56 (fun z0_ z1_ q_ h_ => vec_Add_1_g N z0_ z1_ a_0 a_1 q_ h_ hs_.view b2 (blk_own 2 rfl rfl own_ nw_ hs_))) (fun _ _ v_ L_ U_ => ⟨fun h_ => h_ _ hr7, fun h_ => by intro _ e_; cases Option.some.inj (e_.symm.trans hr7); exact h_⟩) ?_
  refine r_v (Value.agg #[Value.int .i64 (r6.1), U (hi (r6.2.1)), U (lo (r6.2.1))]) rfl rfl rfl rfl ?_
  refine r_v (Value.int .i64 (r6.2.2)) rfl rfl rfl rfl ?_
  refine r_s [(b4, 24, #[Value.int .i64 (r6.1), U (hi (r6.2.1)), U (lo (r6.2.1))]), (b3, 24, #[Value.int .i64 (b_0), U (hi (b_1)), U (lo (b_1))]), (b2, 24, #[Value.int .i64 (a_0), U (hi (a_1)), U (lo (a_1))])] 0 _ _ _ (#[Value.int .i64 (0), U (0#64), U (0#64)]) (#[Value.int .i64 (r6.1), U (hi (r6.2.1)), U (lo (r6.2.1))]) (#[Value.int .i64 (r6.1), U (hi (r6.2.1)), U (lo (r6.2.1))]) rfl rfl rfl rfl (.of rfl rfl) rfl rfl ?_
  refine r_v (Value.int .i64 (r6.2.2)) rfl rfl rfl rfl ?_
  refine lx_nil ?_
  refine hK5 _ _ ?_; try clear hK5 K5
  obtain rfl := Option.some.inj hM
  refine A_ret (fun hn => ends_eq (v0 := Value.tuple #[Value.agg #[Value.int .i64 (r6.1), U (hi (r6.2.1)), U (lo (r6.2.1))], Value.int .i64 (r6.2.2)]) rfl (res2 (res_cell hn 0 rfl rfl rfl) rfl))
def vec_AddSat_1_k2 (N : Nat) (c0__0 : Int) (m1_ : BitVec 128) : Option (Int × (BitVec 128)) := (vec_lowest_m N (c0__0) (m1_)).bind fun r8 => some (r8.1, r8.2)
def vec_AddSat_1_m (N : Nat) (x : BitVec 128) (y : BitVec 128) (c0__0 : Int) (_ : BitVec 128) : Option (Int × (BitVec 128)) := if (BitVec.carry 128 (x) (y) false) = true then ck (-9223372036854775808 ≤ (c0__0 : Int) ∧ (c0__0 : Int) ≤ 9223372036854775807) (vec_AddSat_1_k2 N c0__0 (onesI (c0__0))) else if (((len128 ((x) + (y)) : Nat) : Int) : Int) > c0__0 then ck (-9223372036854775808 ≤ (c0__0 : Int) ∧ (c0__0 : Int) ≤ 9223372036854775807) (vec_AddSat_1_k2 N c0__0 (onesI (c0__0))) else vec_AddSat_1_k2 N c0__0 ((x) + (y))
set_option maxRecDepth 100000 in
set_option maxHeartbeats 400000 in
theorem vec_AddSat_1_g (N : Nat) (x : BitVec 128) (y : BitVec 128) (c0__0 : Int) (c0__1 : BitVec 128) (r : Int × (BitVec 128)) (hM : vec_AddSat_1_m N x y c0__0 c0__1 = some r) (ro : Addr → Option Value) (b0_ : Nat) (hb0_ : Blk ro b0_ [Value.int .i64 (c0__0), U (hi (c0__1)), U (lo (c0__1))]) : Does Tryd.prog 60 #[Value.agg #[U (hi (x)), U (lo (x))], Value.agg #[U (hi (y)), U (lo (y))], Value.pointer (some ⟨b0_, 0, none⟩)] ro [] (pV (Value.agg #[Value.int .i64 (r.1), U (hi (r.2)), U (lo (r.2))])) := by
  unfold vec_AddSat_1_m at hM
  refine does_of_A follows Tryd.func60 rfl 29 rfl (upd (upd (upd (fun _ => undef) 2 (Value.pointer (some ⟨b0_, 0, none⟩))) 1 (Value.agg #[U (hi (y)), U (lo (y))])) 0 (Value.agg #[U (hi (x)), U (lo (x))])) (by funext k; match k with | 0 => rfl | 1 => rfl | 2 => rfl | k + 3 => rfl) (fun base0_ => ?_)
  refine A_seq fun K1 hK1 => ?_
  refine A_reg ?_
  refine r_a (31, #[U (hi (x)), U (lo (x))]) rfl rfl rfl (fun b2 => ?_) (.inr rfl)
  refine r_a (31, #[U (hi (y)), U (lo (y))]) rfl rfl rfl (fun b3 => ?_) (.inr rfl)
  refine r_a (24, #[Value.int .i64 (0), U (0#64), U (0#64)]) rfl rfl rfl (fun b4 => ?_) (.inr rfl)
  refine lx_nil ?_
  refine hK1 _ _ ?_; try clear hK1 K1
  refine A_seq fun K5 hK5 => ?_
  refine A_reg ?_
  refine r_l (Value.agg #[U (hi (x)), U (lo (x))]) 2 _ _ _ _ rfl rfl rfl rfl rfl ?_
  refine r_l (Value.agg #[U (hi (y)), U (lo (y))]) 1 _ _ _ _ rfl rfl rfl rfl rfl ?_
  refine r_c (Value.tuple #[Value.agg #[U (hi ((x) + (y))), U (lo ((x) + (y)))], Value.bool (BitVec.carry 128 (x) (y) false)]) rfl _ _ (ev_callF rfl call_57 rfl) (add_g (x) (y)) ?_
  refine r_v (Value.tuple #[Value.agg #[U (hi ((x) + (y))), U (lo ((x) + (y)))], Value.bool (BitVec.carry 128 (x) (y) false)]) rfl rfl rfl rfl ?_
  refine r_v (Value.agg #[U (hi ((x) + (y))), U (lo ((x) + (y)))]) rfl rfl rfl rfl ?_
  refine r_v (Value.bool (BitVec.carry 128 (x) (y) false)) rfl rfl rfl rfl ?_
  refine r_a (31, #[U (0#64), U (0#64)]) rfl rfl rfl (fun b6 => ?_) (.inr rfl)
  refine r_s [(b6, 31, #[U (hi ((x) + (y))), U (lo ((x) + (y)))]), (b4, 24, #[Value.int .i64 (0), U (0#64), U (0#64)]), (b3, 31, #[U (hi (y)), U (lo (y))]), (b2, 31, #[U (hi (x)), U (lo (x))])] 0 _ _ _ (#[U (0#64), U (0#64)]) (#[U (hi ((x) + (y))), U (lo ((x) + (y)))]) (#[U (hi ((x) + (y))), U (lo ((x) + (y)))]) rfl rfl rfl rfl (.of rfl rfl) rfl rfl ?_
  refine r_v (Value.bool (BitVec.carry 128 (x) (y) false)) rfl rfl rfl rfl ?_
  refine lx_nil ?_
  refine hK5 _ _ ?_; try clear hK5 K5
  refine A_cut (fun tt ll => ∃ (m1_ : BitVec 128), (vec_AddSat_1_k2 N c0__0 m1_ = some r) ∧ Is [(2, Value.pointer (some ⟨b0_, 0, none⟩)), (5, Value.pointer (some ⟨b4, 0, none⟩)), (6, Value.pointer (some ⟨b6, 0, none⟩))] [(b6, 31, #[U (hi (m1_)), U (lo (m1_))]), (b4, 24, #[Value.int .i64 (0), U (0#64), U (0#64)])] tt ll) ?_ ?_
  · refine A_seq fun K10 hK10 => ?_
    refine A_draw [] (by decide +kernel) (fun hn => sep_nil) ?_
    refine r_v (Value.bool (BitVec.carry 128 (x) (y) false)) rfl rfl rfl rfl ?_
    refine r_v (Value.bool (BitVec.carry 128 (x) (y) false)) rfl rfl rfl rfl ?_
    rcases hg11 : (BitVec.carry 128 (x) (y) false) with _ | _
    · replace hM := ifn (Bool.eq_false_iff.1 hg11) hM
      refine r_y rfl ?_
      refine r_l (Value.agg #[U (hi ((x) + (y))), U (lo ((x) + (y)))]) 0 _ _ _ _ rfl rfl rfl rfl rfl ?_
      refine r_y rfl ?_
      refine r_c (Value.int .i64 (((len128 ((x) + (y)) : Nat) : Int))) rfl _ _ (ev_callF rfl call_53 rfl) (len_g ((x) + (y))) ?_
      refine r_y rfl ?_
      refine r_v (Value.pointer (some ⟨b0_, 0, none⟩)) rfl rfl rfl rfl ?_
      refine r_y rfl ?_
      refine r_lb (Value.int .i64 (c0__0)) (vs := [Value.int .i64 (c0__0), U (hi (c0__1)), U (lo (c0__1))]) (o := 0) rfl rfl (blk_ro hb0_) rfl ?_
      refine r_y rfl ?_
      refine r_v (Value.bool (decide ((((len128 ((x) + (y)) : Nat) : Int) : Int) > c0__0))) rfl rfl rfl rfl ?_
      refine r_v (Value.bool (decide ((((len128 ((x) + (y)) : Nat) : Int) : Int) > c0__0))) rfl rfl rfl rfl ?_
      refine lx_nil ?_
      refine hK10 _ _ ?_; try clear hK10 K10
      refine A_cond (decide ((((len128 ((x) + (y)) : Nat) : Int) : Int) > c0__0)) rfl (fun hc12 => ?_) (fun hc12 => ?_)
      · replace hM := ifp (of_decide_eq_true hc12) hM
        refine A_reg ?_
        refine r_v (Value.pointer (some ⟨b0_, 0, none⟩)) rfl rfl rfl rfl ?_
        refine r_lb (Value.int .i64 (c0__0)) (vs := [Value.int .i64 (c0__0), U (hi (c0__1)), U (lo (c0__1))]) (o := 0) rfl rfl (blk_ro hb0_) rfl ?_
        replace hM := ck_some hM; obtain ⟨ck13, hM⟩ := hM
        refine r_c (Value.agg #[U (hi (onesI (c0__0))), U (lo (onesI (c0__0)))]) rfl _ _ (ev_callF rfl call_61 rfl) (ones_g (c0__0) ck13.1 ck13.2) ?_
        refine r_s [(b6, 31, #[U (hi (onesI (c0__0))), U (lo (onesI (c0__0)))]), (b4, 24, #[Value.int .i64 (0), U (0#64), U (0#64)]), (b3, 31, #[U (hi (y)), U (lo (y))]), (b2, 31, #[U (hi (x)), U (lo (x))])] 0 _ _ _ (#[U (hi ((x) + (y))), U (lo ((x) + (y)))]) (#[U (hi (onesI (c0__0))), U (lo (onesI (c0__0)))]) (#[U (hi (onesI (c0__0))), U (lo (onesI (c0__0)))]) rfl rfl rfl rfl (.of rfl rfl) rfl rfl ?_
        refine lx_nil ?_
        refine fg _ (Sub.of (List.Sublist.cons_cons _ (List.Sublist.cons_cons _ (List.Sublist.cons _ (List.Sublist.cons _ (List.Sublist.slnil)))))) ?_
        exact ⟨onesI (c0__0), hM, is_mk rfl (by first | rfl | simp only [app_hl])⟩
      · replace hM := ifn (of_decide_eq_false hc12) hM
        refine A_skip ?_
        refine fg _ (Sub.of (List.Sublist.cons_cons _ (List.Sublist.cons_cons _ (List.Sublist.cons _ (List.Sublist.cons _ (List.Sublist.slnil)))))) ?_
        exact ⟨(x) + (y), hM, is_mk rfl (by first | rfl | simp only [app_hl])⟩
    · replace hM := ifp hg11 hM
      refine r_n true rfl (by decide) rfl ?_
      refine r_n true rfl (by decide) rfl ?_
      refine r_n true rfl (by decide) rfl ?_
      refine r_n true rfl (by decide) rfl ?_
      refine r_n true rfl (by decide) rfl ?_
      refine r_v (Value.bool (true)) rfl rfl rfl rfl ?_
      refine lx_nil ?_
      refine hK10 _ _ ?_; try clear hK10 K10
      refine A_cond true rfl (fun _ => ?_) (fun h_ => nomatch h_)
      refine A_reg ?_
      refine r_v (Value.pointer (some ⟨b0_, 0, none⟩)) rfl rfl rfl rfl ?_
      refine r_lb (Value.int .i64 (c0__0)) (vs := [Value.int .i64 (c0__0), U (hi (c0__1)), U (lo (c0__1))]) (o := 0) rfl rfl (blk_ro hb0_) rfl ?_
      replace hM := ck_some hM; obtain ⟨ck14, hM⟩ := hM
      refine r_c (Value.agg #[U (hi (onesI (c0__0))), U (lo (onesI (c0__0)))]) rfl _ _ (ev_callF rfl call_61 rfl) (ones_g (c0__0) ck14.1 ck14.2) ?_
      refine r_s [(b6, 31, #[U (hi (onesI (c0__0))), U (lo (onesI (c0__0)))]), (b4, 24, #[Value.int .i64 (0), U (0#64), U (0#64)]), (b3, 31, #[U (hi (y)), U (lo (y))]), (b2, 31, #[U (hi (x)), U (lo (x))])] 0 _ _ _ (#[U (hi ((x) + (y))), U (lo ((x) + (y)))]) (#[U (hi (onesI (c0__0))), U (lo (onesI (c0__0)))]) (#[U (hi (onesI (c0__0))), U (lo (onesI (c0__0)))]) rfl rfl rfl rfl (.of rfl rfl) rfl rfl ?_
      refine lx_nil ?_
      refine fg _ (Sub.of (List.Sublist.cons_cons _ (List.Sublist.cons_cons _ (List.Sublist.cons _ (List.Sublist.cons _ (List.Sublist.slnil)))))) ?_
      exact ⟨onesI (c0__0), hM, is_mk rfl (by first | rfl | simp only [app_hl])⟩
  · clear hM; rintro t l ⟨m1_, hM, ⟨T, rfl⟩, rfl⟩
    unfold vec_AddSat_1_k2 at hM
    refine A_seq fun K7 hK7 => ?_
    refine A_reg ?_
    refine r_v (Value.pointer (some ⟨b0_, 0, none⟩)) rfl rfl rfl rfl ?_
    refine r_lb (Value.int .i64 (c0__0)) (vs := [Value.int .i64 (c0__0), U (hi (c0__1)), U (lo (c0__1))]) (o := 0) rfl rfl (blk_ro hb0_) rfl ?_
    refine r_l (Value.agg #[U (hi (m1_)), U (lo (m1_))]) 0 _ _ _ _ rfl rfl rfl rfl rfl ?_
    replace hM := bind_sm hM; obtain ⟨r8, hr9, hM⟩ := hM
    refine r_c (Value.agg #[Value.int .i64 (r8.1), U (hi (r8.2)), U (lo (r8.2))]) rfl _ _ (ev_callF rfl call_52 rfl) (vec_lowest_g N (c0__0) (m1_) _ hr9) ?_
    refine r_s [(b6, 31, #[U (hi (m1_)), U (lo (m1_))]), (b4, 24, #[Value.int .i64 (r8.1), U (hi (r8.2)), U (lo (r8.2))])] 1 _ _ _ (#[Value.int .i64 (0), U (0#64), U (0#64)]) (#[Value.int .i64 (r8.1), U (hi (r8.2)), U (lo (r8.2))]) (#[Value.int .i64 (r8.1), U (hi (r8.2)), U (lo (r8.2))]) rfl rfl rfl rfl (.of rfl rfl) rfl rfl ?_
    refine lx_nil ?_
    refine hK7 _ _ ?_; try clear hK7 K7
    obtain rfl := Option.some.inj hM
    refine A_ret (fun hn => endsV (v0 := Value.agg #[Value.int .i64 (r8.1), U (hi (r8.2)), U (lo (r8.2))]) rfl (res1 (res_cell hn 1 rfl rfl rfl)))
def vec_AddSat_m (N : Nat) (a_0 : Int) (a_1 : BitVec 128) (b_0 : Int) (b_1 : BitVec 128) : Option (Int × (BitVec 128) × Int) := (vec_pair_m N a_0 a_1 b_0 b_1 (fun (z0_ : BitVec 128) (z1_ : BitVec 128) => vec_AddSat_1_m N z0_ z1_ a_0 a_1)).bind fun r6 => some (r6.1, r6.2.1, r6.2.2)
set_option maxRecDepth 100000 in
set_option maxHeartbeats 400000 in
theorem vec_AddSat_g (N : Nat) (a_0 : Int) (a_1 : BitVec 128) (b_0 : Int) (b_1 : BitVec 128) (r : Int × (BitVec 128) × Int) (hM : vec_AddSat_m N a_0 a_1 b_0 b_1 = some r) : Gives Tryd.prog 21 #[Value.agg #[Value.int .i64 (a_0), U (hi (a_1)), U (lo (a_1))], Value.agg #[Value.int .i64 (b_0), U (hi (b_1)), U (lo (b_1))]] (Value.tuple #[Value.agg #[Value.int .i64 (r.1), U (hi (r.2.1)), U (lo (r.2.1))], Value.int .i64 (r.2.2)]) := by
  unfold vec_AddSat_m at hM
  refine gives_of_A follows Tryd.func21 rfl 12 rfl (upd (upd (fun _ => undef) 1 (Value.agg #[Value.int .i64 (b_0), U (hi (b_1)), U (lo (b_1))])) 0 (Value.agg #[Value.int .i64 (a_0), U (hi (a_1)), U (lo (a_1))])) (by funext k; match k with | 0 => rfl | 1 => rfl | k + 2 => rfl) (fun base0_ => ?_)
  refine A_seq fun K1 hK1 => ?_
  refine A_reg ?_
  refine r_a (24, #[Value.int .i64 (a_0), U (hi (a_1)), U (lo (a_1))]) rfl rfl rfl (fun b2 => ?_) (.inr rfl)
  refine r_a (24, #[Value.int .i64 (b_0), U (hi (b_1)), U (lo (b_1))]) rfl rfl rfl (fun b3 => ?_) (.inr rfl)
  refine r_a (24, #[Value.int .i64 (0), U (0#64), U (0#64)]) rfl rfl rfl (fun b4 => ?_) (.inr rfl)
  refine r_v (Value.int .i64 (0)) rfl rfl rfl rfl ?_
  refine lx_nil ?_
  refine hK1 _ _ ?_; try clear hK1 K1
  refine A_seq fun K5 hK5 => ?_
  refine A_regC [(some 9, false)] (conG Tryd.prog [(9, fun v_ L_ U_ => ∀ u0_, vec_pair_m N a_0 a_1 b_0 b_1 (fun (z0_ : BitVec 128) (z1_ : BitVec 128) => vec_AddSat_1_m N z0_ z1_ a_0 a_1) = some u0_ → (pV (Value.tuple #[Value.agg #[Value.int .i64 (u0_.1), U (hi (u0_.2.1)), U (lo (u0_.2.1))], Value.int .i64 (u0_.2.2)])) v_ L_ U_)]) ?_
  refine r_l (Value.agg #[Value.int .i64 (a_0), U (hi (a_1)), U (lo (a_1))]) 2 _ _ _ _ rfl rfl rfl rfl rfl ?_
  refine r_l (Value.agg #[Value.int .i64 (b_0), U (hi (b_1)), U (lo (b_1))]) 1 _ _ _ _ rfl rfl rfl rfl rfl ?_
  refine r_v (Value.func (.func 60) #[] #[Value.pointer (some ⟨b2, 0, none⟩)]) rfl rfl rfl (ev_mkF rfl) ?_
  replace hM := bind_sm hM; obtain ⟨r6, hr7, hM⟩ := hM
  refine r_gv (Value.tuple #[Value.agg #[Value.int .i64 (r6.1), U (hi (r6.2.1)), U (lo (r6.2.1))], Value.int .i64 (r6.2.2)]) 55 _ rfl rfl rfl (ev_callF rfl call_55 rfl) (fun own_ nw_ hs_ => vec_pair_g N a_0 a_1 b_0 b_1 (fun (z0_ : BitVec 128) (z1_ : BitVec 128) => vec_AddSat_1_m N z0_ z1_ a_0 a_1) _ hr7 hs_.view 60 [Value.pointer (some ⟨b2, 0, none⟩)] call_60 (fun z0_ z1_ q_ h_ => vec_AddSat_1_g N z0_ z1_ a_0 a_1 q_ h_ hs_.view b2 (blk_own 2 rfl rfl own_ nw_ hs_))) (fun _ _ v_ L_ U_ => ⟨fun h_ => h_ _ hr7, fun h_ => by intro _ e_; cases Option.some.inj (e_.symm.trans hr7); exact h_⟩) ?_
  refine r_v (Value.agg #[Value.int .i64 (r6.1), U (hi (r6.2.1)), U (lo (r6.2.1))]) rfl rfl rfl rfl ?_
  refine r_v (Value.int .i64 (r6.2.2)) rfl rfl rfl rfl ?_
  refine r_s [(b4, 24, #[Value.int .i64 (r6.1), U (hi (r6.2.1)), U (lo (r6.2.1))]), (b3, 24, #[Value.int .i64 (b_0), U (hi (b_1)), U (lo (b_1))]), (b2, 24, #[Value.int .i64 (a_0), U (hi (a_1)), U (lo (a_1))])] 0 _ _ _ (#[Value.int .i64 (0), U (0#64), U (0#64)]) (#[Value.int .i64 (r6.1), U (hi (r6.2.1)), U (lo (r6.2.1))]) (#[Value.int .i64 (r6.1), U (hi (r6.2.1)), U (lo (r6.2.1))]) rfl rfl rfl rfl (.of rfl rfl) rfl rfl ?_
  refine r_v (Value.int .i64 (r6.2.2)) rfl rfl rfl rfl ?_
  refine lx_nil ?_
  refine hK5 _ _ ?_; try clear hK5 K5
  obtain rfl := Option.some.inj hM
  refine A_ret (fun hn => ends_eq (v0 := Value.tuple #[Value.agg #[Value.int .i64 (r6.1), U (hi (r6.2.1)), U (lo (r6.2.1))], Value.int .i64 (r6.2.2)]) rfl (res2 (res_cell hn 0 rfl rfl rfl) rfl))
def vec_SubSat_1_k2 (N : Nat) (c0__0 : Int) (m1_ : BitVec 128) : Option (Int × (BitVec 128)) := (vec_lowest_m N (c0__0) (m1_)).bind fun r8 => some (r8.1, r8.2)
def vec_SubSat_1_m (N : Nat) (x : BitVec 128) (y : BitVec 128) (c0__0 : Int) (_ : BitVec 128) : Option (Int × (BitVec 128)) := if (x) < (y) then vec_SubSat_1_k2 N c0__0 ((0#64) ++ (0#64)) else vec_SubSat_1_k2 N c0__0 ((x) - (y))
set_option maxRecDepth 100000 in
set_option maxHeartbeats 400000 in
theorem vec_SubSat_1_g (N : Nat) (x : BitVec 128) (y : BitVec 128) (c0__0 : Int) (c0__1 : BitVec 128) (r : Int × (BitVec 128)) (hM : vec_SubSat_1_m N x y c0__0 c0__1 = some r) (ro : Addr → Option Value) (b0_ : Nat) (hb0_ : Blk ro b0_ [Value.int .i64 (c0__0), U (hi (c0__1)), U (lo (c0__1))]) : Does Tryd.prog 62 #[Value.agg #[U (hi (x)), U (lo (x))], Value.agg #[U (hi (y)), U (lo (y))], Value.pointer (some ⟨b0_, 0, none⟩)] ro [] (pV (Value.agg #[Value.int .i64 (r.1), U (hi (r.2)), U (lo (r.2))])) := by
  unfold vec_SubSat_1_m at hM
  refine does_of_A follows Tryd.func62 rfl 20 rfl (upd (upd (upd (fun _ => undef) 2 (Value.pointer (some ⟨b0_, 0, none⟩))) 1 (Value.agg #[U (hi (y)), U (lo (y))])) 0 (Value.agg #[U (hi (x)), U (lo (x))])) (by funext k; match k with | 0 => rfl | 1 => rfl | 2 => rfl | k + 3 => rfl) (fun base0_ => ?_)
  refine A_seq fun K1 hK1 => ?_
  refine A_reg ?_
  refine r_a (31, #[U (hi (x)), U (lo (x))]) rfl rfl rfl (fun b2 => ?_) (.inr rfl)
  refine r_a (31, #[U (hi (y)), U (lo (y))]) rfl rfl rfl (fun b3 => ?_) (.inr rfl)
  refine r_a (24, #[Value.int .i64 (0), U (0#64), U (0#64)]) rfl rfl rfl (fun b4 => ?_) (.inr rfl)
  refine lx_nil ?_
  refine hK1 _ _ ?_; try clear hK1 K1
  refine A_seq fun K5 hK5 => ?_
  refine A_reg ?_
  refine r_l (Value.agg #[U (hi (x)), U (lo (x))]) 2 _ _ _ _ rfl rfl rfl rfl rfl ?_
  refine r_l (Value.agg #[U (hi (y)), U (lo (y))]) 1 _ _ _ _ rfl rfl rfl rfl rfl ?_
  refine r_c (Value.tuple #[Value.agg #[U (hi ((x) - (y))), U (lo ((x) - (y)))], Value.bool (decide ((x) < (y)))]) rfl _ _ (ev_callF rfl call_59 rfl) (sub_g (x) (y)) ?_
  refine r_v (Value.tuple #[Value.agg #[U (hi ((x) - (y))), U (lo ((x) - (y)))], Value.bool (decide ((x) < (y)))]) rfl rfl rfl rfl ?_
  refine r_v (Value.agg #[U (hi ((x) - (y))), U (lo ((x) - (y)))]) rfl rfl rfl rfl ?_
  refine r_v (Value.bool (decide ((x) < (y)))) rfl rfl rfl rfl ?_
  refine r_a (31, #[U (0#64), U (0#64)]) rfl rfl rfl (fun b6 => ?_) (.inr rfl)
  refine r_s [(b6, 31, #[U (hi ((x) - (y))), U (lo ((x) - (y)))]), (b4, 24, #[Value.int .i64 (0), U (0#64), U (0#64)]), (b3, 31, #[U (hi (y)), U (lo (y))]), (b2, 31, #[U (hi (x)), U (lo (x))])] 0 _ _ _ (#[U (0#64), U (0#64)]) (#[U (hi ((x) - (y))), U (lo ((x) - (y)))]) (#[U (hi ((x) - (y))), U (lo ((x) - (y)))]) rfl rfl rfl rfl (.of rfl rfl) rfl rfl ?_
  refine r_v (Value.bool (decide ((x) < (y)))) rfl rfl rfl rfl ?_
  refine lx_nil ?_
  refine hK5 _ _ ?_; try clear hK5 K5
  refine A_cut (fun tt ll => ∃ (m1_ : BitVec 128), (vec_SubSat_1_k2 N c0__0 m1_ = some r) ∧ Is [(2, Value.pointer (some ⟨b0_, 0, none⟩)), (5, Value.pointer (some ⟨b4, 0, none⟩)), (6, Value.pointer (some ⟨b6, 0, none⟩))] [(b6, 31, #[U (hi (m1_)), U (lo (m1_))]), (b4, 24, #[Value.int .i64 (0), U (0#64), U (0#64)])] tt ll) ?_ ?_
  · refine A_seq fun K10 hK10 => ?_
    refine A_reg ?_
    refine r_v (Value.bool (decide ((x) < (y)))) rfl rfl rfl rfl ?_
    refine lx_nil ?_
    refine hK10 _ _ ?_; try clear hK10 K10
    refine A_cond (decide ((x) < (y))) rfl (fun hc11 => ?_) (fun hc11 => ?_)
    · replace hM := ifp (of_decide_eq_true hc11) hM
      refine A_reg ?_
      refine r_v (Value.agg #[U (0#64), U (0#64)]) rfl rfl rfl (ev_buildS rfl rfl rfl rfl) ?_
      refine r_s [(b6, 31, #[U (0#64), U (0#64)]), (b4, 24, #[Value.int .i64 (0), U (0#64), U (0#64)]), (b3, 31, #[U (hi (y)), U (lo (y))]), (b2, 31, #[U (hi (x)), U (lo (x))])] 0 _ _ _ (#[U (hi ((x) - (y))), U (lo ((x) - (y)))]) (#[U (0#64), U (0#64)]) (#[U (0#64), U (0#64)]) rfl rfl rfl rfl (.of rfl rfl) rfl rfl ?_
      refine lx_nil ?_
      refine fg _ (Sub.of (List.Sublist.cons_cons _ (List.Sublist.cons_cons _ (List.Sublist.cons _ (List.Sublist.cons _ (List.Sublist.slnil)))))) ?_
      exact ⟨(0#64) ++ (0#64), hM, is_mk rfl (by first | rfl | simp only [app_hl])⟩
    · replace hM := ifn (of_decide_eq_false hc11) hM
      refine A_skip ?_
      refine fg _ (Sub.of (List.Sublist.cons_cons _ (List.Sublist.cons_cons _ (List.Sublist.cons _ (List.Sublist.cons _ (List.Sublist.slnil)))))) ?_
      exact ⟨(x) - (y), hM, is_mk rfl (by first | rfl | simp only [app_hl])⟩
  · clear hM; rintro t l ⟨m1_, hM, ⟨T, rfl⟩, rfl⟩
    unfold vec_SubSat_1_k2 at hM
    refine A_seq fun K7 hK7 => ?_
    refine A_reg ?_
    refine r_v (Value.pointer (some ⟨b0_, 0, none⟩)) rfl rfl rfl rfl ?_
    refine r_lb (Value.int .i64 (c0__0)) (vs := [Value.int .i64 (c0__0), U (hi (c0__1)), U (lo (c0__1))]) (o := 0) rfl rfl (blk_ro hb0_) rfl ?_
    refine r_l (Value.agg #[U (hi (m1_)), U (lo (m1_))]) 0 _ _ _ _ rfl rfl rfl rfl rfl ?_
    replace hM := bind_sm hM; obtain ⟨r8, hr9, hM⟩ := hM
    refine r_c (Value.agg #[Value.int .i64 (r8.1), U (hi (r8.2)), U (lo (r8.2))]) rfl _ _ (ev_callF rfl call_52 rfl) (vec_lowest_g N (c0__0) (m1_) _ hr9) ?_
    refine r_s [(b6, 31, #[U (hi (m1_)), U (lo (m1_))]), (b4, 24, #[Value.int .i64 (r8.1), U (hi (r8.2)), U (lo (r8.2))])] 1 _ _ _ (#[Value.int .i64 (0), U (0#64), U (0#64)]) (#[Value.int .i64 (r8.1), U (hi (r8.2)), U (lo (r8.2))]) (#[Value.int .i64 (r8.1), U (hi (r8.2)), U (lo (r8.2))]) rfl rfl rfl rfl (.of rfl rfl) rfl rfl ?_
    refine lx_nil ?_
    refine hK7 _ _ ?_; try clear hK7 K7
    obtain rfl := Option.some.inj hM
    refine A_ret (fun hn => endsV (v0 := Value.agg #[Value.int .i64 (r8.1), U (hi (r8.2)), U (lo (r8.2))]) rfl (res1 (res_cell hn 1 rfl rfl rfl)))
def vec_SubSat_m (N : Nat) (a_0 : Int) (a_1 : BitVec 128) (b_0 : Int) (b_1 : BitVec 128) : Option (Int × (BitVec 128) × Int) := (vec_pair_m N a_0 a_1 b_0 b_1 (fun (z0_ : BitVec 128) (z1_ : BitVec 128) => vec_SubSat_1_m N z0_ z1_ a_0 a_1)).bind fun r6 => some (r6.1, r6.2.1, r6.2.2)
set_option maxRecDepth 100000 in
set_option maxHeartbeats 400000 in
theorem vec_SubSat_g (N : Nat) (a_0 : Int) (a_1 : BitVec 128) (b_0 : Int) (b_1 : BitVec 128) (r : Int × (BitVec 128) × Int) (hM : vec_SubSat_m N a_0 a_1 b_0 b_1 = some r) : Gives Tryd.prog 22 #[Value.agg #[Value.int .i64 (a_0), U (hi (a_1)), U (lo (a_1))], Value.agg #[Value.int .i64 (b_0), U (hi (b_1)), U (lo (b_1))]] (Value.tuple #[Value.agg #[Value.int .i64 (r.1), U (hi (r.2.1)), U (lo (r.2.1))], Value.int .i64 (r.2.2)]) := by
  unfold vec_SubSat_m at hM
  refine gives_of_A follows Tryd.func22 rfl 12 rfl (upd (upd (fun _ => undef) 1 (Value.agg #[Value.int .i64 (b_0), U (hi (b_1)), U (lo (b_1))])) 0 (Value.agg #[Value.int .i64 (a_0), U (hi (a_1)), U (lo (a_1))])) (by funext k; match k with | 0 => rfl | 1 => rfl | k + 2 => rfl) (fun base0_ => ?_)
  refine A_seq fun K1 hK1 => ?_
  refine A_reg ?_
  refine r_a (24, #[Value.int .i64 (a_0), U (hi (a_1)), U (lo (a_1))]) rfl rfl rfl (fun b2 => ?_) (.inr rfl)
  refine r_a (24, #[Value.int .i64 (b_0), U (hi (b_1)), U (lo (b_1))]) rfl rfl rfl (fun b3 => ?_) (.inr rfl)
  refine r_a (24, #[Value.int .i64 (0), U (0#64), U (0#64)]) rfl rfl rfl (fun b4 => ?_) (.inr rfl)
  refine r_v (Value.int .i64 (0)) rfl rfl rfl rfl ?_
  refine lx_nil ?_
  refine hK1 _ _ ?_; try clear hK1 K1
  refine A_seq fun K5 hK5 => ?_
  refine A_regC [(some 9, false)] (conG Tryd.prog [(9, fun v_ L_ U_ => ∀ u0_, vec_pair_m N a_0 a_1 b_0 b_1 (fun (z0_ : BitVec 128) (z1_ : BitVec 128) => vec_SubSat_1_m N z0_ z1_ a_0 a_1) = some u0_ → (pV (Value.tuple #[Value.agg #[Value.int .i64 (u0_.1), U (hi (u0_.2.1)), U (lo (u0_.2.1))], Value.int .i64 (u0_.2.2)])) v_ L_ U_)]) ?_
  refine r_l (Value.agg #[Value.int .i64 (a_0), U (hi (a_1)), U (lo (a_1))]) 2 _ _ _ _ rfl rfl rfl rfl rfl ?_
  refine r_l (Value.agg #[Value.int .i64 (b_0), U (hi (b_1)), U (lo (b_1))]) 1 _ _ _ _ rfl rfl rfl rfl rfl ?_
  refine r_v (Value.func (.func 62) #[] #[Value.pointer (some ⟨b2, 0, none⟩)]) rfl rfl rfl (ev_mkF rfl) ?_
  replace hM := bind_sm hM; obtain ⟨r6, hr7, hM⟩ := hM
  refine r_gv (Value.tuple #[Value.agg #[Value.int .i64 (r6.1), U (hi (r6.2.1)), U (lo (r6.2.1))], Value.int .i64 (r6.2.2)]) 55 _ rfl rfl rfl (ev_callF rfl call_55 rfl) (fun own_ nw_ hs_ => vec_pair_g N a_0 a_1 b_0 b_1 (fun (z0_ : BitVec 128) (z1_ : BitVec 128) => vec_SubSat_1_m N z0_ z1_ a_0 a_1) _ hr7 hs_.view 62 [Value.pointer (some ⟨b2, 0, none⟩)] call_62 (fun z0_ z1_ q_ h_ => vec_SubSat_1_g N z0_ z1_ a_0 a_1 q_ h_ hs_.view b2 (blk_own 2 rfl rfl own_ nw_ hs_))) (fun _ _ v_ L_ U_ => ⟨fun h_ => h_ _ hr7, fun h_ => by intro _ e_; cases Option.some.inj (e_.symm.trans hr7); exact h_⟩) ?_
  refine r_v (Value.agg #[Value.int .i64 (r6.1), U (hi (r6.2.1)), U (lo (r6.2.1))]) rfl rfl rfl rfl ?_
  refine r_v (Value.int .i64 (r6.2.2)) rfl rfl rfl rfl ?_
  refine r_s [(b4, 24, #[Value.int .i64 (r6.1), U (hi (r6.2.1)), U (lo (r6.2.1))]), (b3, 24, #[Value.int .i64 (b_0), U (hi (b_1)), U (lo (b_1))]), (b2, 24, #[Value.int .i64 (a_0), U (hi (a_1)), U (lo (a_1))])] 0 _ _ _ (#[Value.int .i64 (0), U (0#64), U (0#64)]) (#[Value.int .i64 (r6.1), U (hi (r6.2.1)), U (lo (r6.2.1))]) (#[Value.int .i64 (r6.1), U (hi (r6.2.1)), U (lo (r6.2.1))]) rfl rfl rfl rfl (.of rfl rfl) rfl rfl ?_
  refine r_v (Value.int .i64 (r6.2.2)) rfl rfl rfl rfl ?_
  refine lx_nil ?_
  refine hK5 _ _ ?_; try clear hK5 K5
  obtain rfl := Option.some.inj hM
  refine A_ret (fun hn => ends_eq (v0 := Value.tuple #[Value.agg #[Value.int .i64 (r6.1), U (hi (r6.2.1)), U (lo (r6.2.1))], Value.int .i64 (r6.2.2)]) rfl (res2 (res_cell hn 0 rfl rfl rfl) rfl))
def vec_bitwise_1_m (N : Nat) (x : BitVec 128) (y : BitVec 128) (c0__0 : Int) (_ : BitVec 128) (c1_ : (BitVec 128 → BitVec 128 → Option (BitVec 128))) : Option (Int × (BitVec 128)) := (c1_ x y).bind fun r6 => (vec_lowest_m N (c0__0) (r6)).bind fun r8 => some (r8.1, r8.2)
set_option maxRecDepth 100000 in
set_option maxHeartbeats 400000 in
theorem vec_bitwise_1_g (N : Nat) (x : BitVec 128) (y : BitVec 128) (c0__0 : Int) (c0__1 : BitVec 128) (c1_ : (BitVec 128 → BitVec 128 → Option (BitVec 128))) (r : Int × (BitVec 128)) (hM : vec_bitwise_1_m N x y c0__0 c0__1 c1_ = some r) (ro : Addr → Option Value) (b0_ : Nat) (hb0_ : Blk ro b0_ [Value.int .i64 (c0__0), U (hi (c0__1)), U (lo (c0__1))]) (fc1_ : FuncId) (cc1_ : List Value) (cbc1_ : callB Tryd.prog fc1_ = true) (hc1_ : ∀ (y0 : BitVec 128) (y1 : BitVec 128) (q : BitVec 128), c1_ y0 y1 = some q → Does Tryd.prog fc1_ ([Value.agg #[U (hi (y0)), U (lo (y0))], Value.agg #[U (hi (y1)), U (lo (y1))]] ++ cc1_).toArray ro [] (pV (Value.agg #[U (hi (q)), U (lo (q))]))) (b1_ : Nat) (hb1_ : Blk ro b1_ [Value.func (.func fc1_) #[] cc1_.toArray]) : Does Tryd.prog 84 #[Value.agg #[U (hi (x)), U (lo (x))], Value.agg #[U (hi (y)), U (lo (y))], Value.pointer (some ⟨b0_, 0, none⟩), Value.pointer (some ⟨b1_, 0, none⟩)] ro [] (pV (Value.agg #[Value.int .i64 (r.1), U (hi (r.2)), U (lo (r.2))])) := by
  unfold vec_bitwise_1_m at hM
  refine does_of_A follows Tryd.func84 rfl 14 rfl (upd (upd (upd (upd (fun _ => undef) 3 (Value.pointer (some ⟨b1_, 0, none⟩))) 2 (Value.pointer (some ⟨b0_, 0, none⟩))) 1 (Value.agg #[U (hi (y)), U (lo (y))])) 0 (Value.agg #[U (hi (x)), U (lo (x))])) (by funext k; match k with | 0 => rfl | 1 => rfl | 2 => rfl | 3 => rfl | k + 4 => rfl) (fun base0_ => ?_)
  refine A_seq fun K1 hK1 => ?_
  refine A_reg ?_
  refine r_a (31, #[U (hi (x)), U (lo (x))]) rfl rfl rfl (fun b2 => ?_) (.inr rfl)
  refine r_a (31, #[U (hi (y)), U (lo (y))]) rfl rfl rfl (fun b3 => ?_) (.inr rfl)
  refine r_a (24, #[Value.int .i64 (0), U (0#64), U (0#64)]) rfl rfl rfl (fun b4 => ?_) (.inr rfl)
  refine lx_nil ?_
  refine hK1 _ _ ?_; try clear hK1 K1
  refine A_seq fun K5 hK5 => ?_
  refine A_drawR [(some 12, false)] (conG Tryd.prog [(12, fun v_ L_ U_ => ∀ u0_, c1_ x y = some u0_ → (pV (Value.agg #[U (hi (u0_)), U (lo (u0_))])) v_ L_ U_)]) [] (by decide +kernel) (fun hn => sep_nil) ?_
  refine r_v (Value.pointer (some ⟨b0_, 0, none⟩)) rfl rfl rfl rfl ?_
  refine r_lb (Value.int .i64 (c0__0)) (vs := [Value.int .i64 (c0__0), U (hi (c0__1)), U (lo (c0__1))]) (o := 0) rfl rfl (blk_ro hb0_) rfl ?_
  refine r_lb (Value.func (.func fc1_) #[] cc1_.toArray) (vs := [Value.func (.func fc1_) #[] cc1_.toArray]) (o := 0) rfl rfl (blk_ro hb1_) rfl ?_
  refine r_l (Value.agg #[U (hi (x)), U (lo (x))]) 2 _ _ _ _ rfl rfl rfl rfl rfl ?_
  refine r_l (Value.agg #[U (hi (y)), U (lo (y))]) 1 _ _ _ _ rfl rfl rfl rfl rfl ?_
  replace hM := bind_sm hM; obtain ⟨r6, hr7, hM⟩ := hM
  refine r_gv (Value.agg #[U (hi (r6)), U (lo (r6))]) fc1_ _ rfl rfl rfl (ev_callV rfl cbc1_ rfl) (fun own_ nw_ hs_ => (hc1_ x y _ hr7).mono hs_.ro_cell) (fun _ _ v_ L_ U_ => ⟨fun h_ => h_ _ hr7, fun h_ => by intro _ e_; cases Option.some.inj (e_.symm.trans hr7); exact h_⟩) ?_
  replace hM := bind_sm hM; obtain ⟨r8, hr9, hM⟩ := hM
  refine r_c (Value.agg #[Value.int .i64 (r8.1), U (hi (r8.2)), U (lo (r8.2))]) rfl _ _ (ev_callF rfl call_52 rfl) (vec_lowest_g N (c0__0) (r6) _ hr9) ?_
  refine r_s [(b4, 24, #[Value.int .i64 (r8.1), U (hi (r8.2)), U (lo (r8.2))]), (b3, 31, #[U (hi (y)), U (lo (y))]), (b2, 31, #[U (hi (x)), U (lo (x))])] 0 _ _ _ (#[Value.int .i64 (0), U (0#64), U (0#64)]) (#[Value.int .i64 (r8.1), U (hi (r8.2)), U (lo (r8.2))]) (#[Value.int .i64 (r8.1), U (hi (r8.2)), U (lo (r8.2))]) rfl rfl rfl rfl (.of rfl rfl) rfl rfl ?_
  refine lx_nil ?_
  refine hK5 _ _ ?_; try clear hK5 K5
  obtain rfl := Option.some.inj hM
  refine A_ret (fun hn => endsV (v0 := Value.agg #[Value.int .i64 (r8.1), U (hi (r8.2)), U (lo (r8.2))]) rfl (res1 (res_cell hn 0 rfl rfl rfl)))
def vec_bitwise_m (N : Nat) (a_0 : Int) (a_1 : BitVec 128) (b_0 : Int) (b_1 : BitVec 128) (do' : (BitVec 128 → BitVec 128 → Option (BitVec 128))) : Option (Int × (BitVec 128) × Int) := (vec_pair_m N a_0 a_1 b_0 b_1 (fun (z0_ : BitVec 128) (z1_ : BitVec 128) => vec_bitwise_1_m N z0_ z1_ a_0 a_1 do')).bind fun r7 => some (r7.1, r7.2.1, r7.2.2)
set_option maxRecDepth 100000 in
set_option maxHeartbeats 400000 in
theorem vec_bitwise_g (N : Nat) (a_0 : Int) (a_1 : BitVec 128) (b_0 : Int) (b_1 : BitVec 128) (do' : (BitVec 128 → BitVec 128 → Option (BitVec 128))) (r : Int × (BitVec 128) × Int) (hM : vec_bitwise_m N a_0 a_1 b_0 b_1 do' = some r) (ro : Addr → Option Value) (fdo : FuncId) (cdo : List Value) (cbdo : callB Tryd.prog fdo = true) (hdo : ∀ (y0 : BitVec 128) (y1 : BitVec 128) (q : BitVec 128), do' y0 y1 = some q → Does Tryd.prog fdo ([Value.agg #[U (hi (y0)), U (lo (y0))], Value.agg #[U (hi (y1)), U (lo (y1))]] ++ cdo).toArray ro [] (pV (Value.agg #[U (hi (q)), U (lo (q))]))) : Does Tryd.prog 63 #[Value.agg #[Value.int .i64 (a_0), U (hi (a_1)), U (lo (a_1))], Value.agg #[Value.int .i64 (b_0), U (hi (b_1)), U (lo (b_1))], Value.func (.func fdo) #[] cdo.toArray] ro [] (pV (Value.tuple #[Value.agg #[Value.int .i64 (r.1), U (hi (r.2.1)), U (lo (r.2.1))], Value.int .i64 (r.2.2)])) := by
  unfold vec_bitwise_m at hM
  refine does_of_A follows Tryd.func63 rfl 14 rfl (upd (upd (upd (fun _ => undef) 2 (Value.func (.func fdo) #[] cdo.toArray)) 1 (Value.agg #[Value.int .i64 (b_0), U (hi (b_1)), U (lo (b_1))])) 0 (Value.agg #[Value.int .i64 (a_0), U (hi (a_1)), U (lo (a_1))])) (by funext k; match k with | 0 => rfl | 1 => rfl | 2 => rfl | k + 3 => rfl) (fun base0_ => ?_)
  refine A_seq fun K1 hK1 => ?_
  refine A_reg ?_
  refine r_a (24, #[Value.int .i64 (a_0), U (hi (a_1)), U (lo (a_1))]) rfl rfl rfl (fun b2 => ?_) (.inr rfl)
  refine r_a (24, #[Value.int .i64 (b_0), U (hi (b_1)), U (lo (b_1))]) rfl rfl rfl (fun b3 => ?_) (.inr rfl)
  refine r_a (75, #[Value.func (.func fdo) #[] cdo.toArray]) rfl rfl rfl (fun b4 => ?_) (.inr rfl)
  refine r_a (24, #[Value.int .i64 (0), U (0#64), U (0#64)]) rfl rfl rfl (fun b5 => ?_) (.inr rfl)
  refine r_v (Value.int .i64 (0)) rfl rfl rfl rfl ?_
  refine lx_nil ?_
  refine hK1 _ _ ?_; try clear hK1 K1
  refine A_seq fun K6 hK6 => ?_
  refine A_regC [(some 11, false)] (conG Tryd.prog [(11, fun v_ L_ U_ => ∀ u0_, vec_pair_m N a_0 a_1 b_0 b_1 (fun (z0_ : BitVec 128) (z1_ : BitVec 128) => vec_bitwise_1_m N z0_ z1_ a_0 a_1 do') = some u0_ → (pV (Value.tuple #[Value.agg #[Value.int .i64 (u0_.1), U (hi (u0_.2.1)), U (lo (u0_.2.1))], Value.int .i64 (u0_.2.2)])) v_ L_ U_)]) ?_
  refine r_l (Value.agg #[Value.int .i64 (a_0), U (hi (a_1)), U (lo (a_1))]) 3 _ _ _ _ rfl rfl rfl rfl rfl ?_
  refine r_l (Value.agg #[Value.int .i64 (b_0), U (hi (b_1)), U (lo (b_1))]) 2 _ _ _ _ rfl rfl rfl rfl rfl ?_
  refine r_v (Value.func (.func 84) #[] #[Value.pointer (some ⟨b2, 0, none⟩), Value.pointer (some ⟨b4, 0, none⟩)]) rfl rfl rfl (ev_mkF rfl) ?_
  replace hM := bind_sm hM; obtain ⟨r7, hr8, hM⟩ := hM
  refine r_gv (Value.tuple #[Value.agg #[Value.int .i64 (r7.1), U (hi (r7.2.1)), U (lo (r7.2.1))], Value.int .i64 (r7.2.2)]) 55 _ rfl rfl rfl (ev_callF rfl call_55 rfl) (fun own_ nw_ hs_ => vec_pair_g N a_0 a_1 b_0 b_1 (fun (z0_ : BitVec 128) (z1_ : BitVec 128) => vec_bitwise_1_m N z0_ z1_ a_0 a_1 do') _ hr8 hs_.view 84 [Value.pointer (some ⟨b2, 0, none⟩), Value.pointer (some ⟨b4, 0, none⟩)] call_84 (fun z0_ z1_ q_ h_ => vec_bitwise_1_g N z0_ z1_ a_0 a_1 do' q_ h_ hs_.view b2 (blk_own 3 rfl rfl own_ nw_ hs_) fdo cdo cbdo (fun z0_ z1_ q_ h_ => (hdo z0_ z1_ q_ h_).mono hs_.ro_cell) b4 (blk_own 1 rfl rfl own_ nw_ hs_))) (fun _ _ v_ L_ U_ => ⟨fun h_ => h_ _ hr8, fun h_ => by intro _ e_; cases Option.some.inj (e_.symm.trans hr8); exact h_⟩) ?_
  refine r_v (Value.agg #[Value.int .i64 (r7.1), U (hi (r7.2.1)), U (lo (r7.2.1))]) rfl rfl rfl rfl ?_
  refine r_v (Value.int .i64 (r7.2.2)) rfl rfl rfl rfl ?_
  refine r_s [(b5, 24, #[Value.int .i64 (r7.1), U (hi (r7.2.1)), U (lo (r7.2.1))]), (b4, 75, #[Value.func (.func fdo) #[] cdo.toArray]), (b3, 24, #[Value.int .i64 (b_0), U (hi (b_1)), U (lo (b_1))]), (b2, 24, #[Value.int .i64 (a_0), U (hi (a_1)), U (lo (a_1))])] 0 _ _ _ (#[Value.int .i64 (0), U (0#64), U (0#64)]) (#[Value.int .i64 (r7.1), U (hi (r7.2.1)), U (lo (r7.2.1))]) (#[Value.int .i64 (r7.1), U (hi (r7.2.1)), U (lo (r7.2.1))]) rfl rfl rfl rfl (.of rfl rfl) rfl rfl ?_
  refine r_v (Value.int .i64 (r7.2.2)) rfl rfl rfl rfl ?_
  refine lx_nil ?_
  refine hK6 _ _ ?_; try clear hK6 K6
  obtain rfl := Option.some.inj hM
  refine A_ret (fun hn => endsV (v0 := Value.tuple #[Value.agg #[Value.int .i64 (r7.1), U (hi (r7.2.1)), U (lo (r7.2.1))], Value.int .i64 (r7.2.2)]) rfl (res2 (res_cell hn 0 rfl rfl rfl) rfl))
def vec_And_m (N : Nat) (a_0 : Int) (a_1 : BitVec 128) (b_0 : Int) (b_1 : BitVec 128) : Option (Int × (BitVec 128) × Int) := (vec_bitwise_m N a_0 a_1 b_0 b_1 (fun (z0_ : BitVec 128) (z1_ : BitVec 128) => some ((z0_) &&& (z1_)))).bind fun r6 => some (r6.1, r6.2.1, r6.2.2)
set_option maxRecDepth 100000 in
set_option maxHeartbeats 400000 in
theorem vec_And_g (N : Nat) (a_0 : Int) (a_1 : BitVec 128) (b_0 : Int) (b_1 : BitVec 128) (r : Int × (BitVec 128) × Int) (hM : vec_And_m N a_0 a_1 b_0 b_1 = some r) : Gives Tryd.prog 23 #[Value.agg #[Value.int .i64 (a_0), U (hi (a_1)), U (lo (a_1))], Value.agg #[Value.int .i64 (b_0), U (hi (b_1)), U (lo (b_1))]] (Value.tuple #[Value.agg #[Value.int .i64 (r.1), U (hi (r.2.1)), U (lo (r.2.1))], Value.int .i64 (r.2.2)]) := by
  unfold vec_And_m at hM
  refine gives_of_A follows Tryd.func23 rfl 11 rfl (upd (upd (fun _ => undef) 1 (Value.agg #[Value.int .i64 (b_0), U (hi (b_1)), U (lo (b_1))])) 0 (Value.agg #[Value.int .i64 (a_0), U (hi (a_1)), U (lo (a_1))])) (by funext k; match k with | 0 => rfl | 1 => rfl | k + 2 => rfl) (fun base0_ => ?_)
  refine A_seq fun K1 hK1 => ?_
  refine A_reg ?_
  refine r_a (24, #[Value.int .i64 (a_0), U (hi (a_1)), U (lo (a_1))]) rfl rfl rfl (fun b2 => ?_) (.inr rfl)
  refine r_a (24, #[Value.int .i64 (b_0), U (hi (b_1)), U (lo (b_1))]) rfl rfl rfl (fun b3 => ?_) (.inr rfl)
  refine r_a (24, #[Value.int .i64 (0), U (0#64), U (0#64)]) rfl rfl rfl (fun b4 => ?_) (.inr rfl)
  refine r_v (Value.int .i64 (0)) rfl rfl rfl rfl ?_
  refine lx_nil ?_
  refine hK1 _ _ ?_; try clear hK1 K1
  refine A_seq fun K5 hK5 => ?_
  refine A_regC [(some 8, false)] (conG Tryd.prog [(8, fun v_ L_ U_ => ∀ u0_, vec_bitwise_m N a_0 a_1 b_0 b_1 (fun (z0_ : BitVec 128) (z1_ : BitVec 128) => some ((z0_) &&& (z1_))) = some u0_ → (pV (Value.tuple #[Value.agg #[Value.int .i64 (u0_.1), U (hi (u0_.2.1)), U (lo (u0_.2.1))], Value.int .i64 (u0_.2.2)])) v_ L_ U_)]) ?_
  refine r_l (Value.agg #[Value.int .i64 (a_0), U (hi (a_1)), U (lo (a_1))]) 2 _ _ _ _ rfl rfl rfl rfl rfl ?_
  refine r_l (Value.agg #[Value.int .i64 (b_0), U (hi (b_1)), U (lo (b_1))]) 1 _ _ _ _ rfl rfl rfl rfl rfl ?_
  replace hM := bind_sm hM; obtain ⟨r6, hr7, hM⟩ := hM
  refine r_gv (Value.tuple #[Value.agg #[Value.int .i64 (r6.1), U (hi (r6.2.1)), U (lo (r6.2.1))], Value.int .i64 (r6.2.2)]) 63 _ rfl rfl rfl (ev_callF rfl call_63 rfl) (fun own_ nw_ hs_ => vec_bitwise_g N a_0 a_1 b_0 b_1 (fun (z0_ : BitVec 128) (z1_ : BitVec 128) => some ((z0_) &&& (z1_))) _ hr7 hs_.view 64 [] call_64 (fun z0_ z1_ q_ h_ => by obtain rfl := Option.some.inj h_; exact Gives.doesV (and_g (z0_) (z1_)) _)) (fun _ _ v_ L_ U_ => ⟨fun h_ => h_ _ hr7, fun h_ => by intro _ e_; cases Option.some.inj (e_.symm.trans hr7); exact h_⟩) ?_
  refine r_v (Value.agg #[Value.int .i64 (r6.1), U (hi (r6.2.1)), U (lo (r6.2.1))]) rfl rfl rfl rfl ?_
  refine r_v (Value.int .i64 (r6.2.2)) rfl rfl rfl rfl ?_
  refine r_s [(b4, 24, #[Value.int .i64 (r6.1), U (hi (r6.2.1)), U (lo (r6.2.1))]), (b3, 24, #[Value.int .i64 (b_0), U (hi (b_1)), U (lo (b_1))]), (b2, 24, #[Value.int .i64 (a_0), U (hi (a_1)), U (lo (a_1))])] 0 _ _ _ (#[Value.int .i64 (0), U (0#64), U (0#64)]) (#[Value.int .i64 (r6.1), U (hi (r6.2.1)), U (lo (r6.2.1))]) (#[Value.int .i64 (r6.1), U (hi (r6.2.1)), U (lo (r6.2.1))]) rfl rfl rfl rfl (.of rfl rfl) rfl rfl ?_
  refine r_v (Value.int .i64 (r6.2.2)) rfl rfl rfl rfl ?_
  refine lx_nil ?_
  refine hK5 _ _ ?_; try clear hK5 K5
  obtain rfl := Option.some.inj hM
  refine A_ret (fun hn => ends_eq (v0 := Value.tuple #[Value.agg #[Value.int .i64 (r6.1), U (hi (r6.2.1)), U (lo (r6.2.1))], Value.int .i64 (r6.2.2)]) rfl (res2 (res_cell hn 0 rfl rfl rfl) rfl))
def vec_Or_m (N : Nat) (a_0 : Int) (a_1 : BitVec 128) (b_0 : Int) (b_1 : BitVec 128) : Option (Int × (BitVec 128) × Int) := (vec_bitwise_m N a_0 a_1 b_0 b_1 (fun (z0_ : BitVec 128) (z1_ : BitVec 128) => some ((z0_) ||| (z1_)))).bind fun r6 => some (r6.1, r6.2.1, r6.2.2)
set_option maxRecDepth 100000 in
set_option maxHeartbeats 400000 in
theorem vec_Or_g (N : Nat) (a_0 : Int) (a_1 : BitVec 128) (b_0 : Int) (b_1 : BitVec 128) (r : Int × (BitVec 128) × Int) (hM : vec_Or_m N a_0 a_1 b_0 b_1 = some r) : Gives Tryd.prog 24 #[Value.agg #[Value.int .i64 (a_0), U (hi (a_1)), U (lo (a_1))], Value.agg #[Value.int .i64 (b_0), U (hi (b_1)), U (lo (b_1))]] (Value.tuple #[Value.agg #[Value.int .i64 (r.1), U (hi (r.2.1)), U (lo (r.2.1))], Value.int .i64 (r.2.2)]) := by
  unfold vec_Or_m at hM
  refine gives_of_A follows Tryd.func24 rfl 11 rfl (upd (upd (fun _ => undef) 1 (Value.agg #[Value.int .i64 (b_0), U (hi (b_1)), U (lo (b_1))])) 0 (Value.agg #[Value.int .i64 (a_0), U (hi (a_1)), U (lo (a_1))])) (by funext k; match k with | 0 => rfl | 1 => rfl | k + 2 => rfl) (fun base0_ => ?_)
  refine A_seq fun K1 hK1 => ?_
  refine A_reg ?_
  refine r_a (24, #[Value.int .i64 (a_0), U (hi (a_1)), U (lo (a_1))]) rfl rfl rfl (fun b2 => ?_) (.inr rfl)
  refine r_a (24, #[Value.int .i64 (b_0), U (hi (b_1)), U (lo (b_1))]) rfl rfl rfl (fun b3 => ?_) (.inr rfl)
  refine r_a (24, #[Value.int .i64 (0), U (0#64), U (0#64)]) rfl rfl rfl (fun b4 => ?_) (.inr rfl)
  refine r_v (Value.int .i64 (0)) rfl rfl rfl rfl ?_
  refine lx_nil ?_
  refine hK1 _ _ ?_; try clear hK1 K1
  refine A_seq fun K5 hK5 => ?_
  refine A_regC [(some 8, false)] (conG Tryd.prog [(8, fun v_ L_ U_ => ∀ u0_, vec_bitwise_m N a_0 a_1 b_0 b_1 (fun (z0_ : BitVec 128) (z1_ : BitVec 128) => some ((z0_) ||| (z1_))) = some u0_ → (pV (Value.tuple #[Value.agg #[Value.int .i64 (u0_.1), U (hi (u0_.2.1)), U (lo (u0_.2.1))], Value.int .i64 (u0_.2.2)])) v_ L_ U_)]) ?_
  refine r_l (Value.agg #[Value.int .i64 (a_0), U (hi (a_1)), U (lo (a_1))]) 2 _ _ _ _ rfl rfl rfl rfl rfl ?_
  refine r_l (Value.agg #[Value.int .i64 (b_0), U (hi (b_1)), U (lo (b_1))]) 1 _ _ _ _ rfl rfl rfl rfl rfl ?_
  replace hM := bind_sm hM; obtain ⟨r6, hr7, hM⟩ := hM
  refine r_gv (Value.tuple #[Value.agg #[Value.int .i64 (r6.1), U (hi (r6.2.1)), U (lo (r6.2.1))], Value.int .i64 (r6.2.2)]) 63 _ rfl rfl rfl (ev_callF rfl call_63 rfl) (fun own_ nw_ hs_ => vec_bitwise_g N a_0 a_1 b_0 b_1 (fun (z0_ : BitVec 128) (z1_ : BitVec 128) => some ((z0_) ||| (z1_))) _ hr7 hs_.view 65 [] call_65 (fun z0_ z1_ q_ h_ => by obtain rfl := Option.some.inj h_; exact Gives.doesV (or_g (z0_) (z1_)) _)) (fun _ _ v_ L_ U_ => ⟨fun h_ => h_ _ hr7, fun h_ => by intro _ e_; cases Option.some.inj (e_.symm.trans hr7); exact h_⟩) ?_
  refine r_v (Value.agg #[Value.int .i64 (r6.1), U (hi (r6.2.1)), U (lo (r6.2.1))]) rfl rfl rfl rfl ?_
  refine r_v (Value.int .i64 (r6.2.2)) rfl rfl rfl rfl ?_
  refine r_s [(b4, 24, #[Value.int .i64 (r6.1), U (hi (r6.2.1)), U (lo (r6.2.1))]), (b3, 24, #[Value.int .i64 (b_0), U (hi (b_1)), U (lo (b_1))]), (b2, 24, #[Value.int .i64 (a_0), U (hi (a_1)), U (lo (a_1))])] 0 _ _ _ (#[Value.int .i64 (0), U (0#64), U (0#64)]) (#[Value.int .i64 (r6.1), U (hi (r6.2.1)), U (lo (r6.2.1))]) (#[Value.int .i64 (r6.1), U (hi (r6.2.1)), U (lo (r6.2.1))]) rfl rfl rfl rfl (.of rfl rfl) rfl rfl ?_
  refine r_v (Value.int .i64 (r6.2.2)) rfl rfl rfl rfl ?_
  refine lx_nil ?_
  refine hK5 _ _ ?_; try clear hK5 K5
  obtain rfl := Option.some.inj hM
  refine A_ret (fun hn => ends_eq (v0 := Value.tuple #[Value.agg #[Value.int .i64 (r6.1), U (hi (r6.2.1)), U (lo (r6.2.1))], Value.int .i64 (r6.2.2)]) rfl (res2 (res_cell hn 0 rfl rfl rfl) rfl))
def vec_Xor_m (N : Nat) (a_0 : Int) (a_1 : BitVec 128) (b_0 : Int) (b_1 : BitVec 128) : Option (Int × (BitVec 128) × Int) := (vec_bitwise_m N a_0 a_1 b_0 b_1 (fun (z0_ : BitVec 128) (z1_ : BitVec 128) => some ((z0_) ^^^ (z1_)))).bind fun r6 => some (r6.1, r6.2.1, r6.2.2)
set_option maxRecDepth 100000 in
set_option maxHeartbeats 400000 in
theorem vec_Xor_g (N : Nat) (a_0 : Int) (a_1 : BitVec 128) (b_0 : Int) (b_1 : BitVec 128) (r : Int × (BitVec 128) × Int) (hM : vec_Xor_m N a_0 a_1 b_0 b_1 = some r) : Gives Tryd.prog 25 #[Value.agg #[Value.int .i64 (a_0), U (hi (a_1)), U (lo (a_1))], Value.agg #[Value.int .i64 (b_0), U (hi (b_1)), U (lo (b_1))]] (Value.tuple #[Value.agg #[Value.int .i64 (r.1), U (hi (r.2.1)), U (lo (r.2.1))], Value.int .i64 (r.2.2)]) := by
  unfold vec_Xor_m at hM
  refine gives_of_A follows Tryd.func25 rfl 11 rfl (upd (upd (fun _ => undef) 1 (Value.agg #[Value.int .i64 (b_0), U (hi (b_1)), U (lo (b_1))])) 0 (Value.agg #[Value.int .i64 (a_0), U (hi (a_1)), U (lo (a_1))])) (by funext k; match k with | 0 => rfl | 1 => rfl | k + 2 => rfl) (fun base0_ => ?_)
  refine A_seq fun K1 hK1 => ?_
  refine A_reg ?_
  refine r_a (24, #[Value.int .i64 (a_0), U (hi (a_1)), U (lo (a_1))]) rfl rfl rfl (fun b2 => ?_) (.inr rfl)
  refine r_a (24, #[Value.int .i64 (b_0), U (hi (b_1)), U (lo (b_1))]) rfl rfl rfl (fun b3 => ?_) (.inr rfl)
  refine r_a (24, #[Value.int .i64 (0), U (0#64), U (0#64)]) rfl rfl rfl (fun b4 => ?_) (.inr rfl)
  refine r_v (Value.int .i64 (0)) rfl rfl rfl rfl ?_
  refine lx_nil ?_
  refine hK1 _ _ ?_; try clear hK1 K1
  refine A_seq fun K5 hK5 => ?_
  refine A_regC [(some 8, false)] (conG Tryd.prog [(8, fun v_ L_ U_ => ∀ u0_, vec_bitwise_m N a_0 a_1 b_0 b_1 (fun (z0_ : BitVec 128) (z1_ : BitVec 128) => some ((z0_) ^^^ (z1_))) = some u0_ → (pV (Value.tuple #[Value.agg #[Value.int .i64 (u0_.1), U (hi (u0_.2.1)), U (lo (u0_.2.1))], Value.int .i64 (u0_.2.2)])) v_ L_ U_)]) ?_
  refine r_l (Value.agg #[Value.int .i64 (a_0), U (hi (a_1)), U (lo (a_1))]) 2 _ _ _ _ rfl rfl rfl rfl rfl ?_
  refine r_l (Value.agg #[Value.int .i64 (b_0), U (hi (b_1)), U (lo (b_1))]) 1 _ _ _ _ rfl rfl rfl rfl rfl ?_
  replace hM := bind_sm hM; obtain ⟨r6, hr7, hM⟩ := hM
  refine r_gv (Value.tuple #[Value.agg #[Value.int .i64 (r6.1), U (hi (r6.2.1)), U (lo (r6.2.1))], Value.int .i64 (r6.2.2)]) 63 _ rfl rfl rfl (ev_callF rfl call_63 rfl) (fun own_ nw_ hs_ => vec_bitwise_g N a_0 a_1 b_0 b_1 (fun (z0_ : BitVec 128) (z1_ : BitVec 128) => some ((z0_) ^^^ (z1_))) _ hr7 hs_.view 66 [] call_66 (fun z0_ z1_ q_ h_ => by obtain rfl := Option.some.inj h_; exact Gives.doesV (xor_g (z0_) (z1_)) _)) (fun _ _ v_ L_ U_ => ⟨fun h_ => h_ _ hr7, fun h_ => by intro _ e_; cases Option.some.inj (e_.symm.trans hr7); exact h_⟩) ?_
  refine r_v (Value.agg #[Value.int .i64 (r6.1), U (hi (r6.2.1)), U (lo (r6.2.1))]) rfl rfl rfl rfl ?_
  refine r_v (Value.int .i64 (r6.2.2)) rfl rfl rfl rfl ?_
  refine r_s [(b4, 24, #[Value.int .i64 (r6.1), U (hi (r6.2.1)), U (lo (r6.2.1))]), (b3, 24, #[Value.int .i64 (b_0), U (hi (b_1)), U (lo (b_1))]), (b2, 24, #[Value.int .i64 (a_0), U (hi (a_1)), U (lo (a_1))])] 0 _ _ _ (#[Value.int .i64 (0), U (0#64), U (0#64)]) (#[Value.int .i64 (r6.1), U (hi (r6.2.1)), U (lo (r6.2.1))]) (#[Value.int .i64 (r6.1), U (hi (r6.2.1)), U (lo (r6.2.1))]) rfl rfl rfl rfl (.of rfl rfl) rfl rfl ?_
  refine r_v (Value.int .i64 (r6.2.2)) rfl rfl rfl rfl ?_
  refine lx_nil ?_
  refine hK5 _ _ ?_; try clear hK5 K5
  obtain rfl := Option.some.inj hM
  refine A_ret (fun hn => ends_eq (v0 := Value.tuple #[Value.agg #[Value.int .i64 (r6.1), U (hi (r6.2.1)), U (lo (r6.2.1))], Value.int .i64 (r6.2.2)]) rfl (res2 (res_cell hn 0 rfl rfl rfl) rfl))
def vec_Eq_1_m (N : Nat) (x : BitVec 128) (y : BitVec 128) : Option (Int × (BitVec 128)) := (vec_Truth_m N ((x) == (y))).bind fun r6 => some (r6.1, r6.2)
set_option maxRecDepth 100000 in
set_option maxHeartbeats 400000 in
theorem vec_Eq_1_g (N : Nat) (x : BitVec 128) (y : BitVec 128) (r : Int × (BitVec 128)) (hM : vec_Eq_1_m N x y = some r) : Gives Tryd.prog 67 #[Value.agg #[U (hi (x)), U (lo (x))], Value.agg #[U (hi (y)), U (lo (y))]] (Value.agg #[Value.int .i64 (r.1), U (hi (r.2)), U (lo (r.2))]) := by
  unfold vec_Eq_1_m at hM
  refine gives_of_A follows Tryd.func67 rfl 9 rfl (upd (upd (fun _ => undef) 1 (Value.agg #[U (hi (y)), U (lo (y))])) 0 (Value.agg #[U (hi (x)), U (lo (x))])) (by funext k; match k with | 0 => rfl | 1 => rfl | k + 2 => rfl) (fun base0_ => ?_)
  refine A_seq fun K1 hK1 => ?_
  refine A_reg ?_
  refine r_a (31, #[U (hi (x)), U (lo (x))]) rfl rfl rfl (fun b2 => ?_) (.inr rfl)
  refine r_a (31, #[U (hi (y)), U (lo (y))]) rfl rfl rfl (fun b3 => ?_) (.inr rfl)
  refine r_a (24, #[Value.int .i64 (0), U (0#64), U (0#64)]) rfl rfl rfl (fun b4 => ?_) (.inr rfl)
  refine lx_nil ?_
  refine hK1 _ _ ?_; try clear hK1 K1
  refine A_seq fun K5 hK5 => ?_
  refine A_reg ?_
  refine r_l (Value.agg #[U (hi (x)), U (lo (x))]) 2 _ _ _ _ rfl rfl rfl rfl rfl ?_
  refine r_l (Value.agg #[U (hi (y)), U (lo (y))]) 1 _ _ _ _ rfl rfl rfl rfl rfl ?_
  refine r_v (Value.bool ((x) == (y))) rfl rfl rfl (ev_binEq rfl rfl eg_31 (eqword_31 (x) (y))) ?_
  replace hM := bind_sm hM; obtain ⟨r6, hr7, hM⟩ := hM
  refine r_c (Value.agg #[Value.int .i64 (r6.1), U (hi (r6.2)), U (lo (r6.2))]) rfl _ _ (ev_callF rfl call_15 rfl) (vec_Truth_g N ((x) == (y)) _ hr7) ?_
  refine r_s [(b4, 24, #[Value.int .i64 (r6.1), U (hi (r6.2)), U (lo (r6.2))]), (b3, 31, #[U (hi (y)), U (lo (y))]), (b2, 31, #[U (hi (x)), U (lo (x))])] 0 _ _ _ (#[Value.int .i64 (0), U (0#64), U (0#64)]) (#[Value.int .i64 (r6.1), U (hi (r6.2)), U (lo (r6.2))]) (#[Value.int .i64 (r6.1), U (hi (r6.2)), U (lo (r6.2))]) rfl rfl rfl rfl (.of rfl rfl) rfl rfl ?_
  refine lx_nil ?_
  refine hK5 _ _ ?_; try clear hK5 K5
  obtain rfl := Option.some.inj hM
  refine A_ret (fun hn => ends_eq (v0 := Value.agg #[Value.int .i64 (r6.1), U (hi (r6.2)), U (lo (r6.2))]) rfl (res1 (res_cell hn 0 rfl rfl rfl)))
def vec_Eq_m (N : Nat) (a_0 : Int) (a_1 : BitVec 128) (b_0 : Int) (b_1 : BitVec 128) : Option (Int × (BitVec 128) × Int) := (vec_pair_m N a_0 a_1 b_0 b_1 (fun (z0_ : BitVec 128) (z1_ : BitVec 128) => vec_Eq_1_m N z0_ z1_)).bind fun r6 => some (r6.1, r6.2.1, r6.2.2)
set_option maxRecDepth 100000 in
set_option maxHeartbeats 400000 in
theorem vec_Eq_g (N : Nat) (a_0 : Int) (a_1 : BitVec 128) (b_0 : Int) (b_1 : BitVec 128) (r : Int × (BitVec 128) × Int) (hM : vec_Eq_m N a_0 a_1 b_0 b_1 = some r) : Gives Tryd.prog 26 #[Value.agg #[Value.int .i64 (a_0), U (hi (a_1)), U (lo (a_1))], Value.agg #[Value.int .i64 (b_0), U (hi (b_1)), U (lo (b_1))]] (Value.tuple #[Value.agg #[Value.int .i64 (r.1), U (hi (r.2.1)), U (lo (r.2.1))], Value.int .i64 (r.2.2)]) := by
  unfold vec_Eq_m at hM
  refine gives_of_A follows Tryd.func26 rfl 11 rfl (upd (upd (fun _ => undef) 1 (Value.agg #[Value.int .i64 (b_0), U (hi (b_1)), U (lo (b_1))])) 0 (Value.agg #[Value.int .i64 (a_0), U (hi (a_1)), U (lo (a_1))])) (by funext k; match k with | 0 => rfl | 1 => rfl | k + 2 => rfl) (fun base0_ => ?_)
  refine A_seq fun K1 hK1 => ?_
  refine A_reg ?_
  refine r_a (24, #[Value.int .i64 (a_0), U (hi (a_1)), U (lo (a_1))]) rfl rfl rfl (fun b2 => ?_) (.inr rfl)
  refine r_a (24, #[Value.int .i64 (b_0), U (hi (b_1)), U (lo (b_1))]) rfl rfl rfl (fun b3 => ?_) (.inr rfl)
  refine r_a (24, #[Value.int .i64 (0), U (0#64), U (0#64)]) rfl rfl rfl (fun b4 => ?_) (.inr rfl)
  refine r_v (Value.int .i64 (0)) rfl rfl rfl rfl ?_
  refine lx_nil ?_
  refine hK1 _ _ ?_; try clear hK1 K1
  refine A_seq fun K5 hK5 => ?_
  refine A_regC [(some 8, false)] (conG Tryd.prog [(8, fun v_ L_ U_ => ∀ u0_, vec_pair_m N a_0 a_1 b_0 b_1 (fun (z0_ : BitVec 128) (z1_ : BitVec 128) => vec_Eq_1_m N z0_ z1_) = some u0_ → (pV (Value.tuple #[Value.agg #[Value.int .i64 (u0_.1), U (hi (u0_.2.1)), U (lo (u0_.2.1))], Value.int .i64 (u0_.2.2)])) v_ L_ U_)]) ?_
  refine r_l (Value.agg #[Value.int .i64 (a_0), U (hi (a_1)), U (lo (a_1))]) 2 _ _ _ _ rfl rfl rfl rfl rfl ?_
  refine r_l (Value.agg #[Value.int .i64 (b_0), U (hi (b_1)), U (lo (b_1))]) 1 _ _ _ _ rfl rfl rfl rfl rfl ?_
  replace hM := bind_sm hM; obtain ⟨r6, hr7, hM⟩ := hM
  refine r_gv (Value.tuple #[Value.agg #[Value.int .i64 (r6.1), U (hi (r6.2.1)), U (lo (r6.2.1))], Value.int .i64 (r6.2.2)]) 55 _ rfl rfl rfl (ev_callF rfl call_55 rfl) (fun own_ nw_ hs_ => vec_pair_g N a_0 a_1 b_0 b_1 (fun (z0_ : BitVec 128) (z1_ : BitVec 128) => vec_Eq_1_m N z0_ z1_) _ hr7 hs_.view 67 [] call_67 (fun z0_ z1_ q_ h_ => Gives.doesV (vec_Eq_1_g N z0_ z1_ q_ h_) _)) (fun _ _ v_ L_ U_ => ⟨fun h_ => h_ _ hr7, fun h_ => by intro _ e_; cases Option.some.inj (e_.symm.trans hr7); exact h_⟩) ?_
  refine r_v (Value.agg #[Value.int .i64 (r6.1), U (hi (r6.2.1)), U (lo (r6.2.1))]) rfl rfl rfl rfl ?_
  refine r_v (Value.int .i64 (r6.2.2)) rfl rfl rfl rfl ?_
  refine r_s [(b4, 24, #[Value.int .i64 (r6.1), U (hi (r6.2.1)), U (lo (r6.2.1))]), (b3, 24, #[Value.int .i64 (b_0), U (hi (b_1)), U (lo (b_1))]), (b2, 24, #[Value.int .i64 (a_0), U (hi (a_1)), U (lo (a_1))])] 0 _ _ _ (#[Value.int .i64 (0), U (0#64), U (0#64)]) (#[Value.int .i64 (r6.1), U (hi (r6.2.1)), U (lo (r6.2.1))]) (#[Value.int .i64 (r6.1), U (hi (r6.2.1)), U (lo (r6.2.1))]) rfl rfl rfl rfl (.of rfl rfl) rfl rfl ?_
  refine r_v (Value.int .i64 (r6.2.2)) rfl rfl rfl rfl ?_
  refine lx_nil ?_
  refine hK5 _ _ ?_; try clear hK5 K5
  obtain rfl := Option.some.inj hM
  refine A_ret (fun hn => ends_eq (v0 := Value.tuple #[Value.agg #[Value.int .i64 (r6.1), U (hi (r6.2.1)), U (lo (r6.2.1))], Value.int .i64 (r6.2.2)]) rfl (res2 (res_cell hn 0 rfl rfl rfl) rfl))
def vec_Less_1_m (N : Nat) (x : BitVec 128) (y : BitVec 128) : Option (Int × (BitVec 128)) := (vec_Truth_m N (decide ((cmpI (x) (y) : Int) < 0))).bind fun r6 => some (r6.1, r6.2)
set_option maxRecDepth 100000 in
set_option maxHeartbeats 400000 in
theorem vec_Less_1_g (N : Nat) (x : BitVec 128) (y : BitVec 128) (r : Int × (BitVec 128)) (hM : vec_Less_1_m N x y = some r) : Gives Tryd.prog 68 #[Value.agg #[U (hi (x)), U (lo (x))], Value.agg #[U (hi (y)), U (lo (y))]] (Value.agg #[Value.int .i64 (r.1), U (hi (r.2)), U (lo (r.2))]) := by
  unfold vec_Less_1_m at hM
  refine gives_of_A follows Tryd.func68 rfl 10 rfl (upd (upd (fun _ => undef) 1 (Value.agg #[U (hi (y)), U (lo (y))])) 0 (Value.agg #[U (hi (x)), U (lo (x))])) (by funext k; match k with | 0 => rfl | 1 => rfl | k + 2 => rfl) (fun base0_ => ?_)
  refine A_seq fun K1 hK1 => ?_
  refine A_reg ?_
  refine r_a (31, #[U (hi (x)), U (lo (x))]) rfl rfl rfl (fun b2 => ?_) (.inr rfl)
  refine r_a (31, #[U (hi (y)), U (lo (y))]) rfl rfl rfl (fun b3 => ?_) (.inr rfl)
  refine r_a (24, #[Value.int .i64 (0), U (0#64), U (0#64)]) rfl rfl rfl (fun b4 => ?_) (.inr rfl)
  refine lx_nil ?_
  refine hK1 _ _ ?_; try clear hK1 K1
  refine A_seq fun K5 hK5 => ?_
  refine A_reg ?_
  refine r_l (Value.agg #[U (hi (x)), U (lo (x))]) 2 _ _ _ _ rfl rfl rfl rfl rfl ?_
  refine r_l (Value.agg #[U (hi (y)), U (lo (y))]) 1 _ _ _ _ rfl rfl rfl rfl rfl ?_
  refine r_c (Value.int .i64 (cmpI (x) (y))) rfl _ _ (ev_callF rfl call_69 rfl) (cmp_g (x) (y)) ?_
  refine r_v (Value.bool (decide ((cmpI (x) (y) : Int) < 0))) rfl rfl rfl rfl ?_
  replace hM := bind_sm hM; obtain ⟨r6, hr7, hM⟩ := hM
  refine r_c (Value.agg #[Value.int .i64 (r6.1), U (hi (r6.2)), U (lo (r6.2))]) rfl _ _ (ev_callF rfl call_15 rfl) (vec_Truth_g N (decide ((cmpI (x) (y) : Int) < 0)) _ hr7) ?_
  refine r_s [(b4, 24, #[Value.int .i64 (r6.1), U (hi (r6.2)), U (lo (r6.2))]), (b3, 31, #[U (hi (y)), U (lo (y))]), (b2, 31, #[U (hi (x)), U (lo (x))])] 0 _ _ _ (#[Value.int .i64 (0), U (0#64), U (0#64)]) (#[Value.int .i64 (r6.1), U (hi (r6.2)), U (lo (r6.2))]) (#[Value.int .i64 (r6.1), U (hi (r6.2)), U (lo (r6.2))]) rfl rfl rfl rfl (.of rfl rfl) rfl rfl ?_
  refine lx_nil ?_
  refine hK5 _ _ ?_; try clear hK5 K5
  obtain rfl := Option.some.inj hM
  refine A_ret (fun hn => ends_eq (v0 := Value.agg #[Value.int .i64 (r6.1), U (hi (r6.2)), U (lo (r6.2))]) rfl (res1 (res_cell hn 0 rfl rfl rfl)))
def vec_Less_m (N : Nat) (a_0 : Int) (a_1 : BitVec 128) (b_0 : Int) (b_1 : BitVec 128) : Option (Int × (BitVec 128) × Int) := (vec_pair_m N a_0 a_1 b_0 b_1 (fun (z0_ : BitVec 128) (z1_ : BitVec 128) => vec_Less_1_m N z0_ z1_)).bind fun r6 => some (r6.1, r6.2.1, r6.2.2)
set_option maxRecDepth 100000 in
set_option maxHeartbeats 400000 in
theorem vec_Less_g (N : Nat) (a_0 : Int) (a_1 : BitVec 128) (b_0 : Int) (b_1 : BitVec 128) (r : Int × (BitVec 128) × Int) (hM : vec_Less_m N a_0 a_1 b_0 b_1 = some r) : Gives Tryd.prog 27 #[Value.agg #[Value.int .i64 (a_0), U (hi (a_1)), U (lo (a_1))], Value.agg #[Value.int .i64 (b_0), U (hi (b_1)), U (lo (b_1))]] (Value.tuple #[Value.agg #[Value.int .i64 (r.1), U (hi (r.2.1)), U (lo (r.2.1))], Value.int .i64 (r.2.2)]) := by
  unfold vec_Less_m at hM
  refine gives_of_A follows Tryd.func27 rfl 11 rfl (upd (upd (fun _ => undef) 1 (Value.agg #[Value.int .i64 (b_0), U (hi (b_1)), U (lo (b_1))])) 0 (Value.agg #[Value.int .i64 (a_0), U (hi (a_1)), U (lo (a_1))])) (by funext k; match k with | 0 => rfl | 1 => rfl | k + 2 => rfl) (fun base0_ => ?_)
  refine A_seq fun K1 hK1 => ?_
  refine A_reg ?_
  refine r_a (24, #[Value.int .i64 (a_0), U (hi (a_1)), U (lo (a_1))]) rfl rfl rfl (fun b2 => ?_) (.inr rfl)
  refine r_a (24, #[Value.int .i64 (b_0), U (hi (b_1)), U (lo (b_1))]) rfl rfl rfl (fun b3 => ?_) (.inr rfl)
  refine r_a (24, #[Value.int .i64 (0), U (0#64), U (0#64)]) rfl rfl rfl (fun b4 => ?_) (.inr rfl)
  refine r_v (Value.int .i64 (0)) rfl rfl rfl rfl ?_
  refine lx_nil ?_
  refine hK1 _ _ ?_; try clear hK1 K1
  refine A_seq fun K5 hK5 => ?_
  refine A_regC [(some 8, false)] (conG Tryd.prog [(8, fun v_ L_ U_ => ∀ u0_, vec_pair_m N a_0 a_1 b_0 b_1 (fun (z0_ : BitVec 128) (z1_ : BitVec 128) => vec_Less_1_m N z0_ z1_) = some u0_ → (pV (Value.tuple #[Value.agg #[Value.int .i64 (u0_.1), U (hi (u0_.2.1)), U (lo (u0_.2.1))], Value.int .i64 (u0_.2.2)])) v_ L_ U_)]) ?_
  refine r_l (Value.agg #[Value.int .i64 (a_0), U (hi (a_1)), U (lo (a_1))]) 2 _ _ _ _ rfl rfl rfl rfl rfl ?_
  refine r_l (Value.agg #[Value.int .i64 (b_0), U (hi (b_1)), U (lo (b_1))]) 1 _ _ _ _ rfl rfl rfl rfl rfl ?_
  replace hM := bind_sm hM; obtain ⟨r6, hr7, hM⟩ := hM
  refine r_gv (Value.tuple #[Value.agg #[Value.int .i64 (r6.1), U (hi (r6.2.1)), U (lo (r6.2.1))], Value.int .i64 (r6.2.2)]) 55 _ rfl rfl rfl (ev_callF rfl call_55 rfl) (fun own_ nw_ hs_ => vec_pair_g N a_0 a_1 b_0 b_1 (fun (z0_ : BitVec 128) (z1_ : BitVec 128) => vec_Less_1_m N z0_ z1_) _ hr7 hs_.view 68 [] call_68 (fun z0_ z1_ q_ h_ => Gives.doesV (vec_Less_1_g N z0_ z1_ q_ h_) _)) (fun _ _ v_ L_ U_ => ⟨fun h_ => h_ _ hr7, fun h_ => by intro _ e_; cases Option.some.inj (e_.symm.trans hr7); exact h_⟩) ?_
  refine r_v (Value.agg #[Value.int .i64 (r6.1), U (hi (r6.2.1)), U (lo (r6.2.1))]) rfl rfl rfl rfl ?_
  refine r_v (Value.int .i64 (r6.2.2)) rfl rfl rfl rfl ?_
  refine r_s [(b4, 24, #[Value.int .i64 (r6.1), U (hi (r6.2.1)), U (lo (r6.2.1))]), (b3, 24, #[Value.int .i64 (b_0), U (hi (b_1)), U (lo (b_1))]), (b2, 24, #[Value.int .i64 (a_0), U (hi (a_1)), U (lo (a_1))])] 0 _ _ _ (#[Value.int .i64 (0), U (0#64), U (0#64)]) (#[Value.int .i64 (r6.1), U (hi (r6.2.1)), U (lo (r6.2.1))]) (#[Value.int .i64 (r6.1), U (hi (r6.2.1)), U (lo (r6.2.1))]) rfl rfl rfl rfl (.of rfl rfl) rfl rfl ?_
  refine r_v (Value.int .i64 (r6.2.2)) rfl rfl rfl rfl ?_
  refine lx_nil ?_
  refine hK5 _ _ ?_; try clear hK5 K5
  obtain rfl := Option.some.inj hM
  refine A_ret (fun hn => ends_eq (v0 := Value.tuple #[Value.agg #[Value.int .i64 (r6.1), U (hi (r6.2.1)), U (lo (r6.2.1))], Value.int .i64 (r6.2.2)]) rfl (res2 (res_cell hn 0 rfl rfl rfl) rfl))
def vec_Meets_k1 (N : Nat) (a_0 : Int) (a_1 : BitVec 128) (value_0 : Int) (value_1 : BitVec 128) (mask_0 : Int) (mask_1 : BitVec 128) : Option (Bool) := (vec_Word_m N (a_0) (a_1)).bind fun r6 => (vec_Word_m N (value_0) (value_1)).bind fun r8 => (vec_Word_m N (mask_0) (mask_1)).bind fun r12 => some ((((r6) ^^^ (r8)) &&& (r12)) == ((0#64) ++ (0#64)))
def vec_Meets_m (N : Nat) (a_0 : Int) (a_1 : BitVec 128) (value_0 : Int) (value_1 : BitVec 128) (mask_0 : Int) (mask_1 : BitVec 128) : Option (Bool) := (vec_unlike_m N (a_0) (a_1) (value_0) (value_1)).bind fun r15 => if (r15 : Int) ≠ 0 then some (false) else (vec_unlike_m N (a_0) (a_1) (mask_0) (mask_1)).bind fun r18 => if (r18 : Int) ≠ 0 then some (false) else vec_Meets_k1 N a_0 a_1 value_0 value_1 mask_0 mask_1 
set_option maxRecDepth 100000 in
set_option maxHeartbeats 400000 in
theorem vec_Meets_g (N : Nat) (a_0 : Int) (a_1 : BitVec 128) (value_0 : Int) (value_1 : BitVec 128) (mask_0 : Int) (mask_1 : BitVec 128) (r : Bool) (hM : vec_Meets_m N a_0 a_1 value_0 value_1 mask_0 mask_1 = some r) : Gives Tryd.prog 41 #[Value.agg #[Value.int .i64 (a_0), U (hi (a_1)), U (lo (a_1))], Value.agg #[Value.int .i64 (value_0), U (hi (value_1)), U (lo (value_1))], Value.agg #[Value.int .i64 (mask_0), U (hi (mask_1)), U (lo (mask_1))]] (Value.bool (r)) := by
  unfold vec_Meets_m at hM
  refine gives_of_A follows Tryd.func41 rfl 29 rfl (upd (upd (upd (fun _ => undef) 2 (Value.agg #[Value.int .i64 (mask_0), U (hi (mask_1)), U (lo (mask_1))])) 1 (Value.agg #[Value.int .i64 (value_0), U (hi (value_1)), U (lo (value_1))])) 0 (Value.agg #[Value.int .i64 (a_0), U (hi (a_1)), U (lo (a_1))])) (by funext k; match k with | 0 => rfl | 1 => rfl | 2 => rfl | k + 3 => rfl) (fun base0_ => ?_)
  refine A_seq fun K1 hK1 => ?_
  refine A_reg ?_
  refine r_a (24, #[Value.int .i64 (a_0), U (hi (a_1)), U (lo (a_1))]) rfl rfl rfl (fun b2 => ?_) (.inr rfl)
  refine r_a (24, #[Value.int .i64 (value_0), U (hi (value_1)), U (lo (value_1))]) rfl rfl rfl (fun b3 => ?_) (.inr rfl)
  refine r_a (24, #[Value.int .i64 (mask_0), U (hi (mask_1)), U (lo (mask_1))]) rfl rfl rfl (fun b4 => ?_) (.inr rfl)
  refine r_v (Value.bool (false)) rfl rfl rfl rfl ?_
  refine lx_nil ?_
  refine hK1 _ _ ?_; try clear hK1 K1
  refine A_cut (fun tt ll => (vec_Meets_k1 N a_0 a_1 value_0 value_1 mask_0 mask_1  = some r) ∧ Is [(3, Value.pointer (some ⟨b2, 0, none⟩)), (4, Value.pointer (some ⟨b3, 0, none⟩)), (5, Value.pointer (some ⟨b4, 0, none⟩))] [(b4, 24, #[Value.int .i64 (mask_0), U (hi (mask_1)), U (lo (mask_1))]), (b3, 24, #[Value.int .i64 (value_0), U (hi (value_1)), U (lo (value_1))]), (b2, 24, #[Value.int .i64 (a_0), U (hi (a_1)), U (lo (a_1))])] tt ll) ?_ ?_
  · refine A_seq fun K14 hK14 => ?_
    refine A_reg ?_
    refine r_l (Value.agg #[Value.int .i64 (a_0), U (hi (a_1)), U (lo (a_1))]) 2 _ _ _ _ rfl rfl rfl rfl rfl ?_
    refine r_l (Value.agg #[Value.int .i64 (value_0), U (hi (value_1)), U (lo (value_1))]) 1 _ _ _ _ rfl rfl rfl rfl rfl ?_
    replace hM := bind_sm hM; obtain ⟨r15, hr16, hM⟩ := hM
    refine r_c (Value.int .i64 (r15)) rfl _ _ (ev_callF rfl call_74 rfl) (vec_unlike_g N (a_0) (a_1) (value_0) (value_1) _ hr16) ?_
    refine r_v (Value.bool (((r15 : Int) != 0))) rfl rfl rfl rfl ?_
    refine r_v (Value.bool (((r15 : Int) != 0))) rfl rfl rfl rfl ?_
    rcases hg17 : (((r15 : Int) != 0)) with _ | _
    · replace hM := ifn (bne_f hg17) hM
      refine r_y rfl ?_
      refine r_l (Value.agg #[Value.int .i64 (a_0), U (hi (a_1)), U (lo (a_1))]) 2 _ _ _ _ rfl rfl rfl rfl rfl ?_
      refine r_y rfl ?_
      refine r_l (Value.agg #[Value.int .i64 (mask_0), U (hi (mask_1)), U (lo (mask_1))]) 0 _ _ _ _ rfl rfl rfl rfl rfl ?_
      refine r_y rfl ?_
      replace hM := bind_sm hM; obtain ⟨r18, hr19, hM⟩ := hM
      refine r_c (Value.int .i64 (r18)) rfl _ _ (ev_callF rfl call_74 rfl) (vec_unlike_g N (a_0) (a_1) (mask_0) (mask_1) _ hr19) ?_
      refine r_y rfl ?_
      refine r_v (Value.bool (((r18 : Int) != 0))) rfl rfl rfl rfl ?_
      refine r_v (Value.bool (((r18 : Int) != 0))) rfl rfl rfl rfl ?_
      refine lx_nil ?_
      refine hK14 _ _ ?_; try clear hK14 K14
      refine A_cond (((r18 : Int) != 0)) rfl (fun hc20 => ?_) (fun hc20 => ?_)
      · replace hM := ifp (bne_iff_ne.1 hc20) hM
        refine A_seq fun K21 hK21 => ?_
        refine A_reg ?_
        refine r_v (Value.bool (false)) rfl rfl rfl rfl ?_
        refine lx_nil ?_
        refine hK21 _ _ ?_; try clear hK21 K21
        obtain rfl := Option.some.inj hM
        refine A_ret (fun hn => ends_eq (v0 := Value.bool (false)) rfl (res1 rfl))
      · replace hM := ifn (bne_f hc20) hM
        refine A_skip ?_
        refine fg _ (Sub.of (List.Sublist.cons_cons _ (List.Sublist.cons_cons _ (List.Sublist.cons_cons _ (List.Sublist.slnil))))) ?_
        exact ⟨hM, is_mk rfl rfl⟩
    · replace hM := ifp (bne_iff_ne.1 hg17) hM
      refine r_n true rfl (by decide) rfl ?_
      refine r_n true rfl (by decide) rfl ?_
      refine r_n true rfl (by decide) rfl ?_
      refine r_n true rfl (by decide) rfl ?_
      refine r_v (Value.bool (true)) rfl rfl rfl rfl ?_
      refine lx_nil ?_
      refine hK14 _ _ ?_; try clear hK14 K14
      refine A_cond true rfl (fun _ => ?_) (fun h_ => nomatch h_)
      refine A_seq fun K22 hK22 => ?_
      refine A_reg ?_
      refine r_v (Value.bool (false)) rfl rfl rfl rfl ?_
      refine lx_nil ?_
      refine hK22 _ _ ?_; try clear hK22 K22
      obtain rfl := Option.some.inj hM
      refine A_ret (fun hn => ends_eq (v0 := Value.bool (false)) rfl (res1 rfl))
  · clear hM; rintro t l ⟨hM, ⟨T, rfl⟩, rfl⟩
    unfold vec_Meets_k1 at hM
    refine A_seq fun K5 hK5 => ?_
    refine A_draw [] (by decide +kernel) (fun hn => sep_nil) ?_
    refine r_l (Value.agg #[Value.int .i64 (a_0), U (hi (a_1)), U (lo (a_1))]) 2 _ _ _ _ rfl rfl rfl rfl rfl ?_
    replace hM := bind_sm hM; obtain ⟨r6, hr7, hM⟩ := hM
    refine r_c (Value.agg #[U (hi (r6)), U (lo (r6))]) rfl _ _ (ev_callF rfl call_14 rfl) (vec_Word_g N (a_0) (a_1) _ hr7) ?_
    refine r_l (Value.agg #[Value.int .i64 (value_0), U (hi (value_1)), U (lo (value_1))]) 1 _ _ _ _ rfl rfl rfl rfl rfl ?_
    replace hM := bind_sm hM; obtain ⟨r8, hr9, hM⟩ := hM
    refine r_c (Value.agg #[U (hi (r8)), U (lo (r8))]) rfl _ _ (ev_callF rfl call_14 rfl) (vec_Word_g N (value_0) (value_1) _ hr9) ?_
    refine r_c (Value.agg #[U (hi ((r6) ^^^ (r8))), U (lo ((r6) ^^^ (r8)))]) rfl _ _ (ev_callF rfl call_66 rfl) (xor_g (r6) (r8)) ?_
    refine r_a (31, #[U (0#64), U (0#64)]) rfl rfl rfl (fun b10 => ?_) (.inl rfl)
    refine r_sn [(b10, 31, #[U (hi ((r6) ^^^ (r8))), U (lo ((r6) ^^^ (r8)))]), (b4, 24, #[Value.int .i64 (mask_0), U (hi (mask_1)), U (lo (mask_1))]), (b3, 24, #[Value.int .i64 (value_0), U (hi (value_1)), U (lo (value_1))]), (b2, 24, #[Value.int .i64 (a_0), U (hi (a_1)), U (lo (a_1))])] 0 _ _ _ (#[U (0#64), U (0#64)]) (#[U (hi ((r6) ^^^ (r8))), U (lo ((r6) ^^^ (r8)))]) (#[U (hi ((r6) ^^^ (r8))), U (lo ((r6) ^^^ (r8)))]) rfl rfl rfl rfl rfl (.of rfl rfl) rfl rfl ?_
    refine lx_nil ?_
    refine hK5 _ _ ?_; try clear hK5 K5
    refine A_seq fun K11 hK11 => ?_
    refine A_draw [] (by decide +kernel) (fun hn => sep_nil) ?_
    refine r_l (Value.agg #[U (hi ((r6) ^^^ (r8))), U (lo ((r6) ^^^ (r8)))]) 0 _ _ _ _ rfl rfl rfl rfl rfl ?_
    refine r_l (Value.agg #[Value.int .i64 (mask_0), U (hi (mask_1)), U (lo (mask_1))]) 1 _ _ _ _ rfl rfl rfl rfl rfl ?_
    replace hM := bind_sm hM; obtain ⟨r12, hr13, hM⟩ := hM
    refine r_c (Value.agg #[U (hi (r12)), U (lo (r12))]) rfl _ _ (ev_callF rfl call_14 rfl) (vec_Word_g N (mask_0) (mask_1) _ hr13) ?_
    refine r_c (Value.agg #[U (hi (((r6) ^^^ (r8)) &&& (r12))), U (lo (((r6) ^^^ (r8)) &&& (r12)))]) rfl _ _ (ev_callF rfl call_64 rfl) (and_g ((r6) ^^^ (r8)) (r12)) ?_
    refine r_v (Value.agg #[U (0#64), U (0#64)]) rfl rfl rfl (ev_buildS rfl rfl rfl rfl) ?_
    refine r_v (Value.bool ((((r6) ^^^ (r8)) &&& (r12)) == ((0#64) ++ (0#64)))) rfl rfl rfl (ev_binEq rfl rfl eg_31 (by have h_ := fun c => eqword_31 (c := c) (((r6) ^^^ (r8)) &&& (r12)) ((0#64) ++ (0#64)); simp only [app_hl] at h_; exact h_ _)) ?_
    refine r_v (Value.bool ((((r6) ^^^ (r8)) &&& (r12)) == ((0#64) ++ (0#64)))) rfl rfl rfl rfl ?_
    refine lx_nil ?_
    refine hK11 _ _ ?_; try clear hK11 K11
    obtain rfl := Option.some.inj hM
    refine A_ret (fun hn => ends_eq (v0 := Value.bool ((((r6) ^^^ (r8)) &&& (r12)) == ((0#64) ++ (0#64)))) rfl (res1 rfl))
def vec_Within_k1 (N : Nat) (a_0 : Int) (a_1 : BitVec 128) (lo_0 : Int) (lo_1 : BitVec 128) (hi_0 : Int) (hi_1 : BitVec 128) : Option (Bool) := (vec_Word_m N (lo_0) (lo_1)).bind fun r6 => (vec_Word_m N (a_0) (a_1)).bind fun r8 => if (cmpI (r6) (r8) : Int) ≤ 0 then (vec_Word_m N (a_0) (a_1)).bind fun r11 => (vec_Word_m N (hi_0) (hi_1)).bind fun r13 => some (decide ((cmpI (r11) (r13) : Int) ≤ 0)) else some (false)
def vec_Within_m (N : Nat) (a_0 : Int) (a_1 : BitVec 128) (lo_0 : Int) (lo_1 : BitVec 128) (hi_0 : Int) (hi_1 : BitVec 128) : Option (Bool) := (vec_unlike_m N (a_0) (a_1) (lo_0) (lo_1)).bind fun r16 => if (r16 : Int) ≠ 0 then some (false) else (vec_unlike_m N (a_0) (a_1) (hi_0) (hi_1)).bind fun r19 => if (r19 : Int) ≠ 0 then some (false) else vec_Within_k1 N a_0 a_1 lo_0 lo_1 hi_0 hi_1 
set_option maxRecDepth 100000 in
set_option maxHeartbeats 400000 in
theorem vec_Within_g (N : Nat) (a_0 : Int) (a_1 : BitVec 128) (lo_0 : Int) (lo_1 : BitVec 128) (hi_0 : Int) (hi_1 : BitVec 128) (r : Bool) (hM : vec_Within_m N a_0 a_1 lo_0 lo_1 hi_0 hi_1 = some r) : Gives Tryd.prog 43 #[Value.agg #[Value.int .i64 (a_0), U (hi (a_1)), U (lo (a_1))], Value.agg #[Value.int .i64 (lo_0), U (hi (lo_1)), U (lo (lo_1))], Value.agg #[Value.int .i64 (hi_0), U (hi (hi_1)), U (lo (hi_1))]] (Value.bool (r)) := by
  unfold vec_Within_m at hM
  refine gives_of_A follows Tryd.func43 rfl 31 rfl (upd (upd (upd (fun _ => undef) 2 (Value.agg #[Value.int .i64 (hi_0), U (hi (hi_1)), U (lo (hi_1))])) 1 (Value.agg #[Value.int .i64 (lo_0), U (hi (lo_1)), U (lo (lo_1))])) 0 (Value.agg #[Value.int .i64 (a_0), U (hi (a_1)), U (lo (a_1))])) (by funext k; match k with | 0 => rfl | 1 => rfl | 2 => rfl | k + 3 => rfl) (fun base0_ => ?_)
  refine A_seq fun K1 hK1 => ?_
  refine A_reg ?_
  refine r_a (24, #[Value.int .i64 (a_0), U (hi (a_1)), U (lo (a_1))]) rfl rfl rfl (fun b2 => ?_) (.inr rfl)
  refine r_a (24, #[Value.int .i64 (lo_0), U (hi (lo_1)), U (lo (lo_1))]) rfl rfl rfl (fun b3 => ?_) (.inr rfl)
  refine r_a (24, #[Value.int .i64 (hi_0), U (hi (hi_1)), U (lo (hi_1))]) rfl rfl rfl (fun b4 => ?_) (.inr rfl)
  refine r_v (Value.bool (false)) rfl rfl rfl rfl ?_
  refine lx_nil ?_
  refine hK1 _ _ ?_; try clear hK1 K1
  refine A_cut (fun tt ll => (vec_Within_k1 N a_0 a_1 lo_0 lo_1 hi_0 hi_1  = some r) ∧ Is [(3, Value.pointer (some ⟨b2, 0, none⟩)), (4, Value.pointer (some ⟨b3, 0, none⟩)), (5, Value.pointer (some ⟨b4, 0, none⟩))] [(b4, 24, #[Value.int .i64 (hi_0), U (hi (hi_1)), U (lo (hi_1))]), (b3, 24, #[Value.int .i64 (lo_0), U (hi (lo_1)), U (lo (lo_1))]), (b2, 24, #[Value.int .i64 (a_0), U (hi (a_1)), U (lo (a_1))])] tt ll) ?_ ?_
  · refine A_seq fun K15 hK15 => ?_
    refine A_reg ?_
    refine r_l (Value.agg #[Value.int .i64 (a_0), U (hi (a_1)), U (lo (a_1))]) 2 _ _ _ _ rfl rfl rfl rfl rfl ?_
    refine r_l (Value.agg #[Value.int .i64 (lo_0), U (hi (lo_1)), U (lo (lo_1))]) 1 _ _ _ _ rfl rfl rfl rfl rfl ?_
    replace hM := bind_sm hM; obtain ⟨r16, hr17, hM⟩ := hM
    refine r_c (Value.int .i64 (r16)) rfl _ _ (ev_callF rfl call_74 rfl) (vec_unlike_g N (a_0) (a_1) (lo_0) (lo_1) _ hr17) ?_
    refine r_v (Value.bool (((r16 : Int) != 0))) rfl rfl rfl rfl ?_
    refine r_v (Value.bool (((r16 : Int) != 0))) rfl rfl rfl rfl ?_
    rcases hg18 : (((r16 : Int) != 0)) with _ | _
    · replace hM := ifn (bne_f hg18) hM
      refine r_y rfl ?_
      refine r_l (Value.agg #[Value.int .i64 (a_0), U (hi (a_1)), U (lo (a_1))]) 2 _ _ _ _ rfl rfl rfl rfl rfl ?_
      refine r_y rfl ?_
      refine r_l (Value.agg #[Value.int .i64 (hi_0), U (hi (hi_1)), U (lo (hi_1))]) 0 _ _ _ _ rfl rfl rfl rfl rfl ?_
      refine r_y rfl ?_
      replace hM := bind_sm hM; obtain ⟨r19, hr20, hM⟩ := hM
      refine r_c (Value.int .i64 (r19)) rfl _ _ (ev_callF rfl call_74 rfl) (vec_unlike_g N (a_0) (a_1) (hi_0) (hi_1) _ hr20) ?_
      refine r_y rfl ?_
      refine r_v (Value.bool (((r19 : Int) != 0))) rfl rfl rfl rfl ?_
      refine r_v (Value.bool (((r19 : Int) != 0))) rfl rfl rfl rfl ?_
      refine lx_nil ?_
      refine hK15 _ _ ?_; try clear hK15 K15
      refine A_cond (((r19 : Int) != 0)) rfl (fun hc21 => ?_) (fun hc21 => ?_)
      · replace hM := ifp (bne_iff_ne.1 hc21) hM
        refine A_seq fun K22 hK22 => ?_
        refine A_reg ?_
        refine r_v (Value.bool (false)) rfl rfl rfl rfl ?_
        refine lx_nil ?_
        refine hK22 _ _ ?_; try clear hK22 K22
        obtain rfl := Option.some.inj hM
        refine A_ret (fun hn => ends_eq (v0 := Value.bool (false)) rfl (res1 rfl))
      · replace hM := ifn (bne_f hc21) hM
        refine A_skip ?_
        refine fg _ (Sub.of (List.Sublist.cons_cons _ (List.Sublist.cons_cons _ (List.Sublist.cons_cons _ (List.Sublist.slnil))))) ?_
        exact ⟨hM, is_mk rfl rfl⟩
    · replace hM := ifp (bne_iff_ne.1 hg18) hM
      refine r_n true rfl (by decide) rfl ?_
      refine r_n true rfl (by decide) rfl ?_
      refine r_n true rfl (by decide) rfl ?_
      refine r_n true rfl (by decide) rfl ?_
      refine r_v (Value.bool (true)) rfl rfl rfl rfl ?_
      refine lx_nil ?_
      refine hK15 _ _ ?_; try clear hK15 K15
      refine A_cond true rfl (fun _ => ?_) (fun h_ => nomatch h_)
      refine A_seq fun K23 hK23 => ?_
      refine A_reg ?_
      refine r_v (Value.bool (false)) rfl rfl rfl rfl ?_
      refine lx_nil ?_
      refine hK23 _ _ ?_; try clear hK23 K23
      obtain rfl := Option.some.inj hM
      refine A_ret (fun hn => ends_eq (v0 := Value.bool (false)) rfl (res1 rfl))
  · clear hM; rintro t l ⟨hM, ⟨T, rfl⟩, rfl⟩
    unfold vec_Within_k1 at hM
    refine A_seq fun K5 hK5 => ?_
    refine A_draw [] (by decide +kernel) (fun hn => sep_nil) ?_
    refine r_l (Value.agg #[Value.int .i64 (lo_0), U (hi (lo_1)), U (lo (lo_1))]) 1 _ _ _ _ rfl rfl rfl rfl rfl ?_
    replace hM := bind_sm hM; obtain ⟨r6, hr7, hM⟩ := hM
    refine r_c (Value.agg #[U (hi (r6)), U (lo (r6))]) rfl _ _ (ev_callF rfl call_14 rfl) (vec_Word_g N (lo_0) (lo_1) _ hr7) ?_
    refine r_l (Value.agg #[Value.int .i64 (a_0), U (hi (a_1)), U (lo (a_1))]) 2 _ _ _ _ rfl rfl rfl rfl rfl ?_
    replace hM := bind_sm hM; obtain ⟨r8, hr9, hM⟩ := hM
    refine r_c (Value.agg #[U (hi (r8)), U (lo (r8))]) rfl _ _ (ev_callF rfl call_14 rfl) (vec_Word_g N (a_0) (a_1) _ hr9) ?_
    refine r_c (Value.int .i64 (cmpI (r6) (r8))) rfl _ _ (ev_callF rfl call_69 rfl) (cmp_g (r6) (r8)) ?_
    refine r_v (Value.bool (decide ((cmpI (r6) (r8) : Int) ≤ 0))) rfl rfl rfl rfl ?_
    refine r_v (Value.bool (decide ((cmpI (r6) (r8) : Int) ≤ 0))) rfl rfl rfl rfl ?_
    rcases hg10 : (decide ((cmpI (r6) (r8) : Int) ≤ 0)) with _ | _
    · replace hM := ifn (of_decide_eq_false hg10) hM
      refine r_n false rfl (by decide) rfl ?_
      refine r_n false rfl (by decide) rfl ?_
      refine r_n false rfl (by decide) rfl ?_
      refine r_n false rfl (by decide) rfl ?_
      refine r_n false rfl (by decide) rfl ?_
      refine r_n false rfl (by decide) rfl ?_
      refine r_v (Value.bool (false)) rfl rfl rfl rfl ?_
      refine r_v (Value.bool (false)) rfl rfl rfl rfl ?_
      refine lx_nil ?_
      refine hK5 _ _ ?_; try clear hK5 K5
      obtain rfl := Option.some.inj hM
      refine A_ret (fun hn => ends_eq (v0 := Value.bool (false)) rfl (res1 rfl))
    · replace hM := ifp (of_decide_eq_true hg10) hM
      refine r_y rfl ?_
      refine r_l (Value.agg #[Value.int .i64 (a_0), U (hi (a_1)), U (lo (a_1))]) 2 _ _ _ _ rfl rfl rfl rfl rfl ?_
      refine r_y rfl ?_
      replace hM := bind_sm hM; obtain ⟨r11, hr12, hM⟩ := hM
      refine r_c (Value.agg #[U (hi (r11)), U (lo (r11))]) rfl _ _ (ev_callF rfl call_14 rfl) (vec_Word_g N (a_0) (a_1) _ hr12) ?_
      refine r_y rfl ?_
      refine r_l (Value.agg #[Value.int .i64 (hi_0), U (hi (hi_1)), U (lo (hi_1))]) 0 _ _ _ _ rfl rfl rfl rfl rfl ?_
      refine r_y rfl ?_
      replace hM := bind_sm hM; obtain ⟨r13, hr14, hM⟩ := hM
      refine r_c (Value.agg #[U (hi (r13)), U (lo (r13))]) rfl _ _ (ev_callF rfl call_14 rfl) (vec_Word_g N (hi_0) (hi_1) _ hr14) ?_
      refine r_y rfl ?_
      refine r_c (Value.int .i64 (cmpI (r11) (r13))) rfl _ _ (ev_callF rfl call_69 rfl) (cmp_g (r11) (r13)) ?_
      refine r_y rfl ?_
      refine r_v (Value.bool (decide ((cmpI (r11) (r13) : Int) ≤ 0))) rfl rfl rfl rfl ?_
      refine r_v (Value.bool (decide ((cmpI (r11) (r13) : Int) ≤ 0))) rfl rfl rfl rfl ?_
      refine r_v (Value.bool (decide ((cmpI (r11) (r13) : Int) ≤ 0))) rfl rfl rfl rfl ?_
      refine lx_nil ?_
      refine hK5 _ _ ?_; try clear hK5 K5
      obtain rfl := Option.some.inj hM
      refine A_ret (fun hn => ends_eq (v0 := Value.bool (decide ((cmpI (r11) (r13) : Int) ≤ 0))) rfl (res1 rfl))
def vec_Text_m (N : Nat) (a_0 : Int) (a_1 : BitVec 128) : Option (List UInt8) := (vec_May_m N (a_0) (a_1)).bind fun r5 => if (r5) = true then ck (0 ≤ (a_0 : Int) ∧ (a_0 : Int) < 100) (ck (((decS (a_0)).length : Int) + ((([39] : List UInt8)).length : Int) ≤ 9223372036854775807) ((vec_Word_m N (a_0) (a_1)).bind fun r12 => ck ((((decS (a_0)) ++ (([39] : List UInt8))).length : Int) + ((textL (16) 128 (r12).toNat).length : Int) ≤ 9223372036854775807) (some (((decS (a_0)) ++ (([39] : List UInt8))) ++ (textL (16) 128 (r12).toNat))))) else some ([])
set_option maxRecDepth 100000 in
set_option maxHeartbeats 400000 in
theorem vec_Text_g (N : Nat) (a_0 : Int) (a_1 : BitVec 128) (r : List UInt8) (hM : vec_Text_m N a_0 a_1 = some r) : Gives Tryd.prog 47 #[Value.agg #[Value.int .i64 (a_0), U (hi (a_1)), U (lo (a_1))]] (Value.string (⟨(r).toArray⟩)) := by
  unfold vec_Text_m at hM
  refine gives_of_A follows Tryd.func47 rfl 14 rfl (upd (fun _ => undef) 0 (Value.agg #[Value.int .i64 (a_0), U (hi (a_1)), U (lo (a_1))])) (by funext k; match k with | 0 => rfl | k + 1 => rfl) (fun base0_ => ?_)
  refine A_seq fun K1 hK1 => ?_
  refine A_reg ?_
  refine r_a (24, #[Value.int .i64 (a_0), U (hi (a_1)), U (lo (a_1))]) rfl rfl rfl (fun b2 => ?_) (.inr rfl)
  refine r_v (Value.string (⟨#[]⟩)) rfl rfl rfl rfl ?_
  refine lx_nil ?_
  refine hK1 _ _ ?_; try clear hK1 K1
  refine A_seq fun K3 hK3 => ?_
  refine A_seq fun K4 hK4 => ?_
  refine A_reg ?_
  refine r_l (Value.agg #[Value.int .i64 (a_0), U (hi (a_1)), U (lo (a_1))]) 0 _ _ _ _ rfl rfl rfl rfl rfl ?_
  replace hM := bind_sm hM; obtain ⟨r5, hr6, hM⟩ := hM
  refine r_c (Value.bool (r5)) rfl _ _ (ev_callF rfl call_13 rfl) (vec_May_g N (a_0) (a_1) _ hr6) ?_
  refine r_v (Value.bool (!(r5))) rfl rfl rfl rfl ?_
  refine lx_nil ?_
  refine hK4 _ _ ?_; try clear hK4 K4
  refine A_cond (!(r5)) rfl (fun hc7 => ?_) (fun hc7 => ?_)
  · replace hM := ifn (Bool.eq_false_iff.1 (not_t hc7)) hM
    refine A_seq fun K8 hK8 => ?_
    refine A_reg ?_
    refine r_v (Value.string (⟨#[]⟩)) rfl rfl rfl rfl ?_
    refine lx_nil ?_
    refine hK8 _ _ ?_; try clear hK8 K8
    obtain rfl := Option.some.inj hM
    refine A_ret (fun hn => ends_eq (v0 := Value.string (⟨#[]⟩)) rfl (res1 rfl))
  · replace hM := ifp (not_f hc7) hM
    refine A_skip ?_
    refine hK3 _ _ ?_; try clear hK3 K3
    refine A_seq fun K9 hK9 => ?_
    refine A_draw [] (by decide +kernel) (fun hn => sep_nil) ?_
    refine r_v (Value.pointer (some ⟨b2, 0, none⟩)) rfl rfl rfl rfl ?_
    refine r_l (Value.int .i64 (a_0)) 0 _ _ _ _ rfl rfl rfl rfl rfl ?_
    replace hM := ck_some hM; obtain ⟨ck10, hM⟩ := hM
    refine r_c (Value.string (⟨(decS (a_0)).toArray⟩)) rfl _ _ (ev_callF rfl call_78 rfl) (itoa_small_t (a_0) ck10) ?_
    replace hM := ck_some hM; obtain ⟨ck11, hM⟩ := hM
    refine r_v (Value.string (⟨((decS (a_0)) ++ (([39] : List UInt8))).toArray⟩)) rfl rfl rfl (ev_addS ck11 rfl rfl) ?_
    refine r_l (Value.agg #[Value.int .i64 (a_0), U (hi (a_1)), U (lo (a_1))]) 0 _ _ _ _ rfl rfl rfl rfl rfl ?_
    replace hM := bind_sm hM; obtain ⟨r12, hr13, hM⟩ := hM
    refine r_c (Value.agg #[U (hi (r12)), U (lo (r12))]) rfl _ _ (ev_callF rfl call_14 rfl) (vec_Word_g N (a_0) (a_1) _ hr13) ?_
    refine r_c (Value.string (⟨(textL (16) 128 (r12).toNat).toArray⟩)) rfl _ _ (ev_callF rfl call_79 rfl) (text_g (r12) (16) (by decide) (by decide)) ?_
    replace hM := ck_some hM; obtain ⟨ck14, hM⟩ := hM
    refine r_v (Value.string (⟨(((decS (a_0)) ++ (([39] : List UInt8))) ++ (textL (16) 128 (r12).toNat)).toArray⟩)) rfl rfl rfl (ev_addS ck14 rfl rfl) ?_
    refine r_v (Value.string (⟨(((decS (a_0)) ++ (([39] : List UInt8))) ++ (textL (16) 128 (r12).toNat)).toArray⟩)) rfl rfl rfl rfl ?_
    refine lx_nil ?_
    refine hK9 _ _ ?_; try clear hK9 K9
    obtain rfl := Option.some.inj hM
    refine A_ret (fun hn => ends_eq (v0 := Value.string (⟨(((decS (a_0)) ++ (([39] : List UInt8))) ++ (textL (16) 128 (r12).toNat)).toArray⟩)) rfl (res1 rfl))
def shunterlaw02_lives_m (N : Nat) : Option (Bool) := (vec_Add_m N (8) ((0#64) ++ (255#64)) (8) ((0#64) ++ (1#64))).bind fun r3 => (vec_AddSat_m N (8) ((0#64) ++ (255#64)) (8) ((0#64) ++ (1#64))).bind fun r7 => if (r3.2.2 : Int) = 0 then if (r7.2.2 : Int) = 0 then (vec_Text_m N (r3.1) (r3.2.1)).bind fun r13 => if (r13) = (([56, 39, 48] : List UInt8)) then (vec_Text_m N (r7.1) (r7.2.1)).bind fun r16 => some ((r16) == (([56, 39, 102, 102] : List UInt8))) else some (false) else some (false) else some (false)
set_option maxRecDepth 100000 in
set_option maxHeartbeats 400000 in
theorem shunterlaw02_lives_g (N : Nat) (r : Bool) (hM : shunterlaw02_lives_m N = some r) : Gives Tryd.prog 16 #[] (Value.bool (r)) := by
  unfold shunterlaw02_lives_m at hM
  refine gives_of_A follows Tryd.func16 rfl 33 rfl (fun _ => undef) (by funext k; rfl) (fun base0_ => ?_)
  refine A_seq fun K1 hK1 => ?_
  refine A_reg ?_
  refine r_v (Value.bool (false)) rfl rfl rfl rfl ?_
  refine lx_nil ?_
  refine hK1 _ _ ?_; try clear hK1 K1
  refine A_seq fun K2 hK2 => ?_
  refine A_reg ?_
  refine r_v (Value.agg #[Value.int .i64 (8), U (0#64), U (255#64)]) rfl rfl rfl (ev_buildS rfl rfl rfl rfl) ?_
  refine r_v (Value.agg #[Value.int .i64 (8), U (0#64), U (1#64)]) rfl rfl rfl (ev_buildS rfl rfl rfl rfl) ?_
  replace hM := bind_sm hM; obtain ⟨r3, hr4, hM⟩ := hM
  refine r_c (Value.tuple #[Value.agg #[Value.int .i64 (r3.1), U (hi (r3.2.1)), U (lo (r3.2.1))], Value.int .i64 (r3.2.2)]) rfl _ _ (ev_callF rfl call_19 rfl) (by have h_ := (vec_Add_g N (8) ((0#64) ++ (255#64)) (8) ((0#64) ++ (1#64)) _ hr4); simp only [app_hl] at h_; exact h_) ?_
  refine r_v (Value.tuple #[Value.agg #[Value.int .i64 (r3.1), U (hi (r3.2.1)), U (lo (r3.2.1))], Value.int .i64 (r3.2.2)]) rfl rfl rfl rfl ?_
  refine r_v (Value.agg #[Value.int .i64 (r3.1), U (hi (r3.2.1)), U (lo (r3.2.1))]) rfl rfl rfl rfl ?_
  refine r_v (Value.int .i64 (r3.2.2)) rfl rfl rfl rfl ?_
  refine r_a (24, #[Value.int .i64 (0), U (0#64), U (0#64)]) rfl rfl rfl (fun b5 => ?_) (.inr rfl)
  refine r_s [(b5, 24, #[Value.int .i64 (r3.1), U (hi (r3.2.1)), U (lo (r3.2.1))])] 0 _ _ _ (#[Value.int .i64 (0), U (0#64), U (0#64)]) (#[Value.int .i64 (r3.1), U (hi (r3.2.1)), U (lo (r3.2.1))]) (#[Value.int .i64 (r3.1), U (hi (r3.2.1)), U (lo (r3.2.1))]) rfl rfl rfl rfl (.of rfl rfl) rfl rfl ?_
  refine r_v (Value.int .i64 (r3.2.2)) rfl rfl rfl rfl ?_
  refine lx_nil ?_
  refine hK2 _ _ ?_; try clear hK2 K2
  refine A_seq fun K6 hK6 => ?_
  refine A_reg ?_
  refine r_v (Value.agg #[Value.int .i64 (8), U (0#64), U (255#64)]) rfl rfl rfl (ev_buildS rfl rfl rfl rfl) ?_
  refine r_v (Value.agg #[Value.int .i64 (8), U (0#64), U (1#64)]) rfl rfl rfl (ev_buildS rfl rfl rfl rfl) ?_
  replace hM := bind_sm hM; obtain ⟨r7, hr8, hM⟩ := hM
  refine r_c (Value.tuple #[Value.agg #[Value.int .i64 (r7.1), U (hi (r7.2.1)), U (lo (r7.2.1))], Value.int .i64 (r7.2.2)]) rfl _ _ (ev_callF rfl call_21 rfl) (by have h_ := (vec_AddSat_g N (8) ((0#64) ++ (255#64)) (8) ((0#64) ++ (1#64)) _ hr8); simp only [app_hl] at h_; exact h_) ?_
  refine r_v (Value.tuple #[Value.agg #[Value.int .i64 (r7.1), U (hi (r7.2.1)), U (lo (r7.2.1))], Value.int .i64 (r7.2.2)]) rfl rfl rfl rfl ?_
  refine r_v (Value.agg #[Value.int .i64 (r7.1), U (hi (r7.2.1)), U (lo (r7.2.1))]) rfl rfl rfl rfl ?_
  refine r_v (Value.int .i64 (r7.2.2)) rfl rfl rfl rfl ?_
  refine r_a (24, #[Value.int .i64 (0), U (0#64), U (0#64)]) rfl rfl rfl (fun b9 => ?_) (.inr rfl)
  refine r_s [(b9, 24, #[Value.int .i64 (r7.1), U (hi (r7.2.1)), U (lo (r7.2.1))]), (b5, 24, #[Value.int .i64 (r3.1), U (hi (r3.2.1)), U (lo (r3.2.1))])] 0 _ _ _ (#[Value.int .i64 (0), U (0#64), U (0#64)]) (#[Value.int .i64 (r7.1), U (hi (r7.2.1)), U (lo (r7.2.1))]) (#[Value.int .i64 (r7.1), U (hi (r7.2.1)), U (lo (r7.2.1))]) rfl rfl rfl rfl (.of rfl rfl) rfl rfl ?_
  refine r_v (Value.int .i64 (r7.2.2)) rfl rfl rfl rfl ?_
  refine lx_nil ?_
  refine hK6 _ _ ?_; try clear hK6 K6
  refine A_seq fun K10 hK10 => ?_
  refine A_reg ?_
  refine r_v (Value.int .i64 (r3.2.2)) rfl rfl rfl rfl ?_
  refine r_v (Value.bool (((r3.2.2 : Int) == 0))) rfl rfl rfl rfl ?_
  refine r_v (Value.bool (((r3.2.2 : Int) == 0))) rfl rfl rfl rfl ?_
  rcases hg11 : (((r3.2.2 : Int) == 0)) with _ | _
  · replace hM := ifn (ne_of_beq_false hg11) hM
    refine r_n false rfl (by decide) rfl ?_
    refine r_n false rfl (by decide) rfl ?_
    refine r_v (Value.bool (false)) rfl rfl rfl rfl ?_
    refine r_v (Value.bool (false)) rfl rfl rfl rfl ?_
    refine r_n false rfl (by decide) rfl ?_
    refine r_n false rfl (by decide) rfl ?_
    refine r_n false rfl (by decide) rfl ?_
    refine r_v (Value.bool (false)) rfl rfl rfl rfl ?_
    refine r_v (Value.bool (false)) rfl rfl rfl rfl ?_
    refine r_n false rfl (by decide) rfl ?_
    refine r_n false rfl (by decide) rfl ?_
    refine r_n false rfl (by decide) rfl ?_
    refine r_v (Value.bool (false)) rfl rfl rfl rfl ?_
    refine r_v (Value.bool (false)) rfl rfl rfl rfl ?_
    refine lx_nil ?_
    refine hK10 _ _ ?_; try clear hK10 K10
    refine A_gen [(0, Value.bool (false))] rfl (fun T => ?_)
    obtain rfl := Option.some.inj hM
    refine A_ret (fun hn => ends_eq (v0 := Value.bool (false)) rfl (res1 rfl))
  · replace hM := ifp (eq_of_beq hg11) hM
    refine r_y rfl ?_
    refine r_v (Value.int .i64 (r7.2.2)) rfl rfl rfl rfl ?_
    refine r_y rfl ?_
    refine r_v (Value.bool (((r7.2.2 : Int) == 0))) rfl rfl rfl rfl ?_
    refine r_v (Value.bool (((r7.2.2 : Int) == 0))) rfl rfl rfl rfl ?_
    refine r_v (Value.bool (((r7.2.2 : Int) == 0))) rfl rfl rfl rfl ?_
    rcases hg12 : (((r7.2.2 : Int) == 0)) with _ | _
    · replace hM := ifn (ne_of_beq_false hg12) hM
      refine r_n false rfl (by decide) rfl ?_
      refine r_n false rfl (by decide) rfl ?_
      refine r_n false rfl (by decide) rfl ?_
      refine r_v (Value.bool (false)) rfl rfl rfl rfl ?_
      refine r_v (Value.bool (false)) rfl rfl rfl rfl ?_
      refine r_n false rfl (by decide) rfl ?_
      refine r_n false rfl (by decide) rfl ?_
      refine r_n false rfl (by decide) rfl ?_
      refine r_v (Value.bool (false)) rfl rfl rfl rfl ?_
      refine r_v (Value.bool (false)) rfl rfl rfl rfl ?_
      refine lx_nil ?_
      refine hK10 _ _ ?_; try clear hK10 K10
      refine A_gen [(0, Value.bool (false))] rfl (fun T => ?_)
      obtain rfl := Option.some.inj hM
      refine A_ret (fun hn => ends_eq (v0 := Value.bool (false)) rfl (res1 rfl))
    · replace hM := ifp (eq_of_beq hg12) hM
      refine r_y rfl ?_
      refine r_l (Value.agg #[Value.int .i64 (r3.1), U (hi (r3.2.1)), U (lo (r3.2.1))]) 1 _ _ _ _ rfl rfl rfl rfl rfl ?_
      refine r_y rfl ?_
      replace hM := bind_sm hM; obtain ⟨r13, hr14, hM⟩ := hM
      refine r_c (Value.string (⟨(r13).toArray⟩)) rfl _ _ (ev_callF rfl call_47 rfl) (vec_Text_g N (r3.1) (r3.2.1) _ hr14) ?_
      refine r_y rfl ?_
      refine r_v (Value.bool ((r13) == (([56, 39, 48] : List UInt8)))) rfl rfl rfl (ev_eqS rfl rfl) ?_
      refine r_v (Value.bool ((r13) == (([56, 39, 48] : List UInt8)))) rfl rfl rfl rfl ?_
      refine r_v (Value.bool ((r13) == (([56, 39, 48] : List UInt8)))) rfl rfl rfl rfl ?_
      rcases hg15 : ((r13) == (([56, 39, 48] : List UInt8))) with _ | _
      · replace hM := ifn (ne_of_beq_false hg15) hM
        refine r_n false rfl (by decide) rfl ?_
        refine r_n false rfl (by decide) rfl ?_
        refine r_n false rfl (by decide) rfl ?_
        refine r_v (Value.bool (false)) rfl rfl rfl rfl ?_
        refine r_v (Value.bool (false)) rfl rfl rfl rfl ?_
        refine lx_nil ?_
        refine hK10 _ _ ?_; try clear hK10 K10
        refine A_gen [(0, Value.bool (false))] rfl (fun T => ?_)
        obtain rfl := Option.some.inj hM
        refine A_ret (fun hn => ends_eq (v0 := Value.bool (false)) rfl (res1 rfl))
      · replace hM := ifp (eq_of_beq hg15) hM
        refine r_y rfl ?_
        refine r_l (Value.agg #[Value.int .i64 (r7.1), U (hi (r7.2.1)), U (lo (r7.2.1))]) 0 _ _ _ _ rfl rfl rfl rfl rfl ?_
        refine r_y rfl ?_
        replace hM := bind_sm hM; obtain ⟨r16, hr17, hM⟩ := hM
        refine r_c (Value.string (⟨(r16).toArray⟩)) rfl _ _ (ev_callF rfl call_47 rfl) (vec_Text_g N (r7.1) (r7.2.1) _ hr17) ?_
        refine r_y rfl ?_
        refine r_v (Value.bool ((r16) == (([56, 39, 102, 102] : List UInt8)))) rfl rfl rfl (ev_eqS rfl rfl) ?_
        refine r_v (Value.bool ((r16) == (([56, 39, 102, 102] : List UInt8)))) rfl rfl rfl rfl ?_
        refine r_v (Value.bool ((r16) == (([56, 39, 102, 102] : List UInt8)))) rfl rfl rfl rfl ?_
        refine lx_nil ?_
        refine hK10 _ _ ?_; try clear hK10 K10
        refine A_gen [(0, Value.bool ((r16) == (([56, 39, 102, 102] : List UInt8))))] rfl (fun T => ?_)
        obtain rfl := Option.some.inj hM
        refine A_ret (fun hn => ends_eq (v0 := Value.bool ((r16) == (([56, 39, 102, 102] : List UInt8)))) rfl (res1 rfl))
end Go.Proofs.YtomcfndpnnjihaaDoor
