/- models of functions and their walks -/
import Derived.Test.YtdgejbbelmhbdaaDoorBa
namespace Go.Proofs.YtdgejbbelmhbdaaDoor
open Go Go.RowKit Go.Eng
def wire_Fault_Error_v1_m (_ : Nat) : Option (List UInt8) := some ([])
set_option maxRecDepth 100000 in
set_option maxHeartbeats 8000000 in
theorem wire_Fault_Error_v1_g (N : Nat) (r : List UInt8) (hM : wire_Fault_Error_v1_m N = some r) (ro : Addr → Option Value)  : DoesI Tryd.prog 19 #[Value.pointer none] MemI ro [] (pV (Value.string (⟨(r).toArray⟩))) := by
  unfold wire_Fault_Error_v1_m at hM
  refine doesI_of_A follows Tryd.func19 rfl 18 rfl (upd (fun _ => undef) 0 (Value.pointer none)) (by funext k; match k with | 0 => rfl | k + 1 => rfl) memI_kept (fun base0_ => ?_)
  refine A_seq fun K1 hK1 => ?_
  refine A_reg ?_
  refine r_v (Value.string (⟨#[]⟩)) rfl rfl rfl rfl ?_
  refine lx_nil ?_
  refine hK1 _ _ ?_; try clear hK1 K1
  refine A_seq fun K2 hK2 => ?_
  refine A_seq fun K3 hK3 => ?_
  refine A_reg ?_
  refine r_v (Value.pointer none) rfl rfl rfl rfl ?_
  refine r_v (Value.bool (true)) rfl rfl rfl rfl ?_
  refine lx_nil ?_
  refine hK3 _ _ ?_; try clear hK3 K3
  refine A_cond true rfl (fun _ => ?_) (fun h_ => nomatch h_)
  refine A_seq fun K4 hK4 => ?_
  refine A_reg ?_
  refine r_v (Value.string (⟨#[]⟩)) rfl rfl rfl rfl ?_
  refine lx_nil ?_
  refine hK4 _ _ ?_; try clear hK4 K4
  obtain rfl := Option.some.inj hM
  refine A_ret (fun hn => endsV (v0 := Value.string (⟨#[]⟩)) rfl (res1 rfl))
def wire_Fault_Error_v2_m (_ : Nat) (f_0 : Int) (f_1 : Int) : Option (List UInt8) := ck (-9223372036854775808 ≤ (f_0 : Int) ∧ (f_0 : Int) ≤ 9223372036854775807) (ck (((([102, 97, 117, 108, 116, 32] : List UInt8)).length : Int) + ((Lib.itoa (f_0)).length : Int) ≤ 9223372036854775807) (ck ((((([102, 97, 117, 108, 116, 32] : List UInt8)) ++ (Lib.itoa (f_0))).length : Int) + ((([32, 97, 116, 32, 98, 121, 116, 101, 32] : List UInt8)).length : Int) ≤ 9223372036854775807) (ck (-9223372036854775808 ≤ (f_1 : Int) ∧ (f_1 : Int) ≤ 9223372036854775807) (ck (((((([102, 97, 117, 108, 116, 32] : List UInt8)) ++ (Lib.itoa (f_0))) ++ (([32, 97, 116, 32, 98, 121, 116, 101, 32] : List UInt8))).length : Int) + ((Lib.itoa (f_1)).length : Int) ≤ 9223372036854775807) (some ((((([102, 97, 117, 108, 116, 32] : List UInt8)) ++ (Lib.itoa (f_0))) ++ (([32, 97, 116, 32, 98, 121, 116, 101, 32] : List UInt8))) ++ (Lib.itoa (f_1))))))))
set_option maxRecDepth 100000 in
set_option maxHeartbeats 8000000 in
theorem wire_Fault_Error_v2_g (N : Nat) (f_0 : Int) (f_1 : Int) (r : List UInt8) (hM : wire_Fault_Error_v2_m N f_0 f_1 = some r) (ro : Addr → Option Value) (bf : Nat) (hbf : Blk ro bf [Value.int .i64 (f_0), Value.int .i64 (f_1)]) : DoesI Tryd.prog 19 #[Value.pointer (some ⟨bf, 0, none⟩)] MemI ro [] (pV (Value.string (⟨(r).toArray⟩))) := by
  unfold wire_Fault_Error_v2_m at hM
  refine doesI_of_A follows Tryd.func19 rfl 18 rfl (upd (fun _ => undef) 0 (Value.pointer (some ⟨bf, 0, none⟩))) (by funext k; match k with | 0 => rfl | k + 1 => rfl) memI_kept (fun base0_ => ?_)
  refine A_seq fun K1 hK1 => ?_
  refine A_reg ?_
  refine r_v (Value.string (⟨#[]⟩)) rfl rfl rfl rfl ?_
  refine lx_nil ?_
  refine hK1 _ _ ?_; try clear hK1 K1
  refine A_seq fun K2 hK2 => ?_
  refine A_seq fun K3 hK3 => ?_
  refine A_reg ?_
  refine r_v (Value.pointer (some ⟨bf, 0, none⟩)) rfl rfl rfl rfl ?_
  refine r_v (Value.bool (false)) rfl rfl rfl rfl ?_
  refine lx_nil ?_
  refine hK3 _ _ ?_; try clear hK3 K3
  refine A_cond false rfl (fun h_ => nomatch h_) (fun _ => ?_)
  refine A_skip ?_
  refine hK2 _ _ ?_; try clear hK2 K2
  refine A_seq fun K4 hK4 => ?_
  refine A_drawR [(some 9, false), (some 16, false)] (conG Tryd.prog [(9, fun _ _ v_ L_ U_ => (pV (Value.string (⟨(Lib.itoa (f_0)).toArray⟩))) v_ L_ U_), (16, fun _ _ v_ L_ U_ => (pV (Value.string (⟨(Lib.itoa (f_1)).toArray⟩))) v_ L_ U_)]) [] (by decide +kernel) (fun hn => sep_nil) ?_
  refine r_v (Value.pointer (some ⟨bf, 0, none⟩)) rfl rfl rfl rfl ?_
  refine r_v (Value.pointer (some ⟨bf, 0, none⟩)) rfl rfl rfl rfl ?_
  refine r_v (Value.pointer (some ⟨bf, 0, none⟩)) rfl rfl rfl rfl ?_
  refine r_lb (Value.int .i64 (f_0)) (vs := [Value.int .i64 (f_0), Value.int .i64 (f_1)]) (o := 0) rfl rfl (blk_ro hbf) rfl ?_
  replace hM := ck_some hM; obtain ⟨ck5, hM⟩ := hM
  refine r_gv (Value.string (⟨(Lib.itoa (f_0)).toArray⟩)) 34 _ rfl rfl rfl (ev_callF rfl call_34 rfl) (fun own_ nw_ hs_ => itoa_i (f_0) ck5 _) (fun _ _ _ _ _ => Iff.rfl) ?_
  replace hM := ck_some hM; obtain ⟨ck6, hM⟩ := hM
  refine r_v (Value.string (⟨((([102, 97, 117, 108, 116, 32] : List UInt8)) ++ (Lib.itoa (f_0))).toArray⟩)) rfl rfl rfl (ev_addS ck6 rfl rfl) ?_
  replace hM := ck_some hM; obtain ⟨ck7, hM⟩ := hM
  refine r_v (Value.string (⟨(((([102, 97, 117, 108, 116, 32] : List UInt8)) ++ (Lib.itoa (f_0))) ++ (([32, 97, 116, 32, 98, 121, 116, 101, 32] : List UInt8))).toArray⟩)) rfl rfl rfl (ev_addS ck7 rfl rfl) ?_
  refine r_v (Value.pointer (some ⟨bf, 0, none⟩)) rfl rfl rfl rfl ?_
  refine r_v (Value.pointer (some ⟨bf, 0, none⟩)) rfl rfl rfl rfl ?_
  refine r_v (Value.pointer (some ⟨bf, 1, none⟩)) rfl rfl rfl rfl ?_
  refine r_lb (Value.int .i64 (f_1)) (vs := [Value.int .i64 (f_0), Value.int .i64 (f_1)]) (o := 1) rfl rfl (blk_ro hbf) rfl ?_
  replace hM := ck_some hM; obtain ⟨ck8, hM⟩ := hM
  refine r_gv (Value.string (⟨(Lib.itoa (f_1)).toArray⟩)) 34 _ rfl rfl rfl (ev_callF rfl call_34 rfl) (fun own_ nw_ hs_ => itoa_i (f_1) ck8 _) (fun _ _ _ _ _ => Iff.rfl) ?_
  replace hM := ck_some hM; obtain ⟨ck9, hM⟩ := hM
  refine r_v (Value.string (⟨((((([102, 97, 117, 108, 116, 32] : List UInt8)) ++ (Lib.itoa (f_0))) ++ (([32, 97, 116, 32, 98, 121, 116, 101, 32] : List UInt8))) ++ (Lib.itoa (f_1))).toArray⟩)) rfl rfl rfl (ev_addS ck9 rfl rfl) ?_
  refine r_v (Value.string (⟨((((([102, 97, 117, 108, 116, 32] : List UInt8)) ++ (Lib.itoa (f_0))) ++ (([32, 97, 116, 32, 98, 121, 116, 101, 32] : List UInt8))) ++ (Lib.itoa (f_1))).toArray⟩)) rfl rfl rfl rfl ?_
  refine lx_nil ?_
  refine hK4 _ _ ?_; try clear hK4 K4
  obtain rfl := Option.some.inj hM
  refine A_ret (fun hn => endsV (v0 := Value.string (⟨((((([102, 97, 117, 108, 116, 32] : List UInt8)) ++ (Lib.itoa (f_0))) ++ (([32, 97, 116, 32, 98, 121, 116, 101, 32] : List UInt8))) ++ (Lib.itoa (f_1))).toArray⟩)) rfl (res1 rfl))
def shunterlaw07_digits_m (_ : Nat) (n : Int) : Option (List UInt8) := if (n : Int) < 0 then some ([]) else ck ((2 : Int) ≤ 10 ∧ (10 : Int) ≤ 16) (some (textI (10) ((0#64) ++ (BitVec.ofInt 64 (n)))))
set_option maxRecDepth 100000 in
set_option maxHeartbeats 8000000 in
theorem shunterlaw07_digits_g (N : Nat) (n : Int) (r : List UInt8) (hM : shunterlaw07_digits_m N n = some r) : Gives Tryd.prog 20 #[Value.int .i64 (n)] (Value.string (⟨(r).toArray⟩)) := by
  unfold shunterlaw07_digits_m at hM
  refine gives_of_A follows Tryd.func20 rfl 9 rfl (upd (fun _ => undef) 0 (Value.int .i64 (n))) (by funext k; match k with | 0 => rfl | k + 1 => rfl) (fun base0_ => ?_)
  refine A_seq fun K1 hK1 => ?_
  refine A_reg ?_
  refine r_v (Value.string (⟨#[]⟩)) rfl rfl rfl rfl ?_
  refine lx_nil ?_
  refine hK1 _ _ ?_; try clear hK1 K1
  refine A_seq fun K2 hK2 => ?_
  refine A_seq fun K3 hK3 => ?_
  refine A_reg ?_
  refine r_v (Value.int .i64 (n)) rfl rfl rfl rfl ?_
  refine r_v (Value.bool (decide ((n : Int) < 0))) rfl rfl rfl rfl ?_
  refine lx_nil ?_
  refine hK3 _ _ ?_; try clear hK3 K3
  refine A_cond (decide ((n : Int) < 0)) rfl (fun hc4 => ?_) (fun hc4 => ?_)
  · replace hM := ifp (of_decide_eq_true hc4) hM
    refine A_seq fun K5 hK5 => ?_
    refine A_reg ?_
    refine r_v (Value.string (⟨#[]⟩)) rfl rfl rfl rfl ?_
    refine lx_nil ?_
    refine hK5 _ _ ?_; try clear hK5 K5
    obtain rfl := Option.some.inj hM
    refine A_ret (fun hn => ends_eq (v0 := Value.string (⟨#[]⟩)) rfl (res1 rfl))
  · replace hM := ifn (of_decide_eq_false hc4) hM
    refine A_skip ?_
    refine hK2 _ _ ?_; try clear hK2 K2
    refine A_seq fun K6 hK6 => ?_
    refine A_reg ?_
    refine r_v (Value.int .i64 (n)) rfl rfl rfl rfl ?_
    refine r_w (U (BitVec.ofInt 64 (n))) rfl rfl (U_wrapI (n)) (fun _ => rfl) ?_
    refine r_c (Value.agg (rowF (BitVec.getLsbD ((0#64) ++ (BitVec.ofInt 64 (n)))))) rfl _ _ (ev_callF rfl call_36 rfl) (of_g (0#64) (BitVec.ofInt 64 (n))) ?_
    replace hM := ck_some hM; obtain ⟨ck7, hM⟩ := hM
    refine r_c (Value.string (⟨(textI (10) ((0#64) ++ (BitVec.ofInt 64 (n)))).toArray⟩)) rfl _ _ (ev_callF rfl call_35 rfl) (rtext_t ((0#64) ++ (BitVec.ofInt 64 (n))) (10) ck7) ?_
    refine r_v (Value.string (⟨(textI (10) ((0#64) ++ (BitVec.ofInt 64 (n)))).toArray⟩)) rfl rfl rfl rfl ?_
    refine lx_nil ?_
    refine hK6 _ _ ?_; try clear hK6 K6
    obtain rfl := Option.some.inj hM
    refine A_ret (fun hn => ends_eq (v0 := Value.string (⟨(textI (10) ((0#64) ++ (BitVec.ofInt 64 (n)))).toArray⟩)) rfl (res1 rfl))
def wire_mustFault_v1_m (_ : Nat) (_ : Int) (_ : Int) : Option (Unit) := some (())
set_option maxRecDepth 100000 in
set_option maxHeartbeats 8000000 in
theorem wire_mustFault_v1_g (N : Nat) (err_0 : Int) (err_1 : Int) (r : Unit) (hM : wire_mustFault_v1_m N err_0 err_1 = some r) (ro : Addr → Option Value) (berr : Nat) (_hberr : Blk ro berr [Value.int .i64 (err_0), Value.int .i64 (err_1)]) : Does Tryd.prog 37 #[Value.iface 44 (Value.pointer (some ⟨berr, 0, none⟩))] ro [] (pV (Value.pointer (some ⟨berr, 0, none⟩))) := by
  unfold wire_mustFault_v1_m at hM
  refine does_of_A follows Tryd.func37 rfl 5 rfl (upd (fun _ => undef) 0 (Value.iface 44 (Value.pointer (some ⟨berr, 0, none⟩)))) (by funext k; match k with | 0 => rfl | k + 1 => rfl) (fun base0_ => ?_)
  refine A_seq fun K1 hK1 => ?_
  refine A_reg ?_
  refine r_v (Value.pointer none) rfl rfl rfl rfl ?_
  refine lx_nil ?_
  refine hK1 _ _ ?_; try clear hK1 K1
  refine A_seq fun K2 hK2 => ?_
  refine A_reg ?_
  refine r_v (Value.iface 44 (Value.pointer (some ⟨berr, 0, none⟩))) rfl rfl rfl rfl ?_
  refine r_v (Value.pointer (some ⟨berr, 0, none⟩)) rfl rfl rfl rfl ?_
  refine r_v (Value.pointer (some ⟨berr, 0, none⟩)) rfl rfl rfl rfl ?_
  refine lx_nil ?_
  refine hK2 _ _ ?_; try clear hK2 K2
  obtain rfl := Option.some.inj hM
  refine A_ret (fun hn => endsV (v0 := Value.pointer (some ⟨berr, 0, none⟩)) rfl (res1 rfl))
def wire_Only_v1_m (N : Nat) (err_0 : Int) (err_1 : Int) : Option (Unit) := (wire_mustFault_v1_m N err_0 err_1).bind fun r3 => some (())
set_option maxRecDepth 100000 in
set_option maxHeartbeats 8000000 in
theorem wire_Only_v1_g (N : Nat) (err_0 : Int) (err_1 : Int) (r : Unit) (hM : wire_Only_v1_m N err_0 err_1 = some r) (ro : Addr → Option Value) (berr : Nat) (hberr : Blk ro berr [Value.int .i64 (err_0), Value.int .i64 (err_1)]) : Does Tryd.prog 21 #[Value.iface 44 (Value.pointer (some ⟨berr, 0, none⟩))] ro [] (pV (Value.pointer (some ⟨berr, 0, none⟩))) := by
  unfold wire_Only_v1_m at hM
  refine does_of_A follows Tryd.func21 rfl 5 rfl (upd (fun _ => undef) 0 (Value.iface 44 (Value.pointer (some ⟨berr, 0, none⟩)))) (by funext k; match k with | 0 => rfl | k + 1 => rfl) (fun base0_ => ?_)
  refine A_seq fun K1 hK1 => ?_
  refine A_reg ?_
  refine r_v (Value.pointer none) rfl rfl rfl rfl ?_
  refine lx_nil ?_
  refine hK1 _ _ ?_; try clear hK1 K1
  refine A_seq fun K2 hK2 => ?_
  refine A_regC [(some 4, false)] (conG Tryd.prog [(4, fun _ _ v_ L_ U_ => (pV (Value.pointer (some ⟨berr, 0, none⟩))) v_ L_ U_)]) ?_
  refine r_v (Value.iface 44 (Value.pointer (some ⟨berr, 0, none⟩))) rfl rfl rfl rfl ?_
  replace hM := bind_sm hM; obtain ⟨r3, hr4, hM⟩ := hM
  refine r_gv (Value.pointer (some ⟨berr, 0, none⟩)) 37 _ rfl rfl rfl (ev_callF rfl call_37 rfl) (fun own_ nw_ hs_ => wire_mustFault_v1_g N err_0 err_1 _ hr4 hs_.view berr (blk_ro hberr own_ nw_ hs_)) (fun _ _ _ _ _ => Iff.rfl) ?_
  refine r_v (Value.pointer (some ⟨berr, 0, none⟩)) rfl rfl rfl rfl ?_
  refine lx_nil ?_
  refine hK2 _ _ ?_; try clear hK2 K2
  obtain rfl := Option.some.inj hM
  refine A_ret (fun hn => endsV (v0 := Value.pointer (some ⟨berr, 0, none⟩)) rfl (res1 rfl))
def wire_asFault_v1_m (_ : Nat) (_ : Int) (_ : Int) : Option (Bool) := some (true)
set_option maxRecDepth 100000 in
set_option maxHeartbeats 8000000 in
theorem wire_asFault_v1_g (N : Nat) (err_0 : Int) (err_1 : Int) (r : Bool) (hM : wire_asFault_v1_m N err_0 err_1 = some r) (ro : Addr → Option Value) (berr : Nat) (_hberr : Blk ro berr [Value.int .i64 (err_0), Value.int .i64 (err_1)]) : Does Tryd.prog 24 #[Value.iface 44 (Value.pointer (some ⟨berr, 0, none⟩))] ro [] (pV (Value.tuple #[Value.pointer (some ⟨berr, 0, none⟩), Value.bool (r)])) := by
  unfold wire_asFault_v1_m at hM
  refine does_of_A follows Tryd.func24 rfl 13 rfl (upd (fun _ => undef) 0 (Value.iface 44 (Value.pointer (some ⟨berr, 0, none⟩)))) (by funext k; match k with | 0 => rfl | k + 1 => rfl) (fun base0_ => ?_)
  refine A_seq fun K1 hK1 => ?_
  refine A_reg ?_
  refine r_v (Value.pointer none) rfl rfl rfl rfl ?_
  refine r_v (Value.bool (false)) rfl rfl rfl rfl ?_
  refine lx_nil ?_
  refine hK1 _ _ ?_; try clear hK1 K1
  refine A_seq fun K2 hK2 => ?_
  refine A_reg ?_
  refine r_v (Value.iface 44 (Value.pointer (some ⟨berr, 0, none⟩))) rfl rfl rfl rfl ?_
  refine r_v (Value.tuple #[Value.pointer (some ⟨berr, 0, none⟩), Value.bool (true)]) rfl rfl rfl rfl ?_
  refine r_v (Value.tuple #[Value.pointer (some ⟨berr, 0, none⟩), Value.bool (true)]) rfl rfl rfl rfl ?_
  refine r_v (Value.pointer (some ⟨berr, 0, none⟩)) rfl rfl rfl rfl ?_
  refine r_v (Value.bool (true)) rfl rfl rfl rfl ?_
  refine r_v (Value.pointer (some ⟨berr, 0, none⟩)) rfl rfl rfl rfl ?_
  refine r_v (Value.bool (true)) rfl rfl rfl rfl ?_
  refine lx_nil ?_
  refine hK2 _ _ ?_; try clear hK2 K2
  refine A_seq fun K3 hK3 => ?_
  refine A_reg ?_
  refine r_v (Value.pointer (some ⟨berr, 0, none⟩)) rfl rfl rfl rfl ?_
  refine r_v (Value.bool (true)) rfl rfl rfl rfl ?_
  refine r_v (Value.pointer (some ⟨berr, 0, none⟩)) rfl rfl rfl rfl ?_
  refine r_v (Value.bool (true)) rfl rfl rfl rfl ?_
  refine lx_nil ?_
  refine hK3 _ _ ?_; try clear hK3 K3
  obtain rfl := Option.some.inj hM
  refine A_ret (fun hn => endsV (v0 := Value.tuple #[Value.pointer (some ⟨berr, 0, none⟩), Value.bool (true)]) rfl (res2 rfl rfl))
def wire_Why_v2_m (N : Nat) (err_0 : Int) (err_1 : Int) : Option (Int × Int) := (wire_asFault_v1_m N err_0 err_1).bind fun r5 => if (r5) = true then some (err_0, err_1) else some (10, 0)
set_option maxRecDepth 100000 in
set_option maxHeartbeats 8000000 in
theorem wire_Why_v2_g (N : Nat) (err_0 : Int) (err_1 : Int) (r : Int × Int) (hM : wire_Why_v2_m N err_0 err_1 = some r) (ro : Addr → Option Value) (berr : Nat) (hberr : Blk ro berr [Value.int .i64 (err_0), Value.int .i64 (err_1)]) : Does Tryd.prog 7 #[Value.iface 44 (Value.pointer (some ⟨berr, 0, none⟩))] ro [] (pV (Value.tuple #[Value.int .i64 (r.1), Value.int .i64 (r.2)])) := by
  unfold wire_Why_v2_m at hM
  refine does_of_A follows Tryd.func7 rfl 27 rfl (upd (fun _ => undef) 0 (Value.iface 44 (Value.pointer (some ⟨berr, 0, none⟩)))) (by funext k; match k with | 0 => rfl | k + 1 => rfl) (fun base0_ => ?_)
  refine A_seq fun K1 hK1 => ?_
  refine A_reg ?_
  refine r_v (Value.int .i64 (0)) rfl rfl rfl rfl ?_
  refine r_v (Value.int .i64 (0)) rfl rfl rfl rfl ?_
  refine lx_nil ?_
  refine hK1 _ _ ?_; try clear hK1 K1
  refine A_seq fun K2 hK2 => ?_
  refine A_seq fun K3 hK3 => ?_
  refine A_reg ?_
  refine r_v (Value.iface 44 (Value.pointer (some ⟨berr, 0, none⟩))) rfl rfl rfl rfl ?_
  refine r_v (Value.bool (false)) rfl rfl rfl rfl ?_
  refine lx_nil ?_
  refine hK3 _ _ ?_; try clear hK3 K3
  refine A_cond false rfl (fun h_ => nomatch h_) (fun _ => ?_)
  refine A_skip ?_
  refine hK2 _ _ ?_; try clear hK2 K2
  refine A_seq fun K4 hK4 => ?_
  refine A_regC [(some 10, false)] (conG Tryd.prog [(10, fun _ _ v_ L_ U_ => ∀ u0_, wire_asFault_v1_m N err_0 err_1 = some u0_ → (pV (Value.tuple #[Value.pointer (some ⟨berr, 0, none⟩), Value.bool (u0_)])) v_ L_ U_)]) ?_
  refine r_v (Value.iface 44 (Value.pointer (some ⟨berr, 0, none⟩))) rfl rfl rfl rfl ?_
  replace hM := bind_sm hM; obtain ⟨r5, hr6, hM⟩ := hM
  refine r_gv (Value.tuple #[Value.pointer (some ⟨berr, 0, none⟩), Value.bool (r5)]) 24 _ rfl rfl rfl (ev_callF rfl call_24 rfl) (fun own_ nw_ hs_ => wire_asFault_v1_g N err_0 err_1 _ hr6 hs_.view berr (blk_ro hberr own_ nw_ hs_)) (fun _ _ v_ L_ U_ => ⟨fun h_ => h_ _ hr6, fun h_ => by intro _ e_; cases Option.some.inj (e_.symm.trans hr6); exact h_⟩) ?_
  refine r_v (Value.tuple #[Value.pointer (some ⟨berr, 0, none⟩), Value.bool (r5)]) rfl rfl rfl rfl ?_
  refine r_v (Value.pointer (some ⟨berr, 0, none⟩)) rfl rfl rfl rfl ?_
  refine r_v (Value.bool (r5)) rfl rfl rfl rfl ?_
  refine r_v (Value.pointer (some ⟨berr, 0, none⟩)) rfl rfl rfl rfl ?_
  refine r_v (Value.bool (r5)) rfl rfl rfl rfl ?_
  refine lx_nil ?_
  refine hK4 _ _ ?_; try clear hK4 K4
  refine A_seq fun K7 hK7 => ?_
  refine A_block ?_
  refine A_seq fun K8 hK8 => ?_
  refine A_reg ?_
  refine r_v (Value.bool (r5)) rfl rfl rfl rfl ?_
  refine r_v (Value.bool (!(r5))) rfl rfl rfl rfl ?_
  refine r_v (Value.bool (!(r5))) rfl rfl rfl rfl ?_
  refine lx_nil ?_
  refine hK8 _ _ ?_; try clear hK8 K8
  refine A_cond (!(r5)) rfl (fun hc9 => ?_) (fun hc9 => ?_)
  · replace hM := ifn (Bool.eq_false_iff.1 (not_t hc9)) hM
    refine A_seq fun K10 hK10 => ?_
    refine A_reg ?_
    refine r_v (Value.int .i64 (10)) rfl rfl rfl rfl ?_
    refine r_v (Value.int .i64 (0)) rfl rfl rfl rfl ?_
    refine lx_nil ?_
    refine hK10 _ _ ?_; try clear hK10 K10
    obtain rfl := Option.some.inj hM
    refine A_ret (fun hn => endsV (v0 := Value.tuple #[Value.int .i64 (10), Value.int .i64 (0)]) rfl (res2 rfl rfl))
  · replace hM := ifp (not_f hc9) hM
    refine A_seq fun K11 hK11 => ?_
    refine A_reg ?_
    refine r_v (Value.pointer (some ⟨berr, 0, none⟩)) rfl rfl rfl rfl ?_
    refine r_v (Value.bool (false)) rfl rfl rfl rfl ?_
    refine r_v (Value.bool (false)) rfl rfl rfl rfl ?_
    refine lx_nil ?_
    refine hK11 _ _ ?_; try clear hK11 K11
    refine A_cond false rfl (fun h_ => nomatch h_) (fun _ => ?_)
    refine A_skip ?_
    refine hK7 _ _ ?_; try clear hK7 K7
    refine A_seq fun K12 hK12 => ?_
    refine A_draw [] (by decide +kernel) (fun hn => sep_nil) ?_
    refine r_v (Value.pointer (some ⟨berr, 0, none⟩)) rfl rfl rfl rfl ?_
    refine r_v (Value.pointer (some ⟨berr, 0, none⟩)) rfl rfl rfl rfl ?_
    refine r_v (Value.pointer (some ⟨berr, 0, none⟩)) rfl rfl rfl rfl ?_
    refine r_lb (Value.int .i64 (err_0)) (vs := [Value.int .i64 (err_0), Value.int .i64 (err_1)]) (o := 0) rfl rfl (blk_ro hberr) rfl ?_
    refine r_v (Value.pointer (some ⟨berr, 0, none⟩)) rfl rfl rfl rfl ?_
    refine r_v (Value.pointer (some ⟨berr, 0, none⟩)) rfl rfl rfl rfl ?_
    refine r_v (Value.pointer (some ⟨berr, 1, none⟩)) rfl rfl rfl rfl ?_
    refine r_lb (Value.int .i64 (err_1)) (vs := [Value.int .i64 (err_0), Value.int .i64 (err_1)]) (o := 1) rfl rfl (blk_ro hberr) rfl ?_
    refine r_v (Value.int .i64 (err_0)) rfl rfl rfl rfl ?_
    refine r_v (Value.int .i64 (err_1)) rfl rfl rfl rfl ?_
    refine lx_nil ?_
    refine hK12 _ _ ?_; try clear hK12 K12
    obtain rfl := Option.some.inj hM
    refine A_ret (fun hn => endsV (v0 := Value.tuple #[Value.int .i64 (err_0), Value.int .i64 (err_1)]) rfl (res2 rfl rfl))
end Go.Proofs.YtdgejbbelmhbdaaDoor
