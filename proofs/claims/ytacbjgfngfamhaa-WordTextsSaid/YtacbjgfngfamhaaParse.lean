/- parsing -/
import Derived.Test.YtacbjgfngfamhaaMd
import Derived.Test.YtacbjgfngfamhaaMove
import Derived.Test.YtacbjgfngfamhaaReft
namespace Go.Proofs.Ytacbjgfngfamhaa
open Go Go.RowKit Go.Eng
def word_mayBase_m (N : Nat) (base : Int) : Option (Bool) := if (base : Int) ≥ 2 then some (decide ((base : Int) ≤ 16)) else some (false)
set_option maxRecDepth 100000 in
set_option maxHeartbeats 400000 in
theorem word_mayBase_g (N : Nat) (base : Int) (r : Bool) (hM : word_mayBase_m N base = some r) : Gives Try.prog 44 #[Value.int .i64 (base)] (Value.bool (r)) := by
  unfold word_mayBase_m at hM
  refine gives_of_A follows Try.func44 rfl 9 rfl (upd (fun _ => undef) 0 (Value.int .i64 (base))) (by funext k; match k with | 0 => rfl | k + 1 => rfl) (fun base0_ => ?_)
  refine A_seq fun K1 hK1 => ?_
  refine A_reg ?_
  refine r_v (Value.bool (false)) rfl rfl rfl rfl ?_
  refine lx_nil ?_
  refine hK1 _ _ ?_; try clear hK1 K1
  refine A_seq fun K2 hK2 => ?_
  refine A_reg ?_
  refine r_v (Value.int .i64 (base)) rfl rfl rfl rfl ?_
  refine r_v (Value.bool (decide ((base : Int) ≥ 2))) rfl rfl rfl rfl ?_
  refine r_v (Value.bool (decide ((base : Int) ≥ 2))) rfl rfl rfl rfl ?_
  rcases hg3 : (decide ((base : Int) ≥ 2)) with _ | _
  · have hM := ifn (of_decide_eq_false hg3) hM
    refine r_n false rfl (by decide) rfl ?_
    refine r_n false rfl (by decide) rfl ?_
    refine r_v (Value.bool (false)) rfl rfl rfl rfl ?_
    refine r_v (Value.bool (false)) rfl rfl rfl rfl ?_
    refine lx_nil ?_
    refine hK2 _ _ ?_; try clear hK2 K2
    obtain rfl := Option.some.inj hM
    refine A_ret (fun hn => ends_eq (v0 := Value.bool (false)) rfl (res1 rfl))
  · have hM := ifp (of_decide_eq_true hg3) hM
    refine r_y rfl ?_
    refine r_v (Value.int .i64 (base)) rfl rfl rfl rfl ?_
    refine r_y rfl ?_
    refine r_v (Value.bool (decide ((base : Int) ≤ 16))) rfl rfl rfl rfl ?_
    refine r_v (Value.bool (decide ((base : Int) ≤ 16))) rfl rfl rfl rfl ?_
    refine r_v (Value.bool (decide ((base : Int) ≤ 16))) rfl rfl rfl rfl ?_
    refine lx_nil ?_
    refine hK2 _ _ ?_; try clear hK2 K2
    obtain rfl := Option.some.inj hM
    refine A_ret (fun hn => ends_eq (v0 := Value.bool (decide ((base : Int) ≤ 16))) rfl (res1 rfl))
def word_digit_k6 (c : Int) (x5_ : Bool) : Option (Int) := if (x5_) = true then ck ((-9223372036854775808 ≤ (IntKind.u8.wrap (c - 65)) ∧ (IntKind.u8.wrap (c - 65)) ≤ 9223372036854775807)) (ck ((-9223372036854775808 ≤ ((IntKind.u8.wrap (c - 65)) + 10) ∧ ((IntKind.u8.wrap (c - 65)) + 10) ≤ 9223372036854775807)) (some (((IntKind.u8.wrap (c - 65)) + 10)))) else some (16)
def word_digit_k4 (c : Int) (x3_ : Bool) : Option (Int) := if (x3_) = true then ck ((-9223372036854775808 ≤ (IntKind.u8.wrap (c - 97)) ∧ (IntKind.u8.wrap (c - 97)) ≤ 9223372036854775807)) (ck ((-9223372036854775808 ≤ ((IntKind.u8.wrap (c - 97)) + 10) ∧ ((IntKind.u8.wrap (c - 97)) + 10) ≤ 9223372036854775807)) (some (((IntKind.u8.wrap (c - 97)) + 10)))) else if (c : Int) ≥ 65 then word_digit_k6 c (decide ((c : Int) ≤ 70)) else word_digit_k6 c (false)
def word_digit_k2 (c : Int) (x1_ : Bool) : Option (Int) := if (x1_) = true then ck ((-9223372036854775808 ≤ (IntKind.u8.wrap (c - 48)) ∧ (IntKind.u8.wrap (c - 48)) ≤ 9223372036854775807)) (some ((IntKind.u8.wrap (c - 48)))) else if (c : Int) ≥ 97 then word_digit_k4 c (decide ((c : Int) ≤ 102)) else word_digit_k4 c (false)
def word_digit_m (N : Nat) (c : Int) : Option (Int) := if (c : Int) ≥ 48 then word_digit_k2 c (decide ((c : Int) ≤ 57)) else word_digit_k2 c (false)
set_option maxRecDepth 100000 in
set_option maxHeartbeats 400000 in
theorem word_digit_g (N : Nat) (c : Int) (r : Int) (hM : word_digit_m N c = some r) : Gives Try.prog 45 #[Value.int .u8 (c)] (Value.int .i64 (r)) := by
  unfold word_digit_m at hM
  refine gives_of_A follows Try.func45 rfl 35 rfl (upd (fun _ => undef) 0 (Value.int .u8 (c))) (by funext k; match k with | 0 => rfl | k + 1 => rfl) (fun base0_ => ?_)
  refine A_seq fun K1 hK1 => ?_
  refine A_reg ?_
  refine r_v (Value.int .i64 (0)) rfl rfl rfl rfl ?_
  refine lx_nil ?_
  refine hK1 _ _ ?_; try clear hK1 K1
  refine A_seq fun K2 hK2 => ?_
  refine A_block ?_
  refine A_cut (fun tt ll => ∃ (x1_ : Bool), (word_digit_k2 c x1_ = some r) ∧ Is [(0, Value.int .u8 (c)), (3, Value.bool (x1_))] [] tt ll) ?_ ?_
  · refine A_reg ?_
    refine r_v (Value.int .u8 (c)) rfl rfl rfl rfl ?_
    refine r_v (Value.bool (decide ((c : Int) ≥ 48))) rfl rfl rfl rfl ?_
    refine r_v (Value.bool (decide ((c : Int) ≥ 48))) rfl rfl rfl rfl ?_
    rcases hg17 : (decide ((c : Int) ≥ 48)) with _ | _
    · have hM := ifn (of_decide_eq_false hg17) hM
      refine r_n false rfl (by decide) rfl ?_
      refine r_n false rfl (by decide) rfl ?_
      refine r_v (Value.bool (false)) rfl rfl rfl rfl ?_
      refine r_v (Value.bool (false)) rfl rfl rfl rfl ?_
      refine lx_nil ?_
      refine fg _ (List.Sublist.slnil) ?_
      exact ⟨false, hM, is_mk rfl rfl⟩
    · have hM := ifp (of_decide_eq_true hg17) hM
      refine r_y rfl ?_
      refine r_v (Value.int .u8 (c)) rfl rfl rfl rfl ?_
      refine r_y rfl ?_
      refine r_v (Value.bool (decide ((c : Int) ≤ 57))) rfl rfl rfl rfl ?_
      refine r_v (Value.bool (decide ((c : Int) ≤ 57))) rfl rfl rfl rfl ?_
      refine r_v (Value.bool (decide ((c : Int) ≤ 57))) rfl rfl rfl rfl ?_
      refine lx_nil ?_
      refine fg _ (List.Sublist.slnil) ?_
      exact ⟨decide ((c : Int) ≤ 57), hM, is_mk rfl rfl⟩
  · clear hM; rintro t l ⟨x1_, hM, ⟨T, rfl⟩, rfl⟩
    unfold word_digit_k2 at hM
    refine A_cond (x1_) rfl (fun hc3 => ?_) (fun hc3 => ?_)
    · have hM := ifp hc3 hM
      refine A_seq fun K4 hK4 => ?_
      refine A_reg ?_
      refine r_v (Value.int .u8 (c)) rfl rfl rfl rfl ?_
      refine r_v (Value.int .u8 ((IntKind.u8.wrap (c - 48)))) rfl rfl rfl rfl ?_
      obtain ⟨ck5, hM⟩ := ck_some hM
      refine r_w (Value.int .i64 ((IntKind.u8.wrap (c - 48)))) rfl rfl (wi64 rfl ck5.1 ck5.2) (fun _ => rfl) ?_
      refine r_v (Value.int .i64 ((IntKind.u8.wrap (c - 48)))) rfl rfl rfl rfl ?_
      refine lx_nil ?_
      refine hK4 _ _ ?_; try clear hK4 K4
      obtain rfl := Option.some.inj hM
      refine A_ret (fun hn => ends_eq (v0 := Value.int .i64 ((IntKind.u8.wrap (c - 48)))) rfl (res1 rfl))
    · have hM := ifn (Bool.eq_false_iff.1 hc3) hM
      refine A_cut (fun tt ll => ∃ (x3_ : Bool), (word_digit_k4 c x3_ = some r) ∧ Is [(0, Value.int .u8 (c)), (13, Value.bool (x3_))] [] tt ll) ?_ ?_
      · refine A_reg ?_
        refine r_v (Value.int .u8 (c)) rfl rfl rfl rfl ?_
        refine r_v (Value.bool (decide ((c : Int) ≥ 97))) rfl rfl rfl rfl ?_
        refine r_v (Value.bool (decide ((c : Int) ≥ 97))) rfl rfl rfl rfl ?_
        rcases hg16 : (decide ((c : Int) ≥ 97)) with _ | _
        · have hM := ifn (of_decide_eq_false hg16) hM
          refine r_n false rfl (by decide) rfl ?_
          refine r_n false rfl (by decide) rfl ?_
          refine r_v (Value.bool (false)) rfl rfl rfl rfl ?_
          refine r_v (Value.bool (false)) rfl rfl rfl rfl ?_
          refine lx_nil ?_
          refine fg _ (List.Sublist.slnil) ?_
          exact ⟨false, hM, is_mk rfl rfl⟩
        · have hM := ifp (of_decide_eq_true hg16) hM
          refine r_y rfl ?_
          refine r_v (Value.int .u8 (c)) rfl rfl rfl rfl ?_
          refine r_y rfl ?_
          refine r_v (Value.bool (decide ((c : Int) ≤ 102))) rfl rfl rfl rfl ?_
          refine r_v (Value.bool (decide ((c : Int) ≤ 102))) rfl rfl rfl rfl ?_
          refine r_v (Value.bool (decide ((c : Int) ≤ 102))) rfl rfl rfl rfl ?_
          refine lx_nil ?_
          refine fg _ (List.Sublist.slnil) ?_
          exact ⟨decide ((c : Int) ≤ 102), hM, is_mk rfl rfl⟩
      · clear hM; rintro t l ⟨x3_, hM, ⟨T, rfl⟩, rfl⟩
        unfold word_digit_k4 at hM
        refine A_cond (x3_) rfl (fun hc6 => ?_) (fun hc6 => ?_)
        · have hM := ifp hc6 hM
          refine A_seq fun K7 hK7 => ?_
          refine A_reg ?_
          refine r_v (Value.int .u8 (c)) rfl rfl rfl rfl ?_
          refine r_v (Value.int .u8 ((IntKind.u8.wrap (c - 97)))) rfl rfl rfl rfl ?_
          obtain ⟨ck8, hM⟩ := ck_some hM
          refine r_w (Value.int .i64 ((IntKind.u8.wrap (c - 97)))) rfl rfl (wi64 rfl ck8.1 ck8.2) (fun _ => rfl) ?_
          obtain ⟨ck9, hM⟩ := ck_some hM
          refine r_v (Value.int .i64 (((IntKind.u8.wrap (c - 97)) + 10))) rfl rfl (wi64 rfl ck9.1 ck9.2) rfl ?_
          refine r_v (Value.int .i64 (((IntKind.u8.wrap (c - 97)) + 10))) rfl rfl rfl rfl ?_
          refine lx_nil ?_
          refine hK7 _ _ ?_; try clear hK7 K7
          obtain rfl := Option.some.inj hM
          refine A_ret (fun hn => ends_eq (v0 := Value.int .i64 (((IntKind.u8.wrap (c - 97)) + 10))) rfl (res1 rfl))
        · have hM := ifn (Bool.eq_false_iff.1 hc6) hM
          refine A_cut (fun tt ll => ∃ (x5_ : Bool), (word_digit_k6 c x5_ = some r) ∧ Is [(0, Value.int .u8 (c)), (24, Value.bool (x5_))] [] tt ll) ?_ ?_
          · refine A_reg ?_
            refine r_v (Value.int .u8 (c)) rfl rfl rfl rfl ?_
            refine r_v (Value.bool (decide ((c : Int) ≥ 65))) rfl rfl rfl rfl ?_
            refine r_v (Value.bool (decide ((c : Int) ≥ 65))) rfl rfl rfl rfl ?_
            rcases hg15 : (decide ((c : Int) ≥ 65)) with _ | _
            · have hM := ifn (of_decide_eq_false hg15) hM
              refine r_n false rfl (by decide) rfl ?_
              refine r_n false rfl (by decide) rfl ?_
              refine r_v (Value.bool (false)) rfl rfl rfl rfl ?_
              refine r_v (Value.bool (false)) rfl rfl rfl rfl ?_
              refine lx_nil ?_
              refine fg _ (List.Sublist.slnil) ?_
              exact ⟨false, hM, is_mk rfl rfl⟩
            · have hM := ifp (of_decide_eq_true hg15) hM
              refine r_y rfl ?_
              refine r_v (Value.int .u8 (c)) rfl rfl rfl rfl ?_
              refine r_y rfl ?_
              refine r_v (Value.bool (decide ((c : Int) ≤ 70))) rfl rfl rfl rfl ?_
              refine r_v (Value.bool (decide ((c : Int) ≤ 70))) rfl rfl rfl rfl ?_
              refine r_v (Value.bool (decide ((c : Int) ≤ 70))) rfl rfl rfl rfl ?_
              refine lx_nil ?_
              refine fg _ (List.Sublist.slnil) ?_
              exact ⟨decide ((c : Int) ≤ 70), hM, is_mk rfl rfl⟩
          · clear hM; rintro t l ⟨x5_, hM, ⟨T, rfl⟩, rfl⟩
            unfold word_digit_k6 at hM
            refine A_cond (x5_) rfl (fun hc10 => ?_) (fun hc10 => ?_)
            · have hM := ifp hc10 hM
              refine A_seq fun K11 hK11 => ?_
              refine A_reg ?_
              refine r_v (Value.int .u8 (c)) rfl rfl rfl rfl ?_
              refine r_v (Value.int .u8 ((IntKind.u8.wrap (c - 65)))) rfl rfl rfl rfl ?_
              obtain ⟨ck12, hM⟩ := ck_some hM
              refine r_w (Value.int .i64 ((IntKind.u8.wrap (c - 65)))) rfl rfl (wi64 rfl ck12.1 ck12.2) (fun _ => rfl) ?_
              obtain ⟨ck13, hM⟩ := ck_some hM
              refine r_v (Value.int .i64 (((IntKind.u8.wrap (c - 65)) + 10))) rfl rfl (wi64 rfl ck13.1 ck13.2) rfl ?_
              refine r_v (Value.int .i64 (((IntKind.u8.wrap (c - 65)) + 10))) rfl rfl rfl rfl ?_
              refine lx_nil ?_
              refine hK11 _ _ ?_; try clear hK11 K11
              obtain rfl := Option.some.inj hM
              refine A_ret (fun hn => ends_eq (v0 := Value.int .i64 (((IntKind.u8.wrap (c - 65)) + 10))) rfl (res1 rfl))
            · have hM := ifn (Bool.eq_false_iff.1 hc10) hM
              refine A_skip ?_
              refine hK2 _ _ ?_; try clear hK2 K2
              refine A_seq fun K14 hK14 => ?_
              refine A_reg ?_
              refine r_v (Value.int .i64 (16)) rfl rfl rfl rfl ?_
              refine lx_nil ?_
              refine hK14 _ _ ?_; try clear hK14 K14
              obtain rfl := Option.some.inj hM
              refine A_ret (fun hn => ends_eq (v0 := Value.int .i64 (16)) rfl (res1 rfl))
def word_behind_m (N : Nat) (a : BitVec 128) (base : Int) (d : Int) : Option (BitVec 128 × Bool) := if (mh (hi (a)) (BitVec.ofInt 64 (base))) ≠ (0#64) then some (((((hi (a)) * (BitVec.ofInt 64 (base))) ++ ((lo (a)) * (BitVec.ofInt 64 (base)))) + ((mh (lo (a)) (BitVec.ofInt 64 (base))) ++ (0#64))) + ((0#64) ++ (BitVec.ofInt 64 (d))), true) else if (BitVec.carry 128 (((hi (a)) * (BitVec.ofInt 64 (base))) ++ ((lo (a)) * (BitVec.ofInt 64 (base)))) ((mh (lo (a)) (BitVec.ofInt 64 (base))) ++ (0#64)) false) = true then some (((((hi (a)) * (BitVec.ofInt 64 (base))) ++ ((lo (a)) * (BitVec.ofInt 64 (base)))) + ((mh (lo (a)) (BitVec.ofInt 64 (base))) ++ (0#64))) + ((0#64) ++ (BitVec.ofInt 64 (d))), true) else some (((((hi (a)) * (BitVec.ofInt 64 (base))) ++ ((lo (a)) * (BitVec.ofInt 64 (base)))) + ((mh (lo (a)) (BitVec.ofInt 64 (base))) ++ (0#64))) + ((0#64) ++ (BitVec.ofInt 64 (d))), BitVec.carry 128 ((((hi (a)) * (BitVec.ofInt 64 (base))) ++ ((lo (a)) * (BitVec.ofInt 64 (base)))) + ((mh (lo (a)) (BitVec.ofInt 64 (base))) ++ (0#64))) ((0#64) ++ (BitVec.ofInt 64 (d))) false)
set_option maxRecDepth 100000 in
set_option maxHeartbeats 400000 in
theorem word_behind_g (N : Nat) (a : BitVec 128) (base : Int) (d : Int) (r : BitVec 128 × Bool) (hM : word_behind_m N a base d = some r) : Gives Try.prog 46 #[Value.agg #[U (hi (a)), U (lo (a))], Value.int .i64 (base), Value.int .i64 (d)] (Value.tuple #[Value.agg #[U (hi (r.1)), U (lo (r.1))], Value.bool (r.2)]) := by
  unfold word_behind_m at hM
  refine gives_of_A follows Try.func46 rfl 58 rfl (upd (upd (upd (fun _ => undef) 2 (Value.int .i64 (d))) 1 (Value.int .i64 (base))) 0 (Value.agg #[U (hi (a)), U (lo (a))])) (by funext k; match k with | 0 => rfl | 1 => rfl | 2 => rfl | k + 3 => rfl) (fun base0_ => ?_)
  refine A_seq fun K1 hK1 => ?_
  refine A_reg ?_
  refine r_a (24, #[U (hi (a)), U (lo (a))]) rfl rfl rfl (fun b2 => ?_) (.inr rfl)
  refine r_a (24, #[U (0#64), U (0#64)]) rfl rfl rfl (fun b3 => ?_) (.inr rfl)
  refine r_v (Value.bool (false)) rfl rfl rfl rfl ?_
  refine lx_nil ?_
  refine hK1 _ _ ?_; try clear hK1 K1
  refine A_seq fun K4 hK4 => ?_
  refine A_reg ?_
  refine r_v (Value.pointer (some ⟨b2, 1, none⟩)) rfl rfl rfl rfl ?_
  refine r_l (U (lo (a))) 1 _ _ _ _ rfl rfl rfl rfl rfl ?_
  refine r_v (Value.int .i64 (base)) rfl rfl rfl rfl ?_
  refine r_w (U (BitVec.ofInt 64 (base))) rfl rfl (U_wrapI (base)) (fun _ => rfl) ?_
  refine r_c (Value.tuple #[U (mh (lo (a)) (BitVec.ofInt 64 (base))), U ((lo (a)) * (BitVec.ofInt 64 (base)))]) rfl _ _ (ev_callF rfl call_39 rfl) (mul64_g (lo (a)) (BitVec.ofInt 64 (base))) ?_
  refine r_v (Value.tuple #[U (mh (lo (a)) (BitVec.ofInt 64 (base))), U ((lo (a)) * (BitVec.ofInt 64 (base)))]) rfl rfl rfl rfl ?_
  refine r_v (U (mh (lo (a)) (BitVec.ofInt 64 (base)))) rfl rfl rfl rfl ?_
  refine r_v (U ((lo (a)) * (BitVec.ofInt 64 (base)))) rfl rfl rfl rfl ?_
  refine r_v (U (mh (lo (a)) (BitVec.ofInt 64 (base)))) rfl rfl rfl rfl ?_
  refine r_v (U ((lo (a)) * (BitVec.ofInt 64 (base)))) rfl rfl rfl rfl ?_
  refine lx_nil ?_
  refine hK4 _ _ ?_; try clear hK4 K4
  refine A_seq fun K5 hK5 => ?_
  refine A_reg ?_
  refine r_v (Value.pointer (some ⟨b2, 0, none⟩)) rfl rfl rfl rfl ?_
  refine r_l (U (hi (a))) 1 _ _ _ _ rfl rfl rfl rfl rfl ?_
  refine r_v (Value.int .i64 (base)) rfl rfl rfl rfl ?_
  refine r_w (U (BitVec.ofInt 64 (base))) rfl rfl (U_wrapI (base)) (fun _ => rfl) ?_
  refine r_c (Value.tuple #[U (mh (hi (a)) (BitVec.ofInt 64 (base))), U ((hi (a)) * (BitVec.ofInt 64 (base)))]) rfl _ _ (ev_callF rfl call_39 rfl) (mul64_g (hi (a)) (BitVec.ofInt 64 (base))) ?_
  refine r_v (Value.tuple #[U (mh (hi (a)) (BitVec.ofInt 64 (base))), U ((hi (a)) * (BitVec.ofInt 64 (base)))]) rfl rfl rfl rfl ?_
  refine r_v (U (mh (hi (a)) (BitVec.ofInt 64 (base)))) rfl rfl rfl rfl ?_
  refine r_v (U ((hi (a)) * (BitVec.ofInt 64 (base)))) rfl rfl rfl rfl ?_
  refine r_v (U (mh (hi (a)) (BitVec.ofInt 64 (base)))) rfl rfl rfl rfl ?_
  refine r_v (U ((hi (a)) * (BitVec.ofInt 64 (base)))) rfl rfl rfl rfl ?_
  refine lx_nil ?_
  refine hK5 _ _ ?_; try clear hK5 K5
  refine A_seq fun K6 hK6 => ?_
  refine A_reg ?_
  refine r_v (U ((hi (a)) * (BitVec.ofInt 64 (base)))) rfl rfl rfl rfl ?_
  refine r_v (U ((lo (a)) * (BitVec.ofInt 64 (base)))) rfl rfl rfl rfl ?_
  refine r_v (Value.agg #[U ((hi (a)) * (BitVec.ofInt 64 (base))), U ((lo (a)) * (BitVec.ofInt 64 (base)))]) rfl rfl rfl (ev_buildS rfl rfl rfl rfl) ?_
  refine r_v (U (mh (lo (a)) (BitVec.ofInt 64 (base)))) rfl rfl rfl rfl ?_
  refine r_v (Value.agg #[U (mh (lo (a)) (BitVec.ofInt 64 (base))), U (0#64)]) rfl rfl rfl (ev_buildS rfl rfl rfl rfl) ?_
  refine r_c (Value.tuple #[Value.agg #[U (hi ((((hi (a)) * (BitVec.ofInt 64 (base))) ++ ((lo (a)) * (BitVec.ofInt 64 (base)))) + ((mh (lo (a)) (BitVec.ofInt 64 (base))) ++ (0#64)))), U (lo ((((hi (a)) * (BitVec.ofInt 64 (base))) ++ ((lo (a)) * (BitVec.ofInt 64 (base)))) + ((mh (lo (a)) (BitVec.ofInt 64 (base))) ++ (0#64))))], Value.bool (BitVec.carry 128 (((hi (a)) * (BitVec.ofInt 64 (base))) ++ ((lo (a)) * (BitVec.ofInt 64 (base)))) ((mh (lo (a)) (BitVec.ofInt 64 (base))) ++ (0#64)) false)]) rfl _ _ (ev_callF rfl call_9 rfl) (by have h_ := (add_g (((hi (a)) * (BitVec.ofInt 64 (base))) ++ ((lo (a)) * (BitVec.ofInt 64 (base)))) ((mh (lo (a)) (BitVec.ofInt 64 (base))) ++ (0#64))); simp only [hi_app, lo_app] at h_; exact h_) ?_
  refine r_v (Value.tuple #[Value.agg #[U (hi ((((hi (a)) * (BitVec.ofInt 64 (base))) ++ ((lo (a)) * (BitVec.ofInt 64 (base)))) + ((mh (lo (a)) (BitVec.ofInt 64 (base))) ++ (0#64)))), U (lo ((((hi (a)) * (BitVec.ofInt 64 (base))) ++ ((lo (a)) * (BitVec.ofInt 64 (base)))) + ((mh (lo (a)) (BitVec.ofInt 64 (base))) ++ (0#64))))], Value.bool (BitVec.carry 128 (((hi (a)) * (BitVec.ofInt 64 (base))) ++ ((lo (a)) * (BitVec.ofInt 64 (base)))) ((mh (lo (a)) (BitVec.ofInt 64 (base))) ++ (0#64)) false)]) rfl rfl rfl rfl ?_
  refine r_v (Value.agg #[U (hi ((((hi (a)) * (BitVec.ofInt 64 (base))) ++ ((lo (a)) * (BitVec.ofInt 64 (base)))) + ((mh (lo (a)) (BitVec.ofInt 64 (base))) ++ (0#64)))), U (lo ((((hi (a)) * (BitVec.ofInt 64 (base))) ++ ((lo (a)) * (BitVec.ofInt 64 (base)))) + ((mh (lo (a)) (BitVec.ofInt 64 (base))) ++ (0#64))))]) rfl rfl rfl rfl ?_
  refine r_v (Value.bool (BitVec.carry 128 (((hi (a)) * (BitVec.ofInt 64 (base))) ++ ((lo (a)) * (BitVec.ofInt 64 (base)))) ((mh (lo (a)) (BitVec.ofInt 64 (base))) ++ (0#64)) false)) rfl rfl rfl rfl ?_
  refine r_a (24, #[U (0#64), U (0#64)]) rfl rfl rfl (fun b7 => ?_) (.inr rfl)
  refine r_s [(b7, 24, #[U (hi ((((hi (a)) * (BitVec.ofInt 64 (base))) ++ ((lo (a)) * (BitVec.ofInt 64 (base)))) + ((mh (lo (a)) (BitVec.ofInt 64 (base))) ++ (0#64)))), U (lo ((((hi (a)) * (BitVec.ofInt 64 (base))) ++ ((lo (a)) * (BitVec.ofInt 64 (base)))) + ((mh (lo (a)) (BitVec.ofInt 64 (base))) ++ (0#64))))]), (b3, 24, #[U (0#64), U (0#64)]), (b2, 24, #[U (hi (a)), U (lo (a))])] 0 _ _ _ (#[U (0#64), U (0#64)]) (#[U (hi ((((hi (a)) * (BitVec.ofInt 64 (base))) ++ ((lo (a)) * (BitVec.ofInt 64 (base)))) + ((mh (lo (a)) (BitVec.ofInt 64 (base))) ++ (0#64)))), U (lo ((((hi (a)) * (BitVec.ofInt 64 (base))) ++ ((lo (a)) * (BitVec.ofInt 64 (base)))) + ((mh (lo (a)) (BitVec.ofInt 64 (base))) ++ (0#64))))]) (#[U (hi ((((hi (a)) * (BitVec.ofInt 64 (base))) ++ ((lo (a)) * (BitVec.ofInt 64 (base)))) + ((mh (lo (a)) (BitVec.ofInt 64 (base))) ++ (0#64)))), U (lo ((((hi (a)) * (BitVec.ofInt 64 (base))) ++ ((lo (a)) * (BitVec.ofInt 64 (base)))) + ((mh (lo (a)) (BitVec.ofInt 64 (base))) ++ (0#64))))]) rfl rfl rfl rfl (.of rfl rfl) rfl rfl ?_
  refine r_v (Value.bool (BitVec.carry 128 (((hi (a)) * (BitVec.ofInt 64 (base))) ++ ((lo (a)) * (BitVec.ofInt 64 (base)))) ((mh (lo (a)) (BitVec.ofInt 64 (base))) ++ (0#64)) false)) rfl rfl rfl rfl ?_
  refine lx_nil ?_
  refine hK6 _ _ ?_; try clear hK6 K6
  refine A_seq fun K8 hK8 => ?_
  refine A_reg ?_
  refine r_l (Value.agg #[U (hi ((((hi (a)) * (BitVec.ofInt 64 (base))) ++ ((lo (a)) * (BitVec.ofInt 64 (base)))) + ((mh (lo (a)) (BitVec.ofInt 64 (base))) ++ (0#64)))), U (lo ((((hi (a)) * (BitVec.ofInt 64 (base))) ++ ((lo (a)) * (BitVec.ofInt 64 (base)))) + ((mh (lo (a)) (BitVec.ofInt 64 (base))) ++ (0#64))))]) 0 _ _ _ _ rfl rfl rfl rfl rfl ?_
  refine r_v (Value.int .i64 (d)) rfl rfl rfl rfl ?_
  refine r_w (U (BitVec.ofInt 64 (d))) rfl rfl (U_wrapI (d)) (fun _ => rfl) ?_
  refine r_v (Value.agg #[U (0#64), U (BitVec.ofInt 64 (d))]) rfl rfl rfl (ev_buildS rfl rfl rfl rfl) ?_
  refine r_c (Value.tuple #[Value.agg #[U (hi (((((hi (a)) * (BitVec.ofInt 64 (base))) ++ ((lo (a)) * (BitVec.ofInt 64 (base)))) + ((mh (lo (a)) (BitVec.ofInt 64 (base))) ++ (0#64))) + ((0#64) ++ (BitVec.ofInt 64 (d))))), U (lo (((((hi (a)) * (BitVec.ofInt 64 (base))) ++ ((lo (a)) * (BitVec.ofInt 64 (base)))) + ((mh (lo (a)) (BitVec.ofInt 64 (base))) ++ (0#64))) + ((0#64) ++ (BitVec.ofInt 64 (d)))))], Value.bool (BitVec.carry 128 ((((hi (a)) * (BitVec.ofInt 64 (base))) ++ ((lo (a)) * (BitVec.ofInt 64 (base)))) + ((mh (lo (a)) (BitVec.ofInt 64 (base))) ++ (0#64))) ((0#64) ++ (BitVec.ofInt 64 (d))) false)]) rfl _ _ (ev_callF rfl call_9 rfl) (by have h_ := (add_g ((((hi (a)) * (BitVec.ofInt 64 (base))) ++ ((lo (a)) * (BitVec.ofInt 64 (base)))) + ((mh (lo (a)) (BitVec.ofInt 64 (base))) ++ (0#64))) ((0#64) ++ (BitVec.ofInt 64 (d)))); simp only [hi_app, lo_app] at h_; exact h_) ?_
  refine r_v (Value.tuple #[Value.agg #[U (hi (((((hi (a)) * (BitVec.ofInt 64 (base))) ++ ((lo (a)) * (BitVec.ofInt 64 (base)))) + ((mh (lo (a)) (BitVec.ofInt 64 (base))) ++ (0#64))) + ((0#64) ++ (BitVec.ofInt 64 (d))))), U (lo (((((hi (a)) * (BitVec.ofInt 64 (base))) ++ ((lo (a)) * (BitVec.ofInt 64 (base)))) + ((mh (lo (a)) (BitVec.ofInt 64 (base))) ++ (0#64))) + ((0#64) ++ (BitVec.ofInt 64 (d)))))], Value.bool (BitVec.carry 128 ((((hi (a)) * (BitVec.ofInt 64 (base))) ++ ((lo (a)) * (BitVec.ofInt 64 (base)))) + ((mh (lo (a)) (BitVec.ofInt 64 (base))) ++ (0#64))) ((0#64) ++ (BitVec.ofInt 64 (d))) false)]) rfl rfl rfl rfl ?_
  refine r_v (Value.agg #[U (hi (((((hi (a)) * (BitVec.ofInt 64 (base))) ++ ((lo (a)) * (BitVec.ofInt 64 (base)))) + ((mh (lo (a)) (BitVec.ofInt 64 (base))) ++ (0#64))) + ((0#64) ++ (BitVec.ofInt 64 (d))))), U (lo (((((hi (a)) * (BitVec.ofInt 64 (base))) ++ ((lo (a)) * (BitVec.ofInt 64 (base)))) + ((mh (lo (a)) (BitVec.ofInt 64 (base))) ++ (0#64))) + ((0#64) ++ (BitVec.ofInt 64 (d)))))]) rfl rfl rfl rfl ?_
  refine r_v (Value.bool (BitVec.carry 128 ((((hi (a)) * (BitVec.ofInt 64 (base))) ++ ((lo (a)) * (BitVec.ofInt 64 (base)))) + ((mh (lo (a)) (BitVec.ofInt 64 (base))) ++ (0#64))) ((0#64) ++ (BitVec.ofInt 64 (d))) false)) rfl rfl rfl rfl ?_
  refine r_a (24, #[U (0#64), U (0#64)]) rfl rfl rfl (fun b9 => ?_) (.inr rfl)
  refine r_s [(b9, 24, #[U (hi (((((hi (a)) * (BitVec.ofInt 64 (base))) ++ ((lo (a)) * (BitVec.ofInt 64 (base)))) + ((mh (lo (a)) (BitVec.ofInt 64 (base))) ++ (0#64))) + ((0#64) ++ (BitVec.ofInt 64 (d))))), U (lo (((((hi (a)) * (BitVec.ofInt 64 (base))) ++ ((lo (a)) * (BitVec.ofInt 64 (base)))) + ((mh (lo (a)) (BitVec.ofInt 64 (base))) ++ (0#64))) + ((0#64) ++ (BitVec.ofInt 64 (d)))))]), (b7, 24, #[U (hi ((((hi (a)) * (BitVec.ofInt 64 (base))) ++ ((lo (a)) * (BitVec.ofInt 64 (base)))) + ((mh (lo (a)) (BitVec.ofInt 64 (base))) ++ (0#64)))), U (lo ((((hi (a)) * (BitVec.ofInt 64 (base))) ++ ((lo (a)) * (BitVec.ofInt 64 (base)))) + ((mh (lo (a)) (BitVec.ofInt 64 (base))) ++ (0#64))))]), (b3, 24, #[U (0#64), U (0#64)]), (b2, 24, #[U (hi (a)), U (lo (a))])] 0 _ _ _ (#[U (0#64), U (0#64)]) (#[U (hi (((((hi (a)) * (BitVec.ofInt 64 (base))) ++ ((lo (a)) * (BitVec.ofInt 64 (base)))) + ((mh (lo (a)) (BitVec.ofInt 64 (base))) ++ (0#64))) + ((0#64) ++ (BitVec.ofInt 64 (d))))), U (lo (((((hi (a)) * (BitVec.ofInt 64 (base))) ++ ((lo (a)) * (BitVec.ofInt 64 (base)))) + ((mh (lo (a)) (BitVec.ofInt 64 (base))) ++ (0#64))) + ((0#64) ++ (BitVec.ofInt 64 (d)))))]) (#[U (hi (((((hi (a)) * (BitVec.ofInt 64 (base))) ++ ((lo (a)) * (BitVec.ofInt 64 (base)))) + ((mh (lo (a)) (BitVec.ofInt 64 (base))) ++ (0#64))) + ((0#64) ++ (BitVec.ofInt 64 (d))))), U (lo (((((hi (a)) * (BitVec.ofInt 64 (base))) ++ ((lo (a)) * (BitVec.ofInt 64 (base)))) + ((mh (lo (a)) (BitVec.ofInt 64 (base))) ++ (0#64))) + ((0#64) ++ (BitVec.ofInt 64 (d)))))]) rfl rfl rfl rfl (.of rfl rfl) rfl rfl ?_
  refine r_v (Value.bool (BitVec.carry 128 ((((hi (a)) * (BitVec.ofInt 64 (base))) ++ ((lo (a)) * (BitVec.ofInt 64 (base)))) + ((mh (lo (a)) (BitVec.ofInt 64 (base))) ++ (0#64))) ((0#64) ++ (BitVec.ofInt 64 (d))) false)) rfl rfl rfl rfl ?_
  refine lx_nil ?_
  refine hK8 _ _ ?_; try clear hK8 K8
  refine A_seq fun K10 hK10 => ?_
  refine A_reg ?_
  refine r_l (Value.agg #[U (hi (((((hi (a)) * (BitVec.ofInt 64 (base))) ++ ((lo (a)) * (BitVec.ofInt 64 (base)))) + ((mh (lo (a)) (BitVec.ofInt 64 (base))) ++ (0#64))) + ((0#64) ++ (BitVec.ofInt 64 (d))))), U (lo (((((hi (a)) * (BitVec.ofInt 64 (base))) ++ ((lo (a)) * (BitVec.ofInt 64 (base)))) + ((mh (lo (a)) (BitVec.ofInt 64 (base))) ++ (0#64))) + ((0#64) ++ (BitVec.ofInt 64 (d)))))]) 0 _ _ _ _ rfl rfl rfl rfl rfl ?_
  refine r_v (U (mh (hi (a)) (BitVec.ofInt 64 (base)))) rfl rfl rfl rfl ?_
  refine r_v (Value.bool ((mh (hi (a)) (BitVec.ofInt 64 (base))) != (0#64))) rfl rfl (U_ne (mh (hi (a)) (BitVec.ofInt 64 (base))) (0#64)) rfl ?_
  refine r_v (Value.bool ((mh (hi (a)) (BitVec.ofInt 64 (base))) != (0#64))) rfl rfl rfl rfl ?_
  rcases hg11 : ((mh (hi (a)) (BitVec.ofInt 64 (base))) != (0#64)) with _ | _
  · have hM := ifn (bne_f hg11) hM
    refine r_y rfl ?_
    refine r_v (Value.bool (BitVec.carry 128 (((hi (a)) * (BitVec.ofInt 64 (base))) ++ ((lo (a)) * (BitVec.ofInt 64 (base)))) ((mh (lo (a)) (BitVec.ofInt 64 (base))) ++ (0#64)) false)) rfl rfl rfl rfl ?_
    refine r_v (Value.bool (BitVec.carry 128 (((hi (a)) * (BitVec.ofInt 64 (base))) ++ ((lo (a)) * (BitVec.ofInt 64 (base)))) ((mh (lo (a)) (BitVec.ofInt 64 (base))) ++ (0#64)) false)) rfl rfl rfl rfl ?_
    refine r_v (Value.bool (BitVec.carry 128 (((hi (a)) * (BitVec.ofInt 64 (base))) ++ ((lo (a)) * (BitVec.ofInt 64 (base)))) ((mh (lo (a)) (BitVec.ofInt 64 (base))) ++ (0#64)) false)) rfl rfl rfl rfl ?_
    rcases hg12 : (BitVec.carry 128 (((hi (a)) * (BitVec.ofInt 64 (base))) ++ ((lo (a)) * (BitVec.ofInt 64 (base)))) ((mh (lo (a)) (BitVec.ofInt 64 (base))) ++ (0#64)) false) with _ | _
    · have hM := ifn (Bool.eq_false_iff.1 hg12) hM
      refine r_y rfl ?_
      refine r_v (Value.bool (BitVec.carry 128 ((((hi (a)) * (BitVec.ofInt 64 (base))) ++ ((lo (a)) * (BitVec.ofInt 64 (base)))) + ((mh (lo (a)) (BitVec.ofInt 64 (base))) ++ (0#64))) ((0#64) ++ (BitVec.ofInt 64 (d))) false)) rfl rfl rfl rfl ?_
      refine r_v (Value.bool (BitVec.carry 128 ((((hi (a)) * (BitVec.ofInt 64 (base))) ++ ((lo (a)) * (BitVec.ofInt 64 (base)))) + ((mh (lo (a)) (BitVec.ofInt 64 (base))) ++ (0#64))) ((0#64) ++ (BitVec.ofInt 64 (d))) false)) rfl rfl rfl rfl ?_
      refine r_s [(b9, 24, #[U (hi (((((hi (a)) * (BitVec.ofInt 64 (base))) ++ ((lo (a)) * (BitVec.ofInt 64 (base)))) + ((mh (lo (a)) (BitVec.ofInt 64 (base))) ++ (0#64))) + ((0#64) ++ (BitVec.ofInt 64 (d))))), U (lo (((((hi (a)) * (BitVec.ofInt 64 (base))) ++ ((lo (a)) * (BitVec.ofInt 64 (base)))) + ((mh (lo (a)) (BitVec.ofInt 64 (base))) ++ (0#64))) + ((0#64) ++ (BitVec.ofInt 64 (d)))))]), (b7, 24, #[U (hi ((((hi (a)) * (BitVec.ofInt 64 (base))) ++ ((lo (a)) * (BitVec.ofInt 64 (base)))) + ((mh (lo (a)) (BitVec.ofInt 64 (base))) ++ (0#64)))), U (lo ((((hi (a)) * (BitVec.ofInt 64 (base))) ++ ((lo (a)) * (BitVec.ofInt 64 (base)))) + ((mh (lo (a)) (BitVec.ofInt 64 (base))) ++ (0#64))))]), (b3, 24, #[U (hi (((((hi (a)) * (BitVec.ofInt 64 (base))) ++ ((lo (a)) * (BitVec.ofInt 64 (base)))) + ((mh (lo (a)) (BitVec.ofInt 64 (base))) ++ (0#64))) + ((0#64) ++ (BitVec.ofInt 64 (d))))), U (lo (((((hi (a)) * (BitVec.ofInt 64 (base))) ++ ((lo (a)) * (BitVec.ofInt 64 (base)))) + ((mh (lo (a)) (BitVec.ofInt 64 (base))) ++ (0#64))) + ((0#64) ++ (BitVec.ofInt 64 (d)))))]), (b2, 24, #[U (hi (a)), U (lo (a))])] 2 _ _ _ (#[U (0#64), U (0#64)]) (#[U (hi (((((hi (a)) * (BitVec.ofInt 64 (base))) ++ ((lo (a)) * (BitVec.ofInt 64 (base)))) + ((mh (lo (a)) (BitVec.ofInt 64 (base))) ++ (0#64))) + ((0#64) ++ (BitVec.ofInt 64 (d))))), U (lo (((((hi (a)) * (BitVec.ofInt 64 (base))) ++ ((lo (a)) * (BitVec.ofInt 64 (base)))) + ((mh (lo (a)) (BitVec.ofInt 64 (base))) ++ (0#64))) + ((0#64) ++ (BitVec.ofInt 64 (d)))))]) (#[U (hi (((((hi (a)) * (BitVec.ofInt 64 (base))) ++ ((lo (a)) * (BitVec.ofInt 64 (base)))) + ((mh (lo (a)) (BitVec.ofInt 64 (base))) ++ (0#64))) + ((0#64) ++ (BitVec.ofInt 64 (d))))), U (lo (((((hi (a)) * (BitVec.ofInt 64 (base))) ++ ((lo (a)) * (BitVec.ofInt 64 (base)))) + ((mh (lo (a)) (BitVec.ofInt 64 (base))) ++ (0#64))) + ((0#64) ++ (BitVec.ofInt 64 (d)))))]) rfl rfl rfl rfl (.of rfl rfl) rfl rfl ?_
      refine r_v (Value.bool (BitVec.carry 128 ((((hi (a)) * (BitVec.ofInt 64 (base))) ++ ((lo (a)) * (BitVec.ofInt 64 (base)))) + ((mh (lo (a)) (BitVec.ofInt 64 (base))) ++ (0#64))) ((0#64) ++ (BitVec.ofInt 64 (d))) false)) rfl rfl rfl rfl ?_
      refine lx_nil ?_
      refine hK10 _ _ ?_; try clear hK10 K10
      obtain rfl := Option.some.inj hM
      refine A_ret (fun hn => ends_eq (v0 := Value.tuple #[Value.agg #[U (hi (((((hi (a)) * (BitVec.ofInt 64 (base))) ++ ((lo (a)) * (BitVec.ofInt 64 (base)))) + ((mh (lo (a)) (BitVec.ofInt 64 (base))) ++ (0#64))) + ((0#64) ++ (BitVec.ofInt 64 (d))))), U (lo (((((hi (a)) * (BitVec.ofInt 64 (base))) ++ ((lo (a)) * (BitVec.ofInt 64 (base)))) + ((mh (lo (a)) (BitVec.ofInt 64 (base))) ++ (0#64))) + ((0#64) ++ (BitVec.ofInt 64 (d)))))], Value.bool (BitVec.carry 128 ((((hi (a)) * (BitVec.ofInt 64 (base))) ++ ((lo (a)) * (BitVec.ofInt 64 (base)))) + ((mh (lo (a)) (BitVec.ofInt 64 (base))) ++ (0#64))) ((0#64) ++ (BitVec.ofInt 64 (d))) false)]) rfl (res2 (res_cell hn 2 rfl rfl rfl) rfl))
    · have hM := ifp hg12 hM
      refine r_n true rfl (by decide) rfl ?_
      refine r_v (Value.bool (true)) rfl rfl rfl rfl ?_
      refine r_s [(b9, 24, #[U (hi (((((hi (a)) * (BitVec.ofInt 64 (base))) ++ ((lo (a)) * (BitVec.ofInt 64 (base)))) + ((mh (lo (a)) (BitVec.ofInt 64 (base))) ++ (0#64))) + ((0#64) ++ (BitVec.ofInt 64 (d))))), U (lo (((((hi (a)) * (BitVec.ofInt 64 (base))) ++ ((lo (a)) * (BitVec.ofInt 64 (base)))) + ((mh (lo (a)) (BitVec.ofInt 64 (base))) ++ (0#64))) + ((0#64) ++ (BitVec.ofInt 64 (d)))))]), (b7, 24, #[U (hi ((((hi (a)) * (BitVec.ofInt 64 (base))) ++ ((lo (a)) * (BitVec.ofInt 64 (base)))) + ((mh (lo (a)) (BitVec.ofInt 64 (base))) ++ (0#64)))), U (lo ((((hi (a)) * (BitVec.ofInt 64 (base))) ++ ((lo (a)) * (BitVec.ofInt 64 (base)))) + ((mh (lo (a)) (BitVec.ofInt 64 (base))) ++ (0#64))))]), (b3, 24, #[U (hi (((((hi (a)) * (BitVec.ofInt 64 (base))) ++ ((lo (a)) * (BitVec.ofInt 64 (base)))) + ((mh (lo (a)) (BitVec.ofInt 64 (base))) ++ (0#64))) + ((0#64) ++ (BitVec.ofInt 64 (d))))), U (lo (((((hi (a)) * (BitVec.ofInt 64 (base))) ++ ((lo (a)) * (BitVec.ofInt 64 (base)))) + ((mh (lo (a)) (BitVec.ofInt 64 (base))) ++ (0#64))) + ((0#64) ++ (BitVec.ofInt 64 (d)))))]), (b2, 24, #[U (hi (a)), U (lo (a))])] 2 _ _ _ (#[U (0#64), U (0#64)]) (#[U (hi (((((hi (a)) * (BitVec.ofInt 64 (base))) ++ ((lo (a)) * (BitVec.ofInt 64 (base)))) + ((mh (lo (a)) (BitVec.ofInt 64 (base))) ++ (0#64))) + ((0#64) ++ (BitVec.ofInt 64 (d))))), U (lo (((((hi (a)) * (BitVec.ofInt 64 (base))) ++ ((lo (a)) * (BitVec.ofInt 64 (base)))) + ((mh (lo (a)) (BitVec.ofInt 64 (base))) ++ (0#64))) + ((0#64) ++ (BitVec.ofInt 64 (d)))))]) (#[U (hi (((((hi (a)) * (BitVec.ofInt 64 (base))) ++ ((lo (a)) * (BitVec.ofInt 64 (base)))) + ((mh (lo (a)) (BitVec.ofInt 64 (base))) ++ (0#64))) + ((0#64) ++ (BitVec.ofInt 64 (d))))), U (lo (((((hi (a)) * (BitVec.ofInt 64 (base))) ++ ((lo (a)) * (BitVec.ofInt 64 (base)))) + ((mh (lo (a)) (BitVec.ofInt 64 (base))) ++ (0#64))) + ((0#64) ++ (BitVec.ofInt 64 (d)))))]) rfl rfl rfl rfl (.of rfl rfl) rfl rfl ?_
      refine r_v (Value.bool (true)) rfl rfl rfl rfl ?_
      refine lx_nil ?_
      refine hK10 _ _ ?_; try clear hK10 K10
      obtain rfl := Option.some.inj hM
      refine A_ret (fun hn => ends_eq (v0 := Value.tuple #[Value.agg #[U (hi (((((hi (a)) * (BitVec.ofInt 64 (base))) ++ ((lo (a)) * (BitVec.ofInt 64 (base)))) + ((mh (lo (a)) (BitVec.ofInt 64 (base))) ++ (0#64))) + ((0#64) ++ (BitVec.ofInt 64 (d))))), U (lo (((((hi (a)) * (BitVec.ofInt 64 (base))) ++ ((lo (a)) * (BitVec.ofInt 64 (base)))) + ((mh (lo (a)) (BitVec.ofInt 64 (base))) ++ (0#64))) + ((0#64) ++ (BitVec.ofInt 64 (d)))))], Value.bool (true)]) rfl (res2 (res_cell hn 2 rfl rfl rfl) rfl))
  · have hM := ifp (bne_iff_ne.1 hg11) hM
    refine r_n true rfl (by decide) rfl ?_
    refine r_v (Value.bool (true)) rfl rfl rfl rfl ?_
    refine r_v (Value.bool (true)) rfl rfl rfl rfl ?_
    refine r_n true rfl (by decide) rfl ?_
    refine r_v (Value.bool (true)) rfl rfl rfl rfl ?_
    refine r_s [(b9, 24, #[U (hi (((((hi (a)) * (BitVec.ofInt 64 (base))) ++ ((lo (a)) * (BitVec.ofInt 64 (base)))) + ((mh (lo (a)) (BitVec.ofInt 64 (base))) ++ (0#64))) + ((0#64) ++ (BitVec.ofInt 64 (d))))), U (lo (((((hi (a)) * (BitVec.ofInt 64 (base))) ++ ((lo (a)) * (BitVec.ofInt 64 (base)))) + ((mh (lo (a)) (BitVec.ofInt 64 (base))) ++ (0#64))) + ((0#64) ++ (BitVec.ofInt 64 (d)))))]), (b7, 24, #[U (hi ((((hi (a)) * (BitVec.ofInt 64 (base))) ++ ((lo (a)) * (BitVec.ofInt 64 (base)))) + ((mh (lo (a)) (BitVec.ofInt 64 (base))) ++ (0#64)))), U (lo ((((hi (a)) * (BitVec.ofInt 64 (base))) ++ ((lo (a)) * (BitVec.ofInt 64 (base)))) + ((mh (lo (a)) (BitVec.ofInt 64 (base))) ++ (0#64))))]), (b3, 24, #[U (hi (((((hi (a)) * (BitVec.ofInt 64 (base))) ++ ((lo (a)) * (BitVec.ofInt 64 (base)))) + ((mh (lo (a)) (BitVec.ofInt 64 (base))) ++ (0#64))) + ((0#64) ++ (BitVec.ofInt 64 (d))))), U (lo (((((hi (a)) * (BitVec.ofInt 64 (base))) ++ ((lo (a)) * (BitVec.ofInt 64 (base)))) + ((mh (lo (a)) (BitVec.ofInt 64 (base))) ++ (0#64))) + ((0#64) ++ (BitVec.ofInt 64 (d)))))]), (b2, 24, #[U (hi (a)), U (lo (a))])] 2 _ _ _ (#[U (0#64), U (0#64)]) (#[U (hi (((((hi (a)) * (BitVec.ofInt 64 (base))) ++ ((lo (a)) * (BitVec.ofInt 64 (base)))) + ((mh (lo (a)) (BitVec.ofInt 64 (base))) ++ (0#64))) + ((0#64) ++ (BitVec.ofInt 64 (d))))), U (lo (((((hi (a)) * (BitVec.ofInt 64 (base))) ++ ((lo (a)) * (BitVec.ofInt 64 (base)))) + ((mh (lo (a)) (BitVec.ofInt 64 (base))) ++ (0#64))) + ((0#64) ++ (BitVec.ofInt 64 (d)))))]) (#[U (hi (((((hi (a)) * (BitVec.ofInt 64 (base))) ++ ((lo (a)) * (BitVec.ofInt 64 (base)))) + ((mh (lo (a)) (BitVec.ofInt 64 (base))) ++ (0#64))) + ((0#64) ++ (BitVec.ofInt 64 (d))))), U (lo (((((hi (a)) * (BitVec.ofInt 64 (base))) ++ ((lo (a)) * (BitVec.ofInt 64 (base)))) + ((mh (lo (a)) (BitVec.ofInt 64 (base))) ++ (0#64))) + ((0#64) ++ (BitVec.ofInt 64 (d)))))]) rfl rfl rfl rfl (.of rfl rfl) rfl rfl ?_
    refine r_v (Value.bool (true)) rfl rfl rfl rfl ?_
    refine lx_nil ?_
    refine hK10 _ _ ?_; try clear hK10 K10
    obtain rfl := Option.some.inj hM
    refine A_ret (fun hn => ends_eq (v0 := Value.tuple #[Value.agg #[U (hi (((((hi (a)) * (BitVec.ofInt 64 (base))) ++ ((lo (a)) * (BitVec.ofInt 64 (base)))) + ((mh (lo (a)) (BitVec.ofInt 64 (base))) ++ (0#64))) + ((0#64) ++ (BitVec.ofInt 64 (d))))), U (lo (((((hi (a)) * (BitVec.ofInt 64 (base))) ++ ((lo (a)) * (BitVec.ofInt 64 (base)))) + ((mh (lo (a)) (BitVec.ofInt 64 (base))) ++ (0#64))) + ((0#64) ++ (BitVec.ofInt 64 (d)))))], Value.bool (true)]) rfl (res2 (res_cell hn 2 rfl rfl rfl) rfl))
def word_Parse_l5 (N : Nat) (s : List UInt8) (base : Int) : Nat → Bool → Int → BitVec 128 → BitVec 128 → Option (BitVec 128 × Int)
  | 0, _, _, _, _ => none
  | n18 + 1, above1_, x2_, m3_, m4_ => if (x2_ : Int) < ((s).length : Int) then ck (0 ≤ x2_ ∧ x2_ < ((s).length : Int)) ((word_digit_m N ((byteAt (s) (x2_)))).bind fun r26 => if (r26 : Int) ≥ base then some ((0#64) ++ (0#64), 4) else (word_behind_m N (m3_) (base) (r26)).bind fun r33 => if (above1_) = true then ck ((-9223372036854775808 ≤ (x2_ + 1) ∧ (x2_ + 1) ≤ 9223372036854775807)) ((word_Parse_l5 N s base n18) (true) ((x2_ + 1)) (r33.1) (m4_)) else ck ((-9223372036854775808 ≤ (x2_ + 1) ∧ (x2_ + 1) ≤ 9223372036854775807)) ((word_Parse_l5 N s base n18) (r33.2) ((x2_ + 1)) (r33.1) (m4_))) else if (above1_) = true then some ((0#64) ++ (0#64), 7) else some (m3_, 0)
def word_Parse_m (N : Nat) (s : List UInt8) (base : Int) : Option (BitVec 128 × Int) := (word_mayBase_m N (base)).bind fun r5 => if (r5) = true then if (s) = ([]) then some ((0#64) ++ (0#64), 3) else word_Parse_l5 N s base N (false) (0) ((0#64) ++ (0#64)) ((0#64) ++ (0#64)) else some ((0#64) ++ (0#64), 1)
set_option maxRecDepth 100000 in
set_option maxHeartbeats 400000 in
theorem word_Parse_g (N : Nat) (s : List UInt8) (base : Int) (r : BitVec 128 × Int) (hM : word_Parse_m N s base = some r) : Gives Try.prog 33 #[Value.string (⟨(s).toArray⟩), Value.int .i64 (base)] (Value.tuple #[Value.agg #[U (hi (r.1)), U (lo (r.1))], Value.int .i64 (r.2)]) := by
  unfold word_Parse_m at hM
  refine gives_of_A follows Try.func33 rfl 48 rfl (upd (upd (fun _ => undef) 1 (Value.int .i64 (base))) 0 (Value.string (⟨(s).toArray⟩))) (by funext k; match k with | 0 => rfl | 1 => rfl | k + 2 => rfl) (fun base0_ => ?_)
  refine A_seq fun K1 hK1 => ?_
  refine A_reg ?_
  refine r_a (24, #[U (0#64), U (0#64)]) rfl rfl rfl (fun b2 => ?_) (.inr rfl)
  refine r_v (Value.int .i64 (0)) rfl rfl rfl rfl ?_
  refine lx_nil ?_
  refine hK1 _ _ ?_; try clear hK1 K1
  refine A_seq fun K3 hK3 => ?_
  refine A_seq fun K4 hK4 => ?_
  refine A_reg ?_
  refine r_v (Value.int .i64 (base)) rfl rfl rfl rfl ?_
  obtain ⟨r5, hr6, hM⟩ := bind_sm hM
  refine r_c (Value.bool (r5)) rfl _ _ (ev_callF rfl call_44 rfl) (word_mayBase_g N (base) _ hr6) ?_
  refine r_v (Value.bool (!(r5))) rfl rfl rfl rfl ?_
  refine lx_nil ?_
  refine hK4 _ _ ?_; try clear hK4 K4
  refine A_cond (!(r5)) rfl (fun hc7 => ?_) (fun hc7 => ?_)
  · have hM := ifn (Bool.eq_false_iff.1 (not_t hc7)) hM
    refine A_seq fun K8 hK8 => ?_
    refine A_reg ?_
    refine r_v (Value.agg #[U (0#64), U (0#64)]) rfl rfl rfl (ev_buildS rfl rfl rfl rfl) ?_
    refine r_s [(b2, 24, #[U (0#64), U (0#64)])] 0 _ _ _ (#[U (0#64), U (0#64)]) (#[U (0#64), U (0#64)]) (#[U (0#64), U (0#64)]) rfl rfl rfl rfl (.of rfl rfl) rfl rfl ?_
    refine r_v (Value.int .i64 (1)) rfl rfl rfl rfl ?_
    refine lx_nil ?_
    refine hK8 _ _ ?_; try clear hK8 K8
    obtain rfl := Option.some.inj hM
    refine A_ret (fun hn => ends_eq (v0 := Value.tuple #[Value.agg #[U (0#64), U (0#64)], Value.int .i64 (1)]) (by simp only [hi_app, lo_app]) (res2 (res_cell hn 0 rfl rfl rfl) rfl))
  · have hM := ifp (not_f hc7) hM
    refine A_skip ?_
    refine hK3 _ _ ?_; try clear hK3 K3
    refine A_seq fun K9 hK9 => ?_
    refine A_seq fun K10 hK10 => ?_
    refine A_reg ?_
    refine r_v (Value.string (⟨(s).toArray⟩)) rfl rfl rfl rfl ?_
    refine r_v (Value.bool ((s) == ([]))) rfl rfl rfl (ev_eqS rfl rfl) ?_
    refine lx_nil ?_
    refine hK10 _ _ ?_; try clear hK10 K10
    refine A_cond ((s) == ([])) rfl (fun hc11 => ?_) (fun hc11 => ?_)
    · have hM := ifp (eq_of_beq hc11) hM
      refine A_seq fun K12 hK12 => ?_
      refine A_reg ?_
      refine r_v (Value.agg #[U (0#64), U (0#64)]) rfl rfl rfl (ev_buildS rfl rfl rfl rfl) ?_
      refine r_s [(b2, 24, #[U (0#64), U (0#64)])] 0 _ _ _ (#[U (0#64), U (0#64)]) (#[U (0#64), U (0#64)]) (#[U (0#64), U (0#64)]) rfl rfl rfl rfl (.of rfl rfl) rfl rfl ?_
      refine r_v (Value.int .i64 (3)) rfl rfl rfl rfl ?_
      refine lx_nil ?_
      refine hK12 _ _ ?_; try clear hK12 K12
      obtain rfl := Option.some.inj hM
      refine A_ret (fun hn => ends_eq (v0 := Value.tuple #[Value.agg #[U (0#64), U (0#64)], Value.int .i64 (3)]) (by simp only [hi_app, lo_app]) (res2 (res_cell hn 0 rfl rfl rfl) rfl))
    · have hM := ifn (ne_of_beq_false hc11) hM
      refine A_skip ?_
      refine hK9 _ _ ?_; try clear hK9 K9
      refine A_seq fun K13 hK13 => ?_
      refine A_reg ?_
      refine r_a (24, #[U (0#64), U (0#64)]) rfl rfl rfl (fun b14 => ?_) (.inr rfl)
      refine lx_nil ?_
      refine hK13 _ _ ?_; try clear hK13 K13
      refine A_seq fun K15 hK15 => ?_
      refine A_reg ?_
      refine r_v (Value.bool (false)) rfl rfl rfl rfl ?_
      refine lx_nil ?_
      refine hK15 _ _ ?_; try clear hK15 K15
      refine A_seq fun K16 hK16 => ?_
      refine A_seq fun K17 hK17 => ?_
      refine A_reg ?_
      refine r_v (Value.string (⟨(s).toArray⟩)) rfl rfl rfl rfl ?_
      refine r_v (Value.int .i64 (((s).length : Int))) rfl rfl rfl (ev_lenS rfl rfl rfl) ?_
      refine r_v (Value.int .i64 (0)) rfl rfl rfl rfl ?_
      refine lx_nil ?_
      refine hK17 _ _ ?_; try clear hK17 K17
      refine A_block ?_
      refine A_loop (fun tt ll nn => ∃ (n18 : Nat) (above1_ : Bool) (x2_ : Int) (m3_ : BitVec 128) (m4_ : BitVec 128), (word_Parse_l5 N s base n18 above1_ x2_ m3_ m4_ = some r) ∧ Is [(0, Value.string (⟨(s).toArray⟩)), (1, Value.int .i64 (base)), (4, Value.pointer (some ⟨b2, 0, none⟩)), (6, Value.pointer (some ⟨b14, 0, none⟩)), (7, Value.bool (above1_)), (20, Value.int .i64 (((s).length : Int))), (21, Value.int .i64 (x2_))] [(b14, 24, #[U (hi (m3_)), U (lo (m3_))]), (b2, 24, #[U (hi (m4_)), U (lo (m4_))])] tt ll ∧ nn = n18 + 1) (N + 1) ?_ ?_
      · exact ⟨N, false, 0, (0#64) ++ (0#64), (0#64) ++ (0#64), hM, is_mk rfl (by simp only [hi_app, lo_app]), rfl⟩
      · clear hM; rintro t l _ ⟨n18, above1_, x2_, m3_, m4_, hM, ⟨⟨T, rfl⟩, rfl⟩, rfl⟩
        rcases n18 with _ | n18
        · exact absurd hM (by simp [word_Parse_l5])
        rw [word_Parse_l5] at hM
        refine A_seq fun K19 hK19 => ?_
        refine A_reg ?_
        refine r_v (Value.bool (decide ((x2_ : Int) < ((s).length : Int)))) rfl rfl rfl rfl ?_
        refine lx_nil ?_
        refine hK19 _ _ ?_; try clear hK19 K19
        refine A_seq fun K20 hK20 => ?_
        refine A_cond (decide ((x2_ : Int) < ((s).length : Int))) rfl (fun hc21 => ?_) (fun hc21 => ?_)
        · have hM := ifp (of_decide_eq_true hc21) hM
          refine A_skip ?_
          refine hK20 _ _ ?_; try clear hK20 K20
          refine A_seq fun K22 hK22 => ?_
          refine A_block ?_
          refine A_seq fun K23 hK23 => ?_
          refine A_reg ?_
          refine r_v (Value.int .i64 (x2_)) rfl rfl rfl rfl ?_
          refine r_v (Value.int .i64 (x2_)) rfl rfl rfl rfl ?_
          refine lx_nil ?_
          refine hK23 _ _ ?_; try clear hK23 K23
          refine A_seq fun K24 hK24 => ?_
          refine A_reg ?_
          refine r_v (Value.string (⟨(s).toArray⟩)) rfl rfl rfl rfl ?_
          refine r_v (Value.int .i64 (x2_)) rfl rfl rfl rfl ?_
          obtain ⟨ck25, hM⟩ := ck_some hM
          refine r_v (Value.int .u8 ((byteAt (s) (x2_)))) rfl rfl rfl (ev_v (ev_indexS rfl ck25)) ?_
          obtain ⟨r26, hr27, hM⟩ := bind_sm hM
          refine r_c (Value.int .i64 (r26)) rfl _ _ (ev_callF rfl call_45 rfl) (word_digit_g N ((byteAt (s) (x2_))) _ hr27) ?_
          refine r_v (Value.int .i64 (r26)) rfl rfl rfl rfl ?_
          refine lx_nil ?_
          refine hK24 _ _ ?_; try clear hK24 K24
          refine A_seq fun K28 hK28 => ?_
          refine A_seq fun K29 hK29 => ?_
          refine A_reg ?_
          refine r_v (Value.int .i64 (r26)) rfl rfl rfl rfl ?_
          refine r_v (Value.int .i64 (base)) rfl rfl rfl rfl ?_
          refine r_v (Value.bool (decide ((r26 : Int) ≥ base))) rfl rfl rfl rfl ?_
          refine lx_nil ?_
          refine hK29 _ _ ?_; try clear hK29 K29
          refine A_cond (decide ((r26 : Int) ≥ base)) rfl (fun hc30 => ?_) (fun hc30 => ?_)
          · have hM := ifp (of_decide_eq_true hc30) hM
            refine A_seq fun K31 hK31 => ?_
            refine A_reg ?_
            refine r_v (Value.agg #[U (0#64), U (0#64)]) rfl rfl rfl (ev_buildS rfl rfl rfl rfl) ?_
            refine r_s [(b14, 24, #[U (hi (m3_)), U (lo (m3_))]), (b2, 24, #[U (0#64), U (0#64)])] 1 _ _ _ (#[U (hi (m4_)), U (lo (m4_))]) (#[U (0#64), U (0#64)]) (#[U (0#64), U (0#64)]) rfl rfl rfl rfl (.of rfl rfl) rfl rfl ?_
            refine r_v (Value.int .i64 (4)) rfl rfl rfl rfl ?_
            refine lx_nil ?_
            refine hK31 _ _ ?_; try clear hK31 K31
            obtain rfl := Option.some.inj hM
            refine A_ret (fun hn => ends_eq (v0 := Value.tuple #[Value.agg #[U (0#64), U (0#64)], Value.int .i64 (4)]) (by simp only [hi_app, lo_app]) (res2 (res_cell hn 1 rfl rfl rfl) rfl))
          · have hM := ifn (of_decide_eq_false hc30) hM
            refine A_skip ?_
            refine hK28 _ _ ?_; try clear hK28 K28
            refine A_seq fun K32 hK32 => ?_
            refine A_reg ?_
            refine r_l (Value.agg #[U (hi (m3_)), U (lo (m3_))]) 0 _ _ _ _ rfl rfl rfl rfl rfl ?_
            refine r_v (Value.int .i64 (base)) rfl rfl rfl rfl ?_
            refine r_v (Value.int .i64 (r26)) rfl rfl rfl rfl ?_
            obtain ⟨r33, hr34, hM⟩ := bind_sm hM
            refine r_c (Value.tuple #[Value.agg #[U (hi (r33.1)), U (lo (r33.1))], Value.bool (r33.2)]) rfl _ _ (ev_callF rfl call_46 rfl) (word_behind_g N (m3_) (base) (r26) _ hr34) ?_
            refine r_v (Value.tuple #[Value.agg #[U (hi (r33.1)), U (lo (r33.1))], Value.bool (r33.2)]) rfl rfl rfl rfl ?_
            refine r_v (Value.agg #[U (hi (r33.1)), U (lo (r33.1))]) rfl rfl rfl rfl ?_
            refine r_v (Value.bool (r33.2)) rfl rfl rfl rfl ?_
            refine r_a (24, #[U (0#64), U (0#64)]) rfl rfl rfl (fun b35 => ?_) (.inr rfl)
            refine r_s [(b35, 24, #[U (hi (r33.1)), U (lo (r33.1))]), (b14, 24, #[U (hi (m3_)), U (lo (m3_))]), (b2, 24, #[U (hi (m4_)), U (lo (m4_))])] 0 _ _ _ (#[U (0#64), U (0#64)]) (#[U (hi (r33.1)), U (lo (r33.1))]) (#[U (hi (r33.1)), U (lo (r33.1))]) rfl rfl rfl rfl (.of rfl rfl) rfl rfl ?_
            refine r_v (Value.bool (r33.2)) rfl rfl rfl rfl ?_
            refine lx_nil ?_
            refine hK32 _ _ ?_; try clear hK32 K32
            refine A_reg ?_
            refine r_l (Value.agg #[U (hi (r33.1)), U (lo (r33.1))]) 0 _ _ _ _ rfl rfl rfl rfl rfl ?_
            refine r_v (Value.bool (above1_)) rfl rfl rfl rfl ?_
            refine r_v (Value.bool (above1_)) rfl rfl rfl rfl ?_
            rcases hg36 : (above1_) with _ | _
            · have hM := ifn (Bool.eq_false_iff.1 hg36) hM
              refine r_y rfl ?_
              refine r_v (Value.bool (r33.2)) rfl rfl rfl rfl ?_
              refine r_v (Value.bool (r33.2)) rfl rfl rfl rfl ?_
              refine r_s [(b35, 24, #[U (hi (r33.1)), U (lo (r33.1))]), (b14, 24, #[U (hi (r33.1)), U (lo (r33.1))]), (b2, 24, #[U (hi (m4_)), U (lo (m4_))])] 1 _ _ _ (#[U (hi (m3_)), U (lo (m3_))]) (#[U (hi (r33.1)), U (lo (r33.1))]) (#[U (hi (r33.1)), U (lo (r33.1))]) rfl rfl rfl rfl (.of rfl rfl) rfl rfl ?_
              refine r_v (Value.bool (r33.2)) rfl rfl rfl rfl ?_
              refine lx_nil ?_
              refine hK22 _ _ ?_; try clear hK22 K22
              refine A_reg ?_
              obtain ⟨ck37, hM⟩ := ck_some hM
              refine r_v (Value.int .i64 ((x2_ + 1))) rfl rfl (wi64 rfl ck37.1 ck37.2) rfl ?_
              refine r_v (Value.int .i64 ((x2_ + 1))) rfl rfl rfl rfl ?_
              refine lx_nil ?_
              refine fg _ (List.Sublist.cons _ (List.Sublist.cons_cons _ (List.Sublist.cons_cons _ (List.Sublist.slnil)))) ?_
              exact ⟨n18 + 1, by omega, n18, r33.2, (x2_ + 1), r33.1, m4_, hM, is_mk rfl rfl, rfl⟩
            · have hM := ifp hg36 hM
              refine r_n true rfl (by decide) rfl ?_
              refine r_v (Value.bool (true)) rfl rfl rfl rfl ?_
              refine r_s [(b35, 24, #[U (hi (r33.1)), U (lo (r33.1))]), (b14, 24, #[U (hi (r33.1)), U (lo (r33.1))]), (b2, 24, #[U (hi (m4_)), U (lo (m4_))])] 1 _ _ _ (#[U (hi (m3_)), U (lo (m3_))]) (#[U (hi (r33.1)), U (lo (r33.1))]) (#[U (hi (r33.1)), U (lo (r33.1))]) rfl rfl rfl rfl (.of rfl rfl) rfl rfl ?_
              refine r_v (Value.bool (true)) rfl rfl rfl rfl ?_
              refine lx_nil ?_
              refine hK22 _ _ ?_; try clear hK22 K22
              refine A_reg ?_
              obtain ⟨ck38, hM⟩ := ck_some hM
              refine r_v (Value.int .i64 ((x2_ + 1))) rfl rfl (wi64 rfl ck38.1 ck38.2) rfl ?_
              refine r_v (Value.int .i64 ((x2_ + 1))) rfl rfl rfl rfl ?_
              refine lx_nil ?_
              refine fg _ (List.Sublist.cons _ (List.Sublist.cons_cons _ (List.Sublist.cons_cons _ (List.Sublist.slnil)))) ?_
              exact ⟨n18 + 1, by omega, n18, true, (x2_ + 1), r33.1, m4_, hM, is_mk rfl rfl, rfl⟩
        · have hM := ifn (of_decide_eq_false hc21) hM
          refine A_exit ?_
          refine hK16 _ _ ?_; try clear hK16 K16
          refine A_seq fun K39 hK39 => ?_
          refine A_seq fun K40 hK40 => ?_
          refine A_reg ?_
          refine r_v (Value.bool (above1_)) rfl rfl rfl rfl ?_
          refine lx_nil ?_
          refine hK40 _ _ ?_; try clear hK40 K40
          refine A_cond (above1_) rfl (fun hc41 => ?_) (fun hc41 => ?_)
          · have hM := ifp hc41 hM
            refine A_seq fun K42 hK42 => ?_
            refine A_reg ?_
            refine r_v (Value.agg #[U (0#64), U (0#64)]) rfl rfl rfl (ev_buildS rfl rfl rfl rfl) ?_
            refine r_s [(b14, 24, #[U (hi (m3_)), U (lo (m3_))]), (b2, 24, #[U (0#64), U (0#64)])] 1 _ _ _ (#[U (hi (m4_)), U (lo (m4_))]) (#[U (0#64), U (0#64)]) (#[U (0#64), U (0#64)]) rfl rfl rfl rfl (.of rfl rfl) rfl rfl ?_
            refine r_v (Value.int .i64 (7)) rfl rfl rfl rfl ?_
            refine lx_nil ?_
            refine hK42 _ _ ?_; try clear hK42 K42
            obtain rfl := Option.some.inj hM
            refine A_ret (fun hn => ends_eq (v0 := Value.tuple #[Value.agg #[U (0#64), U (0#64)], Value.int .i64 (7)]) (by simp only [hi_app, lo_app]) (res2 (res_cell hn 1 rfl rfl rfl) rfl))
          · have hM := ifn (Bool.eq_false_iff.1 hc41) hM
            refine A_skip ?_
            refine hK39 _ _ ?_; try clear hK39 K39
            refine A_seq fun K43 hK43 => ?_
            refine A_reg ?_
            refine r_l (Value.agg #[U (hi (m3_)), U (lo (m3_))]) 0 _ _ _ _ rfl rfl rfl rfl rfl ?_
            refine r_s [(b14, 24, #[U (hi (m3_)), U (lo (m3_))]), (b2, 24, #[U (hi (m3_)), U (lo (m3_))])] 1 _ _ _ (#[U (hi (m4_)), U (lo (m4_))]) (#[U (hi (m3_)), U (lo (m3_))]) (#[U (hi (m3_)), U (lo (m3_))]) rfl rfl rfl rfl (.of rfl rfl) rfl rfl ?_
            refine r_v (Value.int .i64 (0)) rfl rfl rfl rfl ?_
            refine lx_nil ?_
            refine hK43 _ _ ?_; try clear hK43 K43
            obtain rfl := Option.some.inj hM
            refine A_ret (fun hn => ends_eq (v0 := Value.tuple #[Value.agg #[U (hi (m3_)), U (lo (m3_))], Value.int .i64 (0)]) rfl (res2 (res_cell hn 1 rfl rfl rfl) rfl))
def shunterref01_small_m (N : Nat) (n : Int) : Option (BitVec 128) := some ((0#64) ++ (BitVec.ofInt 64 (n)))
set_option maxRecDepth 100000 in
set_option maxHeartbeats 400000 in
theorem shunterref01_small_g (N : Nat) (n : Int) (r : BitVec 128) (hM : shunterref01_small_m N n = some r) : Gives Try.prog 47 #[Value.int .i64 (n)] (Value.agg (rowF (BitVec.getLsbD (r)))) := by
  unfold shunterref01_small_m at hM
  refine gives_of_A follows Try.func47 rfl 6 rfl (upd (fun _ => undef) 0 (Value.int .i64 (n))) (by funext k; match k with | 0 => rfl | k + 1 => rfl) (fun base0_ => ?_)
  refine A_seq fun K1 hK1 => ?_
  refine A_reg ?_
  refine r_a (28, rowF (BitVec.getLsbD (0#128))) rfl rfl ((zrow z_28).trans (congrArg (fun x => some (28, x)) row_zero)) (fun b2 => ?_) (.inr rfl)
  refine lx_nil ?_
  refine hK1 _ _ ?_; try clear hK1 K1
  refine A_seq fun K3 hK3 => ?_
  refine A_reg ?_
  refine r_v (Value.int .i64 (n)) rfl rfl rfl rfl ?_
  refine r_w (U (BitVec.ofInt 64 (n))) rfl rfl (U_wrapI (n)) (fun _ => rfl) ?_
  refine r_c (Value.agg (rowF (BitVec.getLsbD ((0#64) ++ (BitVec.ofInt 64 (n)))))) rfl _ _ (ev_callF rfl call_19 rfl) (of_g (0#64) (BitVec.ofInt 64 (n))) ?_
  refine r_s [(b2, 28, rowF (BitVec.getLsbD ((0#64) ++ (BitVec.ofInt 64 (n)))))] 0 _ _ _ (rowF (BitVec.getLsbD (0#128))) (rowF (BitVec.getLsbD ((0#64) ++ (BitVec.ofInt 64 (n))))) (rowF (BitVec.getLsbD ((0#64) ++ (BitVec.ofInt 64 (n))))) rfl rfl rfl rfl (stok_rows rfl rfl _ _) (splice_rows _ _) rfl ?_
  refine lx_nil ?_
  refine hK3 _ _ ?_; try clear hK3 K3
  obtain rfl := Option.some.inj hM
  refine A_ret (fun hn => ends_eq (v0 := Value.agg (rowF (BitVec.getLsbD ((0#64) ++ (BitVec.ofInt 64 (n)))))) rfl (res1 (res_cell hn 0 rfl rfl (ld_rows rfl rfl rfl _))))
def shunterref01_Halves_k6 (r' : BitVec 128) (lo2_ : BitVec 64) (i3_ : Int) (rec_shunterref01_Halves_l4 : BitVec 64 → BitVec 64 → Int → Option (BitVec 64 × BitVec 64)) (hi5_ : BitVec 64) : Option (BitVec 64 × BitVec 64) := ck (0 ≤ i3_ ∧ i3_ < 128) (if ((r').getLsbD ((i3_).toNat)) = true then ck ((-9223372036854775808 ≤ (i3_ - 1) ∧ (i3_ - 1) ≤ 9223372036854775807)) (rec_shunterref01_Halves_l4 (hi5_) (((2#64 * lo2_) + 1#64)) ((i3_ - 1))) else ck ((-9223372036854775808 ≤ (i3_ - 1) ∧ (i3_ - 1) ≤ 9223372036854775807)) (rec_shunterref01_Halves_l4 (hi5_) ((2#64 * lo2_)) ((i3_ - 1))))
def shunterref01_Halves_l4 (r' : BitVec 128) : Nat → BitVec 64 → BitVec 64 → Int → Option (BitVec 64 × BitVec 64)
  | 0, _, _, _ => none
  | n6 + 1, hi1_, lo2_, i3_ => if (i3_ : Int) ≥ 0 then ck ((-9223372036854775808 ≤ (i3_ + 64) ∧ (i3_ + 64) ≤ 9223372036854775807)) (ck (0 ≤ (i3_ + 64) ∧ (i3_ + 64) < 128) (if ((r').getLsbD (((i3_ + 64)).toNat)) = true then shunterref01_Halves_k6 r' lo2_ i3_ (shunterref01_Halves_l4 r' n6) (((2#64 * hi1_) + 1#64)) else shunterref01_Halves_k6 r' lo2_ i3_ (shunterref01_Halves_l4 r' n6) ((2#64 * hi1_)))) else some (hi1_, lo2_)
def shunterref01_Halves_m (N : Nat) (r' : BitVec 128) : Option (BitVec 64 × BitVec 64) := shunterref01_Halves_l4 r' N (0#64) (0#64) (63)
set_option maxRecDepth 100000 in
set_option maxHeartbeats 400000 in
theorem shunterref01_Halves_g (N : Nat) (r' : BitVec 128) (r : BitVec 64 × BitVec 64) (hM : shunterref01_Halves_m N r' = some r) : Gives Try.prog 48 #[Value.agg (rowF (BitVec.getLsbD (r')))] (Value.tuple #[U (r.1), U (r.2)]) := by
  unfold shunterref01_Halves_m at hM
  refine gives_of_A follows Try.func48 rfl 28 rfl (upd (fun _ => undef) 0 (Value.agg (rowF (BitVec.getLsbD (r'))))) (by funext k; match k with | 0 => rfl | k + 1 => rfl) (fun base0_ => ?_)
  refine A_seq fun K1 hK1 => ?_
  refine A_reg ?_
  refine r_a (28, rowF (BitVec.getLsbD (r'))) rfl rfl rfl (fun b2 => ?_) (.inr rfl)
  refine r_v (U (0#64)) rfl rfl rfl rfl ?_
  refine r_v (U (0#64)) rfl rfl rfl rfl ?_
  refine lx_nil ?_
  refine hK1 _ _ ?_; try clear hK1 K1
  refine A_seq fun K3 hK3 => ?_
  refine A_reg ?_
  refine r_v (U (0#64)) rfl rfl rfl rfl ?_
  refine r_v (U (0#64)) rfl rfl rfl rfl ?_
  refine lx_nil ?_
  refine hK3 _ _ ?_; try clear hK3 K3
  refine A_seq fun K4 hK4 => ?_
  refine A_seq fun K5 hK5 => ?_
  refine A_reg ?_
  refine r_v (Value.int .i64 (63)) rfl rfl rfl rfl ?_
  refine lx_nil ?_
  refine hK5 _ _ ?_; try clear hK5 K5
  refine A_block ?_
  refine A_loop (fun tt ll nn => ∃ (n6 : Nat) (hi1_ : BitVec 64) (lo2_ : BitVec 64) (i3_ : Int), (shunterref01_Halves_l4 r' n6 hi1_ lo2_ i3_ = some r) ∧ Is [(1, Value.pointer (some ⟨b2, 0, none⟩)), (4, U (hi1_)), (5, U (lo2_)), (6, Value.int .i64 (i3_))] [(b2, 28, rowF (BitVec.getLsbD (r')))] tt ll ∧ nn = n6 + 1) (N + 1) ?_ ?_
  · exact ⟨N, 0#64, 0#64, 63, hM, is_mk rfl rfl, rfl⟩
  · clear hM; rintro t l _ ⟨n6, hi1_, lo2_, i3_, hM, ⟨⟨T, rfl⟩, rfl⟩, rfl⟩
    rcases n6 with _ | n6
    · exact absurd hM (by simp [shunterref01_Halves_l4])
    rw [shunterref01_Halves_l4] at hM
    refine A_seq fun K7 hK7 => ?_
    refine A_seq fun K8 hK8 => ?_
    refine A_reg ?_
    refine r_v (Value.int .i64 (i3_)) rfl rfl rfl rfl ?_
    refine r_v (Value.bool (decide ((i3_ : Int) ≥ 0))) rfl rfl rfl rfl ?_
    refine lx_nil ?_
    refine hK8 _ _ ?_; try clear hK8 K8
    refine A_cond (decide ((i3_ : Int) ≥ 0)) rfl (fun hc9 => ?_) (fun hc9 => ?_)
    · have hM := ifp (of_decide_eq_true hc9) hM
      refine A_skip ?_
      refine hK7 _ _ ?_; try clear hK7 K7
      refine A_seq fun K10 hK10 => ?_
      refine A_block ?_
      refine A_seq fun K11 hK11 => ?_
      refine A_reg ?_
      refine r_v (U (hi1_)) rfl rfl rfl rfl ?_
      refine r_v (U ((2#64 * hi1_))) rfl rfl (U_mul (2#64) (hi1_)) rfl ?_
      refine r_v (U ((2#64 * hi1_))) rfl rfl rfl rfl ?_
      refine lx_nil ?_
      refine hK11 _ _ ?_; try clear hK11 K11
      refine A_seq fun K12 hK12 => ?_
      refine A_reg ?_
      refine r_v (U (lo2_)) rfl rfl rfl rfl ?_
      refine r_v (U ((2#64 * lo2_))) rfl rfl (U_mul (2#64) (lo2_)) rfl ?_
      refine r_v (U ((2#64 * lo2_))) rfl rfl rfl rfl ?_
      refine lx_nil ?_
      refine hK12 _ _ ?_; try clear hK12 K12
      refine A_cut (fun tt ll => ∃ (hi5_ : BitVec 64), (shunterref01_Halves_k6 r' lo2_ i3_ (shunterref01_Halves_l4 r' n6) hi5_ = some r) ∧ Is [(1, Value.pointer (some ⟨b2, 0, none⟩)), (4, U (hi5_)), (5, U ((2#64 * lo2_))), (6, Value.int .i64 (i3_))] [(b2, 28, rowF (BitVec.getLsbD (r')))] tt ll) ?_ ?_
      · refine A_seq fun K19 hK19 => ?_
        refine A_reg ?_
        refine r_v (Value.int .i64 (i3_)) rfl rfl rfl rfl ?_
        obtain ⟨ck20, hM⟩ := ck_some hM
        refine r_v (Value.int .i64 ((i3_ + 64))) rfl rfl (wi64 rfl ck20.1 ck20.2) rfl ?_
        obtain ⟨ck21, hM⟩ := ck_some hM
        have hx22 := ev_v (ev_idxI (P := Try.prog) (c := fun _ => none) (t := 28) (b := b2) (off := 0) (k := .i64) rfl rfl rfl ck21)
        rw [Nat.zero_add] at hx22
        have ck21n : ((i3_ + 64)).toNat < 128 := by omega
        refine r_v (Value.pointer (some ⟨b2, ((i3_ + 64)).toNat, none⟩)) rfl rfl rfl hx22 ?_
        refine r_l (Value.bool ((r').getLsbD (((i3_ + 64)).toNat))) 0 _ _ _ _ rfl rfl rfl rfl (ld_row1 rfl _ ck21n) ?_
        refine lx_nil ?_
        refine hK19 _ _ ?_; try clear hK19 K19
        refine A_cond ((r').getLsbD (((i3_ + 64)).toNat)) rfl (fun hc23 => ?_) (fun hc23 => ?_)
        · have hM := ifp hc23 hM
          refine A_reg ?_
          refine r_v (U ((2#64 * hi1_))) rfl rfl rfl rfl ?_
          refine r_v (U (((2#64 * hi1_) + 1#64))) rfl rfl (U_add ((2#64 * hi1_)) (1#64)) rfl ?_
          refine r_v (U (((2#64 * hi1_) + 1#64))) rfl rfl rfl rfl ?_
          refine lx_nil ?_
          refine fg _ (List.Sublist.cons_cons _ (List.Sublist.slnil)) ?_
          exact ⟨((2#64 * hi1_) + 1#64), hM, is_mk rfl rfl⟩
        · have hM := ifn (Bool.eq_false_iff.1 hc23) hM
          refine A_skip ?_
          refine fg _ (List.Sublist.cons_cons _ (List.Sublist.slnil)) ?_
          exact ⟨(2#64 * hi1_), hM, is_mk rfl rfl⟩
      · clear hM; rintro t l ⟨hi5_, hM, ⟨T, rfl⟩, rfl⟩
        unfold shunterref01_Halves_k6 at hM
        refine A_seq fun K13 hK13 => ?_
        refine A_reg ?_
        refine r_v (Value.int .i64 (i3_)) rfl rfl rfl rfl ?_
        obtain ⟨ck14, hM⟩ := ck_some hM
        have hx15 := ev_v (ev_idxI (P := Try.prog) (c := fun _ => none) (t := 28) (b := b2) (off := 0) (k := .i64) rfl rfl rfl ck14)
        rw [Nat.zero_add] at hx15
        have ck14n : (i3_).toNat < 128 := by omega
        refine r_v (Value.pointer (some ⟨b2, (i3_).toNat, none⟩)) rfl rfl rfl hx15 ?_
        refine r_l (Value.bool ((r').getLsbD ((i3_).toNat))) 0 _ _ _ _ rfl rfl rfl rfl (ld_row1 rfl _ ck14n) ?_
        refine lx_nil ?_
        refine hK13 _ _ ?_; try clear hK13 K13
        refine A_cond ((r').getLsbD ((i3_).toNat)) rfl (fun hc16 => ?_) (fun hc16 => ?_)
        · have hM := ifp hc16 hM
          refine A_reg ?_
          refine r_v (U ((2#64 * lo2_))) rfl rfl rfl rfl ?_
          refine r_v (U (((2#64 * lo2_) + 1#64))) rfl rfl (U_add ((2#64 * lo2_)) (1#64)) rfl ?_
          refine r_v (U (((2#64 * lo2_) + 1#64))) rfl rfl rfl rfl ?_
          refine lx_nil ?_
          refine hK10 _ _ ?_; try clear hK10 K10
          refine A_reg ?_
          refine r_v (Value.int .i64 (i3_)) rfl rfl rfl rfl ?_
          obtain ⟨ck17, hM⟩ := ck_some hM
          refine r_v (Value.int .i64 ((i3_ - 1))) rfl rfl (wi64 rfl ck17.1 ck17.2) rfl ?_
          refine r_v (Value.int .i64 ((i3_ - 1))) rfl rfl rfl rfl ?_
          refine lx_nil ?_
          refine fg _ (List.Sublist.cons_cons _ (List.Sublist.slnil)) ?_
          exact ⟨n6 + 1, by omega, n6, hi5_, ((2#64 * lo2_) + 1#64), (i3_ - 1), hM, is_mk rfl rfl, rfl⟩
        · have hM := ifn (Bool.eq_false_iff.1 hc16) hM
          refine A_skip ?_
          refine hK10 _ _ ?_; try clear hK10 K10
          refine A_reg ?_
          refine r_v (Value.int .i64 (i3_)) rfl rfl rfl rfl ?_
          obtain ⟨ck18, hM⟩ := ck_some hM
          refine r_v (Value.int .i64 ((i3_ - 1))) rfl rfl (wi64 rfl ck18.1 ck18.2) rfl ?_
          refine r_v (Value.int .i64 ((i3_ - 1))) rfl rfl rfl rfl ?_
          refine lx_nil ?_
          refine fg _ (List.Sublist.cons_cons _ (List.Sublist.slnil)) ?_
          exact ⟨n6 + 1, by omega, n6, hi5_, (2#64 * lo2_), (i3_ - 1), hM, is_mk rfl rfl, rfl⟩
    · have hM := ifn (of_decide_eq_false hc9) hM
      refine A_exit ?_
      refine hK4 _ _ ?_; try clear hK4 K4
      refine A_seq fun K24 hK24 => ?_
      refine A_reg ?_
      refine r_v (U (hi1_)) rfl rfl rfl rfl ?_
      refine r_v (U (lo2_)) rfl rfl rfl rfl ?_
      refine r_v (U (hi1_)) rfl rfl rfl rfl ?_
      refine r_v (U (lo2_)) rfl rfl rfl rfl ?_
      refine lx_nil ?_
      refine hK24 _ _ ?_; try clear hK24 K24
      obtain rfl := Option.some.inj hM
      refine A_ret (fun hn => ends_eq (v0 := Value.tuple #[U (hi1_), U (lo2_)]) rfl (res2 rfl rfl))
def shunterref01_Parse_l8 (N : Nat) (s : List UInt8) (base : Int) (over1_ : Bool) (i2_ : Int) (m3_ : BitVec 128) (m4_ : BitVec 128) (rec_shunterref01_Parse_l5 : Bool → Int → BitVec 128 → BitVec 128 → Option (BitVec 128 × Int)) : Nat → Int → Int → Option (BitVec 128 × Int)
  | 0, _, _ => none
  | n25 + 1, d6_, k7_ => if (k7_ : Int) < base then ck (0 ≤ i2_ ∧ i2_ < ((s).length : Int)) (ck (0 ≤ k7_ ∧ k7_ < ((([48, 49, 50, 51, 52, 53, 54, 55, 56, 57, 97, 98, 99, 100, 101, 102] : List UInt8)).length : Int)) (if ((byteAt (s) (i2_)) : Int) = (byteAt (([48, 49, 50, 51, 52, 53, 54, 55, 56, 57, 97, 98, 99, 100, 101, 102] : List UInt8)) (k7_)) then ck ((-9223372036854775808 ≤ (k7_ + 1) ∧ (k7_ + 1) ≤ 9223372036854775807)) ((shunterref01_Parse_l8 N s base over1_ i2_ m3_ m4_ rec_shunterref01_Parse_l5 n25) (k7_) ((k7_ + 1))) else ck (0 ≤ i2_ ∧ i2_ < ((s).length : Int)) (ck (0 ≤ k7_ ∧ k7_ < ((([48, 49, 50, 51, 52, 53, 54, 55, 56, 57, 65, 66, 67, 68, 69, 70] : List UInt8)).length : Int)) (if ((byteAt (s) (i2_)) : Int) = (byteAt (([48, 49, 50, 51, 52, 53, 54, 55, 56, 57, 65, 66, 67, 68, 69, 70] : List UInt8)) (k7_)) then ck ((-9223372036854775808 ≤ (k7_ + 1) ∧ (k7_ + 1) ≤ 9223372036854775807)) ((shunterref01_Parse_l8 N s base over1_ i2_ m3_ m4_ rec_shunterref01_Parse_l5 n25) (k7_) ((k7_ + 1))) else ck ((-9223372036854775808 ≤ (k7_ + 1) ∧ (k7_ + 1) ≤ 9223372036854775807)) ((shunterref01_Parse_l8 N s base over1_ i2_ m3_ m4_ rec_shunterref01_Parse_l5 n25) (d6_) ((k7_ + 1))))))) else if (d6_ : Int) = 99 then some (0#128, 4) else if (over1_) = true then ck ((-9223372036854775808 ≤ (i2_ + 1) ∧ (i2_ + 1) ≤ 9223372036854775807)) (rec_shunterref01_Parse_l5 (over1_) ((i2_ + 1)) (m3_) (m4_)) else (shunterref01_small_m N (base)).bind fun r47 => ck ((r47) ≠ 0#128) ((shunterref01_small_m N (base)).bind fun r54 => (shunterref01_small_m N (d6_)).bind fun r56 => if ((~~~(0#128)) / (r47)) < (m3_) then ck ((-9223372036854775808 ≤ (i2_ + 1) ∧ (i2_ + 1) ≤ 9223372036854775807)) (rec_shunterref01_Parse_l5 (true) ((i2_ + 1)) (((m3_) * (r54)) + (r56) + cb128 (false)) (m4_)) else ck ((-9223372036854775808 ≤ (i2_ + 1) ∧ (i2_ + 1) ≤ 9223372036854775807)) (rec_shunterref01_Parse_l5 (BitVec.carry 128 ((m3_) * (r54)) (r56) (false)) ((i2_ + 1)) (((m3_) * (r54)) + (r56) + cb128 (false)) (m4_)))
def shunterref01_Parse_l5 (N : Nat) (s : List UInt8) (base : Int) : Nat → Bool → Int → BitVec 128 → BitVec 128 → Option (BitVec 128 × Int)
  | 0, _, _, _, _ => none
  | n17 + 1, over1_, i2_, m3_, m4_ => if (i2_ : Int) < ((s).length : Int) then shunterref01_Parse_l8 N s base over1_ i2_ m3_ m4_ (shunterref01_Parse_l5 N s base n17) N (99) (0) else if (over1_) = true then some (0#128, 7) else some (m3_, 0)
def shunterref01_Parse_m (N : Nat) (s : List UInt8) (base : Int) : Option (BitVec 128 × Int) := if (base : Int) < 2 then some (0#128, 1) else if (base : Int) > 16 then some (0#128, 1) else if (s) = ([]) then some (0#128, 3) else shunterref01_Parse_l5 N s base N (false) (0) (0#128) (0#128)
set_option maxRecDepth 100000 in
set_option maxHeartbeats 400000 in
theorem shunterref01_Parse_g (N : Nat) (s : List UInt8) (base : Int) (r : BitVec 128 × Int) (hM : shunterref01_Parse_m N s base = some r) : Gives Try.prog 34 #[Value.string (⟨(s).toArray⟩), Value.int .i64 (base)] (Value.tuple #[Value.agg (rowF (BitVec.getLsbD (r.1))), Value.int .i64 (r.2)]) := by
  unfold shunterref01_Parse_m at hM
  refine gives_of_A follows Try.func34 rfl 85 rfl (upd (upd (fun _ => undef) 1 (Value.int .i64 (base))) 0 (Value.string (⟨(s).toArray⟩))) (by funext k; match k with | 0 => rfl | 1 => rfl | k + 2 => rfl) (fun base0_ => ?_)
  refine A_seq fun K1 hK1 => ?_
  refine A_reg ?_
  refine r_a (28, rowF (BitVec.getLsbD (0#128))) rfl rfl ((zrow z_28).trans (congrArg (fun x => some (28, x)) row_zero)) (fun b2 => ?_) (.inr rfl)
  refine r_v (Value.int .i64 (0)) rfl rfl rfl rfl ?_
  refine lx_nil ?_
  refine hK1 _ _ ?_; try clear hK1 K1
  refine A_seq fun K3 hK3 => ?_
  refine A_seq fun K4 hK4 => ?_
  refine A_reg ?_
  refine r_v (Value.int .i64 (base)) rfl rfl rfl rfl ?_
  refine r_v (Value.bool (decide ((base : Int) < 2))) rfl rfl rfl rfl ?_
  refine r_v (Value.bool (decide ((base : Int) < 2))) rfl rfl rfl rfl ?_
  rcases hg5 : (decide ((base : Int) < 2)) with _ | _
  · have hM := ifn (of_decide_eq_false hg5) hM
    refine r_y rfl ?_
    refine r_v (Value.int .i64 (base)) rfl rfl rfl rfl ?_
    refine r_y rfl ?_
    refine r_v (Value.bool (decide ((base : Int) > 16))) rfl rfl rfl rfl ?_
    refine r_v (Value.bool (decide ((base : Int) > 16))) rfl rfl rfl rfl ?_
    refine lx_nil ?_
    refine hK4 _ _ ?_; try clear hK4 K4
    refine A_cond (decide ((base : Int) > 16)) rfl (fun hc6 => ?_) (fun hc6 => ?_)
    · have hM := ifp (of_decide_eq_true hc6) hM
      refine A_seq fun K7 hK7 => ?_
      refine A_reg ?_
      refine r_v (Value.agg (rowF (BitVec.getLsbD (0#128)))) rfl rfl rfl ((ev_buildA rfl z_28 rfl rfl).trans (congrArg (fun x => some (Next.value (Value.agg x))) (rowF_false.trans row_zero))) ?_
      refine r_s [(b2, 28, rowF (BitVec.getLsbD (0#128)))] 0 _ _ _ (rowF (BitVec.getLsbD (0#128))) (rowF (BitVec.getLsbD (0#128))) (rowF (BitVec.getLsbD (0#128))) rfl rfl rfl rfl (stok_rows rfl rfl _ _) (splice_rows _ _) rfl ?_
      refine r_v (Value.int .i64 (1)) rfl rfl rfl rfl ?_
      refine lx_nil ?_
      refine hK7 _ _ ?_; try clear hK7 K7
      obtain rfl := Option.some.inj hM
      refine A_ret (fun hn => ends_eq (v0 := Value.tuple #[Value.agg (rowF (BitVec.getLsbD (0#128))), Value.int .i64 (1)]) rfl (res2 (res_cell hn 0 rfl rfl (ld_rows rfl rfl rfl _)) rfl))
    · have hM := ifn (of_decide_eq_false hc6) hM
      refine A_skip ?_
      refine hK3 _ _ ?_; try clear hK3 K3
      refine A_seq fun K8 hK8 => ?_
      refine A_seq fun K9 hK9 => ?_
      refine A_reg ?_
      refine r_v (Value.string (⟨(s).toArray⟩)) rfl rfl rfl rfl ?_
      refine r_v (Value.bool ((s) == ([]))) rfl rfl rfl (ev_eqS rfl rfl) ?_
      refine lx_nil ?_
      refine hK9 _ _ ?_; try clear hK9 K9
      refine A_cond ((s) == ([])) rfl (fun hc10 => ?_) (fun hc10 => ?_)
      · have hM := ifp (eq_of_beq hc10) hM
        refine A_seq fun K11 hK11 => ?_
        refine A_reg ?_
        refine r_v (Value.agg (rowF (BitVec.getLsbD (0#128)))) rfl rfl rfl ((ev_buildA rfl z_28 rfl rfl).trans (congrArg (fun x => some (Next.value (Value.agg x))) (rowF_false.trans row_zero))) ?_
        refine r_s [(b2, 28, rowF (BitVec.getLsbD (0#128)))] 0 _ _ _ (rowF (BitVec.getLsbD (0#128))) (rowF (BitVec.getLsbD (0#128))) (rowF (BitVec.getLsbD (0#128))) rfl rfl rfl rfl (stok_rows rfl rfl _ _) (splice_rows _ _) rfl ?_
        refine r_v (Value.int .i64 (3)) rfl rfl rfl rfl ?_
        refine lx_nil ?_
        refine hK11 _ _ ?_; try clear hK11 K11
        obtain rfl := Option.some.inj hM
        refine A_ret (fun hn => ends_eq (v0 := Value.tuple #[Value.agg (rowF (BitVec.getLsbD (0#128))), Value.int .i64 (3)]) rfl (res2 (res_cell hn 0 rfl rfl (ld_rows rfl rfl rfl _)) rfl))
      · have hM := ifn (ne_of_beq_false hc10) hM
        refine A_skip ?_
        refine hK8 _ _ ?_; try clear hK8 K8
        refine A_seq fun K12 hK12 => ?_
        refine A_reg ?_
        refine r_a (28, rowF (BitVec.getLsbD (0#128))) rfl rfl ((zrow z_28).trans (congrArg (fun x => some (28, x)) row_zero)) (fun b13 => ?_) (.inr rfl)
        refine lx_nil ?_
        refine hK12 _ _ ?_; try clear hK12 K12
        refine A_seq fun K14 hK14 => ?_
        refine A_reg ?_
        refine r_v (Value.bool (false)) rfl rfl rfl rfl ?_
        refine lx_nil ?_
        refine hK14 _ _ ?_; try clear hK14 K14
        refine A_seq fun K15 hK15 => ?_
        refine A_seq fun K16 hK16 => ?_
        refine A_reg ?_
        refine r_v (Value.int .i64 (0)) rfl rfl rfl rfl ?_
        refine lx_nil ?_
        refine hK16 _ _ ?_; try clear hK16 K16
        refine A_block ?_
        refine A_loop (fun tt ll nn => ∃ (n17 : Nat) (over1_ : Bool) (i2_ : Int) (m3_ : BitVec 128) (m4_ : BitVec 128), (shunterref01_Parse_l5 N s base n17 over1_ i2_ m3_ m4_ = some r) ∧ Is [(0, Value.string (⟨(s).toArray⟩)), (1, Value.int .i64 (base)), (4, Value.pointer (some ⟨b2, 0, none⟩)), (6, Value.pointer (some ⟨b13, 0, none⟩)), (7, Value.bool (over1_)), (8, Value.int .i64 (i2_))] [(b13, 28, rowF (BitVec.getLsbD (m3_))), (b2, 28, rowF (BitVec.getLsbD (m4_)))] tt ll ∧ nn = n17 + 1) (N + 1) ?_ ?_
        · exact ⟨N, false, 0, 0#128, 0#128, hM, is_mk rfl rfl, rfl⟩
        · clear hM; rintro t l _ ⟨n17, over1_, i2_, m3_, m4_, hM, ⟨⟨T, rfl⟩, rfl⟩, rfl⟩
          rcases n17 with _ | n17
          · exact absurd hM (by simp [shunterref01_Parse_l5])
          rw [shunterref01_Parse_l5] at hM
          refine A_seq fun K18 hK18 => ?_
          refine A_seq fun K19 hK19 => ?_
          refine A_reg ?_
          refine r_v (Value.int .i64 (i2_)) rfl rfl rfl rfl ?_
          refine r_v (Value.string (⟨(s).toArray⟩)) rfl rfl rfl rfl ?_
          refine r_v (Value.int .i64 (((s).length : Int))) rfl rfl rfl (ev_lenS rfl rfl rfl) ?_
          refine r_v (Value.bool (decide ((i2_ : Int) < ((s).length : Int)))) rfl rfl rfl rfl ?_
          refine lx_nil ?_
          refine hK19 _ _ ?_; try clear hK19 K19
          refine A_cond (decide ((i2_ : Int) < ((s).length : Int))) rfl (fun hc20 => ?_) (fun hc20 => ?_)
          · have hM := ifp (of_decide_eq_true hc20) hM
            refine A_skip ?_
            refine hK18 _ _ ?_; try clear hK18 K18
            refine A_seq fun K21 hK21 => ?_
            refine A_block ?_
            refine A_seq fun K22 hK22 => ?_
            refine A_reg ?_
            refine r_v (Value.int .i64 (99)) rfl rfl rfl rfl ?_
            refine lx_nil ?_
            refine hK22 _ _ ?_; try clear hK22 K22
            refine A_seq fun K23 hK23 => ?_
            refine A_seq fun K24 hK24 => ?_
            refine A_reg ?_
            refine r_v (Value.int .i64 (0)) rfl rfl rfl rfl ?_
            refine lx_nil ?_
            refine hK24 _ _ ?_; try clear hK24 K24
            refine A_block ?_
            refine A_loop (fun tt ll nn => ∃ (n25 : Nat) (d6_ : Int) (k7_ : Int), (shunterref01_Parse_l8 N s base over1_ i2_ m3_ m4_ (shunterref01_Parse_l5 N s base n17) n25 d6_ k7_ = some r) ∧ Is [(0, Value.string (⟨(s).toArray⟩)), (1, Value.int .i64 (base)), (4, Value.pointer (some ⟨b2, 0, none⟩)), (6, Value.pointer (some ⟨b13, 0, none⟩)), (7, Value.bool (over1_)), (8, Value.int .i64 (i2_)), (9, Value.int .i64 (d6_)), (10, Value.int .i64 (k7_))] [(b13, 28, rowF (BitVec.getLsbD (m3_))), (b2, 28, rowF (BitVec.getLsbD (m4_)))] tt ll ∧ nn = n25 + 1) (N + 1) ?_ ?_
            · exact ⟨N, 99, 0, hM, is_mk rfl rfl, rfl⟩
            · clear hM; rintro t l _ ⟨n25, d6_, k7_, hM, ⟨⟨T, rfl⟩, rfl⟩, rfl⟩
              rcases n25 with _ | n25
              · exact absurd hM (by simp [shunterref01_Parse_l8])
              rw [shunterref01_Parse_l8] at hM
              refine A_seq fun K26 hK26 => ?_
              refine A_seq fun K27 hK27 => ?_
              refine A_reg ?_
              refine r_v (Value.int .i64 (k7_)) rfl rfl rfl rfl ?_
              refine r_v (Value.int .i64 (base)) rfl rfl rfl rfl ?_
              refine r_v (Value.bool (decide ((k7_ : Int) < base))) rfl rfl rfl rfl ?_
              refine lx_nil ?_
              refine hK27 _ _ ?_; try clear hK27 K27
              refine A_cond (decide ((k7_ : Int) < base)) rfl (fun hc28 => ?_) (fun hc28 => ?_)
              · have hM := ifp (of_decide_eq_true hc28) hM
                refine A_skip ?_
                refine hK26 _ _ ?_; try clear hK26 K26
                refine A_seq fun K29 hK29 => ?_
                refine A_block ?_
                refine A_seq fun K30 hK30 => ?_
                refine A_draw [] (by decide +kernel) (fun hn => sep_nil) ?_
                refine r_v (Value.string (⟨(s).toArray⟩)) rfl rfl rfl rfl ?_
                refine r_v (Value.int .i64 (i2_)) rfl rfl rfl rfl ?_
                obtain ⟨ck31, hM⟩ := ck_some hM
                refine r_v (Value.int .u8 ((byteAt (s) (i2_)))) rfl rfl rfl (ev_v (ev_indexS rfl ck31)) ?_
                refine r_v (Value.int .i64 (k7_)) rfl rfl rfl rfl ?_
                obtain ⟨ck32, hM⟩ := ck_some hM
                refine r_v (Value.int .u8 ((byteAt (([48, 49, 50, 51, 52, 53, 54, 55, 56, 57, 97, 98, 99, 100, 101, 102] : List UInt8)) (k7_)))) rfl rfl rfl (ev_v (ev_indexS rfl ck32)) ?_
                refine r_v (Value.bool ((((byteAt (s) (i2_)) : Int) == (byteAt (([48, 49, 50, 51, 52, 53, 54, 55, 56, 57, 97, 98, 99, 100, 101, 102] : List UInt8)) (k7_))))) rfl rfl rfl rfl ?_
                refine r_v (Value.bool ((((byteAt (s) (i2_)) : Int) == (byteAt (([48, 49, 50, 51, 52, 53, 54, 55, 56, 57, 97, 98, 99, 100, 101, 102] : List UInt8)) (k7_))))) rfl rfl rfl rfl ?_
                rcases hg33 : ((((byteAt (s) (i2_)) : Int) == (byteAt (([48, 49, 50, 51, 52, 53, 54, 55, 56, 57, 97, 98, 99, 100, 101, 102] : List UInt8)) (k7_)))) with _ | _
                · have hM := ifn (ne_of_beq_false hg33) hM
                  refine r_y rfl ?_
                  refine r_v (Value.string (⟨(s).toArray⟩)) rfl rfl rfl rfl ?_
                  refine r_y rfl ?_
                  refine r_v (Value.int .i64 (i2_)) rfl rfl rfl rfl ?_
                  refine r_y rfl ?_
                  obtain ⟨ck34, hM⟩ := ck_some hM
                  refine r_v (Value.int .u8 ((byteAt (s) (i2_)))) rfl rfl rfl (ev_v (ev_indexS rfl ck34)) ?_
                  refine r_y rfl ?_
                  refine r_v (Value.int .i64 (k7_)) rfl rfl rfl rfl ?_
                  refine r_y rfl ?_
                  obtain ⟨ck35, hM⟩ := ck_some hM
                  refine r_v (Value.int .u8 ((byteAt (([48, 49, 50, 51, 52, 53, 54, 55, 56, 57, 65, 66, 67, 68, 69, 70] : List UInt8)) (k7_)))) rfl rfl rfl (ev_v (ev_indexS rfl ck35)) ?_
                  refine r_y rfl ?_
                  refine r_v (Value.bool ((((byteAt (s) (i2_)) : Int) == (byteAt (([48, 49, 50, 51, 52, 53, 54, 55, 56, 57, 65, 66, 67, 68, 69, 70] : List UInt8)) (k7_))))) rfl rfl rfl rfl ?_
                  refine r_v (Value.bool ((((byteAt (s) (i2_)) : Int) == (byteAt (([48, 49, 50, 51, 52, 53, 54, 55, 56, 57, 65, 66, 67, 68, 69, 70] : List UInt8)) (k7_))))) rfl rfl rfl rfl ?_
                  refine lx_nil ?_
                  refine hK30 _ _ ?_; try clear hK30 K30
                  refine A_cond ((((byteAt (s) (i2_)) : Int) == (byteAt (([48, 49, 50, 51, 52, 53, 54, 55, 56, 57, 65, 66, 67, 68, 69, 70] : List UInt8)) (k7_)))) rfl (fun hc36 => ?_) (fun hc36 => ?_)
                  · have hM := ifp (eq_of_beq hc36) hM
                    refine A_reg ?_
                    refine r_v (Value.int .i64 (k7_)) rfl rfl rfl rfl ?_
                    refine r_v (Value.int .i64 (k7_)) rfl rfl rfl rfl ?_
                    refine lx_nil ?_
                    refine hK29 _ _ ?_; try clear hK29 K29
                    refine A_reg ?_
                    refine r_v (Value.int .i64 (k7_)) rfl rfl rfl rfl ?_
                    obtain ⟨ck37, hM⟩ := ck_some hM
                    refine r_v (Value.int .i64 ((k7_ + 1))) rfl rfl (wi64 rfl ck37.1 ck37.2) rfl ?_
                    refine r_v (Value.int .i64 ((k7_ + 1))) rfl rfl rfl rfl ?_
                    refine lx_nil ?_
                    refine fg _ (List.Sublist.cons_cons _ (List.Sublist.cons_cons _ (List.Sublist.slnil))) ?_
                    exact ⟨n25 + 1, by omega, n25, k7_, (k7_ + 1), hM, is_mk rfl rfl, rfl⟩
                  · have hM := ifn (ne_of_beq_false hc36) hM
                    refine A_skip ?_
                    refine hK29 _ _ ?_; try clear hK29 K29
                    refine A_reg ?_
                    refine r_v (Value.int .i64 (k7_)) rfl rfl rfl rfl ?_
                    obtain ⟨ck38, hM⟩ := ck_some hM
                    refine r_v (Value.int .i64 ((k7_ + 1))) rfl rfl (wi64 rfl ck38.1 ck38.2) rfl ?_
                    refine r_v (Value.int .i64 ((k7_ + 1))) rfl rfl rfl rfl ?_
                    refine lx_nil ?_
                    refine fg _ (List.Sublist.cons_cons _ (List.Sublist.cons_cons _ (List.Sublist.slnil))) ?_
                    exact ⟨n25 + 1, by omega, n25, d6_, (k7_ + 1), hM, is_mk rfl rfl, rfl⟩
                · have hM := ifp (eq_of_beq hg33) hM
                  refine r_n true rfl (by decide) rfl ?_
                  refine r_n true rfl (by decide) rfl ?_
                  refine r_n true rfl (by decide) rfl ?_
                  refine r_n true rfl (by decide) rfl ?_
                  refine r_n true rfl (by decide) rfl ?_
                  refine r_n true rfl (by decide) rfl ?_
                  refine r_v (Value.bool (true)) rfl rfl rfl rfl ?_
                  refine lx_nil ?_
                  refine hK30 _ _ ?_; try clear hK30 K30
                  refine A_cond true rfl (fun _ => ?_) (fun h => nomatch h)
                  refine A_reg ?_
                  refine r_v (Value.int .i64 (k7_)) rfl rfl rfl rfl ?_
                  refine r_v (Value.int .i64 (k7_)) rfl rfl rfl rfl ?_
                  refine lx_nil ?_
                  refine hK29 _ _ ?_; try clear hK29 K29
                  refine A_reg ?_
                  refine r_v (Value.int .i64 (k7_)) rfl rfl rfl rfl ?_
                  obtain ⟨ck39, hM⟩ := ck_some hM
                  refine r_v (Value.int .i64 ((k7_ + 1))) rfl rfl (wi64 rfl ck39.1 ck39.2) rfl ?_
                  refine r_v (Value.int .i64 ((k7_ + 1))) rfl rfl rfl rfl ?_
                  refine lx_nil ?_
                  refine fg _ (List.Sublist.cons_cons _ (List.Sublist.cons_cons _ (List.Sublist.slnil))) ?_
                  exact ⟨n25 + 1, by omega, n25, k7_, (k7_ + 1), hM, is_mk rfl rfl, rfl⟩
              · have hM := ifn (of_decide_eq_false hc28) hM
                refine A_exit ?_
                refine hK23 _ _ ?_; try clear hK23 K23
                refine A_seq fun K40 hK40 => ?_
                refine A_seq fun K41 hK41 => ?_
                refine A_reg ?_
                refine r_v (Value.int .i64 (d6_)) rfl rfl rfl rfl ?_
                refine r_v (Value.bool (((d6_ : Int) == 99))) rfl rfl rfl rfl ?_
                refine lx_nil ?_
                refine hK41 _ _ ?_; try clear hK41 K41
                refine A_cond (((d6_ : Int) == 99)) rfl (fun hc42 => ?_) (fun hc42 => ?_)
                · have hM := ifp (eq_of_beq hc42) hM
                  refine A_seq fun K43 hK43 => ?_
                  refine A_reg ?_
                  refine r_v (Value.agg (rowF (BitVec.getLsbD (0#128)))) rfl rfl rfl ((ev_buildA rfl z_28 rfl rfl).trans (congrArg (fun x => some (Next.value (Value.agg x))) (rowF_false.trans row_zero))) ?_
                  refine r_s [(b13, 28, rowF (BitVec.getLsbD (m3_))), (b2, 28, rowF (BitVec.getLsbD (0#128)))] 1 _ _ _ (rowF (BitVec.getLsbD (m4_))) (rowF (BitVec.getLsbD (0#128))) (rowF (BitVec.getLsbD (0#128))) rfl rfl rfl rfl (stok_rows rfl rfl _ _) (splice_rows _ _) rfl ?_
                  refine r_v (Value.int .i64 (4)) rfl rfl rfl rfl ?_
                  refine lx_nil ?_
                  refine hK43 _ _ ?_; try clear hK43 K43
                  obtain rfl := Option.some.inj hM
                  refine A_ret (fun hn => ends_eq (v0 := Value.tuple #[Value.agg (rowF (BitVec.getLsbD (0#128))), Value.int .i64 (4)]) rfl (res2 (res_cell hn 1 rfl rfl (ld_rows rfl rfl rfl _)) rfl))
                · have hM := ifn (ne_of_beq_false hc42) hM
                  refine A_skip ?_
                  refine hK40 _ _ ?_; try clear hK40 K40
                  refine A_seq fun K44 hK44 => ?_
                  refine A_reg ?_
                  refine r_v (Value.bool (over1_)) rfl rfl rfl rfl ?_
                  refine r_v (Value.bool (!(over1_))) rfl rfl rfl rfl ?_
                  refine lx_nil ?_
                  refine hK44 _ _ ?_; try clear hK44 K44
                  refine A_cond (!(over1_)) rfl (fun hc45 => ?_) (fun hc45 => ?_)
                  · have hM := ifn (Bool.eq_false_iff.1 (not_t hc45)) hM
                    refine A_seq fun K46 hK46 => ?_
                    refine A_reg ?_
                    refine r_v (Value.agg (rowF (BitVec.getLsbD (0#128)))) rfl rfl rfl ((ev_buildA rfl z_28 rfl rfl).trans (congrArg (fun x => some (Next.value (Value.agg x))) (rowF_false.trans row_zero))) ?_
                    refine r_c (Value.agg (rowF (BitVec.getLsbD (~~~(0#128))))) rfl _ _ (ev_callF rfl call_38 rfl) (turned_g (0#128)) ?_
                    refine r_v (Value.int .i64 (base)) rfl rfl rfl rfl ?_
                    obtain ⟨r47, hr48, hM⟩ := bind_sm hM
                    refine r_c (Value.agg (rowF (BitVec.getLsbD (r47)))) rfl _ _ (ev_callF rfl call_47 rfl) (shunterref01_small_g N (base) _ hr48) ?_
                    obtain ⟨ck49, hM⟩ := ck_some hM
                    refine r_c (Value.tuple #[Value.agg (rowF (BitVec.getLsbD ((~~~(0#128)) / (r47)))), Value.agg (rowF (BitVec.getLsbD ((~~~(0#128)) % (r47))))]) rfl _ _ (ev_callF rfl call_18 rfl) (part_g (~~~(0#128)) (r47) ck49) ?_
                    refine r_v (Value.tuple #[Value.agg (rowF (BitVec.getLsbD ((~~~(0#128)) / (r47)))), Value.agg (rowF (BitVec.getLsbD ((~~~(0#128)) % (r47))))]) rfl rfl rfl rfl ?_
                    refine r_v (Value.agg (rowF (BitVec.getLsbD ((~~~(0#128)) / (r47))))) rfl rfl rfl rfl ?_
                    refine r_v (Value.agg (rowF (BitVec.getLsbD ((~~~(0#128)) % (r47))))) rfl rfl rfl rfl ?_
                    refine r_a (28, rowF (BitVec.getLsbD (0#128))) rfl rfl ((zrow z_28).trans (congrArg (fun x => some (28, x)) row_zero)) (fun b50 => ?_) (.inr rfl)
                    refine r_a (28, rowF (BitVec.getLsbD (0#128))) rfl rfl ((zrow z_28).trans (congrArg (fun x => some (28, x)) row_zero)) (fun b51 => ?_) (.inr rfl)
                    refine r_s [(b51, 28, rowF (BitVec.getLsbD (0#128))), (b50, 28, rowF (BitVec.getLsbD ((~~~(0#128)) / (r47)))), (b13, 28, rowF (BitVec.getLsbD (m3_))), (b2, 28, rowF (BitVec.getLsbD (m4_)))] 1 _ _ _ (rowF (BitVec.getLsbD (0#128))) (rowF (BitVec.getLsbD ((~~~(0#128)) / (r47)))) (rowF (BitVec.getLsbD ((~~~(0#128)) / (r47)))) rfl rfl rfl rfl (stok_rows rfl rfl _ _) (splice_rows _ _) rfl ?_
                    refine r_s [(b51, 28, rowF (BitVec.getLsbD ((~~~(0#128)) % (r47)))), (b50, 28, rowF (BitVec.getLsbD ((~~~(0#128)) / (r47)))), (b13, 28, rowF (BitVec.getLsbD (m3_))), (b2, 28, rowF (BitVec.getLsbD (m4_)))] 0 _ _ _ (rowF (BitVec.getLsbD (0#128))) (rowF (BitVec.getLsbD ((~~~(0#128)) % (r47)))) (rowF (BitVec.getLsbD ((~~~(0#128)) % (r47)))) rfl rfl rfl rfl (stok_rows rfl rfl _ _) (splice_rows _ _) rfl ?_
                    refine lx_nil ?_
                    refine hK46 _ _ ?_; try clear hK46 K46
                    refine A_seq fun K52 hK52 => ?_
                    refine A_reg ?_
                    refine r_l (Value.agg (rowF (BitVec.getLsbD ((~~~(0#128)) / (r47))))) 1 _ _ _ _ rfl rfl rfl rfl (ld_rows rfl rfl rfl _) ?_
                    refine r_l (Value.agg (rowF (BitVec.getLsbD (m3_)))) 2 _ _ _ _ rfl rfl rfl rfl (ld_rows rfl rfl rfl _) ?_
                    refine r_c (Value.bool (decide (((~~~(0#128)) / (r47)) < (m3_)))) rfl _ _ (ev_callF rfl call_30 rfl) (less_g ((~~~(0#128)) / (r47)) (m3_)) ?_
                    refine r_v (Value.bool (decide (((~~~(0#128)) / (r47)) < (m3_)))) rfl rfl rfl rfl ?_
                    refine lx_nil ?_
                    refine hK52 _ _ ?_; try clear hK52 K52
                    refine A_seq fun K53 hK53 => ?_
                    refine A_draw [] (by decide +kernel) (fun hn => sep_nil) ?_
                    refine r_l (Value.agg (rowF (BitVec.getLsbD (m3_)))) 2 _ _ _ _ rfl rfl rfl rfl (ld_rows rfl rfl rfl _) ?_
                    refine r_v (Value.int .i64 (base)) rfl rfl rfl rfl ?_
                    obtain ⟨r54, hr55, hM⟩ := bind_sm hM
                    refine r_c (Value.agg (rowF (BitVec.getLsbD (r54)))) rfl _ _ (ev_callF rfl call_47 rfl) (shunterref01_small_g N (base) _ hr55) ?_
                    refine r_c (Value.agg (rowF (BitVec.getLsbD ((m3_) * (r54))))) rfl _ _ (ev_callF rfl call_16 rfl) (product_g (m3_) (r54)) ?_
                    refine r_v (Value.int .i64 (d6_)) rfl rfl rfl rfl ?_
                    obtain ⟨r56, hr57, hM⟩ := bind_sm hM
                    refine r_c (Value.agg (rowF (BitVec.getLsbD (r56)))) rfl _ _ (ev_callF rfl call_47 rfl) (shunterref01_small_g N (d6_) _ hr57) ?_
                    refine r_c (Value.tuple #[Value.agg (rowF (BitVec.getLsbD (((m3_) * (r54)) + (r56) + cb128 (false)))), Value.bool (BitVec.carry 128 ((m3_) * (r54)) (r56) (false))]) rfl _ _ (ev_callF rfl call_10 rfl) (rsum_g ((m3_) * (r54)) (r56) (false)) ?_
                    refine r_v (Value.tuple #[Value.agg (rowF (BitVec.getLsbD (((m3_) * (r54)) + (r56) + cb128 (false)))), Value.bool (BitVec.carry 128 ((m3_) * (r54)) (r56) (false))]) rfl rfl rfl rfl ?_
                    refine r_v (Value.agg (rowF (BitVec.getLsbD (((m3_) * (r54)) + (r56) + cb128 (false))))) rfl rfl rfl rfl ?_
                    refine r_v (Value.bool (BitVec.carry 128 ((m3_) * (r54)) (r56) (false))) rfl rfl rfl rfl ?_
                    refine r_a (28, rowF (BitVec.getLsbD (0#128))) rfl rfl ((zrow z_28).trans (congrArg (fun x => some (28, x)) row_zero)) (fun b58 => ?_) (.inl rfl)
                    refine r_sn [(b58, 28, rowF (BitVec.getLsbD (((m3_) * (r54)) + (r56) + cb128 (false)))), (b51, 28, rowF (BitVec.getLsbD ((~~~(0#128)) % (r47)))), (b50, 28, rowF (BitVec.getLsbD ((~~~(0#128)) / (r47)))), (b13, 28, rowF (BitVec.getLsbD (m3_))), (b2, 28, rowF (BitVec.getLsbD (m4_)))] 0 _ _ _ (rowF (BitVec.getLsbD (0#128))) (rowF (BitVec.getLsbD (((m3_) * (r54)) + (r56) + cb128 (false)))) (rowF (BitVec.getLsbD (((m3_) * (r54)) + (r56) + cb128 (false)))) rfl rfl rfl rfl rfl (stok_rows rfl rfl _ _) (splice_rows _ _) rfl ?_
                    refine r_v (Value.bool (BitVec.carry 128 ((m3_) * (r54)) (r56) (false))) rfl rfl rfl rfl ?_
                    refine lx_nil ?_
                    refine hK53 _ _ ?_; try clear hK53 K53
                    refine A_seq fun K59 hK59 => ?_
                    refine A_reg ?_
                    refine r_v (Value.bool (decide (((~~~(0#128)) / (r47)) < (m3_)))) rfl rfl rfl rfl ?_
                    refine r_v (Value.bool (decide (((~~~(0#128)) / (r47)) < (m3_)))) rfl rfl rfl rfl ?_
                    rcases hg60 : (decide (((~~~(0#128)) / (r47)) < (m3_))) with _ | _
                    · have hM := ifn (of_decide_eq_false hg60) hM
                      refine r_y rfl ?_
                      refine r_v (Value.bool (BitVec.carry 128 ((m3_) * (r54)) (r56) (false))) rfl rfl rfl rfl ?_
                      refine r_v (Value.bool (BitVec.carry 128 ((m3_) * (r54)) (r56) (false))) rfl rfl rfl rfl ?_
                      refine r_v (Value.bool (BitVec.carry 128 ((m3_) * (r54)) (r56) (false))) rfl rfl rfl rfl ?_
                      refine lx_nil ?_
                      refine hK59 _ _ ?_; try clear hK59 K59
                      refine A_reg ?_
                      refine r_l (Value.agg (rowF (BitVec.getLsbD (((m3_) * (r54)) + (r56) + cb128 (false))))) 0 _ _ _ _ rfl rfl rfl rfl (ld_rows rfl rfl rfl _) ?_
                      refine r_s [(b58, 28, rowF (BitVec.getLsbD (((m3_) * (r54)) + (r56) + cb128 (false)))), (b51, 28, rowF (BitVec.getLsbD ((~~~(0#128)) % (r47)))), (b50, 28, rowF (BitVec.getLsbD ((~~~(0#128)) / (r47)))), (b13, 28, rowF (BitVec.getLsbD (((m3_) * (r54)) + (r56) + cb128 (false)))), (b2, 28, rowF (BitVec.getLsbD (m4_)))] 3 _ _ _ (rowF (BitVec.getLsbD (m3_))) (rowF (BitVec.getLsbD (((m3_) * (r54)) + (r56) + cb128 (false)))) (rowF (BitVec.getLsbD (((m3_) * (r54)) + (r56) + cb128 (false)))) rfl rfl rfl rfl (stok_rows rfl rfl _ _) (splice_rows _ _) rfl ?_
                      refine lx_nil ?_
                      refine hK21 _ _ ?_; try clear hK21 K21
                      refine A_reg ?_
                      refine r_v (Value.int .i64 (i2_)) rfl rfl rfl rfl ?_
                      obtain ⟨ck61, hM⟩ := ck_some hM
                      refine r_v (Value.int .i64 ((i2_ + 1))) rfl rfl (wi64 rfl ck61.1 ck61.2) rfl ?_
                      refine r_v (Value.int .i64 ((i2_ + 1))) rfl rfl rfl rfl ?_
                      refine lx_nil ?_
                      refine fg _ (List.Sublist.cons _ (List.Sublist.cons _ (List.Sublist.cons _ (List.Sublist.cons_cons _ (List.Sublist.cons_cons _ (List.Sublist.slnil)))))) ?_
                      exact ⟨n17 + 1, by omega, n17, BitVec.carry 128 ((m3_) * (r54)) (r56) (false), (i2_ + 1), ((m3_) * (r54)) + (r56) + cb128 (false), m4_, hM, is_mk rfl rfl, rfl⟩
                    · have hM := ifp (of_decide_eq_true hg60) hM
                      refine r_n true rfl (by decide) rfl ?_
                      refine r_v (Value.bool (true)) rfl rfl rfl rfl ?_
                      refine r_v (Value.bool (true)) rfl rfl rfl rfl ?_
                      refine lx_nil ?_
                      refine hK59 _ _ ?_; try clear hK59 K59
                      refine A_reg ?_
                      refine r_l (Value.agg (rowF (BitVec.getLsbD (((m3_) * (r54)) + (r56) + cb128 (false))))) 0 _ _ _ _ rfl rfl rfl rfl (ld_rows rfl rfl rfl _) ?_
                      refine r_s [(b58, 28, rowF (BitVec.getLsbD (((m3_) * (r54)) + (r56) + cb128 (false)))), (b51, 28, rowF (BitVec.getLsbD ((~~~(0#128)) % (r47)))), (b50, 28, rowF (BitVec.getLsbD ((~~~(0#128)) / (r47)))), (b13, 28, rowF (BitVec.getLsbD (((m3_) * (r54)) + (r56) + cb128 (false)))), (b2, 28, rowF (BitVec.getLsbD (m4_)))] 3 _ _ _ (rowF (BitVec.getLsbD (m3_))) (rowF (BitVec.getLsbD (((m3_) * (r54)) + (r56) + cb128 (false)))) (rowF (BitVec.getLsbD (((m3_) * (r54)) + (r56) + cb128 (false)))) rfl rfl rfl rfl (stok_rows rfl rfl _ _) (splice_rows _ _) rfl ?_
                      refine lx_nil ?_
                      refine hK21 _ _ ?_; try clear hK21 K21
                      refine A_reg ?_
                      refine r_v (Value.int .i64 (i2_)) rfl rfl rfl rfl ?_
                      obtain ⟨ck62, hM⟩ := ck_some hM
                      refine r_v (Value.int .i64 ((i2_ + 1))) rfl rfl (wi64 rfl ck62.1 ck62.2) rfl ?_
                      refine r_v (Value.int .i64 ((i2_ + 1))) rfl rfl rfl rfl ?_
                      refine lx_nil ?_
                      refine fg _ (List.Sublist.cons _ (List.Sublist.cons _ (List.Sublist.cons _ (List.Sublist.cons_cons _ (List.Sublist.cons_cons _ (List.Sublist.slnil)))))) ?_
                      exact ⟨n17 + 1, by omega, n17, true, (i2_ + 1), ((m3_) * (r54)) + (r56) + cb128 (false), m4_, hM, is_mk rfl rfl, rfl⟩
                  · have hM := ifp (not_f hc45) hM
                    refine A_skip ?_
                    refine hK21 _ _ ?_; try clear hK21 K21
                    refine A_reg ?_
                    refine r_v (Value.int .i64 (i2_)) rfl rfl rfl rfl ?_
                    obtain ⟨ck63, hM⟩ := ck_some hM
                    refine r_v (Value.int .i64 ((i2_ + 1))) rfl rfl (wi64 rfl ck63.1 ck63.2) rfl ?_
                    refine r_v (Value.int .i64 ((i2_ + 1))) rfl rfl rfl rfl ?_
                    refine lx_nil ?_
                    refine fg _ (List.Sublist.cons_cons _ (List.Sublist.cons_cons _ (List.Sublist.slnil))) ?_
                    exact ⟨n17 + 1, by omega, n17, over1_, (i2_ + 1), m3_, m4_, hM, is_mk rfl rfl, rfl⟩
          · have hM := ifn (of_decide_eq_false hc20) hM
            refine A_exit ?_
            refine hK15 _ _ ?_; try clear hK15 K15
            refine A_seq fun K64 hK64 => ?_
            refine A_seq fun K65 hK65 => ?_
            refine A_reg ?_
            refine r_v (Value.bool (over1_)) rfl rfl rfl rfl ?_
            refine lx_nil ?_
            refine hK65 _ _ ?_; try clear hK65 K65
            refine A_cond (over1_) rfl (fun hc66 => ?_) (fun hc66 => ?_)
            · have hM := ifp hc66 hM
              refine A_seq fun K67 hK67 => ?_
              refine A_reg ?_
              refine r_v (Value.agg (rowF (BitVec.getLsbD (0#128)))) rfl rfl rfl ((ev_buildA rfl z_28 rfl rfl).trans (congrArg (fun x => some (Next.value (Value.agg x))) (rowF_false.trans row_zero))) ?_
              refine r_s [(b13, 28, rowF (BitVec.getLsbD (m3_))), (b2, 28, rowF (BitVec.getLsbD (0#128)))] 1 _ _ _ (rowF (BitVec.getLsbD (m4_))) (rowF (BitVec.getLsbD (0#128))) (rowF (BitVec.getLsbD (0#128))) rfl rfl rfl rfl (stok_rows rfl rfl _ _) (splice_rows _ _) rfl ?_
              refine r_v (Value.int .i64 (7)) rfl rfl rfl rfl ?_
              refine lx_nil ?_
              refine hK67 _ _ ?_; try clear hK67 K67
              obtain rfl := Option.some.inj hM
              refine A_ret (fun hn => ends_eq (v0 := Value.tuple #[Value.agg (rowF (BitVec.getLsbD (0#128))), Value.int .i64 (7)]) rfl (res2 (res_cell hn 1 rfl rfl (ld_rows rfl rfl rfl _)) rfl))
            · have hM := ifn (Bool.eq_false_iff.1 hc66) hM
              refine A_skip ?_
              refine hK64 _ _ ?_; try clear hK64 K64
              refine A_seq fun K68 hK68 => ?_
              refine A_reg ?_
              refine r_l (Value.agg (rowF (BitVec.getLsbD (m3_)))) 0 _ _ _ _ rfl rfl rfl rfl (ld_rows rfl rfl rfl _) ?_
              refine r_s [(b13, 28, rowF (BitVec.getLsbD (m3_))), (b2, 28, rowF (BitVec.getLsbD (m3_)))] 1 _ _ _ (rowF (BitVec.getLsbD (m4_))) (rowF (BitVec.getLsbD (m3_))) (rowF (BitVec.getLsbD (m3_))) rfl rfl rfl rfl (stok_rows rfl rfl _ _) (splice_rows _ _) rfl ?_
              refine r_v (Value.int .i64 (0)) rfl rfl rfl rfl ?_
              refine lx_nil ?_
              refine hK68 _ _ ?_; try clear hK68 K68
              obtain rfl := Option.some.inj hM
              refine A_ret (fun hn => ends_eq (v0 := Value.tuple #[Value.agg (rowF (BitVec.getLsbD (m3_))), Value.int .i64 (0)]) rfl (res2 (res_cell hn 1 rfl rfl (ld_rows rfl rfl rfl _)) rfl))
  · have hM := ifp (of_decide_eq_true hg5) hM
    refine r_n true rfl (by decide) rfl ?_
    refine r_n true rfl (by decide) rfl ?_
    refine r_v (Value.bool (true)) rfl rfl rfl rfl ?_
    refine lx_nil ?_
    refine hK4 _ _ ?_; try clear hK4 K4
    refine A_cond true rfl (fun _ => ?_) (fun h => nomatch h)
    refine A_seq fun K69 hK69 => ?_
    refine A_reg ?_
    refine r_v (Value.agg (rowF (BitVec.getLsbD (0#128)))) rfl rfl rfl ((ev_buildA rfl z_28 rfl rfl).trans (congrArg (fun x => some (Next.value (Value.agg x))) (rowF_false.trans row_zero))) ?_
    refine r_s [(b2, 28, rowF (BitVec.getLsbD (0#128)))] 0 _ _ _ (rowF (BitVec.getLsbD (0#128))) (rowF (BitVec.getLsbD (0#128))) (rowF (BitVec.getLsbD (0#128))) rfl rfl rfl rfl (stok_rows rfl rfl _ _) (splice_rows _ _) rfl ?_
    refine r_v (Value.int .i64 (1)) rfl rfl rfl rfl ?_
    refine lx_nil ?_
    refine hK69 _ _ ?_; try clear hK69 K69
    obtain rfl := Option.some.inj hM
    refine A_ret (fun hn => ends_eq (v0 := Value.tuple #[Value.agg (rowF (BitVec.getLsbD (0#128))), Value.int .i64 (1)]) rfl (res2 (res_cell hn 0 rfl rfl (ld_rows rfl rfl rfl _)) rfl))
end Go.Proofs.Ytacbjgfngfamhaa
