/- models of functions and their walks -/
import Derived.Test.YtniakkkjiifelaaBc
namespace Go.Proofs.Ytniakkkjiifelaa
open Go Go.RowKit Go.Eng
def shunterlaw05_NameNames_m (N : Nat) (s : List UInt8) (c : Int) : Option (Bool) := if (((s).length : Int) : Int) > 500 then (shunterlaw05_lives_m N ).bind fun r6 => some (r6) else (name_May_m N s).bind fun r9 => (shunterref05_May_m N s).bind fun r11 => if (r9) = (r11) then (name_Letter_m N c).bind fun r14 => ck ((-9223372036854775808 ≤ c ∧ c ≤ 9223372036854775807)) ((shunterref05_Letter_m N c).bind fun r17 => if (r14) = (r17) then (name_Digit_m N c).bind fun r20 => if (c : Int) ≥ 48 then if (r20) = (decide ((c : Int) ≤ 57)) then (name_Fold_m N c).bind fun r34 => ck ((-9223372036854775808 ≤ r34 ∧ r34 ≤ 9223372036854775807)) (ck ((-9223372036854775808 ≤ c ∧ c ≤ 9223372036854775807)) ((shunterref05_Fold_m N c).bind fun r38 => if (r34 : Int) = r38 then (shunterlaw05_lives_m N ).bind fun r41 => some (r41) else some (false))) else some (false) else if (r20) = (false) then (name_Fold_m N c).bind fun r24 => ck ((-9223372036854775808 ≤ r24 ∧ r24 ≤ 9223372036854775807)) (ck ((-9223372036854775808 ≤ c ∧ c ≤ 9223372036854775807)) ((shunterref05_Fold_m N c).bind fun r28 => if (r24 : Int) = r28 then (shunterlaw05_lives_m N ).bind fun r31 => some (r31) else some (false))) else some (false) else some (false)) else some (false)
set_option maxRecDepth 100000 in
set_option maxHeartbeats 400000 in
theorem shunterlaw05_NameNames_g (N : Nat) (s : List UInt8) (c : Int) (r : Bool) (hM : shunterlaw05_NameNames_m N s c = some r) : Gives Try.prog 4 #[Value.string (⟨(s).toArray⟩), Value.int .i32 (c)] (Value.bool (r)) := by
  unfold shunterlaw05_NameNames_m at hM
  refine gives_of_A follows Try.func4 rfl 45 rfl (upd (upd (fun _ => undef) 1 (Value.int .i32 (c))) 0 (Value.string (⟨(s).toArray⟩))) (by funext k; match k with | 0 => rfl | 1 => rfl | k + 2 => rfl) (fun base0_ => ?_)
  refine A_seq fun K1 hK1 => ?_
  refine A_reg ?_
  refine r_v (Value.bool (false)) rfl rfl rfl rfl ?_
  refine lx_nil ?_
  refine hK1 _ _ ?_; try clear hK1 K1
  refine A_seq fun K2 hK2 => ?_
  refine A_seq fun K3 hK3 => ?_
  refine A_reg ?_
  refine r_v (Value.string (⟨(s).toArray⟩)) rfl rfl rfl rfl ?_
  refine r_v (Value.int .i64 (((s).length : Int))) rfl rfl rfl (ev_lenS rfl rfl rfl) ?_
  refine r_v (Value.bool (decide ((((s).length : Int) : Int) > 500))) rfl rfl rfl rfl ?_
  refine lx_nil ?_
  refine hK3 _ _ ?_; try clear hK3 K3
  refine A_cond (decide ((((s).length : Int) : Int) > 500)) rfl (fun hc4 => ?_) (fun hc4 => ?_)
  · replace hM := ifp (of_decide_eq_true hc4) hM
    refine A_seq fun K5 hK5 => ?_
    refine A_reg ?_
    replace hM := bind_sm hM; obtain ⟨r6, hr7, hM⟩ := hM
    refine r_c (Value.bool (r6)) rfl _ _ (ev_callF rfl call_9 rfl) (shunterlaw05_lives_g N  _ hr7) ?_
    refine r_v (Value.bool (r6)) rfl rfl rfl rfl ?_
    refine lx_nil ?_
    refine hK5 _ _ ?_; try clear hK5 K5
    obtain rfl := Option.some.inj hM
    refine A_ret (fun hn => ends_eq (v0 := Value.bool (r6)) rfl (res1 rfl))
  · replace hM := ifn (of_decide_eq_false hc4) hM
    refine A_skip ?_
    refine hK2 _ _ ?_; try clear hK2 K2
    refine A_seq fun K8 hK8 => ?_
    refine A_reg ?_
    refine r_v (Value.string (⟨(s).toArray⟩)) rfl rfl rfl rfl ?_
    replace hM := bind_sm hM; obtain ⟨r9, hr10, hM⟩ := hM
    refine r_c (Value.bool (r9)) rfl _ _ (ev_callF rfl call_15 rfl) (name_May_g N s _ hr10) ?_
    refine r_v (Value.string (⟨(s).toArray⟩)) rfl rfl rfl rfl ?_
    replace hM := bind_sm hM; obtain ⟨r11, hr12, hM⟩ := hM
    refine r_c (Value.bool (r11)) rfl _ _ (ev_callF rfl call_16 rfl) (shunterref05_May_g N s _ hr12) ?_
    refine r_v (Value.bool ((r9) == (r11))) rfl rfl rfl (ev_binB rfl rfl rfl) ?_
    refine r_v (Value.bool ((r9) == (r11))) rfl rfl rfl rfl ?_
    rcases hg13 : ((r9) == (r11)) with _ | _
    · replace hM := ifn (ne_of_beq_false hg13) hM
      refine r_n false rfl (by decide) rfl ?_
      refine r_n false rfl (by decide) rfl ?_
      refine r_n false rfl (by decide) rfl ?_
      refine r_n false rfl (by decide) rfl ?_
      refine r_n false rfl (by decide) rfl ?_
      refine r_n false rfl (by decide) rfl ?_
      refine r_v (Value.bool (false)) rfl rfl rfl rfl ?_
      refine r_v (Value.bool (false)) rfl rfl rfl rfl ?_
      refine r_n false rfl (by decide) rfl ?_
      refine r_n false rfl (by decide) rfl ?_
      refine r_n false rfl (by decide) rfl ?_
      refine r_n false rfl (by decide) rfl ?_
      refine r_n false rfl (by decide) rfl ?_
      refine r_nu rfl rfl ?_
      refine r_nu rfl rfl ?_
      refine r_n false rfl (by decide) rfl ?_
      refine r_n false rfl (by decide) rfl ?_
      refine r_v (Value.bool (false)) rfl rfl rfl rfl ?_
      refine r_v (Value.bool (false)) rfl rfl rfl rfl ?_
      refine r_n false rfl (by decide) rfl ?_
      refine r_n false rfl (by decide) rfl ?_
      refine r_n false rfl (by decide) rfl ?_
      refine r_n false rfl (by decide) rfl ?_
      refine r_n false rfl (by decide) rfl ?_
      refine r_n false rfl (by decide) rfl ?_
      refine r_n false rfl (by decide) rfl ?_
      refine r_v (Value.bool (false)) rfl rfl rfl rfl ?_
      refine r_v (Value.bool (false)) rfl rfl rfl rfl ?_
      refine r_n false rfl (by decide) rfl ?_
      refine r_v (Value.bool (false)) rfl rfl rfl rfl ?_
      refine r_v (Value.bool (false)) rfl rfl rfl rfl ?_
      refine lx_nil ?_
      refine hK8 _ _ ?_; try clear hK8 K8
      refine A_gen [(4, Value.bool (false))] rfl (fun T => ?_)
      obtain rfl := Option.some.inj hM
      refine A_ret (fun hn => ends_eq (v0 := Value.bool (false)) rfl (res1 rfl))
    · replace hM := ifp (eq_of_beq hg13) hM
      refine r_y rfl ?_
      refine r_v (Value.int .i32 (c)) rfl rfl rfl rfl ?_
      refine r_y rfl ?_
      replace hM := bind_sm hM; obtain ⟨r14, hr15, hM⟩ := hM
      refine r_c (Value.bool (r14)) rfl _ _ (ev_callF rfl call_17 rfl) (name_Letter_g N c _ hr15) ?_
      refine r_y rfl ?_
      refine r_v (Value.int .i32 (c)) rfl rfl rfl rfl ?_
      refine r_y rfl ?_
      replace hM := ck_some hM; obtain ⟨ck16, hM⟩ := hM
      refine r_w (Value.int .i64 (c)) rfl rfl (wi64 rfl ck16.1 ck16.2) (fun _ => rfl) ?_
      refine r_y rfl ?_
      replace hM := bind_sm hM; obtain ⟨r17, hr18, hM⟩ := hM
      refine r_c (Value.bool (r17)) rfl _ _ (ev_callF rfl call_18 rfl) (shunterref05_Letter_g N c _ hr18) ?_
      refine r_y rfl ?_
      refine r_v (Value.bool ((r14) == (r17))) rfl rfl rfl (ev_binB rfl rfl rfl) ?_
      refine r_v (Value.bool ((r14) == (r17))) rfl rfl rfl rfl ?_
      refine r_v (Value.bool ((r14) == (r17))) rfl rfl rfl rfl ?_
      rcases hg19 : ((r14) == (r17)) with _ | _
      · replace hM := ifn (ne_of_beq_false hg19) hM
        refine r_n false rfl (by decide) rfl ?_
        refine r_n false rfl (by decide) rfl ?_
        refine r_n false rfl (by decide) rfl ?_
        refine r_n false rfl (by decide) rfl ?_
        refine r_n false rfl (by decide) rfl ?_
        refine r_nu rfl rfl ?_
        refine r_nu rfl rfl ?_
        refine r_n false rfl (by decide) rfl ?_
        refine r_n false rfl (by decide) rfl ?_
        refine r_v (Value.bool (false)) rfl rfl rfl rfl ?_
        refine r_v (Value.bool (false)) rfl rfl rfl rfl ?_
        refine r_n false rfl (by decide) rfl ?_
        refine r_n false rfl (by decide) rfl ?_
        refine r_n false rfl (by decide) rfl ?_
        refine r_n false rfl (by decide) rfl ?_
        refine r_n false rfl (by decide) rfl ?_
        refine r_n false rfl (by decide) rfl ?_
        refine r_n false rfl (by decide) rfl ?_
        refine r_v (Value.bool (false)) rfl rfl rfl rfl ?_
        refine r_v (Value.bool (false)) rfl rfl rfl rfl ?_
        refine r_n false rfl (by decide) rfl ?_
        refine r_v (Value.bool (false)) rfl rfl rfl rfl ?_
        refine r_v (Value.bool (false)) rfl rfl rfl rfl ?_
        refine lx_nil ?_
        refine hK8 _ _ ?_; try clear hK8 K8
        refine A_gen [(4, Value.bool (false))] rfl (fun T => ?_)
        obtain rfl := Option.some.inj hM
        refine A_ret (fun hn => ends_eq (v0 := Value.bool (false)) rfl (res1 rfl))
      · replace hM := ifp (eq_of_beq hg19) hM
        refine r_y rfl ?_
        refine r_v (Value.int .i32 (c)) rfl rfl rfl rfl ?_
        refine r_y rfl ?_
        replace hM := bind_sm hM; obtain ⟨r20, hr21, hM⟩ := hM
        refine r_c (Value.bool (r20)) rfl _ _ (ev_callF rfl call_19 rfl) (name_Digit_g N c _ hr21) ?_
        refine r_y rfl ?_
        refine r_v (Value.int .i32 (c)) rfl rfl rfl rfl ?_
        refine r_y rfl ?_
        refine r_v (Value.bool (decide ((c : Int) ≥ 48))) rfl rfl rfl rfl ?_
        refine r_y rfl ?_
        refine r_v (Value.bool (decide ((c : Int) ≥ 48))) rfl rfl rfl rfl ?_
        rcases hg22 : (decide ((c : Int) ≥ 48)) with _ | _
        · replace hM := ifn (of_decide_eq_false hg22) hM
          refine r_n false rfl (by decide) rfl ?_
          refine r_n false rfl (by decide) rfl ?_
          refine r_y rfl ?_
          refine r_v (Value.bool (false)) rfl rfl rfl rfl ?_
          refine r_y rfl ?_
          refine r_v (Value.bool ((r20) == (false))) rfl rfl rfl (ev_binB rfl rfl rfl) ?_
          refine r_v (Value.bool ((r20) == (false))) rfl rfl rfl rfl ?_
          refine r_v (Value.bool ((r20) == (false))) rfl rfl rfl rfl ?_
          rcases hg23 : ((r20) == (false)) with _ | _
          · replace hM := ifn (ne_of_beq_false hg23) hM
            refine r_n false rfl (by decide) rfl ?_
            refine r_n false rfl (by decide) rfl ?_
            refine r_n false rfl (by decide) rfl ?_
            refine r_n false rfl (by decide) rfl ?_
            refine r_n false rfl (by decide) rfl ?_
            refine r_n false rfl (by decide) rfl ?_
            refine r_n false rfl (by decide) rfl ?_
            refine r_v (Value.bool (false)) rfl rfl rfl rfl ?_
            refine r_v (Value.bool (false)) rfl rfl rfl rfl ?_
            refine r_n false rfl (by decide) rfl ?_
            refine r_v (Value.bool (false)) rfl rfl rfl rfl ?_
            refine r_v (Value.bool (false)) rfl rfl rfl rfl ?_
            refine lx_nil ?_
            refine hK8 _ _ ?_; try clear hK8 K8
            refine A_gen [(4, Value.bool (false))] rfl (fun T => ?_)
            obtain rfl := Option.some.inj hM
            refine A_ret (fun hn => ends_eq (v0 := Value.bool (false)) rfl (res1 rfl))
          · replace hM := ifp (eq_of_beq hg23) hM
            refine r_y rfl ?_
            refine r_v (Value.int .i32 (c)) rfl rfl rfl rfl ?_
            refine r_y rfl ?_
            replace hM := bind_sm hM; obtain ⟨r24, hr25, hM⟩ := hM
            refine r_c (Value.int .i32 (r24)) rfl _ _ (ev_callF rfl call_20 rfl) (name_Fold_g N c _ hr25) ?_
            refine r_y rfl ?_
            replace hM := ck_some hM; obtain ⟨ck26, hM⟩ := hM
            refine r_w (Value.int .i64 (r24)) rfl rfl (wi64 rfl ck26.1 ck26.2) (fun _ => rfl) ?_
            refine r_y rfl ?_
            refine r_v (Value.int .i32 (c)) rfl rfl rfl rfl ?_
            refine r_y rfl ?_
            replace hM := ck_some hM; obtain ⟨ck27, hM⟩ := hM
            refine r_w (Value.int .i64 (c)) rfl rfl (wi64 rfl ck27.1 ck27.2) (fun _ => rfl) ?_
            refine r_y rfl ?_
            replace hM := bind_sm hM; obtain ⟨r28, hr29, hM⟩ := hM
            refine r_c (Value.int .i64 (r28)) rfl _ _ (ev_callF rfl call_21 rfl) (shunterref05_Fold_g N c _ hr29) ?_
            refine r_y rfl ?_
            refine r_v (Value.bool (((r24 : Int) == r28))) rfl rfl rfl rfl ?_
            refine r_v (Value.bool (((r24 : Int) == r28))) rfl rfl rfl rfl ?_
            refine r_v (Value.bool (((r24 : Int) == r28))) rfl rfl rfl rfl ?_
            rcases hg30 : (((r24 : Int) == r28)) with _ | _
            · replace hM := ifn (ne_of_beq_false hg30) hM
              refine r_n false rfl (by decide) rfl ?_
              refine r_v (Value.bool (false)) rfl rfl rfl rfl ?_
              refine r_v (Value.bool (false)) rfl rfl rfl rfl ?_
              refine lx_nil ?_
              refine hK8 _ _ ?_; try clear hK8 K8
              refine A_gen [(4, Value.bool (false))] rfl (fun T => ?_)
              obtain rfl := Option.some.inj hM
              refine A_ret (fun hn => ends_eq (v0 := Value.bool (false)) rfl (res1 rfl))
            · replace hM := ifp (eq_of_beq hg30) hM
              refine r_y rfl ?_
              replace hM := bind_sm hM; obtain ⟨r31, hr32, hM⟩ := hM
              refine r_c (Value.bool (r31)) rfl _ _ (ev_callF rfl call_9 rfl) (shunterlaw05_lives_g N  _ hr32) ?_
              refine r_v (Value.bool (r31)) rfl rfl rfl rfl ?_
              refine r_v (Value.bool (r31)) rfl rfl rfl rfl ?_
              refine lx_nil ?_
              refine hK8 _ _ ?_; try clear hK8 K8
              refine A_gen [(4, Value.bool (r31))] rfl (fun T => ?_)
              obtain rfl := Option.some.inj hM
              refine A_ret (fun hn => ends_eq (v0 := Value.bool (r31)) rfl (res1 rfl))
        · replace hM := ifp (of_decide_eq_true hg22) hM
          refine r_y rfl ?_
          refine r_v (Value.int .i32 (c)) rfl rfl rfl rfl ?_
          refine r_y rfl ?_
          refine r_v (Value.bool (decide ((c : Int) ≤ 57))) rfl rfl rfl rfl ?_
          refine r_y rfl ?_
          refine r_v (Value.bool (decide ((c : Int) ≤ 57))) rfl rfl rfl rfl ?_
          refine r_y rfl ?_
          refine r_v (Value.bool ((r20) == (decide ((c : Int) ≤ 57)))) rfl rfl rfl (ev_binB rfl rfl rfl) ?_
          refine r_v (Value.bool ((r20) == (decide ((c : Int) ≤ 57)))) rfl rfl rfl rfl ?_
          refine r_v (Value.bool ((r20) == (decide ((c : Int) ≤ 57)))) rfl rfl rfl rfl ?_
          rcases hg33 : ((r20) == (decide ((c : Int) ≤ 57))) with _ | _
          · replace hM := ifn (ne_of_beq_false hg33) hM
            refine r_n false rfl (by decide) rfl ?_
            refine r_n false rfl (by decide) rfl ?_
            refine r_n false rfl (by decide) rfl ?_
            refine r_n false rfl (by decide) rfl ?_
            refine r_n false rfl (by decide) rfl ?_
            refine r_n false rfl (by decide) rfl ?_
            refine r_n false rfl (by decide) rfl ?_
            refine r_v (Value.bool (false)) rfl rfl rfl rfl ?_
            refine r_v (Value.bool (false)) rfl rfl rfl rfl ?_
            refine r_n false rfl (by decide) rfl ?_
            refine r_v (Value.bool (false)) rfl rfl rfl rfl ?_
            refine r_v (Value.bool (false)) rfl rfl rfl rfl ?_
            refine lx_nil ?_
            refine hK8 _ _ ?_; try clear hK8 K8
            refine A_gen [(4, Value.bool (false))] rfl (fun T => ?_)
            obtain rfl := Option.some.inj hM
            refine A_ret (fun hn => ends_eq (v0 := Value.bool (false)) rfl (res1 rfl))
          · replace hM := ifp (eq_of_beq hg33) hM
            refine r_y rfl ?_
            refine r_v (Value.int .i32 (c)) rfl rfl rfl rfl ?_
            refine r_y rfl ?_
            replace hM := bind_sm hM; obtain ⟨r34, hr35, hM⟩ := hM
            refine r_c (Value.int .i32 (r34)) rfl _ _ (ev_callF rfl call_20 rfl) (name_Fold_g N c _ hr35) ?_
            refine r_y rfl ?_
            replace hM := ck_some hM; obtain ⟨ck36, hM⟩ := hM
            refine r_w (Value.int .i64 (r34)) rfl rfl (wi64 rfl ck36.1 ck36.2) (fun _ => rfl) ?_
            refine r_y rfl ?_
            refine r_v (Value.int .i32 (c)) rfl rfl rfl rfl ?_
            refine r_y rfl ?_
            replace hM := ck_some hM; obtain ⟨ck37, hM⟩ := hM
            refine r_w (Value.int .i64 (c)) rfl rfl (wi64 rfl ck37.1 ck37.2) (fun _ => rfl) ?_
            refine r_y rfl ?_
            replace hM := bind_sm hM; obtain ⟨r38, hr39, hM⟩ := hM
            refine r_c (Value.int .i64 (r38)) rfl _ _ (ev_callF rfl call_21 rfl) (shunterref05_Fold_g N c _ hr39) ?_
            refine r_y rfl ?_
            refine r_v (Value.bool (((r34 : Int) == r38))) rfl rfl rfl rfl ?_
            refine r_v (Value.bool (((r34 : Int) == r38))) rfl rfl rfl rfl ?_
            refine r_v (Value.bool (((r34 : Int) == r38))) rfl rfl rfl rfl ?_
            rcases hg40 : (((r34 : Int) == r38)) with _ | _
            · replace hM := ifn (ne_of_beq_false hg40) hM
              refine r_n false rfl (by decide) rfl ?_
              refine r_v (Value.bool (false)) rfl rfl rfl rfl ?_
              refine r_v (Value.bool (false)) rfl rfl rfl rfl ?_
              refine lx_nil ?_
              refine hK8 _ _ ?_; try clear hK8 K8
              refine A_gen [(4, Value.bool (false))] rfl (fun T => ?_)
              obtain rfl := Option.some.inj hM
              refine A_ret (fun hn => ends_eq (v0 := Value.bool (false)) rfl (res1 rfl))
            · replace hM := ifp (eq_of_beq hg40) hM
              refine r_y rfl ?_
              replace hM := bind_sm hM; obtain ⟨r41, hr42, hM⟩ := hM
              refine r_c (Value.bool (r41)) rfl _ _ (ev_callF rfl call_9 rfl) (shunterlaw05_lives_g N  _ hr42) ?_
              refine r_v (Value.bool (r41)) rfl rfl rfl rfl ?_
              refine r_v (Value.bool (r41)) rfl rfl rfl rfl ?_
              refine lx_nil ?_
              refine hK8 _ _ ?_; try clear hK8 K8
              refine A_gen [(4, Value.bool (r41))] rfl (fun T => ?_)
              obtain rfl := Option.some.inj hM
              refine A_ret (fun hn => ends_eq (v0 := Value.bool (r41)) rfl (res1 rfl))
end Go.Proofs.Ytniakkkjiifelaa
