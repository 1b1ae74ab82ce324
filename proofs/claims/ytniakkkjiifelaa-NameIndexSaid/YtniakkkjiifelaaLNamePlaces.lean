/- models of functions and their walks -/
import Derived.Test.YtniakkkjiifelaaBc
namespace Go.Proofs.Ytniakkkjiifelaa
open Go Go.RowKit Go.Eng
def shunterlaw05_NamePlaces_m (N : Nat) (s : List UInt8) (at' : Int) : Option (Bool) := if (((s).length : Int) : Int) > 500 then (shunterlaw05_lives_m N ).bind fun r6 => some (r6) else (name_Place_m N s at').bind fun r9 => (shunterref05_Place_m N s at').bind fun r12 => if (r9.1 : Int) = r12.1 then if (r9.2 : Int) = r12.2 then (shunterlaw05_lives_m N ).bind fun r17 => some (r17) else some (false) else some (false)
set_option maxRecDepth 100000 in
set_option maxHeartbeats 400000 in
theorem shunterlaw05_NamePlaces_g (N : Nat) (s : List UInt8) (at' : Int) (r : Bool) (hM : shunterlaw05_NamePlaces_m N s at' = some r) : Gives Try.prog 7 #[Value.string (⟨(s).toArray⟩), Value.int .i64 (at')] (Value.bool (r)) := by
  unfold shunterlaw05_NamePlaces_m at hM
  refine gives_of_A follows Try.func7 rfl 36 rfl (upd (upd (fun _ => undef) 1 (Value.int .i64 (at'))) 0 (Value.string (⟨(s).toArray⟩))) (by funext k; match k with | 0 => rfl | 1 => rfl | k + 2 => rfl) (fun base0_ => ?_)
  refine A_seq fun K1 hK1 => ?_
  refine A_reg ?_
  refine r_v (Value.bool (false)) rfl rfl rfl rfl ?_
  refine lx_nil ?_
  refine hK1 _ _ ?_; try clear hK1 K1
  refine A_seq fun K2 hK2 => ?_
  refine A_seq fun K3 hK3 => ?_
  refine A_reg ?_
  refine r_v (Value.string (⟨(s).toArray⟩)) rfl rfl rfl rfl ?_
  refine r_v (Value.int .i64 (((s).length : Int))) rfl rfl rfl (ev_lenS rfl rfl rfl) ?_
  refine r_v (Value.bool (decide ((((s).length : Int) : Int) > 500))) rfl rfl rfl rfl ?_
  refine lx_nil ?_
  refine hK3 _ _ ?_; try clear hK3 K3
  refine A_cond (decide ((((s).length : Int) : Int) > 500)) rfl (fun hc4 => ?_) (fun hc4 => ?_)
  · replace hM := ifp (of_decide_eq_true hc4) hM
    refine A_seq fun K5 hK5 => ?_
    refine A_reg ?_
    replace hM := bind_sm hM; obtain ⟨r6, hr7, hM⟩ := hM
    refine r_c (Value.bool (r6)) rfl _ _ (ev_callF rfl call_9 rfl) (shunterlaw05_lives_g N  _ hr7) ?_
    refine r_v (Value.bool (r6)) rfl rfl rfl rfl ?_
    refine lx_nil ?_
    refine hK5 _ _ ?_; try clear hK5 K5
    obtain rfl := Option.some.inj hM
    refine A_ret (fun hn => ends_eq (v0 := Value.bool (r6)) rfl (res1 rfl))
  · replace hM := ifn (of_decide_eq_false hc4) hM
    refine A_skip ?_
    refine hK2 _ _ ?_; try clear hK2 K2
    refine A_seq fun K8 hK8 => ?_
    refine A_reg ?_
    refine r_v (Value.string (⟨(s).toArray⟩)) rfl rfl rfl rfl ?_
    refine r_v (Value.int .i64 (at')) rfl rfl rfl rfl ?_
    replace hM := bind_sm hM; obtain ⟨r9, hr10, hM⟩ := hM
    refine r_c (Value.tuple #[Value.int .i64 (r9.1), Value.int .i64 (r9.2)]) rfl _ _ (ev_callF rfl call_28 rfl) (name_Place_g N s at' _ hr10) ?_
    refine r_v (Value.tuple #[Value.int .i64 (r9.1), Value.int .i64 (r9.2)]) rfl rfl rfl rfl ?_
    refine r_v (Value.int .i64 (r9.1)) rfl rfl rfl rfl ?_
    refine r_v (Value.int .i64 (r9.2)) rfl rfl rfl rfl ?_
    refine r_v (Value.int .i64 (r9.1)) rfl rfl rfl rfl ?_
    refine r_v (Value.int .i64 (r9.2)) rfl rfl rfl rfl ?_
    refine lx_nil ?_
    refine hK8 _ _ ?_; try clear hK8 K8
    refine A_seq fun K11 hK11 => ?_
    refine A_reg ?_
    refine r_v (Value.string (⟨(s).toArray⟩)) rfl rfl rfl rfl ?_
    refine r_v (Value.int .i64 (at')) rfl rfl rfl rfl ?_
    replace hM := bind_sm hM; obtain ⟨r12, hr13, hM⟩ := hM
    refine r_c (Value.tuple #[Value.int .i64 (r12.1), Value.int .i64 (r12.2)]) rfl _ _ (ev_callF rfl call_29 rfl) (shunterref05_Place_g N s at' _ hr13) ?_
    refine r_v (Value.tuple #[Value.int .i64 (r12.1), Value.int .i64 (r12.2)]) rfl rfl rfl rfl ?_
    refine r_v (Value.int .i64 (r12.1)) rfl rfl rfl rfl ?_
    refine r_v (Value.int .i64 (r12.2)) rfl rfl rfl rfl ?_
    refine r_v (Value.int .i64 (r12.1)) rfl rfl rfl rfl ?_
    refine r_v (Value.int .i64 (r12.2)) rfl rfl rfl rfl ?_
    refine lx_nil ?_
    refine hK11 _ _ ?_; try clear hK11 K11
    refine A_seq fun K14 hK14 => ?_
    refine A_reg ?_
    refine r_v (Value.int .i64 (r9.1)) rfl rfl rfl rfl ?_
    refine r_v (Value.int .i64 (r12.1)) rfl rfl rfl rfl ?_
    refine r_v (Value.bool (((r9.1 : Int) == r12.1))) rfl rfl rfl rfl ?_
    refine r_v (Value.bool (((r9.1 : Int) == r12.1))) rfl rfl rfl rfl ?_
    rcases hg15 : (((r9.1 : Int) == r12.1)) with _ | _
    · replace hM := ifn (ne_of_beq_false hg15) hM
      refine r_n false rfl (by decide) rfl ?_
      refine r_n false rfl (by decide) rfl ?_
      refine r_n false rfl (by decide) rfl ?_
      refine r_v (Value.bool (false)) rfl rfl rfl rfl ?_
      refine r_v (Value.bool (false)) rfl rfl rfl rfl ?_
      refine r_n false rfl (by decide) rfl ?_
      refine r_v (Value.bool (false)) rfl rfl rfl rfl ?_
      refine r_v (Value.bool (false)) rfl rfl rfl rfl ?_
      refine lx_nil ?_
      refine hK14 _ _ ?_; try clear hK14 K14
      refine A_gen [(4, Value.bool (false))] rfl (fun T => ?_)
      obtain rfl := Option.some.inj hM
      refine A_ret (fun hn => ends_eq (v0 := Value.bool (false)) rfl (res1 rfl))
    · replace hM := ifp (eq_of_beq hg15) hM
      refine r_y rfl ?_
      refine r_v (Value.int .i64 (r9.2)) rfl rfl rfl rfl ?_
      refine r_y rfl ?_
      refine r_v (Value.int .i64 (r12.2)) rfl rfl rfl rfl ?_
      refine r_y rfl ?_
      refine r_v (Value.bool (((r9.2 : Int) == r12.2))) rfl rfl rfl rfl ?_
      refine r_v (Value.bool (((r9.2 : Int) == r12.2))) rfl rfl rfl rfl ?_
      refine r_v (Value.bool (((r9.2 : Int) == r12.2))) rfl rfl rfl rfl ?_
      rcases hg16 : (((r9.2 : Int) == r12.2)) with _ | _
      · replace hM := ifn (ne_of_beq_false hg16) hM
        refine r_n false rfl (by decide) rfl ?_
        refine r_v (Value.bool (false)) rfl rfl rfl rfl ?_
        refine r_v (Value.bool (false)) rfl rfl rfl rfl ?_
        refine lx_nil ?_
        refine hK14 _ _ ?_; try clear hK14 K14
        refine A_gen [(4, Value.bool (false))] rfl (fun T => ?_)
        obtain rfl := Option.some.inj hM
        refine A_ret (fun hn => ends_eq (v0 := Value.bool (false)) rfl (res1 rfl))
      · replace hM := ifp (eq_of_beq hg16) hM
        refine r_y rfl ?_
        replace hM := bind_sm hM; obtain ⟨r17, hr18, hM⟩ := hM
        refine r_c (Value.bool (r17)) rfl _ _ (ev_callF rfl call_9 rfl) (shunterlaw05_lives_g N  _ hr18) ?_
        refine r_v (Value.bool (r17)) rfl rfl rfl rfl ?_
        refine r_v (Value.bool (r17)) rfl rfl rfl rfl ?_
        refine lx_nil ?_
        refine hK14 _ _ ?_; try clear hK14 K14
        refine A_gen [(4, Value.bool (r17))] rfl (fun T => ?_)
        obtain rfl := Option.some.inj hM
        refine A_ret (fun hn => ends_eq (v0 := Value.bool (r17)) rfl (res1 rfl))
end Go.Proofs.Ytniakkkjiifelaa
