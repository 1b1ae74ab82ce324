/- rows, more -/
import Derived.Test.YtnpbpllibmcokaaRef
import Derived.Test.YtnpbpllibmcokaaMove
namespace Go.Proofs.Ytnpbpllibmcokaa
open Go Go.RowKit Go.Eng
set_option maxRecDepth 100000 in
set_option maxHeartbeats 400000 in
theorem rlen_g (x : BitVec 128) : Gives Try.prog 32 #[Value.agg (rowF (BitVec.getLsbD (x)))] (Value.int .i64 (((len128 x : Nat) : Int))) := by
  refine gives_of_A follows Try.func32 rfl 13 rfl (upd (fun _ => undef) 0 (Value.agg (rowF (BitVec.getLsbD (x))))) (by funext k; match k with | 0 => rfl | k + 1 => rfl) (fun base => ?_)
  refine A_seq fun K1 hK1 => ?_
  refine A_reg ?_
  refine r_a (71, rowF (BitVec.getLsbD (x))) rfl rfl rfl (fun b2 => ?_) (.inr rfl)
  refine r_v (Value.int .i64 (0)) rfl rfl rfl rfl ?_
  refine lx_nil ?_
  refine hK1 _ _ ?_; try clear hK1 K1
  refine A_seq fun K3 hK3 => ?_
  refine A_seq fun K4 hK4 => ?_
  refine A_reg ?_
  refine r_v (Value.int .i64 (127)) rfl rfl rfl rfl ?_
  refine lx_nil ?_
  refine hK4 _ _ ?_; try clear hK4 K4
  refine A_block ?_
  refine A_loop (fun tt ll nn => ∃ (k : Nat), (k ≤ 128) ∧ (∀ j, k ≤ j → j < 128 → x.getLsbD j = false) ∧ Is [(0, Value.agg (rowF (BitVec.getLsbD (x)))), (1, Value.pointer (some ⟨b2, 0, none⟩)), (3, Value.int .i64 (((k : Nat) : Int) - 1))] [(b2, 71, rowF (BitVec.getLsbD (x)))] tt ll ∧ nn = k + 1) (128 + 1) ?_ ?_
  · exact ⟨128, by omega, fun j h1 h2 => by omega, is_mk (rfl) (rfl), rfl⟩
  · rintro t l n ⟨k, hp0, hp1, ⟨⟨T, rfl⟩, rfl⟩, rfl⟩
    refine A_seq fun K5 hK5 => ?_
    refine A_seq fun K6 hK6 => ?_
    refine A_reg ?_
    refine r_v (Value.int .i64 (((k : Nat) : Int) - 1)) rfl rfl rfl rfl ?_
    refine r_v (Value.bool (decide ((((k : Nat) : Int) - 1 : Int) ≥ 0))) rfl rfl rfl rfl ?_
    refine lx_nil ?_
    refine hK6 _ _ ?_; try clear hK6 K6
    refine A_cond (decide ((((k : Nat) : Int) - 1 : Int) ≥ 0)) rfl (fun hc7 => ?_) (fun hc7 => ?_)
    · have hc7x := of_decide_eq_true hc7
      obtain ⟨m, rfl⟩ : ∃ m, k = m + 1 := ⟨k - 1, by omega⟩
      rw [show (((m + 1 : Nat) : Int) - 1) = ((m : Nat) : Int) from by omega]
      refine A_skip ?_
      refine hK5 _ _ ?_; try clear hK5 K5
      refine A_seq fun K8 hK8 => ?_
      refine A_block ?_
      refine A_seq fun K9 hK9 => ?_
      refine A_reg ?_
      refine r_v (Value.int .i64 (((m : Nat) : Int))) rfl rfl rfl rfl ?_
      have hx9 := ev_v (ev_idx (P := Try.prog) (c := fun _ => none) (t := 71) (b := b2) (off := 0) (m) rfl rfl rfl (by omega))
      rw [Nat.zero_add] at hx9
      refine r_v (Value.pointer (some ⟨b2, m, none⟩)) rfl rfl rfl hx9 ?_
      clear hx9
      refine r_l (Value.bool ((x).getLsbD (m))) 0 _ _ _ _ rfl rfl rfl rfl (ld_row1 rfl _ (by omega)) ?_
      refine lx_nil ?_
      refine hK9 _ _ ?_; try clear hK9 K9
      refine A_cond ((x).getLsbD (m)) rfl (fun hc10 => ?_) (fun hc10 => ?_)
      · refine A_seq fun K11 hK11 => ?_
        refine A_reg ?_
        refine r_v (Value.int .i64 (((m : Nat) : Int))) rfl rfl rfl rfl ?_
        refine r_v (Value.int .i64 (((m + 1 : Nat) : Int))) rfl rfl (wi64 (by omega) (by omega) (by omega)) rfl ?_
        refine r_v (Value.int .i64 (((m + 1 : Nat) : Int))) rfl rfl rfl rfl ?_
        refine lx_nil ?_
        refine hK11 _ _ ?_; try clear hK11 K11
        refine A_ret (fun hn => ends_eq (v0 := Value.int .i64 (((m + 1 : Nat) : Int))) (congrArg (fun z : Nat => Value.int .i64 (z : Int)) (len128_is hc10 (fun j h1 h2 => hp1 j h1 h2))) (res1 rfl))
      · refine A_skip ?_
        refine hK8 _ _ ?_; try clear hK8 K8
        refine A_reg ?_
        refine r_v (Value.int .i64 (((m : Nat) : Int))) rfl rfl rfl rfl ?_
        refine r_v (Value.int .i64 ((((m : Nat) : Int)) - (1))) rfl rfl (wi64 (by omega) (by omega) (by omega)) rfl ?_
        refine r_v (Value.int .i64 ((((m : Nat) : Int)) - (1))) rfl rfl rfl rfl ?_
        refine lx_nil ?_
        refine fg _ (.of (List.Sublist.cons_cons _ (List.Sublist.slnil))) ?_
        exact ⟨_, by omega, m, by omega, fun j h1 h2 => by
      by_cases hj : j = m
      · subst hj; exact hc10
      · exact hp1 j (by omega) h2, is_mk (by first | rfl | (simp only [hc10, hc7]; rfl)) (rfl), rfl⟩
    · have hc7x := of_decide_eq_false hc7
      refine A_exit ?_
      refine hK3 _ _ ?_; try clear hK3 K3
      refine A_seq fun K12 hK12 => ?_
      refine A_reg ?_
      refine r_v (Value.int .i64 (0)) rfl rfl rfl rfl ?_
      refine lx_nil ?_
      refine hK12 _ _ ?_; try clear hK12 K12
      refine A_ret (fun hn => ends_eq (v0 := Value.int .i64 (0)) (congrArg (fun z : Nat => Value.int .i64 (z : Int)) (len128_none (fun j hj => hp1 j (by omega) hj))) (res1 rfl))
end Go.Proofs.Ytnpbpllibmcokaa
