import Derived.Test.YthafnifhhblkbaaGreatDoorWord
import Derived.Test.YthafnifhhblkbaaGreatDoorMm
namespace Go.Proofs.YthafnifhhblkbaaGreatDoor
open Go Go.RowKit Go.Eng
theorem aX : ((Tryz.prog.info? 207).bind (·.zero)) = some (.agg ⟨List.replicate 128 (.bool false)⟩) := by kernel_rfl
set_option maxRecDepth 100000 in
set_option maxHeartbeats 400000 in
theorem lK (h l : BitVec 64) : Gives Tryz.prog 135 #[U (h), U (l)] (Value.agg (Cp (BitVec.getLsbD (h ++ l)))) := by
 refine Aq follows Tryz.func135 rfl 27 rfl (upd (upd (fun _ => undef) 1 (U (l))) 0 (U (h))) (by funext k; match k with | 0 => rfl | 1 => rfl | k + 2 => rfl) (fun base => ?_)
 refine Aa fun K1 hK1 => ?_
 refine Ar ?_
 refine r_a (207, Cp (fun _ => false)) rfl rfl (km aX) (fun b2 => ?_) (.inr rfl)
 refine As ?_
 refine hK1 _ _ ?_; try clear hK1 K1
 refine Aa fun K3 hK3 => ?_
 refine Ar ?_
 refine r_a (207, Cp (fun _ => false)) rfl rfl (km aX) (fun b4 => ?_) (.inr rfl)
 refine As ?_
 refine hK3 _ _ ?_; try clear hK3 K3
 refine Aa fun K5 hK5 => ?_
 refine Aa fun K6 hK6 => ?_
 refine Ar ?_
 refine r_v (Value.int .i64 (0)) rfl rfl rfl rfl ?_
 refine As ?_
 refine hK6 _ _ ?_; try clear hK6 K6
 refine Aj ?_
 refine AU (fun tt ll nn => ∃ (k : Nat), (k ≤ 64) ∧ Is [(0, U (h >>> (k))), (1, U (l >>> (k))), (4, Value.pointer (some ⟨b2, 0, none⟩)), (5, Value.pointer (some ⟨b4, 0, none⟩)), (6, Value.int .i64 (((k : Nat) : Int)))] [(b4, 207, Cp (ofP h l (k))), (b2, 207, Cp (fun _ => false))] tt ll ∧ nn = 64 - (k)) (64 - (0)) ?_ ?_
 ·exact ⟨0, by omega, Ak (rfl) (by rw [← bK h l]), rfl⟩
 ·rintro t l n ⟨k, hp0, ⟨⟨T, rfl⟩, rfl⟩, rfl⟩
  refine Aa fun K7 hK7 => ?_
  refine Aa fun K8 hK8 => ?_
  refine Ar ?_
  refine r_v (Value.int .i64 (((k : Nat) : Int))) rfl rfl rfl rfl ?_
  refine r_v (Value.bool (decide ((((k : Nat) : Int) : Int) < 64))) rfl rfl rfl rfl ?_
  refine As ?_
  refine hK8 _ _ ?_; try clear hK8 K8
  refine AB (decide ((((k : Nat) : Int) : Int) < 64)) rfl (fun hc9 => ?_) (fun hc9 => ?_)
  ·have hc9x := of_decide_eq_true hc9
   refine Af ?_
   refine hK7 _ _ ?_; try clear hK7 K7
   refine Aa fun K10 hK10 => ?_
   refine Aj ?_
   refine Aa fun K11 hK11 => ?_
   refine Ar ?_
   refine r_v (Value.int .i64 (((k : Nat) : Int))) rfl rfl rfl rfl ?_
   refine r_v (U (l >>> (k))) rfl rfl rfl rfl ?_
   refine r_v (U ((l >>> (k) % 2#64))) rfl rfl (ke (l >>> (k)) (2#64)) rfl ?_
   refine r_v (Value.bool ((l).getLsbD (k))) rfl rfl (((ln ((l >>> (k) % 2#64)) (1#64)) : _ = Value.bool (((l >>> (k) % 2#64)) == (1#64))).trans (congrArg Value.bool (hZ l k))) rfl ?_
   have hx15 := GE (YP (P := Tryz.prog) (c := fun _ => none) (t := 207) (b := b4) (off := 0) (k) rfl rfl rfl (by omega))
   rw [Nat.zero_add] at hx15
   refine r_v (Value.pointer (some ⟨b4, k, none⟩)) rfl rfl rfl hx15 ?_
   clear hx15
   refine r_s [(b4, 207, Cp (upd (ofP h l (k)) (k) ((l).getLsbD (k)))), (b2, 207, Cp (fun _ => false))] 0 _ _ _ (Cp (ofP h l (k))) (#[Value.bool ((l).getLsbD (k))]) (Cp (upd (ofP h l (k)) (k) ((l).getLsbD (k)))) rfl rfl rfl rfl (Uj rfl rfl _ _ (by omega)) (PZ _ _ _) rfl ?_
   refine As ?_
   refine hK11 _ _ ?_; try clear hK11 K11
   refine Aa fun K12 hK12 => ?_
   refine Ar ?_
   refine r_v (Value.int .i64 (((k : Nat) : Int))) rfl rfl rfl rfl ?_
   refine r_v (Value.int .i64 (((k + 64 : Nat) : Int))) rfl rfl (Ot (by omega) (by omega) (by omega)) rfl ?_
   refine r_v (U (h >>> (k))) rfl rfl rfl rfl ?_
   refine r_v (U ((h >>> (k) % 2#64))) rfl rfl (ke (h >>> (k)) (2#64)) rfl ?_
   refine r_v (Value.bool ((h).getLsbD (k))) rfl rfl (((ln ((h >>> (k) % 2#64)) (1#64)) : _ = Value.bool (((h >>> (k) % 2#64)) == (1#64))).trans (congrArg Value.bool (hZ h k))) rfl ?_
   have hx21 := GE (YP (P := Tryz.prog) (c := fun _ => none) (t := 207) (b := b4) (off := 0) (k + 64) rfl rfl rfl (by omega))
   rw [Nat.zero_add] at hx21
   refine r_v (Value.pointer (some ⟨b4, k + 64, none⟩)) rfl rfl rfl hx21 ?_
   clear hx21
   refine r_s [(b4, 207, Cp (ofP h l (k + 1))), (b2, 207, Cp (fun _ => false))] 0 _ _ _ (Cp (upd (ofP h l (k)) (k) ((l).getLsbD (k)))) (#[Value.bool ((h).getLsbD (k))]) (Cp (ofP h l (k + 1))) rfl rfl rfl rfl (Uj rfl rfl _ _ (by omega)) ((PZ _ _ _).trans (bL h l k (by omega))) rfl ?_
   refine As ?_
   refine hK12 _ _ ?_; try clear hK12 K12
   refine Aa fun K13 hK13 => ?_
   refine Ar ?_
   refine r_v (U (l >>> (k))) rfl rfl rfl rfl ?_
   refine r_v (U (l >>> (k + 1))) rfl rfl (((kf (l >>> (k)) (2#64)) : _ = U ((l >>> (k) / 2#64))).trans (congrArg U (Wo l k))) rfl ?_
   refine r_v (U (l >>> (k + 1))) rfl rfl rfl rfl ?_
   refine As ?_
   refine hK13 _ _ ?_; try clear hK13 K13
   refine Ar ?_
   refine r_v (U (h >>> (k))) rfl rfl rfl rfl ?_
   refine r_v (U (h >>> (k + 1))) rfl rfl (((kf (h >>> (k)) (2#64)) : _ = U ((h >>> (k) / 2#64))).trans (congrArg U (Wo h k))) rfl ?_
   refine r_v (U (h >>> (k + 1))) rfl rfl rfl rfl ?_
   refine As ?_
   refine hK10 _ _ ?_; try clear hK10 K10
   refine Ar ?_
   refine r_v (Value.int .i64 (((k : Nat) : Int))) rfl rfl rfl rfl ?_
   refine r_v (Value.int .i64 (((k + 1 : Nat) : Int))) rfl rfl (Ot (by omega) (by omega) (by omega)) rfl ?_
   refine r_v (Value.int .i64 (((k + 1 : Nat) : Int))) rfl rfl rfl rfl ?_
   refine As ?_
   refine fg _ (.of (List.Sublist.cons_cons _ (List.Sublist.cons_cons _ (List.Sublist.slnil)))) ?_
   exact ⟨_, by omega, k + 1, by omega, Ak (rfl) (rfl), rfl⟩
  ·have hc9x := of_decide_eq_false hc9
   refine AS ?_
   refine hK5 _ _ ?_; try clear hK5 K5
   refine Aa fun K14 hK14 => ?_
   refine Ar ?_
   refine r_l (Value.agg (Cp (ofP h l (k)))) 0 _ _ _ _ rfl rfl rfl rfl (Zt rfl rfl rfl _) ?_
   refine r_s [(b4, 207, Cp (ofP h l (k))), (b2, 207, Cp (ofP h l (k)))] 1 _ _ _ (Cp (fun _ => false)) (Cp (ofP h l (k))) (Cp (ofP h l (k))) rfl rfl rfl rfl (Ui rfl rfl _ _) (PY _ _) rfl ?_
   refine As ?_
   refine hK14 _ _ ?_; try clear hK14 K14
   refine Au (fun hn => Co (v0 := Value.agg (Cp (ofP h l (k)))) (bM h l (by omega) (by omega)) (AV (Bc hn 1 rfl rfl (Zt rfl rfl rfl _))))
end Go.Proofs.YthafnifhhblkbaaGreatDoor
