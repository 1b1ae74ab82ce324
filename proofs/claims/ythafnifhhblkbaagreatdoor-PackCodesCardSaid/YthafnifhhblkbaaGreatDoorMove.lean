import Derived.Test.YthafnifhhblkbaaGreatDoorWord
import Derived.Test.YthafnifhhblkbaaGreatDoorMm
namespace Go.Proofs.YthafnifhhblkbaaGreatDoor
open Go Go.RowKit Go.Eng
set_option maxRecDepth 100000 in
set_option maxHeartbeats 400000 in
theorem lh (x : BitVec 128) (n : Nat) (hn : n ≤ 127) : Gives Tryz.prog 338 #[Value.agg #[U (hi (x)), U (lo (x))], Value.int .i64 (((n : Nat) : Int))] (Value.agg #[U (hi (x >>> n)), U (lo (x >>> n))]) := by
 refine Aq follows Tryz.func338 rfl 28 rfl (upd (upd (fun _ => undef) 1 (Value.int .i64 (((n : Nat) : Int)))) 0 (Value.agg #[U (hi (x)), U (lo (x))])) (by funext k; match k with | 0 => rfl | 1 => rfl | k + 2 => rfl) (fun base => ?_)
 refine Aa fun K1 hK1 => ?_
 refine Ar ?_
 refine r_a (279, #[U (hi (x)), U (lo (x))]) rfl rfl rfl (fun b2 => ?_) (.inr rfl)
 refine r_a (279, #[U (0#64), U (0#64)]) rfl rfl rfl (fun b3 => ?_) (.inr rfl)
 refine As ?_
 refine hK1 _ _ ?_; try clear hK1 K1
 refine Aa fun K4 hK4 => ?_
 refine Aa fun K5 hK5 => ?_
 refine Ar ?_
 refine r_v (Value.int .i64 (((n : Nat) : Int))) rfl rfl rfl rfl ?_
 refine r_v (Value.bool (decide ((((n : Nat) : Int) : Int) ≥ 64))) rfl rfl rfl rfl ?_
 refine As ?_
 refine hK5 _ _ ?_; try clear hK5 K5
 refine AB (decide ((((n : Nat) : Int) : Int) ≥ 64)) rfl (fun hc6 => ?_) (fun hc6 => ?_)
 ·have hc6x := of_decide_eq_true hc6
  refine Aa fun K7 hK7 => ?_
  refine Ar ?_
  refine r_v (Value.pointer (some ⟨b2, 0, none⟩)) rfl rfl rfl rfl ?_
  refine r_l (U (hi (x))) 1 _ _ _ _ rfl rfl rfl rfl rfl ?_
  refine r_v (Value.int .i64 (((n : Nat) : Int))) rfl rfl rfl rfl ?_
  refine r_v (Value.int .i64 (((n - 64 : Nat) : Int))) rfl rfl (((Ot (by omega) (by omega) (by omega)) : _ = Value.int .i64 ((((n : Nat) : Int)) - (64))).trans (congrArg (Value.int .i64) (by omega))) rfl ?_
  refine r_v (U ((hi (x) >>> (n - 64)))) rfl rfl (ZV (hi (x)) (n - 64)) (VL rfl rfl) ?_
  refine r_v (Value.agg #[U (0#64), U ((hi (x) >>> (n - 64)))]) rfl rfl rfl (An rfl rfl rfl rfl) ?_
  refine r_s [(b3, 279, #[U (0#64), U ((hi (x) >>> (n - 64)))]), (b2, 279, #[U (hi (x)), U (lo (x))])] 0 _ _ _ (#[U (0#64), U (0#64)]) (#[U (0#64), U ((hi (x) >>> (n - 64)))]) (#[U (0#64), U ((hi (x) >>> (n - 64)))]) rfl rfl rfl rfl (.of rfl rfl) rfl rfl ?_
  refine As ?_
  refine hK7 _ _ ?_; try clear hK7 K7
  refine Au (fun hn => Co (v0 := Value.agg #[U (0#64), U ((hi (x) >>> (n - 64)))]) (by rw [Xo (x := x) (n := n) (by omega), Xn x (by omega)]) (AV (Bc hn 0 rfl rfl rfl)))
 ·have hc6x := of_decide_eq_false hc6
  refine Af ?_
  refine hK4 _ _ ?_; try clear hK4 K4
  refine Aa fun K8 hK8 => ?_
  refine Lz [] (by decide +kernel) (fun hn => Ba) ?_
  refine r_v (Value.pointer (some ⟨b2, 0, none⟩)) rfl rfl rfl rfl ?_
  refine r_l (U (hi (x))) 1 _ _ _ _ rfl rfl rfl rfl rfl ?_
  refine r_v (Value.int .i64 (((n : Nat) : Int))) rfl rfl rfl rfl ?_
  refine r_v (U ((hi (x) >>> n))) rfl rfl (ZV (hi (x)) n) (VL rfl rfl) ?_
  refine r_v (Value.pointer (some ⟨b2, 1, none⟩)) rfl rfl rfl rfl ?_
  refine r_l (U (lo (x))) 1 _ _ _ _ rfl rfl rfl rfl rfl ?_
  refine r_v (Value.int .i64 (((n : Nat) : Int))) rfl rfl rfl rfl ?_
  refine r_v (U ((lo (x) >>> n))) rfl rfl (ZV (lo (x)) n) (VL rfl rfl) ?_
  refine r_v (Value.pointer (some ⟨b2, 0, none⟩)) rfl rfl rfl rfl ?_
  refine r_l (U (hi (x))) 1 _ _ _ _ rfl rfl rfl rfl rfl ?_
  refine r_v (Value.int .i64 (((n : Nat) : Int))) rfl rfl rfl rfl ?_
  refine r_v (Value.int .i64 (((64 - n : Nat) : Int))) rfl rfl (((Ot (by omega) (by omega) (by omega)) : _ = Value.int .i64 ((64) - (((n : Nat) : Int)))).trans (congrArg (Value.int .i64) (by omega))) rfl ?_
  refine r_v (U ((hi (x) <<< (64 - n)))) rfl rfl (ZW (hi (x)) (64 - n)) (VM rfl rfl) ?_
  refine r_v (U (((lo (x) >>> n) ||| (hi (x) <<< (64 - n))))) rfl rfl (mi ((lo (x) >>> n)) ((hi (x) <<< (64 - n)))) rfl ?_
  refine r_v (Value.agg #[U ((hi (x) >>> n)), U (((lo (x) >>> n) ||| (hi (x) <<< (64 - n))))]) rfl rfl rfl (An rfl rfl rfl rfl) ?_
  refine r_s [(b3, 279, #[U ((hi (x) >>> n)), U (((lo (x) >>> n) ||| (hi (x) <<< (64 - n))))]), (b2, 279, #[U (hi (x)), U (lo (x))])] 0 _ _ _ (#[U (0#64), U (0#64)]) (#[U ((hi (x) >>> n)), U (((lo (x) >>> n) ||| (hi (x) <<< (64 - n))))]) (#[U ((hi (x) >>> n)), U (((lo (x) >>> n) ||| (hi (x) <<< (64 - n))))]) rfl rfl rfl rfl (.of rfl rfl) rfl rfl ?_
  refine As ?_
  refine hK8 _ _ ?_; try clear hK8 K8
  refine Au (fun hn => Co (v0 := Value.agg #[U ((hi (x) >>> n)), U (((lo (x) >>> n) ||| (hi (x) <<< (64 - n))))]) (by rw [Uf, Ue x (by omega)]) (AV (Bc hn 0 rfl rfl rfl)))
set_option maxRecDepth 100000 in
set_option maxHeartbeats 400000 in
theorem ml (x : BitVec 128) (n : Nat) (hn : n ≤ 127) : Gives Tryz.prog 337 #[Value.agg #[U (hi (x)), U (lo (x))], Value.int .i64 (((n : Nat) : Int))] (Value.agg #[U (hi (x <<< n)), U (lo (x <<< n))]) := by
 refine Aq follows Tryz.func337 rfl 28 rfl (upd (upd (fun _ => undef) 1 (Value.int .i64 (((n : Nat) : Int)))) 0 (Value.agg #[U (hi (x)), U (lo (x))])) (by funext k; match k with | 0 => rfl | 1 => rfl | k + 2 => rfl) (fun base => ?_)
 refine Aa fun K1 hK1 => ?_
 refine Ar ?_
 refine r_a (279, #[U (hi (x)), U (lo (x))]) rfl rfl rfl (fun b2 => ?_) (.inr rfl)
 refine r_a (279, #[U (0#64), U (0#64)]) rfl rfl rfl (fun b3 => ?_) (.inr rfl)
 refine As ?_
 refine hK1 _ _ ?_; try clear hK1 K1
 refine Aa fun K4 hK4 => ?_
 refine Aa fun K5 hK5 => ?_
 refine Ar ?_
 refine r_v (Value.int .i64 (((n : Nat) : Int))) rfl rfl rfl rfl ?_
 refine r_v (Value.bool (decide ((((n : Nat) : Int) : Int) ≥ 64))) rfl rfl rfl rfl ?_
 refine As ?_
 refine hK5 _ _ ?_; try clear hK5 K5
 refine AB (decide ((((n : Nat) : Int) : Int) ≥ 64)) rfl (fun hc6 => ?_) (fun hc6 => ?_)
 ·have hc6x := of_decide_eq_true hc6
  refine Aa fun K7 hK7 => ?_
  refine Ar ?_
  refine r_v (Value.pointer (some ⟨b2, 1, none⟩)) rfl rfl rfl rfl ?_
  refine r_l (U (lo (x))) 1 _ _ _ _ rfl rfl rfl rfl rfl ?_
  refine r_v (Value.int .i64 (((n : Nat) : Int))) rfl rfl rfl rfl ?_
  refine r_v (Value.int .i64 (((n - 64 : Nat) : Int))) rfl rfl (((Ot (by omega) (by omega) (by omega)) : _ = Value.int .i64 ((((n : Nat) : Int)) - (64))).trans (congrArg (Value.int .i64) (by omega))) rfl ?_
  refine r_v (U ((lo (x) <<< (n - 64)))) rfl rfl (ZW (lo (x)) (n - 64)) (VM rfl rfl) ?_
  refine r_v (Value.agg #[U ((lo (x) <<< (n - 64))), U (0#64)]) rfl rfl rfl (An rfl rfl rfl rfl) ?_
  refine r_s [(b3, 279, #[U ((lo (x) <<< (n - 64))), U (0#64)]), (b2, 279, #[U (hi (x)), U (lo (x))])] 0 _ _ _ (#[U (0#64), U (0#64)]) (#[U ((lo (x) <<< (n - 64))), U (0#64)]) (#[U ((lo (x) <<< (n - 64))), U (0#64)]) rfl rfl rfl rfl (.of rfl rfl) rfl rfl ?_
  refine As ?_
  refine hK7 _ _ ?_; try clear hK7 K7
  refine Au (fun hn => Co (v0 := Value.agg #[U ((lo (x) <<< (n - 64))), U (0#64)]) (by rw [aa (x := x) (n := n) (by omega), ab x (by omega)]) (AV (Bc hn 0 rfl rfl rfl)))
 ·have hc6x := of_decide_eq_false hc6
  refine Af ?_
  refine hK4 _ _ ?_; try clear hK4 K4
  refine Aa fun K8 hK8 => ?_
  refine Lz [] (by decide +kernel) (fun hn => Ba) ?_
  refine r_v (Value.pointer (some ⟨b2, 0, none⟩)) rfl rfl rfl rfl ?_
  refine r_l (U (hi (x))) 1 _ _ _ _ rfl rfl rfl rfl rfl ?_
  refine r_v (Value.int .i64 (((n : Nat) : Int))) rfl rfl rfl rfl ?_
  refine r_v (U ((hi (x) <<< n))) rfl rfl (ZW (hi (x)) n) (VM rfl rfl) ?_
  refine r_v (Value.pointer (some ⟨b2, 1, none⟩)) rfl rfl rfl rfl ?_
  refine r_l (U (lo (x))) 1 _ _ _ _ rfl rfl rfl rfl rfl ?_
  refine r_v (Value.int .i64 (((n : Nat) : Int))) rfl rfl rfl rfl ?_
  refine r_v (Value.int .i64 (((64 - n : Nat) : Int))) rfl rfl (((Ot (by omega) (by omega) (by omega)) : _ = Value.int .i64 ((64) - (((n : Nat) : Int)))).trans (congrArg (Value.int .i64) (by omega))) rfl ?_
  refine r_v (U ((lo (x) >>> (64 - n)))) rfl rfl (ZV (lo (x)) (64 - n)) (VL rfl rfl) ?_
  refine r_v (U (((hi (x) <<< n) ||| (lo (x) >>> (64 - n))))) rfl rfl (mi ((hi (x) <<< n)) ((lo (x) >>> (64 - n)))) rfl ?_
  refine r_v (Value.pointer (some ⟨b2, 1, none⟩)) rfl rfl rfl rfl ?_
  refine r_l (U (lo (x))) 1 _ _ _ _ rfl rfl rfl rfl rfl ?_
  refine r_v (Value.int .i64 (((n : Nat) : Int))) rfl rfl rfl rfl ?_
  refine r_v (U ((lo (x) <<< n))) rfl rfl (ZW (lo (x)) n) (VM rfl rfl) ?_
  refine r_v (Value.agg #[U (((hi (x) <<< n) ||| (lo (x) >>> (64 - n)))), U ((lo (x) <<< n))]) rfl rfl rfl (An rfl rfl rfl rfl) ?_
  refine r_s [(b3, 279, #[U (((hi (x) <<< n) ||| (lo (x) >>> (64 - n)))), U ((lo (x) <<< n))]), (b2, 279, #[U (hi (x)), U (lo (x))])] 0 _ _ _ (#[U (0#64), U (0#64)]) (#[U (((hi (x) <<< n) ||| (lo (x) >>> (64 - n)))), U ((lo (x) <<< n))]) (#[U (((hi (x) <<< n) ||| (lo (x) >>> (64 - n)))), U ((lo (x) <<< n))]) rfl rfl rfl rfl (.of rfl rfl) rfl rfl ?_
  refine As ?_
  refine hK8 _ _ ?_; try clear hK8 K8
  refine Au (fun hn => Co (v0 := Value.agg #[U (((hi (x) <<< n) ||| (lo (x) >>> (64 - n)))), U ((lo (x) <<< n))]) (by rw [Wk, Wl x (by omega)]) (AV (Bc hn 0 rfl rfl rfl)))
set_option maxRecDepth 100000 in
set_option maxHeartbeats 400000 in
theorem lv (x : BitVec 128) (n : Int) (hn0 : -9223372036854775808 ≤ n) (hn1 : n ≤ 9223372036854775807) : Gives Tryz.prog 264 #[Value.agg #[U (hi (x)), U (lo (x))], Value.int .i64 (n)] (Value.agg #[U (hi (Eg x (-n))), U (lo (Eg x (-n)))]) := by
 refine Aq follows Tryz.func264 rfl 21 rfl (upd (upd (fun _ => undef) 1 (Value.int .i64 (n))) 0 (Value.agg #[U (hi (x)), U (lo (x))])) (by funext k; match k with | 0 => rfl | 1 => rfl | k + 2 => rfl) (fun base => ?_)
 refine Aa fun K1 hK1 => ?_
 refine Ar ?_
 refine r_a (279, #[U (hi (x)), U (lo (x))]) rfl rfl rfl (fun b2 => ?_) (.inr rfl)
 refine r_a (279, #[U (0#64), U (0#64)]) rfl rfl rfl (fun b3 => ?_) (.inr rfl)
 refine As ?_
 refine hK1 _ _ ?_; try clear hK1 K1
 refine Aa fun K4 hK4 => ?_
 refine Aa fun K5 hK5 => ?_
 refine Ar ?_
 refine r_v (Value.int .i64 (n)) rfl rfl rfl rfl ?_
 refine r_v (Value.bool (decide ((n : Int) ≤ -128))) rfl rfl rfl rfl ?_
 refine r_v (Value.bool (decide ((n : Int) ≤ -128))) rfl rfl rfl rfl ?_
 rcases hg6 : (decide ((n : Int) ≤ -128)) with _ | _
 ·have hg6x := of_decide_eq_false hg6
  refine r_y rfl ?_
  refine r_v (Value.int .i64 (n)) rfl rfl rfl rfl ?_
  refine r_y rfl ?_
  refine r_v (Value.bool (decide ((n : Int) ≥ 128))) rfl rfl rfl rfl ?_
  refine r_v (Value.bool (decide ((n : Int) ≥ 128))) rfl rfl rfl rfl ?_
  refine As ?_
  refine hK5 _ _ ?_; try clear hK5 K5
  refine AB (decide ((n : Int) ≥ 128)) rfl (fun hc7 => ?_) (fun hc7 => ?_)
  ·have hc7x := of_decide_eq_true hc7
   refine Aa fun K8 hK8 => ?_
   refine Ar ?_
   refine r_v (Value.agg #[U (0#64), U (0#64)]) rfl rfl rfl (An rfl rfl rfl rfl) ?_
   refine r_s [(b3, 279, #[U (0#64), U (0#64)]), (b2, 279, #[U (hi (x)), U (lo (x))])] 0 _ _ _ (#[U (0#64), U (0#64)]) (#[U (0#64), U (0#64)]) (#[U (0#64), U (0#64)]) rfl rfl rfl rfl (.of rfl rfl) rfl rfl ?_
   refine As ?_
   refine hK8 _ _ ?_; try clear hK8 K8
   refine Au (fun hn => Co (v0 := Value.agg #[U (0#64), U (0#64)]) (by rw [← Rl (x := x) (n := -n) (by omega)]; rfl) (AV (Bc hn 0 rfl rfl rfl)))
  ·have hc7x := of_decide_eq_false hc7
   refine Af ?_
   refine hK4 _ _ ?_; try clear hK4 K4
   refine Aa fun K9 hK9 => ?_
   refine Aa fun K10 hK10 => ?_
   refine Ar ?_
   refine r_v (Value.int .i64 (n)) rfl rfl rfl rfl ?_
   refine r_v (Value.bool (decide ((n : Int) < 0))) rfl rfl rfl rfl ?_
   refine As ?_
   refine hK10 _ _ ?_; try clear hK10 K10
   refine AB (decide ((n : Int) < 0)) rfl (fun hc11 => ?_) (fun hc11 => ?_)
   ·have hc11x := of_decide_eq_true hc11
    refine Aa fun K12 hK12 => ?_
    refine Ar ?_
    refine r_l (Value.agg #[U (hi (x)), U (lo (x))]) 1 _ _ _ _ rfl rfl rfl rfl rfl ?_
    refine r_v (Value.int .i64 (n)) rfl rfl rfl rfl ?_
    refine r_v (Value.int .i64 ((((-n).toNat : Nat) : Int))) rfl rfl (((Ot rfl (by omega) (by omega)) : _ = Value.int .i64 (0 - (n))).trans (congrArg (Value.int .i64) (by omega))) rfl ?_
    refine r_c (Value.agg #[U (hi ((x) <<< ((-n).toNat))), U (lo ((x) <<< ((-n).toNat)))]) rfl _ _ (Nf rfl dT rfl) (ml (x) ((-n).toNat) (by omega)) ?_
    refine r_s [(b3, 279, #[U (hi ((x) <<< ((-n).toNat))), U (lo ((x) <<< ((-n).toNat)))]), (b2, 279, #[U (hi (x)), U (lo (x))])] 0 _ _ _ (#[U (0#64), U (0#64)]) (#[U (hi ((x) <<< ((-n).toNat))), U (lo ((x) <<< ((-n).toNat)))]) (#[U (hi ((x) <<< ((-n).toNat))), U (lo ((x) <<< ((-n).toNat)))]) rfl rfl rfl rfl (.of rfl rfl) rfl rfl ?_
    refine As ?_
    refine hK12 _ _ ?_; try clear hK12 K12
    refine Au (fun hn => Co (v0 := Value.agg #[U (hi ((x) <<< ((-n).toNat))), U (lo ((x) <<< ((-n).toNat)))]) (by rw [ae hc11x]) (AV (Bc hn 0 rfl rfl rfl)))
   ·have hc11x := of_decide_eq_false hc11
    refine Af ?_
    refine hK9 _ _ ?_; try clear hK9 K9
    refine Aa fun K13 hK13 => ?_
    refine Ar ?_
    refine r_l (Value.agg #[U (hi (x)), U (lo (x))]) 1 _ _ _ _ rfl rfl rfl rfl rfl ?_
    refine r_v (Value.int .i64 (((n.toNat : Nat) : Int))) rfl rfl (congrArg (Value.int .i64) (by omega)) rfl ?_
    refine r_c (Value.agg #[U (hi ((x) >>> (n.toNat))), U (lo ((x) >>> (n.toNat)))]) rfl _ _ (Nf rfl dS rfl) (lh (x) (n.toNat) (by omega)) ?_
    refine r_s [(b3, 279, #[U (hi ((x) >>> (n.toNat))), U (lo ((x) >>> (n.toNat)))]), (b2, 279, #[U (hi (x)), U (lo (x))])] 0 _ _ _ (#[U (0#64), U (0#64)]) (#[U (hi ((x) >>> (n.toNat))), U (lo ((x) >>> (n.toNat)))]) (#[U (hi ((x) >>> (n.toNat))), U (lo ((x) >>> (n.toNat)))]) rfl rfl rfl rfl (.of rfl rfl) rfl rfl ?_
    refine As ?_
    refine hK13 _ _ ?_; try clear hK13 K13
    refine Au (fun hn => Co (v0 := Value.agg #[U (hi ((x) >>> (n.toNat))), U (lo ((x) >>> (n.toNat)))]) (by rw [Qc hc11x]) (AV (Bc hn 0 rfl rfl rfl)))
 ·have hg6x := of_decide_eq_true hg6
  refine r_n true rfl (by decide) rfl ?_
  refine r_n true rfl (by decide) rfl ?_
  refine r_v (Value.bool (true)) rfl rfl rfl rfl ?_
  refine As ?_
  refine hK5 _ _ ?_; try clear hK5 K5
  refine AB true rfl (fun _ => ?_) (fun h_ => nomatch h_)
  refine Aa fun K15 hK15 => ?_
  refine Ar ?_
  refine r_v (Value.agg #[U (0#64), U (0#64)]) rfl rfl rfl (An rfl rfl rfl rfl) ?_
  refine r_s [(b3, 279, #[U (0#64), U (0#64)]), (b2, 279, #[U (hi (x)), U (lo (x))])] 0 _ _ _ (#[U (0#64), U (0#64)]) (#[U (0#64), U (0#64)]) (#[U (0#64), U (0#64)]) rfl rfl rfl rfl (.of rfl rfl) rfl rfl ?_
  refine As ?_
  refine hK15 _ _ ?_; try clear hK15 K15
  refine Au (fun hn => Co (v0 := Value.agg #[U (0#64), U (0#64)]) (by rw [← Rl (x := x) (n := -n) (by omega)]; rfl) (AV (Bc hn 0 rfl rfl rfl)))
theorem Zs (y : BitVec 64) : Gives Tryz.prog 376 #[U y] (.int .i64 ((Lib.bitLen y.toNat : Nat) : Int)) :=
 Gives.of_same (fun w => Tryz.bits_Len64 (y.toNat : Int) w (by omega) (by have := y.isLt; omega))
set_option maxRecDepth 100000 in
set_option maxHeartbeats 400000 in
theorem lQ (x : BitVec 128) : Gives Tryz.prog 341 #[Value.agg #[U (hi (x)), U (lo (x))]] (Value.int .i64 (((len128 x : Nat) : Int))) := by
 have hb := (VX (hi x).toNat (hi x).isLt).2.2
 refine Aq follows Tryz.func341 rfl 13 rfl (upd (fun _ => undef) 0 (Value.agg #[U (hi (x)), U (lo (x))])) (by funext k; match k with | 0 => rfl | k + 1 => rfl) (fun base => ?_)
 refine Aa fun K1 hK1 => ?_
 refine Ar ?_
 refine r_a (279, #[U (hi (x)), U (lo (x))]) rfl rfl rfl (fun b2 => ?_) (.inr rfl)
 refine r_v (Value.int .i64 (0)) rfl rfl rfl rfl ?_
 refine As ?_
 refine hK1 _ _ ?_; try clear hK1 K1
 refine Aa fun K3 hK3 => ?_
 refine Aa fun K4 hK4 => ?_
 refine Ar ?_
 refine r_v (Value.pointer (some ⟨b2, 0, none⟩)) rfl rfl rfl rfl ?_
 refine r_l (U (hi (x))) 0 _ _ _ _ rfl rfl rfl rfl rfl ?_
 refine r_v (Value.bool ((hi (x)) == (0#64))) rfl rfl (ln (hi (x)) (0#64)) rfl ?_
 refine As ?_
 refine hK4 _ _ ?_; try clear hK4 K4
 refine AB ((hi (x)) == (0#64)) rfl (fun hc5 => ?_) (fun hc5 => ?_)
 ·have hc5x := eq_of_beq hc5
  refine Aa fun K6 hK6 => ?_
  refine Ar ?_
  refine r_v (Value.pointer (some ⟨b2, 1, none⟩)) rfl rfl rfl rfl ?_
  refine r_l (U (lo (x))) 0 _ _ _ _ rfl rfl rfl rfl rfl ?_
  refine r_c (Value.int .i64 (((Lib.bitLen (lo (x)).toNat : Nat) : Int))) rfl _ _ (Nf rfl XE rfl) (Zs (lo (x))) ?_
  refine r_v (Value.int .i64 (((Lib.bitLen (lo (x)).toNat : Nat) : Int))) rfl rfl rfl rfl ?_
  refine As ?_
  refine hK6 _ _ ?_; try clear hK6 K6
  refine Au (fun hn => Co (v0 := Value.int .i64 (((Lib.bitLen (lo (x)).toNat : Nat) : Int))) (by unfold len128; rw [if_pos hc5x]) (AV rfl))
 ·have hc5x := ne_of_beq_false hc5
  refine Af ?_
  refine hK3 _ _ ?_; try clear hK3 K3
  refine Aa fun K7 hK7 => ?_
  refine Ar ?_
  refine r_v (Value.pointer (some ⟨b2, 0, none⟩)) rfl rfl rfl rfl ?_
  refine r_l (U (hi (x))) 0 _ _ _ _ rfl rfl rfl rfl rfl ?_
  refine r_c (Value.int .i64 (((Lib.bitLen (hi (x)).toNat : Nat) : Int))) rfl _ _ (Nf rfl XE rfl) (Zs (hi (x))) ?_
  refine r_v (Value.int .i64 (64 + ((Lib.bitLen (hi (x)).toNat : Nat) : Int))) rfl rfl (Ot (by omega) (by omega) (by omega)) rfl ?_
  refine r_v (Value.int .i64 (64 + ((Lib.bitLen (hi (x)).toNat : Nat) : Int))) rfl rfl rfl rfl ?_
  refine As ?_
  refine hK7 _ _ ?_; try clear hK7 K7
  refine Au (fun hn => Co (v0 := Value.int .i64 (64 + ((Lib.bitLen (hi (x)).toNat : Nat) : Int))) (by unfold len128; rw [if_neg hc5x]; rfl) (AV rfl))
end Go.Proofs.YthafnifhhblkbaaGreatDoor
