import Derived.Test.YtajdpjdejpcgnaaGreatDoorWord
import Derived.Test.YtajdpjdejpcgnaaGreatDoorMm
namespace Go.Proofs.YtajdpjdejpcgnaaGreatDoor
open Go Go.RowKit Go.Eng
theorem Ug(y:BitVec 64):Gives Tryz.prog 210 #[U y] (.int .i64 ((Lib.bitLen y.toNat:Nat):Int)):=
 Gives.of_same (fun w=>Tryz.bits_Len64 (y.toNat:Int) w (by omega) (by have:=y.isLt;omega))
set_option maxRecDepth 100000 in
set_option maxHeartbeats 400000 in
theorem bp(x:BitVec 128):Gives Tryz.prog 199 #[Value.agg #[U (hi (x)),U (lo (x))]] (Value.int .i64 (((len128 x:Nat):Int))):=by
 have hb:=(ZQ (hi x).toNat (hi x).isLt).2.2
 refine Ao follows Tryz.func199 rfl 13 rfl (upd (fun _=>undef) 0 (Value.agg #[U (hi (x)),U (lo (x))])) (by funext k;match k with|0=>rfl|k+1=>rfl) (fun base=> ?_)
 refine Ae fun K1 hK1=> ?_
 refine An ?_
 refine r_a (288, #[U (hi (x)),U (lo (x))]) rfl rfl rfl (fun b2=> ?_) (.inr rfl)
 refine r_v (Value.int .i64 (0)) rfl rfl rfl rfl ?_
 refine Ah ?_
 refine hK1 _ _ ?_;try clear hK1 K1
 refine Ae fun K3 hK3=> ?_
 refine Ae fun K4 hK4=> ?_
 refine An ?_
 refine r_v (Value.pointer (some ⟨b2,0,none⟩)) rfl rfl rfl rfl ?_
 refine r_l (U (hi (x))) 0 _ _ _ _ rfl rfl rfl rfl rfl ?_
 refine r_v (Value.bool ((hi (x))==(0#64))) rfl rfl (Vd (hi (x)) (0#64)) rfl ?_
 refine Ah ?_
 refine hK4 _ _ ?_;try clear hK4 K4
 refine Ai ((hi (x))==(0#64)) rfl (fun hc5=> ?_) (fun hc5=> ?_)
 ·have hc5x:=eq_of_beq hc5
  refine Ae fun K6 hK6=> ?_
  refine An ?_
  refine r_v (Value.pointer (some ⟨b2,1,none⟩)) rfl rfl rfl rfl ?_
  refine r_l (U (lo (x))) 0 _ _ _ _ rfl rfl rfl rfl rfl ?_
  refine r_c (Value.int .i64 (((Lib.bitLen (lo (x)).toNat:Nat):Int))) rfl _ _ (Ol rfl SO rfl) (Ug (lo (x))) ?_
  refine r_v (Value.int .i64 (((Lib.bitLen (lo (x)).toNat:Nat):Int))) rfl rfl rfl rfl ?_
  refine Ah ?_
  refine hK6 _ _ ?_;try clear hK6 K6
  refine AO (fun hn=>Co (v0:=Value.int .i64 (((Lib.bitLen (lo (x)).toNat:Nat):Int))) (by unfold len128;rw [if_pos hc5x]) (BP rfl))
 ·have hc5x:=ne_of_beq_false hc5
  refine Ac ?_
  refine hK3 _ _ ?_;try clear hK3 K3
  refine Ae fun K7 hK7=> ?_
  refine An ?_
  refine r_v (Value.pointer (some ⟨b2,0,none⟩)) rfl rfl rfl rfl ?_
  refine r_l (U (hi (x))) 0 _ _ _ _ rfl rfl rfl rfl rfl ?_
  refine r_c (Value.int .i64 (((Lib.bitLen (hi (x)).toNat:Nat):Int))) rfl _ _ (Ol rfl SO rfl) (Ug (hi (x))) ?_
  refine r_v (Value.int .i64 (64+((Lib.bitLen (hi (x)).toNat:Nat):Int))) rfl rfl (IJ (by omega) (by omega) (by omega)) rfl ?_
  refine r_v (Value.int .i64 (64+((Lib.bitLen (hi (x)).toNat:Nat):Int))) rfl rfl rfl rfl ?_
  refine Ah ?_
  refine hK7 _ _ ?_;try clear hK7 K7
  refine AO (fun hn=>Co (v0:=Value.int .i64 (64+((Lib.bitLen (hi (x)).toNat:Nat):Int))) (by unfold len128;rw [if_neg hc5x];rfl) (BP rfl))
end Go.Proofs.YtajdpjdejpcgnaaGreatDoor
