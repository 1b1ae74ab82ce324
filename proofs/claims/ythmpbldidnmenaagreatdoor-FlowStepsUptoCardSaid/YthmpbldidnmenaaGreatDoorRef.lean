import Derived.Test.YthmpbldidnmenaaGreatDoorWord
import Derived.Test.YthmpbldidnmenaaGreatDoorIt
namespace Go.Proofs.YthmpbldidnmenaaGreatDoor
open Go Go.RowKit Go.Eng
theorem dW(y:BitVec 64):Gives Tryz.prog 218 #[U y] (.int .i64 ((Lib.bitLen y.toNat:Nat):Int)):=
 Gives.of_same (fun w=>Tryz.bits_Len64 (y.toNat:Int) w (by omega) (by have:=y.isLt;omega))
set_option maxRecDepth 100000 in
set_option maxHeartbeats 400000 in
theorem se(x:BitVec 128):Gives Tryz.prog 159 #[Value.agg #[U (hi (x)),U (lo (x))]] (Value.int .i64 (((len128 x:Nat):Int))):=by
 have hb:=(TT (hi x).toNat (hi x).isLt).2.2
 refine As follows Tryz.func159 rfl 13 rfl (upd (fun _=>undef) 0 (Value.agg #[U (hi (x)),U (lo (x))])) (by funext k;match k with|0=>rfl|k+1=>rfl) (fun base=> ?_)
 refine Aa fun K1 hK1=> ?_
 refine Ag ?_
 refine r_a (272, #[U (hi (x)),U (lo (x))]) rfl rfl rfl (fun b2=> ?_) (.inr rfl)
 refine r_v (Value.int .i64 (0)) rfl rfl rfl rfl ?_
 refine Ak ?_
 refine hK1 _ _ ?_;try clear hK1 K1
 refine Aa fun K3 hK3=> ?_
 refine Aa fun K4 hK4=> ?_
 refine Ag ?_
 refine r_v (Value.pointer (some ⟨b2,0,none⟩)) rfl rfl rfl rfl ?_
 refine r_l (U (hi (x))) 0 _ _ _ _ rfl rfl rfl rfl rfl ?_
 refine r_v (Value.bool ((hi (x))==(0#64))) rfl rfl (fT (hi (x)) (0#64)) rfl ?_
 refine Ak ?_
 refine hK4 _ _ ?_;try clear hK4 K4
 refine Bv ((hi (x))==(0#64)) rfl (fun hc5=> ?_) (fun hc5=> ?_)
 ·have hc5x:=eq_of_beq hc5
  refine Aa fun K6 hK6=> ?_
  refine Ag ?_
  refine r_v (Value.pointer (some ⟨b2,1,none⟩)) rfl rfl rfl rfl ?_
  refine r_l (U (lo (x))) 0 _ _ _ _ rfl rfl rfl rfl rfl ?_
  refine r_c (Value.int .i64 (((Lib.bitLen (lo (x)).toNat:Nat):Int))) rfl _ _ (Vl rfl bu rfl) (dW (lo (x))) ?_
  refine r_v (Value.int .i64 (((Lib.bitLen (lo (x)).toNat:Nat):Int))) rfl rfl rfl rfl ?_
  refine Ak ?_
  refine hK6 _ _ ?_;try clear hK6 K6
  refine Bi (fun hn=>Ec (v0:=Value.int .i64 (((Lib.bitLen (lo (x)).toNat:Nat):Int))) (by unfold len128;rw [if_pos hc5x]) (Gj rfl))
 ·have hc5x:=ne_of_beq_false hc5
  refine Ab ?_
  refine hK3 _ _ ?_;try clear hK3 K3
  refine Aa fun K7 hK7=> ?_
  refine Ag ?_
  refine r_v (Value.pointer (some ⟨b2,0,none⟩)) rfl rfl rfl rfl ?_
  refine r_l (U (hi (x))) 0 _ _ _ _ rfl rfl rfl rfl rfl ?_
  refine r_c (Value.int .i64 (((Lib.bitLen (hi (x)).toNat:Nat):Int))) rfl _ _ (Vl rfl bu rfl) (dW (hi (x))) ?_
  refine r_v (Value.int .i64 (64+((Lib.bitLen (hi (x)).toNat:Nat):Int))) rfl rfl (Qu (by omega) (by omega) (by omega)) rfl ?_
  refine r_v (Value.int .i64 (64+((Lib.bitLen (hi (x)).toNat:Nat):Int))) rfl rfl rfl rfl ?_
  refine Ak ?_
  refine hK7 _ _ ?_;try clear hK7 K7
  refine Bi (fun hn=>Ec (v0:=Value.int .i64 (64+((Lib.bitLen (hi (x)).toNat:Nat):Int))) (by unfold len128;rw [if_neg hc5x];rfl) (Gj rfl))
end Go.Proofs.YthmpbldidnmenaaGreatDoor
namespace Go.Proofs.YthmpbldidnmenaaGreatDoor
open Go Go.RowKit Go.Eng
theorem dq:((Tryz.prog.info? 125).bind (·.zero))=some (.agg ⟨List.replicate 128 (.bool false)⟩):=by kernel_rfl
set_option maxRecDepth 100000 in
set_option maxHeartbeats 400000 in
theorem sa(h l:BitVec 64):Gives Tryz.prog 40 #[U (h),U (l)] (Value.agg (CL (BitVec.getLsbD (h++l)))):=by
 refine As follows Tryz.func40 rfl 27 rfl (upd (upd (fun _=>undef) 1 (U (l))) 0 (U (h))) (by funext k;match k with|0=>rfl|1=>rfl|k+2=>rfl) (fun base=> ?_)
 refine Aa fun K1 hK1=> ?_
 refine Ag ?_
 refine r_a (125,CL (fun _=>false)) rfl rfl (mJ dq) (fun b2=> ?_) (.inr rfl)
 refine Ak ?_
 refine hK1 _ _ ?_;try clear hK1 K1
 refine Aa fun K3 hK3=> ?_
 refine Ag ?_
 refine r_a (125,CL (fun _=>false)) rfl rfl (mJ dq) (fun b4=> ?_) (.inr rfl)
 refine Ak ?_
 refine hK3 _ _ ?_;try clear hK3 K3
 refine Aa fun K5 hK5=> ?_
 refine Aa fun K6 hK6=> ?_
 refine Ag ?_
 refine r_v (Value.int .i64 (0)) rfl rfl rfl rfl ?_
 refine Ak ?_
 refine hK6 _ _ ?_;try clear hK6 K6
 refine Ah ?_
 refine AC (fun tt ll nn=> ∃(k:Nat),(k≤64)∧Is [(0,U (h>>>(k))),(1,U (l>>>(k))),(4,Value.pointer (some ⟨b2,0,none⟩)),(5,Value.pointer (some ⟨b4,0,none⟩)),(6,Value.int .i64 (((k:Nat):Int)))] [(b4,125,CL (ofP h l (k))),(b2,125,CL (fun _=>false))] tt ll∧nn=64 - (k)) (64 - (0)) ?_ ?_
 ·exact⟨0,by omega,Af (rfl) (by rw [←gW h l]),rfl⟩
 ·rintro t l n ⟨k,hp0,⟨⟨T,rfl⟩,rfl⟩,rfl⟩
  refine Aa fun K7 hK7=> ?_
  refine Aa fun K8 hK8=> ?_
  refine Ag ?_
  refine r_v (Value.int .i64 (((k:Nat):Int))) rfl rfl rfl rfl ?_
  refine r_v (Value.bool (decide ((((k:Nat):Int):Int)<64))) rfl rfl rfl rfl ?_
  refine Ak ?_
  refine hK8 _ _ ?_;try clear hK8 K8
  refine Bv (decide ((((k:Nat):Int):Int)<64)) rfl (fun hc9=> ?_) (fun hc9=> ?_)
  ·have hc9x:=zd hc9
   refine Ab ?_
   refine hK7 _ _ ?_;try clear hK7 K7
   refine Aa fun K10 hK10=> ?_
   refine Ah ?_
   refine Aa fun K11 hK11=> ?_
   refine Ag ?_
   refine r_v (Value.int .i64 (((k:Nat):Int))) rfl rfl rfl rfl ?_
   refine r_v (U (l>>>(k))) rfl rfl rfl rfl ?_
   refine r_v (U ((l>>>(k)%2#64))) rfl rfl (mC (l>>>(k)) (2#64)) rfl ?_
   refine r_v (Value.bool ((l).getLsbD (k))) rfl rfl (((fT ((l>>>(k)%2#64)) (1#64)):_=Value.bool (((l>>>(k)%2#64))==(1#64))).trans (congrArg Value.bool (mt l k))) rfl ?_
   have hx15:=ET (cZ (P:=Tryz.prog) (c:=fun _=>none) (t:=125) (b:=b4) (off:=0) (k) rfl rfl rfl (by omega))
   rw [q6] at hx15
   refine r_v (Value.pointer (some ⟨b4,k,none⟩)) rfl rfl rfl hx15 ?_
   clear hx15
   refine r_s [(b4,125,CL (upd (ofP h l (k)) (k) ((l).getLsbD (k)))),(b2,125,CL (fun _=>false))] 0 _ _ _ (CL (ofP h l (k))) (#[Value.bool ((l).getLsbD (k))]) (CL (upd (ofP h l (k)) (k) ((l).getLsbD (k)))) rfl rfl rfl rfl (Sa rfl rfl _ _ (by omega)) (Pc _ _ _) rfl ?_
   refine Ak ?_
   refine hK11 _ _ ?_;try clear hK11 K11
   refine Aa fun K12 hK12=> ?_
   refine Ag ?_
   refine r_v (Value.int .i64 (((k:Nat):Int))) rfl rfl rfl rfl ?_
   refine r_v (Value.int .i64 (((k+64:Nat):Int))) rfl rfl (Qu (by omega) (by omega) (by omega)) rfl ?_
   refine r_v (U (h>>>(k))) rfl rfl rfl rfl ?_
   refine r_v (U ((h>>>(k)%2#64))) rfl rfl (mC (h>>>(k)) (2#64)) rfl ?_
   refine r_v (Value.bool ((h).getLsbD (k))) rfl rfl (((fT ((h>>>(k)%2#64)) (1#64)):_=Value.bool (((h>>>(k)%2#64))==(1#64))).trans (congrArg Value.bool (mt h k))) rfl ?_
   have hx21:=ET (cZ (P:=Tryz.prog) (c:=fun _=>none) (t:=125) (b:=b4) (off:=0) (k+64) rfl rfl rfl (by omega))
   rw [q6] at hx21
   refine r_v (Value.pointer (some ⟨b4,k+64,none⟩)) rfl rfl rfl hx21 ?_
   clear hx21
   refine r_s [(b4,125,CL (ofP h l (k+1))),(b2,125,CL (fun _=>false))] 0 _ _ _ (CL (upd (ofP h l (k)) (k) ((l).getLsbD (k)))) (#[Value.bool ((h).getLsbD (k))]) (CL (ofP h l (k+1))) rfl rfl rfl rfl (Sa rfl rfl _ _ (by omega)) ((Pc _ _ _).trans (gX h l k (by omega))) rfl ?_
   refine Ak ?_
   refine hK12 _ _ ?_;try clear hK12 K12
   refine Aa fun K13 hK13=> ?_
   refine Ag ?_
   refine r_v (U (l>>>(k))) rfl rfl rfl rfl ?_
   refine r_v (U (l>>>(k+1))) rfl rfl (((mD (l>>>(k)) (2#64)):_=U ((l>>>(k) / 2#64))).trans (congrArg U (ZE l k))) rfl ?_
   refine r_v (U (l>>>(k+1))) rfl rfl rfl rfl ?_
   refine Ak ?_
   refine hK13 _ _ ?_;try clear hK13 K13
   refine Ag ?_
   refine r_v (U (h>>>(k))) rfl rfl rfl rfl ?_
   refine r_v (U (h>>>(k+1))) rfl rfl (((mD (h>>>(k)) (2#64)):_=U ((h>>>(k) / 2#64))).trans (congrArg U (ZE h k))) rfl ?_
   refine r_v (U (h>>>(k+1))) rfl rfl rfl rfl ?_
   refine Ak ?_
   refine hK10 _ _ ?_;try clear hK10 K10
   refine Ag ?_
   refine r_v (Value.int .i64 (((k:Nat):Int))) rfl rfl rfl rfl ?_
   refine r_v (Value.int .i64 (((k+1:Nat):Int))) rfl rfl (Qu (by omega) (by omega) (by omega)) rfl ?_
   refine r_v (Value.int .i64 (((k+1:Nat):Int))) rfl rfl rfl rfl ?_
   refine Ak ?_
   refine fg _ (.of (List.Sublist.cons_cons _ (List.Sublist.cons_cons _ (List.Sublist.slnil)))) ?_
   exact⟨_,by omega,k+1,by omega,Af (rfl) (rfl),rfl⟩
  ·have hc9x:=of_decide_eq_false hc9
   refine AD ?_
   refine hK5 _ _ ?_;try clear hK5 K5
   refine Aa fun K14 hK14=> ?_
   refine Ag ?_
   refine r_l (Value.agg (CL (ofP h l (k)))) 0 _ _ _ _ rfl rfl rfl rfl (Yv rfl rfl rfl _) ?_
   refine r_s [(b4,125,CL (ofP h l (k))),(b2,125,CL (ofP h l (k)))] 1 _ _ _ (CL (fun _=>false)) (CL (ofP h l (k))) (CL (ofP h l (k))) rfl rfl rfl rfl (Xh rfl rfl _ _) (SR _ _) rfl ?_
   refine Ak ?_
   refine hK14 _ _ ?_;try clear hK14 K14
   refine Bi (fun hn=>Ec (v0:=Value.agg (CL (ofP h l (k)))) (gY h l (by omega) (by omega)) (Gj (AT hn 1 rfl rfl (Yv rfl rfl rfl _))))
end Go.Proofs.YthmpbldidnmenaaGreatDoor
