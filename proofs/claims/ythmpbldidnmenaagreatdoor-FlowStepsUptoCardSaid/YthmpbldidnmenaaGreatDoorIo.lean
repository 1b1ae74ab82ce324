import Derived.Test.YthmpbldidnmenaaGreatDoorRef
import Derived.Test.YthmpbldidnmenaaGreatDoorMd
import Derived.Test.YthmpbldidnmenaaGreatDoorSb
import Derived.Test.YthmpbldidnmenaaGreatDoorWord
import Derived.Lib.LaidTab
namespace Go.Proofs.YthmpbldidnmenaaGreatDoor
open Go Go.RowKit Go.Eng
set_option maxRecDepth 100000 in
set_option maxHeartbeats 400000 in
theorem qu(x:BitVec 128):Gives Tryz.prog 39 #[Value.agg (CL (BitVec.getLsbD (x)))] (Value.int .i64 (((len128 x:Nat):Int))):=by
 refine As follows Tryz.func39 rfl 13 rfl (upd (fun _=>undef) 0 (Value.agg (CL (BitVec.getLsbD (x))))) (by funext k;match k with|0=>rfl|k+1=>rfl) (fun base=> ?_)
 refine Aa fun K1 hK1=> ?_
 refine Ag ?_
 refine r_a (125,CL (BitVec.getLsbD (x))) rfl rfl rfl (fun b2=> ?_) (.inr rfl)
 refine r_v (Value.int .i64 (0)) rfl rfl rfl rfl ?_
 refine Ak ?_
 refine hK1 _ _ ?_;try clear hK1 K1
 refine Aa fun K3 hK3=> ?_
 refine Aa fun K4 hK4=> ?_
 refine Ag ?_
 refine r_v (Value.int .i64 (127)) rfl rfl rfl rfl ?_
 refine Ak ?_
 refine hK4 _ _ ?_;try clear hK4 K4
 refine Ah ?_
 refine AC (fun tt ll nn=> ∃(k:Nat),(k≤128)∧(∀j,k≤j→j<128→x.getLsbD j=false)∧Is [(0,Value.agg (CL (BitVec.getLsbD (x)))),(1,Value.pointer (some ⟨b2,0,none⟩)),(3,Value.int .i64 (((k:Nat):Int) - 1))] [(b2,125,CL (BitVec.getLsbD (x)))] tt ll∧nn=k+1) (128+1) ?_ ?_
 ·exact⟨128,by omega,fun j h1 h2=>by omega,Af (rfl) (rfl),rfl⟩
 ·rintro t l n ⟨k,hp0,hp1,⟨⟨T,rfl⟩,rfl⟩,rfl⟩
  refine Aa fun K5 hK5=> ?_
  refine Aa fun K6 hK6=> ?_
  refine Ag ?_
  refine r_v (Value.int .i64 (((k:Nat):Int) - 1)) rfl rfl rfl rfl ?_
  refine r_v (Value.bool (decide ((((k:Nat):Int) - 1:Int)≥0))) rfl rfl rfl rfl ?_
  refine Ak ?_
  refine hK6 _ _ ?_;try clear hK6 K6
  refine Bv (decide ((((k:Nat):Int) - 1:Int)≥0)) rfl (fun hc7=> ?_) (fun hc7=> ?_)
  ·have hc7x:=zd hc7
   obtain⟨m,rfl⟩: ∃m,k=m+1:=⟨k - 1,by omega⟩
   rw [show(((m+1:Nat):Int) - 1)=((m:Nat):Int)from by omega]
   refine Ab ?_
   refine hK5 _ _ ?_;try clear hK5 K5
   refine Aa fun K8 hK8=> ?_
   refine Ah ?_
   refine Aa fun K9 hK9=> ?_
   refine Ag ?_
   refine r_v (Value.int .i64 (((m:Nat):Int))) rfl rfl rfl rfl ?_
   have hx9:=ET (cZ (P:=Tryz.prog) (c:=fun _=>none) (t:=125) (b:=b2) (off:=0) (m) rfl rfl rfl (by omega))
   rw [q6] at hx9
   refine r_v (Value.pointer (some ⟨b2,m,none⟩)) rfl rfl rfl hx9 ?_
   clear hx9
   refine r_l (Value.bool ((x).getLsbD (m))) 0 _ _ _ _ rfl rfl rfl rfl (TG rfl _ (by omega)) ?_
   refine Ak ?_
   refine hK9 _ _ ?_;try clear hK9 K9
   refine Bv ((x).getLsbD (m)) rfl (fun hc10=> ?_) (fun hc10=> ?_)
   ·refine Aa fun K11 hK11=> ?_
    refine Ag ?_
    refine r_v (Value.int .i64 (((m:Nat):Int))) rfl rfl rfl rfl ?_
    refine r_v (Value.int .i64 (((m+1:Nat):Int))) rfl rfl (Qu (by omega) (by omega) (by omega)) rfl ?_
    refine r_v (Value.int .i64 (((m+1:Nat):Int))) rfl rfl rfl rfl ?_
    refine Ak ?_
    refine hK11 _ _ ?_;try clear hK11 K11
    refine Bi (fun hn=>Ec (v0:=Value.int .i64 (((m+1:Nat):Int))) (congrArg (fun z:Nat=>Value.int .i64 (z:Int)) (fy hc10 (fun j h1 h2=>hp1 j h1 h2))) (Gj rfl))
   ·refine Ab ?_
    refine hK8 _ _ ?_;try clear hK8 K8
    refine Ag ?_
    refine r_v (Value.int .i64 (((m:Nat):Int))) rfl rfl rfl rfl ?_
    refine r_v (Value.int .i64 ((((m:Nat):Int)) - (1))) rfl rfl (Qu (by omega) (by omega) (by omega)) rfl ?_
    refine r_v (Value.int .i64 ((((m:Nat):Int)) - (1))) rfl rfl rfl rfl ?_
    refine Ak ?_
    refine fg _ (.of (List.Sublist.cons_cons _ (List.Sublist.slnil))) ?_
    exact⟨_,by omega,m,by omega,fun j h1 h2=>by
   by_cases hj:j=m
   ·subst hj;exact hc10
   ·exact hp1 j (by omega) h2,Af (by first|rfl|(simp only [hc10,hc7];rfl)) (rfl),rfl⟩
  ·have hc7x:=of_decide_eq_false hc7
   refine AD ?_
   refine hK3 _ _ ?_;try clear hK3 K3
   refine Aa fun K12 hK12=> ?_
   refine Ag ?_
   refine r_v (Value.int .i64 (0)) rfl rfl rfl rfl ?_
   refine Ak ?_
   refine hK12 _ _ ?_;try clear hK12 K12
   refine Bi (fun hn=>Ec (v0:=Value.int .i64 (0)) (congrArg (fun z:Nat=>Value.int .i64 (z:Int)) (aa (fun j hj=>hp1 j (by omega) hj))) (Gj rfl))
end Go.Proofs.YthmpbldidnmenaaGreatDoor
namespace Go.Proofs.YthmpbldidnmenaaGreatDoor
open Go Go.RowKit Go.Eng
def EF(e:BitVec 128)(c:BitVec 64)(b:Int)(a:BitVec 64→BitVec 64→Int→Option ((BitVec 64)×(BitVec 64)))(d:BitVec 64):Option ((BitVec 64)×(BitVec 64)):=ck (0≤b∧b<128) (if((e).getLsbD ((b).toNat))=true then ck ((-9223372036854775808≤(b - 1)∧(b - 1)≤9223372036854775807)) (a (d) (((2#64*c)+1#64)) ((b - 1)))else ck ((-9223372036854775808≤(b - 1)∧(b - 1)≤9223372036854775807)) (a (d) ((2#64*c)) ((b - 1))))
def Br(r':BitVec 128):Nat→BitVec 64→BitVec 64→Int→Option ((BitVec 64)×(BitVec 64))
 |0,_,_,_=>none
 |n6+1,hi1_,lo2_,i3_=>if(i3_:Int)≥0 then ck ((-9223372036854775808≤(i3_+64)∧(i3_+64)≤9223372036854775807)) (ck (0≤(i3_+64)∧(i3_+64)<128) (if((r').getLsbD (((i3_+64)).toNat))=true then EF r' lo2_ i3_ (Br r' n6) (((2#64*hi1_)+1#64))else EF r' lo2_ i3_ (Br r' n6) ((2#64*hi1_))))else some (hi1_,lo2_)
def Hc(N:Nat)(a:BitVec 128):Option ((BitVec 64)×(BitVec 64)):=Br a N (0#64) (0#64) (63)
set_option maxRecDepth 100000 in
set_option maxHeartbeats 400000 in
theorem OW(N:Nat)(r':BitVec 128)(r:(BitVec 64)×(BitVec 64))(hM:Hc N r'=some r):Gives Tryz.prog 219 #[Value.agg (CL (BitVec.getLsbD (r')))] (Value.tuple #[U (r.1),U (r.2)]):=by
 unfold Hc at hM
 refine As follows Tryz.func219 rfl 28 rfl (upd (fun _=>undef) 0 (Value.agg (CL (BitVec.getLsbD (r'))))) (by funext k;match k with|0=>rfl|k+1=>rfl) (fun base0_=> ?_)
 refine Aa fun K1 hK1=> ?_
 refine Ag ?_
 refine r_a (125,CL (BitVec.getLsbD (r'))) rfl rfl rfl (fun b2=> ?_) (.inr rfl)
 refine r_v (U (0#64)) rfl rfl rfl rfl ?_
 refine r_v (U (0#64)) rfl rfl rfl rfl ?_
 refine Ak ?_
 refine hK1 _ _ ?_;try clear hK1 K1
 refine Aa fun K3 hK3=> ?_
 refine Ag ?_
 refine r_v (U (0#64)) rfl rfl rfl rfl ?_
 refine r_v (U (0#64)) rfl rfl rfl rfl ?_
 refine Ak ?_
 refine hK3 _ _ ?_;try clear hK3 K3
 refine Aa fun K4 hK4=> ?_
 refine Aa fun K5 hK5=> ?_
 refine Ag ?_
 refine r_v (Value.int .i64 (63)) rfl rfl rfl rfl ?_
 refine Ak ?_
 refine hK5 _ _ ?_;try clear hK5 K5
 refine Ah ?_
 refine AC (fun tt ll nn=> ∃(n6:Nat) (hi1_:BitVec 64) (lo2_:BitVec 64) (i3_:Int),(Br r' n6 hi1_ lo2_ i3_=some r)∧Is [(1,Value.pointer (some ⟨b2,0,none⟩)),(4,U (hi1_)),(5,U (lo2_)),(6,Value.int .i64 (i3_))] [(b2,125,CL (BitVec.getLsbD (r')))] tt ll∧nn=n6+1) (N+1) ?_ ?_
 ·exact⟨N,0#64,0#64,63,hM,Af rfl rfl,rfl⟩
 ·clear hM;rintro t l _ ⟨n6,hi1_,lo2_,i3_,hM,⟨⟨T,rfl⟩,rfl⟩,rfl⟩
  rcases n6 with _|n6
  ·exact absurd hM (by simp [Br])
  rw [Br] at hM
  refine Aa fun K7 hK7=> ?_
  refine Aa fun K8 hK8=> ?_
  refine Ag ?_
  refine r_v (Value.int .i64 (i3_)) rfl rfl rfl rfl ?_
  refine r_v (Value.bool (decide ((i3_:Int)≥0))) rfl rfl rfl rfl ?_
  refine Ak ?_
  refine hK8 _ _ ?_;try clear hK8 K8
  refine Bv (decide ((i3_:Int)≥0)) rfl (fun hc9=> ?_) (fun hc9=> ?_)
  ·replace hM:=ifp (zd hc9) hM
   refine Ab ?_
   refine hK7 _ _ ?_;try clear hK7 K7
   refine Aa fun K10 hK10=> ?_
   refine Ah ?_
   refine Aa fun K11 hK11=> ?_
   refine Ag ?_
   refine r_v (U (hi1_)) rfl rfl rfl rfl ?_
   refine r_v (U ((2#64*hi1_))) rfl rfl (VO (2#64) (hi1_)) rfl ?_
   refine r_v (U ((2#64*hi1_))) rfl rfl rfl rfl ?_
   refine Ak ?_
   refine hK11 _ _ ?_;try clear hK11 K11
   refine Aa fun K12 hK12=> ?_
   refine Ag ?_
   refine r_v (U (lo2_)) rfl rfl rfl rfl ?_
   refine r_v (U ((2#64*lo2_))) rfl rfl (VO (2#64) (lo2_)) rfl ?_
   refine r_v (U ((2#64*lo2_))) rfl rfl rfl rfl ?_
   refine Ak ?_
   refine hK12 _ _ ?_;try clear hK12 K12
   refine BR (fun tt ll=> ∃(hi5_:BitVec 64),(EF r' lo2_ i3_ (Br r' n6) hi5_=some r)∧Is [(1,Value.pointer (some ⟨b2,0,none⟩)),(4,U (hi5_)),(5,U ((2#64*lo2_))),(6,Value.int .i64 (i3_))] [(b2,125,CL (BitVec.getLsbD (r')))] tt ll) ?_ ?_
   ·refine Aa fun K19 hK19=> ?_
    refine Ag ?_
    refine r_v (Value.int .i64 (i3_)) rfl rfl rfl rfl ?_
    replace hM:=Hq hM;obtain⟨ck20,hM⟩:=hM
    refine r_v (Value.int .i64 ((i3_+64))) rfl rfl (Qu rfl ck20.1 ck20.2) rfl ?_
    replace hM:=Hq hM;obtain⟨ck21,hM⟩:=hM
    have hx22:=fun c=>ET (IS (P:=Tryz.prog) (c:=c) (t:=125) (b:=b2) (off:=0) (k:= .i64) rfl rfl rfl ck21)
    simp only [q6] at hx22
    have ck21n:((i3_+64)).toNat<128:=by omega
    refine r_v (Value.pointer (some ⟨b2,((i3_+64)).toNat,none⟩)) rfl rfl rfl (hx22 _) ?_
    refine r_l (Value.bool ((r').getLsbD (((i3_+64)).toNat))) 0 _ _ _ _ rfl rfl rfl rfl (TG rfl _ ck21n) ?_
    refine Ak ?_
    refine hK19 _ _ ?_;try clear hK19 K19
    refine Bv ((r').getLsbD (((i3_+64)).toNat)) rfl (fun hc23=> ?_) (fun hc23=> ?_)
    ·replace hM:=ifp hc23 hM
     refine Ag ?_
     refine r_v (U ((2#64*hi1_))) rfl rfl rfl rfl ?_
     refine r_v (U (((2#64*hi1_)+1#64))) rfl rfl (Ya ((2#64*hi1_)) (1#64)) rfl ?_
     refine r_v (U (((2#64*hi1_)+1#64))) rfl rfl rfl rfl ?_
     refine Ak ?_
     refine fg _ (Sub.of (List.Sublist.cons_cons _ (List.Sublist.slnil))) ?_
     exact⟨((2#64*hi1_)+1#64),hM,Af rfl rfl⟩
    ·replace hM:=ifn (Bool.eq_false_iff.1 hc23) hM
     refine Ab ?_
     refine fg _ (Sub.of (List.Sublist.cons_cons _ (List.Sublist.slnil))) ?_
     exact⟨(2#64*hi1_),hM,Af rfl rfl⟩
   ·clear hM;rintro t l ⟨hi5_,hM,⟨T,rfl⟩,rfl⟩
    unfold EF at hM
    refine Aa fun K13 hK13=> ?_
    refine Ag ?_
    refine r_v (Value.int .i64 (i3_)) rfl rfl rfl rfl ?_
    replace hM:=Hq hM;obtain⟨ck14,hM⟩:=hM
    have hx15:=fun c=>ET (IS (P:=Tryz.prog) (c:=c) (t:=125) (b:=b2) (off:=0) (k:= .i64) rfl rfl rfl ck14)
    simp only [q6] at hx15
    have ck14n:(i3_).toNat<128:=by omega
    refine r_v (Value.pointer (some ⟨b2,(i3_).toNat,none⟩)) rfl rfl rfl (hx15 _) ?_
    refine r_l (Value.bool ((r').getLsbD ((i3_).toNat))) 0 _ _ _ _ rfl rfl rfl rfl (TG rfl _ ck14n) ?_
    refine Ak ?_
    refine hK13 _ _ ?_;try clear hK13 K13
    refine Bv ((r').getLsbD ((i3_).toNat)) rfl (fun hc16=> ?_) (fun hc16=> ?_)
    ·replace hM:=ifp hc16 hM
     refine Ag ?_
     refine r_v (U ((2#64*lo2_))) rfl rfl rfl rfl ?_
     refine r_v (U (((2#64*lo2_)+1#64))) rfl rfl (Ya ((2#64*lo2_)) (1#64)) rfl ?_
     refine r_v (U (((2#64*lo2_)+1#64))) rfl rfl rfl rfl ?_
     refine Ak ?_
     refine hK10 _ _ ?_;try clear hK10 K10
     refine Ag ?_
     refine r_v (Value.int .i64 (i3_)) rfl rfl rfl rfl ?_
     replace hM:=Hq hM;obtain⟨ck17,hM⟩:=hM
     refine r_v (Value.int .i64 ((i3_ - 1))) rfl rfl (Qu rfl ck17.1 ck17.2) rfl ?_
     refine r_v (Value.int .i64 ((i3_ - 1))) rfl rfl rfl rfl ?_
     refine Ak ?_
     refine fg _ (Sub.of (List.Sublist.cons_cons _ (List.Sublist.slnil))) ?_
     exact⟨n6+1,by omega,n6,hi5_,((2#64*lo2_)+1#64),(i3_ - 1),hM,Af rfl rfl,rfl⟩
    ·replace hM:=ifn (Bool.eq_false_iff.1 hc16) hM
     refine Ab ?_
     refine hK10 _ _ ?_;try clear hK10 K10
     refine Ag ?_
     refine r_v (Value.int .i64 (i3_)) rfl rfl rfl rfl ?_
     replace hM:=Hq hM;obtain⟨ck18,hM⟩:=hM
     refine r_v (Value.int .i64 ((i3_ - 1))) rfl rfl (Qu rfl ck18.1 ck18.2) rfl ?_
     refine r_v (Value.int .i64 ((i3_ - 1))) rfl rfl rfl rfl ?_
     refine Ak ?_
     refine fg _ (Sub.of (List.Sublist.cons_cons _ (List.Sublist.slnil))) ?_
     exact⟨n6+1,by omega,n6,hi5_,(2#64*lo2_),(i3_ - 1),hM,Af rfl rfl,rfl⟩
  ·replace hM:=ifn (of_decide_eq_false hc9) hM
   refine AD ?_
   refine hK4 _ _ ?_;try clear hK4 K4
   refine Aa fun K24 hK24=> ?_
   refine Ag ?_
   refine r_v (U (hi1_)) rfl rfl rfl rfl ?_
   refine r_v (U (lo2_)) rfl rfl rfl rfl ?_
   refine r_v (U (hi1_)) rfl rfl rfl rfl ?_
   refine r_v (U (lo2_)) rfl rfl rfl rfl ?_
   refine Ak ?_
   refine hK24 _ _ ?_;try clear hK24 K24
   obtain rfl:=q1 hM
   refine Bi (fun hn=>Ec (v0:=Value.tuple #[U (hi1_),U (lo2_)]) rfl (Jz rfl rfl))
end Go.Proofs.YthmpbldidnmenaaGreatDoor
namespace Go.Proofs.YthmpbldidnmenaaGreatDoor
open Go Go.RowKit Go.Eng
theorem aJ(x:BitVec 128): ∀(i f:Nat) (h l:BitVec 64),i≤64→i<f→h.toNat=(hi x).toNat / 2^i→l.toNat=(lo x).toNat / 2^i→
  Br x f h l ((i:Int) - 1)=some (hi x,lo x):=by
 intro i
 induction i with
 |zero=>
  intro f h l _ hf hh hl
  obtain⟨f,rfl⟩: ∃k,f=k+1:=⟨f - 1,by omega⟩
  rw [Br,if_neg (by omega)]
  have e1:h=hi x:=BitVec.eq_of_toNat_eq (by simpa using hh)
  have e2:l=lo x:=BitVec.eq_of_toNat_eq (by simpa using hl)
  rw [e1,e2]
 |succ i ih=>
  intro f h l hi64 hf hh hl
  obtain⟨f,rfl⟩: ∃k,f=k+1:=⟨f - 1,by omega⟩
  have ei:((i+1:Nat):Int) - 1=(i:Int):=by omega
  rw [ei,Br,if_pos (by omega),Am _ (by omega),Am _ (by omega)]
  have en:((i:Int)+64).toNat=64+i:=by omega
  have bh:x.getLsbD (64+i)=(hi x).getLsbD i:=by unfold hi;rw [BitVec.getLsbD_extractLsb'];simp;intro;omega
  have bl:x.getLsbD i=(lo x).getLsbD i:=by unfold lo;rw [BitVec.getLsbD_extractLsb'];simp;intro;omega
  have step: ∀(y z:BitVec 64),z.toNat=y.toNat / 2^(i+1)→(2#64*z+(if y.getLsbD i then 1#64 else 0#64)).toNat=y.toNat / 2^i:=by
   intro y z hz
   have h1:y.getLsbD i=decide (y.toNat / 2^i%2=1):=by rw [←BitVec.testBit_toNat,Nat.testBit_eq_decide_div_mod_eq]
   have h2:y.toNat / 2^(i+1)=y.toNat / 2^i / 2:=by rw [Nat.pow_succ,Nat.div_div_eq_div_mul]
   have h3:y.toNat / 2^i≤y.toNat:=Nat.div_le_self _ _
   have h4:=y.isLt
   rw [BitVec.toNat_add,BitVec.toNat_mul,hz,h2,h1]
   generalize y.toNat / 2^i=q at*
   by_cases hq:q%2=1
   ·simp [hq];omega
   ·simp [hq];omega
  have sh:=step _ _ hh
  have sl:=step _ _ hl
  rw [en,bh]
  have fin: ∀h':BitVec 64,h'.toNat=(hi x).toNat / 2^i→EF x l (i:Int) (Br x f) h'=some (hi x,lo x):=by
   intro h' hh'
   unfold EF
   rw [Am _ (by omega),q3,bl]
   cases hb:(lo x).getLsbD i
   ·rw [if_neg (by decide),Am _ (by omega)]
    rw [hb] at sl
    exact ih f h' (2#64*l) (by omega) (by omega) hh' (by simpa using sl)
   ·rw [if_pos rfl,Am _ (by omega)]
    rw [hb] at sl
    exact ih f h' (2#64*l+1#64) (by omega) (by omega) hh' (by simpa using sl)
  cases hb:(hi x).getLsbD i
  ·rw [if_neg (by decide)];rw [hb] at sh;exact fin _ (by simpa using sh)
  ·rw [if_pos rfl];rw [hb] at sh;exact fin _ (by simpa using sh)
theorem iV(N:Nat)(x:BitVec 128)(hN:64<N):Hc N x=some (hi x,lo x):=by
 unfold Hc
 have:=aJ x 64 N 0#64 0#64 (by omega) hN (by
  have:=(hi x).isLt
  rw [Nat.div_eq_of_lt this];rfl) (by
  have:=(lo x).isLt
  rw [Nat.div_eq_of_lt this];rfl)
 exact this
end Go.Proofs.YthmpbldidnmenaaGreatDoor
namespace Go.Proofs.YthmpbldidnmenaaGreatDoor
open Go Go.RowKit Go.Eng
theorem iU(x:BitVec 128):Gives Tryz.prog 219 #[Value.agg (CL (BitVec.getLsbD (x)))] (Value.tuple #[U (hi (x)),U (lo (x))]):=OW 65 x _ (iV 65 x (by omega))
end Go.Proofs.YthmpbldidnmenaaGreatDoor
namespace Go.Proofs.YthmpbldidnmenaaGreatDoor
open Go Go.RowKit Go.Eng
def ta(_:World):Prop:=True
def sY(_:World):Prop:=True
def Gg:List Int:=[8,8,8,1,8,1,16,8]
def sX(w:World):Prop:=Lib.TabIs Tryz.prog w "shunter/image.metaWidths" .i64 Gg
def sZ(_:World):Prop:=True
def GC(w:World):Prop:=sZ w∧ta w∧sY w∧sX w
theorem Qz{w:World}(h:GC w)(i:Nat)(hi:i<8):w.cell? ⟨0,i,none⟩=some (.int .i64 (Gg[i]!)):=by
 rw [World.var?_cell (n:= "shunter/image.metaWidths") (by kernel_rfl) h.2.2.2 i]
 match i,hi with
 |0,_=>rfl|1,_=>rfl|2,_=>rfl|3,_=>rfl|4,_=>rfl|5,_=>rfl|6,_=>rfl|7,_=>rfl
theorem fZ{P:Program}{w w':World}{name:String}{cs:Array Value}(h:w.var? P name=some cs)(hk: ∀k,k<w.heap.size→w'.heap[k]? =w.heap[k]?):w'.var? P name=some cs:=by
 unfold World.var? at h ⊢
 cases hg:P.globalNamed name with
 |none=>simp [hg] at h
 |some g=>
  simp only [hg,q0] at h ⊢
  rcases Nat.lt_or_ge g w.heap.size with h1|h1
  ·rw [hk g h1];exact h
  ·rw [Array.getElem?_eq_none h1] at h;cases h
theorem Be(w w':World)(h:GC w)(hk:Kept w.heap.size (([]:List Bl).map (·.1)) w w'):GC w':=by
 obtain⟨h1,h2,h3,h4⟩:=h
 have hb: ∀k,k<w.heap.size→w'.heap[k]? =w.heap[k]?:=fun k hlt=>hk.block k hlt (by simp)
 refine⟨?_, ?_, ?_, ?_⟩
 ·exact h1
 ·exact h2
 ·exact h3
 ·exact fZ h4 hb
section
variable {E:Env} {g:Bool} {ops:Array Oper} {K:(Nat→Value)→List Bl→Prop} {r:List Oper} {T:Nat→Value} {l:List Bl} {m:Nat} {d:Tmp} {ty:TypeId} {pos:String} {af:Array Edge}
theorem rW{b o:Nat}{e:TypeId}{p:Operand}(v0:Value)(hd:decide (d<E.n)=true)(hk:E.ks.find? (fun x=>x.1==some d)=some (some d,false))(hm:decide (m≤l.length)=true)
  (hp:rd T p= .pointer (some ⟨b,o,none⟩)) (hv:GG E.P e #[v0] 0=some v0) (hi: ∀w,E.inv w→w.cell? ⟨b,o,none⟩=some v0)
  (hcon: ∀args view v L U,E.con ⟨some d, .load e p,ty,pos,af,none⟩ args view v L U↔pV v0 v L U)
  (h:lx E g ops K r (upd T d v0) l m):lx E g ops K (⟨some d, .load e p,ty,pos,af,none⟩::r) T l m:=by
 refine r_g false (pV v0) hd hk rfl hm (fun hnd own nw hse=> ?_) (fun v L U hpv=> ?_)
 ·have hco:Ab6 E ⟨T,own,nw⟩ ⟨some d, .load e p,ty,pos,af,none⟩=pV v0:=by
   funext v L U;exact propext (hcon _ _ v L U)
  refine⟨⟨?_, ?_, ?_, ?_, ?_⟩, ?_⟩
  ·rw [hco];exact fun _=>(Sv v0).wit
  ·rw [hco];exact fun v L U hpv=>⟨((Sv v0).nod v L U hpv).1,by rw [((Sv v0).nod v L U hpv).2];exact List.nodup_nil⟩
  ·rw [hco];intro v L U hpv x hx;rw [((Sv v0).nod v L U hpv).2] at hx;cases hx
  ·rw [hco];exact fun _ v L U hpv=>((Sv v0).nod v L U hpv).2
  ·rw [hco]
   intro w hbase _ _
   have h1:ev E.P w.cell? (execOp (rd T) ⟨some d, .load e p,ty,pos,af,none⟩)=some (.value v0):=
    TF hp (by
     have:=Zc (P:=E.P) (c:=w.cell?) (b:=b) (off:=o) (o:=0) (ty:=e) (vs:=[v0]) (v:=v0) (fun j u hj=>by
      cases j with
      |zero=>simp only [List.getElem?_cons_zero,Option.some.injEq] at hj;subst hj;exact hi w hbase.2
      |succ j=>simp at hj) hv
     rwa [Nat.add_zero] at this)
   exact .inl ⟨v0,w,[],[],Ra (fun _ _ h=>h) _ _ h1,⟨rfl,rfl,rfl,Nat.le_refl _,fun _ _ _=>rfl,fun _ h=>(nomatch h),fun _ h=>(nomatch h),Nat.le_refl _⟩,rfl,rfl,rfl⟩
  ·rw [hco];exact fun v L U hpv=>hpv
 ·obtain⟨rfl,rfl,rfl⟩:=hpv
  refine⟨l,fun _=>PutU.nil _, ?_⟩
  rw [List.append_nil];exact h
end
end Go.Proofs.YthmpbldidnmenaaGreatDoor
