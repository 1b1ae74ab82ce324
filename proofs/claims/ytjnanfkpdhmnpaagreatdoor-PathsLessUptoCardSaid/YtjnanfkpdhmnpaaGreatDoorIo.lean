import Derived.Test.YtjnanfkpdhmnpaaGreatDoorRef
import Derived.Test.YtjnanfkpdhmnpaaGreatDoorMd
import Derived.Test.YtjnanfkpdhmnpaaGreatDoorSb
import Derived.Lib.LaidTab
namespace Go.Proofs.YtjnanfkpdhmnpaaGreatDoor
open Go Go.RowKit Go.Eng
set_option maxRecDepth 100000 in
set_option maxHeartbeats 400000 in
theorem vJ(x:W3):Gives Tryz.prog 190 #[Value.agg (Dm (BitVec.getLsbD (x)))] (Value.int .i64 (((len128 x:Nat):Int))):=by
 refine Au follows Tryz.func190 Z 13 Z (upd (λ_=>undef) 0 (Value.agg (Dm (BitVec.getLsbD (x))))) (by funext k;match k with|0=>rfl|k+1=>rfl) (λbase=> ?_)
 refine Aa λK1 hK1=> ?_
 refine Ah ?_
 refine r_a (287,Dm (BitVec.getLsbD (x))) Z Z Z (λb2=> ?_) (.inr Z)
 refine r_v (Value.int .i64 (0)) Z Z Z Z ?_
 refine Aj ?_
 refine hK1 _ _ ?_;try clear hK1 K1
 refine Aa λK3 hK3=> ?_
 refine Aa λK4 hK4=> ?_
 refine Ah ?_
 refine r_v (Value.int .i64 (127)) Z Z Z Z ?_
 refine Aj ?_
 refine hK4 _ _ ?_;try clear hK4 K4
 refine Ai ?_
 refine AL (λtt ll nn=> ∃(k:Nat),(k<=128)/\(∀j,k<=j->j<128->x.getLsbD j=false)/\Is [(0,Value.agg (Dm (BitVec.getLsbD (x)))),(1,V7 (some ⟨b2,0,none⟩)),(3,Value.int .i64 (((k:Nat):Int) - 1))] [(b2,287,Dm (BitVec.getLsbD (x)))] tt ll/\nn=k+1) (128+1) ?_ ?_
 ·exact⟨128,by omega,λj h1 h2=>by omega,Ag (Z) (Z),Z⟩
 ·rintro t l n ⟨k,hp0,hp1,⟨⟨T,rfl⟩,rfl⟩,rfl⟩
  refine Aa λK5 hK5=> ?_
  refine Aa λK6 hK6=> ?_
  refine Ah ?_
  refine r_v (Value.int .i64 (((k:Nat):Int) - 1)) Z Z Z Z ?_
  refine r_v (Value.bool (decide ((((k:Nat):Int) - 1:Int)>=0))) Z Z Z Z ?_
  refine Aj ?_
  refine hK6 _ _ ?_;try clear hK6 K6
  refine BS (decide ((((k:Nat):Int) - 1:Int)>=0)) Z (λhc7=> ?_) (λhc7=> ?_)
  ·have hc7x:=zj hc7
   obtain⟨m,rfl⟩: ∃m,k=m+1:=⟨k - 1,by omega⟩
   rw [show(((m+1:Nat):Int) - 1)=((m:Nat):Int)from by omega]
   refine Ac ?_
   refine hK5 _ _ ?_;try clear hK5 K5
   refine Aa λK8 hK8=> ?_
   refine Ai ?_
   refine Aa λK9 hK9=> ?_
   refine Ah ?_
   refine r_v (Value.int .i64 (((m:Nat):Int))) Z Z Z Z ?_
   have hx9:=GV (gi (P:=Tryz.prog) (c:=λ_=>none) (t:=287) (b:=b2) (off:=0) (m) Z Z Z (by omega))
   rw [q7] at hx9
   refine r_v (V7 (some ⟨b2,m,none⟩)) Z Z Z hx9 ?_
   clear hx9
   refine r_l (Value.bool ((x).getLsbD (m))) 0 _ _ _ _ Z Z Z Z (Vk Z _ (by omega)) ?_
   refine Aj ?_
   refine hK9 _ _ ?_;try clear hK9 K9
   refine BS ((x).getLsbD (m)) Z (λhc10=> ?_) (λhc10=> ?_)
   ·refine Aa λK11 hK11=> ?_
    refine Ah ?_
    refine r_v (Value.int .i64 (((m:Nat):Int))) Z Z Z Z ?_
    refine r_v (Value.int .i64 (((m+1:Nat):Int))) Z Z (RU (by omega) (by omega) (by omega)) Z ?_
    refine r_v (Value.int .i64 (((m+1:Nat):Int))) Z Z Z Z ?_
    refine Aj ?_
    refine hK11 _ _ ?_;try clear hK11 K11
    refine AU (λhn=>EH (v0:=Value.int .i64 (((m+1:Nat):Int))) (congrArg (λz:Nat=>Value.int .i64 (z:Int)) (jZ hc10 (λj h1 h2=>hp1 j h1 h2))) (Gl Z))
   ·refine Ac ?_
    refine hK8 _ _ ?_;try clear hK8 K8
    refine Ah ?_
    refine r_v (Value.int .i64 (((m:Nat):Int))) Z Z Z Z ?_
    refine r_v (Value.int .i64 ((((m:Nat):Int)) - (1))) Z Z (RU (by omega) (by omega) (by omega)) Z ?_
    refine r_v (Value.int .i64 ((((m:Nat):Int)) - (1))) Z Z Z Z ?_
    refine Aj ?_
    refine fg _ (.of (List.Sublist.cons_cons _ (List.Sublist.slnil))) ?_
    exact⟨_,by omega,m,by omega,λj h1 h2=>by
   by_cases hj:j=m
   ·subst hj;exact hc10
   ·exact hp1 j (by omega) h2,Ag (by first|rfl|(simp only [hc10,hc7];rfl)) (Z),Z⟩
  ·have hc7x:=of_decide_eq_false hc7
   refine AM ?_
   refine hK3 _ _ ?_;try clear hK3 K3
   refine Aa λK12 hK12=> ?_
   refine Ah ?_
   refine r_v (Value.int .i64 (0)) Z Z Z Z ?_
   refine Aj ?_
   refine hK12 _ _ ?_;try clear hK12 K12
   refine AU (λhn=>EH (v0:=Value.int .i64 (0)) (congrArg (λz:Nat=>Value.int .i64 (z:Int)) (cL (λj hj=>hp1 j (by omega) hj))) (Gl Z))
end Go.Proofs.YtjnanfkpdhmnpaaGreatDoor
namespace Go.Proofs.YtjnanfkpdhmnpaaGreatDoor
open Go Go.RowKit Go.Eng
def Fk(e:W3)(c:W4)(b:Int)(a:W4->W4->Int->Y1 ((W4)×(W4)))(d:W4):Y1 ((W4)×(W4)):=ck (0<=b/\b<128) (if((e).getLsbD ((b).toNat))=true then ck ((-9223372036854775808<=(b - 1)/\(b - 1)<=9223372036854775807)) (a (d) (((2#64*c)+1#64)) ((b - 1)))else ck ((-9223372036854775808<=(b - 1)/\(b - 1)<=9223372036854775807)) (a (d) ((2#64*c)) ((b - 1))))
def BL(r':W3):Nat->W4->W4->Int->Y1 ((W4)×(W4))
 |0,_,_,_=>none
 |n6+1,hi1_,lo2_,i3_=>if(i3_:Int)>=0 then ck ((-9223372036854775808<=(i3_+64)/\(i3_+64)<=9223372036854775807)) (ck (0<=(i3_+64)/\(i3_+64)<128) (if((r').getLsbD (((i3_+64)).toNat))=true then Fk r' lo2_ i3_ (BL r' n6) (((2#64*hi1_)+1#64))else Fk r' lo2_ i3_ (BL r' n6) ((2#64*hi1_))))else some (hi1_,lo2_)
def Ir(N:Nat)(a:W3):Y1 ((W4)×(W4)):=BL a N (0#64) (0#64) (63)
set_option maxRecDepth 100000 in
set_option maxHeartbeats 400000 in
theorem QP(N:Nat)(r':W3)(r:(W4)×(W4))(hM:Ir N r'=some r):Gives Tryz.prog 233 #[Value.agg (Dm (BitVec.getLsbD (r')))] (Value.tuple #[U (r.1),U (r.2)]):=by
 unfold Ir at hM
 refine Au follows Tryz.func233 Z 28 Z (upd (λ_=>undef) 0 (Value.agg (Dm (BitVec.getLsbD (r'))))) (by funext k;match k with|0=>rfl|k+1=>rfl) (λbase0_=> ?_)
 refine Aa λK1 hK1=> ?_
 refine Ah ?_
 refine r_a (287,Dm (BitVec.getLsbD (r'))) Z Z Z (λb2=> ?_) (.inr Z)
 refine r_v (U (0#64)) Z Z Z Z ?_
 refine r_v (U (0#64)) Z Z Z Z ?_
 refine Aj ?_
 refine hK1 _ _ ?_;try clear hK1 K1
 refine Aa λK3 hK3=> ?_
 refine Ah ?_
 refine r_v (U (0#64)) Z Z Z Z ?_
 refine r_v (U (0#64)) Z Z Z Z ?_
 refine Aj ?_
 refine hK3 _ _ ?_;try clear hK3 K3
 refine Aa λK4 hK4=> ?_
 refine Aa λK5 hK5=> ?_
 refine Ah ?_
 refine r_v (Value.int .i64 (63)) Z Z Z Z ?_
 refine Aj ?_
 refine hK5 _ _ ?_;try clear hK5 K5
 refine Ai ?_
 refine AL (λtt ll nn=> ∃(n6:Nat) (hi1_:W4) (lo2_:W4) (i3_:Int),(BL r' n6 hi1_ lo2_ i3_=some r)/\Is [(1,V7 (some ⟨b2,0,none⟩)),(4,U (hi1_)),(5,U (lo2_)),(6,Value.int .i64 (i3_))] [(b2,287,Dm (BitVec.getLsbD (r')))] tt ll/\nn=n6+1) (N+1) ?_ ?_
 ·exact⟨N,0#64,0#64,63,hM,Ag Z Z,Z⟩
 ·clear hM;rintro t l _ ⟨n6,hi1_,lo2_,i3_,hM,⟨⟨T,rfl⟩,rfl⟩,rfl⟩
  rcases n6 with _|n6
  ·exact absurd hM (by simp [BL])
  rw [BL] at hM
  refine Aa λK7 hK7=> ?_
  refine Aa λK8 hK8=> ?_
  refine Ah ?_
  refine r_v (Value.int .i64 (i3_)) Z Z Z Z ?_
  refine r_v (Value.bool (decide ((i3_:Int)>=0))) Z Z Z Z ?_
  refine Aj ?_
  refine hK8 _ _ ?_;try clear hK8 K8
  refine BS (decide ((i3_:Int)>=0)) Z (λhc9=> ?_) (λhc9=> ?_)
  ·replace hM:=ifp (zj hc9) hM
   refine Ac ?_
   refine hK7 _ _ ?_;try clear hK7 K7
   refine Aa λK10 hK10=> ?_
   refine Ai ?_
   refine Aa λK11 hK11=> ?_
   refine Ah ?_
   refine r_v (U (hi1_)) Z Z Z Z ?_
   refine r_v (U ((2#64*hi1_))) Z Z (XA (2#64) (hi1_)) Z ?_
   refine r_v (U ((2#64*hi1_))) Z Z Z Z ?_
   refine Aj ?_
   refine hK11 _ _ ?_;try clear hK11 K11
   refine Aa λK12 hK12=> ?_
   refine Ah ?_
   refine r_v (U (lo2_)) Z Z Z Z ?_
   refine r_v (U ((2#64*lo2_))) Z Z (XA (2#64) (lo2_)) Z ?_
   refine r_v (U ((2#64*lo2_))) Z Z Z Z ?_
   refine Aj ?_
   refine hK12 _ _ ?_;try clear hK12 K12
   refine Cs (λtt ll=> ∃(hi5_:W4),(Fk r' lo2_ i3_ (BL r' n6) hi5_=some r)/\Is [(1,V7 (some ⟨b2,0,none⟩)),(4,U (hi5_)),(5,U ((2#64*lo2_))),(6,Value.int .i64 (i3_))] [(b2,287,Dm (BitVec.getLsbD (r')))] tt ll) ?_ ?_
   ·refine Aa λK19 hK19=> ?_
    refine Ah ?_
    refine r_v (Value.int .i64 (i3_)) Z Z Z Z ?_
    replace hM:=LN hM;obtain⟨ck20,hM⟩:=hM
    refine r_v (Value.int .i64 ((i3_+64))) Z Z (RU Z ck20.1 ck20.2) Z ?_
    replace hM:=LN hM;obtain⟨ck21,hM⟩:=hM
    have hx22:=λc=>GV (Tw (P:=Tryz.prog) (c:=c) (t:=287) (b:=b2) (off:=0) (k:= .i64) Z Z Z ck21)
    simp only [q7] at hx22
    have ck21n:((i3_+64)).toNat<128:=by omega
    refine r_v (V7 (some ⟨b2,((i3_+64)).toNat,none⟩)) Z Z Z (hx22 _) ?_
    refine r_l (Value.bool ((r').getLsbD (((i3_+64)).toNat))) 0 _ _ _ _ Z Z Z Z (Vk Z _ ck21n) ?_
    refine Aj ?_
    refine hK19 _ _ ?_;try clear hK19 K19
    refine BS ((r').getLsbD (((i3_+64)).toNat)) Z (λhc23=> ?_) (λhc23=> ?_)
    ·replace hM:=ifp hc23 hM
     refine Ah ?_
     refine r_v (U ((2#64*hi1_))) Z Z Z Z ?_
     refine r_v (U (((2#64*hi1_)+1#64))) Z Z (ZH ((2#64*hi1_)) (1#64)) Z ?_
     refine r_v (U (((2#64*hi1_)+1#64))) Z Z Z Z ?_
     refine Aj ?_
     refine fg _ (Sub.of (List.Sublist.cons_cons _ (List.Sublist.slnil))) ?_
     exact⟨((2#64*hi1_)+1#64),hM,Ag Z Z⟩
    ·replace hM:=ifn (Bool.eq_false_iff.1 hc23) hM
     refine Ac ?_
     refine fg _ (Sub.of (List.Sublist.cons_cons _ (List.Sublist.slnil))) ?_
     exact⟨(2#64*hi1_),hM,Ag Z Z⟩
   ·clear hM;rintro t l ⟨hi5_,hM,⟨T,rfl⟩,rfl⟩
    unfold Fk at hM
    refine Aa λK13 hK13=> ?_
    refine Ah ?_
    refine r_v (Value.int .i64 (i3_)) Z Z Z Z ?_
    replace hM:=LN hM;obtain⟨ck14,hM⟩:=hM
    have hx15:=λc=>GV (Tw (P:=Tryz.prog) (c:=c) (t:=287) (b:=b2) (off:=0) (k:= .i64) Z Z Z ck14)
    simp only [q7] at hx15
    have ck14n:(i3_).toNat<128:=by omega
    refine r_v (V7 (some ⟨b2,(i3_).toNat,none⟩)) Z Z Z (hx15 _) ?_
    refine r_l (Value.bool ((r').getLsbD ((i3_).toNat))) 0 _ _ _ _ Z Z Z Z (Vk Z _ ck14n) ?_
    refine Aj ?_
    refine hK13 _ _ ?_;try clear hK13 K13
    refine BS ((r').getLsbD ((i3_).toNat)) Z (λhc16=> ?_) (λhc16=> ?_)
    ·replace hM:=ifp hc16 hM
     refine Ah ?_
     refine r_v (U ((2#64*lo2_))) Z Z Z Z ?_
     refine r_v (U (((2#64*lo2_)+1#64))) Z Z (ZH ((2#64*lo2_)) (1#64)) Z ?_
     refine r_v (U (((2#64*lo2_)+1#64))) Z Z Z Z ?_
     refine Aj ?_
     refine hK10 _ _ ?_;try clear hK10 K10
     refine Ah ?_
     refine r_v (Value.int .i64 (i3_)) Z Z Z Z ?_
     replace hM:=LN hM;obtain⟨ck17,hM⟩:=hM
     refine r_v (Value.int .i64 ((i3_ - 1))) Z Z (RU Z ck17.1 ck17.2) Z ?_
     refine r_v (Value.int .i64 ((i3_ - 1))) Z Z Z Z ?_
     refine Aj ?_
     refine fg _ (Sub.of (List.Sublist.cons_cons _ (List.Sublist.slnil))) ?_
     exact⟨n6+1,by omega,n6,hi5_,((2#64*lo2_)+1#64),(i3_ - 1),hM,Ag Z Z,Z⟩
    ·replace hM:=ifn (Bool.eq_false_iff.1 hc16) hM
     refine Ac ?_
     refine hK10 _ _ ?_;try clear hK10 K10
     refine Ah ?_
     refine r_v (Value.int .i64 (i3_)) Z Z Z Z ?_
     replace hM:=LN hM;obtain⟨ck18,hM⟩:=hM
     refine r_v (Value.int .i64 ((i3_ - 1))) Z Z (RU Z ck18.1 ck18.2) Z ?_
     refine r_v (Value.int .i64 ((i3_ - 1))) Z Z Z Z ?_
     refine Aj ?_
     refine fg _ (Sub.of (List.Sublist.cons_cons _ (List.Sublist.slnil))) ?_
     exact⟨n6+1,by omega,n6,hi5_,(2#64*lo2_),(i3_ - 1),hM,Ag Z Z,Z⟩
  ·replace hM:=ifn (of_decide_eq_false hc9) hM
   refine AM ?_
   refine hK4 _ _ ?_;try clear hK4 K4
   refine Aa λK24 hK24=> ?_
   refine Ah ?_
   refine r_v (U (hi1_)) Z Z Z Z ?_
   refine r_v (U (lo2_)) Z Z Z Z ?_
   refine r_v (U (hi1_)) Z Z Z Z ?_
   refine r_v (U (lo2_)) Z Z Z Z ?_
   refine Aj ?_
   refine hK24 _ _ ?_;try clear hK24 K24
   obtain rfl:=q3 hM
   refine AU (λhn=>EH (v0:=Value.tuple #[U (hi1_),U (lo2_)]) Z (Jg Z Z))
end Go.Proofs.YtjnanfkpdhmnpaaGreatDoor
namespace Go.Proofs.YtjnanfkpdhmnpaaGreatDoor
open Go Go.RowKit Go.Eng
theorem dq(x:W3): ∀(i f:Nat) (h l:W4),i<=64->i<f->h.toNat=(hi x).toNat / 2^i->l.toNat=(lo x).toNat / 2^i->
  BL x f h l ((i:Int) - 1)=some (hi x,lo x):=by
 intro i
 induction i with
 |zero=>
  intro f h l _ hf hh hl
  obtain⟨f,rfl⟩: ∃k,f=k+1:=⟨f - 1,by omega⟩
  rw [BL,V9 (by omega)]
  have e1:h=hi x:=BitVec.eq_of_toNat_eq (by simpa using hh)
  have e2:l=lo x:=BitVec.eq_of_toNat_eq (by simpa using hl)
  rw [e1,e2]
 |succ i ih=>
  intro f h l hi64 hf hh hl
  obtain⟨f,rfl⟩: ∃k,f=k+1:=⟨f - 1,by omega⟩
  have ei:((i+1:Nat):Int) - 1=(i:Int):=by omega
  rw [ei,BL,V8 (by omega),Af _ (by omega),Af _ (by omega)]
  have en:((i:Int)+64).toNat=64+i:=by omega
  have bh:x.getLsbD (64+i)=(hi x).getLsbD i:=by unfold hi;rw [BitVec.getLsbD_extractLsb'];simp;intro;omega
  have bl:x.getLsbD i=(lo x).getLsbD i:=by unfold lo;rw [BitVec.getLsbD_extractLsb'];simp;intro;omega
  have step: ∀(y z:W4),z.toNat=y.toNat / 2^(i+1)->(2#64*z+(if y.getLsbD i then 1#64 else 0#64)).toNat=y.toNat / 2^i:=by
   intro y z hz
   have h1:y.getLsbD i=decide (y.toNat / 2^i%2=1):=by rw [<-BitVec.testBit_toNat,Nat.testBit_eq_decide_div_mod_eq]
   have h2:y.toNat / 2^(i+1)=y.toNat / 2^i / 2:=by rw [Nat.pow_succ,Nat.div_div_eq_div_mul]
   have h3:y.toNat / 2^i<=y.toNat:=Nat.div_le_self _ _
   have h4:=y.isLt
   rw [BitVec.toNat_add,BitVec.toNat_mul,hz,h2,h1]
   generalize y.toNat / 2^i=q at*
   by_cases hq:q%2=1
   ·simp [hq];omega
   ·simp [hq];omega
  have sh:=step _ _ hh
  have sl:=step _ _ hl
  rw [en,bh]
  have fin: ∀h':W4,h'.toNat=(hi x).toNat / 2^i->Fk x l (i:Int) (BL x f) h'=some (hi x,lo x):=by
   intro h' hh'
   unfold Fk
   rw [Af _ (by omega),q4,bl]
   cases hb:(lo x).getLsbD i
   ·rw [V9 (by decide),Af _ (by omega)]
    rw [hb] at sl
    exact ih f h' (2#64*l) (by omega) (by omega) hh' (by simpa using sl)
   ·rw [V8 Z,Af _ (by omega)]
    rw [hb] at sl
    exact ih f h' (2#64*l+1#64) (by omega) (by omega) hh' (by simpa using sl)
  cases hb:(hi x).getLsbD i
  ·rw [V9 (by decide)];rw [hb] at sh;exact fin _ (by simpa using sh)
  ·rw [V8 Z];rw [hb] at sh;exact fin _ (by simpa using sh)
theorem nd(N:Nat)(x:W3)(hN:64<N):Ir N x=some (hi x,lo x):=by
 unfold Ir
 have:=dq x 64 N 0#64 0#64 (by omega) hN (by
  have:=(hi x).isLt
  rw [Nat.div_eq_of_lt this];rfl) (by
  have:=(lo x).isLt
  rw [Nat.div_eq_of_lt this];rfl)
 exact this
end Go.Proofs.YtjnanfkpdhmnpaaGreatDoor
namespace Go.Proofs.YtjnanfkpdhmnpaaGreatDoor
open Go Go.RowKit Go.Eng
theorem nc(x:W3):Gives Tryz.prog 233 #[Value.agg (Dm (BitVec.getLsbD (x)))] (Value.tuple #[U (hi (x)),U (lo (x))]):=QP 65 x _ (nd 65 x (by omega))
end Go.Proofs.YtjnanfkpdhmnpaaGreatDoor
namespace Go.Proofs.YtjnanfkpdhmnpaaGreatDoor
open Go Go.RowKit Go.Eng
def yZ(_:World):Prop:=True
def yX(_:World):Prop:=True
def FE:Y0 Int:=[8,8,8,1,8,1,16,8]
def yF(w:World):Prop:=Lib.TabIs Tryz.prog w "shunter/image.metaWidths" .i64 FE
def yY(_:World):Prop:=True
def Gt(w:World):Prop:=yY w/\yZ w/\yX w/\yF w
theorem RZ{w:World}(h:Gt w)(i:Nat)(hi:i<8):w.cell? ⟨0,i,none⟩=some (.int .i64 (FE[i]!)):=by
 rw [World.var?_cell (n:= "shunter/image.metaWidths") (by kernel_rfl) h.2.2.2 i]
 match i,hi with
 |0,_=>rfl|1,_=>rfl|2,_=>rfl|3,_=>rfl|4,_=>rfl|5,_=>rfl|6,_=>rfl|7,_=>rfl
theorem kZ{P:Program}{w w':World}{name:String}{cs:Array Y2}(h:w.var? P name=some cs)(hk: ∀k,k<w.heap.size->w'.heap[k]? =w.heap[k]?):w'.var? P name=some cs:=by
 unfold World.var? at h ⊢
 cases hg:P.globalNamed name with
 |none=>simp [hg] at h
 |some g=>
  simp only [hg,q0] at h ⊢
  rcases Nat.lt_or_ge g w.heap.size with h1|h1
  ·rw [hk g h1];exact h
  ·rw [Array.getElem?_eq_none h1] at h;cases h
theorem Bm(w w':World)(h:Gt w)(hk:Kept w.heap.size (([]:Y0 Bl).map (·.1)) w w'):Gt w':=by
 obtain⟨h1,h2,h3,h4⟩:=h
 have hb: ∀k,k<w.heap.size->w'.heap[k]? =w.heap[k]?:=λk hlt=>hk.block k hlt (by simp)
 refine⟨?_, ?_, ?_, ?_⟩
 ·exact h1
 ·exact h2
 ·exact h3
 ·exact kZ h4 hb
section
variable {E:Env} {g:Y3} {ops:Array Oper} {K:(Nat->Y2)->Y0 Bl->Prop} {r:Y0 Oper} {T:Nat->Y2} {l:Y0 Bl} {m:Nat} {d:Tmp} {ty:TypeId} {pos:String} {af:Array Edge}
theorem xD{b o:Nat}{e:TypeId}{p:Operand}(v0:Y2)(hd:decide (d<E.n)=true)(hk:E.ks.find? (λx=>x.1==some d)=some (some d,false))(hm:decide (m<=l.length)=true)(hp:rd T p= .pointer (some ⟨b,o,none⟩))(hv:Iu E.P e #[v0] 0=some v0)(hi: ∀w,E.inv w->w.cell? ⟨b,o,none⟩=some v0)(hcon: ∀args view v L U,E.con ⟨some d, .load e p,ty,pos,af,none⟩ args view v L U↔pV v0 v L U)(h:lx E g ops K r (upd T d v0) l m):lx E g ops K (⟨some d, .load e p,ty,pos,af,none⟩::r) T l m:=by
 refine r_g false (pV v0) hd hk Z hm (λhnd own nw hse=> ?_) (λv L U hpv=> ?_)
 ·have hco:Ab6 E ⟨T,own,nw⟩ ⟨some d, .load e p,ty,pos,af,none⟩=pV v0:=by
   funext v L U;exact propext (hcon _ _ v L U)
  refine⟨⟨?_, ?_, ?_, ?_, ?_⟩, ?_⟩
  ·rw [hco];exact λ_=>(Uc v0).wit
  ·rw [hco];exact λv L U hpv=>⟨((Uc v0).nod v L U hpv).1,by rw [((Uc v0).nod v L U hpv).2];exact List.nodup_nil⟩
  ·rw [hco];intro v L U hpv x hx;rw [((Uc v0).nod v L U hpv).2] at hx;cases hx
  ·rw [hco];exact λ_ v L U hpv=>((Uc v0).nod v L U hpv).2
  ·rw [hco]
   intro w hbase _ _
   have h1:ev E.P w.cell? (execOp (rd T) ⟨some d, .load e p,ty,pos,af,none⟩)=some (.value v0):=
    Vj hp (by
     have:=bp (P:=E.P) (c:=w.cell?) (b:=b) (off:=o) (o:=0) (ty:=e) (vs:=[v0]) (v:=v0) (λj u hj=>by
      cases j with
      |zero=>simp only [List.getElem?_cons_zero,Option.some.injEq] at hj;subst hj;exact hi w hbase.2
      |succ j=>simp at hj) hv
     rwa [Nat.add_zero] at this)
   exact .inl ⟨v0,w,[],[],SJ (λ_ _ h=>h) _ _ h1,⟨Z,Z,Z,Nat.le_refl _,λ_ _ _=>Z,λ_ h=>(nomatch h),λ_ h=>(nomatch h),Nat.le_refl _⟩,Z,Z,Z⟩
  ·rw [hco];exact λv L U hpv=>hpv
 ·obtain⟨rfl,rfl,rfl⟩:=hpv
  refine⟨l,λ_=>PutU.nil _, ?_⟩
  rw [List.append_nil];exact h
end
end Go.Proofs.YtjnanfkpdhmnpaaGreatDoor
