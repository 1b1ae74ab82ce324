import Derived.Test.YthmpbldidnmenaaGreatDoorRt
set_option linter.unusedSimpArgs false
set_option linter.unusedVariables false
namespace Go.Proofs.YthmpbldidnmenaaGreatDoor
open Go Go.RowKit Go.Eng
section
variable {N:Nat} (op:List UInt8) (x y:List Bool)
theorem pS(out:List Bool)(i:Nat)(ho:out.length≤128)(hi:i≤128)(rec:List Bool→Bool→Int→Option (Int×BitVec 128×Int))(hk: ∀bit c,Tot (rec (out++ [bit]) c ((i:Int)+1)))(n:Int)(b:Bool):Tot (Fl out (i:Int) rec n b):=by
 unfold Fl
 exact Tot.ck (by simp only [za,zj];omega) (Tot.ck (by omega) (hk _ _))
theorem rH(out:List Bool)(c:Bool)(i:Nat)(ho:out.length≤128)(hi:i≤128)(rec:List Bool→Bool→Int→Option (Int×BitVec 128×Int))(hk: ∀bit c,Tot (rec (out++ [bit]) c ((i:Int)+1)))(b:Bool):Tot (Fk op x y out c (i:Int) rec b):=by
 have k22: ∀(q:Bool) (n:Int) (b:Bool),Tot (Eg op x out (i:Int) rec q n b):=fun q n b=>by
  unfold Eg;exact Tot.ite (fun _=>pS out i ho hi rec hk _ _) (fun _=>pS out i ho hi rec hk _ _)
 have k20: ∀(q:Bool) (n:Int) (b:Bool),Tot (Eh op x out (i:Int) rec q n b):=fun q n b=>by
  unfold Eh;exact Tot.ite (fun _=>Tot.ite (fun _=>k22 _ _ _) (fun _=>k22 _ _ _)) (fun _=>k22 _ _ _)
 have k18: ∀(q:Bool) (n:Int),0≤n→n≤3→Tot (Fm op x out (i:Int) rec q n):=fun q n h0 h1=>by
  unfold Fm;exact Tot.ck (by omega) (Tot.ite (fun _=>Tot.ite (fun _=>k20 _ _ _) (fun _=>k20 _ _ _)) (fun _=>k20 _ _ _))
 have k16: ∀(q:Bool) (n:Int),0≤n→n≤2→Tot (Fo op x out c (i:Int) rec q n):=fun q n h0 h1=>by
  unfold Fo;exact Tot.ite (fun _=>Tot.ck (by omega) (k18 _ _ (by omega) (by omega))) (fun _=>k18 _ _ (by omega) (by omega))
 have k14: ∀(q:Bool) (n:Int),0≤n→n≤1→Tot (Fp op x out c (i:Int) rec q n):=fun q n h0 h1=>by
  unfold Fp;exact Tot.ite (fun _=>Tot.ck (by omega) (k16 _ _ (by omega) (by omega))) (fun _=>k16 _ _ (by omega) (by omega))
 have k12: ∀q:Bool,Tot (Fq op x out c (i:Int) rec q):=fun q=>by
  unfold Fq;exact Tot.ite (fun _=>k14 _ _ (by omega) (by omega)) (fun _=>k14 _ _ (by omega) (by omega))
 unfold Fk
 exact Tot.ite (fun _=>k12 _) (fun _=>k12 _)
theorem rG(hN:20000000<N)(less c:Bool)(out:List Bool)(ho:out.length≤128):Tot (AN N op less c N out 0):=by
 refine ZA (P:=fun _ s=>s.length=out.length) out.length (fun f s i=>AN N op less c f s i) (fun f i s h hp hk=> ?_) (fun f s hp=> ?_) out.length N 0 out (q6 _) (by omega) rfl
 ·show Tot (AN N op less c (f+1) s (i:Int))
  have k31: ∀(s':List Bool) (b:Bool),s'.length=out.length→Tot (Fi (i:Int) (AN N op less c f) s' b):=fun s' b e=>by
   unfold Fi
   exact Tot.ite (fun _=>Tot.ck (by omega) (Tot.ck (by omega) (hk _ (by rw [List.length_set];exact e)))) (fun _=>Tot.ck (by omega) (hk _ e))
  have k30: ∀s':List Bool,s'.length=out.length→Tot (Fj op less (i:Int) (AN N op less c f) s'):=fun s' e=>by
   unfold Fj;exact Tot.ite (fun _=>k31 _ _ e) (fun _=>k31 _ _ e)
  have k32: ∀b:Bool,Tot (Fh op less s (i:Int) (AN N op less c f) b):=fun b=>by
   unfold Fh;exact Tot.ite (fun _=>Tot.ck (by omega) (k30 _ (by rw [List.length_set];exact hp))) (fun _=>k30 _ hp)
  rw [AN,if_pos (by omega)]
  exact Tot.ite (fun _=>k32 _) (fun _=>k32 _)
 ·show Tot (AN N op less c (f+1) s (out.length:Int))
  rw [AN,if_neg (by omega),fX N (by omega) s (by omega)]
  exact Tot.it _
theorem rJ(hN:20000000<N)(hx:x.length≤128)(hy:y.length=x.length)(less c:Bool):Tot (AA N op x y less N [] c 0):=by
 refine ZA (σ:=List Bool×Bool) (P:=fun i s=>s.1.length=i) x.length (fun f s i=>AA N op x y less f s.1 s.2 i) (fun f i s h hp hk=> ?_) (fun f s hp=> ?_) x.length N 0 ([],c) (q6 _) (by omega) rfl
 ·show Tot (AA N op x y less (f+1) s.1 s.2 (i:Int))
  rw [AA,if_pos (by omega),Am _ (by omega),Am _ (by omega)]
  have k:=rH op x y s.1 s.2 i (by omega) (by omega) (AA N op x y less f) (fun bit c=>hk (s.1++ [bit],c) (by simp only [q9,za,zj];omega))
  exact Tot.ite (fun _=>k _) (fun _=>k _)
 ·show Tot (AA N op x y less (f+1) s.1 s.2 (x.length:Int))
  rw [AA,if_neg (by omega)]
  exact rG op hN _ _ _ (by omega)
theorem sE(hN:20000000<N)(hx:x.length≤128)(hy:y.length=x.length)(a b:Bool):Tot (BB N op x y N a b 0):=by
 refine ZA (σ:=Bool×Bool) (P:=fun _ _=>True) x.length (fun f s i=>BB N op x y f s.1 s.2 i) (fun f i s h _ hk=> ?_) (fun f s _=> ?_) x.length N 0 (a,b) (q6 _) (by omega) trivial
 ·show Tot (BB N op x y (f+1) s.1 s.2 (i:Int))
  rw [BB,if_pos (by omega),Am _ (by omega),Am _ (by omega)]
  exact Tot.ite (fun _=>Tot.ck (by omega) (Tot.ck (by omega) (hk (_,_) trivial))) (fun _=>Tot.ck (by omega) (hk (_,_) trivial))
 ·show Tot (BB N op x y (f+1) s.1 s.2 (x.length:Int))
  have k6: ∀b,Tot (GP N op x y s.1 b):=fun b=>rJ op x y hN hx hy s.1 b
  rw [BB,if_neg (by omega),fX N (by omega) [s.2] (by simp),fX N (by omega) [s.1] (by simp)]
  exact Tot.ite (fun _=>Tot.it _) (fun _=>Tot.ite (fun _=>Tot.it _) (fun _=>Tot.ite (fun _=>k6 _) (fun _=>k6 _)))
end
theorem ie{w:Int}{x:BitVec 128}(h:QV w x=true):1≤w∧w≤128:=by
 unfold QV at h;simp only [Bool.and_eq_true,decide_eq_true_eq] at h;omega
theorem rN{N:Nat}(hN:20000000<N)(op:List UInt8)(v:Int)(x:BitVec 128)(w:Int)(y:BitVec 128):Tot (GU N op v x w y):=by
 have k1: ∀b:Bool,(b=false→QV v x=true∧QV w y=true)→Tot (FR N op v x w y b):=fun b h=>by
  unfold FR
  refine Tot.ite (fun _=>Tot.it _) (fun c=>Tot.ite (fun _=>Tot.it _) (fun d=> ?_))
  have hm:=h (by simpa using c)
  have h1:=ie hm.1
  have h2:=ie hm.2
  rw [du N v x (by omega) (by omega) (by omega),q0,du N w y (by omega) (by omega) (by omega),q0]
  exact sE op _ _ hN (by rw [Qt];omega) (by rw [Qt,Qt];omega) _ _
 rw [GU,So,q0,So,q0]
 exact Tot.ite (fun c=>k1 _ fun d=>⟨c,by simpa using d⟩) (fun _=>k1 _ fun d=>by cases d)
section
variable {N:Nat} {m:An}
theorem fa(hN:20000000<N)(hi:m.2.2.1.length≤1048576)(a b c d:Int)(x:BitVec 128)(q:Int)(h0:0≤a)(h1:a≤34)(hb:b≤9223372036854775807):Tot (Du N m a b c d x q):=by
 have k10: ∀z,Tot (Cz N m b z):=fun z=>by
  unfold Cz;rw [QQ hN hi,q0];exact T1
 have k8: ∀z,Tot (BK N m a b tab9 z):=fun z=>by
  unfold BK;rw [Rq hN hi,q0];exact Tot.ite (fun _=>T1) (fun _=>Tot.ite (fun _=>k10 _) (fun _=>k10 _))
 have k6: ∀z,Tot (CT N m a b tab9 z):=fun z=>by
  unfold CT
  exact Tot.ite (fun _=>T1) (fun _=>Tot.ite (fun _=>T1) (fun _=>Tot.ite (fun _=>T1) (fun _=>Tot.ite (fun _=>k8 _) (fun _=>Tot.ite (fun _=>k8 _) (fun _=>Tot.ite (fun _=>k8 _) (fun _=>k8 _))))))
 have k4: ∀z,Tot (CU N m a b q tab9 z):=fun z=>by
  unfold CU
  exact Tot.ite (fun _=>(dJ b hb).bind fun _ _=>T1) (fun _=>Tot.ite (fun _=>T1) (fun _=>Tot.ite (fun _=>k6 _) (fun _=>k6 _)))
 have k2: ∀z,Tot (CV N m a b c q tab9 z):=fun z=>by
  unfold CV;rw [Ug hN hi,q0]
  exact Tot.ite (fun _=>T1) (fun _=>Tot.ite (fun _=>k4 _) (fun _=>k4 _))
 rw [Du,TE,q0,Am _ (by rw [Rj];omega)]
 exact Tot.ite (fun _=>k2 _) (fun _=>k2 _)
theorem dK(hN:20000000<N)(hi:m.2.2.1.length≤1048576)(l:List I9)(hl:l.length≤1048576)(hr:CoR l)(q:Int):Tot (FE N m l q):=by
 have L5:(∀i,i<l.length→ig (l[i]!)=0)→Tot (AK N m l q N 0):=fun hm=>by
  refine OR l.length (AK N m l q) (fun f i h hk=> ?_) (fun f=> ?_) (by omega)
  ·have ho:0≤(l[i]!).1∧(l[i]!).1≤34:=by
    have:=hm i h
    unfold ig OX at this
    by_cases c:0≤(l[i]!).1∧(l[i]!).1≤34
    ·exact c
    ·rw [if_neg c] at this;cases this
   rw [AK,if_pos (by omega),Am _ (by omega),q3]
   refine(fa hN hi _ _ _ _ _ _ ho.1 ho.2 (hr i h)).bind fun _ _=>Tot.ite (fun _=> ?_) (fun _=>T1)
   rw [TE,q0,Am _ (by omega),Am _ (by rw [Rj];omega)]
   have k10: ∀b,Tot (Cm (i:Int) (AK N m l q f) b):=fun b=>by unfold Cm;exact T1
   have k9: ∀t,Tot (DX l (i:Int) (AK N m l q f) t):=fun t=>by
    unfold DX;exact Tot.ite (fun _=>Tot.ite (fun _=>k10 _) (fun _=>k10 _)) (fun _=>k10 _)
   have k7: ∀t,Tot (DY l (i:Int) (AK N m l q f) tab9 t):=fun t=>by
    unfold DY;exact Tot.ite (fun _=>Tot.ck (by omega) (k9 _)) (fun _=>k9 _)
   exact Tot.ite (fun _=>Tot.ck (by omega) (k7 _)) (fun _=>k7 _)
  ·rw [AK,if_neg (by omega)];exact T1
 refine TW (P:=fun i=> ∀j,j<i→ig (l[j]!)=0) (min l.length 64) (Bm N m l q) (fun f i h hp hk=> ?_) (fun f hp=> ?_) (min l.length 64) N 0 (q6 _) (by omega) (fun j hj=>absurd hj (Nat.not_lt_zero j))
 ·rw [Bm,if_pos (by omega),CG,zf (by omega),if_pos rfl,Am _ (by omega),q3,Xq,q0]
  refine Tot.ite (fun _=>T1) (fun c=>Tot.ck (by omega) (hk fun j hj=> ?_))
  rcases Nat.lt_or_ge j i with h2|h2
  ·exact hp j h2
  ·obtain rfl:j=i:=by omega
   exact Classical.not_not.1 c
 ·have k3:Tot (CG N m l q ((min l.length 64:Nat):Int) (Bm N m l q f) false):=by
   rw [CG,if_neg (by decide)]
   exact Tot.ite (fun _=>T1) (fun c=>L5 fun i hi=>hp i (by omega))
  rw [Bm]
  refine Tot.ite (fun c=> ?_) (fun _=>k3)
  rw [ze (by omega)];exact k3
theorem gu(hN:20000000<N)(hi:m.2.2.1.length≤1048576)(s:Stt)(hl:s.2.1.length≤1048576∧s.2.2.1.length≤1048576∧s.2.2.2.1.length≤1048576)(hr:StR s):Tot (DI N m s.1 s.2.1 s.2.2.1 s.2.2.2.1 s.2.2.2.2):=by
 have nx: ∀n,Tot (Ep N m n):=fun n=>by unfold Ep;exact T1
 have L5: ∀r:Int×Bool,Tot (AF N m s.2.2.2.1 s.2.2.2.2 r N 0):=fun r=>by
  refine OR s.2.2.2.1.length (AF N m s.2.2.2.1 s.2.2.2.2 r) (fun f i h hk=> ?_) (fun f=> ?_) (by omega)
  ·have k8: ∀b,Tot (Dq N m s.2.2.2.1 (i:Int) (AF N m s.2.2.2.1 s.2.2.2.2 r f) b):=fun b=>by
    unfold Dq
    exact Tot.ite (fun _=>T1) (fun _=>(rN hN _ _ _ _ _).bind fun _ _=>Tot.ite (fun _=>(nx _).bind fun _ _=>T1) (fun _=>T1))
   have k7: ∀b,Tot (Dr N m s.2.2.2.1 r (i:Int) (AF N m s.2.2.2.1 s.2.2.2.2 r f) b):=fun b=>by
    unfold Dr;exact Tot.ite (fun _=>k8 _) (fun _=>k8 _)
   have k6: ∀b,Tot (Ds N m s.2.2.2.1 r (i:Int) (AF N m s.2.2.2.1 s.2.2.2.2 r f) b):=fun b=>by
    unfold Ds;exact Tot.ite (fun _=>k7 _) (fun _=>k7 _)
   rw [AF,if_pos (by omega),Am _ (by omega),So,q0,So,q0]
   exact Tot.ite (fun _=>k6 _) (fun _=>k6 _)
  ·rw [AF,if_neg (by omega)]
   exact(nx _).bind fun _ _=>T1
 have k3: ∀b,Tot (Dt N m s.2.2.1 s.2.2.2.1 s.2.2.2.2 b):=fun b=>by
  unfold Dt
  exact Tot.ite (fun _=>T1) (fun _=>(gI hN hi _ (by omega) hr.2).bind fun r _=>L5 r)
 unfold DI
 refine Tot.ite (fun _=>T1) (fun _=>OR s.2.1.length (BN N m s.2.1 s.2.2.1 s.2.2.2.1 s.2.2.2.2) (fun f i h hk=> ?_) (fun f=> ?_) (by omega))
 ·rw [BN,if_pos (by omega),Am _ (by omega)]
  exact(qv hN hi _ _).bind fun _ _=>T1
 ·rw [BN,if_neg (by omega)]
  exact(gD hN hi _ (by omega) hr.2 _).bind fun _ _=>Tot.ite (fun _=>T1) (fun _=>Tot.ite (fun _=>T1) (fun _=>Tot.ite (fun _=>k3 _) (fun _=>k3 _)))
theorem gt(hN:20000000<N)(hi:m.2.2.1.length≤1048576)(x:Tab)(hl:x.2.2.1.length≤1048576∧x.2.2.2.1.length≤1048576∧x.2.2.2.2.2.1.length≤1048576)(hr:TbR x):Tot (DH N m x.1 x.2.1 x.2.2.1 x.2.2.2.1 x.2.2.2.2.1 x.2.2.2.2.2.1 x.2.2.2.2.2.2):=by
 have k9: ∀b,Tot (Dm b):=fun b=>by unfold Dm;exact T1
 have L4:Tot (Az N m x.2.2.2.1 x.2.2.2.2.1 x.2.2.2.2.2.1 x.2.2.2.2.2.2 N false 0):=by
  refine ZA (P:=fun i own=>(∀j,j<i→0≤(x.2.2.2.1[j]!)∧(x.2.2.2.1[j]!)<(m.2.2.2.2.2.1.length:Int))∧(own=true→ ∃j,j<i∧x.2.2.2.1[j]! =x.2.2.2.2.1)) x.2.2.2.1.length
   (fun f s i=>Az N m x.2.2.2.1 x.2.2.2.2.1 x.2.2.2.2.2.1 x.2.2.2.2.2.2 f s i) (fun f i s h hp hk=> ?_) (fun f s hp=> ?_) x.2.2.2.1.length N 0 false (q6 _) (by omega) ⟨fun j hj=>absurd hj (Nat.not_lt_zero j),fun e=>by cases e⟩
  ·show Tot (Az N m x.2.2.2.1 x.2.2.2.2.1 x.2.2.2.2.2.1 x.2.2.2.2.2.2 (f+1) s (i:Int))
   have k5: ∀b:Bool,(b=false→0≤(x.2.2.2.1[i]!)∧(x.2.2.2.1[i]!)<(m.2.2.2.2.2.1.length:Int))→Tot (Dn N x.2.2.2.1 x.2.2.2.2.1 s (i:Int) (Az N m x.2.2.2.1 x.2.2.2.2.1 x.2.2.2.2.2.1 x.2.2.2.2.2.2 f) b):=fun b q=>by
    unfold Dn
    refine Tot.ite (fun _=>T1) (fun c=> ?_)
    have hin:=q (by simpa using c)
    have hall: ∀j,j<i+1→0≤(x.2.2.2.1[j]!)∧(x.2.2.2.1[j]!)<(m.2.2.2.2.2.1.length:Int):=fun j hj=>by
     rcases Nat.lt_or_ge j i with h2|h2
     ·exact hp.1 j h2
     ·obtain rfl:j=i:=by omega
      exact hin
    refine OR i (BM x.2.2.2.1 x.2.2.2.2.1 s (i:Int) (Az N m x.2.2.2.1 x.2.2.2.2.1 x.2.2.2.2.2.1 x.2.2.2.2.2.2 f)) (fun g k hk2 hh=> ?_) (fun g=> ?_) (by omega)
    ·rw [BM,if_pos (by omega),Am _ (by omega)];exact T1
    ·rw [BM,if_neg (by omega)]
     unfold ER
     refine Tot.ite (fun c=>Tot.ck (by omega) (hk _ ⟨hall,fun _=> ?_⟩)) (fun _=>Tot.ck (by omega) (hk _ ⟨hall,fun e=>⟨i,by omega,by rw [q3] at e;simpa using e⟩⟩))
     obtain⟨j,h1,h2⟩:=hp.2 c
     exact⟨j,by omega,h2⟩
   rw [Az,if_pos (by omega),Am _ (by omega),q3]
   exact Tot.ite (fun _=>k5 _ fun e=>by cases e) (fun _=>k5 _ fun e=>by have:=of_decide_eq_false e;omega)
  ·show Tot (Az N m x.2.2.2.1 x.2.2.2.2.1 x.2.2.2.2.2.1 x.2.2.2.2.2.2 (f+1) s (x.2.2.2.1.length:Int))
   rw [Az,if_neg (by omega)]
   refine Tot.ite (fun _=>T1) (fun _=>Tot.ite (fun c=> ?_) (fun _=>T1))
   obtain⟨j,h1,h2⟩:=hp.2 c
   have h3:=hp.1 j h1
   rw [h2] at h3
   exact(dL hN _ h3.1 h3.2 _ (by omega)).bind fun _ _=>Tot.ite (fun _=>T1) (fun _=>Tot.ite (fun _=>k9 _) (fun _=>k9 _))
 have k1: ∀b,Tot (Dp N m x.2.2.1 x.2.2.2.1 x.2.2.2.2.1 x.2.2.2.2.2.1 x.2.2.2.2.2.2 b):=fun b=>by
  unfold Dp
  exact Tot.ite (fun _=>T1) (fun _=>Tot.ite (fun _=>T1) (fun _=>(gD hN hi _ (by omega) hr _).bind fun _ _=>Tot.ite (fun _=>T1) (fun _=>Tot.ite (fun _=>T1) (fun _=>L4))))
 unfold DH
 exact Tot.ite (fun _=>k1 _) (fun _=>k1 _)
theorem mT(hN:20000000<N)(hi:m.2.2.1.length≤1048576)(x:Nod)(hl:x.2.2.1.length≤1048576∧x.2.2.2.1.length≤1048576)(hr:CoR x.2.2.1)(i n:Int):Tot (Eo N m x.1 x.2.1 x.2.2.1 x.2.2.2.1 x.2.2.2.2.1 x.2.2.2.2.2 i n):=by
 have k7:Tot (DQ x.2.2.2.2.1 i n):=by unfold DQ EX;exact T1
 have k9: ∀b,Tot (DP x.2.2.2.2.1 i n b):=fun b=>by unfold DP;exact Tot.ite (fun _=>T1) (fun _=>k7)
 have k6:(x.1=2→0≤x.2.1∧x.2.1<(m.2.2.2.2.2.1.length:Int))→Tot (DR N m x.1 x.2.1 x.2.2.2.1 x.2.2.2.2.1 x.2.2.2.2.2 i n):=fun q=>by
  unfold DR
  refine Tot.ite (fun c=> ?_) (fun _=>Tot.ite (fun _=>T1) (fun _=>Tot.ite (fun _=>k9 _) (fun _=>k9 _)))
  exact(dL hN _ (q c).1 (q c).2 _ (by omega)).bind fun _ _=>Tot.ite (fun _=>T1) (fun _=>Tot.ite (fun _=>T1) (fun _=>k7))
 have k5: ∀b:Bool,(b=false→x.1=2→0≤x.2.1∧x.2.1<(m.2.2.2.2.2.1.length:Int))→Tot (CA N m x.1 x.2.1 x.2.2.1 x.2.2.2.1 x.2.2.2.2.1 x.2.2.2.2.2 i n b):=fun b q=>by
  unfold CA
  refine Tot.ite (fun _=>T1) (fun c=> ?_)
  have q':=q (by simpa using c)
  exact Tot.ite (fun _=>(dK hN hi _ (by omega) hr _).bind fun _ _=>Tot.ite (fun _=>T1) (fun _=>k6 q')) (fun _=>Tot.ite (fun _=>T1) (fun _=>k6 q'))
 have k4: ∀(h) (b:Bool),(b=false→x.1=2→0≤x.2.1∧x.2.1<(m.2.2.2.2.2.1.length:Int))→Tot (CB N m x.1 x.2.1 x.2.2.1 x.2.2.2.1 x.2.2.2.2.1 x.2.2.2.2.2 i n h b):=fun h b q=>by
  unfold CB
  exact Tot.ite (fun _=>k5 _ fun e=>by cases e) (fun c=>Tot.ite (fun d=>k5 _ fun _ e=>by omega) (fun _=>k5 _ fun _=>q (by simpa using c)))
 have k3: ∀(h) (b:Bool),(b=false→x.1=2→0≤x.2.1∧x.2.1<(m.2.2.2.2.2.1.length:Int))→Tot (BW N m x.1 x.2.1 x.2.2.1 x.2.2.2.1 x.2.2.2.2.1 x.2.2.2.2.2 i n h b):=fun h b q=>by
  unfold BW
  exact Tot.ite (fun _=>k4 _ _ fun e=>by cases e) (fun c=>Tot.ite (fun d=>k4 _ _ fun _ e=>by omega) (fun _=>k4 _ _ fun _=>q (by simpa using c)))
 have k2: ∀(h) (b:Bool),Tot (CC N m x.1 x.2.1 x.2.2.1 x.2.2.2.1 x.2.2.2.2.1 x.2.2.2.2.2 i n h b):=fun h b=>by
  unfold CC
  exact Tot.ite (fun _=>k3 _ _ fun e=>by cases e) (fun _=>Tot.ite (fun _=>Tot.ite (fun _=>k3 _ _ fun e=>by cases e) (fun _=>k3 _ _ fun e=>by have:=of_decide_eq_false e;omega)) (fun d=>k3 _ _ fun _ e=>absurd e d))
 have k1: ∀b,Tot (DS N m x.1 x.2.1 x.2.2.1 x.2.2.2.1 x.2.2.2.2.1 x.2.2.2.2.2 i n b):=fun b=>by
  unfold DS
  rw [Rq hN hi,q0]
  exact Tot.ite (fun _=>T1) (fun _=>Tot.ite (fun _=>Tot.ite (fun _=>k2 _ _) (fun _=>k2 _ _)) (fun _=>k2 _ _))
 unfold Eo
 exact Tot.ite (fun _=>k1 _) (fun _=>k1 _)
theorem ZN(hN:20000000<N)(hi:m.2.2.1.length≤1048576)(l:List Nod)(hl:l.length≤1048576)(hx: ∀i,i<l.length→(l[i]!).2.2.1.length≤1048576∧(l[i]!).2.2.2.1.length≤1048576)(hr: ∀i,i<l.length→NdR (l[i]!)):Tot (DO N m l):=by
 unfold DO
 refine Tot.ite (fun _=>T1) (fun c=>OR l.length (BO N m l) (fun f i h hk=> ?_) (fun f=> ?_) (by omega))
 ·rw [BO,if_pos (by omega),Am _ (by omega),q3]
  exact(mT hN hi (l[i]!) (hx i h) (hr i h).2 _ _).bind fun _ _=>T1
 ·rw [BO,if_neg (by omega)];exact T1
theorem dE(hN:20000000<N)(hi:m.2.2.1.length≤1048576)(hh: ∀h∈m.2.1,okW h.2.1∧h.2.1.length≤1048576)(l:List (Int×Int))(hl:l.length≤1048576):Tot (Em N m l):=by
 unfold Em
 refine Tot.ite (fun _=>T1) (fun c=>OR l.length (BU N m l) (fun f i h hk=> ?_) (fun f=> ?_) (by omega))
 ·rw [BU,if_pos (by omega),Am _ (by omega),Am _ (by omega),q3,Ug hN hi,q0,Rq hN hi,q0]
  split
  ·rename_i e
   refine Tot.ite (fun _=>Tot.ck (by omega) (Tot.ite (fun _=>T1) (fun _=>Tot.ck (by omega) (Tot.ck ⟨e.2.1,by omega⟩ ?_)))) (fun _=>T1)
   rcases rf m.2.1 m.2.2.1 (l[i]!).1 with⟨h,hm,e2⟩|e2
   ·have hw:=hh h hm
    have h1:okW (h.2.1.take ((l[i]!).2).toNat):=fun x hx=>hw.1 x (List.mem_of_mem_take hx)
    have h2:(h.2.1.take ((l[i]!).2).toNat).length≤1048576:=by rw [q7];omega
    have h3:=Ru _ h1
    rw [e2,j0]
    dsimp only
    rw [fl N hN _ _ _ _ _ _ h1 h2,q0]
    exact Tot.ck (by omega) (Tot.ite (fun _=>T1) (fun _=>T1))
   ·rw [e2] at e;cases e.1
  ·rw [if_neg (by decide)];exact T1
 ·rw [BU,if_neg (by omega)];exact T1
end
end Go.Proofs.YthmpbldidnmenaaGreatDoor
