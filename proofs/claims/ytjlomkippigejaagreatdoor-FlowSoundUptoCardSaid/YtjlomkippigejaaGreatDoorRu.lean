import Derived.Test.YtjlomkippigejaaGreatDoorRt
set_option linter.unusedSimpArgs false
set_option linter.unusedVariables false
namespace Go.Proofs.YtjlomkippigejaaGreatDoor
open Go Go.RowKit Go.Eng
section
variable {N:Nat} (op:W2) (x y:List Bool)
theorem tK(out:List Bool)(i:Nat)(ho:out.length<=128)(hi:i<=128)(rec:List Bool->Bool->Int->Option (Int×W3×Int))(hk: ∀bit c,Tot (rec (out++ [bit]) c ((i:Int)+1)))(n:Int)(b:Bool):Tot (FQ out (i:Int) rec n b):=by
 unfold FQ
 exact Tot.ck (by simp only [za,zj];omega) (Tot.ck (by omega) (hk _ _))
theorem wj(out:List Bool)(c:Bool)(i:Nat)(ho:out.length<=128)(hi:i<=128)(rec:List Bool->Bool->Int->Option (Int×W3×Int))(hk: ∀bit c,Tot (rec (out++ [bit]) c ((i:Int)+1)))(b:Bool):Tot (FP op x y out c (i:Int) rec b):=by
 have k22: ∀(q:Bool) (n:Int) (b:Bool),Tot (EA op x out (i:Int) rec q n b):=λq n b=>by
  unfold EA;exact Tot.ite (λ_=>tK out i ho hi rec hk _ _) (λ_=>tK out i ho hi rec hk _ _)
 have k20: ∀(q:Bool) (n:Int) (b:Bool),Tot (EB op x out (i:Int) rec q n b):=λq n b=>by
  unfold EB;exact Tot.ite (λ_=>Tot.ite (λ_=>k22 _ _ _) (λ_=>k22 _ _ _)) (λ_=>k22 _ _ _)
 have k18: ∀(q:Bool) (n:Int),0<=n->n<=3->Tot (FR op x out (i:Int) rec q n):=λq n h0 h1=>by
  unfold FR;exact Tot.ck (by omega) (Tot.ite (λ_=>Tot.ite (λ_=>k20 _ _ _) (λ_=>k20 _ _ _)) (λ_=>k20 _ _ _))
 have k16: ∀(q:Bool) (n:Int),0<=n->n<=2->Tot (FS op x out c (i:Int) rec q n):=λq n h0 h1=>by
  unfold FS;exact Tot.ite (λ_=>Tot.ck (by omega) (k18 _ _ (by omega) (by omega))) (λ_=>k18 _ _ (by omega) (by omega))
 have k14: ∀(q:Bool) (n:Int),0<=n->n<=1->Tot (FT op x out c (i:Int) rec q n):=λq n h0 h1=>by
  unfold FT;exact Tot.ite (λ_=>Tot.ck (by omega) (k16 _ _ (by omega) (by omega))) (λ_=>k16 _ _ (by omega) (by omega))
 have k12: ∀q:Bool,Tot (FU op x out c (i:Int) rec q):=λq=>by
  unfold FU;exact Tot.ite (λ_=>k14 _ _ (by omega) (by omega)) (λ_=>k14 _ _ (by omega) (by omega))
 unfold FP
 exact Tot.ite (λ_=>k12 _) (λ_=>k12 _)
theorem wi(hN:20000000<N)(less c:Bool)(out:List Bool)(ho:out.length<=128):Tot (AQ N op less c N out 0):=by
 refine bo (P:=λ_ s=>s.length=out.length) out.length (λf s i=>AQ N op less c f s i) (λf i s h hp hk=> ?_) (λf s hp=> ?_) out.length N 0 out (q6 _) (by omega) Z
 ·show Tot (AQ N op less c (f+1) s (i:Int))
  have k31: ∀(s':List Bool) (b:Bool),s'.length=out.length->Tot (FN (i:Int) (AQ N op less c f) s' b):=λs' b e=>by
   unfold FN
   exact Tot.ite (λ_=>Tot.ck (by omega) (Tot.ck (by omega) (hk _ (by rw [zl];exact e)))) (λ_=>Tot.ck (by omega) (hk _ e))
  have k30: ∀s':List Bool,s'.length=out.length->Tot (FO op less (i:Int) (AQ N op less c f) s'):=λs' e=>by
   unfold FO;exact Tot.ite (λ_=>k31 _ _ e) (λ_=>k31 _ _ e)
  have k32: ∀b:Bool,Tot (FM op less s (i:Int) (AQ N op less c f) b):=λb=>by
   unfold FM;exact Tot.ite (λ_=>Tot.ck (by omega) (k30 _ (by rw [zl];exact hp))) (λ_=>k30 _ hp)
  rw [AQ,if_pos (by omega)]
  exact Tot.ite (λ_=>k32 _) (λ_=>k32 _)
 ·show Tot (AQ N op less c (f+1) s (out.length:Int))
  rw [AQ,if_neg (by omega),jN N (by omega) s (by omega)]
  exact Tot.it _
theorem wk(hN:20000000<N)(hx:x.length<=128)(hy:y.length=x.length)(less c:Bool):Tot (AD N op x y less N [] c 0):=by
 refine bo (σ:=List Bool×Bool) (P:=λi s=>s.1.length=i) x.length (λf s i=>AD N op x y less f s.1 s.2 i) (λf i s h hp hk=> ?_) (λf s hp=> ?_) x.length N 0 ([],c) (q6 _) (by omega) Z
 ·show Tot (AD N op x y less (f+1) s.1 s.2 (i:Int))
  rw [AD,if_pos (by omega),Af _ (by omega),Af _ (by omega)]
  have k:=wj op x y s.1 s.2 i (by omega) (by omega) (AD N op x y less f) (λbit c=>hk (s.1++ [bit],c) (by simp only [q9,za,zj];omega))
  exact Tot.ite (λ_=>k _) (λ_=>k _)
 ·show Tot (AD N op x y less (f+1) s.1 s.2 (x.length:Int))
  rw [AD,if_neg (by omega)]
  exact wi op hN _ _ _ (by omega)
theorem xE(hN:20000000<N)(hx:x.length<=128)(hy:y.length=x.length)(a b:Bool):Tot (BJ N op x y N a b 0):=by
 refine bo (σ:=Bool×Bool) (P:=λ_ _=>True) x.length (λf s i=>BJ N op x y f s.1 s.2 i) (λf i s h _ hk=> ?_) (λf s _=> ?_) x.length N 0 (a,b) (q6 _) (by omega) trivial
 ·show Tot (BJ N op x y (f+1) s.1 s.2 (i:Int))
  rw [BJ,if_pos (by omega),Af _ (by omega),Af _ (by omega)]
  exact Tot.ite (λ_=>Tot.ck (by omega) (Tot.ck (by omega) (hk (_,_) trivial))) (λ_=>Tot.ck (by omega) (hk (_,_) trivial))
 ·show Tot (BJ N op x y (f+1) s.1 s.2 (x.length:Int))
  have k6: ∀b,Tot (HA N op x y s.1 b):=λb=>wk op x y hN hx hy s.1 b
  rw [BJ,if_neg (by omega),jN N (by omega) [s.2] (by simp),jN N (by omega) [s.1] (by simp)]
  exact Tot.ite (λ_=>Tot.it _) (λ_=>Tot.ite (λ_=>Tot.it _) (λ_=>Tot.ite (λ_=>k6 _) (λ_=>k6 _)))
end
theorem lm{w:Int}{x:W3}(h:RY w x=true):1<=w/\w<=128:=by
 unfold RY at h;simp only [Bool.and_eq_true,decide_eq_true_eq] at h;omega
theorem wn{N:Nat}(hN:20000000<N)(op:W2)(v:Int)(x:W3)(w:Int)(y:W3):Tot (HK N op v x w y):=by
 have k1: ∀b:Bool,(b=false->RY v x=true/\RY w y=true)->Tot (Gx N op v x w y b):=λb h=>by
  unfold Gx
  refine Tot.ite (λ_=>Tot.it _) (λc=>Tot.ite (λ_=>Tot.it _) (λd=> ?_))
  have hm:=h (by simpa using c)
  have h1:=lm hm.1
  have h2:=lm hm.2
  rw [fX N v x (by omega) (by omega) (by omega),q0,fX N w y (by omega) (by omega) (by omega),q0]
  exact xE op _ _ hN (by rw [Ru];omega) (by rw [Ru,Ru];omega) _ _
 rw [HK,Tw,q0,Tw,q0]
 exact Tot.ite (λc=>k1 _ λd=>⟨c,by simpa using d⟩) (λ_=>k1 _ λd=>by cases d)
section
variable {N:Nat} {m:Ao}
theorem iP(hN:20000000<N)(hi:m.2.2.1.length<=1048576)(a b c d:Int)(x:W3)(q:Int)(h0:0<=a)(h1:a<=34)(hb:b<=9223372036854775807):Tot (DL N m a b c d x q):=by
 have k10: ∀z,Tot (CQ N m b z):=λz=>by
  unfold CQ;rw [RR hN hi,q0];exact T1
 have k8: ∀z,Tot (BT N m a b tab9 z):=λz=>by
  unfold BT;rw [Sy hN hi,q0];exact Tot.ite (λ_=>T1) (λ_=>Tot.ite (λ_=>k10 _) (λ_=>k10 _))
 have k6: ∀z,Tot (Dm N m a b tab9 z):=λz=>by
  unfold Dm
  exact Tot.ite (λ_=>T1) (λ_=>Tot.ite (λ_=>T1) (λ_=>Tot.ite (λ_=>T1) (λ_=>Tot.ite (λ_=>k8 _) (λ_=>Tot.ite (λ_=>k8 _) (λ_=>Tot.ite (λ_=>k8 _) (λ_=>k8 _))))))
 have k4: ∀z,Tot (Dn N m a b q tab9 z):=λz=>by
  unfold Dn
  exact Tot.ite (λ_=>(gk b hb).bind λ_ _=>T1) (λ_=>Tot.ite (λ_=>T1) (λ_=>Tot.ite (λ_=>k6 _) (λ_=>k6 _)))
 have k2: ∀z,Tot (Dp N m a b c q tab9 z):=λz=>by
  unfold Dp;rw [Vo hN hi,q0]
  exact Tot.ite (λ_=>T1) (λ_=>Tot.ite (λ_=>k4 _) (λ_=>k4 _))
 rw [DL,Re,q0,Af _ (by rw [Qp];omega)]
 exact Tot.ite (λ_=>k2 _) (λ_=>k2 _)
theorem gl(hN:20000000<N)(hi:m.2.2.1.length<=1048576)(l:List I9)(hl:l.length<=1048576)(hr:CoR l)(q:Int):Tot (Gh N m l q):=by
 have L5:(∀i,i<l.length->NI (l[i]!)=0)->Tot (AO N m l q N 0):=λhm=>by
  refine Qe l.length (AO N m l q) (λf i h hk=> ?_) (λf=> ?_) (by omega)
  ·have ho:0<=(l[i]!).1/\(l[i]!).1<=34:=by
    have:=hm i h
    unfold NI OL at this
    by_cases c:0<=(l[i]!).1/\(l[i]!).1<=34
    ·exact c
    ·rw [if_neg c] at this;cases this
   rw [AO,if_pos (by omega),Af _ (by omega),q3]
   refine(iP hN hi _ _ _ _ _ _ ho.1 ho.2 (hr i h)).bind λ_ _=>Tot.ite (λ_=> ?_) (λ_=>T1)
   rw [Re,q0,Af _ (by omega),Af _ (by rw [Qp];omega)]
   have k10: ∀b,Tot (CA (i:Int) (AO N m l q f) b):=λb=>by unfold CA;exact T1
   have k9: ∀t,Tot (Eo l (i:Int) (AO N m l q f) t):=λt=>by
    unfold Eo;exact Tot.ite (λ_=>Tot.ite (λ_=>k10 _) (λ_=>k10 _)) (λ_=>k10 _)
   have k7: ∀t,Tot (Ep l (i:Int) (AO N m l q f) tab9 t):=λt=>by
    unfold Ep;exact Tot.ite (λ_=>Tot.ck (by omega) (k9 _)) (λ_=>k9 _)
   exact Tot.ite (λ_=>Tot.ck (by omega) (k7 _)) (λ_=>k7 _)
  ·rw [AO,if_neg (by omega)];exact T1
 refine Ve (P:=λi=> ∀j,j<i->NI (l[j]!)=0) (min l.length 64) (Bq N m l q) (λf i h hp hk=> ?_) (λf hp=> ?_) (min l.length 64) N 0 (q6 _) (by omega) (λj hj=>absurd hj (Nat.not_lt_zero j))
 ·rw [Bq,if_pos (by omega),CX,zf (by omega),if_pos Z,Af _ (by omega),q3,iX,q0]
  refine Tot.ite (λ_=>T1) (λc=>Tot.ck (by omega) (hk λj hj=> ?_))
  rcases Nat.lt_or_ge j i with h2|h2
  ·exact hp j h2
  ·obtain rfl:j=i:=by omega
   exact Classical.not_not.1 c
 ·have k3:Tot (CX N m l q ((min l.length 64:Nat):Int) (Bq N m l q f) false):=by
   rw [CX,if_neg (by decide)]
   exact Tot.ite (λ_=>T1) (λc=>L5 λi hi=>hp i (by omega))
  rw [Bq]
  refine Tot.ite (λc=> ?_) (λ_=>k3)
  rw [ze (by omega)];exact k3
theorem kt(hN:20000000<N)(hi:m.2.2.1.length<=1048576)(s:Stt)(hl:s.2.1.length<=1048576/\s.2.2.1.length<=1048576/\s.2.2.2.1.length<=1048576)(hr:StR s):Tot (DY N m s.1 s.2.1 s.2.2.1 s.2.2.2.1 s.2.2.2.2):=by
 have nx: ∀n,Tot (EJ N m n):=λn=>by unfold EJ;exact T1
 have L5: ∀r:Int×Bool,Tot (AJ N m s.2.2.2.1 s.2.2.2.2 r N 0):=λr=>by
  refine Qe s.2.2.2.1.length (AJ N m s.2.2.2.1 s.2.2.2.2 r) (λf i h hk=> ?_) (λf=> ?_) (by omega)
  ·have k8: ∀b,Tot (DH N m s.2.2.2.1 (i:Int) (AJ N m s.2.2.2.1 s.2.2.2.2 r f) b):=λb=>by
    unfold DH
    exact Tot.ite (λ_=>T1) (λ_=>(wn hN _ _ _ _ _).bind λ_ _=>Tot.ite (λ_=>(nx _).bind λ_ _=>T1) (λ_=>T1))
   have k7: ∀b,Tot (DI N m s.2.2.2.1 r (i:Int) (AJ N m s.2.2.2.1 s.2.2.2.2 r f) b):=λb=>by
    unfold DI;exact Tot.ite (λ_=>k8 _) (λ_=>k8 _)
   have k6: ∀b,Tot (DJ N m s.2.2.2.1 r (i:Int) (AJ N m s.2.2.2.1 s.2.2.2.2 r f) b):=λb=>by
    unfold DJ;exact Tot.ite (λ_=>k7 _) (λ_=>k7 _)
   rw [AJ,if_pos (by omega),Af _ (by omega),Tw,q0,Tw,q0]
   exact Tot.ite (λ_=>k6 _) (λ_=>k6 _)
  ·rw [AJ,if_neg (by omega)]
   exact(nx _).bind λ_ _=>T1
 have k3: ∀b,Tot (DK N m s.2.2.1 s.2.2.2.1 s.2.2.2.2 b):=λb=>by
  unfold DK
  exact Tot.ite (λ_=>T1) (λ_=>(kH hN hi _ (by omega) hr.2).bind λr _=>L5 r)
 unfold DY
 refine Tot.ite (λ_=>T1) (λ_=>Qe s.2.1.length (BX N m s.2.1 s.2.2.1 s.2.2.2.1 s.2.2.2.2) (λf i h hk=> ?_) (λf=> ?_) (by omega))
 ·rw [BX,if_pos (by omega),Af _ (by omega)]
  exact(ut hN hi _ _).bind λ_ _=>T1
 ·rw [BX,if_neg (by omega)]
  exact(kA hN hi _ (by omega) hr.2 _).bind λ_ _=>Tot.ite (λ_=>T1) (λ_=>Tot.ite (λ_=>T1) (λ_=>Tot.ite (λ_=>k3 _) (λ_=>k3 _)))
theorem kr(hN:20000000<N)(hi:m.2.2.1.length<=1048576)(x:Tab)(hl:x.2.2.1.length<=1048576/\x.2.2.2.1.length<=1048576/\x.2.2.2.2.2.1.length<=1048576)(hr:TbR x):Tot (DX N m x.1 x.2.1 x.2.2.1 x.2.2.2.1 x.2.2.2.2.1 x.2.2.2.2.2.1 x.2.2.2.2.2.2):=by
 have k9: ∀b,Tot (DE b):=λb=>by unfold DE;exact T1
 have L4:Tot (AC N m x.2.2.2.1 x.2.2.2.2.1 x.2.2.2.2.2.1 x.2.2.2.2.2.2 N false 0):=by
  refine bo (P:=λi own=>(∀j,j<i->0<=(x.2.2.2.1[j]!)/\(x.2.2.2.1[j]!)<(m.2.2.2.2.2.1.length:Int))/\(own=true-> ∃j,j<i/\x.2.2.2.1[j]! =x.2.2.2.2.1)) x.2.2.2.1.length
   (λf s i=>AC N m x.2.2.2.1 x.2.2.2.2.1 x.2.2.2.2.2.1 x.2.2.2.2.2.2 f s i) (λf i s h hp hk=> ?_) (λf s hp=> ?_) x.2.2.2.1.length N 0 false (q6 _) (by omega) ⟨λj hj=>absurd hj (Nat.not_lt_zero j),λe=>by cases e⟩
  ·show Tot (AC N m x.2.2.2.1 x.2.2.2.2.1 x.2.2.2.2.2.1 x.2.2.2.2.2.2 (f+1) s (i:Int))
   have k5: ∀b:Bool,(b=false->0<=(x.2.2.2.1[i]!)/\(x.2.2.2.1[i]!)<(m.2.2.2.2.2.1.length:Int))->Tot (DF N x.2.2.2.1 x.2.2.2.2.1 s (i:Int) (AC N m x.2.2.2.1 x.2.2.2.2.1 x.2.2.2.2.2.1 x.2.2.2.2.2.2 f) b):=λb q=>by
    unfold DF
    refine Tot.ite (λ_=>T1) (λc=> ?_)
    have hin:=q (by simpa using c)
    have hall: ∀j,j<i+1->0<=(x.2.2.2.1[j]!)/\(x.2.2.2.1[j]!)<(m.2.2.2.2.2.1.length:Int):=λj hj=>by
     rcases Nat.lt_or_ge j i with h2|h2
     ·exact hp.1 j h2
     ·obtain rfl:j=i:=by omega
      exact hin
    refine Qe i (BW x.2.2.2.1 x.2.2.2.2.1 s (i:Int) (AC N m x.2.2.2.1 x.2.2.2.2.1 x.2.2.2.2.2.1 x.2.2.2.2.2.2 f)) (λg k hk2 hh=> ?_) (λg=> ?_) (by omega)
    ·rw [BW,if_pos (by omega),Af _ (by omega)];exact T1
    ·rw [BW,if_neg (by omega)]
     unfold Fq
     refine Tot.ite (λc=>Tot.ck (by omega) (hk _ ⟨hall,λ_=> ?_⟩)) (λ_=>Tot.ck (by omega) (hk _ ⟨hall,λe=>⟨i,by omega,by rw [q3] at e;simpa using e⟩⟩))
     obtain⟨j,h1,h2⟩:=hp.2 c
     exact⟨j,by omega,h2⟩
   rw [AC,if_pos (by omega),Af _ (by omega),q3]
   exact Tot.ite (λ_=>k5 _ λe=>by cases e) (λ_=>k5 _ λe=>by have:=of_decide_eq_false e;omega)
  ·show Tot (AC N m x.2.2.2.1 x.2.2.2.2.1 x.2.2.2.2.2.1 x.2.2.2.2.2.2 (f+1) s (x.2.2.2.1.length:Int))
   rw [AC,if_neg (by omega)]
   refine Tot.ite (λ_=>T1) (λ_=>Tot.ite (λc=> ?_) (λ_=>T1))
   obtain⟨j,h1,h2⟩:=hp.2 c
   have h3:=hp.1 j h1
   rw [h2] at h3
   exact(gm hN _ h3.1 h3.2 _ (by omega)).bind λ_ _=>Tot.ite (λ_=>T1) (λ_=>Tot.ite (λ_=>k9 _) (λ_=>k9 _))
 have k1: ∀b,Tot (DG N m x.2.2.1 x.2.2.2.1 x.2.2.2.2.1 x.2.2.2.2.2.1 x.2.2.2.2.2.2 b):=λb=>by
  unfold DG
  exact Tot.ite (λ_=>T1) (λ_=>Tot.ite (λ_=>T1) (λ_=>(kA hN hi _ (by omega) hr _).bind λ_ _=>Tot.ite (λ_=>T1) (λ_=>Tot.ite (λ_=>T1) (λ_=>L4))))
 unfold DX
 exact Tot.ite (λ_=>k1 _) (λ_=>k1 _)
theorem qr(hN:20000000<N)(hi:m.2.2.1.length<=1048576)(x:Nod)(hl:x.2.2.1.length<=1048576/\x.2.2.2.1.length<=1048576)(hr:CoR x.2.2.1)(i n:Int):Tot (EI N m x.1 x.2.1 x.2.2.1 x.2.2.2.1 x.2.2.2.2.1 x.2.2.2.2.2 i n):=by
 have k7:Tot (Eg x.2.2.2.2.1 i n):=by unfold Eg FD;exact T1
 have k9: ∀b,Tot (Ef x.2.2.2.2.1 i n b):=λb=>by unfold Ef;exact Tot.ite (λ_=>T1) (λ_=>k7)
 have k6:(x.1=2->0<=x.2.1/\x.2.1<(m.2.2.2.2.2.1.length:Int))->Tot (Eh N m x.1 x.2.1 x.2.2.2.1 x.2.2.2.2.1 x.2.2.2.2.2 i n):=λq=>by
  unfold Eh
  refine Tot.ite (λc=> ?_) (λ_=>Tot.ite (λ_=>T1) (λ_=>Tot.ite (λ_=>k9 _) (λ_=>k9 _)))
  exact(gm hN _ (q c).1 (q c).2 _ (by omega)).bind λ_ _=>Tot.ite (λ_=>T1) (λ_=>Tot.ite (λ_=>T1) (λ_=>k7))
 have k5: ∀b:Bool,(b=false->x.1=2->0<=x.2.1/\x.2.1<(m.2.2.2.2.2.1.length:Int))->Tot (CR N m x.1 x.2.1 x.2.2.1 x.2.2.2.1 x.2.2.2.2.1 x.2.2.2.2.2 i n b):=λb q=>by
  unfold CR
  refine Tot.ite (λ_=>T1) (λc=> ?_)
  have q':=q (by simpa using c)
  exact Tot.ite (λ_=>(gl hN hi _ (by omega) hr _).bind λ_ _=>Tot.ite (λ_=>T1) (λ_=>k6 q')) (λ_=>Tot.ite (λ_=>T1) (λ_=>k6 q'))
 have k4: ∀(h) (b:Bool),(b=false->x.1=2->0<=x.2.1/\x.2.1<(m.2.2.2.2.2.1.length:Int))->Tot (CS N m x.1 x.2.1 x.2.2.1 x.2.2.2.1 x.2.2.2.2.1 x.2.2.2.2.2 i n h b):=λh b q=>by
  unfold CS
  exact Tot.ite (λ_=>k5 _ λe=>by cases e) (λc=>Tot.ite (λd=>k5 _ λ_ e=>by omega) (λ_=>k5 _ λ_=>q (by simpa using c)))
 have k3: ∀(h) (b:Bool),(b=false->x.1=2->0<=x.2.1/\x.2.1<(m.2.2.2.2.2.1.length:Int))->Tot (Ch N m x.1 x.2.1 x.2.2.1 x.2.2.2.1 x.2.2.2.2.1 x.2.2.2.2.2 i n h b):=λh b q=>by
  unfold Ch
  exact Tot.ite (λ_=>k4 _ _ λe=>by cases e) (λc=>Tot.ite (λd=>k4 _ _ λ_ e=>by omega) (λ_=>k4 _ _ λ_=>q (by simpa using c)))
 have k2: ∀(h) (b:Bool),Tot (CT N m x.1 x.2.1 x.2.2.1 x.2.2.2.1 x.2.2.2.2.1 x.2.2.2.2.2 i n h b):=λh b=>by
  unfold CT
  exact Tot.ite (λ_=>k3 _ _ λe=>by cases e) (λ_=>Tot.ite (λ_=>Tot.ite (λ_=>k3 _ _ λe=>by cases e) (λ_=>k3 _ _ λe=>by have:=of_decide_eq_false e;omega)) (λd=>k3 _ _ λ_ e=>absurd e d))
 have k1: ∀b,Tot (Ei N m x.1 x.2.1 x.2.2.1 x.2.2.2.1 x.2.2.2.2.1 x.2.2.2.2.2 i n b):=λb=>by
  unfold Ei
  rw [Sy hN hi,q0]
  exact Tot.ite (λ_=>T1) (λ_=>Tot.ite (λ_=>Tot.ite (λ_=>k2 _ _) (λ_=>k2 _ _)) (λ_=>k2 _ _))
 unfold EI
 exact Tot.ite (λ_=>k1 _) (λ_=>k1 _)
theorem bH(hN:20000000<N)(hi:m.2.2.1.length<=1048576)(l:List Nod)(hl:l.length<=1048576)(hx: ∀i,i<l.length->(l[i]!).2.2.1.length<=1048576/\(l[i]!).2.2.2.1.length<=1048576)(hr: ∀i,i<l.length->NdR (l[i]!)):Tot (Ee N m l):=by
 unfold Ee
 refine Tot.ite (λ_=>T1) (λc=>Qe l.length (BY N m l) (λf i h hk=> ?_) (λf=> ?_) (by omega))
 ·rw [BY,if_pos (by omega),Af _ (by omega),q3]
  exact(qr hN hi (l[i]!) (hx i h) (hr i h).2 _ _).bind λ_ _=>T1
 ·rw [BY,if_neg (by omega)];exact T1
theorem gi(hN:20000000<N)(hi:m.2.2.1.length<=1048576)(hh: ∀h∈m.2.1,okW h.2.1/\h.2.1.length<=1048576)(l:List (Int×Int))(hl:l.length<=1048576):Tot (EH N m l):=by
 unfold EH
 refine Tot.ite (λ_=>T1) (λc=>Qe l.length (Cf N m l) (λf i h hk=> ?_) (λf=> ?_) (by omega))
 ·rw [Cf,if_pos (by omega),Af _ (by omega),Af _ (by omega),q3,Vo hN hi,q0,Sy hN hi,q0]
  split
  ·rename_i e
   refine Tot.ite (λ_=>Tot.ck (by omega) (Tot.ite (λ_=>T1) (λ_=>Tot.ck (by omega) (Tot.ck ⟨e.2.1,by omega⟩ ?_)))) (λ_=>T1)
   rcases fo m.2.1 m.2.2.1 (l[i]!).1 with⟨h,hm,e2⟩|e2
   ·have hw:=hh h hm
    have h1:okW (h.2.1.take ((l[i]!).2).toNat):=λx hx=>hw.1 x (List.mem_of_mem_take hx)
    have h2:(h.2.1.take ((l[i]!).2).toNat).length<=1048576:=by rw [q7];omega
    have h3:=Ol _ h1
    rw [e2,j0]
    dsimp only
    rw [iZ N hN _ _ _ _ _ _ h1 h2,q0]
    exact Tot.ck (by omega) (Tot.ite (λ_=>T1) (λ_=>T1))
   ·rw [e2] at e;cases e.1
  ·rw [if_neg (by decide)];exact T1
 ·rw [Cf,if_neg (by omega)];exact T1
end
end Go.Proofs.YtjlomkippigejaaGreatDoor
