import Derived.Test.YtjnanfkpdhmnpaaGreatDoorRt
set_option linter.unusedSimpArgs false
set_option linter.unusedVariables false
namespace Go.Proofs.YtjnanfkpdhmnpaaGreatDoor
open Go Go.RowKit Go.Eng
section
variable {N:Nat} (op:W2) (x y:Y0 Y3)
theorem uW(out:Y0 Y3)(i:Nat)(ho:out.length<=128)(hi:i<=128)(rec:Y0 Y3->Y3->Int->Y1 (Int×W3×Int))(hk: ∀bit c,Tot (rec (out++ [bit]) c ((i:Int)+1)))(n:Int)(b:Y3):Tot (Gf out (i:Int) rec n b):=by
 unfold Gf
 exact Tot.ck (by simp only [zg,zp];omega) (Tot.ck (by omega) (hk _ _))
theorem xn(out:Y0 Y3)(c:Y3)(i:Nat)(ho:out.length<=128)(hi:i<=128)(rec:Y0 Y3->Y3->Int->Y1 (Int×W3×Int))(hk: ∀bit c,Tot (rec (out++ [bit]) c ((i:Int)+1)))(b:Y3):Tot (Ge op x y out c (i:Int) rec b):=by
 have k22: ∀(q:Y3) (n:Int) (b:Y3),Tot (EM op x out (i:Int) rec q n b):=λq n b=>by
  unfold EM;exact Tot.ite (λ_=>uW out i ho hi rec hk _ _) (λ_=>uW out i ho hi rec hk _ _)
 have k20: ∀(q:Y3) (n:Int) (b:Y3),Tot (EN op x out (i:Int) rec q n b):=λq n b=>by
  unfold EN;exact Tot.ite (λ_=>Tot.ite (λ_=>k22 _ _ _) (λ_=>k22 _ _ _)) (λ_=>k22 _ _ _)
 have k18: ∀(q:Y3) (n:Int),0<=n->n<=3->Tot (Gg op x out (i:Int) rec q n):=λq n h0 h1=>by
  unfold Gg;exact Tot.ck (by omega) (Tot.ite (λ_=>Tot.ite (λ_=>k20 _ _ _) (λ_=>k20 _ _ _)) (λ_=>k20 _ _ _))
 have k16: ∀(q:Y3) (n:Int),0<=n->n<=2->Tot (Gh op x out c (i:Int) rec q n):=λq n h0 h1=>by
  unfold Gh;exact Tot.ite (λ_=>Tot.ck (by omega) (k18 _ _ (by omega) (by omega))) (λ_=>k18 _ _ (by omega) (by omega))
 have k14: ∀(q:Y3) (n:Int),0<=n->n<=1->Tot (Gi op x out c (i:Int) rec q n):=λq n h0 h1=>by
  unfold Gi;exact Tot.ite (λ_=>Tot.ck (by omega) (k16 _ _ (by omega) (by omega))) (λ_=>k16 _ _ (by omega) (by omega))
 have k12: ∀q:Y3,Tot (Gj op x out c (i:Int) rec q):=λq=>by
  unfold Gj;exact Tot.ite (λ_=>k14 _ _ (by omega) (by omega)) (λ_=>k14 _ _ (by omega) (by omega))
 unfold Ge
 exact Tot.ite (λ_=>k12 _) (λ_=>k12 _)
theorem xm(hN:20000000<N)(less c:Y3)(out:Y0 Y3)(ho:out.length<=128):Tot (AX N op less c N out 0):=by
 refine bN (P:=λ_ s=>s.length=out.length) out.length (λf s i=>AX N op less c f s i) (λf i s h hp hk=> ?_) (λf s hp=> ?_) out.length N 0 out (q7 _) (by omega) Z
 ·show Tot (AX N op less c (f+1) s (i:Int))
  have k31: ∀(s':Y0 Y3) (b:Y3),s'.length=out.length->Tot (Gc (i:Int) (AX N op less c f) s' b):=λs' b e=>by
   unfold Gc
   exact Tot.ite (λ_=>Tot.ck (by omega) (Tot.ck (by omega) (hk _ (by rw [zr];exact e)))) (λ_=>Tot.ck (by omega) (hk _ e))
  have k30: ∀s':Y0 Y3,s'.length=out.length->Tot (Gd op less (i:Int) (AX N op less c f) s'):=λs' e=>by
   unfold Gd;exact Tot.ite (λ_=>k31 _ _ e) (λ_=>k31 _ _ e)
  have k32: ∀b:Y3,Tot (Gb op less s (i:Int) (AX N op less c f) b):=λb=>by
   unfold Gb;exact Tot.ite (λ_=>Tot.ck (by omega) (k30 _ (by rw [zr];exact hp))) (λ_=>k30 _ hp)
  rw [AX,V8 (by omega)]
  exact Tot.ite (λ_=>k32 _) (λ_=>k32 _)
 ·show Tot (AX N op less c (f+1) s (out.length:Int))
  rw [AX,V9 (by omega),kW N (by omega) s (by omega)]
  exact Tot.it _
theorem xo(hN:20000000<N)(hx:x.length<=128)(hy:y.length=x.length)(less c:Y3):Tot (AI N op x y less N [] c 0):=by
 refine bN (σ:=Y0 Y3×Y3) (P:=λi s=>s.1.length=i) x.length (λf s i=>AI N op x y less f s.1 s.2 i) (λf i s h hp hk=> ?_) (λf s hp=> ?_) x.length N 0 ([],c) (q7 _) (by omega) Z
 ·show Tot (AI N op x y less (f+1) s.1 s.2 (i:Int))
  rw [AI,V8 (by omega),Af _ (by omega),Af _ (by omega)]
  have k:=xn op x y s.1 s.2 i (by omega) (by omega) (AI N op x y less f) (λbit c=>hk (s.1++ [bit],c) (by simp only [zf,zg,zp];omega))
  exact Tot.ite (λ_=>k _) (λ_=>k _)
 ·show Tot (AI N op x y less (f+1) s.1 s.2 (x.length:Int))
  rw [AI,V9 (by omega)]
  exact xm op hN _ _ _ (by omega)
theorem yJ(hN:20000000<N)(hx:x.length<=128)(hy:y.length=x.length)(a b:Y3):Tot (BU N op x y N a b 0):=by
 refine bN (σ:=Y3×Y3) (P:=λ_ _=>True) x.length (λf s i=>BU N op x y f s.1 s.2 i) (λf i s h _ hk=> ?_) (λf s _=> ?_) x.length N 0 (a,b) (q7 _) (by omega) trivial
 ·show Tot (BU N op x y (f+1) s.1 s.2 (i:Int))
  rw [BU,V8 (by omega),Af _ (by omega),Af _ (by omega)]
  exact Tot.ite (λ_=>Tot.ck (by omega) (Tot.ck (by omega) (hk (_,_) trivial))) (λ_=>Tot.ck (by omega) (hk (_,_) trivial))
 ·show Tot (BU N op x y (f+1) s.1 s.2 (x.length:Int))
  have k6: ∀b,Tot (HV N op x y s.1 b):=λb=>xo op x y hN hx hy s.1 b
  rw [BU,V9 (by omega),kW N (by omega) [s.2] (by simp),kW N (by omega) [s.1] (by simp)]
  exact Tot.ite (λ_=>Tot.it _) (λ_=>Tot.ite (λ_=>Tot.it _) (λ_=>Tot.ite (λ_=>k6 _) (λ_=>k6 _)))
end
theorem mD{w:Int}{x:W3}(h:SE w x=true):1<=w/\w<=128:=by
 unfold SE at h;simp only [Bool.and_eq_true,decide_eq_true_eq] at h;omega
theorem xr{N:Nat}(hN:20000000<N)(op:W2)(v:Int)(x:W3)(w:Int)(y:W3):Tot (If N op v x w y):=by
 have k1: ∀b:Y3,(b=false->SE v x=true/\SE w y=true)->Tot (GQ N op v x w y b):=λb h=>by
  unfold GQ
  refine Tot.ite (λ_=>Tot.it _) (λc=>Tot.ite (λ_=>Tot.it _) (λd=> ?_))
  have hm:=h (by simpa using c)
  have h1:=mD hm.1
  have h2:=mD hm.2
  rw [gJ N v x (by omega) (by omega) (by omega),q0,gJ N w y (by omega) (by omega) (by omega),q0]
  exact yJ op _ _ hN (by rw [RT];omega) (by rw [RT,RT];omega) _ _
 rw [If,TX,q0,TX,q0]
 exact Tot.ite (λc=>k1 _ λd=>⟨c,by simpa using d⟩) (λ_=>k1 _ λd=>by cases d)
section
variable {N:Nat} {m:Ao}
theorem jG(hN:20000000<N)(hi:m.2.2.1.length<=1048576)(a b c d:Int)(x:W3)(q:Int)(h0:0<=a)(h1:a<=34)(hb:b<=9223372036854775807):Tot (DX N m a b c d x q):=by
 have k10: ∀z,Tot (Db N m b z):=λz=>by
  unfold Db;rw [VN hN hi,q0];exact T1
 have k8: ∀z,Tot (Cf N m a b tab9 z):=λz=>by
  unfold Cf;rw [SW hN hi,q0];exact Tot.ite (λ_=>T1) (λ_=>Tot.ite (λ_=>k10 _) (λ_=>k10 _))
 have k6: ∀z,Tot (Dw N m a b tab9 z):=λz=>by
  unfold Dw
  exact Tot.ite (λ_=>T1) (λ_=>Tot.ite (λ_=>T1) (λ_=>Tot.ite (λ_=>T1) (λ_=>Tot.ite (λ_=>k8 _) (λ_=>Tot.ite (λ_=>k8 _) (λ_=>Tot.ite (λ_=>k8 _) (λ_=>k8 _))))))
 have k4: ∀z,Tot (Dx N m a b q tab9 z):=λz=>by
  unfold Dx
  exact Tot.ite (λ_=>(hY b hb).bind λ_ _=>T1) (λ_=>Tot.ite (λ_=>T1) (λ_=>Tot.ite (λ_=>k6 _) (λ_=>k6 _)))
 have k2: ∀z,Tot (Dy N m a b c q tab9 z):=λz=>by
  unfold Dy;rw [VP hN hi,q0]
  exact Tot.ite (λ_=>T1) (λ_=>Tot.ite (λ_=>k4 _) (λ_=>k4 _))
 rw [DX,ZL,q0,Af _ (by rw [VE];omega)]
 exact Tot.ite (λ_=>k2 _) (λ_=>k2 _)
theorem hZ(hN:20000000<N)(hi:m.2.2.1.length<=1048576)(l:Y0 I9)(hl:l.length<=1048576)(hr:CoR l)(q:Int):Tot (Gz N m l q):=by
 have L5:(∀i,i<l.length->OL (l[i]!)=0)->Tot (AV N m l q N 0):=λhm=>by
  refine QJ l.length (AV N m l q) (λf i h hk=> ?_) (λf=> ?_) (by omega)
  ·have ho:0<=(l[i]!).1/\(l[i]!).1<=34:=by
    have:=hm i h
    unfold OL Qt at this
    by_cases c:0<=(l[i]!).1/\(l[i]!).1<=34
    ·exact c
    ·rw [V9 c] at this;cases this
   rw [AV,V8 (by omega),Af _ (by omega),q4]
   refine(jG hN hi _ _ _ _ _ _ ho.1 ho.2 (hr i h)).bind λ_ _=>Tot.ite (λ_=> ?_) (λ_=>T1)
   rw [ZL,q0,Af _ (by omega),Af _ (by rw [VE];omega)]
   have k10: ∀b,Tot (CM (i:Int) (AV N m l q f) b):=λb=>by unfold CM;exact T1
   have k9: ∀t,Tot (EB l (i:Int) (AV N m l q f) t):=λt=>by
    unfold EB;exact Tot.ite (λ_=>Tot.ite (λ_=>k10 _) (λ_=>k10 _)) (λ_=>k10 _)
   have k7: ∀t,Tot (EC l (i:Int) (AV N m l q f) tab9 t):=λt=>by
    unfold EC;exact Tot.ite (λ_=>Tot.ck (by omega) (k9 _)) (λ_=>k9 _)
   exact Tot.ite (λ_=>Tot.ck (by omega) (k7 _)) (λ_=>k7 _)
  ·rw [AV,V9 (by omega)];exact T1
 refine VD (P:=λi=> ∀j,j<i->OL (l[j]!)=0) (min l.length 64) (BD N m l q) (λf i h hp hk=> ?_) (λf hp=> ?_) (min l.length 64) N 0 (q7 _) (by omega) (λj hj=>absurd hj (Nat.not_lt_zero j))
 ·rw [BD,V8 (by omega),Di,zl (by omega),V8 Z,Af _ (by omega),q4,jN,q0]
  refine Tot.ite (λ_=>T1) (λc=>Tot.ck (by omega) (hk λj hj=> ?_))
  rcases Nat.lt_or_ge j i with h2|h2
  ·exact hp j h2
  ·obtain rfl:j=i:=by omega
   exact Classical.not_not.1 c
 ·have k3:Tot (Di N m l q ((min l.length 64:Nat):Int) (BD N m l q f) false):=by
   rw [Di,V9 (by decide)]
   exact Tot.ite (λ_=>T1) (λc=>L5 λi hi=>hp i (by omega))
  rw [BD]
  refine Tot.ite (λc=> ?_) (λ_=>k3)
  rw [zk (by omega)];exact k3
theorem lD(hN:20000000<N)(hi:m.2.2.1.length<=1048576)(s:Stt)(hl:s.2.1.length<=1048576/\s.2.2.1.length<=1048576/\s.2.2.2.1.length<=1048576)(hr:StR s):Tot (Ek N m s.1 s.2.1 s.2.2.1 s.2.2.2.1 s.2.2.2.2):=by
 have nx: ∀n,Tot (ET N m n):=λn=>by unfold ET;exact T1
 have L5: ∀r:Int×Y3,Tot (AP N m s.2.2.2.1 s.2.2.2.2 r N 0):=λr=>by
  refine QJ s.2.2.2.1.length (AP N m s.2.2.2.1 s.2.2.2.2 r) (λf i h hk=> ?_) (λf=> ?_) (by omega)
  ·have k8: ∀b,Tot (DT N m s.2.2.2.1 (i:Int) (AP N m s.2.2.2.1 s.2.2.2.2 r f) b):=λb=>by
    unfold DT
    exact Tot.ite (λ_=>T1) (λ_=>(xr hN _ _ _ _ _).bind λ_ _=>Tot.ite (λ_=>(nx _).bind λ_ _=>T1) (λ_=>T1))
   have k7: ∀b,Tot (DU N m s.2.2.2.1 r (i:Int) (AP N m s.2.2.2.1 s.2.2.2.2 r f) b):=λb=>by
    unfold DU;exact Tot.ite (λ_=>k8 _) (λ_=>k8 _)
   have k6: ∀b,Tot (DV N m s.2.2.2.1 r (i:Int) (AP N m s.2.2.2.1 s.2.2.2.2 r f) b):=λb=>by
    unfold DV;exact Tot.ite (λ_=>k7 _) (λ_=>k7 _)
   rw [AP,V8 (by omega),Af _ (by omega),TX,q0,TX,q0]
   exact Tot.ite (λ_=>k6 _) (λ_=>k6 _)
  ·rw [AP,V9 (by omega)]
   exact(nx _).bind λ_ _=>T1
 have k3: ∀b,Tot (DW N m s.2.2.1 s.2.2.2.1 s.2.2.2.2 b):=λb=>by
  unfold DW
  exact Tot.ite (λ_=>T1) (λ_=>(lO hN hi _ (by omega) hr.2).bind λr _=>L5 r)
 unfold Ek
 refine Tot.ite (λ_=>T1) (λ_=>QJ s.2.1.length (Cj N m s.2.1 s.2.2.1 s.2.2.2.1 s.2.2.2.2) (λf i h hk=> ?_) (λf=> ?_) (by omega))
 ·rw [Cj,V8 (by omega),Af _ (by omega)]
  exact(vK hN hi _ _).bind λ_ _=>T1
 ·rw [Cj,V9 (by omega)]
  exact(lH hN hi _ (by omega) hr.2 _).bind λ_ _=>Tot.ite (λ_=>T1) (λ_=>Tot.ite (λ_=>T1) (λ_=>Tot.ite (λ_=>k3 _) (λ_=>k3 _)))
theorem lC(hN:20000000<N)(hi:m.2.2.1.length<=1048576)(x:Tab)(hl:x.2.2.1.length<=1048576/\x.2.2.2.1.length<=1048576/\x.2.2.2.2.2.1.length<=1048576)(hr:TbR x):Tot (Ej N m x.1 x.2.1 x.2.2.1 x.2.2.2.1 x.2.2.2.2.1 x.2.2.2.2.2.1 x.2.2.2.2.2.2):=by
 have k9: ∀b,Tot (DQ b):=λb=>by unfold DQ;exact T1
 have L4:Tot (AH N m x.2.2.2.1 x.2.2.2.2.1 x.2.2.2.2.2.1 x.2.2.2.2.2.2 N false 0):=by
  refine bN (P:=λi own=>(∀j,j<i->0<=(x.2.2.2.1[j]!)/\(x.2.2.2.1[j]!)<(m.2.2.2.2.2.1.length:Int))/\(own=true-> ∃j,j<i/\x.2.2.2.1[j]! =x.2.2.2.2.1)) x.2.2.2.1.length
   (λf s i=>AH N m x.2.2.2.1 x.2.2.2.2.1 x.2.2.2.2.2.1 x.2.2.2.2.2.2 f s i) (λf i s h hp hk=> ?_) (λf s hp=> ?_) x.2.2.2.1.length N 0 false (q7 _) (by omega) ⟨λj hj=>absurd hj (Nat.not_lt_zero j),λe=>by cases e⟩
  ·show Tot (AH N m x.2.2.2.1 x.2.2.2.2.1 x.2.2.2.2.2.1 x.2.2.2.2.2.2 (f+1) s (i:Int))
   have k5: ∀b:Y3,(b=false->0<=(x.2.2.2.1[i]!)/\(x.2.2.2.1[i]!)<(m.2.2.2.2.2.1.length:Int))->Tot (DR N x.2.2.2.1 x.2.2.2.2.1 s (i:Int) (AH N m x.2.2.2.1 x.2.2.2.2.1 x.2.2.2.2.2.1 x.2.2.2.2.2.2 f) b):=λb q=>by
    unfold DR
    refine Tot.ite (λ_=>T1) (λc=> ?_)
    have hin:=q (by simpa using c)
    have hall: ∀j,j<i+1->0<=(x.2.2.2.1[j]!)/\(x.2.2.2.1[j]!)<(m.2.2.2.2.2.1.length:Int):=λj hj=>by
     rcases Nat.lt_or_ge j i with h2|h2
     ·exact hp.1 j h2
     ·obtain rfl:j=i:=by omega
      exact hin
    refine QJ i (Ci x.2.2.2.1 x.2.2.2.2.1 s (i:Int) (AH N m x.2.2.2.1 x.2.2.2.2.1 x.2.2.2.2.2.1 x.2.2.2.2.2.2 f)) (λg k hk2 hh=> ?_) (λg=> ?_) (by omega)
    ·rw [Ci,V8 (by omega),Af _ (by omega)];exact T1
    ·rw [Ci,V9 (by omega)]
     unfold FG
     refine Tot.ite (λc=>Tot.ck (by omega) (hk _ ⟨hall,λ_=> ?_⟩)) (λ_=>Tot.ck (by omega) (hk _ ⟨hall,λe=>⟨i,by omega,by rw [q4] at e;simpa using e⟩⟩))
     obtain⟨j,h1,h2⟩:=hp.2 c
     exact⟨j,by omega,h2⟩
   rw [AH,V8 (by omega),Af _ (by omega),q4]
   exact Tot.ite (λ_=>k5 _ λe=>by cases e) (λ_=>k5 _ λe=>by have:=of_decide_eq_false e;omega)
  ·show Tot (AH N m x.2.2.2.1 x.2.2.2.2.1 x.2.2.2.2.2.1 x.2.2.2.2.2.2 (f+1) s (x.2.2.2.1.length:Int))
   rw [AH,V9 (by omega)]
   refine Tot.ite (λ_=>T1) (λ_=>Tot.ite (λc=> ?_) (λ_=>T1))
   obtain⟨j,h1,h2⟩:=hp.2 c
   have h3:=hp.1 j h1
   rw [h2] at h3
   exact(ia hN _ h3.1 h3.2 _ (by omega)).bind λ_ _=>Tot.ite (λ_=>T1) (λ_=>Tot.ite (λ_=>k9 _) (λ_=>k9 _))
 have k1: ∀b,Tot (DS N m x.2.2.1 x.2.2.2.1 x.2.2.2.2.1 x.2.2.2.2.2.1 x.2.2.2.2.2.2 b):=λb=>by
  unfold DS
  exact Tot.ite (λ_=>T1) (λ_=>Tot.ite (λ_=>T1) (λ_=>(lH hN hi _ (by omega) hr _).bind λ_ _=>Tot.ite (λ_=>T1) (λ_=>Tot.ite (λ_=>T1) (λ_=>L4))))
 unfold Ej
 exact Tot.ite (λ_=>k1 _) (λ_=>k1 _)
theorem rK(hN:20000000<N)(hi:m.2.2.1.length<=1048576)(x:Nod)(hl:x.2.2.1.length<=1048576/\x.2.2.2.1.length<=1048576)(hr:CoR x.2.2.1)(i n:Int):Tot (ES N m x.1 x.2.1 x.2.2.1 x.2.2.2.1 x.2.2.2.2.1 x.2.2.2.2.2 i n):=by
 have k7:Tot (Eu x.2.2.2.2.1 i n):=by unfold Eu FT;exact T1
 have k9: ∀b,Tot (Et x.2.2.2.2.1 i n b):=λb=>by unfold Et;exact Tot.ite (λ_=>T1) (λ_=>k7)
 have k6:(x.1=2->0<=x.2.1/\x.2.1<(m.2.2.2.2.2.1.length:Int))->Tot (Ev N m x.1 x.2.1 x.2.2.2.1 x.2.2.2.2.1 x.2.2.2.2.2 i n):=λq=>by
  unfold Ev
  refine Tot.ite (λc=> ?_) (λ_=>Tot.ite (λ_=>T1) (λ_=>Tot.ite (λ_=>k9 _) (λ_=>k9 _)))
  exact(ia hN _ (q c).1 (q c).2 _ (by omega)).bind λ_ _=>Tot.ite (λ_=>T1) (λ_=>Tot.ite (λ_=>T1) (λ_=>k7))
 have k5: ∀b:Y3,(b=false->x.1=2->0<=x.2.1/\x.2.1<(m.2.2.2.2.2.1.length:Int))->Tot (Dc N m x.1 x.2.1 x.2.2.1 x.2.2.2.1 x.2.2.2.2.1 x.2.2.2.2.2 i n b):=λb q=>by
  unfold Dc
  refine Tot.ite (λ_=>T1) (λc=> ?_)
  have q':=q (by simpa using c)
  exact Tot.ite (λ_=>(hZ hN hi _ (by omega) hr _).bind λ_ _=>Tot.ite (λ_=>T1) (λ_=>k6 q')) (λ_=>Tot.ite (λ_=>T1) (λ_=>k6 q'))
 have k4: ∀(h) (b:Y3),(b=false->x.1=2->0<=x.2.1/\x.2.1<(m.2.2.2.2.2.1.length:Int))->Tot (Dd N m x.1 x.2.1 x.2.2.1 x.2.2.2.1 x.2.2.2.2.1 x.2.2.2.2.2 i n h b):=λh b q=>by
  unfold Dd
  exact Tot.ite (λ_=>k5 _ λe=>by cases e) (λc=>Tot.ite (λd=>k5 _ λ_ e=>by omega) (λ_=>k5 _ λ_=>q (by simpa using c)))
 have k3: ∀(h) (b:Y3),(b=false->x.1=2->0<=x.2.1/\x.2.1<(m.2.2.2.2.2.1.length:Int))->Tot (Cw N m x.1 x.2.1 x.2.2.1 x.2.2.2.1 x.2.2.2.2.1 x.2.2.2.2.2 i n h b):=λh b q=>by
  unfold Cw
  exact Tot.ite (λ_=>k4 _ _ λe=>by cases e) (λc=>Tot.ite (λd=>k4 _ _ λ_ e=>by omega) (λ_=>k4 _ _ λ_=>q (by simpa using c)))
 have k2: ∀(h) (b:Y3),Tot (De N m x.1 x.2.1 x.2.2.1 x.2.2.2.1 x.2.2.2.2.1 x.2.2.2.2.2 i n h b):=λh b=>by
  unfold De
  exact Tot.ite (λ_=>k3 _ _ λe=>by cases e) (λ_=>Tot.ite (λ_=>Tot.ite (λ_=>k3 _ _ λe=>by cases e) (λ_=>k3 _ _ λe=>by have:=of_decide_eq_false e;omega)) (λd=>k3 _ _ λ_ e=>absurd e d))
 have k1: ∀b,Tot (Ew N m x.1 x.2.1 x.2.2.1 x.2.2.2.1 x.2.2.2.2.1 x.2.2.2.2.2 i n b):=λb=>by
  unfold Ew
  rw [SW hN hi,q0]
  exact Tot.ite (λ_=>T1) (λ_=>Tot.ite (λ_=>Tot.ite (λ_=>k2 _ _) (λ_=>k2 _ _)) (λ_=>k2 _ _))
 unfold ES
 exact Tot.ite (λ_=>k1 _) (λ_=>k1 _)
theorem ca(hN:20000000<N)(hi:m.2.2.1.length<=1048576)(l:Y0 Nod)(hl:l.length<=1048576)(hx: ∀i,i<l.length->(l[i]!).2.2.1.length<=1048576/\(l[i]!).2.2.2.1.length<=1048576)(hr: ∀i,i<l.length->NdR (l[i]!)):Tot (Es N m l):=by
 unfold Es
 refine Tot.ite (λ_=>T1) (λc=>QJ l.length (Ck N m l) (λf i h hk=> ?_) (λf=> ?_) (by omega))
 ·rw [Ck,V8 (by omega),Af _ (by omega),q4]
  exact(rK hN hi (l[i]!) (hx i h) (hr i h).2 _ _).bind λ_ _=>T1
 ·rw [Ck,V9 (by omega)];exact T1
theorem gY(hN:20000000<N)(hi:m.2.2.1.length<=1048576)(hh: ∀h∈m.2.1,okW h.2.1/\h.2.1.length<=1048576)(l:Y0 (Int×Int))(hl:l.length<=1048576):Tot (ER N m l):=by
 unfold ER
 refine Tot.ite (λ_=>T1) (λc=>QJ l.length (Cu N m l) (λf i h hk=> ?_) (λf=> ?_) (by omega))
 ·rw [Cu,V8 (by omega),Af _ (by omega),Af _ (by omega),q4,VP hN hi,q0,SW hN hi,q0]
  split
  ·rename_i e
   refine Tot.ite (λ_=>Tot.ck (by omega) (Tot.ite (λ_=>T1) (λ_=>Tot.ck (by omega) (Tot.ck ⟨e.2.1,by omega⟩ ?_)))) (λ_=>T1)
   rcases fX m.2.1 m.2.2.1 (l[i]!).1 with⟨h,hm,e2⟩|e2
   ·have hw:=hh h hm
    have h1:okW (h.2.1.take ((l[i]!).2).toNat):=λx hx=>hw.1 x (List.mem_of_mem_take hx)
    have h2:(h.2.1.take ((l[i]!).2).toNat).length<=1048576:=by rw [q8];omega
    have h3:=OK _ h1
    rw [e2,j8]
    dsimp only
    rw [jP N hN _ _ _ _ _ _ h1 h2,q0]
    exact Tot.ck (by omega) (Tot.ite (λ_=>T1) (λ_=>T1))
   ·rw [e2] at e;cases e.1
  ·rw [V9 (by decide)];exact T1
 ·rw [Cu,V9 (by omega)];exact T1
end
end Go.Proofs.YtjnanfkpdhmnpaaGreatDoor
