import Derived.Test.YtoolcgbcfgnipaaGreatDoorRu
set_option linter.unusedSimpArgs false
set_option linter.unusedVariables false
namespace Go.Proofs.YtoolcgbcfgnipaaGreatDoor
open Go Go.RowKit Go.Eng
section
variable {N:Nat} {m:Ao} {p:Int} (hN:20000000<N)
include hN
theorem tn1(s:List (List UInt8))(h:p≠1):SD N m p N s 0=QH N m p N s 0:=by
 obtain⟨f,rfl⟩: ∃n,N=n+1:=⟨N - 1,by omega⟩
 rw [SD,Pn,ze h]
 split<;>(rw [dq,if_neg (by decide)])
theorem ty1(hl:m.2.1.length≤1048576)(h:p=1):SD N m p N [] 0=QH N m p N (m.2.1.map (·.1)) 0:=
 NC m.2.1 (·.1) (SD N m p) (fun s=>QH N m p N s 0) (fun f i s h1 h2=>by
  rw [SD,if_pos (by omega),Pn,zf h,dq,if_pos rfl,Aj _ (by omega),Aj _ (by simp only [za,zj];omega),Aj _ (by omega),q3];rfl)
  (fun f s=>by rw [SD,if_neg (by omega),dq,if_neg (by decide)]) m.2.1.length N 0 (q6 _) (by omega)
theorem tn3(s:List (List UInt8))(h:p≠3):QH N m p N s 0=MI N m p N s 0:=by
 obtain⟨f,rfl⟩: ∃n,N=n+1:=⟨N - 1,by omega⟩
 rw [QH,Pn,ze h]
 split<;>(rw [dn,if_neg (by decide)])
theorem ty3(hl:m.2.2.2.1.length≤1048576)(h:p=3):QH N m p N [] 0=MI N m p N (m.2.2.2.1.map (·.1)) 0:=
 NC m.2.2.2.1 (·.1) (QH N m p) (fun s=>MI N m p N s 0) (fun f i s h1 h2=>by
  rw [QH,if_pos (by omega),Pn,zf h,dn,if_pos rfl,Aj _ (by omega),Aj _ (by simp only [za,zj];omega),Aj _ (by omega),q3];rfl)
  (fun f s=>by rw [QH,if_neg (by omega),dn,if_neg (by decide)]) m.2.2.2.1.length N 0 (q6 _) (by omega)
theorem tn4(s:List (List UInt8))(h:p≠4):MI N m p N s 0=MH N m p N s 0:=by
 obtain⟨f,rfl⟩: ∃n,N=n+1:=⟨N - 1,by omega⟩
 rw [MI,Pn,ze h]
 split<;>(rw [Uw,if_neg (by decide)])
theorem ty4(hl:m.2.2.2.2.1.length≤1048576)(h:p=4):MI N m p N [] 0=MH N m p N (m.2.2.2.2.1.map (·.1)) 0:=
 NC m.2.2.2.2.1 (·.1) (MI N m p) (fun s=>MH N m p N s 0) (fun f i s h1 h2=>by
  rw [MI,if_pos (by omega),Pn,zf h,Uw,if_pos rfl,Aj _ (by omega),Aj _ (by simp only [za,zj];omega),Aj _ (by omega),q3];rfl)
  (fun f s=>by rw [MI,if_neg (by omega),Uw,if_neg (by decide)]) m.2.2.2.2.1.length N 0 (q6 _) (by omega)
theorem tn5(s:List (List UInt8))(h:p≠5):MH N m p N s 0=MG N m p N s 0:=by
 obtain⟨f,rfl⟩: ∃n,N=n+1:=⟨N - 1,by omega⟩
 rw [MH,Pn,ze h]
 split<;>(rw [Uv,if_neg (by decide)])
theorem ty5(hl:m.2.2.2.2.2.1.length≤1048576)(h:p=5):MH N m p N [] 0=MG N m p N (m.2.2.2.2.2.1.map (·.1)) 0:=
 NC m.2.2.2.2.2.1 (·.1) (MH N m p) (fun s=>MG N m p N s 0) (fun f i s h1 h2=>by
  rw [MH,if_pos (by omega),Pn,zf h,Uv,if_pos rfl,Aj _ (by omega),Aj _ (by simp only [za,zj];omega),Aj _ (by omega),q3];rfl)
  (fun f s=>by rw [MH,if_neg (by omega),Uv,if_neg (by decide)]) m.2.2.2.2.2.1.length N 0 (q6 _) (by omega)
theorem tn6(s:List (List UInt8))(h:p≠6):MG N m p N s 0=MF N m p N s 0:=by
 obtain⟨f,rfl⟩: ∃n,N=n+1:=⟨N - 1,by omega⟩
 rw [MG,Pn,ze h]
 split<;>(rw [Uu,if_neg (by decide)])
theorem ty6(hl:m.2.2.2.2.2.2.1.length≤1048576)(h:p=6):MG N m p N [] 0=MF N m p N (m.2.2.2.2.2.2.1.map (·.1)) 0:=
 NC m.2.2.2.2.2.2.1 (·.1) (MG N m p) (fun s=>MF N m p N s 0) (fun f i s h1 h2=>by
  rw [MG,if_pos (by omega),Pn,zf h,Uu,if_pos rfl,Aj _ (by omega),Aj _ (by simp only [za,zj];omega),Aj _ (by omega),q3];rfl)
  (fun f s=>by rw [MG,if_neg (by omega),Uu,if_neg (by decide)]) m.2.2.2.2.2.2.1.length N 0 (q6 _) (by omega)
theorem fX(s:List (List UInt8))(h:p≠12):MF N m p N s 0=ME N m p N s 0:=by
 obtain⟨f,rfl⟩: ∃n,N=n+1:=⟨N - 1,by omega⟩
 rw [MF,Pn,ze h]
 split<;>(rw [Ut,if_neg (by decide)])
theorem vL(hl:m.2.2.2.2.2.2.2.2.2.2.2.2.1.length≤1048576)(h:p=12):MF N m p N [] 0=ME N m p N (m.2.2.2.2.2.2.2.2.2.2.2.2.1.map (·.1)) 0:=
 NC m.2.2.2.2.2.2.2.2.2.2.2.2.1 (·.1) (MF N m p) (fun s=>ME N m p N s 0) (fun f i s h1 h2=>by
  rw [MF,if_pos (by omega),Pn,zf h,Ut,if_pos rfl,Aj _ (by omega),Aj _ (by simp only [za,zj];omega),Aj _ (by omega),q3];rfl)
  (fun f s=>by rw [MF,if_neg (by omega),Ut,if_neg (by decide)]) m.2.2.2.2.2.2.2.2.2.2.2.2.1.length N 0 (q6 _) (by omega)
theorem cZ(s:List (List UInt8))(h:p≠13):ME N m p N s 0=MD m p N s 0:=by
 obtain⟨f,rfl⟩: ∃n,N=n+1:=⟨N - 1,by omega⟩
 rw [ME,Pn,ze h]
 split<;>(rw [Us,if_neg (by decide)])
theorem vK(hl:m.2.2.2.2.2.2.2.2.2.2.2.2.2.1.length≤1048576)(h:p=13):ME N m p N [] 0=MD m p N (m.2.2.2.2.2.2.2.2.2.2.2.2.2.1.map (·.1)) 0:=
 NC m.2.2.2.2.2.2.2.2.2.2.2.2.2.1 (·.1) (ME N m p) (fun s=>MD m p N s 0) (fun f i s h1 h2=>by
  rw [ME,if_pos (by omega),Pn,zf h,Us,if_pos rfl,Aj _ (by omega),Aj _ (by simp only [za,zj];omega),Aj _ (by omega),q3];rfl)
  (fun f s=>by rw [ME,if_neg (by omega),Us,if_neg (by decide)]) m.2.2.2.2.2.2.2.2.2.2.2.2.2.1.length N 0 (q6 _) (by omega)
theorem ZI(s:List (List UInt8))(h:p≠14):MD m p N s 0=some s:=by
 obtain⟨f,rfl⟩: ∃n,N=n+1:=⟨N - 1,by omega⟩
 rw [MD,Pn,ze h]
 split<;>(rw [Ur,if_neg (by decide)])
theorem vJ(hl:m.2.2.2.2.2.2.2.2.2.2.2.2.2.2.1.length≤1048576)(h:p=14):MD m p N [] 0=some (m.2.2.2.2.2.2.2.2.2.2.2.2.2.2.1.map (·.1)):=
 NC m.2.2.2.2.2.2.2.2.2.2.2.2.2.2.1 (·.1) (MD m p) (fun s=>some s) (fun f i s h1 h2=>by
  rw [MD,if_pos (by omega),Pn,zf h,Ur,if_pos rfl,Aj _ (by omega),Aj _ (by simp only [za,zj];omega),Aj _ (by omega),q3];rfl)
  (fun f s=>by rw [MD,if_neg (by omega),Ur,if_neg (by decide)]) m.2.2.2.2.2.2.2.2.2.2.2.2.2.2.1.length N 0 (q6 _) (by omega)
theorem gf(hT: ∀c:Nat,c<15→(Bt m (c:Int)).length≤1048576):rTm N m p=some (Bt m p):=by
 have h1:m.2.1.length≤1048576:=by have:=hT 1 (by omega);simpa [Bt] using this
 have h3:m.2.2.2.1.length≤1048576:=by have:=hT 3 (by omega);simpa [Bt] using this
 have h4:m.2.2.2.2.1.length≤1048576:=by have:=hT 4 (by omega);simpa [Bt] using this
 have h5:m.2.2.2.2.2.1.length≤1048576:=by have:=hT 5 (by omega);simpa [Bt] using this
 have h6:m.2.2.2.2.2.2.1.length≤1048576:=by have:=hT 6 (by omega);simpa [Bt] using this
 have h12:m.2.2.2.2.2.2.2.2.2.2.2.2.1.length≤1048576:=by have:=hT 12 (by omega);simpa [Bt] using this
 have h13:m.2.2.2.2.2.2.2.2.2.2.2.2.2.1.length≤1048576:=by have:=hT 13 (by omega);simpa [Bt] using this
 have h14:m.2.2.2.2.2.2.2.2.2.2.2.2.2.2.1.length≤1048576:=by have:=hT 14 (by omega);simpa [Bt] using this
 unfold rTm Bt
 by_cases c1:p=1
 ·rw [if_pos c1,ty1 hN h1 c1,tn3 (m:=m) (p:=p) hN _ (by omega),tn4 (m:=m) (p:=p) hN _ (by omega),tn5 (m:=m) (p:=p) hN _ (by omega),tn6 (m:=m) (p:=p) hN _ (by omega),fX (m:=m) (p:=p) hN _ (by omega),cZ (m:=m) (p:=p) hN _ (by omega),ZI (m:=m) (p:=p) hN _ (by omega)]
 rw [if_neg c1,tn1 hN _ c1]
 by_cases c3:p=3
 ·rw [if_pos c3,ty3 hN h3 c3,tn4 (m:=m) (p:=p) hN _ (by omega),tn5 (m:=m) (p:=p) hN _ (by omega),tn6 (m:=m) (p:=p) hN _ (by omega),fX (m:=m) (p:=p) hN _ (by omega),cZ (m:=m) (p:=p) hN _ (by omega),ZI (m:=m) (p:=p) hN _ (by omega)]
 rw [if_neg c3,tn3 hN _ c3]
 by_cases c4:p=4
 ·rw [if_pos c4,ty4 hN h4 c4,tn5 (m:=m) (p:=p) hN _ (by omega),tn6 (m:=m) (p:=p) hN _ (by omega),fX (m:=m) (p:=p) hN _ (by omega),cZ (m:=m) (p:=p) hN _ (by omega),ZI (m:=m) (p:=p) hN _ (by omega)]
 rw [if_neg c4,tn4 hN _ c4]
 by_cases c5:p=5
 ·rw [if_pos c5,ty5 hN h5 c5,tn6 (m:=m) (p:=p) hN _ (by omega),fX (m:=m) (p:=p) hN _ (by omega),cZ (m:=m) (p:=p) hN _ (by omega),ZI (m:=m) (p:=p) hN _ (by omega)]
 rw [if_neg c5,tn5 hN _ c5]
 by_cases c6:p=6
 ·rw [if_pos c6,ty6 hN h6 c6,fX (m:=m) (p:=p) hN _ (by omega),cZ (m:=m) (p:=p) hN _ (by omega),ZI (m:=m) (p:=p) hN _ (by omega)]
 rw [if_neg c6,tn6 hN _ c6]
 by_cases c12:p=12
 ·rw [if_pos c12,vL hN h12 c12,cZ (m:=m) (p:=p) hN _ (by omega),ZI (m:=m) (p:=p) hN _ (by omega)]
 rw [if_neg c12,fX hN _ c12]
 by_cases c13:p=13
 ·rw [if_pos c13,vK hN h13 c13,ZI (m:=m) (p:=p) hN _ (by omega)]
 rw [if_neg c13,cZ hN _ c13]
 by_cases c14:p=14
 ·rw [if_pos c14,vJ hN h14 c14]
 rw [if_neg c14,ZI hN _ c14]
end
section
variable {N:Nat} {m:Ao}
theorem iW(hN:20000000<N)(hL:Lit m)(hR:Rg m)(p:Int)(i:Nat)(hi:i<(Bt m p).length):Tot (Fa N m p (i:Int)):=by
 have hil:m.2.2.1.length≤1048576:=by have:=hL.il;omega
 have k3: ∀b,Tot (Dj b):=fun b=>by unfold Dj;exact T1
 have k2: ∀n,Tot (BC n):=fun n=>by unfold BC;exact Tot.ite (fun _=>k3 _) (fun _=>k3 _)
 have k4: ∀b,Tot (Di b):=fun b=>by unfold Di;exact Tot.ite (fun _=>T1) (fun _=>k2 _)
 have e3:p=3→i<m.2.2.2.1.length:=fun e=>by subst e;simpa [Bt] using hi
 have e4:p=4→i<m.2.2.2.2.1.length:=fun e=>by subst e;simpa [Bt] using hi
 have e5:p=5→i<m.2.2.2.2.2.1.length:=fun e=>by subst e;simpa [Bt] using hi
 have e6:p=6→i<m.2.2.2.2.2.2.1.length:=fun e=>by subst e;simpa [Bt] using hi
 have e12:p=12→i<m.2.2.2.2.2.2.2.2.2.2.2.2.1.length:=fun e=>by subst e;simpa [Bt] using hi
 have e13:p=13→i<m.2.2.2.2.2.2.2.2.2.2.2.2.2.1.length:=fun e=>by subst e;simpa [Bt] using hi
 have e14:p=14→i<m.2.2.2.2.2.2.2.2.2.2.2.2.2.2.1.length:=fun e=>by subst e;simpa [Bt] using hi
 unfold Fa
 rw [q3]
 refine Tot.ite (fun c=>Tot.ck (by have:=e3 c;omega) (Tot.ite (fun _=>k4 _) (fun _=>Tot.ck (by have:=e3 c;omega) (k4 _)))) (fun _=> ?_)
 refine Tot.ite (fun c=>Tot.ck (by have:=e4 c;omega) ((iY hN hil (m.2.2.2.2.1[i]!) (hL.st i (e4 c)) (hR.st _ (EI (e4 c)))).bind fun _ _=>T1)) (fun _=> ?_)
 refine Tot.ite (fun c=>Tot.ck (by have:=e5 c;omega) (Tot.ite (fun _=>T1) (fun _=> ?_))) (fun _=> ?_)
 ·have hac:=hL.ac i (e5 c)
  refine Pw ((m.2.2.2.2.2.1)[i]!.2.1).length (Bk N m (i:Int)) (fun f j h hk=> ?_) (fun f=> ?_) (by omega)
  ·have k7: ∀b,Tot (Dh (j:Int) (Bk N m (i:Int) f) b):=fun b=>by unfold Dh;exact T1
   rw [Bk,q3,if_pos (by omega),Aj _ (by omega)]
   exact Tot.ite (fun _=>k7 _) (fun _=>Tot.ck (by omega) (k7 _))
  ·rw [Bk,q3,if_neg (by omega)]
   exact(eP hN hil _ (by omega) (hR.ac _ (EI (e5 c))) _).bind fun _ _=>T1
 refine Tot.ite (fun c=>Tot.ck (by have:=e6 c;omega) ((iX hN hil (m.2.2.2.2.2.2.1[i]!) (hL.tb i (e6 c)) (hR.tb _ (EI (e6 c)))).bind fun _ _=>T1)) (fun _=> ?_)
 have k8:p=12→ ∀b,Tot (Dg m (i:Int) b):=fun c b=>by
  unfold Dg;exact Tot.ite (fun _=>T1) (fun _=>Tot.ck (by have:=e12 c;omega) (k2 _))
 refine Tot.ite (fun c=>Tot.ck (by have:=e12 c;omega) (Tot.ite (fun _=>k8 c _) (fun _=>Tot.ck (by have:=e12 c;omega) (k8 c _)))) (fun _=> ?_)
 refine Tot.ite (fun c=>Tot.ck (by have:=e13 c;omega) (k2 _)) (fun _=> ?_)
 have k10: ∀b,Tot (Bz m (i:Int) b):=fun b=>by unfold Bz;exact Tot.ite (fun _=>T1) (fun _=>k2 _)
 have k9:p=14→ ∀b,Tot (Df m (i:Int) b):=fun c b=>by
  have h0:(0:Int)≤(i:Int)∧(i:Int)<(m.2.2.2.2.2.2.2.2.2.2.2.2.2.2.1.length:Int):=by have:=e14 c;omega
  unfold Df
  exact Tot.ite (fun _=>Tot.ck h0 (Tot.ite (fun _=>k10 _) (fun _=>Tot.ck h0 (Tot.ite (fun _=>k10 _) (fun _=>Tot.ck h0 (Tot.ite (fun _=>k10 _) (fun _=>Tot.ck h0 (k10 _)))))))) (fun _=>k10 _)
 exact Tot.ite (fun c=>Tot.ck (by have:=e14 c;omega) (Tot.ite (fun _=>k9 c _) (fun _=>k9 c _))) (fun _=>k2 _)
theorem kp{α:Type}{T:Option α→Prop}{P:Nat→Prop}(top:Nat)(loop:Nat→Int→Option α)(step: ∀f i:Nat,i<top→P i→(P (i+1)→T (loop f ((i:Int)+1)))→T (loop (f+1) (i:Int)))
  (stop: ∀f,P top→T (loop (f+1) (top:Int))): ∀(k f i:Nat),i+k=top→k<f→P i→T (loop f (i:Int)):=by
 intro k
 induction k with
 |zero=>
  intro f i hi hf hp
  obtain⟨f,rfl⟩: ∃n,f=n+1:=⟨f - 1,by omega⟩
  obtain rfl:i=top:=by omega
  exact stop f hp
 |succ k ih=>
  intro f i hi hf hp
  obtain⟨f,rfl⟩: ∃n,f=n+1:=⟨f - 1,by omega⟩
  exact step f i (by omega) hp fun h=>by
   have:=ih f (i+1) (by omega) (by omega) h
   rwa [show((i+1:Nat):Int)=(i:Int)+1 by omega] at this
theorem Pv{x:Option (Int×Int)}{G:Prop}(h:Tot x)(g:G):Ans2 x G:=by obtain⟨r,e⟩:=h;exact⟨r,e,fun _=>g⟩
theorem ZB{a e:Int}{G:Prop}(h:e≠0):Ans2 (some (a,e)) G:=⟨_,rfl,fun q=>absurd q h⟩
def cO(m:Ao):Prop:= ∀i,i<m.2.1.length→Rh (m.2.1[i]!).1 (m.2.1[i]!).2.1 (m.2.1[i]!).2.2.1 (m.2.1[i]!).2.2.2.1 (m.2.1[i]!).2.2.2.2.1 (m.2.1[i]!).2.2.2.2.2=0
theorem ZV(hN:20000000<N)(hL:Lit m)(hR:Rg m)(p:Int)(h0:0≤p)(h1:p<15)(b:Bool):Ans2 (Du N m p (Bt m p) b) (p=1→cO m):=by
 have hb:brf (Bt m p):=by have:=hL.ti p.toNat (by omega);rwa [Int.toNat_of_nonneg h0] at this
 unfold Du
 cases b with
 |true=>rw [if_pos rfl];exact ZB (by decide)
 |false=>
  rw [if_neg (by decide)]
  by_cases c:((Bt m p).length:Int)>([0,16,0,16,16,32,8,0,0,0,0,0,8,8,8])[p.toNat]!
  ·rw [if_pos c];exact ZB (by decide)
  rw [if_neg c]
  refine kp (T:=fun x=>Ans2 x (p=1→cO m)) (P:=fun i=>p=1→ ∀j,j<i→Rh (m.2.1[j]!).1 (m.2.1[j]!).2.1 (m.2.1[j]!).2.2.1 (m.2.1[j]!).2.2.2.1 (m.2.1[j]!).2.2.2.2.1 (m.2.1[j]!).2.2.2.2.2=0) (Bt m p).length (AM N m p (Bt m p)) (fun f i h hp hk=> ?_) (fun f hp=> ?_) (Bt m p).length N 0 (q6 _) (by have:=hb.2;omega) (fun _ j hj=>absurd hj (Nat.not_lt_zero j))
  ·have hl:=hb.2
   have k18:(p=1→Rh (m.2.1[i]!).1 (m.2.1[i]!).2.1 (m.2.1[i]!).2.2.1 (m.2.1[i]!).2.2.2.1 (m.2.1[i]!).2.2.2.2.1 (m.2.1[i]!).2.2.2.2.2=0)→ ∀e,Ans2 (Cg (i:Int) (AM N m p (Bt m p) f) e) (p=1→cO m):=fun q e=>by
    unfold Cg
    by_cases d:e=0
    ·rw [if_neg (fun h=>h d),Aj _ (by omega)]
     refine hk fun e1 j hj=> ?_
     rcases Nat.lt_or_ge j i with h2|h2
     ·exact hp e1 j h2
     ·obtain rfl:j=i:=by omega
      exact q e1
    ·rw [if_pos d];exact ZB d
   have k16:(p=1→Rh (m.2.1[i]!).1 (m.2.1[i]!).2.1 (m.2.1[i]!).2.2.1 (m.2.1[i]!).2.2.2.1 (m.2.1[i]!).2.2.2.2.1 (m.2.1[i]!).2.2.2.2.2=0)→ ∀e,Ans2 (Ch N m p (i:Int) (AM N m p (Bt m p) f) e) (p=1→cO m):=fun q e=>by
    unfold Ch
    by_cases d:e=0
    ·obtain⟨r,e2⟩:=iW hN hL hR p i h
     rw [if_pos d,e2,q0];exact k18 q _
    ·rw [if_neg d];exact k18 q _
   have k14: ∀e,(e=0→p=1→Rh (m.2.1[i]!).1 (m.2.1[i]!).2.1 (m.2.1[i]!).2.2.1 (m.2.1[i]!).2.2.2.1 (m.2.1[i]!).2.2.2.2.1 (m.2.1[i]!).2.2.2.2.2=0)→Ans2 (Dt N m p (Bt m p) (i:Int) (AM N m p (Bt m p) f) e) (p=1→cO m):=fun e q=>by
    unfold Dt
    by_cases d:e=0
    ·have ht:((Bt m p).take (i+1)).length=i+1:=by rw [q7];omega
     have e3:((i:Int)+1).toNat=i+1:=by omega
     obtain⟨r,e2⟩:=iV hN ((Bt m p).take (i+1)) (by omega) (by omega) (fun j hj=>by
      have:=hb.1 j (by omega)
      rwa [zg _ j (by omega),←j4 (h:=hj),←zg _ j hj] at this)
     rw [if_pos d,Aj _ (by omega),Aj _ (by omega),e3,j0,e2,q0];exact k16 (q d) _
    ·rw [if_neg d]
     unfold Ch Cg
     rw [if_neg d,if_pos d];exact ZB d
   rw [AM,if_pos (by omega)]
   by_cases c1:p=1
   ·have hi:i<m.2.1.length:=by subst c1;simpa [Bt] using h
    have hd:=hL.hd i hi
    have hn:(m.2.1[i]!).1.length≤1048576:=by
     have:=hb.1 i h
     subst c1
     rwa [show Bt m 1=m.2.1.map (fun x:Hd=>x.1)from rfl,MV (fun x:Hd=>x.1) m.2.1 i hi] at this
    rw [if_pos c1,Aj _ (by omega),q3,gl N _ _ _ _ _ _ hn hd.1 hd.2 hN,q0]
    exact k14 _ fun q _=>q
   ·rw [if_neg c1];exact k14 _ fun _ q=>absurd q c1
  ·rw [AM,if_neg (by omega)]
   refine⟨_,rfl,fun _ e i hi=>hp e i ?_⟩
   subst e;simpa [Bt] using hi
theorem gh(hN:20000000<N)(hL:Lit m)(hR:Rg m)(p:Nat)(h1:p<15)(hh:2≤p→cO m):Ans2 (FJ N m (p:Int)) ((p:Int)=1→cO m):=by
 have hil:=hL.il
 have hi:m.2.2.1.length≤1048576:=by omega
 have hd:2≤p→ ∀h∈m.2.1,okW h.2.1∧h.2.1.length≤1048576:=fun c h hm=>by
  obtain⟨i,hi,rfl⟩:=List.mem_iff_getElem.1 hm
  have h2:=hh c i hi
  rw [zg _ i hi] at h2
  have h3:=(hL.hd i hi).1
  rw [zg _ i hi] at h3
  exact⟨(eY h2).1,h3⟩
 have k5: ∀b,Tot (DF b):=fun b=>by unfold DF;exact T1
 have k4: ∀b,Tot (DG m b):=fun b=>by unfold DG;exact Tot.ite (fun _=>k5 _) (fun _=>k5 _)
 have k3: ∀b,Tot (DH m b):=fun b=>by unfold DH;exact Tot.ite (fun _=>k4 _) (fun _=>k4 _)
 have k2: ∀b,Tot (DI m b):=fun b=>by unfold DI;exact Tot.ite (fun _=>k3 _) (fun _=>k3 _)
 have k1: ∀b,Tot (DJ m b):=fun b=>by unfold DJ;exact Tot.ite (fun _=>k2 _) (fun _=>k2 _)
 have hnm:=hL.nm
 unfold FJ
 by_cases c0:(p:Int)=0
 ·rw [if_pos c0,ZW N _ (by omega) (by omega),q0]
  exact Pv (Tot.ite (fun _=>Tot.ite (fun _=>k1 _) (fun _=>k1 _)) (fun _=>T1)) (fun e=>by omega)
 rw [if_neg c0]
 by_cases c2:(p:Int)=2
 ·rw [if_pos c2,dm N hN _ _ hi (fun j hj=> ?_),q0]
  ·exact Pv T1 (fun e=>by omega)
  ·have:=hL.ins j hj
   exact this
 rw [if_neg c2]
 by_cases c7:(p:Int)=7
 ·rw [if_pos c7]
  exact Pv ((ZU hN hi _ (by omega) (fun i h=>hL.ni i h) hR.ni).bind fun _ _=>T1) (fun e=>by omega)
 rw [if_neg c7]
 by_cases c8:(p:Int)=8
 ·rw [if_pos c8]
  exact Pv ((ZU hN hi _ (by omega) (fun i h=>hL.ne i h) hR.ne).bind fun _ _=>T1) (fun e=>by omega)
 rw [if_neg c8]
 by_cases c9:(p:Int)=9
 ·rw [if_pos c9]
  refine Pv (Tot.ite (fun _=>T1) (fun _=>Pw m.2.2.2.2.2.2.2.2.2.1.length (By N m) (fun f i h hk=> ?_) (fun f=> ?_) (by omega))) (fun e=>by omega)
  ·rw [By,if_pos (by omega),Aj _ (by omega),Ry hN hi,q0]
   refine Tot.ite (fun _=>Pw i (BT m (i:Int) (By N m f)) (fun g j h2 hh2=> ?_) (fun g=> ?_) (by omega)) (fun _=>T1)
   ·rw [BT,if_pos (by omega),Aj _ (by omega),Aj _ (by omega)];exact T1
   ·rw [BT,if_neg (by omega)];exact T1
  ·rw [By,if_neg (by omega)];exact T1
 rw [if_neg c9]
 by_cases c10:(p:Int)=10
 ·rw [if_pos c10]
  exact Pv ((eL hN hi (hd (by omega)) _ (by omega)).bind fun _ _=>T1) (fun e=>by omega)
 rw [if_neg c10]
 by_cases c11:(p:Int)=11
 ·rw [if_pos c11]
  exact Pv ((eL hN hi (hd (by omega)) _ (by omega)).bind fun _ _=>T1) (fun e=>by omega)
 rw [if_neg c11,gf hN (fun c hc=>(hL.ti c hc).2),q0,Aj _ (by simp only [za,zj];omega)]
 split
 ·exact ZV hN hL hR _ (by omega) (by omega) _
 ·exact ZV hN hL hR _ (by omega) (by omega) _
theorem jf(hN:20000000<N)(hL:Lit m)(hR:Rg m):Tot (GS N m):=by
 refine Uc (P:=fun i=>2≤i→cO m) 15 (BO N m) (fun f i h hp hk=> ?_) (fun f _=> ?_) 15 N 0 (q6 _) (by omega) (fun h=>absurd h (by omega))
 ·obtain⟨r,e,q⟩:=gh hN hL hR i h hp
  rw [BO,if_pos (by omega),e,q0]
  refine Tot.ite (fun _=>T1) (fun c=>Tot.ck (by omega) (hk fun h2=> ?_))
  rcases Nat.lt_or_ge i 2 with h3|h3
  ·exact q (Classical.not_not.1 c) (by omega)
  ·exact hp h3
 ·rw [BO,if_neg (by decide)];exact T1
end
end Go.Proofs.YtoolcgbcfgnipaaGreatDoor
