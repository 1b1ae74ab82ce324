import Derived.Test.YthmpbldidnmenaaGreatDoorRu
set_option linter.unusedSimpArgs false
set_option linter.unusedVariables false
namespace Go.Proofs.YthmpbldidnmenaaGreatDoor
open Go Go.RowKit Go.Eng
section
variable {N:Nat} {m:An} {p:Int} (hN:20000000<N)
include hN
theorem tn1(s:List (List UInt8))(h:p≠1):Sr N m p N s 0=Qy N m p N s 0:=by
 obtain⟨f,rfl⟩: ∃n,N=n+1:=⟨N - 1,by omega⟩
 rw [Sr,OK,ze h]
 split<;>(rw [cw,if_neg (by decide)])
theorem ty1(hl:m.2.1.length≤1048576)(h:p=1):Sr N m p N [] 0=Qy N m p N (m.2.1.map (·.1)) 0:=
 MH m.2.1 (·.1) (Sr N m p) (fun s=>Qy N m p N s 0) (fun f i s h1 h2=>by
  rw [Sr,if_pos (by omega),OK,zf h,cw,if_pos rfl,Am _ (by omega),Am _ (by simp only [za,zj];omega),Am _ (by omega),q3];rfl)
  (fun f s=>by rw [Sr,if_neg (by omega),cw,if_neg (by decide)]) m.2.1.length N 0 (q6 _) (by omega)
theorem tn3(s:List (List UInt8))(h:p≠3):Qy N m p N s 0=LA N m p N s 0:=by
 obtain⟨f,rfl⟩: ∃n,N=n+1:=⟨N - 1,by omega⟩
 rw [Qy,OK,ze h]
 split<;>(rw [cu,if_neg (by decide)])
theorem ty3(hl:m.2.2.2.1.length≤1048576)(h:p=3):Qy N m p N [] 0=LA N m p N (m.2.2.2.1.map (·.1)) 0:=
 MH m.2.2.2.1 (·.1) (Qy N m p) (fun s=>LA N m p N s 0) (fun f i s h1 h2=>by
  rw [Qy,if_pos (by omega),OK,zf h,cu,if_pos rfl,Am _ (by omega),Am _ (by simp only [za,zj];omega),Am _ (by omega),q3];rfl)
  (fun f s=>by rw [Qy,if_neg (by omega),cu,if_neg (by decide)]) m.2.2.2.1.length N 0 (q6 _) (by omega)
theorem tn4(s:List (List UInt8))(h:p≠4):LA N m p N s 0=Lz N m p N s 0:=by
 obtain⟨f,rfl⟩: ∃n,N=n+1:=⟨N - 1,by omega⟩
 rw [LA,OK,ze h]
 split<;>(rw [Un,if_neg (by decide)])
theorem ty4(hl:m.2.2.2.2.1.length≤1048576)(h:p=4):LA N m p N [] 0=Lz N m p N (m.2.2.2.2.1.map (·.1)) 0:=
 MH m.2.2.2.2.1 (·.1) (LA N m p) (fun s=>Lz N m p N s 0) (fun f i s h1 h2=>by
  rw [LA,if_pos (by omega),OK,zf h,Un,if_pos rfl,Am _ (by omega),Am _ (by simp only [za,zj];omega),Am _ (by omega),q3];rfl)
  (fun f s=>by rw [LA,if_neg (by omega),Un,if_neg (by decide)]) m.2.2.2.2.1.length N 0 (q6 _) (by omega)
theorem tn5(s:List (List UInt8))(h:p≠5):Lz N m p N s 0=Ly N m p N s 0:=by
 obtain⟨f,rfl⟩: ∃n,N=n+1:=⟨N - 1,by omega⟩
 rw [Lz,OK,ze h]
 split<;>(rw [Um,if_neg (by decide)])
theorem ty5(hl:m.2.2.2.2.2.1.length≤1048576)(h:p=5):Lz N m p N [] 0=Ly N m p N (m.2.2.2.2.2.1.map (·.1)) 0:=
 MH m.2.2.2.2.2.1 (·.1) (Lz N m p) (fun s=>Ly N m p N s 0) (fun f i s h1 h2=>by
  rw [Lz,if_pos (by omega),OK,zf h,Um,if_pos rfl,Am _ (by omega),Am _ (by simp only [za,zj];omega),Am _ (by omega),q3];rfl)
  (fun f s=>by rw [Lz,if_neg (by omega),Um,if_neg (by decide)]) m.2.2.2.2.2.1.length N 0 (q6 _) (by omega)
theorem tn6(s:List (List UInt8))(h:p≠6):Ly N m p N s 0=Lx N m p N s 0:=by
 obtain⟨f,rfl⟩: ∃n,N=n+1:=⟨N - 1,by omega⟩
 rw [Ly,OK,ze h]
 split<;>(rw [Ul,if_neg (by decide)])
theorem ty6(hl:m.2.2.2.2.2.2.1.length≤1048576)(h:p=6):Ly N m p N [] 0=Lx N m p N (m.2.2.2.2.2.2.1.map (·.1)) 0:=
 MH m.2.2.2.2.2.2.1 (·.1) (Ly N m p) (fun s=>Lx N m p N s 0) (fun f i s h1 h2=>by
  rw [Ly,if_pos (by omega),OK,zf h,Ul,if_pos rfl,Am _ (by omega),Am _ (by simp only [za,zj];omega),Am _ (by omega),q3];rfl)
  (fun f s=>by rw [Ly,if_neg (by omega),Ul,if_neg (by decide)]) m.2.2.2.2.2.2.1.length N 0 (q6 _) (by omega)
theorem eT(s:List (List UInt8))(h:p≠12):Lx N m p N s 0=Lw N m p N s 0:=by
 obtain⟨f,rfl⟩: ∃n,N=n+1:=⟨N - 1,by omega⟩
 rw [Lx,OK,ze h]
 split<;>(rw [Uk,if_neg (by decide)])
theorem sH(hl:m.2.2.2.2.2.2.2.2.2.2.2.2.1.length≤1048576)(h:p=12):Lx N m p N [] 0=Lw N m p N (m.2.2.2.2.2.2.2.2.2.2.2.2.1.map (·.1)) 0:=
 MH m.2.2.2.2.2.2.2.2.2.2.2.2.1 (·.1) (Lx N m p) (fun s=>Lw N m p N s 0) (fun f i s h1 h2=>by
  rw [Lx,if_pos (by omega),OK,zf h,Uk,if_pos rfl,Am _ (by omega),Am _ (by simp only [za,zj];omega),Am _ (by omega),q3];rfl)
  (fun f s=>by rw [Lx,if_neg (by omega),Uk,if_neg (by decide)]) m.2.2.2.2.2.2.2.2.2.2.2.2.1.length N 0 (q6 _) (by omega)
theorem ce(s:List (List UInt8))(h:p≠13):Lw N m p N s 0=Lv m p N s 0:=by
 obtain⟨f,rfl⟩: ∃n,N=n+1:=⟨N - 1,by omega⟩
 rw [Lw,OK,ze h]
 split<;>(rw [Uj,if_neg (by decide)])
theorem sG(hl:m.2.2.2.2.2.2.2.2.2.2.2.2.2.1.length≤1048576)(h:p=13):Lw N m p N [] 0=Lv m p N (m.2.2.2.2.2.2.2.2.2.2.2.2.2.1.map (·.1)) 0:=
 MH m.2.2.2.2.2.2.2.2.2.2.2.2.2.1 (·.1) (Lw N m p) (fun s=>Lv m p N s 0) (fun f i s h1 h2=>by
  rw [Lw,if_pos (by omega),OK,zf h,Uj,if_pos rfl,Am _ (by omega),Am _ (by simp only [za,zj];omega),Am _ (by omega),q3];rfl)
  (fun f s=>by rw [Lw,if_neg (by omega),Uj,if_neg (by decide)]) m.2.2.2.2.2.2.2.2.2.2.2.2.2.1.length N 0 (q6 _) (by omega)
theorem ZB(s:List (List UInt8))(h:p≠14):Lv m p N s 0=some s:=by
 obtain⟨f,rfl⟩: ∃n,N=n+1:=⟨N - 1,by omega⟩
 rw [Lv,OK,ze h]
 split<;>(rw [Ui,if_neg (by decide)])
theorem sF(hl:m.2.2.2.2.2.2.2.2.2.2.2.2.2.2.1.length≤1048576)(h:p=14):Lv m p N [] 0=some (m.2.2.2.2.2.2.2.2.2.2.2.2.2.2.1.map (·.1)):=
 MH m.2.2.2.2.2.2.2.2.2.2.2.2.2.2.1 (·.1) (Lv m p) (fun s=>some s) (fun f i s h1 h2=>by
  rw [Lv,if_pos (by omega),OK,zf h,Ui,if_pos rfl,Am _ (by omega),Am _ (by simp only [za,zj];omega),Am _ (by omega),q3];rfl)
  (fun f s=>by rw [Lv,if_neg (by omega),Ui,if_neg (by decide)]) m.2.2.2.2.2.2.2.2.2.2.2.2.2.2.1.length N 0 (q6 _) (by omega)
theorem eZ(hT: ∀c:Nat,c<15→(BA m (c:Int)).length≤1048576):rTm N m p=some (BA m p):=by
 have h1:m.2.1.length≤1048576:=by have:=hT 1 (by omega);simpa [BA] using this
 have h3:m.2.2.2.1.length≤1048576:=by have:=hT 3 (by omega);simpa [BA] using this
 have h4:m.2.2.2.2.1.length≤1048576:=by have:=hT 4 (by omega);simpa [BA] using this
 have h5:m.2.2.2.2.2.1.length≤1048576:=by have:=hT 5 (by omega);simpa [BA] using this
 have h6:m.2.2.2.2.2.2.1.length≤1048576:=by have:=hT 6 (by omega);simpa [BA] using this
 have h12:m.2.2.2.2.2.2.2.2.2.2.2.2.1.length≤1048576:=by have:=hT 12 (by omega);simpa [BA] using this
 have h13:m.2.2.2.2.2.2.2.2.2.2.2.2.2.1.length≤1048576:=by have:=hT 13 (by omega);simpa [BA] using this
 have h14:m.2.2.2.2.2.2.2.2.2.2.2.2.2.2.1.length≤1048576:=by have:=hT 14 (by omega);simpa [BA] using this
 unfold rTm BA
 by_cases c1:p=1
 ·rw [if_pos c1,ty1 hN h1 c1,tn3 (m:=m) (p:=p) hN _ (by omega),tn4 (m:=m) (p:=p) hN _ (by omega),tn5 (m:=m) (p:=p) hN _ (by omega),tn6 (m:=m) (p:=p) hN _ (by omega),eT (m:=m) (p:=p) hN _ (by omega),ce (m:=m) (p:=p) hN _ (by omega),ZB (m:=m) (p:=p) hN _ (by omega)]
 rw [if_neg c1,tn1 hN _ c1]
 by_cases c3:p=3
 ·rw [if_pos c3,ty3 hN h3 c3,tn4 (m:=m) (p:=p) hN _ (by omega),tn5 (m:=m) (p:=p) hN _ (by omega),tn6 (m:=m) (p:=p) hN _ (by omega),eT (m:=m) (p:=p) hN _ (by omega),ce (m:=m) (p:=p) hN _ (by omega),ZB (m:=m) (p:=p) hN _ (by omega)]
 rw [if_neg c3,tn3 hN _ c3]
 by_cases c4:p=4
 ·rw [if_pos c4,ty4 hN h4 c4,tn5 (m:=m) (p:=p) hN _ (by omega),tn6 (m:=m) (p:=p) hN _ (by omega),eT (m:=m) (p:=p) hN _ (by omega),ce (m:=m) (p:=p) hN _ (by omega),ZB (m:=m) (p:=p) hN _ (by omega)]
 rw [if_neg c4,tn4 hN _ c4]
 by_cases c5:p=5
 ·rw [if_pos c5,ty5 hN h5 c5,tn6 (m:=m) (p:=p) hN _ (by omega),eT (m:=m) (p:=p) hN _ (by omega),ce (m:=m) (p:=p) hN _ (by omega),ZB (m:=m) (p:=p) hN _ (by omega)]
 rw [if_neg c5,tn5 hN _ c5]
 by_cases c6:p=6
 ·rw [if_pos c6,ty6 hN h6 c6,eT (m:=m) (p:=p) hN _ (by omega),ce (m:=m) (p:=p) hN _ (by omega),ZB (m:=m) (p:=p) hN _ (by omega)]
 rw [if_neg c6,tn6 hN _ c6]
 by_cases c12:p=12
 ·rw [if_pos c12,sH hN h12 c12,ce (m:=m) (p:=p) hN _ (by omega),ZB (m:=m) (p:=p) hN _ (by omega)]
 rw [if_neg c12,eT hN _ c12]
 by_cases c13:p=13
 ·rw [if_pos c13,sG hN h13 c13,ZB (m:=m) (p:=p) hN _ (by omega)]
 rw [if_neg c13,ce hN _ c13]
 by_cases c14:p=14
 ·rw [if_pos c14,sF hN h14 c14]
 rw [if_neg c14,ZB hN _ c14]
end
section
variable {N:Nat} {m:An}
theorem gr(hN:20000000<N)(hL:Lit m)(hR:Rg m)(p:Int)(i:Nat)(hi:i<(BA m p).length):Tot (EW N m p (i:Int)):=by
 have hil:m.2.2.1.length≤1048576:=by have:=hL.il;omega
 have k3: ∀b,Tot (Dl b):=fun b=>by unfold Dl;exact T1
 have k2: ∀n,Tot (BC n):=fun n=>by unfold BC;exact Tot.ite (fun _=>k3 _) (fun _=>k3 _)
 have k4: ∀b,Tot (Dk b):=fun b=>by unfold Dk;exact Tot.ite (fun _=>T1) (fun _=>k2 _)
 have e3:p=3→i<m.2.2.2.1.length:=fun e=>by subst e;simpa [BA] using hi
 have e4:p=4→i<m.2.2.2.2.1.length:=fun e=>by subst e;simpa [BA] using hi
 have e5:p=5→i<m.2.2.2.2.2.1.length:=fun e=>by subst e;simpa [BA] using hi
 have e6:p=6→i<m.2.2.2.2.2.2.1.length:=fun e=>by subst e;simpa [BA] using hi
 have e12:p=12→i<m.2.2.2.2.2.2.2.2.2.2.2.2.1.length:=fun e=>by subst e;simpa [BA] using hi
 have e13:p=13→i<m.2.2.2.2.2.2.2.2.2.2.2.2.2.1.length:=fun e=>by subst e;simpa [BA] using hi
 have e14:p=14→i<m.2.2.2.2.2.2.2.2.2.2.2.2.2.2.1.length:=fun e=>by subst e;simpa [BA] using hi
 unfold EW
 rw [q3]
 refine Tot.ite (fun c=>Tot.ck (by have:=e3 c;omega) (Tot.ite (fun _=>k4 _) (fun _=>Tot.ck (by have:=e3 c;omega) (k4 _)))) (fun _=> ?_)
 refine Tot.ite (fun c=>Tot.ck (by have:=e4 c;omega) ((gu hN hil (m.2.2.2.2.1[i]!) (hL.st i (e4 c)) (hR.st _ (FU (e4 c)))).bind fun _ _=>T1)) (fun _=> ?_)
 refine Tot.ite (fun c=>Tot.ck (by have:=e5 c;omega) (Tot.ite (fun _=>T1) (fun _=> ?_))) (fun _=> ?_)
 ·have hac:=hL.ac i (e5 c)
  refine OR ((m.2.2.2.2.2.1)[i]!.2.1).length (Bh N m (i:Int)) (fun f j h hk=> ?_) (fun f=> ?_) (by omega)
  ·have k7: ∀b,Tot (Dj (j:Int) (Bh N m (i:Int) f) b):=fun b=>by unfold Dj;exact T1
   rw [Bh,q3,if_pos (by omega),Am _ (by omega)]
   exact Tot.ite (fun _=>k7 _) (fun _=>Tot.ck (by omega) (k7 _))
  ·rw [Bh,q3,if_neg (by omega)]
   exact(dK hN hil _ (by omega) (hR.ac _ (FU (e5 c))) _).bind fun _ _=>T1
 refine Tot.ite (fun c=>Tot.ck (by have:=e6 c;omega) ((gt hN hil (m.2.2.2.2.2.2.1[i]!) (hL.tb i (e6 c)) (hR.tb _ (FU (e6 c)))).bind fun _ _=>T1)) (fun _=> ?_)
 have k8:p=12→ ∀b,Tot (Di m (i:Int) b):=fun c b=>by
  unfold Di;exact Tot.ite (fun _=>T1) (fun _=>Tot.ck (by have:=e12 c;omega) (k2 _))
 refine Tot.ite (fun c=>Tot.ck (by have:=e12 c;omega) (Tot.ite (fun _=>k8 c _) (fun _=>Tot.ck (by have:=e12 c;omega) (k8 c _)))) (fun _=> ?_)
 refine Tot.ite (fun c=>Tot.ck (by have:=e13 c;omega) (k2 _)) (fun _=> ?_)
 have k10: ∀b,Tot (Bz m (i:Int) b):=fun b=>by unfold Bz;exact Tot.ite (fun _=>T1) (fun _=>k2 _)
 have k9:p=14→ ∀b,Tot (Dh m (i:Int) b):=fun c b=>by
  have h0:(0:Int)≤(i:Int)∧(i:Int)<(m.2.2.2.2.2.2.2.2.2.2.2.2.2.2.1.length:Int):=by have:=e14 c;omega
  unfold Dh
  exact Tot.ite (fun _=>Tot.ck h0 (Tot.ite (fun _=>k10 _) (fun _=>Tot.ck h0 (Tot.ite (fun _=>k10 _) (fun _=>Tot.ck h0 (Tot.ite (fun _=>k10 _) (fun _=>Tot.ck h0 (k10 _)))))))) (fun _=>k10 _)
 exact Tot.ite (fun c=>Tot.ck (by have:=e14 c;omega) (Tot.ite (fun _=>k9 c _) (fun _=>k9 c _))) (fun _=>k2 _)
theorem iX{α:Type}{T:Option α→Prop}{P:Nat→Prop}(top:Nat)(loop:Nat→Int→Option α)(step: ∀f i:Nat,i<top→P i→(P (i+1)→T (loop f ((i:Int)+1)))→T (loop (f+1) (i:Int)))
  (stop: ∀f,P top→T (loop (f+1) (top:Int))): ∀(k f i:Nat),i+k=top→k<f→P i→T (loop f (i:Int)):=by
 intro k
 induction k with
 |zero=>
  intro f i hi hf hp
  obtain⟨f,rfl⟩: ∃n,f=n+1:=⟨f - 1,by omega⟩
  obtain rfl:i=top:=by omega
  exact stop f hp
 |succ k ih=>
  intro f i hi hf hp
  obtain⟨f,rfl⟩: ∃n,f=n+1:=⟨f - 1,by omega⟩
  exact step f i (by omega) hp fun h=>by
   have:=ih f (i+1) (by omega) (by omega) h
   rwa [show((i+1:Nat):Int)=(i:Int)+1 by omega] at this
theorem OP{x:Option (Int×Int)}{G:Prop}(h:Tot x)(g:G):Ans2 x G:=by obtain⟨r,e⟩:=h;exact⟨r,e,fun _=>g⟩
theorem Zu{a e:Int}{G:Prop}(h:e≠0):Ans2 (some (a,e)) G:=⟨_,rfl,fun q=>absurd q h⟩
def bY(m:An):Prop:= ∀i,i<m.2.1.length→Wg (m.2.1[i]!).1 (m.2.1[i]!).2.1 (m.2.1[i]!).2.2.1 (m.2.1[i]!).2.2.2.1 (m.2.1[i]!).2.2.2.2.1 (m.2.1[i]!).2.2.2.2.2=0
theorem ZO(hN:20000000<N)(hL:Lit m)(hR:Rg m)(p:Int)(h0:0≤p)(h1:p<15)(b:Bool):Ans2 (Dw N m p (BA m p) b) (p=1→bY m):=by
 have hb:brf (BA m p):=by have:=hL.ti p.toNat (by omega);rwa [Int.toNat_of_nonneg h0] at this
 unfold Dw
 cases b with
 |true=>rw [if_pos rfl];exact Zu (by decide)
 |false=>
  rw [if_neg (by decide)]
  by_cases c:((BA m p).length:Int)>([0,16,0,16,16,32,8,0,0,0,0,0,8,8,8])[p.toNat]!
  ·rw [if_pos c];exact Zu (by decide)
  rw [if_neg c]
  refine iX (T:=fun x=>Ans2 x (p=1→bY m)) (P:=fun i=>p=1→ ∀j,j<i→Wg (m.2.1[j]!).1 (m.2.1[j]!).2.1 (m.2.1[j]!).2.2.1 (m.2.1[j]!).2.2.2.1 (m.2.1[j]!).2.2.2.2.1 (m.2.1[j]!).2.2.2.2.2=0) (BA m p).length (AL N m p (BA m p)) (fun f i h hp hk=> ?_) (fun f hp=> ?_) (BA m p).length N 0 (q6 _) (by have:=hb.2;omega) (fun _ j hj=>absurd hj (Nat.not_lt_zero j))
  ·have hl:=hb.2
   have k18:(p=1→Wg (m.2.1[i]!).1 (m.2.1[i]!).2.1 (m.2.1[i]!).2.2.1 (m.2.1[i]!).2.2.2.1 (m.2.1[i]!).2.2.2.2.1 (m.2.1[i]!).2.2.2.2.2=0)→ ∀e,Ans2 (Ck (i:Int) (AL N m p (BA m p) f) e) (p=1→bY m):=fun q e=>by
    unfold Ck
    by_cases d:e=0
    ·rw [if_neg (fun h=>h d),Am _ (by omega)]
     refine hk fun e1 j hj=> ?_
     rcases Nat.lt_or_ge j i with h2|h2
     ·exact hp e1 j h2
     ·obtain rfl:j=i:=by omega
      exact q e1
    ·rw [if_pos d];exact Zu d
   have k16:(p=1→Wg (m.2.1[i]!).1 (m.2.1[i]!).2.1 (m.2.1[i]!).2.2.1 (m.2.1[i]!).2.2.2.1 (m.2.1[i]!).2.2.2.2.1 (m.2.1[i]!).2.2.2.2.2=0)→ ∀e,Ans2 (Cl N m p (i:Int) (AL N m p (BA m p) f) e) (p=1→bY m):=fun q e=>by
    unfold Cl
    by_cases d:e=0
    ·obtain⟨r,e2⟩:=gr hN hL hR p i h
     rw [if_pos d,e2,q0];exact k18 q _
    ·rw [if_neg d];exact k18 q _
   have k14: ∀e,(e=0→p=1→Wg (m.2.1[i]!).1 (m.2.1[i]!).2.1 (m.2.1[i]!).2.2.1 (m.2.1[i]!).2.2.2.1 (m.2.1[i]!).2.2.2.2.1 (m.2.1[i]!).2.2.2.2.2=0)→Ans2 (Dv N m p (BA m p) (i:Int) (AL N m p (BA m p) f) e) (p=1→bY m):=fun e q=>by
    unfold Dv
    by_cases d:e=0
    ·have ht:((BA m p).take (i+1)).length=i+1:=by rw [q7];omega
     have e3:((i:Int)+1).toNat=i+1:=by omega
     obtain⟨r,e2⟩:=gq hN ((BA m p).take (i+1)) (by omega) (by omega) (fun j hj=>by
      have:=hb.1 j (by omega)
      rwa [zg _ j (by omega),←j4 (h:=hj),←zg _ j hj] at this)
     rw [if_pos d,Am _ (by omega),Am _ (by omega),e3,j0,e2,q0];exact k16 (q d) _
    ·rw [if_neg d]
     unfold Cl Ck
     rw [if_neg d,if_pos d];exact Zu d
   rw [AL,if_pos (by omega)]
   by_cases c1:p=1
   ·have hi:i<m.2.1.length:=by subst c1;simpa [BA] using h
    have hd:=hL.hd i hi
    have hn:(m.2.1[i]!).1.length≤1048576:=by
     have:=hb.1 i h
     subst c1
     rwa [show BA m 1=m.2.1.map (fun x:Hd=>x.1)from rfl,fx (fun x:Hd=>x.1) m.2.1 i hi] at this
    rw [if_pos c1,Am _ (by omega),q3,fj N _ _ _ _ _ _ hn hd.1 hd.2 hN,q0]
    exact k14 _ fun q _=>q
   ·rw [if_neg c1];exact k14 _ fun _ q=>absurd q c1
  ·rw [AL,if_neg (by omega)]
   refine⟨_,rfl,fun _ e i hi=>hp e i ?_⟩
   subst e;simpa [BA] using hi
theorem fb(hN:20000000<N)(hL:Lit m)(hR:Rg m)(p:Nat)(h1:p<15)(hh:2≤p→bY m):Ans2 (FC N m (p:Int)) ((p:Int)=1→bY m):=by
 have hil:=hL.il
 have hi:m.2.2.1.length≤1048576:=by omega
 have hd:2≤p→ ∀h∈m.2.1,okW h.2.1∧h.2.1.length≤1048576:=fun c h hm=>by
  obtain⟨i,hi,rfl⟩:=List.mem_iff_getElem.1 hm
  have h2:=hh c i hi
  rw [zg _ i hi] at h2
  have h3:=(hL.hd i hi).1
  rw [zg _ i hi] at h3
  exact⟨(nM h2).1,h3⟩
 have k5: ∀b,Tot (DJ b):=fun b=>by unfold DJ;exact T1
 have k4: ∀b,Tot (DK m b):=fun b=>by unfold DK;exact Tot.ite (fun _=>k5 _) (fun _=>k5 _)
 have k3: ∀b,Tot (DL m b):=fun b=>by unfold DL;exact Tot.ite (fun _=>k4 _) (fun _=>k4 _)
 have k2: ∀b,Tot (DM m b):=fun b=>by unfold DM;exact Tot.ite (fun _=>k3 _) (fun _=>k3 _)
 have k1: ∀b,Tot (DN m b):=fun b=>by unfold DN;exact Tot.ite (fun _=>k2 _) (fun _=>k2 _)
 have hnm:=hL.nm
 unfold FC
 by_cases c0:(p:Int)=0
 ·rw [if_pos c0,ZP N _ (by omega) (by omega),q0]
  exact OP (Tot.ite (fun _=>Tot.ite (fun _=>k1 _) (fun _=>k1 _)) (fun _=>T1)) (fun e=>by omega)
 rw [if_neg c0]
 by_cases c2:(p:Int)=2
 ·rw [if_pos c2,ct N hN _ _ hi (fun j hj=> ?_),q0]
  ·exact OP T1 (fun e=>by omega)
  ·have:=hL.ins j hj
   exact this
 rw [if_neg c2]
 by_cases c7:(p:Int)=7
 ·rw [if_pos c7]
  exact OP ((ZN hN hi _ (by omega) (fun i h=>hL.ni i h) hR.ni).bind fun _ _=>T1) (fun e=>by omega)
 rw [if_neg c7]
 by_cases c8:(p:Int)=8
 ·rw [if_pos c8]
  exact OP ((ZN hN hi _ (by omega) (fun i h=>hL.ne i h) hR.ne).bind fun _ _=>T1) (fun e=>by omega)
 rw [if_neg c8]
 by_cases c9:(p:Int)=9
 ·rw [if_pos c9]
  refine OP (Tot.ite (fun _=>T1) (fun _=>OR m.2.2.2.2.2.2.2.2.2.1.length (Bx N m) (fun f i h hk=> ?_) (fun f=> ?_) (by omega))) (fun e=>by omega)
  ·rw [Bx,if_pos (by omega),Am _ (by omega),Rq hN hi,q0]
   refine Tot.ite (fun _=>OR i (BV m (i:Int) (Bx N m f)) (fun g j h2 hh2=> ?_) (fun g=> ?_) (by omega)) (fun _=>T1)
   ·rw [BV,if_pos (by omega),Am _ (by omega),Am _ (by omega)];exact T1
   ·rw [BV,if_neg (by omega)];exact T1
  ·rw [Bx,if_neg (by omega)];exact T1
 rw [if_neg c9]
 by_cases c10:(p:Int)=10
 ·rw [if_pos c10]
  exact OP ((dE hN hi (hd (by omega)) _ (by omega)).bind fun _ _=>T1) (fun e=>by omega)
 rw [if_neg c10]
 by_cases c11:(p:Int)=11
 ·rw [if_pos c11]
  exact OP ((dE hN hi (hd (by omega)) _ (by omega)).bind fun _ _=>T1) (fun e=>by omega)
 rw [if_neg c11,eZ hN (fun c hc=>(hL.ti c hc).2),q0,Am _ (by simp only [za,zj];omega)]
 split
 ·exact ZO hN hL hR _ (by omega) (by omega) _
 ·exact ZO hN hL hR _ (by omega) (by omega) _
theorem gE(hN:20000000<N)(hL:Lit m)(hR:Rg m):Tot (GE N m):=by
 refine TW (P:=fun i=>2≤i→bY m) 15 (BP N m) (fun f i h hp hk=> ?_) (fun f _=> ?_) 15 N 0 (q6 _) (by omega) (fun h=>absurd h (by omega))
 ·obtain⟨r,e,q⟩:=fb hN hL hR i h hp
  rw [BP,if_pos (by omega),e,q0]
  refine Tot.ite (fun _=>T1) (fun c=>Tot.ck (by omega) (hk fun h2=> ?_))
  rcases Nat.lt_or_ge i 2 with h3|h3
  ·exact q (Classical.not_not.1 c) (by omega)
  ·exact hp h3
 ·rw [BP,if_neg (by decide)];exact T1
end
end Go.Proofs.YthmpbldidnmenaaGreatDoor
