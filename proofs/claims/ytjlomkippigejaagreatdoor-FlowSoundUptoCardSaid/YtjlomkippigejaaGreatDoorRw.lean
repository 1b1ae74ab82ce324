import Derived.Test.YtjlomkippigejaaGreatDoorRu
set_option linter.unusedSimpArgs false
set_option linter.unusedVariables false
namespace Go.Proofs.YtjlomkippigejaaGreatDoor
open Go Go.RowKit Go.Eng
section
variable {N:Nat} {m:Ao} {p:Int} (hN:20000000<N)
include hN
theorem tn1(s:List (W2))(h:p≠1):Ty N m p N s 0=Rz N m p N s 0:=by
 obtain⟨f,rfl⟩: ∃n,N=n+1:=⟨N - 1,by omega⟩
 rw [Ty,PX,ze h]
 split<;>(rw [eY,if_neg (by decide)])
theorem ty1(hl:m.2.1.length<=1048576)(h:p=1):Ty N m p N [] 0=Rz N m p N (m.2.1.map (·.1)) 0:=
 Of m.2.1 (·.1) (Ty N m p) (λs=>Rz N m p N s 0) (λf i s h1 h2=>by
  rw [Ty,if_pos (by omega),PX,zf h,eY,if_pos Z,Af _ (by omega),Af _ (by simp only [za,zj];omega),Af _ (by omega),q3];rfl)
  (λf s=>by rw [Ty,if_neg (by omega),eY,if_neg (by decide)]) m.2.1.length N 0 (q6 _) (by omega)
theorem tn3(s:List (W2))(h:p≠3):Rz N m p N s 0=Nk N m p N s 0:=by
 obtain⟨f,rfl⟩: ∃n,N=n+1:=⟨N - 1,by omega⟩
 rw [Rz,PX,ze h]
 split<;>(rw [eX,if_neg (by decide)])
theorem ty3(hl:m.2.2.2.1.length<=1048576)(h:p=3):Rz N m p N [] 0=Nk N m p N (m.2.2.2.1.map (·.1)) 0:=
 Of m.2.2.2.1 (·.1) (Rz N m p) (λs=>Nk N m p N s 0) (λf i s h1 h2=>by
  rw [Rz,if_pos (by omega),PX,zf h,eX,if_pos Z,Af _ (by omega),Af _ (by simp only [za,zj];omega),Af _ (by omega),q3];rfl)
  (λf s=>by rw [Rz,if_neg (by omega),eX,if_neg (by decide)]) m.2.2.2.1.length N 0 (q6 _) (by omega)
theorem tn4(s:List (W2))(h:p≠4):Nk N m p N s 0=Nj N m p N s 0:=by
 obtain⟨f,rfl⟩: ∃n,N=n+1:=⟨N - 1,by omega⟩
 rw [Nk,PX,ze h]
 split<;>(rw [Vx,if_neg (by decide)])
theorem ty4(hl:m.2.2.2.2.1.length<=1048576)(h:p=4):Nk N m p N [] 0=Nj N m p N (m.2.2.2.2.1.map (·.1)) 0:=
 Of m.2.2.2.2.1 (·.1) (Nk N m p) (λs=>Nj N m p N s 0) (λf i s h1 h2=>by
  rw [Nk,if_pos (by omega),PX,zf h,Vx,if_pos Z,Af _ (by omega),Af _ (by simp only [za,zj];omega),Af _ (by omega),q3];rfl)
  (λf s=>by rw [Nk,if_neg (by omega),Vx,if_neg (by decide)]) m.2.2.2.2.1.length N 0 (q6 _) (by omega)
theorem tn5(s:List (W2))(h:p≠5):Nj N m p N s 0=Ni N m p N s 0:=by
 obtain⟨f,rfl⟩: ∃n,N=n+1:=⟨N - 1,by omega⟩
 rw [Nj,PX,ze h]
 split<;>(rw [Vw,if_neg (by decide)])
theorem ty5(hl:m.2.2.2.2.2.1.length<=1048576)(h:p=5):Nj N m p N [] 0=Ni N m p N (m.2.2.2.2.2.1.map (·.1)) 0:=
 Of m.2.2.2.2.2.1 (·.1) (Nj N m p) (λs=>Ni N m p N s 0) (λf i s h1 h2=>by
  rw [Nj,if_pos (by omega),PX,zf h,Vw,if_pos Z,Af _ (by omega),Af _ (by simp only [za,zj];omega),Af _ (by omega),q3];rfl)
  (λf s=>by rw [Nj,if_neg (by omega),Vw,if_neg (by decide)]) m.2.2.2.2.2.1.length N 0 (q6 _) (by omega)
theorem tn6(s:List (W2))(h:p≠6):Ni N m p N s 0=Nh N m p N s 0:=by
 obtain⟨f,rfl⟩: ∃n,N=n+1:=⟨N - 1,by omega⟩
 rw [Ni,PX,ze h]
 split<;>(rw [Vv,if_neg (by decide)])
theorem ty6(hl:m.2.2.2.2.2.2.1.length<=1048576)(h:p=6):Ni N m p N [] 0=Nh N m p N (m.2.2.2.2.2.2.1.map (·.1)) 0:=
 Of m.2.2.2.2.2.2.1 (·.1) (Ni N m p) (λs=>Nh N m p N s 0) (λf i s h1 h2=>by
  rw [Ni,if_pos (by omega),PX,zf h,Vv,if_pos Z,Af _ (by omega),Af _ (by simp only [za,zj];omega),Af _ (by omega),q3];rfl)
  (λf s=>by rw [Ni,if_neg (by omega),Vv,if_neg (by decide)]) m.2.2.2.2.2.2.1.length N 0 (q6 _) (by omega)
theorem iC(s:List (W2))(h:p≠12):Nh N m p N s 0=Ng N m p N s 0:=by
 obtain⟨f,rfl⟩: ∃n,N=n+1:=⟨N - 1,by omega⟩
 rw [Nh,PX,ze h]
 split<;>(rw [Vu,if_neg (by decide)])
theorem xH(hl:m.2.2.2.2.2.2.2.2.2.2.2.2.1.length<=1048576)(h:p=12):Nh N m p N [] 0=Ng N m p N (m.2.2.2.2.2.2.2.2.2.2.2.2.1.map (·.1)) 0:=
 Of m.2.2.2.2.2.2.2.2.2.2.2.2.1 (·.1) (Nh N m p) (λs=>Ng N m p N s 0) (λf i s h1 h2=>by
  rw [Nh,if_pos (by omega),PX,zf h,Vu,if_pos Z,Af _ (by omega),Af _ (by simp only [za,zj];omega),Af _ (by omega),q3];rfl)
  (λf s=>by rw [Nh,if_neg (by omega),Vu,if_neg (by decide)]) m.2.2.2.2.2.2.2.2.2.2.2.2.1.length N 0 (q6 _) (by omega)
theorem eL(s:List (W2))(h:p≠13):Ng N m p N s 0=Nf m p N s 0:=by
 obtain⟨f,rfl⟩: ∃n,N=n+1:=⟨N - 1,by omega⟩
 rw [Ng,PX,ze h]
 split<;>(rw [Vt,if_neg (by decide)])
theorem xG(hl:m.2.2.2.2.2.2.2.2.2.2.2.2.2.1.length<=1048576)(h:p=13):Ng N m p N [] 0=Nf m p N (m.2.2.2.2.2.2.2.2.2.2.2.2.2.1.map (·.1)) 0:=
 Of m.2.2.2.2.2.2.2.2.2.2.2.2.2.1 (·.1) (Ng N m p) (λs=>Nf m p N s 0) (λf i s h1 h2=>by
  rw [Ng,if_pos (by omega),PX,zf h,Vt,if_pos Z,Af _ (by omega),Af _ (by simp only [za,zj];omega),Af _ (by omega),q3];rfl)
  (λf s=>by rw [Ng,if_neg (by omega),Vt,if_neg (by decide)]) m.2.2.2.2.2.2.2.2.2.2.2.2.2.1.length N 0 (q6 _) (by omega)
theorem bp(s:List (W2))(h:p≠14):Nf m p N s 0=some s:=by
 obtain⟨f,rfl⟩: ∃n,N=n+1:=⟨N - 1,by omega⟩
 rw [Nf,PX,ze h]
 split<;>(rw [Vs,if_neg (by decide)])
theorem xF(hl:m.2.2.2.2.2.2.2.2.2.2.2.2.2.2.1.length<=1048576)(h:p=14):Nf m p N [] 0=some (m.2.2.2.2.2.2.2.2.2.2.2.2.2.2.1.map (·.1)):=
 Of m.2.2.2.2.2.2.2.2.2.2.2.2.2.2.1 (·.1) (Nf m p) (λs=>some s) (λf i s h1 h2=>by
  rw [Nf,if_pos (by omega),PX,zf h,Vs,if_pos Z,Af _ (by omega),Af _ (by simp only [za,zj];omega),Af _ (by omega),q3];rfl)
  (λf s=>by rw [Nf,if_neg (by omega),Vs,if_neg (by decide)]) m.2.2.2.2.2.2.2.2.2.2.2.2.2.2.1.length N 0 (q6 _) (by omega)
theorem iO(hT: ∀c:Nat,c<15->(By m (c:Int)).length<=1048576):rTm N m p=some (By m p):=by
 have h1:m.2.1.length<=1048576:=by have:=hT 1 (by omega);simpa [By] using this
 have h3:m.2.2.2.1.length<=1048576:=by have:=hT 3 (by omega);simpa [By] using this
 have h4:m.2.2.2.2.1.length<=1048576:=by have:=hT 4 (by omega);simpa [By] using this
 have h5:m.2.2.2.2.2.1.length<=1048576:=by have:=hT 5 (by omega);simpa [By] using this
 have h6:m.2.2.2.2.2.2.1.length<=1048576:=by have:=hT 6 (by omega);simpa [By] using this
 have h12:m.2.2.2.2.2.2.2.2.2.2.2.2.1.length<=1048576:=by have:=hT 12 (by omega);simpa [By] using this
 have h13:m.2.2.2.2.2.2.2.2.2.2.2.2.2.1.length<=1048576:=by have:=hT 13 (by omega);simpa [By] using this
 have h14:m.2.2.2.2.2.2.2.2.2.2.2.2.2.2.1.length<=1048576:=by have:=hT 14 (by omega);simpa [By] using this
 unfold rTm By
 by_cases c1:p=1
 ·rw [if_pos c1,ty1 hN h1 c1,tn3 (m:=m) (p:=p) hN _ (by omega),tn4 (m:=m) (p:=p) hN _ (by omega),tn5 (m:=m) (p:=p) hN _ (by omega),tn6 (m:=m) (p:=p) hN _ (by omega),iC (m:=m) (p:=p) hN _ (by omega),eL (m:=m) (p:=p) hN _ (by omega),bp (m:=m) (p:=p) hN _ (by omega)]
 rw [if_neg c1,tn1 hN _ c1]
 by_cases c3:p=3
 ·rw [if_pos c3,ty3 hN h3 c3,tn4 (m:=m) (p:=p) hN _ (by omega),tn5 (m:=m) (p:=p) hN _ (by omega),tn6 (m:=m) (p:=p) hN _ (by omega),iC (m:=m) (p:=p) hN _ (by omega),eL (m:=m) (p:=p) hN _ (by omega),bp (m:=m) (p:=p) hN _ (by omega)]
 rw [if_neg c3,tn3 hN _ c3]
 by_cases c4:p=4
 ·rw [if_pos c4,ty4 hN h4 c4,tn5 (m:=m) (p:=p) hN _ (by omega),tn6 (m:=m) (p:=p) hN _ (by omega),iC (m:=m) (p:=p) hN _ (by omega),eL (m:=m) (p:=p) hN _ (by omega),bp (m:=m) (p:=p) hN _ (by omega)]
 rw [if_neg c4,tn4 hN _ c4]
 by_cases c5:p=5
 ·rw [if_pos c5,ty5 hN h5 c5,tn6 (m:=m) (p:=p) hN _ (by omega),iC (m:=m) (p:=p) hN _ (by omega),eL (m:=m) (p:=p) hN _ (by omega),bp (m:=m) (p:=p) hN _ (by omega)]
 rw [if_neg c5,tn5 hN _ c5]
 by_cases c6:p=6
 ·rw [if_pos c6,ty6 hN h6 c6,iC (m:=m) (p:=p) hN _ (by omega),eL (m:=m) (p:=p) hN _ (by omega),bp (m:=m) (p:=p) hN _ (by omega)]
 rw [if_neg c6,tn6 hN _ c6]
 by_cases c12:p=12
 ·rw [if_pos c12,xH hN h12 c12,eL (m:=m) (p:=p) hN _ (by omega),bp (m:=m) (p:=p) hN _ (by omega)]
 rw [if_neg c12,iC hN _ c12]
 by_cases c13:p=13
 ·rw [if_pos c13,xG hN h13 c13,bp (m:=m) (p:=p) hN _ (by omega)]
 rw [if_neg c13,eL hN _ c13]
 by_cases c14:p=14
 ·rw [if_pos c14,xF hN h14 c14]
 rw [if_neg c14,bp hN _ c14]
end
section
variable {N:Nat} {m:Ao}
theorem kq(hN:20000000<N)(hL:Lit m)(hR:Rg m)(p:Int)(i:Nat)(hi:i<(By m p).length):Tot (FC N m p (i:Int)):=by
 have hil:m.2.2.1.length<=1048576:=by have:=hL.il;omega
 have k3: ∀b,Tot (DD b):=λb=>by unfold DD;exact T1
 have k2: ∀n,Tot (BK n):=λn=>by unfold BK;exact Tot.ite (λ_=>k3 _) (λ_=>k3 _)
 have k4: ∀b,Tot (DC b):=λb=>by unfold DC;exact Tot.ite (λ_=>T1) (λ_=>k2 _)
 have e3:p=3->i<m.2.2.2.1.length:=λe=>by subst e;simpa [By] using hi
 have e4:p=4->i<m.2.2.2.2.1.length:=λe=>by subst e;simpa [By] using hi
 have e5:p=5->i<m.2.2.2.2.2.1.length:=λe=>by subst e;simpa [By] using hi
 have e6:p=6->i<m.2.2.2.2.2.2.1.length:=λe=>by subst e;simpa [By] using hi
 have e12:p=12->i<m.2.2.2.2.2.2.2.2.2.2.2.2.1.length:=λe=>by subst e;simpa [By] using hi
 have e13:p=13->i<m.2.2.2.2.2.2.2.2.2.2.2.2.2.1.length:=λe=>by subst e;simpa [By] using hi
 have e14:p=14->i<m.2.2.2.2.2.2.2.2.2.2.2.2.2.2.1.length:=λe=>by subst e;simpa [By] using hi
 unfold FC
 rw [q3]
 refine Tot.ite (λc=>Tot.ck (by have:=e3 c;omega) (Tot.ite (λ_=>k4 _) (λ_=>Tot.ck (by have:=e3 c;omega) (k4 _)))) (λ_=> ?_)
 refine Tot.ite (λc=>Tot.ck (by have:=e4 c;omega) ((kt hN hil (m.2.2.2.2.1[i]!) (hL.st i (e4 c)) (hR.st _ (Fa (e4 c)))).bind λ_ _=>T1)) (λ_=> ?_)
 refine Tot.ite (λc=>Tot.ck (by have:=e5 c;omega) (Tot.ite (λ_=>T1) (λ_=> ?_))) (λ_=> ?_)
 ·have hac:=hL.ac i (e5 c)
  refine Qe ((m.2.2.2.2.2.1)[i]!.2.1).length (Bm N m (i:Int)) (λf j h hk=> ?_) (λf=> ?_) (by omega)
  ·have k7: ∀b,Tot (DB (j:Int) (Bm N m (i:Int) f) b):=λb=>by unfold DB;exact T1
   rw [Bm,q3,if_pos (by omega),Af _ (by omega)]
   exact Tot.ite (λ_=>k7 _) (λ_=>Tot.ck (by omega) (k7 _))
  ·rw [Bm,q3,if_neg (by omega)]
   exact(gl hN hil _ (by omega) (hR.ac _ (Fa (e5 c))) _).bind λ_ _=>T1
 refine Tot.ite (λc=>Tot.ck (by have:=e6 c;omega) ((kr hN hil (m.2.2.2.2.2.2.1[i]!) (hL.tb i (e6 c)) (hR.tb _ (Fa (e6 c)))).bind λ_ _=>T1)) (λ_=> ?_)
 have k8:p=12-> ∀b,Tot (DA m (i:Int) b):=λc b=>by
  unfold DA;exact Tot.ite (λ_=>T1) (λ_=>Tot.ck (by have:=e12 c;omega) (k2 _))
 refine Tot.ite (λc=>Tot.ck (by have:=e12 c;omega) (Tot.ite (λ_=>k8 c _) (λ_=>Tot.ck (by have:=e12 c;omega) (k8 c _)))) (λ_=> ?_)
 refine Tot.ite (λc=>Tot.ck (by have:=e13 c;omega) (k2 _)) (λ_=> ?_)
 have k10: ∀b,Tot (BH m (i:Int) b):=λb=>by unfold BH;exact Tot.ite (λ_=>T1) (λ_=>k2 _)
 have k9:p=14-> ∀b,Tot (Dz m (i:Int) b):=λc b=>by
  have h0:(0:Int)<=(i:Int)/\(i:Int)<(m.2.2.2.2.2.2.2.2.2.2.2.2.2.2.1.length:Int):=by have:=e14 c;omega
  unfold Dz
  exact Tot.ite (λ_=>Tot.ck h0 (Tot.ite (λ_=>k10 _) (λ_=>Tot.ck h0 (Tot.ite (λ_=>k10 _) (λ_=>Tot.ck h0 (Tot.ite (λ_=>k10 _) (λ_=>Tot.ck h0 (k10 _)))))))) (λ_=>k10 _)
 exact Tot.ite (λc=>Tot.ck (by have:=e14 c;omega) (Tot.ite (λ_=>k9 c _) (λ_=>k9 c _))) (λ_=>k2 _)
theorem lT{α:Type}{T:Option α->Prop}{P:Nat->Prop}(top:Nat)(loop:Nat->Int->Option α)(step: ∀f i:Nat,i<top->P i->(P (i+1)->T (loop f ((i:Int)+1)))->T (loop (f+1) (i:Int)))
  (stop: ∀f,P top->T (loop (f+1) (top:Int))): ∀(k f i:Nat),i+k=top->k<f->P i->T (loop f (i:Int)):=by
 intro k
 induction k with
 |zero=>
  intro f i hi hf hp
  obtain⟨f,rfl⟩: ∃n,f=n+1:=⟨f - 1,by omega⟩
  obtain rfl:i=top:=by omega
  exact stop f hp
 |succ k ih=>
  intro f i hi hf hp
  obtain⟨f,rfl⟩: ∃n,f=n+1:=⟨f - 1,by omega⟩
  exact step f i (by omega) hp λh=>by
   have:=ih f (i+1) (by omega) (by omega) h
   rwa [show((i+1:Nat):Int)=(i:Int)+1 by omega] at this
theorem Qd{x:Option (Int×Int)}{G:Prop}(h:Tot x)(g:G):Ans2 x G:=by obtain⟨r,e⟩:=h;exact⟨r,e,λ_=>g⟩
theorem bg{a e:Int}{G:Prop}(h:e≠0):Ans2 (some (a,e)) G:=⟨_,Z,λq=>absurd q h⟩
def eA(m:Ao):Prop:= ∀i,i<m.2.1.length->RX (m.2.1[i]!).1 (m.2.1[i]!).2.1 (m.2.1[i]!).2.2.1 (m.2.1[i]!).2.2.2.1 (m.2.1[i]!).2.2.2.2.1 (m.2.1[i]!).2.2.2.2.2=0
theorem bI(hN:20000000<N)(hL:Lit m)(hR:Rg m)(p:Int)(h0:0<=p)(h1:p<15)(b:Bool):Ans2 (DN N m p (By m p) b) (p=1->eA m):=by
 have hb:brf (By m p):=by have:=hL.ti p.toNat (by omega);rwa [Int.toNat_of_nonneg h0] at this
 unfold DN
 cases b with
 |true=>rw [if_pos Z];exact bg (by decide)
 |false=>
  rw [if_neg (by decide)]
  by_cases c:((By m p).length:Int)>([0,16,0,16,16,32,8,0,0,0,0,0,8,8,8])[p.toNat]!
  ·rw [if_pos c];exact bg (by decide)
  rw [if_neg c]
  refine lT (T:=λx=>Ans2 x (p=1->eA m)) (P:=λi=>p=1-> ∀j,j<i->RX (m.2.1[j]!).1 (m.2.1[j]!).2.1 (m.2.1[j]!).2.2.1 (m.2.1[j]!).2.2.2.1 (m.2.1[j]!).2.2.2.2.1 (m.2.1[j]!).2.2.2.2.2=0) (By m p).length (AP N m p (By m p)) (λf i h hp hk=> ?_) (λf hp=> ?_) (By m p).length N 0 (q6 _) (by have:=hb.2;omega) (λ_ j hj=>absurd hj (Nat.not_lt_zero j))
  ·have hl:=hb.2
   have k18:(p=1->RX (m.2.1[i]!).1 (m.2.1[i]!).2.1 (m.2.1[i]!).2.2.1 (m.2.1[i]!).2.2.2.1 (m.2.1[i]!).2.2.2.2.1 (m.2.1[i]!).2.2.2.2.2=0)-> ∀e,Ans2 (Cy (i:Int) (AP N m p (By m p) f) e) (p=1->eA m):=λq e=>by
    unfold Cy
    by_cases d:e=0
    ·rw [if_neg (λh=>h d),Af _ (by omega)]
     refine hk λe1 j hj=> ?_
     rcases Nat.lt_or_ge j i with h2|h2
     ·exact hp e1 j h2
     ·obtain rfl:j=i:=by omega
      exact q e1
    ·rw [if_pos d];exact bg d
   have k16:(p=1->RX (m.2.1[i]!).1 (m.2.1[i]!).2.1 (m.2.1[i]!).2.2.1 (m.2.1[i]!).2.2.2.1 (m.2.1[i]!).2.2.2.2.1 (m.2.1[i]!).2.2.2.2.2=0)-> ∀e,Ans2 (Cz N m p (i:Int) (AP N m p (By m p) f) e) (p=1->eA m):=λq e=>by
    unfold Cz
    by_cases d:e=0
    ·obtain⟨r,e2⟩:=kq hN hL hR p i h
     rw [if_pos d,e2,q0];exact k18 q _
    ·rw [if_neg d];exact k18 q _
   have k14: ∀e,(e=0->p=1->RX (m.2.1[i]!).1 (m.2.1[i]!).2.1 (m.2.1[i]!).2.2.1 (m.2.1[i]!).2.2.2.1 (m.2.1[i]!).2.2.2.2.1 (m.2.1[i]!).2.2.2.2.2=0)->Ans2 (DM N m p (By m p) (i:Int) (AP N m p (By m p) f) e) (p=1->eA m):=λe q=>by
    unfold DM
    by_cases d:e=0
    ·have ht:((By m p).take (i+1)).length=i+1:=by rw [q7];omega
     have e3:((i:Int)+1).toNat=i+1:=by omega
     obtain⟨r,e2⟩:=ko hN ((By m p).take (i+1)) (by omega) (by omega) (λj hj=>by
      have:=hb.1 j (by omega)
      rwa [zg _ j (by omega),<-j4 (h:=hj),<-zg _ j hj] at this)
     rw [if_pos d,Af _ (by omega),Af _ (by omega),e3,j0,e2,q0];exact k16 (q d) _
    ·rw [if_neg d]
     unfold Cz Cy
     rw [if_neg d,if_pos d];exact bg d
   rw [AP,if_pos (by omega)]
   by_cases c1:p=1
   ·have hi:i<m.2.1.length:=by subst c1;simpa [By] using h
    have hd:=hL.hd i hi
    have hn:(m.2.1[i]!).1.length<=1048576:=by
     have:=hb.1 i h
     subst c1
     rwa [show By m 1=m.2.1.map (λx:Hd=>x.1)from Z,Nz (λx:Hd=>x.1) m.2.1 i hi] at this
    rw [if_pos c1,Af _ (by omega),q3,iW N _ _ _ _ _ _ hn hd.1 hd.2 hN,q0]
    exact k14 _ λq _=>q
   ·rw [if_neg c1];exact k14 _ λ_ q=>absurd q c1
  ·rw [AP,if_neg (by omega)]
   refine⟨_,Z,λ_ e i hi=>hp e i ?_⟩
   subst e;simpa [By] using hi
theorem iQ(hN:20000000<N)(hL:Lit m)(hR:Rg m)(p:Nat)(h1:p<15)(hh:2<=p->eA m):Ans2 (Gf N m (p:Int)) ((p:Int)=1->eA m):=by
 have hil:=hL.il
 have hi:m.2.2.1.length<=1048576:=by omega
 have hd:2<=p-> ∀h∈m.2.1,okW h.2.1/\h.2.1.length<=1048576:=λc h hm=>by
  obtain⟨i,hi,rfl⟩:=List.mem_iff_getElem.1 hm
  have h2:=hh c i hi
  rw [zg _ i hi] at h2
  have h3:=(hL.hd i hi).1
  rw [zg _ i hi] at h3
  exact⟨(gA h2).1,h3⟩
 have k5: ∀b,Tot (DZ b):=λb=>by unfold DZ;exact T1
 have k4: ∀b,Tot (Ea m b):=λb=>by unfold Ea;exact Tot.ite (λ_=>k5 _) (λ_=>k5 _)
 have k3: ∀b,Tot (Eb m b):=λb=>by unfold Eb;exact Tot.ite (λ_=>k4 _) (λ_=>k4 _)
 have k2: ∀b,Tot (Ec m b):=λb=>by unfold Ec;exact Tot.ite (λ_=>k3 _) (λ_=>k3 _)
 have k1: ∀b,Tot (Ed m b):=λb=>by unfold Ed;exact Tot.ite (λ_=>k2 _) (λ_=>k2 _)
 have hnm:=hL.nm
 unfold Gf
 by_cases c0:(p:Int)=0
 ·rw [if_pos c0,bJ N _ (by omega) (by omega),q0]
  exact Qd (Tot.ite (λ_=>Tot.ite (λ_=>k1 _) (λ_=>k1 _)) (λ_=>T1)) (λe=>by omega)
 rw [if_neg c0]
 by_cases c2:(p:Int)=2
 ·rw [if_pos c2,eW N hN _ _ hi (λj hj=> ?_),q0]
  ·exact Qd T1 (λe=>by omega)
  ·have:=hL.ins j hj
   exact this
 rw [if_neg c2]
 by_cases c7:(p:Int)=7
 ·rw [if_pos c7]
  exact Qd ((bH hN hi _ (by omega) (λi h=>hL.ni i h) hR.ni).bind λ_ _=>T1) (λe=>by omega)
 rw [if_neg c7]
 by_cases c8:(p:Int)=8
 ·rw [if_pos c8]
  exact Qd ((bH hN hi _ (by omega) (λi h=>hL.ne i h) hR.ne).bind λ_ _=>T1) (λe=>by omega)
 rw [if_neg c8]
 by_cases c9:(p:Int)=9
 ·rw [if_pos c9]
  refine Qd (Tot.ite (λ_=>T1) (λ_=>Qe m.2.2.2.2.2.2.2.2.2.1.length (BG N m) (λf i h hk=> ?_) (λf=> ?_) (by omega))) (λe=>by omega)
  ·rw [BG,if_pos (by omega),Af _ (by omega),Sy hN hi,q0]
   refine Tot.ite (λ_=>Qe i (Cg m (i:Int) (BG N m f)) (λg j h2 hh2=> ?_) (λg=> ?_) (by omega)) (λ_=>T1)
   ·rw [Cg,if_pos (by omega),Af _ (by omega),Af _ (by omega)];exact T1
   ·rw [Cg,if_neg (by omega)];exact T1
  ·rw [BG,if_neg (by omega)];exact T1
 rw [if_neg c9]
 by_cases c10:(p:Int)=10
 ·rw [if_pos c10]
  exact Qd ((gi hN hi (hd (by omega)) _ (by omega)).bind λ_ _=>T1) (λe=>by omega)
 rw [if_neg c10]
 by_cases c11:(p:Int)=11
 ·rw [if_pos c11]
  exact Qd ((gi hN hi (hd (by omega)) _ (by omega)).bind λ_ _=>T1) (λe=>by omega)
 rw [if_neg c11,iO hN (λc hc=>(hL.ti c hc).2),q0,Af _ (by simp only [za,zj];omega)]
 split
 ·exact bI hN hL hR _ (by omega) (by omega) _
 ·exact bI hN hL hR _ (by omega) (by omega) _
theorem kD(hN:20000000<N)(hL:Lit m)(hR:Rg m):Tot (Hr N m):=by
 refine Ve (P:=λi=>2<=i->eA m) 15 (BZ N m) (λf i h hp hk=> ?_) (λf _=> ?_) 15 N 0 (q6 _) (by omega) (λh=>absurd h (by omega))
 ·obtain⟨r,e,q⟩:=iQ hN hL hR i h hp
  rw [BZ,if_pos (by omega),e,q0]
  refine Tot.ite (λ_=>T1) (λc=>Tot.ck (by omega) (hk λh2=> ?_))
  rcases Nat.lt_or_ge i 2 with h3|h3
  ·exact q (Classical.not_not.1 c) (by omega)
  ·exact hp h3
 ·rw [BZ,if_neg (by decide)];exact T1
end
end Go.Proofs.YtjlomkippigejaaGreatDoor
