import Derived.Test.YtjnanfkpdhmnpaaGreatDoorRu
set_option linter.unusedSimpArgs false
set_option linter.unusedVariables false
namespace Go.Proofs.YtjnanfkpdhmnpaaGreatDoor
open Go Go.RowKit Go.Eng
section
variable {N:Nat} {m:Ao} {p:Int} (hN:20000000<N)
include hN
theorem tn1(s:Y0 (W2))(h:p≠1):TY N m p N s 0=RY N m p N s 0:=by
 obtain⟨f,rfl⟩: ∃n,N=n+1:=⟨N - 1,by omega⟩
 rw [TY,Qz,zk h]
 split<;>(rw [fG,V9 (by decide)])
theorem ty1(hl:m.2.1.length<=1048576)(h:p=1):TY N m p N [] 0=RY N m p N (m.2.1.map (·.1)) 0:=
 OC m.2.1 (·.1) (TY N m p) (λs=>RY N m p N s 0) (λf i s h1 h2=>by
  rw [TY,V8 (by omega),Qz,zl h,fG,V8 Z,Af _ (by omega),Af _ (by simp only [zg,zp];omega),Af _ (by omega),q4];rfl)
  (λf s=>by rw [TY,V9 (by omega),fG,V9 (by decide)]) m.2.1.length N 0 (q7 _) (by omega)
theorem tn3(s:Y0 (W2))(h:p≠3):RY N m p N s 0=NF N m p N s 0:=by
 obtain⟨f,rfl⟩: ∃n,N=n+1:=⟨N - 1,by omega⟩
 rw [RY,Qz,zk h]
 split<;>(rw [fF,V9 (by decide)])
theorem ty3(hl:m.2.2.2.1.length<=1048576)(h:p=3):RY N m p N [] 0=NF N m p N (m.2.2.2.1.map (·.1)) 0:=
 OC m.2.2.2.1 (·.1) (RY N m p) (λs=>NF N m p N s 0) (λf i s h1 h2=>by
  rw [RY,V8 (by omega),Qz,zl h,fF,V8 Z,Af _ (by omega),Af _ (by simp only [zg,zp];omega),Af _ (by omega),q4];rfl)
  (λf s=>by rw [RY,V9 (by omega),fF,V9 (by decide)]) m.2.2.2.1.length N 0 (q7 _) (by omega)
theorem tn4(s:Y0 (W2))(h:p≠4):NF N m p N s 0=NE N m p N s 0:=by
 obtain⟨f,rfl⟩: ∃n,N=n+1:=⟨N - 1,by omega⟩
 rw [NF,Qz,zk h]
 split<;>(rw [VW,V9 (by decide)])
theorem ty4(hl:m.2.2.2.2.1.length<=1048576)(h:p=4):NF N m p N [] 0=NE N m p N (m.2.2.2.2.1.map (·.1)) 0:=
 OC m.2.2.2.2.1 (·.1) (NF N m p) (λs=>NE N m p N s 0) (λf i s h1 h2=>by
  rw [NF,V8 (by omega),Qz,zl h,VW,V8 Z,Af _ (by omega),Af _ (by simp only [zg,zp];omega),Af _ (by omega),q4];rfl)
  (λf s=>by rw [NF,V9 (by omega),VW,V9 (by decide)]) m.2.2.2.2.1.length N 0 (q7 _) (by omega)
theorem tn5(s:Y0 (W2))(h:p≠5):NE N m p N s 0=ND N m p N s 0:=by
 obtain⟨f,rfl⟩: ∃n,N=n+1:=⟨N - 1,by omega⟩
 rw [NE,Qz,zk h]
 split<;>(rw [VV,V9 (by decide)])
theorem ty5(hl:m.2.2.2.2.2.1.length<=1048576)(h:p=5):NE N m p N [] 0=ND N m p N (m.2.2.2.2.2.1.map (·.1)) 0:=
 OC m.2.2.2.2.2.1 (·.1) (NE N m p) (λs=>ND N m p N s 0) (λf i s h1 h2=>by
  rw [NE,V8 (by omega),Qz,zl h,VV,V8 Z,Af _ (by omega),Af _ (by simp only [zg,zp];omega),Af _ (by omega),q4];rfl)
  (λf s=>by rw [NE,V9 (by omega),VV,V9 (by decide)]) m.2.2.2.2.2.1.length N 0 (q7 _) (by omega)
theorem tn6(s:Y0 (W2))(h:p≠6):ND N m p N s 0=NC N m p N s 0:=by
 obtain⟨f,rfl⟩: ∃n,N=n+1:=⟨N - 1,by omega⟩
 rw [ND,Qz,zk h]
 split<;>(rw [VU,V9 (by decide)])
theorem ty6(hl:m.2.2.2.2.2.2.1.length<=1048576)(h:p=6):ND N m p N [] 0=NC N m p N (m.2.2.2.2.2.2.1.map (·.1)) 0:=
 OC m.2.2.2.2.2.2.1 (·.1) (ND N m p) (λs=>NC N m p N s 0) (λf i s h1 h2=>by
  rw [ND,V8 (by omega),Qz,zl h,VU,V8 Z,Af _ (by omega),Af _ (by simp only [zg,zp];omega),Af _ (by omega),q4];rfl)
  (λf s=>by rw [ND,V9 (by omega),VU,V9 (by decide)]) m.2.2.2.2.2.2.1.length N 0 (q7 _) (by omega)
theorem jz(s:Y0 (W2))(h:p≠12):NC N m p N s 0=NB N m p N s 0:=by
 obtain⟨f,rfl⟩: ∃n,N=n+1:=⟨N - 1,by omega⟩
 rw [NC,Qz,zk h]
 split<;>(rw [VT,V9 (by decide)])
theorem yM(hl:m.2.2.2.2.2.2.2.2.2.2.2.2.1.length<=1048576)(h:p=12):NC N m p N [] 0=NB N m p N (m.2.2.2.2.2.2.2.2.2.2.2.2.1.map (·.1)) 0:=
 OC m.2.2.2.2.2.2.2.2.2.2.2.2.1 (·.1) (NC N m p) (λs=>NB N m p N s 0) (λf i s h1 h2=>by
  rw [NC,V8 (by omega),Qz,zl h,VT,V8 Z,Af _ (by omega),Af _ (by simp only [zg,zp];omega),Af _ (by omega),q4];rfl)
  (λf s=>by rw [NC,V9 (by omega),VT,V9 (by decide)]) m.2.2.2.2.2.2.2.2.2.2.2.2.1.length N 0 (q7 _) (by omega)
theorem fo(s:Y0 (W2))(h:p≠13):NB N m p N s 0=NA m p N s 0:=by
 obtain⟨f,rfl⟩: ∃n,N=n+1:=⟨N - 1,by omega⟩
 rw [NB,Qz,zk h]
 split<;>(rw [VS,V9 (by decide)])
theorem yL(hl:m.2.2.2.2.2.2.2.2.2.2.2.2.2.1.length<=1048576)(h:p=13):NB N m p N [] 0=NA m p N (m.2.2.2.2.2.2.2.2.2.2.2.2.2.1.map (·.1)) 0:=
 OC m.2.2.2.2.2.2.2.2.2.2.2.2.2.1 (·.1) (NB N m p) (λs=>NA m p N s 0) (λf i s h1 h2=>by
  rw [NB,V8 (by omega),Qz,zl h,VS,V8 Z,Af _ (by omega),Af _ (by simp only [zg,zp];omega),Af _ (by omega),q4];rfl)
  (λf s=>by rw [NB,V9 (by omega),VS,V9 (by decide)]) m.2.2.2.2.2.2.2.2.2.2.2.2.2.1.length N 0 (q7 _) (by omega)
theorem bO(s:Y0 (W2))(h:p≠14):NA m p N s 0=some s:=by
 obtain⟨f,rfl⟩: ∃n,N=n+1:=⟨N - 1,by omega⟩
 rw [NA,Qz,zk h]
 split<;>(rw [VR,V9 (by decide)])
theorem yK(hl:m.2.2.2.2.2.2.2.2.2.2.2.2.2.2.1.length<=1048576)(h:p=14):NA m p N [] 0=some (m.2.2.2.2.2.2.2.2.2.2.2.2.2.2.1.map (·.1)):=
 OC m.2.2.2.2.2.2.2.2.2.2.2.2.2.2.1 (·.1) (NA m p) (λs=>some s) (λf i s h1 h2=>by
  rw [NA,V8 (by omega),Qz,zl h,VR,V8 Z,Af _ (by omega),Af _ (by simp only [zg,zp];omega),Af _ (by omega),q4];rfl)
  (λf s=>by rw [NA,V9 (by omega),VR,V9 (by decide)]) m.2.2.2.2.2.2.2.2.2.2.2.2.2.2.1.length N 0 (q7 _) (by omega)
theorem jF(hT: ∀c:Nat,c<15->(BJ m (c:Int)).length<=1048576):rTm N m p=some (BJ m p):=by
 have h1:m.2.1.length<=1048576:=by have:=hT 1 (by omega);simpa [BJ] using this
 have h3:m.2.2.2.1.length<=1048576:=by have:=hT 3 (by omega);simpa [BJ] using this
 have h4:m.2.2.2.2.1.length<=1048576:=by have:=hT 4 (by omega);simpa [BJ] using this
 have h5:m.2.2.2.2.2.1.length<=1048576:=by have:=hT 5 (by omega);simpa [BJ] using this
 have h6:m.2.2.2.2.2.2.1.length<=1048576:=by have:=hT 6 (by omega);simpa [BJ] using this
 have h12:m.2.2.2.2.2.2.2.2.2.2.2.2.1.length<=1048576:=by have:=hT 12 (by omega);simpa [BJ] using this
 have h13:m.2.2.2.2.2.2.2.2.2.2.2.2.2.1.length<=1048576:=by have:=hT 13 (by omega);simpa [BJ] using this
 have h14:m.2.2.2.2.2.2.2.2.2.2.2.2.2.2.1.length<=1048576:=by have:=hT 14 (by omega);simpa [BJ] using this
 unfold rTm BJ
 by_cases c1:p=1
 ·rw [V8 c1,ty1 hN h1 c1,tn3 (m:=m) (p:=p) hN _ (by omega),tn4 (m:=m) (p:=p) hN _ (by omega),tn5 (m:=m) (p:=p) hN _ (by omega),tn6 (m:=m) (p:=p) hN _ (by omega),jz (m:=m) (p:=p) hN _ (by omega),fo (m:=m) (p:=p) hN _ (by omega),bO (m:=m) (p:=p) hN _ (by omega)]
 rw [V9 c1,tn1 hN _ c1]
 by_cases c3:p=3
 ·rw [V8 c3,ty3 hN h3 c3,tn4 (m:=m) (p:=p) hN _ (by omega),tn5 (m:=m) (p:=p) hN _ (by omega),tn6 (m:=m) (p:=p) hN _ (by omega),jz (m:=m) (p:=p) hN _ (by omega),fo (m:=m) (p:=p) hN _ (by omega),bO (m:=m) (p:=p) hN _ (by omega)]
 rw [V9 c3,tn3 hN _ c3]
 by_cases c4:p=4
 ·rw [V8 c4,ty4 hN h4 c4,tn5 (m:=m) (p:=p) hN _ (by omega),tn6 (m:=m) (p:=p) hN _ (by omega),jz (m:=m) (p:=p) hN _ (by omega),fo (m:=m) (p:=p) hN _ (by omega),bO (m:=m) (p:=p) hN _ (by omega)]
 rw [V9 c4,tn4 hN _ c4]
 by_cases c5:p=5
 ·rw [V8 c5,ty5 hN h5 c5,tn6 (m:=m) (p:=p) hN _ (by omega),jz (m:=m) (p:=p) hN _ (by omega),fo (m:=m) (p:=p) hN _ (by omega),bO (m:=m) (p:=p) hN _ (by omega)]
 rw [V9 c5,tn5 hN _ c5]
 by_cases c6:p=6
 ·rw [V8 c6,ty6 hN h6 c6,jz (m:=m) (p:=p) hN _ (by omega),fo (m:=m) (p:=p) hN _ (by omega),bO (m:=m) (p:=p) hN _ (by omega)]
 rw [V9 c6,tn6 hN _ c6]
 by_cases c12:p=12
 ·rw [V8 c12,yM hN h12 c12,fo (m:=m) (p:=p) hN _ (by omega),bO (m:=m) (p:=p) hN _ (by omega)]
 rw [V9 c12,jz hN _ c12]
 by_cases c13:p=13
 ·rw [V8 c13,yL hN h13 c13,bO (m:=m) (p:=p) hN _ (by omega)]
 rw [V9 c13,fo hN _ c13]
 by_cases c14:p=14
 ·rw [V8 c14,yK hN h14 c14]
 rw [V9 c14,bO hN _ c14]
end
section
variable {N:Nat} {m:Ao}
theorem lB(hN:20000000<N)(hL:Lit m)(hR:Rg m)(p:Int)(i:Nat)(hi:i<(BJ m p).length):Tot (FS N m p (i:Int)):=by
 have hil:m.2.2.1.length<=1048576:=by have:=hL.il;omega
 have k3: ∀b,Tot (DP b):=λb=>by unfold DP;exact T1
 have k2: ∀n,Tot (BV n):=λn=>by unfold BV;exact Tot.ite (λ_=>k3 _) (λ_=>k3 _)
 have k4: ∀b,Tot (DO b):=λb=>by unfold DO;exact Tot.ite (λ_=>T1) (λ_=>k2 _)
 have e3:p=3->i<m.2.2.2.1.length:=λe=>by subst e;simpa [BJ] using hi
 have e4:p=4->i<m.2.2.2.2.1.length:=λe=>by subst e;simpa [BJ] using hi
 have e5:p=5->i<m.2.2.2.2.2.1.length:=λe=>by subst e;simpa [BJ] using hi
 have e6:p=6->i<m.2.2.2.2.2.2.1.length:=λe=>by subst e;simpa [BJ] using hi
 have e12:p=12->i<m.2.2.2.2.2.2.2.2.2.2.2.2.1.length:=λe=>by subst e;simpa [BJ] using hi
 have e13:p=13->i<m.2.2.2.2.2.2.2.2.2.2.2.2.2.1.length:=λe=>by subst e;simpa [BJ] using hi
 have e14:p=14->i<m.2.2.2.2.2.2.2.2.2.2.2.2.2.2.1.length:=λe=>by subst e;simpa [BJ] using hi
 unfold FS
 rw [q4]
 refine Tot.ite (λc=>Tot.ck (by have:=e3 c;omega) (Tot.ite (λ_=>k4 _) (λ_=>Tot.ck (by have:=e3 c;omega) (k4 _)))) (λ_=> ?_)
 refine Tot.ite (λc=>Tot.ck (by have:=e4 c;omega) ((lD hN hil (m.2.2.2.2.1[i]!) (hL.st i (e4 c)) (hR.st _ (Fm (e4 c)))).bind λ_ _=>T1)) (λ_=> ?_)
 refine Tot.ite (λc=>Tot.ck (by have:=e5 c;omega) (Tot.ite (λ_=>T1) (λ_=> ?_))) (λ_=> ?_)
 ·have hac:=hL.ac i (e5 c)
  refine QJ ((m.2.2.2.2.2.1)[i]!.2.1).length (Bx N m (i:Int)) (λf j h hk=> ?_) (λf=> ?_) (by omega)
  ·have k7: ∀b,Tot (DN (j:Int) (Bx N m (i:Int) f) b):=λb=>by unfold DN;exact T1
   rw [Bx,q4,V8 (by omega),Af _ (by omega)]
   exact Tot.ite (λ_=>k7 _) (λ_=>Tot.ck (by omega) (k7 _))
  ·rw [Bx,q4,V9 (by omega)]
   exact(hZ hN hil _ (by omega) (hR.ac _ (Fm (e5 c))) _).bind λ_ _=>T1
 refine Tot.ite (λc=>Tot.ck (by have:=e6 c;omega) ((lC hN hil (m.2.2.2.2.2.2.1[i]!) (hL.tb i (e6 c)) (hR.tb _ (Fm (e6 c)))).bind λ_ _=>T1)) (λ_=> ?_)
 have k8:p=12-> ∀b,Tot (DM m (i:Int) b):=λc b=>by
  unfold DM;exact Tot.ite (λ_=>T1) (λ_=>Tot.ck (by have:=e12 c;omega) (k2 _))
 refine Tot.ite (λc=>Tot.ck (by have:=e12 c;omega) (Tot.ite (λ_=>k8 c _) (λ_=>Tot.ck (by have:=e12 c;omega) (k8 c _)))) (λ_=> ?_)
 refine Tot.ite (λc=>Tot.ck (by have:=e13 c;omega) (k2 _)) (λ_=> ?_)
 have k10: ∀b,Tot (BQ m (i:Int) b):=λb=>by unfold BQ;exact Tot.ite (λ_=>T1) (λ_=>k2 _)
 have k9:p=14-> ∀b,Tot (DL m (i:Int) b):=λc b=>by
  have h0:(0:Int)<=(i:Int)/\(i:Int)<(m.2.2.2.2.2.2.2.2.2.2.2.2.2.2.1.length:Int):=by have:=e14 c;omega
  unfold DL
  exact Tot.ite (λ_=>Tot.ck h0 (Tot.ite (λ_=>k10 _) (λ_=>Tot.ck h0 (Tot.ite (λ_=>k10 _) (λ_=>Tot.ck h0 (Tot.ite (λ_=>k10 _) (λ_=>Tot.ck h0 (k10 _)))))))) (λ_=>k10 _)
 exact Tot.ite (λc=>Tot.ck (by have:=e14 c;omega) (Tot.ite (λ_=>k9 c _) (λ_=>k9 c _))) (λ_=>k2 _)
theorem nf{α:Type}{T:Y1 α->Prop}{P:Nat->Prop}(top:Nat)(loop:Nat->Int->Y1 α)(step: ∀f i:Nat,i<top->P i->(P (i+1)->T (loop f ((i:Int)+1)))->T (loop (f+1) (i:Int)))(stop: ∀f,P top->T (loop (f+1) (top:Int))): ∀(k f i:Nat),i+k=top->k<f->P i->T (loop f (i:Int)):=by
 intro k
 induction k with
 |zero=>
  intro f i hi hf hp
  obtain⟨f,rfl⟩: ∃n,f=n+1:=⟨f - 1,by omega⟩
  obtain rfl:i=top:=by omega
  exact stop f hp
 |succ k ih=>
  intro f i hi hf hp
  obtain⟨f,rfl⟩: ∃n,f=n+1:=⟨f - 1,by omega⟩
  exact step f i (by omega) hp λh=>by
   have:=ih f (i+1) (by omega) (by omega) h
   rwa [show((i+1:Nat):Int)=(i:Int)+1 by omega] at this
theorem QH{x:Y1 (Int×Int)}{G:Prop}(h:Tot x)(g:G):Ans2 x G:=by obtain⟨r,e⟩:=h;exact⟨r,e,λ_=>g⟩
theorem bH{a e:Int}{G:Prop}(h:e≠0):Ans2 (some (a,e)) G:=⟨_,Z,λq=>absurd q h⟩
def fa(m:Ao):Prop:= ∀i,i<m.2.1.length->SD (m.2.1[i]!).1 (m.2.1[i]!).2.1 (m.2.1[i]!).2.2.1 (m.2.1[i]!).2.2.2.1 (m.2.1[i]!).2.2.2.2.1 (m.2.1[i]!).2.2.2.2.2=0
theorem cb(hN:20000000<N)(hL:Lit m)(hR:Rg m)(p:Int)(h0:0<=p)(h1:p<15)(b:Y3):Ans2 (DZ N m p (BJ m p) b) (p=1->fa m):=by
 have hb:brf (BJ m p):=by have:=hL.ti p.toNat (by omega);rwa [Int.toNat_of_nonneg h0] at this
 unfold DZ
 cases b with
 |true=>rw [V8 Z];exact bH (by decide)
 |false=>
  rw [V9 (by decide)]
  by_cases c:((BJ m p).length:Int)>([0,16,0,16,16,32,8,0,0,0,0,0,8,8,8])[p.toNat]!
  ·rw [V8 c];exact bH (by decide)
  rw [V9 c]
  refine nf (T:=λx=>Ans2 x (p=1->fa m)) (P:=λi=>p=1-> ∀j,j<i->SD (m.2.1[j]!).1 (m.2.1[j]!).2.1 (m.2.1[j]!).2.2.1 (m.2.1[j]!).2.2.2.1 (m.2.1[j]!).2.2.2.2.1 (m.2.1[j]!).2.2.2.2.2=0) (BJ m p).length (AW N m p (BJ m p)) (λf i h hp hk=> ?_) (λf hp=> ?_) (BJ m p).length N 0 (q7 _) (by have:=hb.2;omega) (λ_ j hj=>absurd hj (Nat.not_lt_zero j))
  ·have hl:=hb.2
   have k18:(p=1->SD (m.2.1[i]!).1 (m.2.1[i]!).2.1 (m.2.1[i]!).2.2.1 (m.2.1[i]!).2.2.2.1 (m.2.1[i]!).2.2.2.2.1 (m.2.1[i]!).2.2.2.2.2=0)-> ∀e,Ans2 (CK (i:Int) (AW N m p (BJ m p) f) e) (p=1->fa m):=λq e=>by
    unfold CK
    by_cases d:e=0
    ·rw [V9 (λh=>h d),Af _ (by omega)]
     refine hk λe1 j hj=> ?_
     rcases Nat.lt_or_ge j i with h2|h2
     ·exact hp e1 j h2
     ·obtain rfl:j=i:=by omega
      exact q e1
    ·rw [V8 d];exact bH d
   have k16:(p=1->SD (m.2.1[i]!).1 (m.2.1[i]!).2.1 (m.2.1[i]!).2.2.1 (m.2.1[i]!).2.2.2.1 (m.2.1[i]!).2.2.2.2.1 (m.2.1[i]!).2.2.2.2.2=0)-> ∀e,Ans2 (CL N m p (i:Int) (AW N m p (BJ m p) f) e) (p=1->fa m):=λq e=>by
    unfold CL
    by_cases d:e=0
    ·obtain⟨r,e2⟩:=lB hN hL hR p i h
     rw [V8 d,e2,q0];exact k18 q _
    ·rw [V9 d];exact k18 q _
   have k14: ∀e,(e=0->p=1->SD (m.2.1[i]!).1 (m.2.1[i]!).2.1 (m.2.1[i]!).2.2.1 (m.2.1[i]!).2.2.2.1 (m.2.1[i]!).2.2.2.2.1 (m.2.1[i]!).2.2.2.2.2=0)->Ans2 (DY N m p (BJ m p) (i:Int) (AW N m p (BJ m p) f) e) (p=1->fa m):=λe q=>by
    unfold DY
    by_cases d:e=0
    ·have ht:((BJ m p).take (i+1)).length=i+1:=by rw [q8];omega
     have e3:((i:Int)+1).toNat=i+1:=by omega
     obtain⟨r,e2⟩:=lA hN ((BJ m p).take (i+1)) (by omega) (by omega) (λj hj=>by
      have:=hb.1 j (by omega)
      rwa [zm _ j (by omega),<-y2 (h:=hj),<-zm _ j hj] at this)
     rw [V8 d,Af _ (by omega),Af _ (by omega),e3,j8,e2,q0];exact k16 (q d) _
    ·rw [V9 d]
     unfold CL CK
     rw [V9 d,V8 d];exact bH d
   rw [AW,V8 (by omega)]
   by_cases c1:p=1
   ·have hi:i<m.2.1.length:=by subst c1;simpa [BJ] using h
    have hd:=hL.hd i hi
    have hn:(m.2.1[i]!).1.length<=1048576:=by
     have:=hb.1 i h
     subst c1
     rwa [show BJ m 1=m.2.1.map (λx:Hd=>x.1)from Z,NT (λx:Hd=>x.1) m.2.1 i hi] at this
    rw [V8 c1,Af _ (by omega),q4,jM N _ _ _ _ _ _ hn hd.1 hd.2 hN,q0]
    exact k14 _ λq _=>q
   ·rw [V9 c1];exact k14 _ λ_ q=>absurd q c1
  ·rw [AW,V9 (by omega)]
   refine⟨_,Z,λ_ e i hi=>hp e i ?_⟩
   subst e;simpa [BJ] using hi
theorem jH(hN:20000000<N)(hL:Lit m)(hR:Rg m)(p:Nat)(h1:p<15)(hh:2<=p->fa m):Ans2 (Gx N m (p:Int)) ((p:Int)=1->fa m):=by
 have hil:=hL.il
 have hi:m.2.2.1.length<=1048576:=by omega
 have hd:2<=p-> ∀h∈m.2.1,okW h.2.1/\h.2.1.length<=1048576:=λc h hm=>by
  obtain⟨i,hi,rfl⟩:=List.mem_iff_getElem.1 hm
  have h2:=hh c i hi
  rw [zm _ i hi] at h2
  have h3:=(hL.hd i hi).1
  rw [zm _ i hi] at h3
  exact⟨(ik h2).1,h3⟩
 have k5: ∀b,Tot (El b):=λb=>by unfold El;exact T1
 have k4: ∀b,Tot (Em m b):=λb=>by unfold Em;exact Tot.ite (λ_=>k5 _) (λ_=>k5 _)
 have k3: ∀b,Tot (Eo m b):=λb=>by unfold Eo;exact Tot.ite (λ_=>k4 _) (λ_=>k4 _)
 have k2: ∀b,Tot (Ep m b):=λb=>by unfold Ep;exact Tot.ite (λ_=>k3 _) (λ_=>k3 _)
 have k1: ∀b,Tot (Er m b):=λb=>by unfold Er;exact Tot.ite (λ_=>k2 _) (λ_=>k2 _)
 have hnm:=hL.nm
 unfold Gx
 by_cases c0:(p:Int)=0
 ·rw [V8 c0,cc N _ (by omega) (by omega),q0]
  exact QH (Tot.ite (λ_=>Tot.ite (λ_=>k1 _) (λ_=>k1 _)) (λ_=>T1)) (λe=>by omega)
 rw [V9 c0]
 by_cases c2:(p:Int)=2
 ·rw [V8 c2,fE N hN _ _ hi (λj hj=> ?_),q0]
  ·exact QH T1 (λe=>by omega)
  ·have:=hL.ins j hj
   exact this
 rw [V9 c2]
 by_cases c7:(p:Int)=7
 ·rw [V8 c7]
  exact QH ((ca hN hi _ (by omega) (λi h=>hL.ni i h) hR.ni).bind λ_ _=>T1) (λe=>by omega)
 rw [V9 c7]
 by_cases c8:(p:Int)=8
 ·rw [V8 c8]
  exact QH ((ca hN hi _ (by omega) (λi h=>hL.ne i h) hR.ne).bind λ_ _=>T1) (λe=>by omega)
 rw [V9 c8]
 by_cases c9:(p:Int)=9
 ·rw [V8 c9]
  refine QH (Tot.ite (λ_=>T1) (λ_=>QJ m.2.2.2.2.2.2.2.2.2.1.length (BP N m) (λf i h hk=> ?_) (λf=> ?_) (by omega))) (λe=>by omega)
  ·rw [BP,V8 (by omega),Af _ (by omega),SW hN hi,q0]
   refine Tot.ite (λ_=>QJ i (Cv m (i:Int) (BP N m f)) (λg j h2 hh2=> ?_) (λg=> ?_) (by omega)) (λ_=>T1)
   ·rw [Cv,V8 (by omega),Af _ (by omega),Af _ (by omega)];exact T1
   ·rw [Cv,V9 (by omega)];exact T1
  ·rw [BP,V9 (by omega)];exact T1
 rw [V9 c9]
 by_cases c10:(p:Int)=10
 ·rw [V8 c10]
  exact QH ((gY hN hi (hd (by omega)) _ (by omega)).bind λ_ _=>T1) (λe=>by omega)
 rw [V9 c10]
 by_cases c11:(p:Int)=11
 ·rw [V8 c11]
  exact QH ((gY hN hi (hd (by omega)) _ (by omega)).bind λ_ _=>T1) (λe=>by omega)
 rw [V9 c11,jF hN (λc hc=>(hL.ti c hc).2),q0,Af _ (by simp only [zg,zp];omega)]
 split
 ·exact cb hN hL hR _ (by omega) (by omega) _
 ·exact cb hN hL hR _ (by omega) (by omega) _
theorem lJ(hN:20000000<N)(hL:Lit m)(hR:Rg m):Tot (HG N m):=by
 refine VD (P:=λi=>2<=i->fa m) 15 (Cm N m) (λf i h hp hk=> ?_) (λf _=> ?_) 15 N 0 (q7 _) (by omega) (λh=>absurd h (by omega))
 ·obtain⟨r,e,q⟩:=jH hN hL hR i h hp
  rw [Cm,V8 (by omega),e,q0]
  refine Tot.ite (λ_=>T1) (λc=>Tot.ck (by omega) (hk λh2=> ?_))
  rcases Nat.lt_or_ge i 2 with h3|h3
  ·exact q (Classical.not_not.1 c) (by omega)
  ·exact hp h3
 ·rw [Cm,V9 (by decide)];exact T1
end
end Go.Proofs.YtjnanfkpdhmnpaaGreatDoor
