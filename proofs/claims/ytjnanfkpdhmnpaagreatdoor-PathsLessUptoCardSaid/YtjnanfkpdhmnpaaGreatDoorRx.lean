import Derived.Test.YtjnanfkpdhmnpaaGreatDoorRh
namespace Go.Proofs.YtjnanfkpdhmnpaaGreatDoor
open Go Go.RowKit Go.Eng
def Kx(s:W2):Y3:=decide ((46:UInt8) ∉ s)&&cG (Ac4 s)
def Kh(a b:W2):Y3:=decide (Rn a=Rn b)
theorem yO(a b:Y0 Int):(Tc a b==0)=decide (a=b):=by
 rw [Bool.eq_iff_iff,beq_iff_eq,decide_eq_true_eq]
 rcases VZ a b with⟨h,h'⟩|⟨h,_⟩|⟨h,_⟩
 ·exact⟨λ_=>h',λ_=>h⟩
 ·exact⟨λh2=>by omega,λh2=>by subst h2;rw [Ua] at h;omega⟩
 ·exact⟨λh2=>by omega,λh2=>by subst h2;rw [Ua] at h;omega⟩
theorem ZC(s:W2)(i:Nat)(h:i<s.length):(JN s (i:Int):Int)=46↔s[i]=46:=by
 unfold JN
 rw [q4,show s.getD i 0=s[i] from by simp [List.getD_eq_getElem?_getD,zv h]]
 constructor
 ·intro h1;exact UInt8.toNat_inj.1 (by have:(46:UInt8).toNat=46:=Z;omega)
 ·intro h1;rw [h1];rfl
theorem fH(N:Nat)(s:W2)(hs:s.length<=1048576)(hN:20000000<N): ∀(k f i:Nat),i+k=s.length->k<f->CV N s f (i:Int)=some (decide ((46:UInt8) ∉ s.drop i)&&cG (Ac4 s)):=by
 intro k
 induction k with
 |zero=>
  intro f i hi hf
  obtain⟨f,rfl⟩: ∃n,f=n+1:=⟨f - 1,by omega⟩
  rw [CV,V9 (by omega),cc N s (by omega) (by omega),List.drop_of_length_le (by omega)];simp
 |succ k ih=>
  intro f i hi hf
  obtain⟨f,rfl⟩: ∃n,f=n+1:=⟨f - 1,by omega⟩
  have e1:(i:Int)+1=((i+1:Nat):Int):=by omega
  rw [CV,V8 (by omega),Af _ (by omega),y3 (by omega)]
  by_cases h:s[i]'(by omega)=46
  ·rw [V8 ((ZC s i (by omega)).2 h),h];simp
  ·rw [V9 (λh2=>h ((ZC s i (by omega)).1 h2)),Af _ (by omega),e1,ih f (i+1) (by omega) (by omega)]
   congr 2
   rw [Bool.eq_iff_iff,decide_eq_true_eq,decide_eq_true_eq,zy]
   exact⟨λh2 h3=>h3.elim (λe=>h e.symm) h2,λh2 h3=>h2 (.inr h3)⟩
theorem Qk(N:Nat)(s:W2)(hs:s.length<=1048576)(hN:20000000<N):Dq N s=some (Kx s):=by
 have:=fH N s hs hN s.length N 0 (by omega) (by omega)
 rw [Dq,show(0:Int)=((0:Nat):Int)from Z,this];rfl
theorem Sx(N:Nat)(a b:W2)(ha:a.length<=1048576)(hb:b.length<=1048576)(hN:20000000<N):EK N a b=some (Kh a b):=by
 have:=ka a
 rw [EK,Zb N a (by omega) (by omega),q0,Zb N b (by omega) (by omega),q0,fD N _ _ (by omega) (by omega),q0,yO];rfl
abbrev Fd:=W2×Int
def Ke(l:Y0 Fd):Int:=(l.map (·.2)).sum
def goF:Y0 Fd->Y0 Fd->Int
 |_,[]=>0
 |pre,f::r=>if Kx f.1=true then if pre.any (λx=>Kh x.1 f.1)=true then 6 else if f.2<1\/128<f.2 then 9 else goF (pre++ [f]) r else 4
def fj(e:Y0 Fd)(b a d c:Int):Y3:=if b=0 then decide (a=0/\d=0/\c=0)else decide (1<=b/\b<=64/\0<=a/\a<(e.length:Int)/\(e[a.toNat]!).2<=16/\1<=d/\d<=64/\0<=c/\c<=4096)
def bQ(a:Y0 Fd)(b c e d:Int):Int:=if Ke a%8≠0 then 9 else if fj a b c e d=true then 0 else 7
def nl(f:Y0 Fd)(a b d c e:Int):Int:=if e=0 then bQ f a b d c else e
def SD(e:W2)(a:Y0 Fd)(b c f d:Int):Int:=
 if Kx e=true then if 16<a.length then 2 else if a.length=0 then 5 else nl a b c f d (goF [] a)else 4
theorem VF(a b:Y0 Fd):Ke (a++b)=Ke a+Ke b:=by unfold Ke;rw [List.map_append,List.sum_append]
def okW(l:Y0 Fd):Prop:= ∀x∈l,1<=x.2/\x.2<=128
theorem OK: ∀l:Y0 Fd,okW l->0<=Ke l/\Ke l<=128*(l.length:Int)
 | [],_=>by simp [Ke]
 |x::l,h=>by
  have h1:=h x (by simp)
  have h2:=OK l (λy hy=>h y (by simp [hy]))
  have e:Ke (x::l)=x.2+Ke l:=by simp [Ke]
  rw [e,zg];omega
theorem fY: ∀(r pre:Y0 Fd),goF pre r=0->okW r
 | [],_,_=>λx hx=>by cases hx
 |f::r,pre,h=>by
  rw [goF] at h
  by_cases h1:Kx f.1=true
  ·rw [V8 h1] at h
   by_cases h2:pre.any (λx=>Kh x.1 f.1)=true
   ·rw [V8 h2] at h;omega
   ·rw [V9 h2] at h
    by_cases h3:f.2<1\/128<f.2
    ·rw [V8 h3] at h;omega
    ·rw [V9 h3] at h
     intro x hx
     rcases List.mem_cons.1 hx with rfl|hx
     ·omega
     ·exact fY r _ h x hx
  ·rw [V9 h1] at h;omega
theorem m16(b:Y3):FY b=some (if b=true then 7 else 0):=by cases b<;>rfl
theorem m15(h5:Int)(b:Y3):ED h5 b=some (if b=true\/4096<h5 then 7 else 0):=by unfold ED;cases b<;>simp [m16]
theorem m14(h5:Int)(b:Y3):EE h5 b=some (if b=true\/h5<0\/4096<h5 then 7 else 0):=by unfold EE;cases b<;>simp [m15]
theorem m13(h4 h5:Int)(b:Y3):EF h4 h5 b=some (if b=true\/64<h4\/h5<0\/4096<h5 then 7 else 0):=by unfold EF;cases b<;>simp [m14]
theorem m12(h4 h5:Int)(b:Y3):Dj h4 h5 b=some (if b=true\/h4<1\/64<h4\/h5<0\/4096<h5 then 7 else 0):=by unfold Dj;cases b<;>simp [m13]
theorem m9(h1:Y0 Fd)(h3 h4 h5:Int)(b:Y3):CE h1 h3 h4 h5 b=some (if b=true\/ ¬(0<=h3/\h3<(h1.length:Int)/\(h1[h3.toNat]!).2<=16/\1<=h4/\h4<=64/\0<=h5/\h5<=4096)then 7 else 0):=by
 have t12:Dj h4 h5 true=some 7:=by rw [m12,V8 (.inl Z)]
 have t11:Dk h1 h3 h4 h5 true=some 7:=by rw [Dk,V8 Z,t12]
 have t10:Dl h1 h3 h4 h5 true=some 7:=by rw [Dl,V8 Z,t11]
 unfold CE
 cases b with
 |true=>rw [V8 Z,t10,V8 (.inl Z)]
 |false=>
  rw [V9 (by decide)]
  by_cases a:h3<0
  ·rw [zl a,t10,V8 (.inr (by omega))]
  rw [zk a,Dl,V9 (by decide)]
  by_cases c:h3>=(h1.length:Int)
  ·rw [zl c,t11,V8 (.inr (by omega))]
  rw [zk c,Dk,V9 (by decide),Af _ (by omega),m12]
  congr 1
  by_cases d:(h1[h3.toNat]!).2>16
  ·rw [zl d,V8 (.inl Z),V8 (.inr (by omega))]
  ·rw [zk d]
   by_cases e:h4<1\/64<h4\/h5<0\/4096<h5
   ·rw [V8 (.inr e),V8 (.inr (by omega))]
   ·rw [V9 (λh=>h.elim (by decide) e),V9 (λh=>h.elim (by decide) (λh=>h (by omega)))]
theorem m7(h5:Int)(b:Y3):CF h5 b=some (if b=true\/h5≠0 then 7 else 0):=by
 have t8: ∀b,GA b=some (if b=true then 7 else 0):=λb=>by cases b<;>rfl
 unfold CF;cases b<;>simp [t8]
theorem lg(h1:Y0 Fd)(h2 h3 h4 h5:Int)(hs:0<=Ke h1/\Ke h1<=9223372036854775807):
  ck (0<=Ke h1/\Ke h1<=9223372036854775807) (if(Ke h1%8:Int)≠0 then some 9 else if h2=0 then if(h3:Int)≠0 then CF h5 true else CF h5 (h4 !=0)else if h2<1 then CE h1 h3 h4 h5 true else CE h1 h3 h4 h5 (decide (h2>64)))=some (bQ h1 h2 h3 h4 h5):=by
 rw [Af _ hs]
 unfold bQ
 by_cases h8:Ke h1%8≠0
 ·rw [V8 h8,V8 h8]
 rw [V9 h8,V9 h8]
 unfold fj
 simp only [m7,m9]
 by_cases c2:h2=0
 ·rw [V8 c2,V8 c2]
  by_cases a:h3=0
  ·rw [V9 (by omega)]
   by_cases b:h4=0/\h5=0
   ·rw [V9 (by simp [b]),V8 (zl ⟨a,b⟩)]
   ·rw [V8 (by simp only [bne_iff_ne];omega),V9 (λh=>b (zj h).2)]
  ·rw [V8 (by omega),V8 (.inl trivial),V9 (λh=>a (zj h).1)]
 rw [V9 c2,V9 c2]
 by_cases a1:h2<1
 ·rw [V8 a1,V8 (.inl trivial),V9 (λh=>absurd (zj h) (by omega))]
 rw [V9 a1]
 by_cases a2:h2>64
 ·rw [zl a2,V8 (.inl Z),V9 (λh=>absurd (zj h) (by omega))]
 rw [zk a2]
 by_cases a3:0<=h3/\h3<(h1.length:Int)/\(h1[h3.toNat]!).2<=16/\1<=h4/\h4<=64/\0<=h5/\h5<=4096
 ·rw [V9 (λh=>h.elim (by decide) (λh=>h a3)),V8 (zl ⟨by omega,by omega,a3⟩)]
 ·rw [V8 (.inr a3),V9 (λh=>a3 (zj h).2.2)]
theorem dH{α:Type}[Inhabited α](l:Y0 α)(i:Nat)(h:i<l.length):l.drop i=l[i]!::l.drop (i+1):=by rw [y3 h,zm l i h]
theorem eT{α:Type}[Inhabited α](l:Y0 α)(i j:Nat)(hj:j<i)(hi:i<=l.length)(p:α->Y3):((l.take i).drop j).any p=(p (l[j]!)||((l.take i).drop (j+1)).any p):=by
 have hl:j<(l.take i).length:=by rw [q8];omega
 rw [y3 hl,List.any_cons,y2,zm l j (by omega)]
theorem jL(N:Nat)(h1:Y0 Fd)(i:Nat)(hi:i<h1.length)(hl:h1.length<=1048576)(hall: ∀j,j<h1.length->((h1[j]!).1).length<=1048576)(hN:20000000<N)(sum:Int)(rec:Int->Int->Y1 Int):
  ∀(k f j:Nat),j+k=i->k<f->CD N h1 sum (i:Int) rec f (j:Int)=(if((h1.take i).drop j).any (λx=>Kh x.1 (h1[i]!).1)=true then some 6 else if((h1[i]!).2:Int)<1 then some 9 else if((h1[i]!).2:Int)>128 then some 9 else Fb h1 sum (i:Int) rec false):=by
 intro k
 induction k with
 |zero=>
  intro f j hj hf
  obtain⟨f,rfl⟩: ∃n,f=n+1:=⟨f - 1,by omega⟩
  rw [CD,V9 (by omega),List.drop_of_length_le (by rw [q8];omega),q4,List.any_nil,V9 Bool.false_ne_true]
  by_cases c:(h1[i]!).2<1
  ·rw [V8 c,V8 c];rfl
  ·rw [V9 c,V9 c]
   by_cases d:(h1[i]!).2>128
   ·rw [zl d,V8 d];rfl
   ·rw [zk d,V9 d]
 |succ k ih=>
  intro f j hj hf
  obtain⟨f,rfl⟩: ∃n,f=n+1:=⟨f - 1,by omega⟩
  have e1:(j:Int)+1=((j+1:Nat):Int):=by omega
  have a1:=hall j (by omega)
  have a2:=hall i hi
  rw [CD,V8 (by omega),Af _ (by omega),q4,q4,Sx N _ _ (by omega) (by omega) hN,q0,eT h1 i j (by omega) (by omega)]
  by_cases h:Kh (h1[j]!).1 (h1[i]!).1=true
  ·rw [V8 h,V8 (by rw [h];rfl)]
  ·rw [V9 h,Af _ (by omega),e1,ih f (j+1) (by omega) (by omega),Bool.eq_false_iff.2 h,Bool.false_or]
theorem Sc{α:Type}[Inhabited α](l:Y0 α)(i:Nat)(h:i<l.length):l.take (i+1)=l.take i++ [l[i]!]:=by rw [List.take_succ_eq_append_getElem h,zm l i h]
theorem ZU(N:Nat)(h1:Y0 Fd)(h2 h3 h4 h5:Int)(hl:h1.length<=1048576)(hall: ∀j,j<h1.length->((h1[j]!).1).length<=1048576)(hN:20000000<N):
  ∀(k f i:Nat),i+k=h1.length->k<f->okW (h1.take i)->BW N h1 h2 h3 h4 h5 f (Ke (h1.take i)) (i:Int)=some (nl h1 h2 h3 h4 h5 (goF (h1.take i) (h1.drop i))):=by
 intro k
 induction k with
 |zero=>
  intro f i hi hf hw
  obtain⟨f,rfl⟩: ∃n,f=n+1:=⟨f - 1,by omega⟩
  have ht:h1.take i=h1:=y4 (by omega)
  rw [ht] at hw
  have:=OK _ hw
  rw [BW,V9 (by omega),List.drop_of_length_le (by omega),goF,nl,V8 Z,ht]
  exact lg h1 h2 h3 h4 h5 (by omega)
 |succ k ih=>
  intro f i hi hf hw
  obtain⟨f,rfl⟩: ∃n,f=n+1:=⟨f - 1,by omega⟩
  have e1:(i:Int)+1=((i+1:Nat):Int):=by omega
  have hd:h1.drop i=h1[i]!::h1.drop (i+1):=by rw [y3 (by omega),zm h1 i (by omega)]
  have a2:=hall i (by omega)
  rw [BW,V8 (by omega),Af _ (by omega),q4,Qk N _ (by omega) hN,q0,hd,goF]
  by_cases c1:Kx (h1[i]!).1=true
  ·rw [V8 c1,V8 c1,show(0:Int)=((0:Nat):Int)from Z,jL N h1 i (by omega) hl hall hN _ _ i N 0 (by omega) (by omega),j8]
   by_cases c2:(h1.take i).any (λx=>Kh x.1 (h1[i]!).1)=true
   ·rw [V8 c2,V8 c2];rfl
   rw [V9 c2,V9 c2]
   by_cases c3:(h1[i]!).2<1
   ·rw [V8 c3,V8 (Or.inl c3)];rfl
   rw [V9 c3]
   by_cases c4:(h1[i]!).2>128
   ·rw [V8 c4,V8 (Or.inr c4)];rfl
   have hw':okW (h1.take (i+1)):=by
    rw [Sc h1 i (by omega)]
    intro x hx
    rcases List.mem_append.1 hx with hx|hx
    ·exact hw x hx
    ·rw [List.mem_singleton.1 hx];omega
   have hs:=OK _ hw
   have hlt:(h1.take i).length<=1048576:=by rw [q8];omega
   have es:Ke (h1.take i)+(h1[i]!).2=Ke (h1.take (i+1)):=by rw [Sc h1 i (by omega),VF];simp [Ke]
   rw [V9 c4,V9 (by omega: ¬((h1[i]!).2<1\/128<(h1[i]!).2)),Fb,V9 (by decide),q4,Af _ (by omega),Af _ (by omega),e1,es,ih f (i+1) (by omega) (by omega) hw',<-Sc h1 i (by omega)]
  ·rw [V9 c1,V9 c1];rfl
theorem jM(N:Nat)(h0:W2)(h1:Y0 Fd)(h2 h3 h4 h5:Int)(h0l:h0.length<=1048576)(hl:h1.length<=1048576)(hall: ∀j,j<h1.length->((h1[j]!).1).length<=1048576)(hN:20000000<N):GZ N h0 h1 h2 h3 h4 h5=some (SD h0 h1 h2 h3 h4 h5):=by
 unfold GZ SD
 rw [Qk N h0 (by omega) hN,q0]
 by_cases c1:Kx h0=true
 ·rw [V8 c1,V8 c1]
  by_cases c2:16<h1.length
  ·rw [V8 (by omega),V8 c2]
  rw [V9 (by omega),V9 c2]
  by_cases c3:h1.length=0
  ·rw [V8 (by omega),V8 c3]
  rw [V9 (by omega),V9 c3]
  have:=ZU N h1 h2 h3 h4 h5 hl hall hN h1.length N 0 (by omega) (by omega) (λx hx=>by simp at hx)
  rw [List.take_zero,j8] at this
  exact this
 ·rw [V9 c1,V9 c1]
end Go.Proofs.YtjnanfkpdhmnpaaGreatDoor
namespace Go.Proofs.YtjnanfkpdhmnpaaGreatDoor
open Go Go.RowKit Go.Eng
def aM(p:W2->Y3):Y0 (W2)->Nat->Int
 | [],_=> -1
 |x::r,k=>if p x=true then(k:Int)else aM p r (k+1)
theorem YZ(n:Int)(h:okR n):(Rh n).length<=4:=by
 obtain⟨c,rfl⟩: ∃c:Nat,n=(c:Int):=⟨n.toNat,by unfold okR at h;omega⟩
 rw [SV h]
 split
 ·simp
 ·split
  ·simp
  ·split<;>simp
theorem SP(N:Nat)(c a b:Int):CP N c a b=some (decide (a<=c/\c<=b)):=by
 unfold CP
 by_cases h:c>=a
 ·rw [V8 h]
  by_cases h1:c<=b
  ·rw [zl h1,zl ⟨h,h1⟩]
  ·rw [zk h1,zk (λh2=>h1 h2.2)]
 ·rw [V9 h,zk (λh2=>h h2.1)]
theorem xP{p:Prop}[Decidable p](q:Y3):(if p then some true else some q)=some (decide p||q):=by
 by_cases h:p<;>simp [h]
theorem mH(N:Nat)(c:Int)(h:c≠215/\c≠247/\c≠930):Il N c=some (Mp c):=by
 unfold Il
 simp only [SP,q0,xP,decide_eq_true_eq]
 congr 1
 unfold Mp
 rw [Bool.eq_iff_iff]
 simp only [Bool.or_eq_true,decide_eq_true_eq]
 omega
theorem cJ(N:Nat)(c:Int):JX N c=some (Mp c):=by
 unfold JX
 by_cases h1:c=215
 ·subst h1;rfl
 by_cases h2:c=247
 ·subst h2;rfl
 by_cases h3:c=930
 ·subst h3;rfl
 rw [V9 h1,V9 h2,V9 h3]
 exact mH N c ⟨h1,h2,h3⟩
theorem tg(N:Nat)(c:Int):Mn N c=some (decide (48<=c/\c<=57)):=by
 unfold Mn;rw [SP];rfl
theorem kT{x:Int}(h: -2147483648<=x/\x<=2147483647):IntKind.i32.wrap x=x:=by
 rw [IntKind.wrap_i32];omega
theorem Vo(N:Nat)(c:Int)(h0: -2147483648<=c)(h1:c<=2147483647)(x:Y3)(hl:Mp c=true)(hx:x=true↔((65<=c/\c<=90)\/(192<=c/\c<=222)\/(913<=c/\c<=937)\/(1040<=c/\c<=1071))):II N c x=some (KF c):=by
 unfold Mp at hl
 rw [decide_eq_true_eq] at hl
 unfold II KF
 simp only [SP,q0,decide_eq_true_eq]
 by_cases h:x=true
 ·have h2:=hx.mp h
  rw [V8 h,V8 (by omega),kT (by omega)]
 ·have h2: ¬_:=λe=>h (hx.mpr e)
  rw [V9 h]
  by_cases h3:1024<=c/\c<=1039
  ·rw [V8 h3,V9 (by omega),V8 h3,kT (by omega)]
  ·rw [V9 h3]
   by_cases h4:c=962
   ·rw [V8 h4,V9 (by omega),V9 h3,V8 h4]
   ·rw [V9 h4,V9 (by omega),V9 h3,V9 h4]
theorem wN(N:Nat)(c:Int)(h0: -2147483648<=c)(h1:c<=2147483647):Ni N c=some (KF c):=by
 unfold Ni
 rw [cJ,q0]
 by_cases hl:Mp c=true
 ·rw [V8 hl]
  simp only [SP,q0,decide_eq_true_eq]
  by_cases g1:65<=c/\c<=90
  ·rw [V8 g1];exact Vo N c h0 h1 _ hl (by rw [decide_eq_true_eq];omega)
  rw [V9 g1]
  by_cases g2:192<=c/\c<=222
  ·rw [V8 g2];exact Vo N c h0 h1 _ hl (by rw [decide_eq_true_eq];omega)
  rw [V9 g2]
  by_cases g3:913<=c/\c<=937
  ·rw [V8 g3];exact Vo N c h0 h1 _ hl (by rw [decide_eq_true_eq];omega)
  rw [V9 g3]
  exact Vo N c h0 h1 _ hl (by rw [decide_eq_true_eq];omega)
 ·rw [V9 hl]
  unfold Mp at hl
  rw [decide_eq_true_eq] at hl
  unfold KF
  rw [V9 (by omega),V9 (by omega),V9 (by omega)]
theorem gN(N:Nat)(c k:Int):JP N c k=some (if k>0 then inR c else Mp c):=by
 unfold JP
 rw [cJ,q0,tg]
 by_cases hl:Mp c=true
 ·rw [V8 hl];split<;>simp [inR,hl]
 ·rw [V9 hl]
  by_cases hk:k>0
  ·rw [V8 hk,V8 hk,q0]
   simp only [decide_eq_true_eq,xP]
   congr 1
   unfold inR
   have hl':Mp c=false:=by simpa using hl
   rw [hl',Bool.false_or,Bool.eq_iff_iff]
   simp only [Bool.or_eq_true,decide_eq_true_eq,beq_iff_eq]
  ·rw [V9 hk,V9 hk];simp at hl;rw [hl]
theorem mA(N:Nat)(s:W2): ∀(m f k p:Nat),s.length<=p+m->m<f->p<=s.length->1<=k->k<=24->Jx N s f (k:Int) p=some (decide (k+(Ac4 (s.drop p)).length<=24)&&(Ac4 (s.drop p)).all inR):=by
 intro m
 induction m using Nat.strongRecOn with
 |_ m ih=>
 intro f k p hm hf hp hk1 hk
 obtain⟨f,rfl⟩: ∃n,f=n+1:=⟨f - 1,by omega⟩
 rw [Jx]
 by_cases h:p<s.length
 ·obtain⟨n1,n2⟩:=ao h
  rw [V8 h,Af _ h,TV h]
  by_cases h24:k=24
  ·subst h24
   rw [V8 (show((24:Nat):Int)=24 from Z),zg,zk (by omega)];rfl
  ·rw [V9 (show¬(k:Int)=24 by omega),gN,q0,V8 (show(k:Int)>0 by omega)]
   by_cases hi:inR (runeAt s p:Int)=true
   ·have e:(k:Int)+1=((k+1:Nat):Int):=by omega
    rw [V8 hi,Af _ (by omega),e,ih (m - 1) (by omega) f (k+1) (Jh s p) (by omega) (by omega) n2 (by omega) (by omega),zg,List.all_cons,hi,Bool.true_and]
    congr 2
    exact decide_eq_decide.mpr (by omega)
   ·rw [V9 hi,List.all_cons]
    simp at hi
    rw [hi];simp
 ·rw [V9 h,VM h]
  have:decide ((k:Int)>0)=true:=zl (by omega)
  rw [this]
  simp [hk]
theorem vd(N:Nat)(s:W2)(hN:s.length+1<N):LP N s=some (cG (Ac4 s)):=by
 obtain⟨f,rfl⟩: ∃n,N=n+1:=⟨N - 1,by omega⟩
 have e0:s=s.drop 0:=by simp
 rw [LP,Jx]
 by_cases h:0<s.length
 ·obtain⟨n1,n2⟩:=ao h
  have er:=TV h
  rw [<-e0] at er
  rw [V8 h,Af _ h,V9 (show¬(0:Int)=24 by omega),gN,q0,V9 (show¬(0:Int)>0 by omega),er]
  unfold cG
  rw [List.getElem!_cons_zero]
  by_cases hi:Mp (runeAt s 0:Int)=true
  ·have hin:inR (runeAt s 0:Int)=true:=by unfold inR;rw [hi];rfl
   have:=mA (f+1) s s.length f 1 (Jh s 0) (by omega) (by omega) n2 (by omega) (by omega)
   rw [V8 hi,Af _ (by omega),show(0:Int)+1=((1:Nat):Int)from Z,this,zg,List.all_cons,hi,hin,Bool.true_and,Bool.and_true]
   congr 2
   exact decide_eq_decide.mpr (by omega)
  ·rw [V9 hi]
   simp at hi
   rw [hi];simp
 ·rw [V9 h]
  have:s=[]:=List.eq_nil_of_length_eq_zero (by omega)
  subst this;rfl
theorem xS: ∀n<32,(192:UInt8)|||UInt8.ofNat n=UInt8.ofNat (192+n):=by decide
theorem xR: ∀n<16,(224:UInt8)|||UInt8.ofNat n=UInt8.ofNat (224+n):=by decide
theorem xQ: ∀n<8,(240:UInt8)|||UInt8.ofNat n=UInt8.ofNat (240+n):=by decide
theorem xU: ∀n<256,(128:UInt8)|||(UInt8.ofNat n&&&63)=UInt8.ofNat (128+n%64):=by decide+kernel
theorem Lz(c:Nat):BI (c:Int)=UInt8.ofNat (c%256):=by
 unfold BI
 rw [show(c:Int)%256=((c%256:Nat):Int)from by omega,q4]
theorem lq(c:Nat):FI (c:Int) 6=((c / 64:Nat):Int):=by
 show Int.fdiv (c:Int) (64:Int)=_
 rw [Int.fdiv_eq_ediv_of_nonneg _ (by decide)];omega
theorem lr(c:Nat):FI (c:Int) 12=((c / 4096:Nat):Int):=by
 show Int.fdiv (c:Int) (4096:Int)=_
 rw [Int.fdiv_eq_ediv_of_nonneg _ (by decide)];omega
theorem vH(c:Nat):FI (c:Int) 18=((c / 262144:Nat):Int):=by
 show Int.fdiv (c:Int) (262144:Int)=_
 rw [Int.fdiv_eq_ediv_of_nonneg _ (by decide)];omega
theorem yA(N:Nat)(p:W2)(hp:p.length<=10000000)(c:Nat)(h:okR (c:Int)):TM N p (c:Int)=some (p++Rh (c:Int)):=by
 have h':=h
 unfold okR at h'
 have hu:(((LV (c:Int)).toNat:Nat):Int)=(c:Int):=by
  unfold LV
  rw [show(c:Int)%4294967296=(c:Int)from by omega,q4,UInt32.toNat_ofNat'];omega
 have e128: ∀n,n<256-> ∀m,n%64=m%64->(128:UInt8)|||(UInt8.ofNat n&&&63)=UInt8.ofNat (128+m%64):=λn hn m hm=>by rw [xU n hn,hm]
 unfold TM uNm
 rw [hu,SV h]
 by_cases h1:c<128
 ·rw [V8 (show(c:Int)<=127 by omega),Af _ (by simp only [List.length_singleton];omega),V8 h1,Lz,show c%256=c from by omega]
 rw [V9 (show¬(c:Int)<=127 by omega),V9 h1]
 by_cases h2:c<2048
 ·rw [V8 (show(c:Int)<=2047 by omega),Af _ (by decide),Af _ (by simp only [zg,zp];omega),q0,V8 h2,lq,Lz,Lz,show c / 64%256=c / 64 from by omega,xS _ (by omega),e128 _ (by omega) c (by omega)]
 rw [V9 (show¬(c:Int)<=2047 by omega),V9 h2]
 have k2:c<65536->bM p (c:Int) true=some (p++ [UInt8.ofNat (224+c / 4096),UInt8.ofNat (128+c / 64%64),UInt8.ofNat (128+c%64)]):=λh3=>by
  unfold bM
  rw [V8 Z,Af _ (by decide),Af _ (by decide),Af _ (by simp only [zg,zp];omega),lq,lr,Lz,Lz,Lz,show c / 4096%256=c / 4096 from by omega,xR _ (by omega),e128 _ (by omega) (c / 64) (by omega),e128 _ (by omega) c (by omega)]
 by_cases h3:c<65536
 ·rw [V8 h3]
  by_cases h4:c<55296
  ·rw [V8 (show(c:Int)<55296 by omega),zl (show(c:Int)<55296 by omega),k2 h3];rfl
  ·rw [V9 (show¬(c:Int)<55296 by omega),V8 (show(57343:Int)<c by omega),zl (show(c:Int)<=65535 by omega),k2 h3];rfl
 ·rw [V9 h3,V9 (show¬(c:Int)<55296 by omega),V8 (show(57343:Int)<c by omega),zk (show¬(c:Int)<=65535 by omega)]
  unfold bM ld
  rw [V9 (by decide),hu,V8 (show(c:Int)>65535 by omega),V8 (zl (show(c:Int)<=1114111 by omega)),Af _ (by decide),Af _ (by decide),Af _ (by decide),Af _ (by simp only [zg,zp];omega),lq,lr,vH,Lz,Lz,Lz,Lz,show c / 262144%256=c / 262144 from by omega,xQ _ (by omega),e128 _ (by omega) (c / 4096) (by omega),e128 _ (by omega) (c / 64) (by omega),e128 _ (by omega) c (by omega)];rfl
theorem ru(N:Nat)(p:W2)(hp:p.length<=10000000)(c:Int)(h:okR c):Ki N p c=some (((Rh c).length:Int),p++Rh c):=by
 have hc:=YZ c h
 obtain⟨n,rfl⟩: ∃n:Nat,c=(n:Int):=⟨c.toNat,by unfold okR at h;omega⟩
 unfold Ki KO KM
 rw [q0,Af _ Z,yA N p hp n h,q0,Af _ (by rw [zf];omega)]
 congr 2
 rw [zf];omega
theorem mO(N:Nat)(s:W2)(hs:s.length<=1048576): ∀(m f p:Nat) (acc:W2),s.length<=p+m->m<f->p<=s.length->acc.length<=4*p->Kz N s f acc p=some (acc++ZR ((Ac4 (s.drop p)).map KF)):=by
 intro m
 induction m using Nat.strongRecOn with
 |_ m ih=>
 intro f p acc hm hf hp hacc
 obtain⟨f,rfl⟩: ∃n,f=n+1:=⟨f - 1,by omega⟩
 rw [Kz]
 by_cases h:p<s.length
 ·obtain⟨n1,n2⟩:=ao h
  have hok:okR (runeAt s p:Int):=by rw [(bG h).1];exact nG _
  have hfo:=iK hok
  have hl:=YZ _ hfo
  have hb: -2147483648<=(runeAt s p:Int)/\(runeAt s p:Int)<=2147483647:=by unfold okR at hok;omega
  rw [V8 h,Af _ h,wN N _ hb.1 hb.2,q0,ru N acc (by omega) _ hfo,q0,ih (m - 1) (by omega) f (Jh s p) _ (by omega) (by omega) n2 (by rw [zf];omega),TV h,List.map_cons,ZR,j0]
 ·rw [V9 h,VM h]
  unfold NZ MT
  rw [Af _ (by omega),q0]
  simp [ZR]
theorem vg(N:Nat)(s:W2)(hs:s.length<=1048576)(hN:s.length<N):MF N s=some (Ti s):=by
 have hg:Nf N (s.length:Int)=some []:=by
  unfold Nf KN NH OH
  rw [q0,V9 (by omega),Af _ (by decide)]
  by_cases h:s=[]
  ·subst h;rfl
  ·have:=List.length_pos_iff.mpr h
   rw [V8 (by simp;omega),Af _ (by omega),Af _ (by omega)];rfl
 rw [MF,hg,q0,mO N s hs s.length N 0 [] (by omega) hN (by omega) (by simp),j8];rfl
theorem mX(N:Nat)(l:Y0 (W2))(s:W2)(hN:20000000<N)(hl:l.length<=1048576)(hall: ∀j,j<l.length->(l[j]!).length<=1048576): ∀(k f i:Nat),i+k=l.length->k<f->bT N l (Ti s) f (i:Int)=some (aM (λx=>Ti x==Ti s) (l.drop i) i):=by
 intro k
 induction k with
 |zero=>
  intro f i hi hf
  obtain⟨f,rfl⟩: ∃n,f=n+1:=⟨f - 1,by omega⟩
  rw [bT,V9 (by omega),List.drop_of_length_le (by omega)];rfl
 |succ k ih=>
  intro f i hi hf
  obtain⟨f,rfl⟩: ∃n,f=n+1:=⟨f - 1,by omega⟩
  have e1:(i:Int)+1=((i+1:Nat):Int):=by omega
  have hd:l.drop i=l[i]!::l.drop (i+1):=by rw [y3 (by omega),zm l i (by omega)]
  have hi300:=hall i (by omega)
  rw [bT,V8 (by omega),Af _ (by omega),q4,Kj,vg N _ (by omega) (by omega),q0,q0,hd,aM]
  by_cases h:(Ti (l[i]!)==Ti s)=true
  ·rw [V8 h,V8 h]
  ·rw [V9 h,V9 h,Af _ (by omega),e1]
   exact ih f (i+1) (by omega) (by omega)
theorem iH(N:Nat)(l:Y0 (W2))(s:W2)(hN:20000000<N)(hl:l.length<=1048576)(hs:s.length<=1048576)(hall: ∀j,j<l.length->(l[j]!).length<=1048576):IH N l s=some (aM (λx=>Ti x==Ti s) l 0):=by
 have:=mX N l s hN hl hall l.length N 0 (by omega) (by omega)
 rw [IH,vg N s (by omega) (by omega),q0,sfm,show(0:Int)=((0:Nat):Int)from Z,this,j8];rfl
end Go.Proofs.YtjnanfkpdhmnpaaGreatDoor
