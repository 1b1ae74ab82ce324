import Derived.Test.YtjlomkippigejaaGreatDoorRh
namespace Go.Proofs.YtjlomkippigejaaGreatDoor
open Go Go.RowKit Go.Eng
def Kf(s:W2):Bool:=decide ((46:UInt8) ∉ s)&&bV (Ac5 s)
def JM(a b:W2):Bool:=decide (QJ a=QJ b)
theorem xK(a b:List Int):(SC a b==0)=decide (a=b):=by
 rw [Bool.eq_iff_iff,beq_iff_eq,decide_eq_true_eq]
 rcases VA a b with⟨h,h'⟩|⟨h,_⟩|⟨h,_⟩
 ·exact⟨λ_=>h',λ_=>h⟩
 ·exact⟨λh2=>by omega,λh2=>by subst h2;rw [Tz] at h;omega⟩
 ·exact⟨λh2=>by omega,λh2=>by subst h2;rw [Tz] at h;omega⟩
theorem Zj(s:W2)(i:Nat)(h:i<s.length):(Jx s (i:Int):Int)=46↔s[i]=46:=by
 unfold Jx
 rw [q3,show s.getD i 0=s[i] from by simp [List.getD_eq_getElem?_getD,zo h]]
 constructor
 ·intro h1;exact UInt8.toNat_inj.1 (by have:(46:UInt8).toNat=46:=Z;omega)
 ·intro h1;rw [h1];rfl
theorem eZ(N:Nat)(s:W2)(hs:s.length<=1048576)(hN:20000000<N): ∀(k f i:Nat),i+k=s.length->k<f->CH N s f (i:Int)=some (decide ((46:UInt8) ∉ s.drop i)&&bV (Ac5 s)):=by
 intro k
 induction k with
 |zero=>
  intro f i hi hf
  obtain⟨f,rfl⟩: ∃n,f=n+1:=⟨f - 1,by omega⟩
  rw [CH,if_neg (by omega),bJ N s (by omega) (by omega),List.drop_of_length_le (by omega)];simp
 |succ k ih=>
  intro f i hi hf
  obtain⟨f,rfl⟩: ∃n,f=n+1:=⟨f - 1,by omega⟩
  have e1:(i:Int)+1=((i+1:Nat):Int):=by omega
  rw [CH,if_pos (by omega),Af _ (by omega),j5 (by omega)]
  by_cases h:s[i]'(by omega)=46
  ·rw [if_pos ((Zj s i (by omega)).2 h),h];simp
  ·rw [if_neg (λh2=>h ((Zj s i (by omega)).1 h2)),Af _ (by omega),e1,ih f (i+1) (by omega) (by omega)]
   congr 2
   rw [Bool.eq_iff_iff,decide_eq_true_eq,decide_eq_true_eq,zr]
   exact⟨λh2 h3=>h3.elim (λe=>h e.symm) h2,λh2 h3=>h2 (.inr h3)⟩
theorem PK(N:Nat)(s:W2)(hs:s.length<=1048576)(hN:20000000<N):Df N s=some (Kf s):=by
 have:=eZ N s hs hN s.length N 0 (by omega) (by omega)
 rw [Df,show(0:Int)=((0:Nat):Int)from Z,this];rfl
theorem RS(N:Nat)(a b:W2)(ha:a.length<=1048576)(hb:b.length<=1048576)(hN:20000000<N):Ey N a b=some (JM a b):=by
 have:=jj a
 rw [Ey,YE N a (by omega) (by omega),q0,YE N b (by omega) (by omega),q0,eV N _ _ (by omega) (by omega),q0,xK];rfl
abbrev Fd:=W2×Int
def JK(l:List Fd):Int:=(l.map (·.2)).sum
def goF:List Fd->List Fd->Int
 |_,[]=>0
 |pre,f::r=>if Kf f.1=true then if pre.any (λx=>JM x.1 f.1)=true then 6 else if f.2<1\/128<f.2 then 9 else goF (pre++ [f]) r else 4
def eH(e:List Fd)(d a c b:Int):Bool:=if d=0 then decide (a=0/\c=0/\b=0)else decide (1<=d/\d<=64/\0<=a/\a<(e.length:Int)/\(e[a.toNat]!).2<=16/\1<=c/\c<=64/\0<=b/\b<=4096)
def br(a:List Fd)(e b d c:Int):Int:=if JK a%8≠0 then 9 else if eH a e b d c=true then 0 else 7
def lZ(b:List Fd)(f a d c e:Int):Int:=if e=0 then br b f a d c else e
def RX(c:W2)(a:List Fd)(f b e d:Int):Int:=
 if Kf c=true then if 16<a.length then 2 else if a.length=0 then 5 else lZ a f b e d (goF [] a)else 4
theorem Vf(a b:List Fd):JK (a++b)=JK a+JK b:=by unfold JK;rw [List.map_append,List.sum_append]
def okW(l:List Fd):Prop:= ∀x∈l,1<=x.2/\x.2<=128
theorem Ol: ∀l:List Fd,okW l->0<=JK l/\JK l<=128*(l.length:Int)
 | [],_=>by simp [JK]
 |x::l,h=>by
  have h1:=h x (by simp)
  have h2:=Ol l (λy hy=>h y (by simp [hy]))
  have e:JK (x::l)=x.2+JK l:=by simp [JK]
  rw [e,za];omega
theorem fp: ∀(r pre:List Fd),goF pre r=0->okW r
 | [],_,_=>λx hx=>by cases hx
 |f::r,pre,h=>by
  rw [goF] at h
  by_cases h1:Kf f.1=true
  ·rw [if_pos h1] at h
   by_cases h2:pre.any (λx=>JM x.1 f.1)=true
   ·rw [if_pos h2] at h;omega
   ·rw [if_neg h2] at h
    by_cases h3:f.2<1\/128<f.2
    ·rw [if_pos h3] at h;omega
    ·rw [if_neg h3] at h
     intro x hx
     rcases List.mem_cons.1 hx with rfl|hx
     ·omega
     ·exact fp r _ h x hx
  ·rw [if_neg h1] at h;omega
theorem m16(b:Bool):FI b=some (if b=true then 7 else 0):=by cases b<;>rfl
theorem m15(h5:Int)(b:Bool):Er h5 b=some (if b=true\/4096<h5 then 7 else 0):=by unfold Er;cases b<;>simp [m16]
theorem m14(h5:Int)(b:Bool):Es h5 b=some (if b=true\/h5<0\/4096<h5 then 7 else 0):=by unfold Es;cases b<;>simp [m15]
theorem m13(h4 h5:Int)(b:Bool):Et h4 h5 b=some (if b=true\/64<h4\/h5<0\/4096<h5 then 7 else 0):=by unfold Et;cases b<;>simp [m14]
theorem m12(h4 h5:Int)(b:Bool):CY h4 h5 b=some (if b=true\/h4<1\/64<h4\/h5<0\/4096<h5 then 7 else 0):=by unfold CY;cases b<;>simp [m13]
theorem m9(h1:List Fd)(h3 h4 h5:Int)(b:Bool):Cv h1 h3 h4 h5 b=some (if b=true\/ ¬(0<=h3/\h3<(h1.length:Int)/\(h1[h3.toNat]!).2<=16/\1<=h4/\h4<=64/\0<=h5/\h5<=4096)then 7 else 0):=by
 have t12:CY h4 h5 true=some 7:=by rw [m12,if_pos (.inl Z)]
 have t11:CZ h1 h3 h4 h5 true=some 7:=by rw [CZ,if_pos Z,t12]
 have t10:Da h1 h3 h4 h5 true=some 7:=by rw [Da,if_pos Z,t11]
 unfold Cv
 cases b with
 |true=>rw [if_pos Z,t10,if_pos (.inl Z)]
 |false=>
  rw [if_neg (by decide)]
  by_cases a:h3<0
  ·rw [zf a,t10,if_pos (.inr (by omega))]
  rw [ze a,Da,if_neg (by decide)]
  by_cases c:h3>=(h1.length:Int)
  ·rw [zf c,t11,if_pos (.inr (by omega))]
  rw [ze c,CZ,if_neg (by decide),Af _ (by omega),m12]
  congr 1
  by_cases d:(h1[h3.toNat]!).2>16
  ·rw [zf d,if_pos (.inl Z),if_pos (.inr (by omega))]
  ·rw [ze d]
   by_cases e:h4<1\/64<h4\/h5<0\/4096<h5
   ·rw [if_pos (.inr e),if_pos (.inr (by omega))]
   ·rw [if_neg (λh=>h.elim (by decide) e),if_neg (λh=>h.elim (by decide) (λh=>h (by omega)))]
theorem m7(h5:Int)(b:Bool):Cw h5 b=some (if b=true\/h5≠0 then 7 else 0):=by
 have t8: ∀b,Gi b=some (if b=true then 7 else 0):=λb=>by cases b<;>rfl
 unfold Cw;cases b<;>simp [t8]
theorem jV(h1:List Fd)(h2 h3 h4 h5:Int)(hs:0<=JK h1/\JK h1<=9223372036854775807):
  ck (0<=JK h1/\JK h1<=9223372036854775807) (if(JK h1%8:Int)≠0 then some 9 else if h2=0 then if(h3:Int)≠0 then Cw h5 true else Cw h5 (h4 !=0)else if h2<1 then Cv h1 h3 h4 h5 true else Cv h1 h3 h4 h5 (decide (h2>64)))=some (br h1 h2 h3 h4 h5):=by
 rw [Af _ hs]
 unfold br
 by_cases h8:JK h1%8≠0
 ·rw [if_pos h8,if_pos h8]
 rw [if_neg h8,if_neg h8]
 unfold eH
 simp only [m7,m9]
 by_cases c2:h2=0
 ·rw [if_pos c2,if_pos c2]
  by_cases a:h3=0
  ·rw [if_neg (by omega)]
   by_cases b:h4=0/\h5=0
   ·rw [if_neg (by simp [b]),if_pos (zf ⟨a,b⟩)]
   ·rw [if_pos (by simp only [bne_iff_ne];omega),if_neg (λh=>b (zd h).2)]
  ·rw [if_pos (by omega),if_pos (.inl trivial),if_neg (λh=>a (zd h).1)]
 rw [if_neg c2,if_neg c2]
 by_cases a1:h2<1
 ·rw [if_pos a1,if_pos (.inl trivial),if_neg (λh=>absurd (zd h) (by omega))]
 rw [if_neg a1]
 by_cases a2:h2>64
 ·rw [zf a2,if_pos (.inl Z),if_neg (λh=>absurd (zd h) (by omega))]
 rw [ze a2]
 by_cases a3:0<=h3/\h3<(h1.length:Int)/\(h1[h3.toNat]!).2<=16/\1<=h4/\h4<=64/\0<=h5/\h5<=4096
 ·rw [if_neg (λh=>h.elim (by decide) (λh=>h a3)),if_pos (zf ⟨by omega,by omega,a3⟩)]
 ·rw [if_pos (.inr a3),if_neg (λh=>a3 (zd h).2.2)]
theorem da{α:Type}[Inhabited α](l:List α)(i:Nat)(h:i<l.length):l.drop i=l[i]!::l.drop (i+1):=by rw [j5 h,zg l i h]
theorem ej{α:Type}[Inhabited α](l:List α)(i j:Nat)(hj:j<i)(hi:i<=l.length)(p:α->Bool):((l.take i).drop j).any p=(p (l[j]!)||((l.take i).drop (j+1)).any p):=by
 have hl:j<(l.take i).length:=by rw [q7];omega
 rw [j5 hl,List.any_cons,j4,zg l j (by omega)]
theorem iV(N:Nat)(h1:List Fd)(i:Nat)(hi:i<h1.length)(hl:h1.length<=1048576)(hall: ∀j,j<h1.length->((h1[j]!).1).length<=1048576)(hN:20000000<N)(sum:Int)(rec:Int->Int->Option Int):
  ∀(k f j:Nat),j+k=i->k<f->Cu N h1 sum (i:Int) rec f (j:Int)=(if((h1.take i).drop j).any (λx=>JM x.1 (h1[i]!).1)=true then some 6 else if((h1[i]!).2:Int)<1 then some 9 else if((h1[i]!).2:Int)>128 then some 9 else ER h1 sum (i:Int) rec false):=by
 intro k
 induction k with
 |zero=>
  intro f j hj hf
  obtain⟨f,rfl⟩: ∃n,f=n+1:=⟨f - 1,by omega⟩
  rw [Cu,if_neg (by omega),List.drop_of_length_le (by rw [q7];omega),q3,List.any_nil,if_neg Bool.false_ne_true]
  by_cases c:(h1[i]!).2<1
  ·rw [if_pos c,if_pos c];rfl
  ·rw [if_neg c,if_neg c]
   by_cases d:(h1[i]!).2>128
   ·rw [zf d,if_pos d];rfl
   ·rw [ze d,if_neg d]
 |succ k ih=>
  intro f j hj hf
  obtain⟨f,rfl⟩: ∃n,f=n+1:=⟨f - 1,by omega⟩
  have e1:(j:Int)+1=((j+1:Nat):Int):=by omega
  have a1:=hall j (by omega)
  have a2:=hall i hi
  rw [Cu,if_pos (by omega),Af _ (by omega),q3,q3,RS N _ _ (by omega) (by omega) hN,q0,ej h1 i j (by omega) (by omega)]
  by_cases h:JM (h1[j]!).1 (h1[i]!).1=true
  ·rw [if_pos h,if_pos (by rw [h];rfl)]
  ·rw [if_neg h,Af _ (by omega),e1,ih f (j+1) (by omega) (by omega),Bool.eq_false_iff.2 h,Bool.false_or]
theorem RC{α:Type}[Inhabited α](l:List α)(i:Nat)(h:i<l.length):l.take (i+1)=l.take i++ [l[i]!]:=by rw [List.take_succ_eq_append_getElem h,zg l i h]
theorem Zv(N:Nat)(h1:List Fd)(h2 h3 h4 h5:Int)(hl:h1.length<=1048576)(hall: ∀j,j<h1.length->((h1[j]!).1).length<=1048576)(hN:20000000<N):
  ∀(k f i:Nat),i+k=h1.length->k<f->okW (h1.take i)->BL N h1 h2 h3 h4 h5 f (JK (h1.take i)) (i:Int)=some (lZ h1 h2 h3 h4 h5 (goF (h1.take i) (h1.drop i))):=by
 intro k
 induction k with
 |zero=>
  intro f i hi hf hw
  obtain⟨f,rfl⟩: ∃n,f=n+1:=⟨f - 1,by omega⟩
  have ht:h1.take i=h1:=j6 (by omega)
  rw [ht] at hw
  have:=Ol _ hw
  rw [BL,if_neg (by omega),List.drop_of_length_le (by omega),goF,lZ,if_pos Z,ht]
  exact jV h1 h2 h3 h4 h5 (by omega)
 |succ k ih=>
  intro f i hi hf hw
  obtain⟨f,rfl⟩: ∃n,f=n+1:=⟨f - 1,by omega⟩
  have e1:(i:Int)+1=((i+1:Nat):Int):=by omega
  have hd:h1.drop i=h1[i]!::h1.drop (i+1):=by rw [j5 (by omega),zg h1 i (by omega)]
  have a2:=hall i (by omega)
  rw [BL,if_pos (by omega),Af _ (by omega),q3,PK N _ (by omega) hN,q0,hd,goF]
  by_cases c1:Kf (h1[i]!).1=true
  ·rw [if_pos c1,if_pos c1,show(0:Int)=((0:Nat):Int)from Z,iV N h1 i (by omega) hl hall hN _ _ i N 0 (by omega) (by omega),j0]
   by_cases c2:(h1.take i).any (λx=>JM x.1 (h1[i]!).1)=true
   ·rw [if_pos c2,if_pos c2];rfl
   rw [if_neg c2,if_neg c2]
   by_cases c3:(h1[i]!).2<1
   ·rw [if_pos c3,if_pos (Or.inl c3)];rfl
   rw [if_neg c3]
   by_cases c4:(h1[i]!).2>128
   ·rw [if_pos c4,if_pos (Or.inr c4)];rfl
   have hw':okW (h1.take (i+1)):=by
    rw [RC h1 i (by omega)]
    intro x hx
    rcases List.mem_append.1 hx with hx|hx
    ·exact hw x hx
    ·rw [List.mem_singleton.1 hx];omega
   have hs:=Ol _ hw
   have hlt:(h1.take i).length<=1048576:=by rw [q7];omega
   have es:JK (h1.take i)+(h1[i]!).2=JK (h1.take (i+1)):=by rw [RC h1 i (by omega),Vf];simp [JK]
   rw [if_neg c4,if_neg (by omega: ¬((h1[i]!).2<1\/128<(h1[i]!).2)),ER,if_neg (by decide),q3,Af _ (by omega),Af _ (by omega),e1,es,ih f (i+1) (by omega) (by omega) hw',<-RC h1 i (by omega)]
  ·rw [if_neg c1,if_neg c1];rfl
theorem iW(N:Nat)(h0:W2)(h1:List Fd)(h2 h3 h4 h5:Int)(h0l:h0.length<=1048576)(hl:h1.length<=1048576)(hall: ∀j,j<h1.length->((h1[j]!).1).length<=1048576)(hN:20000000<N):GG N h0 h1 h2 h3 h4 h5=some (RX h0 h1 h2 h3 h4 h5):=by
 unfold GG RX
 rw [PK N h0 (by omega) hN,q0]
 by_cases c1:Kf h0=true
 ·rw [if_pos c1,if_pos c1]
  by_cases c2:16<h1.length
  ·rw [if_pos (by omega),if_pos c2]
  rw [if_neg (by omega),if_neg c2]
  by_cases c3:h1.length=0
  ·rw [if_pos (by omega),if_pos c3]
  rw [if_neg (by omega),if_neg c3]
  have:=Zv N h1 h2 h3 h4 h5 hl hall hN h1.length N 0 (by omega) (by omega) (λx hx=>by simp at hx)
  rw [List.take_zero,j0] at this
  exact this
 ·rw [if_neg c1,if_neg c1]
end Go.Proofs.YtjlomkippigejaaGreatDoor
namespace Go.Proofs.YtjlomkippigejaaGreatDoor
open Go Go.RowKit Go.Eng
def ZU(p:W2->Bool):List (W2)->Nat->Int
 | [],_=> -1
 |x::r,k=>if p x=true then(k:Int)else ZU p r (k+1)
theorem YC(n:Int)(h:okR n):(QB n).length<=4:=by
 obtain⟨c,rfl⟩: ∃c:Nat,n=(c:Int):=⟨n.toNat,by unfold okR at h;omega⟩
 rw [Sx h]
 split
 ·simp
 ·split
  ·simp
  ·split<;>simp
theorem So(N:Nat)(c a b:Int):CD N c a b=some (decide (a<=c/\c<=b)):=by
 unfold CD
 by_cases h:c>=a
 ·rw [if_pos h]
  by_cases h1:c<=b
  ·rw [zf h1,zf ⟨h,h1⟩]
  ·rw [ze h1,ze (λh2=>h1 h2.2)]
 ·rw [if_neg h,ze (λh2=>h h2.1)]
theorem wM{p:Prop}[Decidable p](q:Bool):(if p then some true else some q)=some (decide p||q):=by
 by_cases h:p<;>simp [h]
theorem lu(N:Nat)(c:Int)(h:c≠215/\c≠247/\c≠930):HP N c=some (LO c):=by
 unfold HP
 simp only [So,q0,wM,decide_eq_true_eq]
 congr 1
 unfold LO
 rw [Bool.eq_iff_iff]
 simp only [Bool.or_eq_true,decide_eq_true_eq]
 omega
theorem bY(N:Nat)(c:Int):JE N c=some (LO c):=by
 unfold JE
 by_cases h1:c=215
 ·subst h1;rfl
 by_cases h2:c=247
 ·subst h2;rfl
 by_cases h3:c=930
 ·subst h3;rfl
 rw [if_neg h1,if_neg h2,if_neg h3]
 exact lu N c ⟨h1,h2,h3⟩
theorem rO(N:Nat)(c:Int):LM N c=some (decide (48<=c/\c<=57)):=by
 unfold LM;rw [So];rfl
theorem jK{x:Int}(h: -2147483648<=x/\x<=2147483647):IntKind.i32.wrap x=x:=by
 rw [IntKind.wrap_i32];omega
theorem UT(N:Nat)(c:Int)(h0: -2147483648<=c)(h1:c<=2147483647)(x:Bool)(hl:LO c=true)(hx:x=true↔((65<=c/\c<=90)\/(192<=c/\c<=222)\/(913<=c/\c<=937)\/(1040<=c/\c<=1071))):Ir N c x=some (Kl c):=by
 unfold LO at hl
 rw [decide_eq_true_eq] at hl
 unfold Ir Kl
 simp only [So,q0,decide_eq_true_eq]
 by_cases h:x=true
 ·have h2:=hx.mp h
  rw [if_pos h,if_pos (by omega),jK (by omega)]
 ·have h2: ¬_:=λe=>h (hx.mpr e)
  rw [if_neg h]
  by_cases h3:1024<=c/\c<=1039
  ·rw [if_pos h3,if_neg (by omega),if_pos h3,jK (by omega)]
  ·rw [if_neg h3]
   by_cases h4:c=962
   ·rw [if_pos h4,if_neg (by omega),if_neg h3,if_pos h4]
   ·rw [if_neg h4,if_neg (by omega),if_neg h3,if_neg h4]
theorem vG(N:Nat)(c:Int)(h0: -2147483648<=c)(h1:c<=2147483647):MN N c=some (Kl c):=by
 unfold MN
 rw [bY,q0]
 by_cases hl:LO c=true
 ·rw [if_pos hl]
  simp only [So,q0,decide_eq_true_eq]
  by_cases g1:65<=c/\c<=90
  ·rw [if_pos g1];exact UT N c h0 h1 _ hl (by rw [decide_eq_true_eq];omega)
  rw [if_neg g1]
  by_cases g2:192<=c/\c<=222
  ·rw [if_pos g2];exact UT N c h0 h1 _ hl (by rw [decide_eq_true_eq];omega)
  rw [if_neg g2]
  by_cases g3:913<=c/\c<=937
  ·rw [if_pos g3];exact UT N c h0 h1 _ hl (by rw [decide_eq_true_eq];omega)
  rw [if_neg g3]
  exact UT N c h0 h1 _ hl (by rw [decide_eq_true_eq];omega)
 ·rw [if_neg hl]
  unfold LO at hl
  rw [decide_eq_true_eq] at hl
  unfold Kl
  rw [if_neg (by omega),if_neg (by omega),if_neg (by omega)]
theorem ga(N:Nat)(c k:Int):Jz N c k=some (if k>0 then inR c else LO c):=by
 unfold Jz
 rw [bY,q0,rO]
 by_cases hl:LO c=true
 ·rw [if_pos hl];split<;>simp [inR,hl]
 ·rw [if_neg hl]
  by_cases hk:k>0
  ·rw [if_pos hk,if_pos hk,q0]
   simp only [decide_eq_true_eq,wM]
   congr 1
   unfold inR
   have hl':LO c=false:=by simpa using hl
   rw [hl',Bool.false_or,Bool.eq_iff_iff]
   simp only [Bool.or_eq_true,decide_eq_true_eq,beq_iff_eq]
  ·rw [if_neg hk,if_neg hk];simp at hl;rw [hl]
theorem li(N:Nat)(s:W2): ∀(m f k p:Nat),s.length<=p+m->m<f->p<=s.length->1<=k->k<=24->Jg N s f (k:Int) p=some (decide (k+(Ac5 (s.drop p)).length<=24)&&(Ac5 (s.drop p)).all inR):=by
 intro m
 induction m using Nat.strongRecOn with
 |_ m ih=>
 intro f k p hm hf hp hk1 hk
 obtain⟨f,rfl⟩: ∃n,f=n+1:=⟨f - 1,by omega⟩
 rw [Jg]
 by_cases h:p<s.length
 ·obtain⟨n1,n2⟩:=ZF h
  rw [if_pos h,Af _ h,Tv h]
  by_cases h24:k=24
  ·subst h24
   rw [if_pos (show((24:Nat):Int)=24 from Z),za,ze (by omega)];rfl
  ·rw [if_neg (show¬(k:Int)=24 by omega),ga,q0,if_pos (show(k:Int)>0 by omega)]
   by_cases hi:inR (runeAt s p:Int)=true
   ·have e:(k:Int)+1=((k+1:Nat):Int):=by omega
    rw [if_pos hi,Af _ (by omega),e,ih (m - 1) (by omega) f (k+1) (IP s p) (by omega) (by omega) n2 (by omega) (by omega),za,List.all_cons,hi,Bool.true_and]
    congr 2
    exact decide_eq_decide.mpr (by omega)
   ·rw [if_neg hi,List.all_cons]
    simp at hi
    rw [hi];simp
 ·rw [if_neg h,Vm h]
  have:decide ((k:Int)>0)=true:=zf (by omega)
  rw [this]
  simp [hk]
theorem tS(N:Nat)(s:W2)(hN:s.length+1<N):Li N s=some (bV (Ac5 s)):=by
 obtain⟨f,rfl⟩: ∃n,N=n+1:=⟨N - 1,by omega⟩
 have e0:s=s.drop 0:=by simp
 rw [Li,Jg]
 by_cases h:0<s.length
 ·obtain⟨n1,n2⟩:=ZF h
  have er:=Tv h
  rw [<-e0] at er
  rw [if_pos h,Af _ h,if_neg (show¬(0:Int)=24 by omega),ga,q0,if_neg (show¬(0:Int)>0 by omega),er]
  unfold bV
  rw [List.getElem!_cons_zero]
  by_cases hi:LO (runeAt s 0:Int)=true
  ·have hin:inR (runeAt s 0:Int)=true:=by unfold inR;rw [hi];rfl
   have:=li (f+1) s s.length f 1 (IP s 0) (by omega) (by omega) n2 (by omega) (by omega)
   rw [if_pos hi,Af _ (by omega),show(0:Int)+1=((1:Nat):Int)from Z,this,za,List.all_cons,hi,hin,Bool.true_and,Bool.and_true]
   congr 2
   exact decide_eq_decide.mpr (by omega)
  ·rw [if_neg hi]
   simp at hi
   rw [hi];simp
 ·rw [if_neg h]
  have:s=[]:=List.eq_nil_of_length_eq_zero (by omega)
  subst this;rfl
theorem wP: ∀n<32,(192:UInt8)|||UInt8.ofNat n=UInt8.ofNat (192+n):=by decide
theorem wO: ∀n<16,(224:UInt8)|||UInt8.ofNat n=UInt8.ofNat (224+n):=by decide
theorem wN: ∀n<8,(240:UInt8)|||UInt8.ofNat n=UInt8.ofNat (240+n):=by decide
theorem wQ: ∀n<256,(128:UInt8)|||(UInt8.ofNat n&&&63)=UInt8.ofNat (128+n%64):=by decide+kernel
theorem KY(c:Nat):Bv (c:Int)=UInt8.ofNat (c%256):=by
 unfold Bv
 rw [show(c:Int)%256=((c%256:Nat):Int)from by omega,q3]
theorem kg(c:Nat):Fu (c:Int) 6=((c / 64:Nat):Int):=by
 show Int.fdiv (c:Int) (64:Int)=_
 rw [Int.fdiv_eq_ediv_of_nonneg _ (by decide)];omega
theorem kh(c:Nat):Fu (c:Int) 12=((c / 4096:Nat):Int):=by
 show Int.fdiv (c:Int) (4096:Int)=_
 rw [Int.fdiv_eq_ediv_of_nonneg _ (by decide)];omega
theorem uq(c:Nat):Fu (c:Int) 18=((c / 262144:Nat):Int):=by
 show Int.fdiv (c:Int) (262144:Int)=_
 rw [Int.fdiv_eq_ediv_of_nonneg _ (by decide)];omega
theorem xr(N:Nat)(p:W2)(hp:p.length<=10000000)(c:Nat)(h:okR (c:Int)):Tl N p (c:Int)=some (p++QB (c:Int)):=by
 have h':=h
 unfold okR at h'
 have hu:(((Ln (c:Int)).toNat:Nat):Int)=(c:Int):=by
  unfold Ln
  rw [show(c:Int)%4294967296=(c:Int)from by omega,q3,UInt32.toNat_ofNat'];omega
 have e128: ∀n,n<256-> ∀m,n%64=m%64->(128:UInt8)|||(UInt8.ofNat n&&&63)=UInt8.ofNat (128+m%64):=λn hn m hm=>by rw [wQ n hn,hm]
 unfold Tl uNm
 rw [hu,Sx h]
 by_cases h1:c<128
 ·rw [if_pos (show(c:Int)<=127 by omega),Af _ (by simp only [List.length_singleton];omega),if_pos h1,KY,show c%256=c from by omega]
 rw [if_neg (show¬(c:Int)<=127 by omega),if_neg h1]
 by_cases h2:c<2048
 ·rw [if_pos (show(c:Int)<=2047 by omega),Af _ (by decide),Af _ (by simp only [za,zj];omega),q0,if_pos h2,kg,KY,KY,show c / 64%256=c / 64 from by omega,wP _ (by omega),e128 _ (by omega) c (by omega)]
 rw [if_neg (show¬(c:Int)<=2047 by omega),if_neg h2]
 have k2:c<65536->bn p (c:Int) true=some (p++ [UInt8.ofNat (224+c / 4096),UInt8.ofNat (128+c / 64%64),UInt8.ofNat (128+c%64)]):=λh3=>by
  unfold bn
  rw [if_pos Z,Af _ (by decide),Af _ (by decide),Af _ (by simp only [za,zj];omega),kg,kh,KY,KY,KY,show c / 4096%256=c / 4096 from by omega,wO _ (by omega),e128 _ (by omega) (c / 64) (by omega),e128 _ (by omega) c (by omega)]
 by_cases h3:c<65536
 ·rw [if_pos h3]
  by_cases h4:c<55296
  ·rw [if_pos (show(c:Int)<55296 by omega),zf (show(c:Int)<55296 by omega),k2 h3];rfl
  ·rw [if_neg (show¬(c:Int)<55296 by omega),if_pos (show(57343:Int)<c by omega),zf (show(c:Int)<=65535 by omega),k2 h3];rfl
 ·rw [if_neg h3,if_neg (show¬(c:Int)<55296 by omega),if_pos (show(57343:Int)<c by omega),ze (show¬(c:Int)<=65535 by omega)]
  unfold bn jT
  rw [if_neg (by decide),hu,if_pos (show(c:Int)>65535 by omega),if_pos (zf (show(c:Int)<=1114111 by omega)),Af _ (by decide),Af _ (by decide),Af _ (by decide),Af _ (by simp only [za,zj];omega),kg,kh,uq,KY,KY,KY,KY,show c / 262144%256=c / 262144 from by omega,wN _ (by omega),e128 _ (by omega) (c / 4096) (by omega),e128 _ (by omega) (c / 64) (by omega),e128 _ (by omega) c (by omega)];rfl
theorem qh(N:Nat)(p:W2)(hp:p.length<=10000000)(c:Int)(h:okR c):JO N p c=some (((QB c).length:Int),p++QB c):=by
 have hc:=YC c h
 obtain⟨n,rfl⟩: ∃n:Nat,c=(n:Int):=⟨c.toNat,by unfold okR at h;omega⟩
 unfold JO Kt Kr
 rw [q0,Af _ Z,xr N p hp n h,q0,Af _ (by rw [q9];omega)]
 congr 2
 rw [q9];omega
theorem lE(N:Nat)(s:W2)(hs:s.length<=1048576): ∀(m f p:Nat) (acc:W2),s.length<=p+m->m<f->p<=s.length->acc.length<=4*p->Kh N s f acc p=some (acc++Zt ((Ac5 (s.drop p)).map Kl)):=by
 intro m
 induction m using Nat.strongRecOn with
 |_ m ih=>
 intro f p acc hm hf hp hacc
 obtain⟨f,rfl⟩: ∃n,f=n+1:=⟨f - 1,by omega⟩
 rw [Kh]
 by_cases h:p<s.length
 ·obtain⟨n1,n2⟩:=ZF h
  have hok:okR (runeAt s p:Int):=by rw [(bf h).1];exact mw _
  have hfo:=gO hok
  have hl:=YC _ hfo
  have hb: -2147483648<=(runeAt s p:Int)/\(runeAt s p:Int)<=2147483647:=by unfold okR at hok;omega
  rw [if_pos h,Af _ h,vG N _ hb.1 hb.2,q0,qh N acc (by omega) _ hfo,q0,ih (m - 1) (by omega) f (IP s p) _ (by omega) (by omega) n2 (by rw [q9];omega),Tv h,List.map_cons,Zt,zu]
 ·rw [if_neg h,Vm h]
  unfold NE MA
  rw [Af _ (by omega),q0]
  simp [Zt]
theorem tV(N:Nat)(s:W2)(hs:s.length<=1048576)(hN:s.length<N):Mn N s=some (SI s):=by
 have hg:MK N (s.length:Int)=some []:=by
  unfold MK Ks Nm Oj
  rw [q0,if_neg (by omega),Af _ (by decide)]
  by_cases h:s=[]
  ·subst h;rfl
  ·have:=List.length_pos_iff.mpr h
   rw [if_pos (by simp;omega),Af _ (by omega),Af _ (by omega)];rfl
 rw [Mn,hg,q0,lE N s hs s.length N 0 [] (by omega) hN (by omega) (by simp),j0];rfl
theorem lL(N:Nat)(l:List (W2))(s:W2)(hN:20000000<N)(hl:l.length<=1048576)(hall: ∀j,j<l.length->(l[j]!).length<=1048576): ∀(k f i:Nat),i+k=l.length->k<f->bw N l (SI s) f (i:Int)=some (ZU (λx=>SI x==SI s) (l.drop i) i):=by
 intro k
 induction k with
 |zero=>
  intro f i hi hf
  obtain⟨f,rfl⟩: ∃n,f=n+1:=⟨f - 1,by omega⟩
  rw [bw,if_neg (by omega),List.drop_of_length_le (by omega)];rfl
 |succ k ih=>
  intro f i hi hf
  obtain⟨f,rfl⟩: ∃n,f=n+1:=⟨f - 1,by omega⟩
  have e1:(i:Int)+1=((i+1:Nat):Int):=by omega
  have hd:l.drop i=l[i]!::l.drop (i+1):=by rw [j5 (by omega),zg l i (by omega)]
  have hi300:=hall i (by omega)
  rw [bw,if_pos (by omega),Af _ (by omega),q3,JP,tV N _ (by omega) (by omega),q0,q0,hd,ZU]
  by_cases h:(SI (l[i]!)==SI s)=true
  ·rw [if_pos h,if_pos h]
  ·rw [if_neg h,if_neg h,Af _ (by omega),e1]
   exact ih f (i+1) (by omega) (by omega)
theorem gK(N:Nat)(l:List (W2))(s:W2)(hN:20000000<N)(hl:l.length<=1048576)(hs:s.length<=1048576)(hall: ∀j,j<l.length->(l[j]!).length<=1048576):Iq N l s=some (ZU (λx=>SI x==SI s) l 0):=by
 have:=lL N l s hN hl hall l.length N 0 (by omega) (by omega)
 rw [Iq,tV N s (by omega) (by omega),q0,sfm,show(0:Int)=((0:Nat):Int)from Z,this,j0];rfl
end Go.Proofs.YtjlomkippigejaaGreatDoor
