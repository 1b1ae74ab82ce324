import Derived.Test.YtjlomkippigejaaGreatDoorBl
import Derived.Test.YtjlomkippigejaaGreatDoorCb
import Derived.Test.YtjlomkippigejaaGreatDoorCp
namespace Go.Proofs.YtjlomkippigejaaGreatDoor
open Go Go.RowKit Go.Eng
theorem ckp{α:Type}{p:Prop}[Decidable p]{a:Option α}(h:p):ck p a=a:=Af _ h
theorem Fa{α:Type}[Inhabited α]{l:List α}{i:Nat}(h:i<l.length):l[i]!∈l:=by rw [zg l i h];exact List.getElem_mem h
theorem kR{α:Type}[Inhabited α]{l:List α}{P:α->Prop}(h: ∀i,i<l.length->P (l[i]!)): ∀x∈l,P x:=λx hx=>by
 obtain⟨i,hi,rfl⟩:=List.mem_iff_getElem.1 hx
 have:=h i hi
 rwa [zg l i hi] at this
theorem Of{α:Type}[Inhabited α](l:List α)(g:α->W2)(loop:Nat->List (W2)->Int->Option (List (W2)))(K:List (W2)->Option (List (W2)))
  (step: ∀(f i:Nat) (s:List (W2)),i<l.length->s.length=i->loop (f+1) s (i:Int)=loop f (s++ [g (l[i]!)]) ((i+1:Nat):Int))
  (stop: ∀(f:Nat) (s:List (W2)),loop (f+1) s (l.length:Int)=K s):
  ∀(k f i:Nat),i+k=l.length->k<f->loop f ((l.take i).map g) (i:Int)=K (l.map g):=by
 intro k
 induction k with
 |zero=>
  intro f i hi hf
  obtain⟨f,rfl⟩: ∃n,f=n+1:=⟨f - 1,by omega⟩
  obtain rfl:i=l.length:=by omega
  rw [stop,j6 (Nat.le_refl _)]
 |succ k ih=>
  intro f i hi hf
  obtain⟨f,rfl⟩: ∃n,f=n+1:=⟨f - 1,by omega⟩
  rw [step f i _ (by omega) (by rw [q8,q7];omega),<-ih f (i+1) (by omega) (by omega),List.take_add_one,zo (by omega:i<l.length),List.map_append,zg l i (by omega)]
  rfl
def By(m:Ao)(p:Int):List (W2):=
 if p=1 then m.2.1.map (·.1)else if p=3 then m.2.2.2.1.map (·.1)else if p=4 then m.2.2.2.2.1.map (·.1)else if p=5 then m.2.2.2.2.2.1.map (·.1)else if p=6 then m.2.2.2.2.2.2.1.map (·.1)
 else if p=12 then m.2.2.2.2.2.2.2.2.2.2.2.2.1.map (·.1)else if p=13 then m.2.2.2.2.2.2.2.2.2.2.2.2.2.1.map (·.1)else if p=14 then m.2.2.2.2.2.2.2.2.2.2.2.2.2.2.1.map (·.1)else []
structure Tit(N:Nat)(m:Ao):Prop where
 h1:m.2.1.length<N/\m.2.1.length<=8796093022208
 h3:m.2.2.2.1.length<N/\m.2.2.2.1.length<=8796093022208
 h4:m.2.2.2.2.1.length<N/\m.2.2.2.2.1.length<=8796093022208
 h5:m.2.2.2.2.2.1.length<N/\m.2.2.2.2.2.1.length<=8796093022208
 h6:m.2.2.2.2.2.2.1.length<N/\m.2.2.2.2.2.2.1.length<=8796093022208
 h12:m.2.2.2.2.2.2.2.2.2.2.2.2.1.length<N/\m.2.2.2.2.2.2.2.2.2.2.2.2.1.length<=8796093022208
 h13:m.2.2.2.2.2.2.2.2.2.2.2.2.2.1.length<N/\m.2.2.2.2.2.2.2.2.2.2.2.2.2.1.length<=8796093022208
 h14:m.2.2.2.2.2.2.2.2.2.2.2.2.2.2.1.length<N/\m.2.2.2.2.2.2.2.2.2.2.2.2.2.2.1.length<=8796093022208
section
variable (N:Nat) (m:Ao) (p:Int) (s:List (W2))
end
section
end
def brf(l:List (W2)):Prop:=(∀i,i<l.length->(l[i]!).length<=1048576)/\l.length<=1048576
structure Lit(m:Ao):Prop where
 nm:m.1.length<=1048576
 ti: ∀p:Nat,p<15->brf (By m p)
 hd: ∀i,i<m.2.1.length->((m.2.1[i]!).2.1.length<=1048576/\ ∀j,j<(m.2.1[i]!).2.1.length->(((m.2.1[i]!).2.1)[j]!).1.length<=1048576)
 il:m.2.2.1.length<=1048576/\m.2.2.2.2.2.2.2.1.length<=1048576/\m.2.2.2.2.2.2.2.2.1.length<=1048576/\m.2.2.2.2.2.2.2.2.2.1.length<=1048576/\m.2.2.2.2.2.2.2.2.2.2.1.length<=1048576/\m.2.2.2.2.2.2.2.2.2.2.2.1.length<=1048576
 ins: ∀i,i<m.2.2.1.length->(m.2.2.1[i]!).1.length<=1048576
 st: ∀i,i<m.2.2.2.2.1.length->(m.2.2.2.2.1[i]!).2.1.length<=1048576/\(m.2.2.2.2.1[i]!).2.2.1.length<=1048576/\(m.2.2.2.2.1[i]!).2.2.2.1.length<=1048576
 ac: ∀i,i<m.2.2.2.2.2.1.length->(m.2.2.2.2.2.1[i]!).2.1.length<=1048576/\(m.2.2.2.2.2.1[i]!).2.2.length<=1048576
 tb: ∀i,i<m.2.2.2.2.2.2.1.length->(m.2.2.2.2.2.2.1[i]!).2.2.1.length<=1048576/\(m.2.2.2.2.2.2.1[i]!).2.2.2.1.length<=1048576/\(m.2.2.2.2.2.2.1[i]!).2.2.2.2.2.1.length<=1048576
 ni: ∀i,i<m.2.2.2.2.2.2.2.1.length->(m.2.2.2.2.2.2.2.1[i]!).2.2.1.length<=1048576/\(m.2.2.2.2.2.2.2.1[i]!).2.2.2.1.length<=1048576
 ne: ∀i,i<m.2.2.2.2.2.2.2.2.1.length->(m.2.2.2.2.2.2.2.2.1[i]!).2.2.1.length<=1048576/\(m.2.2.2.2.2.2.2.2.1[i]!).2.2.2.1.length<=1048576
structure Siz(m:Ao):Prop where
 h2:m.2.2.1.length<=8796093022208
 h8:m.2.2.2.2.2.2.2.1.length<=8796093022208
 h9:m.2.2.2.2.2.2.2.2.1.length<=8796093022208
 h10:m.2.2.2.2.2.2.2.2.2.1.length<=140737488355328
 h11:m.2.2.2.2.2.2.2.2.2.2.1.length<=8796093022208
 h12:m.2.2.2.2.2.2.2.2.2.2.2.1.length<=8796093022208
 hd: ∀i,i<m.2.1.length->(m.2.1[i]!).2.1.length<=140737488355328
 st: ∀i,i<m.2.2.2.2.1.length->(m.2.2.2.2.1[i]!).2.1.length<=140737488355328/\(m.2.2.2.2.1[i]!).2.2.1.length<=140737488355328/\(m.2.2.2.2.1[i]!).2.2.2.1.length<=140737488355328
 ac: ∀i,i<m.2.2.2.2.2.1.length->(m.2.2.2.2.2.1[i]!).2.1.length<=140737488355328/\(m.2.2.2.2.2.1[i]!).2.2.length<=140737488355328
 tb: ∀i,i<m.2.2.2.2.2.2.1.length->(m.2.2.2.2.2.2.1[i]!).2.2.1.length<=140737488355328/\(m.2.2.2.2.2.2.1[i]!).2.2.2.1.length<=140737488355328/\(m.2.2.2.2.2.2.1[i]!).2.2.2.2.2.1.length<=140737488355328
 ni: ∀i,i<m.2.2.2.2.2.2.2.1.length->(m.2.2.2.2.2.2.2.1[i]!).2.2.1.length<=140737488355328/\(m.2.2.2.2.2.2.2.1[i]!).2.2.2.1.length<=140737488355328
 ne: ∀i,i<m.2.2.2.2.2.2.2.2.1.length->(m.2.2.2.2.2.2.2.2.1[i]!).2.2.1.length<=140737488355328/\(m.2.2.2.2.2.2.2.2.1[i]!).2.2.2.1.length<=140737488355328
structure Few(m:Ao):Prop where
 h1:m.2.1.length<=1048576
 h4:m.2.2.2.2.1.length<=1048576
 h5:m.2.2.2.2.2.1.length<=1048576
 h6:m.2.2.2.2.2.2.1.length<=1048576
end Go.Proofs.YtjlomkippigejaaGreatDoor
namespace Go.Proofs.YtjlomkippigejaaGreatDoor
open Go Go.RowKit Go.Eng
theorem Fp(N:Nat)(n a b:Int):AA N n a b=some (decide (a<=n/\n<=b)):=by
 unfold AA
 by_cases h:a<=n
 ·rw [if_pos h];congr 1;exact decide_eq_decide.2 ⟨λh2=>⟨h,h2⟩,λh2=>h2.2⟩
 ·rw [if_neg h];congr 1;exact(ze (λh2=>h h2.1)).symm
theorem jL(N:Nat)(n a b:Int):FW N n a b=some (decide (a<=n/\n<=b)):=Fp N n a b
theorem iy(N:Nat)(n a b:Int):FV N n a b=some (decide (a<=n/\n<=b)):=Fp N n a b
theorem DT(N:Nat)(b:Bool)(e:Int):Ap N b e=some (if b=true then 0 else e):=by
 unfold Ap;split<;>rfl
def Ans(x:Option Int)(P:Prop):Prop:= ∃r,x=some r/\(r=0->P)
theorem Ans.imp{x:Option Int}{P Q:Prop}(h:Ans x P)(f:P->Q):Ans x Q:=by obtain⟨r,e,p⟩:=h;exact⟨r,e,λq=>f (p q)⟩
theorem Ans.pure{x:Option Int}{P:Prop}(h:Ans x P):Ans (x.bind λr=>some r) P:=by obtain⟨r,e,p⟩:=h;exact⟨r,by rw [e];rfl,p⟩
theorem Ans.un(N:Nat)(b:Bool)(e:Int)(he:e≠0):Ans (Ap N b e) (b=true):=by
 refine⟨_,DT N b e,λq=> ?_⟩
 cases b with
 |true=>rfl
 |false=>rw [if_neg (by decide)] at q;exact absurd q he
theorem jn(N:Nat)(s:List Int)(hs:s.length<=1048576): ∀(k f i:Nat),i+k=s.length->k<f->
  ∃r,bD N s f (i:Int)=some r/\((r= -1/\ ∀j,i<=j->j<s.length->s[j]! =0)\/(0<=r/\r<(s.length:Int)/\s[r.toNat]!≠0)):=by
 intro k
 induction k with
 |zero=>
  intro f i hi hf
  obtain⟨f,rfl⟩: ∃n,f=n+1:=⟨f - 1,by omega⟩
  rw [bD,if_neg (by omega)]
  exact⟨_,Z, .inl ⟨Z,λj h1 h2=>by omega⟩⟩
 |succ k ih=>
  intro f i hi hf
  obtain⟨f,rfl⟩: ∃n,f=n+1:=⟨f - 1,by omega⟩
  have e1:(i:Int)+1=((i+1:Nat):Int):=by omega
  rw [bD,if_pos (by omega),ckp (by omega),q3,On,q0]
  by_cases h:s[i]! =0
  ·rw [if_neg (by rw [h];decide),ckp (by omega),e1]
   obtain⟨r,h1,h2⟩:=ih f (i+1) (by omega) (by omega)
   refine⟨r,h1,h2.elim (λh3=> .inl ⟨h3.1,λj h4 h5=> ?_⟩) .inr⟩
   rcases Nat.lt_or_ge i j with h6|h6
   ·exact h3.2 j h6 h5
   ·obtain rfl:j=i:=by omega
    exact h
  ·rw [if_pos (by simpa using h)]
   exact⟨_,Z, .inr ⟨by omega,by omega,by rw [q3];exact h⟩⟩
theorem UW{N:Nat}(hN:20000000<N)(l:List Int)(hl:l.length<=1048576):Ans (AI N l) (∀j,j<l.length->l[j]! =0):=by
 obtain⟨r,h1,h2⟩:=jn N l hl l.length N 0 (by omega) (by omega)
 unfold Ans AI sFm
 rw [show(0:Int)=((0:Nat):Int)from Z,h1,q0]
 rcases h2 with⟨h3,h4⟩|⟨h3,h4,h5⟩
 ·rw [if_pos (by omega)];exact⟨_,Z,λ_ j hj=>h4 j (Nat.zero_le _) hj⟩
 ·rw [if_neg (by omega),ckp (by omega)];exact⟨_,Z,λe=>absurd e h5⟩
theorem Lk{N:Nat}(hN:20000000<N)(a b:Int):Ans (AI N [a,b]) (a=0/\b=0):=(UW hN [a,b] (by simp)).imp λh=>⟨h 0 (by simp),h 1 (by simp)⟩
theorem lX{N:Nat}(hN:20000000<N)(a b c:Int):Ans (AI N [a,b,c]) (a=0/\b=0/\c=0):=(UW hN [a,b,c] (by simp)).imp λh=>⟨h 0 (by simp),h 1 (by simp),h 2 (by simp)⟩
theorem aF{N:Nat}(hN:20000000<N)(a b c d:Int):Ans (AI N [a,b,c,d]) (a=0/\b=0/\c=0/\d=0):=(UW hN [a,b,c,d] (by simp)).imp λh=>⟨h 0 (by simp),h 1 (by simp),h 2 (by simp),h 3 (by simp)⟩
theorem vO{α:Type}[Inhabited α](l:List α)(ask:Int->α->Option Int)(P:Nat->Prop)(loop:Nat->Int->Option (Int×Int))(hl:l.length<=1048576)
  (h0: ∀(f:Nat) (i:Int),loop (f+1) i=if i<(l.length:Int)then ck (0<=i/\i<(l.length:Int)) ((ask i (l[i.toNat]!)).bind λr=>if(r:Int)≠0 then some (i,r)else ck (-9223372036854775808<=(i+1)/\(i+1)<=9223372036854775807) (loop f (i+1)))else some (0,0))
  (ht: ∀i:Nat,i<l.length->Ans (ask (i:Int) (l[i]!)) (P i)): ∀(k f i:Nat),i+k=l.length->k<f-> ∃r,loop f (i:Int)=some r/\(r.2=0-> ∀j,i<=j->j<l.length->P j):=by
 intro k
 induction k with
 |zero=>
  intro f i hi hf
  obtain⟨f,rfl⟩: ∃n,f=n+1:=⟨f - 1,by omega⟩
  rw [h0,if_neg (by omega)]
  exact⟨_,Z,λ_ j h1 h2=>by omega⟩
 |succ k ih=>
  intro f i hi hf
  obtain⟨f,rfl⟩: ∃n,f=n+1:=⟨f - 1,by omega⟩
  have e1:(i:Int)+1=((i+1:Nat):Int):=by omega
  obtain⟨r,hr,hp⟩:=ht i (by omega)
  rw [h0,if_pos (by omega),ckp (by omega),q3,hr,q0]
  by_cases h:r=0
  ·rw [if_neg (λh2=>h2 h),ckp (by omega),e1]
   obtain⟨q,h1,h2⟩:=ih f (i+1) (by omega) (by omega)
   refine⟨q,h1,λh3 j h4 h5=> ?_⟩
   rcases Nat.lt_or_ge i j with h6|h6
   ·exact h2 h3 j h6 h5
   ·obtain rfl:j=i:=by omega
    exact hp h
  ·rw [if_pos h];exact⟨_,Z,λh2=>absurd h2 h⟩
def Ans2(x:Option (Int×Int))(P:Prop):Prop:= ∃r,x=some r/\(r.2=0->P)
theorem Ans2.imp{x:Option (Int×Int)}{P Q:Prop}(h:Ans2 x P)(f:P->Q):Ans2 x Q:=by obtain⟨r,e,p⟩:=h;exact⟨r,e,λq=>f (p q)⟩
theorem Ans2.pure{x:Option (Int×Int)}{P:Prop}(h:Ans2 x P):Ans2 (x.bind λr=>some (r.1,r.2)) P:=by obtain⟨r,e,p⟩:=h;exact⟨r,by rw [e];rfl,p⟩
theorem Ans2.snd{x:Option (Int×Int)}{P:Prop}(h:Ans2 x P):Ans (x.bind λr=>some r.2) P:=by obtain⟨r,e,p⟩:=h;exact⟨r.2,by rw [e];rfl,p⟩
theorem Jd{α:Type}[Inhabited α]{N:Nat}(hN:20000000<N)(l:List α)(ask:Int->α->Option Int)(P:Nat->Prop)(loop:Nat->Int->Option (Int×Int))(most:Int)(hm:most<=1048576)
  (h0: ∀(f:Nat) (i:Int),loop (f+1) i=if i<(l.length:Int)then ck (0<=i/\i<(l.length:Int)) ((ask i (l[i.toNat]!)).bind λr=>if(r:Int)≠0 then some (i,r)else ck (-9223372036854775808<=(i+1)/\(i+1)<=9223372036854775807) (loop f (i+1)))else some (0,0))
  (ht:(l.length:Int)<=most-> ∀i:Nat,i<l.length->Ans (ask (i:Int) (l[i]!)) (P i)):
  Ans2 (if(((l).length:Int):Int)>most then some (0,2)else loop N 0) ((l.length:Int)<=most/\ ∀i,i<l.length->P i):=by
 by_cases c:(l.length:Int)>most
 ·exact⟨(0,2),if_pos c,λe=>absurd e (by decide)⟩
 ·obtain⟨r,h1,h2⟩:=vO l ask P loop (by omega) h0 (ht (by omega)) l.length N 0 (by omega) (by omega)
  exact⟨r,(if_neg c).trans h1,λe=>⟨by omega,λi hi=>h2 e i (Nat.zero_le _) hi⟩⟩
theorem vD{α:Type}[Inhabited α]{N:Nat}(l:List α)(g:α->W2)(loop:Nat->List (W2)->Int->Option (List (W2)))(hl:l.length<=1048576)
  (h0: ∀(f:Nat) (s:List (W2)) (i:Int),loop (f+1) s i=if i<(l.length:Int)then ck (0<=i/\i<(l.length:Int)) ((some (g (l[i.toNat]!))).bind λr=>ck (0<=i/\i<(s.length:Int)) (ck (-9223372036854775808<=(i+1)/\(i+1)<=9223372036854775807) (loop f (s.set (i.toNat) r) (i+1))))else some s):
  ∀(k f i:Nat),i+k=l.length->k<f->loop f ((l.take i).map g++List.replicate (l.length - i) []) (i:Int)=some (l.map g):=by
 intro k
 induction k with
 |zero=>
  intro f i hi hf
  obtain⟨f,rfl⟩: ∃n,f=n+1:=⟨f - 1,by omega⟩
  rw [h0,if_neg (by omega),j6 (by omega),show l.length - i=0 from by omega];simp
 |succ k ih=>
  intro f i hi hf
  obtain⟨f,rfl⟩: ∃n,f=n+1:=⟨f - 1,by omega⟩
  have e1:(i:Int)+1=((i+1:Nat):Int):=by omega
  have e2:=Wu g l i (by omega)
  rw [h0,if_pos (by omega),ckp (by omega),q0,ckp (by rw [e2];omega),ckp (by omega),q3,Qz g l i (by omega),e1]
  exact ih f (i+1) (by omega) (by omega)
theorem QS{α:Type}[Inhabited α]{N:Nat}(hN:20000000<N)(l:List α)(g:α->W2)(loop:Nat->List (W2)->Int->Option (List (W2)))(hl:l.length<=1048576)
  (h0: ∀(f:Nat) (s:List (W2)) (i:Int),loop (f+1) s i=if i<(l.length:Int)then ck (0<=i/\i<(l.length:Int)) ((some (g (l[i.toNat]!))).bind λr=>ck (0<=i/\i<(s.length:Int)) (ck (-9223372036854775808<=(i+1)/\(i+1)<=9223372036854775807) (loop f (s.set (i.toNat) r) (i+1))))else some s):
  ck (0<=((l).length:Int)/\((l).length:Int)<=8796093022208) (loop N ((List.replicate (((l).length:Int)).toNat ([]))) 0)=some (l.map g):=by
 rw [ckp (by omega),q3]
 have:=vD (N:=N) l g loop hl h0 l.length N 0 (by omega) (by omega)
 rwa [List.take_zero,List.map_nil,j7,Nat.sub_zero] at this
theorem VC{N:Nat}(hN:20000000<N)(l:List (W2))(h:brf l)(i:Nat)(hi:i<l.length):Ans (Ba N l (i:Int)) True:=by
 unfold Ba
 rw [ckp (by omega),ckp (by omega),q3,j0,gK N _ _ (by omega) (by rw [q7];have:=h.2;omega) (by have:=h.1 i hi;omega) (λj hj=>by
  rw [q7] at hj
  have:=h.1 j (by omega)
  rw [zg _ j (by rw [q7];omega),j4]
  rw [zg l j (by omega)] at this;omega),q0]
 exact((Ans.un N _ 6 (by decide)).imp λ_=>trivial).pure
theorem lJ{N:Nat}(hN:20000000<N)(s:W2)(hs:s.length<=1048576):EZ N s=some (Kf s):=UP N (by omega) s hs
theorem lc{N:Nat}(hN:20000000<N)(l:List (W2))(h:brf l)(i:Nat)(hi:i<l.length){A:Option Int}{P:Prop}(hA:Ans A P):
  Ans (ck (0<=(i:Int)/\(i:Int)<((l).length:Int)) ((EZ N ((l)[((i:Int)).toNat]!)).bind λr5=>(Ap N r5 4).bind λr7=>(Ba N l (i:Int)).bind λr9=>A.bind λr11=>(AI N ([r7,r9,r11])).bind λr16=>some r16)) P:=by
 obtain⟨b,hb,_⟩:=VC hN l h i hi
 obtain⟨a,ha,hp⟩:=hA
 rw [ckp (by omega),q3,lJ hN _ (by have:=h.1 i hi;omega),q0,DT,q0,hb,q0,ha,q0]
 exact((lX (by omega) _ b a).imp λq=>hp q.2.2).pure
end Go.Proofs.YtjlomkippigejaaGreatDoor
