import Derived.Test.YtjnanfkpdhmnpaaGreatDoorLz
import Derived.Test.YtjnanfkpdhmnpaaGreatDoorCb
import Derived.Test.YtjnanfkpdhmnpaaGreatDoorCp
namespace Go.Proofs.YtjnanfkpdhmnpaaGreatDoor
open Go Go.RowKit Go.Eng
theorem ckp{α:Type}{p:Prop}[Decidable p]{a:Y1 α}(h:p):ck p a=a:=Af _ h
theorem Fm{α:Type}[Inhabited α]{l:Y0 α}{i:Nat}(h:i<l.length):l[i]!∈l:=by rw [zm l i h];exact List.getElem_mem h
theorem mg{α:Type}[Inhabited α]{l:Y0 α}{P:α->Prop}(h: ∀i,i<l.length->P (l[i]!)): ∀x∈l,P x:=λx hx=>by
 obtain⟨i,hi,rfl⟩:=List.mem_iff_getElem.1 hx
 have:=h i hi
 rwa [zm l i hi] at this
theorem OC{α:Type}[Inhabited α](l:Y0 α)(g:α->W2)(loop:Nat->Y0 (W2)->Int->Y1 (Y0 (W2)))(K:Y0 (W2)->Y1 (Y0 (W2)))
  (step: ∀(f i:Nat) (s:Y0 (W2)),i<l.length->s.length=i->loop (f+1) s (i:Int)=loop f (s++ [g (l[i]!)]) ((i+1:Nat):Int))
  (stop: ∀(f:Nat) (s:Y0 (W2)),loop (f+1) s (l.length:Int)=K s):
  ∀(k f i:Nat),i+k=l.length->k<f->loop f ((l.take i).map g) (i:Int)=K (l.map g):=by
 intro k
 induction k with
 |zero=>
  intro f i hi hf
  obtain⟨f,rfl⟩: ∃n,f=n+1:=⟨f - 1,by omega⟩
  obtain rfl:i=l.length:=by omega
  rw [stop,y4 (Nat.le_refl _)]
 |succ k ih=>
  intro f i hi hf
  obtain⟨f,rfl⟩: ∃n,f=n+1:=⟨f - 1,by omega⟩
  rw [step f i _ (by omega) (by rw [q9,q8];omega),<-ih f (i+1) (by omega) (by omega),List.take_add_one,zv (by omega:i<l.length),List.map_append,zm l i (by omega)]
  rfl
def BJ(m:Ao)(p:Int):Y0 (W2):=
 if p=1 then m.2.1.map (·.1)else if p=3 then m.2.2.2.1.map (·.1)else if p=4 then m.2.2.2.2.1.map (·.1)else if p=5 then m.2.2.2.2.2.1.map (·.1)else if p=6 then m.2.2.2.2.2.2.1.map (·.1)
 else if p=12 then m.2.2.2.2.2.2.2.2.2.2.2.2.1.map (·.1)else if p=13 then m.2.2.2.2.2.2.2.2.2.2.2.2.2.1.map (·.1)else if p=14 then m.2.2.2.2.2.2.2.2.2.2.2.2.2.2.1.map (·.1)else []
structure Tit(N:Nat)(m:Ao):Prop where
 h1:m.2.1.length<N/\m.2.1.length<=8796093022208
 h3:m.2.2.2.1.length<N/\m.2.2.2.1.length<=8796093022208
 h4:m.2.2.2.2.1.length<N/\m.2.2.2.2.1.length<=8796093022208
 h5:m.2.2.2.2.2.1.length<N/\m.2.2.2.2.2.1.length<=8796093022208
 h6:m.2.2.2.2.2.2.1.length<N/\m.2.2.2.2.2.2.1.length<=8796093022208
 h12:m.2.2.2.2.2.2.2.2.2.2.2.2.1.length<N/\m.2.2.2.2.2.2.2.2.2.2.2.2.1.length<=8796093022208
 h13:m.2.2.2.2.2.2.2.2.2.2.2.2.2.1.length<N/\m.2.2.2.2.2.2.2.2.2.2.2.2.2.1.length<=8796093022208
 h14:m.2.2.2.2.2.2.2.2.2.2.2.2.2.2.1.length<N/\m.2.2.2.2.2.2.2.2.2.2.2.2.2.2.1.length<=8796093022208
section
variable (N:Nat) (m:Ao) (p:Int) (s:Y0 (W2))
end
section
end
def brf(l:Y0 (W2)):Prop:=(∀i,i<l.length->(l[i]!).length<=1048576)/\l.length<=1048576
structure Lit(m:Ao):Prop where
 nm:m.1.length<=1048576
 ti: ∀p:Nat,p<15->brf (BJ m p)
 hd: ∀i,i<m.2.1.length->((m.2.1[i]!).2.1.length<=1048576/\ ∀j,j<(m.2.1[i]!).2.1.length->(((m.2.1[i]!).2.1)[j]!).1.length<=1048576)
 il:m.2.2.1.length<=1048576/\m.2.2.2.2.2.2.2.1.length<=1048576/\m.2.2.2.2.2.2.2.2.1.length<=1048576/\m.2.2.2.2.2.2.2.2.2.1.length<=1048576/\m.2.2.2.2.2.2.2.2.2.2.1.length<=1048576/\m.2.2.2.2.2.2.2.2.2.2.2.1.length<=1048576
 ins: ∀i,i<m.2.2.1.length->(m.2.2.1[i]!).1.length<=1048576
 st: ∀i,i<m.2.2.2.2.1.length->(m.2.2.2.2.1[i]!).2.1.length<=1048576/\(m.2.2.2.2.1[i]!).2.2.1.length<=1048576/\(m.2.2.2.2.1[i]!).2.2.2.1.length<=1048576
 ac: ∀i,i<m.2.2.2.2.2.1.length->(m.2.2.2.2.2.1[i]!).2.1.length<=1048576/\(m.2.2.2.2.2.1[i]!).2.2.length<=1048576
 tb: ∀i,i<m.2.2.2.2.2.2.1.length->(m.2.2.2.2.2.2.1[i]!).2.2.1.length<=1048576/\(m.2.2.2.2.2.2.1[i]!).2.2.2.1.length<=1048576/\(m.2.2.2.2.2.2.1[i]!).2.2.2.2.2.1.length<=1048576
 ni: ∀i,i<m.2.2.2.2.2.2.2.1.length->(m.2.2.2.2.2.2.2.1[i]!).2.2.1.length<=1048576/\(m.2.2.2.2.2.2.2.1[i]!).2.2.2.1.length<=1048576
 ne: ∀i,i<m.2.2.2.2.2.2.2.2.1.length->(m.2.2.2.2.2.2.2.2.1[i]!).2.2.1.length<=1048576/\(m.2.2.2.2.2.2.2.2.1[i]!).2.2.2.1.length<=1048576
structure Siz(m:Ao):Prop where
 h2:m.2.2.1.length<=8796093022208
 h8:m.2.2.2.2.2.2.2.1.length<=8796093022208
 h9:m.2.2.2.2.2.2.2.2.1.length<=8796093022208
 h10:m.2.2.2.2.2.2.2.2.2.1.length<=140737488355328
 h11:m.2.2.2.2.2.2.2.2.2.2.1.length<=8796093022208
 h12:m.2.2.2.2.2.2.2.2.2.2.2.1.length<=8796093022208
 hd: ∀i,i<m.2.1.length->(m.2.1[i]!).2.1.length<=140737488355328
 st: ∀i,i<m.2.2.2.2.1.length->(m.2.2.2.2.1[i]!).2.1.length<=140737488355328/\(m.2.2.2.2.1[i]!).2.2.1.length<=140737488355328/\(m.2.2.2.2.1[i]!).2.2.2.1.length<=140737488355328
 ac: ∀i,i<m.2.2.2.2.2.1.length->(m.2.2.2.2.2.1[i]!).2.1.length<=140737488355328/\(m.2.2.2.2.2.1[i]!).2.2.length<=140737488355328
 tb: ∀i,i<m.2.2.2.2.2.2.1.length->(m.2.2.2.2.2.2.1[i]!).2.2.1.length<=140737488355328/\(m.2.2.2.2.2.2.1[i]!).2.2.2.1.length<=140737488355328/\(m.2.2.2.2.2.2.1[i]!).2.2.2.2.2.1.length<=140737488355328
 ni: ∀i,i<m.2.2.2.2.2.2.2.1.length->(m.2.2.2.2.2.2.2.1[i]!).2.2.1.length<=140737488355328/\(m.2.2.2.2.2.2.2.1[i]!).2.2.2.1.length<=140737488355328
 ne: ∀i,i<m.2.2.2.2.2.2.2.2.1.length->(m.2.2.2.2.2.2.2.2.1[i]!).2.2.1.length<=140737488355328/\(m.2.2.2.2.2.2.2.2.1[i]!).2.2.2.1.length<=140737488355328
structure Few(m:Ao):Prop where
 h1:m.2.1.length<=1048576
 h4:m.2.2.2.2.1.length<=1048576
 h5:m.2.2.2.2.2.1.length<=1048576
 h6:m.2.2.2.2.2.2.1.length<=1048576
end Go.Proofs.YtjnanfkpdhmnpaaGreatDoor
namespace Go.Proofs.YtjnanfkpdhmnpaaGreatDoor
open Go Go.RowKit Go.Eng
theorem FF(N:Nat)(n a b:Int):AG N n a b=some (decide (a<=n/\n<=b)):=by
 unfold AG
 by_cases h:a<=n
 ·rw [V8 h];congr 1;exact decide_eq_decide.2 ⟨λh2=>⟨h,h2⟩,λh2=>h2.2⟩
 ·rw [V9 h];congr 1;exact(zk (λh2=>h h2.1)).symm
theorem kU(N:Nat)(n a b:Int):Gp N n a b=some (decide (a<=n/\n<=b)):=FF N n a b
theorem jx(N:Nat)(n a b:Int):Gn N n a b=some (decide (a<=n/\n<=b)):=FF N n a b
theorem EI(N:Nat)(b:Y3)(e:Int):Ap N b e=some (if b=true then 0 else e):=by
 unfold Ap;split<;>rfl
def Ans(x:Y1 Int)(P:Prop):Prop:= ∃r,x=some r/\(r=0->P)
theorem Ans.imp{x:Y1 Int}{P Q:Prop}(h:Ans x P)(f:P->Q):Ans x Q:=by obtain⟨r,e,p⟩:=h;exact⟨r,e,λq=>f (p q)⟩
theorem Ans.pure{x:Y1 Int}{P:Prop}(h:Ans x P):Ans (x.bind λr=>some r) P:=by obtain⟨r,e,p⟩:=h;exact⟨r,by rw [e];rfl,p⟩
theorem Ans.un(N:Nat)(b:Y3)(e:Int)(he:e≠0):Ans (Ap N b e) (b=true):=by
 refine⟨_,EI N b e,λq=> ?_⟩
 cases b with
 |true=>rfl
 |false=>rw [V9 (by decide)] at q;exact absurd q he
theorem kj(N:Nat)(s:Y0 Int)(hs:s.length<=1048576): ∀(k f i:Nat),i+k=s.length->k<f->
  ∃r,bW N s f (i:Int)=some r/\((r= -1/\ ∀j,i<=j->j<s.length->s[j]! =0)\/(0<=r/\r<(s.length:Int)/\s[r.toNat]!≠0)):=by
 intro k
 induction k with
 |zero=>
  intro f i hi hf
  obtain⟨f,rfl⟩: ∃n,f=n+1:=⟨f - 1,by omega⟩
  rw [bW,V9 (by omega)]
  exact⟨_,Z, .inl ⟨Z,λj h1 h2=>by omega⟩⟩
 |succ k ih=>
  intro f i hi hf
  obtain⟨f,rfl⟩: ∃n,f=n+1:=⟨f - 1,by omega⟩
  have e1:(i:Int)+1=((i+1:Nat):Int):=by omega
  rw [bW,V8 (by omega),ckp (by omega),q4,OM,q0]
  by_cases h:s[i]! =0
  ·rw [V9 (by rw [h];decide),ckp (by omega),e1]
   obtain⟨r,h1,h2⟩:=ih f (i+1) (by omega) (by omega)
   refine⟨r,h1,h2.elim (λh3=> .inl ⟨h3.1,λj h4 h5=> ?_⟩) .inr⟩
   rcases Nat.lt_or_ge i j with h6|h6
   ·exact h3.2 j h6 h5
   ·obtain rfl:j=i:=by omega
    exact h
  ·rw [V8 (by simpa using h)]
   exact⟨_,Z, .inr ⟨by omega,by omega,by rw [q4];exact h⟩⟩
theorem Vr{N:Nat}(hN:20000000<N)(l:Y0 Int)(hl:l.length<=1048576):Ans (AO N l) (∀j,j<l.length->l[j]! =0):=by
 obtain⟨r,h1,h2⟩:=kj N l hl l.length N 0 (by omega) (by omega)
 unfold Ans AO sFm
 rw [show(0:Int)=((0:Nat):Int)from Z,h1,q0]
 rcases h2 with⟨h3,h4⟩|⟨h3,h4,h5⟩
 ·rw [V8 (by omega)];exact⟨_,Z,λ_ j hj=>h4 j (Nat.zero_le _) hj⟩
 ·rw [V9 (by omega),ckp (by omega)];exact⟨_,Z,λe=>absurd e h5⟩
theorem LR{N:Nat}(hN:20000000<N)(a b:Int):Ans (AO N [a,b]) (a=0/\b=0):=(Vr hN [a,b] (by simp)).imp λh=>⟨h 0 (by simp),h 1 (by simp)⟩
theorem nj{N:Nat}(hN:20000000<N)(a b c:Int):Ans (AO N [a,b,c]) (a=0/\b=0/\c=0):=(Vr hN [a,b,c] (by simp)).imp λh=>⟨h 0 (by simp),h 1 (by simp),h 2 (by simp)⟩
theorem bg{N:Nat}(hN:20000000<N)(a b c d:Int):Ans (AO N [a,b,c,d]) (a=0/\b=0/\c=0/\d=0):=(Vr hN [a,b,c,d] (by simp)).imp λh=>⟨h 0 (by simp),h 1 (by simp),h 2 (by simp),h 3 (by simp)⟩
theorem wU{α:Type}[Inhabited α](l:Y0 α)(ask:Int->α->Y1 Int)(P:Nat->Prop)(loop:Nat->Int->Y1 (Int×Int))(hl:l.length<=1048576)
  (h0: ∀(f:Nat) (i:Int),loop (f+1) i=if i<(l.length:Int)then ck (0<=i/\i<(l.length:Int)) ((ask i (l[i.toNat]!)).bind λr=>if(r:Int)≠0 then some (i,r)else ck (-9223372036854775808<=(i+1)/\(i+1)<=9223372036854775807) (loop f (i+1)))else some (0,0))
  (ht: ∀i:Nat,i<l.length->Ans (ask (i:Int) (l[i]!)) (P i)): ∀(k f i:Nat),i+k=l.length->k<f-> ∃r,loop f (i:Int)=some r/\(r.2=0-> ∀j,i<=j->j<l.length->P j):=by
 intro k
 induction k with
 |zero=>
  intro f i hi hf
  obtain⟨f,rfl⟩: ∃n,f=n+1:=⟨f - 1,by omega⟩
  rw [h0,V9 (by omega)]
  exact⟨_,Z,λ_ j h1 h2=>by omega⟩
 |succ k ih=>
  intro f i hi hf
  obtain⟨f,rfl⟩: ∃n,f=n+1:=⟨f - 1,by omega⟩
  have e1:(i:Int)+1=((i+1:Nat):Int):=by omega
  obtain⟨r,hr,hp⟩:=ht i (by omega)
  rw [h0,V8 (by omega),ckp (by omega),q4,hr,q0]
  by_cases h:r=0
  ·rw [V9 (λh2=>h2 h),ckp (by omega),e1]
   obtain⟨q,h1,h2⟩:=ih f (i+1) (by omega) (by omega)
   refine⟨q,h1,λh3 j h4 h5=> ?_⟩
   rcases Nat.lt_or_ge i j with h6|h6
   ·exact h2 h3 j h6 h5
   ·obtain rfl:j=i:=by omega
    exact hp h
  ·rw [V8 h];exact⟨_,Z,λh2=>absurd h2 h⟩
def Ans2(x:Y1 (Int×Int))(P:Prop):Prop:= ∃r,x=some r/\(r.2=0->P)
theorem Ans2.imp{x:Y1 (Int×Int)}{P Q:Prop}(h:Ans2 x P)(f:P->Q):Ans2 x Q:=by obtain⟨r,e,p⟩:=h;exact⟨r,e,λq=>f (p q)⟩
theorem Ans2.pure{x:Y1 (Int×Int)}{P:Prop}(h:Ans2 x P):Ans2 (x.bind λr=>some (r.1,r.2)) P:=by obtain⟨r,e,p⟩:=h;exact⟨r,by rw [e];rfl,p⟩
theorem Ans2.snd{x:Y1 (Int×Int)}{P:Prop}(h:Ans2 x P):Ans (x.bind λr=>some r.2) P:=by obtain⟨r,e,p⟩:=h;exact⟨r.2,by rw [e];rfl,p⟩
theorem Ju{α:Type}[Inhabited α]{N:Nat}(hN:20000000<N)(l:Y0 α)(ask:Int->α->Y1 Int)(P:Nat->Prop)(loop:Nat->Int->Y1 (Int×Int))(most:Int)(hm:most<=1048576)
  (h0: ∀(f:Nat) (i:Int),loop (f+1) i=if i<(l.length:Int)then ck (0<=i/\i<(l.length:Int)) ((ask i (l[i.toNat]!)).bind λr=>if(r:Int)≠0 then some (i,r)else ck (-9223372036854775808<=(i+1)/\(i+1)<=9223372036854775807) (loop f (i+1)))else some (0,0))
  (ht:(l.length:Int)<=most-> ∀i:Nat,i<l.length->Ans (ask (i:Int) (l[i]!)) (P i)):
  Ans2 (if(((l).length:Int):Int)>most then some (0,2)else loop N 0) ((l.length:Int)<=most/\ ∀i,i<l.length->P i):=by
 by_cases c:(l.length:Int)>most
 ·exact⟨(0,2),V8 c,λe=>absurd e (by decide)⟩
 ·obtain⟨r,h1,h2⟩:=wU l ask P loop (by omega) h0 (ht (by omega)) l.length N 0 (by omega) (by omega)
  exact⟨r,(V9 c).trans h1,λe=>⟨by omega,λi hi=>h2 e i (Nat.zero_le _) hi⟩⟩
theorem wM{α:Type}[Inhabited α]{N:Nat}(l:Y0 α)(g:α->W2)(loop:Nat->Y0 (W2)->Int->Y1 (Y0 (W2)))(hl:l.length<=1048576)
  (h0: ∀(f:Nat) (s:Y0 (W2)) (i:Int),loop (f+1) s i=if i<(l.length:Int)then ck (0<=i/\i<(l.length:Int)) ((some (g (l[i.toNat]!))).bind λr=>ck (0<=i/\i<(s.length:Int)) (ck (-9223372036854775808<=(i+1)/\(i+1)<=9223372036854775807) (loop f (s.set (i.toNat) r) (i+1))))else some s):
  ∀(k f i:Nat),i+k=l.length->k<f->loop f ((l.take i).map g++List.replicate (l.length - i) []) (i:Int)=some (l.map g):=by
 intro k
 induction k with
 |zero=>
  intro f i hi hf
  obtain⟨f,rfl⟩: ∃n,f=n+1:=⟨f - 1,by omega⟩
  rw [h0,V9 (by omega),y4 (by omega),show l.length - i=0 from by omega];simp
 |succ k ih=>
  intro f i hi hf
  obtain⟨f,rfl⟩: ∃n,f=n+1:=⟨f - 1,by omega⟩
  have e1:(i:Int)+1=((i+1:Nat):Int):=by omega
  have e2:=WR g l i (by omega)
  rw [h0,V8 (by omega),ckp (by omega),q0,ckp (by rw [e2];omega),ckp (by omega),q4,Re g l i (by omega),e1]
  exact ih f (i+1) (by omega) (by omega)
theorem Rx{α:Type}[Inhabited α]{N:Nat}(hN:20000000<N)(l:Y0 α)(g:α->W2)(loop:Nat->Y0 (W2)->Int->Y1 (Y0 (W2)))(hl:l.length<=1048576)
  (h0: ∀(f:Nat) (s:Y0 (W2)) (i:Int),loop (f+1) s i=if i<(l.length:Int)then ck (0<=i/\i<(l.length:Int)) ((some (g (l[i.toNat]!))).bind λr=>ck (0<=i/\i<(s.length:Int)) (ck (-9223372036854775808<=(i+1)/\(i+1)<=9223372036854775807) (loop f (s.set (i.toNat) r) (i+1))))else some s):
  ck (0<=((l).length:Int)/\((l).length:Int)<=8796093022208) (loop N ((List.replicate (((l).length:Int)).toNat ([]))) 0)=some (l.map g):=by
 rw [ckp (by omega),q4]
 have:=wM (N:=N) l g loop hl h0 l.length N 0 (by omega) (by omega)
 rwa [List.take_zero,List.map_nil,y5,Nat.sub_zero] at this
theorem Wa{N:Nat}(hN:20000000<N)(l:Y0 (W2))(h:brf l)(i:Nat)(hi:i<l.length):Ans (Bk N l (i:Int)) True:=by
 unfold Bk
 rw [ckp (by omega),ckp (by omega),q4,j8,iH N _ _ (by omega) (by rw [q8];have:=h.2;omega) (by have:=h.1 i hi;omega) (λj hj=>by
  rw [q8] at hj
  have:=h.1 j (by omega)
  rw [zm _ j (by rw [q8];omega),y2]
  rw [zm l j (by omega)] at this;omega),q0]
 exact((Ans.un N _ 6 (by decide)).imp λ_=>trivial).pure
theorem mV{N:Nat}(hN:20000000<N)(s:W2)(hs:s.length<=1048576):Fl N s=some (Kx s):=Vh N (by omega) s hs
theorem mw{N:Nat}(hN:20000000<N)(l:Y0 (W2))(h:brf l)(i:Nat)(hi:i<l.length){A:Y1 Int}{P:Prop}(hA:Ans A P):
  Ans (ck (0<=(i:Int)/\(i:Int)<((l).length:Int)) ((Fl N ((l)[((i:Int)).toNat]!)).bind λr5=>(Ap N r5 4).bind λr7=>(Bk N l (i:Int)).bind λr9=>A.bind λr11=>(AO N ([r7,r9,r11])).bind λr16=>some r16)) P:=by
 obtain⟨b,hb,_⟩:=Wa hN l h i hi
 obtain⟨a,ha,hp⟩:=hA
 rw [ckp (by omega),q4,mV hN _ (by have:=h.1 i hi;omega),q0,EI,q0,hb,q0,ha,q0]
 exact((nj (by omega) _ b a).imp λq=>hp q.2.2).pure
end Go.Proofs.YtjnanfkpdhmnpaaGreatDoor
