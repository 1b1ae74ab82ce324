import Derived.Test.YtoolcgbcfgnipaaGreatDoorBk
import Derived.Test.YtoolcgbcfgnipaaGreatDoorCb
import Derived.Test.YtoolcgbcfgnipaaGreatDoorCp
namespace Go.Proofs.YtoolcgbcfgnipaaGreatDoor
open Go Go.RowKit Go.Eng
theorem ckp{α:Type}{p:Prop}[Decidable p]{a:Option α}(h:p):ck p a=a:=Aj _ h
theorem EI{α:Type}[Inhabited α]{l:List α}{i:Nat}(h:i<l.length):l[i]!∈l:=by rw [zg l i h];exact List.getElem_mem h
theorem jv{α:Type}[Inhabited α]{l:List α}{P:α→Prop}(h: ∀i,i<l.length→P (l[i]!)): ∀x∈l,P x:=fun x hx=>by
 obtain⟨i,hi,rfl⟩:=List.mem_iff_getElem.1 hx
 have:=h i hi
 rwa [zg l i hi] at this
theorem NC{α:Type}[Inhabited α](l:List α)(g:α→List UInt8)(loop:Nat→List (List UInt8)→Int→Option (List (List UInt8)))(K:List (List UInt8)→Option (List (List UInt8)))
  (step: ∀(f i:Nat) (s:List (List UInt8)),i<l.length→s.length=i→loop (f+1) s (i:Int)=loop f (s++ [g (l[i]!)]) ((i+1:Nat):Int))
  (stop: ∀(f:Nat) (s:List (List UInt8)),loop (f+1) s (l.length:Int)=K s):
  ∀(k f i:Nat),i+k=l.length→k<f→loop f ((l.take i).map g) (i:Int)=K (l.map g):=by
 intro k
 induction k with
 |zero=>
  intro f i hi hf
  obtain⟨f,rfl⟩: ∃n,f=n+1:=⟨f - 1,by omega⟩
  obtain rfl:i=l.length:=by omega
  rw [stop,j6 (Nat.le_refl _)]
 |succ k ih=>
  intro f i hi hf
  obtain⟨f,rfl⟩: ∃n,f=n+1:=⟨f - 1,by omega⟩
  rw [step f i _ (by omega) (by rw [q8,q7];omega),←ih f (i+1) (by omega) (by omega),List.take_add_one,zo (by omega:i<l.length),List.map_append,zg l i (by omega)]
  rfl
def Bt(m:Ao)(p:Int):List (List UInt8):=
 if p=1 then m.2.1.map (·.1)else if p=3 then m.2.2.2.1.map (·.1)else if p=4 then m.2.2.2.2.1.map (·.1)else if p=5 then m.2.2.2.2.2.1.map (·.1)else if p=6 then m.2.2.2.2.2.2.1.map (·.1)
 else if p=12 then m.2.2.2.2.2.2.2.2.2.2.2.2.1.map (·.1)else if p=13 then m.2.2.2.2.2.2.2.2.2.2.2.2.2.1.map (·.1)else if p=14 then m.2.2.2.2.2.2.2.2.2.2.2.2.2.2.1.map (·.1)else []
structure Tit(N:Nat)(m:Ao):Prop where
 h1:m.2.1.length<N∧m.2.1.length≤8796093022208
 h3:m.2.2.2.1.length<N∧m.2.2.2.1.length≤8796093022208
 h4:m.2.2.2.2.1.length<N∧m.2.2.2.2.1.length≤8796093022208
 h5:m.2.2.2.2.2.1.length<N∧m.2.2.2.2.2.1.length≤8796093022208
 h6:m.2.2.2.2.2.2.1.length<N∧m.2.2.2.2.2.2.1.length≤8796093022208
 h12:m.2.2.2.2.2.2.2.2.2.2.2.2.1.length<N∧m.2.2.2.2.2.2.2.2.2.2.2.2.1.length≤8796093022208
 h13:m.2.2.2.2.2.2.2.2.2.2.2.2.2.1.length<N∧m.2.2.2.2.2.2.2.2.2.2.2.2.2.1.length≤8796093022208
 h14:m.2.2.2.2.2.2.2.2.2.2.2.2.2.2.1.length<N∧m.2.2.2.2.2.2.2.2.2.2.2.2.2.2.1.length≤8796093022208
section
variable (N:Nat) (m:Ao) (p:Int) (s:List (List UInt8))
end
section
end
def brf(l:List (List UInt8)):Prop:=(∀i,i<l.length→(l[i]!).length≤1048576)∧l.length≤1048576
structure Lit(m:Ao):Prop where
 nm:m.1.length≤1048576
 ti: ∀p:Nat,p<15→brf (Bt m p)
 hd: ∀i,i<m.2.1.length→((m.2.1[i]!).2.1.length≤1048576∧ ∀j,j<(m.2.1[i]!).2.1.length→(((m.2.1[i]!).2.1)[j]!).1.length≤1048576)
 il:m.2.2.1.length≤1048576∧m.2.2.2.2.2.2.2.1.length≤1048576∧m.2.2.2.2.2.2.2.2.1.length≤1048576∧m.2.2.2.2.2.2.2.2.2.1.length≤1048576∧m.2.2.2.2.2.2.2.2.2.2.1.length≤1048576∧m.2.2.2.2.2.2.2.2.2.2.2.1.length≤1048576
 ins: ∀i,i<m.2.2.1.length→(m.2.2.1[i]!).1.length≤1048576
 st: ∀i,i<m.2.2.2.2.1.length→(m.2.2.2.2.1[i]!).2.1.length≤1048576∧(m.2.2.2.2.1[i]!).2.2.1.length≤1048576∧(m.2.2.2.2.1[i]!).2.2.2.1.length≤1048576
 ac: ∀i,i<m.2.2.2.2.2.1.length→(m.2.2.2.2.2.1[i]!).2.1.length≤1048576∧(m.2.2.2.2.2.1[i]!).2.2.length≤1048576
 tb: ∀i,i<m.2.2.2.2.2.2.1.length→(m.2.2.2.2.2.2.1[i]!).2.2.1.length≤1048576∧(m.2.2.2.2.2.2.1[i]!).2.2.2.1.length≤1048576∧(m.2.2.2.2.2.2.1[i]!).2.2.2.2.2.1.length≤1048576
 ni: ∀i,i<m.2.2.2.2.2.2.2.1.length→(m.2.2.2.2.2.2.2.1[i]!).2.2.1.length≤1048576∧(m.2.2.2.2.2.2.2.1[i]!).2.2.2.1.length≤1048576
 ne: ∀i,i<m.2.2.2.2.2.2.2.2.1.length→(m.2.2.2.2.2.2.2.2.1[i]!).2.2.1.length≤1048576∧(m.2.2.2.2.2.2.2.2.1[i]!).2.2.2.1.length≤1048576
structure Siz(m:Ao):Prop where
 h2:m.2.2.1.length≤8796093022208
 h8:m.2.2.2.2.2.2.2.1.length≤8796093022208
 h9:m.2.2.2.2.2.2.2.2.1.length≤8796093022208
 h10:m.2.2.2.2.2.2.2.2.2.1.length≤140737488355328
 h11:m.2.2.2.2.2.2.2.2.2.2.1.length≤8796093022208
 h12:m.2.2.2.2.2.2.2.2.2.2.2.1.length≤8796093022208
 hd: ∀i,i<m.2.1.length→(m.2.1[i]!).2.1.length≤140737488355328
 st: ∀i,i<m.2.2.2.2.1.length→(m.2.2.2.2.1[i]!).2.1.length≤140737488355328∧(m.2.2.2.2.1[i]!).2.2.1.length≤140737488355328∧(m.2.2.2.2.1[i]!).2.2.2.1.length≤140737488355328
 ac: ∀i,i<m.2.2.2.2.2.1.length→(m.2.2.2.2.2.1[i]!).2.1.length≤140737488355328∧(m.2.2.2.2.2.1[i]!).2.2.length≤140737488355328
 tb: ∀i,i<m.2.2.2.2.2.2.1.length→(m.2.2.2.2.2.2.1[i]!).2.2.1.length≤140737488355328∧(m.2.2.2.2.2.2.1[i]!).2.2.2.1.length≤140737488355328∧(m.2.2.2.2.2.2.1[i]!).2.2.2.2.2.1.length≤140737488355328
 ni: ∀i,i<m.2.2.2.2.2.2.2.1.length→(m.2.2.2.2.2.2.2.1[i]!).2.2.1.length≤140737488355328∧(m.2.2.2.2.2.2.2.1[i]!).2.2.2.1.length≤140737488355328
 ne: ∀i,i<m.2.2.2.2.2.2.2.2.1.length→(m.2.2.2.2.2.2.2.2.1[i]!).2.2.1.length≤140737488355328∧(m.2.2.2.2.2.2.2.2.1[i]!).2.2.2.1.length≤140737488355328
structure Few(m:Ao):Prop where
 h1:m.2.1.length≤1048576
 h4:m.2.2.2.2.1.length≤1048576
 h5:m.2.2.2.2.2.1.length≤1048576
 h6:m.2.2.2.2.2.2.1.length≤1048576
end Go.Proofs.YtoolcgbcfgnipaaGreatDoor
namespace Go.Proofs.YtoolcgbcfgnipaaGreatDoor
open Go Go.RowKit Go.Eng
theorem EQ(N:Nat)(n a b:Int):Az N n a b=some (decide (a≤n∧n≤b)):=by
 unfold Az
 by_cases h:a≤n
 ·rw [if_pos h];congr 1;exact decide_eq_decide.2 ⟨fun h2=>⟨h,h2⟩,fun h2=>h2.2⟩
 ·rw [if_neg h];congr 1;exact(ze (fun h2=>h h2.1)).symm
theorem ig(N:Nat)(n a b:Int):FB N n a b=some (decide (a≤n∧n≤b)):=EQ N n a b
theorem fU(N:Nat)(n a b:Int):FA N n a b=some (decide (a≤n∧n≤b)):=EQ N n a b
theorem DA(N:Nat)(b:Bool)(e:Int):Aq N b e=some (if b=true then 0 else e):=by
 unfold Aq;split<;>rfl
def Ans(x:Option Int)(P:Prop):Prop:= ∃r,x=some r∧(r=0→P)
theorem Ans.imp{x:Option Int}{P Q:Prop}(h:Ans x P)(f:P→Q):Ans x Q:=by obtain⟨r,e,p⟩:=h;exact⟨r,e,fun q=>f (p q)⟩
theorem Ans.pure{x:Option Int}{P:Prop}(h:Ans x P):Ans (x.bind fun r=>some r) P:=by obtain⟨r,e,p⟩:=h;exact⟨r,by rw [e];rfl,p⟩
theorem Ans.un(N:Nat)(b:Bool)(e:Int)(he:e≠0):Ans (Aq N b e) (b=true):=by
 refine⟨_,DA N b e,fun q=> ?_⟩
 cases b with
 |true=>rfl
 |false=>rw [if_neg (by decide)] at q;exact absurd q he
theorem gI(N:Nat)(s:List Int)(hs:s.length≤1048576): ∀(k f i:Nat),i+k=s.length→k<f→
  ∃r,ZQ N s f (i:Int)=some r∧((r= -1∧ ∀j,i≤j→j<s.length→s[j]! =0)∨(0≤r∧r<(s.length:Int)∧s[r.toNat]!≠0)):=by
 intro k
 induction k with
 |zero=>
  intro f i hi hf
  obtain⟨f,rfl⟩: ∃n,f=n+1:=⟨f - 1,by omega⟩
  rw [ZQ,if_neg (by omega)]
  exact⟨_,rfl, .inl ⟨rfl,fun j h1 h2=>by omega⟩⟩
 |succ k ih=>
  intro f i hi hf
  obtain⟨f,rfl⟩: ∃n,f=n+1:=⟨f - 1,by omega⟩
  have e1:(i:Int)+1=((i+1:Nat):Int):=by omega
  rw [ZQ,if_pos (by omega),ckp (by omega),q3,NK,q0]
  by_cases h:s[i]! =0
  ·rw [if_neg (by rw [h];decide),ckp (by omega),e1]
   obtain⟨r,h1,h2⟩:=ih f (i+1) (by omega) (by omega)
   refine⟨r,h1,h2.elim (fun h3=> .inl ⟨h3.1,fun j h4 h5=> ?_⟩) .inr⟩
   rcases Nat.lt_or_ge i j with h6|h6
   ·exact h3.2 j h6 h5
   ·obtain rfl:j=i:=by omega
    exact h
  ·rw [if_pos (by simpa using h)]
   exact⟨_,rfl, .inr ⟨by omega,by omega,by rw [q3];exact h⟩⟩
theorem TT{N:Nat}(hN:20000000<N)(l:List Int)(hl:l.length≤1048576):Ans (AE N l) (∀j,j<l.length→l[j]! =0):=by
 obtain⟨r,h1,h2⟩:=gI N l hl l.length N 0 (by omega) (by omega)
 unfold Ans AE sFm
 rw [show(0:Int)=((0:Nat):Int)from rfl,h1,q0]
 rcases h2 with⟨h3,h4⟩|⟨h3,h4,h5⟩
 ·rw [if_pos (by omega)];exact⟨_,rfl,fun _ j hj=>h4 j (Nat.zero_le _) hj⟩
 ·rw [if_neg (by omega),ckp (by omega)];exact⟨_,rfl,fun e=>absurd e h5⟩
theorem KL{N:Nat}(hN:20000000<N)(a b:Int):Ans (AE N [a,b]) (a=0∧b=0):=(TT hN [a,b] (by simp)).imp fun h=>⟨h 0 (by simp),h 1 (by simp)⟩
theorem kt{N:Nat}(hN:20000000<N)(a b c:Int):Ans (AE N [a,b,c]) (a=0∧b=0∧c=0):=(TT hN [a,b,c] (by simp)).imp fun h=>⟨h 0 (by simp),h 1 (by simp),h 2 (by simp)⟩
theorem Ze{N:Nat}(hN:20000000<N)(a b c d:Int):Ans (AE N [a,b,c,d]) (a=0∧b=0∧c=0∧d=0):=(TT hN [a,b,c,d] (by simp)).imp fun h=>⟨h 0 (by simp),h 1 (by simp),h 2 (by simp),h 3 (by simp)⟩
theorem tT{α:Type}[Inhabited α](l:List α)(ask:Int→α→Option Int)(P:Nat→Prop)(loop:Nat→Int→Option (Int×Int))(hl:l.length≤1048576)
  (h0: ∀(f:Nat) (i:Int),loop (f+1) i=if i<(l.length:Int)then ck (0≤i∧i<(l.length:Int)) ((ask i (l[i.toNat]!)).bind fun r=>if(r:Int)≠0 then some (i,r)else ck (-9223372036854775808≤(i+1)∧(i+1)≤9223372036854775807) (loop f (i+1)))else some (0,0))
  (ht: ∀i:Nat,i<l.length→Ans (ask (i:Int) (l[i]!)) (P i)): ∀(k f i:Nat),i+k=l.length→k<f→ ∃r,loop f (i:Int)=some r∧(r.2=0→ ∀j,i≤j→j<l.length→P j):=by
 intro k
 induction k with
 |zero=>
  intro f i hi hf
  obtain⟨f,rfl⟩: ∃n,f=n+1:=⟨f - 1,by omega⟩
  rw [h0,if_neg (by omega)]
  exact⟨_,rfl,fun _ j h1 h2=>by omega⟩
 |succ k ih=>
  intro f i hi hf
  obtain⟨f,rfl⟩: ∃n,f=n+1:=⟨f - 1,by omega⟩
  have e1:(i:Int)+1=((i+1:Nat):Int):=by omega
  obtain⟨r,hr,hp⟩:=ht i (by omega)
  rw [h0,if_pos (by omega),ckp (by omega),q3,hr,q0]
  by_cases h:r=0
  ·rw [if_neg (fun h2=>h2 h),ckp (by omega),e1]
   obtain⟨q,h1,h2⟩:=ih f (i+1) (by omega) (by omega)
   refine⟨q,h1,fun h3 j h4 h5=> ?_⟩
   rcases Nat.lt_or_ge i j with h6|h6
   ·exact h2 h3 j h6 h5
   ·obtain rfl:j=i:=by omega
    exact hp h
  ·rw [if_pos h];exact⟨_,rfl,fun h2=>absurd h2 h⟩
def Ans2(x:Option (Int×Int))(P:Prop):Prop:= ∃r,x=some r∧(r.2=0→P)
theorem Ans2.imp{x:Option (Int×Int)}{P Q:Prop}(h:Ans2 x P)(f:P→Q):Ans2 x Q:=by obtain⟨r,e,p⟩:=h;exact⟨r,e,fun q=>f (p q)⟩
theorem Ans2.pure{x:Option (Int×Int)}{P:Prop}(h:Ans2 x P):Ans2 (x.bind fun r=>some (r.1,r.2)) P:=by obtain⟨r,e,p⟩:=h;exact⟨r,by rw [e];rfl,p⟩
theorem Ans2.snd{x:Option (Int×Int)}{P:Prop}(h:Ans2 x P):Ans (x.bind fun r=>some r.2) P:=by obtain⟨r,e,p⟩:=h;exact⟨r.2,by rw [e];rfl,p⟩
theorem IB{α:Type}[Inhabited α]{N:Nat}(hN:20000000<N)(l:List α)(ask:Int→α→Option Int)(P:Nat→Prop)(loop:Nat→Int→Option (Int×Int))(most:Int)(hm:most≤1048576)
  (h0: ∀(f:Nat) (i:Int),loop (f+1) i=if i<(l.length:Int)then ck (0≤i∧i<(l.length:Int)) ((ask i (l[i.toNat]!)).bind fun r=>if(r:Int)≠0 then some (i,r)else ck (-9223372036854775808≤(i+1)∧(i+1)≤9223372036854775807) (loop f (i+1)))else some (0,0))
  (ht:(l.length:Int)≤most→ ∀i:Nat,i<l.length→Ans (ask (i:Int) (l[i]!)) (P i)):
  Ans2 (if(((l).length:Int):Int)>most then some (0,2)else loop N 0) ((l.length:Int)≤most∧ ∀i,i<l.length→P i):=by
 by_cases c:(l.length:Int)>most
 ·exact⟨(0,2),if_pos c,fun e=>absurd e (by decide)⟩
 ·obtain⟨r,h1,h2⟩:=tT l ask P loop (by omega) h0 (ht (by omega)) l.length N 0 (by omega) (by omega)
  exact⟨r,(if_neg c).trans h1,fun e=>⟨by omega,fun i hi=>h2 e i (Nat.zero_le _) hi⟩⟩
theorem tM{α:Type}[Inhabited α]{N:Nat}(l:List α)(g:α→List UInt8)(loop:Nat→List (List UInt8)→Int→Option (List (List UInt8)))(hl:l.length≤1048576)
  (h0: ∀(f:Nat) (s:List (List UInt8)) (i:Int),loop (f+1) s i=if i<(l.length:Int)then ck (0≤i∧i<(l.length:Int)) ((some (g (l[i.toNat]!))).bind fun r=>ck (0≤i∧i<(s.length:Int)) (ck (-9223372036854775808≤(i+1)∧(i+1)≤9223372036854775807) (loop f (s.set (i.toNat) r) (i+1))))else some s):
  ∀(k f i:Nat),i+k=l.length→k<f→loop f ((l.take i).map g++List.replicate (l.length - i) []) (i:Int)=some (l.map g):=by
 intro k
 induction k with
 |zero=>
  intro f i hi hf
  obtain⟨f,rfl⟩: ∃n,f=n+1:=⟨f - 1,by omega⟩
  rw [h0,if_neg (by omega),j6 (by omega),show l.length - i=0 from by omega];simp
 |succ k ih=>
  intro f i hi hf
  obtain⟨f,rfl⟩: ∃n,f=n+1:=⟨f - 1,by omega⟩
  have e1:(i:Int)+1=((i+1:Nat):Int):=by omega
  have e2:=Vp g l i (by omega)
  rw [h0,if_pos (by omega),ckp (by omega),q0,ckp (by rw [e2];omega),ckp (by omega),q3,PQ g l i (by omega),e1]
  exact ih f (i+1) (by omega) (by omega)
theorem Qi{α:Type}[Inhabited α]{N:Nat}(hN:20000000<N)(l:List α)(g:α→List UInt8)(loop:Nat→List (List UInt8)→Int→Option (List (List UInt8)))(hl:l.length≤1048576)
  (h0: ∀(f:Nat) (s:List (List UInt8)) (i:Int),loop (f+1) s i=if i<(l.length:Int)then ck (0≤i∧i<(l.length:Int)) ((some (g (l[i.toNat]!))).bind fun r=>ck (0≤i∧i<(s.length:Int)) (ck (-9223372036854775808≤(i+1)∧(i+1)≤9223372036854775807) (loop f (s.set (i.toNat) r) (i+1))))else some s):
  ck (0≤((l).length:Int)∧((l).length:Int)≤8796093022208) (loop N ((List.replicate (((l).length:Int)).toNat ([]))) 0)=some (l.map g):=by
 rw [ckp (by omega),q3]
 have:=tM (N:=N) l g loop hl h0 l.length N 0 (by omega) (by omega)
 rwa [List.take_zero,List.map_nil,j7,Nat.sub_zero] at this
theorem Uz{N:Nat}(hN:20000000<N)(l:List (List UInt8))(h:brf l)(i:Nat)(hi:i<l.length):Ans (AU N l (i:Int)) True:=by
 unfold AU
 rw [ckp (by omega),ckp (by omega),q3,j0,fl N _ _ (by omega) (by rw [q7];have:=h.2;omega) (by have:=h.1 i hi;omega) (fun j hj=>by
  rw [q7] at hj
  have:=h.1 j (by omega)
  rw [zg _ j (by rw [q7];omega),j4]
  rw [zg l j (by omega)] at this;omega),q0]
 exact((Ans.un N _ 6 (by decide)).imp fun _=>trivial).pure
theorem ke{N:Nat}(hN:20000000<N)(s:List UInt8)(hs:s.length≤1048576):EB N s=some (JD s):=TL N (by omega) s hs
theorem jE{N:Nat}(hN:20000000<N)(l:List (List UInt8))(h:brf l)(i:Nat)(hi:i<l.length){A:Option Int}{P:Prop}(hA:Ans A P):
  Ans (ck (0≤(i:Int)∧(i:Int)<((l).length:Int)) ((EB N ((l)[((i:Int)).toNat]!)).bind fun r5=>(Aq N r5 4).bind fun r7=>(AU N l (i:Int)).bind fun r9=>A.bind fun r11=>(AE N ([r7,r9,r11])).bind fun r16=>some r16)) P:=by
 obtain⟨b,hb,_⟩:=Uz hN l h i hi
 obtain⟨a,ha,hp⟩:=hA
 rw [ckp (by omega),q3,ke hN _ (by have:=h.1 i hi;omega),q0,DA,q0,hb,q0,ha,q0]
 exact((kt (by omega) _ b a).imp fun q=>hp q.2.2).pure
end Go.Proofs.YtoolcgbcfgnipaaGreatDoor
