import Derived.Test.YtjnanfkpdhmnpaaGreatDoorWo
set_option linter.unusedSimpArgs false
set_option linter.unusedVariables false
namespace Go.Proofs.YtjnanfkpdhmnpaaGreatDoor
open Go Go.RowKit Go.Eng
def fM(m:Ao):Ao:=(m.1,m.2.1,m.2.2.1,m.2.2.2.1,[([115],[],[],[],-1)],[],[],[],[],[],[],[],m.2.2.2.2.2.2.2.2.2.2.2.2.1,m.2.2.2.2.2.2.2.2.2.2.2.2.2.1,m.2.2.2.2.2.2.2.2.2.2.2.2.2.2.1,1,1,0)
theorem jq:brf []:=⟨λi hi=>absurd hi (Nat.not_lt_zero i),Nat.zero_le _⟩
theorem wP{m:Ao}(h:Lit m):Lit (fM m):=by
 refine⟨h.nm,λp hp=> ?_,h.hd,⟨h.il.1,Nat.zero_le _,Nat.zero_le _,Nat.zero_le _,Nat.zero_le _,Nat.zero_le _⟩,h.ins,λi hi=> ?_,λi hi=>absurd hi (Nat.not_lt_zero i),λi hi=>absurd hi (Nat.not_lt_zero i),λi hi=>absurd hi (Nat.not_lt_zero i),λi hi=>absurd hi (Nat.not_lt_zero i)⟩
 ·have t:=h.ti p hp
  unfold BJ at t ⊢
  by_cases c4:(p:Int)=4
  ·rw [V9 (by omega),V9 (by omega),V8 c4]
   exact⟨λi hi=>by
    have:i=0:=by simpa [fM] using hi
    subst this;show([115]:W2).length<=1048576;decide,by show(1:Nat)<=1048576;decide⟩
  by_cases c5:(p:Int)=5
  ·rw [V9 (by omega),V9 (by omega),V9 (by omega),V8 c5];exact jq
  by_cases c6:(p:Int)=6
  ·rw [V9 (by omega),V9 (by omega),V9 (by omega),V9 (by omega),V8 c6];exact jq
  rw [V9 c4,V9 c5,V9 c6] at t ⊢
  exact t
 ·have:i=0:=by have:i<1:=hi;omega
  subst this
  exact⟨Nat.zero_le _,Nat.zero_le _,Nat.zero_le _⟩
theorem yr{m:Ao}:Rg (fM m):=by
 refine⟨λs hs=> ?_,λs hs=>absurd hs (by simp [fM]),λs hs=>absurd hs (by simp [fM]),λi hi=>absurd hi (Nat.not_lt_zero i),λi hi=>absurd hi (Nat.not_lt_zero i),λi hi=>absurd hi (Nat.not_lt_zero i),λi hi=>absurd hi (Nat.not_lt_zero i),λi hi=>absurd hi (Nat.not_lt_zero i)⟩
 obtain rfl:s=([115],[],[],[],-1):=List.mem_singleton.1 hs
 exact⟨λi hi=>absurd hi (Nat.not_lt_zero i),λi hi=>absurd hi (Nat.not_lt_zero i)⟩
abbrev JU:=Y3×W4×Int
def mkW(m f:Ao)(b:Int)(a:Y0 Nod)(c:Y0 JU):LC:=(m.1,m.2.1,m.2.2.1,m.2.2.2.1,m.2.2.2.2.1,m.2.2.2.2.2.1,m.2.2.2.2.2.2.1,m.2.2.2.2.2.2.2.1,m.2.2.2.2.2.2.2.2.1,m.2.2.2.2.2.2.2.2.2.1,m.2.2.2.2.2.2.2.2.2.2.1,m.2.2.2.2.2.2.2.2.2.2.2.1,m.2.2.2.2.2.2.2.2.2.2.2.2.1,m.2.2.2.2.2.2.2.2.2.2.2.2.2.1,m.2.2.2.2.2.2.2.2.2.2.2.2.2.2.1,m.2.2.2.2.2.2.2.2.2.2.2.2.2.2.2.1,m.2.2.2.2.2.2.2.2.2.2.2.2.2.2.2.2.1,m.2.2.2.2.2.2.2.2.2.2.2.2.2.2.2.2.2,f.1,f.2.1,f.2.2.1,f.2.2.2.1,f.2.2.2.2.1,f.2.2.2.2.2.1,f.2.2.2.2.2.2.1,f.2.2.2.2.2.2.2.1,f.2.2.2.2.2.2.2.2.1,f.2.2.2.2.2.2.2.2.2.1,f.2.2.2.2.2.2.2.2.2.2.1,f.2.2.2.2.2.2.2.2.2.2.2.1,f.2.2.2.2.2.2.2.2.2.2.2.2.1,f.2.2.2.2.2.2.2.2.2.2.2.2.2.1,f.2.2.2.2.2.2.2.2.2.2.2.2.2.2.1,f.2.2.2.2.2.2.2.2.2.2.2.2.2.2.2.1,f.2.2.2.2.2.2.2.2.2.2.2.2.2.2.2.2.1,f.2.2.2.2.2.2.2.2.2.2.2.2.2.2.2.2.2,b,a,c)
section
variable {N:Nat} {m f:Ao} {part:Int} {nodes:Y0 Nod} {pl pl':Y0 JU}
def PrD(x y:Y1 (W4×Aa0)):Prop:= ∃r r',x=some r/\y=some r'/\(r.2= .nil->r'.2= .nil/\Sub r.1 r'.1)
def PrA(x y:Y1 (W4×W4×Aa0)):Prop:= ∃r r',x=some r/\y=some r'/\(r.2.2= .nil->r'.2.2= .nil/\Sub r.1 r'.1/\Sub r.2.1 r'.2.1)
theorem iX(p n:Int)(l:Y0 I9)(s:W4):Bu N (mkW m f part nodes pl) p n l s=(HF N f l s).bind λr4=>if(r4.2.2:Int)≠0 then some (0#64,Aa0.t56 p n r4.2.1 11)else some (r4.1,Aa0.nil):=by
 rw [Bu];rfl
theorem nD(hN:20000000<N)(hL:Lit f)(hR:Rg f)(p n:Int)(l:Y0 I9)(hl:l.length<=1048576)(hr:CoR l){s s':W4}(hs:Sub s s'):PrD (Bu N (mkW m f part nodes pl) p n l s) (Bu N (mkW m f part nodes pl') p n l s'):=by
 obtain⟨r,r',e1,e2,h⟩:=cop hN hL hR l hl hr hs
 rw [iX,iX,e1,e2,q0,q0]
 by_cases c:r.2.2=0
 ·obtain⟨c',hh⟩:=h c
  rw [V9 (λq=>q c),V9 (λq=>q c')]
  exact⟨_,_,Z,Z,λ_=>⟨Z,hh⟩⟩
 ·rw [V8 c]
  by_cases c':r'.2.2=0
  ·rw [V9 (λq=>q c')];exact⟨_,_,Z,Z,λq=>by cases q⟩
  ·rw [V8 c'];exact⟨_,_,Z,Z,λq=>by cases q⟩
theorem xW(r:W4×Aa0):Aa0.on r.2 (some (r.1,Aa0.nil)) (λa b c d=>some (r.1,Aa0.t56 a b c d)) (λa b c=>some (r.1,Aa0.t78 a b c))=some r:=by
 obtain⟨s,e⟩:=r;cases e<;>rfl
theorem mc(r:W4×Aa0):Aa0.on r.2 (some (r.1,r.1,Aa0.nil)) (λa b c d=>some (r.1,r.1,Aa0.t56 a b c d)) (λa b c=>some (r.1,r.1,Aa0.t78 a b c))=some (r.1,r.1,r.2):=by
 obtain⟨s,e⟩:=r;cases e<;>rfl
theorem mf(r:W4×W4×Aa0):Aa0.on r.2.2 (some (r.1,r.2.1,Aa0.nil)) (λa b c d=>some (r.1,r.2.1,Aa0.t56 a b c d)) (λa b c=>some (r.1,r.2.1,Aa0.t78 a b c))=some r:=by
 obtain⟨s,t,e⟩:=r;cases e<;>rfl
theorem eU(a:Int)(s:W4)(ha:0<=a/\a<(m.2.2.2.2.2.1.length:Int)):Cb N (mkW m f part nodes pl) a s=Bu N (mkW m f part nodes pl) 5 a (m.2.2.2.2.2.1[a.toNat]!).2.2 s:=by
 rw [Cb]
 show ck (0<=a/\a<(m.2.2.2.2.2.1.length:Int)) ((Bu N (mkW m f part nodes pl) 5 a (m.2.2.2.2.2.1[a.toNat]!).2.2 s).bind _)=_
 rw [Af _ ha]
 cases e:Bu N (mkW m f part nodes pl) 5 a (m.2.2.2.2.2.1[a.toNat]!).2.2 s with
 |none=>rfl
 |some r=>exact xW r
theorem jr(hN:20000000<N)(hL:Lit f)(hR:Rg f)(hLm:Lit m)(hRm:Rg m)(a:Int)(ha:0<=a/\a<(m.2.2.2.2.2.1.length:Int)){s s':W4}(hs:Sub s s'):PrD (Cb N (mkW m f part nodes pl) a s) (Cb N (mkW m f part nodes pl') a s'):=by
 rw [eU a s ha,eU a s' ha]
 have hk:a.toNat<m.2.2.2.2.2.1.length:=by omega
 exact nD hN hL hR 5 a _ (hLm.ac _ hk).2 (hRm.ac _ (Fm hk)) hs
theorem xh(hN:20000000<N)(hL:Lit f)(hR:Rg f)(hLm:Lit m)(hRm:Rg m)(l:Y0 Int)(d:Int)(hl: ∀i,i<l.length->0<=l[i]!/\l[i]!<(m.2.2.2.2.2.1.length:Int))(hl2:l.length<=1048576): ∀(k g i:Nat) (s s' y n y' n':W4),i+k=l.length->k<g->Sub s s'->Sub y y'->Sub n n'->
  PrA (AA N (mkW m f part nodes pl) l d s g y n (i:Int)) (AA N (mkW m f part nodes pl') l d s' g y' n' (i:Int)):=by
 intro k
 induction k with
 |zero=>
  intro g i s s' y n y' n' hi hg hs hy hn
  obtain⟨g,rfl⟩: ∃k,g=k+1:=⟨g - 1,by omega⟩
  rw [AA,AA,V9 (by omega),V9 (by omega)]
  exact⟨_,_,Z,Z,λ_=>⟨Z,hy,hn⟩⟩
 |succ k ih=>
  intro g i s s' y n y' n' hi hg hs hy hn
  obtain⟨g,rfl⟩: ∃k,g=k+1:=⟨g - 1,by omega⟩
  have hi':i<l.length:=by omega
  have hck:R64 ((i:Int)+1):=⟨by omega,by omega⟩
  have hat:0<=(i:Int)/\(i:Int)<(l.length:Int):=by omega
  rw [AA,AA,V8 hat.2,V8 hat.2,Af _ hat,Af _ hat,q4]
  obtain⟨r,r',e1,e2,h⟩:=jr (N:=N) (part:=part) (nodes:=nodes) (pl:=pl) (pl':=pl') hN hL hR hLm hRm (l[i]!) (hl i hi') hs
  rw [e1,e2,q0,q0]
  obtain⟨a,e⟩:=r
  obtain⟨a',e'⟩:=r'
  have step: ∀(q:W4) (pl0:Y0 JU) (u b c:W4),(Aa0.on Aa0.nil ((Cr N b q).bind λr55=>if(l[i]!:Int)=d then ck (R64 ((i:Int)+1)) ((AA N (mkW m f part nodes pl0) l d u g) r55 q ((i:Int)+1))else ck (R64 ((i:Int)+1)) ((AA N (mkW m f part nodes pl0) l d u g) r55 c ((i:Int)+1))) (λx45_0 x46_1 x47_2 x48_3=>some (0#64,0#64,(Aa0.t56 x45_0 x46_1 x47_2 x48_3))) (λx49_0 x50_1 x51_2=>some (0#64,0#64,(Aa0.t78 x49_0 x50_1 x51_2))))=AA N (mkW m f part nodes pl0) l d u g (b&&&q) (if(l[i]!:Int)=d then q else c) ((i+1:Nat):Int):=λq pl0 u b c=>by
   rw [Aa0.at_nil,Cr,q0,show((i+1:Nat):Int)=(i:Int)+1 by omega]
   by_cases cd:(l[i]!:Int)=d
   ·rw [V8 cd,V8 cd,Af _ hck]
   ·rw [V9 cd,V9 cd,Af _ hck]
  cases e with
  |nil=>
   obtain⟨h1,h2⟩:=h Z
   have h1:e'= .nil:=h1
   have h2:Sub a a':=h2
   subst h1
   rw [step,step]
   refine ih g (i+1) s s' _ _ _ _ (by omega) (by omega) hs (hy.and h2) ?_
   split
   ·exact h2
   ·exact hn
  |t56 _ _ _ _=>
   have tot: ∃z,Aa0.on e' ((Cr N y' a').bind λr55=>if(l[i]!:Int)=d then ck (R64 ((i:Int)+1)) ((AA N (mkW m f part nodes pl') l d s' g) r55 a' ((i:Int)+1))else ck (R64 ((i:Int)+1)) ((AA N (mkW m f part nodes pl') l d s' g) r55 n' ((i:Int)+1))) (λx45_0 x46_1 x47_2 x48_3=>some (0#64,0#64,(Aa0.t56 x45_0 x46_1 x47_2 x48_3))) (λx49_0 x50_1 x51_2=>some (0#64,0#64,(Aa0.t78 x49_0 x50_1 x51_2)))=some z:=by
    cases e' with
    |nil=>
     rw [step]
     obtain⟨_,z,_,e3,_⟩:=ih g (i+1) s' s' _ _ (y'&&&a') (if(l[i]!:Int)=d then a' else n') (by omega) (by omega) (Sub.same _) (Sub.same _) (Sub.same _)
     exact⟨z,e3⟩
    |_=>exact⟨_,Z⟩
   obtain⟨z,ez⟩:=tot
   exact⟨_,z,Z,ez,λq=>by cases q⟩
  |t78 _ _ _=>
   have tot: ∃z,Aa0.on e' ((Cr N y' a').bind λr55=>if(l[i]!:Int)=d then ck (R64 ((i:Int)+1)) ((AA N (mkW m f part nodes pl') l d s' g) r55 a' ((i:Int)+1))else ck (R64 ((i:Int)+1)) ((AA N (mkW m f part nodes pl') l d s' g) r55 n' ((i:Int)+1))) (λx45_0 x46_1 x47_2 x48_3=>some (0#64,0#64,(Aa0.t56 x45_0 x46_1 x47_2 x48_3))) (λx49_0 x50_1 x51_2=>some (0#64,0#64,(Aa0.t78 x49_0 x50_1 x51_2)))=some z:=by
    cases e' with
    |nil=>
     rw [step]
     obtain⟨_,z,_,e3,_⟩:=ih g (i+1) s' s' _ _ (y'&&&a') (if(l[i]!:Int)=d then a' else n') (by omega) (by omega) (Sub.same _) (Sub.same _) (Sub.same _)
     exact⟨z,e3⟩
    |_=>exact⟨_,Z⟩
   obtain⟨z,ez⟩:=tot
   exact⟨_,z,Z,ez,λq=>by cases q⟩
theorem wE(hN:20000000<N)(hL:Lit f)(hR:Rg f)(hLm:Lit m)(hRm:Rg m)(p:Int)(K:Y0 (Int×Int×Int))(hK:K.length<=1048576)(l:Y0 Int)(d:Int)(hl: ∀i,i<l.length->0<=l[i]!/\l[i]!<(m.2.2.2.2.2.1.length:Int))(hl2:l.length<=1048576): ∀(k g i:Nat) (s s' n:W4),i+k=K.length->k<g->Sub s s'->
  PrA (Az N (mkW m f part nodes pl) p K l d s g n (i:Int)) (Az N (mkW m f part nodes pl') p K l d s' g n (i:Int)):=by
 intro k
 induction k with
 |zero=>
  intro g i s s' n hi hg hs
  obtain⟨g,rfl⟩: ∃k,g=k+1:=⟨g - 1,by omega⟩
  rw [Az,Az,V9 (by omega),V9 (by omega)]
  exact xh hN hL hR hLm hRm l d hl hl2 l.length N 0 s s' _ n _ n (q7 _) (by omega) hs (Sub.same _) (Sub.same _)
 |succ k ih=>
  intro g i s s' n hi hg hs
  obtain⟨g,rfl⟩: ∃k,g=k+1:=⟨g - 1,by omega⟩
  have hck:R64 ((i:Int)+1):=⟨by omega,by omega⟩
  have hat:0<=(i:Int)/\(i:Int)<(K.length:Int):=by omega
  have kf: ∀(pl0:Y0 JU) (u:W4),By N (mkW m f part nodes pl0) p n (i:Int) (Az N (mkW m f part nodes pl0) p K l d u g) false=Az N (mkW m f part nodes pl0) p K l d u g n ((i+1:Nat):Int):=λpl0 u=>by
   rw [By,V9 (by decide),Af _ hck];rfl
  have kt: ∀(pl0:Y0 JU) (u:W4),∃z,By N (mkW m f part nodes pl0) p n (i:Int) (Az N (mkW m f part nodes pl0) p K l d u g) true=some z/\z.2.2≠ .nil:=λpl0 u=>⟨(0#64,0#64,Aa0.t56 part p (i:Int) 11),by rw [By,V8 Z];rfl,λq=>by cases q⟩
  have fin: ∀b b':Y3,(b'=true->b=true)->PrA (By N (mkW m f part nodes pl) p n (i:Int) (Az N (mkW m f part nodes pl) p K l d s g) b) (By N (mkW m f part nodes pl') p n (i:Int) (Az N (mkW m f part nodes pl') p K l d s' g) b'):=λb b' hb=>by
   cases b with
   |false=>
    have:b'=false:=by cases b' with|false=>rfl|true=>exact absurd (hb Z) (by decide)
    subst this
    rw [kf,kf]
    exact ih g (i+1) s s' n (by omega) (by omega) hs
   |true=>
    obtain⟨z,ez,nz⟩:=kt pl s
    cases b' with
    |false=>
     rw [kf]
     obtain⟨_,z',_,ez',_⟩:=ih g (i+1) s' s' n (by omega) (by omega) (Sub.same _)
     exact⟨z,z',ez,ez',λq=>absurd q nz⟩
    |true=>
     obtain⟨z',ez',_⟩:=kt pl' s'
     exact⟨z,z',ez,ez',λq=>absurd q nz⟩
  rw [Az,Az,V8 hat.2,V8 hat.2,Af _ hat,Af _ hat,q4]
  by_cases c:((K[i]!).1:Int)=0
  ·obtain⟨b,b',e1,e2,hb⟩:=nb N (K[i]!).2.1 hs
   rw [V8 c,V8 c,e1,e2,q0,q0]
   refine fin _ _ (λq=> ?_)
   cases b with
   |false=>rfl
   |true=>rw [hb Z] at q;cases q
  ·rw [V9 c,V9 c];exact fin _ _ id
theorem gu(hN:20000000<N)(hL:Lit f)(hR:Rg f)(hLm:Lit m)(hRm:Rg m)(hT: ∀i,i<m.2.2.2.2.2.2.1.length->ri m (m.2.2.2.2.2.2.1[i]!))(i:Nat)(hi:i<nodes.length)(hx:bK m nodes.length i (nodes[i]!))(hl:(nodes[i]!).2.2.1.length<=1048576)(hr:NdR (nodes[i]!)){s s':W4}(hs:Sub s s'):
  PrA (BY N (mkW m f part nodes pl) (i:Int) s) (BY N (mkW m f part nodes pl') (i:Int) s'):=by
 have hat:0<=(i:Int)/\(i:Int)<(nodes.length:Int):=by omega
 have two: ∀{x y:Y1 (W4×Aa0)},PrD x y->PrA (x.bind λr=>Aa0.on r.2 (some (r.1,r.1,Aa0.nil)) (λa b c d=>some (r.1,r.1,Aa0.t56 a b c d)) (λa b c=>some (r.1,r.1,Aa0.t78 a b c))) (y.bind λr=>Aa0.on r.2 (some (r.1,r.1,Aa0.nil)) (λa b c d=>some (r.1,r.1,Aa0.t56 a b c d)) (λa b c=>some (r.1,r.1,Aa0.t78 a b c))):=λ{x y} h=>by
  obtain⟨r,r',e1,e2,hh⟩:=h
  rw [e1,e2,q0,q0,mc,mc]
  exact⟨_,_,Z,Z,λq=>⟨(hh q).1,(hh q).2,(hh q).2⟩⟩
 have eq: ∀(pl0:Y0 JU) (u:W4),BY N (mkW m f part nodes pl0) (i:Int) u=if((nodes[i]!).1:Int)=0 then ck (0<=(nodes[i]!).2.1/\(nodes[i]!).2.1<(m.2.2.2.2.2.2.1.length:Int)) ((Az N (mkW m f part nodes pl0) (i:Int) (m.2.2.2.2.2.2.1[((nodes[i]!).2.1).toNat]!).2.2.1 (m.2.2.2.2.2.2.1[((nodes[i]!).2.1).toNat]!).2.2.2.1 (m.2.2.2.2.2.2.1[((nodes[i]!).2.1).toNat]!).2.2.2.2.1 u N (0#64) 0).bind λr24=>Aa0.on r24.2.2 (some (r24.1,r24.2.1,Aa0.nil)) (λa b c d=>some (r24.1,r24.2.1,(Aa0.t56 a b c d))) (λa b c=>some (r24.1,r24.2.1,(Aa0.t78 a b c))))else if((nodes[i]!).1:Int)=1 then(Bu N (mkW m f part nodes pl0) part (i:Int) (nodes[i]!).2.2.1 u).bind λr=>Aa0.on r.2 (some (r.1,r.1,Aa0.nil)) (λa b c d=>some (r.1,r.1,Aa0.t56 a b c d)) (λa b c=>some (r.1,r.1,Aa0.t78 a b c))else if((nodes[i]!).1:Int)=2 then(Cb N (mkW m f part nodes pl0) (nodes[i]!).2.1 u).bind λr=>Aa0.on r.2 (some (r.1,r.1,Aa0.nil)) (λa b c d=>some (r.1,r.1,Aa0.t56 a b c d)) (λa b c=>some (r.1,r.1,Aa0.t78 a b c))else(Cq N u (nodes[i]!).2.1).bind λr66=>(BA N u (nodes[i]!).2.1).bind λr68=>some (r66,r68,Aa0.nil):=λpl0 u=>by
  rw [BY]
  show ck (0<=(i:Int)/\(i:Int)<(nodes.length:Int)) _=_
  rw [Af _ hat];rfl
 rw [eq,eq]
 by_cases c0:((nodes[i]!).1:Int)=0
 ·have ha:=hx.2.1 c0
  have hk:((nodes[i]!).2.1).toNat<m.2.2.2.2.2.2.1.length:=by omega
  have ht:=hLm.tb _ hk
  rw [V8 c0,V8 c0,Af _ ha,Af _ ha]
  obtain⟨r,r',e1,e2,h⟩:=wE (N:=N) (part:=part) (nodes:=nodes) (pl:=pl) (pl':=pl') hN hL hR hLm hRm (i:Int) (m.2.2.2.2.2.2.1[((nodes[i]!).2.1).toNat]!).2.2.1 ht.1 _ (m.2.2.2.2.2.2.1[((nodes[i]!).2.1).toNat]!).2.2.2.2.1 (hT _ hk) ht.2.1 _ N 0 s s' (0#64) (q7 _) (by omega) hs
  have e1:Az N (mkW m f part nodes pl) (i:Int) (m.2.2.2.2.2.2.1[((nodes[i]!).2.1).toNat]!).2.2.1 (m.2.2.2.2.2.2.1[((nodes[i]!).2.1).toNat]!).2.2.2.1 (m.2.2.2.2.2.2.1[((nodes[i]!).2.1).toNat]!).2.2.2.2.1 s N (0#64) 0=some r:=e1
  have e2:Az N (mkW m f part nodes pl') (i:Int) (m.2.2.2.2.2.2.1[((nodes[i]!).2.1).toNat]!).2.2.1 (m.2.2.2.2.2.2.1[((nodes[i]!).2.1).toNat]!).2.2.2.1 (m.2.2.2.2.2.2.1[((nodes[i]!).2.1).toNat]!).2.2.2.2.1 s' N (0#64) 0=some r':=e2
  rw [e1,e2,q0,q0,mf,mf]
  exact⟨_,_,Z,Z,h⟩
 rw [V9 c0,V9 c0]
 by_cases c1:((nodes[i]!).1:Int)=1
 ·rw [V8 c1,V8 c1]
  exact two (nD hN hL hR part (i:Int) _ hl hr.2 hs)
 rw [V9 c1,V9 c1]
 by_cases c2:((nodes[i]!).1:Int)=2
 ·rw [V8 c2,V8 c2]
  exact two (jr hN hL hR hLm hRm _ (hx.2.2.1 c2) hs)
 rw [V9 c2,V9 c2]
 obtain⟨u,u',e1,e2,h1⟩:=ZJ N (nodes[i]!).2.1 hs
 obtain⟨v,v',e3,e4,h2⟩:=RG N (nodes[i]!).2.1 hs
 rw [e1,e2,e3,e4]
 exact⟨_,_,Z,Z,λ_=>⟨Z,h1,h2⟩⟩
theorem jY(hLm:Lit m)(l:Y0 Int)(hl: ∀i,i<l.length->0<=l[i]!/\l[i]!<(m.2.2.2.2.2.1.length:Int))(hl2:l.length<=1048576): ∀(k g i:Nat) (b:Int),i+k=l.length->k<g->0<=b->b<=1048576-> ∃r,Ec m l g b (i:Int)=some r/\0<=r/\r<=1048576:=by
 intro k
 induction k with
 |zero=>
  intro g i b hi hg h0 h1
  obtain⟨g,rfl⟩: ∃k,g=k+1:=⟨g - 1,by omega⟩
  rw [Ec,V9 (by omega)];exact⟨_,Z,h0,h1⟩
 |succ k ih=>
  intro g i b hi hg h0 h1
  obtain⟨g,rfl⟩: ∃k,g=k+1:=⟨g - 1,by omega⟩
  have ha:=hl i (by omega)
  have hk:(l[i]!).toNat<m.2.2.2.2.2.1.length:=by omega
  have hc:=(hLm.ac _ hk).2
  rw [Ec,V8 (by omega),Af _ (by omega),q4,Af _ ha,Af _ (show R64 ((i:Int)+1)from⟨by omega,by omega⟩),show((i:Int)+1)=((i+1:Nat):Int)by omega]
  exact ih g (i+1) _ (by omega) (by omega) (by omega) (by omega)
theorem sT(l:Y0 Tab)(i:Int):EO N l i=some (decide (0<=i/\i<(l.length:Int))):=by
 rw [EO]
 by_cases c:(0:Int)<=i
 ·rw [V8 c];exact congrArg some (decide_eq_decide.2 (by omega))
 ·rw [V9 c,zk (by omega)]
theorem sU(l:Y0 Act)(i:Int):Eh N l i=some (decide (0<=i/\i<(l.length:Int))):=by
 rw [Eh]
 by_cases c:(0:Int)<=i
 ·rw [V8 c];exact congrArg some (decide_eq_decide.2 (by omega))
 ·rw [V9 c,zk (by omega)]
theorem wX(hG:rk N m)(x:Nod)(hx:Top x.2.1)(hl:x.2.2.1.length<=1048576): ∃r,HN N m x.1 x.2.1 x.2.2.1 x.2.2.2.1 x.2.2.2.2.1 x.2.2.2.2.2=some r/\0<=r/\r<=2000000:=by
 have hN:=hG.cx.hN
 have hLm:=hG.cx.hL
 rw [HN]
 by_cases c0:x.1=0
 ·rw [V8 c0,sT,q0]
  by_cases c:0<=x.2.1/\x.2.1<(m.2.2.2.2.2.2.1.length:Int)
  ·have hk:x.2.1.toNat<m.2.2.2.2.2.2.1.length:=by omega
   obtain⟨r,e,h0,h1⟩:=jY (m:=m) hLm (m.2.2.2.2.2.2.1[x.2.1.toNat]!).2.2.2.1 (hG.tb _ hk) (hLm.tb _ hk).2.1 _ N 0 0 (q7 _) (by have:=(hLm.tb _ hk).2.1;omega) (by omega) (by omega)
   have e:Ij N m (m.2.2.2.2.2.2.1[x.2.1.toNat]!).2.2.2.1=some r:=e
   rw [zl c,V8 Z,Af _ c,e,q0,Af _ (show R64 (2+r)from⟨by omega,by omega⟩)]
   exact⟨_,Z,by omega,by omega⟩
  ·rw [zk c,V9 (by decide)];exact⟨_,Z,by omega,by omega⟩
 rw [V9 c0]
 by_cases c1:x.1=1
 ·rw [V8 c1,Af _ (show R64 (1+(x.2.2.1.length:Int))from⟨by omega,by omega⟩)]
  exact⟨_,Z,by omega,by omega⟩
 rw [V9 c1]
 by_cases c2:x.1=2
 ·rw [V8 c2,sU,q0]
  by_cases c:0<=x.2.1/\x.2.1<(m.2.2.2.2.2.1.length:Int)
  ·have hk:x.2.1.toNat<m.2.2.2.2.2.1.length:=by omega
   have hc:=(hLm.ac _ hk).2
   rw [zl c,V8 Z,Af _ c,Af _ (show R64 (1+((m.2.2.2.2.2.1[x.2.1.toNat]!).2.2.length:Int))from⟨by omega,by omega⟩)]
   exact⟨_,Z,by omega,by omega⟩
  ·rw [zk c,V9 (by decide)];exact⟨_,Z,by omega,by omega⟩
 rw [V9 c2]
 by_cases c3:x.1=3
 ·rw [V8 c3,fv hG.cx x.2.1 hx,q0]
  split<;>exact⟨_,Z,by omega,by omega⟩
 ·rw [V9 c3];exact⟨_,Z,by omega,by omega⟩
def Nx(w:Y0 JU)(k:Nat)(s:W4)(a:Int):Y0 JU:=w.set k (true,if(w[k]!).1=true then s&&&(w[k]!).2.1 else s,max a (w[k]!).2.2)
theorem mz(p:JU)(s:W4)(st:Int):GJ N p.1 p.2.1 p.2.2 s st=some (true,if p.1=true then s&&&p.2.1 else s,max st p.2.2):=by
 rw [GJ]
 by_cases c:p.1=true
 ·rw [V8 c,V8 c,Cr,q0,Hm]
 ·rw [V9 c,V9 c,Hm]
theorem NS(w:Y0 JU)(k j:Nat)(hk:k<w.length)(v:JU):(w.set k v)[j]! =if j=k then v else w[j]!:=by
 by_cases c:j=k
 ·subst c;rw [V8 Z,zm _ j (by rw [zr];exact hk)];simp
 ·rw [V9 c]
  by_cases d:j<w.length
  ·rw [zm _ j (by rw [zr];exact d),zm _ j d,List.getElem_set_ne (λe=>c e.symm)]
  ·rw [getElem!_neg _ j (by rw [zr];exact d),getElem!_neg _ j d]
def Le3(w a:Y0 JU):Prop:=w.length=a.length/\ ∀j:Nat,(w[j]!).1=(a[j]!).1/\Sub (w[j]!).2.1 (a[j]!).2.1/\(w[j]!).2.2=(a[j]!).2.2
theorem Le3.same(w:Y0 JU):Le3 w w:=⟨Z,λj=>⟨Z,Sub.same _,Z⟩⟩
def Bd3(B:Int)(w:Y0 JU):Prop:= ∀j:Nat,0<=(w[j]!).2.2/\(w[j]!).2.2<=B
theorem OB(w:Y0 JU)(k:Nat)(s:W4)(st:Int):(Nx w k s st).length=w.length:=zr ..
theorem Le3.upd{w w':Y0 JU}(h:Le3 w w')(k:Nat)(hk:k<w.length){s s':W4}(hs:Sub s s')(st:Int):Le3 (Nx w k s st) (Nx w' k s' st):=by
 refine⟨by rw [OB,OB];exact h.1,λj=> ?_⟩
 unfold Nx
 rw [NS w k j hk,NS w' k j (by rw [<-h.1];exact hk)]
 obtain⟨e1,e2,e3⟩:=h.2 k
 split
 ·refine⟨Z, ?_,by rw [e3]⟩
  rw [<-e1]
  show Sub (if(w[k]!).1=true then s&&&(w[k]!).2.1 else s) (if(w[k]!).1=true then s'&&&(w'[k]!).2.1 else s')
  split
  ·exact hs.and e2
  ·exact hs
 ·exact h.2 j
theorem Bd3.upd{B:Int}{w:Y0 JU}(h:Bd3 B w)(k:Nat)(hk:k<w.length)(s:W4){st:Int}(h0:0<=st)(h1:st<=B):Bd3 B (Nx w k s st):=λj=>by
 unfold Nx
 rw [NS w k j hk]
 have:=h k
 split
 ·show 0<=max st (w[k]!).2.2/\max st (w[k]!).2.2<=B;omega
 ·exact h j
def PF(x:Nod)(w:Y0 JU)(y n:W4)(a:Int):Y0 JU:=if x.1≠2 then Nx (Nx w x.2.2.2.2.1.toNat y a) x.2.2.2.2.2.toNat n a else Nx w x.2.2.2.2.1.toNat y a
theorem jU(hG:rk N m)(i:Nat)(hi:i<nodes.length)(hn:nodes.length<=1048576)(hx:bK m nodes.length i (nodes[i]!))(hl:(nodes[i]!).2.2.1.length<=1048576)(hr:NdR (nodes[i]!)): ∃c,0<=c/\c<=2000000/\ ∀w:Y0 JU,w.length=nodes.length+1->Bd3 (4194304*(i:Int)) w->
  CH N m f part nodes w (i:Int)=if(w[i]!).1=true then(BY N (mkW m f part nodes w) (i:Int) (w[i]!).2.1).bind λr=>Aa0.on r.2.2 (some (Aa0.nil,PF (nodes[i]!) w r.1 r.2.1 ((w[i]!).2.2+c))) (λa b c d=>some (Aa0.t56 a b c d,w)) (λa b c=>some (Aa0.t78 a b c,w))else some (Aa0.nil,w):=by
 obtain⟨c,ec,h0,h1⟩:=wX hG (nodes[i]!) hr.1 hl
 refine⟨c,h0,h1,λw hw hB=> ?_⟩
 have hb:=hB i
 have hat:0<=(i:Int)/\(i:Int)<(w.length:Int):=by omega
 have hat2:0<=(i:Int)/\(i:Int)<(nodes.length:Int):=by omega
 rw [CH,Af _ hat,Af _ hat2,q4]
 by_cases d:(w[i]!).1=true
 ·rw [V8 d,V8 d]
  show(BY N (mkW m f part nodes w) (i:Int) (w[i]!).2.1).bind _=_
  congr 1
  funext r
  obtain⟨y,n,e⟩:=r
  have hy:0<=(nodes[i]!).2.2.2.2.1/\(nodes[i]!).2.2.2.2.1<(w.length:Int):=by have:=hx.1;omega
  cases e with
  |nil=>
   show(HN N m (nodes[i]!).1 (nodes[i]!).2.1 (nodes[i]!).2.2.1 (nodes[i]!).2.2.2.1 (nodes[i]!).2.2.2.2.1 (nodes[i]!).2.2.2.2.2).bind _=some (Aa0.nil,PF (nodes[i]!) w y n ((w[i]!).2.2+c))
   rw [ec,q0,Af _ (show R64 ((w[i]!).2.2+c)from⟨by omega,by omega⟩),Af _ hy,mz,q0,Af _ hy]
   unfold PF
   by_cases k2:(nodes[i]!).1=2
   ·rw [V9 (show¬(nodes[i]!).1≠2 from λq=>q k2),V9 (show¬(nodes[i]!).1≠2 from λq=>q k2)];rfl
   ·have hno:=hx.2.2.2 k2
    have hz:0<=(nodes[i]!).2.2.2.2.2/\(nodes[i]!).2.2.2.2.2<((Nx w (nodes[i]!).2.2.2.2.1.toNat y ((w[i]!).2.2+c)).length:Int):=by rw [OB];omega
    rw [V8 (show(nodes[i]!).1≠2 from k2),V8 (show(nodes[i]!).1≠2 from k2)]
    show ck (0<=(nodes[i]!).2.2.2.2.2/\(nodes[i]!).2.2.2.2.2<((Nx w (nodes[i]!).2.2.2.2.1.toNat y ((w[i]!).2.2+c)).length:Int)) ((GJ N ((Nx w (nodes[i]!).2.2.2.2.1.toNat y ((w[i]!).2.2+c))[(nodes[i]!).2.2.2.2.2.toNat]!).1 ((Nx w (nodes[i]!).2.2.2.2.1.toNat y ((w[i]!).2.2+c))[(nodes[i]!).2.2.2.2.2.toNat]!).2.1 ((Nx w (nodes[i]!).2.2.2.2.1.toNat y ((w[i]!).2.2+c))[(nodes[i]!).2.2.2.2.2.toNat]!).2.2 n ((w[i]!).2.2+c)).bind λr45=>ck (0<=(nodes[i]!).2.2.2.2.2/\(nodes[i]!).2.2.2.2.2<((Nx w (nodes[i]!).2.2.2.2.1.toNat y ((w[i]!).2.2+c)).length:Int)) (some (Aa0.nil,(Nx w (nodes[i]!).2.2.2.2.1.toNat y ((w[i]!).2.2+c)).set (nodes[i]!).2.2.2.2.2.toNat (r45.1,r45.2.1,r45.2.2))))=_
    rw [Af _ hz,mz,q0,Af _ hz];rfl
  |t56 _ _ _ _=>rfl
  |t78 _ _ _=>rfl
 ·rw [V9 d,V9 d]
def yE(n:Nat)(B:Int)(x y:Y1 (Aa0×Y0 JU)):Prop:= ∃r r',x=some r/\y=some r'/\r.2.length=n/\r'.2.length=n/\Bd3 B r.2/\Bd3 B r'.2/\(r.1= .nil->r'.1= .nil/\Le3 r.2 r'.2)
theorem Bd3.le{A B:Int}{w:Y0 JU}(h:Bd3 A w)(k:A<=B):Bd3 B w:=λj=>⟨(h j).1,by have:=(h j).2;omega⟩
theorem ZT(x:Nod)(w:Y0 JU)(y n:W4)(st:Int):(PF x w y n st).length=w.length:=by
 unfold PF;split
 ·rw [OB,OB]
 ·rw [OB]
theorem lQ(hG:rk N m)(hL:Lit f)(hR:Rg f)(hRm:Rg m)(i:Nat)(hi:i<nodes.length)(hn:nodes.length<=1048576)(hx:bK m nodes.length i (nodes[i]!))(hl:(nodes[i]!).2.2.1.length<=1048576)(hr:NdR (nodes[i]!)){w w':Y0 JU}(hw:w.length=nodes.length+1)(h:Le3 w w')(hB:Bd3 (4194304*(i:Int)) w)(hB':Bd3 (4194304*(i:Int)) w'):
  yE w.length (4194304*((i+1:Nat):Int)) (CH N m f part nodes w (i:Int)) (CH N m f part nodes w' (i:Int)):=by
 have hN:=hG.cx.hN
 obtain⟨c,h0,h1,eq⟩:=jU (f:=f) (part:=part) hG i hi hn hx hl hr
 have hw':w'.length=nodes.length+1:=by rw [<-h.1];exact hw
 have le:(4194304*(i:Int))<=4194304*((i+1:Nat):Int):=by omega
 rw [eq w hw hB,eq w' hw' hB']
 obtain⟨g1,g2,g3⟩:=h.2 i
 have bi:=hB i
 have bi':=hB' i
 have hy:(nodes[i]!).2.2.2.2.1.toNat<w.length:=by have:=hx.1;omega
 have bd: ∀(v:Y0 JU) (y n:W4) (st:Int),v.length=nodes.length+1->Bd3 (4194304*(i:Int)) v->0<=st->st<=4194304*((i+1:Nat):Int)->Bd3 (4194304*((i+1:Nat):Int)) (PF (nodes[i]!) v y n st):=λv y n st hv hb a0 a1=>by
  unfold PF
  split
  ·rename_i k2
   have:=hx.2.2.2 k2
   exact((hb.le le).upd _ (by omega) y a0 a1).upd _ (by rw [OB];omega) n a0 a1
  ·exact(hb.le le).upd _ (by omega) y a0 a1
 rw [<-g1]
 by_cases d:(w[i]!).1=true
 ·rw [V8 d,V8 d]
  obtain⟨r,r',e1,e2,hh⟩:=gu (N:=N) (part:=part) (pl:=w) (pl':=w') (by omega:20000000<N) hL hR hG.cx.hL hRm hG.tb i hi hx hl hr g2
  rw [e1,e2,q0,q0]
  obtain⟨y,n,e⟩:=r
  obtain⟨y',n',e'⟩:=r'
  have any: ∀(v:Y0 JU) (a b:W4) (t:Aa0),v.length=nodes.length+1->Bd3 (4194304*(i:Int)) v-> ∃z,Aa0.on t (some (Aa0.nil,PF (nodes[i]!) v a b ((v[i]!).2.2+c))) (λa b c d=>some (Aa0.t56 a b c d,v)) (λa b c=>some (Aa0.t78 a b c,v))=some z/\z.2.length=v.length/\Bd3 (4194304*((i+1:Nat):Int)) z.2:=λv a b t hv hb=>by
   have:=hb i
   cases t with
   |nil=>exact⟨_,Z,ZT ..,bd v a b _ hv hb (by omega) (by omega)⟩
   |t56 _ _ _ _=>exact⟨_,Z,Z,hb.le le⟩
   |t78 _ _ _=>exact⟨_,Z,Z,hb.le le⟩
  have err:e≠ .nil->yE w.length (4194304*((i+1:Nat):Int)) (Aa0.on e (some (Aa0.nil,PF (nodes[i]!) w y n ((w[i]!).2.2+c))) (λa b c d=>some (Aa0.t56 a b c d,w)) (λa b c=>some (Aa0.t78 a b c,w))) (Aa0.on e' (some (Aa0.nil,PF (nodes[i]!) w' y' n' ((w'[i]!).2.2+c))) (λa b c d=>some (Aa0.t56 a b c d,w')) (λa b c=>some (Aa0.t78 a b c,w'))):=λne=>by
   obtain⟨z,ez,lz,bz⟩:=any w y n e hw hB
   obtain⟨z',ez',lz',bz'⟩:=any w' y' n' e' hw' hB'
   refine⟨z,z',ez,ez',lz,by rw [lz'];omega,bz,bz',λq=> ?_⟩
   cases e with
   |nil=>exact absurd Z ne
   |t56 _ _ _ _=>cases ez;cases q
   |t78 _ _ _=>cases ez;cases q
  cases e with
  |nil=>
   obtain⟨h1',h2',h3'⟩:=hh Z
   have h1':e'= .nil:=h1'
   have h2':Sub y y':=h2'
   have h3':Sub n n':=h3'
   subst h1'
   refine⟨_,_,Z,Z,ZT ..,by rw [ZT];omega,bd w y n _ hw hB (by omega) (by omega),bd w' y' n' _ hw' hB' (by omega) (by omega),λ_=>⟨Z, ?_⟩⟩
   show Le3 (PF (nodes[i]!) w y n ((w[i]!).2.2+c)) (PF (nodes[i]!) w' y' n' ((w'[i]!).2.2+c))
   rw [<-g3]
   unfold PF
   split
   ·rename_i k2
    have:=hx.2.2.2 k2
    exact(h.upd _ hy h2' _).upd _ (by rw [OB];omega) h3' _
   ·exact h.upd _ hy h2' _
  |t56 _ _ _ _=>exact err (λq=>by cases q)
  |t78 _ _ _=>exact err (λq=>by cases q)
 ·rw [V9 d,V9 d]
  exact⟨_,_,Z,Z,Z,show w'.length=w.length by omega,hB.le le,hB'.le le,λ_=>⟨Z,h⟩⟩
theorem ta(w:LC)(v:Y0 JU)(hv:((w.2.2.2.2.2.2.2.2.2.2.2.2.2.2.2.2.2.2.2.2.2.2.2.2.2.2.2.2.2.2.2.2.2.2.2.2.2.2).take (((w.2.2.2.2.2.2.2.2.2.2.2.2.2.2.2.2.2.2.2.2.2.2.2.2.2.2.2.2.2.2.2.2.2.2.2.2.2.1.length:Int)).toNat)).drop 0=v)(hl:v.length<=1048577)(o:W4)(st:Int): ∀(k g i:Nat) (a:Y0 Y3) (b:Y0 (W4)),i+k=v.length->k<g->a.length<=i->b.length<=i-> ∃r,BX w g (i:Int) a b o st=some r/\r.2.2.1=o/\r.2.2.2=st:=by
 intro k
 induction k with
 |zero=>
  intro g i a b hi hg _ _
  obtain⟨g,rfl⟩: ∃k,g=k+1:=⟨g - 1,by omega⟩
  rw [BX,hv,V9 (by omega)];exact⟨_,Z,Z,Z⟩
 |succ k ih=>
  intro g i a b hi hg ha hb
  obtain⟨g,rfl⟩: ∃k,g=k+1:=⟨g - 1,by omega⟩
  rw [BX,hv,V8 (by omega),Af _ (by omega),Af _ (by simp only [List.length_singleton];omega),Af _ (by simp only [List.length_singleton];omega),Af _ (show R64 ((i:Int)+1)from⟨by omega,by omega⟩),show((i:Int)+1)=((i+1:Nat):Int)by omega]
  exact ih g (i+1) _ _ (by omega) (by omega) (by rw [zf,List.length_singleton];omega) (by rw [zf,List.length_singleton];omega)
theorem iP(hN:20000000<N)(w:Y0 JU)(hn:nodes.length<=1048576)(hw:w.length=nodes.length+1): ∃r,EG N (mkW m f part nodes w)=some r/\r.2.2.1=(w[nodes.length]!).2.1/\r.2.2.2=(w[nodes.length]!).2.2:=by
 have h1:0<=(nodes.length:Int)/\(nodes.length:Int)<(w.length:Int):=by omega
 have h2:0<=(nodes.length:Int)/\(nodes.length:Int)<=(w.length:Int):=by omega
 rw [EG]
 show∃r,ck (0<=(nodes.length:Int)/\(nodes.length:Int)<(w.length:Int)) (ck (0<=(nodes.length:Int)/\(nodes.length:Int)<(w.length:Int)) (ck (0<=(nodes.length:Int)/\(nodes.length:Int)<=(w.length:Int)) (BX (mkW m f part nodes w) N 0 [] [] (w[((nodes.length:Int)).toNat]!).2.1 (w[((nodes.length:Int)).toNat]!).2.2)))=some r/\_
 rw [Af _ h1,Af _ h1,Af _ h2,q4]
 exact ta (mkW m f part nodes w) ((w.take ((nodes.length:Int)).toNat).drop 0) Z (by rw [zq,q8];omega) _ _ _ N 0 [] [] (q7 _) (by rw [zq,q8];omega) (Nat.le_refl 0) (Nat.le_refl 0)
def rj(x y:Y1 (Y0 Y3×Y0 (W4)×W4×Int×Aa0)):Prop:= ∃r r',x=some r/\y=some r'/\(r.2.2.2.2= .nil->r'.2.2.2.2= .nil/\Sub r.2.2.1 r'.2.2.1/\r.2.2.2.1=r'.2.2.2.1)
theorem dG(w0 w:Y0 JU)(g i:Nat)(hi:i<nodes.length):Bs N (mkW m f part nodes w0) (g+1) (i:Int) w=(CH N m f part nodes w (i:Int)).bind λr98=>ck (r98.2.length=w.length) (Aa0.on r98.1 (ck (R64 ((i:Int)+1)) (Bs N (mkW m f part nodes w0) g ((i:Int)+1) r98.2)) (λa b c d=>some ([],[],0#64,0,Aa0.t56 a b c d)) (λa b c=>some ([],[],0#64,0,Aa0.t78 a b c))):=by
 rw [Bs]
 show(if(i:Int)<(nodes.length:Int)then _ else _)=_
 rw [V8 (by omega)];rfl
theorem iY(w0 w:Y0 JU)(g i:Nat)(hi:i=nodes.length):Bs N (mkW m f part nodes w0) (g+1) (i:Int) w=(EG N (mkW m f part nodes w)).bind λr=>some (r.1,r.2.1,r.2.2.1,r.2.2.2,Aa0.nil):=by
 rw [Bs]
 show(if(i:Int)<(nodes.length:Int)then _ else _)=_
 rw [V9 (by omega)];rfl
theorem yw(hG:rk N m)(hL:Lit f)(hR:Rg f)(hRm:Rg m)(hn:nodes.length<=1048576)(hx: ∀i,i<nodes.length->bK m nodes.length i (nodes[i]!)/\(nodes[i]!).2.2.1.length<=1048576/\NdR (nodes[i]!))(w0 w0':Y0 JU): ∀(k g i:Nat) (w w':Y0 JU),i+k=nodes.length->k<g->w.length=nodes.length+1->Le3 w w'->Bd3 (4194304*(i:Int)) w->Bd3 (4194304*(i:Int)) w'->
  rj (Bs N (mkW m f part nodes w0) g (i:Int) w) (Bs N (mkW m f part nodes w0') g (i:Int) w'):=by
 have hN:=hG.cx.hN
 intro k
 induction k with
 |zero=>
  intro g i w w' hi hg hw h _ _
  obtain⟨g,rfl⟩: ∃k,g=k+1:=⟨g - 1,by omega⟩
  rw [iY _ _ _ _ (by omega),iY _ _ _ _ (by omega)]
  obtain⟨r,e,a1,a2⟩:=iP (N:=N) (m:=m) (f:=f) (part:=part) (by omega) w hn hw
  obtain⟨r',e',b1,b2⟩:=iP (N:=N) (m:=m) (f:=f) (part:=part) (by omega) w' hn (by rw [<-h.1];exact hw)
  rw [e,e']
  have:=h.2 nodes.length
  exact⟨_,_,Z,Z,λ_=>⟨Z,by show Sub r.2.2.1 r'.2.2.1;rw [a1,b1];exact this.2.1,by show r.2.2.2=r'.2.2.2;rw [a2,b2];exact this.2.2⟩⟩
 |succ k ih=>
  intro g i w w' hi hg hw h hB hB'
  obtain⟨g,rfl⟩: ∃k,g=k+1:=⟨g - 1,by omega⟩
  have hi':i<nodes.length:=by omega
  have hw':w'.length=nodes.length+1:=by rw [<-h.1];exact hw
  have hck:R64 ((i:Int)+1):=⟨by omega,by omega⟩
  obtain⟨x1,x2,x3⟩:=hx i hi'
  rw [dG _ _ _ _ hi',dG _ _ _ _ hi']
  obtain⟨r,r',e1,e2,l1,l2,b1,b2,hh⟩:=lQ (N:=N) (f:=f) (part:=part) hG hL hR hRm i hi' hn x1 x2 x3 hw h hB hB'
  rw [e1,e2,q0,q0,Af _ l1,Af _ (show r'.2.length=w'.length by omega)]
  obtain⟨e,v⟩:=r
  obtain⟨e',v'⟩:=r'
  have tot: ∃z,Aa0.on e' (ck (R64 ((i:Int)+1)) (Bs N (mkW m f part nodes w0') g ((i:Int)+1) v')) (λa b c d=>some ([],[],0#64,0,Aa0.t56 a b c d)) (λa b c=>some ([],[],0#64,0,Aa0.t78 a b c))=some z:=by
   cases e' with
   |nil=>
    rw [Aa0.at_nil,Af _ hck,show((i:Int)+1)=((i+1:Nat):Int)by omega]
    obtain⟨z,_,ez,_,_⟩:=(ih g (i+1) v' v' (by omega) (by omega) (show v'.length=nodes.length+1 by have:v'.length=w.length:=l2;omega) (Le3.same _) b2 b2:rj (Bs N (mkW m f part nodes w0) g ((i+1:Nat):Int) v') _)
    obtain⟨z,z',ez,ez',_⟩:=(ih g (i+1) v' v' (by omega) (by omega) (show v'.length=nodes.length+1 by have:v'.length=w.length:=l2;omega) (Le3.same _) b2 b2)
    exact⟨z',ez'⟩
   |t56 _ _ _ _=>exact⟨_,Z⟩
   |t78 _ _ _=>exact⟨_,Z⟩
  obtain⟨z,ez⟩:=tot
  cases e with
  |nil=>
   obtain⟨q1,q2⟩:=hh Z
   have q1:e'= .nil:=q1
   have q2:Le3 v v':=q2
   subst q1
   rw [Aa0.at_nil,Aa0.at_nil,Af _ hck,Af _ hck,show((i:Int)+1)=((i+1:Nat):Int)by omega]
   exact ih g (i+1) v v' (by omega) (by omega) (show v.length=nodes.length+1 by have:v.length=w.length:=l1;omega) q2 b1 b2
  |t56 _ _ _ _=>exact⟨_,z,Z,ez,λq=>by cases q⟩
  |t78 _ _ _=>exact⟨_,z,Z,ez,λq=>by cases q⟩
theorem gv(hm:m.2.2.2.2.2.2.2.1.length<=1048576/\m.2.2.2.2.2.2.2.2.1.length<=1048576)(eg:Y3)(s:W4): ∃p nodes,(nodes=if eg=true then m.2.2.2.2.2.2.2.2.1 else m.2.2.2.2.2.2.2.1)/\ ∀s:W4,Gm N m eg s=some (mkW m (fM m) p nodes ((List.replicate (((nodes.length:Int)+1)).toNat (false,0#64,(0:Int))).set 0 (true,s,0))):=by
 cases eg with
 |false=>
  refine⟨7,_,Z,λs=> ?_⟩
  have c1:R64 ((m.2.2.2.2.2.2.2.1.length:Int)+1):=⟨by omega,by omega⟩
  have c2:0<=(m.2.2.2.2.2.2.2.1.length:Int)+1/\(m.2.2.2.2.2.2.2.1.length:Int)+1<=5864062014805:=by omega
  have c3:0<=(0:Int)/\(0:Int)<(((List.replicate ((m.2.2.2.2.2.2.2.1.length:Int)+1).toNat (false,0#64,(0:Int))).length:Nat):Int):=by rw [zo];omega
  rw [Gm,show BT N m=some (fM m)from Z,q0,V9 (by decide),HI,Af _ c1,Af _ c2,Af _ c3];rfl
 |true=>
  refine⟨8,_,Z,λs=> ?_⟩
  have c1:R64 ((m.2.2.2.2.2.2.2.2.1.length:Int)+1):=⟨by omega,by omega⟩
  have c2:0<=(m.2.2.2.2.2.2.2.2.1.length:Int)+1/\(m.2.2.2.2.2.2.2.2.1.length:Int)+1<=5864062014805:=by omega
  have c3:0<=(0:Int)/\(0:Int)<(((List.replicate ((m.2.2.2.2.2.2.2.2.1.length:Int)+1).toNat (false,0#64,(0:Int))).length:Nat):Int):=by rw [zo];omega
  rw [Gm,show BT N m=some (fM m)from Z,q0,V8 Z,HI,Af _ c1,Af _ c2,Af _ c3];rfl
theorem kE(hN:20000000<N)(hLm:Lit m)(hRm:Rg m)(eg:Y3){s s':W4}(hs:Sub s s'):rj (BM N m eg s) (BM N m eg s'):=by
 obtain⟨q,e,hq⟩:=jc hN hLm hRm
 have hil:=hLm.il
 rw [BM,BM,e,q0,q0]
 cases q with
 |nil=>
  have hG:=hq Z
  obtain⟨p,nodes,hnd,eq⟩:=gv (N:=N) (m:=m) ⟨by omega,by omega⟩ eg s
  have hn:nodes.length<=1048576:=by rw [hnd];cases eg<;>simp only [if_true,if_false,Bool.false_eq_true]<;>omega
  have hx: ∀i,i<nodes.length->bK m nodes.length i (nodes[i]!)/\(nodes[i]!).2.2.1.length<=1048576/\NdR (nodes[i]!):=by
   subst hnd
   cases eg with
   |false=>exact λi hi=>⟨hG.ni i hi,(hLm.ni i hi).1,hRm.ni i hi⟩
   |true=>exact λi hi=>⟨hG.ne i hi,(hLm.ne i hi).1,hRm.ne i hi⟩
  show rj ((Gm N m eg s).bind _) ((Gm N m eg s').bind _)
  rw [eq,eq,q0,q0]
  have hr:(List.replicate (((nodes.length:Int)+1)).toNat ((false,0#64,0):JU)).length=nodes.length+1:=by rw [zo];omega
  have hz: ∀j:Nat,((List.replicate (((nodes.length:Int)+1)).toNat ((false,0#64,0):JU))[j]!).2.2=0:=λj=>by
   by_cases c:j<(List.replicate (((nodes.length:Int)+1)).toNat ((false,0#64,0):JU)).length
   ·rw [zm _ j c,List.getElem_replicate]
   ·rw [getElem!_neg _ j c];rfl
  show rj (Bs N (mkW m (fM m) p nodes _) N ((0:Nat):Int) ((List.replicate (((nodes.length:Int)+1)).toNat ((false,0#64,0):JU)).set 0 (true,s,0))) (Bs N (mkW m (fM m) p nodes _) N ((0:Nat):Int) ((List.replicate (((nodes.length:Int)+1)).toNat ((false,0#64,0):JU)).set 0 (true,s',0)))
  generalize List.replicate (((nodes.length:Int)+1)).toNat ((false,0#64,0):JU)=R at hr hz
  have bd: ∀u,Bd3 (4194304*((0:Nat):Int)) (R.set 0 (true,u,0)):=λu j=>by
   rw [NS R 0 j (by omega)]
   split
   ·exact⟨Int.le_refl 0,show(0:Int)<=4194304*((0:Nat):Int)by decide⟩
   ·rw [hz j];exact⟨by decide,by decide⟩
  refine yw hG (wP hLm) yr hRm hn hx _ _ nodes.length N 0 _ _ (q7 _) (by omega) (by rw [zr];exact hr) ⟨by rw [zr,zr],λj=> ?_⟩ (bd s) (bd s')
  rw [NS R 0 j (by omega),NS R 0 j (by omega)]
  split
  ·exact⟨Z,hs,Z⟩
  ·exact⟨Z,Sub.same _,Z⟩
 |_=>exact⟨_,_,Z,Z,λq=>by cases q⟩
end
end Go.Proofs.YtjnanfkpdhmnpaaGreatDoor
