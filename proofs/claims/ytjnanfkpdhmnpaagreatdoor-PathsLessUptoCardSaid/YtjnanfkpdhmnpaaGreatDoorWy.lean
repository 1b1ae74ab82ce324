import Derived.Test.YtjnanfkpdhmnpaaGreatDoorOz
import Derived.Test.YtjnanfkpdhmnpaaGreatDoorRt
set_option linter.unusedSimpArgs false
set_option linter.unusedVariables false
namespace Go.Proofs.YtjnanfkpdhmnpaaGreatDoor
open Go Go.RowKit Go.Eng
theorem Pd{α:Type}[Inhabited α](l:Y0 α)(g:α->W2)(h:l.length<=1048576)(hg: ∀x∈l,(g x).length<=1048576):brf (l.map g):=
 ⟨λi hi=>by
  rw [q9] at hi
  rw [zm _ i (by rw [q9];exact hi),zt];exact hg _ (List.getElem_mem hi),by rw [q9];exact h⟩
theorem mF(m:Ao)(h:Z35 m):Lit m:=by
 obtain⟨h0,h1,h2,h3,h4,h5,h6,h7,h8,h9,h10,h11,h12,h13,h14,_⟩:=h
 refine⟨h0,λp hp=> ?_,λi hi=> ?_,⟨h2.1,h7.1,h8.1,h9.1,h10.1,h11.1⟩,λi hi=>(h2.2 _ (Fm hi)).1,λi hi=> ?_,λi hi=> ?_,λi hi=> ?_,λi hi=> ?_,λi hi=> ?_⟩
 ·unfold BJ
  repeat' split
  ·exact Pd _ _ h1.1 λx hx=>(h1.2 x hx).1
  ·exact Pd _ _ h3.1 λx hx=>(h3.2 x hx).1
  ·exact Pd _ _ h4.1 λx hx=>(h4.2 x hx).1
  ·exact Pd _ _ h5.1 λx hx=>(h5.2 x hx).1
  ·exact Pd _ _ h6.1 λx hx=>(h6.2 x hx).1
  ·exact Pd _ _ h12.1 λx hx=>(h12.2 x hx).1
  ·exact Pd _ _ h13.1 λx hx=>(h13.2 x hx).1
  ·exact Pd _ _ h14.1 λx hx=>(h14.2 x hx).1
  ·exact⟨λi hi=>absurd hi (Nat.not_lt_zero i),Nat.zero_le _⟩
 ·have:=h1.2 _ (Fm hi)
  exact⟨this.2.1.1,λj hj=>(this.2.1.2 _ (Fm hj)).1⟩
 ·have:=h4.2 _ (Fm hi);exact⟨this.2.1.1,this.2.2.1.1,this.2.2.2.1.1⟩
 ·have:=h5.2 _ (Fm hi);exact⟨this.2.1.1,this.2.2.1⟩
 ·have:=h6.2 _ (Fm hi);exact⟨this.2.2.1.1,this.2.2.2.1.1,this.2.2.2.2.2.1.1⟩
 ·have:=h7.2 _ (Fm hi);exact⟨this.2.2.1.1,this.2.2.2.1.1⟩
 ·have:=h8.2 _ (Fm hi);exact⟨this.2.2.1.1,this.2.2.2.1.1⟩
theorem Xf(l:Y0 I9)(h:l.length<=1048576/\ ∀x∈l,kP x):CoR l:=λi hi=>(h.2 _ (Fm hi)).2.1.2
theorem rN(m:Ao)(h:Z35 m):Rg m:=by
 obtain⟨h0,h1,h2,h3,h4,h5,h6,h7,h8,h9,h10,h11,h12,h13,h14,_⟩:=h
 refine⟨λs hs=> ?_,λs hs=>Xf _ (h5.2 s hs).2.2,λs hs i hi=>(((h6.2 s hs).2.2.1.2 _ (Fm hi)).2.1).2,λi hi=> ?_,λi hi=> ?_,λi hi=>(h9.2 _ (Fm hi)).2,λi hi=>(h10.2 _ (Fm hi)).1.2,λi hi=>(h11.2 _ (Fm hi)).1.2⟩
 ·have:=h4.2 s hs
  exact⟨λi hi=>(this.2.1.2 _ (Fm hi)).2.2,λi hi=>((this.2.2.1.2 _ (Fm hi)).2.1).2⟩
 ·have:=h7.2 _ (Fm hi);exact⟨this.2.1.2,Xf _ this.2.2.1⟩
 ·have:=h8.2 _ (Fm hi);exact⟨this.2.1.2,Xf _ this.2.2.1⟩
end Go.Proofs.YtjnanfkpdhmnpaaGreatDoor
