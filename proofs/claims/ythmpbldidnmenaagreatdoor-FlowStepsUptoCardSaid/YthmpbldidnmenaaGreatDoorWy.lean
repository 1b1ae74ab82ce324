import Derived.Test.YthmpbldidnmenaaGreatDoorOz
import Derived.Test.YthmpbldidnmenaaGreatDoorIe
set_option linter.unusedSimpArgs false
set_option linter.unusedVariables false
namespace Go.Proofs.YthmpbldidnmenaaGreatDoor
open Go Go.RowKit Go.Eng
theorem MR{α:Type}[Inhabited α](l:List α)(g:α→List UInt8)(h:l.length≤1048576)(hg: ∀x∈l,(g x).length≤1048576):brf (l.map g):=
 ⟨fun i hi=>by
  rw [q8] at hi
  rw [zg _ i (by rw [q8];exact hi),List.getElem_map];exact hg _ (List.getElem_mem hi),by rw [q8];exact h⟩
theorem im(m:An)(h:Z35 m):Lit m:=by
 obtain⟨h0,h1,h2,h3,h4,h5,h6,h7,h8,h9,h10,h11,h12,h13,h14,_⟩:=h
 refine⟨h0,fun p hp=> ?_,fun i hi=> ?_,⟨h2.1,h7.1,h8.1,h9.1,h10.1,h11.1⟩,fun i hi=>(h2.2 _ (FU hi)).1,fun i hi=> ?_,fun i hi=> ?_,fun i hi=> ?_,fun i hi=> ?_,fun i hi=> ?_⟩
 ·unfold BA
  repeat' split
  ·exact MR _ _ h1.1 fun x hx=>(h1.2 x hx).1
  ·exact MR _ _ h3.1 fun x hx=>(h3.2 x hx).1
  ·exact MR _ _ h4.1 fun x hx=>(h4.2 x hx).1
  ·exact MR _ _ h5.1 fun x hx=>(h5.2 x hx).1
  ·exact MR _ _ h6.1 fun x hx=>(h6.2 x hx).1
  ·exact MR _ _ h12.1 fun x hx=>(h12.2 x hx).1
  ·exact MR _ _ h13.1 fun x hx=>(h13.2 x hx).1
  ·exact MR _ _ h14.1 fun x hx=>(h14.2 x hx).1
  ·exact⟨fun i hi=>absurd hi (Nat.not_lt_zero i),Nat.zero_le _⟩
 ·have:=h1.2 _ (FU hi)
  exact⟨this.2.1.1,fun j hj=>(this.2.1.2 _ (FU hj)).1⟩
 ·have:=h4.2 _ (FU hi);exact⟨this.2.1.1,this.2.2.1.1,this.2.2.2.1.1⟩
 ·have:=h5.2 _ (FU hi);exact⟨this.2.1.1,this.2.2.1⟩
 ·have:=h6.2 _ (FU hi);exact⟨this.2.2.1.1,this.2.2.2.1.1,this.2.2.2.2.2.1.1⟩
 ·have:=h7.2 _ (FU hi);exact⟨this.2.2.1.1,this.2.2.2.1.1⟩
 ·have:=h8.2 _ (FU hi);exact⟨this.2.2.1.1,this.2.2.2.1.1⟩
theorem Vy(l:List I9)(h:l.length≤1048576∧ ∀x∈l,Z41 x):CoR l:=fun i hi=>(h.2 _ (FU hi)).2.1.2
theorem mW(m:An)(h:Z35 m):Rg m:=by
 obtain⟨h0,h1,h2,h3,h4,h5,h6,h7,h8,h9,h10,h11,h12,h13,h14,_⟩:=h
 refine⟨fun s hs=> ?_,fun s hs=>Vy _ (h5.2 s hs).2.2,fun s hs i hi=>(((h6.2 s hs).2.2.1.2 _ (FU hi)).2.1).2,fun i hi=> ?_,fun i hi=> ?_,fun i hi=>(h9.2 _ (FU hi)).2,fun i hi=>(h10.2 _ (FU hi)).1.2,fun i hi=>(h11.2 _ (FU hi)).1.2⟩
 ·have:=h4.2 s hs
  exact⟨fun i hi=>(this.2.1.2 _ (FU hi)).2.2,fun i hi=>((this.2.2.1.2 _ (FU hi)).2.1).2⟩
 ·have:=h7.2 _ (FU hi);exact⟨this.2.1.2,Vy _ this.2.2.1⟩
 ·have:=h8.2 _ (FU hi);exact⟨this.2.1.2,Vy _ this.2.2.1⟩
end Go.Proofs.YthmpbldidnmenaaGreatDoor
