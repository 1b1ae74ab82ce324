import Derived.Test.YthmpbldidnmenaaGreatDoorCb
import Derived.Test.YthmpbldidnmenaaGreatDoorBl
namespace Go.Proofs.YthmpbldidnmenaaGreatDoor
open Go Go.RowKit Go.Eng
theorem ra(N:Nat)(o:Int):Qb N o=some (decide (0≤o∧o≤34)):=by
 unfold Qb
 by_cases h:o≥0
 ·rw [if_pos h];congr 1;rw [Bool.eq_iff_iff,decide_eq_true_eq,decide_eq_true_eq];omega
 ·rw [if_neg h];congr 1;symm;rw [decide_eq_false_iff_not];omega
theorem qf(N:Nat)(a b n:Int):HP N a b n=some (decide (a≤n∧n≤b)):=by
 unfold HP
 by_cases h:n≥a
 ·rw [if_pos h];congr 1;rw [Bool.eq_iff_iff,decide_eq_true_eq,decide_eq_true_eq];omega
 ·rw [if_neg h];congr 1;symm;rw [decide_eq_false_iff_not];omega
def dy(r:R9):Int×Int×Int×Int:=(r.2.2.2.2.1,r.2.2.2.2.2.1,r.2.2.2.2.2.2.1,r.2.2.2.2.2.2.2.1)
theorem pD(N:Nat)(a b w:Int)(x:BitVec 128): ∀k:Nat,k<35→MA N (k:Int) a b w x=some (if k=10 then(0,127,0,a)else dy (tab9[k]!))
 |0,_=>rfl
 |1,_=>rfl
 |2,_=>rfl
 |3,_=>rfl
 |4,_=>rfl
 |5,_=>rfl
 |6,_=>rfl
 |7,_=>rfl
 |8,_=>rfl
 |9,_=>rfl
 |10,_=>rfl
 |11,_=>rfl
 |12,_=>rfl
 |13,_=>rfl
 |14,_=>rfl
 |15,_=>rfl
 |16,_=>rfl
 |17,_=>rfl
 |18,_=>rfl
 |19,_=>rfl
 |20,_=>rfl
 |21,_=>rfl
 |22,_=>rfl
 |23,_=>rfl
 |24,_=>rfl
 |25,_=>rfl
 |26,_=>rfl
 |27,_=>rfl
 |28,_=>rfl
 |29,_=>rfl
 |30,_=>rfl
 |31,_=>rfl
 |32,_=>rfl
 |33,_=>rfl
 |34,_=>rfl
 |k+35,h=>absurd h (by omega)
theorem mx(N:Nat){o:Int}(h: ¬(0≤o∧o≤34))(a b w:Int)(x:BitVec 128):MA N o a b w x=some (0,0,0,0):=by
 have e0: ¬o=0:=fun e=>h (by omega)
 have e1: ¬o=1:=fun e=>h (by omega)
 have e2: ¬o=2:=fun e=>h (by omega)
 have e3: ¬o=3:=fun e=>h (by omega)
 have e4: ¬o=4:=fun e=>h (by omega)
 have e5: ¬o=5:=fun e=>h (by omega)
 have e6: ¬o=6:=fun e=>h (by omega)
 have e7: ¬o=7:=fun e=>h (by omega)
 have e8: ¬o=8:=fun e=>h (by omega)
 have e9: ¬o=9:=fun e=>h (by omega)
 have e10: ¬o=10:=fun e=>h (by omega)
 have e11: ¬o=11:=fun e=>h (by omega)
 have e12: ¬o=12:=fun e=>h (by omega)
 have e13: ¬o=13:=fun e=>h (by omega)
 have e14: ¬o=14:=fun e=>h (by omega)
 have e15: ¬o=15:=fun e=>h (by omega)
 have e16: ¬o=16:=fun e=>h (by omega)
 have e17: ¬o=17:=fun e=>h (by omega)
 have e18: ¬o=18:=fun e=>h (by omega)
 have e19: ¬o=19:=fun e=>h (by omega)
 have e20: ¬o=20:=fun e=>h (by omega)
 have e21: ¬o=21:=fun e=>h (by omega)
 have e22: ¬o=22:=fun e=>h (by omega)
 have e23: ¬o=23:=fun e=>h (by omega)
 have e24: ¬o=24:=fun e=>h (by omega)
 have e25: ¬o=25:=fun e=>h (by omega)
 have e26: ¬o=26:=fun e=>h (by omega)
 have e27: ¬o=27:=fun e=>h (by omega)
 have e28: ¬o=28:=fun e=>h (by omega)
 have e29: ¬o=29:=fun e=>h (by omega)
 have e30: ¬o=30:=fun e=>h (by omega)
 have e31: ¬o=31:=fun e=>h (by omega)
 have e32: ¬o=32:=fun e=>h (by omega)
 have e33: ¬o=33:=fun e=>h (by omega)
 have e34: ¬o=34:=fun e=>h (by omega)
 have f0:(o==(0:Int))=false:=beq_eq_false_iff_ne.2 e0
 have f1:(o==(1:Int))=false:=beq_eq_false_iff_ne.2 e1
 have f2:(o==(2:Int))=false:=beq_eq_false_iff_ne.2 e2
 have f3:(o==(3:Int))=false:=beq_eq_false_iff_ne.2 e3
 have f4:(o==(4:Int))=false:=beq_eq_false_iff_ne.2 e4
 have f5:(o==(5:Int))=false:=beq_eq_false_iff_ne.2 e5
 have f6:(o==(6:Int))=false:=beq_eq_false_iff_ne.2 e6
 have f7:(o==(7:Int))=false:=beq_eq_false_iff_ne.2 e7
 have f8:(o==(8:Int))=false:=beq_eq_false_iff_ne.2 e8
 have f9:(o==(9:Int))=false:=beq_eq_false_iff_ne.2 e9
 have f10:(o==(10:Int))=false:=beq_eq_false_iff_ne.2 e10
 have f11:(o==(11:Int))=false:=beq_eq_false_iff_ne.2 e11
 have f12:(o==(12:Int))=false:=beq_eq_false_iff_ne.2 e12
 have f13:(o==(13:Int))=false:=beq_eq_false_iff_ne.2 e13
 have f14:(o==(14:Int))=false:=beq_eq_false_iff_ne.2 e14
 have f15:(o==(15:Int))=false:=beq_eq_false_iff_ne.2 e15
 have f16:(o==(16:Int))=false:=beq_eq_false_iff_ne.2 e16
 have f17:(o==(17:Int))=false:=beq_eq_false_iff_ne.2 e17
 have f18:(o==(18:Int))=false:=beq_eq_false_iff_ne.2 e18
 have f19:(o==(19:Int))=false:=beq_eq_false_iff_ne.2 e19
 have f20:(o==(20:Int))=false:=beq_eq_false_iff_ne.2 e20
 have f21:(o==(21:Int))=false:=beq_eq_false_iff_ne.2 e21
 have f22:(o==(22:Int))=false:=beq_eq_false_iff_ne.2 e22
 have f23:(o==(23:Int))=false:=beq_eq_false_iff_ne.2 e23
 have f24:(o==(24:Int))=false:=beq_eq_false_iff_ne.2 e24
 have f25:(o==(25:Int))=false:=beq_eq_false_iff_ne.2 e25
 have f26:(o==(26:Int))=false:=beq_eq_false_iff_ne.2 e26
 have f27:(o==(27:Int))=false:=beq_eq_false_iff_ne.2 e27
 have f28:(o==(28:Int))=false:=beq_eq_false_iff_ne.2 e28
 have f29:(o==(29:Int))=false:=beq_eq_false_iff_ne.2 e29
 have f30:(o==(30:Int))=false:=beq_eq_false_iff_ne.2 e30
 have f31:(o==(31:Int))=false:=beq_eq_false_iff_ne.2 e31
 have f32:(o==(32:Int))=false:=beq_eq_false_iff_ne.2 e32
 have f33:(o==(33:Int))=false:=beq_eq_false_iff_ne.2 e33
 have f34:(o==(34:Int))=false:=beq_eq_false_iff_ne.2 e34
 simp only [MA,NZ,NY,LM,KA,MD,MC,MB,e1,e2,e3,e4,e5,e8,e10,e11,e24,e25,e27,e29,e31,e33,f1,f2,f4,f5,f8,f9,f22,f23,f24,f25,f26,f27,f28,f29,f30,f31,f32,if_false,Bool.false_eq_true]
theorem mM(N:Nat)(a b w:Int)(x:BitVec 128): ∀k:Nat,k<35→Qa N (k:Int) a b w x=some (KH (k:Int) a b w x)
 |0,_=>rfl
 |1,_=>rfl
 |2,_=>rfl
 |3,_=>rfl
 |4,_=>rfl
 |5,_=>rfl
 |6,_=>rfl
 |7,_=>rfl
 |8,_=>rfl
 |9,_=>rfl
 |10,_=>rfl
 |11,_=>rfl
 |12,_=>rfl
 |13,_=>rfl
 |14,_=>rfl
 |15,_=>rfl
 |16,_=>rfl
 |17,_=>rfl
 |18,_=>rfl
 |19,_=>rfl
 |20,_=>rfl
 |21,_=>rfl
 |22,_=>rfl
 |23,_=>rfl
 |24,_=>rfl
 |25,_=>rfl
 |26,_=>rfl
 |27,_=>rfl
 |28,_=>rfl
 |29,_=>rfl
 |30,_=>rfl
 |31,_=>rfl
 |32,_=>rfl
 |33,_=>rfl
 |34,_=>rfl
 |k+35,h=>absurd h (by omega)
theorem hY{o:Int}(h:0≤o∧o≤34): ∃k:Nat,k<35∧o=(k:Int):=⟨o.toNat,by omega,by omega⟩
theorem gA(k:Nat):Hs (k:Int)=tab9[k]!:=by unfold Hs;rw [q3]
theorem rB(N:Nat)(o a b w:Int)(x:BitVec 128):MA N o a b w x=some (if 0≤o∧o≤34 then(if o=10 then(0,127,0,a)else dy (Hs o))else(0,0,0,0)):=by
 by_cases h:0≤o∧o≤34
 ·obtain⟨k,hk,rfl⟩:=hY h
  rw [pD N a b w x k hk,if_pos h,gA]
  by_cases c:k=10
  ·rw [if_pos c,if_pos (by omega)]
  ·rw [if_neg c,if_neg (by omega)]
 ·rw [mx N h,if_neg h]
theorem qs(N:Nat){o:Int}(h:0≤o∧o≤34)(a b w:Int)(x:BitVec 128):Qa N o a b w x=some (KH o a b w x):=by
 obtain⟨k,hk,rfl⟩:=hY h
 exact mM N a b w x k hk
theorem ic(N:Nat)(o a b w:Int)(x:BitVec 128):Jf N o a b w x=some (if o=0 then QV w x else decide (w=0∧x=0#128)):=by
 unfold Jf
 by_cases c:o=0
 ·rw [if_pos c,if_pos c,qp,q0]
 ·rw [if_neg c,if_neg c,zz9]
  congr 1
  rw [Bool.eq_iff_iff,decide_eq_true_eq,Bool.and_eq_true,beq_iff_eq,beq_iff_eq]
theorem ib(N:Nat){o:Int}(h:0≤o∧o≤34)(a b w:Int)(x:BitVec 128)(bad:Bool)
  (hb:bad=decide (a<(Hs o).2.2.2.2.1∨(Hs o).2.2.2.2.2.1<a∨b<(Hs o).2.2.2.2.2.2.1∨(Hs o).2.2.2.2.2.2.2.1<b∨(o=10∧a<b))):KT N o a b w x bad=some (OX o a b w x):=by
 unfold KT OX
 rw [if_pos h]
 by_cases c:a<(Hs o).2.2.2.2.1∨(Hs o).2.2.2.2.2.1<a∨b<(Hs o).2.2.2.2.2.2.1∨(Hs o).2.2.2.2.2.2.2.1<b∨(o=10∧a<b)
 ·rw [hb,zf c,if_pos rfl,if_pos c]
 ·rw [hb,ze c,if_neg (by decide),if_neg c,ic,q0]
  by_cases d:o=0
  ·rw [if_pos d,if_pos d]
   by_cases e:QV w x=true
   ·rw [if_pos e,if_pos e]
   ·rw [if_neg e,if_neg e]
  ·rw [if_neg d,if_neg d]
   by_cases e:w=0∧x=0#128
   ·rw [zf e,if_pos rfl,if_pos e]
   ·rw [ze e,if_neg (by decide),if_neg e]
theorem rt(N:Nat)(o a b w:Int)(x:BitVec 128):RR N o a b w x=some (OX o a b w x):=by
 unfold RR
 rw [rB,q0,ra,q0]
 by_cases h:0≤o∧o≤34
 rotate_left
 ·rw [ze h,if_neg (by decide)]
  unfold OX;rw [if_neg h]
 rw [zf h,if_pos rfl,if_pos h,qf,q0]
 have key: ∀(s:Int×Int×Int×Int),(¬(s.1≤a∧a≤s.2.1∧s.2.2.1≤b∧b≤s.2.2.2)↔(a<(Hs o).2.2.2.2.1∨(Hs o).2.2.2.2.2.1<a∨b<(Hs o).2.2.2.2.2.2.1∨(Hs o).2.2.2.2.2.2.2.1<b∨(o=10∧a<b)))→
   (if decide (s.1≤a∧a≤s.2.1)=true then(HP N s.2.2.1 s.2.2.2 b).bind fun r25=>KT N o a b w x (!(r25))else KT N o a b w x true)=some (OX o a b w x):=fun s hs=>by
  by_cases c:s.1≤a∧a≤s.2.1
  ·rw [zf c,if_pos rfl,qf,q0]
   refine ib N h a b w x _ ?_
   by_cases d:s.2.2.1≤b∧b≤s.2.2.2
   ·rw [zf d,ze (fun q=>hs.2 q ⟨c.1,c.2,d.1,d.2⟩)];rfl
   ·rw [ze d,zf (hs.1 (fun q=>d ⟨q.2.2.1,q.2.2.2⟩))];rfl
  ·rw [ze c,if_neg (by decide)]
   exact ib N h a b w x _ (zf (hs.1 (fun q=>c ⟨q.1,q.2.1⟩))).symm
 by_cases c:o=10
 ·rw [if_pos c]
  refine key (0,127,0,a) ?_
  subst c
  show _↔(a<0∨127<a∨b<0∨127<b∨((10:Int)=10∧a<b))
  show(¬((0:Int)≤a∧a≤127∧(0:Int)≤b∧b≤a))↔_
  omega
 ·rw [if_neg c]
  refine key (dy (Hs o)) ?_
  unfold dy
  generalize (Hs o).2.2.2.2.1=p1
  generalize (Hs o).2.2.2.2.2.1=p2
  generalize (Hs o).2.2.2.2.2.2.1=p3
  generalize (Hs o).2.2.2.2.2.2.2.1=p4
  show(¬(p1≤a∧a≤p2∧p3≤b∧b≤p4))↔_
  omega
theorem qS(N:Nat)(o a b w:Int)(x:BitVec 128):Oa N o a b w x=some (if OX o a b w x=0 then KH o a b w x else .nil,OX o a b w x):=by
 unfold Oa
 rw [rt,q0]
 by_cases c:OX o a b w x=0
 ·rw [if_neg (fun q=>q c),if_pos c,qs N (Ys c),q0,c]
 ·rw [if_pos c,if_neg c]
end Go.Proofs.YthmpbldidnmenaaGreatDoor
namespace Go.Proofs.YthmpbldidnmenaaGreatDoor
open Go Go.RowKit Go.Eng
theorem FU{α:Type}[Inhabited α]{l:List α}{i:Nat}(h:i<l.length):l[i]!∈l:=by rw [zg l i h];exact List.getElem_mem h
theorem MH{α:Type}[Inhabited α](l:List α)(g:α→List UInt8)(loop:Nat→List (List UInt8)→Int→Option (List (List UInt8)))(K:List (List UInt8)→Option (List (List UInt8)))
  (step: ∀(f i:Nat) (s:List (List UInt8)),i<l.length→s.length=i→loop (f+1) s (i:Int)=loop f (s++ [g (l[i]!)]) ((i+1:Nat):Int))
  (stop: ∀(f:Nat) (s:List (List UInt8)),loop (f+1) s (l.length:Int)=K s):
  ∀(k f i:Nat),i+k=l.length→k<f→loop f ((l.take i).map g) (i:Int)=K (l.map g):=by
 intro k
 induction k with
 |zero=>
  intro f i hi hf
  obtain⟨f,rfl⟩: ∃n,f=n+1:=⟨f - 1,by omega⟩
  obtain rfl:i=l.length:=by omega
  rw [stop,j6 (Nat.le_refl _)]
 |succ k ih=>
  intro f i hi hf
  obtain⟨f,rfl⟩: ∃n,f=n+1:=⟨f - 1,by omega⟩
  rw [step f i _ (by omega) (by rw [q8,q7];omega),←ih f (i+1) (by omega) (by omega),List.take_add_one,zo (by omega:i<l.length),List.map_append,zg l i (by omega)]
  rfl
def BA(m:An)(p:Int):List (List UInt8):=
 if p=1 then m.2.1.map (·.1)else if p=3 then m.2.2.2.1.map (·.1)else if p=4 then m.2.2.2.2.1.map (·.1)else if p=5 then m.2.2.2.2.2.1.map (·.1)else if p=6 then m.2.2.2.2.2.2.1.map (·.1)
 else if p=12 then m.2.2.2.2.2.2.2.2.2.2.2.2.1.map (·.1)else if p=13 then m.2.2.2.2.2.2.2.2.2.2.2.2.2.1.map (·.1)else if p=14 then m.2.2.2.2.2.2.2.2.2.2.2.2.2.2.1.map (·.1)else []
structure Tit(N:Nat)(m:An):Prop where
 h1:m.2.1.length<N∧m.2.1.length≤8796093022208
 h3:m.2.2.2.1.length<N∧m.2.2.2.1.length≤8796093022208
 h4:m.2.2.2.2.1.length<N∧m.2.2.2.2.1.length≤8796093022208
 h5:m.2.2.2.2.2.1.length<N∧m.2.2.2.2.2.1.length≤8796093022208
 h6:m.2.2.2.2.2.2.1.length<N∧m.2.2.2.2.2.2.1.length≤8796093022208
 h12:m.2.2.2.2.2.2.2.2.2.2.2.2.1.length<N∧m.2.2.2.2.2.2.2.2.2.2.2.2.1.length≤8796093022208
 h13:m.2.2.2.2.2.2.2.2.2.2.2.2.2.1.length<N∧m.2.2.2.2.2.2.2.2.2.2.2.2.2.1.length≤8796093022208
 h14:m.2.2.2.2.2.2.2.2.2.2.2.2.2.2.1.length<N∧m.2.2.2.2.2.2.2.2.2.2.2.2.2.2.1.length≤8796093022208
section
variable (N:Nat) (m:An) (p:Int) (s:List (List UInt8))
end
section
end
def brf(l:List (List UInt8)):Prop:=(∀i,i<l.length→(l[i]!).length≤1048576)∧l.length≤1048576
structure Lit(m:An):Prop where
 nm:m.1.length≤1048576
 ti: ∀p:Nat,p<15→brf (BA m p)
 hd: ∀i,i<m.2.1.length→((m.2.1[i]!).2.1.length≤1048576∧ ∀j,j<(m.2.1[i]!).2.1.length→(((m.2.1[i]!).2.1)[j]!).1.length≤1048576)
 il:m.2.2.1.length≤1048576∧m.2.2.2.2.2.2.2.1.length≤1048576∧m.2.2.2.2.2.2.2.2.1.length≤1048576∧m.2.2.2.2.2.2.2.2.2.1.length≤1048576∧m.2.2.2.2.2.2.2.2.2.2.1.length≤1048576∧m.2.2.2.2.2.2.2.2.2.2.2.1.length≤1048576
 ins: ∀i,i<m.2.2.1.length→(m.2.2.1[i]!).1.length≤1048576
 st: ∀i,i<m.2.2.2.2.1.length→(m.2.2.2.2.1[i]!).2.1.length≤1048576∧(m.2.2.2.2.1[i]!).2.2.1.length≤1048576∧(m.2.2.2.2.1[i]!).2.2.2.1.length≤1048576
 ac: ∀i,i<m.2.2.2.2.2.1.length→(m.2.2.2.2.2.1[i]!).2.1.length≤1048576∧(m.2.2.2.2.2.1[i]!).2.2.length≤1048576
 tb: ∀i,i<m.2.2.2.2.2.2.1.length→(m.2.2.2.2.2.2.1[i]!).2.2.1.length≤1048576∧(m.2.2.2.2.2.2.1[i]!).2.2.2.1.length≤1048576∧(m.2.2.2.2.2.2.1[i]!).2.2.2.2.2.1.length≤1048576
 ni: ∀i,i<m.2.2.2.2.2.2.2.1.length→(m.2.2.2.2.2.2.2.1[i]!).2.2.1.length≤1048576∧(m.2.2.2.2.2.2.2.1[i]!).2.2.2.1.length≤1048576
 ne: ∀i,i<m.2.2.2.2.2.2.2.2.1.length→(m.2.2.2.2.2.2.2.2.1[i]!).2.2.1.length≤1048576∧(m.2.2.2.2.2.2.2.2.1[i]!).2.2.2.1.length≤1048576
structure Siz(m:An):Prop where
 h2:m.2.2.1.length≤8796093022208
 h8:m.2.2.2.2.2.2.2.1.length≤8796093022208
 h9:m.2.2.2.2.2.2.2.2.1.length≤8796093022208
 h10:m.2.2.2.2.2.2.2.2.2.1.length≤140737488355328
 h11:m.2.2.2.2.2.2.2.2.2.2.1.length≤8796093022208
 h12:m.2.2.2.2.2.2.2.2.2.2.2.1.length≤8796093022208
 hd: ∀i,i<m.2.1.length→(m.2.1[i]!).2.1.length≤140737488355328
 st: ∀i,i<m.2.2.2.2.1.length→(m.2.2.2.2.1[i]!).2.1.length≤140737488355328∧(m.2.2.2.2.1[i]!).2.2.1.length≤140737488355328∧(m.2.2.2.2.1[i]!).2.2.2.1.length≤140737488355328
 ac: ∀i,i<m.2.2.2.2.2.1.length→(m.2.2.2.2.2.1[i]!).2.1.length≤140737488355328∧(m.2.2.2.2.2.1[i]!).2.2.length≤140737488355328
 tb: ∀i,i<m.2.2.2.2.2.2.1.length→(m.2.2.2.2.2.2.1[i]!).2.2.1.length≤140737488355328∧(m.2.2.2.2.2.2.1[i]!).2.2.2.1.length≤140737488355328∧(m.2.2.2.2.2.2.1[i]!).2.2.2.2.2.1.length≤140737488355328
 ni: ∀i,i<m.2.2.2.2.2.2.2.1.length→(m.2.2.2.2.2.2.2.1[i]!).2.2.1.length≤140737488355328∧(m.2.2.2.2.2.2.2.1[i]!).2.2.2.1.length≤140737488355328
 ne: ∀i,i<m.2.2.2.2.2.2.2.2.1.length→(m.2.2.2.2.2.2.2.2.1[i]!).2.2.1.length≤140737488355328∧(m.2.2.2.2.2.2.2.2.1[i]!).2.2.2.1.length≤140737488355328
structure Few(m:An):Prop where
 h1:m.2.1.length≤1048576
 h4:m.2.2.2.2.1.length≤1048576
 h5:m.2.2.2.2.2.1.length≤1048576
 h6:m.2.2.2.2.2.2.1.length≤1048576
end Go.Proofs.YthmpbldidnmenaaGreatDoor
namespace Go.Proofs.YthmpbldidnmenaaGreatDoor
open Go Go.RowKit Go.Eng
theorem gb(N:Nat)(b:Bool)(e:Int):Ao N b e=some (if b=true then 0 else e):=by
 unfold Ao;split<;>rfl
def Ans(x:Option Int)(P:Prop):Prop:= ∃r,x=some r∧(r=0→P)
theorem Ans.imp{x:Option Int}{P Q:Prop}(h:Ans x P)(f:P→Q):Ans x Q:=by obtain⟨r,e,p⟩:=h;exact⟨r,e,fun q=>f (p q)⟩
theorem Ans.pure{x:Option Int}{P:Prop}(h:Ans x P):Ans (x.bind fun r=>some r) P:=by obtain⟨r,e,p⟩:=h;exact⟨r,by rw [e];rfl,p⟩
theorem Ans.un(N:Nat)(b:Bool)(e:Int)(he:e≠0):Ans (Ao N b e) (b=true):=by
 refine⟨_,gb N b e,fun q=> ?_⟩
 cases b with
 |true=>rfl
 |false=>rw [if_neg (by decide)] at q;exact absurd q he
def Ans2(x:Option (Int×Int))(P:Prop):Prop:= ∃r,x=some r∧(r.2=0→P)
theorem Ans2.imp{x:Option (Int×Int)}{P Q:Prop}(h:Ans2 x P)(f:P→Q):Ans2 x Q:=by obtain⟨r,e,p⟩:=h;exact⟨r,e,fun q=>f (p q)⟩
theorem Ans2.pure{x:Option (Int×Int)}{P:Prop}(h:Ans2 x P):Ans2 (x.bind fun r=>some (r.1,r.2)) P:=by obtain⟨r,e,p⟩:=h;exact⟨r,by rw [e];rfl,p⟩
end Go.Proofs.YthmpbldidnmenaaGreatDoor
namespace Go.Proofs.YthmpbldidnmenaaGreatDoor
open Go Go.RowKit Go.Eng
abbrev Stt:=List UInt8×List (Int×Int)×List (Int×Int×Int)×List (Int×BitVec 128×Int×BitVec 128×Int)×Int
abbrev Act:=List UInt8×List Int×List I9
abbrev Tab:=List UInt8×Int×List (Int×Int×Int)×List Int×Int×List (Int×BitVec 128)×Int
abbrev Nod:=Int×Int×List I9×List (Int×BitVec 128)×Int×Int
def Top(n:Int):Prop:=n≤9223372036854775807
theorem rf(hs:List Hd)(l:List Ins)(k:Int):(∃h∈hs,hdL hs l k=(h.1,h.2.1,h.2.2.1,h.2.2.2.1,h.2.2.2.2.1,h.2.2.2.2.2,true))∨hdL hs l k=([],[],0,0,0,0,false):=by
 unfold hdL
 split
 ·rename_i c
  exact .inl ⟨_,FU (i:=((l[(ofL l k).1.toNat]!).2.1).toNat) (by omega),rfl⟩
 ·exact .inr rfl
section
variable {N:Nat} {m:An}
def StOk(m:An)(s:Stt):Prop:= ∀k,k<s.2.2.2.1.length→ -2≤(s.2.2.2.1[k]!).2.2.2.2∧(s.2.2.2.1[k]!).2.2.2.2<(m.2.2.2.2.1.length:Int)
def StR(s:Stt):Prop:=(∀i,i<s.2.1.length→Top (s.2.1[i]!).2)∧ ∀i,i<s.2.2.1.length→Top (s.2.2.1[i]!).2.1
end
end Go.Proofs.YthmpbldidnmenaaGreatDoor
namespace Go.Proofs.YthmpbldidnmenaaGreatDoor
open Go Go.RowKit Go.Eng
section
variable {N:Nat} {m:An}
def CoR(l:List I9):Prop:= ∀i,i<l.length→Top (l[i]!).2.1
def TbR(x:Tab):Prop:= ∀i,i<x.2.2.1.length→Top (x.2.2.1[i]!).2.1
def NdR(x:Nod):Prop:=Top x.2.1∧CoR x.2.2.1
end
section
variable {N:Nat} {m:An}
end
end Go.Proofs.YthmpbldidnmenaaGreatDoor
namespace Go.Proofs.YthmpbldidnmenaaGreatDoor
open Go Go.RowKit Go.Eng
structure Rg(m:An):Prop where
 st: ∀s∈m.2.2.2.2.1,StR s
 ac: ∀s∈m.2.2.2.2.2.1,CoR s.2.2
 tb: ∀s∈m.2.2.2.2.2.2.1,TbR s
 ni: ∀i,i<m.2.2.2.2.2.2.2.1.length→NdR (m.2.2.2.2.2.2.2.1[i]!)
 ne: ∀i,i<m.2.2.2.2.2.2.2.2.1.length→NdR (m.2.2.2.2.2.2.2.2.1[i]!)
 dp: ∀i,i<m.2.2.2.2.2.2.2.2.2.1.length→Top (m.2.2.2.2.2.2.2.2.2.1[i]!)
 ch: ∀i,i<m.2.2.2.2.2.2.2.2.2.2.1.length→Top (m.2.2.2.2.2.2.2.2.2.2.1[i]!).1
 up: ∀i,i<m.2.2.2.2.2.2.2.2.2.2.2.1.length→Top (m.2.2.2.2.2.2.2.2.2.2.2.1[i]!).1
section
variable {N:Nat} {m:An}
end
end Go.Proofs.YthmpbldidnmenaaGreatDoor
