import Derived.Test.YtoolcgbcfgnipaaGreatDoorCb
namespace Go.Proofs.YtoolcgbcfgnipaaGreatDoor
open Go Go.RowKit Go.Eng
theorem tJ(N:Nat)(o:Int):Qp N o=some (decide (0≤o∧o≤34)):=by
 unfold Qp
 by_cases h:o≥0
 ·rw [if_pos h];congr 1;rw [Bool.eq_iff_iff,decide_eq_true_eq,decide_eq_true_eq];omega
 ·rw [if_neg h];congr 1;symm;rw [decide_eq_false_iff_not];omega
theorem si(N:Nat)(a b n:Int):IV N a b n=some (decide (a≤n∧n≤b)):=by
 unfold IV
 by_cases h:n≥a
 ·rw [if_pos h];congr 1;rw [Bool.eq_iff_iff,decide_eq_true_eq,decide_eq_true_eq];omega
 ·rw [if_neg h];congr 1;symm;rw [decide_eq_false_iff_not];omega
def eE(r:R9):Int×Int×Int×Int:=(r.2.2.2.2.1,r.2.2.2.2.2.1,r.2.2.2.2.2.2.1,r.2.2.2.2.2.2.2.1)
theorem rC(N:Nat)(a b w:Int)(x:BitVec 128): ∀k:Nat,k<35→Nv N (k:Int) a b w x=some (if k=10 then(0,127,0,a)else eE (tab9[k]!))
 |0,_=>rfl
 |1,_=>rfl
 |2,_=>rfl
 |3,_=>rfl
 |4,_=>rfl
 |5,_=>rfl
 |6,_=>rfl
 |7,_=>rfl
 |8,_=>rfl
 |9,_=>rfl
 |10,_=>rfl
 |11,_=>rfl
 |12,_=>rfl
 |13,_=>rfl
 |14,_=>rfl
 |15,_=>rfl
 |16,_=>rfl
 |17,_=>rfl
 |18,_=>rfl
 |19,_=>rfl
 |20,_=>rfl
 |21,_=>rfl
 |22,_=>rfl
 |23,_=>rfl
 |24,_=>rfl
 |25,_=>rfl
 |26,_=>rfl
 |27,_=>rfl
 |28,_=>rfl
 |29,_=>rfl
 |30,_=>rfl
 |31,_=>rfl
 |32,_=>rfl
 |33,_=>rfl
 |34,_=>rfl
 |k+35,h=>absurd h (by omega)
theorem nT(N:Nat){o:Int}(h: ¬(0≤o∧o≤34))(a b w:Int)(x:BitVec 128):Nv N o a b w x=some (0,0,0,0):=by
 have e0: ¬o=0:=fun e=>h (by omega)
 have e1: ¬o=1:=fun e=>h (by omega)
 have e2: ¬o=2:=fun e=>h (by omega)
 have e3: ¬o=3:=fun e=>h (by omega)
 have e4: ¬o=4:=fun e=>h (by omega)
 have e5: ¬o=5:=fun e=>h (by omega)
 have e6: ¬o=6:=fun e=>h (by omega)
 have e7: ¬o=7:=fun e=>h (by omega)
 have e8: ¬o=8:=fun e=>h (by omega)
 have e9: ¬o=9:=fun e=>h (by omega)
 have e10: ¬o=10:=fun e=>h (by omega)
 have e11: ¬o=11:=fun e=>h (by omega)
 have e12: ¬o=12:=fun e=>h (by omega)
 have e13: ¬o=13:=fun e=>h (by omega)
 have e14: ¬o=14:=fun e=>h (by omega)
 have e15: ¬o=15:=fun e=>h (by omega)
 have e16: ¬o=16:=fun e=>h (by omega)
 have e17: ¬o=17:=fun e=>h (by omega)
 have e18: ¬o=18:=fun e=>h (by omega)
 have e19: ¬o=19:=fun e=>h (by omega)
 have e20: ¬o=20:=fun e=>h (by omega)
 have e21: ¬o=21:=fun e=>h (by omega)
 have e22: ¬o=22:=fun e=>h (by omega)
 have e23: ¬o=23:=fun e=>h (by omega)
 have e24: ¬o=24:=fun e=>h (by omega)
 have e25: ¬o=25:=fun e=>h (by omega)
 have e26: ¬o=26:=fun e=>h (by omega)
 have e27: ¬o=27:=fun e=>h (by omega)
 have e28: ¬o=28:=fun e=>h (by omega)
 have e29: ¬o=29:=fun e=>h (by omega)
 have e30: ¬o=30:=fun e=>h (by omega)
 have e31: ¬o=31:=fun e=>h (by omega)
 have e32: ¬o=32:=fun e=>h (by omega)
 have e33: ¬o=33:=fun e=>h (by omega)
 have e34: ¬o=34:=fun e=>h (by omega)
 have f0:(o==(0:Int))=false:=beq_eq_false_iff_ne.2 e0
 have f1:(o==(1:Int))=false:=beq_eq_false_iff_ne.2 e1
 have f2:(o==(2:Int))=false:=beq_eq_false_iff_ne.2 e2
 have f3:(o==(3:Int))=false:=beq_eq_false_iff_ne.2 e3
 have f4:(o==(4:Int))=false:=beq_eq_false_iff_ne.2 e4
 have f5:(o==(5:Int))=false:=beq_eq_false_iff_ne.2 e5
 have f6:(o==(6:Int))=false:=beq_eq_false_iff_ne.2 e6
 have f7:(o==(7:Int))=false:=beq_eq_false_iff_ne.2 e7
 have f8:(o==(8:Int))=false:=beq_eq_false_iff_ne.2 e8
 have f9:(o==(9:Int))=false:=beq_eq_false_iff_ne.2 e9
 have f10:(o==(10:Int))=false:=beq_eq_false_iff_ne.2 e10
 have f11:(o==(11:Int))=false:=beq_eq_false_iff_ne.2 e11
 have f12:(o==(12:Int))=false:=beq_eq_false_iff_ne.2 e12
 have f13:(o==(13:Int))=false:=beq_eq_false_iff_ne.2 e13
 have f14:(o==(14:Int))=false:=beq_eq_false_iff_ne.2 e14
 have f15:(o==(15:Int))=false:=beq_eq_false_iff_ne.2 e15
 have f16:(o==(16:Int))=false:=beq_eq_false_iff_ne.2 e16
 have f17:(o==(17:Int))=false:=beq_eq_false_iff_ne.2 e17
 have f18:(o==(18:Int))=false:=beq_eq_false_iff_ne.2 e18
 have f19:(o==(19:Int))=false:=beq_eq_false_iff_ne.2 e19
 have f20:(o==(20:Int))=false:=beq_eq_false_iff_ne.2 e20
 have f21:(o==(21:Int))=false:=beq_eq_false_iff_ne.2 e21
 have f22:(o==(22:Int))=false:=beq_eq_false_iff_ne.2 e22
 have f23:(o==(23:Int))=false:=beq_eq_false_iff_ne.2 e23
 have f24:(o==(24:Int))=false:=beq_eq_false_iff_ne.2 e24
 have f25:(o==(25:Int))=false:=beq_eq_false_iff_ne.2 e25
 have f26:(o==(26:Int))=false:=beq_eq_false_iff_ne.2 e26
 have f27:(o==(27:Int))=false:=beq_eq_false_iff_ne.2 e27
 have f28:(o==(28:Int))=false:=beq_eq_false_iff_ne.2 e28
 have f29:(o==(29:Int))=false:=beq_eq_false_iff_ne.2 e29
 have f30:(o==(30:Int))=false:=beq_eq_false_iff_ne.2 e30
 have f31:(o==(31:Int))=false:=beq_eq_false_iff_ne.2 e31
 have f32:(o==(32:Int))=false:=beq_eq_false_iff_ne.2 e32
 have f33:(o==(33:Int))=false:=beq_eq_false_iff_ne.2 e33
 have f34:(o==(34:Int))=false:=beq_eq_false_iff_ne.2 e34
 simp only [Nv,OQ,OP,MX,LT,Ny,Nx,Nw,e1,e2,e3,e4,e5,e8,e10,e11,e24,e25,e27,e29,e31,e33,f1,f2,f4,f5,f8,f9,f22,f23,f24,f25,f26,f27,f28,f29,f30,f31,f32,if_false,Bool.false_eq_true]
theorem ou(N:Nat)(a b w:Int)(x:BitVec 128): ∀k:Nat,k<35→Qo N (k:Int) a b w x=some (Rs (k:Int) a b w x)
 |0,_=>rfl
 |1,_=>rfl
 |2,_=>rfl
 |3,_=>rfl
 |4,_=>rfl
 |5,_=>rfl
 |6,_=>rfl
 |7,_=>rfl
 |8,_=>rfl
 |9,_=>rfl
 |10,_=>rfl
 |11,_=>rfl
 |12,_=>rfl
 |13,_=>rfl
 |14,_=>rfl
 |15,_=>rfl
 |16,_=>rfl
 |17,_=>rfl
 |18,_=>rfl
 |19,_=>rfl
 |20,_=>rfl
 |21,_=>rfl
 |22,_=>rfl
 |23,_=>rfl
 |24,_=>rfl
 |25,_=>rfl
 |26,_=>rfl
 |27,_=>rfl
 |28,_=>rfl
 |29,_=>rfl
 |30,_=>rfl
 |31,_=>rfl
 |32,_=>rfl
 |33,_=>rfl
 |34,_=>rfl
 |k+35,h=>absurd h (by omega)
theorem jC{o:Int}(h:0≤o∧o≤34): ∃k:Nat,k<35∧o=(k:Int):=⟨o.toNat,by omega,by omega⟩
theorem jb(k:Nat):HW (k:Int)=tab9[k]!:=by unfold HW;rw [q3]
theorem ub(N:Nat)(o a b w:Int)(x:BitVec 128):Nv N o a b w x=some (if 0≤o∧o≤34 then(if o=10 then(0,127,0,a)else eE (HW o))else(0,0,0,0)):=by
 by_cases h:0≤o∧o≤34
 ·obtain⟨k,hk,rfl⟩:=jC h
  rw [rC N a b w x k hk,if_pos h,jb]
  by_cases c:k=10
  ·rw [if_pos c,if_pos (by omega)]
  ·rw [if_neg c,if_neg (by omega)]
 ·rw [nT N h,if_neg h]
theorem sB(N:Nat){o:Int}(h:0≤o∧o≤34)(a b w:Int)(x:BitVec 128):Qo N o a b w x=some (Rs o a b w x):=by
 obtain⟨k,hk,rfl⟩:=jC h
 exact ou N a b w x k hk
theorem jJ(N:Nat)(o a b w:Int)(x:BitVec 128):Ky N o a b w x=some (if o=0 then Ri w x else decide (w=0∧x=0#128)):=by
 unfold Ky
 by_cases c:o=0
 ·rw [if_pos c,if_pos c,io,q0]
 ·rw [if_neg c,if_neg c,zz9]
  congr 1
  rw [Bool.eq_iff_iff,decide_eq_true_eq,Bool.and_eq_true,beq_iff_eq,beq_iff_eq]
theorem jI(N:Nat){o:Int}(h:0≤o∧o≤34)(a b w:Int)(x:BitVec 128)(bad:Bool)
  (hb:bad=decide (a<(HW o).2.2.2.2.1∨(HW o).2.2.2.2.2.1<a∨b<(HW o).2.2.2.2.2.2.1∨(HW o).2.2.2.2.2.2.2.1<b∨(o=10∧a<b))):Mq N o a b w x bad=some (Pi o a b w x):=by
 unfold Mq Pi
 rw [if_pos h]
 by_cases c:a<(HW o).2.2.2.2.1∨(HW o).2.2.2.2.2.1<a∨b<(HW o).2.2.2.2.2.2.1∨(HW o).2.2.2.2.2.2.2.1<b∨(o=10∧a<b)
 ·rw [hb,zf c,if_pos rfl,if_pos c]
 ·rw [hb,ze c,if_neg (by decide),if_neg c,jJ,q0]
  by_cases d:o=0
  ·rw [if_pos d,if_pos d]
   by_cases e:Ri w x=true
   ·rw [if_pos e,if_pos e]
   ·rw [if_neg e,if_neg e]
  ·rw [if_neg d,if_neg d]
   by_cases e:w=0∧x=0#128
   ·rw [zf e,if_pos rfl,if_pos e]
   ·rw [ze e,if_neg (by decide),if_neg e]
theorem tW(N:Nat)(o a b w:Int)(x:BitVec 128):Sc N o a b w x=some (Pi o a b w x):=by
 unfold Sc
 rw [ub,q0,tJ,q0]
 by_cases h:0≤o∧o≤34
 rotate_left
 ·rw [ze h,if_neg (by decide)]
  unfold Pi;rw [if_neg h]
 rw [zf h,if_pos rfl,if_pos h,si,q0]
 have key: ∀(s:Int×Int×Int×Int),(¬(s.1≤a∧a≤s.2.1∧s.2.2.1≤b∧b≤s.2.2.2)↔(a<(HW o).2.2.2.2.1∨(HW o).2.2.2.2.2.1<a∨b<(HW o).2.2.2.2.2.2.1∨(HW o).2.2.2.2.2.2.2.1<b∨(o=10∧a<b)))→
   (if decide (s.1≤a∧a≤s.2.1)=true then(IV N s.2.2.1 s.2.2.2 b).bind fun r25=>Mq N o a b w x (!(r25))else Mq N o a b w x true)=some (Pi o a b w x):=fun s hs=>by
  by_cases c:s.1≤a∧a≤s.2.1
  ·rw [zf c,if_pos rfl,si,q0]
   refine jI N h a b w x _ ?_
   by_cases d:s.2.2.1≤b∧b≤s.2.2.2
   ·rw [zf d,ze (fun q=>hs.2 q ⟨c.1,c.2,d.1,d.2⟩)];rfl
   ·rw [ze d,zf (hs.1 (fun q=>d ⟨q.2.2.1,q.2.2.2⟩))];rfl
  ·rw [ze c,if_neg (by decide)]
   exact jI N h a b w x _ (zf (hs.1 (fun q=>c ⟨q.1,q.2.1⟩))).symm
 by_cases c:o=10
 ·rw [if_pos c]
  refine key (0,127,0,a) ?_
  subst c
  show _↔(a<0∨127<a∨b<0∨127<b∨((10:Int)=10∧a<b))
  show(¬((0:Int)≤a∧a≤127∧(0:Int)≤b∧b≤a))↔_
  omega
 ·rw [if_neg c]
  refine key (eE (HW o)) ?_
  unfold eE
  generalize (HW o).2.2.2.2.1=p1
  generalize (HW o).2.2.2.2.2.1=p2
  generalize (HW o).2.2.2.2.2.2.1=p3
  generalize (HW o).2.2.2.2.2.2.2.1=p4
  show(¬(p1≤a∧a≤p2∧p3≤b∧b≤p4))↔_
  omega
theorem tA(N:Nat)(o a b w:Int)(x:BitVec 128):Qq N o a b w x=some (if Pi o a b w x=0 then Rs o a b w x else .nil,Pi o a b w x):=by
 unfold Qq
 rw [tW,q0]
 by_cases c:Pi o a b w x=0
 ·rw [if_neg (fun q=>q c),if_pos c,sB N (Yf c),q0,c]
 ·rw [if_pos c,if_neg c]
theorem VS(l:List I9): ∀(i:Nat) (d:Int×Int),(∀x∈l,NJ x=0)→WO i l d=d:=by
 induction l with
 |nil=>intro i d _;rfl
 |cons x r ih=>
  intro i d h
  rw [WO,if_neg (fun q=>q (h x (by simp))),ih (i+1) d (fun y hy=>h y (by simp [hy]))]
theorem hZ(r:List I9)(x:I9): ∀(l:List I9) (i:Nat) (d:Int×Int),(∀y∈l,NJ y=0)→WO i (l++x::r) d=WO (i+l.length) (x::r) d:=by
 intro l
 induction l with
 |nil=>intro i d _;rfl
 |cons y l ih=>
  intro i d h
  rw [List.cons_append,WO,if_neg (fun q=>q (h y (by simp))),ih (i+1) d (fun z hz=>h z (by simp [hz])),za]
  congr 1;omega
theorem nW{N:Nat}(l:List I9)(hl:l.length≤1048576): ∀(k f i:Nat),i+k=min l.length 65→k<f→i≤64→(∀x∈l.take i,NJ x=0)→Mr N l f ((l.take i).map EW) (i:Int)=some (Tc l):=by
 intro k
 induction k with
 |zero=>
  intro f i hi hf h64 hok
  obtain⟨f,rfl⟩: ∃n,f=n+1:=⟨f - 1,by omega⟩
  have hi2:i=l.length:=by omega
  subst hi2
  rw [List.take_length] at hok ⊢
  have hb:Ta l=(((l.length:Nat):Int),0):=by
   unfold Ta
   rw [j6 h64,VS l 0 _ hok,if_neg (by omega),Nat.min_eq_left h64]
  rw [Mr,if_neg (by omega)]
  unfold Tc
  rw [hb,if_pos rfl,q8]
 |succ k ih=>
  intro f i hi hf h64 hok
  obtain⟨f,rfl⟩: ∃n,f=n+1:=⟨f - 1,by omega⟩
  have hil:i<l.length:=by omega
  have e1:(i:Int)+1=((i+1:Nat):Int):=by omega
  rw [Mr,if_pos (by omega),Aj _ (by omega)]
  by_cases c:i=64
  ·subst c
   rw [if_pos (by decide)]
   have hb:Ta l=(64,2):=by
    unfold Ta
    rw [VS _ 0 _ hok,if_pos (by omega),Nat.min_eq_right (by omega)];rfl
   unfold Tc
   rw [hb,if_neg (by decide)];rfl
  rw [if_neg (by omega),tA,q0,q3]
  have hsplit:l.take 64=l.take i++l[i]!::(l.take 64).drop (i+1):=by
   have h1:i<(l.take 64).length:=by rw [q7];omega
   conv=>lhs;rw [←zv i (l.take 64)]
   rw [List.take_take,Nat.min_eq_left h64,j5 h1,j4,zg l i hil]
  have hti:(l.take i).length=i:=by rw [q7];omega
  by_cases d:NJ (l[i]!)=0
  ·have d2:Pi (l[i]!).1 (l[i]!).2.1 (l[i]!).2.2.1 (l[i]!).2.2.2.1 (l[i]!).2.2.2.2=0:=d
   have htk:l.take (i+1)=l.take i++ [l[i]!]:=by rw [List.take_succ_eq_append_getElem hil,zg l i hil]
   rw [if_neg (fun q=>q d2),if_pos d2,Aj _ (by rw [q8,hti];show i+1≤_;omega),Aj _ (by omega),e1]
   have hm:(l.take i).map EW++ [Rs (l[i]!).1 (l[i]!).2.1 (l[i]!).2.2.1 (l[i]!).2.2.2.1 (l[i]!).2.2.2.2]=(l.take (i+1)).map EW:=by rw [htk,List.map_append];rfl
   rw [hm]
   refine ih f (i+1) (by omega) (by omega) (by omega) (fun x hx=> ?_)
   rw [htk,List.mem_append,zc] at hx
   rcases hx with hx|rfl
   ·exact hok x hx
   ·exact d
  ·have d2:Pi (l[i]!).1 (l[i]!).2.1 (l[i]!).2.2.1 (l[i]!).2.2.2.1 (l[i]!).2.2.2.2≠0:=d
   rw [if_pos d2]
   have hb:Ta l=((i:Int),NJ (l[i]!)):=by
    unfold Ta
    rw [hsplit,hZ _ _ _ 0 _ hok,hti,WO,if_pos d,q6]
   unfold Tc
   rw [hb,if_neg d];rfl
theorem nV{N:Nat}(hN:20000000<N)(l:List I9)(hl:l.length≤1048576):QB N l=some (Tc l):=by
 unfold QB
 exact nW l hl (min l.length 65) N 0 (by omega) (by omega) (by omega) (fun x hx=>by simp at hx)
theorem ZJ(N:Nat)(s:Aa0):Pu N s=some (ND s):=by cases s<;>rfl
end Go.Proofs.YtoolcgbcfgnipaaGreatDoor
