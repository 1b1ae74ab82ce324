import Derived.Test.YtjnanfkpdhmnpaaGreatDoorCb
namespace Go.Proofs.YtjnanfkpdhmnpaaGreatDoor
open Go Go.RowKit Go.Eng
theorem wJ(N:Nat)(o:Int):RD N o=some (decide (0<=o/\o<=34)):=by
 unfold RD
 by_cases h:o>=0
 ·rw [V8 h];congr 1;rw [Bool.eq_iff_iff,decide_eq_true_eq,decide_eq_true_eq];omega
 ·rw [V9 h];congr 1;symm;rw [decide_eq_false_iff_not];omega
theorem vj(N:Nat)(a b n:Int):JM N a b n=some (decide (a<=n/\n<=b)):=by
 unfold JM
 by_cases h:n>=a
 ·rw [V8 h];congr 1;rw [Bool.eq_iff_iff,decide_eq_true_eq,decide_eq_true_eq];omega
 ·rw [V9 h];congr 1;symm;rw [decide_eq_false_iff_not];omega
def gO(r:R9):Int×Int×Int×Int:=(r.2.2.2.2.1,r.2.2.2.2.2.1,r.2.2.2.2.2.2.1,r.2.2.2.2.2.2.2.1)
theorem uH(N:Nat)(a b w:Int)(x:W3): ∀k:Nat,k<35->Ou N (k:Int) a b w x=some (if k=10 then(0,127,0,a)else gO (tab9[k]!))
 |0,_=>rfl
 |1,_=>rfl
 |2,_=>rfl
 |3,_=>rfl
 |4,_=>rfl
 |5,_=>rfl
 |6,_=>rfl
 |7,_=>rfl
 |8,_=>rfl
 |9,_=>rfl
 |10,_=>rfl
 |11,_=>rfl
 |12,_=>rfl
 |13,_=>rfl
 |14,_=>rfl
 |15,_=>rfl
 |16,_=>rfl
 |17,_=>rfl
 |18,_=>rfl
 |19,_=>rfl
 |20,_=>rfl
 |21,_=>rfl
 |22,_=>rfl
 |23,_=>rfl
 |24,_=>rfl
 |25,_=>rfl
 |26,_=>rfl
 |27,_=>rfl
 |28,_=>rfl
 |29,_=>rfl
 |30,_=>rfl
 |31,_=>rfl
 |32,_=>rfl
 |33,_=>rfl
 |34,_=>rfl
 |k+35,h=>absurd h (by omega)
theorem qW(N:Nat){o:Int}(h: ¬(0<=o/\o<=34))(a b w:Int)(x:W3):Ou N o a b w x=some (0,0,0,0):=by
 have e0: ¬o=0:=λe=>h (by omega)
 have e1: ¬o=1:=λe=>h (by omega)
 have e2: ¬o=2:=λe=>h (by omega)
 have e3: ¬o=3:=λe=>h (by omega)
 have e4: ¬o=4:=λe=>h (by omega)
 have e5: ¬o=5:=λe=>h (by omega)
 have e6: ¬o=6:=λe=>h (by omega)
 have e7: ¬o=7:=λe=>h (by omega)
 have e8: ¬o=8:=λe=>h (by omega)
 have e9: ¬o=9:=λe=>h (by omega)
 have e10: ¬o=10:=λe=>h (by omega)
 have e11: ¬o=11:=λe=>h (by omega)
 have e12: ¬o=12:=λe=>h (by omega)
 have e13: ¬o=13:=λe=>h (by omega)
 have e14: ¬o=14:=λe=>h (by omega)
 have e15: ¬o=15:=λe=>h (by omega)
 have e16: ¬o=16:=λe=>h (by omega)
 have e17: ¬o=17:=λe=>h (by omega)
 have e18: ¬o=18:=λe=>h (by omega)
 have e19: ¬o=19:=λe=>h (by omega)
 have e20: ¬o=20:=λe=>h (by omega)
 have e21: ¬o=21:=λe=>h (by omega)
 have e22: ¬o=22:=λe=>h (by omega)
 have e23: ¬o=23:=λe=>h (by omega)
 have e24: ¬o=24:=λe=>h (by omega)
 have e25: ¬o=25:=λe=>h (by omega)
 have e26: ¬o=26:=λe=>h (by omega)
 have e27: ¬o=27:=λe=>h (by omega)
 have e28: ¬o=28:=λe=>h (by omega)
 have e29: ¬o=29:=λe=>h (by omega)
 have e30: ¬o=30:=λe=>h (by omega)
 have e31: ¬o=31:=λe=>h (by omega)
 have e32: ¬o=32:=λe=>h (by omega)
 have e33: ¬o=33:=λe=>h (by omega)
 have e34: ¬o=34:=λe=>h (by omega)
 have f0:(o==(0:Int))=false:=beq_eq_false_iff_ne.2 e0
 have f1:(o==(1:Int))=false:=beq_eq_false_iff_ne.2 e1
 have f2:(o==(2:Int))=false:=beq_eq_false_iff_ne.2 e2
 have f3:(o==(3:Int))=false:=beq_eq_false_iff_ne.2 e3
 have f4:(o==(4:Int))=false:=beq_eq_false_iff_ne.2 e4
 have f5:(o==(5:Int))=false:=beq_eq_false_iff_ne.2 e5
 have f6:(o==(6:Int))=false:=beq_eq_false_iff_ne.2 e6
 have f7:(o==(7:Int))=false:=beq_eq_false_iff_ne.2 e7
 have f8:(o==(8:Int))=false:=beq_eq_false_iff_ne.2 e8
 have f9:(o==(9:Int))=false:=beq_eq_false_iff_ne.2 e9
 have f10:(o==(10:Int))=false:=beq_eq_false_iff_ne.2 e10
 have f11:(o==(11:Int))=false:=beq_eq_false_iff_ne.2 e11
 have f12:(o==(12:Int))=false:=beq_eq_false_iff_ne.2 e12
 have f13:(o==(13:Int))=false:=beq_eq_false_iff_ne.2 e13
 have f14:(o==(14:Int))=false:=beq_eq_false_iff_ne.2 e14
 have f15:(o==(15:Int))=false:=beq_eq_false_iff_ne.2 e15
 have f16:(o==(16:Int))=false:=beq_eq_false_iff_ne.2 e16
 have f17:(o==(17:Int))=false:=beq_eq_false_iff_ne.2 e17
 have f18:(o==(18:Int))=false:=beq_eq_false_iff_ne.2 e18
 have f19:(o==(19:Int))=false:=beq_eq_false_iff_ne.2 e19
 have f20:(o==(20:Int))=false:=beq_eq_false_iff_ne.2 e20
 have f21:(o==(21:Int))=false:=beq_eq_false_iff_ne.2 e21
 have f22:(o==(22:Int))=false:=beq_eq_false_iff_ne.2 e22
 have f23:(o==(23:Int))=false:=beq_eq_false_iff_ne.2 e23
 have f24:(o==(24:Int))=false:=beq_eq_false_iff_ne.2 e24
 have f25:(o==(25:Int))=false:=beq_eq_false_iff_ne.2 e25
 have f26:(o==(26:Int))=false:=beq_eq_false_iff_ne.2 e26
 have f27:(o==(27:Int))=false:=beq_eq_false_iff_ne.2 e27
 have f28:(o==(28:Int))=false:=beq_eq_false_iff_ne.2 e28
 have f29:(o==(29:Int))=false:=beq_eq_false_iff_ne.2 e29
 have f30:(o==(30:Int))=false:=beq_eq_false_iff_ne.2 e30
 have f31:(o==(31:Int))=false:=beq_eq_false_iff_ne.2 e31
 have f32:(o==(32:Int))=false:=beq_eq_false_iff_ne.2 e32
 have f33:(o==(33:Int))=false:=beq_eq_false_iff_ne.2 e33
 have f34:(o==(34:Int))=false:=beq_eq_false_iff_ne.2 e34
 simp only [Ou,PZ,PY,NW,MO,Ox,Ow,Ov,e1,e2,e3,e4,e5,e8,e10,e11,e24,e25,e27,e29,e31,e33,f1,f2,f4,f5,f8,f9,f22,f23,f24,f25,f26,f27,f28,f29,f30,f31,f32,if_false,Bool.false_eq_true]
theorem rB(N:Nat)(a b w:Int)(x:W3): ∀k:Nat,k<35->RC N (k:Int) a b w x=some (SQ (k:Int) a b w x)
 |0,_=>rfl
 |1,_=>rfl
 |2,_=>rfl
 |3,_=>rfl
 |4,_=>rfl
 |5,_=>rfl
 |6,_=>rfl
 |7,_=>rfl
 |8,_=>rfl
 |9,_=>rfl
 |10,_=>rfl
 |11,_=>rfl
 |12,_=>rfl
 |13,_=>rfl
 |14,_=>rfl
 |15,_=>rfl
 |16,_=>rfl
 |17,_=>rfl
 |18,_=>rfl
 |19,_=>rfl
 |20,_=>rfl
 |21,_=>rfl
 |22,_=>rfl
 |23,_=>rfl
 |24,_=>rfl
 |25,_=>rfl
 |26,_=>rfl
 |27,_=>rfl
 |28,_=>rfl
 |29,_=>rfl
 |30,_=>rfl
 |31,_=>rfl
 |32,_=>rfl
 |33,_=>rfl
 |34,_=>rfl
 |k+35,h=>absurd h (by omega)
theorem mq{o:Int}(h:0<=o/\o<=34): ∃k:Nat,k<35/\o=(k:Int):=⟨o.toNat,by omega,by omega⟩
theorem lG(k:Nat):IS (k:Int)=tab9[k]!:=by unfold IS;rw [q4]
theorem xe(N:Nat)(o a b w:Int)(x:W3):Ou N o a b w x=some (if 0<=o/\o<=34 then(if o=10 then(0,127,0,a)else gO (IS o))else(0,0,0,0)):=by
 by_cases h:0<=o/\o<=34
 ·obtain⟨k,hk,rfl⟩:=mq h
  rw [uH N a b w x k hk,V8 h,lG]
  by_cases c:k=10
  ·rw [V8 c,V8 (by omega)]
  ·rw [V9 c,V9 (by omega)]
 ·rw [qW N h,V9 h]
theorem vD(N:Nat){o:Int}(h:0<=o/\o<=34)(a b w:Int)(x:W3):RC N o a b w x=some (SQ o a b w x):=by
 obtain⟨k,hk,rfl⟩:=mq h
 exact rB N a b w x k hk
theorem mC(N:Nat)(o a b w:Int)(x:W3):Lx N o a b w x=some (if o=0 then SE w x else decide (w=0/\x=0#128)):=by
 unfold Lx
 by_cases c:o=0
 ·rw [V8 c,V8 c,kY,q0]
 ·rw [V9 c,V9 c,zz9]
  congr 1
  rw [Bool.eq_iff_iff,decide_eq_true_eq,Bool.and_eq_true,beq_iff_eq,beq_iff_eq]
theorem mB(N:Nat){o:Int}(h:0<=o/\o<=34)(a b w:Int)(x:W3)(bad:Y3)(hb:bad=decide (a<(IS o).2.2.2.2.1\/(IS o).2.2.2.2.2.1<a\/b<(IS o).2.2.2.2.2.2.1\/(IS o).2.2.2.2.2.2.2.1<b\/(o=10/\a<b))):No N o a b w x bad=some (Qt o a b w x):=by
 unfold No Qt
 rw [V8 h]
 by_cases c:a<(IS o).2.2.2.2.1\/(IS o).2.2.2.2.2.1<a\/b<(IS o).2.2.2.2.2.2.1\/(IS o).2.2.2.2.2.2.2.1<b\/(o=10/\a<b)
 ·rw [hb,zl c,V8 Z,V8 c]
 ·rw [hb,zk c,V9 (by decide),V9 c,mC,q0]
  by_cases d:o=0
  ·rw [V8 d,V8 d]
   by_cases e:SE w x=true
   ·rw [V8 e,V8 e]
   ·rw [V9 e,V9 e]
  ·rw [V9 d,V9 d]
   by_cases e:w=0/\x=0#128
   ·rw [zl e,V8 Z,V8 e]
   ·rw [zk e,V9 (by decide),V9 e]
theorem wY(N:Nat)(o a b w:Int)(x:W3):TE N o a b w x=some (Qt o a b w x):=by
 unfold TE
 rw [xe,q0,wJ,q0]
 by_cases h:0<=o/\o<=34
 rotate_left
 ·rw [zk h,V9 (by decide)]
  unfold Qt;rw [V9 h]
 rw [zl h,V8 Z,V8 h,vj,q0]
 have key: ∀(s:Int×Int×Int×Int),(¬(s.1<=a/\a<=s.2.1/\s.2.2.1<=b/\b<=s.2.2.2)↔(a<(IS o).2.2.2.2.1\/(IS o).2.2.2.2.2.1<a\/b<(IS o).2.2.2.2.2.2.1\/(IS o).2.2.2.2.2.2.2.1<b\/(o=10/\a<b)))->
   (if decide (s.1<=a/\a<=s.2.1)=true then(JM N s.2.2.1 s.2.2.2 b).bind λr25=>No N o a b w x (!(r25))else No N o a b w x true)=some (Qt o a b w x):=λs hs=>by
  by_cases c:s.1<=a/\a<=s.2.1
  ·rw [zl c,V8 Z,vj,q0]
   refine mB N h a b w x _ ?_
   by_cases d:s.2.2.1<=b/\b<=s.2.2.2
   ·rw [zl d,zk (λq=>hs.2 q ⟨c.1,c.2,d.1,d.2⟩)];rfl
   ·rw [zk d,zl (hs.1 (λq=>d ⟨q.2.2.1,q.2.2.2⟩))];rfl
  ·rw [zk c,V9 (by decide)]
   exact mB N h a b w x _ (zl (hs.1 (λq=>c ⟨q.1,q.2.1⟩))).symm
 by_cases c:o=10
 ·rw [V8 c]
  refine key (0,127,0,a) ?_
  subst c
  show _↔(a<0\/127<a\/b<0\/127<b\/((10:Int)=10/\a<b))
  show(¬((0:Int)<=a/\a<=127/\(0:Int)<=b/\b<=a))↔_
  omega
 ·rw [V9 c]
  refine key (gO (IS o)) ?_
  unfold gO
  generalize (IS o).2.2.2.2.1=p1
  generalize (IS o).2.2.2.2.2.1=p2
  generalize (IS o).2.2.2.2.2.2.1=p3
  generalize (IS o).2.2.2.2.2.2.2.1=p4
  show(¬(p1<=a/\a<=p2/\p3<=b/\b<=p4))↔_
  omega
theorem wA(N:Nat)(o a b w:Int)(x:W3):RE N o a b w x=some (if Qt o a b w x=0 then SQ o a b w x else .nil,Qt o a b w x):=by
 unfold RE
 rw [wY,q0]
 by_cases c:Qt o a b w x=0
 ·rw [V9 (λq=>q c),V8 c,vD N (ar c),q0,c]
 ·rw [V8 c,V9 c]
theorem Xx(l:Y0 I9): ∀(i:Nat) (d:Int×Int),(∀x∈l,OL x=0)->YN i l d=d:=by
 induction l with
 |nil=>intro i d _;rfl
 |cons x r ih=>
  intro i d h
  rw [YN,V9 (λq=>q (h x (by simp))),ih (i+1) d (λy hy=>h y (by simp [hy]))]
theorem kM(r:Y0 I9)(x:I9): ∀(l:Y0 I9) (i:Nat) (d:Int×Int),(∀y∈l,OL y=0)->YN i (l++x::r) d=YN (i+l.length) (x::r) d:=by
 intro l
 induction l with
 |nil=>intro i d _;rfl
 |cons y l ih=>
  intro i d h
  rw [List.cons_append,YN,V9 (λq=>q (h y (by simp))),ih (i+1) d (λz hz=>h z (by simp [hz])),zg]
  congr 1;omega
theorem qZ{N:Nat}(l:Y0 I9)(hl:l.length<=1048576): ∀(k f i:Nat),i+k=min l.length 65->k<f->i<=64->(∀x∈l.take i,OL x=0)->Np N l f ((l.take i).map FM) (i:Int)=some (Uy l):=by
 intro k
 induction k with
 |zero=>
  intro f i hi hf h64 hok
  obtain⟨f,rfl⟩: ∃n,f=n+1:=⟨f - 1,by omega⟩
  have hi2:i=l.length:=by omega
  subst hi2
  rw [List.take_length] at hok ⊢
  have hb:Uw l=(((l.length:Nat):Int),0):=by
   unfold Uw
   rw [y4 h64,Xx l 0 _ hok,V9 (by omega),Nat.min_eq_left h64]
  rw [Np,V9 (by omega)]
  unfold Uy
  rw [hb,V8 Z,q9]
 |succ k ih=>
  intro f i hi hf h64 hok
  obtain⟨f,rfl⟩: ∃n,f=n+1:=⟨f - 1,by omega⟩
  have hil:i<l.length:=by omega
  have e1:(i:Int)+1=((i+1:Nat):Int):=by omega
  rw [Np,V8 (by omega),Af _ (by omega)]
  by_cases c:i=64
  ·subst c
   rw [V8 (by decide)]
   have hb:Uw l=(64,2):=by
    unfold Uw
    rw [Xx _ 0 _ hok,V8 (by omega),Nat.min_eq_right (by omega)];rfl
   unfold Uy
   rw [hb,V9 (by decide)];rfl
  rw [V9 (by omega),wA,q0,q4]
  have hsplit:l.take 64=l.take i++l[i]!::(l.take 64).drop (i+1):=by
   have h1:i<(l.take 64).length:=by rw [q8];omega
   conv=>lhs;rw [<-j3 i (l.take 64)]
   rw [List.take_take,Nat.min_eq_left h64,y3 h1,y2,zm l i hil]
  have hti:(l.take i).length=i:=by rw [q8];omega
  by_cases d:OL (l[i]!)=0
  ·have d2:Qt (l[i]!).1 (l[i]!).2.1 (l[i]!).2.2.1 (l[i]!).2.2.2.1 (l[i]!).2.2.2.2=0:=d
   have htk:l.take (i+1)=l.take i++ [l[i]!]:=by rw [List.take_succ_eq_append_getElem hil,zm l i hil]
   rw [V9 (λq=>q d2),V8 d2,Af _ (by rw [q9,hti];show i+1<=_;omega),Af _ (by omega),e1]
   have hm:(l.take i).map FM++ [SQ (l[i]!).1 (l[i]!).2.1 (l[i]!).2.2.1 (l[i]!).2.2.2.1 (l[i]!).2.2.2.2]=(l.take (i+1)).map FM:=by rw [htk,List.map_append];rfl
   rw [hm]
   refine ih f (i+1) (by omega) (by omega) (by omega) (λx hx=> ?_)
   rw [htk,List.mem_append,zi] at hx
   rcases hx with hx|rfl
   ·exact hok x hx
   ·exact d
  ·have d2:Qt (l[i]!).1 (l[i]!).2.1 (l[i]!).2.2.1 (l[i]!).2.2.2.1 (l[i]!).2.2.2.2≠0:=d
   rw [V8 d2]
   have hb:Uw l=((i:Int),OL (l[i]!)):=by
    unfold Uw
    rw [hsplit,kM _ _ _ 0 _ hok,hti,YN,V8 d,q7]
   unfold Uy
   rw [hb,V9 d];rfl
theorem qY{N:Nat}(hN:20000000<N)(l:Y0 I9)(hl:l.length<=1048576):RR N l=some (Uy l):=by
 unfold RR
 exact qZ l hl (min l.length 65) N 0 (by omega) (by omega) (by omega) (λx hx=>by simp at hx)
theorem bP(N:Nat)(s:Aa1):QG N s=some (OD s):=by cases s<;>rfl
end Go.Proofs.YtjnanfkpdhmnpaaGreatDoor
