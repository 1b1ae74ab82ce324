import Derived.Test.YtjlomkippigejaaGreatDoorCb
namespace Go.Proofs.YtjlomkippigejaaGreatDoor
open Go Go.RowKit Go.Eng
theorem vv(N:Nat)(o:Int):Ra N o=some (decide (0<=o/\o<=34)):=by
 unfold Ra
 by_cases h:o>=0
 ·rw [if_pos h];congr 1;rw [Bool.eq_iff_iff,decide_eq_true_eq,decide_eq_true_eq];omega
 ·rw [if_neg h];congr 1;symm;rw [decide_eq_false_iff_not];omega
theorem tY(N:Nat)(a b n:Int):Jw N a b n=some (decide (a<=n/\n<=b)):=by
 unfold Jw
 by_cases h:n>=a
 ·rw [if_pos h];congr 1;rw [Bool.eq_iff_iff,decide_eq_true_eq,decide_eq_true_eq];omega
 ·rw [if_neg h];congr 1;symm;rw [decide_eq_false_iff_not];omega
def gb(r:R9):Int×Int×Int×Int:=(r.2.2.2.2.1,r.2.2.2.2.2.1,r.2.2.2.2.2.2.1,r.2.2.2.2.2.2.2.1)
theorem tw(N:Nat)(a b w:Int)(x:W3): ∀k:Nat,k<35->NY N (k:Int) a b w x=some (if k=10 then(0,127,0,a)else gb (tab9[k]!))
 |0,_=>rfl
 |1,_=>rfl
 |2,_=>rfl
 |3,_=>rfl
 |4,_=>rfl
 |5,_=>rfl
 |6,_=>rfl
 |7,_=>rfl
 |8,_=>rfl
 |9,_=>rfl
 |10,_=>rfl
 |11,_=>rfl
 |12,_=>rfl
 |13,_=>rfl
 |14,_=>rfl
 |15,_=>rfl
 |16,_=>rfl
 |17,_=>rfl
 |18,_=>rfl
 |19,_=>rfl
 |20,_=>rfl
 |21,_=>rfl
 |22,_=>rfl
 |23,_=>rfl
 |24,_=>rfl
 |25,_=>rfl
 |26,_=>rfl
 |27,_=>rfl
 |28,_=>rfl
 |29,_=>rfl
 |30,_=>rfl
 |31,_=>rfl
 |32,_=>rfl
 |33,_=>rfl
 |34,_=>rfl
 |k+35,h=>absurd h (by omega)
theorem pP(N:Nat){o:Int}(h: ¬(0<=o/\o<=34))(a b w:Int)(x:W3):NY N o a b w x=some (0,0,0,0):=by
 have e0: ¬o=0:=λe=>h (by omega)
 have e1: ¬o=1:=λe=>h (by omega)
 have e2: ¬o=2:=λe=>h (by omega)
 have e3: ¬o=3:=λe=>h (by omega)
 have e4: ¬o=4:=λe=>h (by omega)
 have e5: ¬o=5:=λe=>h (by omega)
 have e6: ¬o=6:=λe=>h (by omega)
 have e7: ¬o=7:=λe=>h (by omega)
 have e8: ¬o=8:=λe=>h (by omega)
 have e9: ¬o=9:=λe=>h (by omega)
 have e10: ¬o=10:=λe=>h (by omega)
 have e11: ¬o=11:=λe=>h (by omega)
 have e12: ¬o=12:=λe=>h (by omega)
 have e13: ¬o=13:=λe=>h (by omega)
 have e14: ¬o=14:=λe=>h (by omega)
 have e15: ¬o=15:=λe=>h (by omega)
 have e16: ¬o=16:=λe=>h (by omega)
 have e17: ¬o=17:=λe=>h (by omega)
 have e18: ¬o=18:=λe=>h (by omega)
 have e19: ¬o=19:=λe=>h (by omega)
 have e20: ¬o=20:=λe=>h (by omega)
 have e21: ¬o=21:=λe=>h (by omega)
 have e22: ¬o=22:=λe=>h (by omega)
 have e23: ¬o=23:=λe=>h (by omega)
 have e24: ¬o=24:=λe=>h (by omega)
 have e25: ¬o=25:=λe=>h (by omega)
 have e26: ¬o=26:=λe=>h (by omega)
 have e27: ¬o=27:=λe=>h (by omega)
 have e28: ¬o=28:=λe=>h (by omega)
 have e29: ¬o=29:=λe=>h (by omega)
 have e30: ¬o=30:=λe=>h (by omega)
 have e31: ¬o=31:=λe=>h (by omega)
 have e32: ¬o=32:=λe=>h (by omega)
 have e33: ¬o=33:=λe=>h (by omega)
 have e34: ¬o=34:=λe=>h (by omega)
 have f0:(o==(0:Int))=false:=beq_eq_false_iff_ne.2 e0
 have f1:(o==(1:Int))=false:=beq_eq_false_iff_ne.2 e1
 have f2:(o==(2:Int))=false:=beq_eq_false_iff_ne.2 e2
 have f3:(o==(3:Int))=false:=beq_eq_false_iff_ne.2 e3
 have f4:(o==(4:Int))=false:=beq_eq_false_iff_ne.2 e4
 have f5:(o==(5:Int))=false:=beq_eq_false_iff_ne.2 e5
 have f6:(o==(6:Int))=false:=beq_eq_false_iff_ne.2 e6
 have f7:(o==(7:Int))=false:=beq_eq_false_iff_ne.2 e7
 have f8:(o==(8:Int))=false:=beq_eq_false_iff_ne.2 e8
 have f9:(o==(9:Int))=false:=beq_eq_false_iff_ne.2 e9
 have f10:(o==(10:Int))=false:=beq_eq_false_iff_ne.2 e10
 have f11:(o==(11:Int))=false:=beq_eq_false_iff_ne.2 e11
 have f12:(o==(12:Int))=false:=beq_eq_false_iff_ne.2 e12
 have f13:(o==(13:Int))=false:=beq_eq_false_iff_ne.2 e13
 have f14:(o==(14:Int))=false:=beq_eq_false_iff_ne.2 e14
 have f15:(o==(15:Int))=false:=beq_eq_false_iff_ne.2 e15
 have f16:(o==(16:Int))=false:=beq_eq_false_iff_ne.2 e16
 have f17:(o==(17:Int))=false:=beq_eq_false_iff_ne.2 e17
 have f18:(o==(18:Int))=false:=beq_eq_false_iff_ne.2 e18
 have f19:(o==(19:Int))=false:=beq_eq_false_iff_ne.2 e19
 have f20:(o==(20:Int))=false:=beq_eq_false_iff_ne.2 e20
 have f21:(o==(21:Int))=false:=beq_eq_false_iff_ne.2 e21
 have f22:(o==(22:Int))=false:=beq_eq_false_iff_ne.2 e22
 have f23:(o==(23:Int))=false:=beq_eq_false_iff_ne.2 e23
 have f24:(o==(24:Int))=false:=beq_eq_false_iff_ne.2 e24
 have f25:(o==(25:Int))=false:=beq_eq_false_iff_ne.2 e25
 have f26:(o==(26:Int))=false:=beq_eq_false_iff_ne.2 e26
 have f27:(o==(27:Int))=false:=beq_eq_false_iff_ne.2 e27
 have f28:(o==(28:Int))=false:=beq_eq_false_iff_ne.2 e28
 have f29:(o==(29:Int))=false:=beq_eq_false_iff_ne.2 e29
 have f30:(o==(30:Int))=false:=beq_eq_false_iff_ne.2 e30
 have f31:(o==(31:Int))=false:=beq_eq_false_iff_ne.2 e31
 have f32:(o==(32:Int))=false:=beq_eq_false_iff_ne.2 e32
 have f33:(o==(33:Int))=false:=beq_eq_false_iff_ne.2 e33
 have f34:(o==(34:Int))=false:=beq_eq_false_iff_ne.2 e34
 simp only [NY,Py,Px,NB,Mv,Ob,Oa,NZ,e1,e2,e3,e4,e5,e8,e10,e11,e24,e25,e27,e29,e31,e33,f1,f2,f4,f5,f8,f9,f22,f23,f24,f25,f26,f27,f28,f29,f30,f31,f32,if_false,Bool.false_eq_true]
theorem qk(N:Nat)(a b w:Int)(x:W3): ∀k:Nat,k<35->QZ N (k:Int) a b w x=some (Hq (k:Int) a b w x)
 |0,_=>rfl
 |1,_=>rfl
 |2,_=>rfl
 |3,_=>rfl
 |4,_=>rfl
 |5,_=>rfl
 |6,_=>rfl
 |7,_=>rfl
 |8,_=>rfl
 |9,_=>rfl
 |10,_=>rfl
 |11,_=>rfl
 |12,_=>rfl
 |13,_=>rfl
 |14,_=>rfl
 |15,_=>rfl
 |16,_=>rfl
 |17,_=>rfl
 |18,_=>rfl
 |19,_=>rfl
 |20,_=>rfl
 |21,_=>rfl
 |22,_=>rfl
 |23,_=>rfl
 |24,_=>rfl
 |25,_=>rfl
 |26,_=>rfl
 |27,_=>rfl
 |28,_=>rfl
 |29,_=>rfl
 |30,_=>rfl
 |31,_=>rfl
 |32,_=>rfl
 |33,_=>rfl
 |34,_=>rfl
 |k+35,h=>absurd h (by omega)
theorem kZ{o:Int}(h:0<=o/\o<=34): ∃k:Nat,k<35/\o=(k:Int):=⟨o.toNat,by omega,by omega⟩
theorem kz(k:Nat):HZ (k:Int)=tab9[k]!:=by unfold HZ;rw [q3]
theorem vZ(N:Nat)(o a b w:Int)(x:W3):NY N o a b w x=some (if 0<=o/\o<=34 then(if o=10 then(0,127,0,a)else gb (HZ o))else(0,0,0,0)):=by
 by_cases h:0<=o/\o<=34
 ·obtain⟨k,hk,rfl⟩:=kZ h
  rw [tw N a b w x k hk,if_pos h,kz]
  by_cases c:k=10
  ·rw [if_pos c,if_pos (by omega)]
  ·rw [if_neg c,if_neg (by omega)]
 ·rw [pP N h,if_neg h]
theorem um(N:Nat){o:Int}(h:0<=o/\o<=34)(a b w:Int)(x:W3):QZ N o a b w x=some (Hq o a b w x):=by
 obtain⟨k,hk,rfl⟩:=kZ h
 exact qk N a b w x k hk
theorem lk(N:Nat)(o a b w:Int)(x:W3):KW N o a b w x=some (if o=0 then RY w x else decide (w=0/\x=0#128)):=by
 unfold KW
 by_cases c:o=0
 ·rw [if_pos c,if_pos c,jP,q0]
 ·rw [if_neg c,if_neg c,zz9]
  congr 1
  rw [Bool.eq_iff_iff,decide_eq_true_eq,Bool.and_eq_true,beq_iff_eq,beq_iff_eq]
theorem lj(N:Nat){o:Int}(h:0<=o/\o<=34)(a b w:Int)(x:W3)(bad:Bool)
  (hb:bad=decide (a<(HZ o).2.2.2.2.1\/(HZ o).2.2.2.2.2.1<a\/b<(HZ o).2.2.2.2.2.2.1\/(HZ o).2.2.2.2.2.2.2.1<b\/(o=10/\a<b))):MS N o a b w x bad=some (OL o a b w x):=by
 unfold MS OL
 rw [if_pos h]
 by_cases c:a<(HZ o).2.2.2.2.1\/(HZ o).2.2.2.2.2.1<a\/b<(HZ o).2.2.2.2.2.2.1\/(HZ o).2.2.2.2.2.2.2.1<b\/(o=10/\a<b)
 ·rw [hb,zf c,if_pos Z,if_pos c]
 ·rw [hb,ze c,if_neg (by decide),if_neg c,lk,q0]
  by_cases d:o=0
  ·rw [if_pos d,if_pos d]
   by_cases e:RY w x=true
   ·rw [if_pos e,if_pos e]
   ·rw [if_neg e,if_neg e]
  ·rw [if_neg d,if_neg d]
   by_cases e:w=0/\x=0#128
   ·rw [zf e,if_pos Z,if_pos e]
   ·rw [ze e,if_neg (by decide),if_neg e]
theorem vV(N:Nat)(o a b w:Int)(x:W3):Td N o a b w x=some (OL o a b w x):=by
 unfold Td
 rw [vZ,q0,vv,q0]
 by_cases h:0<=o/\o<=34
 rotate_left
 ·rw [ze h,if_neg (by decide)]
  unfold OL;rw [if_neg h]
 rw [zf h,if_pos Z,if_pos h,tY,q0]
 have key: ∀(s:Int×Int×Int×Int),(¬(s.1<=a/\a<=s.2.1/\s.2.2.1<=b/\b<=s.2.2.2)↔(a<(HZ o).2.2.2.2.1\/(HZ o).2.2.2.2.2.1<a\/b<(HZ o).2.2.2.2.2.2.1\/(HZ o).2.2.2.2.2.2.2.1<b\/(o=10/\a<b)))->
   (if decide (s.1<=a/\a<=s.2.1)=true then(Jw N s.2.2.1 s.2.2.2 b).bind λr25=>MS N o a b w x (!(r25))else MS N o a b w x true)=some (OL o a b w x):=λs hs=>by
  by_cases c:s.1<=a/\a<=s.2.1
  ·rw [zf c,if_pos Z,tY,q0]
   refine lj N h a b w x _ ?_
   by_cases d:s.2.2.1<=b/\b<=s.2.2.2
   ·rw [zf d,ze (λq=>hs.2 q ⟨c.1,c.2,d.1,d.2⟩)];rfl
   ·rw [ze d,zf (hs.1 (λq=>d ⟨q.2.2.1,q.2.2.2⟩))];rfl
  ·rw [ze c,if_neg (by decide)]
   exact lj N h a b w x _ (zf (hs.1 (λq=>c ⟨q.1,q.2.1⟩))).symm
 by_cases c:o=10
 ·rw [if_pos c]
  refine key (0,127,0,a) ?_
  subst c
  show _↔(a<0\/127<a\/b<0\/127<b\/((10:Int)=10/\a<b))
  show(¬((0:Int)<=a/\a<=127/\(0:Int)<=b/\b<=a))↔_
  omega
 ·rw [if_neg c]
  refine key (gb (HZ o)) ?_
  unfold gb
  generalize (HZ o).2.2.2.2.1=p1
  generalize (HZ o).2.2.2.2.2.1=p2
  generalize (HZ o).2.2.2.2.2.2.1=p3
  generalize (HZ o).2.2.2.2.2.2.2.1=p4
  show(¬(p1<=a/\a<=p2/\p3<=b/\b<=p4))↔_
  omega
theorem vi(N:Nat)(o a b w:Int)(x:W3):Rb N o a b w x=some (if OL o a b w x=0 then Hq o a b w x else .nil,OL o a b w x):=by
 unfold Rb
 rw [vV,q0]
 by_cases c:OL o a b w x=0
 ·rw [if_neg (λq=>q c),if_pos c,um N (SG c),q0,c]
 ·rw [if_pos c,if_neg c]
theorem WY(l:List I9): ∀(i:Nat) (d:Int×Int),(∀x∈l,NI x=0)->Yp i l d=d:=by
 induction l with
 |nil=>intro i d _;rfl
 |cons x r ih=>
  intro i d h
  rw [Yp,if_neg (λq=>q (h x (by simp))),ih (i+1) d (λy hy=>h y (by simp [hy]))]
theorem jF(r:List I9)(x:I9): ∀(l:List I9) (i:Nat) (d:Int×Int),(∀y∈l,NI y=0)->Yp i (l++x::r) d=Yp (i+l.length) (x::r) d:=by
 intro l
 induction l with
 |nil=>intro i d _;rfl
 |cons y l ih=>
  intro i d h
  rw [List.cons_append,Yp,if_neg (λq=>q (h y (by simp))),ih (i+1) d (λz hz=>h z (by simp [hz])),za]
  congr 1;omega
theorem pS{N:Nat}(l:List I9)(hl:l.length<=1048576): ∀(k f i:Nat),i+k=min l.length 65->k<f->i<=64->(∀x∈l.take i,NI x=0)->MT N l f ((l.take i).map Ev) (i:Int)=some (Ub l):=by
 intro k
 induction k with
 |zero=>
  intro f i hi hf h64 hok
  obtain⟨f,rfl⟩: ∃n,f=n+1:=⟨f - 1,by omega⟩
  have hi2:i=l.length:=by omega
  subst hi2
  rw [List.take_length] at hok ⊢
  have hb:TZ l=(((l.length:Nat):Int),0):=by
   unfold TZ
   rw [j6 h64,WY l 0 _ hok,if_neg (by omega),Nat.min_eq_left h64]
  rw [MT,if_neg (by omega)]
  unfold Ub
  rw [hb,if_pos Z,q8]
 |succ k ih=>
  intro f i hi hf h64 hok
  obtain⟨f,rfl⟩: ∃n,f=n+1:=⟨f - 1,by omega⟩
  have hil:i<l.length:=by omega
  have e1:(i:Int)+1=((i+1:Nat):Int):=by omega
  rw [MT,if_pos (by omega),Af _ (by omega)]
  by_cases c:i=64
  ·subst c
   rw [if_pos (by decide)]
   have hb:TZ l=(64,2):=by
    unfold TZ
    rw [WY _ 0 _ hok,if_pos (by omega),Nat.min_eq_right (by omega)];rfl
   unfold Ub
   rw [hb,if_neg (by decide)];rfl
  rw [if_neg (by omega),vi,q0,q3]
  have hsplit:l.take 64=l.take i++l[i]!::(l.take 64).drop (i+1):=by
   have h1:i<(l.take 64).length:=by rw [q7];omega
   conv=>lhs;rw [<-zv i (l.take 64)]
   rw [List.take_take,Nat.min_eq_left h64,j5 h1,j4,zg l i hil]
  have hti:(l.take i).length=i:=by rw [q7];omega
  by_cases d:NI (l[i]!)=0
  ·have d2:OL (l[i]!).1 (l[i]!).2.1 (l[i]!).2.2.1 (l[i]!).2.2.2.1 (l[i]!).2.2.2.2=0:=d
   have htk:l.take (i+1)=l.take i++ [l[i]!]:=by rw [List.take_succ_eq_append_getElem hil,zg l i hil]
   rw [if_neg (λq=>q d2),if_pos d2,Af _ (by rw [q8,hti];show i+1<=_;omega),Af _ (by omega),e1]
   have hm:(l.take i).map Ev++ [Hq (l[i]!).1 (l[i]!).2.1 (l[i]!).2.2.1 (l[i]!).2.2.2.1 (l[i]!).2.2.2.2]=(l.take (i+1)).map Ev:=by rw [htk,List.map_append];rfl
   rw [hm]
   refine ih f (i+1) (by omega) (by omega) (by omega) (λx hx=> ?_)
   rw [htk,List.mem_append,zc] at hx
   rcases hx with hx|rfl
   ·exact hok x hx
   ·exact d
  ·have d2:OL (l[i]!).1 (l[i]!).2.1 (l[i]!).2.2.1 (l[i]!).2.2.2.1 (l[i]!).2.2.2.2≠0:=d
   rw [if_pos d2]
   have hb:TZ l=((i:Int),NI (l[i]!)):=by
    unfold TZ
    rw [hsplit,jF _ _ _ 0 _ hok,hti,Yp,if_pos d,q6]
   unfold Ub
   rw [hb,if_neg d];rfl
theorem pR{N:Nat}(hN:20000000<N)(l:List I9)(hl:l.length<=1048576):Rs N l=some (Ub l):=by
 unfold Rs
 exact pS l hl (min l.length 65) N 0 (by omega) (by omega) (by omega) (λx hx=>by simp at hx)
theorem bq(N:Nat)(s:Aa0):Qc N s=some (Og s):=by cases s<;>rfl
end Go.Proofs.YtjlomkippigejaaGreatDoor
