import Derived.Test.YtoolcgbcfgnipaaGreatDoorHa
import Derived.Test.YtoolcgbcfgnipaaGreatDoorRx
namespace Go.Proofs.YtoolcgbcfgnipaaGreatDoor
open Go Go.RowKit Go.Eng
abbrev Ins:=List UInt8×Int×Int
abbrev Hd:=(List UInt8)×(List (List UInt8×Int))×Int×Int×Int×Int
theorem ae{l:List Fd}(h:okW l)(i:Nat):okW (l.take i):=fun x hx=>h x (List.mem_of_mem_take hx)
theorem XX(h1:List Fd)(hw:okW h1)(hl:h1.length≤1048576): ∀(k f i:Nat),i+k=h1.length→k<f→BX h1 f (Jl (h1.take i)) (i:Int)=some (Jl h1):=by
 intro k
 induction k with
 |zero=>
  intro f i hi hf
  obtain⟨f,rfl⟩: ∃n,f=n+1:=⟨f - 1,by omega⟩
  rw [BX,if_neg (by omega),j6 (by omega)]
 |succ k ih=>
  intro f i hi hf
  obtain⟨f,rfl⟩: ∃n,f=n+1:=⟨f - 1,by omega⟩
  have e1:(i:Int)+1=((i+1:Nat):Int):=by omega
  have es:Jl (h1.take i)+(h1[i]!).2=Jl (h1.take (i+1)):=by rw [QK h1 i (by omega),Ue];simp [Jl]
  have hs:=NI _ (ae hw (i+1))
  have hlt:(h1.take (i+1)).length≤1048576:=by rw [q7];omega
  rw [BX,if_pos (by omega),Aj _ (by omega),q3,es,Aj _ (by omega),Aj _ (by omega),e1]
  exact ih f (i+1) (by omega) (by omega)
theorem gp(N:Nat)(hN:20000000<N)(h0:List UInt8)(h1:List Fd)(h2 h3 h4 h5:Int)(hw:okW h1)(hl:h1.length≤1048576):FO N h0 h1 h2 h3 h4 h5=some (Jl h1):=
 XX h1 hw hl h1.length N 0 (by omega) (by omega)
theorem eY{h0:List UInt8}{h1:List Fd}{h2 h3 h4 h5:Int}(h:Rh h0 h1 h2 h3 h4 h5=0):okW h1∧Jl h1%8=0∧h1.length≤16∧1≤h1.length∧cW h1 h2 h3 h4 h5=true:=by
 unfold Rh at h
 by_cases c1:JD h0=true
 ·rw [if_pos c1] at h
  by_cases c2:16<h1.length
  ·rw [if_pos c2] at h;omega
  rw [if_neg c2] at h
  by_cases c3:h1.length=0
  ·rw [if_pos c3] at h;omega
  rw [if_neg c3] at h
  unfold kw at h
  by_cases c4:goF [] h1=0
  ·rw [if_pos c4] at h
   unfold ZK at h
   by_cases c5:Jl h1%8≠0
   ·rw [if_pos c5] at h;omega
   rw [if_neg c5] at h
   by_cases c6:cW h1 h2 h3 h4 h5=true
   ·exact⟨dL _ _ c4,by omega,by omega,by omega,c6⟩
   ·rw [if_neg c6] at h;omega
  ·rw [if_neg c4] at h;omega
 ·rw [if_neg c1] at h;omega
def dep(d:Int):Nat:=if 0≤d∧d≤4 then(max d 1).toNat else 0
def DY:Nat→List Ins→List (Int×Int)
 |_,[]=> []
 |i,x::r=>(List.range (dep x.2.2)).map (fun k:Nat=>((i:Int),(k:Int)))++DY (i+1) r
def total(l:List Ins):Nat:=(l.map (fun x=>dep x.2.2)).sum
def ofF:Nat→List Ins→Int→Int×Int×Bool
 |_,[],_=>(0,0,false)
 |i,x::r,k=>if k<(dep x.2.2:Int)then((i:Int),k,true)else ofF (i+1) r (k - (dep x.2.2:Int))
def ofL(l:List Ins)(k:Int):Int×Int×Bool:=if k<0 then(0,0,false)else ofF 0 l k
theorem kM(d:Int):dep d≤4:=by unfold dep;split<;>omega
theorem QU: ∀(l:List Ins) (i:Nat),(DY i l).length=total l
 | [],_=>rfl
 |x::r,i=>by rw [DY,q9,q8,List.length_range,QU r];simp [total]
theorem Ub: ∀l:List Ins,total l≤4*l.length
 | []=>by simp [total]
 |x::r=>by
  have:=Ub r;have:=kM x.2.2
  have e:total (x::r)=dep x.2.2+total r:=by simp [total]
  rw [e,za];omega
theorem SF: ∀(l:List Ins) (i k:Nat),ofF i l (k:Int)=if h:k<(DY i l).length then(((DY i l)[k]).1,((DY i l)[k]).2,true)else(0,0,false)
 | [],i,k=>by rw [dif_neg (by simp [DY])];rfl
 |x::r,i,k=>by
  have hlen:((List.range (dep x.2.2)).map (fun k:Nat=>((i:Int),(k:Int)))).length=dep x.2.2:=by rw [q8,List.length_range]
  rw [ofF]
  by_cases h:k<dep x.2.2
  ·rw [if_pos (by omega),dif_pos (by rw [DY,q9,hlen];omega)]
   simp only [DY]
   rw [List.getElem_append_left (by rw [hlen];exact h),zm,List.getElem_range]
  ·have ih:=SF r (i+1) (k - dep x.2.2)
   rw [if_neg (by omega),show(k:Int) - (dep x.2.2:Int)=((k - dep x.2.2:Nat):Int)from by omega,ih]
   by_cases h2:k - dep x.2.2<(DY (i+1) r).length
   ·rw [dif_pos h2,dif_pos (by rw [DY,q9,hlen];omega)]
    simp only [DY]
    rw [List.getElem_append_right (by rw [hlen];omega)]
    simp only [hlen]
   ·rw [dif_neg h2,dif_neg (by rw [DY,q9,hlen];omega)]
end Go.Proofs.YtoolcgbcfgnipaaGreatDoor
namespace Go.Proofs.YtoolcgbcfgnipaaGreatDoor
open Go Go.RowKit Go.Eng
theorem ZL(i:Nat)(hi:i≤1048576)(rec:List (Int×Int)→Int→Option (List (Int×Int)))(n:Nat)(hn:n≤4):
  ∀(k f j:Nat) (out:List (Int×Int)),j+k=n→k<f→out.length+k≤5000000→Bp (i:Int) rec (n:Int) f out (j:Int)=rec (out++((List.range n).drop j).map (fun k:Nat=>((i:Int),(k:Int)))) ((i:Int)+1):=by
 intro k
 induction k with
 |zero=>
  intro f j out hj hf ho
  obtain⟨f,rfl⟩: ∃n,f=n+1:=⟨f - 1,by omega⟩
  rw [Bp,if_neg (by omega),Cq,if_neg (by decide),Aj _ (by omega),List.drop_of_length_le (by rw [List.length_range];omega),List.map_nil,List.append_nil]
 |succ k ih=>
  intro f j out hj hf ho
  obtain⟨f,rfl⟩: ∃n,f=n+1:=⟨f - 1,by omega⟩
  have e1:(j:Int)+1=((j+1:Nat):Int):=by omega
  have hd:(List.range n).drop j=j::(List.range n).drop (j+1):=by rw [j5 (by rw [List.length_range];omega),List.getElem_range]
  rw [Bp,if_pos (by omega),Cq,zf (by omega),if_pos rfl,Aj _ (by simp only [List.length_singleton];omega),Aj _ (by omega),e1,ih f (j+1) _ (by omega) (by omega) (by rw [q9,List.length_singleton];omega),hd,List.map_cons,zu]
  rfl
theorem Wj(N:Nat)(hN:20000000<N)(l:List Ins)(hl:l.length≤1048576): ∀(k f i:Nat) (out:List (Int×Int)),i+k=l.length→k<f→out.length≤4*i→AW N l f out (i:Int)=some (out++DY i (l.drop i)):=by
 intro k
 induction k with
 |zero=>
  intro f i out hi hf ho
  obtain⟨f,rfl⟩: ∃n,f=n+1:=⟨f - 1,by omega⟩
  rw [AW,if_neg (by omega),List.drop_of_length_le (by omega),DY,List.append_nil]
 |succ k ih=>
  intro f i out hi hf ho
  obtain⟨f,rfl⟩: ∃n,f=n+1:=⟨f - 1,by omega⟩
  have e1:(i:Int)+1=((i+1:Nat):Int):=by omega
  have hdl:=kM (l[i]!).2.2
  have next: ∀ys:List Int,ys.length=dep (l[i]!).2.2→AW N l f (out++ys.map (fun k=>((i:Int),k))) ((i:Int)+1)=some (out++(ys.map (fun k=>((i:Int),k))++DY (i+1) (l.drop (i+1)))):=fun ys hy=>by
   rw [e1,ih f (i+1) _ (by omega) (by omega) (by rw [q9,q8,hy];omega),zu]
  have nextR: ∀n:Nat,n=dep (l[i]!).2.2→AW N l f (out++(List.range n).map (fun k:Nat=>((i:Int),(k:Int)))) ((i:Int)+1)=some (out++DY i (l.drop i)):=fun n hn=>by
   have:=next ((List.range n).map (fun k:Nat=>(k:Int))) (by rw [q8,List.length_range,hn])
   rw [List.map_map] at this
   rw [bz l i (by omega),DY,←hn]
   exact this
  rw [AW,if_pos (by omega),Aj _ (by omega),q3]
  by_cases c0:(l[i]!).2.2=0
  ·rw [if_pos c0,EM,show(1:Int)=((1:Nat):Int)from rfl,show(0:Int)=((0:Nat):Int)from rfl,ZL i (by omega) _ 1 (by omega) 1 N 0 out (by omega) (by omega) (by omega),j0]
   exact nextR 1 (by unfold dep;rw [c0];rfl)
  rw [if_neg c0,EM]
  by_cases c1:(l[i]!).2.2<0
  ·obtain⟨M,rfl⟩: ∃n,N=n+1:=⟨N - 1,by omega⟩
   rw [Bp,if_neg (by omega),Cq,if_neg (by decide),Aj _ (by omega)]
   have:=nextR 0 (by unfold dep;rw [if_neg (by omega)])
   rw [List.range_zero,List.map_nil,List.append_nil] at this
   exact this
  by_cases c4:(l[i]!).2.2≤4
  ·have hz:((((l[i]!).2.2).toNat:Nat):Int)=(l[i]!).2.2:=by omega
   rw [←hz,show(0:Int)=((0:Nat):Int)from rfl,ZL i (by omega) _ _ (by omega) ((l[i]!).2.2).toNat N 0 out (by omega) (by omega) (by omega),j0]
   exact nextR _ (by unfold dep;rw [if_pos (by omega)];omega)
  ·obtain⟨M,rfl⟩: ∃n,N=n+1:=⟨N - 1,by omega⟩
   rw [Bp,if_pos (by omega),Cq,ze c4,if_neg (by decide),Aj _ (by omega)]
   have:=nextR 0 (by unfold dep;rw [if_neg (by omega)])
   rw [List.range_zero,List.map_nil,List.append_nil] at this
   exact this
theorem Pa(N:Nat)(hN:20000000<N)(l:List Ins)(hl:l.length≤1048576):CK N l=some (DY 0 l):=by
 have:=Wj N hN l hl l.length N 0 [] (by omega) (by omega) (by simp)
 rw [j0,j7] at this
 exact this
def goI(n:Nat):List Ins→List Ins→Int
 |_,[]=>0
 |pre,x::r=>if JD x.1=true then if pre.any (fun y=>Jn y.1 x.1)=true then 6 else if x.2.1<0∨(n:Int)≤x.2.1 then 5 else if x.2.2<0∨4<x.2.2 then 7 else goI n (pre++ [x]) r else 4
def ku(l:List Ins)(e:Int):Int:=if e=0 then if 32<total l then 8 else 0 else e
def Yq(n:Nat)(l:List Ins):Int:=if 16<l.length then 2 else ku l (goI n [] l)
theorem ZY(N:Nat)(hN:20000000<N)(hs:List Hd)(l:List Ins)(i:Nat)(hi:i<l.length)(hl:l.length≤1048576)(hall: ∀j,j<l.length→((l[j]!).1).length≤1048576)(rec:Int→Option Int):
  ∀(k f j:Nat),j+k=i→k<f→Cs N hs l (i:Int) rec f (j:Int)=(if((l.take i).drop j).any (fun x=>Jn x.1 (l[i]!).1)=true then some 6 else if(l[i]!).2.1<0∨(hs.length:Int)≤(l[i]!).2.1 then some 5 else if(l[i]!).2.2<0∨4<(l[i]!).2.2 then some 7 else rec ((i:Int)+1)):=by
 intro k
 induction k with
 |zero=>
  intro f j hj hf
  obtain⟨f,rfl⟩: ∃n,f=n+1:=⟨f - 1,by omega⟩
  rw [Cs,if_neg (by omega),Aj _ (by omega),List.drop_of_length_le (by rw [q7];omega),q3,List.any_nil,if_neg Bool.false_ne_true]
  by_cases a:(l[i]!).2.1<0
  ·rw [if_pos a,if_pos (Or.inl a)];rfl
  rw [if_neg a,Aj _ (by omega)]
  by_cases b:(l[i]!).2.1≥(hs.length:Int)
  ·rw [zf b,if_pos (Or.inr b)];rfl
  rw [ze b,if_neg (by omega),Gn,if_neg (by decide),Aj _ (by omega),q3]
  by_cases c:(l[i]!).2.2<0
  ·rw [if_pos c,if_pos (Or.inl c)];rfl
  rw [if_neg c,Aj _ (by omega)]
  by_cases d:(l[i]!).2.2>4
  ·rw [zf d,if_pos (Or.inr d)];rfl
  rw [ze d,if_neg (by omega),Gm,if_neg (by decide),Aj _ (by omega)]
 |succ k ih=>
  intro f j hj hf
  obtain⟨f,rfl⟩: ∃n,f=n+1:=⟨f - 1,by omega⟩
  have e1:(j:Int)+1=((j+1:Nat):Int):=by omega
  have a1:=hall j (by omega)
  have a2:=hall i hi
  rw [Cs,if_pos (by omega),Aj _ (by omega),Aj _ (by omega),q3,q3,Ra N _ _ (by omega) (by omega) hN,q0,cI l i j (by omega) (by omega)]
  by_cases h:Jn (l[j]!).1 (l[i]!).1=true
  ·rw [if_pos h,if_pos (by rw [h];rfl)]
  ·rw [if_neg h,Aj _ (by omega),e1,ih f (j+1) (by omega) (by omega),Bool.eq_false_iff.2 h,Bool.false_or]
theorem Wm(N:Nat)(hN:20000000<N)(hs:List Hd)(l:List Ins)(hl:l.length≤1048576)(hall: ∀j,j<l.length→((l[j]!).1).length≤1048576):
  ∀(k f i:Nat),i+k=l.length→k<f→Bq N hs l f (i:Int)=some (ku l (goI hs.length (l.take i) (l.drop i))):=by
 intro k
 induction k with
 |zero=>
  intro f i hi hf
  obtain⟨f,rfl⟩: ∃n,f=n+1:=⟨f - 1,by omega⟩
  rw [Bq,if_neg (by omega),List.drop_of_length_le (by omega),goI,ku,if_pos rfl,Pa N hN l hl,q0,QU]
  by_cases c:32<total l
  ·rw [if_pos c,if_pos (by omega)]
  ·rw [if_neg c,if_neg (by omega)]
 |succ k ih=>
  intro f i hi hf
  obtain⟨f,rfl⟩: ∃n,f=n+1:=⟨f - 1,by omega⟩
  have e1:(i:Int)+1=((i+1:Nat):Int):=by omega
  have a2:=hall i (by omega)
  rw [Bq,if_pos (by omega),Aj _ (by omega),q3,Pb N _ (by omega) hN,q0,bz l i (by omega),goI]
  by_cases c1:JD (l[i]!).1=true
  ·have hin:=ZY N hN hs l i (by omega) hl hall (Bq N hs l f) i N 0 (by omega) (by omega)
   rw [show((0:Nat):Int)=0 from rfl,j0] at hin
   rw [if_pos c1,if_pos c1,hin]
   by_cases c2:(l.take i).any (fun x=>Jn x.1 (l[i]!).1)=true
   ·rw [if_pos c2,if_pos c2];rfl
   rw [if_neg c2,if_neg c2]
   by_cases c3:(l[i]!).2.1<0∨(hs.length:Int)≤(l[i]!).2.1
   ·rw [if_pos c3,if_pos c3];rfl
   rw [if_neg c3,if_neg c3]
   by_cases c4:(l[i]!).2.2<0∨4<(l[i]!).2.2
   ·rw [if_pos c4,if_pos c4];rfl
   rw [if_neg c4,if_neg c4,e1,ih f (i+1) (by omega) (by omega),QK l i (by omega)]
  ·rw [if_neg c1,if_neg c1];rfl
theorem dm(N:Nat)(hN:20000000<N)(hs:List Hd)(l:List Ins)(hl:l.length≤1048576)(hall: ∀j,j<l.length→((l[j]!).1).length≤1048576):GG N hs l=some (Yq hs.length l):=by
 have:=Wm N hN hs l hl hall l.length N 0 (by omega) (by omega)
 unfold GG Yq
 by_cases c:16<l.length
 ·rw [if_pos c,if_pos (by omega)]
 ·rw [if_neg c,if_neg (by omega),show(0:Int)=((0:Nat):Int)from rfl,this,j0,List.take_zero]
end Go.Proofs.YtoolcgbcfgnipaaGreatDoor
namespace Go.Proofs.YtoolcgbcfgnipaaGreatDoor
open Go Go.RowKit Go.Eng
def Lt(b:List UInt8)(a:List Fd):Prop:=a.length≤1048576∧b.length≤1048576∧ ∀j,j<a.length→(a[j]!).1.length≤1048576
def Ft(n:Nat)(l:List Ins):Prop:=n≤1048576∧l.length≤1048576∧ ∀j,j<l.length→(l[j]!).1.length≤1048576
def Zd(l:List Ins)(i:Int):Int×Bool:=if 0≤i∧i<(l.length:Int)∧dep (l[i.toNat]!).2.2≠0 then((total (l.take i.toNat):Int),true)else(0,false)
abbrev HdB:=(List UInt8)×(List (List UInt8×Int))×Int×Int×Int×Int×Bool
def hdL(a:List Hd)(l:List Ins)(k:Int):HdB:=
 if(ofL l k).2.2=true∧0≤(l[(ofL l k).1.toNat]!).2.1∧(l[(ofL l k).1.toNat]!).2.1<(a.length:Int)then
  let h:=a[((l[(ofL l k).1.toNat]!).2.1).toNat]!
  (h.1,h.2.1,h.2.2.1,h.2.2.2.1,h.2.2.2.2.1,h.2.2.2.2.2,true)
 else([],[],0,0,0,0,false)
theorem UV(p:List UInt8→Bool): ∀(l:List (List UInt8)) (k:Nat),Ys p l k≥0↔l.any p=true
 | [],_=>⟨fun h=>by rw [Ys] at h;omega,fun h=>by cases h⟩
 |y::l,k=>by
  rw [Ys,List.any_cons]
  by_cases h:p y=true
  ·rw [if_pos h,h];exact⟨fun _=>rfl,fun _=>by omega⟩
  ·rw [if_neg h,Bool.eq_false_iff.2 h,Bool.false_or];exact UV p l (k+1)
end Go.Proofs.YtoolcgbcfgnipaaGreatDoor
namespace Go.Proofs.YtoolcgbcfgnipaaGreatDoor
open Go Go.RowKit Go.Eng
theorem fm(c:UInt8): ∀s:List UInt8,-1≤Lib.index s [c]∧(Lib.index s [c]≥0↔c∈s)
 | []=>⟨by simp [Lib.index],⟨fun h=>by revert h;simp [Lib.index],fun h=>by cases h⟩⟩
 |d::l=>by
  have ih:=fm c l
  unfold Lib.index
  by_cases h:d=c
  ·subst h;simp
  ·have hp:List.isPrefixOf [c] (d::l)=false:=by
    simp only [List.isPrefixOf,Bool.and_true]
    exact beq_eq_false_iff_ne.2 (Ne.symm h)
   have hm:c∈d::l↔c∈l:=by rw [zr];exact⟨fun h2=>h2.resolve_left (fun e=>h e.symm), .inr⟩
   rw [hp,if_neg (by decide),hm,←ih.2]
   by_cases h2:Lib.index l [c]= -1
   ·rw [h2];decide
   ·have e:(Lib.index l [c]== -1)=false:=beq_eq_false_iff_ne.2 h2
    rw [e,if_neg (by decide)]
    omega
theorem kh(s:List UInt8)(l:List (List UInt8))(k:Nat):Ys (fun x=>RH x==RH s) l k=Ys (fun x=>Jn x s) l k:=by
 congr 1
 funext x
 unfold Jn
 rw [Bool.eq_iff_iff,beq_iff_eq,decide_eq_true_eq]
 exact pC
theorem TL(N:Nat)(hN:20000000<N)(s:List UInt8)(hs:s.length≤1048576):MS N s=some (JD s):=by
 unfold MS JD
 rw [sb N s (by omega),q0]
 by_cases h:aj (Ac4 s)=true
 ·rw [if_pos h,h,Bool.and_true,Ld,Qt,Aj _ (show([46]:List UInt8).length=1 from rfl),q0,q0]
  congr 1
  rw [Bool.eq_iff_iff,decide_eq_true_eq,Bool.not_eq_true',decide_eq_false_iff_not,(fm 46 s).2]
 ·rw [if_neg h,Bool.eq_false_iff.2 h,Bool.and_false]
theorem PQ{α:Type}[Inhabited α](g:α→List UInt8)(l:List α)(i:Nat)(h:i<l.length):((l.take i).map g++List.replicate (l.length - i) ([]:List UInt8)).set i (g (l[i]!))=(l.take (i+1)).map g++List.replicate (l.length - (i+1)) []:=by
 have hl:((l.take i).map g).length=i:=by rw [q8,q7];omega
 rw [List.set_append_right _ _ (by rw [hl];exact Nat.le_refl _),hl,Nat.sub_self,show l.length - i=(l.length - (i+1))+1 from by omega,List.replicate_succ,List.set_cons_zero,QK l i h,List.map_append,zu]
 rfl
theorem Vp{α:Type}(g:α→List UInt8)(l:List α)(i:Nat)(h:i≤l.length):((l.take i).map g++List.replicate (l.length - i) ([]:List UInt8)).length=l.length:=by
 rw [q9,q8,q7,zi];omega
theorem vj(N:Nat)(l:List Fd)(hl:l.length≤1048576): ∀(k f i:Nat),i+k=l.length→k<f→
  FV N (l.length:Int) l f ((l.take i).map (·.1)++List.replicate (l.length - i) []) (i:Int)=some (l.map (·.1)):=by
 intro k
 induction k with
 |zero=>
  intro f i hi hf
  obtain⟨f,rfl⟩: ∃n,f=n+1:=⟨f - 1,by omega⟩
  rw [FV,if_neg (by omega),j6 (by omega),show l.length - i=0 from by omega,List.replicate_zero,List.append_nil]
 |succ k ih=>
  intro f i hi hf
  obtain⟨f,rfl⟩: ∃n,f=n+1:=⟨f - 1,by omega⟩
  have e1:(i:Int)+1=((i+1:Nat):Int):=by omega
  rw [FV,if_pos (by omega),If,Aj _ (by omega),q0,Aj _ (by rw [Vp _ _ _ (by omega)];omega),Aj _ (by omega),e1,q3,PQ _ l i (by omega)]
  exact ih f (i+1) (by omega) (by omega)
theorem Zg(N:Nat)(l:List Fd)(hl:l.length≤1048576)(hN:l.length<N):JA N l=some (l.map (·.1)):=by
 have:=vj N l hl l.length N 0 (by omega) hN
 rw [JA,LX,Aj _ (by omega),q3]
 have e:FV N (l.length:Int) l N (List.replicate l.length []) 0=some (l.map (·.1)):=this
 rw [e];rfl
theorem Xf(N:Nat)(hN:20000000<N)(l:List (List UInt8))(i:Nat)(hi:i<l.length)(hl:l.length≤1048576)(hall: ∀j,j<l.length→(l[j]!).length≤1048576):
  KN N l (i:Int)=some (if JD (l[i]!)=true then if(l.take i).any (fun x=>Jn x (l[i]!))=true then 6 else 0 else 4):=by
 have hs:=hall i hi
 rw [KN,Aj _ (by omega),q3,TL N hN _ (by omega),q0]
 by_cases c1:JD (l[i]!)=true
 ·rw [if_pos c1,if_pos c1,Aj _ (by omega),Aj _ (by omega),j0,fl N _ _ hN (by rw [q7];omega) hs (fun j hj=>by
   rw [q7] at hj
   have:=hall j (by omega)
   rw [zg _ j (by rw [q7];exact hj),j4]
   rw [zg l j (by omega)] at this
   exact this),q0,kh]
  by_cases c2:(l.take i).any (fun x=>Jn x (l[i]!))=true
  ·rw [if_pos ((UV _ _ _).2 c2),if_pos c2]
  ·rw [if_neg (fun h=>c2 ((UV _ _ _).1 h)),if_neg c2]
 ·rw [if_neg c1,if_neg c1]
theorem XI{α:Type}(g:α→List UInt8)(l:List α)(i:Nat)(s:List UInt8):((l.map g).take i).any (fun x=>Jn x s)=(l.take i).any (fun x=>Jn (g x) s):=by
 rw [←List.map_take,List.any_map];rfl
theorem MV{α:Type}[Inhabited α](g:α→List UInt8)(l:List α)(i:Nat)(h:i<l.length):(l.map g)[i]! =g (l[i]!):=by
 rw [zg _ i (by rw [q8];exact h),zm,zg l i h]
theorem Ig(N:Nat)(n a b:Int):FI N n a b=some (decide (a≤n∧n≤b)):=by
 unfold FI
 by_cases h:a≤n
 ·rw [if_pos h]
  by_cases h1:n≤b
  ·rw [zf h1,zf ⟨h,h1⟩]
  ·rw [ze h1,ze (fun h2=>h1 h2.2)]
 ·rw [if_neg h,ze (fun h2=>h h2.1)]
theorem gC(N:Nat)(h0:List UInt8)(h1:List Fd)(h2 h3 h4 h5:Int)(hl:h1.length≤1048576):Jz N h0 h1 h2 h3 h4 h5=some (cW h1 h2 h3 h4 h5):=by
 unfold Jz cW
 by_cases c:h2=0
 ·rw [if_pos c,if_pos c]
  by_cases a:h3=0
  ·rw [if_pos a]
   by_cases b:h4=0
   ·rw [if_pos b];congr 1
    rw [Bool.eq_iff_iff,beq_iff_eq,decide_eq_true_eq];omega
   ·rw [if_neg b,ze (by omega)]
  ·rw [if_neg a,ze (by omega)]
 rw [if_neg c,if_neg c,Ig,q0]
 by_cases a:1≤h2∧h2≤64
 rotate_left
 ·rw [ze a,if_neg (by decide),ze (by omega)]
 rw [zf a,if_pos rfl,Aj _ (by omega),Ig,q0]
 by_cases b:0≤h3∧h3≤(h1.length:Int) - 1
 rotate_left
 ·rw [ze b,if_neg (by decide),ze (by omega)]
 rw [zf b,if_pos rfl,Aj _ (by omega)]
 by_cases d:(h1[h3.toNat]!).2≤16
 rotate_left
 ·rw [if_neg d,ze (by omega)]
 rw [if_pos d,Ig,q0]
 by_cases e:1≤h4∧h4≤64
 rotate_left
 ·rw [ze e,if_neg (by decide),ze (by omega)]
 rw [zf e,if_pos rfl,Ig,q0]
 congr 1
 rw [Bool.eq_iff_iff,decide_eq_true_eq,decide_eq_true_eq];omega
theorem cT(l:List Fd)(hw:okW l)(hl:l.length≤1048576): ∀(k f i:Nat),i+k=l.length→k<f→Jv l f (Jl (l.take i)) (i:Int)=some (Jl l):=by
 intro k
 induction k with
 |zero=>
  intro f i hi hf
  obtain⟨f,rfl⟩: ∃n,f=n+1:=⟨f - 1,by omega⟩
  rw [Jv,if_neg (by omega),j6 (by omega)]
 |succ k ih=>
  intro f i hi hf
  obtain⟨f,rfl⟩: ∃n,f=n+1:=⟨f - 1,by omega⟩
  have e1:(i:Int)+1=((i+1:Nat):Int):=by omega
  have es:Jl (l.take i)+(l[i]!).2=Jl (l.take (i+1)):=by rw [QK l i (by omega),Ue];simp [Jl]
  have hs:=NI _ (ae hw (i+1))
  have hlt:(l.take (i+1)).length≤1048576:=by rw [q7];omega
  rw [Jv,if_pos (by omega),Aj _ (by omega),q3,es,Aj _ (by omega),Aj _ (by omega),e1]
  exact ih f (i+1) (by omega) (by omega)
theorem ez(N:Nat)(hN:20000000<N)(l:List Fd)(hw:okW l)(hl:l.length≤1048576):Ov N l=some (Jl l):=cT l hw hl l.length N 0 (by omega) (by omega)
theorem UD(N:Nat)(hN:20000000<N)(h1:List Fd)(hl:h1.length≤1048576)(hall: ∀j,j<h1.length→(h1[j]!).1.length≤1048576):
  ∀(k f i:Nat),i+k=h1.length→k<f→GL N h1 (h1.map (·.1)) f (i:Int)=some (goF (h1.take i) (h1.drop i)):=by
 intro k
 induction k with
 |zero=>
  intro f i hi hf
  obtain⟨f,rfl⟩: ∃n,f=n+1:=⟨f - 1,by omega⟩
  rw [GL,if_neg (by omega),List.drop_of_length_le (by omega)];rfl
 |succ k ih=>
  intro f i hi hf
  obtain⟨f,rfl⟩: ∃n,f=n+1:=⟨f - 1,by omega⟩
  have e1:(i:Int)+1=((i+1:Nat):Int):=by omega
  have en:=MV (fun x:Fd=>x.1) h1 i (by omega)
  rw [GL,if_pos (by omega),Aj _ (by omega),q3,Xf N hN _ i (by rw [q8];omega) (by rw [q8];omega) (fun j hj=>by
    rw [q8] at hj
    have:=hall j hj
    rw [MV (fun x:Fd=>x.1) h1 j hj];omega),q0,en,XI,bz h1 i (by omega),goF]
  by_cases c1:JD (h1[i]!).1=true
  rotate_left
  ·rw [if_neg c1,if_neg c1];rfl
  rw [if_pos c1,if_pos c1]
  by_cases c2:(h1.take i).any (fun x=>Jn x.1 (h1[i]!).1)=true
  ·rw [if_pos c2,if_pos c2];rfl
  rw [if_neg c2,if_neg c2,if_neg (fun h=>h rfl),Ig,q0]
  by_cases c3:(h1[i]!).2<1∨128<(h1[i]!).2
  ·rw [ze (by omega),if_neg (by decide),if_pos c3]
  rw [zf (by omega),if_pos rfl,if_neg c3,Aj _ (by omega),e1,ih f (i+1) (by omega) (by omega),QK h1 i (by omega)]
theorem ak(N:Nat)(hN:20000000<N)(h1:List Fd)(hl:h1.length≤1048576)(hall: ∀j,j<h1.length→(h1[j]!).1.length≤1048576):Kr N h1=some (goF [] h1):=by
 have:=UD N hN h1 hl hall h1.length N 0 (by omega) (by omega)
 rw [Kr,Zg N h1 (by omega) (by omega),q0]
 exact this
theorem sR(N:Nat)(hN:20000000<N)(h0:List UInt8)(h1:List Fd)(h2 h3 h4 h5:Int)(hl:Lt h0 h1):IM N h0 h1 h2 h3 h4 h5=some (Rh h0 h1 h2 h3 h4 h5):=by
 have hlen:=hl.1
 unfold IM Rh
 rw [TL N hN h0 (by have:=hl.2.1;omega),q0]
 by_cases c1:JD h0=true
 rotate_left
 ·rw [if_neg c1,if_neg c1]
 rw [if_pos c1,if_pos c1]
 by_cases c2:16<h1.length
 ·rw [if_pos (by omega),if_pos c2]
 rw [if_neg (by omega),if_neg c2]
 by_cases c3:h1.length=0
 ·rw [if_pos (by omega),if_pos c3]
 rw [if_neg (by omega),if_neg c3,ak N hN h1 hlen hl.2.2,q0,kw]
 by_cases c4:goF [] h1=0
 rotate_left
 ·rw [if_pos c4,if_neg c4]
 have hw:=dL _ _ c4
 have hs:=NI _ hw
 rw [if_neg (fun h=>h c4),if_pos c4,ez N hN h1 hw hlen,q0,Aj _ (by omega),ZK,gC N _ _ _ _ _ _ hlen,q0]
 by_cases a:Jl h1%8≠0
 ·rw [if_pos a,if_pos a]
 rw [if_neg a,if_neg a]
 by_cases b:cW h1 h2 h3 h4 h5=true
 ·rw [if_pos b,if_pos b]
 ·rw [if_neg b,if_neg b]
end Go.Proofs.YtoolcgbcfgnipaaGreatDoor
