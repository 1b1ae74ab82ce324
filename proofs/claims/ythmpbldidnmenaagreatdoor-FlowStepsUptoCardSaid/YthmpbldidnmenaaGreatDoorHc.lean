import Derived.Test.YthmpbldidnmenaaGreatDoorHa
import Derived.Test.YthmpbldidnmenaaGreatDoorRh
namespace Go.Proofs.YthmpbldidnmenaaGreatDoor
open Go Go.RowKit Go.Eng
abbrev Ins:=List UInt8×Int×Int
abbrev Hd:=(List UInt8)×(List (List UInt8×Int))×Int×Int×Int×Int
theorem gU{l:List Fd}(h:okW l)(i:Nat):okW (l.take i):=fun x hx=>h x (List.mem_of_mem_take hx)
theorem Yk(h1:List Fd)(hw:okW h1)(hl:h1.length≤1048576): ∀(k f i:Nat),i+k=h1.length→k<f→BZ h1 f (Jo (h1.take i)) (i:Int)=some (Jo h1):=by
 intro k
 induction k with
 |zero=>
  intro f i hi hf
  obtain⟨f,rfl⟩: ∃n,f=n+1:=⟨f - 1,by omega⟩
  rw [BZ,if_neg (by omega),j6 (by omega)]
 |succ k ih=>
  intro f i hi hf
  obtain⟨f,rfl⟩: ∃n,f=n+1:=⟨f - 1,by omega⟩
  have e1:(i:Int)+1=((i+1:Nat):Int):=by omega
  have es:Jo (h1.take i)+(h1[i]!).2=Jo (h1.take (i+1)):=by rw [Xg h1 i (by omega),ZC];simp [Jo]
  have hs:=Ru _ (gU hw (i+1))
  have hlt:(h1.take (i+1)).length≤1048576:=by rw [q7];omega
  rw [BZ,if_pos (by omega),Am _ (by omega),q3,es,Am _ (by omega),Am _ (by omega),e1]
  exact ih f (i+1) (by omega) (by omega)
theorem fl(N:Nat)(hN:20000000<N)(h0:List UInt8)(h1:List Fd)(h2 h3 h4 h5:Int)(hw:okW h1)(hl:h1.length≤1048576):FG N h0 h1 h2 h3 h4 h5=some (Jo h1):=
 Yk h1 hw hl h1.length N 0 (by omega) (by omega)
theorem nM{h0:List UInt8}{h1:List Fd}{h2 h3 h4 h5:Int}(h:Wg h0 h1 h2 h3 h4 h5=0):okW h1∧Jo h1%8=0∧h1.length≤16∧1≤h1.length∧mK h1 h2 h3 h4 h5=true:=by
 unfold Wg at h
 by_cases c1:Oo h0=true
 ·rw [if_pos c1] at h
  by_cases c2:16<h1.length
  ·rw [if_pos c2] at h;omega
  rw [if_neg c2] at h
  by_cases c3:h1.length=0
  ·rw [if_pos c3] at h;omega
  rw [if_neg c3] at h
  unfold nY at h
  by_cases c4:goF [] h1=0
  ·rw [if_pos c4] at h
   unfold dw at h
   by_cases c5:Jo h1%8≠0
   ·rw [if_pos c5] at h;omega
   rw [if_neg c5] at h
   by_cases c6:mK h1 h2 h3 h4 h5=true
   ·exact⟨iW _ _ c4,by omega,by omega,by omega,c6⟩
   ·rw [if_neg c6] at h;omega
  ·rw [if_neg c4] at h;omega
 ·rw [if_neg c1] at h;omega
def dep(d:Int):Nat:=if 0≤d∧d≤4 then(max d 1).toNat else 0
def DE:Nat→List Ins→List (Int×Int)
 |_,[]=> []
 |i,x::r=>(List.range (dep x.2.2)).map (fun k:Nat=>((i:Int),(k:Int)))++DE (i+1) r
def total(l:List Ins):Nat:=(l.map (fun x=>dep x.2.2)).sum
def ofF:Nat→List Ins→Int→Int×Int×Bool
 |_,[],_=>(0,0,false)
 |i,x::r,k=>if k<(dep x.2.2:Int)then((i:Int),k,true)else ofF (i+1) r (k - (dep x.2.2:Int))
def ofL(l:List Ins)(k:Int):Int×Int×Bool:=if k<0 then(0,0,false)else ofF 0 l k
theorem jn(d:Int):dep d≤4:=by unfold dep;split<;>omega
theorem Oc: ∀(l:List Ins) (i:Nat),(DE i l).length=total l
 | [],_=>rfl
 |x::r,i=>by rw [DE,q9,q8,List.length_range,Oc r];simp [total]
theorem Ri: ∀l:List Ins,total l≤4*l.length
 | []=>by simp [total]
 |x::r=>by
  have:=Ri r;have:=jn x.2.2
  have e:total (x::r)=dep x.2.2+total r:=by simp [total]
  rw [e,za];omega
theorem Su: ∀(l:List Ins) (i k:Nat),ofF i l (k:Int)=if h:k<(DE i l).length then(((DE i l)[k]).1,((DE i l)[k]).2,true)else(0,0,false)
 | [],i,k=>by rw [dif_neg (by simp [DE])];rfl
 |x::r,i,k=>by
  have hlen:((List.range (dep x.2.2)).map (fun k:Nat=>((i:Int),(k:Int)))).length=dep x.2.2:=by rw [q8,List.length_range]
  rw [ofF]
  by_cases h:k<dep x.2.2
  ·rw [if_pos (by omega),dif_pos (by rw [DE,q9,hlen];omega)]
   simp only [DE]
   rw [List.getElem_append_left (by rw [hlen];exact h),List.getElem_map,List.getElem_range]
  ·have ih:=Su r (i+1) (k - dep x.2.2)
   rw [if_neg (by omega),show(k:Int) - (dep x.2.2:Int)=((k - dep x.2.2:Nat):Int)from by omega,ih]
   by_cases h2:k - dep x.2.2<(DE (i+1) r).length
   ·rw [dif_pos h2,dif_pos (by rw [DE,q9,hlen];omega)]
    simp only [DE]
    rw [List.getElem_append_right (by rw [hlen];omega)]
    simp only [hlen]
   ·rw [dif_neg h2,dif_neg (by rw [DE,q9,hlen];omega)]
end Go.Proofs.YthmpbldidnmenaaGreatDoor
namespace Go.Proofs.YthmpbldidnmenaaGreatDoor
open Go Go.RowKit Go.Eng
theorem ZD(i:Nat)(hi:i≤1048576)(rec:List (Int×Int)→Int→Option (List (Int×Int)))(n:Nat)(hn:n≤4):
  ∀(k f j:Nat) (out:List (Int×Int)),j+k=n→k<f→out.length+k≤5000000→Bp (i:Int) rec (n:Int) f out (j:Int)=rec (out++((List.range n).drop j).map (fun k:Nat=>((i:Int),(k:Int)))) ((i:Int)+1):=by
 intro k
 induction k with
 |zero=>
  intro f j out hj hf ho
  obtain⟨f,rfl⟩: ∃n,f=n+1:=⟨f - 1,by omega⟩
  rw [Bp,if_neg (by omega),Cq,if_neg (by decide),Am _ (by omega),List.drop_of_length_le (by rw [List.length_range];omega),List.map_nil,List.append_nil]
 |succ k ih=>
  intro f j out hj hf ho
  obtain⟨f,rfl⟩: ∃n,f=n+1:=⟨f - 1,by omega⟩
  have e1:(j:Int)+1=((j+1:Nat):Int):=by omega
  have hd:(List.range n).drop j=j::(List.range n).drop (j+1):=by rw [j5 (by rw [List.length_range];omega),List.getElem_range]
  rw [Bp,if_pos (by omega),Cq,zf (by omega),if_pos rfl,Am _ (by simp only [List.length_singleton];omega),Am _ (by omega),e1,ih f (j+1) _ (by omega) (by omega) (by rw [q9,List.length_singleton];omega),hd,List.map_cons,zu]
  rfl
theorem Wc(N:Nat)(hN:20000000<N)(l:List Ins)(hl:l.length≤1048576): ∀(k f i:Nat) (out:List (Int×Int)),i+k=l.length→k<f→out.length≤4*i→AV N l f out (i:Int)=some (out++DE i (l.drop i)):=by
 intro k
 induction k with
 |zero=>
  intro f i out hi hf ho
  obtain⟨f,rfl⟩: ∃n,f=n+1:=⟨f - 1,by omega⟩
  rw [AV,if_neg (by omega),List.drop_of_length_le (by omega),DE,List.append_nil]
 |succ k ih=>
  intro f i out hi hf ho
  obtain⟨f,rfl⟩: ∃n,f=n+1:=⟨f - 1,by omega⟩
  have e1:(i:Int)+1=((i+1:Nat):Int):=by omega
  have hdl:=jn (l[i]!).2.2
  have next: ∀ys:List Int,ys.length=dep (l[i]!).2.2→AV N l f (out++ys.map (fun k=>((i:Int),k))) ((i:Int)+1)=some (out++(ys.map (fun k=>((i:Int),k))++DE (i+1) (l.drop (i+1)))):=fun ys hy=>by
   rw [e1,ih f (i+1) _ (by omega) (by omega) (by rw [q9,q8,hy];omega),zu]
  have nextR: ∀n:Nat,n=dep (l[i]!).2.2→AV N l f (out++(List.range n).map (fun k:Nat=>((i:Int),(k:Int)))) ((i:Int)+1)=some (out++DE i (l.drop i)):=fun n hn=>by
   have:=next ((List.range n).map (fun k:Nat=>(k:Int))) (by rw [q8,List.length_range,hn])
   rw [List.map_map] at this
   rw [qj l i (by omega),DE,←hn]
   exact this
  rw [AV,if_pos (by omega),Am _ (by omega),q3]
  by_cases c0:(l[i]!).2.2=0
  ·rw [if_pos c0,EN,show(1:Int)=((1:Nat):Int)from rfl,show(0:Int)=((0:Nat):Int)from rfl,ZD i (by omega) _ 1 (by omega) 1 N 0 out (by omega) (by omega) (by omega),j0]
   exact nextR 1 (by unfold dep;rw [c0];rfl)
  rw [if_neg c0,EN]
  by_cases c1:(l[i]!).2.2<0
  ·obtain⟨M,rfl⟩: ∃n,N=n+1:=⟨N - 1,by omega⟩
   rw [Bp,if_neg (by omega),Cq,if_neg (by decide),Am _ (by omega)]
   have:=nextR 0 (by unfold dep;rw [if_neg (by omega)])
   rw [List.range_zero,List.map_nil,List.append_nil] at this
   exact this
  by_cases c4:(l[i]!).2.2≤4
  ·have hz:((((l[i]!).2.2).toNat:Nat):Int)=(l[i]!).2.2:=by omega
   rw [←hz,show(0:Int)=((0:Nat):Int)from rfl,ZD i (by omega) _ _ (by omega) ((l[i]!).2.2).toNat N 0 out (by omega) (by omega) (by omega),j0]
   exact nextR _ (by unfold dep;rw [if_pos (by omega)];omega)
  ·obtain⟨M,rfl⟩: ∃n,N=n+1:=⟨N - 1,by omega⟩
   rw [Bp,if_pos (by omega),Cq,ze c4,if_neg (by decide),Am _ (by omega)]
   have:=nextR 0 (by unfold dep;rw [if_neg (by omega)])
   rw [List.range_zero,List.map_nil,List.append_nil] at this
   exact this
theorem LX(N:Nat)(hN:20000000<N)(l:List Ins)(hl:l.length≤1048576):Cf N l=some (DE 0 l):=by
 have:=Wc N hN l hl l.length N 0 [] (by omega) (by omega) (by simp)
 rw [j0,j7] at this
 exact this
def goI(n:Nat):List Ins→List Ins→Int
 |_,[]=>0
 |pre,x::r=>if Oo x.1=true then if pre.any (fun y=>NA y.1 x.1)=true then 6 else if x.2.1<0∨(n:Int)≤x.2.1 then 5 else if x.2.2<0∨4<x.2.2 then 7 else goI n (pre++ [x]) r else 4
def rh(l:List Ins)(e:Int):Int:=if e=0 then if 32<total l then 8 else 0 else e
def iQ(n:Nat)(l:List Ins):Int:=if 16<l.length then 2 else rh l (goI n [] l)
theorem ZR(N:Nat)(hN:20000000<N)(hs:List Hd)(l:List Ins)(i:Nat)(hi:i<l.length)(hl:l.length≤1048576)(hall: ∀j,j<l.length→((l[j]!).1).length≤1048576)(rec:Int→Option Int):
  ∀(k f j:Nat),j+k=i→k<f→Cs N hs l (i:Int) rec f (j:Int)=(if((l.take i).drop j).any (fun x=>NA x.1 (l[i]!).1)=true then some 6 else if(l[i]!).2.1<0∨(hs.length:Int)≤(l[i]!).2.1 then some 5 else if(l[i]!).2.2<0∨4<(l[i]!).2.2 then some 7 else rec ((i:Int)+1)):=by
 intro k
 induction k with
 |zero=>
  intro f j hj hf
  obtain⟨f,rfl⟩: ∃n,f=n+1:=⟨f - 1,by omega⟩
  rw [Cs,if_neg (by omega),Am _ (by omega),List.drop_of_length_le (by rw [q7];omega),q3,List.any_nil,if_neg Bool.false_ne_true]
  by_cases a:(l[i]!).2.1<0
  ·rw [if_pos a,if_pos (Or.inl a)];rfl
  rw [if_neg a,Am _ (by omega)]
  by_cases b:(l[i]!).2.1≥(hs.length:Int)
  ·rw [zf b,if_pos (Or.inr b)];rfl
  rw [ze b,if_neg (by omega),FZ,if_neg (by decide),Am _ (by omega),q3]
  by_cases c:(l[i]!).2.2<0
  ·rw [if_pos c,if_pos (Or.inl c)];rfl
  rw [if_neg c,Am _ (by omega)]
  by_cases d:(l[i]!).2.2>4
  ·rw [zf d,if_pos (Or.inr d)];rfl
  rw [ze d,if_neg (by omega),FY,if_neg (by decide),Am _ (by omega)]
 |succ k ih=>
  intro f j hj hf
  obtain⟨f,rfl⟩: ∃n,f=n+1:=⟨f - 1,by omega⟩
  have e1:(j:Int)+1=((j+1:Nat):Int):=by omega
  have a1:=hall j (by omega)
  have a2:=hall i hi
  rw [Cs,if_pos (by omega),Am _ (by omega),Am _ (by omega),q3,q3,QR N _ _ (by omega) (by omega) hN,q0,bS l i j (by omega) (by omega)]
  by_cases h:NA (l[j]!).1 (l[i]!).1=true
  ·rw [if_pos h,if_pos (by rw [h];rfl)]
  ·rw [if_neg h,Am _ (by omega),e1,ih f (j+1) (by omega) (by omega),Bool.eq_false_iff.2 h,Bool.false_or]
theorem Wf(N:Nat)(hN:20000000<N)(hs:List Hd)(l:List Ins)(hl:l.length≤1048576)(hall: ∀j,j<l.length→((l[j]!).1).length≤1048576):
  ∀(k f i:Nat),i+k=l.length→k<f→Bq N hs l f (i:Int)=some (rh l (goI hs.length (l.take i) (l.drop i))):=by
 intro k
 induction k with
 |zero=>
  intro f i hi hf
  obtain⟨f,rfl⟩: ∃n,f=n+1:=⟨f - 1,by omega⟩
  rw [Bq,if_neg (by omega),List.drop_of_length_le (by omega),goI,rh,if_pos rfl,LX N hN l hl,q0,Oc]
  by_cases c:32<total l
  ·rw [if_pos c,if_pos (by omega)]
  ·rw [if_neg c,if_neg (by omega)]
 |succ k ih=>
  intro f i hi hf
  obtain⟨f,rfl⟩: ∃n,f=n+1:=⟨f - 1,by omega⟩
  have e1:(i:Int)+1=((i+1:Nat):Int):=by omega
  have a2:=hall i (by omega)
  rw [Bq,if_pos (by omega),Am _ (by omega),q3,Ok N _ (by omega) hN,q0,qj l i (by omega),goI]
  by_cases c1:Oo (l[i]!).1=true
  ·have hin:=ZR N hN hs l i (by omega) hl hall (Bq N hs l f) i N 0 (by omega) (by omega)
   rw [show((0:Nat):Int)=0 from rfl,j0] at hin
   rw [if_pos c1,if_pos c1,hin]
   by_cases c2:(l.take i).any (fun x=>NA x.1 (l[i]!).1)=true
   ·rw [if_pos c2,if_pos c2];rfl
   rw [if_neg c2,if_neg c2]
   by_cases c3:(l[i]!).2.1<0∨(hs.length:Int)≤(l[i]!).2.1
   ·rw [if_pos c3,if_pos c3];rfl
   rw [if_neg c3,if_neg c3]
   by_cases c4:(l[i]!).2.2<0∨4<(l[i]!).2.2
   ·rw [if_pos c4,if_pos c4];rfl
   rw [if_neg c4,if_neg c4,e1,ih f (i+1) (by omega) (by omega),Xg l i (by omega)]
  ·rw [if_neg c1,if_neg c1];rfl
theorem ct(N:Nat)(hN:20000000<N)(hs:List Hd)(l:List Ins)(hl:l.length≤1048576)(hall: ∀j,j<l.length→((l[j]!).1).length≤1048576):Gr N hs l=some (iQ hs.length l):=by
 have:=Wf N hN hs l hl hall l.length N 0 (by omega) (by omega)
 unfold Gr iQ
 by_cases c:16<l.length
 ·rw [if_pos c,if_pos (by omega)]
 ·rw [if_neg c,if_neg (by omega),show(0:Int)=((0:Nat):Int)from rfl,this,j0,List.take_zero]
end Go.Proofs.YthmpbldidnmenaaGreatDoor
