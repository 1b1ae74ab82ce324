import Derived.Test.YtjlomkippigejaaGreatDoorRx
namespace Go.Proofs.YtjlomkippigejaaGreatDoor
open Go Go.RowKit Go.Eng
abbrev Ins:=W2×Int×Int
abbrev Hd:=(W2)×(List (W2×Int))×Int×Int×Int×Int
theorem bR{l:List Fd}(h:okW l)(i:Nat):okW (l.take i):=λx hx=>h x (List.mem_of_mem_take hx)
theorem Zx(h1:List Fd)(hw:okW h1)(hl:h1.length<=1048576): ∀(k f i:Nat),i+k=h1.length->k<f->Ck h1 f (JK (h1.take i)) (i:Int)=some (JK h1):=by
 intro k
 induction k with
 |zero=>
  intro f i hi hf
  obtain⟨f,rfl⟩: ∃n,f=n+1:=⟨f - 1,by omega⟩
  rw [Ck,if_neg (by omega),j6 (by omega)]
 |succ k ih=>
  intro f i hi hf
  obtain⟨f,rfl⟩: ∃n,f=n+1:=⟨f - 1,by omega⟩
  have e1:(i:Int)+1=((i+1:Nat):Int):=by omega
  have es:JK (h1.take i)+(h1[i]!).2=JK (h1.take (i+1)):=by rw [RC h1 i (by omega),Vf];simp [JK]
  have hs:=Ol _ (bR hw (i+1))
  have hlt:(h1.take (i+1)).length<=1048576:=by rw [q7];omega
  rw [Ck,if_pos (by omega),Af _ (by omega),q3,es,Af _ (by omega),Af _ (by omega),e1]
  exact ih f (i+1) (by omega) (by omega)
theorem iZ(N:Nat)(hN:20000000<N)(h0:W2)(h1:List Fd)(h2 h3 h4 h5:Int)(hw:okW h1)(hl:h1.length<=1048576):Gj N h0 h1 h2 h3 h4 h5=some (JK h1):=
 Zx h1 hw hl h1.length N 0 (by omega) (by omega)
theorem gA{h0:W2}{h1:List Fd}{h2 h3 h4 h5:Int}(h:RX h0 h1 h2 h3 h4 h5=0):okW h1/\JK h1%8=0/\h1.length<=16/\1<=h1.length/\eH h1 h2 h3 h4 h5=true:=by
 unfold RX at h
 by_cases c1:Kf h0=true
 ·rw [if_pos c1] at h
  by_cases c2:16<h1.length
  ·rw [if_pos c2] at h;omega
  rw [if_neg c2] at h
  by_cases c3:h1.length=0
  ·rw [if_pos c3] at h;omega
  rw [if_neg c3] at h
  unfold lZ at h
  by_cases c4:goF [] h1=0
  ·rw [if_pos c4] at h
   unfold br at h
   by_cases c5:JK h1%8≠0
   ·rw [if_pos c5] at h;omega
   rw [if_neg c5] at h
   by_cases c6:eH h1 h2 h3 h4 h5=true
   ·exact⟨fp _ _ c4,by omega,by omega,by omega,c6⟩
   ·rw [if_neg c6] at h;omega
  ·rw [if_neg c4] at h;omega
 ·rw [if_neg c1] at h;omega
def dep(d:Int):Nat:=if 0<=d/\d<=4 then(max d 1).toNat else 0
def Ew:Nat->List Ins->List (Int×Int)
 |_,[]=> []
 |i,x::r=>(List.range (dep x.2.2)).map (λk:Nat=>((i:Int),(k:Int)))++Ew (i+1) r
def total(l:List Ins):Nat:=(l.map (λx=>dep x.2.2)).sum
def ofF:Nat->List Ins->Int->Int×Int×Bool
 |_,[],_=>(0,0,false)
 |i,x::r,k=>if k<(dep x.2.2:Int)then((i:Int),k,true)else ofF (i+1) r (k - (dep x.2.2:Int))
def ofL(l:List Ins)(k:Int):Int×Int×Bool:=if k<0 then(0,0,false)else ofF 0 l k
theorem mq(d:Int):dep d<=4:=by unfold dep;split<;>omega
theorem RM: ∀(l:List Ins) (i:Nat),(Ew i l).length=total l
 | [],_=>rfl
 |x::r,i=>by rw [Ew,q9,q8,List.length_range,RM r];simp [total]
theorem Sq: ∀l:List Ins,total l<=4*l.length
 | []=>by simp [total]
 |x::r=>by
  have:=Sq r;have:=mq x.2.2
  have e:total (x::r)=dep x.2.2+total r:=by simp [total]
  rw [e,za];omega
theorem TC: ∀(l:List Ins) (i k:Nat),ofF i l (k:Int)=if h:k<(Ew i l).length then(((Ew i l)[k]).1,((Ew i l)[k]).2,true)else(0,0,false)
 | [],i,k=>by rw [dif_neg (by simp [Ew])];rfl
 |x::r,i,k=>by
  have hlen:((List.range (dep x.2.2)).map (λk:Nat=>((i:Int),(k:Int)))).length=dep x.2.2:=by rw [q8,List.length_range]
  rw [ofF]
  by_cases h:k<dep x.2.2
  ·rw [if_pos (by omega),dif_pos (by rw [Ew,q9,hlen];omega)]
   simp only [Ew]
   rw [List.getElem_append_left (by rw [hlen];exact h),zm,List.getElem_range]
  ·have ih:=TC r (i+1) (k - dep x.2.2)
   rw [if_neg (by omega),show(k:Int) - (dep x.2.2:Int)=((k - dep x.2.2:Nat):Int)from by omega,ih]
   by_cases h2:k - dep x.2.2<(Ew (i+1) r).length
   ·rw [dif_pos h2,dif_pos (by rw [Ew,q9,hlen];omega)]
    simp only [Ew]
    rw [List.getElem_append_right (by rw [hlen];omega)]
    simp only [hlen]
   ·rw [dif_neg h2,dif_neg (by rw [Ew,q9,hlen];omega)]
end Go.Proofs.YtjlomkippigejaaGreatDoor
namespace Go.Proofs.YtjlomkippigejaaGreatDoor
open Go Go.RowKit Go.Eng
theorem bt(i:Nat)(hi:i<=1048576)(rec:List (Int×Int)->Int->Option (List (Int×Int)))(n:Nat)(hn:n<=4):
  ∀(k f j:Nat) (out:List (Int×Int)),j+k=n->k<f->out.length+k<=5000000->Bt (i:Int) rec (n:Int) f out (j:Int)=rec (out++((List.range n).drop j).map (λk:Nat=>((i:Int),(k:Int)))) ((i:Int)+1):=by
 intro k
 induction k with
 |zero=>
  intro f j out hj hf ho
  obtain⟨f,rfl⟩: ∃n,f=n+1:=⟨f - 1,by omega⟩
  rw [Bt,if_neg (by omega),CG,if_neg (by decide),Af _ (by omega),List.drop_of_length_le (by rw [List.length_range];omega),List.map_nil,List.append_nil]
 |succ k ih=>
  intro f j out hj hf ho
  obtain⟨f,rfl⟩: ∃n,f=n+1:=⟨f - 1,by omega⟩
  have e1:(j:Int)+1=((j+1:Nat):Int):=by omega
  have hd:(List.range n).drop j=j::(List.range n).drop (j+1):=by rw [j5 (by rw [List.length_range];omega),List.getElem_range]
  rw [Bt,if_pos (by omega),CG,zf (by omega),if_pos Z,Af _ (by simp only [List.length_singleton];omega),Af _ (by omega),e1,ih f (j+1) _ (by omega) (by omega) (by rw [q9,List.length_singleton];omega),hd,List.map_cons,zu]
  rfl
theorem Xp(N:Nat)(hN:20000000<N)(l:List Ins)(hl:l.length<=1048576): ∀(k f i:Nat) (out:List (Int×Int)),i+k=l.length->k<f->out.length<=4*i->Bc N l f out (i:Int)=some (out++Ew i (l.drop i)):=by
 intro k
 induction k with
 |zero=>
  intro f i out hi hf ho
  obtain⟨f,rfl⟩: ∃n,f=n+1:=⟨f - 1,by omega⟩
  rw [Bc,if_neg (by omega),List.drop_of_length_le (by omega),Ew,List.append_nil]
 |succ k ih=>
  intro f i out hi hf ho
  obtain⟨f,rfl⟩: ∃n,f=n+1:=⟨f - 1,by omega⟩
  have e1:(i:Int)+1=((i+1:Nat):Int):=by omega
  have hdl:=mq (l[i]!).2.2
  have next: ∀ys:List Int,ys.length=dep (l[i]!).2.2->Bc N l f (out++ys.map (λk=>((i:Int),k))) ((i:Int)+1)=some (out++(ys.map (λk=>((i:Int),k))++Ew (i+1) (l.drop (i+1)))):=λys hy=>by
   rw [e1,ih f (i+1) _ (by omega) (by omega) (by rw [q9,q8,hy];omega),zu]
  have nextR: ∀n:Nat,n=dep (l[i]!).2.2->Bc N l f (out++(List.range n).map (λk:Nat=>((i:Int),(k:Int)))) ((i:Int)+1)=some (out++Ew i (l.drop i)):=λn hn=>by
   have:=next ((List.range n).map (λk:Nat=>(k:Int))) (by rw [q8,List.length_range,hn])
   rw [List.map_map] at this
   rw [da l i (by omega),Ew,<-hn]
   exact this
  rw [Bc,if_pos (by omega),Af _ (by omega),q3]
  by_cases c0:(l[i]!).2.2=0
  ·rw [if_pos c0,Fk,show(1:Int)=((1:Nat):Int)from Z,show(0:Int)=((0:Nat):Int)from Z,bt i (by omega) _ 1 (by omega) 1 N 0 out (by omega) (by omega) (by omega),j0]
   exact nextR 1 (by unfold dep;rw [c0];rfl)
  rw [if_neg c0,Fk]
  by_cases c1:(l[i]!).2.2<0
  ·obtain⟨M,rfl⟩: ∃n,N=n+1:=⟨N - 1,by omega⟩
   rw [Bt,if_neg (by omega),CG,if_neg (by decide),Af _ (by omega)]
   have:=nextR 0 (by unfold dep;rw [if_neg (by omega)])
   rw [List.range_zero,List.map_nil,List.append_nil] at this
   exact this
  by_cases c4:(l[i]!).2.2<=4
  ·have hz:((((l[i]!).2.2).toNat:Nat):Int)=(l[i]!).2.2:=by omega
   rw [<-hz,show(0:Int)=((0:Nat):Int)from Z,bt i (by omega) _ _ (by omega) ((l[i]!).2.2).toNat N 0 out (by omega) (by omega) (by omega),j0]
   exact nextR _ (by unfold dep;rw [if_pos (by omega)];omega)
  ·obtain⟨M,rfl⟩: ∃n,N=n+1:=⟨N - 1,by omega⟩
   rw [Bt,if_pos (by omega),CG,ze c4,if_neg (by decide),Af _ (by omega)]
   have:=nextR 0 (by unfold dep;rw [if_neg (by omega)])
   rw [List.range_zero,List.map_nil,List.append_nil] at this
   exact this
theorem PJ(N:Nat)(hN:20000000<N)(l:List Ins)(hl:l.length<=1048576):De N l=some (Ew 0 l):=by
 have:=Xp N hN l hl l.length N 0 [] (by omega) (by omega) (by simp)
 rw [j0,j7] at this
 exact this
def goI(n:Nat):List Ins->List Ins->Int
 |_,[]=>0
 |pre,x::r=>if Kf x.1=true then if pre.any (λy=>JM y.1 x.1)=true then 6 else if x.2.1<0\/(n:Int)<=x.2.1 then 5 else if x.2.2<0\/4<x.2.2 then 7 else goI n (pre++ [x]) r else 4
def lY(l:List Ins)(e:Int):Int:=if e=0 then if 32<total l then 8 else 0 else e
def ZS(n:Nat)(l:List Ins):Int:=if 16<l.length then 2 else lY l (goI n [] l)
theorem bL(N:Nat)(hN:20000000<N)(hs:List Hd)(l:List Ins)(i:Nat)(hi:i<l.length)(hl:l.length<=1048576)(hall: ∀j,j<l.length->((l[j]!).1).length<=1048576)(rec:Int->Option Int):
  ∀(k f j:Nat),j+k=i->k<f->CI N hs l (i:Int) rec f (j:Int)=(if((l.take i).drop j).any (λx=>JM x.1 (l[i]!).1)=true then some 6 else if(l[i]!).2.1<0\/(hs.length:Int)<=(l[i]!).2.1 then some 5 else if(l[i]!).2.2<0\/4<(l[i]!).2.2 then some 7 else rec ((i:Int)+1)):=by
 intro k
 induction k with
 |zero=>
  intro f j hj hf
  obtain⟨f,rfl⟩: ∃n,f=n+1:=⟨f - 1,by omega⟩
  rw [CI,if_neg (by omega),Af _ (by omega),List.drop_of_length_le (by rw [q7];omega),q3,List.any_nil,if_neg Bool.false_ne_true]
  by_cases a:(l[i]!).2.1<0
  ·rw [if_pos a,if_pos (Or.inl a)];rfl
  rw [if_neg a,Af _ (by omega)]
  by_cases b:(l[i]!).2.1>=(hs.length:Int)
  ·rw [zf b,if_pos (Or.inr b)];rfl
  rw [ze b,if_neg (by omega),GI,if_neg (by decide),Af _ (by omega),q3]
  by_cases c:(l[i]!).2.2<0
  ·rw [if_pos c,if_pos (Or.inl c)];rfl
  rw [if_neg c,Af _ (by omega)]
  by_cases d:(l[i]!).2.2>4
  ·rw [zf d,if_pos (Or.inr d)];rfl
  rw [ze d,if_neg (by omega),GH,if_neg (by decide),Af _ (by omega)]
 |succ k ih=>
  intro f j hj hf
  obtain⟨f,rfl⟩: ∃n,f=n+1:=⟨f - 1,by omega⟩
  have e1:(j:Int)+1=((j+1:Nat):Int):=by omega
  have a1:=hall j (by omega)
  have a2:=hall i hi
  rw [CI,if_pos (by omega),Af _ (by omega),Af _ (by omega),q3,q3,RS N _ _ (by omega) (by omega) hN,q0,ej l i j (by omega) (by omega)]
  by_cases h:JM (l[j]!).1 (l[i]!).1=true
  ·rw [if_pos h,if_pos (by rw [h];rfl)]
  ·rw [if_neg h,Af _ (by omega),e1,ih f (j+1) (by omega) (by omega),Bool.eq_false_iff.2 h,Bool.false_or]
theorem Xs(N:Nat)(hN:20000000<N)(hs:List Hd)(l:List Ins)(hl:l.length<=1048576)(hall: ∀j,j<l.length->((l[j]!).1).length<=1048576):
  ∀(k f i:Nat),i+k=l.length->k<f->Bu N hs l f (i:Int)=some (lY l (goI hs.length (l.take i) (l.drop i))):=by
 intro k
 induction k with
 |zero=>
  intro f i hi hf
  obtain⟨f,rfl⟩: ∃n,f=n+1:=⟨f - 1,by omega⟩
  rw [Bu,if_neg (by omega),List.drop_of_length_le (by omega),goI,lY,if_pos Z,PJ N hN l hl,q0,RM]
  by_cases c:32<total l
  ·rw [if_pos c,if_pos (by omega)]
  ·rw [if_neg c,if_neg (by omega)]
 |succ k ih=>
  intro f i hi hf
  obtain⟨f,rfl⟩: ∃n,f=n+1:=⟨f - 1,by omega⟩
  have e1:(i:Int)+1=((i+1:Nat):Int):=by omega
  have a2:=hall i (by omega)
  rw [Bu,if_pos (by omega),Af _ (by omega),q3,PK N _ (by omega) hN,q0,da l i (by omega),goI]
  by_cases c1:Kf (l[i]!).1=true
  ·have hin:=bL N hN hs l i (by omega) hl hall (Bu N hs l f) i N 0 (by omega) (by omega)
   rw [show((0:Nat):Int)=0 from Z,j0] at hin
   rw [if_pos c1,if_pos c1,hin]
   by_cases c2:(l.take i).any (λx=>JM x.1 (l[i]!).1)=true
   ·rw [if_pos c2,if_pos c2];rfl
   rw [if_neg c2,if_neg c2]
   by_cases c3:(l[i]!).2.1<0\/(hs.length:Int)<=(l[i]!).2.1
   ·rw [if_pos c3,if_pos c3];rfl
   rw [if_neg c3,if_neg c3]
   by_cases c4:(l[i]!).2.2<0\/4<(l[i]!).2.2
   ·rw [if_pos c4,if_pos c4];rfl
   rw [if_neg c4,if_neg c4,e1,ih f (i+1) (by omega) (by omega),RC l i (by omega)]
  ·rw [if_neg c1,if_neg c1];rfl
theorem eW(N:Nat)(hN:20000000<N)(hs:List Hd)(l:List Ins)(hl:l.length<=1048576)(hall: ∀j,j<l.length->((l[j]!).1).length<=1048576):Hf N hs l=some (ZS hs.length l):=by
 have:=Xs N hN hs l hl hall l.length N 0 (by omega) (by omega)
 unfold Hf ZS
 by_cases c:16<l.length
 ·rw [if_pos c,if_pos (by omega)]
 ·rw [if_neg c,if_neg (by omega),show(0:Int)=((0:Nat):Int)from Z,this,j0,List.take_zero]
end Go.Proofs.YtjlomkippigejaaGreatDoor
namespace Go.Proofs.YtjlomkippigejaaGreatDoor
open Go Go.RowKit Go.Eng
def Lt(b:W2)(a:List Fd):Prop:=a.length<=1048576/\b.length<=1048576/\ ∀j,j<a.length->(a[j]!).1.length<=1048576
def Ft(n:Nat)(l:List Ins):Prop:=n<=1048576/\l.length<=1048576/\ ∀j,j<l.length->(l[j]!).1.length<=1048576
def Wy(l:List Ins)(i:Int):Int×Bool:=if 0<=i/\i<(l.length:Int)/\dep (l[i.toNat]!).2.2≠0 then((total (l.take i.toNat):Int),true)else(0,false)
abbrev HdB:=(W2)×(List (W2×Int))×Int×Int×Int×Int×Bool
def hdL(a:List Hd)(l:List Ins)(k:Int):HdB:=
 if(ofL l k).2.2=true/\0<=(l[(ofL l k).1.toNat]!).2.1/\(l[(ofL l k).1.toNat]!).2.1<(a.length:Int)then
  let h:=a[((l[(ofL l k).1.toNat]!).2.1).toNat]!
  (h.1,h.2.1,h.2.2.1,h.2.2.2.1,h.2.2.2.2.1,h.2.2.2.2.2,true)
 else([],[],0,0,0,0,false)
theorem Wa(p:W2->Bool): ∀(l:List (W2)) (k:Nat),ZU p l k>=0↔l.any p=true
 | [],_=>⟨λh=>by rw [ZU] at h;omega,λh=>by cases h⟩
 |y::l,k=>by
  rw [ZU,List.any_cons]
  by_cases h:p y=true
  ·rw [if_pos h,h];exact⟨λ_=>Z,λ_=>by omega⟩
  ·rw [if_neg h,Bool.eq_false_iff.2 h,Bool.false_or];exact Wa p l (k+1)
end Go.Proofs.YtjlomkippigejaaGreatDoor
namespace Go.Proofs.YtjlomkippigejaaGreatDoor
open Go Go.RowKit Go.Eng
theorem gL(c:UInt8): ∀s:W2,-1<=Lib.index s [c]/\(Lib.index s [c]>=0↔c∈s)
 | []=>⟨by simp [Lib.index],⟨λh=>by revert h;simp [Lib.index],λh=>by cases h⟩⟩
 |d::l=>by
  have ih:=gL c l
  unfold Lib.index
  by_cases h:d=c
  ·subst h;simp
  ·have hp:List.isPrefixOf [c] (d::l)=false:=by
    simp only [List.isPrefixOf,Bool.and_true]
    exact beq_eq_false_iff_ne.2 (Ne.symm h)
   have hm:c∈d::l↔c∈l:=by rw [zr];exact⟨λh2=>h2.resolve_left (λe=>h e.symm), .inr⟩
   rw [hp,if_neg (by decide),hm,<-ih.2]
   by_cases h2:Lib.index l [c]= -1
   ·rw [h2];decide
   ·have e:(Lib.index l [c]== -1)=false:=beq_eq_false_iff_ne.2 h2
    rw [e,if_neg (by decide)]
    omega
theorem lM(s:W2)(l:List (W2))(k:Nat):ZU (λx=>SI x==SI s) l k=ZU (λx=>JM x s) l k:=by
 congr 1
 funext x
 unfold JM
 rw [Bool.eq_iff_iff,beq_iff_eq,decide_eq_true_eq]
 exact ri
theorem UP(N:Nat)(hN:20000000<N)(s:W2)(hs:s.length<=1048576):Nv N s=some (Kf s):=by
 unfold Nv Kf
 rw [tS N s (by omega),q0]
 by_cases h:bV (Ac5 s)=true
 ·rw [if_pos h,h,Bool.and_true,LG,Rh,Af _ (show([46]:W2).length=1 from Z),q0,q0]
  congr 1
  rw [Bool.eq_iff_iff,decide_eq_true_eq,Bool.not_eq_true',decide_eq_false_iff_not,(gL 46 s).2]
 ·rw [if_neg h,Bool.eq_false_iff.2 h,Bool.and_false]
theorem Qz{α:Type}[Inhabited α](g:α->W2)(l:List α)(i:Nat)(h:i<l.length):((l.take i).map g++List.replicate (l.length - i) ([]:W2)).set i (g (l[i]!))=(l.take (i+1)).map g++List.replicate (l.length - (i+1)) []:=by
 have hl:((l.take i).map g).length=i:=by rw [q8,q7];omega
 rw [List.set_append_right _ _ (by rw [hl];exact Nat.le_refl _),hl,Nat.sub_self,show l.length - i=(l.length - (i+1))+1 from by omega,List.replicate_succ,List.set_cons_zero,RC l i h,List.map_append,zu]
 rfl
theorem Wu{α:Type}(g:α->W2)(l:List α)(i:Nat)(h:i<=l.length):((l.take i).map g++List.replicate (l.length - i) ([]:W2)).length=l.length:=by
 rw [q9,q8,q7,zi];omega
theorem xj(N:Nat)(l:List Fd)(hl:l.length<=1048576): ∀(k f i:Nat),i+k=l.length->k<f->
  Gq N (l.length:Int) l f ((l.take i).map (·.1)++List.replicate (l.length - i) []) (i:Int)=some (l.map (·.1)):=by
 intro k
 induction k with
 |zero=>
  intro f i hi hf
  obtain⟨f,rfl⟩: ∃n,f=n+1:=⟨f - 1,by omega⟩
  rw [Gq,if_neg (by omega),j6 (by omega),show l.length - i=0 from by omega,List.replicate_zero,List.append_nil]
 |succ k ih=>
  intro f i hi hf
  obtain⟨f,rfl⟩: ∃n,f=n+1:=⟨f - 1,by omega⟩
  have e1:(i:Int)+1=((i+1:Nat):Int):=by omega
  rw [Gq,if_pos (by omega),IH,Af _ (by omega),q0,Af _ (by rw [Wu _ _ _ (by omega)];omega),Af _ (by omega),e1,q3,Qz _ l i (by omega)]
  exact ih f (i+1) (by omega) (by omega)
theorem aH(N:Nat)(l:List Fd)(hl:l.length<=1048576)(hN:l.length<N):Ka N l=some (l.map (·.1)):=by
 have:=xj N l hl l.length N 0 (by omega) hN
 rw [Ka,Mz,Af _ (by omega),q3]
 have e:Gq N (l.length:Int) l N (List.replicate l.length []) 0=some (l.map (·.1)):=this
 rw [e];rfl
theorem YG(N:Nat)(hN:20000000<N)(l:List (W2))(i:Nat)(hi:i<l.length)(hl:l.length<=1048576)(hall: ∀j,j<l.length->(l[j]!).length<=1048576):
  Lm N l (i:Int)=some (if Kf (l[i]!)=true then if(l.take i).any (λx=>JM x (l[i]!))=true then 6 else 0 else 4):=by
 have hs:=hall i hi
 rw [Lm,Af _ (by omega),q3,UP N hN _ (by omega),q0]
 by_cases c1:Kf (l[i]!)=true
 ·rw [if_pos c1,if_pos c1,Af _ (by omega),Af _ (by omega),j0,gK N _ _ hN (by rw [q7];omega) hs (λj hj=>by
   rw [q7] at hj
   have:=hall j (by omega)
   rw [zg _ j (by rw [q7];exact hj),j4]
   rw [zg l j (by omega)] at this
   exact this),q0,lM]
  by_cases c2:(l.take i).any (λx=>JM x (l[i]!))=true
  ·rw [if_pos ((Wa _ _ _).2 c2),if_pos c2]
  ·rw [if_neg (λh=>c2 ((Wa _ _ _).1 h)),if_neg c2]
 ·rw [if_neg c1,if_neg c1]
theorem Zl{α:Type}(g:α->W2)(l:List α)(i:Nat)(s:W2):((l.map g).take i).any (λx=>JM x s)=(l.take i).any (λx=>JM (g x) s):=by
 rw [<-List.map_take,List.any_map];rfl
theorem Nz{α:Type}[Inhabited α](g:α->W2)(l:List α)(i:Nat)(h:i<l.length):(l.map g)[i]! =g (l[i]!):=by
 rw [zg _ i (by rw [q8];exact h),zm,zg l i h]
theorem IK(N:Nat)(n a b:Int):Gd N n a b=some (decide (a<=n/\n<=b)):=by
 unfold Gd
 by_cases h:a<=n
 ·rw [if_pos h]
  by_cases h1:n<=b
  ·rw [zf h1,zf ⟨h,h1⟩]
  ·rw [ze h1,ze (λh2=>h1 h2.2)]
 ·rw [if_neg h,ze (λh2=>h h2.1)]
theorem jh(N:Nat)(h0:W2)(h1:List Fd)(h2 h3 h4 h5:Int)(hl:h1.length<=1048576):JZ N h0 h1 h2 h3 h4 h5=some (eH h1 h2 h3 h4 h5):=by
 unfold JZ eH
 by_cases c:h2=0
 ·rw [if_pos c,if_pos c]
  by_cases a:h3=0
  ·rw [if_pos a]
   by_cases b:h4=0
   ·rw [if_pos b];congr 1
    rw [Bool.eq_iff_iff,beq_iff_eq,decide_eq_true_eq];omega
   ·rw [if_neg b,ze (by omega)]
  ·rw [if_neg a,ze (by omega)]
 rw [if_neg c,if_neg c,IK,q0]
 by_cases a:1<=h2/\h2<=64
 rotate_left
 ·rw [ze a,if_neg (by decide),ze (by omega)]
 rw [zf a,if_pos Z,Af _ (by omega),IK,q0]
 by_cases b:0<=h3/\h3<=(h1.length:Int) - 1
 rotate_left
 ·rw [ze b,if_neg (by decide),ze (by omega)]
 rw [zf b,if_pos Z,Af _ (by omega)]
 by_cases d:(h1[h3.toNat]!).2<=16
 rotate_left
 ·rw [if_neg d,ze (by omega)]
 rw [if_pos d,IK,q0]
 by_cases e:1<=h4/\h4<=64
 rotate_left
 ·rw [ze e,if_neg (by decide),ze (by omega)]
 rw [zf e,if_pos Z,IK,q0]
 congr 1
 rw [Bool.eq_iff_iff,decide_eq_true_eq,decide_eq_true_eq];omega
theorem eF(l:List Fd)(hw:okW l)(hl:l.length<=1048576): ∀(k f i:Nat),i+k=l.length->k<f->JV l f (JK (l.take i)) (i:Int)=some (JK l):=by
 intro k
 induction k with
 |zero=>
  intro f i hi hf
  obtain⟨f,rfl⟩: ∃n,f=n+1:=⟨f - 1,by omega⟩
  rw [JV,if_neg (by omega),j6 (by omega)]
 |succ k ih=>
  intro f i hi hf
  obtain⟨f,rfl⟩: ∃n,f=n+1:=⟨f - 1,by omega⟩
  have e1:(i:Int)+1=((i+1:Nat):Int):=by omega
  have es:JK (l.take i)+(l[i]!).2=JK (l.take (i+1)):=by rw [RC l i (by omega),Vf];simp [JK]
  have hs:=Ol _ (bR hw (i+1))
  have hlt:(l.take (i+1)).length<=1048576:=by rw [q7];omega
  rw [JV,if_pos (by omega),Af _ (by omega),q3,es,Af _ (by omega),Af _ (by omega),e1]
  exact ih f (i+1) (by omega) (by omega)
theorem fW(N:Nat)(hN:20000000<N)(l:List Fd)(hw:okW l)(hl:l.length<=1048576):Pa N l=some (JK l):=eF l hw hl l.length N 0 (by omega) (by omega)
theorem VH(N:Nat)(hN:20000000<N)(h1:List Fd)(hl:h1.length<=1048576)(hall: ∀j,j<h1.length->(h1[j]!).1.length<=1048576):
  ∀(k f i:Nat),i+k=h1.length->k<f->Hk N h1 (h1.map (·.1)) f (i:Int)=some (goF (h1.take i) (h1.drop i)):=by
 intro k
 induction k with
 |zero=>
  intro f i hi hf
  obtain⟨f,rfl⟩: ∃n,f=n+1:=⟨f - 1,by omega⟩
  rw [Hk,if_neg (by omega),List.drop_of_length_le (by omega)];rfl
 |succ k ih=>
  intro f i hi hf
  obtain⟨f,rfl⟩: ∃n,f=n+1:=⟨f - 1,by omega⟩
  have e1:(i:Int)+1=((i+1:Nat):Int):=by omega
  have en:=Nz (λx:Fd=>x.1) h1 i (by omega)
  rw [Hk,if_pos (by omega),Af _ (by omega),q3,YG N hN _ i (by rw [q8];omega) (by rw [q8];omega) (λj hj=>by
    rw [q8] at hj
    have:=hall j hj
    rw [Nz (λx:Fd=>x.1) h1 j hj];omega),q0,en,Zl,da h1 i (by omega),goF]
  by_cases c1:Kf (h1[i]!).1=true
  rotate_left
  ·rw [if_neg c1,if_neg c1];rfl
  rw [if_pos c1,if_pos c1]
  by_cases c2:(h1.take i).any (λx=>JM x.1 (h1[i]!).1)=true
  ·rw [if_pos c2,if_pos c2];rfl
  rw [if_neg c2,if_neg c2,if_neg (λh=>h Z),IK,q0]
  by_cases c3:(h1[i]!).2<1\/128<(h1[i]!).2
  ·rw [ze (by omega),if_neg (by decide),if_pos c3]
  rw [zf (by omega),if_pos Z,if_neg c3,Af _ (by omega),e1,ih f (i+1) (by omega) (by omega),RC h1 i (by omega)]
theorem bW(N:Nat)(hN:20000000<N)(h1:List Fd)(hl:h1.length<=1048576)(hall: ∀j,j<h1.length->(h1[j]!).1.length<=1048576):KO N h1=some (goF [] h1):=by
 have:=VH N hN h1 hl hall h1.length N 0 (by omega) (by omega)
 rw [KO,aH N h1 (by omega) (by omega),q0]
 exact this
theorem uH(N:Nat)(hN:20000000<N)(h0:W2)(h1:List Fd)(h2 h3 h4 h5:Int)(hl:Lt h0 h1):Jn N h0 h1 h2 h3 h4 h5=some (RX h0 h1 h2 h3 h4 h5):=by
 have hlen:=hl.1
 unfold Jn RX
 rw [UP N hN h0 (by have:=hl.2.1;omega),q0]
 by_cases c1:Kf h0=true
 rotate_left
 ·rw [if_neg c1,if_neg c1]
 rw [if_pos c1,if_pos c1]
 by_cases c2:16<h1.length
 ·rw [if_pos (by omega),if_pos c2]
 rw [if_neg (by omega),if_neg c2]
 by_cases c3:h1.length=0
 ·rw [if_pos (by omega),if_pos c3]
 rw [if_neg (by omega),if_neg c3,bW N hN h1 hlen hl.2.2,q0,lZ]
 by_cases c4:goF [] h1=0
 rotate_left
 ·rw [if_pos c4,if_neg c4]
 have hw:=fp _ _ c4
 have hs:=Ol _ hw
 rw [if_neg (λh=>h c4),if_pos c4,fW N hN h1 hw hlen,q0,Af _ (by omega),br,jh N _ _ _ _ _ _ hlen,q0]
 by_cases a:JK h1%8≠0
 ·rw [if_pos a,if_pos a]
 rw [if_neg a,if_neg a]
 by_cases b:eH h1 h2 h3 h4 h5=true
 ·rw [if_pos b,if_pos b]
 ·rw [if_neg b,if_neg b]
end Go.Proofs.YtjlomkippigejaaGreatDoor
