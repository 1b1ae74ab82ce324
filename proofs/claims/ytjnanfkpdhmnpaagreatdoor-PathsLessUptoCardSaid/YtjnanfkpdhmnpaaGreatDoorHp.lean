import Derived.Test.YtjnanfkpdhmnpaaGreatDoorRx
namespace Go.Proofs.YtjnanfkpdhmnpaaGreatDoor
open Go Go.RowKit Go.Eng
abbrev Ins:=W2×Int×Int
abbrev Hd:=(W2)×(Y0 (W2×Int))×Int×Int×Int×Int
theorem cu{l:Y0 Fd}(h:okW l)(i:Nat):okW (l.take i):=λx hx=>h x (List.mem_of_mem_take hx)
theorem ZW(h1:Y0 Fd)(hw:okW h1)(hl:h1.length<=1048576): ∀(k f i:Nat),i+k=h1.length->k<f->Cz h1 f (Ke (h1.take i)) (i:Int)=some (Ke h1):=by
 intro k
 induction k with
 |zero=>
  intro f i hi hf
  obtain⟨f,rfl⟩: ∃n,f=n+1:=⟨f - 1,by omega⟩
  rw [Cz,V9 (by omega),y4 (by omega)]
 |succ k ih=>
  intro f i hi hf
  obtain⟨f,rfl⟩: ∃n,f=n+1:=⟨f - 1,by omega⟩
  have e1:(i:Int)+1=((i+1:Nat):Int):=by omega
  have es:Ke (h1.take i)+(h1[i]!).2=Ke (h1.take (i+1)):=by rw [Sc h1 i (by omega),VF];simp [Ke]
  have hs:=OK _ (cu hw (i+1))
  have hlt:(h1.take (i+1)).length<=1048576:=by rw [q8];omega
  rw [Cz,V8 (by omega),Af _ (by omega),q4,es,Af _ (by omega),Af _ (by omega),e1]
  exact ih f (i+1) (by omega) (by omega)
theorem jP(N:Nat)(hN:20000000<N)(h0:W2)(h1:Y0 Fd)(h2 h3 h4 h5:Int)(hw:okW h1)(hl:h1.length<=1048576):GB N h0 h1 h2 h3 h4 h5=some (Ke h1):=
 ZW h1 hw hl h1.length N 0 (by omega) (by omega)
theorem ik{h0:W2}{h1:Y0 Fd}{h2 h3 h4 h5:Int}(h:SD h0 h1 h2 h3 h4 h5=0):okW h1/\Ke h1%8=0/\h1.length<=16/\1<=h1.length/\fj h1 h2 h3 h4 h5=true:=by
 unfold SD at h
 by_cases c1:Kx h0=true
 ·rw [V8 c1] at h
  by_cases c2:16<h1.length
  ·rw [V8 c2] at h;omega
  rw [V9 c2] at h
  by_cases c3:h1.length=0
  ·rw [V8 c3] at h;omega
  rw [V9 c3] at h
  unfold nl at h
  by_cases c4:goF [] h1=0
  ·rw [V8 c4] at h
   unfold bQ at h
   by_cases c5:Ke h1%8≠0
   ·rw [V8 c5] at h;omega
   rw [V9 c5] at h
   by_cases c6:fj h1 h2 h3 h4 h5=true
   ·exact⟨fY _ _ c4,by omega,by omega,by omega,c6⟩
   ·rw [V9 c6] at h;omega
  ·rw [V9 c4] at h;omega
 ·rw [V9 c1] at h;omega
def dep(d:Int):Nat:=if 0<=d/\d<=4 then(max d 1).toNat else 0
def EJ:Nat->Y0 Ins->Y0 (Int×Int)
 |_,[]=> []
 |i,x::r=>(List.range (dep x.2.2)).map (λk:Nat=>((i:Int),(k:Int)))++EJ (i+1) r
def total(l:Y0 Ins):Nat:=(l.map (λx=>dep x.2.2)).sum
def ofF:Nat->Y0 Ins->Int->Int×Int×Y3
 |_,[],_=>(0,0,false)
 |i,x::r,k=>if k<(dep x.2.2:Int)then((i:Int),k,true)else ofF (i+1) r (k - (dep x.2.2:Int))
def ofL(l:Y0 Ins)(k:Int):Int×Int×Y3:=if k<0 then(0,0,false)else ofF 0 l k
theorem nE(d:Int):dep d<=4:=by unfold dep;split<;>omega
theorem Sq: ∀(l:Y0 Ins) (i:Nat),(EJ i l).length=total l
 | [],_=>rfl
 |x::r,i=>by rw [EJ,zf,q9,List.length_range,Sq r];simp [total]
theorem VC: ∀l:Y0 Ins,total l<=4*l.length
 | []=>by simp [total]
 |x::r=>by
  have:=VC r;have:=nE x.2.2
  have e:total (x::r)=dep x.2.2+total r:=by simp [total]
  rw [e,zg];omega
theorem Ub: ∀(l:Y0 Ins) (i k:Nat),ofF i l (k:Int)=if h:k<(EJ i l).length then(((EJ i l)[k]).1,((EJ i l)[k]).2,true)else(0,0,false)
 | [],i,k=>by rw [dif_neg (by simp [EJ])];rfl
 |x::r,i,k=>by
  have hlen:((List.range (dep x.2.2)).map (λk:Nat=>((i:Int),(k:Int)))).length=dep x.2.2:=by rw [q9,List.length_range]
  rw [ofF]
  by_cases h:k<dep x.2.2
  ·rw [V8 (by omega),dif_pos (by rw [EJ,zf,hlen];omega)]
   simp only [EJ]
   rw [List.getElem_append_left (by rw [hlen];exact h),zt,List.getElem_range]
  ·have ih:=Ub r (i+1) (k - dep x.2.2)
   rw [V9 (by omega),show(k:Int) - (dep x.2.2:Int)=((k - dep x.2.2:Nat):Int)from by omega,ih]
   by_cases h2:k - dep x.2.2<(EJ (i+1) r).length
   ·rw [dif_pos h2,dif_pos (by rw [EJ,zf,hlen];omega)]
    simp only [EJ]
    rw [List.getElem_append_right (by rw [hlen];omega)]
    simp only [hlen]
   ·rw [dif_neg h2,dif_neg (by rw [EJ,zf,hlen];omega)]
end Go.Proofs.YtjnanfkpdhmnpaaGreatDoor
namespace Go.Proofs.YtjnanfkpdhmnpaaGreatDoor
open Go Go.RowKit Go.Eng
theorem bR(i:Nat)(hi:i<=1048576)(rec:Y0 (Int×Int)->Int->Y1 (Y0 (Int×Int)))(n:Nat)(hn:n<=4):
  ∀(k f j:Nat) (out:Y0 (Int×Int)),j+k=n->k<f->out.length+k<=5000000->BG (i:Int) rec (n:Int) f out (j:Int)=rec (out++((List.range n).drop j).map (λk:Nat=>((i:Int),(k:Int)))) ((i:Int)+1):=by
 intro k
 induction k with
 |zero=>
  intro f j out hj hf ho
  obtain⟨f,rfl⟩: ∃n,f=n+1:=⟨f - 1,by omega⟩
  rw [BG,V9 (by omega),CU,V9 (by decide),Af _ (by omega),List.drop_of_length_le (by rw [List.length_range];omega),List.map_nil,List.append_nil]
 |succ k ih=>
  intro f j out hj hf ho
  obtain⟨f,rfl⟩: ∃n,f=n+1:=⟨f - 1,by omega⟩
  have e1:(j:Int)+1=((j+1:Nat):Int):=by omega
  have hd:(List.range n).drop j=j::(List.range n).drop (j+1):=by rw [y3 (by rw [List.length_range];omega),List.getElem_range]
  rw [BG,V8 (by omega),CU,zl (by omega),V8 Z,Af _ (by simp only [List.length_singleton];omega),Af _ (by omega),e1,ih f (j+1) _ (by omega) (by omega) (by rw [zf,List.length_singleton];omega),hd,List.map_cons,j0]
  rfl
theorem XN(N:Nat)(hN:20000000<N)(l:Y0 Ins)(hl:l.length<=1048576): ∀(k f i:Nat) (out:Y0 (Int×Int)),i+k=l.length->k<f->out.length<=4*i->Bo N l f out (i:Int)=some (out++EJ i (l.drop i)):=by
 intro k
 induction k with
 |zero=>
  intro f i out hi hf ho
  obtain⟨f,rfl⟩: ∃n,f=n+1:=⟨f - 1,by omega⟩
  rw [Bo,V9 (by omega),List.drop_of_length_le (by omega),EJ,List.append_nil]
 |succ k ih=>
  intro f i out hi hf ho
  obtain⟨f,rfl⟩: ∃n,f=n+1:=⟨f - 1,by omega⟩
  have e1:(i:Int)+1=((i+1:Nat):Int):=by omega
  have hdl:=nE (l[i]!).2.2
  have next: ∀ys:Y0 Int,ys.length=dep (l[i]!).2.2->Bo N l f (out++ys.map (λk=>((i:Int),k))) ((i:Int)+1)=some (out++(ys.map (λk=>((i:Int),k))++EJ (i+1) (l.drop (i+1)))):=λys hy=>by
   rw [e1,ih f (i+1) _ (by omega) (by omega) (by rw [zf,q9,hy];omega),j0]
  have nextR: ∀n:Nat,n=dep (l[i]!).2.2->Bo N l f (out++(List.range n).map (λk:Nat=>((i:Int),(k:Int)))) ((i:Int)+1)=some (out++EJ i (l.drop i)):=λn hn=>by
   have:=next ((List.range n).map (λk:Nat=>(k:Int))) (by rw [q9,List.length_range,hn])
   rw [List.map_map] at this
   rw [dH l i (by omega),EJ,<-hn]
   exact this
  rw [Bo,V8 (by omega),Af _ (by omega),q4]
  by_cases c0:(l[i]!).2.2=0
  ·rw [V8 c0,FB,show(1:Int)=((1:Nat):Int)from Z,show(0:Int)=((0:Nat):Int)from Z,bR i (by omega) _ 1 (by omega) 1 N 0 out (by omega) (by omega) (by omega),j8]
   exact nextR 1 (by unfold dep;rw [c0];rfl)
  rw [V9 c0,FB]
  by_cases c1:(l[i]!).2.2<0
  ·obtain⟨M,rfl⟩: ∃n,N=n+1:=⟨N - 1,by omega⟩
   rw [BG,V9 (by omega),CU,V9 (by decide),Af _ (by omega)]
   have:=nextR 0 (by unfold dep;rw [V9 (by omega)])
   rw [List.range_zero,List.map_nil,List.append_nil] at this
   exact this
  by_cases c4:(l[i]!).2.2<=4
  ·have hz:((((l[i]!).2.2).toNat:Nat):Int)=(l[i]!).2.2:=by omega
   rw [<-hz,show(0:Int)=((0:Nat):Int)from Z,bR i (by omega) _ _ (by omega) ((l[i]!).2.2).toNat N 0 out (by omega) (by omega) (by omega),j8]
   exact nextR _ (by unfold dep;rw [V8 (by omega)];omega)
  ·obtain⟨M,rfl⟩: ∃n,N=n+1:=⟨N - 1,by omega⟩
   rw [BG,V8 (by omega),CU,zk c4,V9 (by decide),Af _ (by omega)]
   have:=nextR 0 (by unfold dep;rw [V9 (by omega)])
   rw [List.range_zero,List.map_nil,List.append_nil] at this
   exact this
theorem Qj(N:Nat)(hN:20000000<N)(l:Y0 Ins)(hl:l.length<=1048576):Dp N l=some (EJ 0 l):=by
 have:=XN N hN l hl l.length N 0 [] (by omega) (by omega) (by simp)
 rw [j8,y5] at this
 exact this
def goI(n:Nat):Y0 Ins->Y0 Ins->Int
 |_,[]=>0
 |pre,x::r=>if Kx x.1=true then if pre.any (λy=>Kh y.1 x.1)=true then 6 else if x.2.1<0\/(n:Int)<=x.2.1 then 5 else if x.2.2<0\/4<x.2.2 then 7 else goI n (pre++ [x]) r else 4
def nk(l:Y0 Ins)(e:Int):Int:=if e=0 then if 32<total l then 8 else 0 else e
def aL(n:Nat)(l:Y0 Ins):Int:=if 16<l.length then 2 else nk l (goI n [] l)
theorem cf(N:Nat)(hN:20000000<N)(hs:Y0 Hd)(l:Y0 Ins)(i:Nat)(hi:i<l.length)(hl:l.length<=1048576)(hall: ∀j,j<l.length->((l[j]!).1).length<=1048576)(rec:Int->Y1 Int):
  ∀(k f j:Nat),j+k=i->k<f->CW N hs l (i:Int) rec f (j:Int)=(if((l.take i).drop j).any (λx=>Kh x.1 (l[i]!).1)=true then some 6 else if(l[i]!).2.1<0\/(hs.length:Int)<=(l[i]!).2.1 then some 5 else if(l[i]!).2.2<0\/4<(l[i]!).2.2 then some 7 else rec ((i:Int)+1)):=by
 intro k
 induction k with
 |zero=>
  intro f j hj hf
  obtain⟨f,rfl⟩: ∃n,f=n+1:=⟨f - 1,by omega⟩
  rw [CW,V9 (by omega),Af _ (by omega),List.drop_of_length_le (by rw [q8];omega),q4,List.any_nil,V9 Bool.false_ne_true]
  by_cases a:(l[i]!).2.1<0
  ·rw [V8 a,V8 (Or.inl a)];rfl
  rw [V9 a,Af _ (by omega)]
  by_cases b:(l[i]!).2.1>=(hs.length:Int)
  ·rw [zl b,V8 (Or.inr b)];rfl
  rw [zk b,V9 (by omega),Hb,V9 (by decide),Af _ (by omega),q4]
  by_cases c:(l[i]!).2.2<0
  ·rw [V8 c,V8 (Or.inl c)];rfl
  rw [V9 c,Af _ (by omega)]
  by_cases d:(l[i]!).2.2>4
  ·rw [zl d,V8 (Or.inr d)];rfl
  rw [zk d,V9 (by omega),Ha,V9 (by decide),Af _ (by omega)]
 |succ k ih=>
  intro f j hj hf
  obtain⟨f,rfl⟩: ∃n,f=n+1:=⟨f - 1,by omega⟩
  have e1:(j:Int)+1=((j+1:Nat):Int):=by omega
  have a1:=hall j (by omega)
  have a2:=hall i hi
  rw [CW,V8 (by omega),Af _ (by omega),Af _ (by omega),q4,q4,Sx N _ _ (by omega) (by omega) hN,q0,eT l i j (by omega) (by omega)]
  by_cases h:Kh (l[j]!).1 (l[i]!).1=true
  ·rw [V8 h,V8 (by rw [h];rfl)]
  ·rw [V9 h,Af _ (by omega),e1,ih f (j+1) (by omega) (by omega),Bool.eq_false_iff.2 h,Bool.false_or]
theorem XQ(N:Nat)(hN:20000000<N)(hs:Y0 Hd)(l:Y0 Ins)(hl:l.length<=1048576)(hall: ∀j,j<l.length->((l[j]!).1).length<=1048576):
  ∀(k f i:Nat),i+k=l.length->k<f->BH N hs l f (i:Int)=some (nk l (goI hs.length (l.take i) (l.drop i))):=by
 intro k
 induction k with
 |zero=>
  intro f i hi hf
  obtain⟨f,rfl⟩: ∃n,f=n+1:=⟨f - 1,by omega⟩
  rw [BH,V9 (by omega),List.drop_of_length_le (by omega),goI,nk,V8 Z,Qj N hN l hl,q0,Sq]
  by_cases c:32<total l
  ·rw [V8 c,V8 (by omega)]
  ·rw [V9 c,V9 (by omega)]
 |succ k ih=>
  intro f i hi hf
  obtain⟨f,rfl⟩: ∃n,f=n+1:=⟨f - 1,by omega⟩
  have e1:(i:Int)+1=((i+1:Nat):Int):=by omega
  have a2:=hall i (by omega)
  rw [BH,V8 (by omega),Af _ (by omega),q4,Qk N _ (by omega) hN,q0,dH l i (by omega),goI]
  by_cases c1:Kx (l[i]!).1=true
  ·have hin:=cf N hN hs l i (by omega) hl hall (BH N hs l f) i N 0 (by omega) (by omega)
   rw [show((0:Nat):Int)=0 from Z,j8] at hin
   rw [V8 c1,V8 c1,hin]
   by_cases c2:(l.take i).any (λx=>Kh x.1 (l[i]!).1)=true
   ·rw [V8 c2,V8 c2];rfl
   rw [V9 c2,V9 c2]
   by_cases c3:(l[i]!).2.1<0\/(hs.length:Int)<=(l[i]!).2.1
   ·rw [V8 c3,V8 c3];rfl
   rw [V9 c3,V9 c3]
   by_cases c4:(l[i]!).2.2<0\/4<(l[i]!).2.2
   ·rw [V8 c4,V8 c4];rfl
   rw [V9 c4,V9 c4,e1,ih f (i+1) (by omega) (by omega),Sc l i (by omega)]
  ·rw [V9 c1,V9 c1];rfl
theorem fE(N:Nat)(hN:20000000<N)(hs:Y0 Hd)(l:Y0 Ins)(hl:l.length<=1048576)(hall: ∀j,j<l.length->((l[j]!).1).length<=1048576):Hw N hs l=some (aL hs.length l):=by
 have:=XQ N hN hs l hl hall l.length N 0 (by omega) (by omega)
 unfold Hw aL
 by_cases c:16<l.length
 ·rw [V8 c,V8 (by omega)]
 ·rw [V9 c,V9 (by omega),show(0:Int)=((0:Nat):Int)from Z,this,j8,List.take_zero]
end Go.Proofs.YtjnanfkpdhmnpaaGreatDoor
namespace Go.Proofs.YtjnanfkpdhmnpaaGreatDoor
open Go Go.RowKit Go.Eng
def Lt(b:W2)(a:Y0 Fd):Prop:=a.length<=1048576/\b.length<=1048576/\ ∀j,j<a.length->(a[j]!).1.length<=1048576
def Ft(n:Nat)(l:Y0 Ins):Prop:=n<=1048576/\l.length<=1048576/\ ∀j,j<l.length->(l[j]!).1.length<=1048576
def bf(l:Y0 Ins)(i:Int):Int×Y3:=if 0<=i/\i<(l.length:Int)/\dep (l[i.toNat]!).2.2≠0 then((total (l.take i.toNat):Int),true)else(0,false)
abbrev HdB:=(W2)×(Y0 (W2×Int))×Int×Int×Int×Int×Y3
def hdL(a:Y0 Hd)(l:Y0 Ins)(k:Int):HdB:=
 if(ofL l k).2.2=true/\0<=(l[(ofL l k).1.toNat]!).2.1/\(l[(ofL l k).1.toNat]!).2.1<(a.length:Int)then
  let h:=a[((l[(ofL l k).1.toNat]!).2.1).toNat]!
  (h.1,h.2.1,h.2.2.1,h.2.2.2.1,h.2.2.2.2.1,h.2.2.2.2.2,true)
 else([],[],0,0,0,0,false)
theorem Wx(p:W2->Y3): ∀(l:Y0 (W2)) (k:Nat),aM p l k>=0↔l.any p=true
 | [],_=>⟨λh=>by rw [aM] at h;omega,λh=>by cases h⟩
 |y::l,k=>by
  rw [aM,List.any_cons]
  by_cases h:p y=true
  ·rw [V8 h,h];exact⟨λ_=>Z,λ_=>by omega⟩
  ·rw [V9 h,Bool.eq_false_iff.2 h,Bool.false_or];exact Wx p l (k+1)
end Go.Proofs.YtjnanfkpdhmnpaaGreatDoor
namespace Go.Proofs.YtjnanfkpdhmnpaaGreatDoor
open Go Go.RowKit Go.Eng
theorem iI(c:UInt8): ∀s:W2,-1<=Lib.index s [c]/\(Lib.index s [c]>=0↔c∈s)
 | []=>⟨by simp [Lib.index],⟨λh=>by revert h;simp [Lib.index],λh=>by cases h⟩⟩
 |d::l=>by
  have ih:=iI c l
  unfold Lib.index
  by_cases h:d=c
  ·subst h;simp
  ·have hp:List.isPrefixOf [c] (d::l)=false:=by
    simp only [List.isPrefixOf,Bool.and_true]
    exact beq_eq_false_iff_ne.2 (Ne.symm h)
   have hm:c∈d::l↔c∈l:=by rw [zy];exact⟨λh2=>h2.resolve_left (λe=>h e.symm), .inr⟩
   rw [hp,V9 (by decide),hm,<-ih.2]
   by_cases h2:Lib.index l [c]= -1
   ·rw [h2];decide
   ·have e:(Lib.index l [c]== -1)=false:=beq_eq_false_iff_ne.2 h2
    rw [e,V9 (by decide)]
    omega
theorem mY(s:W2)(l:Y0 (W2))(k:Nat):aM (λx=>Ti x==Ti s) l k=aM (λx=>Kh x s) l k:=by
 congr 1
 funext x
 unfold Kh
 rw [Bool.eq_iff_iff,beq_iff_eq,decide_eq_true_eq]
 exact sG
theorem Vh(N:Nat)(hN:20000000<N)(s:W2)(hs:s.length<=1048576):NP N s=some (Kx s):=by
 unfold NP Kx
 rw [vd N s (by omega),q0]
 by_cases h:cG (Ac4 s)=true
 ·rw [V8 h,h,Bool.and_true,Mi,RI,Af _ (show([46]:W2).length=1 from Z),q0,q0]
  congr 1
  rw [Bool.eq_iff_iff,decide_eq_true_eq,Bool.not_eq_true',decide_eq_false_iff_not,(iI 46 s).2]
 ·rw [V9 h,Bool.eq_false_iff.2 h,Bool.and_false]
theorem Re{α:Type}[Inhabited α](g:α->W2)(l:Y0 α)(i:Nat)(h:i<l.length):((l.take i).map g++List.replicate (l.length - i) ([]:W2)).set i (g (l[i]!))=(l.take (i+1)).map g++List.replicate (l.length - (i+1)) []:=by
 have hl:((l.take i).map g).length=i:=by rw [q9,q8];omega
 rw [List.set_append_right _ _ (by rw [hl];exact Nat.le_refl _),hl,Nat.sub_self,show l.length - i=(l.length - (i+1))+1 from by omega,List.replicate_succ,List.set_cons_zero,Sc l i h,List.map_append,j0]
 rfl
theorem WR{α:Type}(g:α->W2)(l:Y0 α)(i:Nat)(h:i<=l.length):((l.take i).map g++List.replicate (l.length - i) ([]:W2)).length=l.length:=by
 rw [zf,q9,q8,zo];omega
theorem yo(N:Nat)(l:Y0 Fd)(hl:l.length<=1048576): ∀(k f i:Nat),i+k=l.length->k<f->
  GH N (l.length:Int) l f ((l.take i).map (·.1)++List.replicate (l.length - i) []) (i:Int)=some (l.map (·.1)):=by
 intro k
 induction k with
 |zero=>
  intro f i hi hf
  obtain⟨f,rfl⟩: ∃n,f=n+1:=⟨f - 1,by omega⟩
  rw [GH,V9 (by omega),y4 (by omega),show l.length - i=0 from by omega,List.replicate_zero,List.append_nil]
 |succ k ih=>
  intro f i hi hf
  obtain⟨f,rfl⟩: ∃n,f=n+1:=⟨f - 1,by omega⟩
  have e1:(i:Int)+1=((i+1:Nat):Int):=by omega
  rw [GH,V8 (by omega),IZ,Af _ (by omega),q0,Af _ (by rw [WR _ _ _ (by omega)];omega),Af _ (by omega),e1,q4,Re _ l i (by omega)]
  exact ih f (i+1) (by omega) (by omega)
theorem bk(N:Nat)(l:Y0 Fd)(hl:l.length<=1048576)(hN:l.length<N):Ku N l=some (l.map (·.1)):=by
 have:=yo N l hl l.length N 0 (by omega) hN
 rw [Ku,MS,Af _ (by omega),q4]
 have e:GH N (l.length:Int) l N (List.replicate l.length []) 0=some (l.map (·.1)):=this
 rw [e];rfl
theorem Zd(N:Nat)(hN:20000000<N)(l:Y0 (W2))(i:Nat)(hi:i<l.length)(hl:l.length<=1048576)(hall: ∀j,j<l.length->(l[j]!).length<=1048576):
  LT N l (i:Int)=some (if Kx (l[i]!)=true then if(l.take i).any (λx=>Kh x (l[i]!))=true then 6 else 0 else 4):=by
 have hs:=hall i hi
 rw [LT,Af _ (by omega),q4,Vh N hN _ (by omega),q0]
 by_cases c1:Kx (l[i]!)=true
 ·rw [V8 c1,V8 c1,Af _ (by omega),Af _ (by omega),j8,iH N _ _ hN (by rw [q8];omega) hs (λj hj=>by
   rw [q8] at hj
   have:=hall j (by omega)
   rw [zm _ j (by rw [q8];exact hj),y2]
   rw [zm l j (by omega)] at this
   exact this),q0,mY]
  by_cases c2:(l.take i).any (λx=>Kh x (l[i]!))=true
  ·rw [V8 ((Wx _ _ _).2 c2),V8 c2]
  ·rw [V9 (λh=>c2 ((Wx _ _ _).1 h)),V9 c2]
 ·rw [V9 c1,V9 c1]
theorem ZE{α:Type}(g:α->W2)(l:Y0 α)(i:Nat)(s:W2):((l.map g).take i).any (λx=>Kh x s)=(l.take i).any (λx=>Kh (g x) s):=by
 rw [<-List.map_take,List.any_map];rfl
theorem NT{α:Type}[Inhabited α](g:α->W2)(l:Y0 α)(i:Nat)(h:i<l.length):(l.map g)[i]! =g (l[i]!):=by
 rw [zm _ i (by rw [q9];exact h),zt,zm l i h]
theorem Jb(N:Nat)(n a b:Int):Gw N n a b=some (decide (a<=n/\n<=b)):=by
 unfold Gw
 by_cases h:a<=n
 ·rw [V8 h]
  by_cases h1:n<=b
  ·rw [zl h1,zl ⟨h,h1⟩]
  ·rw [zk h1,zk (λh2=>h1 h2.2)]
 ·rw [V9 h,zk (λh2=>h h2.1)]
theorem jX(N:Nat)(h0:W2)(h1:Y0 Fd)(h2 h3 h4 h5:Int)(hl:h1.length<=1048576):Kt N h0 h1 h2 h3 h4 h5=some (fj h1 h2 h3 h4 h5):=by
 unfold Kt fj
 by_cases c:h2=0
 ·rw [V8 c,V8 c]
  by_cases a:h3=0
  ·rw [V8 a]
   by_cases b:h4=0
   ·rw [V8 b];congr 1
    rw [Bool.eq_iff_iff,beq_iff_eq,decide_eq_true_eq];omega
   ·rw [V9 b,zk (by omega)]
  ·rw [V9 a,zk (by omega)]
 rw [V9 c,V9 c,Jb,q0]
 by_cases a:1<=h2/\h2<=64
 rotate_left
 ·rw [zk a,V9 (by decide),zk (by omega)]
 rw [zl a,V8 Z,Af _ (by omega),Jb,q0]
 by_cases b:0<=h3/\h3<=(h1.length:Int) - 1
 rotate_left
 ·rw [zk b,V9 (by decide),zk (by omega)]
 rw [zl b,V8 Z,Af _ (by omega)]
 by_cases d:(h1[h3.toNat]!).2<=16
 rotate_left
 ·rw [V9 d,zk (by omega)]
 rw [V8 d,Jb,q0]
 by_cases e:1<=h4/\h4<=64
 rotate_left
 ·rw [zk e,V9 (by decide),zk (by omega)]
 rw [zl e,V8 Z,Jb,q0]
 congr 1
 rw [Bool.eq_iff_iff,decide_eq_true_eq,decide_eq_true_eq];omega
theorem ff(l:Y0 Fd)(hw:okW l)(hl:l.length<=1048576): ∀(k f i:Nat),i+k=l.length->k<f->Kq l f (Ke (l.take i)) (i:Int)=some (Ke l):=by
 intro k
 induction k with
 |zero=>
  intro f i hi hf
  obtain⟨f,rfl⟩: ∃n,f=n+1:=⟨f - 1,by omega⟩
  rw [Kq,V9 (by omega),y4 (by omega)]
 |succ k ih=>
  intro f i hi hf
  obtain⟨f,rfl⟩: ∃n,f=n+1:=⟨f - 1,by omega⟩
  have e1:(i:Int)+1=((i+1:Nat):Int):=by omega
  have es:Ke (l.take i)+(l[i]!).2=Ke (l.take (i+1)):=by rw [Sc l i (by omega),VF];simp [Ke]
  have hs:=OK _ (cu hw (i+1))
  have hlt:(l.take (i+1)).length<=1048576:=by rw [q8];omega
  rw [Kq,V8 (by omega),Af _ (by omega),q4,es,Af _ (by omega),Af _ (by omega),e1]
  exact ih f (i+1) (by omega) (by omega)
theorem gI(N:Nat)(hN:20000000<N)(l:Y0 Fd)(hw:okW l)(hl:l.length<=1048576):Pv N l=some (Ke l):=ff l hw hl l.length N 0 (by omega) (by omega)
theorem Wg(N:Nat)(hN:20000000<N)(h1:Y0 Fd)(hl:h1.length<=1048576)(hall: ∀j,j<h1.length->(h1[j]!).1.length<=1048576):
  ∀(k f i:Nat),i+k=h1.length->k<f->HB N h1 (h1.map (·.1)) f (i:Int)=some (goF (h1.take i) (h1.drop i)):=by
 intro k
 induction k with
 |zero=>
  intro f i hi hf
  obtain⟨f,rfl⟩: ∃n,f=n+1:=⟨f - 1,by omega⟩
  rw [HB,V9 (by omega),List.drop_of_length_le (by omega)];rfl
 |succ k ih=>
  intro f i hi hf
  obtain⟨f,rfl⟩: ∃n,f=n+1:=⟨f - 1,by omega⟩
  have e1:(i:Int)+1=((i+1:Nat):Int):=by omega
  have en:=NT (λx:Fd=>x.1) h1 i (by omega)
  rw [HB,V8 (by omega),Af _ (by omega),q4,Zd N hN _ i (by rw [q9];omega) (by rw [q9];omega) (λj hj=>by
    rw [q9] at hj
    have:=hall j hj
    rw [NT (λx:Fd=>x.1) h1 j hj];omega),q0,en,ZE,dH h1 i (by omega),goF]
  by_cases c1:Kx (h1[i]!).1=true
  rotate_left
  ·rw [V9 c1,V9 c1];rfl
  rw [V8 c1,V8 c1]
  by_cases c2:(h1.take i).any (λx=>Kh x.1 (h1[i]!).1)=true
  ·rw [V8 c2,V8 c2];rfl
  rw [V9 c2,V9 c2,V9 (λh=>h Z),Jb,q0]
  by_cases c3:(h1[i]!).2<1\/128<(h1[i]!).2
  ·rw [zk (by omega),V9 (by decide),V8 c3]
  rw [zl (by omega),V8 Z,V9 c3,Af _ (by omega),e1,ih f (i+1) (by omega) (by omega),Sc h1 i (by omega)]
theorem cH(N:Nat)(hN:20000000<N)(h1:Y0 Fd)(hl:h1.length<=1048576)(hall: ∀j,j<h1.length->(h1[j]!).1.length<=1048576):Ll N h1=some (goF [] h1):=by
 have:=Wg N hN h1 hl hall h1.length N 0 (by omega) (by omega)
 rw [Ll,bk N h1 (by omega) (by omega),q0]
 exact this
theorem vZ(N:Nat)(hN:20000000<N)(h0:W2)(h1:Y0 Fd)(h2 h3 h4 h5:Int)(hl:Lt h0 h1):JE N h0 h1 h2 h3 h4 h5=some (SD h0 h1 h2 h3 h4 h5):=by
 have hlen:=hl.1
 unfold JE SD
 rw [Vh N hN h0 (by have:=hl.2.1;omega),q0]
 by_cases c1:Kx h0=true
 rotate_left
 ·rw [V9 c1,V9 c1]
 rw [V8 c1,V8 c1]
 by_cases c2:16<h1.length
 ·rw [V8 (by omega),V8 c2]
 rw [V9 (by omega),V9 c2]
 by_cases c3:h1.length=0
 ·rw [V8 (by omega),V8 c3]
 rw [V9 (by omega),V9 c3,cH N hN h1 hlen hl.2.2,q0,nl]
 by_cases c4:goF [] h1=0
 rotate_left
 ·rw [V8 c4,V9 c4]
 have hw:=fY _ _ c4
 have hs:=OK _ hw
 rw [V9 (λh=>h c4),V8 c4,gI N hN h1 hw hlen,q0,Af _ (by omega),bQ,jX N _ _ _ _ _ _ hlen,q0]
 by_cases a:Ke h1%8≠0
 ·rw [V8 a,V8 a]
 rw [V9 a,V9 a]
 by_cases b:fj h1 h2 h3 h4 h5=true
 ·rw [V8 b,V8 b]
 ·rw [V9 b,V9 b]
end Go.Proofs.YtjnanfkpdhmnpaaGreatDoor
