import Derived.Test.YtjlomkippigejaaGreatDoorFr
import Derived.Test.YtjlomkippigejaaGreatDoorMd
import Derived.Test.YtjlomkippigejaaGreatDoorSl
import Derived.Test.YtjlomkippigejaaGreatDoorBu
namespace Go.Eng
open Go
section
variable {E:Env} {g:Bool} {ops:Array Oper} {K:(Nat->Value)->List Bl->Prop} {r:List Oper} {T:Nat->Value} {m:Nat} {d:Tmp} {ty:TypeId} {pos:String} {af:Array Edge}
end
def xW{α:Type}(E:Sn α)(c:Addr->Option Value){n:Nat}:List (Raw n)->List α->Prop
 | [],[]=>True
 |r::rs,x::xs=>E.R c x r.1/\xW E c rs xs
 |_,_=>False
end Go.Eng
namespace Go.Eng
open Go Go.RowKit
def roB(b:Addr->Option Value)(S:List Bl)(a:Addr):Option Value:=
 if a.spot=none then match S.find? (λx=>x.1==a.block)with
  |some x=>x.2.2[a.off]?
  |none=>b a
 else b a
structure yg(ro:Addr->Option Value)(l:List Bl):Prop where
 nod:(l.map (·.1)).Nodup
 ap: ∀x∈l,∀a v,ro a=some v->a.block≠x.1
variable {E:Env} {g:Bool} {ops:Array Oper} {K:(Nat->Value)->List Bl->Prop} {r:List Oper} {T:Nat->Value} {l:List Bl} {m:Nat}
end Go.Eng
namespace Go.Eng
open Go Go.RowKit
def Ay(x:W4):List Value:=[.bool (x.getLsbD 0), .bool (x.getLsbD 1), .bool (x.getLsbD 2), .bool (x.getLsbD 3), .bool (x.getLsbD 4), .bool (x.getLsbD 5), .bool (x.getLsbD 6), .bool (x.getLsbD 7), .bool (x.getLsbD 8), .bool (x.getLsbD 9), .bool (x.getLsbD 10), .bool (x.getLsbD 11), .bool (x.getLsbD 12), .bool (x.getLsbD 13), .bool (x.getLsbD 14), .bool (x.getLsbD 15), .bool (x.getLsbD 16), .bool (x.getLsbD 17), .bool (x.getLsbD 18), .bool (x.getLsbD 19), .bool (x.getLsbD 20), .bool (x.getLsbD 21), .bool (x.getLsbD 22), .bool (x.getLsbD 23), .bool (x.getLsbD 24), .bool (x.getLsbD 25), .bool (x.getLsbD 26), .bool (x.getLsbD 27), .bool (x.getLsbD 28), .bool (x.getLsbD 29), .bool (x.getLsbD 30), .bool (x.getLsbD 31), .bool (x.getLsbD 32), .bool (x.getLsbD 33), .bool (x.getLsbD 34), .bool (x.getLsbD 35), .bool (x.getLsbD 36), .bool (x.getLsbD 37), .bool (x.getLsbD 38), .bool (x.getLsbD 39), .bool (x.getLsbD 40), .bool (x.getLsbD 41), .bool (x.getLsbD 42), .bool (x.getLsbD 43), .bool (x.getLsbD 44), .bool (x.getLsbD 45), .bool (x.getLsbD 46), .bool (x.getLsbD 47), .bool (x.getLsbD 48), .bool (x.getLsbD 49), .bool (x.getLsbD 50), .bool (x.getLsbD 51), .bool (x.getLsbD 52), .bool (x.getLsbD 53), .bool (x.getLsbD 54), .bool (x.getLsbD 55), .bool (x.getLsbD 56), .bool (x.getLsbD 57), .bool (x.getLsbD 58), .bool (x.getLsbD 59), .bool (x.getLsbD 60), .bool (x.getLsbD 61), .bool (x.getLsbD 62), .bool (x.getLsbD 63)]
abbrev bA(x:W4):Array Value:=⟨Ay x⟩
theorem bz(x:W4):Ay x=(List.range 64).map λi=> .bool (x.getLsbD i):=by kernel_rfl
theorem Pi(x:W4):(Ay x).length=64:=by rw [bz];simp
theorem Tp(x:W4){k:Nat}(h:k<64):(Ay x)[k]? =some (.bool (x.getLsbD k)):=by
 rw [bz];simp [h]
def put64(x:W4)(k:Nat)(b:Bool):W4:=if b then x|||BitVec.twoPow 64 k else x&&&~~~(BitVec.twoPow 64 k)
theorem Pm(x:W4)(k:Nat)(b:Bool)(j:Nat)(hk:k<64):(put64 x k b).getLsbD j=if j=k then b else x.getLsbD j:=by
 unfold put64
 cases b
 ·simp only [Bool.false_eq_true,if_false,BitVec.getLsbD_and,BitVec.getLsbD_not,BitVec.getLsbD_twoPow]
  by_cases hj:j=k
  ·subst hj;simp [hk]
  ·rw [if_neg hj]
   by_cases h6:j<64
   ·simp [h6,show¬k=j from λh=>hj h.symm]
   ·simp [h6,BitVec.getLsbD_of_ge x j (by omega)]
 ·simp only [if_true,BitVec.getLsbD_or,BitVec.getLsbD_twoPow]
  by_cases hj:j=k
  ·subst hj;simp [hk]
  ·rw [if_neg hj]
   have:decide (k=j)=false:=by simp;exact λh=>hj h.symm
   simp [this]
theorem Ml(x:W4)(k:Nat)(b:Bool)(hk:k<64):HX (bA x) k #[.bool b]=bA (put64 x k b):=by
 unfold HX
 have hz:(bA x).size=64:=Pi x
 rw [if_neg (by rw [hz];simp),if_pos (by simp)]
 show(bA x).setIfInBounds k (.bool b)=_
 apply Array.ext'
 show((bA x).setIfInBounds k (.bool b)).toList=Ay (put64 x k b)
 rw [Array.toList_setIfInBounds]
 show(Ay x).set k (.bool b)=_
 apply List.ext_getElem?
 intro j
 rw [List.getElem?_set,Pi]
 by_cases h6:j<64
 ·rw [Tp _ h6,Tp _ h6,Pm x k b j hk]
  by_cases hj:k=j
  ·subst hj;rw [if_pos Z,if_pos h6,if_pos Z]
  ·rw [if_neg hj,if_neg (λh=>hj h.symm)]
 ·rw [List.getElem?_eq_none (by rw [Pi];omega),List.getElem?_eq_none (by rw [Pi];omega),if_neg (by omega)]
theorem OZ{P:Program}{e:TypeId}{i:TypeInfo}(hi:P.info? e=some i)(hs:i.size=1)(x:W4){k:Nat}(b:Bool)(hk:k<64):StOk P e (bA x) k #[.bool b]:=
 ⟨⟨i,hi,by rw [hs];rfl⟩,by show k+1<=(Ay x).length;rw [Pi];exact hk,λx hx=>by simp at hx;subst hx;rfl⟩
theorem VO{P:Program}{e:TypeId}(hu:P.underlying e=some .bool)(x:W4){k:Nat}(hk:k<64):Ht P e (bA x) k=some (.bool (x.getLsbD k)):=by
 unfold Ht;rw [hu];exact(show(bA x)[k]? =some (.bool (x.getLsbD k))by rw [<-Array.getElem?_toList];exact Tp x hk)
end Go.Eng
namespace Go.Eng
open Go Go.RowKit
abbrev R64(x:Int):Prop:= -9223372036854775808<=x/\x<=9223372036854775807
theorem qa(x y:W4):Value.int .u64 (IntKind.u64.wrap ((BitVec.ofInt 64 (x.toNat:Int)&&&~~~ BitVec.ofInt 64 (y.toNat:Int)).toNat:Int))=U (x&&&~~~ y):=by
 rw [Kg,Kg,Xa,BitVec.ofNat_toNat,BitVec.setWidth_eq]
section
variable {P:Program} {c:Addr->Option Value} {ρ:Operand->Value} {d:Option Tmp} {a b:Operand} {t t' ty:TypeId} {pos:String} {af:Array Edge} {g:Option (Nat×Bool)} {x:W4}
theorem rJ{k:IntKind}{n:Int}(hx:ρ a=U x)(hy:ρ b= .int k n)(h:0<=n):ev P c (execOp ρ ⟨d, .binOp .shl t a b t',ty,pos,af,g⟩)=some (.value (U (x<<<n.toNat))):=by
 obtain⟨m,rfl⟩:=Int.eq_ofNat_of_zero_le h
 rw [vL hx hy,xx];rfl
end
def Ta{α:Type}(a:List α)(o p:Nat):List α:=a.take o++(((a.take p).take (a.length - o))++a.drop (o+p))
theorem my{α:Type}(xs:List α){o p:Nat}(ho:o<=xs.length)(hp:p<=xs.length):(Ta xs o p).length=xs.length:=by
 unfold Ta;simp only [q9,q7,zk];omega
theorem wo{β:Type}(A B C:List β)(x:Nat):(A++B++C).take (A.length+(B.length+x))=A++(B++C.take x):=by
 rw [zu,List.take_length_add_append,List.take_length_add_append]
theorem gY{α:Type}{e:TypeId}{En:Enc α}{xs:List α}{b cap o p n:Nat}{cs:Array Value}(hle:xs.length<=cap)(hcs:cs.size=cap*En.sz)(htk:cs.toList.take (xs.length*En.sz)=En.all xs)(ho:o<=xs.length)(hp:p<=xs.length)(hn:n=min p (xs.length - o)):
  Sl e En (.slice (some ⟨b,0,none⟩) xs.length cap) (Ta xs o p) [(b,e,(cs.toList.take (o*En.sz)++En.all ((xs.take p).take n)++cs.toList.drop (o*En.sz+(En.all ((xs.take p).take n)).length)).toArray)]:=by
 have hlen:=my xs ho hp
 have hy:(xs.take p).take n=(xs.take p).take (xs.length - o):=by
  rw [List.take_take,List.take_take,hn];congr 1;omega
 have hyl:((xs.take p).take n).length=n:=by rw [q7,q7];omega
 have hall:(En.all ((xs.take p).take n)).length=n*En.sz:=by rw [En.all_len,hyl]
 have e1:o*En.sz+n*En.sz=(o+n)*En.sz:=(Nat.add_mul _ _ _).symm
 have hnx:(o+n)*En.sz<=xs.length*En.sz:=Nat.mul_le_mul_right _ (by omega)
 have hox:o*En.sz<=xs.length*En.sz:=Nat.mul_le_mul_right _ ho
 have hxc:xs.length*En.sz<=cap*En.sz:=Nat.mul_le_mul_right _ hle
 refine .inr ⟨b,cap,_,by rw [hlen],by rw [hlen];exact hle, ?_, ?_,Z⟩
 ·simp only [List.size_toArray,q9,q7,zk,Array.length_toList,hall,hcs];omega
 ·have ht:cs.toList.take (o*En.sz)=En.all (xs.take o):=by
   rw [Enc.all_take,<-htk,List.take_take,Nat.min_eq_left hox]
  have hd:(cs.toList.drop ((o+n)*En.sz)).take (xs.length*En.sz - (o+n)*En.sz)=En.all (xs.drop (o+p)):=by
   rw [<-List.drop_take,htk,<-Enc.all_drop]
   rcases Nat.le_total p (xs.length - o)with h|h
   ·rw [show n=p from by omega]
   ·rw [List.drop_eq_nil_of_le (show xs.length<=o+n by omega),List.drop_eq_nil_of_le (show xs.length<=o+p by omega)]
  have hto:(En.all (xs.take o)).length=o*En.sz:=by rw [Enc.all_len,q7,Nat.min_eq_left ho]
  have h3:=wo (En.all (xs.take o)) (En.all ((xs.take p).take n)) (cs.toList.drop ((o+n)*En.sz)) (xs.length*En.sz - (o+n)*En.sz)
  rw [hto,hall] at h3
  rw [hlen,ht,hall,e1,show xs.length*En.sz=o*En.sz+(n*En.sz+(xs.length*En.sz - (o+n)*En.sz))by omega,h3,hd]
  unfold Ta
  rw [Enc.all_append,Enc.all_append,hy]
section
variable {E:Env} {g:Bool} {ops:Array Oper} {K:(Nat->Value)->List Bl->Prop} {r:List Oper} {T:Nat->Value} {m:Nat} {d:Tmp} {ty:TypeId} {pos:String} {af:Array Edge}
theorem uz{α:Type}{Ls:List (List Bl)}{t u:TypeId}{x y:Operand}(k:Nat){S:List Bl}{e:TypeId}{En:Enc α}{sv:Value}{xs:List α}{o p:Nat}{ii:TypeInfo}(hd:decide (d<E.n)=true)(hk:E.ks.find? (λx=>x.1==some d)=some (some d,true))
  (hS:Ls[k]? =some S) (hm:decide (m<=(Ls.take k).flatten.length)=true) (hx:rd T x=GE sv o xs.length En.sz) (hy:rd T y=GE sv 0 p En.sz) (hSl:Sl e En sv xs S) (ho:o<=xs.length) (hp:p<=xs.length)
  (hu:E.P.underlying t=some (.slice e)) (hi:E.P.info? e=some ii) (hsz:ii.size=En.sz) (hT:decide (e<OBJ)=true)
  (hcon: ∀args view v L U,E.con ⟨some d, .call ⟨.builtin .copy, #[x,y], #[t,u]⟩,ty,pos,af,none⟩ args view v L U↔pUp (λv U=>v= .int .i64 ((min p (xs.length - o):Nat):Int)/\Sl e En sv (Ta xs o p) U/\U.map (·.1)=S.map (·.1)) v L U)
  (h: ∀S',Sl e En sv (Ta xs o p) S'->lx E g ops K r (upd T d (.int .i64 ((min p (xs.length - o):Nat):Int))) (Ls.set k S').flatten m):lx E g ops K (⟨some d, .call ⟨.builtin .copy, #[x,y], #[t,u]⟩,ty,pos,af,none⟩::r) T Ls.flatten m:=by
 have hex: ∀v w w',(Builtin.copy_ #[t,u] ty #[GE sv o xs.length En.sz,GE sv 0 p En.sz]).run E.P w= .ok v w'->(execOp (rd T) ⟨some d, .call ⟨.builtin .copy, #[x,y], #[t,u]⟩,ty,pos,af,none⟩).run E.P w= .ok (.value v) w':=λv w w' hv=>by
  unfold execOp
  simp only [resolve,invoke,builtin,Sem.run_bind,Sem.run_pure,Result.andThen_ok,List.map_toArray,List.map_cons,List.map_nil,hx,hy,hv]
 have hwit: ∃S',Sl e En sv (Ta xs o p) S'/\S'.map (·.1)=S.map (·.1):=by
  rcases hSl with⟨a,rfl,rfl,rfl⟩|⟨b,cap,cs,rfl,hle,hcs,htk,rfl⟩
  ·exact⟨[], .inl ⟨a,Z,by simp [Ta],Z⟩,Z⟩
  ·exact⟨_,gY hle hcs htk ho hp Z,Z⟩
 refine qw (λv U=>v= .int .i64 ((min p (xs.length - o):Nat):Int)/\Sl e En sv (Ta xs o p) U/\U.map (·.1)=S.map (·.1)) k hd hk Z hS hm (by obtain⟨S',h1,h2⟩:=hwit;exact⟨_,S',Z,h1,h2⟩) (λ_ _ h=>h.2.2) (λown nw w hse hcell hh=> ?_) hcon (λv S' hp=>by obtain⟨rfl,h1,_⟩:=hp;exact h S' h1)
 have hrd:=Ax hSl (Aj hS hm) own nw hse
 rcases hSl with⟨a,rfl,rfl,rfl⟩|⟨b,cap,cs,rfl,hle,hcs,htk,rfl⟩
 ·obtain rfl:o=0:=by simpa using ho
  obtain rfl:p=0:=by simpa using hp
  refine⟨.int .i64 0,w,[],hex _ _ _ ?_,ExtW.same_of (λ_ h=>(nomatch h)),by simp, .inl ⟨a,Z,by simp [Ta],Z⟩,Z⟩
  have hfc:(Builtin.firstCells ii.size 0 (GE (.slice a.1 0 0) 0 0 En.sz)).run E.P w= .ok #[] w:=by
   rcases a with⟨_|a,ha⟩
   ·simp [GE,Builtin.firstCells]
   ·exact run_firstCells_some w ii.size 0 a 0 0 [] (by simp) (λj u hj=>by simp at hj)
  rcases a with⟨_|a,ha⟩
  ·simp [GE] at hfc
   simp [GE,Builtin.copy_,Builtin.lenOf,run_underlying hu,sizeOf,typeInfo,hi,hfc,goInt,storeCells]
  ·simp [GE] at hfc
   simp [GE,Builtin.copy_,Builtin.lenOf,run_underlying hu,sizeOf,typeInfo,hi,hfc,goInt,storeCells]
 ·have hb:Holds w b e cs:=hh _ (List.mem_singleton.2 Z)
  have hyl: ∀n,n<=p->((xs.take p).take n).length=n:=λn hn=>by rw [q7,q7];omega
  have hfc: ∀n,n<=p->(Builtin.firstCells ii.size n (GE (.slice (some ⟨b,0,none⟩) xs.length cap) 0 p En.sz)).run E.P w= .ok (En.all ((xs.take p).take n)).toArray w:=λn hn=>by
   have hs:=hrd.sub (Nat.zero_le p) hp
   rw [j0] at hs
   have hl:(En.all ((xs.take p).take n)).length=n*ii.size:=by rw [En.all_len,hyl n hn,hsz]
   rcases hs with⟨h1,h2⟩|⟨a,cap',h1,h0,hle',hc⟩
   ·have hp0:p=0:=by
     have:=congrArg List.length h2;rw [q7] at this;simp only [zj] at this;omega
    subst hp0
    obtain rfl:n=0:=by omega
    rw [h1];simp [Builtin.firstCells,Enc.all]
   ·rw [h1]
    refine run_firstCells_some w ii.size n a _ cap' _ hl (λj u hj=> ?_)
    have hlt:=(List.getElem?_eq_some_iff.1 hj).1
    have hsp:a.spot=none:=h0 (by
     rcases Nat.eq_zero_or_pos n with hz|hz
     ·subst hz;simp [Enc.all] at hlt
     ·have h7:n<=(xs.take p).length:=by rw [q7];omega
      omega)
    rw [GR hsp]
    refine hcell _ _ (hc _ _ ?_)
    rw [Enc.all_take] at hj
    rw [List.getElem?_take] at hj
    split at hj
    ·exact hj
    ·cases hj
  have hnl:=hyl (min p (xs.length - o)) (Nat.min_le_left _ _)
  have hf1:=hfc (min p (xs.length - o)) (Nat.min_le_left _ _)
  have hsl:Sl e En (.slice (some ⟨b,0,none⟩) xs.length cap) (Ta xs o p) [(b,e,(cs.toList.take (o*En.sz)++En.all ((xs.take p).take (min p (xs.length - o)))++cs.toList.drop (o*En.sz+(En.all ((xs.take p).take (min p (xs.length - o)))).length)).toArray)]:=gY hle hcs htk ho hp Z
  have hox:o*En.sz<=xs.length*En.sz:=Nat.mul_le_mul_right _ ho
  have e0:o*En.sz+min p (xs.length - o)*En.sz=(o+min p (xs.length - o))*En.sz:=(Nat.add_mul _ _ _).symm
  have hnx:o*En.sz+(En.all ((xs.take p).take (min p (xs.length - o)))).length<=cs.size:=by
   rw [En.all_len,hnl,hcs,e0]
   exact Nat.mul_le_mul_right _ (by omega)
  have hst:=λoff hoff=>hb.store (λh9=>by rw [h9] at hT;exact absurd hT (by decide)) E.P off (En.all ((xs.take p).take (min p (xs.length - o)))) hoff (En.all_one _)
  have e1:Nat.min p (xs.length - o)=min p (xs.length - o):=Z
  by_cases hc:cap=o
  ·have hz:min p (xs.length - o)=0:=by omega
   have hem:En.all ((xs.take p).take (min p (xs.length - o)))=[]:=by rw [hz];simp [Enc.all]
   refine⟨_,w.setRow b (cs.toList.take 0++En.all ((xs.take p).take (min p (xs.length - o)))++cs.toList.drop (0+(En.all ((xs.take p).take (min p (xs.length - o)))).length)).toArray,_,hex _ _ _ ?_,⟨Z,Z,Z,by simp,λk _ hk=>setRow_other w b k _ (λe=>hk _ (List.mem_singleton.2 Z) e.symm),λy hy=> ?_,λ_ h=>(nomatch h),Nat.le_refl _⟩,Z,hsl,Z⟩
   ·have hs0:=hst 0 (by rw [hem];simp)
    simp only [GE,hc,Nat.sub_zero,if_true] at hf1 ⊢
    simp only [Builtin.copy_,Builtin.lenOf,run_underlying hu,Sem.run_bind,Sem.run_pure,Result.andThen_ok,NG hi,e1,hf1,hs0,goInt,List.getElem?_toArray,List.getElem?_cons_zero,List.getElem?_cons_succ]
   ·simp only [zc] at hy;subst hy
    have h3:=hb.setRow (cs.toList.take 0++En.all ((xs.take p).take (min p (xs.length - o)))++cs.toList.drop (0+(En.all ((xs.take p).take (min p (xs.length - o)))).length)).toArray (by rw [hem];simp)
    have h4:(cs.toList.take (o*En.sz)++En.all ((xs.take p).take (min p (xs.length - o)))++cs.toList.drop (o*En.sz+(En.all ((xs.take p).take (min p (xs.length - o)))).length)).toArray=(cs.toList.take 0++En.all ((xs.take p).take (min p (xs.length - o)))++cs.toList.drop (0+(En.all ((xs.take p).take (min p (xs.length - o)))).length)).toArray:=by
     rw [hem];simp
    rw [h4];exact h3
  ·refine⟨_,w.setRow b (cs.toList.take (o*En.sz)++En.all ((xs.take p).take (min p (xs.length - o)))++cs.toList.drop (o*En.sz+(En.all ((xs.take p).take (min p (xs.length - o)))).length)).toArray,_,hex _ _ _ ?_,⟨Z,Z,Z,by simp,λk _ hk=>setRow_other w b k _ (λe=>hk _ (List.mem_singleton.2 Z) e.symm),λy hy=> ?_,λ_ h=>(nomatch h),Nat.le_refl _⟩,Z,hsl,Z⟩
   ·have hs0:=hst (o*En.sz) hnx
    have ha:(⟨b,0,none⟩:Addr).add (o*En.sz)=⟨b,o*En.sz,none⟩:=by rw [GR Z,q6]
    simp only [GE,if_neg hc,Option.map_some,ha,Nat.sub_zero] at hf1 ⊢
    simp only [Builtin.copy_,Builtin.lenOf,run_underlying hu,Sem.run_bind,Sem.run_pure,Result.andThen_ok,NG hi,e1,hf1,hs0,goInt,List.getElem?_toArray,List.getElem?_cons_zero,List.getElem?_cons_succ,Nat.sub_zero]
   ·simp only [zc] at hy;subst hy
    exact hb.setRow _ (by simp only [List.size_toArray,q9,q7,zk,Array.length_toList];omega)
end
theorem fb{E:Env}{g:Bool}{ops:Array Oper}{K:(Nat->Value)->List Bl->Prop}{r:List Oper}{T:Nat->Value}{l:List Bl}{m:Nat}(kv:List (Nat×Value))(h:kv.map (λx=>T x.1)=kv.map (·.2))
  (H: ∀T',lx E g ops K r (eI T' kv) l m):lx E g ops K r T l m:=by
 have:=H T
 rwa [OY T kv h] at this
theorem AF{E:Env}{g:Bool}{ops:Array Oper}{K:(Nat->Value)->List Bl->Prop}{r:List Oper}{T:Nat->Value}{l:List Bl}{m:Nat}{β:Type}(n d:Nat)(kv:List (Nat×Value))(vf:β->Value)(P:β->Prop)
  (hJ: ∀b,P b-> ∀T',lx E g ops K (r.drop n) (eI T' ((d,vf b)::kv)) l m)
  (hA:(∀b T'',P b->T'' d=vf b->kv.map (λx=>T'' x.1)=kv.map (·.2)->lx E g ops K (r.drop n) T'' l m)->lx E g ops K r T l m):lx E g ops K r T l m:=
 hA λb T'' hp hd hk=>by
  have h:=hJ b hp T''
  rwa [OY T'' _ (by rw [List.map_cons,List.map_cons];exact congr (congrArg List.cons hd) hk)] at h
end Go.Eng
