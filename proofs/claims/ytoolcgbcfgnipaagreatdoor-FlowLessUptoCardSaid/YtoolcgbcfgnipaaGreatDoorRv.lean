import Derived.Test.YtoolcgbcfgnipaaGreatDoorFr
import Derived.Test.YtoolcgbcfgnipaaGreatDoorMd
import Derived.Test.YtoolcgbcfgnipaaGreatDoorBu
import Derived.Test.YtoolcgbcfgnipaaGreatDoorSl
namespace Go.Eng
open Go
section
variable {E:Env} {g:Bool} {ops:Array Oper} {K:(Nat→Value)→List Bl→Prop} {r:List Oper} {T:Nat→Value} {m:Nat} {d:Tmp} {ty:TypeId} {pos:String} {af:Array Edge}
end
def MixR{α:Type}(E:OT α)(c:Addr→Option Value){n:Nat}:List (Raw n)→List α→Prop
 | [],[]=>True
 |r::rs,x::xs=>E.R c x r.1∧MixR E c rs xs
 |_,_=>False
theorem MixR.len{α:Type}{E:OT α}{c:Addr→Option Value}{n:Nat}: ∀{rs:List (Raw n)} {xs:List α},MixR E c rs xs→rs.length=xs.length
 | [],[],_=>rfl
 |_::_,_::_,h=>congrArg (·+1) (MixR.len h.2)
 | [],_::_,h=>h.elim
 |_::_,[],h=>h.elim
theorem MixR.get{α:Type}{E:OT α}{c:Addr→Option Value}{n:Nat}: ∀{rs:List (Raw n)} {xs:List α},MixR E c rs xs→ ∀{i:Nat} {x:α},xs[i]? =some x→ ∃r,rs[i]? =some r∧E.R c x r.1
 | [],[],_,_,_,hx=>by simp at hx
 |r::_,_::_,h,0,_,hx=>by cases hx;exact⟨r,rfl,h.1⟩
 |_::_,_::_,h,_+1,_,hx=>MixR.get h.2 hx
 | [],_::_,h,_,_,_=>h.elim
 |_::_,[],h,_,_,_=>h.elim
end Go.Eng
namespace Go.Eng
open Go Go.RowKit
def roB(b:Addr→Option Value)(S:List Bl)(a:Addr):Option Value:=
 if a.spot=none then match S.find? (fun x=>x.1==a.block)with
  |some x=>x.2.2[a.off]?
  |none=>b a
 else b a
theorem eN(ro:Addr→Option Value):roB ro []=ro:=by
 funext a;unfold roB;split<;>rfl
theorem fu{S:List Bl}(hn:(S.map (·.1)).Nodup){x:Bl}(hx:x∈S):S.find? (fun y=>y.1==x.1)=some x:=by
 induction S with
 |nil=>cases hx
 |cons y S ih=>
  rw [List.map_cons,List.nodup_cons] at hn
  rcases List.mem_cons.1 hx with rfl|h
  ·exact List.find?_cons_of_pos (by simp)
  ·rw [List.find?_cons_of_neg]
   ·exact ih hn.2 h
   ·intro e
    have e':y.1=x.1:=by simpa using e
    exact hn.1 (e'▸List.mem_map_of_mem h)
theorem WX{ro:Addr→Option Value}{S:List Bl}(hn:(S.map (·.1)).Nodup):SeenB (roB ro S) S:=by
 intro x hx k u hk
 unfold roB
 rw [if_pos rfl,fu hn hx]
 exact hk
structure Apart(ro:Addr→Option Value)(l:List Bl):Prop where
 nod:(l.map (·.1)).Nodup
 ap: ∀x∈l,∀a v,ro a=some v→a.block≠x.1
theorem jc{ro:Addr→Option Value}{S:List Bl}{a:Addr}{v:Value}(h:roB ro S a=some v):(∃x∈S,x.1=a.block∧a.spot=none∧x.2.2[a.off]? =some v)∨ro a=some v:=by
 unfold roB at h
 split at h
 ·rename_i hs
  split at h
  ·rename_i x hx
   have:=List.find?_some hx
   exact .inl ⟨x,List.mem_of_find?_eq_some hx,by simpa using this,hs,h⟩
  ·exact .inr h
 ·exact .inr h
theorem Apart.mono{ro:Addr→Option Value}{l S S':List Bl}(h:Apart ro l)(h1: ∀x∈S,x∈S')(h2: ∀x∈S',x∈l)(hn:(S'.map (·.1)).Nodup): ∀a v,roB ro S a=some v→roB ro S' a=some v:=by
 intro a v ha
 rcases jc ha with⟨x,hx,hb,hs,hv⟩|hv
 ·unfold roB
  rw [if_pos hs,←hb,fu hn (h1 x hx)]
  exact hv
 ·unfold roB
  split
  ·split
   ·rename_i y hy
    have e:y.1=a.block:=by simpa using List.find?_some hy
    exact absurd e.symm (h.ap y (h2 y (List.mem_of_find?_eq_some hy)) a v hv)
   ·exact hv
  ·exact hv
theorem Apart.le{ro:Addr→Option Value}{l S:List Bl}(h:Apart ro l)(h2: ∀x∈S,x∈l): ∀a v,ro a=some v→roB ro S a=some v:=by
 intro a v hv
 unfold roB
 split
 ·split
  ·rename_i y hy
   have e:y.1=a.block:=by simpa using List.find?_some hy
   exact absurd e.symm (h.ap y (h2 y (List.mem_of_find?_eq_some hy)) a v hv)
  ·exact hv
 ·exact hv
variable {E:Env} {g:Bool} {ops:Array Oper} {K:(Nat→Value)→List Bl→Prop} {r:List Oper} {T:Nat→Value} {l:List Bl} {m:Nat}
theorem Sl.fz{α:Type}{e:TypeId}{en:Enc α}{v:Value}{xs:List α}{S:List Bl}{ro:Addr→Option Value}(h:Sl e en v xs S):Rd en (roB ro S) v xs:=h.rdB (WX h.nod)
theorem Rd.fz0{α:Type}{en:Enc α}{v:Value}{xs:List α}{ro:Addr→Option Value}(h:Rd en ro v xs):Rd en (roB ro []) v xs:=by rw [eN];exact h
theorem SlO.fz{α:Type}{e:TypeId}{En:EncO α}{E':OT α}{v:Value}{xs:List α}{S:List Bl}{ro:Addr→Option Value}(h:SlO e En v xs S)(hn:(S.map (·.1)).Nodup)(hE:En.r.sz=E'.sz)(hm: ∀x vs,En.V (roB ro S) x vs→E'.R (roB ro S) x vs):RdN E' (roB ro S) v xs:=
 RdN.map (SlO.view h (WX hn)) hE hm
theorem RdN.fz0{α:Type}{En:OT α}{v:Value}{xs:List α}{ro:Addr→Option Value}(h:RdN En ro v xs):RdN En (roB ro []) v xs:=by rw [eN];exact h
end Go.Eng
namespace Go.Eng
open Go Go.RowKit
abbrev R64(x:Int):Prop:= -9223372036854775808≤x∧x≤9223372036854775807
theorem oc(x y:BitVec 64):Value.int .u64 (IntKind.u64.wrap ((BitVec.ofInt 64 (x.toNat:Int)&&&~~~ BitVec.ofInt 64 (y.toNat:Int)).toNat:Int))=U (x&&&~~~ y):=by
 rw [JE,JE,VU,BitVec.ofNat_toNat,BitVec.setWidth_eq]
section
variable {P:Program} {c:Addr→Option Value} {ρ:Operand→Value} {d:Option Tmp} {a b:Operand} {t t' ty:TypeId} {pos:String} {af:Array Edge} {g:Option (Nat×Bool)} {x:BitVec 64}
theorem pR{k:IntKind}{n:Int}(hx:ρ a=U x)(hy:ρ b= .int k n)(h:0≤n):ev P c (execOp ρ ⟨d, .binOp .shl t a b t',ty,pos,af,g⟩)=some (.value (U (x<<<n.toNat))):=by
 obtain⟨m,rfl⟩:=Int.eq_ofNat_of_zero_le h
 rw [tQ hx hy,vw];rfl
end
def RY{α:Type}(a:List α)(o p:Nat):List α:=a.take o++(((a.take p).take (a.length - o))++a.drop (o+p))
theorem kQ{α:Type}(xs:List α){o p:Nat}(ho:o≤xs.length)(hp:p≤xs.length):(RY xs o p).length=xs.length:=by
 unfold RY;simp only [q9,q7,zk];omega
theorem um{β:Type}(A B C:List β)(x:Nat):(A++B++C).take (A.length+(B.length+x))=A++(B++C.take x):=by
 rw [zu,List.take_length_add_append,List.take_length_add_append]
theorem fD{α:Type}{e:TypeId}{En:Enc α}{xs:List α}{b cap o p n:Nat}{cs:Array Value}(hle:xs.length≤cap)(hcs:cs.size=cap*En.sz)(htk:cs.toList.take (xs.length*En.sz)=En.all xs)(ho:o≤xs.length)(hp:p≤xs.length)(hn:n=min p (xs.length - o)):
  Sl e En (.slice (some ⟨b,0,none⟩) xs.length cap) (RY xs o p) [(b,e,(cs.toList.take (o*En.sz)++En.all ((xs.take p).take n)++cs.toList.drop (o*En.sz+(En.all ((xs.take p).take n)).length)).toArray)]:=by
 have hlen:=kQ xs ho hp
 have hy:(xs.take p).take n=(xs.take p).take (xs.length - o):=by
  rw [List.take_take,List.take_take,hn];congr 1;omega
 have hyl:((xs.take p).take n).length=n:=by rw [q7,q7];omega
 have hall:(En.all ((xs.take p).take n)).length=n*En.sz:=by rw [En.all_len,hyl]
 have e1:o*En.sz+n*En.sz=(o+n)*En.sz:=(Nat.add_mul _ _ _).symm
 have hnx:(o+n)*En.sz≤xs.length*En.sz:=Nat.mul_le_mul_right _ (by omega)
 have hox:o*En.sz≤xs.length*En.sz:=Nat.mul_le_mul_right _ ho
 have hxc:xs.length*En.sz≤cap*En.sz:=Nat.mul_le_mul_right _ hle
 refine .inr ⟨b,cap,_,by rw [hlen],by rw [hlen];exact hle, ?_, ?_,rfl⟩
 ·simp only [List.size_toArray,q9,q7,zk,Array.length_toList,hall,hcs];omega
 ·have ht:cs.toList.take (o*En.sz)=En.all (xs.take o):=by
   rw [Enc.all_take,←htk,List.take_take,Nat.min_eq_left hox]
  have hd:(cs.toList.drop ((o+n)*En.sz)).take (xs.length*En.sz - (o+n)*En.sz)=En.all (xs.drop (o+p)):=by
   rw [←List.drop_take,htk,←Enc.all_drop]
   rcases Nat.le_total p (xs.length - o)with h|h
   ·rw [show n=p from by omega]
   ·rw [List.drop_eq_nil_of_le (show xs.length≤o+n by omega),List.drop_eq_nil_of_le (show xs.length≤o+p by omega)]
  have hto:(En.all (xs.take o)).length=o*En.sz:=by rw [Enc.all_len,q7,Nat.min_eq_left ho]
  have h3:=um (En.all (xs.take o)) (En.all ((xs.take p).take n)) (cs.toList.drop ((o+n)*En.sz)) (xs.length*En.sz - (o+n)*En.sz)
  rw [hto,hall] at h3
  rw [hlen,ht,hall,e1,show xs.length*En.sz=o*En.sz+(n*En.sz+(xs.length*En.sz - (o+n)*En.sz))by omega,h3,hd]
  unfold RY
  rw [Enc.all_append,Enc.all_append,hy]
section
variable {E:Env} {g:Bool} {ops:Array Oper} {K:(Nat→Value)→List Bl→Prop} {r:List Oper} {T:Nat→Value} {m:Nat} {d:Tmp} {ty:TypeId} {pos:String} {af:Array Edge}
theorem sK{α:Type}{Ls:List (List Bl)}{t u:TypeId}{x y:Operand}(k:Nat){S:List Bl}{e:TypeId}{En:Enc α}{sv:Value}{xs:List α}{o p:Nat}{ii:TypeInfo}(hd:decide (d<E.n)=true)(hk:E.ks.find? (fun x=>x.1==some d)=some (some d,true))
  (hS:Ls[k]? =some S) (hm:decide (m≤(Ls.take k).flatten.length)=true) (hx:rd T x=FG sv o xs.length En.sz) (hy:rd T y=FG sv 0 p En.sz) (hSl:Sl e En sv xs S) (ho:o≤xs.length) (hp:p≤xs.length)
  (hu:E.P.underlying t=some (.slice e)) (hi:E.P.info? e=some ii) (hsz:ii.size=En.sz) (hT:decide (e<OBJ)=true)
  (hcon: ∀args view v L U,E.con ⟨some d, .call ⟨.builtin .copy, #[x,y], #[t,u]⟩,ty,pos,af,none⟩ args view v L U↔pUp (fun v U=>v= .int .i64 ((min p (xs.length - o):Nat):Int)∧Sl e En sv (RY xs o p) U∧U.map (·.1)=S.map (·.1)) v L U)
  (h: ∀S',Sl e En sv (RY xs o p) S'→lx E g ops K r (upd T d (.int .i64 ((min p (xs.length - o):Nat):Int))) (Ls.set k S').flatten m):lx E g ops K (⟨some d, .call ⟨.builtin .copy, #[x,y], #[t,u]⟩,ty,pos,af,none⟩::r) T Ls.flatten m:=by
 have hex: ∀v w w',(Builtin.copy_ #[t,u] ty #[FG sv o xs.length En.sz,FG sv 0 p En.sz]).run E.P w= .ok v w'→(execOp (rd T) ⟨some d, .call ⟨.builtin .copy, #[x,y], #[t,u]⟩,ty,pos,af,none⟩).run E.P w= .ok (.value v) w':=fun v w w' hv=>by
  unfold execOp
  simp only [resolve,invoke,builtin,Sem.run_bind,Sem.run_pure,Result.andThen_ok,List.map_toArray,List.map_cons,List.map_nil,hx,hy,hv]
 have hwit: ∃S',Sl e En sv (RY xs o p) S'∧S'.map (·.1)=S.map (·.1):=by
  rcases hSl with⟨a,rfl,rfl,rfl⟩|⟨b,cap,cs,rfl,hle,hcs,htk,rfl⟩
  ·exact⟨[], .inl ⟨a,rfl,by simp [RY],rfl⟩,rfl⟩
  ·exact⟨_,fD hle hcs htk ho hp rfl,rfl⟩
 refine oN (fun v U=>v= .int .i64 ((min p (xs.length - o):Nat):Int)∧Sl e En sv (RY xs o p) U∧U.map (·.1)=S.map (·.1)) k hd hk rfl hS hm (by obtain⟨S',h1,h2⟩:=hwit;exact⟨_,S',rfl,h1,h2⟩) (fun _ _ h=>h.2.2) (fun own nw w hse hcell hh=> ?_) hcon (fun v S' hp=>by obtain⟨rfl,h1,_⟩:=hp;exact h S' h1)
 have hrd:=Ax hSl (Ak hS hm) own nw hse
 rcases hSl with⟨a,rfl,rfl,rfl⟩|⟨b,cap,cs,rfl,hle,hcs,htk,rfl⟩
 ·obtain rfl:o=0:=by simpa using ho
  obtain rfl:p=0:=by simpa using hp
  refine⟨.int .i64 0,w,[],hex _ _ _ ?_,ExtW.same_of (fun _ h=>(nomatch h)),by simp, .inl ⟨a,rfl,by simp [RY],rfl⟩,rfl⟩
  have hfc:(Builtin.firstCells ii.size 0 (FG (.slice a.1 0 0) 0 0 En.sz)).run E.P w= .ok #[] w:=by
   rcases a with⟨_|a,ha⟩
   ·simp [FG,Builtin.firstCells]
   ·exact run_firstCells_some w ii.size 0 a 0 0 [] (by simp) (fun j u hj=>by simp at hj)
  rcases a with⟨_|a,ha⟩
  ·simp [FG] at hfc
   simp [FG,Builtin.copy_,Builtin.lenOf,run_underlying hu,sizeOf,typeInfo,hi,hfc,goInt,storeCells]
  ·simp [FG] at hfc
   simp [FG,Builtin.copy_,Builtin.lenOf,run_underlying hu,sizeOf,typeInfo,hi,hfc,goInt,storeCells]
 ·have hb:Holds w b e cs:=hh _ (List.mem_singleton.2 rfl)
  have hyl: ∀n,n≤p→((xs.take p).take n).length=n:=fun n hn=>by rw [q7,q7];omega
  have hfc: ∀n,n≤p→(Builtin.firstCells ii.size n (FG (.slice (some ⟨b,0,none⟩) xs.length cap) 0 p En.sz)).run E.P w= .ok (En.all ((xs.take p).take n)).toArray w:=fun n hn=>by
   have hs:=hrd.sub (Nat.zero_le p) hp
   rw [j0] at hs
   have hl:(En.all ((xs.take p).take n)).length=n*ii.size:=by rw [En.all_len,hyl n hn,hsz]
   rcases hs with⟨h1,h2⟩|⟨a,cap',h1,h0,hle',hc⟩
   ·have hp0:p=0:=by
     have:=congrArg List.length h2;rw [q7] at this;simp only [zj] at this;omega
    subst hp0
    obtain rfl:n=0:=by omega
    rw [h1];simp [Builtin.firstCells,Enc.all]
   ·rw [h1]
    refine run_firstCells_some w ii.size n a _ cap' _ hl (fun j u hj=> ?_)
    have hlt:=(List.getElem?_eq_some_iff.1 hj).1
    have hsp:a.spot=none:=h0 (by
     rcases Nat.eq_zero_or_pos n with hz|hz
     ·subst hz;simp [Enc.all] at hlt
     ·have h7:n≤(xs.take p).length:=by rw [q7];omega
      omega)
    rw [FD hsp]
    refine hcell _ _ (hc _ _ ?_)
    rw [Enc.all_take] at hj
    rw [List.getElem?_take] at hj
    split at hj
    ·exact hj
    ·cases hj
  have hnl:=hyl (min p (xs.length - o)) (Nat.min_le_left _ _)
  have hf1:=hfc (min p (xs.length - o)) (Nat.min_le_left _ _)
  have hsl:Sl e En (.slice (some ⟨b,0,none⟩) xs.length cap) (RY xs o p) [(b,e,(cs.toList.take (o*En.sz)++En.all ((xs.take p).take (min p (xs.length - o)))++cs.toList.drop (o*En.sz+(En.all ((xs.take p).take (min p (xs.length - o)))).length)).toArray)]:=fD hle hcs htk ho hp rfl
  have hox:o*En.sz≤xs.length*En.sz:=Nat.mul_le_mul_right _ ho
  have e0:o*En.sz+min p (xs.length - o)*En.sz=(o+min p (xs.length - o))*En.sz:=(Nat.add_mul _ _ _).symm
  have hnx:o*En.sz+(En.all ((xs.take p).take (min p (xs.length - o)))).length≤cs.size:=by
   rw [En.all_len,hnl,hcs,e0]
   exact Nat.mul_le_mul_right _ (by omega)
  have hst:=fun off hoff=>hb.store (fun h9=>by rw [h9] at hT;exact absurd hT (by decide)) E.P off (En.all ((xs.take p).take (min p (xs.length - o)))) hoff (En.all_one _)
  have e1:Nat.min p (xs.length - o)=min p (xs.length - o):=rfl
  by_cases hc:cap=o
  ·have hz:min p (xs.length - o)=0:=by omega
   have hem:En.all ((xs.take p).take (min p (xs.length - o)))=[]:=by rw [hz];simp [Enc.all]
   refine⟨_,w.setRow b (cs.toList.take 0++En.all ((xs.take p).take (min p (xs.length - o)))++cs.toList.drop (0+(En.all ((xs.take p).take (min p (xs.length - o)))).length)).toArray,_,hex _ _ _ ?_,⟨rfl,rfl,rfl,by simp,fun k _ hk=>setRow_other w b k _ (fun e=>hk _ (List.mem_singleton.2 rfl) e.symm),fun y hy=> ?_,fun _ h=>(nomatch h)⟩,rfl,hsl,rfl⟩
   ·have hs0:=hst 0 (by rw [hem];simp)
    simp only [FG,hc,Nat.sub_zero,if_true] at hf1 ⊢
    simp only [Builtin.copy_,Builtin.lenOf,run_underlying hu,Sem.run_bind,Sem.run_pure,Result.andThen_ok,Nd hi,e1,hf1,hs0,goInt,List.getElem?_toArray,List.getElem?_cons_zero,List.getElem?_cons_succ]
   ·simp only [zc] at hy;subst hy
    have h3:=hb.setRow (cs.toList.take 0++En.all ((xs.take p).take (min p (xs.length - o)))++cs.toList.drop (0+(En.all ((xs.take p).take (min p (xs.length - o)))).length)).toArray (by rw [hem];simp)
    have h4:(cs.toList.take (o*En.sz)++En.all ((xs.take p).take (min p (xs.length - o)))++cs.toList.drop (o*En.sz+(En.all ((xs.take p).take (min p (xs.length - o)))).length)).toArray=(cs.toList.take 0++En.all ((xs.take p).take (min p (xs.length - o)))++cs.toList.drop (0+(En.all ((xs.take p).take (min p (xs.length - o)))).length)).toArray:=by
     rw [hem];simp
    rw [h4];exact h3
  ·refine⟨_,w.setRow b (cs.toList.take (o*En.sz)++En.all ((xs.take p).take (min p (xs.length - o)))++cs.toList.drop (o*En.sz+(En.all ((xs.take p).take (min p (xs.length - o)))).length)).toArray,_,hex _ _ _ ?_,⟨rfl,rfl,rfl,by simp,fun k _ hk=>setRow_other w b k _ (fun e=>hk _ (List.mem_singleton.2 rfl) e.symm),fun y hy=> ?_,fun _ h=>(nomatch h)⟩,rfl,hsl,rfl⟩
   ·have hs0:=hst (o*En.sz) hnx
    have ha:(⟨b,0,none⟩:Addr).add (o*En.sz)=⟨b,o*En.sz,none⟩:=by rw [FD rfl,q6]
    simp only [FG,if_neg hc,Option.map_some,ha,Nat.sub_zero] at hf1 ⊢
    simp only [Builtin.copy_,Builtin.lenOf,run_underlying hu,Sem.run_bind,Sem.run_pure,Result.andThen_ok,Nd hi,e1,hf1,hs0,goInt,List.getElem?_toArray,List.getElem?_cons_zero,List.getElem?_cons_succ,Nat.sub_zero]
   ·simp only [zc] at hy;subst hy
    exact hb.setRow _ (by simp only [List.size_toArray,q9,q7,zk,Array.length_toList];omega)
end
theorem dw{E:Env}{g:Bool}{ops:Array Oper}{K:(Nat→Value)→List Bl→Prop}{r:List Oper}{T:Nat→Value}{l:List Bl}{m:Nat}(kv:List (Nat×Value))(h:kv.map (fun x=>T x.1)=kv.map (·.2))
  (H: ∀T',lx E g ops K r (ZF T' kv) l m):lx E g ops K r T l m:=by
 have:=H T
 rwa [MR T kv h] at this
theorem AG{E:Env}{g:Bool}{ops:Array Oper}{K:(Nat→Value)→List Bl→Prop}{r:List Oper}{T:Nat→Value}{l:List Bl}{m:Nat}{β:Type}(n d:Nat)(kv:List (Nat×Value))(vf:β→Value)(P:β→Prop)
  (hJ: ∀b,P b→ ∀T',lx E g ops K (r.drop n) (ZF T' ((d,vf b)::kv)) l m)
  (hA:(∀b T'',P b→T'' d=vf b→kv.map (fun x=>T'' x.1)=kv.map (·.2)→lx E g ops K (r.drop n) T'' l m)→lx E g ops K r T l m):lx E g ops K r T l m:=
 hA fun b T'' hp hd hk=>by
  have h:=hJ b hp T''
  rwa [MR T'' _ (by rw [List.map_cons,List.map_cons];exact congr (congrArg List.cons hd) hk)] at h
end Go.Eng
