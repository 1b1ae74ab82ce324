import Derived.Test.YthmpbldidnmenaaGreatDoorFr
import Derived.Test.YthmpbldidnmenaaGreatDoorRm
import Derived.Test.YthmpbldidnmenaaGreatDoorSl
namespace Go.Eng
open Go
section
variable {E:Env} {g:Bool} {ops:Array Oper} {K:(Nat→Value)→List Bl→Prop} {r:List Oper} {T:Nat→Value} {m:Nat} {d:Tmp} {ty:TypeId} {pos:String} {af:Array Edge}
end
def MixR{α:Type}(E:OQ α)(c:Addr→Option Value){n:Nat}:List (Raw n)→List α→Prop
 | [],[]=>True
 |r::rs,x::xs=>E.R c x r.1∧MixR E c rs xs
 |_,_=>False
theorem MixR.len{α:Type}{E:OQ α}{c:Addr→Option Value}{n:Nat}: ∀{rs:List (Raw n)} {xs:List α},MixR E c rs xs→rs.length=xs.length
 | [],[],_=>rfl
 |_::_,_::_,h=>congrArg (·+1) (MixR.len h.2)
 | [],_::_,h=>h.elim
 |_::_,[],h=>h.elim
end Go.Eng
namespace Go.Eng
open Go Go.RowKit
def roB(b:Addr→Option Value)(S:List Bl)(a:Addr):Option Value:=
 if a.spot=none then match S.find? (fun x=>x.1==a.block)with
  |some x=>x.2.2[a.off]?
  |none=>b a
 else b a
theorem dH(ro:Addr→Option Value):roB ro []=ro:=by
 funext a;unfold roB;split<;>rfl
theorem ej{S:List Bl}(hn:(S.map (·.1)).Nodup){x:Bl}(hx:x∈S):S.find? (fun y=>y.1==x.1)=some x:=by
 induction S with
 |nil=>cases hx
 |cons y S ih=>
  rw [List.map_cons,List.nodup_cons] at hn
  rcases List.mem_cons.1 hx with rfl|h
  ·exact List.find?_cons_of_pos (by simp)
  ·rw [List.find?_cons_of_neg]
   ·exact ih hn.2 h
   ·intro e
    have e':y.1=x.1:=by simpa using e
    exact hn.1 (e'▸List.mem_map_of_mem h)
theorem Xn{ro:Addr→Option Value}{S:List Bl}(hn:(S.map (·.1)).Nodup):SeenB (roB ro S) S:=by
 intro x hx k u hk
 unfold roB
 rw [if_pos rfl,ej hn hx]
 exact hk
structure Apart(ro:Addr→Option Value)(l:List Bl):Prop where
 nod:(l.map (·.1)).Nodup
 ap: ∀x∈l,∀a v,ro a=some v→a.block≠x.1
theorem gC{ro:Addr→Option Value}{S:List Bl}{a:Addr}{v:Value}(h:roB ro S a=some v):(∃x∈S,x.1=a.block∧a.spot=none∧x.2.2[a.off]? =some v)∨ro a=some v:=by
 unfold roB at h
 split at h
 ·rename_i hs
  split at h
  ·rename_i x hx
   have:=List.find?_some hx
   exact .inl ⟨x,List.mem_of_find?_eq_some hx,by simpa using this,hs,h⟩
  ·exact .inr h
 ·exact .inr h
theorem Apart.mono{ro:Addr→Option Value}{l S S':List Bl}(h:Apart ro l)(h1: ∀x∈S,x∈S')(h2: ∀x∈S',x∈l)(hn:(S'.map (·.1)).Nodup): ∀a v,roB ro S a=some v→roB ro S' a=some v:=by
 intro a v ha
 rcases gC ha with⟨x,hx,hb,hs,hv⟩|hv
 ·unfold roB
  rw [if_pos hs,←hb,ej hn (h1 x hx)]
  exact hv
 ·unfold roB
  split
  ·split
   ·rename_i y hy
    have e:y.1=a.block:=by simpa using List.find?_some hy
    exact absurd e.symm (h.ap y (h2 y (List.mem_of_find?_eq_some hy)) a v hv)
   ·exact hv
  ·exact hv
theorem Apart.le{ro:Addr→Option Value}{l S:List Bl}(h:Apart ro l)(h2: ∀x∈S,x∈l): ∀a v,ro a=some v→roB ro S a=some v:=by
 intro a v hv
 unfold roB
 split
 ·split
  ·rename_i y hy
   have e:y.1=a.block:=by simpa using List.find?_some hy
   exact absurd e.symm (h.ap y (h2 y (List.mem_of_find?_eq_some hy)) a v hv)
  ·exact hv
 ·exact hv
variable {E:Env} {g:Bool} {ops:Array Oper} {K:(Nat→Value)→List Bl→Prop} {r:List Oper} {T:Nat→Value} {l:List Bl} {m:Nat}
theorem Sl.fz{α:Type}{e:TypeId}{en:Enc α}{v:Value}{xs:List α}{S:List Bl}{ro:Addr→Option Value}(h:Sl e en v xs S):Rd en (roB ro S) v xs:=h.rdB (Xn h.nod)
theorem Rd.fz0{α:Type}{en:Enc α}{v:Value}{xs:List α}{ro:Addr→Option Value}(h:Rd en ro v xs):Rd en (roB ro []) v xs:=by rw [dH];exact h
theorem SlO.fz{α:Type}{e:TypeId}{En:EncO α}{E':OQ α}{v:Value}{xs:List α}{S:List Bl}{ro:Addr→Option Value}(h:SlO e En v xs S)(hn:(S.map (·.1)).Nodup)(hE:En.r.sz=E'.sz)(hm: ∀x vs,En.V (roB ro S) x vs→E'.R (roB ro S) x vs):RdN E' (roB ro S) v xs:=
 RdN.map (SlO.view h (Xn hn)) hE hm
theorem RdN.fz0{α:Type}{En:OQ α}{v:Value}{xs:List α}{ro:Addr→Option Value}(h:RdN En ro v xs):RdN En (roB ro []) v xs:=by rw [dH];exact h
end Go.Eng
namespace Go.Eng
open Go Go.RowKit
def Aw(x:BitVec 64):List Value:=[.bool (x.getLsbD 0), .bool (x.getLsbD 1), .bool (x.getLsbD 2), .bool (x.getLsbD 3), .bool (x.getLsbD 4), .bool (x.getLsbD 5), .bool (x.getLsbD 6), .bool (x.getLsbD 7), .bool (x.getLsbD 8), .bool (x.getLsbD 9), .bool (x.getLsbD 10), .bool (x.getLsbD 11), .bool (x.getLsbD 12), .bool (x.getLsbD 13), .bool (x.getLsbD 14), .bool (x.getLsbD 15), .bool (x.getLsbD 16), .bool (x.getLsbD 17), .bool (x.getLsbD 18), .bool (x.getLsbD 19), .bool (x.getLsbD 20), .bool (x.getLsbD 21), .bool (x.getLsbD 22), .bool (x.getLsbD 23), .bool (x.getLsbD 24), .bool (x.getLsbD 25), .bool (x.getLsbD 26), .bool (x.getLsbD 27), .bool (x.getLsbD 28), .bool (x.getLsbD 29), .bool (x.getLsbD 30), .bool (x.getLsbD 31), .bool (x.getLsbD 32), .bool (x.getLsbD 33), .bool (x.getLsbD 34), .bool (x.getLsbD 35), .bool (x.getLsbD 36), .bool (x.getLsbD 37), .bool (x.getLsbD 38), .bool (x.getLsbD 39), .bool (x.getLsbD 40), .bool (x.getLsbD 41), .bool (x.getLsbD 42), .bool (x.getLsbD 43), .bool (x.getLsbD 44), .bool (x.getLsbD 45), .bool (x.getLsbD 46), .bool (x.getLsbD 47), .bool (x.getLsbD 48), .bool (x.getLsbD 49), .bool (x.getLsbD 50), .bool (x.getLsbD 51), .bool (x.getLsbD 52), .bool (x.getLsbD 53), .bool (x.getLsbD 54), .bool (x.getLsbD 55), .bool (x.getLsbD 56), .bool (x.getLsbD 57), .bool (x.getLsbD 58), .bool (x.getLsbD 59), .bool (x.getLsbD 60), .bool (x.getLsbD 61), .bool (x.getLsbD 62), .bool (x.getLsbD 63)]
abbrev Ud(x:BitVec 64):Array Value:=⟨Aw x⟩
theorem ZH(x:BitVec 64):Aw x=(List.range 64).map fun i=> .bool (x.getLsbD i):=by kernel_rfl
theorem NI(x:BitVec 64):(Aw x).length=64:=by rw [ZH];simp
theorem Qi(x:BitVec 64){k:Nat}(h:k<64):(Aw x)[k]? =some (.bool (x.getLsbD k)):=by
 rw [ZH];simp [h]
def put64(x:BitVec 64)(k:Nat)(b:Bool):BitVec 64:=if b then x|||BitVec.twoPow 64 k else x&&&~~~(BitVec.twoPow 64 k)
theorem NL(x:BitVec 64)(k:Nat)(b:Bool)(j:Nat)(hk:k<64):(put64 x k b).getLsbD j=if j=k then b else x.getLsbD j:=by
 unfold put64
 cases b
 ·simp only [Bool.false_eq_true,if_false,BitVec.getLsbD_and,BitVec.getLsbD_not,BitVec.getLsbD_twoPow]
  by_cases hj:j=k
  ·subst hj;simp [hk]
  ·rw [if_neg hj]
   by_cases h6:j<64
   ·simp [h6,show¬k=j from fun h=>hj h.symm]
   ·simp [h6,BitVec.getLsbD_of_ge x j (by omega)]
 ·simp only [if_true,BitVec.getLsbD_or,BitVec.getLsbD_twoPow]
  by_cases hj:j=k
  ·subst hj;simp [hk]
  ·rw [if_neg hj]
   have:decide (k=j)=false:=by simp;exact fun h=>hj h.symm
   simp [this]
theorem Km(x:BitVec 64)(k:Nat)(b:Bool)(hk:k<64):Hh (Ud x) k #[.bool b]=Ud (put64 x k b):=by
 unfold Hh
 have hz:(Ud x).size=64:=NI x
 rw [if_neg (by rw [hz];simp),if_pos (by simp)]
 show(Ud x).setIfInBounds k (.bool b)=_
 apply Array.ext'
 show((Ud x).setIfInBounds k (.bool b)).toList=Aw (put64 x k b)
 rw [Array.toList_setIfInBounds]
 show(Aw x).set k (.bool b)=_
 apply List.ext_getElem?
 intro j
 rw [List.getElem?_set,NI]
 by_cases h6:j<64
 ·rw [Qi _ h6,Qi _ h6,NL x k b j hk]
  by_cases hj:k=j
  ·subst hj;rw [if_pos rfl,if_pos h6,if_pos rfl]
  ·rw [if_neg hj,if_neg (fun h=>hj h.symm)]
 ·rw [List.getElem?_eq_none (by rw [NI];omega),List.getElem?_eq_none (by rw [NI];omega),if_neg (by omega)]
theorem NB{P:Program}{e:TypeId}{i:TypeInfo}(hi:P.info? e=some i)(hs:i.size=1)(x:BitVec 64){k:Nat}(b:Bool)(hk:k<64):StOk P e (Ud x) k #[.bool b]:=
 ⟨⟨i,hi,by rw [hs];rfl⟩,by show k+1≤(Aw x).length;rw [NI];exact hk,fun x hx=>by simp at hx;subst hx;rfl⟩
theorem iz{P:Program}{e:TypeId}(hu:P.underlying e=some .bool)(x:BitVec 64){k:Nat}(hk:k<64):GG P e (Ud x) k=some (.bool (x.getLsbD k)):=by
 unfold GG;rw [hu];exact(show(Ud x)[k]? =some (.bool (x.getLsbD k))by rw [←Array.getElem?_toList];exact Qi x hk)
end Go.Eng
