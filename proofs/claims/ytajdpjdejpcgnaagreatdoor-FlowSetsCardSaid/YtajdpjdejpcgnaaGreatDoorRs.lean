import Derived.Test.YtajdpjdejpcgnaaGreatDoorRm
import Derived.Test.YtajdpjdejpcgnaaGreatDoorSl
namespace Go.Eng
open Go Go.RowKit
def Av(x:BitVec 64):List Value:=[.bool (x.getLsbD 0), .bool (x.getLsbD 1), .bool (x.getLsbD 2), .bool (x.getLsbD 3), .bool (x.getLsbD 4), .bool (x.getLsbD 5), .bool (x.getLsbD 6), .bool (x.getLsbD 7), .bool (x.getLsbD 8), .bool (x.getLsbD 9), .bool (x.getLsbD 10), .bool (x.getLsbD 11), .bool (x.getLsbD 12), .bool (x.getLsbD 13), .bool (x.getLsbD 14), .bool (x.getLsbD 15), .bool (x.getLsbD 16), .bool (x.getLsbD 17), .bool (x.getLsbD 18), .bool (x.getLsbD 19), .bool (x.getLsbD 20), .bool (x.getLsbD 21), .bool (x.getLsbD 22), .bool (x.getLsbD 23), .bool (x.getLsbD 24), .bool (x.getLsbD 25), .bool (x.getLsbD 26), .bool (x.getLsbD 27), .bool (x.getLsbD 28), .bool (x.getLsbD 29), .bool (x.getLsbD 30), .bool (x.getLsbD 31), .bool (x.getLsbD 32), .bool (x.getLsbD 33), .bool (x.getLsbD 34), .bool (x.getLsbD 35), .bool (x.getLsbD 36), .bool (x.getLsbD 37), .bool (x.getLsbD 38), .bool (x.getLsbD 39), .bool (x.getLsbD 40), .bool (x.getLsbD 41), .bool (x.getLsbD 42), .bool (x.getLsbD 43), .bool (x.getLsbD 44), .bool (x.getLsbD 45), .bool (x.getLsbD 46), .bool (x.getLsbD 47), .bool (x.getLsbD 48), .bool (x.getLsbD 49), .bool (x.getLsbD 50), .bool (x.getLsbD 51), .bool (x.getLsbD 52), .bool (x.getLsbD 53), .bool (x.getLsbD 54), .bool (x.getLsbD 55), .bool (x.getLsbD 56), .bool (x.getLsbD 57), .bool (x.getLsbD 58), .bool (x.getLsbD 59), .bool (x.getLsbD 60), .bool (x.getLsbD 61), .bool (x.getLsbD 62), .bool (x.getLsbD 63)]
abbrev Nr(x:BitVec 64):Array Value:=⟨Av x⟩
theorem RJ(x:BitVec 64):Av x=(List.range 64).map fun i=> .bool (x.getLsbD i):=by kernel_rfl
theorem Ir(x:BitVec 64):(Av x).length=64:=by rw [RJ];simp
theorem Ks(x:BitVec 64){k:Nat}(h:k<64):(Av x)[k]? =some (.bool (x.getLsbD k)):=by
 rw [RJ];simp [h]
def DB(x:BitVec 64)(k:Nat)(b:Bool):BitVec 64:=if b then x|||BitVec.twoPow 64 k else x&&&~~~(BitVec.twoPow 64 k)
theorem LY(x:BitVec 64)(k:Nat)(b:Bool)(j:Nat)(hk:k<64):(DB x k b).getLsbD j=if j=k then b else x.getLsbD j:=by
 unfold DB
 cases b
 ·simp only [Bool.false_eq_true,if_false,BitVec.getLsbD_and,BitVec.getLsbD_not,BitVec.getLsbD_twoPow]
  by_cases hj:j=k
  ·subst hj;simp [hk]
  ·rw [if_neg hj]
   by_cases h6:j<64
   ·simp [h6,show¬k=j from fun h=>hj h.symm]
   ·simp [h6,BitVec.getLsbD_of_ge x j (by omega)]
 ·simp only [if_true,BitVec.getLsbD_or,BitVec.getLsbD_twoPow]
  by_cases hj:j=k
  ·subst hj;simp [hk]
  ·rw [if_neg hj]
   have:decide (k=j)=false:=by simp;exact fun h=>hj h.symm
   simp [this]
theorem IK(x:BitVec 64)(k:Nat)(b:Bool)(hk:k<64):DE (Nr x) k #[.bool b]=Nr (DB x k b):=by
 unfold DE
 have hz:(Nr x).size=64:=Ir x
 rw [if_neg (by rw [hz];simp),if_pos (by simp)]
 show(Nr x).setIfInBounds k (.bool b)=_
 apply Array.ext'
 show((Nr x).setIfInBounds k (.bool b)).toList=Av (DB x k b)
 rw [Array.toList_setIfInBounds]
 show(Av x).set k (.bool b)=_
 apply List.ext_getElem?
 intro j
 rw [List.getElem?_set,Ir]
 by_cases h6:j<64
 ·rw [Ks _ h6,Ks _ h6,LY x k b j hk]
  by_cases hj:k=j
  ·subst hj;rw [if_pos rfl,if_pos h6,if_pos rfl]
  ·rw [if_neg hj,if_neg (fun h=>hj h.symm)]
 ·rw [List.getElem?_eq_none (by rw [Ir];omega),List.getElem?_eq_none (by rw [Ir];omega),if_neg (by omega)]
theorem Lj{P:Program}{e:TypeId}{i:TypeInfo}(hi:P.info? e=some i)(hs:i.size=1)(x:BitVec 64){k:Nat}(b:Bool)(hk:k<64):StOk P e (Nr x) k #[.bool b]:=
 ⟨⟨i,hi,by rw [hs];rfl⟩,by show k+1≤(Av x).length;rw [Ir];exact hk,fun x hx=>by simp at hx;subst hx;rfl⟩
theorem Md{P:Program}{e:TypeId}(hu:P.underlying e=some .bool)(x:BitVec 64){k:Nat}(hk:k<64):CS P e (Nr x) k=some (.bool (x.getLsbD k)):=by
 unfold CS;rw [hu];exact(show(Nr x)[k]? =some (.bool (x.getLsbD k))by rw [←Array.getElem?_toList];exact Ks x hk)
end Go.Eng
