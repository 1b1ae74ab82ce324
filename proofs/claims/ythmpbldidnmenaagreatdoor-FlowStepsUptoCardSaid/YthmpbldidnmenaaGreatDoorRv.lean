import Derived.Test.YthmpbldidnmenaaGreatDoorRm
import Derived.Test.YthmpbldidnmenaaGreatDoorBu
import Derived.Test.YthmpbldidnmenaaGreatDoorRs
set_option linter.unusedSimpArgs false
namespace Go.Eng
open Go Go.RowKit
abbrev R64(x:Int):Prop:= -9223372036854775808≤x∧x≤9223372036854775807
theorem mE(x y:BitVec 64):Value.int .u64 (IntKind.u64.wrap ((BitVec.ofInt 64 (x.toNat:Int)&&&~~~ BitVec.ofInt 64 (y.toNat:Int)).toNat:Int))=U (x&&&~~~ y):=by
 rw [Ir,Ir,VN,BitVec.ofNat_toNat,BitVec.setWidth_eq]
section
variable {P:Program} {c:Addr→Option Value} {ρ:Operand→Value} {d:Option Tmp} {a b:Operand} {t t' ty:TypeId} {pos:String} {af:Array Edge} {g:Option (Nat×Bool)} {x:BitVec 64}
theorem oa{k:IntKind}{n:Int}(hx:ρ a=U x)(hy:ρ b= .int k n)(h:0≤n):ev P c (execOp ρ ⟨d, .binOp .shl t a b t',ty,pos,af,g⟩)=some (.value (U (x<<<n.toNat))):=by
 obtain⟨m,rfl⟩:=Int.eq_ofNat_of_zero_le h
 rw [jd hx hy,ql];rfl
end
theorem mO(x y:BitVec 64):((List.range 64).all fun j=>BitVec.getLsbD x j==BitVec.getLsbD y j)=(x==y):=by
 rw [Bool.eq_iff_iff]
 simp only [List.all_eq_true,List.mem_range,beq_iff_eq]
 exact⟨fun h=>BitVec.eq_of_getLsbD_eq h,fun h _ _=>by rw [h]⟩
theorem ZG(x:BitVec 64){k:Nat}(h:k<64):(Ud x)[k]? =some (.bool (x.getLsbD k)):=by
 rw [←Array.getElem?_toList];exact Qi x h
def RP{α:Type}(a:List α)(o p:Nat):List α:=a.take o++(((a.take p).take (a.length - o))++a.drop (o+p))
theorem jp{α:Type}(xs:List α){o p:Nat}(ho:o≤xs.length)(hp:p≤xs.length):(RP xs o p).length=xs.length:=by
 unfold RP;simp only [q9,q7,zk];omega
theorem rO{β:Type}(A B C:List β)(x:Nat):(A++B++C).take (A.length+(B.length+x))=A++(B++C.take x):=by
 rw [zu,List.take_length_add_append,List.take_length_add_append]
theorem eu{α:Type}{e:TypeId}{En:Enc α}{xs:List α}{b cap o p n:Nat}{cs:Array Value}(hle:xs.length≤cap)(hcs:cs.size=cap*En.sz)(htk:cs.toList.take (xs.length*En.sz)=En.all xs)(ho:o≤xs.length)(hp:p≤xs.length)(hn:n=min p (xs.length - o)):
  Sl e En (.slice (some ⟨b,0,none⟩) xs.length cap) (RP xs o p) [(b,e,(cs.toList.take (o*En.sz)++En.all ((xs.take p).take n)++cs.toList.drop (o*En.sz+(En.all ((xs.take p).take n)).length)).toArray)]:=by
 have hlen:=jp xs ho hp
 have hy:(xs.take p).take n=(xs.take p).take (xs.length - o):=by
  rw [List.take_take,List.take_take,hn];congr 1;omega
 have hyl:((xs.take p).take n).length=n:=by rw [q7,q7];omega
 have hall:(En.all ((xs.take p).take n)).length=n*En.sz:=by rw [En.all_len,hyl]
 have e1:o*En.sz+n*En.sz=(o+n)*En.sz:=(Nat.add_mul _ _ _).symm
 have hnx:(o+n)*En.sz≤xs.length*En.sz:=Nat.mul_le_mul_right _ (by omega)
 have hox:o*En.sz≤xs.length*En.sz:=Nat.mul_le_mul_right _ ho
 have hxc:xs.length*En.sz≤cap*En.sz:=Nat.mul_le_mul_right _ hle
 refine .inr ⟨b,cap,_,by rw [hlen],by rw [hlen];exact hle, ?_, ?_,rfl⟩
 ·simp only [List.size_toArray,q9,q7,zk,Array.length_toList,hall,hcs];omega
 ·have ht:cs.toList.take (o*En.sz)=En.all (xs.take o):=by
   rw [Enc.all_take,←htk,List.take_take,Nat.min_eq_left hox]
  have hd:(cs.toList.drop ((o+n)*En.sz)).take (xs.length*En.sz - (o+n)*En.sz)=En.all (xs.drop (o+p)):=by
   rw [←List.drop_take,htk,←Enc.all_drop]
   rcases Nat.le_total p (xs.length - o)with h|h
   ·rw [show n=p from by omega]
   ·rw [List.drop_eq_nil_of_le (show xs.length≤o+n by omega),List.drop_eq_nil_of_le (show xs.length≤o+p by omega)]
  have hto:(En.all (xs.take o)).length=o*En.sz:=by rw [Enc.all_len,q7,Nat.min_eq_left ho]
  have h3:=rO (En.all (xs.take o)) (En.all ((xs.take p).take n)) (cs.toList.drop ((o+n)*En.sz)) (xs.length*En.sz - (o+n)*En.sz)
  rw [hto,hall] at h3
  rw [hlen,ht,hall,e1,show xs.length*En.sz=o*En.sz+(n*En.sz+(xs.length*En.sz - (o+n)*En.sz))by omega,h3,hd]
  unfold RP
  rw [Enc.all_append,Enc.all_append,hy]
section
variable {E:Env} {g:Bool} {ops:Array Oper} {K:(Nat→Value)→List Bl→Prop} {r:List Oper} {T:Nat→Value} {m:Nat} {d:Tmp} {ty:TypeId} {pos:String} {af:Array Edge}
theorem qz{α:Type}{Ls:List (List Bl)}{t u:TypeId}{x y:Operand}(k:Nat){S:List Bl}{e:TypeId}{En:Enc α}{sv:Value}{xs:List α}{o p:Nat}{ii:TypeInfo}(hd:decide (d<E.n)=true)(hk:E.ks.find? (fun x=>x.1==some d)=some (some d,true))
  (hS:Ls[k]? =some S) (hm:decide (m≤(Ls.take k).flatten.length)=true) (hx:rd T x=Fy sv o xs.length En.sz) (hy:rd T y=Fy sv 0 p En.sz) (hSl:Sl e En sv xs S) (ho:o≤xs.length) (hp:p≤xs.length)
  (hu:E.P.underlying t=some (.slice e)) (hi:E.P.info? e=some ii) (hsz:ii.size=En.sz) (hT:decide (e<OBJ)=true)
  (hcon: ∀args view v L U,E.con ⟨some d, .call ⟨.builtin .copy, #[x,y], #[t,u]⟩,ty,pos,af,none⟩ args view v L U↔pUp (fun v U=>v= .int .i64 ((min p (xs.length - o):Nat):Int)∧Sl e En sv (RP xs o p) U∧U.map (·.1)=S.map (·.1)) v L U)
  (h: ∀S',Sl e En sv (RP xs o p) S'→lx E g ops K r (upd T d (.int .i64 ((min p (xs.length - o):Nat):Int))) (Ls.set k S').flatten m):lx E g ops K (⟨some d, .call ⟨.builtin .copy, #[x,y], #[t,u]⟩,ty,pos,af,none⟩::r) T Ls.flatten m:=by
 have hex: ∀v w w',(Builtin.copy_ #[t,u] ty #[Fy sv o xs.length En.sz,Fy sv 0 p En.sz]).run E.P w= .ok v w'→(execOp (rd T) ⟨some d, .call ⟨.builtin .copy, #[x,y], #[t,u]⟩,ty,pos,af,none⟩).run E.P w= .ok (.value v) w':=fun v w w' hv=>by
  unfold execOp
  simp only [resolve,invoke,builtin,Sem.run_bind,Sem.run_pure,Result.andThen_ok,List.map_toArray,List.map_cons,List.map_nil,hx,hy,hv]
 have hwit: ∃S',Sl e En sv (RP xs o p) S'∧S'.map (·.1)=S.map (·.1):=by
  rcases hSl with⟨a,rfl,rfl,rfl⟩|⟨b,cap,cs,rfl,hle,hcs,htk,rfl⟩
  ·exact⟨[], .inl ⟨a,rfl,by simp [RP],rfl⟩,rfl⟩
  ·exact⟨_,eu hle hcs htk ho hp rfl,rfl⟩
 refine mX (fun v U=>v= .int .i64 ((min p (xs.length - o):Nat):Int)∧Sl e En sv (RP xs o p) U∧U.map (·.1)=S.map (·.1)) k hd hk rfl hS hm (by obtain⟨S',h1,h2⟩:=hwit;exact⟨_,S',rfl,h1,h2⟩) (fun _ _ h=>h.2.2) (fun own nw w hse hcell hh=> ?_) hcon (fun v S' hp=>by obtain⟨rfl,h1,_⟩:=hp;exact h S' h1)
 have hrd:=Av hSl (Ai hS hm) own nw hse
 rcases hSl with⟨a,rfl,rfl,rfl⟩|⟨b,cap,cs,rfl,hle,hcs,htk,rfl⟩
 ·obtain rfl:o=0:=by simpa using ho
  obtain rfl:p=0:=by simpa using hp
  refine⟨.int .i64 0,w,[],hex _ _ _ ?_,ExtW.same_of (fun _ h=>(nomatch h)),by simp, .inl ⟨a,rfl,by simp [RP],rfl⟩,rfl⟩
  have hfc:(Builtin.firstCells ii.size 0 (Fy (.slice a.1 0 0) 0 0 En.sz)).run E.P w= .ok #[] w:=by
   rcases a with⟨_|a,ha⟩
   ·simp [Fy,Builtin.firstCells]
   ·exact run_firstCells_some w ii.size 0 a 0 0 [] (by simp) (fun j u hj=>by simp at hj)
  rcases a with⟨_|a,ha⟩
  ·simp [Fy] at hfc
   simp [Fy,Builtin.copy_,Builtin.lenOf,run_underlying hu,sizeOf,typeInfo,hi,hfc,goInt,storeCells]
  ·simp [Fy] at hfc
   simp [Fy,Builtin.copy_,Builtin.lenOf,run_underlying hu,sizeOf,typeInfo,hi,hfc,goInt,storeCells]
 ·have hb:Holds w b e cs:=hh _ (List.mem_singleton.2 rfl)
  have hyl: ∀n,n≤p→((xs.take p).take n).length=n:=fun n hn=>by rw [q7,q7];omega
  have hfc: ∀n,n≤p→(Builtin.firstCells ii.size n (Fy (.slice (some ⟨b,0,none⟩) xs.length cap) 0 p En.sz)).run E.P w= .ok (En.all ((xs.take p).take n)).toArray w:=fun n hn=>by
   have hs:=hrd.sub (Nat.zero_le p) hp
   rw [j0] at hs
   have hl:(En.all ((xs.take p).take n)).length=n*ii.size:=by rw [En.all_len,hyl n hn,hsz]
   rcases hs with⟨h1,h2⟩|⟨a,cap',h1,h0,hle',hc⟩
   ·have hp0:p=0:=by
     have:=congrArg List.length h2;rw [q7] at this;simp only [zj] at this;omega
    subst hp0
    obtain rfl:n=0:=by omega
    rw [h1];simp [Builtin.firstCells,Enc.all]
   ·rw [h1]
    refine run_firstCells_some w ii.size n a _ cap' _ hl (fun j u hj=> ?_)
    have hlt:=(List.getElem?_eq_some_iff.1 hj).1
    have hsp:a.spot=none:=h0 (by
     rcases Nat.eq_zero_or_pos n with hz|hz
     ·subst hz;simp [Enc.all] at hlt
     ·have h7:n≤(xs.take p).length:=by rw [q7];omega
      omega)
    rw [Fr hsp]
    refine hcell _ _ (hc _ _ ?_)
    rw [Enc.all_take] at hj
    rw [List.getElem?_take] at hj
    split at hj
    ·exact hj
    ·cases hj
  have hnl:=hyl (min p (xs.length - o)) (Nat.min_le_left _ _)
  have hf1:=hfc (min p (xs.length - o)) (Nat.min_le_left _ _)
  have hsl:Sl e En (.slice (some ⟨b,0,none⟩) xs.length cap) (RP xs o p) [(b,e,(cs.toList.take (o*En.sz)++En.all ((xs.take p).take (min p (xs.length - o)))++cs.toList.drop (o*En.sz+(En.all ((xs.take p).take (min p (xs.length - o)))).length)).toArray)]:=eu hle hcs htk ho hp rfl
  have hox:o*En.sz≤xs.length*En.sz:=Nat.mul_le_mul_right _ ho
  have e0:o*En.sz+min p (xs.length - o)*En.sz=(o+min p (xs.length - o))*En.sz:=(Nat.add_mul _ _ _).symm
  have hnx:o*En.sz+(En.all ((xs.take p).take (min p (xs.length - o)))).length≤cs.size:=by
   rw [En.all_len,hnl,hcs,e0]
   exact Nat.mul_le_mul_right _ (by omega)
  have hst:=fun off hoff=>hb.store (fun h9=>by rw [h9] at hT;exact absurd hT (by decide)) E.P off (En.all ((xs.take p).take (min p (xs.length - o)))) hoff (En.all_one _)
  have e1:Nat.min p (xs.length - o)=min p (xs.length - o):=rfl
  by_cases hc:cap=o
  ·have hz:min p (xs.length - o)=0:=by omega
   have hem:En.all ((xs.take p).take (min p (xs.length - o)))=[]:=by rw [hz];simp [Enc.all]
   refine⟨_,w.setRow b (cs.toList.take 0++En.all ((xs.take p).take (min p (xs.length - o)))++cs.toList.drop (0+(En.all ((xs.take p).take (min p (xs.length - o)))).length)).toArray,_,hex _ _ _ ?_,⟨rfl,rfl,rfl,by simp,fun k _ hk=>setRow_other w b k _ (fun e=>hk _ (List.mem_singleton.2 rfl) e.symm),fun y hy=> ?_,fun _ h=>(nomatch h),Nat.le_refl _⟩,rfl,hsl,rfl⟩
   ·have hs0:=hst 0 (by rw [hem];simp)
    simp only [Fy,hc,Nat.sub_zero,if_true] at hf1 ⊢
    simp only [Builtin.copy_,Builtin.lenOf,run_underlying hu,Sem.run_bind,Sem.run_pure,Result.andThen_ok,LV hi,e1,hf1,hs0,goInt,List.getElem?_toArray,List.getElem?_cons_zero,List.getElem?_cons_succ]
   ·simp only [zc] at hy;subst hy
    have h3:=hb.setRow (cs.toList.take 0++En.all ((xs.take p).take (min p (xs.length - o)))++cs.toList.drop (0+(En.all ((xs.take p).take (min p (xs.length - o)))).length)).toArray (by rw [hem];simp)
    have h4:(cs.toList.take (o*En.sz)++En.all ((xs.take p).take (min p (xs.length - o)))++cs.toList.drop (o*En.sz+(En.all ((xs.take p).take (min p (xs.length - o)))).length)).toArray=(cs.toList.take 0++En.all ((xs.take p).take (min p (xs.length - o)))++cs.toList.drop (0+(En.all ((xs.take p).take (min p (xs.length - o)))).length)).toArray:=by
     rw [hem];simp
    rw [h4];exact h3
  ·refine⟨_,w.setRow b (cs.toList.take (o*En.sz)++En.all ((xs.take p).take (min p (xs.length - o)))++cs.toList.drop (o*En.sz+(En.all ((xs.take p).take (min p (xs.length - o)))).length)).toArray,_,hex _ _ _ ?_,⟨rfl,rfl,rfl,by simp,fun k _ hk=>setRow_other w b k _ (fun e=>hk _ (List.mem_singleton.2 rfl) e.symm),fun y hy=> ?_,fun _ h=>(nomatch h),Nat.le_refl _⟩,rfl,hsl,rfl⟩
   ·have hs0:=hst (o*En.sz) hnx
    have ha:(⟨b,0,none⟩:Addr).add (o*En.sz)=⟨b,o*En.sz,none⟩:=by rw [Fr rfl,q6]
    simp only [Fy,if_neg hc,Option.map_some,ha,Nat.sub_zero] at hf1 ⊢
    simp only [Builtin.copy_,Builtin.lenOf,run_underlying hu,Sem.run_bind,Sem.run_pure,Result.andThen_ok,LV hi,e1,hf1,hs0,goInt,List.getElem?_toArray,List.getElem?_cons_zero,List.getElem?_cons_succ,Nat.sub_zero]
   ·simp only [zc] at hy;subst hy
    exact hb.setRow _ (by simp only [List.size_toArray,q9,q7,zk,Array.length_toList];omega)
end
theorem cG{E:Env}{g:Bool}{ops:Array Oper}{K:(Nat→Value)→List Bl→Prop}{r:List Oper}{T:Nat→Value}{l:List Bl}{m:Nat}(kv:List (Nat×Value))(h:kv.map (fun x=>T x.1)=kv.map (·.2))
  (H: ∀T',lx E g ops K r (Zz T' kv) l m):lx E g ops K r T l m:=by
 have:=H T
 rwa [LK T kv h] at this
theorem AG{E:Env}{g:Bool}{ops:Array Oper}{K:(Nat→Value)→List Bl→Prop}{r:List Oper}{T:Nat→Value}{l:List Bl}{m:Nat}{β:Type}(n d:Nat)(kv:List (Nat×Value))(vf:β→Value)(P:β→Prop)
  (hJ: ∀b,P b→ ∀T',lx E g ops K (r.drop n) (Zz T' ((d,vf b)::kv)) l m)
  (hA:(∀b T'',P b→T'' d=vf b→kv.map (fun x=>T'' x.1)=kv.map (·.2)→lx E g ops K (r.drop n) T'' l m)→lx E g ops K r T l m):lx E g ops K r T l m:=
 hA fun b T'' hp hd hk=>by
  have h:=hJ b hp T''
  rwa [LK T'' _ (by rw [List.map_cons,List.map_cons];exact congr (congrArg List.cons hd) hk)] at h
end Go.Eng
