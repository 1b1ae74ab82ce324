import Derived.Test.YtjnanfkpdhmnpaaGreatDoorFr
import Derived.Test.YtjnanfkpdhmnpaaGreatDoorMd
import Derived.Test.YtjnanfkpdhmnpaaGreatDoorBu
import Derived.Test.YtjnanfkpdhmnpaaGreatDoorSl
set_option linter.unusedSimpArgs false
namespace Go.Eng
open Go
section
variable {E:Env} {g:Y3} {ops:Array Oper} {K:(Nat->Y2)->Y0 Bl->Prop} {r:Y0 Oper} {T:Nat->Y2} {m:Nat} {d:Tmp} {ty:TypeId} {pos:String} {af:Array Edge}
end
def yW{α:Type}(E:QT α)(c:Addr->Y1 Y2){n:Nat}:Y0 (Raw n)->Y0 α->Prop
 | [],[]=>True
 |r::rs,x::xs=>E.R c x r.1/\yW E c rs xs
 |_,_=>False
end Go.Eng
namespace Go.Eng
open Go Go.RowKit
def roB(b:Addr->Y1 Y2)(S:Y0 Bl)(a:Addr):Y1 Y2:=
 if a.spot=none then match S.find? (λx=>x.1==a.block)with
  |some x=>x.2.2[a.off]?
  |none=>b a
 else b a
structure zd(ro:Addr->Y1 Y2)(l:Y0 Bl):Prop where
 nod:(l.map (·.1)).Nodup
 ap: ∀x∈l,∀a v,ro a=some v->a.block≠x.1
variable {E:Env} {g:Y3} {ops:Array Oper} {K:(Nat->Y2)->Y0 Bl->Prop} {r:Y0 Oper} {T:Nat->Y2} {l:Y0 Bl} {m:Nat}
end Go.Eng
namespace Go.Eng
open Go Go.RowKit
abbrev R64(x:Int):Prop:= -9223372036854775808<=x/\x<=9223372036854775807
theorem rh(x y:W4):Value.int .u64 (IntKind.u64.wrap ((BitVec.ofInt 64 (x.toNat:Int)&&&~~~ BitVec.ofInt 64 (y.toNat:Int)).toNat:Int))=U (x&&&~~~ y):=by
 rw [Ky,Ky,Xz,BitVec.ofNat_toNat,BitVec.setWidth_eq]
section
variable {P:Program} {c:Addr->Y1 Y2} {ρ:Operand->Y2} {d:Y1 Tmp} {a b:Operand} {t t' ty:TypeId} {pos:String} {af:Array Edge} {g:Y1 (Nat×Y3)} {x:W4}
theorem td{k:IntKind}{n:Int}(hx:ρ a=U x)(hy:ρ b= .int k n)(h:0<=n):ev P c (execOp ρ ⟨d, .binOp .shl t a b t',ty,pos,af,g⟩)=some (.value (U (x<<<n.toNat))):=by
 obtain⟨m,rfl⟩:=Int.eq_ofNat_of_zero_le h
 rw [wR hx hy,yC];rfl
end
def TC{α:Type}(a:Y0 α)(o p:Nat):Y0 α:=a.take o++(((a.take p).take (a.length - o))++a.drop (o+p))
theorem nI{α:Type}(xs:Y0 α){o p:Nat}(ho:o<=xs.length)(hp:p<=xs.length):(TC xs o p).length=xs.length:=by
 unfold TC;simp only [zf,q8,zq];omega
theorem xu{β:Type}(A B C:Y0 β)(x:Nat):(A++B++C).take (A.length+(B.length+x))=A++(B++C.take x):=by
 rw [j0,List.take_length_add_append,List.take_length_add_append]
theorem iZ{α:Type}{e:TypeId}{En:Enc α}{xs:Y0 α}{b cap o p n:Nat}{cs:Array Y2}(hle:xs.length<=cap)(hcs:cs.size=cap*En.sz)(htk:cs.toList.take (xs.length*En.sz)=En.all xs)(ho:o<=xs.length)(hp:p<=xs.length)(hn:n=min p (xs.length - o)):
  Sl e En (.slice (some ⟨b,0,none⟩) xs.length cap) (TC xs o p) [(b,e,(cs.toList.take (o*En.sz)++En.all ((xs.take p).take n)++cs.toList.drop (o*En.sz+(En.all ((xs.take p).take n)).length)).toArray)]:=by
 have hlen:=nI xs ho hp
 have hy:(xs.take p).take n=(xs.take p).take (xs.length - o):=by
  rw [List.take_take,List.take_take,hn];congr 1;omega
 have hyl:((xs.take p).take n).length=n:=by rw [q8,q8];omega
 have hall:(En.all ((xs.take p).take n)).length=n*En.sz:=by rw [En.all_len,hyl]
 have e1:o*En.sz+n*En.sz=(o+n)*En.sz:=(Nat.add_mul _ _ _).symm
 have hnx:(o+n)*En.sz<=xs.length*En.sz:=Nat.mul_le_mul_right _ (by omega)
 have hox:o*En.sz<=xs.length*En.sz:=Nat.mul_le_mul_right _ ho
 have hxc:xs.length*En.sz<=cap*En.sz:=Nat.mul_le_mul_right _ hle
 refine .inr ⟨b,cap,_,by rw [hlen],by rw [hlen];exact hle, ?_, ?_,Z⟩
 ·simp only [List.size_toArray,zf,q8,zq,Array.length_toList,hall,hcs];omega
 ·have ht:cs.toList.take (o*En.sz)=En.all (xs.take o):=by
   rw [Enc.all_take,<-htk,List.take_take,Nat.min_eq_left hox]
  have hd:(cs.toList.drop ((o+n)*En.sz)).take (xs.length*En.sz - (o+n)*En.sz)=En.all (xs.drop (o+p)):=by
   rw [<-List.drop_take,htk,<-Enc.all_drop]
   rcases Nat.le_total p (xs.length - o)with h|h
   ·rw [show n=p from by omega]
   ·rw [List.drop_eq_nil_of_le (show xs.length<=o+n by omega),List.drop_eq_nil_of_le (show xs.length<=o+p by omega)]
  have hto:(En.all (xs.take o)).length=o*En.sz:=by rw [Enc.all_len,q8,Nat.min_eq_left ho]
  have h3:=xu (En.all (xs.take o)) (En.all ((xs.take p).take n)) (cs.toList.drop ((o+n)*En.sz)) (xs.length*En.sz - (o+n)*En.sz)
  rw [hto,hall] at h3
  rw [hlen,ht,hall,e1,show xs.length*En.sz=o*En.sz+(n*En.sz+(xs.length*En.sz - (o+n)*En.sz))by omega,h3,hd]
  unfold TC
  rw [Enc.all_append,Enc.all_append,hy]
section
variable {E:Env} {g:Y3} {ops:Array Oper} {K:(Nat->Y2)->Y0 Bl->Prop} {r:Y0 Oper} {T:Nat->Y2} {m:Nat} {d:Tmp} {ty:TypeId} {pos:String} {af:Array Edge}
theorem vQ{α:Type}{Ls:Y0 (Y0 Bl)}{t u:TypeId}{x y:Operand}(k:Nat){S:Y0 Bl}{e:TypeId}{En:Enc α}{sv:Y2}{xs:Y0 α}{o p:Nat}{ii:TypeInfo}(hd:decide (d<E.n)=true)(hk:E.ks.find? (λx=>x.1==some d)=some (some d,true))(hS:Ls[k]? =some S)(hm:decide (m<=(Ls.take k).flatten.length)=true)(hx:rd T x=GX sv o xs.length En.sz)(hy:rd T y=GX sv 0 p En.sz)(hSl:Sl e En sv xs S)(ho:o<=xs.length)(hp:p<=xs.length)(hu:E.P.underlying t=some (.slice e))(hi:E.P.info? e=some ii)(hsz:ii.size=En.sz)(hT:decide (e<OBJ)=true)(hcon: ∀args view v L U,E.con ⟨some d, .call ⟨.builtin .copy, #[x,y], #[t,u]⟩,ty,pos,af,none⟩ args view v L U↔pUp (λv U=>v= .int .i64 ((min p (xs.length - o):Nat):Int)/\Sl e En sv (TC xs o p) U/\U.map (·.1)=S.map (·.1)) v L U)(h: ∀S',Sl e En sv (TC xs o p) S'->lx E g ops K r (upd T d (.int .i64 ((min p (xs.length - o):Nat):Int))) (Ls.set k S').flatten m):lx E g ops K (⟨some d, .call ⟨.builtin .copy, #[x,y], #[t,u]⟩,ty,pos,af,none⟩::r) T Ls.flatten m:=by
 have hex: ∀v w w',(Builtin.copy_ #[t,u] ty #[GX sv o xs.length En.sz,GX sv 0 p En.sz]).run E.P w= .ok v w'->(execOp (rd T) ⟨some d, .call ⟨.builtin .copy, #[x,y], #[t,u]⟩,ty,pos,af,none⟩).run E.P w= .ok (.value v) w':=λv w w' hv=>by
  unfold execOp
  simp only [resolve,invoke,builtin,Sem.run_bind,Sem.run_pure,Result.andThen_ok,List.map_toArray,List.map_cons,List.map_nil,hx,hy,hv]
 have hwit: ∃S',Sl e En sv (TC xs o p) S'/\S'.map (·.1)=S.map (·.1):=by
  rcases hSl with⟨a,rfl,rfl,rfl⟩|⟨b,cap,cs,rfl,hle,hcs,htk,rfl⟩
  ·exact⟨[], .inl ⟨a,Z,by simp [TC],Z⟩,Z⟩
  ·exact⟨_,iZ hle hcs htk ho hp Z,Z⟩
 refine rO (λv U=>v= .int .i64 ((min p (xs.length - o):Nat):Int)/\Sl e En sv (TC xs o p) U/\U.map (·.1)=S.map (·.1)) k hd hk Z hS hm (by obtain⟨S',h1,h2⟩:=hwit;exact⟨_,S',Z,h1,h2⟩) (λ_ _ h=>h.2.2) (λown nw w hse hcell hh=> ?_) hcon (λv S' hp=>by obtain⟨rfl,h1,_⟩:=hp;exact h S' h1)
 have hrd:=AB hSl (Al hS hm) own nw hse
 rcases hSl with⟨a,rfl,rfl,rfl⟩|⟨b,cap,cs,rfl,hle,hcs,htk,rfl⟩
 ·obtain rfl:o=0:=by simpa using ho
  obtain rfl:p=0:=by simpa using hp
  refine⟨.int .i64 0,w,[],hex _ _ _ ?_,ExtW.same_of (λ_ h=>(nomatch h)),by simp, .inl ⟨a,Z,by simp [TC],Z⟩,Z⟩
  have hfc:(Builtin.firstCells ii.size 0 (GX (.slice a.1 0 0) 0 0 En.sz)).run E.P w= .ok #[] w:=by
   rcases a with⟨_|a,ha⟩
   ·simp [GX,Builtin.firstCells]
   ·exact run_firstCells_some w ii.size 0 a 0 0 [] (by simp) (λj u hj=>by simp at hj)
  rcases a with⟨_|a,ha⟩
  ·simp [GX] at hfc
   simp [GX,Builtin.copy_,Builtin.lenOf,run_underlying hu,sizeOf,typeInfo,hi,hfc,goInt,storeCells]
  ·simp [GX] at hfc
   simp [GX,Builtin.copy_,Builtin.lenOf,run_underlying hu,sizeOf,typeInfo,hi,hfc,goInt,storeCells]
 ·have hb:Holds w b e cs:=hh _ (List.mem_singleton.2 Z)
  have hyl: ∀n,n<=p->((xs.take p).take n).length=n:=λn hn=>by rw [q8,q8];omega
  have hfc: ∀n,n<=p->(Builtin.firstCells ii.size n (GX (.slice (some ⟨b,0,none⟩) xs.length cap) 0 p En.sz)).run E.P w= .ok (En.all ((xs.take p).take n)).toArray w:=λn hn=>by
   have hs:=hrd.sub (Nat.zero_le p) hp
   rw [j8] at hs
   have hl:(En.all ((xs.take p).take n)).length=n*ii.size:=by rw [En.all_len,hyl n hn,hsz]
   rcases hs with⟨h1,h2⟩|⟨a,cap',h1,h0,hle',hc⟩
   ·have hp0:p=0:=by
     have:=congrArg List.length h2;rw [q8] at this;simp only [zp] at this;omega
    subst hp0
    obtain rfl:n=0:=by omega
    rw [h1];simp [Builtin.firstCells,Enc.all]
   ·rw [h1]
    refine run_firstCells_some w ii.size n a _ cap' _ hl (λj u hj=> ?_)
    have hlt:=(List.getElem?_eq_some_iff.1 hj).1
    have hsp:a.spot=none:=h0 (by
     rcases Nat.eq_zero_or_pos n with hz|hz
     ·subst hz;simp [Enc.all] at hlt
     ·have h7:n<=(xs.take p).length:=by rw [q8];omega
      omega)
    rw [Hj hsp]
    refine hcell _ _ (hc _ _ ?_)
    rw [Enc.all_take] at hj
    rw [List.getElem?_take] at hj
    split at hj
    ·exact hj
    ·cases hj
  have hnl:=hyl (min p (xs.length - o)) (Nat.min_le_left _ _)
  have hf1:=hfc (min p (xs.length - o)) (Nat.min_le_left _ _)
  have hsl:Sl e En (.slice (some ⟨b,0,none⟩) xs.length cap) (TC xs o p) [(b,e,(cs.toList.take (o*En.sz)++En.all ((xs.take p).take (min p (xs.length - o)))++cs.toList.drop (o*En.sz+(En.all ((xs.take p).take (min p (xs.length - o)))).length)).toArray)]:=iZ hle hcs htk ho hp Z
  have hox:o*En.sz<=xs.length*En.sz:=Nat.mul_le_mul_right _ ho
  have e0:o*En.sz+min p (xs.length - o)*En.sz=(o+min p (xs.length - o))*En.sz:=(Nat.add_mul _ _ _).symm
  have hnx:o*En.sz+(En.all ((xs.take p).take (min p (xs.length - o)))).length<=cs.size:=by
   rw [En.all_len,hnl,hcs,e0]
   exact Nat.mul_le_mul_right _ (by omega)
  have hst:=λoff hoff=>hb.store (λh9=>by rw [h9] at hT;exact absurd hT (by decide)) E.P off (En.all ((xs.take p).take (min p (xs.length - o)))) hoff (En.all_one _)
  have e1:Nat.min p (xs.length - o)=min p (xs.length - o):=Z
  by_cases hc:cap=o
  ·have hz:min p (xs.length - o)=0:=by omega
   have hem:En.all ((xs.take p).take (min p (xs.length - o)))=[]:=by rw [hz];simp [Enc.all]
   refine⟨_,w.setRow b (cs.toList.take 0++En.all ((xs.take p).take (min p (xs.length - o)))++cs.toList.drop (0+(En.all ((xs.take p).take (min p (xs.length - o)))).length)).toArray,_,hex _ _ _ ?_,⟨Z,Z,Z,by simp,λk _ hk=>setRow_other w b k _ (λe=>hk _ (List.mem_singleton.2 Z) e.symm),λy hy=> ?_,λ_ h=>(nomatch h),Nat.le_refl _⟩,Z,hsl,Z⟩
   ·have hs0:=hst 0 (by rw [hem];simp)
    simp only [GX,hc,Nat.sub_zero,if_true] at hf1 ⊢
    simp only [Builtin.copy_,Builtin.lenOf,run_underlying hu,Sem.run_bind,Sem.run_pure,Result.andThen_ok,Ob hi,e1,hf1,hs0,goInt,List.getElem?_toArray,List.getElem?_cons_zero,List.getElem?_cons_succ]
   ·simp only [zi] at hy;subst hy
    have h3:=hb.setRow (cs.toList.take 0++En.all ((xs.take p).take (min p (xs.length - o)))++cs.toList.drop (0+(En.all ((xs.take p).take (min p (xs.length - o)))).length)).toArray (by rw [hem];simp)
    have h4:(cs.toList.take (o*En.sz)++En.all ((xs.take p).take (min p (xs.length - o)))++cs.toList.drop (o*En.sz+(En.all ((xs.take p).take (min p (xs.length - o)))).length)).toArray=(cs.toList.take 0++En.all ((xs.take p).take (min p (xs.length - o)))++cs.toList.drop (0+(En.all ((xs.take p).take (min p (xs.length - o)))).length)).toArray:=by
     rw [hem];simp
    rw [h4];exact h3
  ·refine⟨_,w.setRow b (cs.toList.take (o*En.sz)++En.all ((xs.take p).take (min p (xs.length - o)))++cs.toList.drop (o*En.sz+(En.all ((xs.take p).take (min p (xs.length - o)))).length)).toArray,_,hex _ _ _ ?_,⟨Z,Z,Z,by simp,λk _ hk=>setRow_other w b k _ (λe=>hk _ (List.mem_singleton.2 Z) e.symm),λy hy=> ?_,λ_ h=>(nomatch h),Nat.le_refl _⟩,Z,hsl,Z⟩
   ·have hs0:=hst (o*En.sz) hnx
    have ha:(⟨b,0,none⟩:Addr).add (o*En.sz)=⟨b,o*En.sz,none⟩:=by rw [Hj Z,q7]
    simp only [GX,V9 hc,Option.map_some,ha,Nat.sub_zero] at hf1 ⊢
    simp only [Builtin.copy_,Builtin.lenOf,run_underlying hu,Sem.run_bind,Sem.run_pure,Result.andThen_ok,Ob hi,e1,hf1,hs0,goInt,List.getElem?_toArray,List.getElem?_cons_zero,List.getElem?_cons_succ,Nat.sub_zero]
   ·simp only [zi] at hy;subst hy
    exact hb.setRow _ (by simp only [List.size_toArray,zf,q8,zq,Array.length_toList];omega)
end
theorem fJ{E:Env}{g:Y3}{ops:Array Oper}{K:(Nat->Y2)->Y0 Bl->Prop}{r:Y0 Oper}{T:Nat->Y2}{l:Y0 Bl}{m:Nat}(kv:Y0 (Nat×Y2))(h:kv.map (λx=>T x.1)=kv.map (·.2))(H: ∀T',lx E g ops K r (fk T' kv) l m):lx E g ops K r T l m:=by
 have:=H T
 rwa [Pu T kv h] at this
theorem AS{E:Env}{g:Y3}{ops:Array Oper}{K:(Nat->Y2)->Y0 Bl->Prop}{r:Y0 Oper}{T:Nat->Y2}{l:Y0 Bl}{m:Nat}{β:Type}(n d:Nat)(kv:Y0 (Nat×Y2))(vf:β->Y2)(P:β->Prop)(hJ: ∀b,P b-> ∀T',lx E g ops K (r.drop n) (fk T' ((d,vf b)::kv)) l m)(hA:(∀b T'',P b->T'' d=vf b->kv.map (λx=>T'' x.1)=kv.map (·.2)->lx E g ops K (r.drop n) T'' l m)->lx E g ops K r T l m):lx E g ops K r T l m:=
 hA λb T'' hp hd hk=>by
  have h:=hJ b hp T''
  rwa [Pu T'' _ (by rw [List.map_cons,List.map_cons];exact congr (congrArg List.cons hd) hk)] at h
end Go.Eng
