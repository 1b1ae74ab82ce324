import Derived.Test.YtjnanfkpdhmnpaaGreatDoorMd
import Derived.Laws.AppendOwn
namespace Go.Eng
open Go Go.RowKit
def pickL(b:Y0 (Y0 Bl))(a:Y0 Nat):Y0 (Y0 Bl):=a.map λi=>(b[i]?).getD []
def Nq(a:Y0 Nat)(n:Nat):Y3:=a.all (λi=>decide (i<n))&&decide a.Nodup
theorem WU{Ls:Y0 (Y0 Bl)}{i:Nat}{x:Bl}(h:x∈(Ls[i]?).getD []):x∈Ls.flatten:=by
 cases hi:Ls[i]? with
 |none=>rw [hi] at h;cases h
 |some S=>rw [hi] at h;exact List.mem_flatten.2 ⟨S,List.mem_of_getElem? hi,h⟩
theorem PU: ∀(Ls:Y0 (Y0 Bl)),(Ls.flatten.map (·.1)).Nodup-> ∀(i j:Nat) (x y:Bl),x∈(Ls[i]?).getD []->y∈(Ls[j]?).getD []->x.1=y.1->i=j
 | [],_,i,_,_,_,hx,_,_=>by simp at hx
 |S::Ls,hn,i,j,x,y,hx,hy,he=>by
  rw [List.flatten_cons,List.map_append,List.nodup_append] at hn
  obtain⟨_,h2,h3⟩:=hn
  cases i with
  |zero=>
   cases j with
   |zero=>rfl
   |succ j=>
    simp only [List.getElem?_cons_zero,Option.getD_some] at hx
    simp only [List.getElem?_cons_succ] at hy
    exact absurd he (h3 _ (List.mem_map.2 ⟨x,hx,Z⟩) _ (List.mem_map.2 ⟨y,WU hy,Z⟩))
  |succ i=>
   simp only [List.getElem?_cons_succ] at hx
   cases j with
   |zero=>
    simp only [List.getElem?_cons_zero,Option.getD_some] at hy
    exact absurd he.symm (h3 _ (List.mem_map.2 ⟨y,hy,Z⟩) _ (List.mem_map.2 ⟨x,WU hx,Z⟩))
   |succ j=>
    simp only [List.getElem?_cons_succ] at hy
    exact congrArg _ (PU Ls h2 i j x y hx hy he)
theorem du: ∀(Ls:Y0 (Y0 Bl)),(Ls.flatten.map (·.1)).Nodup-> ∀i:Nat,(((Ls[i]?).getD []).map (·.1)).Nodup
 | [],_,i=>by simp
 |S::Ls,hn,i=>by
  rw [List.flatten_cons,List.map_append,List.nodup_append] at hn
  cases i with
  |zero=>simpa using hn.1
  |succ i=>simpa using du Ls hn.2.1 i
theorem Sub.pick(Ls:Y0 (Y0 Bl))(is:Y0 Nat)(h:Nq is Ls.length=true):Sub (pickL Ls is).flatten Ls.flatten:=by
 simp only [Nq,Bool.and_eq_true,List.all_eq_true,decide_eq_true_eq] at h
 obtain⟨hall,hnd⟩:=h
 clear hall
 refine⟨λx hx=> ?_,λhn=> ?_⟩
 ·obtain⟨S,hS,hx⟩:=List.mem_flatten.1 hx
  obtain⟨i,_,rfl⟩:=List.mem_map.1 hS
  exact WU hx
 ·induction is with
  |nil=>simp [pickL]
  |cons i is ih=>
   rw [List.nodup_cons] at hnd
   show((((Ls[i]?).getD [])++(pickL Ls is).flatten).map (·.1)).Nodup
   rw [List.map_append,List.nodup_append]
   refine⟨du Ls hn i,ih hnd.2,λa ha b hb e=> ?_⟩
   obtain⟨x,hx,rfl⟩:=List.mem_map.1 ha
   obtain⟨y,hy,rfl⟩:=List.mem_map.1 hb
   obtain⟨S,hS,hy⟩:=List.mem_flatten.1 hy
   obtain⟨j,hj,rfl⟩:=List.mem_map.1 hS
   have:=PU Ls hn i j x y hx hy e
   subst this
   exact hnd.1 hj
theorem Sub.nil(l:Y0 Bl):Sub [] l:=⟨λ_ h=>(nomatch h),λ_=>List.nodup_nil⟩
theorem Wh{E:Env}{g:Y3}{ops:Array Oper}{K:(Nat->Y2)->Y0 Bl->Prop}{r:Y0 Oper}{t:Nat->Y2}{l l':Y0 Bl}{m:Nat}(hs:Sub l' l)(hm: ∀i:Nat,i<m->l'[i]? =l[i]?)(_:m<=l.length)(h:lx E g ops K r t l' m):lx E g ops K r t l m:=λhn own nw hse=>by
 refine h (hs.nod hn) own nw ⟨λi b x hi=> ?_,hse.ro,hse.non⟩
 by_cases him:i<m
 ·rw [hm i him] at hi;exact hse.has i b x hi
 ·have hmem:=hs.mem _ (List.mem_of_getElem? hi)
  obtain⟨j,hj⟩:=List.getElem?_of_mem hmem
  obtain⟨h1,h2⟩:=hse.has j b x hj
  refine⟨h1, ?_⟩
  rw [h2]
  have hjm: ¬j<m:=by
   intro hjm
   rw [<-hm j hjm] at hj
   have hn':=hs.nod hn
   have e1:(l'.map (·.1))[i]? =some b:=by rw [List.getElem?_map,hi];rfl
   have e2:(l'.map (·.1))[j]? =some b:=by rw [List.getElem?_map,hj];rfl
   obtain⟨hi',e1⟩:=List.getElem?_eq_some_iff.1 e1
   obtain⟨hj',e2⟩:=List.getElem?_eq_some_iff.1 e2
   have:=(List.getElem_inj hn').1 (e1.trans e2.symm)
   omega
  simp [him,hjm]
structure Enc(α:Type) where
 f:α->Y0 Y2
 sz:Nat
 pos:0<sz
 len: ∀x,(f x).length=sz
 one: ∀x,∀v∈f x,v.oneCell'=true
 loose:Prop
abbrev Enc.At0{α:Type}(E:Enc α):Type:={a:Y1 Addr // a=none\/E.loose}
def Enc.all{α:Type}(E:Enc α)(a:Y0 α):Y0 Y2:=a.flatMap E.f
theorem Enc.all_cons{α:Type}(E:Enc α)(x:α)(xs:Y0 α):E.all (x::xs)=E.f x++E.all xs:=by simp [Enc.all]
theorem Enc.all_append{α:Type}(E:Enc α)(xs ys:Y0 α):E.all (xs++ys)=E.all xs++E.all ys:=by simp [Enc.all]
theorem Enc.all_len{α:Type}(E:Enc α)(xs:Y0 α):(E.all xs).length=xs.length*E.sz:=by
 induction xs with
 |nil=>simp [Enc.all]
 |cons x xs ih=>rw [E.all_cons,zf,ih,E.len,zg,Nat.succ_mul,Nat.add_comm]
theorem Enc.all_one{α:Type}(E:Enc α)(xs:Y0 α): ∀v∈E.all xs,v.oneCell'=true:=by
 intro v hv
 obtain⟨x,_,h⟩:=List.mem_flatMap.1 hv
 exact E.one x v h
theorem Enc.all_get{α:Type}(E:Enc α){x:α}: ∀{xs:Y0 α} {i:Nat},xs[i]? =some x-> ∀j u,(E.f x)[j]? =some u->(E.all xs)[i*E.sz+j]? =some u
 | [],i,h,_,_,_=>by simp at h
 |y::xs,0,h,j,u,hj=>by
  simp at h;subst h
  rw [E.all_cons,Nat.zero_mul,q7,List.getElem?_append_left]
  ·exact hj
  ·exact(List.getElem?_eq_some_iff.1 hj).1
 |y::xs,i+1,h,j,u,hj=>by
  rw [E.all_cons,List.getElem?_append_right (by rw [E.len,Nat.succ_mul];omega),E.len,show(i+1)*E.sz+j - E.sz=i*E.sz+j from by rw [Nat.succ_mul];omega]
  exact E.all_get (by simpa using h) j u hj
theorem Enc.all_take{α:Type}(E:Enc α): ∀(xs:Y0 α) (n:Nat),E.all (xs.take n)=(E.all xs).take (n*E.sz)
 | [],n=>by simp [Enc.all]
 |x::xs,0=>by simp [Enc.all]
 |x::xs,n+1=>by
  rw [List.take_succ_cons,E.all_cons,E.all_cons,E.all_take xs n,Nat.succ_mul,Nat.add_comm,<-E.len x,List.take_length_add_append,E.len]
theorem Enc.all_drop{α:Type}(E:Enc α): ∀(xs:Y0 α) (n:Nat),E.all (xs.drop n)=(E.all xs).drop (n*E.sz)
 | [],n=>by simp [Enc.all]
 |x::xs,0=>by simp
 |x::xs,n+1=>by
  rw [List.drop_succ_cons,E.all_cons,E.all_drop xs n,Nat.succ_mul,Nat.add_comm,<-E.len x,List.drop_length_add_append,E.len]
def Shp(v:Y2)(n:Nat):Prop:=(v= .slice none 0 0/\n=0)\/ ∃a cap,v= .slice (some a) n cap/\(0<cap->a.spot=none)/\n<=cap
def Rd{α:Type}(E:Enc α)(c:Addr->Y1 Y2)(v:Y2)(b:Y0 α):Prop:=
 (v= .slice none 0 0/\b=[])\/ ∃a cap,v= .slice (some a) b.length cap/\(0<cap->a.spot=none)/\b.length<=cap/\ ∀k u,(E.all b)[k]? =some u->c ⟨a.block,a.off+k,none⟩=some u
def Sl{α:Type}(e:TypeId)(E:Enc α)(v:Y2)(c:Y0 α)(S:Y0 Bl):Prop:=
 (∃a:E.At0,v= .slice a.1 0 0/\c=[]/\S=[])\/
 ∃b cap cs,v= .slice (some ⟨b,0,none⟩) c.length cap/\c.length<=cap/\cs.size=cap*E.sz/\cs.toList.take (c.length*E.sz)=E.all c/\S=[(b,e,cs)]
theorem Sl.nil{α:Type}{e:TypeId}{E:Enc α}:Sl e E (.slice none 0 0) [] []:= .inl ⟨⟨none, .inl Z⟩,Z,Z,Z⟩
theorem Sl.shp{α:Type}{e:TypeId}{E:Enc α}{v:Y2}{xs:Y0 α}{S:Y0 Bl}(h:Sl e E v xs S):Shp v xs.length:=by
 rcases h with⟨a,rfl,rfl,rfl⟩|⟨b,cap,cs,rfl,h1,_⟩
 ·rcases a with⟨_|a,_⟩
  ·exact .inl ⟨Z,Z⟩
  ·exact .inr ⟨a,0,Z,(λh=>absurd h (Nat.lt_irrefl 0)),Nat.le_refl _⟩
 ·exact .inr ⟨_,cap,Z,(λ_=>Z),h1⟩
theorem Rd.shp{α:Type}{E:Enc α}{c:Addr->Y1 Y2}{v:Y2}{xs:Y0 α}(h:Rd E c v xs):Shp v xs.length:=by
 rcases h with⟨rfl,rfl⟩|⟨a,cap,rfl,h0,h1,_⟩
 ·exact .inl ⟨Z,Z⟩
 ·exact .inr ⟨_,cap,Z,h0,h1⟩
theorem Rd.mono{α:Type}{E:Enc α}{c c':Addr->Y1 Y2}(hc: ∀a v,c a=some v->c' a=some v){v:Y2}{xs:Y0 α}(h:Rd E c v xs):Rd E c' v xs:=by
 rcases h with⟨rfl,rfl⟩|⟨a,cap,rfl,h0,h1,h2⟩
 ·exact .inl ⟨Z,Z⟩
 ·exact .inr ⟨_,cap,Z,h0,h1,λk u hk=>hc _ _ (h2 k u hk)⟩
theorem Sl.nod{α:Type}{e:TypeId}{E:Enc α}{v:Y2}{xs:Y0 α}{S:Y0 Bl}(h:Sl e E v xs S):(S.map (·.1)).Nodup:=by
 rcases h with⟨_,_,_,rfl⟩|⟨_,_,_,_,_,_,_,rfl⟩<;>simp
theorem Sl.wit{α:Type}(e:TypeId)(E:Enc α)(xs:Y0 α)(k:Nat): ∃v S,Sl e E v xs S/\ ∀x∈S,k<x.1:=
 ⟨_,_, .inr ⟨k+1,xs.length,(E.all xs).toArray,Z,Nat.le_refl _,by rw [List.size_toArray,E.all_len],by rw [<-E.all_len xs];exact List.take_length,Z⟩,λx hx=>by simp only [zi] at hx;subst hx;exact Nat.lt_succ_self k⟩
section
variable {E:Env} {l:Y0 Bl} {m:Nat}
theorem Sees.ro_cell{own:Nat->Y1 (TypeId×Array Y2)}{nw:Nat->Y3}(h:Sees E l m own nw): ∀a v,E.ro a=some v->cellA E own nw a=some v:=λa v ha=>by
 obtain⟨h1,h2⟩:=h.ro a v ha
 unfold cellA;rw [h2];simp only [V8 h1,ha]
theorem Ay{α:Type}{e:Enc α}{v:Y2}{xs:Y0 α}(h:Rd e E.ro v xs): ∀own nw,Sees E l m own nw->Rd e (cellA E own nw) v xs:=λ_ _ hs=>h.mono hs.ro_cell
theorem AB{α:Type}{e:TypeId}{en:Enc α}{v:Y2}{xs:Y0 α}{S:Y0 Bl}(h:Sl e en v xs S)(hS: ∀x∈S,∃i,m<=i/\l[i]? =some x): ∀own nw,Sees E l m own nw->Rd en (cellA E own nw) v xs:=λown nw hs=>by
 rcases h with⟨a,rfl,rfl,_⟩|⟨b,cap,cs,rfl,h1,h2,h3,rfl⟩
 ·rcases a with _|a
  ·exact .inl ⟨Z,Z⟩
  ·exact .inr ⟨a,0,Z,(λh=>absurd h (Nat.lt_irrefl 0)),Nat.le_refl _,λk u hk=>by simp [Enc.all] at hk⟩
 ·refine .inr ⟨_,cap,Z,(λ_=>Z),h1,λk u hk=> ?_⟩
  obtain⟨i,hmi,hi⟩:=hS (b,e,cs) (by simp)
  obtain⟨g1,g2⟩:=hs.has i _ _ hi
  show cellA E own nw ⟨b,0+k,none⟩=some u
  rw [MP g1 (by rw [g2];simp;omega),q7]
  rw [<-h3] at hk
  obtain⟨hlt,hk⟩:=List.getElem?_eq_some_iff.1 hk
  rw [y2] at hk
  rw [<-Array.getElem?_toList,List.getElem?_eq_some_iff]
  exact⟨_,hk⟩
theorem Al{Ls:Y0 (Y0 Bl)}{k:Nat}{S:Y0 Bl}(hk:Ls[k]? =some S)(hm:decide (m<=(Ls.take k).flatten.length)=true): ∀x∈S,∃i,m<=i/\Ls.flatten[i]? =some x:=λx hx=>by
 obtain⟨j,hj⟩:=List.getElem?_of_mem hx
 have hsplit:Ls.flatten=(Ls.take k).flatten++(S++(Ls.drop (k+1)).flatten):=by
  obtain⟨hlt,he⟩:=List.getElem?_eq_some_iff.1 hk
  have h1:Ls.drop k=S::Ls.drop (k+1):=by rw [y3 hlt,he]
  rw [<-List.flatten_cons,<-h1,<-List.flatten_append,j3]
 refine⟨(Ls.take k).flatten.length+j,by have:=zj hm;omega, ?_⟩
 rw [hsplit,List.getElem?_append_right (by omega),Nat.add_sub_cancel_left,List.getElem?_append_left (List.getElem?_eq_some_iff.1 hj).1,hj]
end
section
variable {P:Program} {c:Addr->Y1 Y2}
theorem Zl{b off:Nat}: ∀(vs:Y0 Y2) (i:Nat) (acc:Array Y2),(∀j u,vs[j]? =some u->c ⟨b,off+i+j,none⟩=some u)->
  ev P c (loadCellsFrom ⟨b,off,none⟩ i vs.length acc)=some (acc++vs.toArray)
 | [],i,acc,_=>by rw [zp,loadCellsFrom,Bv];simp
 |v::vs,i,acc,h=>by
  have hadd:(⟨b,off,none⟩:Addr).add i=⟨b,off+i,none⟩:=by unfold Addr.add;split<;>simp_all
  have h1:ev P c (load ((⟨b,off,none⟩:Addr).add i))=some v:=by rw [hadd,Vs];exact h 0 v Z
  rw [zg,loadCellsFrom,Be,h1]
  simp only [q0]
  rw [Zl vs (i+1) (acc.push v) (λj u hj=>by rw [show off+(i+1)+j=off+i+(j+1)from by omega];exact h (j+1) u (by simpa using hj))]
  congr 1
  apply Array.ext'
  simp
theorem bp{ty:TypeId}{b off o:Nat}{vs:Y0 Y2}{v:Y2}(hc: ∀j u,vs[j]? =some u->c ⟨b,off+j,none⟩=some u)(h:Iu P ty vs.toArray o=some v):ev P c (loadVar ty ⟨b,off+o,none⟩)=some v:=by
 have agg: ∀(i:TypeInfo),P.info? ty=some i->(if o=0/\i.size=vs.toArray.size then some (Value.agg vs.toArray)else if o+i.size<=vs.toArray.size then some (.agg (vs.toArray.extract o (o+i.size)))else none)=some v->
   ev P c (loadCells ⟨b,off+o,none⟩ i.size)=some (vs.toArray.extract o (o+i.size))/\v= .agg (vs.toArray.extract o (o+i.size)):=by
  intro i hi he
  have hle:o+i.size<=vs.toArray.size/\v= .agg (vs.toArray.extract o (o+i.size)):=by
   split at he
   ·rename_i h0
    obtain⟨h0,h1⟩:=h0
    subst h0
    simp only [Option.some.injEq] at he
    subst he
    exact⟨by omega,by rw [h1];simp⟩
   ·split at he
    ·rename_i hle;simp only [Option.some.injEq] at he;exact⟨hle,he.symm⟩
    ·cases he
  refine⟨?_,hle.2⟩
  have hl:((vs.drop o).take i.size).length=i.size:=by have:=hle.1;simp at this;simp;omega
  have:=Zl (P:=P) (c:=c) (b:=b) (off:=off+o) ((vs.drop o).take i.size) 0 #[] (λj u hj=>by
   rw [show off+o+0+j=off+(o+j)from by omega]
   obtain⟨hlt,hj⟩:=List.getElem?_eq_some_iff.1 hj
   rw [y2,List.getElem_drop] at hj
   exact hc (o+j) u (List.getElem?_eq_some_iff.2 ⟨_,hj⟩))
  rw [hl] at this
  rw [loadCells,this]
  congr 1
  apply Array.ext'
  simp [List.extract_eq_take_drop]
 unfold Iu at h
 unfold loadVar
 cases hu:P.underlying ty with
 |none=>simp [hu] at h
 |some d=>
  rw [Be,dz hu]
  cases d with
  |struct fs=>
   simp only [hu] at h
   cases hi:P.info? ty with
   |none=>simp [hi] at h
   |some i=>
    simp only [hi] at h
    obtain⟨h1,h2⟩:=agg i hi h
    simp only [q0,if_true,Be,Ie hi,h1,h2]
    rfl
  |array n e=>
   simp only [hu] at h
   cases hi:P.info? ty with
   |none=>simp [hi] at h
   |some i=>
    simp only [hi] at h
    obtain⟨h1,h2⟩:=agg i hi h
    simp only [q0,if_true,Be,Ie hi,h1,h2]
    rfl
  |_=>
   simp only [hu] at h
   simp only [q0,Bool.false_eq_true,if_false,Vs]
   exact hc o v (by simpa using h)
theorem Hj{a:Addr}(h:a.spot=none)(k:Nat):a.add k=⟨a.block,a.off+k,none⟩:=by
 obtain⟨b,o,s⟩:=a
 simp at h;subst h
 unfold Addr.add;split<;>simp_all
def elA(v:Y2)(k:Nat):Y2:=match v with| .slice (some a) _ _=> .pointer (some (a.add k))|_=>undef
def GX(v:Y2)(b d c:Nat):Y2:=match v with| .slice a _ cap=> .slice (if cap=b then a else a.map (·.add (b*c))) (d - b) (cap - b)|_=>undef
theorem dA{t e:TypeId}{i:TypeInfo}{sz:Nat}{v:Y2}{n:Nat}{k:IntKind}{j:Int}(hu:P.underlying t=some (.slice e))(hi:P.info? e=some i)(hs:i.size=sz)(h:Shp v n)(hj:0<=j/\j<(n:Int)):
  ev P c (Instr.indexAt t v (.int k j))=some (elA v (j.toNat*sz)):=by
 rcases h with⟨_,rfl⟩|⟨a,cap,rfl,_,_⟩
 ·omega
 ·unfold Instr.indexAt
  simp only [asIntOf,Be,Bv,q0,BK hu]
  rw [V8 hj]
  simp only [Be,Ie hi,hs,q0,Bv,elA]
theorem dy{ρ:Operand->Y2}{d:Y1 Tmp}{x:Operand}{ts:Array TypeId}{t e ty:TypeId}{pos:String}{af:Array Edge}{g:Y1 (Nat×Y3)}{v:Y2}{n:Nat}(hts:ts= #[t])(ht:P.underlying t=some (.slice e))(hx:ρ x=v)(h:Shp v n):
  ev P c (execOp ρ ⟨d, .call ⟨.builtin .len, #[x],ts⟩,ty,pos,af,g⟩)=some (.value (.int .i64 (n:Int))):=by
 subst hts;subst hx
 have h2:ev P c (Builtin.len_ #[t] ty #[ρ x])=some (.int .i64 (n:Int)):=by
  show ev P c (underlying t>>=λu=>_)=_
  rw [Be,BK ht]
  rcases h with⟨h,rfl⟩|⟨a,cap,h,_,_⟩<;>rw [h]<;>rfl
 show ev P c (do let d<-resolve ρ ⟨.builtin .len, #[x], #[t]⟩ ty;invoke d.target d.args)=_
 simp [resolve,invoke,builtin,SK,h2]
theorem nv{x:Y2}{y:Nat}{code:BoundsCode}{k:IntKind}{i:Int}(hx:x= .int k i)(h:0<=i/\i<=(y:Int)):ev P c (Instr.sliceBound x y code)=some i.toNat:=by
 subst hx
 unfold Instr.sliceBound
 simp only [asIntOf,Be,Bv,q0,V8 h]
theorem iQ{t e:TypeId}{i:TypeInfo}{sz:Nat}{a:Y1 Addr}{n cap:Nat}{lo hi:Y1 Y2}{l h:Nat}(hu:P.underlying t=some (.slice e))(hi':P.info? e=some i)(hs:i.size=sz)(hb:ev P c (Instr.sliceBounds true n cap lo hi none)=some (l,h,cap)):ev P c (Instr.sliceAt t (.slice a n cap) lo hi none)=some (GX (.slice a n cap) l h sz):=by
 unfold Instr.sliceAt
 simp only [Be,BK hu,q0,Instr.slice,hb,Ie hi',hs,Bv,GX]
theorem nu{n cap:Nat}{v:Y2}{k:IntKind}{lo:Int}(hv:v= .int k lo)(h1:0<=lo/\lo<=(n:Int)):ev P c (Instr.sliceBounds true n cap (some v) none none)=some (lo.toNat,n,cap):=by
 unfold Instr.sliceBounds
 simp only [Be,Bv,q0]
 rw [nv hv h1]
 rfl
theorem nt{n cap:Nat}{w:Y2}{k:IntKind}{hi:Int}(hw:w= .int k hi)(h1:0<=hi/\hi<=(cap:Int)):ev P c (Instr.sliceBounds true n cap none (some w) none)=some (0,hi.toNat,cap):=by
 unfold Instr.sliceBounds
 simp only [Be,Bv,q0]
 rw [nv hw h1]
 rfl
theorem Shp.cap{v:Y2}{n:Nat}(h:Shp v n): ∃a cap,v= .slice a n cap/\n<=cap:=by
 rcases h with⟨rfl,rfl⟩|⟨a,cap,rfl,_,h⟩
 ·exact⟨none,0,Z,Nat.le_refl _⟩
 ·exact⟨some a,cap,Z,h⟩
theorem kp{t e:TypeId}{i:TypeInfo}{sz:Nat}{v x:Y2}{n:Nat}{k:IntKind}{lo:Int}(hx:x= .int k lo)(hu:P.underlying t=some (.slice e))(hi':P.info? e=some i)(hs:i.size=sz)(h:Shp v n)(hj:0<=lo/\lo<=(n:Int)):
  ev P c (Instr.sliceAt t v (some x) none none)=some (GX v lo.toNat n sz):=by
 obtain⟨a,cap,rfl,hn⟩:=h.cap
 exact iQ hu hi' hs (nu hx hj)
theorem ID{t e:TypeId}{i:TypeInfo}{sz:Nat}{v y:Y2}{n:Nat}{k:IntKind}{hi:Int}(hy:y= .int k hi)(hu:P.underlying t=some (.slice e))(hi':P.info? e=some i)(hs:i.size=sz)(h:Shp v n)(hj:0<=hi/\hi<=(n:Int)):
  ev P c (Instr.sliceAt t v none (some y) none)=some (GX v 0 hi.toNat sz):=by
 obtain⟨a,cap,rfl,hn⟩:=h.cap
 exact iQ hu hi' hs (nt hy ⟨hj.1,by omega⟩)
theorem Shp.sub{v:Y2}{n lo hi sz:Nat}(h:Shp v n)(h1:lo<=hi)(h2:hi<=n):Shp (GX v lo hi sz) (hi - lo):=by
 rcases h with⟨rfl,rfl⟩|⟨a,cap,rfl,h0,hn⟩
 ·obtain rfl:hi=0:=by omega
  obtain rfl:lo=0:=by omega
  exact .inl ⟨Z,Z⟩
 ·refine .inr ?_
  unfold GX
  by_cases hc:cap=lo
  ·simp only [V8 hc];exact⟨a,_,Z,(λh=>h0 (by omega)),by omega⟩
  ·simp only [V9 hc];exact⟨a.add (lo*sz),_,Z,(λ_=>by rw [Hj (h0 (by omega))]),by omega⟩
theorem Rd.sub{α:Type}{E:Enc α}{v:Y2}{xs:Y0 α}{lo hi:Nat}(h:Rd E c v xs)(h1:lo<=hi)(h2:hi<=xs.length):Rd E c (GX v lo hi E.sz) ((xs.take hi).drop lo):=by
 have hl:((xs.take hi).drop lo).length=hi - lo:=by simp;omega
 rcases h with⟨rfl,rfl⟩|⟨a,cap,rfl,h0,hn,h⟩
 ·simp at h2;subst h2
  obtain rfl:lo=0:=by omega
  exact .inl ⟨Z,by simp⟩
 ·refine .inr ?_
  unfold GX
  rw [hl]
  by_cases hc:cap=lo
  ·simp only [V8 hc]
   have hz:(xs.take hi).drop lo=[]:=List.eq_nil_of_length_eq_zero (by omega)
   refine⟨a,_,Z,(λh=>h0 (by omega)),by omega,λk u hk=> ?_⟩
   rw [hz] at hk;simp [Enc.all] at hk
  ·simp only [V9 hc]
   have h0:=h0 (by omega)
   refine⟨a.add (lo*E.sz),_,Z,(λ_=>by rw [Hj h0]),by omega,λk u hk=> ?_⟩
   rw [Hj h0]
   show c ⟨a.block,a.off+lo*E.sz+k,none⟩=some u
   rw [Nat.add_assoc]
   refine h _ _ ?_
   rw [E.all_drop,E.all_take,List.getElem?_drop] at hk
   obtain⟨hlt,hk⟩:=List.getElem?_eq_some_iff.1 hk
   rw [y2] at hk
   exact List.getElem?_eq_some_iff.2 ⟨_,hk⟩
theorem Ql{α:Type}{E:Env}{l:Y0 Bl}{m:Nat}{en:Enc α}{v:Y2}{xs:Y0 α}{lo hi:Nat}(h: ∀own nw,Sees E l m own nw->Rd en (cellA E own nw) v xs)(h1:lo<=hi)(h2:hi<=xs.length):
  ∀own nw,Sees E l m own nw->Rd en (cellA E own nw) (GX v lo hi en.sz) ((xs.take hi).drop lo):=λown nw hs=>(h own nw hs).sub h1 h2
end
abbrev W5:=@Sub.pick
abbrev W7:=@Sl.shp
abbrev W8:=@Rd.shp
abbrev V0:=@Rd.mono
end Go.Eng
