import Derived.Test.YtjnanfkpdhmnpaaGreatDoorUt
namespace Go.Eng
open Go Go.RowKit
def SeenB(c:Addr->Y1 Y2)(S:Y0 Bl):Prop:= ∀x∈S,∀k u,x.2.2[k]? =some u->c ⟨x.1,k,none⟩=some u
theorem SeenB.left{c:Addr->Y1 Y2}{S S':Y0 Bl}(h:SeenB c (S++S')):SeenB c S:=λx hx=>h x (List.mem_append_left _ hx)
theorem SeenB.right{c:Addr->Y1 Y2}{S S':Y0 Bl}(h:SeenB c (S++S')):SeenB c S':=λx hx=>h x (List.mem_append_right _ hx)
theorem lv{E:Env}{l:Y0 Bl}{m:Nat}{S:Y0 Bl}(hS: ∀x∈S,∃i,m<=i/\l[i]? =some x): ∀own nw,Sees E l m own nw->SeenB (cellA E own nw) S:=λown nw hs x hx k u hk=>by
 obtain⟨i,hmi,hi⟩:=hS x hx
 obtain⟨g1,g2⟩:=hs.has i _ _ hi
 rw [MP (cs:=x.2.2) g1 (by rw [g2];simp;omega)]
 exact hk
theorem Sl.rdB{α:Type}{e:TypeId}{en:Enc α}{v:Y2}{xs:Y0 α}{S:Y0 Bl}{c:Addr->Y1 Y2}(h:Sl e en v xs S)(hc:SeenB c S):Rd en c v xs:=by
 rcases h with⟨a,rfl,rfl,_⟩|⟨b,cap,cs,rfl,h1,h2,h3,rfl⟩
 ·rcases a with _|a
  ·exact .inl ⟨Z,Z⟩
  ·exact .inr ⟨a,0,Z,(λh=>absurd h (Nat.lt_irrefl 0)),Nat.le_refl _,λk u hk=>by simp [Enc.all] at hk⟩
 ·refine .inr ⟨_,cap,Z,(λ_=>Z),h1,λk u hk=> ?_⟩
  show c ⟨b,0+k,none⟩=some u
  rw [q7]
  refine hc (b,e,cs) (by simp) k u ?_
  rw [<-h3] at hk
  obtain⟨hlt,hk⟩:=List.getElem?_eq_some_iff.1 hk
  rw [y2] at hk
  show cs[k]? =some u
  rw [<-Array.getElem?_toList,List.getElem?_eq_some_iff]
  exact⟨_,hk⟩
structure EncO(α:Type) where
 R:α->Y0 Y2->Y0 Bl->Prop
 sz:Nat
 pos:0<sz
 len: ∀{x vs S},R x vs S->vs.length=sz
 one: ∀{x vs S},R x vs S-> ∀v∈vs,v.oneCell'=true
 wit: ∀x k,∃vs S,R x vs S/\(S.map (·.1)).Nodup/\ ∀b∈S,k<b.1
 V:(Addr->Y1 Y2)->α->Y0 Y2->Prop
 mono: ∀{c c' x vs},(∀a v,c a=some v->c' a=some v)->V c x vs->V c' x vs
 view: ∀{c x vs S},R x vs S->SeenB c S->V c x vs
def EncO.r{α:Type}(E:EncO α):QT α:=⟨E.V,E.sz,E.pos,E.mono⟩
theorem EncO.cast{α:Type}{E:EncO α}{x:α}{vs:Y0 Y2}{S S':Y0 Bl}(h:E.R x vs S)(e:S=S'):E.R x vs S':=e▸h
theorem gf(S:Y0 Bl)(k:Nat): ∃K,k<=K/\ ∀x∈S,x.1<=K:=by
 obtain⟨K,h1,h2⟩:=UJ (S.map (·.1)) k
 exact⟨K,h1,λx hx=>h2 _ (List.mem_map.2 ⟨x,hx,Z⟩)⟩
theorem an{S S':Y0 Bl}{K:Nat}(h:(S.map (·.1)).Nodup)(h':(S'.map (·.1)).Nodup)(h1: ∀x∈S,x.1<=K)(h2: ∀x∈S',K<x.1):((S++S').map (·.1)).Nodup:=by
 rw [List.map_append,List.nodup_append]
 refine⟨h,h',λa ha b hb e=> ?_⟩
 obtain⟨x,hx,rfl⟩:=List.mem_map.1 ha
 obtain⟨y,hy,rfl⟩:=List.mem_map.1 hb
 have:=h1 x hx;have:=h2 y hy;omega
def Nm{α:Type}(E:Enc α):EncO α where
 R x vs S:=vs=E.f x/\S=[]
 sz:=E.sz
 pos:=E.pos
 len h:=by rw [h.1,E.len]
 one h:=by rw [h.1];exact E.one _
 wit x k:=⟨_,[],⟨Z,Z⟩,List.nodup_nil,λ_ h=>(nomatch h)⟩
 V _ x vs:=vs=E.f x
 mono _ h:=h
 view h _:=h.1
def QK{α:Type}(e:TypeId)(E:Enc α):EncO (Y0 α) where
 R xs vs S:= ∃v,vs=[v]/\Sl e E v xs S
 sz:=1
 pos:=Nat.one_pos
 len:=λ⟨_,h,_⟩=>by rw [h];rfl
 one:=λ⟨v,h,hs⟩ u hu=>by rw [h,zi] at hu;subst hu;exact hs.shp.one
 wit xs k:=by
  obtain⟨v,S,h,hk⟩:=Sl.wit e E xs k
  exact⟨[v],S,⟨v,Z,h⟩,h.nod,hk⟩
 V c xs vs:= ∃v,vs=[v]/\Rd E c v xs
 mono hc:=λ⟨v,h,hr⟩=>⟨v,h,hr.mono hc⟩
 view:=λ⟨v,h,hs⟩ hc=>⟨v,h,hs.rdB hc⟩
def KI{α β:Type}(A:EncO α)(B:EncO β):EncO (α×β) where
 R x vs S:= ∃v1 v2 S1 S2,A.R x.1 v1 S1/\B.R x.2 v2 S2/\vs=v1++v2/\S=S1++S2
 sz:=A.sz+B.sz
 pos:=Nat.add_pos_left A.pos _
 len:=λ⟨_,_,_,_,h1,h2,h,_⟩=>by rw [h,zf,A.len h1,B.len h2]
 one:=λ⟨_,_,_,_,h1,h2,h,_⟩ v hv=>by
  rw [h,List.mem_append] at hv
  exact hv.elim (A.one h1 v) (B.one h2 v)
 wit x k:=by
  obtain⟨v1,S1,h1,n1,k1⟩:=A.wit x.1 k
  obtain⟨K,hK,hm⟩:=gf S1 k
  obtain⟨v2,S2,h2,n2,k2⟩:=B.wit x.2 K
  exact⟨_,_,⟨v1,v2,S1,S2,h1,h2,Z,Z⟩,an n1 n2 hm k2,λb a=>by
   rcases List.mem_append.1 a with a|a
   ·exact k1 b a
   ·have:=k2 b a;omega⟩
 V c x vs:= ∃v1 v2,A.V c x.1 v1/\B.V c x.2 v2/\vs=v1++v2
 mono hc:=λ⟨v1,v2,h1,h2,h⟩=>⟨v1,v2,A.mono hc h1,B.mono hc h2,h⟩
 view:=λ⟨v1,v2,_,_,h1,h2,h,hS⟩ hc=>by subst hS;exact⟨v1,v2,A.view h1 hc.left,B.view h2 hc.right,h⟩
def Raw(n:Nat):Type:={l:Y0 Y2 // l.length=n/\ ∀v∈l,v.oneCell'=true}
instance (n:Nat):Inhabited (Raw n):=⟨⟨List.replicate n (.bool false),zo,λv hv=>by rw [List.eq_of_mem_replicate hv];rfl⟩⟩
def wT(n:Nat)(h:0<n):Enc (Raw n):=⟨Subtype.val,n,h,λx=>x.2.1,λx v a=>x.2.2 v a,True⟩
def EncO.raw{α:Type}(E:EncO α):Enc (Raw E.sz):=wT E.sz E.pos
def EncO.of{α:Type}(E:EncO α){x:α}{vs:Y0 Y2}{S:Y0 Bl}(h:E.R x vs S):Raw E.sz:=⟨vs,E.len h,E.one h⟩
inductive Items{α:Type}(E:EncO α):Y0 (Raw E.sz)->Y0 α->Y0 Bl->Prop
 |nil:Items E [] [] []
 |cons {r:Raw E.sz} {rs:Y0 (Raw E.sz)} {x:α} {xs:Y0 α} {S S':Y0 Bl} (h:E.R x r.1 S) (t:Items E rs xs S'):Items E (r::rs) (x::xs) (S++S')
theorem Items.cast{α:Type}{E:EncO α}{rs:Y0 (Raw E.sz)}{xs:Y0 α}{S S':Y0 Bl}(h:Items E rs xs S)(e:S=S'):Items E rs xs S':=e▸h
theorem Items.len{α:Type}{E:EncO α}{rs:Y0 (Raw E.sz)}{xs:Y0 α}{S:Y0 Bl}(h:Items E rs xs S):rs.length=xs.length:=by
 induction h with
 |nil=>rfl
 |cons _ _ ih=>rw [zg,zg,ih]
theorem Items.one{α:Type}{E:EncO α}{x:α}{vs:Y0 Y2}{S:Y0 Bl}(h:E.R x vs S):Items E [E.of h] [x] S:=(Items.cons (r:=E.of h) h .nil).cast (List.append_nil S)
theorem Items.at{α:Type}{E:EncO α}{rs:Y0 (Raw E.sz)}{xs:Y0 α}{S:Y0 Bl}(h:Items E rs xs S){i:Nat}{x:α}(hx:xs[i]? =some x):
  ∃(r:Raw E.sz) (A B Si:Y0 Bl),rs[i]? =some r/\E.R x r.1 Si/\S=A++(Si++B)/\ ∀(x':α) (r':Raw E.sz) (S':Y0 Bl),E.R x' r'.1 S'->Items E (rs.set i r') (xs.set i x') (A++(S'++B)):=by
 induction h generalizing i with
 |nil=>simp at hx
 |@cons r rs y xs S S' hy ht ih=>
  cases i with
  |zero=>
   simp at hx;subst hx
   exact⟨r,[],S',S,Z,hy,Z,λx' r' S'' h'=>(Items.cons (S:=S'') (r:=r') h' ht:Items E (r'::rs) (x'::xs) (S''++S'))⟩
  |succ i=>
   obtain⟨r1,A,B,Si,h1,h2,rfl,h3⟩:=ih (by simpa using hx)
   exact⟨r1,S++A,B,Si,by simpa using h1,h2,(j0 ..).symm,λx' r' S'' h'=>(Items.cons hy (h3 x' r' S'' h')).cast (j0 ..).symm⟩
theorem Items.wit{α:Type}(E:EncO α): ∀(xs:Y0 α) (k:Nat),∃rs S,Items E rs xs S/\(S.map (·.1)).Nodup/\ ∀b∈S,k<b.1
 | [],k=>⟨[],[], .nil,List.nodup_nil,λ_ h=>(nomatch h)⟩
 |x::xs,k=>by
  obtain⟨v1,S1,h1,n1,k1⟩:=E.wit x k
  obtain⟨K,hK,hm⟩:=gf S1 k
  obtain⟨rs,S2,h2,n2,k2⟩:=Items.wit E xs K
  exact⟨_,_, .cons (r:=E.of h1) h1 h2,an n1 n2 hm k2,λb hb=>by
   rcases List.mem_append.1 hb with hb|hb
   ·exact k1 b hb
   ·have:=k2 b hb;omega⟩
theorem Items.view{α:Type}{E:EncO α}{rs:Y0 (Raw E.sz)}{xs:Y0 α}{S:Y0 Bl}{c:Addr->Y1 Y2}(h:Items E rs xs S)(hc:SeenB c S): ∀(i:Nat) (x:α),xs[i]? =some x-> ∃r:Raw E.sz,rs[i]? =some r/\E.V c x r.1:=λi x hx=>by
 obtain⟨r,A,B,Si,h1,h2,rfl,_⟩:=h.at hx
 exact⟨r,h1,E.view h2 hc.right.left⟩
def SlO{α:Type}(e:TypeId)(E:EncO α)(v:Y2)(a:Y0 α)(S:Y0 Bl):Prop:= ∃rs S0 Si,Sl e E.raw v rs S0/\Items E rs a Si/\S=S0++Si
theorem SlO.nil{α:Type}{e:TypeId}{E:EncO α}:SlO e E (.slice none 0 0) [] []:=⟨[],[],[], .nil, .nil,Z⟩
theorem SlO.cast{α:Type}{e:TypeId}{E:EncO α}{v:Y2}{xs:Y0 α}{S S':Y0 Bl}(h:SlO e E v xs S)(e':S=S'):SlO e E v xs S':=e'▸h
theorem SlO.shp{α:Type}{e:TypeId}{E:EncO α}{v:Y2}{xs:Y0 α}{S:Y0 Bl}(h:SlO e E v xs S):Shp v xs.length:=by
 obtain⟨rs,S0,Si,h1,h2,_⟩:=h
 rw [<-h2.len];exact h1.shp
theorem SlO.wit{α:Type}(e:TypeId)(E:EncO α)(xs:Y0 α)(k:Nat): ∃v S,SlO e E v xs S/\(S.map (·.1)).Nodup/\ ∀x∈S,k<x.1:=by
 obtain⟨rs,Si,hi,ni,ki⟩:=Items.wit E xs k
 obtain⟨K,hK,hm⟩:=gf Si k
 obtain⟨v,S,h,hk⟩:=Sl.wit e E.raw rs K
 refine⟨v,S++Si,⟨rs,S,Si,h,hi,Z⟩, ?_,λb hb=> ?_⟩
 ·have:=an ni h.nod hm hk
  rw [List.map_append] at this ⊢
  exact(List.perm_append_comm.nodup_iff).1 this
 ·rcases List.mem_append.1 hb with hb|hb
  ·have:=hk b hb;omega
  ·exact ki b hb
theorem SlO.view{α:Type}{e:TypeId}{E:EncO α}{v:Y2}{xs:Y0 α}{S:Y0 Bl}{c:Addr->Y1 Y2}(h:SlO e E v xs S)(hc:SeenB c S):RdN E.r c v xs:=by
 obtain⟨rs,S0,Si,h1,h2,rfl⟩:=h
 have hl:=h2.len
 rcases h1.rdB hc.left with⟨rfl,hr⟩|⟨a,cap,rfl,h0,hcap,hr⟩
 ·subst hr
  exact .inl ⟨Z,List.eq_nil_of_length_eq_zero (by simpa using hl.symm)⟩
 ·refine .inr ⟨a,cap,by rw [hl],h0,by omega,λi x hx=> ?_⟩
  obtain⟨r,hr1,hr2⟩:=h2.view hc.right i x hx
  exact⟨r.1,hr2,λj u hj=>hr _ _ (E.raw.all_get hr1 j u hj)⟩
theorem RdN.map{α:Type}{E E':QT α}{c:Addr->Y1 Y2}{v:Y2}{xs:Y0 α}(h:RdN E c v xs)(hs:E.sz=E'.sz)(hr: ∀x vs,E.R c x vs->E'.R c x vs):RdN E' c v xs:=by
 rcases h with h|⟨a,cap,h1,h2,h3,h4⟩
 ·exact .inl h
 ·refine .inr ⟨a,cap,h1,h2,h3,λi x hx=> ?_⟩
  obtain⟨vs,h5,h6⟩:=h4 i x hx
  exact⟨vs,hr x vs h5,λj u hj=>by rw [<-hs];exact h6 j u hj⟩
theorem xZ{E:Env}{g:Y3}{ops:Array Oper}{K:(Nat->Y2)->Y0 Bl->Prop}{r:Y0 Oper}{T:Nat->Y2}{m:Nat}{Ls Ls':Y0 (Y0 Bl)}(he:Ls.flatten=Ls'.flatten)(h:lx E g ops K r T Ls'.flatten m):lx E g ops K r T Ls.flatten m:=he▸h
abbrev oSO{α:Type}(e:TypeId)(En:EncO α)(xs:Y0 α)(P:Y2->PO):PO:=λv O=> ∃s S O',SlO e En s xs S/\P s v O'/\O=S::O'
theorem Wb{α:Type}{e:TypeId}{En:EncO α}{xs:Y0 α}{P:Y2->PO}{R:Y0 Bl}(h: ∀s,Ac2 (P s) R):Ac2 (oSO e En xs P) R:=λhn k=>by
 obtain⟨K,hk,hR⟩:=UJ (R.map (·.1)) k
 obtain⟨s,S,hS,hSn,hSk⟩:=SlO.wit e En xs K
 obtain⟨K2,hk2,hS2⟩:=UJ (S.map (·.1)) K
 obtain⟨v,O,h1,h2,h3⟩:=h s hn K2
 refine⟨v,S::O,⟨s,S,O,hS,h1,Z⟩, ?_,λx hx=> ?_⟩
 ·rw [List.flatten_cons,List.map_append,List.nodup_append]
  refine⟨hSn,h2,λa ha b hb=> ?_⟩
  obtain⟨x,hx,rfl⟩:=List.mem_map.1 ha
  obtain⟨y,hy,rfl⟩:=List.mem_map.1 hb
  have e1:=hSk x hx
  have e2:=hS2 x.1 ha
  rcases h3 y hy with h4|h4
  ·have:=hR _ h4;omega
  ·omega
 ·rw [List.flatten_cons] at hx
  rcases List.mem_append.1 hx with hx|hx
  ·right;have:=hSk x hx;omega
  ·rcases h3 x hx with h4|h4
   ·exact .inl h4
   ·right;omega
theorem Tz{α:Type}{E:Enc α}(x:α):(Nm E).R x (E.f x) []:=⟨Z,Z⟩
theorem PV{α:Type}{e:TypeId}{E:Enc α}{v:Y2}{xs:Y0 α}{S:Y0 Bl}(h:Sl e E v xs S):(QK e E).R xs [v] S:=⟨v,Z,h⟩
theorem Nl{α β:Type}{A:EncO α}{B:EncO β}{x:α}{y:β}{v1 v2:Y0 Y2}{S1 S2:Y0 Bl}(h1:A.R x v1 S1)(h2:B.R y v2 S2):(KI A B).R (x,y) (v1++v2) (S1++S2):=⟨v1,v2,S1,S2,h1,h2,Z,Z⟩
theorem au{E:Env}{g:Y3}{ops:Array Oper}{K:(Nat->Y2)->Y0 Bl->Prop}{r:Y0 Oper}{T:Nat->Y2}{m:Nat}{Ls:Y0 (Y0 Bl)}{S:Y0 Bl}{p:Y0 Bl->Prop}(k:Nat)(hk:Ls[k]? =some S)(hp:p S)(h: ∀S',p S'->lx E g ops K r T (Ls.set k S').flatten m):lx E g ops K r T Ls.flatten m:=by
 have:=h S hp
 obtain⟨hlt,he⟩:=List.getElem?_eq_some_iff.1 hk
 rw [<-he,List.set_getElem_self hlt] at this
 exact this
theorem Fs{Ls:Y0 (Y0 Bl)}{is:Y0 Nat}{E:Env}{S:Y0 Bl}(k:Nat)(hS:Ls[k]? =some S)(hk:is.contains k=false){own:Nat->Y1 (TypeId×Array Y2)}{nw:Nat->Y3}(hn:(Ls.flatten.map (·.1)).Nodup)(hs:Sees E Ls.flatten 0 own nw):SeenB (UM (cellA E own nw) ((pickL Ls is).flatten.map (·.1))) S:=λx hx j u hj=>
 ZO (lv (Al hS (m:=0) (zl (Nat.zero_le _))) own nw hs x hx j u hj) (Xg hn hk (by rw [hS];exact hx))
theorem gh{P:Program}{c:Addr->Y1 Y2}{t e:TypeId}{i:TypeInfo}{a:Addr}(ht:P.underlying t=some (.pointer e))(hi:P.info? e=some i)(hs:decide (i.size=0)=false):ev P c (Op.equal t (.pointer (some a)) (.pointer (some a)))=some true:=by
 have h0:i.size≠0:=of_decide_eq_false hs
 show ev P c (Op.equalIn (9999+1) t (.pointer (some a)) (.pointer (some a)))=some true
 unfold Op.equalIn
 simp only [Be,BK ht,q0,Ie hi]
 rw [V8 h0]
 unfold sameAddr
 simp [Bv]
section
variable {P:Program} {c:Addr->Y1 Y2} {ρ:Operand->Y2} {d:Y1 Tmp} {t t' e:TypeId} {i:TypeInfo} {x y:Operand} {ty:TypeId} {pos:String} {af:Array Edge} {g:Y1 (Nat×Y3)} {a:Addr}
theorem te(hx:ρ x= .pointer (some a))(hy:ρ y= .pointer (some a))(ht:P.underlying t=some (.pointer e))(hi:P.info? e=some i)(hs:decide (i.size=0)=false):
  ev P c (execOp ρ ⟨d, .binOp .neq t x y t',ty,pos,af,g⟩)=some (.value (.bool false)):=by
 refine GV (s:=do eqGuard .neq t x y (ρ x) (ρ y);binOp .neq t (ρ x) (ρ y)) ?_
 rw [hx,hy]
 have h1:ev P c (eqGuard .neq t x y (.pointer (some a)) (.pointer (some a)))=some ():=by
  simp [eqGuard,Bv]
 simp only [Be,h1,q0,binOp,gh ht hi hs,Bv]
 rfl
end
def yk:Y2->Y3
 | .slice none _ _=>true
 |_=>false
theorem ss{v:Y2}{n:Nat}(h:Shp v n):(v= .slice none 0 0/\n=0)\/yk v=false:=by
 rcases h with h|⟨a,cap,rfl,_⟩
 ·exact .inl h
 ·exact .inr Z
section
variable {P:Program} {c:Addr->Y1 Y2} {ρ:Operand->Y2} {d:Y1 Tmp} {t t' e:TypeId} {x y:Operand} {ty:TypeId} {pos:String} {af:Array Edge} {g:Y1 (Nat×Y3)} {v:Y2} {n:Nat}
theorem kr(hx:ρ x=v)(hy:ρ y= .slice none 0 0)(ht:P.underlying t=some (.slice e))(hs:Shp v n)(hn:yk v=false):
  ev P c (execOp ρ ⟨d, .binOp .eql t x y t',ty,pos,af,g⟩)=some (.value (.bool false)):=by
 refine GV (s:=do eqGuard .eql t x y (ρ x) (ρ y);binOp .eql t (ρ x) (ρ y)) ?_
 rcases hs with⟨rfl,_⟩|⟨a,cap,rfl,_⟩
 ·cases hn
 rw [hx,hy]
 have h1:ev P c (eqGuard .eql t x y (.slice (some a) n cap) (.slice none 0 0))=some ():=by simp [eqGuard,Bv]
 have h2:ev P c (Op.equal t (.slice (some a) n cap) (.slice none 0 0))=some false:=by
  show ev P c (Op.equalIn (9999+1) t (.slice (some a) n cap) (.slice none 0 0))=some false
  unfold Op.equalIn
  simp only [Be,BK ht,q0,Bv]
 simp only [Be,h1,q0,binOp,h2,Bv]
end
theorem kG{t:Nat->Y2}{x:Operand}{v:Y2}(hx:rd t x=v)(h:v.cells= #[v]):(rd t x).cells= #[v]:=by rw [hx,h]
section
variable {P:Program} {c:Addr->Y1 Y2} {ρ:Operand->Y2} {d:Y1 Tmp} {ty:TypeId} {pos:String} {af:Array Edge} {g:Y1 (Nat×Y3)}
theorem AJ{x:Operand}{w r:Y2}{xt at':TypeId}{ok:Y3}(hx:ρ x=w)(h:ev P c (Instr.typeAssert w xt at' ok)=some r):ev P c (execOp ρ ⟨d, .typeAssert x xt at' ok,ty,pos,af,g⟩)=some (.value r):=
 GV (s:=Instr.typeAssert (ρ x) xt at' ok) (by rw [hx];exact h)
end
def FI(x:Int)(n:Nat):Int:=Int.fdiv x (2^(min n 64))
section
variable {P:Program} {c:Addr->Y1 Y2} {ρ:Operand->Y2} {d:Y1 Tmp} {t t':TypeId} {a b:Operand} {ty:TypeId} {pos:String} {af:Array Edge} {g:Y1 (Nat×Y3)}
end
theorem Sl.take0{α:Type}{e:TypeId}{E:Enc α}{v:Y2}{xs:Y0 α}{S:Y0 Bl}{hi:Nat}(h:Sl e E v xs S)(hh:hi<=xs.length):Sl e E (GX v 0 hi E.sz) ((xs.take hi).drop 0) S:=by
 rw [j8]
 rcases h with⟨a,rfl,rfl,rfl⟩|⟨b,cap,cs,rfl,hc,hsz,htk,rfl⟩
 ·obtain rfl:hi=0:=by simpa using hh
  refine .inl ⟨a, ?_,by simp,Z⟩
  unfold GX
  simp
 ·have hl:(xs.take hi).length=hi:=by rw [q8];omega
  refine .inr ⟨b,cap,cs, ?_,by rw [hl];omega,hsz, ?_,Z⟩
  ·unfold GX
   rw [hl]
   by_cases h0:cap=0
   ·simp [h0]
   ·simp only [V9 h0,Nat.zero_mul,Nat.sub_zero,Option.map_some]
    rw [Hj Z]
  ·rw [hl,E.all_take,<-htk,List.take_take,Nat.min_eq_left (Nat.mul_le_mul_right _ hh)]
theorem sC{E:Env}{g:Y3}{ops:Array Oper}{K:(Nat->Y2)->Y0 Bl->Prop}{r:Y0 Oper}{T:Nat->Y2}{m:Nat}{Ls:Y0 (Y0 Bl)}{S:Y0 Bl}(h:lx E g ops K r T (Ls++ [S]).flatten m):lx E g ops K r T (Ls.flatten++S) m:=by
 rw [List.flatten_append] at h
 simpa using h
theorem iS{P:Program}{c:Addr->Y1 Y2}{t e:TypeId}{n:Nat}{ii:TypeInfo}{k k':Nat}{sv x:Y2}{m:Nat}(j:Nat)(hx:x=elA sv k)(hu:P.underlying t=some (.array n e))(hi:P.info? e=some ii)(hk:k+j*ii.size=k')(hs:Shp sv m)(hm:0<m)(hj:j<n):
  ev P c (Instr.indexAt t x (.int .i64 (j:Int)))=some (elA sv k'):=by
 subst hx;subst hk
 rcases hs with⟨_,rfl⟩|⟨a,cap,rfl,h0,hle⟩
 ·omega
 ·have h0:=h0 (by omega)
  have h1:(0:Int)<=j/\(j:Int)<n:=by omega
  unfold Instr.indexAt
  simp only [asIntOf,Be,Bv,q0,BK hu,Instr.sureAddr,q4,elA,Hj h0]
  rw [V8 h1]
  simp only [Be,Ie hi,q0,Bv]
  rw [Hj (a:=⟨a.block,a.off+k,none⟩) Z,Nat.add_assoc]
end Go.Eng
