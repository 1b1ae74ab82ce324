import Derived.Test.YtjnanfkpdhmnpaaGreatDoorPt
namespace Go.Eng
open Go Go.RowKit
theorem XF{α:Type}{En:Enc α}{z:Array Y2}{z0:α}(hz:z.toList=En.f z0)(n:Nat):(Builtin.zeroCells z n).toList=En.all (List.replicate n z0):=by
 have hs:z.size=En.sz:=by rw [<-Array.length_toList,hz,En.len]
 induction n with
 |zero=>simp [Builtin.zeroCells,Enc.all]
 |succ n ih=>
  rw [List.replicate_succ',En.all_append,<-ih]
  unfold Builtin.zeroCells
  rw [Nat.succ_mul,hs]
  simp only [Array.toList_map,Array.toList_range]
  rw [List.range_add,List.map_append,List.map_map]
  congr 1
  have h1:En.all [z0]=z.toList:=by simp [Enc.all,hz]
  rw [h1]
  apply List.ext_getElem
  ·simp [hs]
  ·intro i hi hi'
   have hi2:i<z.size:=by simpa [hs] using hi
   simp only [zt,Function.comp,List.getElem_range]
   rw [Nat.mul_comm,Nat.mul_add_mod,Nat.mod_eq_of_lt (by omega)]
   simp [hi2]
section
variable {E:Env} {g:Y3} {ops:Array Oper} {K:(Nat->Y2)->Y0 Bl->Prop} {r:Y0 Oper} {T:Nat->Y2} {m:Nat} {d:Tmp} {ty:TypeId} {pos:String} {af:Array Edge}
theorem Ta{α:Type}{Ls:Y0 (Y0 Bl)}{t:TypeId}{x y:Operand}(e:TypeId)(En:Enc α)(z0:α)(c:Int){ii:TypeInfo}{z:Y2}{kl kc:IntKind}(hd:decide (d<E.n)=true)(hk:E.ks.find? (λx=>x.1==some d)=some (some d,false))(hm:decide (m<=Ls.flatten.length)=true)(hx:rd T x= .int kl c)(hy:rd T y= .int kc c)(hu:E.P.underlying t=some (.slice e))(hi:E.P.info? e=some ii)(hz:ii.zero=some z)(hsz:ii.size=En.sz)(hz0:z.cells.toList=En.f z0)(kk:Nat)(hkk:decide (kk*ii.bytes<=140737488355328/\kk<=140737488355328)=true)(hc:0<=c/\c<=(kk:Nat))(hcon: ∀args view v L U,E.con ⟨some d, .makeSlice t x y,ty,pos,af,none⟩ args view v L U↔p1 (λv=>v) e En (List.replicate c.toNat z0) v L U)(h: ∀sv S,Sl e En sv (List.replicate c.toNat z0) S->lx E g ops K r (upd T d sv) (Ls++ [S]).flatten m)(hT:decide (e<OBJ)=true:=by rfl):lx E g ops K (⟨some d, .makeSlice t x y,ty,pos,af,none⟩::r) T Ls.flatten m:=by
 obtain⟨n,rfl⟩: ∃n:Nat,c=(n:Int):=⟨c.toNat,by omega⟩
 simp only [q4] at h hcon
 have hzs:z.cells.size=ii.size:=by rw [<-Array.length_toList,hz0,En.len,hsz]
 obtain⟨hk1,hk2⟩:=zj hkk
 have hle:n<=kk:=by have:=hc.2;omega
 have hb:ii.bytes*n<=140737488355328:=by rw [Nat.mul_comm];exact j5 (Nat.mul_le_mul_right _ hle) hk1
 have hmax:n<=140737488355328:=j5 hle hk2
 refine vM (p1 (λv=>v) e En (List.replicate n z0)) hd hk Z hm (λown nw w hse hcell=> ?_) hcon (mm _ e En _) (λv L hp=> ?_)
 ·have hr:=run_make (P:=E.P) w t e ii z hu hi hz kl kc (n:Int) (n:Int) (by omega) (Int.le_refl _) (by rw [<-Int.natCast_mul];omega) (by omega)
  refine .inl ⟨.slice (some ⟨w.heap.size,0,none⟩) n n,w.alloc (.cells (madeCells z.cells (n*ii.size)) e),[(w.heap.size,e,madeCells z.cells (n*ii.size))],[], ?_, ?_,⟨.slice (some ⟨w.heap.size,0,none⟩) n n, .inr ⟨w.heap.size,n,_,by rw [zo],by rw [zo];exact Nat.le_refl _, ?_, ?_,Z⟩,Z,Z⟩⟩
  ·have:execOp (rd T) ⟨some d, .makeSlice t x y,ty,pos,af,none⟩=(do pure (Next.value (<-Instr.makeSlice t (rd T x) (rd T y))):Sem Next):=Z
   rw [this,hx,hy]
   simp only [Sem.run_bind,hr,Result.andThen_ok,q4]
   rfl
  ·exact⟨Z,Z,Z,by simp,λk hk _=>heap_alloc_old w _ k hk,λ_ h=>(nomatch h),λy hy=>by
    simp only [zi] at hy;subst hy
    exact⟨Nat.le_refl _, .of hT (heap_alloc_new w _)⟩,Nat.le_refl _⟩
  ·rw [size_madeCells,hsz]
  ·have:madeCells z.cells (n*ii.size)=Builtin.zeroCells z.cells n:=by unfold madeCells Builtin.zeroCells;rw [hzs]
   rw [this,XF hz0 n,zo]
   have hl:(En.all (List.replicate n z0)).length=n*En.sz:=by rw [En.all_len,zo]
   rw [<-hl];exact List.take_length
 ·obtain⟨s,hS,hv,_⟩:=hp
  have hv':v=s:=hv
  subst hv'
  have:=h v L hS
  rw [List.flatten_append] at this
  simpa using this
end
section
variable {E:Env} {g:Y3} {ops:Array Oper} {K:(Nat->Y2)->Y0 Bl->Prop} {r:Y0 Oper} {T:Nat->Y2} {l:Y0 Bl} {m:Nat} {d:Tmp} {ty:TypeId} {pos:String} {af:Array Edge}
end
theorem kq{P:Program}{c:Addr->Y1 Y2}{s:TypeId}{fs:Array Field}{f:Field}{k k':Nat}{sv x:Y2}{n j:Nat}(hx:x=elA sv k)(hu:P.underlying s=some (.struct fs))(hf:fs[j]? =some f){fi:TypeInfo}(hfi:P.info? f.type=some fi)(hf0:decide (fi.size=0)=false)(hk:k+f.offset=k')(hs:Shp sv n)(hn:0<n):
  ev P c (Instr.fieldAt s x j)=some (elA sv k'):=by
 subst hx;subst hk;exact gj hu hf hfi hf0 hs hn
theorem Shp.cells{v:Y2}{n:Nat}(h:Shp v n):v.cells= #[v]:=by
 rcases h with⟨rfl,_⟩|⟨_,_,rfl,_⟩<;>rfl
theorem Shp.one{v:Y2}{n:Nat}(h:Shp v n):v.oneCell'=true:=by
 rcases h with⟨rfl,_⟩|⟨_,_,rfl,_⟩<;>rfl
theorem Oz{P:Program}{t:Nat->Y2}{d:Y1 Tmp}{e:TypeId}{x:Operand}{ty:TypeId}{pos:String}{af:Array Edge}{g:Y1 (Nat×Y3)}{v:Y2}{n:Nat}(hx:rd t x=v)(h:Shp v n)(hT:decide (e<OBJ)=true:=by rfl):allocOf P t ⟨d, .box e x,ty,pos,af,g⟩=some (e, #[v]):=by
 show(if decide (e<OBJ)=true then some (e,(rd t x).cells)else none)=_
 rw [V8 hT,hx,h.cells]
theorem CR{t:Nat->Y2}{x:Operand}{v:Y2}{n:Nat}(hx:rd t x=v)(h:Shp v n):(rd t x).cells= #[v]:=by rw [hx,h.cells]
theorem AD: ∀x∈([]:Y0 Y2),x.oneCell'=true:=λ_ h=>(nomatch h)
theorem Ae{v:Y2}{l:Y0 Y2}(h:v.oneCell'=true)(hl: ∀x∈l,x.oneCell'=true): ∀x∈v::l,x.oneCell'=true:=λx hx=>by
 rcases List.mem_cons.1 hx with rfl|hx
 ·exact h
 ·exact hl x hx
theorem StOk.ofS{P:Program}{e:TypeId}{cs:Array Y2}{off:Nat}{vs:Y0 Y2}{i:TypeInfo}(hi:P.info? e=some i)(h:(vs.toArray.size==i.size&&decide (off+vs.toArray.size<=cs.size))=true)(h1: ∀x∈vs,x.oneCell'=true):StOk P e cs off vs.toArray:=by
 simp only [Bool.and_eq_true,beq_iff_eq,decide_eq_true_eq] at h
 exact⟨⟨i,hi,h.1⟩,h.2,λx hx=>h1 x (by simpa using hx)⟩
def iO(b:Nat->Y1 (Nat×Nat))(a:Array Y2):Y0 (Nat×Array Y2)->Y1 (Array Y2)
 | []=>some a
 |(i,v)::Sw=>
  match b i with
  |none=>none
  |some (off,size)=>
   if v.size≠size||off+v.size>a.size then none
   else iO b (v.zipIdx.foldl (λcs (c,j)=>cs.setIfInBounds (off+j) c) a) Sw
theorem Rz(place:Nat->Y1 (Nat×Nat)): ∀(l:Y0 (Nat×Y2)) (pc:Y0 (Nat×Array Y2)) (cells:Array Y2),l.map (λx=>(x.1,x.2.cells))=pc->Instr.fill place cells l=iO place cells pc
 | [],pc,cells,h=>by subst h;rfl
 |(i,v)::Sw,pc,cells,h=>by
  subst h
  simp only [List.map_cons,Instr.fill,iO]
  cases place i with
  |none=>rfl
  |some p=>
   obtain⟨off,size⟩:=p
   simp only
   split
   ·rfl
   ·exact Rz place Sw _ _ Z
theorem Qp{t:Nat->Y2}:(([]:Y0 (Nat×Operand)).map λx=>(x.1,rd t x.2)).map (λx=>(x.1,x.2.cells))=[]:=Z
theorem FJ{t:Nat->Y2}{i:Nat}{x:Operand}{c:Array Y2}{l:Y0 (Nat×Operand)}{pc:Y0 (Nat×Array Y2)}(h:(rd t x).cells=c)(hl:(l.map λx=>(x.1,rd t x.2)).map (λx=>(x.1,x.2.cells))=pc):
  (((i,x)::l).map λx=>(x.1,rd t x.2)).map (λx=>(x.1,x.2.cells))=(i,c)::pc:=by
 rw [List.map_cons,List.map_cons,hl,h]
theorem MM{P:Program}{c:Addr->Y1 Y2}{t:Nat->Y2}{d:Y1 Tmp}{T:TypeId}{l:Y0 (Nat×Operand)}{ty:TypeId}{pos:String}{af:Array Edge}{g:Y1 (Nat×Y3)}{fs:Array Field}{z:Y2}{cs:Array Y2}{pc:Y0 (Nat×Array Y2)}(hu:P.underlying T=some (.struct fs))(hz:(P.info? T).bind (·.zero)=some z)(hf:fs.toList.all (λf=>(P.info? f.type).isSome)=true)(hp:(l.map λx=>(x.1,rd t x.2)).map (λx=>(x.1,x.2.cells))=pc)(hc:iO ((fs.toList.map (Qo P))[·]?) z.cells pc=some cs):
  ev P c (execOp (rd t) ⟨d, .build T l.toArray,ty,pos,af,g⟩)=some (.value (.agg cs)):=
 Ar hu hz hf (by rw [Rz _ _ pc _ hp];exact hc)
def BI(x:Int):UInt8:=UInt8.ofNat (x%256).toNat
theorem gH(x:Int):IntKind.u8.wrap x=x%256:=by simp [IntKind.wrap,IntKind.signed,IntKind.bits]
theorem MQ(x:Int):Value.int .u8 (IntKind.u8.wrap x)= .int .u8 (((BI x).toNat:Nat):Int):=by
 rw [gH];unfold BI
 rw [UInt8.toNat_ofNat']
 congr 1;omega
theorem al(x:UInt8):BitVec.ofInt 8 ((x.toNat:Nat):Int)=x.toBitVec:=by
 apply BitVec.eq_of_toNat_eq
 rw [BitVec.toNat_ofInt]
 have:=x.toNat_lt
 show _=x.toNat
 simp;omega
theorem vm(b:BitVec 8)(x:UInt8)(h:x.toBitVec=b):Value.int .u8 (IntKind.u8.wrap (b.toNat:Int))= .int .u8 ((x.toNat:Nat):Int):=by
 subst h
 rw [gH]
 have:x.toBitVec.toNat=x.toNat:=Z
 rw [this]
 have:=x.toNat_lt
 congr 1;omega
theorem ZG(x y:UInt8):Value.int .u8 (IntKind.u8.wrap ((BitVec.ofInt 8 ((x.toNat:Nat):Int)&&&BitVec.ofInt 8 ((y.toNat:Nat):Int)).toNat:Int))= .int .u8 (((x&&&y).toNat:Nat):Int):=
 vm _ _ (by rw [al,al];rfl)
theorem bJ(x y:UInt8):Value.int .u8 (IntKind.u8.wrap ((BitVec.ofInt 8 ((x.toNat:Nat):Int)|||BitVec.ofInt 8 ((y.toNat:Nat):Int)).toNat:Int))= .int .u8 (((x|||y).toNat:Nat):Int):=
 vm _ _ (by rw [al,al];rfl)
section
variable {P:Program} {c:Addr->Y1 Y2} {ρ:Operand->Y2} {d:Y1 Tmp} {t t':TypeId} {a b:Operand} {ty:TypeId} {pos:String} {af:Array Edge} {g:Y1 (Nat×Y3)}
end
theorem So(x:UInt8):Value.int .i64 (IntKind.i64.wrap ((x.toNat:Nat):Int))= .int .i64 ((x.toNat:Nat):Int):=RU Z (by omega) (by have:=x.toNat_lt;omega)
theorem Sub.pickE{Ls Ls0:Y0 (Y0 Bl)}(_:True=True)(is:Y0 Nat)(hok:Nq is Ls.length=true)(h2:Ls.flatten=Ls0.flatten:=by simp):Sub (pickL Ls is).flatten Ls0.flatten:=h2▸W5 Ls is hok
structure QT(α:Type) where
 R:(Addr->Y1 Y2)->α->Y0 Y2->Prop
 sz:Nat
 pos:0<sz
 mono: ∀{c c':Addr->Y1 Y2} {x vs},(∀a v,c a=some v->c' a=some v)->R c x vs->R c' x vs
def RdN{α:Type}(E:QT α)(c:Addr->Y1 Y2)(v:Y2)(b:Y0 α):Prop:=
 (v= .slice none 0 0/\b=[])\/ ∃a cap,v= .slice (some a) b.length cap/\(0<cap->a.spot=none)/\b.length<=cap/\
  ∀i x,b[i]? =some x-> ∃vs,E.R c x vs/\ ∀j u,vs[j]? =some u->c ⟨a.block,a.off+(i*E.sz+j),none⟩=some u
theorem RdN.mono{α:Type}{E:QT α}{c c':Addr->Y1 Y2}(hc: ∀a v,c a=some v->c' a=some v){v:Y2}{xs:Y0 α}(h:RdN E c v xs):RdN E c' v xs:=by
 rcases h with h|⟨a,cap,h1,h2,h3,h4⟩
 ·exact .inl h
 ·refine .inr ⟨a,cap,h1,h2,h3,λi x hx=> ?_⟩
  obtain⟨vs,h5,h6⟩:=h4 i x hx
  exact⟨vs,E.mono hc h5,λj u hj=>hc _ _ (h6 j u hj)⟩
theorem RdN.shp{α:Type}{E:QT α}{c:Addr->Y1 Y2}{v:Y2}{xs:Y0 α}(h:RdN E c v xs):Shp v xs.length:=by
 rcases h with⟨rfl,rfl⟩|⟨a,cap,rfl,h0,h1,_⟩
 ·exact .inl ⟨Z,Z⟩
 ·exact .inr ⟨_,cap,Z,h0,h1⟩
abbrev oRN{α:Type}(En:QT α)(ro:Addr->Y1 Y2)(xs:Y0 α)(P:Y2->PO):PO:=λv O=> ∃s,RdN En ro s xs/\P s v O
def At(c:Addr->Y1 Y2)(b:Y2)(k:Nat)(d:Y0 Y2):Prop:= ∃a n cap,b= .slice (some a) n cap/\a.spot=none/\ ∀j u,d[j]? =some u->c ⟨a.block,a.off+(k+j),none⟩=some u
theorem At.mono{c c':Addr->Y1 Y2}(hc: ∀a v,c a=some v->c' a=some v){sv:Y2}{k:Nat}{vs:Y0 Y2}(h:At c sv k vs):At c' sv k vs:=by
 obtain⟨a,n,cap,h1,h2,h3⟩:=h
 exact⟨a,n,cap,h1,h2,λj u hj=>hc _ _ (h3 j u hj)⟩
theorem RdN.at{α:Type}{E:QT α}{c:Addr->Y1 Y2}{v:Y2}{xs:Y0 α}(h:RdN E c v xs){i:Nat}{x:α}(hx:xs[i]? =some x): ∃vs,E.R c x vs/\At c v (i*E.sz) vs:=by
 rcases h with⟨_,rfl⟩|⟨a,cap,rfl,h0,h1,h4⟩
 ·simp at hx
 ·obtain⟨vs,h5,h6⟩:=h4 i x hx
  have hi:=(List.getElem?_eq_some_iff.1 hx).1
  exact⟨vs,h5,a,_,cap,Z,h0 (by omega),h6⟩
section
variable {E:Env} {g:Y3} {ops:Array Oper} {K:(Nat->Y2)->Y0 Bl->Prop} {r:Y0 Oper} {T:Nat->Y2} {l:Y0 Bl} {m:Nat} {d:Tmp} {ty:TypeId} {pos:String} {af:Array Edge}
theorem Mk(v:Y2){sv:Y2}{vs:Y0 Y2}(k o:Nat){e:TypeId}{p:Operand}(hd:decide (d<E.n)=true)(hp:rd T p=elA sv (k+o))(hr: ∀own nw,Sees E l m own nw->At (cellA E own nw) sv k vs)(hv:Iu E.P e vs.toArray o=some v)(h:lx E g ops K r (upd T d v) l m)(hpl:JA E.ks ⟨some d, .load e p,ty,pos,af,none⟩:=by rfl):lx E g ops K (⟨some d, .load e p,ty,pos,af,none⟩::r) T l m:=λhn own nw hse=>by
 obtain⟨a,n,cap,rfl,h0,h3⟩:=hr own nw hse
 have hp':rd T p= .pointer (some ⟨a.block,a.off+k+o,none⟩):=by
  rw [hp];show V7 (some (a.add (k+o)))=_;rw [Hj h0,Nat.add_assoc]
 have hev:ev E.P (cellA E own nw) (loadVar e ⟨a.block,a.off+k+o,none⟩)=some v:=bp (b:=a.block) (off:=a.off+k) (λj u hj=>by have:=h3 j u hj;rw [<-Nat.add_assoc] at this;exact this) hv
 exact Wm Z (Of hpl Z (by decide)) hd v (by
  show(match ev E.P (cellA E own nw) (execOp (rd T) ⟨some d, .load e p,ty,pos,af,none⟩)with|some (.value v)=>some v|_=>none)=some v
  rw [Vj hp' hev]) (h hn own nw hse)
end
section
variable {P:Program} {c:Addr->Y1 Y2} {ρ:Operand->Y2} {d:Y1 Tmp} {t t':TypeId} {a b:Operand} {ty:TypeId} {pos:String} {af:Array Edge} {g:Y1 (Nat×Y3)} {x y:Int}
end
end Go.Eng
namespace Go.Eng
open Go Go.RowKit
section
variable {P:Program} {c:Addr->Y1 Y2} {ρ:Operand->Y2} {d:Y1 Tmp} {t t':TypeId} {a b:Operand} {ty:TypeId} {pos:String} {af:Array Edge} {g:Y1 (Nat×Y3)}
end
theorem kS(x:Int):IntKind.u32.wrap x=x%4294967296:=by simp [IntKind.wrap,IntKind.signed,IntKind.bits]
def LV(x:Int):UInt32:=UInt32.ofNat (x%4294967296).toNat
theorem eV(x:Int):Value.int .u32 (IntKind.u32.wrap x)= .int .u32 (((LV x).toNat:Nat):Int):=by
 rw [kS];unfold LV
 rw [UInt32.toNat_ofNat']
 congr 1;omega
section
variable {P:Program} {c:Addr->Y1 Y2} {ρ:Operand->Y2} {d:Y1 Tmp} {t t':TypeId} {a b:Operand} {ty:TypeId} {pos:String} {af:Array Edge} {g:Y1 (Nat×Y3)}
end
abbrev W6:=@Sub.pickE
abbrev W9:=@RdN.shp
abbrev V1:=@RdN.mono
end Go.Eng
