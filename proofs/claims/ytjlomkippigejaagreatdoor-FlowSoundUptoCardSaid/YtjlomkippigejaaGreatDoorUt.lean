import Derived.Test.YtjlomkippigejaaGreatDoorPt
namespace Go.Eng
open Go Go.RowKit
theorem Xg{α:Type}{En:Enc α}{z:Array Value}{z0:α}(hz:z.toList=En.f z0)(n:Nat):(Builtin.zeroCells z n).toList=En.all (List.replicate n z0):=by
 have hs:z.size=En.sz:=by rw [<-Array.length_toList,hz,En.len]
 induction n with
 |zero=>simp [Builtin.zeroCells,Enc.all]
 |succ n ih=>
  rw [List.replicate_succ',En.all_append,<-ih]
  unfold Builtin.zeroCells
  rw [Nat.succ_mul,hs]
  simp only [Array.toList_map,Array.toList_range]
  rw [List.range_add,List.map_append,List.map_map]
  congr 1
  have h1:En.all [z0]=z.toList:=by simp [Enc.all,hz]
  rw [h1]
  apply List.ext_getElem
  ·simp [hs]
  ·intro i hi hi'
   have hi2:i<z.size:=by simpa [hs] using hi
   simp only [zm,Function.comp,List.getElem_range]
   rw [Nat.mul_comm,Nat.mul_add_mod,Nat.mod_eq_of_lt (by omega)]
   simp [hi2]
section
variable {E:Env} {g:Bool} {ops:Array Oper} {K:(Nat->Value)->List Bl->Prop} {r:List Oper} {T:Nat->Value} {m:Nat} {d:Tmp} {ty:TypeId} {pos:String} {af:Array Edge}
theorem Tx{α:Type}{Ls:List (List Bl)}{t:TypeId}{x y:Operand}(e:TypeId)(En:Enc α)(z0:α)(c:Int){ii:TypeInfo}{z:Value}{kl kc:IntKind}(hd:decide (d<E.n)=true)(hk:E.ks.find? (λx=>x.1==some d)=some (some d,false))(hm:decide (m<=Ls.flatten.length)=true)
  (hx:rd T x= .int kl c) (hy:rd T y= .int kc c) (hu:E.P.underlying t=some (.slice e)) (hi:E.P.info? e=some ii) (hz:ii.zero=some z) (hsz:ii.size=En.sz) (hz0:z.cells.toList=En.f z0)
  (kk:Nat) (hkk:decide (kk*ii.bytes<=140737488355328/\kk<=140737488355328)=true) (hc:0<=c/\c<=(kk:Nat))
  (hcon: ∀args view v L U,E.con ⟨some d, .makeSlice t x y,ty,pos,af,none⟩ args view v L U↔p1 (λv=>v) e En (List.replicate c.toNat z0) v L U)
  (h: ∀sv S,Sl e En sv (List.replicate c.toNat z0) S->lx E g ops K r (upd T d sv) (Ls++ [S]).flatten m) (hT:decide (e<OBJ)=true:=by rfl):lx E g ops K (⟨some d, .makeSlice t x y,ty,pos,af,none⟩::r) T Ls.flatten m:=by
 obtain⟨n,rfl⟩: ∃n:Nat,c=(n:Int):=⟨c.toNat,by omega⟩
 simp only [q3] at h hcon
 have hzs:z.cells.size=ii.size:=by rw [<-Array.length_toList,hz0,En.len,hsz]
 obtain⟨hk1,hk2⟩:=zd hkk
 have hle:n<=kk:=by have:=hc.2;omega
 have hb:ii.bytes*n<=140737488355328:=by rw [Nat.mul_comm];exact zx (Nat.mul_le_mul_right _ hle) hk1
 have hmax:n<=140737488355328:=zx hle hk2
 refine uw (p1 (λv=>v) e En (List.replicate n z0)) hd hk Z hm (λown nw w hse hcell=> ?_) hcon (kX _ e En _) (λv L hp=> ?_)
 ·have hr:=run_make (P:=E.P) w t e ii z hu hi hz kl kc (n:Int) (n:Int) (by omega) (Int.le_refl _) (by rw [<-Int.natCast_mul];omega) (by omega)
  refine .inl ⟨.slice (some ⟨w.heap.size,0,none⟩) n n,w.alloc (.cells (madeCells z.cells (n*ii.size)) e),[(w.heap.size,e,madeCells z.cells (n*ii.size))],[], ?_, ?_,⟨.slice (some ⟨w.heap.size,0,none⟩) n n, .inr ⟨w.heap.size,n,_,by rw [zi],by rw [zi];exact Nat.le_refl _, ?_, ?_,Z⟩,Z,Z⟩⟩
  ·have:execOp (rd T) ⟨some d, .makeSlice t x y,ty,pos,af,none⟩=(do pure (Next.value (<-Instr.makeSlice t (rd T x) (rd T y))):Sem Next):=Z
   rw [this,hx,hy]
   simp only [Sem.run_bind,hr,Result.andThen_ok,q3]
   rfl
  ·exact⟨Z,Z,Z,by simp,λk hk _=>heap_alloc_old w _ k hk,λ_ h=>(nomatch h),λy hy=>by
    simp only [zc] at hy;subst hy
    exact⟨Nat.le_refl _, .of hT (heap_alloc_new w _)⟩,Nat.le_refl _⟩
  ·rw [size_madeCells,hsz]
  ·have:madeCells z.cells (n*ii.size)=Builtin.zeroCells z.cells n:=by unfold madeCells Builtin.zeroCells;rw [hzs]
   rw [this,Xg hz0 n,zi]
   have hl:(En.all (List.replicate n z0)).length=n*En.sz:=by rw [En.all_len,zi]
   rw [<-hl];exact List.take_length
 ·obtain⟨s,hS,hv,_⟩:=hp
  have hv':v=s:=hv
  subst hv'
  have:=h v L hS
  rw [List.flatten_append] at this
  simpa using this
end
section
variable {E:Env} {g:Bool} {ops:Array Oper} {K:(Nat->Value)->List Bl->Prop} {r:List Oper} {T:Nat->Value} {l:List Bl} {m:Nat} {d:Tmp} {ty:TypeId} {pos:String} {af:Array Edge}
end
theorem jr{P:Program}{c:Addr->Option Value}{s:TypeId}{fs:Array Field}{f:Field}{k k':Nat}{sv x:Value}{n j:Nat}(hx:x=elA sv k)(hu:P.underlying s=some (.struct fs))(hf:fs[j]? =some f){fi:TypeInfo}(hfi:P.info? f.type=some fi)(hf0:decide (fi.size=0)=false)(hk:k+f.offset=k')(hs:Shp sv n)(hn:0<n):
  ev P c (Instr.fieldAt s x j)=some (elA sv k'):=by
 subst hx;subst hk;exact fD hu hf hfi hf0 hs hn
theorem Shp.cells{v:Value}{n:Nat}(h:Shp v n):v.cells= #[v]:=by
 rcases h with⟨rfl,_⟩|⟨_,_,rfl,_⟩<;>rfl
theorem Shp.one{v:Value}{n:Nat}(h:Shp v n):v.oneCell'=true:=by
 rcases h with⟨rfl,_⟩|⟨_,_,rfl,_⟩<;>rfl
theorem Od{P:Program}{t:Nat->Value}{d:Option Tmp}{e:TypeId}{x:Operand}{ty:TypeId}{pos:String}{af:Array Edge}{g:Option (Nat×Bool)}{v:Value}{n:Nat}(hx:rd t x=v)(h:Shp v n)(hT:decide (e<OBJ)=true:=by rfl):allocOf P t ⟨d, .box e x,ty,pos,af,g⟩=some (e, #[v]):=by
 show(if decide (e<OBJ)=true then some (e,(rd t x).cells)else none)=_
 rw [if_pos hT,hx,h.cells]
theorem Gs{t:Nat->Value}{x:Operand}{v:Value}{n:Nat}(hx:rd t x=v)(h:Shp v n):(rd t x).cells= #[v]:=by rw [hx,h.cells]
theorem BA: ∀x∈([]:List Value),x.oneCell'=true:=λ_ h=>(nomatch h)
theorem Ae{v:Value}{l:List Value}(h:v.oneCell'=true)(hl: ∀x∈l,x.oneCell'=true): ∀x∈v::l,x.oneCell'=true:=λx hx=>by
 rcases List.mem_cons.1 hx with rfl|hx
 ·exact h
 ·exact hl x hx
theorem StOk.ofS{P:Program}{e:TypeId}{cs:Array Value}{off:Nat}{vs:List Value}{i:TypeInfo}(hi:P.info? e=some i)
  (h:(vs.toArray.size==i.size&&decide (off+vs.toArray.size<=cs.size))=true) (h1: ∀x∈vs,x.oneCell'=true):StOk P e cs off vs.toArray:=by
 simp only [Bool.and_eq_true,beq_iff_eq,decide_eq_true_eq] at h
 exact⟨⟨i,hi,h.1⟩,h.2,λx hx=>h1 x (by simpa using hx)⟩
def gQ(b:Nat->Option (Nat×Nat))(a:Array Value):List (Nat×Array Value)->Option (Array Value)
 | []=>some a
 |(i,v)::Vp=>
  match b i with
  |none=>none
  |some (off,size)=>
   if v.size≠size||off+v.size>a.size then none
   else gQ b (v.zipIdx.foldl (λcs (c,j)=>cs.setIfInBounds (off+j) c) a) Vp
theorem QU(place:Nat->Option (Nat×Nat)): ∀(l:List (Nat×Value)) (pc:List (Nat×Array Value)) (cells:Array Value),l.map (λx=>(x.1,x.2.cells))=pc->Instr.fill place cells l=gQ place cells pc
 | [],pc,cells,h=>by subst h;rfl
 |(i,v)::Vp,pc,cells,h=>by
  subst h
  simp only [List.map_cons,Instr.fill,gQ]
  cases place i with
  |none=>rfl
  |some p=>
   obtain⟨off,size⟩:=p
   simp only
   split
   ·rfl
   ·exact QU place Vp _ _ Z
theorem QI{t:Nat->Value}:(([]:List (Nat×Operand)).map λx=>(x.1,rd t x.2)).map (λx=>(x.1,x.2.cells))=[]:=Z
theorem Jo{t:Nat->Value}{i:Nat}{x:Operand}{c:Array Value}{l:List (Nat×Operand)}{pc:List (Nat×Array Value)}(h:(rd t x).cells=c)(hl:(l.map λx=>(x.1,rd t x.2)).map (λx=>(x.1,x.2.cells))=pc):
  (((i,x)::l).map λx=>(x.1,rd t x.2)).map (λx=>(x.1,x.2.cells))=(i,c)::pc:=by
 rw [List.map_cons,List.map_cons,hl,h]
theorem NW{P:Program}{c:Addr->Option Value}{t:Nat->Value}{d:Option Tmp}{T:TypeId}{l:List (Nat×Operand)}{ty:TypeId}{pos:String}{af:Array Edge}{g:Option (Nat×Bool)}{fs:Array Field}{z:Value}{cs:Array Value}{pc:List (Nat×Array Value)}
  (hu:P.underlying T=some (.struct fs)) (hz:(P.info? T).bind (·.zero)=some z) (hf:fs.toList.all (λf=>(P.info? f.type).isSome)=true)
  (hp:(l.map λx=>(x.1,rd t x.2)).map (λx=>(x.1,x.2.cells))=pc) (hc:gQ ((fs.toList.map (PQ P))[·]?) z.cells pc=some cs):
  ev P c (execOp (rd t) ⟨d, .build T l.toArray,ty,pos,af,g⟩)=some (.value (.agg cs)):=
 Ar hu hz hf (by rw [QU _ _ pc _ hp];exact hc)
def Bv(x:Int):UInt8:=UInt8.ofNat (x%256).toNat
theorem fV(x:Int):IntKind.u8.wrap x=x%256:=by simp [IntKind.wrap,IntKind.signed,IntKind.bits]
theorem Mx(x:Int):Value.int .u8 (IntKind.u8.wrap x)= .int .u8 (((Bv x).toNat:Nat):Int):=by
 rw [fV];unfold Bv
 rw [UInt8.toNat_ofNat']
 congr 1;omega
theorem ZC(x:UInt8):BitVec.ofInt 8 ((x.toNat:Nat):Int)=x.toBitVec:=by
 apply BitVec.eq_of_toNat_eq
 rw [BitVec.toNat_ofInt]
 have:=x.toNat_lt
 show _=x.toNat
 simp;omega
theorem ue(b:BitVec 8)(x:UInt8)(h:x.toBitVec=b):Value.int .u8 (IntKind.u8.wrap (b.toNat:Int))= .int .u8 ((x.toNat:Nat):Int):=by
 subst h
 rw [fV]
 have:x.toBitVec.toNat=x.toNat:=Z
 rw [this]
 have:=x.toNat_lt
 congr 1;omega
theorem Zn(x y:UInt8):Value.int .u8 (IntKind.u8.wrap ((BitVec.ofInt 8 ((x.toNat:Nat):Int)&&&BitVec.ofInt 8 ((y.toNat:Nat):Int)).toNat:Int))= .int .u8 (((x&&&y).toNat:Nat):Int):=
 ue _ _ (by rw [ZC,ZC];rfl)
theorem bj(x y:UInt8):Value.int .u8 (IntKind.u8.wrap ((BitVec.ofInt 8 ((x.toNat:Nat):Int)|||BitVec.ofInt 8 ((y.toNat:Nat):Int)).toNat:Int))= .int .u8 (((x|||y).toNat:Nat):Int):=
 ue _ _ (by rw [ZC,ZC];rfl)
section
variable {P:Program} {c:Addr->Option Value} {ρ:Operand->Value} {d:Option Tmp} {t t':TypeId} {a b:Operand} {ty:TypeId} {pos:String} {af:Array Edge} {g:Option (Nat×Bool)}
end
theorem RK(x:UInt8):Value.int .i64 (IntKind.i64.wrap ((x.toNat:Nat):Int))= .int .i64 ((x.toNat:Nat):Int):=Rv Z (by omega) (by have:=x.toNat_lt;omega)
theorem Sub.pickE{Ls Ls0:List (List Bl)}(_:True=True)(is:List Nat)(hok:MU is Ls.length=true)(h2:Ls.flatten=Ls0.flatten:=by simp):Sub (pickL Ls is).flatten Ls0.flatten:=h2▸Sub.pick Ls is hok
structure Sn(α:Type) where
 R:(Addr->Option Value)->α->List Value->Prop
 sz:Nat
 pos:0<sz
 mono: ∀{c c':Addr->Option Value} {x vs},(∀a v,c a=some v->c' a=some v)->R c x vs->R c' x vs
def RdN{α:Type}(E:Sn α)(c:Addr->Option Value)(v:Value)(b:List α):Prop:=
 (v= .slice none 0 0/\b=[])\/ ∃a cap,v= .slice (some a) b.length cap/\(0<cap->a.spot=none)/\b.length<=cap/\
  ∀i x,b[i]? =some x-> ∃vs,E.R c x vs/\ ∀j u,vs[j]? =some u->c ⟨a.block,a.off+(i*E.sz+j),none⟩=some u
theorem RdN.mono{α:Type}{E:Sn α}{c c':Addr->Option Value}(hc: ∀a v,c a=some v->c' a=some v){v:Value}{xs:List α}(h:RdN E c v xs):RdN E c' v xs:=by
 rcases h with h|⟨a,cap,h1,h2,h3,h4⟩
 ·exact .inl h
 ·refine .inr ⟨a,cap,h1,h2,h3,λi x hx=> ?_⟩
  obtain⟨vs,h5,h6⟩:=h4 i x hx
  exact⟨vs,E.mono hc h5,λj u hj=>hc _ _ (h6 j u hj)⟩
theorem RdN.shp{α:Type}{E:Sn α}{c:Addr->Option Value}{v:Value}{xs:List α}(h:RdN E c v xs):Shp v xs.length:=by
 rcases h with⟨rfl,rfl⟩|⟨a,cap,rfl,h0,h1,_⟩
 ·exact .inl ⟨Z,Z⟩
 ·exact .inr ⟨_,cap,Z,h0,h1⟩
def At(c:Addr->Option Value)(b:Value)(k:Nat)(d:List Value):Prop:= ∃a n cap,b= .slice (some a) n cap/\a.spot=none/\ ∀j u,d[j]? =some u->c ⟨a.block,a.off+(k+j),none⟩=some u
theorem At.mono{c c':Addr->Option Value}(hc: ∀a v,c a=some v->c' a=some v){sv:Value}{k:Nat}{vs:List Value}(h:At c sv k vs):At c' sv k vs:=by
 obtain⟨a,n,cap,h1,h2,h3⟩:=h
 exact⟨a,n,cap,h1,h2,λj u hj=>hc _ _ (h3 j u hj)⟩
theorem RdN.at{α:Type}{E:Sn α}{c:Addr->Option Value}{v:Value}{xs:List α}(h:RdN E c v xs){i:Nat}{x:α}(hx:xs[i]? =some x): ∃vs,E.R c x vs/\At c v (i*E.sz) vs:=by
 rcases h with⟨_,rfl⟩|⟨a,cap,rfl,h0,h1,h4⟩
 ·simp at hx
 ·obtain⟨vs,h5,h6⟩:=h4 i x hx
  have hi:=(List.getElem?_eq_some_iff.1 hx).1
  exact⟨vs,h5,a,_,cap,Z,h0 (by omega),h6⟩
section
variable {E:Env} {g:Bool} {ops:Array Oper} {K:(Nat->Value)->List Bl->Prop} {r:List Oper} {T:Nat->Value} {l:List Bl} {m:Nat} {d:Tmp} {ty:TypeId} {pos:String} {af:Array Edge}
theorem Oe(v:Value){sv:Value}{vs:List Value}(k o:Nat){e:TypeId}{p:Operand}(hd:decide (d<E.n)=true)(hp:rd T p=elA sv (k+o))(hr: ∀own nw,Sees E l m own nw->At (cellA E own nw) sv k vs)
  (hv:Ht E.P e vs.toArray o=some v) (h:lx E g ops K r (upd T d v) l m) (hpl:Jj E.ks ⟨some d, .load e p,ty,pos,af,none⟩:=by rfl):lx E g ops K (⟨some d, .load e p,ty,pos,af,none⟩::r) T l m:=λhn own nw hse=>by
 obtain⟨a,n,cap,rfl,h0,h3⟩:=hr own nw hse
 have hp':rd T p= .pointer (some ⟨a.block,a.off+k+o,none⟩):=by
  rw [hp];show Value.pointer (some (a.add (k+o)))=_;rw [GR h0,Nat.add_assoc]
 have hev:ev E.P (cellA E own nw) (loadVar e ⟨a.block,a.off+k+o,none⟩)=some v:=aK (b:=a.block) (off:=a.off+k) (λj u hj=>by have:=h3 j u hj;rw [<-Nat.add_assoc] at this;exact this) hv
 exact VN Z (NJ hpl Z (by decide)) hd v (by
  show(match ev E.P (cellA E own nw) (execOp (rd T) ⟨some d, .load e p,ty,pos,af,none⟩)with|some (.value v)=>some v|_=>none)=some v
  rw [UQ hp' hev]) (h hn own nw hse)
end
section
variable {P:Program} {c:Addr->Option Value} {ρ:Operand->Value} {d:Option Tmp} {t t':TypeId} {a b:Operand} {ty:TypeId} {pos:String} {af:Array Edge} {g:Option (Nat×Bool)} {x y:Int}
end
end Go.Eng
namespace Go.Eng
open Go Go.RowKit
section
variable {P:Program} {c:Addr->Option Value} {ρ:Operand->Value} {d:Option Tmp} {t t':TypeId} {a b:Operand} {ty:TypeId} {pos:String} {af:Array Edge} {g:Option (Nat×Bool)}
end
theorem jJ(x:Int):IntKind.u32.wrap x=x%4294967296:=by simp [IntKind.wrap,IntKind.signed,IntKind.bits]
def Ln(x:Int):UInt32:=UInt32.ofNat (x%4294967296).toNat
theorem ek(x:Int):Value.int .u32 (IntKind.u32.wrap x)= .int .u32 (((Ln x).toNat:Nat):Int):=by
 rw [jJ];unfold Ln
 rw [UInt32.toNat_ofNat']
 congr 1;omega
section
variable {P:Program} {c:Addr->Option Value} {ρ:Operand->Value} {d:Option Tmp} {t t':TypeId} {a b:Operand} {ty:TypeId} {pos:String} {af:Array Edge} {g:Option (Nat×Bool)}
end
end Go.Eng
