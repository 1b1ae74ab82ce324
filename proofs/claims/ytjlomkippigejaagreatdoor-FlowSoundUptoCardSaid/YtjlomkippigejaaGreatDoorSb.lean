import Derived.Test.YtjlomkippigejaaGreatDoorSg
import Derived.Laws.IdiomStrings
namespace Go.Eng
open Go Go.RowKit
def Blk(c:Addr->Option Value)(b:Nat)(a:List Value):Prop:= ∀j u,a[j]? =some u->c ⟨b,j,none⟩=some u
section
variable {E:Env} {g:Bool} {ops:Array Oper} {K:(Nat->Value)->List Bl->Prop} {r:List Oper} {T:Nat->Value} {l:List Bl} {m:Nat} {d:Tmp} {ty:TypeId} {pos:String} {af:Array Edge}
abbrev Sees.view{own:Nat->Option (TypeId×Array Value)}{nw:Nat->Bool}(_:Sees E l m own nw):Addr->Option Value:=cellA E own nw
theorem CN{b:Nat}{t:TypeId}{cs:List Value}(i:Nat)(hl:l[i]? =some (b,t,cs.toArray))(hm:decide (m<=i)=true): ∀own nw,Sees E l m own nw->Blk (cellA E own nw) b cs:=λown nw hs j u hj=>by
 obtain⟨h1,h2⟩:=hs.has i _ _ hl
 rw [Mw h1 (by rw [h2];have:=zd hm;simp;omega)]
 simpa using hj
theorem AT{b:Nat}{vs:List Value}(h:Blk E.ro b vs): ∀own nw,Sees E l m own nw->Blk (cellA E own nw) b vs:=λ_ _ hs j u hj=>hs.ro_cell _ _ (h j u hj)
theorem UQ{P:Program}{c:Addr->Option Value}{ρ:Operand->Value}{dd:Option Tmp}{e:TypeId}{p:Operand}{gd:Option (Nat×Bool)}{a:Addr}{v:Value}(hp:ρ p= .pointer (some a))(h:ev P c (loadVar e a)=some v):ev P c (execOp ρ ⟨dd, .load e p,ty,pos,af,gd⟩)=some (.value v):=by
 show ev P c (do pure (Next.value (<-Instr.loadAt e (ρ p))))=_
 rw [hp,AS]
 show(ev P c (loadVar e a)).bind _=_
 rw [h];rfl
theorem HO(v:Value){vs:List Value}{b o:Nat}{e:TypeId}{p:Operand}(hd:decide (d<E.n)=true)(hp:rd T p= .pointer (some ⟨b,o,none⟩))(hb: ∀own nw,Sees E l m own nw->Blk (cellA E own nw) b vs)
  (hv:Ht E.P e vs.toArray o=some v) (h:lx E g ops K r (upd T d v) l m) (hpl:Jj E.ks ⟨some d, .load e p,ty,pos,af,none⟩:=by rfl):lx E g ops K (⟨some d, .load e p,ty,pos,af,none⟩::r) T l m:=
 λhn own nw hs=>VN Z (NJ hpl Z (by decide)) hd v (by
  unfold loadOf
  have h1:ev E.P (cellA E own nw) (execOp (rd T) ⟨some d, .load e p,ty,pos,af,none⟩)=some (.value v):=
   UQ hp (by have:=aK (P:=E.P) (c:=cellA E own nw) (b:=b) (off:=0) (o:=o) (ty:=e) (λj u hj=>by rw [q6];exact hb own nw hs j u hj) hv;rwa [q6] at this)
  show(match ev E.P (cellA E own nw) (execOp (rd T) ⟨some d, .load e p,ty,pos,af,none⟩)with|some (.value v)=>some v|_=>none)=some v
  rw [h1]) (h hn own nw hs)
theorem Ry{α:Type}(v:Value){En:Enc α}{sv:Value}{xs:List α}(x:α)(i o:Nat){e:TypeId}{p:Operand}(hd:decide (d<E.n)=true)(hp:rd T p=elA sv (i*En.sz+o))(hr: ∀own nw,Sees E l m own nw->Rd En (cellA E own nw) sv xs)(hx:xs[i]? =some x)
  (hv:Ht E.P e (En.f x).toArray o=some v) (h:lx E g ops K r (upd T d v) l m) (hpl:Jj E.ks ⟨some d, .load e p,ty,pos,af,none⟩:=by rfl):lx E g ops K (⟨some d, .load e p,ty,pos,af,none⟩::r) T l m:=
 λhn own nw hs=>VN Z (NJ hpl Z (by decide)) hd v (by
  unfold loadOf
  have h1:ev E.P (cellA E own nw) (execOp (rd T) ⟨some d, .load e p,ty,pos,af,none⟩)=some (.value v):=by
   rcases hr own nw hs with⟨_,rfl⟩|⟨a,cap,rfl,h0,hle,hc⟩
   ·simp at hx
   ·have h0:=h0 (by have:=(List.getElem?_eq_some_iff.1 hx).1;omega)
    refine UQ (a:=a.add (i*En.sz+o)) hp ?_
    rw [GR h0,<-Nat.add_assoc]
    exact aK (λj u hj=>by rw [Nat.add_assoc];exact hc _ _ (En.all_get hx j u hj)) hv
  show(match ev E.P (cellA E own nw) (execOp (rd T) ⟨some d, .load e p,ty,pos,af,none⟩)with|some (.value v)=>some v|_=>none)=some v
  rw [h1]) (h hn own nw hs)
theorem Cd{op:Op}{j:Nat}{want:Bool}(hw:DR ops T j=none)(hd:decide (d<E.n)=true)(h:lx E g ops K r (upd T d undef) l m):
  lx E g ops K (⟨some d,op,ty,pos,af,some (j,want)⟩::r) T l m:=by
 intro hn own nw hs
 have e1: ¬Region.wanted ⟨some d,op,ty,pos,af,some (j,want)⟩ (DR ops T)=true:=by simp [Region.wanted,hw]
 refine It (e:= .val undef) (by simpa using hd) (by unfold Aa8;rw [if_neg e1]) (λs' hs2=> ?_)
 simp only [Do] at hs2;subst hs2;exact h hn own nw hs
theorem Dx{α:Type}[Inhabited α]{xs:List α}{i:Int}(h:0<=i/\i<(xs.length:Int)):xs[i.toNat]? =some xs[i.toNat]!:=by
 have hlt:i.toNat<xs.length:=by omega
 rw [zo hlt,zg xs i.toNat hlt]
theorem fD{P:Program}{c:Addr->Option Value}{s:TypeId}{fs:Array Field}{f:Field}{k:Nat}{sv:Value}{n j:Nat}(hu:P.underlying s=some (.struct fs))(hf:fs[j]? =some f){fi:TypeInfo}(hfi:P.info? f.type=some fi)(hf0:decide (fi.size=0)=false)(hs:Shp sv n)(hn:0<n):
  ev P c (Instr.fieldAt s (elA sv k) j)=some (elA sv (k+f.offset)):=by
 rcases hs with⟨_,rfl⟩|⟨a,cap,rfl,h0,hle⟩
 ·omega
 ·have h0:=h0 (by omega)
  unfold Instr.fieldAt
  simp only [AS,Bx hu,q0,hf,elA,GR h0]
  show((ev P c (fieldPlace ⟨a.block,a.off+k,none⟩ f)).bind λx=>ev P c (pure (Value.pointer (some x)):Sem Value))=_
  have:ev P c (fieldPlace ⟨a.block,a.off+k,none⟩ f)=some (⟨a.block,a.off+(k+f.offset),none⟩:Addr):=by
   unfold fieldPlace
   rw [AS,HI hfi]
   simp only [q0,if_neg (of_decide_eq_false hf0),Bj]
   rw [GR (a:=⟨a.block,a.off+k,none⟩) Z,Nat.add_assoc]
  rw [this];rfl
theorem RT{α:Type}{Ls:List (List Bl)}(k:Nat){S:List Bl}{ee:TypeId}{En:Enc α}{sv:Value}{xs:List α}(x x':α)(i o:Nat){e:TypeId}{p y:Operand}{ii:TypeInfo}(hk:kdg g ops ⟨none, .store e p y,ty,pos,af,none⟩= .s)(hp:rd T p=elA sv (i*En.sz+o))
  (hS:Ls[k]? =some S) (hSl:Sl ee En sv xs S) (hx:xs[i]? =some x) (hi:E.P.info? e=some ii) (hsz:(rd T y).cells.size=ii.size) (hle':decide (o+(rd T y).cells.size<=En.sz)=true) (h1: ∀u∈(rd T y).cells,u.oneCell'=true)
  (hx':En.f x'=(En.f x).take o++(rd T y).cells.toList++(En.f x).drop (o+(rd T y).cells.size))
  (h: ∀S',Sl ee En sv (xs.set i x') S'->lx E g ops K r T (Ls.set k S').flatten m) (hpl:Jj E.ks ⟨none, .store e p y,ty,pos,af,none⟩:=by rfl) (hgh:goodk E.ks none=false:=by rfl):lx E g ops K (⟨none, .store e p y,ty,pos,af,none⟩::r) T Ls.flatten m:=λhn own nw hse=>by
 have hle:o+(rd T y).cells.size<=En.sz:=zd hle'
 obtain⟨hf1,hf2⟩:=NV hS
 rcases hSl with⟨_,_,rfl,_⟩|⟨b,cap,cs,rfl,hcap,hcs,htk,rfl⟩
 ·simp at hx
 ·have hget:Ls.flatten[(Ls.take k).flatten.length]? =some (b,ee,cs):=by rw [hf1,List.getElem?_append_right (Nat.le_refl _),Nat.sub_self];rfl
  have hlt:i<xs.length:=(List.getElem?_eq_some_iff.1 hx).1
  have hb1:(i+1)*En.sz<=xs.length*En.sz:=Nat.mul_le_mul_right _ hlt
  have hb2:xs.length*En.sz<=cap*En.sz:=Nat.mul_le_mul_right _ hcap
  have hb3:(i+1)*En.sz=i*En.sz+En.sz:=Nat.succ_mul _ _
  refine fe Z (ZO hpl hk) Z b (ee,HX cs (i*En.sz+o) (rd T y).cells) ?_ ?_ (.inl hgh)
  ·refine⟨i*En.sz+o,ee,cs,ii, ?_,(hse.has _ _ _ hget).1,hi,hsz,(show i*En.sz+o+(rd T y).cells.size<=cs.size by omega),h1,Z⟩
   rw [hp]
   show Value.pointer (some ((⟨b,0,none⟩:Addr).add _))=_
   rw [GR Z,q6]
  ·have hset: ∀y',(Ls.set k [(b,y')]).flatten=Ls.flatten.set (Ls.take k).flatten.length (b,y'):=λy'=>by
    rw [hf2,hf1,List.set_append_right _ _ (Nat.le_refl _),Nat.sub_self];rfl
   have hall:En.all (xs.set i x')=(En.all xs).take (i*En.sz+o)++(rd T y).cells.toList++(En.all xs).drop (i*En.sz+o+(rd T y).cells.size):=by
    have hxs:xs=xs.take i++x::xs.drop (i+1):=by
     conv=>lhs;rw [<-zv i xs]
     congr 1
     rw [j5 hlt]
     congr 1
     rw [zo hlt] at hx;exact q1 hx
    have hset':xs.set i x'=xs.take i++x'::xs.drop (i+1):=by rw [List.set_eq_take_append_cons_drop,if_pos hlt]
    have hA:(En.all (xs.take i)).length=i*En.sz:=by rw [En.all_len,q7,Nat.min_eq_left (Nat.le_of_lt hlt)]
    rw [hset']
    conv=>rhs;rw [hxs]
    rw [En.all_append,En.all_cons,En.all_append,En.all_cons,hx',<-hA,List.take_length_add_append,zu,zu,zu,zu]
    congr 1
    rw [List.take_append_of_le_length (by rw [En.len];omega),Nat.add_assoc,List.drop_length_add_append,List.drop_append_of_le_length (by rw [En.len];omega)]
   have h2:=h [(b,ee,HX cs (i*En.sz+o) (rd T y).cells)] (.inr ⟨b,cap,_,by rw [zl],by rw [zl];exact hcap, ?_, ?_,Z⟩)
   ·rw [hset] at h2
    exact h2 (by rw [Sv hget];exact hn) _ _ (hse.set hn hget)
   ·rw [Rf (by omega)]
    simp only [List.size_toArray,q9,q7,zk,Array.length_toList]
    omega
   ·rw [Rf (by omega),zl,hall]
    have hc:cs.toList=En.all xs++cs.toList.drop (xs.length*En.sz):=by rw [<-htk,zv]
    have hl:(En.all xs).length=xs.length*En.sz:=En.all_len xs
    show List.take (xs.length*En.sz) (cs.toList.take (i*En.sz+o)++(rd T y).cells.toList++cs.toList.drop (i*En.sz+o+(rd T y).cells.size))=_
    have e1:List.take (i*En.sz+o) (En.all xs++cs.toList.drop (xs.length*En.sz))=List.take (i*En.sz+o) (En.all xs):=List.take_append_of_le_length (by omega)
    have e2:List.drop (i*En.sz+o+(rd T y).cells.size) (En.all xs++cs.toList.drop (xs.length*En.sz))=List.drop (i*En.sz+o+(rd T y).cells.size) (En.all xs)++cs.toList.drop (xs.length*En.sz):=List.drop_append_of_le_length (by omega)
    rw [hc,e1,e2,<-zu]
    have e3:(List.take (i*En.sz+o) (En.all xs)++(rd T y).cells.toList++List.drop (i*En.sz+o+(rd T y).cells.size) (En.all xs)).length=xs.length*En.sz:=by
     simp only [q9,q7,zk,Array.length_toList,hl];omega
    rw [<-e3]
    exact List.take_left
theorem BO{P:Program}{c:Addr->Option Value}{ρ:Operand->Value}{dd:Option Tmp}{f:FuncId}{x:Operand}{caps:List Value}{ll:List Operand}{ts:Array TypeId}{gd:Option (Nat×Bool)}(hρ:ρ x= .func (.func f) #[] caps.toArray)(h:Am P f=true){args:List Value}(ha:ll.map ρ=args):
  ev P c (execOp ρ ⟨dd, .call ⟨.value x,ll.toArray,ts⟩,ty,pos,af,gd⟩)=some (.enter f (args++caps).toArray):=by
 unfold Am at h
 cases hf:P.funcs[f]? with
 |none=>simp [hf] at h
 |some fn=>
  simp only [hf,Bool.and_eq_true,bne_iff_ne,ne_eq] at h
  obtain⟨h1,h2⟩:=h
  have ha':ll.toArray.map ρ=args.toArray:=by rw [List.map_toArray,ha]
  have hr:ev P c (resolve ρ ⟨.value x,ll.toArray,ts⟩ ty)=(ev P c (Deferred.ofValue (ρ x) args.toArray)):=by
   show ev P c (Deferred.ofValue (ρ x) (ll.toArray.map ρ))=_
   rw [ha']
  show ev P c (do let d<-resolve ρ ⟨.value x,ll.toArray,ts⟩ ty;invoke d.target d.args)=_
  rw [AS,hr,hρ]
  show ev P c (invoke (.fn (.func f) caps.toArray) (#[]++args.toArray))=_
  have h5: ¬fn.body=none:=by intro e;simp [e] at h2
  simp [invoke,callFunc,program,AS,ev,hf,h1,h5,Bj]
theorem QW{P:Program}{c:Addr->Option Value}{ρ:Operand->Value}{dd:Option Tmp}{f:FuncId}{x:Operand}{bd caps:List Value}{ll:List Operand}{ts:Array TypeId}{gd:Option (Nat×Bool)}(hρ:ρ x= .func (.func f) bd.toArray caps.toArray)(h:Am P f=true){args:List Value}(ha:ll.map ρ=args):
  ev P c (execOp ρ ⟨dd, .call ⟨.value x,ll.toArray,ts⟩,ty,pos,af,gd⟩)=some (.enter f (bd++args++caps).toArray):=by
 unfold Am at h
 cases hf:P.funcs[f]? with
 |none=>simp [hf] at h
 |some fn=>
  simp only [hf,Bool.and_eq_true,bne_iff_ne,ne_eq] at h
  obtain⟨h1,h2⟩:=h
  have ha':ll.toArray.map ρ=args.toArray:=by rw [List.map_toArray,ha]
  have hr:ev P c (resolve ρ ⟨.value x,ll.toArray,ts⟩ ty)=(ev P c (Deferred.ofValue (ρ x) args.toArray)):=by
   show ev P c (Deferred.ofValue (ρ x) (ll.toArray.map ρ))=_
   rw [ha']
  show ev P c (do let d<-resolve ρ ⟨.value x,ll.toArray,ts⟩ ty;invoke d.target d.args)=_
  rw [AS,hr,hρ]
  show ev P c (invoke (.fn (.func f) caps.toArray) (bd.toArray++args.toArray))=_
  have h5: ¬fn.body=none:=by intro e;simp [e] at h2
  simp [invoke,callFunc,program,AS,ev,hf,h1,h5,Bj]
theorem Jv{P:Program}{c:Addr->Option Value}{ρ:Operand->Value}{dd:Option Tmp}{f:FuncId}{lb ll:List Operand}{gd:Option (Nat×Bool)}{bs vs:List Value}(hb:lb.map ρ=bs)(h:ll.map ρ=vs):
  ev P c (execOp ρ ⟨dd, .makeFunc (.func f) lb.toArray ll.toArray,ty,pos,af,gd⟩)=some (.value (.func (.func f) bs.toArray vs.toArray)):=by
 subst h;subst hb
 show ev P c (do pure (Next.value (<-Instr.makeFunc (.func f) (lb.toArray.map ρ) (ll.toArray.map ρ))))=_
 have e1:lb.toArray.map ρ=(lb.map ρ).toArray:=by simp
 have e2:ll.toArray.map ρ=(ll.map ρ).toArray:=by simp
 rw [e1,e2]
 rfl
theorem wv{c:Call}(v0:Value)(f:FuncId)(args:Array Value)
  (hd:decide (d<E.n)=true) (hk:E.ks.find? (λx=>x.1==some d)=some (some d,false)) (hm:decide (m<=l.length)=true)
  (he:ev E.P E.ro (execOp (rd T) ⟨some d, .call c,ty,pos,af,none⟩)=some (.enter f args))
  (hdo: ∀own nw,Sees E l m own nw->DoesI E.P f args E.inv (cellA E own nw) [] (pV v0))
  (hcon: ∀args view v L U,E.con ⟨some d, .call c,ty,pos,af,none⟩ args view v L U↔pV v0 v L U)
  (h:lx E g ops K r (upd T d v0) l m):lx E g ops K (⟨some d, .call c,ty,pos,af,none⟩::r) T l m:=
 ux (pV v0) f args hd hk hm he hdo hcon (TD v0) (λv L hp=>by obtain⟨rfl,rfl,_⟩:=hp;rw [List.append_nil];exact h)
theorem Vr{α:Type}{Ls:List (List Bl)}{c:Call}(F:Value->Value)(e:TypeId)(En:Enc α)(xs:List α)(f:FuncId)(args:Array Value)
  (hd:decide (d<E.n)=true) (hk:E.ks.find? (λx=>x.1==some d)=some (some d,false)) (hm:decide (m<=Ls.flatten.length)=true)
  (he:ev E.P E.ro (execOp (rd T) ⟨some d, .call c,ty,pos,af,none⟩)=some (.enter f args))
  (hdo: ∀own nw,Sees E Ls.flatten m own nw->DoesI E.P f args E.inv (cellA E own nw) [] (p1 F e En xs))
  (hcon: ∀args view v L U,E.con ⟨some d, .call c,ty,pos,af,none⟩ args view v L U↔p1 F e En xs v L U)
  (h: ∀s S,Sl e En s xs S->lx E g ops K r (upd T d (F s)) (Ls++ [S]).flatten m):lx E g ops K (⟨some d, .call c,ty,pos,af,none⟩::r) T Ls.flatten m:=
 ux (p1 F e En xs) f args hd hk hm he hdo hcon (kX F e En xs) (λv L hp=>by
  obtain⟨s,hS,rfl,_⟩:=hp
  have:=h s L hS
  rw [List.flatten_append] at this
  simpa using this)
theorem GS{c:Code}{Q:QL}(kv:List (Nat×Value))(h:kv.map (λx=>T x.1)=kv.map (·.2))(H: ∀T',A E c Q (eI T' kv) l):A E c Q T l:=by
 have:=H T
 rwa [OY T kv h] at this
theorem BB{Q:QL}{id:Nat}{rs:List Oper}(ks:List (Option Tmp×Bool))(con:Con)(ps:List (Nat×Nat))(hB:Vz ks rs.toArray ps (List.range rs.toArray.size)=true)(hS:(l.map (·.1)).Nodup->Sep ps T)
  (h:lx {E with ks:=ks,con:=con} true rs.toArray (Q .normal) rs T l 0) (hg:hmk ks=false:=by rfl):A E (.region id rs.toArray true) Q T l:=
 iw ks con ps (List.range rs.toArray.size) hB hS (by rw [RU];exact h) hg
theorem Jc{P:Program}{c:Addr->Option Value}{ρ:Operand->Value}{dd:Option Tmp}{f:FuncId}{ll:List Operand}{gd:Option (Nat×Bool)}{vs:List Value}(h:ll.map ρ=vs):
  ev P c (execOp ρ ⟨dd, .makeFunc (.func f) #[] ll.toArray,ty,pos,af,gd⟩)=some (.value (.func (.func f) #[] vs.toArray)):=by
 subst h
 show ev P c (do pure (Next.value (<-Instr.makeFunc (.func f) ((#[]:Array Operand).map ρ) (ll.toArray.map ρ))))=_
 have e1:(#[]:Array Operand).map ρ= #[]:=by simp
 have e2:ll.toArray.map ρ=(ll.map ρ).toArray:=by simp
 rw [e1,e2]
 rfl
theorem Ur{rs:Array ResultVar}{t:Nat->Value}{v v0:Value}(he:v0=v)(h:Mk E rs ⟨t,ownL l,nonw⟩=some v0):Xe E rs [] (pV v) .ret t l:=⟨v,[],[],by rw [<-he];exact h,Sub.nil l,Z,Z,Z,Z⟩
theorem GZ{α:Type}{rs:Array ResultVar}{t:Nat->Value}{F:Value->Value}{e:TypeId}{En:Enc α}{xs:List α}{s v0:Value}{S:List Bl}(hS:Sl e En s xs S)(hsub:Sub S l)(he:v0=F s)(h:Mk E rs ⟨t,ownL l,nonw⟩=some v0):Xe E rs [] (p1 F e En xs) .ret t l:=
 ⟨F s,S,[],by rw [<-he];exact h,hsub,Z,s,hS,Z,Z⟩
end
theorem Mf{n k b:Nat}(h:n<=k)(hk:decide (k*b<=140737488355328)=true):n*b<=140737488355328:=zx (Nat.mul_le_mul_right _ h) (zd hk)
theorem Me{n k:Nat}(h:n<=k)(hk:decide (k<=maxLen)=true):n<=maxLen:=zx h (zd hk)
theorem Hp{a:Int}{n:Nat}(h:a<=(n:Int)):a.toNat<=n:=by omega
theorem vn{α:Type}{l:List α}{hi lo:Nat}(h:hi<=l.length):((l.take hi).drop lo).length=hi - lo:=by simp;omega
theorem qm{v:Value}{n n':Nat}(h:Shp v n)(e:n'=n):Shp v n':=e▸h
theorem Bf{i:Int}{n:Nat}(h:0<=i/\i<(n:Int)):0<n:=by omega
theorem Jp{a:Array Value}(h:a.toList.all (λx=>x.oneCell')=true): ∀u∈a,u.oneCell'=true:=λu hu=>List.all_eq_true.1 h u (by simpa using hu)
theorem Dy{S l:List Bl}(h:Sub (S++ []) l):Sub S l:=by rwa [List.append_nil] at h
def Qn:Enc Bool:=⟨λb=> [.bool b],1,Nat.one_pos,λ_=>Z,λ_ v h=>by simp at h;subst h;rfl,True⟩
def encY:Enc UInt8:=⟨λb=> [.int .u8 ((b.toNat:Nat):Int)],1,Nat.one_pos,λ_=>Z,λ_ v h=>by simp at h;subst h;rfl,True⟩
def BE:Enc Int:=⟨λi=> [.int .i64 i],1,Nat.one_pos,λ_=>Z,λ_ v h=>by simp at h;subst h;rfl,True⟩
def Aa3:Enc (W2):=⟨λs=> [.string ⟨s.toArray⟩],1,Nat.one_pos,λ_=>Z,λ_ v h=>by simp at h;subst h;rfl,True⟩
end Go.Eng
namespace Go.Eng
open Go Go.RowKit
section
variable {E:Env} {g:Bool} {ops:Array Oper} {K:(Nat->Value)->List Bl->Prop} {r:List Oper} {T:Nat->Value} {m:Nat} {d:Tmp} {ty:TypeId} {pos:String} {af:Array Edge}
theorem uw{l:List Bl}{op:Op}(p:Pst)(hd:decide (d<E.n)=true)(hk:E.ks.find? (λx=>x.1==some d)=some (some d,false))(hsel:isSel op=false)(hm:decide (m<=l.length)=true)
  (hrun: ∀own nw w,Sees E l m own nw->(∀a v,cellA E own nw a=some v->w.cell? a=some v)->GenRun E.P (rd T) ⟨some d,op,ty,pos,af,none⟩ w p)
  (hcon: ∀args view v L U,E.con ⟨some d,op,ty,pos,af,none⟩ args view v L U↔p v L U) (hn:fT p)
  (h: ∀v L,p v L []->lx E g ops K r (upd T d v) (l++L) m):lx E g ops K (⟨some d,op,ty,pos,af,none⟩::r) T l m:=by
 refine r_g false p hd hk hsel hm (λhnd own nw hse=> ?_) (λv L U hp=> ?_)
 ·have hco:Ab6 E ⟨T,own,nw⟩ ⟨some d,op,ty,pos,af,none⟩=p:=by
   funext v L U;exact propext (hcon _ _ v L U)
  refine⟨⟨?_, ?_, ?_, ?_, ?_⟩, ?_⟩
  ·rw [hco];exact λ_=>hn.wit
  ·rw [hco];exact λv L U hp=>⟨(hn.nod v L U hp).1,by rw [(hn.nod v L U hp).2];exact List.nodup_nil⟩
  ·rw [hco];intro v L U hp x hx;rw [(hn.nod v L U hp).2] at hx;cases hx
  ·rw [hco];exact λ_ v L U hp=>(hn.nod v L U hp).2
  ·rw [hco]
   intro w _ hcell _
   exact hrun own nw w hse hcell
  ·rw [hco];exact λv L U hp=>hp
 ·obtain⟨_,rfl⟩:=hn.nod v L U hp
  exact⟨l,λ_=>PutU.nil _,h v L hp⟩
end
end Go.Eng
