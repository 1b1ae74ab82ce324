import Derived.Test.YtjnanfkpdhmnpaaGreatDoorSg
import Derived.Laws.IdiomStrings
namespace Go.Eng
open Go Go.RowKit
def Blk(c:Addr->Y1 Y2)(b:Nat)(a:Y0 Y2):Prop:= ∀j u,a[j]? =some u->c ⟨b,j,none⟩=some u
section
variable {E:Env} {g:Y3} {ops:Array Oper} {K:(Nat->Y2)->Y0 Bl->Prop} {r:Y0 Oper} {T:Nat->Y2} {l:Y0 Bl} {m:Nat} {d:Tmp} {ty:TypeId} {pos:String} {af:Array Edge}
abbrev Sees.view{own:Nat->Y1 (TypeId×Array Y2)}{nw:Nat->Y3}(_:Sees E l m own nw):Addr->Y1 Y2:=cellA E own nw
theorem Da{b:Nat}{t:TypeId}{cs:Y0 Y2}(i:Nat)(hl:l[i]? =some (b,t,cs.toArray))(hm:decide (m<=i)=true): ∀own nw,Sees E l m own nw->Blk (cellA E own nw) b cs:=λown nw hs j u hj=>by
 obtain⟨h1,h2⟩:=hs.has i _ _ hl
 rw [MP h1 (by rw [h2];have:=zj hm;simp;omega)]
 simpa using hj
theorem Bg{b:Nat}{vs:Y0 Y2}(h:Blk E.ro b vs): ∀own nw,Sees E l m own nw->Blk (cellA E own nw) b vs:=λ_ _ hs j u hj=>hs.ro_cell _ _ (h j u hj)
theorem Vj{P:Program}{c:Addr->Y1 Y2}{ρ:Operand->Y2}{dd:Y1 Tmp}{e:TypeId}{p:Operand}{gd:Y1 (Nat×Y3)}{a:Addr}{v:Y2}(hp:ρ p= .pointer (some a))(h:ev P c (loadVar e a)=some v):ev P c (execOp ρ ⟨dd, .load e p,ty,pos,af,gd⟩)=some (.value v):=by
 show ev P c (do pure (Next.value (<-Instr.loadAt e (ρ p))))=_
 rw [hp,Be]
 show(ev P c (loadVar e a)).bind _=_
 rw [h];rfl
theorem Ii(v:Y2){vs:Y0 Y2}{b o:Nat}{e:TypeId}{p:Operand}(hd:decide (d<E.n)=true)(hp:rd T p= .pointer (some ⟨b,o,none⟩))(hb: ∀own nw,Sees E l m own nw->Blk (cellA E own nw) b vs)(hv:Iu E.P e vs.toArray o=some v)(h:lx E g ops K r (upd T d v) l m)(hpl:JA E.ks ⟨some d, .load e p,ty,pos,af,none⟩:=by rfl):lx E g ops K (⟨some d, .load e p,ty,pos,af,none⟩::r) T l m:=
 λhn own nw hs=>Wm Z (Of hpl Z (by decide)) hd v (by
  unfold loadOf
  have h1:ev E.P (cellA E own nw) (execOp (rd T) ⟨some d, .load e p,ty,pos,af,none⟩)=some (.value v):=
   Vj hp (by have:=bp (P:=E.P) (c:=cellA E own nw) (b:=b) (off:=0) (o:=o) (ty:=e) (λj u hj=>by rw [q7];exact hb own nw hs j u hj) hv;rwa [q7] at this)
  show(match ev E.P (cellA E own nw) (execOp (rd T) ⟨some d, .load e p,ty,pos,af,none⟩)with|some (.value v)=>some v|_=>none)=some v
  rw [h1]) (h hn own nw hs)
theorem RX{α:Type}(v:Y2){En:Enc α}{sv:Y2}{xs:Y0 α}(x:α)(i o:Nat){e:TypeId}{p:Operand}(hd:decide (d<E.n)=true)(hp:rd T p=elA sv (i*En.sz+o))(hr: ∀own nw,Sees E l m own nw->Rd En (cellA E own nw) sv xs)(hx:xs[i]? =some x)(hv:Iu E.P e (En.f x).toArray o=some v)(h:lx E g ops K r (upd T d v) l m)(hpl:JA E.ks ⟨some d, .load e p,ty,pos,af,none⟩:=by rfl):lx E g ops K (⟨some d, .load e p,ty,pos,af,none⟩::r) T l m:=
 λhn own nw hs=>Wm Z (Of hpl Z (by decide)) hd v (by
  unfold loadOf
  have h1:ev E.P (cellA E own nw) (execOp (rd T) ⟨some d, .load e p,ty,pos,af,none⟩)=some (.value v):=by
   rcases hr own nw hs with⟨_,rfl⟩|⟨a,cap,rfl,h0,hle,hc⟩
   ·simp at hx
   ·have h0:=h0 (by have:=(List.getElem?_eq_some_iff.1 hx).1;omega)
    refine Vj (a:=a.add (i*En.sz+o)) hp ?_
    rw [Hj h0,<-Nat.add_assoc]
    exact bp (λj u hj=>by rw [Nat.add_assoc];exact hc _ _ (En.all_get hx j u hj)) hv
  show(match ev E.P (cellA E own nw) (execOp (rd T) ⟨some d, .load e p,ty,pos,af,none⟩)with|some (.value v)=>some v|_=>none)=some v
  rw [h1]) (h hn own nw hs)
theorem Ct{op:Op}{j:Nat}{want:Y3}(hw:Ee ops T j=none)(hd:decide (d<E.n)=true)(h:lx E g ops K r (upd T d undef) l m):
  lx E g ops K (⟨some d,op,ty,pos,af,some (j,want)⟩::r) T l m:=by
 intro hn own nw hs
 have e1: ¬Region.wanted ⟨some d,op,ty,pos,af,some (j,want)⟩ (Ee ops T)=true:=by simp [Region.wanted,hw]
 refine IJ (e:= .val undef) (by simpa using hd) (by unfold Aa9;rw [V9 e1]) (λs' hs2=> ?_)
 simp only [Do] at hs2;subst hs2;exact h hn own nw hs
theorem Cp{α:Type}[Inhabited α]{xs:Y0 α}{i:Int}(h:0<=i/\i<(xs.length:Int)):xs[i.toNat]? =some xs[i.toNat]!:=by
 have hlt:i.toNat<xs.length:=by omega
 rw [zv hlt,zm xs i.toNat hlt]
theorem gj{P:Program}{c:Addr->Y1 Y2}{s:TypeId}{fs:Array Field}{f:Field}{k:Nat}{sv:Y2}{n j:Nat}(hu:P.underlying s=some (.struct fs))(hf:fs[j]? =some f){fi:TypeInfo}(hfi:P.info? f.type=some fi)(hf0:decide (fi.size=0)=false)(hs:Shp sv n)(hn:0<n):
  ev P c (Instr.fieldAt s (elA sv k) j)=some (elA sv (k+f.offset)):=by
 rcases hs with⟨_,rfl⟩|⟨a,cap,rfl,h0,hle⟩
 ·omega
 ·have h0:=h0 (by omega)
  unfold Instr.fieldAt
  simp only [Be,BK hu,q0,hf,elA,Hj h0]
  show((ev P c (fieldPlace ⟨a.block,a.off+k,none⟩ f)).bind λx=>ev P c (pure (V7 (some x)):Sem Y2))=_
  have:ev P c (fieldPlace ⟨a.block,a.off+k,none⟩ f)=some (⟨a.block,a.off+(k+f.offset),none⟩:Addr):=by
   unfold fieldPlace
   rw [Be,Ie hfi]
   simp only [q0,V9 (of_decide_eq_false hf0),Bv]
   rw [Hj (a:=⟨a.block,a.off+k,none⟩) Z,Nat.add_assoc]
  rw [this];rfl
theorem QR{α:Type}{Ls:Y0 (Y0 Bl)}(k:Nat){S:Y0 Bl}{ee:TypeId}{En:Enc α}{sv:Y2}{xs:Y0 α}(x x':α)(i o:Nat){e:TypeId}{p y:Operand}{ii:TypeInfo}(hk:kdg g ops ⟨none, .store e p y,ty,pos,af,none⟩= .s)(hp:rd T p=elA sv (i*En.sz+o))(hS:Ls[k]? =some S)(hSl:Sl ee En sv xs S)(hx:xs[i]? =some x)(hi:E.P.info? e=some ii)(hsz:(rd T y).cells.size=ii.size)(hle':decide (o+(rd T y).cells.size<=En.sz)=true)(h1: ∀u∈(rd T y).cells,u.oneCell'=true)(hx':En.f x'=(En.f x).take o++(rd T y).cells.toList++(En.f x).drop (o+(rd T y).cells.size))(h: ∀S',Sl ee En sv (xs.set i x') S'->lx E g ops K r T (Ls.set k S').flatten m)(hpl:JA E.ks ⟨none, .store e p y,ty,pos,af,none⟩:=by rfl)(hgh:goodk E.ks none=false:=by rfl):lx E g ops K (⟨none, .store e p y,ty,pos,af,none⟩::r) T Ls.flatten m:=λhn own nw hse=>by
 have hle:o+(rd T y).cells.size<=En.sz:=zj hle'
 obtain⟨hf1,hf2⟩:=Oq hS
 rcases hSl with⟨_,_,rfl,_⟩|⟨b,cap,cs,rfl,hcap,hcs,htk,rfl⟩
 ·simp at hx
 ·have hget:Ls.flatten[(Ls.take k).flatten.length]? =some (b,ee,cs):=by rw [hf1,List.getElem?_append_right (Nat.le_refl _),Nat.sub_self];rfl
  have hlt:i<xs.length:=(List.getElem?_eq_some_iff.1 hx).1
  have hb1:(i+1)*En.sz<=xs.length*En.sz:=Nat.mul_le_mul_right _ hlt
  have hb2:xs.length*En.sz<=cap*En.sz:=Nat.mul_le_mul_right _ hcap
  have hb3:(i+1)*En.sz=i*En.sz+En.sz:=Nat.succ_mul _ _
  refine fO Z (az hpl hk) Z b (ee,Jc cs (i*En.sz+o) (rd T y).cells) ?_ ?_ (.inl hgh)
  ·refine⟨i*En.sz+o,ee,cs,ii, ?_,(hse.has _ _ _ hget).1,hi,hsz,(show i*En.sz+o+(rd T y).cells.size<=cs.size by omega),h1,Z⟩
   rw [hp]
   show V7 (some ((⟨b,0,none⟩:Addr).add _))=_
   rw [Hj Z,q7]
  ·have hset: ∀y',(Ls.set k [(b,y')]).flatten=Ls.flatten.set (Ls.take k).flatten.length (b,y'):=λy'=>by
    rw [hf2,hf1,List.set_append_right _ _ (Nat.le_refl _),Nat.sub_self];rfl
   have hall:En.all (xs.set i x')=(En.all xs).take (i*En.sz+o)++(rd T y).cells.toList++(En.all xs).drop (i*En.sz+o+(rd T y).cells.size):=by
    have hxs:xs=xs.take i++x::xs.drop (i+1):=by
     conv=>lhs;rw [<-j3 i xs]
     congr 1
     rw [y3 hlt]
     congr 1
     rw [zv hlt] at hx;exact q3 hx
    have hset':xs.set i x'=xs.take i++x'::xs.drop (i+1):=by rw [List.set_eq_take_append_cons_drop,V8 hlt]
    have hA:(En.all (xs.take i)).length=i*En.sz:=by rw [En.all_len,q8,Nat.min_eq_left (Nat.le_of_lt hlt)]
    rw [hset']
    conv=>rhs;rw [hxs]
    rw [En.all_append,En.all_cons,En.all_append,En.all_cons,hx',<-hA,List.take_length_add_append,j0,j0,j0,j0]
    congr 1
    rw [List.take_append_of_le_length (by rw [En.len];omega),Nat.add_assoc,List.drop_length_add_append,List.drop_append_of_le_length (by rw [En.len];omega)]
   have h2:=h [(b,ee,Jc cs (i*En.sz+o) (rd T y).cells)] (.inr ⟨b,cap,_,by rw [zr],by rw [zr];exact hcap, ?_, ?_,Z⟩)
   ·rw [hset] at h2
    exact h2 (by rw [ST hget];exact hn) _ _ (hse.set hn hget)
   ·rw [RH (by omega)]
    simp only [List.size_toArray,zf,q8,zq,Array.length_toList]
    omega
   ·rw [RH (by omega),zr,hall]
    have hc:cs.toList=En.all xs++cs.toList.drop (xs.length*En.sz):=by rw [<-htk,j3]
    have hl:(En.all xs).length=xs.length*En.sz:=En.all_len xs
    show List.take (xs.length*En.sz) (cs.toList.take (i*En.sz+o)++(rd T y).cells.toList++cs.toList.drop (i*En.sz+o+(rd T y).cells.size))=_
    have e1:List.take (i*En.sz+o) (En.all xs++cs.toList.drop (xs.length*En.sz))=List.take (i*En.sz+o) (En.all xs):=List.take_append_of_le_length (by omega)
    have e2:List.drop (i*En.sz+o+(rd T y).cells.size) (En.all xs++cs.toList.drop (xs.length*En.sz))=List.drop (i*En.sz+o+(rd T y).cells.size) (En.all xs)++cs.toList.drop (xs.length*En.sz):=List.drop_append_of_le_length (by omega)
    rw [hc,e1,e2,<-j0]
    have e3:(List.take (i*En.sz+o) (En.all xs)++(rd T y).cells.toList++List.drop (i*En.sz+o+(rd T y).cells.size) (En.all xs)).length=xs.length*En.sz:=by
     simp only [zf,q8,zq,Array.length_toList,hl];omega
    rw [<-e3]
    exact List.take_left
theorem Cc{P:Program}{c:Addr->Y1 Y2}{ρ:Operand->Y2}{dd:Y1 Tmp}{f:FuncId}{x:Operand}{caps:Y0 Y2}{ll:Y0 Operand}{ts:Array TypeId}{gd:Y1 (Nat×Y3)}(hρ:ρ x= .func (.func f) #[] caps.toArray)(h:Am P f=true){args:Y0 Y2}(ha:ll.map ρ=args):
  ev P c (execOp ρ ⟨dd, .call ⟨.value x,ll.toArray,ts⟩,ty,pos,af,gd⟩)=some (.enter f (args++caps).toArray):=by
 unfold Am at h
 cases hf:P.funcs[f]? with
 |none=>simp [hf] at h
 |some fn=>
  simp only [hf,Bool.and_eq_true,bne_iff_ne,ne_eq] at h
  obtain⟨h1,h2⟩:=h
  have ha':ll.toArray.map ρ=args.toArray:=by rw [List.map_toArray,ha]
  have hr:ev P c (resolve ρ ⟨.value x,ll.toArray,ts⟩ ty)=(ev P c (Deferred.ofValue (ρ x) args.toArray)):=by
   show ev P c (Deferred.ofValue (ρ x) (ll.toArray.map ρ))=_
   rw [ha']
  show ev P c (do let d<-resolve ρ ⟨.value x,ll.toArray,ts⟩ ty;invoke d.target d.args)=_
  rw [Be,hr,hρ]
  show ev P c (invoke (.fn (.func f) caps.toArray) (#[]++args.toArray))=_
  have h5: ¬fn.body=none:=by intro e;simp [e] at h2
  simp [invoke,callFunc,program,Be,ev,hf,h1,h5,Bv]
theorem RB{P:Program}{c:Addr->Y1 Y2}{ρ:Operand->Y2}{dd:Y1 Tmp}{f:FuncId}{x:Operand}{bd caps:Y0 Y2}{ll:Y0 Operand}{ts:Array TypeId}{gd:Y1 (Nat×Y3)}(hρ:ρ x= .func (.func f) bd.toArray caps.toArray)(h:Am P f=true){args:Y0 Y2}(ha:ll.map ρ=args):
  ev P c (execOp ρ ⟨dd, .call ⟨.value x,ll.toArray,ts⟩,ty,pos,af,gd⟩)=some (.enter f (bd++args++caps).toArray):=by
 unfold Am at h
 cases hf:P.funcs[f]? with
 |none=>simp [hf] at h
 |some fn=>
  simp only [hf,Bool.and_eq_true,bne_iff_ne,ne_eq] at h
  obtain⟨h1,h2⟩:=h
  have ha':ll.toArray.map ρ=args.toArray:=by rw [List.map_toArray,ha]
  have hr:ev P c (resolve ρ ⟨.value x,ll.toArray,ts⟩ ty)=(ev P c (Deferred.ofValue (ρ x) args.toArray)):=by
   show ev P c (Deferred.ofValue (ρ x) (ll.toArray.map ρ))=_
   rw [ha']
  show ev P c (do let d<-resolve ρ ⟨.value x,ll.toArray,ts⟩ ty;invoke d.target d.args)=_
  rw [Be,hr,hρ]
  show ev P c (invoke (.fn (.func f) caps.toArray) (bd.toArray++args.toArray))=_
  have h5: ¬fn.body=none:=by intro e;simp [e] at h2
  simp [invoke,callFunc,program,Be,ev,hf,h1,h5,Bv]
theorem JL{P:Program}{c:Addr->Y1 Y2}{ρ:Operand->Y2}{dd:Y1 Tmp}{f:FuncId}{lb ll:Y0 Operand}{gd:Y1 (Nat×Y3)}{bs vs:Y0 Y2}(hb:lb.map ρ=bs)(h:ll.map ρ=vs):
  ev P c (execOp ρ ⟨dd, .makeFunc (.func f) lb.toArray ll.toArray,ty,pos,af,gd⟩)=some (.value (.func (.func f) bs.toArray vs.toArray)):=by
 subst h;subst hb
 show ev P c (do pure (Next.value (<-Instr.makeFunc (.func f) (lb.toArray.map ρ) (ll.toArray.map ρ))))=_
 have e1:lb.toArray.map ρ=(lb.map ρ).toArray:=by simp
 have e2:ll.toArray.map ρ=(ll.map ρ).toArray:=by simp
 rw [e1,e2]
 rfl
theorem xz{c:Call}(v0:Y2)(f:FuncId)(args:Array Y2)(hd:decide (d<E.n)=true)(hk:E.ks.find? (λx=>x.1==some d)=some (some d,false))(hm:decide (m<=l.length)=true)(he:ev E.P E.ro (execOp (rd T) ⟨some d, .call c,ty,pos,af,none⟩)=some (.enter f args))(hdo: ∀own nw,Sees E l m own nw->DoesI E.P f args E.inv (cellA E own nw) [] (pV v0))(hcon: ∀args view v L U,E.con ⟨some d, .call c,ty,pos,af,none⟩ args view v L U↔pV v0 v L U)(h:lx E g ops K r (upd T d v0) l m):lx E g ops K (⟨some d, .call c,ty,pos,af,none⟩::r) T l m:=
 vN (pV v0) f args hd hk hm he hdo hcon (Uc v0) (λv L hp=>by obtain⟨rfl,rfl,_⟩:=hp;rw [List.append_nil];exact h)
theorem cj{α:Type}{Ls:Y0 (Y0 Bl)}{c:Call}(F:Y2->Y2)(e:TypeId)(En:Enc α)(xs:Y0 α)(f:FuncId)(args:Array Y2)(hd:decide (d<E.n)=true)(hk:E.ks.find? (λx=>x.1==some d)=some (some d,false))(hm:decide (m<=Ls.flatten.length)=true)(he:ev E.P E.ro (execOp (rd T) ⟨some d, .call c,ty,pos,af,none⟩)=some (.enter f args))(hdo: ∀own nw,Sees E Ls.flatten m own nw->DoesI E.P f args E.inv (cellA E own nw) [] (p1 F e En xs))(hcon: ∀args view v L U,E.con ⟨some d, .call c,ty,pos,af,none⟩ args view v L U↔p1 F e En xs v L U)(h: ∀s S,Sl e En s xs S->lx E g ops K r (upd T d (F s)) (Ls++ [S]).flatten m):lx E g ops K (⟨some d, .call c,ty,pos,af,none⟩::r) T Ls.flatten m:=
 vN (p1 F e En xs) f args hd hk hm he hdo hcon (mm F e En xs) (λv L hp=>by
  obtain⟨s,hS,rfl,_⟩:=hp
  have:=h s L hS
  rw [List.flatten_append] at this
  simpa using this)
theorem CJ{c:Code}{Q:QL}(kv:Y0 (Nat×Y2))(h:kv.map (λx=>T x.1)=kv.map (·.2))(H: ∀T',A E c Q (fk T' kv) l):A E c Q T l:=by
 have:=H T
 rwa [Pu T kv h] at this
theorem BO{Q:QL}{id:Nat}{rs:Y0 Oper}(ks:Y0 (Y1 Tmp×Y3))(con:Con)(ps:Y0 (Nat×Nat))(hB:VY ks rs.toArray ps (List.range rs.toArray.size)=true)(hS:(l.map (·.1)).Nodup->Sep ps T)(h:lx {E with ks:=ks,con:=con} true rs.toArray (Q .normal) rs T l 0)(hg:hmk ks=false:=by rfl):A E (.region id rs.toArray true) Q T l:=
 jw ks con ps (List.range rs.toArray.size) hB hS (by rw [Sy];exact h) hg
theorem Jt{P:Program}{c:Addr->Y1 Y2}{ρ:Operand->Y2}{dd:Y1 Tmp}{f:FuncId}{ll:Y0 Operand}{gd:Y1 (Nat×Y3)}{vs:Y0 Y2}(h:ll.map ρ=vs):
  ev P c (execOp ρ ⟨dd, .makeFunc (.func f) #[] ll.toArray,ty,pos,af,gd⟩)=some (.value (.func (.func f) #[] vs.toArray)):=by
 subst h
 show ev P c (do pure (Next.value (<-Instr.makeFunc (.func f) ((#[]:Array Operand).map ρ) (ll.toArray.map ρ))))=_
 have e1:(#[]:Array Operand).map ρ= #[]:=by simp
 have e2:ll.toArray.map ρ=(ll.map ρ).toArray:=by simp
 rw [e1,e2]
 rfl
theorem iU{rs:Array ResultVar}{t:Nat->Y2}{v v0:Y2}(he:v0=v)(h:MD E rs ⟨t,ownL l,nonw⟩=some v0):XD E rs [] (pV v) .ret t l:=⟨v,[],[],by rw [<-he];exact h,Sub.nil l,Z,Z,Z,Z⟩
theorem Iq{α:Type}{rs:Array ResultVar}{t:Nat->Y2}{F:Y2->Y2}{e:TypeId}{En:Enc α}{xs:Y0 α}{s v0:Y2}{S:Y0 Bl}(hS:Sl e En s xs S)(hsub:Sub S l)(he:v0=F s)(h:MD E rs ⟨t,ownL l,nonw⟩=some v0):XD E rs [] (p1 F e En xs) .ret t l:=
 ⟨F s,S,[],by rw [<-he];exact h,hsub,Z,s,hS,Z,Z⟩
end
theorem LB{n k b:Nat}(h:n<=k)(hk:decide (k*b<=140737488355328)=true):n*b<=140737488355328:=j5 (Nat.mul_le_mul_right _ h) (zj hk)
theorem LA{n k:Nat}(h:n<=k)(hk:decide (k<=maxLen)=true):n<=maxLen:=j5 h (zj hk)
theorem Fy{a:Int}{n:Nat}(h:a<=(n:Int)):a.toNat<=n:=by omega
theorem fR{α:Type}{l:Y0 α}{hi lo:Nat}(h:hi<=l.length):((l.take hi).drop lo).length=hi - lo:=by simp;omega
theorem ZM{v:Y2}{n n':Nat}(h:Shp v n)(e:n'=n):Shp v n':=e▸h
theorem Bp{i:Int}{n:Nat}(h:0<=i/\i<(n:Int)):0<n:=by omega
theorem It{a:Array Y2}(h:a.toList.all (λx=>x.oneCell')=true): ∀u∈a,u.oneCell'=true:=λu hu=>List.all_eq_true.1 h u (by simpa using hu)
theorem Fu{S l:Y0 Bl}(h:Sub (S++ []) l):Sub S l:=by rwa [List.append_nil] at h
def Ot:Enc Y3:=⟨λb=> [.bool b],1,Nat.one_pos,λ_=>Z,λ_ v h=>by simp at h;subst h;rfl,True⟩
def encY:Enc UInt8:=⟨λb=> [.int .u8 ((b.toNat:Nat):Int)],1,Nat.one_pos,λ_=>Z,λ_ v h=>by simp at h;subst h;rfl,True⟩
def Ca:Enc Int:=⟨λi=> [.int .i64 i],1,Nat.one_pos,λ_=>Z,λ_ v h=>by simp at h;subst h;rfl,True⟩
def nA:Enc (W4):=⟨λi=> [U i],1,Nat.one_pos,λ_=>Z,λ_ v h=>by simp at h;subst h;rfl,True⟩
def Aa4:Enc (W2):=⟨λs=> [.string ⟨s.toArray⟩],1,Nat.one_pos,λ_=>Z,λ_ v h=>by simp at h;subst h;rfl,True⟩
end Go.Eng
namespace Go.Eng
open Go Go.RowKit
section
variable {E:Env} {g:Y3} {ops:Array Oper} {K:(Nat->Y2)->Y0 Bl->Prop} {r:Y0 Oper} {T:Nat->Y2} {m:Nat} {d:Tmp} {ty:TypeId} {pos:String} {af:Array Edge}
theorem vM{l:Y0 Bl}{op:Op}(p:Pst)(hd:decide (d<E.n)=true)(hk:E.ks.find? (λx=>x.1==some d)=some (some d,false))(hsel:isSel op=false)(hm:decide (m<=l.length)=true)(hrun: ∀own nw w,Sees E l m own nw->(∀a v,cellA E own nw a=some v->w.cell? a=some v)->GenRun E.P (rd T) ⟨some d,op,ty,pos,af,none⟩ w p)(hcon: ∀args view v L U,E.con ⟨some d,op,ty,pos,af,none⟩ args view v L U↔p v L U)(hn:gF p)(h: ∀v L,p v L []->lx E g ops K r (upd T d v) (l++L) m):lx E g ops K (⟨some d,op,ty,pos,af,none⟩::r) T l m:=by
 refine r_g false p hd hk hsel hm (λhnd own nw hse=> ?_) (λv L U hp=> ?_)
 ·have hco:Ab6 E ⟨T,own,nw⟩ ⟨some d,op,ty,pos,af,none⟩=p:=by
   funext v L U;exact propext (hcon _ _ v L U)
  refine⟨⟨?_, ?_, ?_, ?_, ?_⟩, ?_⟩
  ·rw [hco];exact λ_=>hn.wit
  ·rw [hco];exact λv L U hp=>⟨(hn.nod v L U hp).1,by rw [(hn.nod v L U hp).2];exact List.nodup_nil⟩
  ·rw [hco];intro v L U hp x hx;rw [(hn.nod v L U hp).2] at hx;cases hx
  ·rw [hco];exact λ_ v L U hp=>(hn.nod v L U hp).2
  ·rw [hco]
   intro w _ hcell _
   exact hrun own nw w hse hcell
  ·rw [hco];exact λv L U hp=>hp
 ·obtain⟨_,rfl⟩:=hn.nod v L U hp
  exact⟨l,λ_=>PutU.nil _,h v L hp⟩
end
end Go.Eng
