import Derived.Test.YtjnanfkpdhmnpaaGreatDoorEng
namespace Go.Eng
open Go Go.RowKit
def ownL:Y0 Bl->Nat->Y1 (TypeId×Array Y2)
  | [],_=>none
  |(b,x)::l,i=>if i=b then some x else ownL l i
def nwL(l:Y0 Bl)(m:Nat):Nat->Y3:=λb=>(l.take m).any λx=>x.1==b
theorem PJ{l:Y0 Bl}(hn:(l.map (·.1)).Nodup){i b:Nat}{x:TypeId×Array Y2}(h:l[i]? =some (b,x)):ownL l b=some x:=by
  induction l generalizing i with
  |nil=>simp at h
  |cons y l ih=>
    obtain⟨c,y⟩:=y
    simp only [List.map_cons,List.nodup_cons] at hn
    cases i with
    |zero=>simp at h;obtain⟨rfl,rfl⟩:=h;simp [ownL]
    |succ i=>
      simp only [List.getElem?_cons_succ] at h
      have:b≠c:=by
        intro e;subst e
        exact hn.1 (List.mem_map.2 ⟨_,List.mem_of_getElem? h,Z⟩)
      simp only [ownL,V9 this]
      exact ih hn.2 h
theorem ST{l:Y0 Bl}{i b:Nat}{x y:TypeId×Array Y2}(h:l[i]? =some (b,x)):(l.set i (b,y)).map (·.1)=l.map (·.1):=by
  induction l generalizing i with
  |nil=>rfl
  |cons z l ih=>
    cases i with
    |zero=>simp at h;subst h;rfl
    |succ i=>simp only [List.getElem?_cons_succ] at h;simp only [List.set_cons_succ,List.map_cons,ih h]
theorem sp{l:Y0 Bl}(hn:(l.map (·.1)).Nodup){i m b:Nat}{x:TypeId×Array Y2}(h:l[i]? =some (b,x))(hm:m<=i):nwL l m b=false:=by
  unfold nwL
  induction l generalizing i m with
  |nil=>simp at h
  |cons z l ih=>
    simp only [List.map_cons,List.nodup_cons] at hn
    cases m with
    |zero=>simp
    |succ m=>
      cases i with
      |zero=>omega
      |succ i=>
        simp only [List.getElem?_cons_succ] at h
        have hne:z.1≠b:=by
          intro e;rw [e] at hn
          exact hn.1 (List.mem_map.2 ⟨_,List.mem_of_getElem? h,Z⟩)
        have h2:=ih hn.2 h (m:=m) (by omega)
        simp only [List.take_succ_cons,List.any_cons,h2,Bool.or_false,beq_eq_false_iff_ne]
        exact hne
theorem Be{α β:Type}{P:Program}{c:Addr->Y1 Y2}(s:Sem α)(f:α->Sem β):ev P c (s>>=f)=(ev P c s).bind λx=>ev P c (f x):=by
  show ev P c (s.bind f)=_
  induction s with
  |pure a=>rfl
  |load m a k ih=>
    cases m with
    |plain=>
      simp only [Sem.bind,ev]
      cases c a with
      |none=>rfl
      |some v=>exact ih v
    |atomic=>rfl
  |program k ih=>simp only [Sem.bind,ev];exact ih P
  |mark m k ih=>simp only [Sem.bind,ev];exact ih
  |_=>rfl
theorem Bv{α:Type}{P:Program}{c:Addr->Y1 Y2}(a:α):ev P c (pure a:Sem α)=some a:=Z
theorem SK{α β:Type}{P:Program}{c:Addr->Y1 Y2}(s:Sem α)(f:α->β):ev P c (f<$>s)=(ev P c s).map f:=by
  rw [map_eq_pure_bind,Be]
  cases ev P c s<;>rfl
theorem BK{P:Program}{c:Addr->Y1 Y2}{t:TypeId}{d:TypeDesc}(h:P.underlying t=some d):ev P c (underlying t)=some d:=by
  simp [underlying,program,Be,Bv,ev,h]
theorem Ie{P:Program}{c:Addr->Y1 Y2}{t:TypeId}{i:TypeInfo}(h:P.info? t=some i):ev P c (sizeOf t)=some i.size:=by
  simp [sizeOf,typeInfo,program,Be,Bv,ev,h]
theorem dz{P:Program}{c:Addr->Y1 Y2}{ty:TypeId}{d:TypeDesc}(h:P.underlying ty=some d):
    ev P c (isAgg ty)=some (match d with| .struct _| .array _ _=>true|_=>false):=by
  unfold isAgg
  rw [Be,BK h]
  cases d<;>rfl
theorem Vs{P:Program}{c:Addr->Y1 Y2}(a:Addr):ev P c (load a)=c a:=by
  unfold load;simp only [ev];cases c a<;>rfl
theorem dB{P:Program}{c:Addr->Y1 Y2}{b off:Nat}{cs:Array Y2}(hc: ∀k,c ⟨b,k,none⟩=cs[k]?): ∀(n i:Nat) (acc:Array Y2),off+i+n<=cs.size->
    ev P c (loadCellsFrom ⟨b,off,none⟩ i n acc)=some (acc++cs.extract (off+i) (off+i+n))
  |0,i,acc,_=>by
    have:cs.extract (off+i) (off+i+0)= #[]:=by apply Array.ext';simp
    rw [this,loadCellsFrom,Bv];simp
  |n+1,i,acc,h=>by
    have hadd:(⟨b,off,none⟩:Addr).add i=⟨b,off+i,none⟩:=by unfold Addr.add;split<;>simp_all
    have hlt:off+i<cs.size:=by omega
    have h1:ev P c (load ((⟨b,off,none⟩:Addr).add i))=some cs[off+i]:=by
      rw [hadd,Vs,hc,Array.getElem?_eq_getElem hlt]
    have ih:=dB (P:=P) (off:=off) hc n (i+1) (acc.push cs[off+i]) (by omega)
    rw [loadCellsFrom,Be,h1]
    simp only [q0]
    rw [ih]
    congr 1
    apply Array.ext'
    simp only [Array.toList_append,Array.toList_push,Array.toList_extract,j0]
    congr 1
    rw [List.extract_eq_take_drop,List.extract_eq_take_drop,show off+(i+1)+n - (off+(i+1))=n from by omega,show off+i+(n+1) - (off+i)=n+1 from by omega,show off+(i+1)=off+i+1 from by omega]
    have e:cs.toList.drop (off+i)=cs[off+i]::cs.toList.drop (off+i+1):=by
      rw [y3 (by simpa using hlt)];simp
    rw [e,List.take_succ_cons]
    rfl
theorem nq{P:Program}{c:Addr->Y1 Y2}{ty:TypeId}{b off:Nat}{cs:Array Y2}{v:Y2}(hc: ∀k,c ⟨b,k,none⟩=cs[k]?)(h:Iu P ty cs off=some v):ev P c (loadVar ty ⟨b,off,none⟩)=some v:=by
  have agg: ∀(i:TypeInfo),P.info? ty=some i->(if off=0/\i.size=cs.size then some (Value.agg cs)else if off+i.size<=cs.size then some (.agg (cs.extract off (off+i.size)))else none)=some v->
      ev P c (loadCells ⟨b,off,none⟩ i.size)=some (cs.extract off (off+i.size))/\v= .agg (cs.extract off (off+i.size)):=by
    intro i hi he
    have hle:off+i.size<=cs.size/\v= .agg (cs.extract off (off+i.size)):=by
      split at he
      · rename_i h0
        obtain⟨h0,h1⟩:=h0
        subst h0
        simp only [Option.some.injEq] at he
        subst he
        exact⟨by omega,by rw [h1];simp⟩
      · split at he
        · rename_i hle;simp only [Option.some.injEq] at he;exact⟨hle,he.symm⟩
        · cases he
    refine⟨?_,hle.2⟩
    have:=dB (P:=P) hc i.size 0 #[] (by simpa using hle.1)
    simpa [loadCells] using this
  unfold Iu at h
  unfold loadVar
  cases hu:P.underlying ty with
  |none=>simp [hu] at h
  |some d=>
    rw [Be,dz hu]
    cases d with
    |struct fs=>
      simp only [hu] at h
      cases hi:P.info? ty with
      |none=>simp [hi] at h
      |some i=>
        simp only [hi] at h
        obtain⟨h1,h2⟩:=agg i hi h
        simp only [q0,if_true,Be,Ie hi,h1,h2]
        rfl
    |array n e=>
      simp only [hu] at h
      cases hi:P.info? ty with
      |none=>simp [hi] at h
      |some i=>
        simp only [hi] at h
        obtain⟨h1,h2⟩:=agg i hi h
        simp only [q0,if_true,Be,Ie hi,h1,h2]
        rfl
    |_=>
      simp only [hu] at h
      simp only [q0,Bool.false_eq_true,if_false,Vs,hc,h]
theorem MP{E:Env}{own:Nat->Y1 (TypeId×Array Y2)}{nw:Nat->Y3}{b:Nat}{T:TypeId}{cs:Array Y2}(h:own b=some (T,cs))(hn:nw b=false)(k:Nat):cellA E own nw ⟨b,k,none⟩=cs[k]?:=by
  unfold cellA
  simp only [h,hn,Option.isSome_none,Bool.or_self,Bool.false_eq_true,if_false]
theorem Tb{l:Y0 Bl}{b:Nat}{x:TypeId×Array Y2}(h:ownL l b=some x): ∃i:Nat,l[i]? =some (b,x):=by
  induction l with
  |nil=>cases h
  |cons y l ih=>
    obtain⟨c,y⟩:=y
    simp only [ownL] at h
    split at h
    · rename_i he;subst he;cases h;exact⟨0,Z⟩
    · obtain⟨i,hi⟩:=ih h;exact⟨i+1,by simpa using hi⟩
theorem sq{l:Y0 Bl}{i m b:Nat}{x:TypeId×Array Y2}(h:l[i]? =some (b,x))(hm:i<m):nwL l m b=true:=by
  unfold nwL
  rw [List.any_eq_true]
  refine⟨(b,x), ?_,by simp⟩
  have h2:(l.take m)[i]? =some (b,x):=by rw [List.getElem?_take,V8 hm];exact h
  exact List.mem_of_getElem? h2
structure StOk(P:Program)(e:TypeId)(cs:Array Y2)(off:Nat)(vs:Array Y2):Prop where
  i: ∃i,P.info? e=some i/\vs.size=i.size
  le:off+vs.size<=cs.size
  one: ∀x∈vs,x.oneCell'=true
theorem StOk.of{P:Program}{e:TypeId}{cs:Array Y2}{off:Nat}{vs:Array Y2}{i:TypeInfo}(hi:P.info? e=some i)(h:(vs.size==i.size&&decide (off+vs.size<=cs.size)&&vs.toList.all (λx=>x.oneCell'))=true):StOk P e cs off vs:=by
  simp only [Bool.and_eq_true,beq_iff_eq,decide_eq_true_eq,List.all_eq_true] at h
  exact⟨⟨i,hi,h.1.1⟩,h.1.2,λx hx=>h.2 x (by simpa using hx)⟩
structure Sees(E:Env)(l:Y0 Bl)(m:Nat)(own:Nat->Y1 (TypeId×Array Y2))(nw:Nat->Y3):Prop where
  has: ∀(i:Nat) b x,l[i]? =some (b,x)->own b=some x/\nw b=decide (i<m)
  ro: ∀p v,E.ro p=some v->p.block<E.base/\own p.block=none
  non: ∀b,own b=none->nw b=false
def LQ(E:Env)(K:(Nat->Y2)->Y0 Bl->Prop)(s:St):Prop:= ∃l m,(l.map (·.1)).Nodup/\Sees E l m s.own s.nw/\K s.t l
def lx(E:Env)(g:Y3)(a:Array Oper)(K:(Nat->Y2)->Y0 Bl->Prop)(r:Y0 Oper)(t:Nat->Y2)(l:Y0 Bl)(m:Nat):Prop:=
  (l.map (·.1)).Nodup-> ∀own nw,Sees E l m own nw->lexK E g a (LQ E K) r ⟨t,own,nw⟩
theorem Sees.cell{E:Env}{l:Y0 Bl}{m:Nat}{own:Nat->Y1 (TypeId×Array Y2)}{nw:Nat->Y3}(h:Sees E l m own nw)(hn:(l.map (·.1)).Nodup): ∀a v,cellA E (ownL l) (nwL l m) a=some v->cellA E own nw a=some v:=by
  intro a v ha
  unfold cellA at ha
  cases ho:ownL l a.block with
  |none=>
    rw [ho] at ha
    simp only at ha
    split at ha
    · rename_i hlt
      unfold cellA
      rw [(h.ro a v ha).2]
      simp only [V8 hlt];exact ha
    · cases ha
  |some x=>
    obtain⟨i,hi⟩:=Tb ho
    obtain⟨h1,h2⟩:=h.has i _ _ hi
    rw [ho] at ha
    have h3:nwL l m a.block=nw a.block:=by
      rw [h2]
      by_cases him:i<m
      · rw [sq hi him];simp [him]
      · rw [sp hn hi (by omega)];simp [him]
    unfold cellA
    rw [h1,<-h3]
    exact ha
section
variable {E:Env} {g:Y3} {ops:Array Oper} {K:(Nat->Y2)->Y0 Bl->Prop} {r:Y0 Oper} {t:Nat->Y2} {l:Y0 Bl} {m:Nat}
  {d:Tmp} {op:Op} {ty:TypeId} {pos:String} {af:Array Edge}
theorem Aj(h:K t l):lx E g ops K [] t l m:=λhn _ _ hs=>⟨l,m,hn,hs,h⟩
theorem r_v(v:Y2){v0:Y2}(hk:kd op= .f)(hd:decide (d<E.n)=true)(he:v0=v)(hy:ev E.P E.ro (execOp (rd t) ⟨some d,op,ty,pos,af,none⟩)=some (.value v0))(h:lx E g ops K r (upd t d v) l m)(hpl:JA E.ks ⟨some d,op,ty,pos,af,none⟩:=by rfl):lx E g ops K (⟨some d,op,ty,pos,af,none⟩::r) t l m:=
  λhn own nw hs=>mG Z (Of hpl hk (by decide)) hd v (.inl (by rw [<-he];exact hy)) (h hn own nw hs)
theorem r_c(v:Y2)(hd:decide (d<E.n)=true)(f:FuncId)(args:Array Y2){c:Call}(hy:ev E.P E.ro (execOp (rd t) ⟨some d, .call c,ty,pos,af,none⟩)=some (.enter f args))(hg:Gives E.P f args v)(h:lx E g ops K r (upd t d v) l m)(hpl:JA E.ks ⟨some d, .call c,ty,pos,af,none⟩:=by rfl):lx E g ops K (⟨some d, .call c,ty,pos,af,none⟩::r) t l m:=
  λhn own nw hs=>mG Z (Of hpl Z (by decide)) hd v (.inr ⟨f,args,hy,hg⟩) (h hn own nw hs)
theorem r_y{j:Nat}{want:Y3}{dd:Y1 Tmp}(hw:Ee ops t j=some want)(hs:lx E g ops K (⟨dd,op,ty,pos,af,none⟩::r) t l m)(hcon: ∀args view,E.con ⟨dd,op,ty,pos,af,some (j,want)⟩ args view=E.con ⟨dd,op,ty,pos,af,none⟩ args view:=by intros;rfl):
    lx E g ops K (⟨dd,op,ty,pos,af,some (j,want)⟩::r) t l m:=by
  intro hn own nw hse
  obtain⟨ks,con,hkc,h1,h2⟩:=hs hn own nw hse
  have e1:Region.wanted ⟨dd,op,ty,pos,af,some (j,want)⟩ (Ee ops t)=true:=by simp [Region.wanted,hw]
  have e2:Region.wanted ⟨dd,op,ty,pos,af,none⟩ (Ee ops t)=true:=Z
  have main: ∀con2:Con,(∀args view,con2 ⟨dd,op,ty,pos,af,some (j,want)⟩ args view=con ⟨dd,op,ty,pos,af,none⟩ args view)->
      OkW {E with ks:=ks,con:=con2} g ops ⟨dd,op,ty,pos,af,some (j,want)⟩ ⟨t,own,nw⟩/\ ∀s',NxW {E with ks:=ks,con:=con2} g ops ⟨dd,op,ty,pos,af,some (j,want)⟩ ⟨t,own,nw⟩ s'->lexK E g ops (LQ E K) r s':=by
    intro con2 hcon2
    have key: ∀s e,s.t=t->(Aa9 {E with ks:=ks,con:=con2} g ops ⟨dd,op,ty,pos,af,some (j,want)⟩ s e↔Aa9 {E with ks:=ks,con:=con} g ops ⟨dd,op,ty,pos,af,none⟩ s e):=by
      intro s e hs
      have hc: ∀s,Ab6 {E with ks:=ks,con:=con2} s ⟨dd,op,ty,pos,af,some (j,want)⟩=Ab6 {E with ks:=ks,con:=con} s ⟨dd,op,ty,pos,af,none⟩:=λs=>hcon2 _ _
      have hg: ∀s mu,GenOk {E with ks:=ks,con:=con2} g s ⟨dd,op,ty,pos,af,some (j,want)⟩ mu↔GenOk {E with ks:=ks,con:=con} g s ⟨dd,op,ty,pos,af,none⟩ mu:=λs mu=>
        ⟨λh=>⟨by rw [<-hc];exact h.wit,by rw [<-hc];exact h.nod,by rw [<-hc];exact h.upO,by rw [<-hc];exact h.pur,λw a b c=>by rw [<-hc];exact h.run w a b c⟩,
         λh=>⟨by rw [hc];exact h.wit,by rw [hc];exact h.nod,by rw [hc];exact h.upO,by rw [hc];exact h.pur,λw a b c=>by rw [hc];exact h.run w a b c⟩⟩
      have hk:kdo ks g ops ⟨dd,op,ty,pos,af,some (j,want)⟩=kdo ks g ops ⟨dd,op,ty,pos,af,none⟩:=Z
      unfold Aa9
      rw [hs,V8 e1,V8 e2]
      simp only [hk]
      cases kdo ks g ops ⟨dd,op,ty,pos,af,none⟩<;>simp only
      · rfl
      · rfl
      · rfl
      · rfl
      · rfl
      · rw [hg,hc]
      · rw [hg,hc]
      · rfl
      · rw [hg,hc]
    refine⟨⟨h1.1, ?_⟩,λs' hs'=> ?_⟩
    · obtain⟨e,he⟩:=h1.2;exact⟨e,(key _ e Z).2 he⟩
    · obtain⟨e,he,hdo⟩:=hs'
      exact h2 s' ⟨e,(key _ e Z).1 he,by cases e<;>exact hdo⟩
  by_cases hg1:g=true
  · obtain⟨rfl,rfl⟩:=hkc hg1
    exact⟨E.ks,E.con,λ_=>⟨Z,Z⟩,main E.con hcon⟩
  · exact⟨ks,λ_=>con ⟨dd,op,ty,pos,af,none⟩,λh=>absurd h hg1,main _ (λ_ _=>Z)⟩
theorem Sees.set{own:Nat->Y1 (TypeId×Array Y2)}{nw:Nat->Y3}(h:Sees E l m own nw)(hn:(l.map (·.1)).Nodup){i b:Nat}{x y:TypeId×Array Y2}(hl:l[i]? =some (b,x)):Sees E (l.set i (b,y)) m (upd own b (some y)) nw:=by
  obtain⟨h1,h2⟩:=h.has i b x hl
  refine⟨λj c z hj=> ?_,λp v hp=>⟨(h.ro p v hp).1, ?_⟩,λc hc=> ?_⟩
  · rw [List.getElem?_set] at hj
    split at hj
    · rename_i hij
      subst hij
      split at hj
      · cases hj;exact⟨Ef _ _ _,h2⟩
      · cases hj
    · rename_i hij
      obtain⟨g1,g2⟩:=h.has j c z hj
      have hcb:c≠b:=by
        intro e;subst e
        have e1:(l.map (·.1))[i]? =some c:=by rw [List.getElem?_map,hl];rfl
        have e2:(l.map (·.1))[j]? =some c:=by rw [List.getElem?_map,hj];rfl
        obtain⟨hi',e1⟩:=List.getElem?_eq_some_iff.1 e1
        obtain⟨hj',e2⟩:=List.getElem?_eq_some_iff.1 e2
        exact hij ((List.getElem_inj hn).1 (e1.trans e2.symm))
      rw [Cg _ _ hcb];exact⟨g1,g2⟩
  · have:=(h.ro p v hp).2
    rw [Cg _ _ (by intro e;rw [e,h1] at this;cases this)];exact this
  · by_cases e:c=b
    · subst e;rw [Ef] at hc;cases hc
    · rw [Cg _ _ e] at hc;exact h.non c hc
theorem r_l(v:Y2)(i b off:Nat)(T:TypeId)(cs:Array Y2){e:TypeId}{p:Operand}(hd:decide (d<E.n)=true)(hp:rd t p= .pointer (some ⟨b,off,none⟩))(hl:l[i]? =some (b,T,cs))(hm:decide (m<=i)=true)(hv:Iu E.P e cs off=some v)(h:lx E g ops K r (upd t d v) l m)(hpl:JA E.ks ⟨some d, .load e p,ty,pos,af,none⟩:=by rfl):lx E g ops K (⟨some d, .load e p,ty,pos,af,none⟩::r) t l m:=
  λhn own nw hs=>Wm Z (Of hpl Z (by decide)) hd v (by
    obtain⟨g1,g2⟩:=hs.has i _ _ hl
    unfold loadOf
    have h1:ev E.P (cellA E own nw) (execOp (rd t) ⟨some d, .load e p,ty,pos,af,none⟩)=some (.value v):=by
      show ev E.P (cellA E own nw) (do pure (Next.value (<-Instr.loadAt e (rd t p))))=_
      rw [hp,Be]
      show(ev E.P (cellA E own nw) (loadVar e ⟨b,off,none⟩)).bind _=_
      rw [nq (MP g1 (by rw [g2];have:=zj hm;simp;omega)) hv]
      rfl
    show(match ev E.P (cellA E own nw) (execOp (rd t) ⟨some d, .load e p,ty,pos,af,none⟩)with|some (.value v)=>some v|_=>none)=some v
    rw [h1]) (h hn own nw hs)
theorem cg(v:Y2)(i b off:Nat)(T:TypeId)(cs:Array Y2){e:TypeId}{p:Operand}(hd:decide (d<E.n)=true)(hp:rd t p= .pointer (some ⟨b,off,none⟩))(hl:l[i]? =some (b,T,cs))(hm:decide (m<=i)=true)(hv:Iu E.P e cs off=some v)(hb:b ∉ E.hid)(h:lx E g ops K r (upd t d v) l m)(hpl:gE E.ks ⟨some d, .load e p,ty,pos,af,none⟩:=by rfl):lx E g ops K (⟨some d, .load e p,ty,pos,af,none⟩::r) t l m:=
  λhn own nw hs=>IJ (e:= .val v) hd (by
    unfold Aa9;rw [V8 (Kn Z _)];simp only [yf hpl]
    refine⟨v, ?_,Z⟩
    obtain⟨g1,g2⟩:=hs.has i _ _ hl
    unfold loadH
    have h1:ev E.P (Jw E own nw) (execOp (rd t) ⟨some d, .load e p,ty,pos,af,none⟩)=some (.value v):=by
      show ev E.P (Jw E own nw) (do pure (Next.value (<-Instr.loadAt e (rd t p))))=_
      rw [hp,Be]
      show(ev E.P (Jw E own nw) (loadVar e ⟨b,off,none⟩)).bind _=_
      rw [nq (λk=>by unfold Jw;rw [V9 hb];exact MP g1 (by rw [g2];have:=zj hm;simp;omega) k) hv]
      rfl
    show(match ev E.P (Jw E own nw) (execOp (rd t) ⟨some d, .load e p,ty,pos,af,none⟩)with|some (.value v)=>some v|_=>none)=some v
    rw [h1]) (λs' hs'=>by simp only [Do] at hs';subst hs';exact h hn own nw hs)
theorem r_w(v:Y2){v0:Y2}(hk:kd op= .l)(hd:decide (d<E.n)=true)(he:v0=v)(hy:(l.map (·.1)).Nodup->ev E.P (cellA E (ownL l) (nwL l m)) (execOp (rd t) ⟨some d,op,ty,pos,af,none⟩)=some (.value v0))(h:lx E g ops K r (upd t d v) l m)(hpl:JA E.ks ⟨some d,op,ty,pos,af,none⟩:=by rfl):lx E g ops K (⟨some d,op,ty,pos,af,none⟩::r) t l m:=
  λhn own nw hs=>Wm Z (Of hpl hk (by decide)) hd v (by
    unfold loadOf
    show(match ev E.P (cellA E own nw) (execOp (rd t) ⟨some d,op,ty,pos,af,none⟩)with|some (.value v)=>some v|_=>none)=some v
    rw [bn (hs.cell hn) _ _ (hy hn),he]) (h hn own nw hs)
theorem r_a(x:TypeId×Array Y2)(hk:kd op= .a)(hd:decide (d<E.n)=true)(hx:allocOf E.P t ⟨some d,op,ty,pos,af,none⟩=some x)(h: ∀b,lx E g ops K r (upd t d (.pointer (some ⟨b,0,none⟩))) ((b,x)::l) (if g then m+1 else m))(hm:g=true\/m=0)(hpl:JA E.ks ⟨some d,op,ty,pos,af,none⟩:=by rfl):lx E g ops K (⟨some d,op,ty,pos,af,none⟩::r) t l m:=
  λhn own nw hs=>wD Z (Of hpl hk (by decide)) hd x hx (λb hbase hb=>by
    have hbl: ∀i c y,l[i]? =some (c,y)->c≠b:=λi c y hi e=>by subst e;change own c=none at hb;rw [(hs.has i _ _ hi).1] at hb;cases hb
    have hnd:(((b,x)::l).map (·.1)).Nodup:=by
      simp only [List.map_cons,List.nodup_cons]
      refine⟨λhin=> ?_,hn⟩
      obtain⟨⟨c,y⟩,hy,e⟩:=List.mem_map.1 hin
      obtain⟨i,hi⟩:=List.getElem?_of_mem hy
      exact hbl i c y hi e
    refine h b hnd _ _ ⟨λi c y hi=> ?_,λp v hp=>⟨(hs.ro p v hp).1, ?_⟩,λc hc=> ?_⟩
    · cases i with
      |zero=>
        simp only [List.getElem?_cons_zero,Option.some.injEq,Prod.mk.injEq] at hi
        obtain⟨rfl,rfl⟩:=hi
        refine⟨Ef _ _ _, ?_⟩
        rcases hm with rfl|rfl
        · simp [Ef]
        · cases g
          · simp only [Bool.false_eq_true,if_false];rw [hs.non _ hb];rfl
          · simp [Ef]
      |succ i=>
        simp only [List.getElem?_cons_succ] at hi
        obtain⟨g1,g2⟩:=hs.has i c y hi
        have hcb:=hbl i c y hi
        refine⟨by show upd own b _ c=_;rw [Cg _ _ hcb];exact g1, ?_⟩
        rcases hm with rfl|rfl
        · simp only [if_true];rw [Cg _ _ hcb,g2];simp
        · cases g
          · simp only [Bool.false_eq_true,if_false];rw [g2];simp
          · simp only [if_true];rw [Cg _ _ hcb,g2];simp
    · have h1:=(hs.ro p v hp).1
      show upd own b _ p.block=none
      rw [Cg _ _ (by have:E.base<=b:=hbase;omega)];exact(hs.ro p v hp).2
    · by_cases e:c=b
      · subst e;simp [Ef] at hc
      · have hc':own c=none:=by change upd own b _ c=none at hc;rwa [Cg _ _ e] at hc
        show(if g then upd nw b true else nw) c=false
        cases g
        · simpa using hs.non c hc'
        · simp only [if_true];rw [Cg _ _ e];exact hs.non c hc')
theorem az{ks:Y0 (Y1 Tmp×Y3)}{g:Y3}{ops:Array Oper}{o:Oper}{k:Kd}(hp:JA ks o)(h:kdg g ops o=k):kdo ks g ops o=k:=(Zh hp).trans h
theorem r_s(lN:Y0 Bl)(i b off:Nat)(T:TypeId)(cs vs cs':Array Y2){e:TypeId}{p x:Operand}(hk:kdg g ops ⟨none, .store e p x,ty,pos,af,none⟩= .s)(hp:rd t p= .pointer (some ⟨b,off,none⟩))(hl:l[i]? =some (b,T,cs))(hx:(rd t x).cells=vs)(hs:StOk E.P e cs off vs)(he:Jc cs off vs=cs')(hN:l.set i (b,T,cs')=lN)(h:lx E g ops K r t lN m)(hpl:JA E.ks ⟨none, .store e p x,ty,pos,af,none⟩:=by rfl)(hgh:goodk E.ks none=false\/b∈E.hid:=by first|exact .inl Z|exact .inr (by simp)):lx E g ops K (⟨none, .store e p x,ty,pos,af,none⟩::r) t l m:=
  λhn own nw hse=>fO Z (az hpl hk) Z b (T,cs') (by
    obtain⟨ii,hi,hsz⟩:=hs.i
    exact⟨off,T,cs,ii,hp,(hse.has i _ _ hl).1,hi,by rw [hx];exact hsz,by rw [hx];exact hs.le,by rw [hx];exact hs.one,by rw [hx,he]⟩) (by
    subst hN
    exact h (by rw [ST hl];exact hn) _ _ (hse.set hn hl)) hgh
theorem rP(lN:Y0 Bl)(i b off:Nat)(T:TypeId)(cs vs cs':Array Y2){e:TypeId}{p x:Operand}(hk:kdg g ops ⟨none, .store e p x,ty,pos,af,none⟩= .s)(hp:rd t p= .pointer (some ⟨b,off,none⟩))(hl:l[i]? =some (b,T,cs))(hx:(rd t x).cells=vs)(hs:StOk E.P e cs off vs)(he:Jc cs off vs=cs')(hN:l.set i (b,T,cs')=lN)(hgh:b∈E.hid)(h:lx E g ops K r t lN m)(hpl:JA E.ks ⟨none, .store e p x,ty,pos,af,none⟩:=by rfl):lx E g ops K (⟨none, .store e p x,ty,pos,af,none⟩::r) t l m:=
  λhn own nw hse=>fO Z (az hpl hk) Z b (T,cs') (by
    obtain⟨ii,hi,hsz⟩:=hs.i
    exact⟨off,T,cs,ii,hp,(hse.has i _ _ hl).1,hi,by rw [hx];exact hsz,by rw [hx];exact hs.le,by rw [hx];exact hs.one,by rw [hx,he]⟩) (by
    subst hN
    exact h (by rw [ST hl];exact hn) _ _ (hse.set hn hl)) (.inr hgh)
theorem ZX(lN:Y0 Bl)(i b off:Nat)(T:TypeId)(cs vs cs':Array Y2){e:TypeId}{p x:Operand}(hk:kdg g ops ⟨none, .store e p x,ty,pos,af,none⟩= .n)(hp:rd t p= .pointer (some ⟨b,off,none⟩))(hl:l[i]? =some (b,T,cs))(hm:decide (i<m)=true)(hx:(rd t x).cells=vs)(hs:StOk E.P e cs off vs)(he:Jc cs off vs=cs')(hN:l.set i (b,T,cs')=lN)(h:lx E g ops K r t lN m)(hpl:JA E.ks ⟨none, .store e p x,ty,pos,af,none⟩:=by rfl):lx E g ops K (⟨none, .store e p x,ty,pos,af,none⟩::r) t l m:=
  λhn own nw hse=>wB Z (az hpl hk) Z b (T,cs') (by
    obtain⟨ii,hi,hsz⟩:=hs.i
    exact⟨off,T,cs,ii,hp,(hse.has i _ _ hl).1,hi,by rw [hx];exact hsz,by rw [hx];exact hs.le,by rw [hx];exact hs.one,by rw [hx,he]⟩) (by
    show nw b=true
    rw [(hse.has i _ _ hl).2];exact hm) (by
    subst hN
    exact h (by rw [ST hl];exact hn) _ _ (hse.set hn hl))
structure PutU(l U l1:Y0 Bl):Prop where
  same:l1.map (·.1)=l.map (·.1)
  has: ∀(i:Nat) b x,l1[i]? =some (b,x)->(b,x)∈U\/((∀y∈U,y.1≠b)/\l[i]? =some (b,x))
theorem PutU.nil(l:Y0 Bl):PutU l [] l:=⟨Z,λ_ _ _ h=> .inr ⟨(λ_ hy=>nomatch hy),h⟩⟩
theorem PutU.one{l:Y0 Bl}(hn:(l.map (·.1)).Nodup){i b:Nat}{x y:TypeId×Array Y2}(hl:l[i]? =some (b,x)):PutU l [(b,y)] (l.set i (b,y)):=by
  refine⟨ST hl,λj c z hj=> ?_⟩
  rw [List.getElem?_set] at hj
  split at hj
  · split at hj
    · cases hj;exact .inl (by simp)
    · cases hj
  · rename_i hij
    refine .inr ⟨λy hy e=> ?_,hj⟩
    simp only [zi] at hy
    subst hy
    subst e
    have e1:(l.map (·.1))[i]? =some b:=by rw [List.getElem?_map,hl];rfl
    have e2:(l.map (·.1))[j]? =some b:=by rw [List.getElem?_map,hj];rfl
    obtain⟨hi',e1⟩:=List.getElem?_eq_some_iff.1 e1
    obtain⟨hj',e2⟩:=List.getElem?_eq_some_iff.1 e2
    exact hij ((List.getElem_inj hn).1 (e1.trans e2.symm))
theorem r_g{dd:Y1 Tmp}(mu:Y3)(p:Pst)(hd:(match dd with|some d=>decide (d<E.n)|none=>true)=true)(hk:E.ks.find? (λx=>x.1==dd)=some (dd,mu))(hsel:isSel op=false)(hm:decide (m<=l.length)=true)(H:(l.map (·.1)).Nodup-> ∀own nw,Sees E l m own nw->GenOk E g ⟨t,own,nw⟩ ⟨dd,op,ty,pos,af,none⟩ mu/\ ∀v L U,Ab6 E ⟨t,own,nw⟩ ⟨dd,op,ty,pos,af,none⟩ v L U->p v L U)(h: ∀v L U,p v L U-> ∃l1,((l.map (·.1)).Nodup->PutU l U l1)/\lx E g ops K r (putT t dd v) (l1++L) m):lx E g ops K (⟨dd,op,ty,pos,af,none⟩::r) t l m:=
  λhn own nw hs=>by
    obtain⟨hG,hp⟩:=H hn own nw hs
    refine wC Z mu (by unfold kdo;rw [show List.find? (λx:Y1 Tmp×Y3=>x.1==(Oper.dst ⟨dd,op,ty,pos,af,none⟩)) E.ks=some (dd,mu)from hk];simp [hsel]) hd hG (λv L U hc hL=> ?_)
    obtain⟨l1,hu,hlx⟩:=h v L U (hp v L U hc)
    have hU:=hu hn
    obtain⟨hnd,hndU⟩:=hG.nod v L U hc
    have hLl: ∀x∈L,∀y∈l,x.1≠y.1:=λx hx y hy e=>by
      obtain⟨i,hi⟩:=List.getElem?_of_mem hy
      have h1:=(hs.has i y.1 y.2 hi).1
      have h2:=(hL x hx).2
      change own x.1=none at h2
      rw [<-e,h2] at h1;cases h1
    have hlen:l1.length=l.length:=by have:=congrArg List.length hU.same;simpa using this
    have hUo: ∀x∈U,∀y∈L,x.1≠y.1:=λx hx y hy e=>by
      obtain⟨⟨z,hz⟩,_⟩:=hG.upO v L U hc x hx
      have h2:=(hL y hy).2
      change own x.1=some z at hz;change own y.1=none at h2
      rw [<-e,hz] at h2;cases h2
    refine hlx ?_ _ _ ⟨λi b x hi=> ?_,λq u hq=>⟨(hs.ro q u hq).1, ?_⟩,λb hb=> ?_⟩
    · rw [List.map_append,hU.same]
      refine List.nodup_append.2 ⟨hn,hnd,λa ha b hb e=> ?_⟩
      obtain⟨y,hy,rfl⟩:=List.mem_map.1 ha
      obtain⟨x,hx,rfl⟩:=List.mem_map.1 hb
      exact hLl x hx y hy e.symm
    · rw [List.getElem?_append] at hi
      split at hi
      · rename_i hlt
        have hbl: ∃y,l[i]? =some (b,y):=by
          have e1:(l1.map (·.1))[i]? =some b:=by rw [List.getElem?_map,hi];rfl
          rw [hU.same,List.getElem?_map] at e1
          cases hli:l[i]? with
          |none=>rw [hli] at e1;cases e1
          |some z=>rw [hli] at e1;simp only [Option.map_some,Option.some.injEq] at e1;exact⟨z.2,by rw [<-e1]⟩
        obtain⟨y,hy⟩:=hbl
        have hnL: ∀z∈L,z.1≠b:=λz hz e=>hLl z hz (b,y) (List.mem_of_getElem? hy) e
        refine⟨?_,by show seen L nw b=_;rw [Jf hnL];exact(hs.has i b y hy).2⟩
        show over L (over U own) b=some x
        rw [Dv hnL]
        rcases hU.has i b x hi with h1|⟨h1,h2⟩
        · exact Mm (x:=(b,x)) hndU h1
        · rw [Dv h1];exact(hs.has i b x h2).1
      · rename_i hge
        have hmem:=List.mem_of_getElem? hi
        refine⟨Mm (x:=(b,x)) hnd hmem, ?_⟩
        show seen L nw b=_
        rw [Rf (x:=(b,x)) hmem]
        have:=zj hm
        symm;simp;omega
    · have h1:=(hs.ro q u hq).2
      show over L (over U own) q.block=none
      have hb:=(hs.ro q u hq).1
      rw [Dv (λx hx e=>by have:=(hL x hx).1;change E.base<=x.1 at this;omega),Dv (λx hx e=>by
        obtain⟨⟨z,hz⟩,_⟩:=hG.upO v L U hc x hx
        change own x.1=some z at hz
        rw [e,h1] at hz;cases hz)]
      exact h1
    · have hb':over L (over U own) b=none:=hb
      have n1: ∀x∈L,x.1≠b:=λx hx e=>by subst e;rw [Mm hnd hx] at hb';cases hb'
      show seen L nw b=false
      rw [Jf n1]
      rw [Dv n1] at hb'
      refine hs.non b ?_
      unfold over at hb'
      split at hb'
      · cases hb'
      · exact hb'
end
abbrev QL:=Exit->(Nat->Y2)->Y0 Bl->Prop
def nonw:Nat->Y3:=λ_=>false
def gL(K:(Nat->Y2)->Y0 Bl->Prop)(Q:QL):QL
  | .normal,t,l=>K t l
  |e,t,l=>Q e t l
def gt(a:Nat)(Q:QL):QL
  | .exit id',t,l=>if id'=a then Q .normal t l else Q (.exit id') t l
  |e,t,l=>Q e t l
def SimL(E:Env)(b:World)(t:Nat->Y2)(l:Y0 Bl)(a:Act)(w:World):Prop:=(l.map (·.1)).Nodup/\Sim E b ⟨t,ownL l,nonw⟩ a w
def PostL(E:Env)(b:World)(Q:QL):Exit->Act->World->Prop:=λe a w=> ∃t l,Q e t l/\SimL E b t l a w
def A(E:Env)(c:Code)(Q:QL)(t:Nat->Y2)(l:Y0 Bl):Prop:= ∀w0 a w,E.P.follows .mixedOrders=true->SimL E w0 t l a w->c.wp E.P (PostL E w0 Q) a w
structure Sub(l' l:Y0 Bl):Prop where
  mem: ∀x∈l',x∈l
  nod:(l.map (·.1)).Nodup->(l'.map (·.1)).Nodup
theorem Sub.of{l' l:Y0 Bl}(h:l'.Sublist l):Sub l' l:=⟨λ_ hx=>h.subset hx,λhn=>(h.map _).nodup hn⟩
theorem Sub.sim{E:Env}{w0 w:World}{t:Nat->Y2}{l l':Y0 Bl}{a:Act}(h:Sub l' l)(hs:SimL E w0 t l a w):SimL E w0 t l' a w:=by
  refine⟨h.nod hs.1,hs.2.dfr,hs.2.sz,hs.2.tm,hs.2.bel,hs.2.bs,hs.2.ro,λb T cs ho=>hs.2.own b T cs ?_,hs.2.iv⟩
  have hm: ∀{l:Y0 Bl} {b:Nat} {x:TypeId×Array Y2},ownL l b=some x->(b,x)∈l:=by
    intro l b x h
    induction l with
    |nil=>cases h
    |cons y l ih=>
      obtain⟨c,y⟩:=y
      simp only [ownL] at h
      split at h
      · rename_i he;subst he;cases h;simp
      · exact List.mem_cons_of_mem _ (ih h)
  have h2:=h.mem _ (hm ho)
  obtain⟨i,hi⟩:=List.getElem?_of_mem h2
  exact PJ hs.1 hi
structure Fg(J:(Nat->Y2)->Y0 Bl->Prop)(t:Nat->Y2)(l:Y0 Bl):Prop where
  out: ∃l',Sub l' l/\J t l'
section
variable {E:Env} {Q:QL} {t:Nat->Y2} {l:Y0 Bl}
theorem BF{c':Code}(l':Y0 Bl)(hs:Sub l' l)(h:A E c' Q t l'):A E c' Q t l:=λw0 a w hm hsim=>h w0 a w hm (hs.sim hsim)
theorem AN{t:Nat->Y2}:Sep [] t:=λ_ h=>by simp at h
theorem SimL.sees{w0 w:World}{a:Act}(hs:SimL E w0 t l a w):Sees E l 0 (ownL l) nonw:=
  ⟨λi b x hi=>⟨PJ hs.1 hi,by simp [nonw]⟩,λp v hp=>by
    obtain⟨h1,h2,_⟩:=hs.2.ro p v hp
    refine⟨h1, ?_⟩
    cases ho:ownL l p.block with
    |none=>rfl
    |some x=>
      rcases(hs.2.own p.block x.1 x.2 ho).1 with h3|h3
      · omega
      · exact absurd h3 h2,λ_ _=>Z⟩
theorem Sees.simL{m:Nat}{own:Nat->Y1 (TypeId×Array Y2)}{nw:Nat->Y3}{E':Env}(h:Sees E' l m own nw)(hn:(l.map (·.1)).Nodup){w0 w:World}{a:Act}(hs:Sim E w0 ⟨t,own,nw⟩ a w):SimL E w0 t l a w:=
  ⟨hn,hs.dfr,hs.sz,hs.tm,hs.bel,hs.bs,hs.ro,λb T cs ho=>by
    obtain⟨i,hi⟩:=Tb ho
    exact hs.own b T cs (h.has i _ _ hi).1,hs.iv⟩
theorem Sim.with{ks:Y0 (Y1 Tmp×Y3)}{con:Con}{hid:Y0 Nat}{w0 w:World}{s:St}{a:Act}(h:Sim E w0 s a w):Sim {E with ks:=ks,con:=con,hid:=hid} w0 s a w:=⟨h.dfr,h.sz,h.tm,h.bel,h.bs,h.ro,h.own,h.iv⟩
theorem Sim.without{ks:Y0 (Y1 Tmp×Y3)}{con:Con}{hid:Y0 Nat}{w0 w:World}{s:St}{a:Act}(h:Sim {E with ks:=ks,con:=con,hid:=hid} w0 s a w):Sim E w0 s a w:=⟨h.dfr,h.sz,h.tm,h.bel,h.bs,h.ro,h.own,h.iv⟩
theorem rp{id:Nat}{r:Y0 Oper}(ks:Y0 (Y1 Tmp×Y3))(con:Con)(h:lx {E with ks:=ks,con:=con} false r.toArray (Q .normal) r t l 0):A E (.region id r.toArray false) Q t l:=λw0 a w _ hs=>by
  have h1:=h hs.1 (ownL l) nonw ⟨hs.sees.has,hs.sees.ro,hs.sees.non⟩
  refine wp_region_list (Sim.list (E:={E with ks:=ks,con:=con}) (w0:=w0) (Q':=PostL E w0 Q) (λs a w hk hs=> ?_) _ _ a w hs.2.with h1)
  obtain⟨l',m',hn',hse,hq⟩:=hk
  exact⟨s.t,l',hq,hse.simL hn' hs.without⟩
theorem Ah{id:Nat}{r:Y0 Oper}(h:lx E false r.toArray (Q .normal) r t l 0):A E (.region id r.toArray false) Q t l:=rp E.ks E.con h
theorem Sy(ops:Array Oper):pick ops (List.range ops.size)=ops.toList:=by
  unfold pick
  apply List.ext_getElem?
  intro i
  have: ∀(n k:Nat),k+n=ops.size->List.filterMap (λi=>ops[i]?) (List.range' k n)=ops.toList.drop k:=by
    intro n
    induction n with
    |zero=>intro k hk;simp;omega
    |succ n ih=>
      intro k hk
      have hlt:k<ops.size:=by omega
      rw [List.range'_succ,List.filterMap_cons,Array.getElem?_eq_getElem hlt]
      simp only
      rw [ih (k+1) (by omega)]
      have e:=y3 (l:=ops.toList) (i:=k) (by simpa using hlt)
      rw [e];simp
  rw [List.range_eq_range',this ops.size 0 (by omega)]
  rfl
theorem kn{ks:Y0 (Y1 Tmp×Y3)}{d:Y1 Tmp}(h:goodk ks d=true):hmk ks=true:=by
  obtain⟨x,hx,he⟩:=List.any_eq_true.1 h
  refine List.any_eq_true.2 ⟨x,hx, ?_⟩
  simp only [Bool.and_eq_true,beq_iff_eq] at he
  unfold wK
  rw [he.2]
  simp only [he.1,Bool.true_and]
  exact zl (Nat.le_add_right _ _)
theorem rq{id:Nat}{r:Y0 Oper}(ks:Y0 (Y1 Tmp×Y3))(con:Con)(hid:Y0 Nat)(ps:Y0 (Nat×Nat))(π:Y0 Nat)(hB:VY ks r.toArray ps π=true)(hS:(l.map (·.1)).Nodup->Sep ps t)(hH:XC {E with ks:=ks,con:=con,hid:=hid} r.toArray)(h:(l.map (·.1)).Nodup->lx {E with ks:=ks,con:=con,hid:=hid} true r.toArray (Q .normal) (pick r.toArray π) t l 0):A E (.region id r.toArray true) Q t l:=λw0 a w hm hs=>by
  have h1:=h hs.1 hs.1 (ownL l) nonw ⟨hs.sees.has,hs.sees.ro,hs.sees.non⟩
  have h':Sim {E with ks:=ks,con:=con,hid:=hid} w0 ⟨t,ownL l,nonw⟩ a {w with drawn:=w.drawn+1}:=hs.2.draw.with
  simp only [VY,Bool.and_eq_true,beq_iff_eq,List.all_eq_true,decide_eq_true_eq] at hB
  obtain⟨⟨⟨hp,hB⟩,hlen⟩,hall⟩:=hB
  have h2:=Xy (E:={E with ks:=ks,con:=con,hid:=hid}) hH hp π (Array.replicate r.toArray.size false) ⟨t,ownL l,nonw⟩ h'.fin (hS hs.1) hall hB h1
  rw [hlen] at h2
  refine wp_region_any hm (Sim.any (E:={E with ks:=ks,con:=con,hid:=hid}) (w0:=w0) (Q':=PostL E w0 Q) (λs a w hk hs=> ?_) _ _ _ _ _ h' h2)
  obtain⟨l',m',hn',hse,hq⟩:=hk
  exact⟨s.t,l',hq,hse.simL hn' hs.without⟩
theorem jw{id:Nat}{r:Y0 Oper}(ks:Y0 (Y1 Tmp×Y3))(con:Con)(ps:Y0 (Nat×Nat))(π:Y0 Nat)(hB:VY ks r.toArray ps π=true)(hS:(l.map (·.1)).Nodup->Sep ps t)(h:lx {E with ks:=ks,con:=con} true r.toArray (Q .normal) (pick r.toArray π) t l 0)(hg:hmk ks=false:=by rfl):A E (.region id r.toArray true) Q t l:=λw0 a w hm hs=>by
  have hH:XC {E with ks:=ks,con:=con} r.toArray:=λo _ hgo=>by
    have:=kn hgo
    rw [show hmk ({E with ks:=ks,con:=con}:Env).ks=false from hg] at this
    cases this
  have h1:=h hs.1 (ownL l) nonw ⟨hs.sees.has,hs.sees.ro,hs.sees.non⟩
  have h':Sim {E with ks:=ks,con:=con} w0 ⟨t,ownL l,nonw⟩ a {w with drawn:=w.drawn+1}:=hs.2.draw.with
  simp only [VY,Bool.and_eq_true,beq_iff_eq,List.all_eq_true,decide_eq_true_eq] at hB
  obtain⟨⟨⟨hp,hB⟩,hlen⟩,hall⟩:=hB
  have h2:=Xy (E:={E with ks:=ks,con:=con}) hH hp π (Array.replicate r.toArray.size false) ⟨t,ownL l,nonw⟩ h'.fin (hS hs.1) hall hB h1
  rw [hlen] at h2
  refine wp_region_any hm (Sim.any (E:={E with ks:=ks,con:=con}) (w0:=w0) (Q':=PostL E w0 Q) (λs a w hk hs=> ?_) _ _ _ _ _ h' h2)
  obtain⟨l',m',hn',hse,hq⟩:=hk
  exact⟨s.t,l',hq,hse.simL hn' hs.without⟩
theorem HS{id:Nat}{r:Y0 Oper}(ps:Y0 (Nat×Nat))(hB:ya r.toArray ps=true)(hS:(l.map (·.1)).Nodup->Sep ps t)(h:lx {E with ks:=[]} true r.toArray (Q .normal) r t l 0):A E (.region id r.toArray true) Q t l:=
  jw [] E.con ps (List.range r.toArray.size) hB hS (by rw [Sy];exact h)
theorem Aa{x y:Code}(h: ∀K:(Nat->Y2)->Y0 Bl->Prop,(∀t l,A E y Q t l->K t l)->A E x (gL K Q) t l):A E (.seq x y) Q t l:=λw0 a w hm hs=>by
  refine wp_seq (Code.wp_mono (λe a w hk=> ?_) (h _ (λ_ _ h=>h) w0 a w hm hs))
  obtain⟨t',l',hq,hs'⟩:=hk
  cases e with
  |normal=>exact hq w0 a w hm hs'
  |_=>exact⟨t',l',hq,hs'⟩
theorem Cs{x y:Code}(J:(Nat->Y2)->Y0 Bl->Prop)(h:A E x (gL (Fg J) Q) t l)(h2: ∀t l,J t l->A E y Q t l):A E (.seq x y) Q t l:=λw0 a w hm hs=>by
  refine wp_seq (Code.wp_mono (λe a w hk=> ?_) (h w0 a w hm hs))
  obtain⟨t',l',hq,hs'⟩:=hk
  cases e with
  |normal=>
    obtain⟨l2,hsub,hj⟩:=hq.out
    exact h2 _ _ hj w0 a w hm (hsub.sim hs')
  |_=>exact⟨t',l',hq,hs'⟩
theorem BS{c:Operand}{x y:Code}(b:Y3)(hx:rd t c= .bool b)(h1:b=true->A E x Q t l)(h2:b=false->A E y Q t l):A E (.cond c x y) Q t l:=
  λw0 a w hm hs=>wp_cond_split (t:=b) (by rw [hs.2.eval];exact hx) (λhb=>h1 hb w0 a w hm hs) (λhb=>h2 hb w0 a w hm hs)
theorem Ch{c:Operand}{x y:Code}(hx:rd t c= .bool false)(h:A E y Q t l):A E (.cond c x y) Q t l:=BS false hx (λh=>nomatch h) (λ_=>h)
theorem JO{c:Operand}{x y:Code}(hx:rd t c= .bool true)(h:A E x Q t l):A E (.cond c x y) Q t l:=BS true hx (λ_=>h) (λh=>nomatch h)
theorem Ai{id:Nat}{c:Code}(h:A E c (gt id Q) t l):A E (.block id c) Q t l:=λw0 a w hm hs=>by
  refine wp_block (Code.wp_mono (λe a w hk=> ?_) (h w0 a w hm hs))
  obtain⟨t',l',hq,hs'⟩:=hk
  cases e with
  |exit id'=>
    by_cases hid:id'=id
    · simp only [gt,V8 hid] at hq
      simp only [Exit.inBlock,V8 hid];exact⟨t',l',hq,hs'⟩
    · simp only [gt,V9 hid] at hq
      simp only [Exit.inBlock,V9 hid];exact⟨t',l',hq,hs'⟩
  |_=>exact⟨t',l',hq,hs'⟩
theorem AM{id:Nat}(h:Q (.exit id) t l):A E (.exit id) Q t l:=λ_ _ _ _ hs=>wp_exit ⟨t,l,h,hs⟩
theorem AU(h:(l.map (·.1)).Nodup->Q .ret t l):A E .ret Q t l:=λ_ _ _ _ hs=>wp_ret ⟨t,l,h hs.1,hs⟩
theorem Ac(h:Q .normal t l):A E .skip Q t l:=λ_ _ _ _ hs=>wp_skip ⟨t,l,h,hs⟩
theorem AL{c:Code}(I:(Nat->Y2)->Y0 Bl->Nat->Prop)(n0:Nat)(h0:I t l n0)(h1: ∀t l n,I t l n->A E c (gL (Fg λt' l'=> ∃n',n'<n/\I t' l' n') Q) t l):A E (.loop c) Q t l:=λw0 a w hm hs=>by
  have key: ∀n t l a w,I t l n->SimL E w0 t l a w-> ∀(b:Frame) (k:Y0 Item) (cs:Y0 Frame),
      ∃e a' w',PostL E w0 Q e a' w'/\Arrives E.P (lone (b.at a (.code c:: .inLoop c::k)) cs w) b k cs e a' w':=by
    intro n
    induction n using Nat.strongRecOn with
    |_ n ihn=>
      intro t l a w hI hs b k cs
      obtain⟨e,a1,w1,⟨t1,l1,hk,hs1⟩,harr⟩:=h1 t l n hI w0 a w hm hs b (.inLoop c::k) cs
      cases e with
      |normal=>
        obtain⟨l2,hsub,n',hlt,hI'⟩:=hk.out
        obtain⟨e2,a2,w2,hq2,harr2⟩:=ihn n' hlt t1 l2 a1 w1 hI' (hsub.sim hs1) b k cs
        exact⟨e2,a2,w2,hq2, .of_steps (Steps.trans harr (.one step_inLoop)) harr2⟩
      |exit id=>exact⟨_,a1,w1,⟨t1,l1,hk,hs1⟩, .pass (x:= .inLoop c) Z (λ_ _=> .inl (by simp)) harr⟩
      |goto l=>exact⟨_,a1,w1,⟨t1,l1,hk,hs1⟩, .pass (x:= .inLoop c) Z (λ_ _=> .inl (by simp)) harr⟩
      |ret=>exact⟨_,a1,w1,⟨t1,l1,hk,hs1⟩, .pass (x:= .inLoop c) Z (λ_ _=> .inl (by simp)) harr⟩
      |panic ch=>exact⟨_,a1,w1,⟨t1,l1,hk,hs1⟩, .pass (x:= .inLoop c) Z (λ_ _=> .inl (by simp)) harr⟩
      |outgrown=>exact⟨_,a1,w1,⟨t1,l1,hk,hs1⟩, .pass (x:= .inLoop c) Z (λ_ _=> .inl (by simp)) harr⟩
  intro b k cs
  obtain⟨e,a',w',hq',harr⟩:=key n0 t l a w h0 hs b k cs
  exact⟨e,a',w',hq', .of_steps (.one step_loop) harr⟩
end
def fk(f:Nat->Y2):Y0 (Nat×Y2)->Nat->Y2
  | []=>f
  |(k,v)::r=>upd (fk f r) k v
theorem lc(f:Nat->Y2)(k:Nat):upd f k (f k)=f:=by funext i;unfold upd;split<;>simp_all
theorem Pu(f:Nat->Y2): ∀(r:Y0 (Nat×Y2)),r.map (λx=>f x.1)=r.map (·.2)->fk f r=f
  | [],_=>rfl
  |(k,v)::r,h=>by
    simp only [List.map_cons,List.cons.injEq] at h
    simp only [fk]
    rw [Pu f r h.2,<-h.1,lc]
theorem fg{J:(Nat->Y2)->Y0 Bl->Prop}{t:Nat->Y2}{l:Y0 Bl}(l':Y0 Bl)(hs:Sub l' l)(hj:J t l'):Fg J t l:=⟨⟨l',hs,hj⟩⟩
def Is(b:Y0 (Nat×Y2))(a:Y0 Bl)(t:Nat->Y2)(l:Y0 Bl):Prop:=(∃T,t=fk T b)/\l=a
theorem Ag{kv:Y0 (Nat×Y2)}{bl:Y0 Bl}{t:Nat->Y2}(h:kv.map (λx=>t x.1)=kv.map (·.2)){l:Y0 Bl}(hl:l=bl):Is kv bl t l:=⟨⟨t,(Pu t kv h).symm⟩,hl⟩
def yH(E:Env)(a:Array ResultVar)(v:Y2):QL
  | .normal,t,l| .ret,t,l=>MD E a ⟨t,ownL l,nonw⟩=some v
  |_,_,_=>False
theorem EH{E:Env}{rs:Array ResultVar}{t:Nat->Y2}{l:Y0 Bl}{v v0:Y2}(he:v0=v)(h:MD E rs ⟨t,ownL l,nonw⟩=some v0):MD E rs ⟨t,ownL l,nonw⟩=some v:=by rw [<-he];exact h
theorem Bf{E:Env}{t:Nat->Y2}{l:Y0 Bl}{k:Tmp}{ty:TypeId}{v:Y2}(hn:(l.map (·.1)).Nodup)(i:Nat){b:Nat}{T:TypeId}{cs:Array Y2}(hp:t k= .pointer (some ⟨b,0,none⟩))(hl:l[i]? =some (b,T,cs))(hv:Iu E.P ty cs 0=some v):
    HC E ⟨t,ownL l,nonw⟩ (.cell k ty)=some v:=by
  show(match t k with| .pointer (some a)=>ev E.P (cellA E (ownL l) nonw) (loadVar ty a)|_=>none)=some v
  rw [hp]
  exact nq (MP (PJ hn hl) Z) hv
theorem Gl{E:Env}{s:St}{a:ResultVar}{x:Y2}(ha:HC E s a=some x):MD E #[a] s=some x:=ha
theorem Jg{E:Env}{s:St}{a b:ResultVar}{x y:Y2}(ha:HC E s a=some x)(hb:HC E s b=some y):MD E #[a,b] s=some (.tuple #[x,y]):=by
  show((HC E s a).bind λx=>(HC E s b).bind λy=>some (Value.tuple #[x,y]))=some (Value.tuple #[x,y])
  rw [ha,hb];rfl
theorem PE{E:Env}{s:St}{a b c:ResultVar}{x y z:Y2}(ha:HC E s a=some x)(hb:HC E s b=some y)(hc:HC E s c=some z):MD E #[a,b,c] s=some (.tuple #[x,y,z]):=by
  show((HC E s a).bind λx=>(HC E s b).bind λy=>(HC E s c).bind λz=>some (Value.tuple #[x,y,z]))=some (Value.tuple #[x,y,z])
  rw [ha,hb,hc];rfl
theorem Au{P:Program}{f:FuncId}{fn:Func}{c:Code}{args:Array Y2}{v:Y2}(hm:P.follows .mixedOrders=true)(hf:P.funcs[f]? =some fn)(hb:fn.body=some c)(n:Nat)(hn:args.size+(fn.ntmps - args.size)=n)(t0:Nat->Y2)(ht:(λk=>args.getD k undef)=t0)(h: ∀base,A (env P n base) c (yH (env P n base) fn.results v) t0 []):Gives P f args v:=by
  subst ht
  intro w
  refine calls_of_wp hf hb ?_
  have hs:Sim (env P n w.heap.size) w (St.init args) {tmps:=args++Array.replicate (fn.ntmps - args.size) undef,defers:=[]} w:=VH n hn
  refine Code.wp_mono (λe a w' hk=> ?_) (h w.heap.size w _ w hm ⟨List.nodup_nil,hs⟩)
  obtain⟨t,l,hq,_,hs⟩:=hk
  cases e with
  |normal=>exact⟨hs.dfr,v,RJ hs hq,Z,hs.bel.below⟩
  |ret=>exact⟨hs.dfr,v,RJ hs hq,Z,hs.bel.below⟩
  |_=>exact hq.elim
def DoesI(P:Program)(f:FuncId)(c:Array Y2)(d:World->Prop)(h:Addr->Y1 Y2)(b:Y0 Bl)(p:Pst):Prop:=
  ∀w,d w->(∀a v,h a=some v->w.cell? a=some v/\a.block ∉ b.map (·.1))->(∀x∈b,Holds w x.1 x.2.1 x.2.2)->(b.map (·.1)).Nodup->
    Calls P f c w λe g=> ∃v L U,e= .returned v/\ExtW w g L U/\p v L U
def Does(P:Program)(f:FuncId)(b:Array Y2)(c:Addr->Y1 Y2)(a:Y0 Bl)(p:Pst):Prop:=DoesI P f b (λ_=>True) c a p
theorem Does.inv{P:Program}{f:FuncId}{args:Array Y2}{ro:Addr->Y1 Y2}{foot:Y0 Bl}{p:Pst}(h:Does P f args ro foot p)(inv:World->Prop):DoesI P f args inv ro foot p:=λw _=>h w trivial
def XD(E:Env)(b:Array ResultVar)(a:Y0 Bl)(p:Pst):QL
  | .normal,t,l| .ret,t,l=> ∃v L U,MD E b ⟨t,ownL l,nonw⟩=some v/\Sub (U++L) l/\U.map (·.1)=a.map (·.1)/\p v L U
  |_,_,_=>False
theorem Bq{P:Program}{f:FuncId}{fn:Func}{c:Code}{args:Array Y2}{ro:Addr->Y1 Y2}{foot:Y0 Bl}{p:Pst}(hm:P.follows .mixedOrders=true)(hf:P.funcs[f]? =some fn)(hb:fn.body=some c)(n:Nat)(hn:args.size+(fn.ntmps - args.size)=n)(t0:Nat->Y2)(ht:(λk=>args.getD k undef)=t0){inv:World->Prop}(hinv: ∀w w',inv w->Kept w.heap.size (foot.map (·.1)) w w'->inv w')(h: ∀base,A {P:=P,n:=n,base:=base,ro:=ro,foot:=foot.map (·.1),inv:=inv} c (XD {P:=P,n:=n,base:=base,ro:=ro,foot:=foot.map (·.1),inv:=inv} fn.results foot p) t0 foot):DoesI P f args inv ro foot p:=by
  subst ht
  intro w hiw hro hfo hnd
  refine calls_of_wp hf hb ?_
  have hs0:Sim (env P n w.heap.size) w (St.init args) {tmps:=args++Array.replicate (fn.ntmps - args.size) undef,defers:=[]} w:=VH n hn
  have hs:SimL {P:=P,n:=n,base:=w.heap.size,ro:=ro,foot:=foot.map (·.1),inv:=inv} w (λk=>args.getD k undef) foot {tmps:=args++Array.replicate (fn.ntmps - args.size) undef,defers:=[]} w:=
    ⟨hnd,hs0.dfr,hs0.sz,hs0.tm,Kept.refl _ _ _,Nat.le_refl _,λq v hq=>by
      obtain⟨h1,h2⟩:=hro q v hq
      refine⟨?_,h2,h1⟩
      unfold World.cell? at h1
      cases hc:w.heap[q.block]? with
      |none=>rw [hc] at h1;cases h1
      |some o=>exact(Array.getElem?_eq_some_iff.1 hc).1,λb T cs ho=>by
      obtain⟨i,hi⟩:=Tb ho
      have hmem:=List.mem_of_getElem? hi
      exact⟨.inr (List.mem_map.2 ⟨_,hmem,Z⟩),hfo _ hmem⟩,λw' hk=>hinv w w' hiw hk⟩
  refine Code.wp_mono (λe a w' hk=> ?_) (h w.heap.size w _ w hm hs)
  obtain⟨t,l,hq,hnd',hs⟩:=hk
  have fin:(∃v L U,MD {P:=P,n:=n,base:=w.heap.size,ro:=ro,foot:=foot.map (·.1),inv:=inv} fn.results ⟨t,ownL l,nonw⟩=some v/\Sub (U++L) l/\U.map (·.1)=foot.map (·.1)/\p v L U)->
      a.defers=[]/\ ∃v,(results fn a.tmps).run P w'= .ok v w'/\ ∃v' L U,Ending.returned v= .returned v'/\ExtW w w' L U/\p v' L U:=by
    rintro⟨v,L,U,hv,hsub,hU,hp⟩
    refine⟨hs.dfr,v,RJ hs hv,v,L,U,Z,⟨hs.bel.os,hs.bel.tape,hs.bel.output,hs.bel.size,λk hk hne=>hs.bel.block k hk (λhf=> ?_),λx hx=> ?_,λx hx=> ?_,hs.bel.drawn⟩,hp⟩
    · have hf':k∈foot.map (·.1):=hf
      rw [<-hU] at hf'
      obtain⟨y,hy,rfl⟩:=List.mem_map.1 hf'
      exact hne y hy Z
    · have hmem:=hsub.mem _ (List.mem_append_left L hx)
      obtain⟨i,hi⟩:=List.getElem?_of_mem hmem
      exact(hs.own x.1 x.2.1 x.2.2 (PJ hnd' hi)).2
    · have hmem:=hsub.mem _ (List.mem_append_right U hx)
      obtain⟨i,hi⟩:=List.getElem?_of_mem hmem
      obtain⟨h1,h2⟩:=hs.own x.1 x.2.1 x.2.2 (PJ hnd' hi)
      refine⟨?_,h2⟩
      rcases h1 with h1|h1
      · exact h1
      · exfalso
        have h1':x.1∈foot.map (·.1):=h1
        rw [<-hU] at h1'
        have hn2:((U++L).map (·.1)).Nodup:=hsub.nod hnd'
        rw [List.map_append,List.nodup_append] at hn2
        exact hn2.2.2 _ h1' _ (List.mem_map.2 ⟨x,hx,Z⟩) Z
  cases e with
  |normal=>exact fin hq
  |ret=>exact fin hq
  |_=>exact hq.elim
theorem Ak{P:Program}{f:FuncId}{fn:Func}{c:Code}{args:Array Y2}{ro:Addr->Y1 Y2}{foot:Y0 Bl}{p:Pst}(hm:P.follows .mixedOrders=true)(hf:P.funcs[f]? =some fn)(hb:fn.body=some c)(n:Nat)(hn:args.size+(fn.ntmps - args.size)=n)(t0:Nat->Y2)(ht:(λk=>args.getD k undef)=t0)(h: ∀base,A {P:=P,n:=n,base:=base,ro:=ro,foot:=foot.map (·.1)} c (XD {P:=P,n:=n,base:=base,ro:=ro,foot:=foot.map (·.1)} fn.results foot p) t0 foot):Does P f args ro foot p:=
  Bq hm hf hb n hn t0 ht (λ_ _ h _=>h) h
theorem GenRun.call{P:Program}{ρ:Operand->Y2}{o:Oper}{w:World}{p:Pst}{f:FuncId}{args:Array Y2}{c ro:Addr->Y1 Y2}{foot:Y0 Bl}{inv:World->Prop}(hc: ∀a v,c a=some v->w.cell? a=some v)(he:ev P c (execOp ρ o)=some (.enter f args))(hd:DoesI P f args inv ro foot p)(hi:inv w)(hro: ∀a v,ro a=some v->w.cell? a=some v/\a.block ∉ foot.map (·.1))(hfo: ∀x∈foot,Holds w x.1 x.2.1 x.2.2)(hn:(foot.map (·.1)).Nodup):GenRun P ρ o w p:=
  .inr ⟨f,args,SJ hc _ _ he,hd w hi hro hfo hn⟩
theorem iR{α β:Type}{P:Program}{c:Addr->Y1 Y2}(g:α->Sem β)(h:α->β): ∀(l:Y0 α),(∀x∈l,ev P c (g x)=some (h x))->ev P c (l.mapM g)=some (l.map h)
  | [],_=>by simp [Bv]
  |x::l,hl=>by
    have h1:=hl x (by simp)
    have h2:=iR g h l (λy hy=>hl y (by simp [hy]))
    simp [List.mapM_cons,Be,SK,h1,h2]
theorem np{α β:Type}{P:Program}{c:Addr->Y1 Y2}(g:α->Sem β)(h:α->β)(a:Array α)(hl: ∀x∈a,ev P c (g x)=some (h x)):ev P c (a.mapM g)=some (a.map h):=by
  obtain⟨l⟩:=a
  have:=iR g h l (λx hx=>hl x (by simpa using hx))
  simp [SK,this]
def Qo(P:Program)(f:Field):Nat×Nat:=(f.offset,((P.info? f.type).map (·.size)).getD 0)
theorem nr{P:Program}{c:Addr->Y1 Y2}{t:TypeId}{parts:Array (Nat×Y2)}{fs:Array Field}{z:Y2}{cs:Array Y2}(hu:P.underlying t=some (.struct fs))(hz:(P.info? t).bind (·.zero)=some z)(hf:fs.all (λf=>(P.info? f.type).isSome)=true)(hc:Instr.fill ((fs.map (Qo P))[·]?) z.cells parts.toList=some cs):
    ev P c (Instr.build t parts)=some (.agg cs):=by
  have hz':ev P c (zeroValue t)=some z:=by
    cases hi:P.info? t with
    |none=>simp [hi] at hz
    |some i=>
      simp only [hi,q0] at hz
      simp [zeroValue,typeInfo,program,Be,Bv,ev,hi,hz]
  have hm:=np (P:=P) (c:=c) (λf:Field=>(do pure (f.offset,<-sizeOf f.type):Sem (Nat×Nat))) (Qo P) fs (λf hf'=>by
    have:=(Array.all_eq_true_iff_forall_mem.1 hf) f hf'
    cases hi:P.info? f.type with
    |none=>simp [hi] at this
    |some i=>simp [SK,Ie hi,Qo,hi])
  unfold Instr.build
  simp only [Be,hz',q0,BK hu,hm,hc,Bv]
theorem GV{P:Program}{c:Addr->Y1 Y2}{s:Sem Y2}{v:Y2}(h:ev P c s=some v):ev P c (do pure (Next.value (<-s)):Sem Next)=some (.value v):=by
  simp [SK,h]
theorem RU{x z:Int}(h:x=z)(h1: -9223372036854775808<=z)(h2:z<=9223372036854775807):Value.int .i64 (IntKind.i64.wrap x)= .int .i64 z:=by
  subst h
  have:IntKind.i64.wrap x=x:=by
    simp only [IntKind.wrap,IntKind.signed,IntKind.bits]
    simp
    omega
  rw [this]
theorem rt(x:Int):IntKind.u64.wrap x=x%18446744073709551616:=by
  simp [IntKind.wrap,IntKind.signed,IntKind.bits]
abbrev U(x:W4):Y2:= .int .u64 (x.toNat:Int)
theorem ZH(x y:W4):Value.int .u64 (IntKind.u64.wrap ((x.toNat:Int)+(y.toNat:Int)))=U (x+y):=by
  rw [rt];congr 1
theorem XA(x y:W4):Value.int .u64 (IntKind.u64.wrap ((x.toNat:Int)*(y.toNat:Int)))=U (x*y):=by
  rw [rt];congr 1
theorem Xz(n:Nat):Value.int .u64 (IntKind.u64.wrap (n:Int))=U (BitVec.ofNat 64 n):=by
  rw [rt];congr 1
theorem vo(x y:W4):Value.int .u64 (IntKind.u64.wrap ((x.toNat:Int).tdiv (y.toNat:Int)))=U (x / y):=by
  rw [rt];congr 1;rw [BitVec.toNat_udiv,<-Int.ofNat_tdiv]
  have h1:=x.isLt
  have h2:x.toNat / y.toNat<=x.toNat:=Nat.div_le_self _ _
  generalize x.toNat / y.toNat=q at*
  omega
theorem vn(x y:W4):Value.int .u64 ((x.toNat:Int).tmod (y.toNat:Int))=U (x%y):=by
  congr 1
theorem Ky(x:W4):BitVec.ofInt 64 (x.toNat:Int)=x:=by
  rw [BitVec.ofInt_natCast,BitVec.ofNat_toNat,BitVec.setWidth_eq]
theorem XB(x y:W4):Value.int .u64 (IntKind.u64.wrap ((BitVec.ofInt 64 (x.toNat:Int)&&&BitVec.ofInt 64 (y.toNat:Int)).toNat:Int))=U (x&&&y):=by
  rw [Ky,Ky,Xz,BitVec.ofNat_toNat,BitVec.setWidth_eq]
theorem uR(x y:W4):Value.int .u64 (IntKind.u64.wrap ((BitVec.ofInt 64 (x.toNat:Int)|||BitVec.ofInt 64 (y.toNat:Int)).toNat:Int))=U (x|||y):=by
  rw [Ky,Ky,Xz,BitVec.ofNat_toNat,BitVec.setWidth_eq]
theorem vp(x:W4):Value.int .u64 (IntKind.u64.wrap ((BitVec.ofInt 64 (IntKind.u64.max)^^^BitVec.ofInt 64 (x.toNat:Int)).toNat:Int))=U (~~~ x):=by
  have:BitVec.ofInt 64 (IntKind.u64.max)=BitVec.allOnes 64:=by decide+kernel
  rw [Ky,this,Xz,BitVec.ofNat_toNat,BitVec.setWidth_eq,BitVec.allOnes_xor]
theorem yC(x:W4)(n:Nat):Value.int .u64 (IntKind.u64.wrap ((x.toNat:Int)*2^(min n 64)))=U (x<<<n):=by
  rw [show((x.toNat:Int)*2^(min n 64))=((x.toNat*2^(min n 64):Nat):Int)by simp,Xz]
  refine congrArg U ?_
  apply BitVec.eq_of_toNat_eq
  rw [BitVec.toNat_ofNat,BitVec.toNat_shiftLeft,Nat.shiftLeft_eq]
  rcases Nat.le_total n 64 with h|h
  · rw [Nat.min_eq_left h]
  · rw [Nat.min_eq_right h,Nat.mul_mod_left]
    obtain⟨k,rfl⟩:=Nat.exists_eq_add_of_le h
    rw [Nat.pow_add,<-Nat.mul_assoc,Nat.mul_right_comm,Nat.mul_mod_left]
theorem eY(x:W4)(n:Nat):Value.int .u64 ((x.toNat:Int).fdiv (2^(min n 64)))=U (x>>>n):=by
  congr 1
  rw [BitVec.toNat_ushiftRight,Nat.shiftRight_eq_div_pow]
  rcases Nat.le_total n 64 with h|h
  · rw [Nat.min_eq_left h,Int.fdiv_eq_ediv_of_nonneg _ (Int.le_of_lt (Int.pow_pos (by decide)))];simp
  · rw [Nat.min_eq_right h,Int.fdiv_eq_ediv_of_nonneg _ (by decide)]
    have h1:=x.isLt
    have h2:2^64<=2^n:=Nat.pow_le_pow_right (by decide) h
    rw [Nat.div_eq_of_lt (by omega)]
    omega
theorem kR(x y:W4):Value.bool ((x.toNat:Int)==(y.toNat:Int))= .bool (x==y):=by
  congr 1;rw [Bool.eq_iff_iff];simp [<-BitVec.toNat_inj];omega
theorem yV(x y:W4):Value.bool ((x.toNat:Int) !=(y.toNat:Int))= .bool (x !=y):=by
  have:=kR x y;simp only [Value.bool.injEq] at this;simp only [bne,this]
theorem yD(x y:W4):Value.bool (decide ((x.toNat:Int)<(y.toNat:Int)))= .bool (decide (x<y)):=by
  congr 1;rw [Bool.eq_iff_iff];simp [BitVec.lt_def]
theorem SY{x y:Int}(h:0<=x):Value.int .i64 (x.tmod y)= .int .i64 (x%y):=by
  rw [Int.tmod_eq_emod_of_nonneg h]
theorem gi{P:Program}{c:Addr->Y1 Y2}{t:TypeId}{b off n:Nat}{e:TypeId}{i:TypeInfo}(k:Nat)(hu:P.underlying t=some (.array n e))(hi:P.info? e=some i)(hs:i.size=1)(hk:k<n):
    ev P c (Instr.indexAt t (.pointer (some ⟨b,off,none⟩)) (.int .i64 (k:Int)))=some (.pointer (some ⟨b,off+k,none⟩)):=by
  unfold Instr.indexAt
  have h1:(0:Int)<=k/\(k:Int)<n:=by omega
  have hadd:(⟨b,off,none⟩:Addr).add k=⟨b,off+k,none⟩:=by unfold Addr.add;split<;>simp_all
  simp only [asIntOf,Be,Bv,q0,BK hu,Instr.sureAddr,q4]
  rw [V8 h1]
  simp only [Be,Ie hi,hs,q0,Bv,Nat.mul_one,hadd]
theorem tc{P:Program}{c:Addr->Y1 Y2}{t:TypeId}{z:Y2}(hz:(P.info? t).bind (·.zero)=some z):ev P c (zeroValue t)=some z:=by
  cases hi:P.info? t with
  |none=>simp [hi] at hz
  |some i=>
    simp only [hi,q0] at hz
    simp [zeroValue,typeInfo,program,Be,Bv,ev,hi,hz]
theorem Ar{P:Program}{c:Addr->Y1 Y2}{ρ:Operand->Y2}{d:Y1 Tmp}{T:TypeId}{l:Y0 (Nat×Operand)}{ty:TypeId}{pos:String}{af:Array Edge}{g:Y1 (Nat×Y3)}{fs:Array Field}{z:Y2}{cs:Array Y2}(hu:P.underlying T=some (.struct fs))(hz:(P.info? T).bind (·.zero)=some z)(hf:fs.toList.all (λf=>(P.info? f.type).isSome)=true)(hc:Instr.fill ((fs.toList.map (Qo P))[·]?) z.cells (l.map λx=>(x.1,ρ x.2))=some cs):
    ev P c (execOp ρ ⟨d, .build T l.toArray,ty,pos,af,g⟩)=some (.value (.agg cs)):=by
  refine GV (s:=Instr.build T (l.toArray.map λx=>(x.1,ρ x.2))) ?_
  rw [List.map_toArray]
  exact nr hu hz (by rw [<-Array.all_toList];exact hf) (by
    rw [show(λx=>(fs.map (Qo P))[x]?)=((fs.toList.map (Qo P))[·]?)from by funext x;rw [<-Array.toList_map,Array.getElem?_toList]]
    exact hc)
theorem Bn{P:Program}{c:Addr->Y1 Y2}{ρ:Operand->Y2}{d:Y1 Tmp}{T:TypeId}{l:Y0 (Nat×Operand)}{ty:TypeId}{pos:String}{af:Array Edge}{g:Y1 (Nat×Y3)}{n:Nat}{e:TypeId}{i:TypeInfo}{z:Y2}{cs:Array Y2}(hu:P.underlying T=some (.array n e))(hz:(P.info? T).bind (·.zero)=some z)(hi:P.info? e=some i)(hc:Instr.fill (λk=>some (k*i.size,i.size)) z.cells (l.map λx=>(x.1,ρ x.2))=some cs):
    ev P c (execOp ρ ⟨d, .build T l.toArray,ty,pos,af,g⟩)=some (.value (.agg cs)):=by
  refine GV (s:=Instr.build T (l.toArray.map λx=>(x.1,ρ x.2))) ?_
  rw [List.map_toArray]
  unfold Instr.build
  simp only [Be,tc hz,q0,BK hu,Ie hi,hc,Bv]
def Am(P:Program)(f:FuncId):Y3:=match P.funcs[f]? with|some fn=>fn.name != "runtime.NumGoroutine"&&fn.body.isSome|none=>false
theorem WX{P:Program}{c:Addr->Y1 Y2}{ρ:Operand->Y2}{d:Y1 Tmp}{f:FuncId}{l:Y0 Operand}{ts:Array TypeId}{ty:TypeId}{pos:String}{af:Array Edge}{g:Y1 (Nat×Y3)}(hρ:ρ (.func f)= .func (.func f) #[] #[])(h:Am P f=true){args:Y0 Y2}(ha:l.map ρ=args):
    ev P c (execOp ρ ⟨d, .call ⟨.value (.func f),l.toArray,ts⟩,ty,pos,af,g⟩)=some (.enter f args.toArray):=by
  unfold Am at h
  cases hf:P.funcs[f]? with
  |none=>simp [hf] at h
  |some fn=>
    simp only [hf,Bool.and_eq_true,bne_iff_ne,ne_eq] at h
    obtain⟨h1,h2⟩:=h
    have ha':l.toArray.map ρ=args.toArray:=by rw [List.map_toArray,ha]
    have hr:ev P c (resolve ρ ⟨.value (.func f),l.toArray,ts⟩ ty)=(ev P c (Deferred.ofValue (ρ (.func f)) args.toArray)):=by
      show ev P c (Deferred.ofValue (ρ (.func f)) (l.toArray.map ρ))=_
      rw [ha']
    show ev P c (do let d<-resolve ρ ⟨.value (.func f),l.toArray,ts⟩ ty;invoke d.target d.args)=_
    rw [Be,hr,hρ]
    show ev P c (invoke (.fn (.func f) #[]) (#[]++args.toArray))=_
    have h5: ¬fn.body=none:=by intro e;simp [e] at h2
    simp [invoke,callFunc,program,Be,ev,hf,h1,h5,Bv]
theorem Gives.of_same{P:Program}{f:FuncId}{args:Array Y2}{v:Y2}(h: ∀w,Calls P f args w λe w'=>e= .returned v/\w'=w):Gives P f args v:=
  λw=>(h w).mono λ_ _ ⟨h1,h2⟩=>⟨h1,by rw [h2];exact Bel.refl _ _⟩
abbrev V3:=@Does.inv
end Go.Eng
