import Derived.Test.YtjlomkippigejaaGreatDoorEng
namespace Go.Eng
open Go Go.RowKit
def ownL:List Bl->Nat->Option (TypeId×Array Value)
  | [],_=>none
  |(b,x)::l,i=>if i=b then some x else ownL l i
def nwL(l:List Bl)(m:Nat):Nat->Bool:=λb=>(l.take m).any λx=>x.1==b
theorem Pn{l:List Bl}(hn:(l.map (·.1)).Nodup){i:Nat}{b:Nat}{x:TypeId×Array Value}(h:l[i]? =some (b,x)):ownL l b=some x:=by
  induction l generalizing i with
  |nil=>simp at h
  |cons y l ih=>
    obtain⟨c,y⟩:=y
    simp only [List.map_cons,List.nodup_cons] at hn
    cases i with
    |zero=>simp at h;obtain⟨rfl,rfl⟩:=h;simp [ownL]
    |succ i=>
      simp only [List.getElem?_cons_succ] at h
      have:b≠c:=by
        intro e;subst e
        exact hn.1 (List.mem_map.2 ⟨_,List.mem_of_getElem? h,Z⟩)
      simp only [ownL,if_neg this]
      exact ih hn.2 h
theorem Sv{l:List Bl}{i:Nat}{b:Nat}{x y:TypeId×Array Value}(h:l[i]? =some (b,x)):(l.set i (b,y)).map (·.1)=l.map (·.1):=by
  induction l generalizing i with
  |nil=>rfl
  |cons z l ih=>
    cases i with
    |zero=>simp at h;subst h;rfl
    |succ i=>simp only [List.getElem?_cons_succ] at h;simp only [List.set_cons_succ,List.map_cons,ih h]
theorem qU{l:List Bl}(hn:(l.map (·.1)).Nodup){i m:Nat}{b:Nat}{x:TypeId×Array Value}(h:l[i]? =some (b,x))(hm:m<=i):nwL l m b=false:=by
  unfold nwL
  induction l generalizing i m with
  |nil=>simp at h
  |cons z l ih=>
    simp only [List.map_cons,List.nodup_cons] at hn
    cases m with
    |zero=>simp
    |succ m=>
      cases i with
      |zero=>omega
      |succ i=>
        simp only [List.getElem?_cons_succ] at h
        have hne:z.1≠b:=by
          intro e;rw [e] at hn
          exact hn.1 (List.mem_map.2 ⟨_,List.mem_of_getElem? h,Z⟩)
        have h2:=ih hn.2 h (m:=m) (by omega)
        simp only [List.take_succ_cons,List.any_cons,h2,Bool.or_false,beq_eq_false_iff_ne]
        exact hne
theorem AS{α β:Type}{P:Program}{c:Addr->Option Value}(s:Sem α)(f:α->Sem β):ev P c (s>>=f)=(ev P c s).bind λx=>ev P c (f x):=by
  show ev P c (s.bind f)=_
  induction s with
  |pure a=>rfl
  |load m a k ih=>
    cases m with
    |plain=>
      simp only [Sem.bind,ev]
      cases c a with
      |none=>rfl
      |some v=>exact ih v
    |atomic=>rfl
  |program k ih=>simp only [Sem.bind,ev];exact ih P
  |mark m k ih=>simp only [Sem.bind,ev];exact ih
  |_=>rfl
theorem Bj{α:Type}{P:Program}{c:Addr->Option Value}(a:α):ev P c (pure a:Sem α)=some a:=Z
theorem Sh{α β:Type}{P:Program}{c:Addr->Option Value}(s:Sem α)(f:α->β):ev P c (f<$>s)=(ev P c s).map f:=by
  rw [map_eq_pure_bind,AS]
  cases ev P c s<;>rfl
theorem Bx{P:Program}{c:Addr->Option Value}{t:TypeId}{d:TypeDesc}(h:P.underlying t=some d):ev P c (underlying t)=some d:=by
  simp [underlying,program,AS,Bj,ev,h]
theorem HI{P:Program}{c:Addr->Option Value}{t:TypeId}{i:TypeInfo}(h:P.info? t=some i):ev P c (sizeOf t)=some i.size:=by
  simp [sizeOf,typeInfo,program,AS,Bj,ev,h]
theorem cT{P:Program}{c:Addr->Option Value}{ty:TypeId}{d:TypeDesc}(h:P.underlying ty=some d):
    ev P c (isAgg ty)=some (match d with| .struct _| .array _ _=>true|_=>false):=by
  unfold isAgg
  rw [AS,Bx h]
  cases d<;>rfl
theorem UX{P:Program}{c:Addr->Option Value}(a:Addr):ev P c (load a)=c a:=by
  unfold load;simp only [ev];cases c a<;>rfl
theorem cW{P:Program}{c:Addr->Option Value}{b off:Nat}{cs:Array Value}(hc: ∀k,c ⟨b,k,none⟩=cs[k]?): ∀(n i:Nat) (acc:Array Value),off+i+n<=cs.size->
    ev P c (loadCellsFrom ⟨b,off,none⟩ i n acc)=some (acc++cs.extract (off+i) (off+i+n))
  |0,i,acc,_=>by
    have:cs.extract (off+i) (off+i+0)= #[]:=by apply Array.ext';simp
    rw [this,loadCellsFrom,Bj];simp
  |n+1,i,acc,h=>by
    have hadd:(⟨b,off,none⟩:Addr).add i=⟨b,off+i,none⟩:=by unfold Addr.add;split<;>simp_all
    have hlt:off+i<cs.size:=by omega
    have h1:ev P c (load ((⟨b,off,none⟩:Addr).add i))=some cs[off+i]:=by
      rw [hadd,UX,hc,Array.getElem?_eq_getElem hlt]
    have ih:=cW (P:=P) (off:=off) hc n (i+1) (acc.push cs[off+i]) (by omega)
    rw [loadCellsFrom,AS,h1]
    simp only [q0]
    rw [ih]
    congr 1
    apply Array.ext'
    simp only [Array.toList_append,Array.toList_push,Array.toList_extract,zu]
    congr 1
    rw [List.extract_eq_take_drop,List.extract_eq_take_drop,show off+(i+1)+n - (off+(i+1))=n from by omega,show off+i+(n+1) - (off+i)=n+1 from by omega,show off+(i+1)=off+i+1 from by omega]
    have e:cs.toList.drop (off+i)=cs[off+i]::cs.toList.drop (off+i+1):=by
      rw [j5 (by simpa using hlt)];simp
    rw [e,List.take_succ_cons]
    rfl
theorem mf{P:Program}{c:Addr->Option Value}{ty:TypeId}{b off:Nat}{cs:Array Value}{v:Value}(hc: ∀k,c ⟨b,k,none⟩=cs[k]?)(h:Ht P ty cs off=some v):ev P c (loadVar ty ⟨b,off,none⟩)=some v:=by
  have agg: ∀(i:TypeInfo),P.info? ty=some i->(if off=0/\i.size=cs.size then some (Value.agg cs)else if off+i.size<=cs.size then some (.agg (cs.extract off (off+i.size)))else none)=some v->
      ev P c (loadCells ⟨b,off,none⟩ i.size)=some (cs.extract off (off+i.size))/\v= .agg (cs.extract off (off+i.size)):=by
    intro i hi he
    have hle:off+i.size<=cs.size/\v= .agg (cs.extract off (off+i.size)):=by
      split at he
      · rename_i h0
        obtain⟨h0,h1⟩:=h0
        subst h0
        simp only [Option.some.injEq] at he
        subst he
        exact⟨by omega,by rw [h1];simp⟩
      · split at he
        · rename_i hle;simp only [Option.some.injEq] at he;exact⟨hle,he.symm⟩
        · cases he
    refine⟨?_,hle.2⟩
    have:=cW (P:=P) hc i.size 0 #[] (by simpa using hle.1)
    simpa [loadCells] using this
  unfold Ht at h
  unfold loadVar
  cases hu:P.underlying ty with
  |none=>simp [hu] at h
  |some d=>
    rw [AS,cT hu]
    cases d with
    |struct fs=>
      simp only [hu] at h
      cases hi:P.info? ty with
      |none=>simp [hi] at h
      |some i=>
        simp only [hi] at h
        obtain⟨h1,h2⟩:=agg i hi h
        simp only [q0,if_true,AS,HI hi,h1,h2]
        rfl
    |array n e=>
      simp only [hu] at h
      cases hi:P.info? ty with
      |none=>simp [hi] at h
      |some i=>
        simp only [hi] at h
        obtain⟨h1,h2⟩:=agg i hi h
        simp only [q0,if_true,AS,HI hi,h1,h2]
        rfl
    |_=>
      simp only [hu] at h
      simp only [q0,Bool.false_eq_true,if_false,UX,hc,h]
theorem Mw{E:Env}{own:Nat->Option (TypeId×Array Value)}{nw:Nat->Bool}{b:Nat}{T:TypeId}{cs:Array Value}(h:own b=some (T,cs))(hn:nw b=false)(k:Nat):cellA E own nw ⟨b,k,none⟩=cs[k]?:=by
  unfold cellA
  simp only [h,hn,Option.isSome_none,Bool.or_self,Bool.false_eq_true,if_false]
theorem SB{l:List Bl}{b:Nat}{x:TypeId×Array Value}(h:ownL l b=some x): ∃i:Nat,l[i]? =some (b,x):=by
  induction l with
  |nil=>cases h
  |cons y l ih=>
    obtain⟨c,y⟩:=y
    simp only [ownL] at h
    split at h
    · rename_i he;subst he;cases h;exact⟨0,Z⟩
    · obtain⟨i,hi⟩:=ih h;exact⟨i+1,by simpa using hi⟩
theorem qV{l:List Bl}{i m:Nat}{b:Nat}{x:TypeId×Array Value}(h:l[i]? =some (b,x))(hm:i<m):nwL l m b=true:=by
  unfold nwL
  rw [List.any_eq_true]
  refine⟨(b,x), ?_,by simp⟩
  have h2:(l.take m)[i]? =some (b,x):=by rw [List.getElem?_take,if_pos hm];exact h
  exact List.mem_of_getElem? h2
structure StOk(P:Program)(e:TypeId)(cs:Array Value)(off:Nat)(vs:Array Value):Prop where
  i: ∃i,P.info? e=some i/\vs.size=i.size
  le:off+vs.size<=cs.size
  one: ∀x∈vs,x.oneCell'=true
theorem StOk.of{P:Program}{e:TypeId}{cs:Array Value}{off:Nat}{vs:Array Value}{i:TypeInfo}(hi:P.info? e=some i)
    (h:(vs.size==i.size&&decide (off+vs.size<=cs.size)&&vs.toList.all (λx=>x.oneCell'))=true):StOk P e cs off vs:=by
  simp only [Bool.and_eq_true,beq_iff_eq,decide_eq_true_eq,List.all_eq_true] at h
  exact⟨⟨i,hi,h.1.1⟩,h.1.2,λx hx=>h.2 x (by simpa using hx)⟩
structure Sees(E:Env)(l:List Bl)(m:Nat)(own:Nat->Option (TypeId×Array Value))(nw:Nat->Bool):Prop where
  has: ∀(i:Nat) b x,l[i]? =some (b,x)->own b=some x/\nw b=decide (i<m)
  ro: ∀p v,E.ro p=some v->p.block<E.base/\own p.block=none
  non: ∀b,own b=none->nw b=false
def LQ(E:Env)(K:(Nat->Value)->List Bl->Prop)(s:St):Prop:= ∃l m,(l.map (·.1)).Nodup/\Sees E l m s.own s.nw/\K s.t l
def lx(E:Env)(g:Bool)(a:Array Oper)(K:(Nat->Value)->List Bl->Prop)(r:List Oper)(t:Nat->Value)(l:List Bl)(m:Nat):Prop:=
  (l.map (·.1)).Nodup-> ∀own nw,Sees E l m own nw->lexK E g a (LQ E K) r ⟨t,own,nw⟩
theorem Sees.cell{E:Env}{l:List Bl}{m:Nat}{own:Nat->Option (TypeId×Array Value)}{nw:Nat->Bool}(h:Sees E l m own nw)(hn:(l.map (·.1)).Nodup): ∀a v,cellA E (ownL l) (nwL l m) a=some v->cellA E own nw a=some v:=by
  intro a v ha
  unfold cellA at ha
  cases ho:ownL l a.block with
  |none=>
    rw [ho] at ha
    simp only at ha
    split at ha
    · rename_i hlt
      unfold cellA
      rw [(h.ro a v ha).2]
      simp only [if_pos hlt];exact ha
    · cases ha
  |some x=>
    obtain⟨i,hi⟩:=SB ho
    obtain⟨h1,h2⟩:=h.has i _ _ hi
    rw [ho] at ha
    have h3:nwL l m a.block=nw a.block:=by
      rw [h2]
      by_cases him:i<m
      · rw [qV hi him];simp [him]
      · rw [qU hn hi (by omega)];simp [him]
    unfold cellA
    rw [h1,<-h3]
    exact ha
section
variable {E:Env} {g:Bool} {ops:Array Oper} {K:(Nat->Value)->List Bl->Prop} {r:List Oper} {t:Nat->Value} {l:List Bl} {m:Nat}
  {d:Tmp} {op:Op} {ty:TypeId} {pos:String} {af:Array Edge}
theorem Ak(h:K t l):lx E g ops K [] t l m:=λhn _ _ hs=>⟨l,m,hn,hs,h⟩
theorem r_v(v:Value){v0:Value}(hk:kd op= .f)(hd:decide (d<E.n)=true)(he:v0=v)(hy:ev E.P E.ro (execOp (rd t) ⟨some d,op,ty,pos,af,none⟩)=some (.value v0))
    (h:lx E g ops K r (upd t d v) l m) (hpl:Jj E.ks ⟨some d,op,ty,pos,af,none⟩:=by rfl):lx E g ops K (⟨some d,op,ty,pos,af,none⟩::r) t l m:=
  λhn own nw hs=>lr Z (NJ hpl hk (by decide)) hd v (.inl (by rw [<-he];exact hy)) (h hn own nw hs)
theorem r_c(v:Value)(hd:decide (d<E.n)=true)(f:FuncId)(args:Array Value){c:Call}(hy:ev E.P E.ro (execOp (rd t) ⟨some d, .call c,ty,pos,af,none⟩)=some (.enter f args))(hg:Gives E.P f args v)
    (h:lx E g ops K r (upd t d v) l m) (hpl:Jj E.ks ⟨some d, .call c,ty,pos,af,none⟩:=by rfl):lx E g ops K (⟨some d, .call c,ty,pos,af,none⟩::r) t l m:=
  λhn own nw hs=>lr Z (NJ hpl Z (by decide)) hd v (.inr ⟨f,args,hy,hg⟩) (h hn own nw hs)
theorem r_y{j:Nat}{want:Bool}{dd:Option Tmp}(hw:DR ops t j=some want)(hs:lx E g ops K (⟨dd,op,ty,pos,af,none⟩::r) t l m)
    (hcon: ∀args view,E.con ⟨dd,op,ty,pos,af,some (j,want)⟩ args view=E.con ⟨dd,op,ty,pos,af,none⟩ args view:=by intros;rfl):
    lx E g ops K (⟨dd,op,ty,pos,af,some (j,want)⟩::r) t l m:=by
  intro hn own nw hse
  obtain⟨ks,con,hkc,h1,h2⟩:=hs hn own nw hse
  have e1:Region.wanted ⟨dd,op,ty,pos,af,some (j,want)⟩ (DR ops t)=true:=by simp [Region.wanted,hw]
  have e2:Region.wanted ⟨dd,op,ty,pos,af,none⟩ (DR ops t)=true:=Z
  have main: ∀con2:Con,(∀args view,con2 ⟨dd,op,ty,pos,af,some (j,want)⟩ args view=con ⟨dd,op,ty,pos,af,none⟩ args view)->
      OkW {E with ks:=ks,con:=con2} g ops ⟨dd,op,ty,pos,af,some (j,want)⟩ ⟨t,own,nw⟩/\ ∀s',NxW {E with ks:=ks,con:=con2} g ops ⟨dd,op,ty,pos,af,some (j,want)⟩ ⟨t,own,nw⟩ s'->lexK E g ops (LQ E K) r s':=by
    intro con2 hcon2
    have key: ∀s e,s.t=t->(Aa8 {E with ks:=ks,con:=con2} g ops ⟨dd,op,ty,pos,af,some (j,want)⟩ s e↔Aa8 {E with ks:=ks,con:=con} g ops ⟨dd,op,ty,pos,af,none⟩ s e):=by
      intro s e hs
      have hc: ∀s,Ab6 {E with ks:=ks,con:=con2} s ⟨dd,op,ty,pos,af,some (j,want)⟩=Ab6 {E with ks:=ks,con:=con} s ⟨dd,op,ty,pos,af,none⟩:=λs=>hcon2 _ _
      have hg: ∀s mu,GenOk {E with ks:=ks,con:=con2} g s ⟨dd,op,ty,pos,af,some (j,want)⟩ mu↔GenOk {E with ks:=ks,con:=con} g s ⟨dd,op,ty,pos,af,none⟩ mu:=λs mu=>
        ⟨λh=>⟨by rw [<-hc];exact h.wit,by rw [<-hc];exact h.nod,by rw [<-hc];exact h.upO,by rw [<-hc];exact h.pur,λw a b c=>by rw [<-hc];exact h.run w a b c⟩,
         λh=>⟨by rw [hc];exact h.wit,by rw [hc];exact h.nod,by rw [hc];exact h.upO,by rw [hc];exact h.pur,λw a b c=>by rw [hc];exact h.run w a b c⟩⟩
      have hk:kdo ks g ops ⟨dd,op,ty,pos,af,some (j,want)⟩=kdo ks g ops ⟨dd,op,ty,pos,af,none⟩:=Z
      unfold Aa8
      rw [hs,if_pos e1,if_pos e2]
      simp only [hk]
      cases kdo ks g ops ⟨dd,op,ty,pos,af,none⟩<;>simp only
      · rfl
      · rfl
      · rfl
      · rfl
      · rfl
      · rw [hg,hc]
      · rw [hg,hc]
      · rfl
      · rw [hg,hc]
    refine⟨⟨h1.1, ?_⟩,λs' hs'=> ?_⟩
    · obtain⟨e,he⟩:=h1.2;exact⟨e,(key _ e Z).2 he⟩
    · obtain⟨e,he,hdo⟩:=hs'
      exact h2 s' ⟨e,(key _ e Z).1 he,by cases e<;>exact hdo⟩
  by_cases hg1:g=true
  · obtain⟨rfl,rfl⟩:=hkc hg1
    exact⟨E.ks,E.con,λ_=>⟨Z,Z⟩,main E.con hcon⟩
  · exact⟨ks,λ_=>con ⟨dd,op,ty,pos,af,none⟩,λh=>absurd h hg1,main _ (λ_ _=>Z)⟩
theorem Sees.set{own:Nat->Option (TypeId×Array Value)}{nw:Nat->Bool}(h:Sees E l m own nw)(hn:(l.map (·.1)).Nodup){i b:Nat}{x y:TypeId×Array Value}(hl:l[i]? =some (b,x)):Sees E (l.set i (b,y)) m (upd own b (some y)) nw:=by
  obtain⟨h1,h2⟩:=h.has i b x hl
  refine⟨λj c z hj=> ?_,λp v hp=>⟨(h.ro p v hp).1, ?_⟩,λc hc=> ?_⟩
  · rw [List.getElem?_set] at hj
    split at hj
    · rename_i hij
      subst hij
      split at hj
      · cases hj;exact⟨DS _ _ _,h2⟩
      · cases hj
    · rename_i hij
      obtain⟨g1,g2⟩:=h.has j c z hj
      have hcb:c≠b:=by
        intro e;subst e
        have e1:(l.map (·.1))[i]? =some c:=by rw [List.getElem?_map,hl];rfl
        have e2:(l.map (·.1))[j]? =some c:=by rw [List.getElem?_map,hj];rfl
        obtain⟨hi',e1⟩:=List.getElem?_eq_some_iff.1 e1
        obtain⟨hj',e2⟩:=List.getElem?_eq_some_iff.1 e2
        exact hij ((List.getElem_inj hn).1 (e1.trans e2.symm))
      rw [BU _ _ hcb];exact⟨g1,g2⟩
  · have:=(h.ro p v hp).2
    rw [BU _ _ (by intro e;rw [e,h1] at this;cases this)];exact this
  · by_cases e:c=b
    · subst e;rw [DS] at hc;cases hc
    · rw [BU _ _ e] at hc;exact h.non c hc
theorem r_l(v:Value)(i:Nat)(b off:Nat)(T:TypeId)(cs:Array Value){e:TypeId}{p:Operand}(hd:decide (d<E.n)=true)(hp:rd t p= .pointer (some ⟨b,off,none⟩))(hl:l[i]? =some (b,T,cs))(hm:decide (m<=i)=true)
    (hv:Ht E.P e cs off=some v) (h:lx E g ops K r (upd t d v) l m) (hpl:Jj E.ks ⟨some d, .load e p,ty,pos,af,none⟩:=by rfl):lx E g ops K (⟨some d, .load e p,ty,pos,af,none⟩::r) t l m:=
  λhn own nw hs=>VN Z (NJ hpl Z (by decide)) hd v (by
    obtain⟨g1,g2⟩:=hs.has i _ _ hl
    unfold loadOf
    have h1:ev E.P (cellA E own nw) (execOp (rd t) ⟨some d, .load e p,ty,pos,af,none⟩)=some (.value v):=by
      show ev E.P (cellA E own nw) (do pure (Next.value (<-Instr.loadAt e (rd t p))))=_
      rw [hp,AS]
      show(ev E.P (cellA E own nw) (loadVar e ⟨b,off,none⟩)).bind _=_
      rw [mf (Mw g1 (by rw [g2];have:=zd hm;simp;omega)) hv]
      rfl
    show(match ev E.P (cellA E own nw) (execOp (rd t) ⟨some d, .load e p,ty,pos,af,none⟩)with|some (.value v)=>some v|_=>none)=some v
    rw [h1]) (h hn own nw hs)
theorem bM(v:Value)(i:Nat)(b off:Nat)(T:TypeId)(cs:Array Value){e:TypeId}{p:Operand}(hd:decide (d<E.n)=true)(hp:rd t p= .pointer (some ⟨b,off,none⟩))(hl:l[i]? =some (b,T,cs))(hm:decide (m<=i)=true)
    (hv:Ht E.P e cs off=some v) (hb:b ∉ E.hid) (h:lx E g ops K r (upd t d v) l m) (hpl:fS E.ks ⟨some d, .load e p,ty,pos,af,none⟩:=by rfl):lx E g ops K (⟨some d, .load e p,ty,pos,af,none⟩::r) t l m:=
  λhn own nw hs=>It (e:= .val v) hd (by
    unfold Aa8;rw [if_pos (JS Z _)];simp only [xa hpl]
    refine⟨v, ?_,Z⟩
    obtain⟨g1,g2⟩:=hs.has i _ _ hl
    unfold loadH
    have h1:ev E.P (Jf E own nw) (execOp (rd t) ⟨some d, .load e p,ty,pos,af,none⟩)=some (.value v):=by
      show ev E.P (Jf E own nw) (do pure (Next.value (<-Instr.loadAt e (rd t p))))=_
      rw [hp,AS]
      show(ev E.P (Jf E own nw) (loadVar e ⟨b,off,none⟩)).bind _=_
      rw [mf (λk=>by unfold Jf;rw [if_neg hb];exact Mw g1 (by rw [g2];have:=zd hm;simp;omega) k) hv]
      rfl
    show(match ev E.P (Jf E own nw) (execOp (rd t) ⟨some d, .load e p,ty,pos,af,none⟩)with|some (.value v)=>some v|_=>none)=some v
    rw [h1]) (λs' hs'=>by simp only [Do] at hs';subst hs';exact h hn own nw hs)
theorem r_w(v:Value){v0:Value}(hk:kd op= .l)(hd:decide (d<E.n)=true)(he:v0=v)(hy:(l.map (·.1)).Nodup->ev E.P (cellA E (ownL l) (nwL l m)) (execOp (rd t) ⟨some d,op,ty,pos,af,none⟩)=some (.value v0))
    (h:lx E g ops K r (upd t d v) l m) (hpl:Jj E.ks ⟨some d,op,ty,pos,af,none⟩:=by rfl):lx E g ops K (⟨some d,op,ty,pos,af,none⟩::r) t l m:=
  λhn own nw hs=>VN Z (NJ hpl hk (by decide)) hd v (by
    unfold loadOf
    show(match ev E.P (cellA E own nw) (execOp (rd t) ⟨some d,op,ty,pos,af,none⟩)with|some (.value v)=>some v|_=>none)=some v
    rw [aJ (hs.cell hn) _ _ (hy hn),he]) (h hn own nw hs)
theorem r_a(x:TypeId×Array Value)(hk:kd op= .a)(hd:decide (d<E.n)=true)(hx:allocOf E.P t ⟨some d,op,ty,pos,af,none⟩=some x)
    (h: ∀b,lx E g ops K r (upd t d (.pointer (some ⟨b,0,none⟩))) ((b,x)::l) (if g then m+1 else m)) (hm:g=true\/m=0) (hpl:Jj E.ks ⟨some d,op,ty,pos,af,none⟩:=by rfl):lx E g ops K (⟨some d,op,ty,pos,af,none⟩::r) t l m:=
  λhn own nw hs=>vm Z (NJ hpl hk (by decide)) hd x hx (λb hbase hb=>by
    have hbl: ∀i c y,l[i]? =some (c,y)->c≠b:=λi c y hi e=>by subst e;change own c=none at hb;rw [(hs.has i _ _ hi).1] at hb;cases hb
    have hnd:(((b,x)::l).map (·.1)).Nodup:=by
      simp only [List.map_cons,List.nodup_cons]
      refine⟨λhin=> ?_,hn⟩
      obtain⟨⟨c,y⟩,hy,e⟩:=List.mem_map.1 hin
      obtain⟨i,hi⟩:=List.getElem?_of_mem hy
      exact hbl i c y hi e
    refine h b hnd _ _ ⟨λi c y hi=> ?_,λp v hp=>⟨(hs.ro p v hp).1, ?_⟩,λc hc=> ?_⟩
    · cases i with
      |zero=>
        simp only [List.getElem?_cons_zero,Option.some.injEq,Prod.mk.injEq] at hi
        obtain⟨rfl,rfl⟩:=hi
        refine⟨DS _ _ _, ?_⟩
        rcases hm with rfl|rfl
        · simp [DS]
        · cases g
          · simp only [Bool.false_eq_true,if_false];rw [hs.non _ hb];rfl
          · simp [DS]
      |succ i=>
        simp only [List.getElem?_cons_succ] at hi
        obtain⟨g1,g2⟩:=hs.has i c y hi
        have hcb:=hbl i c y hi
        refine⟨by show upd own b _ c=_;rw [BU _ _ hcb];exact g1, ?_⟩
        rcases hm with rfl|rfl
        · simp only [if_true];rw [BU _ _ hcb,g2];simp
        · cases g
          · simp only [Bool.false_eq_true,if_false];rw [g2];simp
          · simp only [if_true];rw [BU _ _ hcb,g2];simp
    · have h1:=(hs.ro p v hp).1
      show upd own b _ p.block=none
      rw [BU _ _ (by have:E.base<=b:=hbase;omega)];exact(hs.ro p v hp).2
    · by_cases e:c=b
      · subst e;simp [DS] at hc
      · have hc':own c=none:=by change upd own b _ c=none at hc;rwa [BU _ _ e] at hc
        show(if g then upd nw b true else nw) c=false
        cases g
        · simpa using hs.non c hc'
        · simp only [if_true];rw [BU _ _ e];exact hs.non c hc')
theorem ZO{ks:List (Option Tmp×Bool)}{g:Bool}{ops:Array Oper}{o:Oper}{k:Kd}(hp:Jj ks o)(h:kdg g ops o=k):kdo ks g ops o=k:=(YK hp).trans h
theorem r_s(lN:List Bl)(i:Nat)(b off:Nat)(T:TypeId)(cs vs cs':Array Value){e:TypeId}{p x:Operand}(hk:kdg g ops ⟨none, .store e p x,ty,pos,af,none⟩= .s)(hp:rd t p= .pointer (some ⟨b,off,none⟩))(hl:l[i]? =some (b,T,cs))(hx:(rd t x).cells=vs)
    (hs:StOk E.P e cs off vs) (he:HX cs off vs=cs') (hN:l.set i (b,T,cs')=lN) (h:lx E g ops K r t lN m) (hpl:Jj E.ks ⟨none, .store e p x,ty,pos,af,none⟩:=by rfl) (hgh:goodk E.ks none=false\/b∈E.hid:=by first|exact .inl Z|exact .inr (by simp)):lx E g ops K (⟨none, .store e p x,ty,pos,af,none⟩::r) t l m:=
  λhn own nw hse=>fe Z (ZO hpl hk) Z b (T,cs') (by
    obtain⟨ii,hi,hsz⟩:=hs.i
    exact⟨off,T,cs,ii,hp,(hse.has i _ _ hl).1,hi,by rw [hx];exact hsz,by rw [hx];exact hs.le,by rw [hx];exact hs.one,by rw [hx,he]⟩) (by
    subst hN
    exact h (by rw [Sv hl];exact hn) _ _ (hse.set hn hl)) hgh
theorem qx(lN:List Bl)(i:Nat)(b off:Nat)(T:TypeId)(cs vs cs':Array Value){e:TypeId}{p x:Operand}(hk:kdg g ops ⟨none, .store e p x,ty,pos,af,none⟩= .s)(hp:rd t p= .pointer (some ⟨b,off,none⟩))(hl:l[i]? =some (b,T,cs))(hx:(rd t x).cells=vs)
    (hs:StOk E.P e cs off vs) (he:HX cs off vs=cs') (hN:l.set i (b,T,cs')=lN) (hgh:b∈E.hid) (h:lx E g ops K r t lN m) (hpl:Jj E.ks ⟨none, .store e p x,ty,pos,af,none⟩:=by rfl):lx E g ops K (⟨none, .store e p x,ty,pos,af,none⟩::r) t l m:=
  λhn own nw hse=>fe Z (ZO hpl hk) Z b (T,cs') (by
    obtain⟨ii,hi,hsz⟩:=hs.i
    exact⟨off,T,cs,ii,hp,(hse.has i _ _ hl).1,hi,by rw [hx];exact hsz,by rw [hx];exact hs.le,by rw [hx];exact hs.one,by rw [hx,he]⟩) (by
    subst hN
    exact h (by rw [Sv hl];exact hn) _ _ (hse.set hn hl)) (.inr hgh)
theorem Zz(lN:List Bl)(i:Nat)(b off:Nat)(T:TypeId)(cs vs cs':Array Value){e:TypeId}{p x:Operand}(hk:kdg g ops ⟨none, .store e p x,ty,pos,af,none⟩= .n)(hp:rd t p= .pointer (some ⟨b,off,none⟩))(hl:l[i]? =some (b,T,cs))(hm:decide (i<m)=true)(hx:(rd t x).cells=vs)
    (hs:StOk E.P e cs off vs) (he:HX cs off vs=cs') (hN:l.set i (b,T,cs')=lN) (h:lx E g ops K r t lN m) (hpl:Jj E.ks ⟨none, .store e p x,ty,pos,af,none⟩:=by rfl):lx E g ops K (⟨none, .store e p x,ty,pos,af,none⟩::r) t l m:=
  λhn own nw hse=>vk Z (ZO hpl hk) Z b (T,cs') (by
    obtain⟨ii,hi,hsz⟩:=hs.i
    exact⟨off,T,cs,ii,hp,(hse.has i _ _ hl).1,hi,by rw [hx];exact hsz,by rw [hx];exact hs.le,by rw [hx];exact hs.one,by rw [hx,he]⟩) (by
    show nw b=true
    rw [(hse.has i _ _ hl).2];exact hm) (by
    subst hN
    exact h (by rw [Sv hl];exact hn) _ _ (hse.set hn hl))
structure PutU(l U l1:List Bl):Prop where
  same:l1.map (·.1)=l.map (·.1)
  has: ∀(i:Nat) b x,l1[i]? =some (b,x)->(b,x)∈U\/((∀y∈U,y.1≠b)/\l[i]? =some (b,x))
theorem PutU.nil(l:List Bl):PutU l [] l:=⟨Z,λ_ _ _ h=> .inr ⟨(λ_ hy=>nomatch hy),h⟩⟩
theorem PutU.one{l:List Bl}(hn:(l.map (·.1)).Nodup){i b:Nat}{x y:TypeId×Array Value}(hl:l[i]? =some (b,x)):PutU l [(b,y)] (l.set i (b,y)):=by
  refine⟨Sv hl,λj c z hj=> ?_⟩
  rw [List.getElem?_set] at hj
  split at hj
  · split at hj
    · cases hj;exact .inl (by simp)
    · cases hj
  · rename_i hij
    refine .inr ⟨λy hy e=> ?_,hj⟩
    simp only [zc] at hy
    subst hy
    subst e
    have e1:(l.map (·.1))[i]? =some b:=by rw [List.getElem?_map,hl];rfl
    have e2:(l.map (·.1))[j]? =some b:=by rw [List.getElem?_map,hj];rfl
    obtain⟨hi',e1⟩:=List.getElem?_eq_some_iff.1 e1
    obtain⟨hj',e2⟩:=List.getElem?_eq_some_iff.1 e2
    exact hij ((List.getElem_inj hn).1 (e1.trans e2.symm))
theorem r_g{dd:Option Tmp}(mu:Bool)(p:Pst)(hd:(match dd with|some d=>decide (d<E.n)|none=>true)=true)(hk:E.ks.find? (λx=>x.1==dd)=some (dd,mu))(hsel:isSel op=false)(hm:decide (m<=l.length)=true)
    (H:(l.map (·.1)).Nodup-> ∀own nw,Sees E l m own nw->GenOk E g ⟨t,own,nw⟩ ⟨dd,op,ty,pos,af,none⟩ mu/\ ∀v L U,Ab6 E ⟨t,own,nw⟩ ⟨dd,op,ty,pos,af,none⟩ v L U->p v L U)
    (h: ∀v L U,p v L U-> ∃l1,((l.map (·.1)).Nodup->PutU l U l1)/\lx E g ops K r (putT t dd v) (l1++L) m):lx E g ops K (⟨dd,op,ty,pos,af,none⟩::r) t l m:=
  λhn own nw hs=>by
    obtain⟨hG,hp⟩:=H hn own nw hs
    refine vl Z mu (by unfold kdo;rw [show List.find? (λx:Option Tmp×Bool=>x.1==(Oper.dst ⟨dd,op,ty,pos,af,none⟩)) E.ks=some (dd,mu)from hk];simp [hsel]) hd hG (λv L U hc hL=> ?_)
    obtain⟨l1,hu,hlx⟩:=h v L U (hp v L U hc)
    have hU:=hu hn
    obtain⟨hnd,hndU⟩:=hG.nod v L U hc
    have hLl: ∀x∈L,∀y∈l,x.1≠y.1:=λx hx y hy e=>by
      obtain⟨i,hi⟩:=List.getElem?_of_mem hy
      have h1:=(hs.has i y.1 y.2 hi).1
      have h2:=(hL x hx).2
      change own x.1=none at h2
      rw [<-e,h2] at h1;cases h1
    have hlen:l1.length=l.length:=by have:=congrArg List.length hU.same;simpa using this
    have hUo: ∀x∈U,∀y∈L,x.1≠y.1:=λx hx y hy e=>by
      obtain⟨⟨z,hz⟩,_⟩:=hG.upO v L U hc x hx
      have h2:=(hL y hy).2
      change own x.1=some z at hz;change own y.1=none at h2
      rw [<-e,hz] at h2;cases h2
    refine hlx ?_ _ _ ⟨λi b x hi=> ?_,λq u hq=>⟨(hs.ro q u hq).1, ?_⟩,λb hb=> ?_⟩
    · rw [List.map_append,hU.same]
      refine List.nodup_append.2 ⟨hn,hnd,λa ha b hb e=> ?_⟩
      obtain⟨y,hy,rfl⟩:=List.mem_map.1 ha
      obtain⟨x,hx,rfl⟩:=List.mem_map.1 hb
      exact hLl x hx y hy e.symm
    · rw [List.getElem?_append] at hi
      split at hi
      · rename_i hlt
        have hbl: ∃y,l[i]? =some (b,y):=by
          have e1:(l1.map (·.1))[i]? =some b:=by rw [List.getElem?_map,hi];rfl
          rw [hU.same,List.getElem?_map] at e1
          cases hli:l[i]? with
          |none=>rw [hli] at e1;cases e1
          |some z=>rw [hli] at e1;simp only [Option.map_some,Option.some.injEq] at e1;exact⟨z.2,by rw [<-e1]⟩
        obtain⟨y,hy⟩:=hbl
        have hnL: ∀z∈L,z.1≠b:=λz hz e=>hLl z hz (b,y) (List.mem_of_getElem? hy) e
        refine⟨?_,by show seen L nw b=_;rw [IN hnL];exact(hs.has i b y hy).2⟩
        show over L (over U own) b=some x
        rw [Dj hnL]
        rcases hU.has i b x hi with h1|⟨h1,h2⟩
        · exact LL (x:=(b,x)) hndU h1
        · rw [Dj h1];exact(hs.has i b x h2).1
      · rename_i hge
        have hmem:=List.mem_of_getElem? hi
        refine⟨LL (x:=(b,x)) hnd hmem, ?_⟩
        show seen L nw b=_
        rw [QA (x:=(b,x)) hmem]
        have:=zd hm
        symm;simp;omega
    · have h1:=(hs.ro q u hq).2
      show over L (over U own) q.block=none
      have hb:=(hs.ro q u hq).1
      rw [Dj (λx hx e=>by have:=(hL x hx).1;change E.base<=x.1 at this;omega),Dj (λx hx e=>by
        obtain⟨⟨z,hz⟩,_⟩:=hG.upO v L U hc x hx
        change own x.1=some z at hz
        rw [e,h1] at hz;cases hz)]
      exact h1
    · have hb':over L (over U own) b=none:=hb
      have n1: ∀x∈L,x.1≠b:=λx hx e=>by subst e;rw [LL hnd hx] at hb';cases hb'
      show seen L nw b=false
      rw [IN n1]
      rw [Dj n1] at hb'
      refine hs.non b ?_
      unfold over at hb'
      split at hb'
      · cases hb'
      · exact hb'
end
abbrev QL:=Exit->(Nat->Value)->List Bl->Prop
def nonw:Nat->Bool:=λ_=>false
def fZ(K:(Nat->Value)->List Bl->Prop)(Q:QL):QL
  | .normal,t,l=>K t l
  |e,t,l=>Q e t l
def fM(a:Nat)(Q:QL):QL
  | .exit id',t,l=>if id'=a then Q .normal t l else Q (.exit id') t l
  |e,t,l=>Q e t l
def SimL(E:Env)(b:World)(t:Nat->Value)(l:List Bl)(a:Act)(w:World):Prop:=(l.map (·.1)).Nodup/\Sim E b ⟨t,ownL l,nonw⟩ a w
def PostL(E:Env)(b:World)(Q:QL):Exit->Act->World->Prop:=λe a w=> ∃t l,Q e t l/\SimL E b t l a w
def A(E:Env)(c:Code)(Q:QL)(t:Nat->Value)(l:List Bl):Prop:= ∀w0 a w,E.P.follows .mixedOrders=true->SimL E w0 t l a w->c.wp E.P (PostL E w0 Q) a w
structure Sub(l' l:List Bl):Prop where
  mem: ∀x∈l',x∈l
  nod:(l.map (·.1)).Nodup->(l'.map (·.1)).Nodup
theorem Sub.of{l' l:List Bl}(h:l'.Sublist l):Sub l' l:=⟨λ_ hx=>h.subset hx,λhn=>(h.map _).nodup hn⟩
theorem Sub.sim{E:Env}{w0 w:World}{t:Nat->Value}{l l':List Bl}{a:Act}(h:Sub l' l)(hs:SimL E w0 t l a w):SimL E w0 t l' a w:=by
  refine⟨h.nod hs.1,hs.2.dfr,hs.2.sz,hs.2.tm,hs.2.bel,hs.2.bs,hs.2.ro,λb T cs ho=>hs.2.own b T cs ?_,hs.2.iv⟩
  have hm: ∀{l:List Bl} {b:Nat} {x:TypeId×Array Value},ownL l b=some x->(b,x)∈l:=by
    intro l b x h
    induction l with
    |nil=>cases h
    |cons y l ih=>
      obtain⟨c,y⟩:=y
      simp only [ownL] at h
      split at h
      · rename_i he;subst he;cases h;simp
      · exact List.mem_cons_of_mem _ (ih h)
  have h2:=h.mem _ (hm ho)
  obtain⟨i,hi⟩:=List.getElem?_of_mem h2
  exact Pn hs.1 hi
structure Fg(J:(Nat->Value)->List Bl->Prop)(t:Nat->Value)(l:List Bl):Prop where
  out: ∃l',Sub l' l/\J t l'
section
variable {E:Env} {Q:QL} {t:Nat->Value} {l:List Bl}
theorem Bs{c':Code}(l':List Bl)(hs:Sub l' l)(h:A E c' Q t l'):A E c' Q t l:=λw0 a w hm hsim=>h w0 a w hm (hs.sim hsim)
theorem AK{t:Nat->Value}:Sep [] t:=λ_ h=>by simp at h
theorem bB{t:Nat->Value}{l:List Bl}{ps:List (Nat×Nat)}{p q:Nat}(hn:(l.map (·.1)).Nodup)(i j:Nat)(hij:decide (i=j)=false){b c:Nat}{x y:TypeId×Array Value}(hi:l[i]? =some (b,x))(hj:l[j]? =some (c,y))
    {o o':Nat} (h1:t p= .pointer (some ⟨b,o,none⟩)) (h2:t q= .pointer (some ⟨c,o',none⟩)) (h:Sep ps t):Sep ((p,q)::ps) t:=by
  intro pq hpq
  rcases List.mem_cons.1 hpq with rfl|hpq
  · simp only [h1,h2,blk,ne_eq,Option.some.injEq]
    intro e
    subst e
    have e1:(l.map (·.1))[i]? =some b:=by rw [List.getElem?_map,hi];rfl
    have e2:(l.map (·.1))[j]? =some b:=by rw [List.getElem?_map,hj];rfl
    obtain⟨hi',e1⟩:=List.getElem?_eq_some_iff.1 e1
    obtain⟨hj',e2⟩:=List.getElem?_eq_some_iff.1 e2
    exact of_decide_eq_false hij ((List.getElem_inj hn).1 (e1.trans e2.symm))
  · exact h pq hpq
theorem SimL.sees{w0 w:World}{a:Act}(hs:SimL E w0 t l a w):Sees E l 0 (ownL l) nonw:=
  ⟨λi b x hi=>⟨Pn hs.1 hi,by simp [nonw]⟩,λp v hp=>by
    obtain⟨h1,h2,_⟩:=hs.2.ro p v hp
    refine⟨h1, ?_⟩
    cases ho:ownL l p.block with
    |none=>rfl
    |some x=>
      rcases(hs.2.own p.block x.1 x.2 ho).1 with h3|h3
      · omega
      · exact absurd h3 h2,λ_ _=>Z⟩
theorem Sees.simL{m:Nat}{own:Nat->Option (TypeId×Array Value)}{nw:Nat->Bool}{E':Env}(h:Sees E' l m own nw)(hn:(l.map (·.1)).Nodup){w0 w:World}{a:Act}(hs:Sim E w0 ⟨t,own,nw⟩ a w):SimL E w0 t l a w:=
  ⟨hn,hs.dfr,hs.sz,hs.tm,hs.bel,hs.bs,hs.ro,λb T cs ho=>by
    obtain⟨i,hi⟩:=SB ho
    exact hs.own b T cs (h.has i _ _ hi).1,hs.iv⟩
theorem Sim.with{ks:List (Option Tmp×Bool)}{con:Con}{hid:List Nat}{w0 w:World}{s:St}{a:Act}(h:Sim E w0 s a w):Sim {E with ks:=ks,con:=con,hid:=hid} w0 s a w:=⟨h.dfr,h.sz,h.tm,h.bel,h.bs,h.ro,h.own,h.iv⟩
theorem Sim.without{ks:List (Option Tmp×Bool)}{con:Con}{hid:List Nat}{w0 w:World}{s:St}{a:Act}(h:Sim {E with ks:=ks,con:=con,hid:=hid} w0 s a w):Sim E w0 s a w:=⟨h.dfr,h.sz,h.tm,h.bel,h.bs,h.ro,h.own,h.iv⟩
theorem qc{id:Nat}{r:List Oper}(ks:List (Option Tmp×Bool))(con:Con)(h:lx {E with ks:=ks,con:=con} false r.toArray (Q .normal) r t l 0):A E (.region id r.toArray false) Q t l:=λw0 a w _ hs=>by
  have h1:=h hs.1 (ownL l) nonw ⟨hs.sees.has,hs.sees.ro,hs.sees.non⟩
  refine wp_region_list (Sim.list (E:={E with ks:=ks,con:=con}) (w0:=w0) (Q':=PostL E w0 Q) (λs a w hk hs=> ?_) _ _ a w hs.2.with h1)
  obtain⟨l',m',hn',hse,hq⟩:=hk
  exact⟨s.t,l',hq,hse.simL hn' hs.without⟩
theorem Ah{id:Nat}{r:List Oper}(h:lx E false r.toArray (Q .normal) r t l 0):A E (.region id r.toArray false) Q t l:=qc E.ks E.con h
theorem RU(ops:Array Oper):pick ops (List.range ops.size)=ops.toList:=by
  unfold pick
  apply List.ext_getElem?
  intro i
  have: ∀(n k:Nat),k+n=ops.size->List.filterMap (λi=>ops[i]?) (List.range' k n)=ops.toList.drop k:=by
    intro n
    induction n with
    |zero=>intro k hk;simp;omega
    |succ n ih=>
      intro k hk
      have hlt:k<ops.size:=by omega
      rw [List.range'_succ,List.filterMap_cons,Array.getElem?_eq_getElem hlt]
      simp only
      rw [ih (k+1) (by omega)]
      have e:=j5 (l:=ops.toList) (i:=k) (by simpa using hlt)
      rw [e];simp
  rw [List.range_eq_range',this ops.size 0 (by omega)]
  rfl
theorem jp{ks:List (Option Tmp×Bool)}{d:Option Tmp}(h:goodk ks d=true):hmk ks=true:=by
  obtain⟨x,hx,he⟩:=List.any_eq_true.1 h
  refine List.any_eq_true.2 ⟨x,hx, ?_⟩
  simp only [Bool.and_eq_true,beq_iff_eq] at he
  unfold vw
  rw [he.2]
  simp only [he.1,Bool.true_and]
  exact zf (Nat.le_add_right _ _)
theorem qe{id:Nat}{r:List Oper}(ks:List (Option Tmp×Bool))(con:Con)(hid:List Nat)(ps:List (Nat×Nat))(π:List Nat)(hB:Vz ks r.toArray ps π=true)(hS:(l.map (·.1)).Nodup->Sep ps t)
    (hH:Xd {E with ks:=ks,con:=con,hid:=hid} r.toArray)
    (h:(l.map (·.1)).Nodup->lx {E with ks:=ks,con:=con,hid:=hid} true r.toArray (Q .normal) (pick r.toArray π) t l 0):A E (.region id r.toArray true) Q t l:=λw0 a w hm hs=>by
  have h1:=h hs.1 hs.1 (ownL l) nonw ⟨hs.sees.has,hs.sees.ro,hs.sees.non⟩
  have h':Sim {E with ks:=ks,con:=con,hid:=hid} w0 ⟨t,ownL l,nonw⟩ a {w with drawn:=w.drawn+1}:=hs.2.draw.with
  simp only [Vz,Bool.and_eq_true,beq_iff_eq,List.all_eq_true,decide_eq_true_eq] at hB
  obtain⟨⟨⟨hp,hB⟩,hlen⟩,hall⟩:=hB
  have h2:=WZ (E:={E with ks:=ks,con:=con,hid:=hid}) hH hp π (Array.replicate r.toArray.size false) ⟨t,ownL l,nonw⟩ h'.fin (hS hs.1) hall hB h1
  rw [hlen] at h2
  refine wp_region_any hm (Sim.any (E:={E with ks:=ks,con:=con,hid:=hid}) (w0:=w0) (Q':=PostL E w0 Q) (λs a w hk hs=> ?_) _ _ _ _ _ h' h2)
  obtain⟨l',m',hn',hse,hq⟩:=hk
  exact⟨s.t,l',hq,hse.simL hn' hs.without⟩
theorem iw{id:Nat}{r:List Oper}(ks:List (Option Tmp×Bool))(con:Con)(ps:List (Nat×Nat))(π:List Nat)(hB:Vz ks r.toArray ps π=true)(hS:(l.map (·.1)).Nodup->Sep ps t)
    (h:lx {E with ks:=ks,con:=con} true r.toArray (Q .normal) (pick r.toArray π) t l 0) (hg:hmk ks=false:=by rfl):A E (.region id r.toArray true) Q t l:=λw0 a w hm hs=>by
  have hH:Xd {E with ks:=ks,con:=con} r.toArray:=λo _ hgo=>by
    have:=jp hgo
    rw [show hmk ({E with ks:=ks,con:=con}:Env).ks=false from hg] at this
    cases this
  have h1:=h hs.1 (ownL l) nonw ⟨hs.sees.has,hs.sees.ro,hs.sees.non⟩
  have h':Sim {E with ks:=ks,con:=con} w0 ⟨t,ownL l,nonw⟩ a {w with drawn:=w.drawn+1}:=hs.2.draw.with
  simp only [Vz,Bool.and_eq_true,beq_iff_eq,List.all_eq_true,decide_eq_true_eq] at hB
  obtain⟨⟨⟨hp,hB⟩,hlen⟩,hall⟩:=hB
  have h2:=WZ (E:={E with ks:=ks,con:=con}) hH hp π (Array.replicate r.toArray.size false) ⟨t,ownL l,nonw⟩ h'.fin (hS hs.1) hall hB h1
  rw [hlen] at h2
  refine wp_region_any hm (Sim.any (E:={E with ks:=ks,con:=con}) (w0:=w0) (Q':=PostL E w0 Q) (λs a w hk hs=> ?_) _ _ _ _ _ h' h2)
  obtain⟨l',m',hn',hse,hq⟩:=hk
  exact⟨s.t,l',hq,hse.simL hn' hs.without⟩
theorem Ia{id:Nat}{r:List Oper}(ps:List (Nat×Nat))(hB:wV r.toArray ps=true)(hS:(l.map (·.1)).Nodup->Sep ps t)(h:lx {E with ks:=[]} true r.toArray (Q .normal) r t l 0):A E (.region id r.toArray true) Q t l:=
  iw [] E.con ps (List.range r.toArray.size) hB hS (by rw [RU];exact h)
theorem Aa{x y:Code}(h: ∀K:(Nat->Value)->List Bl->Prop,(∀t l,A E y Q t l->K t l)->A E x (fZ K Q) t l):A E (.seq x y) Q t l:=λw0 a w hm hs=>by
  refine wp_seq (Code.wp_mono (λe a w hk=> ?_) (h _ (λ_ _ h=>h) w0 a w hm hs))
  obtain⟨t',l',hq,hs'⟩:=hk
  cases e with
  |normal=>exact hq w0 a w hm hs'
  |_=>exact⟨t',l',hq,hs'⟩
theorem Cb{x y:Code}(J:(Nat->Value)->List Bl->Prop)(h:A E x (fZ (Fg J) Q) t l)(h2: ∀t l,J t l->A E y Q t l):A E (.seq x y) Q t l:=λw0 a w hm hs=>by
  refine wp_seq (Code.wp_mono (λe a w hk=> ?_) (h w0 a w hm hs))
  obtain⟨t',l',hq,hs'⟩:=hk
  cases e with
  |normal=>
    obtain⟨l2,hsub,hj⟩:=hq.out
    exact h2 _ _ hj w0 a w hm (hsub.sim hs')
  |_=>exact⟨t',l',hq,hs'⟩
theorem BI{c:Operand}{x y:Code}(b:Bool)(hx:rd t c= .bool b)(h1:b=true->A E x Q t l)(h2:b=false->A E y Q t l):A E (.cond c x y) Q t l:=
  λw0 a w hm hs=>wp_cond_split (t:=b) (by rw [hs.2.eval];exact hx) (λhb=>h1 hb w0 a w hm hs) (λhb=>h2 hb w0 a w hm hs)
theorem Co{c:Operand}{x y:Code}(hx:rd t c= .bool false)(h:A E y Q t l):A E (.cond c x y) Q t l:=BI false hx (λh=>nomatch h) (λ_=>h)
theorem Nt{c:Operand}{x y:Code}(hx:rd t c= .bool true)(h:A E x Q t l):A E (.cond c x y) Q t l:=BI true hx (λ_=>h) (λh=>nomatch h)
theorem Ai{id:Nat}{c:Code}(h:A E c (fM id Q) t l):A E (.block id c) Q t l:=λw0 a w hm hs=>by
  refine wp_block (Code.wp_mono (λe a w hk=> ?_) (h w0 a w hm hs))
  obtain⟨t',l',hq,hs'⟩:=hk
  cases e with
  |exit id'=>
    by_cases hid:id'=id
    · simp only [fM,if_pos hid] at hq
      simp only [Exit.inBlock,if_pos hid];exact⟨t',l',hq,hs'⟩
    · simp only [fM,if_neg hid] at hq
      simp only [Exit.inBlock,if_neg hid];exact⟨t',l',hq,hs'⟩
  |_=>exact⟨t',l',hq,hs'⟩
theorem AG{id:Nat}(h:Q (.exit id) t l):A E (.exit id) Q t l:=λ_ _ _ _ hs=>wp_exit ⟨t,l,h,hs⟩
theorem Bh(h:(l.map (·.1)).Nodup->Q .ret t l):A E .ret Q t l:=λ_ _ _ _ hs=>wp_ret ⟨t,l,h hs.1,hs⟩
theorem Ab(h:Q .normal t l):A E .skip Q t l:=λ_ _ _ _ hs=>wp_skip ⟨t,l,h,hs⟩
theorem AH{c:Code}(I:(Nat->Value)->List Bl->Nat->Prop)(n0:Nat)(h0:I t l n0)
    (h1: ∀t l n,I t l n->A E c (fZ (Fg λt' l'=> ∃n',n'<n/\I t' l' n') Q) t l):A E (.loop c) Q t l:=λw0 a w hm hs=>by
  have key: ∀n t l a w,I t l n->SimL E w0 t l a w-> ∀(b:Frame) (k:List Item) (cs:List Frame),
      ∃e a' w',PostL E w0 Q e a' w'/\Arrives E.P (lone (b.at a (.code c:: .inLoop c::k)) cs w) b k cs e a' w':=by
    intro n
    induction n using Nat.strongRecOn with
    |_ n ihn=>
      intro t l a w hI hs b k cs
      obtain⟨e,a1,w1,⟨t1,l1,hk,hs1⟩,harr⟩:=h1 t l n hI w0 a w hm hs b (.inLoop c::k) cs
      cases e with
      |normal=>
        obtain⟨l2,hsub,n',hlt,hI'⟩:=hk.out
        obtain⟨e2,a2,w2,hq2,harr2⟩:=ihn n' hlt t1 l2 a1 w1 hI' (hsub.sim hs1) b k cs
        exact⟨e2,a2,w2,hq2, .of_steps (Steps.trans harr (.one step_inLoop)) harr2⟩
      |exit id=>exact⟨_,a1,w1,⟨t1,l1,hk,hs1⟩, .pass (x:= .inLoop c) Z (λ_ _=> .inl (by simp)) harr⟩
      |goto l=>exact⟨_,a1,w1,⟨t1,l1,hk,hs1⟩, .pass (x:= .inLoop c) Z (λ_ _=> .inl (by simp)) harr⟩
      |ret=>exact⟨_,a1,w1,⟨t1,l1,hk,hs1⟩, .pass (x:= .inLoop c) Z (λ_ _=> .inl (by simp)) harr⟩
      |panic ch=>exact⟨_,a1,w1,⟨t1,l1,hk,hs1⟩, .pass (x:= .inLoop c) Z (λ_ _=> .inl (by simp)) harr⟩
      |outgrown=>exact⟨_,a1,w1,⟨t1,l1,hk,hs1⟩, .pass (x:= .inLoop c) Z (λ_ _=> .inl (by simp)) harr⟩
  intro b k cs
  obtain⟨e,a',w',hq',harr⟩:=key n0 t l a w h0 hs b k cs
  exact⟨e,a',w',hq', .of_steps (.one step_loop) harr⟩
end
def eI(f:Nat->Value):List (Nat×Value)->Nat->Value
  | []=>f
  |(k,v)::r=>upd (eI f r) k v
theorem jS(f:Nat->Value)(k:Nat):upd f k (f k)=f:=by funext i;unfold upd;split<;>simp_all
theorem OY(f:Nat->Value): ∀(r:List (Nat×Value)),r.map (λx=>f x.1)=r.map (·.2)->eI f r=f
  | [],_=>rfl
  |(k,v)::r,h=>by
    simp only [List.map_cons,List.cons.injEq] at h
    simp only [eI]
    rw [OY f r h.2,<-h.1,jS]
theorem fg{J:(Nat->Value)->List Bl->Prop}{t:Nat->Value}{l:List Bl}(l':List Bl)(hs:Sub l' l)(hj:J t l'):Fg J t l:=⟨⟨l',hs,hj⟩⟩
def Is(a:List (Nat×Value))(b:List Bl)(t:Nat->Value)(l:List Bl):Prop:=(∃T,t=eI T a)/\l=b
theorem Ag{kv:List (Nat×Value)}{bl:List Bl}{t:Nat->Value}(h:kv.map (λx=>t x.1)=kv.map (·.2)){l:List Bl}(hl:l=bl):Is kv bl t l:=⟨⟨t,(OY t kv h).symm⟩,hl⟩
def xB(E:Env)(a:Array ResultVar)(v:Value):QL
  | .normal,t,l| .ret,t,l=>Mk E a ⟨t,ownL l,nonw⟩=some v
  |_,_,_=>False
theorem Eu{E:Env}{rs:Array ResultVar}{t:Nat->Value}{l:List Bl}{v v0:Value}(he:v0=v)(h:Mk E rs ⟨t,ownL l,nonw⟩=some v0):Mk E rs ⟨t,ownL l,nonw⟩=some v:=by rw [<-he];exact h
theorem AW{E:Env}{t:Nat->Value}{l:List Bl}{k:Tmp}{ty:TypeId}{v:Value}(hn:(l.map (·.1)).Nodup)(i:Nat){b:Nat}{T:TypeId}{cs:Array Value}(hp:t k= .pointer (some ⟨b,0,none⟩))(hl:l[i]? =some (b,T,cs))(hv:Ht E.P ty cs 0=some v):
    Hl E ⟨t,ownL l,nonw⟩ (.cell k ty)=some v:=by
  show(match t k with| .pointer (some a)=>ev E.P (cellA E (ownL l) nonw) (loadVar ty a)|_=>none)=some v
  rw [hp]
  exact mf (Mw (Pn hn hl) Z) hv
theorem FZ{E:Env}{s:St}{a:ResultVar}{x:Value}(ha:Hl E s a=some x):Mk E #[a] s=some x:=ha
theorem LI{E:Env}{s:St}{a b:ResultVar}{x y:Value}(ha:Hl E s a=some x)(hb:Hl E s b=some y):Mk E #[a,b] s=some (.tuple #[x,y]):=by
  show((Hl E s a).bind λx=>(Hl E s b).bind λy=>some (Value.tuple #[x,y]))=some (Value.tuple #[x,y])
  rw [ha,hb];rfl
theorem iU{E:Env}{s:St}{a b c:ResultVar}{x y z:Value}(ha:Hl E s a=some x)(hb:Hl E s b=some y)(hc:Hl E s c=some z):Mk E #[a,b,c] s=some (.tuple #[x,y,z]):=by
  show((Hl E s a).bind λx=>(Hl E s b).bind λy=>(Hl E s c).bind λz=>some (Value.tuple #[x,y,z]))=some (Value.tuple #[x,y,z])
  rw [ha,hb,hc];rfl
theorem Aq{P:Program}{f:FuncId}{fn:Func}{c:Code}{args:Array Value}{v:Value}(hm:P.follows .mixedOrders=true)(hf:P.funcs[f]? =some fn)(hb:fn.body=some c)
    (n:Nat) (hn:args.size+(fn.ntmps - args.size)=n) (t0:Nat->Value) (ht:(λk=>args.getD k undef)=t0) (h: ∀base,A (env P n base) c (xB (env P n base) fn.results v) t0 []):Gives P f args v:=by
  subst ht
  intro w
  refine calls_of_wp hf hb ?_
  have hs:Sim (env P n w.heap.size) w (St.init args) {tmps:=args++Array.replicate (fn.ntmps - args.size) undef,defers:=[]} w:=Vh n hn
  refine Code.wp_mono (λe a w' hk=> ?_) (h w.heap.size w _ w hm ⟨List.nodup_nil,hs⟩)
  obtain⟨t,l,hq,_,hs⟩:=hk
  cases e with
  |normal=>exact⟨hs.dfr,v,Ri hs hq,Z,hs.bel.below⟩
  |ret=>exact⟨hs.dfr,v,Ri hs hq,Z,hs.bel.below⟩
  |_=>exact hq.elim
def DoesI(P:Program)(f:FuncId)(c:Array Value)(d:World->Prop)(g:Addr->Option Value)(b:List Bl)(p:Pst):Prop:=
  ∀w,d w->(∀a v,g a=some v->w.cell? a=some v/\a.block ∉ b.map (·.1))->(∀x∈b,Holds w x.1 x.2.1 x.2.2)->(b.map (·.1)).Nodup->
    Calls P f c w λe h=> ∃v L U,e= .returned v/\ExtW w h L U/\p v L U
def Does(P:Program)(f:FuncId)(b:Array Value)(c:Addr->Option Value)(a:List Bl)(p:Pst):Prop:=DoesI P f b (λ_=>True) c a p
theorem Does.inv{P:Program}{f:FuncId}{args:Array Value}{ro:Addr->Option Value}{foot:List Bl}{p:Pst}(h:Does P f args ro foot p)(inv:World->Prop):DoesI P f args inv ro foot p:=λw _=>h w trivial
def Xe(E:Env)(b:Array ResultVar)(a:List Bl)(p:Pst):QL
  | .normal,t,l| .ret,t,l=> ∃v L U,Mk E b ⟨t,ownL l,nonw⟩=some v/\Sub (U++L) l/\U.map (·.1)=a.map (·.1)/\p v L U
  |_,_,_=>False
theorem Be{P:Program}{f:FuncId}{fn:Func}{c:Code}{args:Array Value}{ro:Addr->Option Value}{foot:List Bl}{p:Pst}(hm:P.follows .mixedOrders=true)(hf:P.funcs[f]? =some fn)(hb:fn.body=some c)
    (n:Nat) (hn:args.size+(fn.ntmps - args.size)=n) (t0:Nat->Value) (ht:(λk=>args.getD k undef)=t0)
    {inv:World->Prop} (hinv: ∀w w',inv w->Kept w.heap.size (foot.map (·.1)) w w'->inv w')
    (h: ∀base,A {P:=P,n:=n,base:=base,ro:=ro,foot:=foot.map (·.1),inv:=inv} c (Xe {P:=P,n:=n,base:=base,ro:=ro,foot:=foot.map (·.1),inv:=inv} fn.results foot p) t0 foot):DoesI P f args inv ro foot p:=by
  subst ht
  intro w hiw hro hfo hnd
  refine calls_of_wp hf hb ?_
  have hs0:Sim (env P n w.heap.size) w (St.init args) {tmps:=args++Array.replicate (fn.ntmps - args.size) undef,defers:=[]} w:=Vh n hn
  have hs:SimL {P:=P,n:=n,base:=w.heap.size,ro:=ro,foot:=foot.map (·.1),inv:=inv} w (λk=>args.getD k undef) foot {tmps:=args++Array.replicate (fn.ntmps - args.size) undef,defers:=[]} w:=
    ⟨hnd,hs0.dfr,hs0.sz,hs0.tm,Kept.refl _ _ _,Nat.le_refl _,λq v hq=>by
      obtain⟨h1,h2⟩:=hro q v hq
      refine⟨?_,h2,h1⟩
      unfold World.cell? at h1
      cases hc:w.heap[q.block]? with
      |none=>rw [hc] at h1;cases h1
      |some o=>exact(Array.getElem?_eq_some_iff.1 hc).1,λb T cs ho=>by
      obtain⟨i,hi⟩:=SB ho
      have hmem:=List.mem_of_getElem? hi
      exact⟨.inr (List.mem_map.2 ⟨_,hmem,Z⟩),hfo _ hmem⟩,λw' hk=>hinv w w' hiw hk⟩
  refine Code.wp_mono (λe a w' hk=> ?_) (h w.heap.size w _ w hm hs)
  obtain⟨t,l,hq,hnd',hs⟩:=hk
  have fin:(∃v L U,Mk {P:=P,n:=n,base:=w.heap.size,ro:=ro,foot:=foot.map (·.1),inv:=inv} fn.results ⟨t,ownL l,nonw⟩=some v/\Sub (U++L) l/\U.map (·.1)=foot.map (·.1)/\p v L U)->
      a.defers=[]/\ ∃v,(results fn a.tmps).run P w'= .ok v w'/\ ∃v' L U,Ending.returned v= .returned v'/\ExtW w w' L U/\p v' L U:=by
    rintro⟨v,L,U,hv,hsub,hU,hp⟩
    refine⟨hs.dfr,v,Ri hs hv,v,L,U,Z,⟨hs.bel.os,hs.bel.tape,hs.bel.output,hs.bel.size,λk hk hne=>hs.bel.block k hk (λhf=> ?_),λx hx=> ?_,λx hx=> ?_,hs.bel.drawn⟩,hp⟩
    · have hf':k∈foot.map (·.1):=hf
      rw [<-hU] at hf'
      obtain⟨y,hy,rfl⟩:=List.mem_map.1 hf'
      exact hne y hy Z
    · have hmem:=hsub.mem _ (List.mem_append_left L hx)
      obtain⟨i,hi⟩:=List.getElem?_of_mem hmem
      exact(hs.own x.1 x.2.1 x.2.2 (Pn hnd' hi)).2
    · have hmem:=hsub.mem _ (List.mem_append_right U hx)
      obtain⟨i,hi⟩:=List.getElem?_of_mem hmem
      obtain⟨h1,h2⟩:=hs.own x.1 x.2.1 x.2.2 (Pn hnd' hi)
      refine⟨?_,h2⟩
      rcases h1 with h1|h1
      · exact h1
      · exfalso
        have h1':x.1∈foot.map (·.1):=h1
        rw [<-hU] at h1'
        have hn2:((U++L).map (·.1)).Nodup:=hsub.nod hnd'
        rw [List.map_append,List.nodup_append] at hn2
        exact hn2.2.2 _ h1' _ (List.mem_map.2 ⟨x,hx,Z⟩) Z
  cases e with
  |normal=>exact fin hq
  |ret=>exact fin hq
  |_=>exact hq.elim
theorem Al{P:Program}{f:FuncId}{fn:Func}{c:Code}{args:Array Value}{ro:Addr->Option Value}{foot:List Bl}{p:Pst}(hm:P.follows .mixedOrders=true)(hf:P.funcs[f]? =some fn)(hb:fn.body=some c)
    (n:Nat) (hn:args.size+(fn.ntmps - args.size)=n) (t0:Nat->Value) (ht:(λk=>args.getD k undef)=t0)
    (h: ∀base,A {P:=P,n:=n,base:=base,ro:=ro,foot:=foot.map (·.1)} c (Xe {P:=P,n:=n,base:=base,ro:=ro,foot:=foot.map (·.1)} fn.results foot p) t0 foot):Does P f args ro foot p:=
  Be hm hf hb n hn t0 ht (λ_ _ h _=>h) h
theorem GenRun.call{P:Program}{ρ:Operand->Value}{o:Oper}{w:World}{p:Pst}{f:FuncId}{args:Array Value}{c ro:Addr->Option Value}{foot:List Bl}{inv:World->Prop}(hc: ∀a v,c a=some v->w.cell? a=some v)(he:ev P c (execOp ρ o)=some (.enter f args))(hd:DoesI P f args inv ro foot p)
    (hi:inv w) (hro: ∀a v,ro a=some v->w.cell? a=some v/\a.block ∉ foot.map (·.1)) (hfo: ∀x∈foot,Holds w x.1 x.2.1 x.2.2) (hn:(foot.map (·.1)).Nodup):GenRun P ρ o w p:=
  .inr ⟨f,args,Sg hc _ _ he,hd w hi hro hfo hn⟩
theorem gT{α β:Type}{P:Program}{c:Addr->Option Value}(g:α->Sem β)(h:α->β): ∀(l:List α),(∀x∈l,ev P c (g x)=some (h x))->ev P c (l.mapM g)=some (l.map h)
  | [],_=>by simp [Bj]
  |x::l,hl=>by
    have h1:=hl x (by simp)
    have h2:=gT g h l (λy hy=>hl y (by simp [hy]))
    simp [List.mapM_cons,AS,Sh,h1,h2]
theorem mc{α β:Type}{P:Program}{c:Addr->Option Value}(g:α->Sem β)(h:α->β)(a:Array α)(hl: ∀x∈a,ev P c (g x)=some (h x)):ev P c (a.mapM g)=some (a.map h):=by
  obtain⟨l⟩:=a
  have:=gT g h l (λx hx=>hl x (by simpa using hx))
  simp [Sh,this]
def PQ(P:Program)(f:Field):Nat×Nat:=(f.offset,((P.info? f.type).map (·.size)).getD 0)
theorem mg{P:Program}{c:Addr->Option Value}{t:TypeId}{parts:Array (Nat×Value)}{fs:Array Field}{z:Value}{cs:Array Value}(hu:P.underlying t=some (.struct fs))
    (hz:(P.info? t).bind (·.zero)=some z) (hf:fs.all (λf=>(P.info? f.type).isSome)=true) (hc:Instr.fill ((fs.map (PQ P))[·]?) z.cells parts.toList=some cs):
    ev P c (Instr.build t parts)=some (.agg cs):=by
  have hz':ev P c (zeroValue t)=some z:=by
    cases hi:P.info? t with
    |none=>simp [hi] at hz
    |some i=>
      simp only [hi,q0] at hz
      simp [zeroValue,typeInfo,program,AS,Bj,ev,hi,hz]
  have hm:=mc (P:=P) (c:=c) (λf:Field=>(do pure (f.offset,<-sizeOf f.type):Sem (Nat×Nat))) (PQ P) fs (λf hf'=>by
    have:=(Array.all_eq_true_iff_forall_mem.1 hf) f hf'
    cases hi:P.info? f.type with
    |none=>simp [hi] at this
    |some i=>simp [Sh,HI hi,PQ,hi])
  unfold Instr.build
  simp only [AS,hz',q0,Bx hu,hm,hc,Bj]
theorem Fc{P:Program}{c:Addr->Option Value}{s:Sem Value}{v:Value}(h:ev P c s=some v):ev P c (do pure (Next.value (<-s)):Sem Next)=some (.value v):=by
  simp [Sh,h]
theorem Rv{x z:Int}(h:x=z)(h1: -9223372036854775808<=z)(h2:z<=9223372036854775807):Value.int .i64 (IntKind.i64.wrap x)= .int .i64 z:=by
  subst h
  have:IntKind.i64.wrap x=x:=by
    simp only [IntKind.wrap,IntKind.signed,IntKind.bits]
    simp
    omega
  rw [this]
theorem qg(x:Int):IntKind.u64.wrap x=x%18446744073709551616:=by
  simp [IntKind.wrap,IntKind.signed,IntKind.bits]
abbrev U(x:W4):Value:= .int .u64 (x.toNat:Int)
theorem Xc(x y:W4):Value.int .u64 (IntKind.u64.wrap ((x.toNat:Int)+(y.toNat:Int)))=U (x+y):=by
  rw [qg];congr 1
theorem Us(x y:W4):Value.int .u64 (IntKind.u64.wrap ((x.toNat:Int)*(y.toNat:Int)))=U (x*y):=by
  rw [qg];congr 1
theorem Xa(n:Nat):Value.int .u64 (IntKind.u64.wrap (n:Int))=U (BitVec.ofNat 64 n):=by
  rw [qg];congr 1
theorem pZ(x y:W4):Value.int .u64 (IntKind.u64.wrap ((x.toNat:Int).tdiv (y.toNat:Int)))=U (x / y):=by
  rw [qg];congr 1;rw [BitVec.toNat_udiv,<-Int.ofNat_tdiv]
  have h1:=x.isLt
  have h2:x.toNat / y.toNat<=x.toNat:=Nat.div_le_self _ _
  generalize x.toNat / y.toNat=q at*
  omega
theorem pY(x y:W4):Value.int .u64 ((x.toNat:Int).tmod (y.toNat:Int))=U (x%y):=by
  congr 1
theorem Kg(x:W4):BitVec.ofInt 64 (x.toNat:Int)=x:=by
  rw [BitVec.ofInt_natCast,BitVec.ofNat_toNat,BitVec.setWidth_eq]
theorem Xb(x y:W4):Value.int .u64 (IntKind.u64.wrap ((BitVec.ofInt 64 (x.toNat:Int)&&&BitVec.ofInt 64 (y.toNat:Int)).toNat:Int))=U (x&&&y):=by
  rw [Kg,Kg,Xa,BitVec.ofNat_toNat,BitVec.setWidth_eq]
theorem xy(x y:W4):Value.int .u64 (IntKind.u64.wrap ((BitVec.ofInt 64 (x.toNat:Int)|||BitVec.ofInt 64 (y.toNat:Int)).toNat:Int))=U (x|||y):=by
  rw [Kg,Kg,Xa,BitVec.ofNat_toNat,BitVec.setWidth_eq]
theorem ug(x:W4):Value.int .u64 (IntKind.u64.wrap ((BitVec.ofInt 64 (IntKind.u64.max)^^^BitVec.ofInt 64 (x.toNat:Int)).toNat:Int))=U (~~~ x):=by
  have:BitVec.ofInt 64 (IntKind.u64.max)=BitVec.allOnes 64:=by decide+kernel
  rw [Kg,this,Xa,BitVec.ofNat_toNat,BitVec.setWidth_eq,BitVec.allOnes_xor]
theorem xx(x:W4)(n:Nat):Value.int .u64 (IntKind.u64.wrap ((x.toNat:Int)*2^(min n 64)))=U (x<<<n):=by
  rw [show((x.toNat:Int)*2^(min n 64))=((x.toNat*2^(min n 64):Nat):Int)by simp,Xa]
  refine congrArg U ?_
  apply BitVec.eq_of_toNat_eq
  rw [zn,BitVec.toNat_shiftLeft,Nat.shiftLeft_eq]
  rcases Nat.le_total n 64 with h|h
  · rw [Nat.min_eq_left h]
  · rw [Nat.min_eq_right h,Nat.mul_mod_left]
    obtain⟨k,rfl⟩:=Nat.exists_eq_add_of_le h
    rw [Nat.pow_add,<-Nat.mul_assoc,Nat.mul_right_comm,Nat.mul_mod_left]
theorem eq(x:W4)(n:Nat):Value.int .u64 ((x.toNat:Int).fdiv (2^(min n 64)))=U (x>>>n):=by
  congr 1
  rw [BitVec.toNat_ushiftRight,Nat.shiftRight_eq_div_pow]
  rcases Nat.le_total n 64 with h|h
  · rw [Nat.min_eq_left h,Int.fdiv_eq_ediv_of_nonneg _ (Int.le_of_lt (Int.pow_pos (by decide)))];simp
  · rw [Nat.min_eq_right h,Int.fdiv_eq_ediv_of_nonneg _ (by decide)]
    have h1:=x.isLt
    have h2:2^64<=2^n:=Nat.pow_le_pow_right (by decide) h
    rw [Nat.div_eq_of_lt (by omega)]
    omega
theorem jI(x y:W4):Value.bool ((x.toNat:Int)==(y.toNat:Int))= .bool (x==y):=by
  congr 1;rw [Bool.eq_iff_iff];simp [<-BitVec.toNat_inj];omega
theorem xV(x y:W4):Value.bool ((x.toNat:Int) !=(y.toNat:Int))= .bool (x !=y):=by
  have:=jI x y;simp only [Value.bool.injEq] at this;simp only [bne,this]
theorem xz(x y:W4):Value.bool (decide ((x.toNat:Int)<(y.toNat:Int)))= .bool (decide (x<y)):=by
  congr 1;rw [Bool.eq_iff_iff];simp [BitVec.lt_def]
theorem SA{x y:Int}(h:0<=x):Value.int .i64 (x.tmod y)= .int .i64 (x%y):=by
  rw [Int.tmod_eq_emod_of_nonneg h]
theorem fC{P:Program}{c:Addr->Option Value}{t:TypeId}{b off:Nat}{n:Nat}{e:TypeId}{i:TypeInfo}(k:Nat)(hu:P.underlying t=some (.array n e))(hi:P.info? e=some i)(hs:i.size=1)(hk:k<n):
    ev P c (Instr.indexAt t (.pointer (some ⟨b,off,none⟩)) (.int .i64 (k:Int)))=some (.pointer (some ⟨b,off+k,none⟩)):=by
  unfold Instr.indexAt
  have h1:(0:Int)<=k/\(k:Int)<n:=by omega
  have hadd:(⟨b,off,none⟩:Addr).add k=⟨b,off+k,none⟩:=by unfold Addr.add;split<;>simp_all
  simp only [asIntOf,AS,Bj,q0,Bx hu,Instr.sureAddr,q3]
  rw [if_pos h1]
  simp only [AS,HI hi,hs,q0,Bj,Nat.mul_one,hadd]
theorem rH{P:Program}{c:Addr->Option Value}{t:TypeId}{z:Value}(hz:(P.info? t).bind (·.zero)=some z):ev P c (zeroValue t)=some z:=by
  cases hi:P.info? t with
  |none=>simp [hi] at hz
  |some i=>
    simp only [hi,q0] at hz
    simp [zeroValue,typeInfo,program,AS,Bj,ev,hi,hz]
theorem Ar{P:Program}{c:Addr->Option Value}{ρ:Operand->Value}{d:Option Tmp}{T:TypeId}{l:List (Nat×Operand)}{ty:TypeId}{pos:String}{af:Array Edge}{g:Option (Nat×Bool)}{fs:Array Field}{z:Value}{cs:Array Value}
    (hu:P.underlying T=some (.struct fs)) (hz:(P.info? T).bind (·.zero)=some z) (hf:fs.toList.all (λf=>(P.info? f.type).isSome)=true)
    (hc:Instr.fill ((fs.toList.map (PQ P))[·]?) z.cells (l.map λx=>(x.1,ρ x.2))=some cs):
    ev P c (execOp ρ ⟨d, .build T l.toArray,ty,pos,af,g⟩)=some (.value (.agg cs)):=by
  refine Fc (s:=Instr.build T (l.toArray.map λx=>(x.1,ρ x.2))) ?_
  rw [List.map_toArray]
  exact mg hu hz (by rw [<-Array.all_toList];exact hf) (by
    rw [show(λx=>(fs.map (PQ P))[x]?)=((fs.toList.map (PQ P))[·]?)from by funext x;rw [<-Array.toList_map,Array.getElem?_toList]]
    exact hc)
theorem Bb{P:Program}{c:Addr->Option Value}{ρ:Operand->Value}{d:Option Tmp}{T:TypeId}{l:List (Nat×Operand)}{ty:TypeId}{pos:String}{af:Array Edge}{g:Option (Nat×Bool)}{n:Nat}{e:TypeId}{i:TypeInfo}{z:Value}{cs:Array Value}
    (hu:P.underlying T=some (.array n e)) (hz:(P.info? T).bind (·.zero)=some z) (hi:P.info? e=some i)
    (hc:Instr.fill (λk=>some (k*i.size,i.size)) z.cells (l.map λx=>(x.1,ρ x.2))=some cs):
    ev P c (execOp ρ ⟨d, .build T l.toArray,ty,pos,af,g⟩)=some (.value (.agg cs)):=by
  refine Fc (s:=Instr.build T (l.toArray.map λx=>(x.1,ρ x.2))) ?_
  rw [List.map_toArray]
  unfold Instr.build
  simp only [AS,rH hz,q0,Bx hu,HI hi,hc,Bj]
def Am(P:Program)(f:FuncId):Bool:=match P.funcs[f]? with|some fn=>fn.name != "runtime.NumGoroutine"&&fn.body.isSome|none=>false
theorem WB{P:Program}{c:Addr->Option Value}{ρ:Operand->Value}{d:Option Tmp}{f:FuncId}{l:List Operand}{ts:Array TypeId}{ty:TypeId}{pos:String}{af:Array Edge}{g:Option (Nat×Bool)}(hρ:ρ (.func f)= .func (.func f) #[] #[])(h:Am P f=true){args:List Value}(ha:l.map ρ=args):
    ev P c (execOp ρ ⟨d, .call ⟨.value (.func f),l.toArray,ts⟩,ty,pos,af,g⟩)=some (.enter f args.toArray):=by
  unfold Am at h
  cases hf:P.funcs[f]? with
  |none=>simp [hf] at h
  |some fn=>
    simp only [hf,Bool.and_eq_true,bne_iff_ne,ne_eq] at h
    obtain⟨h1,h2⟩:=h
    have ha':l.toArray.map ρ=args.toArray:=by rw [List.map_toArray,ha]
    have hr:ev P c (resolve ρ ⟨.value (.func f),l.toArray,ts⟩ ty)=(ev P c (Deferred.ofValue (ρ (.func f)) args.toArray)):=by
      show ev P c (Deferred.ofValue (ρ (.func f)) (l.toArray.map ρ))=_
      rw [ha']
    show ev P c (do let d<-resolve ρ ⟨.value (.func f),l.toArray,ts⟩ ty;invoke d.target d.args)=_
    rw [AS,hr,hρ]
    show ev P c (invoke (.fn (.func f) #[]) (#[]++args.toArray))=_
    have h5: ¬fn.body=none:=by intro e;simp [e] at h2
    simp [invoke,callFunc,program,AS,ev,hf,h1,h5,Bj]
theorem Gives.of_same{P:Program}{f:FuncId}{args:Array Value}{v:Value}(h: ∀w,Calls P f args w λe w'=>e= .returned v/\w'=w):Gives P f args v:=
  λw=>(h w).mono λ_ _ ⟨h1,h2⟩=>⟨h1,by rw [h2];exact Bel.refl _ _⟩
end Go.Eng
