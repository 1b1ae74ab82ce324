import Derived.Test.YtjnanfkpdhmnpaaGreatDoorBu
namespace Go.Eng
open Go
def Fv:Type:={v:Y2 // v.oneCell'=true}
instance:Inhabited Fv:=⟨⟨.bool false,rfl⟩⟩
def Nn:Enc Fv:=⟨λx=> [x.1],1,by decide,λ_=>Z,λx v h=>by rw [zi] at h;rw [h];exact x.2,True⟩
theorem yp{α:Type}{xs:Y0 α}{n:Nat}{k:Int}(hl:xs.length=n)(h:0<=k/\k<(n:Int)):0<=k/\k<(xs.length:Int):=by rw [hl];exact h
theorem On{xs:Y0 Fv}{x:Fv}{k:Int}{i:Nat}(hk:k=(i:Int))(hx:xs[i]? =some x):xs[k.toNat]? =some x:=by subst hk;exact hx
theorem sY{k n:Int}{P:Prop}(_:P)(h:k=n):k=n:=h
abbrev vF(n:FuncId)(a b:Array Y2):Y2:= .func (.func n) a b
abbrev Ro:Type:=Addr->Y1 Y2
theorem suN{α:Type}:List.Sublist ([]:Y0 α) []:=List.Sublist.slnil
theorem suC{α:Type}{l k:Y0 α}(a:α)(h:List.Sublist l k):List.Sublist l (a::k):=List.Sublist.cons a h
theorem suK{α:Type}{l k:Y0 α}(a:α)(h:List.Sublist l k):List.Sublist (a::l) (a::k):=List.Sublist.cons_cons a h
theorem fz0:(λk=>(#[]:Array Y2).getD k undef)=(λ_=>undef):=by funext k;rfl
theorem fz1{a0:Y2}:(λk=>(#[a0]:Array Y2).getD k undef)=(upd (λ_=>undef) 0 a0):=by funext k;match k with|0=>rfl|k+1=>rfl
theorem fz2{a0 a1:Y2}:(λk=>(#[a0,a1]:Array Y2).getD k undef)=(upd (upd (λ_=>undef) 1 a1) 0 a0):=by funext k;match k with|0=>rfl|1=>rfl|k+2=>rfl
theorem fz3{a0 a1 a2:Y2}:(λk=>(#[a0,a1,a2]:Array Y2).getD k undef)=(upd (upd (upd (λ_=>undef) 2 a2) 1 a1) 0 a0):=by funext k;match k with|0=>rfl|1=>rfl|2=>rfl|k+3=>rfl
theorem fz4{a0 a1 a2 a3:Y2}:(λk=>(#[a0,a1,a2,a3]:Array Y2).getD k undef)=(upd (upd (upd (upd (λ_=>undef) 3 a3) 2 a2) 1 a1) 0 a0):=by funext k;match k with|0=>rfl|1=>rfl|2=>rfl|3=>rfl|k+4=>rfl
theorem fz5{a0 a1 a2 a3 a4:Y2}:(λk=>(#[a0,a1,a2,a3,a4]:Array Y2).getD k undef)=(upd (upd (upd (upd (upd (λ_=>undef) 4 a4) 3 a3) 2 a2) 1 a1) 0 a0):=by funext k;match k with|0=>rfl|1=>rfl|2=>rfl|3=>rfl|4=>rfl|k+5=>rfl
section
variable {E:Env} {Q:QL} {t:Nat->Y2} {l:Y0 Bl} {a b c:ResultVar} {v x y z:Y2}
theorem aR(h:Q .ret t l):A E .ret Q t l:=AU (λ_=>h)
theorem eV1(ha:HC E ⟨t,ownL l,nonw⟩ a=some v:=by rfl):XD E #[a] [] (pV v) .ret t l:=iU Z (Gl ha)
theorem eV2(ha:HC E ⟨t,ownL l,nonw⟩ a=some x:=by rfl)(hb:HC E ⟨t,ownL l,nonw⟩ b=some y:=by rfl):XD E #[a,b] [] (pV (.tuple #[x,y])) .ret t l:=iU Z (Jg ha hb)
theorem eV3(ha:HC E ⟨t,ownL l,nonw⟩ a=some x:=by rfl)(hb:HC E ⟨t,ownL l,nonw⟩ b=some y:=by rfl)(hc:HC E ⟨t,ownL l,nonw⟩ c=some z:=by rfl):XD E #[a,b,c] [] (pV (.tuple #[x,y,z])) .ret t l:=iU Z (PE ha hb hc)
theorem eE1(ha:HC E ⟨t,ownL l,nonw⟩ a=some v:=by rfl):MD E #[a] ⟨t,ownL l,nonw⟩=some v:=Gl ha
theorem eE2(ha:HC E ⟨t,ownL l,nonw⟩ a=some x:=by rfl)(hb:HC E ⟨t,ownL l,nonw⟩ b=some y:=by rfl):MD E #[a,b] ⟨t,ownL l,nonw⟩=some (.tuple #[x,y]):=Jg ha hb
end
section
variable {α:Type} {p:Prop} [Decidable p] {a b:Y1 α} {r:Y1 α} {β:Type} [BEq β] [LawfulBEq β] {x y:β} {q:Y3}
theorem iD(h:decide p=true)(e:(if p then a else b)=r):a=r:=ifp (zj h) e
theorem iF(h:decide p=false)(e:(if p then a else b)=r):b=r:=ifn (of_decide_eq_false h) e
theorem iE[Decidable (x=y)](h:(x==y)=true)(e:(if x=y then a else b)=r):a=r:=ifp (eq_of_beq h) e
theorem iG[Decidable (x=y)](h:(x==y)=false)(e:(if x=y then a else b)=r):b=r:=ifn (ne_of_beq_false h) e
theorem iB(h:q=false)(e:(if q=true then a else b)=r):b=r:=ifn (Bool.eq_false_iff.1 h) e
theorem iN[Decidable (x≠y)](h:(x !=y)=true)(e:(if x≠y then a else b)=r):a=r:=ifp (bne_iff_ne.1 h) e
theorem iM[Decidable (x≠y)](h:(x !=y)=false)(e:(if x≠y then a else b)=r):b=r:=ifn (yx h) e
end
theorem cF{P:Program}{c:Addr->Y1 Y2}{ρ:Operand->Y2}{d:Y1 Tmp}{f:FuncId}{l:Y0 Operand}{ts:Array TypeId}{ty:TypeId}{pos:String}{af:Array Edge}{g:Y1 (Nat×Y3)}{args:Y0 Y2}(h:Am P f=true)(hρ:ρ (.func f)= .func (.func f) #[] #[]:=by rfl)(ha:l.map ρ=args:=by rfl):
  ev P c (execOp ρ ⟨d, .call ⟨.value (.func f),l.toArray,ts⟩,ty,pos,af,g⟩)=some (.enter f args.toArray):=WX hρ h ha
abbrev cV{α A B:Type}(m:Y1 α)(f:α->Y2):A->B->Y2->Y0 Bl->Y0 Bl->Prop:=λ_ _ v L U=> ∀u,m=some u->pV (f u) v L U
section
variable {E:Env} {g:Y3} {ops:Array Oper} {K:(Nat->Y2)->Y0 Bl->Prop} {r:Y0 Oper} {T:Nat->Y2} {l:Y0 Bl} {m:Nat} {d:Tmp} {ty:TypeId} {pos:String} {af:Array Edge}
theorem rl(v:Y2)(i:Nat){b off:Nat}{e T':TypeId}{cs:Array Y2}{p:Operand}(h:lx E g ops K r (upd T d v) l m)(hd:decide (d<E.n)=true:=by rfl)(hp:rd T p= .pointer (some ⟨b,off,none⟩):=by rfl)(hl:l[i]? =some (b,T',cs):=by rfl)(hm:decide (m<=i)=true:=by rfl)(hv:Iu E.P e cs off=some v:=by rfl)(hpl:JA E.ks ⟨some d, .load e p,ty,pos,af,none⟩:=by rfl):lx E g ops K (⟨some d, .load e p,ty,pos,af,none⟩::r) T l m:=r_l v i b off T' cs hd hp hl hm hv h hpl
theorem rc(v:Y2){f:FuncId}{args:Array Y2}{c:Call}(hy:ev E.P E.ro (execOp (rd T) ⟨some d, .call c,ty,pos,af,none⟩)=some (.enter f args))(hg:Gives E.P f args v)(h:lx E g ops K r (upd T d v) l m)(hd:decide (d<E.n)=true:=by rfl)(hpl:JA E.ks ⟨some d, .call c,ty,pos,af,none⟩:=by rfl):lx E g ops K (⟨some d, .call c,ty,pos,af,none⟩::r) T l m:=r_c v hd f args hy hg h hpl
theorem rg{c:Call}(v0:Y2){f:FuncId}{args:Array Y2}(he:ev E.P E.ro (execOp (rd T) ⟨some d, .call c,ty,pos,af,none⟩)=some (.enter f args))(hdo: ∀own nw,Sees E l m own nw->DoesI E.P f args E.inv (cellA E own nw) [] (pV v0))(hcon: ∀args view v L U,E.con ⟨some d, .call c,ty,pos,af,none⟩ args view v L U↔pV v0 v L U)(h:lx E g ops K r (upd T d v0) l m)(hd:decide (d<E.n)=true:=by rfl)(hk:E.ks.find? (λx=>x.1==some d)=some (some d,false):=by rfl)(hm:decide (m<=l.length)=true:=by rfl):lx E g ops K (⟨some d, .call c,ty,pos,af,none⟩::r) T l m:=xz v0 f args hd hk hm he hdo hcon h
end
def fB(E:Env)(a:Array Oper):Nat->Y0 Oper->(Nat->Y2)->Y1 (Nat->Y2)
 |0,_,t=>some t
 |_+1,[],_=>none
 |k+1,o::r,t=>match gdR a t o,dsR E o with
  |some true,true=>match kd o.op,E.ks.find? (Qn o),ev E.P E.ro (execOp (rd t) o)with
   | .f,none,some (.value v)=>fB E a k r (putT t o.dst v)
   |_,_,_=>none
  |some false,true=>fB E a k r (putT t o.dst undef)
  |_,_=>none
theorem rQ{E:Env}{g:Y3}{ops:Array Oper}{K:(Nat->Y2)->Y0 Bl->Prop}{l:Y0 Bl}{m:Nat}: ∀(k:Nat) {r:Y0 Oper} {t t':Nat->Y2}
  (_:fB E ops k r t=some t') (_:lx E g ops K (r.drop k) t' l m),lx E g ops K r t l m
 |0,_,_,_,hz,h=>by cases hz;exact h
 |k+1,[],_,_,hz,_=>by cases hz
 |k+1,o::r,t,t',hz,h=>by
  unfold fB at hz
  split at hz
  ·rename_i hw hd
   split at hz
   ·rename_i v hk hp hy
    have ih:=rQ (g:=g) (K:=K) (l:=l) (m:=m) k hz h
    intro hn own nw hs
    refine IJ hd (e:= .val v) (by unfold Aa9;rw [V8 (Zk hw)];simp only [Of hp hk (by decide)];exact⟨v, .inl hy,Z⟩) (λs' hs2=> ?_)
    simp only [Do] at hs2;subst hs2;exact ih hn own nw hs
   ·cases hz
  ·rename_i hw hd
   have ih:=rQ (g:=g) (K:=K) (l:=l) (m:=m) k hz h
   intro hn own nw hs
   refine IJ hd (e:= .val undef) (by unfold Aa9;rw [V9 (by rw [Zk hw];decide)]) (λs' hs2=> ?_)
   simp only [Do] at hs2;subst hs2;exact ih hn own nw hs
  ·cases hz
theorem rn(k:Nat){E:Env}{g:Y3}{ops:Array Oper}{K:(Nat->Y2)->Y0 Bl->Prop}{l:Y0 Bl}{m:Nat}{r:Y0 Oper}{t t':Nat->Y2}(h0:fB E ops k r t=some t')(h:lx E g ops K (r.drop k) t' l m):lx E g ops K r t l m:=rQ k h0 h
theorem rz{E:Env}{g:Y3}{ops:Array Oper}{K:(Nat->Y2)->Y0 Bl->Prop}{l:Y0 Bl}{m:Nat}{r:Y0 Oper}{t t':Nat->Y2}(h0:fB E ops r.length r t=some t')(h:K t' l):lx E g ops K r t l m:=rQ r.length h0 (by rw [List.drop_length];exact Aj h)
def lp(P:Program)(e:TypeId)(c:Array Y2)(b:Nat)(a:Array Y2):Y3:=
 match P.info? e with
 |some i=>a.size==i.size&&decide (b+a.size<=c.size)&&a.toList.all (λx=>x.oneCell')
 |none=>false
theorem ln{P:Program}{e:TypeId}{cs vs:Array Y2}{off:Nat}(h:lp P e cs off vs=true):StOk P e cs off vs:=by
 unfold lp at h
 split at h
 ·rename_i i hi;exact .of hi h
 ·cases h
abbrev uS:=(Nat->Y2)×Y0 Bl×Y0 Nat×Y0 Nat
def xg(b b':Nat):Y1 uS->Y1 uS
 |some x=>some (x.1,x.2.1,b::x.2.2.1,b'::x.2.2.2)
 |none=>none
def ZQ(E:Env)(g:Y3)(a:Array Oper)(m:Nat):Nat->Y0 Nat->Y0 Bl->Y0 Oper->(Nat->Y2)->Y1 uS
 |0,_,l,_,t=>some (t,l,[],[])
 |_+1,_,_,[],_=>none
 |k+1,is,l,o::r,t=>match gdR a t o,dsR E o with
  |some false,true=>ZQ E g a m k is l r (putT t o.dst undef)
  |some true,true=>match E.ks.find? (Qn o),kdg g a o with
   |none, .f=>match kd o.op,ev E.P E.ro (execOp (rd t) o)with
    | .f,some (.value v)=>ZQ E g a m k is l r (putT t o.dst v)
    |_,_=>none
   |none, .l=>match o,is with
    |⟨some d, .load e p,_,_,_,none⟩,i::is=>match rd t p,l[i]?,decide (m<=i)with
     | .pointer (some ⟨b,off,none⟩),some (b',_,cs),true=>match Iu E.P e cs off with
      |some v=>xg b b' (ZQ E g a m k is l r (upd t d v))
      |none=>none
     |_,_,_=>none
    |_,_=>none
   |none, .s=>match o,is with
    |⟨none, .store e p x,_,_,_,none⟩,i::is=>match rd t p,l[i]?,goodk E.ks none with
     | .pointer (some ⟨b,off,none⟩),some (b',T,cs),false=>match lp E.P e cs off (rd t x).cells with
      |true=>xg b b' (ZQ E g a m k is (l.set i (b',T,Jc cs off (rd t x).cells)) r t)
      |false=>none
     |_,_,_=>none
    |_,_=>none
   |_,_=>none
  |_,_=>none
theorem ZF{b b':Nat}{x:Y1 uS}{t:Nat->Y2}{l:Y0 Bl}{as bs:Y0 Nat}(h:xg b b' x=some (t,l,as,bs)): ∃as' bs',x=some (t,l,as',bs')/\as=b::as'/\bs=b'::bs':=by
 cases x with
 |none=>cases h
 |some x=>obtain⟨a1,a2,a3,a4⟩:=x;cases h;exact⟨a3,a4,Z,Z,Z⟩
theorem jQ{E:Env}{g:Y3}{ops:Array Oper}{K:(Nat->Y2)->Y0 Bl->Prop}{m:Nat}{t':Nat->Y2}{l':Y0 Bl}: ∀(k:Nat) (is:Y0 Nat) {l:Y0 Bl} {r:Y0 Oper} {t:Nat->Y2} {as bs:Y0 Nat}
  (_:ZQ E g ops m k is l r t=some (t',l',as,bs)) (_:as=bs) (_:lx E g ops K (r.drop k) t' l' m),lx E g ops K r t l m
 |0,_,_,_,_,_,_,hz,_,h=>by cases hz;exact h
 |k+1,_,_,[],_,_,_,hz,_,_=>by cases hz
 |k+1,is,l,o::r,t,as,bs,hz,he,h=>by
  unfold ZQ at hz
  split at hz
  ·rename_i hw hd
   have ih:=jQ (g:=g) (K:=K) (m:=m) k is hz he h
   intro hn own nw hs
   refine IJ hd (e:= .val undef) (by unfold Aa9;rw [V9 (by rw [Zk hw];decide)]) (λs' hs2=> ?_)
   simp only [Do] at hs2;subst hs2;exact ih hn own nw hs
  ·rename_i hw hd
   split at hz
   ·rename_i hp hkg
    split at hz
    ·rename_i v hk hy
     have ih:=jQ (g:=g) (K:=K) (m:=m) k is hz he h
     intro hn own nw hs
     refine IJ hd (e:= .val v) (by unfold Aa9;rw [V8 (Zk hw)];simp only [Of hp hk (by decide)];exact⟨v, .inl hy,Z⟩) (λs' hs2=> ?_)
     simp only [Do] at hs2;subst hs2;exact ih hn own nw hs
    ·cases hz
   ·rename_i hp hkg
    split at hz
    ·rename_i d e p ty pos af i is'
     split at hz
     ·rename_i b off b' T cs h1 h2 h3
      split at hz
      ·rename_i v hv
       obtain⟨as',bs',hz',rfl,rfl⟩:=ZF hz
       obtain⟨rfl,he'⟩:=q6 he
       exact r_l v i b off T cs hd h1 h2 h3 hv (jQ (g:=g) (K:=K) (m:=m) k is' hz' he' h) hp
      ·cases hz
     ·cases hz
    ·cases hz
   ·rename_i hp hkg
    split at hz
    ·rename_i e p x ty pos af i is'
     split at hz
     ·rename_i b off b' T cs h1 h2 h3
      split at hz
      ·rename_i hst
       obtain⟨as',bs',hz',rfl,rfl⟩:=ZF hz
       obtain⟨rfl,he'⟩:=q6 he
       exact r_s _ i b off T cs _ _ hkg h1 h2 Z (ln hst) Z Z (jQ (g:=g) (K:=K) (m:=m) k is' hz' he' h) hp (.inl h3)
      ·cases hz
     ·cases hz
    ·cases hz
   ·cases hz
  ·cases hz
theorem rm(k:Nat)(is:Y0 Nat){E:Env}{g:Y3}{ops:Array Oper}{K:(Nat->Y2)->Y0 Bl->Prop}{l l':Y0 Bl}{m:Nat}{r:Y0 Oper}{t t':Nat->Y2}{as bs:Y0 Nat}(h0:ZQ E g ops m k is l r t=some (t',l',as,bs))(h:lx E g ops K (r.drop k) t' l' m)(he:as=bs:=by rfl):lx E g ops K r t l m:=jQ k is h0 he h
theorem ry(is:Y0 Nat){E:Env}{g:Y3}{ops:Array Oper}{K:(Nat->Y2)->Y0 Bl->Prop}{l l':Y0 Bl}{m:Nat}{r:Y0 Oper}{t t':Nat->Y2}{as bs:Y0 Nat}(h0:ZQ E g ops m r.length is l r t=some (t',l',as,bs))(h:K t' l')(he:as=bs:=by rfl):lx E g ops K r t l m:=jQ r.length is h0 he (by rw [List.drop_length];exact Aj h)
section
variable {E:Env} {g:Y3} {ops:Array Oper} {K:(Nat->Y2)->Y0 Bl->Prop} {r:Y0 Oper} {T:Nat->Y2} {l:Y0 Bl} {m:Nat} {d:Tmp} {ty:TypeId} {pos:String} {af:Array Edge}
theorem rX{z:Int}{op:Op}(ck: -9223372036854775808<=z/\z<=9223372036854775807)(hz:(kd op,decide (d<E.n),ev E.P E.ro (execOp (rd T) ⟨some d,op,ty,pos,af,none⟩))=(.f,true,some (.value (.int .i64 (IntKind.i64.wrap z)))))(h:lx E g ops K r (upd T d (.int .i64 z)) l m)(hpl:JA E.ks ⟨some d,op,ty,pos,af,none⟩:=by rfl):lx E g ops K (⟨some d,op,ty,pos,af,none⟩::r) T l m:=
 r_X (.int .i64 z) (congrArg (λx=>(x.1,x.2.1)) hz) (RU Z ck.1 ck.2) (congrArg (λx=>x.2.2) hz) h hpl
def yj(P:Program)(t:TypeId):Y3:=match P.underlying t with|some (.slice _)=>true|_=>false
theorem rL{v:Y2}{n:Nat}{x:Operand}{tt:TypeId}(hs:Shp v n)(hz:(yj E.P tt,rd T x,decide (d<E.n))=(true,v,true))(h:lx E g ops K r (upd T d (.int .i64 (n:Int))) l m)(hpl:JA E.ks ⟨some d, .call ⟨.builtin .len, #[x], #[tt]⟩,ty,pos,af,none⟩:=by rfl):lx E g ops K (⟨some d, .call ⟨.builtin .len, #[x], #[tt]⟩,ty,pos,af,none⟩::r) T l m:=by
 obtain⟨h1,h2⟩:=Prod.mk.inj hz;obtain⟨h2,h3⟩:=Prod.mk.inj h2
 unfold yj at h1;split at h1
 ·rename_i e he;exact r_W _ (by rw [h3];rfl) (dy Z he h2 hs) h hpl
 ·cases h1
def vi(P:Program)(t:TypeId):Y1 Nat:=match P.underlying t with|some (.slice e)=>(match P.info? e with|some i=>some i.size|none=>none)|_=>none
theorem rI{v:Y2}{n:Nat}{k:IntKind}{j:Int}{p ix:Operand}{tt:TypeId}{sz:Nat}(hs:Shp v n)(hj:0<=j/\j<(n:Int))(hz:(vi E.P tt,rd T p,rd T ix,decide (d<E.n))=(some sz,v, .int k j,true))(h:lx E g ops K r (upd T d (elA v (j.toNat*sz))) l m)(hpl:JA E.ks ⟨some d, .indexAddr tt p ix,ty,pos,af,none⟩:=by rfl):lx E g ops K (⟨some d, .indexAddr tt p ix,ty,pos,af,none⟩::r) T l m:=by
 obtain⟨h1,h2⟩:=Prod.mk.inj hz;obtain⟨h2,h3⟩:=Prod.mk.inj h2;obtain⟨h3,h4⟩:=Prod.mk.inj h3
 unfold vi at h1;split at h1
 ·rename_i e he
  split at h1
  ·rename_i i hi;refine r_W _ (by rw [h4];rfl) (GV ?_) h hpl;rw [h2,h3];exact dA he hi (q3 h1) hs hj
  ·cases h1
 ·cases h1
def nh(P:Program)(s:TypeId)(j k:Nat):Y1 Nat:=match P.underlying s with
 |some (.struct fs)=>(match fs[j]? with|some f=>(match P.info? f.type with|some i=>(match decide (i.size=0)with|false=>some (k+f.offset)|true=>none)|none=>none)|none=>none)
 |_=>none
theorem rF{v:Y2}{n j k k':Nat}{p:Operand}{s:TypeId}(hs:Shp v n)(hn:0<n)(hz:(rd T p,decide (d<E.n),nh E.P s j k)=(elA v k,true,some k'))(h:lx E g ops K r (upd T d (elA v k')) l m)(hpl:JA E.ks ⟨some d, .fieldAddr s p j,ty,pos,af,none⟩:=by rfl):lx E g ops K (⟨some d, .fieldAddr s p j,ty,pos,af,none⟩::r) T l m:=by
 obtain⟨h1,h2⟩:=Prod.mk.inj hz;obtain⟨h2,h3⟩:=Prod.mk.inj h2
 unfold nh at h3;split at h3
 ·rename_i fs he
  split at h3
  ·rename_i f hf
   split at h3
   ·rename_i i hi
    split at h3
    ·rename_i hc;exact r_W _ (by rw [h2];rfl) (GV (kq h1 he hf hi hc (q3 h3) hs hn)) h hpl
    ·cases h3
   ·cases h3
  ·cases h3
 ·cases h3
theorem rA{x:TypeId×Array Y2}{op:Op}(h0:(kd op,decide (d<E.n),allocOf E.P T ⟨some d,op,ty,pos,af,none⟩)=(.a,true,some x))(h: ∀b,lx E g ops K r (upd T d (.pointer (some ⟨b,0,none⟩))) ((b,x)::l) (if g then m+1 else m))(hm:g=true\/m=0:=by first|exact .inr Z|exact .inl Z)(hpl:JA E.ks ⟨some d,op,ty,pos,af,none⟩:=by rfl):
  lx E g ops K (⟨some d,op,ty,pos,af,none⟩::r) T l m:=r_a x (congrArg (λx=>x.1) h0) (congrArg (λx=>x.2.1) h0) (congrArg (λx=>x.2.2) h0) h hm hpl
end
theorem kC{α:Type}{p C:Prop}[Decidable p]{m:Y1 α}{r:α}(hM:ck p m=some r)(h:p->m=some r->C):C:=h (LN hM).1 (LN hM).2
theorem kB{α β:Type}{C:Prop}{x:Y1 α}{f:α->Y1 β}{r:β}(hM:x.bind f=some r)(h: ∀y,x=some y->f y=some r->C):C:=by
 obtain⟨y,h1,h2⟩:=bF hM;exact h y h1 h2
section
variable {E:Env} {Q:QL} {t:Nat->Y2} {l:Y0 Bl} {α:Type} {m1 m2:Y1 α} {s:Y1 α} {c:Operand} {x y:Code}
theorem aD{p:Prop}[Decidable p](hM:(if p then m1 else m2)=s)(hx:rd t c= .bool (decide p))(h1:decide p=true->m1=s->A E x Q t l)(h2:decide p=false->m2=s->A E y Q t l):A E (.cond c x y) Q t l:=
 BS _ hx (λh=>h1 h (iD h hM)) (λh=>h2 h (iF h hM))
theorem aE{β:Type}[BEq β][LawfulBEq β]{u v:β}[Decidable (u=v)](hM:(if u=v then m1 else m2)=s)(hx:rd t c= .bool (u==v))(h1:(u==v)=true->m1=s->A E x Q t l)(h2:(u==v)=false->m2=s->A E y Q t l):A E (.cond c x y) Q t l:=
 BS _ hx (λh=>h1 h (iE h hM)) (λh=>h2 h (iG h hM))
theorem aB{q:Y3}(hM:(if q=true then m1 else m2)=s)(hx:rd t c= .bool q)(h1:q=true->m1=s->A E x Q t l)(h2:q=false->m2=s->A E y Q t l):A E (.cond c x y) Q t l:=
 BS _ hx (λh=>h1 h (ifp h hM)) (λh=>h2 h (iB h hM))
theorem aN{β:Type}[BEq β][LawfulBEq β]{u v:β}[Decidable (u≠v)](hM:(if u≠v then m1 else m2)=s)(hx:rd t c= .bool (u !=v))(h1:(u !=v)=true->m1=s->A E x Q t l)(h2:(u !=v)=false->m2=s->A E y Q t l):A E (.cond c x y) Q t l:=
 BS _ hx (λh=>h1 h (iN h hM)) (λh=>h2 h (iM h hM))
end
theorem AZ{E:Env}{Q:QL}{t t':Nat->Y2}{l:Y0 Bl}{id:Nat}{r:Y0 Oper}{y:Code}(h0:fB E r.toArray r.length r t=some t')(h:A E y Q t' l):A E (.seq (.region id r.toArray false) y) Q t l:=Ad (rz h0 h)
theorem AY(is:Y0 Nat){E:Env}{Q:QL}{t t':Nat->Y2}{l l':Y0 Bl}{id:Nat}{r:Y0 Oper}{y:Code}{as bs:Y0 Nat}(h0:ZQ E false r.toArray 0 r.length is l r t=some (t',l',as,bs))(h:A E y Q t' l')(he:as=bs:=by rfl):A E (.seq (.region id r.toArray false) y) Q t l:=Ad (ry is h0 h he)
theorem Sees.r{α:Type}{En:Enc α}{v:Y2}{xs:Y0 α}{E:Env}{l:Y0 Bl}{m:Nat}{own:Nat->Y1 (TypeId×Array Y2)}{nw:Nat->Y3}(hs:Sees E l m own nw)(h:Rd En E.ro v xs):Rd En (cellA E own nw) v xs:=Ay h own nw hs
section
variable {E:Env} {g:Y3} {ops:Array Oper} {K:(Nat->Y2)->Y0 Bl->Prop} {r:Y0 Oper} {T:Nat->Y2} {l:Y0 Bl} {m:Nat} {d:Tmp} {ty:TypeId} {pos:String} {af:Array Edge}
theorem rE{α:Type}[Inhabited α]{En:Enc α}{sv v:Y2}{xs:Y0 α}{i:Int}{e:TypeId}{p:Operand}(hr: ∀own nw,Sees E l m own nw->Rd En (cellA E own nw) sv xs)(ck:0<=i/\i<(xs.length:Int))(o:Nat)
  (hz:(rd T p,decide (d<E.n),Iu E.P e (En.f xs[i.toNat]!).toArray o)=(elA sv (i.toNat*En.sz+o),true,some v))
  (h:lx E g ops K r (upd T d v) l m) (hpl:JA E.ks ⟨some d, .load e p,ty,pos,af,none⟩:=by rfl):lx E g ops K (⟨some d, .load e p,ty,pos,af,none⟩::r) T l m:=
 RX v xs[i.toNat]! i.toNat o (congrArg (λx=>x.2.1) hz) (congrArg (λx=>x.1) hz) hr (Cp ck) (congrArg (λx=>x.2.2) hz) h hpl
end
section
variable {E:Env} {ops:Array Oper} {K:(Nat->Y2)->Y0 Bl->Prop} {r:Y0 Oper} {T:Nat->Y2} {l:Y0 Bl} {m:Nat} {d:Tmp} {ty:TypeId} {pos:String} {af:Array Edge} {c:Call} {f:FuncId} {args:Array Y2}
theorem im{g:Y0 (Y1 Tmp×Y3)}{con:Con}(h:lx E false ops K r T l m):lx {E with ks:=g,con:=con} false ops K r T l m:=λhn own nw hs=>
 aw (E:=E) E.ks g E.con con r _ (Ue (λ_ ⟨l,m,h1,h2,h3⟩=>⟨l,m,h1,⟨h2.has,h2.ro,h2.non⟩,h3⟩) r _ (h hn own nw ⟨hs.has,hs.ro,hs.non⟩))
theorem gV(v0:Y2)(he:ev E.P E.ro (execOp (rd T) ⟨some d, .call c,ty,pos,af,none⟩)=some (.enter f args))(hdo: ∀own nw,Sees E l m own nw->DoesI E.P f args E.inv (cellA E own nw) [] (pV v0))(h:lx E false ops K r (upd T d v0) l m)(hd:(decide (d<E.n),decide (m<=l.length))=(true,true):=by rfl):lx E false ops K (⟨some d, .call c,ty,pos,af,none⟩::r) T l m:=
 cB d (p:=pV v0) (xz v0 f args (congrArg (·.1) hd) (by simp) (congrArg (·.2) hd) he (λown nw hs=>hdo own nw ⟨hs.has,hs.ro,hs.non⟩) (λ_ _ _ _ _=>Iff.rfl) (im h))
theorem gS{α:Type}{Ls:Y0 (Y0 Bl)}{F:Y2->Y2}{e:TypeId}{En:Enc α}{xs:Y0 α}(he:ev E.P E.ro (execOp (rd T) ⟨some d, .call c,ty,pos,af,none⟩)=some (.enter f args))(hdo: ∀own nw,Sees E Ls.flatten m own nw->DoesI E.P f args E.inv (cellA E own nw) [] (p1 F e En xs))(h: ∀s S,Sl e En s xs S->lx E false ops K r (upd T d (F s)) (Ls++ [S]).flatten m)(hd:(decide (d<E.n),decide (m<=Ls.flatten.length))=(true,true):=by rfl):lx E false ops K (⟨some d, .call c,ty,pos,af,none⟩::r) T Ls.flatten m:=
 cB d (p:=p1 F e En xs) (cj F e En xs f args (congrArg (·.1) hd) (by simp) (congrArg (·.2) hd) he (λown nw hs=>hdo own nw ⟨hs.has,hs.ro,hs.non⟩) (λ_ _ _ _ _=>Iff.rfl) (λs S H=>im (h s S H)))
theorem gB{α:Type}{Ls:Y0 (Y0 Bl)}{t:TypeId}{n:Nat}{parts:Y0 (Nat×Operand)}(e:TypeId)(En:Enc α)(xs:Y0 α){ii:TypeInfo}{z:Y2}(h: ∀v S,Sl e En v xs S->lx E false ops K r (upd T d v) (Ls++ [S]).flatten m)(hd:(decide (d<E.n),decide (m<=Ls.flatten.length),E.P.underlying t,E.P.info? e,ii.zero,decide (n*ii.size<=16777216),decide (e<OBJ))=(true,true,some (.slice e),some ii,some z,true,true):=by rfl)(hl:n=xs.length:=by rfl)(hf:Instr.fill (λj=>some (j*ii.size,ii.size)) ((Array.range (n*ii.size)).map (z.cells[·%z.cells.size]!)) (parts.map λx=>(x.1,rd T x.2))=some (En.all xs).toArray:=by kernel_rfl):
  lx E false ops K (⟨some d, .buildSlice t n parts.toArray,ty,pos,af,none⟩::r) T Ls.flatten m:=
 cD d (KP (cs0:=[]) e En xs (En.all xs) ((Array.range (n*ii.size)).map (z.cells[·%z.cells.size]!)).toList (congrArg (·.1) hd) (by simp) (congrArg (·.2.1) hd) (congrArg (·.2.2.1) hd) (congrArg (·.2.2.2.1) hd) (congrArg (·.2.2.2.2.1) hd) (congrArg (·.2.2.2.2.2.1) hd)
  Array.toArray_toList.symm (by rw [Array.toArray_toList];exact hf) Z hl Z (λv S hS=>im (h v S hS)) (congrArg (·.2.2.2.2.2.2) hd))
theorem gM{Ls FL RL:Y0 (Y0 Bl)}(is:Y0 Nat){P:PO}(he:ev E.P E.ro (execOp (rd T) ⟨some d, .call c,ty,pos,af,none⟩)=some (.enter f args))(hdo: ∀own nw,(Ls.flatten.map (·.1)).Nodup->Sees E Ls.flatten 0 own nw->DoesI E.P f args E.inv (UM (cellA E own nw) (FL.flatten.map (·.1))) FL.flatten (pO FL.flatten P))(h: ∀v O,P v O->lx E false ops K r (putT T (some d) v) (RL++O).flatten 0)(hd:(decide (d<E.n),Nq is Ls.length,pickL Ls is,pickL Ls (Qr is Ls.length))=(true,true,FL,RL):=by rfl):lx E false ops K (⟨some d, .call c,ty,pos,af,none⟩::r) T Ls.flatten 0:=
 cA d (p:=pO FL.flatten P) (ci is P (some d) f args (congrArg (·.1) hd) (by simp) (congrArg (·.2.1) hd) (congrArg (·.2.2.1) hd) (congrArg (·.2.2.2) hd) he (λown nw hn hs=>hdo own nw hn ⟨hs.has,hs.ro,hs.non⟩) (λ_ _ _ _ _=>Iff.rfl) (λh=>nomatch h) (λv O hp=>im (h v O hp)))
end
end Go.Eng
