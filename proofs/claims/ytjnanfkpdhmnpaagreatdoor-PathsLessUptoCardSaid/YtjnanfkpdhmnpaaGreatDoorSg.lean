import Derived.Test.YtjnanfkpdhmnpaaGreatDoorSl
import Derived.Maps.AppendAt
import Derived.Lib.AppendZerosOnto
import Derived.Laws.MakeOwn
namespace Go.Eng
open Go Go.RowKit
def RdV(c:Addr->Y1 Y2)(d:Nat)(v:Y2)(n:Nat)(b:Y0 Y2):Prop:=
 (v= .slice none 0 0/\n=0/\b=[])\/ ∃a cap,v= .slice (some a) n cap/\(0<cap->a.spot=none)/\n<=cap/\b.length=n*d/\ ∀k u,b[k]? =some u->c ⟨a.block,a.off+k,none⟩=some u
theorem RdV.uniq{c:Addr->Y1 Y2}{sz:Nat}{v:Y2}{n n':Nat}{us us':Y0 Y2}(h:RdV c sz v n us)(h':RdV c sz v n' us'):n=n'/\us=us':=by
 rcases h with⟨rfl,rfl,rfl⟩|⟨a,cap,rfl,_,_,hl,h⟩
 ·rcases h' with⟨_,rfl,rfl⟩|⟨_,_,h',_⟩
  ·exact⟨Z,Z⟩
  ·cases h'
 ·rcases h' with⟨h',_⟩|⟨a',cap',h',_,_,hl',h2⟩
  ·cases h'
  ·simp only [Value.slice.injEq,Option.some.injEq] at h'
   obtain⟨rfl,rfl,rfl⟩:=h'
   refine⟨Z,List.ext_getElem? λk=> ?_⟩
   rcases Nat.lt_or_ge k us.length with hk|hk
   ·have h3:=h k _ (zv hk)
    have hk':k<us'.length:=by omega
    have h4:=h2 k _ (zv hk')
    rw [h3] at h4
    rw [zv hk,zv hk',h4]
   ·rw [List.getElem?_eq_none hk,List.getElem?_eq_none (by omega)]
theorem Rd.v{α:Type}{E:Enc α}{c:Addr->Y1 Y2}{v:Y2}{xs:Y0 α}(h:Rd E c v xs):RdV c E.sz v xs.length (E.all xs):=by
 rcases h with⟨rfl,rfl⟩|⟨a,cap,rfl,h0,h1,h2⟩
 ·exact .inl ⟨Z,Z,Z⟩
 ·exact .inr ⟨a,cap,Z,h0,h1,E.all_len xs,h2⟩
def XE(e:TypeId)(d:Nat)(g:Addr->Y1 Y2)(s:Y2)(n m:Nat)(f c:Y0 Y2):Pst:=λv L U=>
 (m=0/\v=s/\L=[]/\U=[])\/
 (0<m/\ ∃(b cap:Nat) (cs:Array Y2),s= .slice (some ⟨b,0,none⟩) n cap/\n+m<=cap/\(∀k,g ⟨b,k,none⟩=cs[k]?)/\v= .slice (some ⟨b,0,none⟩) (n+m) cap/\L=[]/\
  U=[(b,e,(cs.toList.take (n*d)++c++cs.toList.drop ((n+m)*d)).toArray)])\/
 (0<m/\(∀a cap,s= .slice (some a) n cap->cap<n+m)/\ ∃(r cap':Nat) (cs':Array Y2),v= .slice (some ⟨r,0,none⟩) (n+m) cap'/\n+m<=cap'/\cs'.size=cap'*d/\cs'.toList.take ((n+m)*d)=f++c/\L=[(r,e,cs')]/\U=[])
def lk(s:ByteArray):Y0 Y2:=s.data.toList.map λb=> .int .u8 ((b.toNat:Nat):Int)
def RS(P:Program)(t:TypeId)(n:Nat)(a:Y0 (Nat×Y2)):Y1 (TypeId×Array Y2):=
 match P.underlying t with
 |some (.slice e)=>match P.info? e with
  |some i=>match i.zero with
   |some z=>(Instr.fill (λj=>some (j*i.size,i.size)) ((Array.range (n*i.size)).map (z.cells[·%z.cells.size]!)) a).map λb=>(e,b)
   |none=>none
  |none=>none
 |_=>none
def conG(P:Program)(c:Y0 (Tmp×(Y0 Y2->(Addr->Y1 Y2)->Pst))):Con:=λo b a v L U=>
 match o.op with
 | .call ⟨.builtin .append,_,ts⟩=>
  match b with
  | [s,x]=>(∃t e i n m olds news,ts= #[t,t]/\P.underlying t=some (.slice e)/\P.info? e=some i/\RdV a i.size s n olds/\RdV a i.size x m news/\XE e i.size a s n m olds news v L U)\/
   (∃t tn e i z n m k olds,x= .int k ((m:Nat):Int)/\ts= #[t,tn]/\P.underlying t=some (.slice e)/\P.info? e=some i/\i.zero=some z/\RdV a i.size s n olds/\XE e i.size a s n m olds (Builtin.zeroCells z.cells m).toList v L U)\/
   ∃t u e i n st olds,x= .string st/\ts= #[t,u]/\P.underlying t=some (.slice e)/\P.info? e=some i/\RdV a i.size s n olds/\XE e i.size a s n st.size olds (lk st) v L U
  |_=>False
 | .buildSlice t n parts=> ∃e cells r,RS P t n ((parts.toList.map (·.1)).zip b)=some (e,cells)/\v= .slice (some ⟨r,0,none⟩) n n/\L=[(r,e,cells)]/\U=[]
 |_=>match o.dst with
  |some d=>match c.find? (λx=>x.1==d)with
   |some x=>x.2 b a v L U
   |none=>False
  |none=>False
theorem nK{P:Program}{cs:Y0 (Tmp×(Y0 Y2->(Addr->Y1 Y2)->Pst))}{d:Y1 Tmp}{s x:Operand}{t ty:TypeId}{pos:String}{af:Array Edge}{g:Y1 (Nat×Y3)}{ρ:Operand->Y2}{view:Addr->Y1 Y2}{e:TypeId}{i:TypeInfo}{n m:Nat}{olds news:Y0 Y2}(hu:P.underlying t=some (.slice e))(hi:P.info? e=some i)(hs:RdV view i.size (ρ s) n olds)(hx:RdV view i.size (ρ x) m news)(v:Y2)(L U:Y0 Bl):
  conG P cs ⟨d, .call ⟨.builtin .append, #[s,x], #[t,t]⟩,ty,pos,af,g⟩ [ρ s,ρ x] view v L U↔XE e i.size view (ρ s) n m olds news v L U:=by
 show((∃t' e' i' n' m' olds' news', #[t,t]= #[t',t']/\P.underlying t'=some (.slice e')/\P.info? e'=some i'/\RdV view i'.size (ρ s) n' olds'/\RdV view i'.size (ρ x) m' news'/\XE e' i'.size view (ρ s) n' m' olds' news' v L U)\/
  (∃t' tn e' i' z n' m' k olds',ρ x= .int k ((m':Nat):Int)/\ #[t,t]= #[t',tn]/\P.underlying t'=some (.slice e')/\P.info? e'=some i'/\i'.zero=some z/\RdV view i'.size (ρ s) n' olds'/\XE e' i'.size view (ρ s) n' m' olds' (Builtin.zeroCells z.cells m').toList v L U)\/
  ∃t' u e' i' n' st olds',ρ x= .string st/\ #[t,t]= #[t',u]/\P.underlying t'=some (.slice e')/\P.info? e'=some i'/\RdV view i'.size (ρ s) n' olds'/\XE e' i'.size view (ρ s) n' st.size olds' (lk st) v L U)↔_
 constructor
 ·rintro(⟨t',e',i',n',m',olds',news',h1,h2,h3,h4,h5,h6⟩|⟨t',tn,e',i',z,n',m',k,olds',h0,_⟩|⟨t',u,e',i',n',st,olds',h0,_⟩)
  rotate_left
  ·rcases hx with⟨hx,_⟩|⟨_,_,hx,_⟩<;>rw [h0] at hx<;>cases hx
  ·rcases hx with⟨hx,_⟩|⟨_,_,hx,_⟩<;>rw [h0] at hx<;>cases hx
  obtain rfl:t=t':=by simpa using h1
  rw [hu] at h2;simp only [Option.some.injEq,TypeDesc.slice.injEq] at h2;subst h2
  rw [hi] at h3;simp only [Option.some.injEq] at h3;subst h3
  obtain⟨rfl,rfl⟩:=h4.uniq hs
  obtain⟨rfl,rfl⟩:=h5.uniq hx
  exact h6
 ·intro h
  exact .inl ⟨t,e,i,n,m,olds,news,Z,hu,hi,hs,hx,h⟩
theorem RdV.len{c:Addr->Y1 Y2}{sz:Nat}{v:Y2}{n:Nat}{us:Y0 Y2}(h:RdV c sz v n us):us.length=n*sz:=by
 rcases h with⟨_,rfl,rfl⟩|⟨_,_,_,_,_,h,_⟩
 ·simp
 ·exact h
theorem eS{P:Program}{w:World}{t ty e:TypeId}{i:TypeInfo}(ht:P.underlying t=some (.slice e))(hi:P.info? e=some i){s x:Y2}(hx:Shp x 0){n:Nat}(hs:(∃a:Y1 Addr,s= .slice a 0 0/\n=0)\/ ∃b cap cs,s= .slice (some ⟨b,0,none⟩) n cap/\n<=cap/\Holds w b e cs):
  (Builtin.append_ #[t,t] ty #[s,x]).run P w= .ok s w:=by
 have hl:(Builtin.lenOf x).run P w= .ok 0 w:=by
  rcases hx with⟨rfl,_⟩|⟨a,cap,rfl,_,_⟩<;>rfl
 have hf:(Builtin.firstCells i.size 0 x).run P w= .ok #[] w:=by
  rcases hx with⟨rfl,_⟩|⟨a,cap,rfl,_,_⟩<;>simp [Builtin.firstCells,loadCells,loadCellsFrom]
 rcases hs with⟨a,rfl,rfl⟩|⟨b,cap,cs,rfl,hn,hb⟩
 ·rcases a with _|a
  ·simp [Builtin.append_,run_underlying ht,sizeOf,typeInfo,hi,hl,hf]
  ·simp [Builtin.append_,run_underlying ht,sizeOf,typeInfo,hi,hl,hf,storeCells]
 ·simp [Builtin.append_,run_underlying ht,sizeOf,typeInfo,hi,hl,hf,hn,storeCells]
theorem eR{P:Program}{w:World}{t ty e:TypeId}{i:TypeInfo}(ht:P.underlying t=some (.slice e))(hi:P.info? e=some i){g sLen sCap:Nat}{cur:Array Y2}(hg:Holds w g e cur)(hne:e≠Xe)(a:Addr)(m c:Nat)(news:Y0 Y2)(hl:news.length=m*i.size)(hnews: ∀j u,news[j]? =some u->w.cell? (a.add j)=some u)(h1: ∀u∈news,u.oneCell'=true)(hroom:sLen+m<=sCap)(hfit:sLen*i.size+news.length<=cur.size):
  (Builtin.append_ #[t,t] ty #[.slice (some ⟨g,0,none⟩) sLen sCap, .slice (some a) m c]).run P w=
   .ok (.slice (some ⟨g,0,none⟩) (sLen+m) sCap) (w.setRow g (cur.toList.take (sLen*i.size)++news++cur.toList.drop (sLen*i.size+news.length)).toArray):=by
 have hf:=run_firstCells_some (P:=P) w i.size m a m c news hl hnews
 have hst:=hg.store hne P (sLen*i.size) news hfit h1
 simp [Builtin.append_,run_underlying ht,sizeOf,typeInfo,hi,Builtin.lenOf,hroom,hf,Addr.add_lit,hst]
theorem gA{P:Program}{w:World}{t ty e:TypeId}{i:TypeInfo}{z s x:Y2}{n m:Nat}{olds news:Y0 Y2}{view:Addr->Y1 Y2}(ht:P.underlying t=some (.slice e))(hi:P.info? e=some i)(hz:i.zero=some z)(hzs:z.cells.size=i.size)(hview: ∀a v,view a=some v->w.cell? a=some v)(hs:RdV view i.size s n olds)(hx:RdV view i.size x m news)(h1: ∀u∈news,u.oneCell'=true)(hown:(∃a:Y1 Addr,s= .slice a 0 0/\n=0)\/ ∃(b cap:Nat) (cs:Array Y2),s= .slice (some ⟨b,0,none⟩) n cap/\n<=cap/\cs.size=cap*i.size/\(∀k,view ⟨b,k,none⟩=cs[k]?)/\Holds w b e cs)(h63:n+m<=maxLen)(hbytes:(n+m)*i.bytes<=140737488355328)(hT:decide (e<OBJ)=true):
  ∃v w' L U,(Builtin.append_ #[t,t] ty #[s,x]).run P w= .ok v w'/\ExtW w w' L U/\XE e i.size view s n m olds news v L U:=by
 have hsmall:n+m<=9223372036854775807:=by simp only [maxLen] at h63;omega
 by_cases hm:m=0
 ·subst hm
  have hx0:Shp x 0:=by
   rcases hx with⟨rfl,_,_⟩|⟨a,cap,rfl,h2,h3,_⟩
   ·exact .inl ⟨Z,Z⟩
   ·exact .inr ⟨a,cap,Z,h2,h3⟩
  refine⟨s,w,[],[],eS ht hi hx0 (n:=n) ?_,⟨Z,Z,Z,Nat.le_refl _,λ_ _ _=>Z,λ_ h=>(nomatch h),λ_ h=>(nomatch h),Nat.le_refl _⟩, .inl ⟨Z,Z,Z,Z⟩⟩
  rcases hown with h|⟨b,cap,cs,h1,h2,_,_,h3⟩
  ·exact .inl h
  ·exact .inr ⟨b,cap,cs,h1,h2,h3⟩
 ·have hm0:0<m:=by omega
  have hnews:=hx.len
  obtain⟨a,c,rfl,hsp,hmc,_,hcell⟩: ∃a cap,x= .slice (some a) m cap/\a.spot=none/\m<=cap/\news.length=m*i.size/\ ∀k u,news[k]? =some u->view ⟨a.block,a.off+k,none⟩=some u:=by
   rcases hx with⟨_,h,_⟩|⟨a,cap,h1,h2,h3,h4⟩
   ·omega
   ·exact⟨a,cap,h1,h2 (by omega),h3,h4⟩
  have hnw: ∀j u,news[j]? =some u->w.cell? (a.add j)=some u:=λj u hj=>by rw [Hj hsp];exact hview _ _ (hcell j u hj)
  have ext: ∀(cur:Array Y2),ExtW w (w.drew.alloc (.cells cur e)) [(w.heap.size,e,cur)] []:=λcur=>
   ⟨Z,Z,Z,by simp,λk hk _=>heap_alloc_old w.drew _ k hk,λ_ h=>(nomatch h),λy hy=>by
    simp only [zi] at hy;subst hy
    exact⟨Nat.le_refl _, .of hT (heap_alloc_new w.drew _)⟩,Nat.le_succ _⟩
  rcases hown with⟨_|a0,rfl,rfl⟩|⟨b,cap,cs,rfl,hncap,hsz,hvb,hb⟩
  ·have hr:=run_append_nil (P:=P) w t ty e i z ht hi hz a m c news hnews hnw hm0 (by omega) (by have h:=hbytes;rw [q7] at h;omega)
   have hol:olds=[]:=by
    have:=hs.len;rw [Nat.zero_mul] at this;exact List.eq_nil_of_length_eq_zero this
   subst hol
   refine⟨_,_,_,_,hr,ext _, .inr (.inr ⟨hm0,λa cap h=>(nomatch h),w.heap.size,grownCap w m 0 e,_, ?_, ?_, ?_, ?_,Z,Z⟩)⟩
   ·rw [q7]
   ·rw [q7];exact grownCap_ge w m 0 e
   ·have:=grownCap_ge w m 0 e
    simp only [Array.size_append,List.size_toArray,size_zeroCells,hzs,hnews,<-Nat.add_mul]
    congr 1;omega
   ·rw [q7,<-hnews]
    simp only [Array.toList_append,y5]
    exact List.take_left
  ·have hol:olds=[]:=by
    have:=hs.len;rw [Nat.zero_mul] at this;exact List.eq_nil_of_length_eq_zero this
   subst hol
   have hr:=run_append_grow (P:=P) w t ty e i z ht hi hz a0 0 0 [] (by simp) (λj u hj=>by simp at hj) a m c news hnews hnw (by omega) (by omega) (growslice_fits (by omega) hbytes)
   have hge:=grownCap_ge w (0+m) 0 e
   refine⟨_,_,_,_,hr,ext _, .inr (.inr ⟨hm0,λa' cap' h=> ?_,w.heap.size,grownCap w (0+m) 0 e,_,Z,hge, ?_, ?_,Z,Z⟩)⟩
   ·simp only [Value.slice.injEq] at h
    obtain⟨_,_,rfl⟩:=h;omega
   ·simp only [Array.size_append,List.size_toArray,zp,size_zeroCells,hzs,hnews]
    rw [show 0+m*i.size=m*i.size from q7 _,<-Nat.add_mul]
    congr 1;omega
   ·simp only [Array.toList_append,y5]
    rw [q7,<-hnews]
    exact List.take_left
  ·by_cases hroom:n+m<=cap
   ·have hfit:n*i.size+news.length<=cs.size:=by rw [hnews,hsz,<-Nat.add_mul];exact Nat.mul_le_mul_right _ hroom
    have hr:=eR (P:=P) (ty:=ty) ht hi (sCap:=cap) hb (λh9=>by rw [h9] at hT;exact absurd hT (by decide)) a m c news hnews hnw h1 hroom hfit
    refine⟨_,_,[],[(b,e,(cs.toList.take (n*i.size)++news++cs.toList.drop (n*i.size+news.length)).toArray)],hr,⟨Z,Z,Z,by simp,λk _ hk=>setRow_other w b k _ (λe=>hk _ (List.mem_singleton.2 Z) e.symm),λy hy=> ?_,λ_ h=>(nomatch h),Nat.le_refl _⟩, .inr (.inl ⟨hm0,b,cap,cs,Z,hroom,hvb,Z,Z, ?_⟩)⟩
    ·simp only [zi] at hy;subst hy
     exact hb.setRow _ (by simp only [List.size_toArray,zf,q8,zq,Array.length_toList];omega)
    ·rw [hnews,<-Nat.add_mul]
   ·have hol:=hs.len
    have holds: ∀j u,olds[j]? =some u->w.cell? ((⟨b,0,none⟩:Addr).add j)=some u:=λj u hj=>by
     rcases hs with⟨h,_⟩|⟨a',cap',h,hsp',_,_,hc⟩
     ·cases h
     ·simp only [Value.slice.injEq,Option.some.injEq] at h
      obtain⟨rfl,_,rfl⟩:=h
      rw [Hj Z];exact hview _ _ (hc j u hj)
    have hr:=run_append_grow (P:=P) w t ty e i z ht hi hz ⟨b,0,none⟩ n cap olds hol holds a m c news hnews hnw (by omega) (by omega) (growslice_fits (by omega) hbytes)
    have hge:=grownCap_ge w (n+m) cap e
    refine⟨_,_,_,_,hr,ext _, .inr (.inr ⟨hm0,λa' cap' h=> ?_,w.heap.size,grownCap w (n+m) cap e,_,Z,hge, ?_, ?_,Z,Z⟩)⟩
    ·simp only [Value.slice.injEq] at h
     obtain⟨_,_,rfl⟩:=h;omega
    ·simp only [Array.size_append,List.size_toArray,size_zeroCells,hzs,hol,hnews,<-Nat.add_mul]
     congr 1;omega
    ·simp only [Array.toList_append,j0]
     rw [<-j0,show(n+m)*i.size=(olds++news).length from by rw [zf,hol,hnews,Nat.add_mul]]
     exact List.take_left
theorem Oq{Ls:Y0 (Y0 Bl)}{k:Nat}{S:Y0 Bl}(hk:Ls[k]? =some S):Ls.flatten=(Ls.take k).flatten++(S++(Ls.drop (k+1)).flatten)/\ ∀S',(Ls.set k S').flatten=(Ls.take k).flatten++(S'++(Ls.drop (k+1)).flatten):=by
 obtain⟨hlt,he⟩:=List.getElem?_eq_some_iff.1 hk
 refine⟨?_,λS'=> ?_⟩
 ·have h1:Ls.drop k=S::Ls.drop (k+1):=by rw [y3 hlt,he]
  rw [<-List.flatten_cons,<-h1,<-List.flatten_append,j3]
 ·rw [List.set_eq_take_append_cons_drop,V8 hlt,List.flatten_append,List.flatten_cons]
section
variable {E:Env} {g:Y3} {ops:Array Oper} {K:(Nat->Y2)->Y0 Bl->Prop} {r:Y0 Oper} {T:Nat->Y2} {m:Nat} {d:Tmp} {ty:TypeId} {pos:String} {af:Array Edge}
theorem sB{Ls:Y0 (Y0 Bl)}{k:Nat}{S S':Y0 Bl}{t:Nat->Y2}(hk:Ls[k]? =some S)(hm:m<=(Ls.take k).flatten.length)(h:lx E g ops K r t (Ls.set k S').flatten m):lx E g ops K r t (Ls.flatten++S') m:=by
 obtain⟨h1,h2⟩:=Oq hk
 refine Wh (l':=(Ls.set k S').flatten) ⟨λx hx=> ?_,λhn=> ?_⟩ (λi hi=> ?_) ?_ h
 ·rw [h2] at hx;rw [h1]
  simp only [List.mem_append] at hx ⊢
  rcases hx with h|h|h
  ·exact .inl (.inl h)
  ·exact .inr h
  ·exact .inl (.inr (.inr h))
 ·rw [h1] at hn;rw [h2]
  have hs:((Ls.take k).flatten++((Ls.drop (k+1)).flatten++S')).Sublist ((Ls.take k).flatten++(S++(Ls.drop (k+1)).flatten)++S'):=by
   rw [j0,j0]
   exact(List.Sublist.refl _).append (List.sublist_append_right _ _)
  have hp:((Ls.take k).flatten++(S'++(Ls.drop (k+1)).flatten)).Perm ((Ls.take k).flatten++((Ls.drop (k+1)).flatten++S')):=List.Perm.append_left _ List.perm_append_comm
  exact(hp.map _).nodup_iff.2 ((hs.map _).nodup hn)
 ·rw [h2,h1,j0,List.getElem?_append_left (by omega),List.getElem?_append_left (by omega)]
 ·rw [h1];simp only [zf];omega
theorem vR{α:Type}{Ls:Y0 (Y0 Bl)}{op:Op}(k:Nat){S:Y0 Bl}{e:TypeId}{En:Enc α}{sv:Y2}{xs ys:Y0 α}(hd:decide (d<E.n)=true)(hk:E.ks.find? (λx=>x.1==some d)=some (some d,true))(hsel:isSel op=false)(hS:Ls[k]? =some S)(hSl:Sl e En sv xs S)(hm:decide (m<=(Ls.take k).flatten.length)=true)(hco': ∀own nw,Sees E Ls.flatten m own nw->Rd En (cellA E own nw) sv xs->Ab6 E ⟨T,own,nw⟩ ⟨some d,op,ty,pos,af,none⟩=XE e En.sz (cellA E own nw) sv xs.length ys.length (En.all xs) (En.all ys))(hrun': ∀own nw w,Sees E Ls.flatten m own nw->Rd En (cellA E own nw) sv xs->(∀a v,cellA E own nw a=some v->w.cell? a=some v)->
   ((∃a:Y1 Addr,sv= .slice a 0 0/\xs.length=0)\/ ∃(b cap:Nat) (cs:Array Y2),sv= .slice (some ⟨b,0,none⟩) xs.length cap/\xs.length<=cap/\cs.size=cap*En.sz/\(∀k,cellA E own nw ⟨b,k,none⟩=cs[k]?)/\Holds w b e cs)->
   ∃v w' L U,(execOp (rd T) ⟨some d,op,ty,pos,af,none⟩).run E.P w= .ok (.value v) w'/\ExtW w w' L U/\XE e En.sz (cellA E own nw) sv xs.length ys.length (En.all xs) (En.all ys) v L U)(h: ∀v S',Sl e En v (xs++ys) S'->lx E g ops K r (upd T d v) (Ls.set k S').flatten m):
  lx E g ops K (⟨some d,op,ty,pos,af,none⟩::r) T Ls.flatten m:=by
 have hm':=zj hm
 obtain⟨hf1,hf2⟩:=Oq hS
 refine r_g true (λv L U=> ∃S',Sl e En v (xs++ys) S'/\((L=[]/\U=[]/\S'=S)\/(L=[]/\ ∃b y y',S=[(b,y)]/\S'=[(b,y')]/\U=[(b,y')])\/(L=S'/\U=[]))) hd hk hsel (zl (by rw [hf1,zf];omega)) (λhn own nw hse=> ?_) (λv L U hp=> ?_)
 ·have hrs:Rd En (cellA E own nw) sv xs:=AB hSl (Al hS hm) own nw hse
  have hco:=hco' own nw hse hrs
  have hblk: ∀b cap cs,sv= .slice (some ⟨b,0,none⟩) xs.length cap->S=[(b,e,cs)]->own b=some (e,cs)/\nw b=false:=λb cap cs _ hSe=>by
   obtain⟨i,him,hi⟩:=Al hS hm (b,e,cs) (by rw [hSe];simp)
   obtain⟨g1,g2⟩:=hse.has i _ _ hi
   exact⟨g1,by rw [g2];simp;omega⟩
  have hview: ∀b cs,own b=some (e,cs)/\nw b=false-> ∀k,cellA E own nw ⟨b,k,none⟩=cs[k]?:=λb cs h k=>MP h.1 h.2 k
  -- what may come of it
  have hap: ∀v L U,XE e En.sz (cellA E own nw) sv xs.length ys.length (En.all xs) (En.all ys) v L U-> ∃S',Sl e En v (xs++ys) S'/\((L=[]/\U=[]/\S'=S)\/(L=[]/\ ∃b y y',S=[(b,y)]/\S'=[(b,y')]/\U=[(b,y')])\/(L=S'/\U=[])):=by
   intro v L U hA
   rcases hA with⟨h0,rfl,rfl,rfl⟩|⟨h0,b,cap,cs,hsv,hroom,hv,rfl,rfl,rfl⟩|⟨h0,_,r',cap',cs',rfl,hge,hsz',htk,rfl,rfl⟩
   ·have:ys=[]:=List.eq_nil_of_length_eq_zero h0
    subst this
    rw [List.append_nil]
    exact⟨S,hSl, .inl ⟨Z,Z,Z⟩⟩
   ·rcases hSl with⟨a1,h1,h2,_⟩|⟨b',cap',cs',h1,hle,hcs,htk,hSe⟩
    ·rw [h1] at hsv
     simp only [Value.slice.injEq] at hsv
     omega
    ·rw [h1] at hsv
     simp only [Value.slice.injEq,Option.some.injEq,Addr.mk.injEq,and_true,true_and] at hsv
     obtain⟨rfl,rfl⟩:=hsv
     have hcc:cs'=cs:=by
      apply Array.ext_getElem?
      intro j
      rw [<-hv j,hview _ _ (hblk b' cap' cs' h1 hSe) j]
     subst hcc
     have hl:(xs++ys).length=xs.length+ys.length:=zf
     have h2:(xs.length+ys.length)*En.sz<=cs'.size:=by rw [hcs];exact Nat.mul_le_mul_right _ hroom
     rw [Nat.add_mul] at h2
     refine⟨[(b',e,_)], .inr ⟨b',cap',_,by rw [hl],by rw [hl];exact hroom, ?_, ?_,Z⟩, .inr (.inl ⟨Z,b',_,_,hSe,Z,Z⟩)⟩
     ·simp only [List.size_toArray,zf,q8,zq,Array.length_toList,En.all_len,Nat.add_mul]
      omega
     ·rw [hl,htk,En.all_append,show(xs.length+ys.length)*En.sz=(En.all xs++En.all ys).length from by rw [zf,En.all_len,En.all_len,Nat.add_mul]]
      exact List.take_left
   ·have hl:(xs++ys).length=xs.length+ys.length:=zf
    exact⟨[(r',e,cs')], .inr ⟨r',cap',cs',by rw [hl],by rw [hl];exact hge,hsz',by rw [hl,En.all_append];exact htk,Z⟩, .inr (.inr ⟨Z,Z⟩)⟩
  refine⟨⟨λ_ kk=> ?_,λv L U hc=> ?_,λv L U hc=> ?_,λh=>(nomatch h),λw hbase hcell hheap=> ?_⟩,λv L U hc=> ?_⟩
  ·rw [hco]
   by_cases h0:ys.length=0
   ·exact⟨sv,[],[], .inl ⟨h0,Z,Z,Z⟩,λ_ h=>(nomatch h)⟩
   ·by_cases hroom: ∃(b cap:Nat) (cs:Array Y2),sv= .slice (some ⟨b,0,none⟩) xs.length cap/\xs.length+ys.length<=cap/\ ∀k,cellA E own nw ⟨b,k,none⟩=cs[k]?
    ·obtain⟨b,cap,cs,h1,h2,h3⟩:=hroom
     exact⟨_,[],_, .inr (.inl ⟨by omega,b,cap,cs,h1,h2,h3,Z,Z,Z⟩),λ_ h=>(nomatch h)⟩
    ·refine⟨_,_,_, .inr (.inr ⟨by omega,λa cap ha=> ?_,kk+1,xs.length+ys.length,(En.all xs++En.all ys).toArray,Z,Nat.le_refl _, ?_, ?_,Z,Z⟩),λx hx=> ?_⟩
     ·refine Nat.lt_of_not_le λhle=>hroom ?_
      rcases hSl with⟨a1,h1,h2,_⟩|⟨b',cap',cs',h1,_,_,_,hSe⟩
      ·rw [h1] at ha
       simp only [Value.slice.injEq] at ha
       omega
      ·have ha':=ha
       rw [h1] at ha'
       simp only [Value.slice.injEq,Option.some.injEq,true_and] at ha'
       obtain⟨rfl,rfl⟩:=ha'
       exact⟨b',_,cs',h1,hle,hview _ _ (hblk b' _ cs' h1 hSe)⟩
     ·simp only [List.size_toArray,zf,En.all_len,Nat.add_mul]
     ·rw [show(xs.length+ys.length)*En.sz=(En.all xs++En.all ys).length from by rw [zf,En.all_len,En.all_len,Nat.add_mul]]
      exact List.take_length
     ·simp only [zi] at hx;subst hx;exact Nat.lt_succ_self kk
  ·rw [hco] at hc
   obtain⟨S',hS',h1⟩:=hap v L U hc
   rcases h1 with⟨rfl,rfl,_⟩|⟨rfl,b,y,y',_,_,rfl⟩|⟨rfl,rfl⟩
   ·exact⟨List.nodup_nil,List.nodup_nil⟩
   ·exact⟨List.nodup_nil,by simp⟩
   ·exact⟨hS'.nod,List.nodup_nil⟩
  ·rw [hco] at hc
   obtain⟨S',hS',h1⟩:=hap v L U hc
   intro y hy
   rcases h1 with⟨rfl,rfl,_⟩|⟨rfl,b,z',y',hSe,_,rfl⟩|⟨rfl,rfl⟩
   ·cases hy
   ·simp only [zi] at hy;subst hy
    obtain⟨i,him,hi⟩:=Al hS hm (b,z') (by rw [hSe];simp)
    obtain⟨g1,g2⟩:=hse.has i _ _ hi
    exact⟨⟨_,g1⟩,by show nw b=false;rw [g2];simp;omega⟩
   ·cases hy
  ·obtain⟨v,w',L,U,hrun,hext,hA⟩:=hrun' own nw w hse hrs hcell (by
    rcases hSl with⟨a1,h1,h2,_⟩|⟨b',cap',cs',h1,hle,hcs,_,hSe⟩
    ·exact .inl ⟨a1,h1,by rw [h2];rfl⟩
    ·have h3:=hblk b' cap' cs' h1 hSe
     exact .inr ⟨b',cap',cs',h1,hle,hcs,hview _ _ h3,hheap b' _ h3.1 h3.2⟩)
   exact .inl ⟨v,w',L,U,hrun,hext,by rw [hco];exact hA⟩
  ·rw [hco] at hc
   exact hap v L U hc
 ·obtain⟨S',hS',h1⟩:=hp
  rcases h1 with⟨rfl,rfl,rfl⟩|⟨rfl,b,y,y',rfl,rfl,rfl⟩|⟨rfl,rfl⟩
  ·refine⟨Ls.flatten,λ_=>PutU.nil _, ?_⟩
   rw [List.append_nil]
   have h2:=h v S' hS'
   have:Ls.set k S'=Ls:=by
    obtain⟨hlt,he⟩:=List.getElem?_eq_some_iff.1 hS
    rw [<-he];exact List.set_getElem_self hlt
   rw [this] at h2;exact h2
  ·refine⟨(Ls.set k [(b,y')]).flatten,λhn=> ?_, ?_⟩
   ·have hget:Ls.flatten[(Ls.take k).flatten.length]? =some (b,y):=by rw [hf1,List.getElem?_append_right (Nat.le_refl _),Nat.sub_self];rfl
    have hset:(Ls.set k [(b,y')]).flatten=Ls.flatten.set (Ls.take k).flatten.length (b,y'):=by
     rw [hf2,hf1,List.set_append_right _ _ (Nat.le_refl _),Nat.sub_self];rfl
    rw [hset]
    exact PutU.one hn hget
   ·rw [List.append_nil];exact h v _ hS'
  ·exact⟨Ls.flatten,λ_=>PutU.nil _,sB hS hm' (h v _ hS')⟩
theorem Ln{α:Type}{Ls:Y0 (Y0 Bl)}{cs0:Y0 (Tmp×(Y0 Y2->(Addr->Y1 Y2)->Pst))}(k:Nat){S:Y0 Bl}{e:TypeId}{En:Enc α}{s x:Operand}{sv xv:Y2}{xs ys:Y0 α}{t:TypeId}{ii:TypeInfo}{z:Y2}(hd:decide (d<E.n)=true)(hk:E.ks.find? (λx=>x.1==some d)=some (some d,true))(hs:rd T s=sv)(hx:rd T x=xv)(hS:Ls[k]? =some S)(hSl:Sl e En sv xs S)(hm:decide (m<=(Ls.take k).flatten.length)=true)(hr: ∀own nw,Sees E Ls.flatten m own nw->Rd En (cellA E own nw) xv ys)(hu:E.P.underlying t=some (.slice e))(hi:E.P.info? e=some ii)(hz:ii.zero=some z)(hsz:ii.size=En.sz)(hzs:z.cells.size=En.sz)(hb:(xs.length+ys.length)*ii.bytes<=140737488355328)(h63:xs.length+ys.length<=maxLen)(hcon:E.con=conG E.P cs0)(h: ∀v S',Sl e En v (xs++ys) S'->lx E g ops K r (upd T d v) (Ls.set k S').flatten m)(hT:decide (e<OBJ)=true:=by rfl):
  lx E g ops K (⟨some d, .call ⟨.builtin .append, #[s,x], #[t,t]⟩,ty,pos,af,none⟩::r) T Ls.flatten m:=by
 refine vR k hd hk Z hS hSl hm (λown nw hse hrs=> ?_) (λown nw w hse hrs hcell hown=> ?_) h
 ·have hrx:=hr own nw hse
  funext v L U
  have:=propext (nK (cs:=cs0) (d:=some d) (ty:=ty) (pos:=pos) (af:=af) (g:=none) (ρ:=rd T) (s:=s) (x:=x) hu hi (by rw [hs,hsz];exact hrs.v) (by rw [hx,hsz];exact hrx.v) v L U)
  rw [hs,hx,hsz] at this
  unfold Ab6
  rw [hcon,<-this,<-hs,<-hx]
  rfl
 ·have hrx:=hr own nw hse
  obtain⟨v,w',L,U,hrun,hext,hA⟩:=gA (P:=E.P) (w:=w) (ty:=ty) (s:=sv) (x:=xv) (view:=cellA E own nw) hu hi hz (hzs.trans hsz.symm) hcell (by rw [hsz];exact hrs.v) (by rw [hsz];exact hrx.v) (En.all_one ys) (by rw [hsz];exact hown) h63 hb hT
  refine⟨v,w',L,U, ?_,hext, ?_⟩
  ·unfold execOp
   simp only [resolve,invoke,builtin,Sem.run_bind,Sem.run_pure,Result.andThen_ok,List.map_toArray,List.map_cons,List.map_nil,hs,hx,hrun]
  ·rw [<-hsz];exact hA
theorem tl{P:Program}{cs0:Y0 (Tmp×(Y0 Y2->(Addr->Y1 Y2)->Pst))}{d:Y1 Tmp}{t ty:TypeId}{n:Nat}{parts:Array (Nat×Operand)}{pos:String}{af:Array Edge}{g:Y1 (Nat×Y3)}{ρ:Operand->Y2}{view:Addr->Y1 Y2}{e:TypeId}{cells:Array Y2}(hc:RS P t n (parts.toList.map λx=>(x.1,ρ x.2))=some (e,cells))(v:Y2)(L U:Y0 Bl):
  conG P cs0 ⟨d, .buildSlice t n parts,ty,pos,af,g⟩ ((Op.buildSlice t n parts).operands.toList.map ρ) view v L U↔ ∃r,v= .slice (some ⟨r,0,none⟩) n n/\L=[(r,e,cells)]/\U=[]:=by
 have hz:(parts.toList.map (·.1)).zip ((Op.buildSlice t n parts).operands.toList.map ρ)=parts.toList.map λx=>(x.1,ρ x.2):=by
  show(parts.toList.map (·.1)).zip (((parts.toList.map (·.2)).toArray).toList.map ρ)=_
  generalize parts.toList=l
  induction l with
  |nil=>rfl
  |cons x l ih=>simpa using ih
 show(∃e' cells' r,RS P t n ((parts.toList.map (·.1)).zip ((Op.buildSlice t n parts).operands.toList.map ρ))=some (e',cells')/\v= .slice (some ⟨r,0,none⟩) n n/\L=[(r,e',cells')]/\U=[])↔_
 rw [hz,hc]
 constructor
 ·rintro⟨e',cells',r,h1,h2,h3,h4⟩
  simp only [Option.some.injEq,Prod.mk.injEq] at h1
  obtain⟨rfl,rfl⟩:=h1
  exact⟨r,h2,h3,h4⟩
 ·rintro⟨r,h2,h3,h4⟩
  exact⟨e,cells,r,Z,h2,h3,h4⟩
theorem KP{α:Type}{Ls:Y0 (Y0 Bl)}{cs0:Y0 (Tmp×(Y0 Y2->(Addr->Y1 Y2)->Pst))}{t:TypeId}{n:Nat}{parts:Y0 (Nat×Operand)}(e:TypeId)(En:Enc α)(xs:Y0 α)(cells zs:Y0 Y2){ii:TypeInfo}{z:Y2}(hd:decide (d<E.n)=true)(hk:E.ks.find? (λx=>x.1==some d)=some (some d,false))(hm:decide (m<=Ls.flatten.length)=true)(hu:E.P.underlying t=some (.slice e))(hi:E.P.info? e=some ii)(hz:ii.zero=some z)(hn':decide (n*ii.size<=16777216)=true)(hz0:(Array.range (n*ii.size)).map (z.cells[·%z.cells.size]!)=zs.toArray)(hfill:Instr.fill (λj=>some (j*ii.size,ii.size)) zs.toArray (parts.map λx=>(x.1,rd T x.2))=some cells.toArray)(hxs:cells=En.all xs)(hlen:n=xs.length)(hcon:E.con=conG E.P cs0)(h: ∀v S,Sl e En v xs S->lx E g ops K r (upd T d v) (Ls++ [S]).flatten m)(hT:decide (e<OBJ)=true:=by rfl):
  lx E g ops K (⟨some d, .buildSlice t n parts.toArray,ty,pos,af,none⟩::r) T Ls.flatten m:=by
 have hn:n*ii.size<=2^24:=zj hn'
 have hc:RS E.P t n (parts.map λx=>(x.1,rd T x.2))=some (e,cells.toArray):=by
  unfold RS
  rw [hu]
  simp only [hi,hz,hz0,hfill,Option.map_some]
 have hc':RS E.P t n (parts.toArray.toList.map λx=>(x.1,rd T x.2))=some (e,cells.toArray):=hc
 have hco: ∀own nw,Ab6 E ⟨T,own,nw⟩ ⟨some d, .buildSlice t n parts.toArray,ty,pos,af,none⟩=λv L U=> ∃r,v= .slice (some ⟨r,0,none⟩) n n/\L=[(r,e,cells.toArray)]/\U=[]:=λown nw=>by
  funext v L U
  have:=propext (tl (cs0:=cs0) (d:=some d) (ty:=ty) (pos:=pos) (af:=af) (g:=none) (view:=cellA E own nw) hc' v L U)
  unfold Ab6
  rw [hcon,<-this]
  rfl
 refine r_g false (λv L U=> ∃r,v= .slice (some ⟨r,0,none⟩) n n/\L=[(r,e,cells.toArray)]/\U=[]) hd hk Z hm (λhnd own nw hse=> ?_) (λv L U hp=> ?_)
 ·rw [hco]
  refine⟨⟨λ_ k=> ?_,λv L U hc=> ?_,λv L U hc=> ?_,λ_ v L U hc=> ?_,λw hbase hcell hheap=> ?_⟩,λv L U hc=>hc⟩
  ·rw [hco]
   exact⟨_,_,_,⟨k+1,Z,Z,Z⟩,λx hx=>by simp only [zi] at hx;subst hx;exact Nat.lt_succ_self k⟩
  ·rw [hco] at hc
   obtain⟨r,rfl,rfl,rfl⟩:=hc
   exact⟨by simp,List.nodup_nil⟩
  ·rw [hco] at hc
   obtain⟨r,rfl,rfl,rfl⟩:=hc
   intro x hx;cases hx
  ·rw [hco] at hc
   obtain⟨r,rfl,rfl,rfl⟩:=hc;rfl
  ·rw [hco]
   have hcs:Instr.fill (λj=>some (j*ii.size,ii.size)) ((Array.range (n*ii.size)).map (z.cells[·%z.cells.size]!)) (parts.map λx=>(x.1,rd T x.2))=some cells.toArray:=by rw [hz0,hfill]
   refine .inl ⟨.slice (some ⟨w.heap.size,0,none⟩) n n,w.alloc (.cells cells.toArray e),[(w.heap.size,e,cells.toArray)],[], ?_,⟨Z,Z,Z,by simp,λk hk _=>heap_alloc_old w _ k hk,λ_ h=>(nomatch h),λy hy=> ?_,Nat.le_refl _⟩,w.heap.size,Z,Z,Z⟩
   ·have hbig: ¬n*ii.size>2^24:=by omega
    have hrun:(Instr.buildSlice t n (parts.toArray.map λx=>(x.1,rd T x.2))).run E.P w= .ok (.slice (some ⟨w.heap.size,0,none⟩) n n) (w.alloc (.cells cells.toArray e)):=by
     simp only [Nat.reducePow] at hbig
     by_cases h0:n*ii.size=0
     ·have hr: ∀f:Nat->Y2,(Array.range 0).map f= #[]:=λf=>by apply Array.eq_empty_of_size_eq_zero;rw [Array.size_map,Array.size_range]
      rw [h0,hr] at hcs
      simp [Instr.buildSlice,run_underlying hu,sizeOf,typeInfo,hi,h0,newRow,hr,hcs]
     ·simp [Instr.buildSlice,run_underlying hu,sizeOf,typeInfo,hi,zeroValue,hz,V9 hbig,h0,hcs,newRow]
    unfold execOp
    simp only [Sem.run_bind,hrun,Result.andThen_ok,Sem.run_pure]
   ·simp only [zi] at hy;subst hy
    exact⟨Nat.le_refl _, .of hT (heap_alloc_new w _)⟩
 ·obtain⟨r,rfl,rfl,rfl⟩:=hp
  refine⟨Ls.flatten,λ_=>PutU.nil _, ?_⟩
  have h2:=h (.slice (some ⟨r,0,none⟩) n n) [(r,e,cells.toArray)] (.inr ⟨r,n,cells.toArray,by rw [hlen],by rw [hlen];exact Nat.le_refl _,by rw [hxs,hlen,List.size_toArray,En.all_len],by rw [hxs,<-En.all_len xs];exact List.take_length,Z⟩)
  rw [List.flatten_append] at h2
  simpa [putT] using h2
structure gF(p:Pst):Prop where
 wit: ∀k,∃v L U,p v L U/\ ∀x∈L,k<x.1
 nod: ∀v L U,p v L U->(L.map (·.1)).Nodup/\U=[]
def pV(a:Y2):Pst:=λv L U=>v=a/\L=[]/\U=[]
def p1{α:Type}(F:Y2->Y2)(e:TypeId)(a:Enc α)(b:Y0 α):Pst:=λv L U=> ∃s,Sl e a s b L/\v=F s/\U=[]
theorem Uc(v0:Y2):gF (pV v0):=⟨λ_=>⟨v0,[],[],⟨Z,Z,Z⟩,λ_ h=>(nomatch h)⟩,λ_ _ _ ⟨_,h1,h2⟩=>⟨by rw [h1];exact List.nodup_nil,h2⟩⟩
theorem mm{α:Type}(F:Y2->Y2)(e:TypeId)(En:Enc α)(xs:Y0 α):gF (p1 F e En xs):=
 ⟨λk=>by obtain⟨v,S,h,hk⟩:=Sl.wit e En xs k;exact⟨F v,S,[],⟨v,h,Z,Z⟩,hk⟩,λ_ _ _ ⟨_,h1,_,h2⟩=>⟨h1.nod,h2⟩⟩
theorem DoesI.mono{P:Program}{f:FuncId}{args:Array Y2}{inv inv':World->Prop}{ro ro':Addr->Y1 Y2}{p:Pst}(h:DoesI P f args inv ro [] p)(hi: ∀w,inv' w->inv w)(hr: ∀a v,ro a=some v->ro' a=some v):DoesI P f args inv' ro' [] p:=λw h0 h1 h2 h3=>
 h w (hi w h0) (λa v ha=>h1 a v (hr a v ha)) h2 h3
theorem vN{l:Y0 Bl}{c:Call}(p:Pst)(f:FuncId)(args:Array Y2)(hd:decide (d<E.n)=true)(hk:E.ks.find? (λx=>x.1==some d)=some (some d,false))(hm:decide (m<=l.length)=true)(he:ev E.P E.ro (execOp (rd T) ⟨some d, .call c,ty,pos,af,none⟩)=some (.enter f args))(hdo: ∀own nw,Sees E l m own nw->DoesI E.P f args E.inv (cellA E own nw) [] p)(hcon: ∀args view v L U,E.con ⟨some d, .call c,ty,pos,af,none⟩ args view v L U↔p v L U)(hn:gF p)(h: ∀v L,p v L []->lx E g ops K r (upd T d v) (l++L) m):lx E g ops K (⟨some d, .call c,ty,pos,af,none⟩::r) T l m:=by
 refine r_g false p hd hk Z hm (λhnd own nw hse=> ?_) (λv L U hp=> ?_)
 ·have hco:Ab6 E ⟨T,own,nw⟩ ⟨some d, .call c,ty,pos,af,none⟩=p:=by
   funext v L U;exact propext (hcon _ _ v L U)
  refine⟨⟨?_, ?_, ?_, ?_, ?_⟩, ?_⟩
  ·rw [hco];exact λ_=>hn.wit
  ·rw [hco];exact λv L U hp=>⟨(hn.nod v L U hp).1,by rw [(hn.nod v L U hp).2];exact List.nodup_nil⟩
  ·rw [hco];intro v L U hp x hx;rw [(hn.nod v L U hp).2] at hx;cases hx
  ·rw [hco];exact λ_ v L U hp=>(hn.nod v L U hp).2
  ·rw [hco]
   intro w hbase hcell hheap
   exact GenRun.call (λa v ha=>hcell a v (hse.ro_cell a v ha)) he (hdo own nw hse) hbase.2 (λa v ha=>⟨hcell a v ha,by simp⟩) (λ_ h=>(nomatch h)) List.nodup_nil
  ·rw [hco];exact λv L U hp=>hp
 ·obtain⟨_,rfl⟩:=hn.nod v L U hp
  exact⟨l,λ_=>PutU.nil _,h v L hp⟩
end
end Go.Eng
