import Derived.Test.YtjnanfkpdhmnpaaGreatDoorSb
namespace Go.Eng
open Go Go.RowKit
abbrev PO:=Y2->Y0 (Y0 Bl)->Prop
def pO(a:Y0 Bl)(P:PO):Pst:=λv L U=>U.map (·.1)=a.map (·.1)/\(L.map (·.1)).Nodup/\ ∃O,P v O/\Sub O.flatten (U++L)
def Ac2(P:PO)(R:Y0 Bl):Prop:=(R.map (·.1)).Nodup-> ∀k,∃v O,P v O/\(O.flatten.map (·.1)).Nodup/\ ∀x∈O.flatten,x.1∈R.map (·.1)\/k<x.1
theorem Ac2.sub{P:PO}{R foot:Y0 Bl}(h:Ac2 P R)(hs:Sub R foot):Ac2 P foot:=λhn k=>by
 obtain⟨v,O,h1,h2,h3⟩:=h (hs.nod hn) k
 refine⟨v,O,h1,h2,λx hx=>(h3 x hx).imp (λh4=> ?_) id⟩
 obtain⟨y,hy,e⟩:=List.mem_map.1 h4
 exact List.mem_map.2 ⟨y,hs.mem y hy,e⟩
abbrev oE(v0:Y2)(bs:Y0 (Y0 Bl)):PO:=λv O=>v=v0/\O=bs
abbrev oS{α:Type}(e:TypeId)(En:Enc α)(xs:Y0 α)(P:Y2->PO):PO:=λv O=> ∃s S O',Sl e En s xs S/\P s v O'/\O=S::O'
abbrev oI{α:Type}(e:TypeId)(En:Enc α)(s:Y2)(xs:Y0 α)(P:PO):PO:=λv O=> ∃S O',Sl e En s xs S/\P v O'/\O=S::O'
abbrev oB(T:TypeId)(cs:Array Y2)(P:Nat->PO):PO:=λv O=> ∃b O',P b v O'/\O=[(b,T,cs)]::O'
abbrev oR{α:Type}(En:Enc α)(ro:Addr->Y1 Y2)(xs:Y0 α)(P:Y2->PO):PO:=λv O=> ∃s,Rd En ro s xs/\P s v O
theorem DoesI.ro_mono{P:Program}{f:FuncId}{args:Array Y2}{inv:World->Prop}{ro ro':Addr->Y1 Y2}{foot:Y0 Bl}{p:Pst}(hm: ∀a v,ro a=some v->ro' a=some v)(h:DoesI P f args inv ro foot p):DoesI P f args inv ro' foot p:=
 λw h1 h2 h3 h4=>h w h1 (λa v ha=>h2 a v (hm a v ha)) h3 h4
theorem Oe{v0:Y2}{bs:Y0 (Y0 Bl)}{R:Y0 Bl}(h:bs.flatten.map (·.1)=R.map (·.1)):Ac2 (oE v0 bs) R:=λhn _=>
 ⟨v0,bs,⟨Z,Z⟩,by rw [h];exact hn,λx hx=> .inl (by rw [<-h];exact List.mem_map.2 ⟨x,hx,Z⟩)⟩
theorem UJ(R:Y0 Nat)(k:Nat): ∃K,k<=K/\ ∀x∈R,x<=K:=by
 induction R with
 |nil=>exact⟨k,Nat.le_refl _,λ_ h=>(nomatch h)⟩
 |cons a R ih=>
  obtain⟨K,h1,h2⟩:=ih
  refine⟨max K a,by omega,λx hx=> ?_⟩
  rcases List.mem_cons.1 hx with rfl|hx
  ·omega
  ·have:=h2 x hx;omega
theorem mn{α:Type}{e:TypeId}{En:Enc α}{xs:Y0 α}{P:Y2->PO}{R:Y0 Bl}(h: ∀s,Ac2 (P s) R):Ac2 (oS e En xs P) R:=λhn k=>by
 obtain⟨K,hk,hR⟩:=UJ (R.map (·.1)) k
 obtain⟨s,S,hS,hSk⟩:=Sl.wit e En xs K
 obtain⟨K2,hk2,hS2⟩:=UJ (S.map (·.1)) K
 obtain⟨v,O,h1,h2,h3⟩:=h s hn K2
 refine⟨v,S::O,⟨s,S,O,hS,h1,Z⟩, ?_,λx hx=> ?_⟩
 ·rw [List.flatten_cons,List.map_append,List.nodup_append]
  refine⟨hS.nod,h2,λa ha b hb=> ?_⟩
  obtain⟨x,hx,rfl⟩:=List.mem_map.1 ha
  obtain⟨y,hy,rfl⟩:=List.mem_map.1 hb
  have e1:=hSk x hx
  have e2:=hS2 x.1 ha
  rcases h3 y hy with h4|h4
  ·have:=hR _ h4;omega
  ·omega
 ·rw [List.flatten_cons] at hx
  rcases List.mem_append.1 hx with hx|hx
  ·right;have:=hSk x hx;omega
  ·rcases h3 x hx with h4|h4
   ·exact .inl h4
   ·right;omega
theorem Td{T:TypeId}{cs:Array Y2}{P:Nat->PO}{R:Y0 Bl}(h: ∀b,Ac2 (P b) R):Ac2 (oB T cs P) R:=λhn k=>by
 obtain⟨K,hk,hR⟩:=UJ (R.map (·.1)) k
 obtain⟨v,O,h1,h2,h3⟩:=h (K+1) hn (K+1)
 refine⟨v,[(K+1,T,cs)]::O,⟨K+1,O,h1,Z⟩, ?_,λx hx=> ?_⟩
 ·rw [List.flatten_cons,List.map_append,List.nodup_append]
  refine⟨by simp,h2,λa ha b hb=> ?_⟩
  obtain⟨y,hy,rfl⟩:=List.mem_map.1 hb
  simp only [List.map_cons,List.map_nil,zi] at ha
  subst ha
  rcases h3 y hy with h4|h4
  ·have:=hR _ h4;omega
  ·omega
 ·rw [List.flatten_cons] at hx
  rcases List.mem_append.1 hx with hx|hx
  ·simp only [zi] at hx;subst hx;right;omega
  ·rcases h3 x hx with h4|h4
   ·exact .inl h4
   ·right;omega
theorem vc{α:Type}{e:TypeId}{En:Enc α}{s:Y2}{xs x0:Y0 α}{S0 R:Y0 Bl}{P:PO}(hS:Sl e En s x0 S0)(hl:xs.length=x0.length)(h:Ac2 P R):Ac2 (oI e En s xs P) (S0++R):=λhn k=>by
 rw [List.map_append,List.nodup_append] at hn
 obtain⟨hn1,hn2,hd⟩:=hn
 obtain⟨K,hk,hK⟩:=UJ (S0.map (·.1)) k
 obtain⟨v,O,h1,h2,h3⟩:=h hn2 K
 obtain⟨S,hS',hnm⟩: ∃S,Sl e En s xs S/\S.map (·.1)=S0.map (·.1):=by
  rcases hS with⟨a,rfl,rfl,rfl⟩|⟨b,cap,cs,rfl,hc,hsz,htk,rfl⟩
  ·obtain rfl:xs=[]:=List.eq_nil_of_length_eq_zero hl
   exact⟨[], .inl ⟨a,Z,Z,Z⟩,Z⟩
  ·refine⟨[(b,e,(En.all xs++cs.toList.drop (xs.length*En.sz)).toArray)], .inr ⟨b,cap,_,by rw [hl],by omega, ?_, ?_,Z⟩,Z⟩
   ·have hle:x0.length*En.sz<=cap*En.sz:=Nat.mul_le_mul_right _ hc
    simp only [List.size_toArray,zf,zq,Array.length_toList,En.all_len,hl,hsz]
    omega
   ·rw [<-En.all_len xs];exact List.take_left
 refine⟨v,S::O,⟨S,O,hS',h1,Z⟩, ?_,λx hx=> ?_⟩
 ·rw [List.flatten_cons,List.map_append,List.nodup_append]
  refine⟨by rw [hnm];exact hn1,h2,λa ha b hb=> ?_⟩
  rw [hnm] at ha
  obtain⟨y,hy,rfl⟩:=List.mem_map.1 hb
  rcases h3 y hy with h4|h4
  ·exact hd a ha _ h4
  ·have:=hK a ha;omega
 ·rw [List.flatten_cons] at hx
  rw [List.map_append]
  rcases List.mem_append.1 hx with hx|hx
  ·left;rw [<-hnm];exact List.mem_append_left _ (List.mem_map.2 ⟨x,hx,Z⟩)
  ·rcases h3 x hx with h4|h4
   ·exact .inl (List.mem_append_right _ h4)
   ·right;omega
def jv(E:Env)(rs:Array ResultVar)(P:PO):QL
 | .normal,t,l| .ret,t,l=> ∃v O,MD E rs ⟨t,ownL l,nonw⟩=some v/\Sub O.flatten l/\P v O
 |_,_,_=>False
theorem CI{E:Env}{rs:Array ResultVar}{P:PO}{t:Nat->Y2}{l:Y0 Bl}{v0:Y2}{O:Y0 (Y0 Bl)}(h:MD E rs ⟨t,ownL l,nonw⟩=some v0)(hs:Sub O.flatten l)(hp:P v0 O):jv E rs P .ret t l:=⟨v0,O,h,hs,hp⟩
theorem Xb{E:Env}{rs:Array ResultVar}{P:PO}{t:Nat->Y2}{l:Y0 Bl}{v0:Y2}{O:Y0 (Y0 Bl)}(h:MD E rs ⟨t,ownL l,nonw⟩=some v0)(hs:Sub O.flatten l)(hp:P v0 O):jv E rs P .normal t l:=⟨v0,O,h,hs,hp⟩
theorem vk{w:World}{OF:Y0 Bl}(hnd:(OF.map (·.1)).Nodup)(hO: ∀x∈OF,Holds w x.1 x.2.1 x.2.2): ∀foot:Y0 Bl,(∀y∈foot,∃T cs,Holds w y.1 T cs)->
  ∃U:Y0 Bl,U.map (·.1)=foot.map (·.1)/\(∀x∈U,Holds w x.1 x.2.1 x.2.2)/\ ∀x∈OF,x.1∈foot.map (·.1)->x∈U
 | [],_=>⟨[],Z,λ_ h=>(nomatch h),λ_ _ h=>(nomatch h)⟩
 |y::foot,hy=>by
  obtain⟨U,h1,h2,h3⟩:=vk hnd hO foot (λz hz=>hy z (List.mem_cons_of_mem _ hz))
  by_cases h: ∃x∈OF,x.1=y.1
  ·obtain⟨x,hx,e⟩:=h
   refine⟨x::U,by simp [h1,e],λz hz=> ?_,λz hz hm=> ?_⟩
   ·rcases List.mem_cons.1 hz with rfl|hz
    ·exact hO _ hx
    ·exact h2 z hz
   ·rw [List.map_cons] at hm
    rcases List.mem_cons.1 hm with e2|hm
    ·have:z=x:=by
      obtain⟨i,hi⟩:=List.getElem?_of_mem hz
      obtain⟨j,hj⟩:=List.getElem?_of_mem hx
      have e3:(OF.map (·.1))[i]? =some y.1:=by rw [List.getElem?_map,hi];simp [e2]
      have e4:(OF.map (·.1))[j]? =some y.1:=by rw [List.getElem?_map,hj];simp [e]
      obtain⟨_,e3⟩:=List.getElem?_eq_some_iff.1 e3
      obtain⟨_,e4⟩:=List.getElem?_eq_some_iff.1 e4
      have:=(List.getElem_inj hnd).1 (e3.trans e4.symm)
      subst this
      rw [hi] at hj;exact q3 hj
     exact List.mem_cons.2 (.inl this)
    ·exact List.mem_cons_of_mem _ (h3 z hz hm)
  ·obtain⟨T,cs,hh⟩:=hy y (List.mem_cons_self ..)
   refine⟨(y.1,T,cs)::U,by simp [h1],λz hz=> ?_,λz hz hm=> ?_⟩
   ·rcases List.mem_cons.1 hz with rfl|hz
    ·exact hh
    ·exact h2 z hz
   ·rw [List.map_cons] at hm
    rcases List.mem_cons.1 hm with e2|hm
    ·exact absurd ⟨z,hz,e2⟩ h
    ·exact List.mem_cons_of_mem _ (h3 z hz hm)
theorem UL{P:Program}{f:FuncId}{fn:Func}{c:Code}{args:Array Y2}{ro:Addr->Y1 Y2}{foot:Y0 Bl}{PP:PO}(hm:P.follows .mixedOrders=true)(hf:P.funcs[f]? =some fn)(hb:fn.body=some c)(n:Nat)(hn:args.size+(fn.ntmps - args.size)=n)(t0:Nat->Y2)(ht:(λk=>args.getD k undef)=t0){inv:World->Prop}(hinv: ∀w w',inv w->(∀x∈foot,Holds w x.1 x.2.1 x.2.2)->Kept w.heap.size (foot.map (·.1)) w w'->inv w')(h: ∀base,A {P:=P,n:=n,base:=base,ro:=ro,foot:=foot.map (·.1),inv:=inv} c (jv {P:=P,n:=n,base:=base,ro:=ro,foot:=foot.map (·.1),inv:=inv} fn.results PP) t0 foot):DoesI P f args inv ro foot (pO foot PP):=by
 subst ht
 intro w hiw hro hfo hnd
 refine calls_of_wp hf hb ?_
 have hs0:Sim (env P n w.heap.size) w (St.init args) {tmps:=args++Array.replicate (fn.ntmps - args.size) undef,defers:=[]} w:=VH n hn
 have hs:SimL {P:=P,n:=n,base:=w.heap.size,ro:=ro,foot:=foot.map (·.1),inv:=inv} w (λk=>args.getD k undef) foot {tmps:=args++Array.replicate (fn.ntmps - args.size) undef,defers:=[]} w:=
  ⟨hnd,hs0.dfr,hs0.sz,hs0.tm,Kept.refl _ _ _,Nat.le_refl _,λq v hq=>by
   obtain⟨h1,h2⟩:=hro q v hq
   refine⟨?_,h2,h1⟩
   unfold World.cell? at h1
   cases hc:w.heap[q.block]? with
   |none=>rw [hc] at h1;cases h1
   |some o=>exact(Array.getElem?_eq_some_iff.1 hc).1,λb T cs ho=>by
   obtain⟨i,hi⟩:=Tb ho
   have hmem:=List.mem_of_getElem? hi
   exact⟨.inr (List.mem_map.2 ⟨_,hmem,Z⟩),hfo _ hmem⟩,λw' hk=>hinv w w' hiw hfo hk⟩
 refine Code.wp_mono (λe a w' hk=> ?_) (h w.heap.size w _ w hm hs)
 obtain⟨t,l,hq,hnd',hs⟩:=hk
 have fin:(∃v O,MD {P:=P,n:=n,base:=w.heap.size,ro:=ro,foot:=foot.map (·.1),inv:=inv} fn.results ⟨t,ownL l,nonw⟩=some v/\Sub O.flatten l/\PP v O)->
   a.defers=[]/\ ∃v,(results fn a.tmps).run P w'= .ok v w'/\ ∃v' L U,Ending.returned v= .returned v'/\ExtW w w' L U/\pO foot PP v' L U:=by
  rintro⟨v,O,hv,hsub,hp⟩
  have hOn:=hsub.nod hnd'
  have hOh: ∀x∈O.flatten,(w.heap.size<=x.1\/x.1∈foot.map (·.1))/\Holds w' x.1 x.2.1 x.2.2:=λx hx=>by
   obtain⟨i,hi⟩:=List.getElem?_of_mem (hsub.mem _ hx)
   exact hs.own x.1 x.2.1 x.2.2 (PJ hnd' hi)
  obtain⟨U,hU1,hU2,hU3⟩:=vk hOn (λx hx=>(hOh x hx).2) foot (λy hy=>hs.bel.keep y.1 (List.mem_map.2 ⟨y,hy,Z⟩) ⟨_,_,hfo y hy⟩)
  refine⟨hs.dfr,v,RJ hs hv,v,O.flatten.filter (λx=>decide (x.1 ∉ foot.map (·.1))),U,Z,⟨hs.bel.os,hs.bel.tape,hs.bel.output,hs.bel.size,λk hk hne=>hs.bel.block k hk (λhf=> ?_),hU2,λx hx=> ?_,hs.bel.drawn⟩,hU1, ?_,O,hp,λx hx=> ?_,λ_=>hOn⟩
  ·have hf':k∈foot.map (·.1):=hf
   rw [<-hU1] at hf'
   obtain⟨y,hy,rfl⟩:=List.mem_map.1 hf'
   exact hne y hy Z
  ·obtain⟨hx1,hx2⟩:=List.mem_filter.1 hx
   obtain⟨h1,h2⟩:=hOh x hx1
   rcases h1 with h1|h1
   ·exact⟨h1,h2⟩
   ·exact absurd h1 (zj hx2)
  ·exact(List.filter_sublist.map _).nodup hOn
  ·by_cases hx1:x.1∈foot.map (·.1)
   ·exact List.mem_append_left _ (hU3 x hx hx1)
   ·exact List.mem_append_right _ (List.mem_filter.2 ⟨hx,zl hx1⟩)
 cases e with
 |normal=>exact fin hq
 |ret=>exact fin hq
 |_=>exact hq.elim
theorem BZ{P:Program}{f:FuncId}{fn:Func}{c:Code}{args:Array Y2}{ro:Addr->Y1 Y2}{foot:Y0 Bl}{PP:PO}(hm:P.follows .mixedOrders=true)(hf:P.funcs[f]? =some fn)(hb:fn.body=some c)(n:Nat)(hn:args.size+(fn.ntmps - args.size)=n)(t0:Nat->Y2)(ht:(λk=>args.getD k undef)=t0){inv:World->Prop}(hinv: ∀w w',inv w->Kept w.heap.size (foot.map (·.1)) w w'->inv w')(h: ∀base,A {P:=P,n:=n,base:=base,ro:=ro,foot:=foot.map (·.1),inv:=inv} c (jv {P:=P,n:=n,base:=base,ro:=ro,foot:=foot.map (·.1),inv:=inv} fn.results PP) t0 foot):DoesI P f args inv ro foot (pO foot PP):=
 UL hm hf hb n hn t0 ht (λw w' h _ k=>hinv w w' h k) h
def UM(c:Addr->Y1 Y2)(F:Y0 Nat):Addr->Y1 Y2:=λa=>if a.block∈F then none else c a
theorem gW{c:Addr->Y1 Y2}{F:Y0 Nat}{a:Addr}{v:Y2}(h:UM c F a=some v):c a=some v/\a.block ∉ F:=by
 unfold UM at h;split at h
 ·cases h
 ·rename_i h1;exact⟨h,h1⟩
theorem ZO{c:Addr->Y1 Y2}{F:Y0 Nat}{a:Addr}{v:Y2}(h:c a=some v)(hb:a.block ∉ F):UM c F a=some v:=by
 unfold UM;rw [V9 hb];exact h
def Qr(a:Y0 Nat)(n:Nat):Y0 Nat:=(List.range n).filter λi=> !a.contains i
theorem PH{Ls:Y0 (Y0 Bl)}{is:Y0 Nat}{x:Bl}(h:x∈(pickL Ls is).flatten): ∃i∈is,x∈(Ls[i]?).getD []:=by
 obtain⟨S,hS,hx⟩:=List.mem_flatten.1 h
 obtain⟨i,hi,rfl⟩:=List.mem_map.1 hS
 exact⟨i,hi,hx⟩
theorem Sh(is:Y0 Nat)(n:Nat):Nq (Qr is n) n=true:=by
 unfold Nq Qr
 rw [Bool.and_eq_true]
 refine⟨List.all_eq_true.2 λi hi=>zl ?_,zl (List.nodup_range.filter _)⟩
 have:=(List.mem_filter.1 hi).1
 simpa using this
section
variable {E:Env} {g:Y3} {ops:Array Oper} {K:(Nat->Y2)->Y0 Bl->Prop} {r:Y0 Oper} {T:Nat->Y2} {d:Tmp} {ty:TypeId} {pos:String} {af:Array Edge}
theorem xC{Ls FL RL:Y0 (Y0 Bl)}{c:Call}(is:Y0 Nat)(P:PO)(dd:Y1 Tmp)(f:FuncId)(args:Array Y2){pc:Y0 Y2->Pst}(hd:(match dd with|some d=>decide (d<E.n)|none=>true)=true)(hk:E.ks.find? (λx=>x.1==dd)=some (dd,true))(hok:Nq is Ls.length=true)(hFL:pickL Ls is=FL)(hRL:pickL Ls (Qr is Ls.length)=RL)(he:ev E.P E.ro (execOp (rd T) ⟨dd, .call c,ty,pos,af,none⟩)=some (.enter f args))(hdo: ∀own nw,(Ls.flatten.map (·.1)).Nodup->Sees E Ls.flatten 0 own nw->DoesI E.P f args E.inv (UM (cellA E own nw) (FL.flatten.map (·.1))) FL.flatten (pO FL.flatten P))(hcon: ∀args view v L U,E.con ⟨dd, .call c,ty,pos,af,none⟩ args view v L U↔pc args v L U)(hpc: ∀v L U,pc ((Op.call c).operands.toList.map (rd T)) v L U↔pO FL.flatten P v L U)(hnice:g=true->Ac2 P FL.flatten)(h: ∀v O,P v O->lx E g ops K r (putT T dd v) (RL++O).flatten 0):lx E g ops K (⟨dd, .call c,ty,pos,af,none⟩::r) T Ls.flatten 0:=by
 subst hFL;subst hRL
 have hsF:=W5 Ls is hok
 have hsR:=W5 Ls (Qr is Ls.length) (Sh is Ls.length)
 refine r_g true (pO (pickL Ls is).flatten P) hd hk Z Z (λhnd own nw hse=> ?_) (λv L U hp=> ?_)
 ·have hco:Ab6 E ⟨T,own,nw⟩ ⟨dd, .call c,ty,pos,af,none⟩=pO (pickL Ls is).flatten P:=by
   funext v L U;exact propext ((hcon _ _ v L U).trans (hpc v L U))
  have hfn:=hsF.nod hnd
  refine⟨⟨?_, ?_, ?_,λh=>(nomatch h), ?_⟩, ?_⟩
  ·rw [hco]
   intro hg k
   obtain⟨K',hk1,hk2⟩:=UJ ((pickL Ls is).flatten.map (·.1)) k
   obtain⟨v,O,h1,h2,h3⟩:=hnice hg hfn K'
   refine⟨v,O.flatten.filter (λx=>decide (x.1 ∉ (pickL Ls is).flatten.map (·.1))),(pickL Ls is).flatten.map (λy:Bl=>match O.flatten.find? (λx:Bl=>x.1==y.1)with|some x=>x|none=>y),⟨?_,(List.filter_sublist.map _).nodup h2,O,h1,λx hx=> ?_,λ_=>h2⟩,λx hx=> ?_⟩
   ·rw [List.map_map]
    refine List.map_congr_left λ(y:Bl) _=> ?_
    show(match O.flatten.find? (λx:Bl=>x.1==y.1)with|some x=>x|none=>y).1=y.1
    split
    ·rename_i x hx;have:=List.find?_some hx;simpa using this
    ·rfl
   ·by_cases hx1:x.1∈(pickL Ls is).flatten.map (·.1)
    ·refine List.mem_append_left _ (List.mem_map.2 ?_)
     obtain⟨y,hy,e⟩:=List.mem_map.1 hx1
     refine⟨y,hy, ?_⟩
     have e':y.1=x.1:=e
     have:O.flatten.find? (λz=>z.1==y.1)=some x:=by
      cases hf:O.flatten.find? (λz=>z.1==y.1)with
      |none=>have:=List.find?_eq_none.1 hf x hx;simp [e'] at this
      |some z=>
       have hz1:=List.mem_of_find?_eq_some hf
       have hz2:=List.find?_some hf
       simp only [beq_iff_eq] at hz2
       obtain⟨i,hi⟩:=List.getElem?_of_mem hz1
       obtain⟨j,hj⟩:=List.getElem?_of_mem hx
       have e3:(O.flatten.map (·.1))[i]? =some x.1:=by rw [List.getElem?_map,hi];simp [hz2,e']
       have e4:(O.flatten.map (·.1))[j]? =some x.1:=by rw [List.getElem?_map,hj];rfl
       obtain⟨_,e3⟩:=List.getElem?_eq_some_iff.1 e3
       obtain⟨_,e4⟩:=List.getElem?_eq_some_iff.1 e4
       have:=(List.getElem_inj h2).1 (e3.trans e4.symm)
       subst this
       rw [hi] at hj;exact hj
     simp only [this]
    ·exact List.mem_append_right _ (List.mem_filter.2 ⟨hx,zl hx1⟩)
   ·obtain⟨hx1,hx2⟩:=List.mem_filter.1 hx
    rcases h3 x hx1 with h4|h4
    ·exact absurd h4 (zj hx2)
    ·omega
  ·rw [hco];intro v L U hp
   exact⟨hp.2.1,by rw [hp.1];exact hfn⟩
  ·rw [hco];intro v L U hp x hx
   have hxn:x.1∈U.map (·.1):=List.mem_map.2 ⟨x,hx,Z⟩
   rw [hp.1] at hxn
   obtain⟨y,hy,e⟩:=List.mem_map.1 hxn
   obtain⟨i,hi⟩:=List.getElem?_of_mem (hsF.mem y hy)
   obtain⟨g1,g2⟩:=hse.has i _ _ hi
   rw [<-e]
   exact⟨⟨_,g1⟩,by show nw y.1=false;rw [g2];simp⟩
  ·rw [hco]
   intro w hbase hcell hheap
   refine GenRun.call (λa v ha=>hcell a v (hse.ro_cell a v ha)) he (hdo own nw hnd hse) hbase.2 (λa v ha=> ?_) (λx hx=> ?_) hfn
   ·obtain⟨h1,h2⟩:=gW ha
    exact⟨hcell a v h1,h2⟩
   ·obtain⟨i,hi⟩:=List.getElem?_of_mem (hsF.mem x hx)
    obtain⟨g1,g2⟩:=hse.has i _ _ hi
    exact hheap x.1 x.2 g1 (by show nw x.1=false;rw [g2];simp)
  ·rw [hco];exact λv L U hp=>hp
 ·obtain⟨hU,hLn,O,hP,hsub⟩:=hp
  refine⟨Ls.flatten.map (λx:Bl=>match U.find? (λy:Bl=>y.1==x.1)with|some y=>y|none=>x),λhnd=>⟨?_,λi b x hi=> ?_⟩,λhn'=> ?_⟩
  ·rw [List.map_map]
   refine List.map_congr_left λ(y:Bl) _=> ?_
   show(match U.find? (λx:Bl=>x.1==y.1)with|some x=>x|none=>y).1=y.1
   split
   ·rename_i x hx;have:=List.find?_some hx;simpa using this
   ·rfl
  ·rw [List.getElem?_map] at hi
   cases hli:Ls.flatten[i]? with
   |none=>rw [hli] at hi;cases hi
   |some z=>
    rw [hli] at hi
    simp only [Option.map_some,Option.some.injEq] at hi
    split at hi
    ·rename_i y hy;subst hi;exact .inl (List.mem_of_find?_eq_some hy)
    ·rename_i hy;subst hi
     exact .inr ⟨λy hyU e=>by have:=List.find?_eq_none.1 hy y hyU;simp [e] at this,Z⟩
  ·generalize hl1:Ls.flatten.map (λx:Bl=>match U.find? (λy:Bl=>y.1==x.1)with|some y=>y|none=>x)=l1 at hn' ⊢
   have hsame:l1.map (·.1)=Ls.flatten.map (·.1):=by
    rw [<-hl1,List.map_map]
    refine List.map_congr_left λ(y:Bl) _=> ?_
    show(match U.find? (λx:Bl=>x.1==y.1)with|some x=>x|none=>y).1=y.1
    split
    ·rename_i x hx;have:=List.find?_some hx;simpa using this
    ·rfl
   rw [List.map_append,hsame] at hn'
   have hn0:=hn'
   rw [List.nodup_append] at hn'
   obtain⟨hnd,_,hdj⟩:=hn'
   have hfn:=hsF.nod hnd
   have hUn:(U.map (·.1)).Nodup:=by rw [hU];exact hfn
   have hFl: ∀n,n∈U.map (·.1)->n∈Ls.flatten.map (·.1):=λn h1=>by
    rw [hU] at h1
    obtain⟨y,hy,e⟩:=List.mem_map.1 h1
    exact List.mem_map.2 ⟨y,hsF.mem y hy,e⟩
   have hULn:((U++L).map (·.1)).Nodup:=by
    rw [List.map_append,List.nodup_append]
    exact⟨hUn,hLn,λa ha b hb=>hdj a (hFl a ha) b hb⟩
   have hOn:=hsub.nod hULn
   have hUl1: ∀x∈U,x∈l1:=λx hx=>by
    obtain⟨z,hz,e⟩:=List.mem_map.1 (hFl x.1 (List.mem_map.2 ⟨x,hx,Z⟩))
    have e':z.1=x.1:=e
    rw [<-hl1]
    refine List.mem_map.2 ⟨z,hz, ?_⟩
    have:U.find? (λy=>y.1==z.1)=some x:=by
     cases hf:U.find? (λy=>y.1==z.1)with
     |none=>have:=List.find?_eq_none.1 hf x hx;simp [e'] at this
     |some y=>
      have hz1:=List.mem_of_find?_eq_some hf
      have hz2:=List.find?_some hf
      simp only [beq_iff_eq] at hz2
      obtain⟨i,hi⟩:=List.getElem?_of_mem hz1
      obtain⟨j,hj⟩:=List.getElem?_of_mem hx
      have e3:(U.map (·.1))[i]? =some x.1:=by rw [List.getElem?_map,hi];simp [hz2,e']
      have e4:(U.map (·.1))[j]? =some x.1:=by rw [List.getElem?_map,hj];rfl
      obtain⟨_,e3⟩:=List.getElem?_eq_some_iff.1 e3
      obtain⟨_,e4⟩:=List.getElem?_eq_some_iff.1 e4
      have:=(List.getElem_inj hUn).1 (e3.trans e4.symm)
      subst this
      rw [hi] at hj;exact hj
    simp only [this]
   have hR: ∀x∈(pickL Ls (Qr is Ls.length)).flatten,x.1 ∉ U.map (·.1):=λx hx hxU=>by
    rw [hU] at hxU
    obtain⟨y,hy,e⟩:=List.mem_map.1 hxU
    obtain⟨i,hi,hy⟩:=PH hy
    obtain⟨j,hj,hx⟩:=PH hx
    have:=PU Ls hnd i j y x hy hx e
    subst this
    have hj2:=(List.mem_filter.1 hj).2
    have:is.contains i=true:=List.contains_iff_mem.2 hi
    rw [this] at hj2;cases hj2
   refine Wh (l':=(pickL Ls (Qr is Ls.length)++O).flatten) ⟨λx hx=> ?_,λ_=> ?_⟩ (λi hi=>absurd hi (Nat.not_lt_zero i)) (Nat.zero_le _) (h v O hP) (by rw [List.map_append,hsame];exact hn0)
   ·rw [List.flatten_append] at hx
    rcases List.mem_append.1 hx with hx|hx
    ·refine List.mem_append_left _ ?_
     have hxl:=hsR.mem x hx
     rw [<-hl1]
     refine List.mem_map.2 ⟨x,hxl, ?_⟩
     have:U.find? (λy=>y.1==x.1)=none:=List.find?_eq_none.2 λy hy=>by
      have h1:=hR x hx
      simp only [beq_iff_eq]
      intro e
      exact h1 (List.mem_map.2 ⟨y,hy,e⟩)
     simp only [this]
    ·rcases List.mem_append.1 (hsub.mem x hx)with h1|h1
     ·exact List.mem_append_left _ (hUl1 x h1)
     ·exact List.mem_append_right _ h1
   ·rw [List.flatten_append,List.map_append,List.nodup_append]
    refine⟨hsR.nod hnd,hOn,λa ha b hb e=> ?_⟩
    obtain⟨x,hx,rfl⟩:=List.mem_map.1 ha
    obtain⟨y,hy,rfl⟩:=List.mem_map.1 hb
    rcases List.mem_append.1 (hsub.mem y hy)with h1|h1
    ·exact hR x hx (e▸List.mem_map.2 ⟨y,h1,Z⟩)
    ·exact hdj _ (List.mem_map.2 ⟨x,hsR.mem x hx,Z⟩) _ (List.mem_map.2 ⟨y,h1,Z⟩) e
theorem ci{Ls FL RL:Y0 (Y0 Bl)}{c:Call}(is:Y0 Nat)(P:PO)(dd:Y1 Tmp)(f:FuncId)(args:Array Y2)(hd:(match dd with|some d=>decide (d<E.n)|none=>true)=true)(hk:E.ks.find? (λx=>x.1==dd)=some (dd,true))(hok:Nq is Ls.length=true)(hFL:pickL Ls is=FL)(hRL:pickL Ls (Qr is Ls.length)=RL)(he:ev E.P E.ro (execOp (rd T) ⟨dd, .call c,ty,pos,af,none⟩)=some (.enter f args))(hdo: ∀own nw,(Ls.flatten.map (·.1)).Nodup->Sees E Ls.flatten 0 own nw->DoesI E.P f args E.inv (UM (cellA E own nw) (FL.flatten.map (·.1))) FL.flatten (pO FL.flatten P))(hcon: ∀args view v L U,E.con ⟨dd, .call c,ty,pos,af,none⟩ args view v L U↔pO FL.flatten P v L U)(hnice:g=true->Ac2 P FL.flatten)(h: ∀v O,P v O->lx E g ops K r (putT T dd v) (RL++O).flatten 0):lx E g ops K (⟨dd, .call c,ty,pos,af,none⟩::r) T Ls.flatten 0:=
 xC is P dd f args hd hk hok hFL hRL he hdo (pc:=λ_=>pO FL.flatten P) hcon (λ_ _ _=>Iff.rfl) hnice h
def pH(a:Y0 Nat)(p:Pst):Pst:=λv L U=>U.map (·.1)=a/\p v L U
theorem lS{foot:Y0 Bl}{P:PO}{q:Pst}{v:Y2}{L U:Y0 Bl}(h:q v L U↔pO foot P v L U):pH (foot.map (·.1)) q v L U↔pO foot P v L U:=⟨λh'=>h.1 h'.2,λh'=>⟨h'.1,h.2 h'⟩⟩
def GoodCs(ks:Y0 (Y1 Tmp×Y3))(hid:Y0 Nat):Y0 (Tmp×(Y0 Y2->(Addr->Y1 Y2)->Pst))->Prop
 | []=>True
 |(d,p)::r=>(goodk ks (some d)=false\/ ∀vs c v L U,p vs c v L U-> ∀x∈U,x.1∈hid)/\GoodCs ks hid r
theorem GoodCs.mem{ks:Y0 (Y1 Tmp×Y3)}{hid:Y0 Nat}: ∀{cs:Y0 (Tmp×(Y0 Y2->(Addr->Y1 Y2)->Pst))},GoodCs ks hid cs-> ∀{d p},(d,p)∈cs->goodk ks (some d)=true-> ∀vs c v L U,p vs c v L U-> ∀x∈U,x.1∈hid
 | [],_,_,_,h,_=>nomatch h
 |(d',p')::r,h,d,p,hm,hg=>by
  rcases List.mem_cons.1 hm with e|hm
  ·cases e
   rcases h.1 with h1|h1
   ·rw [h1] at hg;cases hg
   ·exact h1
  ·exact GoodCs.mem h.2 hm hg
theorem lT{ns hid:Y0 Nat}{p:Pst}(hs: ∀n∈ns,n∈hid){v:Y2}{L U:Y0 Bl}(h:pH ns p v L U): ∀x∈U,x.1∈hid:=λx hx=>hs _ (by rw [<-h.1];exact List.mem_map.2 ⟨x,hx,Z⟩)
def sW(b:Y0 (Y1 Tmp×Y3))(a:Array Oper):Y3:=a.toList.all λo=> !goodk b o.dst||(match o.op with| .store ..=>o.dst.isNone| .call c=>(match c.callee with| .value _=>o.dst.isSome| .invoke ..=>o.dst.isSome|_=>false)|_=>false)
theorem cq{Ls:Y0 (Y0 Bl)}{is js:Y0 Nat}(h:is.all (λi=>js.contains i)=true): ∀n∈(pickL Ls is).flatten.map (·.1),n∈(pickL Ls js).flatten.map (·.1):=λn hn=>by
 obtain⟨x,hx,rfl⟩:=List.mem_map.1 hn
 obtain⟨i,hi,hx⟩:=PH hx
 refine List.mem_map.2 ⟨x,List.mem_flatten.2 ⟨_,List.mem_map.2 ⟨i, ?_,Z⟩,hx⟩,Z⟩
 have:=List.all_eq_true.1 h i hi
 simpa using this
theorem kF{P:Program}{cs:Y0 (Tmp×(Y0 Y2->(Addr->Y1 Y2)->Pst))}{d:Tmp}{c:Call}{gd:Y1 (Nat×Y3)}{vs:Y0 Y2}{view:Addr->Y1 Y2}{v:Y2}{L U:Y0 Bl}(hc:(match c.callee with| .value _=>true| .invoke ..=>true|_=>false)=true)(h:conG P cs ⟨some d, .call c,ty,pos,af,gd⟩ vs view v L U): ∃p,(d,p)∈cs/\p vs view v L U:=by
 obtain⟨callee,cargs,cts⟩:=c
 have key: ∀(q:Prop),q->(q->match cs.find? (λx=>x.1==d)with|some x=>x.2 vs view v L U|none=>False)-> ∃p,(d,p)∈cs/\p vs view v L U:=λq hq hp0=>by
  have hp:=hp0 hq
  clear hp0
  cases hf:cs.find? (λx=>x.1==d)with
  |none=>rw [hf] at hp;exact hp.elim
  |some y=>
   rw [hf] at hp
   have hy1:=List.mem_of_find?_eq_some hf
   have hy2:=List.find?_some hf
   simp only [beq_iff_eq] at hy2
   obtain⟨d',p'⟩:=y
   cases hy2
   exact⟨p',hy1,hp⟩
 cases callee with
 |value f=>exact key _ h id
 |invoke _ _=>exact key _ h id
 |_=>simp at hc
theorem VA{Q:QL}{id:Nat}{rs:Y0 Oper}{Ls:Y0 (Y0 Bl)}(ks:Y0 (Y1 Tmp×Y3))(cs:Y0 (Tmp×(Y0 Y2->(Addr->Y1 Y2)->Pst)))(is js:Y0 Nat)(ps:Y0 (Nat×Nat))(hB:VY ks rs.toArray ps (List.range rs.toArray.size)=true)(hS:(Ls.flatten.map (·.1)).Nodup->Sep ps T)(hg:sW ks rs.toArray=true)(hj:js.all (λj=> !is.contains j)=true)(hc:GoodCs ks ((pickL Ls is).flatten.map (·.1)) cs)(h:(∀b∈(pickL Ls js).flatten.map (·.1),b ∉ (pickL Ls is).flatten.map (·.1))->lx {E with ks:=ks,con:=conG E.P cs,hid:=(pickL Ls is).flatten.map (·.1)} true rs.toArray (Q .normal) rs T Ls.flatten 0):A E (.region id rs.toArray true) Q T Ls.flatten:=by
 refine rq ks (conG E.P cs) ((pickL Ls is).flatten.map (·.1)) ps (List.range rs.toArray.size) hB hS (λo ho hgo vs c v L U hp x hx=> ?_) (λhn=> ?_)
 ·have h1:=List.all_eq_true.1 hg o ho
  rw [show goodk ks o.dst=true from hgo] at h1
  obtain⟨dd,op,ty,pos,af,gd⟩:=o
  cases op with
  |call cl=>
   cases dd with
   |none=>obtain⟨callee,_,_⟩:=cl;cases callee<;>simp at h1
   |some d=>
    obtain⟨p,hm,hpp⟩:=kF (by obtain⟨callee,_,_⟩:=cl;cases callee<;>simp at h1 ⊢) hp
    exact hc.mem hm hgo _ _ _ _ _ hpp x hx
  |store _ _ _=>
   cases dd with
   |none=>exact False.elim hp
   |some d=>simp at h1
  |_=>simp at h1
 ·rw [Sy]
  refine h (λb hb hb2=> ?_)
  obtain⟨y,hy,rfl⟩:=List.mem_map.1 hb
  obtain⟨j,hjm,hy⟩:=PH hy
  obtain⟨z,hz,e⟩:=List.mem_map.1 hb2
  obtain⟨i,hi,hz⟩:=PH hz
  have:=PU Ls hn i j z y hz hy e
  subst this
  have h3:=List.all_eq_true.1 hj i hjm
  rw [List.contains_iff_mem.2 hi] at h3
  cases h3
theorem xA{Ls RL:Y0 (Y0 Bl)}{c:Call}(P:PO)(d:Tmp)(f:FuncId)(args:Array Y2)(hd:decide (d<E.n)=true)(hk:E.ks.find? (λx=>x.1==some d)=some (some d,false))(hRL:pickL Ls (Qr [] Ls.length)=RL)(he:ev E.P E.ro (execOp (rd T) ⟨some d, .call c,ty,pos,af,none⟩)=some (.enter f args))(hdo: ∀own nw,Sees E Ls.flatten 0 own nw->DoesI E.P f args E.inv (UM (cellA E own nw) []) [] (pO [] P))(hcon: ∀args view v L U,E.con ⟨some d, .call c,ty,pos,af,none⟩ args view v L U↔pO [] P v L U)(hO: ∀v O,P v O->O=[])(hnice:Ac2 P [])(h: ∀v O,P v O->lx E g ops K r (upd T d v) (RL++O).flatten 0):lx E g ops K (⟨some d, .call c,ty,pos,af,none⟩::r) T Ls.flatten 0:=by
 subst hRL
 refine vN (pO [] P) f args hd hk (by simp) he (λown nw hs=>(hdo own nw hs).mono (λ_ h=>h) (λa v ha=>(gW ha).1)) hcon ⟨λk=> ?_,λv L U hp=>⟨hp.2.1,List.map_eq_nil_iff.1 hp.1⟩⟩ (λv L hp=> ?_)
 ·obtain⟨v,O,h1,_,_⟩:=hnice List.nodup_nil k
  have:=hO v O h1;subst this
  exact⟨v,[],[],⟨Z,List.nodup_nil,[],h1,Sub.nil _⟩,λ_ hx=>(nomatch hx)⟩
 ·obtain⟨_,_,O,h1,_⟩:=hp
  have:=hO v O h1;subst this
  have h2:=h v [] h1
  rw [List.append_nil] at h2
  exact Wh (Sub.of (List.sublist_append_left _ _)) (λi hi=>absurd hi (Nat.not_lt_zero i)) (Nat.zero_le _)
   (Wh (W5 Ls _ (Sh [] Ls.length)) (λi hi=>absurd hi (Nat.not_lt_zero i)) (Nat.zero_le _) h2)
end
section
variable {E:Env} {Ls:Y0 (Y0 Bl)} {is:Y0 Nat}
theorem ng{own:Nat->Y1 (TypeId×Array Y2)}{nw:Nat->Y3}(hok:Nq is Ls.length=true)(hs:Sees E Ls.flatten 0 own nw){n:Nat}(h:n∈(pickL Ls is).flatten.map (·.1)): ∃y,own n=some y:=by
 obtain⟨y,hy,e⟩:=List.mem_map.1 h
 obtain⟨i,hi⟩:=List.getElem?_of_mem ((W5 Ls is hok).mem y hy)
 exact⟨_,e▸(hs.has i _ _ hi).1⟩
theorem Fw{own:Nat->Y1 (TypeId×Array Y2)}{nw:Nat->Y3}(hok:Nq is Ls.length=true)(hs:Sees E Ls.flatten 0 own nw): ∀a v,E.ro a=some v->UM (cellA E own nw) ((pickL Ls is).flatten.map (·.1)) a=some v:=λa v ha=>
 ZO (hs.ro_cell a v ha) (λh=>by
  obtain⟨y,hy⟩:=ng hok hs h
  rw [(hs.ro a v ha).2] at hy;cases hy)
theorem Xg{k:Nat}(hn:(Ls.flatten.map (·.1)).Nodup)(hk:is.contains k=false){x:Bl}(hx:x∈(Ls[k]?).getD []):x.1 ∉ (pickL Ls is).flatten.map (·.1):=λh=>by
 obtain⟨y,hy,e⟩:=List.mem_map.1 h
 obtain⟨i,hi,hy⟩:=PH hy
 have:=PU Ls hn i k y x hy hx e
 subst this
 rw [List.contains_iff_mem.2 hi] at hk;cases hk
theorem Ja{α:Type}{e:TypeId}{en:Enc α}{v:Y2}{xs:Y0 α}{S:Y0 Bl}(k:Nat)(h:Sl e en v xs S)(hS:Ls[k]? =some S)(hk:is.contains k=false){own:Nat->Y1 (TypeId×Array Y2)}{nw:Nat->Y3}(hn:(Ls.flatten.map (·.1)).Nodup)(hs:Sees E Ls.flatten 0 own nw):Rd en (UM (cellA E own nw) ((pickL Ls is).flatten.map (·.1))) v xs:=by
 have hr:=AB h (Al hS (m:=0) (zl (Nat.zero_le _))) own nw hs
 rcases hr with h1|⟨a,cap,rfl,h1,h2,h3⟩
 ·exact .inl h1
 ·refine .inr ⟨a,cap,Z,h1,h2,λj u hj=>ZO (h3 j u hj) ?_⟩
  rcases h with⟨_,_,rfl,_⟩|⟨b,cap',cs,hv,_,_,_,rfl⟩
  ·simp [Enc.all] at hj
  ·simp only [Value.slice.injEq,Option.some.injEq] at hv
   obtain⟨rfl,_⟩:=hv
   exact Xg (x:=(b,e,cs)) hn hk (by rw [hS];simp)
end
theorem AK{E:Env}{g:Y3}{ops:Array Oper}{K:(Nat->Y2)->Y0 Bl->Prop}{r:Y0 Oper}{T:Nat->Y2}{Ls Ls':Y0 (Y0 Bl)}(is:Y0 Nat)(hok:Nq is Ls.length=true)(hL:pickL Ls is=Ls')(h:lx E g ops K r T Ls'.flatten 0):lx E g ops K r T Ls.flatten 0:=by
 subst hL
 exact Wh (W5 Ls is hok) (λi hi=>absurd hi (Nat.not_lt_zero i)) (Nat.zero_le _) h
theorem fc{E:Env}{c:Code}{Q:QL}{t:Nat->Y2}{l:Y0 Bl}{p:Prop}(hp: ∀w,E.inv w->(∀a v,E.ro a=some v->w.cell? a=some v)->p)(h:p->A E c Q t l):A E c Q t l:=
 λw0 a w hm hs=>h (hp w0 (hs.2.iv w0 (Kept.refl _ _ _)) (λq v hq=>by
  obtain⟨h1,h2,h3⟩:=hs.2.ro q v hq
  rw [<-h3];exact(Ps (hs.2.bel.block _ h1 h2)).symm)) w0 a w hm hs
abbrev vI(x:Int):Y2:= .int .i64 x
abbrev vB(b:Y3):Y2:= .bool b
abbrev vT(a:Array Y2):Y2:= .tuple a
abbrev vA(a:Array Y2):Y2:= .agg a
abbrev nS:Y2:= .slice none 0 0
abbrev vP(b k:Nat):Y2:= .pointer (some ⟨b,k,none⟩)
abbrev vS(s:W2):Y2:= .string ⟨s.toArray⟩
theorem Hq{α A B:Type}{m:Y1 α}{r:α}(h:m=some r){Q:α->Y2->Y0 Bl->Y0 Bl->Prop}(_:A)(_:B)(v:Y2)(L U:Y0 Bl):(∀u,m=some u->Q u v L U)↔Q r v L U:=
 ⟨λh'=>h' r h,λh' u e=>by cases q3 (e.symm.trans h);exact h'⟩
section
variable {E:Env} {g:Y3} {ops:Array Oper} {K:(Nat->Y2)->Y0 Bl->Prop} {r:Y0 Oper} {t:Nat->Y2} {l:Y0 Bl} {m:Nat} {d:Tmp} {op:Op} {ty:TypeId} {pos:String} {af:Array Edge}
theorem r_V(v:Y2)(hz:(kd op,decide (d<E.n),ev E.P E.ro (execOp (rd t) ⟨some d,op,ty,pos,af,none⟩))=(.f,true,some (.value v)))(h:lx E g ops K r (upd t d v) l m)(hpl:JA E.ks ⟨some d,op,ty,pos,af,none⟩:=by rfl):lx E g ops K (⟨some d,op,ty,pos,af,none⟩::r) t l m:=
 r_v v (Prod.mk.inj hz).1 (Prod.mk.inj (Prod.mk.inj hz).2).1 Z (Prod.mk.inj (Prod.mk.inj hz).2).2 h hpl
theorem r_W(v:Y2)(hz:(kd op,decide (d<E.n))=(.f,true))(hy:ev E.P E.ro (execOp (rd t) ⟨some d,op,ty,pos,af,none⟩)=some (.value v))(h:lx E g ops K r (upd t d v) l m)(hpl:JA E.ks ⟨some d,op,ty,pos,af,none⟩:=by rfl):lx E g ops K (⟨some d,op,ty,pos,af,none⟩::r) t l m:=
 r_v v (Prod.mk.inj hz).1 (Prod.mk.inj hz).2 Z hy h hpl
theorem r_X(v:Y2){v0:Y2}(hz:(kd op,decide (d<E.n))=(.f,true))(he:v0=v)(hy:ev E.P E.ro (execOp (rd t) ⟨some d,op,ty,pos,af,none⟩)=some (.value v0))(h:lx E g ops K r (upd t d v) l m)(hpl:JA E.ks ⟨some d,op,ty,pos,af,none⟩:=by rfl):lx E g ops K (⟨some d,op,ty,pos,af,none⟩::r) t l m:=
 r_v v (Prod.mk.inj hz).1 (Prod.mk.inj hz).2 he hy h hpl
end
theorem rom{E:Env}{Ls:Y0 (Y0 Bl)}{own:Nat->Y1 (TypeId×Array Y2)}{nw:Nat->Y3}{P:Program}{f:FuncId}{args:Array Y2}{inv:World->Prop}{foot:Y0 Bl}{p:Pst}(is:Y0 Nat)(hok:Nq is Ls.length=true)(hs:Sees E Ls.flatten 0 own nw)(h:DoesI P f args inv E.ro foot p):DoesI P f args inv (UM (cellA E own nw) ((pickL Ls is).flatten.map (·.1))) foot p:=
 DoesI.ro_mono (Fw hok hs) h
section
variable {E:Env} {Q:QL} {t:Nat->Y2} {l:Y0 Bl}
theorem lx_cn{ops:Array Oper}{K:(Nat->Y2)->Y0 Bl->Prop}{r:Y0 Oper}{t:Nat->Y2}{l:Y0 Bl}{m:Nat}(ks:Y0 (Y1 Tmp×Y3))(con:Con)(h:lx {E with ks:=ks,con:=con} false ops K r t l m):lx E false ops K r t l m:=λhn own nw hs=>
 aw (E:=E) ks E.ks con E.con r _ (Ue (λ_ ⟨l,m,h1,h2,h3⟩=>⟨l,m,h1,⟨h2.has,h2.ro,h2.non⟩,h3⟩) r _ (h hn own nw ⟨hs.has,hs.ro,hs.non⟩))
section
variable {ops:Array Oper} {K:(Nat->Y2)->Y0 Bl->Prop} {r:Y0 Oper} {m:Nat}
theorem cA(d:Tmp){p:Pst}(h:lx {E with ks:=[(some d,true)],con:=λ_ _ _=>p} false ops K r t l m):lx E false ops K r t l m:=lx_cn _ _ h
theorem cB(d:Tmp){p:Pst}(h:lx {E with ks:=[(some d,false)],con:=λ_ _ _=>p} false ops K r t l m):lx E false ops K r t l m:=lx_cn _ _ h
theorem cC(d:Tmp)(h:lx {E with ks:=[(some d,true)],con:=conG E.P []} false ops K r t l m):lx E false ops K r t l m:=lx_cn _ _ h
theorem cD(d:Tmp)(h:lx {E with ks:=[(some d,false)],con:=conG E.P []} false ops K r t l m):lx E false ops K r t l m:=lx_cn _ _ h
end
theorem zc{id:Nat}{r:Y0 Oper}{y:Code}(ks:Y0 (Y1 Tmp×Y3))(con:Con)(h:lx {E with ks:=ks,con:=con} false r.toArray (λt l=>A E y Q t l) r t l 0):A E (.seq (.region id r.toArray false) y) Q t l:=
 λw0 a w hm hs=>by
 refine wp_seq (Code.wp_mono (λe a w hk=> ?_) (rp (Q:=gL (λt l=>A E y Q t l) Q) ks con h w0 a w hm hs))
 obtain⟨t',l',hq,hs'⟩:=hk
 cases e with
 |normal=>exact hq w0 a w hm hs'
 |_=>exact⟨t',l',hq,hs'⟩
theorem Ad{id:Nat}{r:Y0 Oper}{y:Code}(h:lx E false r.toArray (λt l=>A E y Q t l) r t l 0):A E (.seq (.region id r.toArray false) y) Q t l:=zc E.ks E.con h
end
def gdR(a:Array Oper)(t:Nat->Y2)(o:Oper):Y1 Y3:=
 match o.guard with
 |none=>some true
 |some (j,w)=>(Ee a t j).map λb=>b==w
theorem Zk{ops:Array Oper}{t:Nat->Y2}{o:Oper}{b:Y3}(h:gdR ops t o=some b):Region.wanted o (Ee ops t)=b:=by
 unfold gdR at h
 unfold Region.wanted
 split at h
 ·rename_i hg;rw [hg];exact q3 h
 ·rename_i j w hg
  rw [hg]
  cases hy:Ee ops t j with
  |none=>rw [hy] at h;cases h
  |some x=>
   rw [hy] at h
   have:=q3 h
   subst this
   cases x<;>cases w<;>simp [hy]
abbrev dsR(E:Env)(o:Oper):Y3:=match o.dst with|some d=>decide (d<E.n)|none=>true
abbrev ckT:=Y1 Y3×Y3×Y1 (Kd×Y1 (Y1 Tmp×Y3)×Y1 Next)
def yT(E:Env)(ops:Array Oper)(t:Nat->Y2)(o:Oper):Y1 Y2->ckT
 |some _=>(gdR ops t o,dsR E o,some (kd o.op,E.ks.find? (Qn o),ev E.P E.ro (execOp (rd t) o)))
 |none=>(gdR ops t o,dsR E o,none)
def xl:Y1 Y2->ckT
 |some v=>(some true,true,some (.f,none,some (.value v)))
 |none=>(some false,true,none)
def chk(E:Env)(ops:Array Oper):Y0 (Y1 Y2)->Y0 Oper->(Nat->Y2)->Y0 ckT
 | [],_,_=> []
 |_::_,[],_=> []
 |x::xs,o::r,t=>yT E ops t o x::chk E ops xs r (putT t o.dst (x.getD undef))
def uV:Y0 (Y1 Y2)->Y0 ckT
 | []=> []
 |x::xs=>xl x::uV xs
def vl:Y0 (Y1 Y2)->Y0 Oper->Y0 Oper
 | [],r=>r
 |_::_,[]=> []
 |_::xs,_::r=>vl xs r
def xq:Y0 (Y1 Y2)->Y0 Oper->(Nat->Y2)->(Nat->Y2)
 | [],_,t=>t
 |_::_,[],t=>t
 |x::xs,o::r,t=>xq xs r (putT t o.dst (x.getD undef))
theorem r_R{E:Env}{g:Y3}{ops:Array Oper}{K:(Nat->Y2)->Y0 Bl->Prop}{l:Y0 Bl}{m:Nat}: ∀(xs:Y0 (Y1 Y2)) {r:Y0 Oper} {t:Nat->Y2}
  (_:chk E ops xs r t=uV xs) (_:lx E g ops K (vl xs r) (xq xs r t) l m),lx E g ops K r t l m
 | [],_,_,_,h=>h
 |x::xs,[],_,hz,_=>by cases hz
 |x::xs,o::r,t,hz,h=>by
  obtain⟨h1,h2⟩:=q6 hz
  have ih:=r_R (g:=g) (K:=K) (l:=l) (m:=m) xs h2 h
  intro hn own nw hs
  cases x with
  |none=>
   obtain⟨hw,h3⟩:=Prod.mk.inj h1
   obtain⟨hd,_⟩:=Prod.mk.inj h3
   refine IJ hd (e:= .val undef) (by unfold Aa9;rw [V9 (by rw [Zk hw];decide)]) (λs' hs2=> ?_)
   simp only [Do] at hs2;subst hs2;exact ih hn own nw hs
  |some v=>
   obtain⟨hw,h3⟩:=Prod.mk.inj h1
   obtain⟨hd,h4⟩:=Prod.mk.inj h3
   obtain⟨hk,h5⟩:=Prod.mk.inj (q3 h4)
   obtain⟨hp,hy⟩:=Prod.mk.inj h5
   refine IJ hd (e:= .val v) (by unfold Aa9;rw [V8 (Zk hw)];simp only [Of hp hk (by decide)];exact⟨v, .inl hy,Z⟩) (λs' hs2=> ?_)
   simp only [Do] at hs2;subst hs2;exact ih hn own nw hs
end Go.Eng
