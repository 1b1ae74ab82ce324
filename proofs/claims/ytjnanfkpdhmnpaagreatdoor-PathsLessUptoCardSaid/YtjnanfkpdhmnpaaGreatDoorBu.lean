import Derived.Test.YtjnanfkpdhmnpaaGreatDoorIt
import Derived.Lib.UnsafeStr
import Derived.Lib.MakeNoZero
import Derived.Lib.Builder
import Derived.Laws.Externs
import Derived.Laws.CopyRow
import Derived.Laws.IdiomCopy
import Derived.Scope
namespace Go.Eng
open Go Go.RowKit
theorem ct{P:Program}{f:FuncId}{args:Array Y2}{inv:World->Prop}{ro:Addr->Y1 Y2}{PP:PO}(w:World)(hi:inv w)(hro: ∀a v,ro a=some v->w.cell? a=some v)(h:DoesI P f args inv ro [] (pO [] PP)): ∃v O,PP v O:=by
 obtain⟨e,w',fr,⟨v,L,U,_,_,_,_,O,hp,_⟩,_⟩:=h w hi (λa v ha=>⟨hro a v ha,by simp⟩) (λ_ hx=>(nomatch hx)) List.nodup_nil []
 exact⟨v,O,hp⟩
theorem Wc{α:Type}{En:Enc α}{ro:Addr->Y1 Y2}{xs:Y0 α}{P:Y2->PO}{R:Y0 Bl}(he: ∃s,Rd En ro s xs)(h: ∀s,Ac2 (P s) R):Ac2 (oR En ro xs P) R:=λhn k=>by
 obtain⟨s,hs⟩:=he
 obtain⟨v,O,h1,h2⟩:=h s hn k
 exact⟨v,O,⟨s,hs,h1⟩,h2⟩
theorem wx{α:Type}{En:QT α}{ro:Addr->Y1 Y2}{xs:Y0 α}{P:Y2->PO}{R:Y0 Bl}(he: ∃s,RdN En ro s xs)(h: ∀s,Ac2 (P s) R):Ac2 (oRN En ro xs P) R:=λhn k=>by
 obtain⟨s,hs⟩:=he
 obtain⟨v,O,h1,h2⟩:=h s hn k
 exact⟨v,O,⟨s,hs,h1⟩,h2⟩
def pUp(p:Y2->Y0 Bl->Prop):Pst:=λv L U=>L=[]/\p v U
theorem PutU.part{A S S' B:Y0 Bl}(hn:((A++(S++B)).map (·.1)).Nodup)(hs:S'.map (·.1)=S.map (·.1)):PutU (A++(S++B)) S' (A++(S'++B)):=by
 have hlen:S'.length=S.length:=by have:=congrArg List.length hs;simpa using this
 rw [List.map_append,List.map_append,List.nodup_append] at hn
 obtain⟨_,hn2,hA⟩:=hn
 rw [List.nodup_append] at hn2
 obtain⟨_,_,hSB⟩:=hn2
 refine⟨by simp [hs],λi b x hi=> ?_⟩
 rw [List.getElem?_append] at hi
 split at hi
 ·rename_i hlt
  refine .inr ⟨λy hy e=> ?_,by rw [List.getElem?_append_left hlt];exact hi⟩
  have h1:y.1∈S.map (·.1):=by rw [<-hs];exact List.mem_map.2 ⟨y,hy,Z⟩
  exact hA b (List.mem_map.2 ⟨_,List.mem_of_getElem? hi,Z⟩) y.1 (List.mem_append_left _ h1) e.symm
 ·rename_i hge
  rw [List.getElem?_append] at hi
  split at hi
  ·exact .inl (List.mem_of_getElem? hi)
  ·rename_i hge2
   refine .inr ⟨λy hy e=> ?_, ?_⟩
   ·have h1:y.1∈S.map (·.1):=by rw [<-hs];exact List.mem_map.2 ⟨y,hy,Z⟩
    exact hSB y.1 h1 b (List.mem_map.2 ⟨_,List.mem_of_getElem? hi,Z⟩) e
   ·rw [List.getElem?_append_right (by omega),List.getElem?_append_right (by omega),<-hlen]
    exact hi
section
variable {E:Env} {g:Y3} {ops:Array Oper} {K:(Nat->Y2)->Y0 Bl->Prop} {r:Y0 Oper} {T:Nat->Y2} {m:Nat} {d:Tmp} {ty:TypeId} {pos:String} {af:Array Edge}
theorem rO{Ls:Y0 (Y0 Bl)}{op:Op}(p:Y2->Y0 Bl->Prop)(k:Nat){S:Y0 Bl}(hd:decide (d<E.n)=true)(hk:E.ks.find? (λx=>x.1==some d)=some (some d,true))(hsel:isSel op=false)(hS:Ls[k]? =some S)(hm:decide (m<=(Ls.take k).flatten.length)=true)(hw: ∃v S',p v S')(hnm: ∀v S',p v S'->S'.map (·.1)=S.map (·.1))(hrun: ∀own nw w,Sees E Ls.flatten m own nw->(∀a v,cellA E own nw a=some v->w.cell? a=some v)->(∀x∈S,Holds w x.1 x.2.1 x.2.2)-> ∃v w' S',(execOp (rd T) ⟨some d,op,ty,pos,af,none⟩).run E.P w= .ok (.value v) w'/\ExtW w w' [] S'/\p v S')(hcon: ∀args view v L U,E.con ⟨some d,op,ty,pos,af,none⟩ args view v L U↔pUp p v L U)(h: ∀v S',p v S'->lx E g ops K r (upd T d v) (Ls.set k S').flatten m):lx E g ops K (⟨some d,op,ty,pos,af,none⟩::r) T Ls.flatten m:=by
 have hm':=zj hm
 obtain⟨hf1,hf2⟩:=Oq hS
 refine r_g true (pUp p) hd hk hsel (zl (by rw [hf1,zf];omega)) (λhnd own nw hse=> ?_) (λv L U hp=> ?_)
 ·have hco:Ab6 E ⟨T,own,nw⟩ ⟨some d,op,ty,pos,af,none⟩=pUp p:=by
   funext v L U;exact propext (hcon _ _ v L U)
  have hSn:(S.map (·.1)).Nodup:=by
   rw [hf1,List.map_append,List.map_append,List.nodup_append] at hnd
   exact(List.nodup_append.1 hnd.2.1).1
  have hblk: ∀x∈S,own x.1=some x.2/\nw x.1=false:=λx hx=>by
   obtain⟨i,him,hi⟩:=Al hS hm x hx
   obtain⟨g1,g2⟩:=hse.has i _ _ hi
   exact⟨g1,by rw [g2];simp;omega⟩
  refine⟨⟨λ_ k=> ?_,λv L U hc=> ?_,λv L U hc x hx=> ?_,λh=>(nomatch h),λw _ hcell hheap=> ?_⟩,λv L U hc=>by rw [hco] at hc;exact hc⟩
  ·rw [hco];obtain⟨v,S',hp⟩:=hw
   exact⟨v,[],S',⟨Z,hp⟩,λx hx=>(nomatch hx)⟩
  ·rw [hco] at hc;obtain⟨rfl,hc⟩:=hc
   exact⟨List.nodup_nil,by rw [hnm _ _ hc];exact hSn⟩
  ·rw [hco] at hc;obtain⟨rfl,hc⟩:=hc
   have:x.1∈S.map (·.1):=by rw [<-hnm _ _ hc];exact List.mem_map.2 ⟨x,hx,Z⟩
   obtain⟨y,hy,e⟩:=List.mem_map.1 this
   rw [<-e]
   exact⟨⟨_,(hblk y hy).1⟩,(hblk y hy).2⟩
  ·rw [hco]
   obtain⟨v,w',S',h1,h2,h3⟩:=hrun own nw w hse hcell (λx hx=>hheap x.1 x.2 (hblk x hx).1 (hblk x hx).2)
   exact .inl ⟨v,w',[],S',h1,h2,Z,h3⟩
 ·obtain⟨rfl,hp⟩:=hp
  refine⟨(Ls.set k U).flatten,λhnd=> ?_,by rw [List.append_nil];exact h v U hp⟩
  rw [hf1,hf2] at*
  exact PutU.part hnd (hnm _ _ hp)
theorem xB{l:Y0 Bl}{op:Op}(p:Pst)(hd:decide (d<E.n)=true)(hk:E.ks.find? (λx=>x.1==some d)=some (some d,false))(hsel:isSel op=false)(hm:decide (m<=l.length)=true)(hrun: ∀own nw w,Sees E l m own nw->(∀a v,cellA E own nw a=some v->w.cell? a=some v)->(∀i b T cs,m<=i->l[i]? =some (b,T,cs)->Holds w b T cs)->GenRun E.P (rd T) ⟨some d,op,ty,pos,af,none⟩ w p)(hcon: ∀args view v L U,E.con ⟨some d,op,ty,pos,af,none⟩ args view v L U↔p v L U)(hn:gF p)(h: ∀v L,p v L []->lx E g ops K r (upd T d v) (l++L) m):lx E g ops K (⟨some d,op,ty,pos,af,none⟩::r) T l m:=by
 refine r_g false p hd hk hsel hm (λhnd own nw hse=> ?_) (λv L U hp=> ?_)
 ·have hco:Ab6 E ⟨T,own,nw⟩ ⟨some d,op,ty,pos,af,none⟩=p:=by
   funext v L U;exact propext (hcon _ _ v L U)
  refine⟨⟨?_, ?_, ?_, ?_, ?_⟩, ?_⟩
  ·rw [hco];exact λ_=>hn.wit
  ·rw [hco];exact λv L U hp=>⟨(hn.nod v L U hp).1,by rw [(hn.nod v L U hp).2];exact List.nodup_nil⟩
  ·rw [hco];intro v L U hp x hx;rw [(hn.nod v L U hp).2] at hx;cases hx
  ·rw [hco];exact λ_ v L U hp=>(hn.nod v L U hp).2
  ·rw [hco]
   intro w _ hcell hheap
   refine hrun own nw w hse hcell (λi b T cs him hi=> ?_)
   obtain⟨g1,g2⟩:=hse.has i b (T,cs) hi
   exact hheap b (T,cs) g1 (by show nw b=false;rw [g2];simp;omega)
  ·rw [hco];exact λv L U hp=>hp
 ·obtain⟨_,rfl⟩:=hn.nod v L U hp
  exact⟨l,λ_=>PutU.nil _,h v L hp⟩
end
theorem ExtW.same_of{w:World}{S:Y0 Bl}(h: ∀x∈S,Holds w x.1 x.2.1 x.2.2):ExtW w w [] S:=
 ⟨Z,Z,Z,Nat.le_refl _,λ_ _ _=>Z,h,λ_ h=>(nomatch h),Nat.le_refl _⟩
theorem ZP{P:Program}{ρ:Operand->Y2}{o:Oper}{f:FuncId}{fn:Func}{args:Array Y2}{e:Array Y2->Sem Y2}(hx:execOp ρ o=callFunc f args)(hf:P.funcs[f]? =some fn)(hname:(fn.name== "runtime.NumGoroutine")=false)(hb:fn.body.isNone=true)(hn:Extern.findNext fn=none)(he:Extern.find fn=some e){w w':World}{v:Y2}(hr:(e args).run P w= .ok v w'):(execOp ρ o).run P w= .ok (.value v) w':=by
 rw [hx,run_callFunc_extern hf hname hb hn he,hr];rfl
theorem bm{t:Nat->Y2}{d:Y1 Tmp}{f:FuncId}{xs:Y0 Operand}{ts:Array TypeId}{ty:TypeId}{pos:String}{af:Array Edge}{g:Y1 (Nat×Y3)}{as:Y0 Y2}(ha:xs.map (rd t)=as):
  execOp (rd t) ⟨d, .call ⟨.value (.func f),xs.toArray,ts⟩,ty,pos,af,g⟩=callFunc f as.toArray:=by
 subst ha
 unfold execOp
 simp [resolve,Deferred.ofValue,rd,invoke]
def uY(b:Nat):Y3->Y2
 |true=> .pointer (some ⟨b,0,none⟩)
 |false=> .pointer none
section
variable {P:Program} {c:Addr->Y1 Y2} {ρ:Operand->Y2} {d:Y1 Tmp} {t t' e:TypeId} {x x' y:Operand} {ty:TypeId} {pos:String} {af:Array Edge} {g:Y1 (Nat×Y3)} {i:TypeInfo} {b:Nat} {f:Y3}
theorem RP{x:Int}{k:IntKind}{z:Int}(n:Nat)(hx:ρ x'= .int .i32 x)(hy:ρ y= .int k z)(hz:z=(n:Int):=by rfl)(hn:decide (n<32)=true:=by rfl):ev P c (execOp ρ ⟨d, .binOp .shr t x' y t',ty,pos,af,g⟩)=some (.value (.int .i32 (FI x n))):=by
 refine GV (s:=do eqGuard .shr t x' y (ρ x') (ρ y);binOp .shr t (ρ x') (ρ y)) ?_
 subst hz
 have hn:=zj hn
 rw [hx,hy]
 have h1: ¬((n:Int)<0):=by omega
 have h2:ev P c (eqGuard .shr t x' y (.int .i32 x) (.int k (n:Int)))=some ():=Z
 have h3:min (Int.toNat (n:Int)) 32=n:=by rw [q4];omega
 have h4:min n 64=n:=by omega
 simp only [Be,h2,q0,binOp,Op.shift,V9 h1,Bv,IntKind.bits,h3,FI,h4]
end
section
variable {E:Env} {g:Y3} {ops:Array Oper} {K:(Nat->Y2)->Y0 Bl->Prop} {r:Y0 Oper} {T:Nat->Y2} {m:Nat} {d:Tmp} {ty:TypeId} {pos:String} {af:Array Edge}
theorem jR{Ls:Y0 (Y0 Bl)}{op:Op}(v:Y2)(k:Nat){S:Y0 Bl}(hd:decide (d<E.n)=true)(hk:E.ks.find? (λx=>x.1==some d)=some (some d,true))(hsel:isSel op=false)(hS:Ls[k]? =some S)(hm:decide (m<=(Ls.take k).flatten.length)=true)(hrun: ∀w,(∀x∈S,Holds w x.1 x.2.1 x.2.2)->(execOp (rd T) ⟨some d,op,ty,pos,af,none⟩).run E.P w= .ok (.value v) w)(hcon: ∀args view v' L U,E.con ⟨some d,op,ty,pos,af,none⟩ args view v' L U↔pUp (λv' U=>v'=v/\U=S) v' L U)(h:lx E g ops K r (upd T d v) Ls.flatten m):lx E g ops K (⟨some d,op,ty,pos,af,none⟩::r) T Ls.flatten m:=by
 refine rO (λv' U=>v'=v/\U=S) k hd hk hsel hS hm ⟨v,S,Z,Z⟩ (λ_ _ h=>by rw [h.2]) (λown nw w hse hcell hh=>⟨v,w,S,hrun w hh,ExtW.same_of hh,Z,Z⟩) hcon (λv' S' hp=> ?_)
 obtain⟨rfl,rfl⟩:=hp
 obtain⟨hlt,he⟩:=List.getElem?_eq_some_iff.1 hS
 rw [<-he,List.set_getElem_self hlt]
 exact h
end
section
variable {P:Program} {ρ:Operand->Y2} {d:Y1 Tmp} {x:Operand} {ty:TypeId} {pos:String} {af:Array Edge} {g:Y1 (Nat×Y3)} {S:Y0 Bl}
theorem gX{src dst t:TypeId}{j:TypeInfo}{b:Nat}{TB:TypeId}{cs:Array Y2}(hx:ρ x= .pointer (some ⟨b,0,none⟩))(hs:P.underlying src=some (.pointer t))(hd:P.underlying dst=some .unsafePointer)(ht:P.info? t=some j)(hj:decide (j.size=0)=false)(hT:decide (TB<OBJ)=true)(h0:decide (0<cs.size)=true)(hm:(b,TB,cs)∈S)(w:World)(h: ∀x∈S,Holds w x.1 x.2.1 x.2.2):(execOp ρ ⟨d, .convert src dst x,ty,pos,af,g⟩).run P w= .ok (.value (.pointer (some ⟨b,0,none⟩))) w:=by
 have e:execOp ρ ⟨d, .convert src dst x,ty,pos,af,g⟩=(do pure (Next.value (<-convert src dst (ρ x))):Sem Next):=Z
 obtain⟨fr,hh,_⟩:=(h _ hm).cells hT
 have hsh:w.shape? b=some (TB,cs.size):=by unfold World.shape?;rw [hh]
 rw [e,hx,Sem.run_bind,Go.Lib.run_to_unsafe w ⟨b,0,none⟩ hs hd ht (of_decide_eq_false hj) hsh (zj h0)]
 rfl
theorem Za{src dst:TypeId}{j:TypeInfo}{b:Nat}{TB:TypeId}{cs:Array Y2}(n:Nat)(hx:ρ x= .pointer (some ⟨b,0,none⟩))(hs:P.underlying src=some .unsafePointer)(hd:P.underlying dst=some (.pointer TB))(ht:P.info? TB=some j)(hT:decide (TB<OBJ)=true)(hm:(b,TB,cs)∈S)(hsz:cs.size=n)(hl:liesAt P P.depth TB (n / P.cellsOf TB) 0 TB 1=true)(w:World)(h: ∀x∈S,Holds w x.1 x.2.1 x.2.2):(execOp ρ ⟨d, .convert src dst x,ty,pos,af,g⟩).run P w= .ok (.value (.pointer (some ⟨b,0,none⟩))) w:=by
 have e:execOp ρ ⟨d, .convert src dst x,ty,pos,af,g⟩=(do pure (Next.value (<-convert src dst (ρ x))):Sem Next):=Z
 subst hsz
 obtain⟨fr,hh,_⟩:=(h _ hm).cells hT
 have hsh:w.shape? b=some (TB,cs.size):=by unfold World.shape?;rw [hh]
 rw [e,hx,Sem.run_bind,Go.Lib.run_from_unsafe w ⟨b,0,none⟩ hs hd ht hsh hl]
 rfl
end
theorem Xd: ∀(n t:Nat) (acc:Array Y2) (ys:W2),acc.toList=encY.all ys-> ∃xs:W2,xs.length=ys.length+n/\(Extern.BytealgMakeNoZero.digits n t acc).toList=encY.all xs
 |0,_,acc,ys,h=>⟨ys,Z,h⟩
 |n+1,t,acc,ys,h=>by
  obtain⟨xs,h1,h2⟩:=Xd n (t / 256) (acc.push (.int .u8 (Int.ofNat (t%256)))) (ys++ [UInt8.ofNat (t%256)]) (by
   rw [Array.toList_push,h,Enc.all_append]
   have:(UInt8.ofNat (t%256)).toNat=t%256:=by rw [UInt8.toNat_ofNat'];omega
   show _=_++ [Value.int .u8 (((UInt8.ofNat (t%256)).toNat:Nat):Int)]
   rw [this];rfl)
  exact⟨xs,by rw [h1,zf,List.length_singleton];omega,h2⟩
def rS(e:TypeId)(n:Nat):Pst:=λv L U=> ∃xs:W2,xs.length=n/\Sl e Ab8 v xs L/\U=[]
theorem ml(e:TypeId)(n:Nat):gF (rS e n):=
 ⟨λk=>by
  obtain⟨v,S,h1,h2⟩:=Sl.wit e Ab8 (List.replicate n (0:UInt8)) k
  exact⟨v,S,[],⟨_,zo,h1,Z⟩,h2⟩,λv L U ⟨xs,_,h2,h3⟩=>⟨h2.nod,h3⟩⟩
section
variable {E:Env} {g:Y3} {ops:Array Oper} {K:(Nat->Y2)->Y0 Bl->Prop} {r:Y0 Oper} {T:Nat->Y2} {m:Nat} {d:Tmp} {ty:TypeId} {pos:String} {af:Array Edge}
theorem xy{Ls:Y0 (Y0 Bl)}{c:Call}(e:TypeId)(n:Int){t:TypeId}{ps:Array TypeId}{f:FuncId}{fn:Func}(hd:decide (d<E.n)=true)(hk:E.ks.find? (λx=>x.1==some d)=some (some d,false))(hm:decide (m<=Ls.flatten.length)=true)(hx:execOp (rd T) ⟨some d, .call c,ty,pos,af,none⟩=callFunc f #[.int .i64 n])(hf:E.P.funcs[f]? =some fn)(hname:(fn.name== "runtime.NumGoroutine")=false)(hb:fn.body.isNone=true)(hn:Extern.findNext fn=none)(he:Extern.find fn=some (Extern.BytealgMakeNoZero.makeNoZero ps #[t]))(hu:E.P.underlying t=some (.slice e))(hnn:0<=n/\n<=140737488355328)(hcon: ∀args view v L U,E.con ⟨some d, .call c,ty,pos,af,none⟩ args view v L U↔rS e n.toNat v L U)(h: ∀sv S xs,xs.length=n.toNat->Sl e Ab8 sv xs S->lx E g ops K r (upd T d sv) (Ls++ [S]).flatten m)(hT:decide (e<OBJ)=true:=by rfl):lx E g ops K (⟨some d, .call c,ty,pos,af,none⟩::r) T Ls.flatten m:=by
 obtain⟨k,rfl⟩: ∃k:Nat,n=(k:Int):=⟨n.toNat,by omega⟩
 simp only [q4] at h hcon
 refine vM (rS e k) hd hk Z hm (λown nw w hse hcell=> ?_) hcon (ml e k) (λv L hp=> ?_)
 ·have hdig: ∃(cap q:Nat),(Extern.BytealgMakeNoZero.makeNoZero ps #[t] #[.int .i64 k]).run E.P w= .ok (.slice (some ⟨w.heap.size,0,none⟩) k cap) (w.drew.drew.alloc (.cells (Extern.BytealgMakeNoZero.digits cap q #[]) e))/\k<=cap:=by
   refine⟨grownCap w k 0 e,((Question.extern "internal/bytealg.MakeNoZero.bytes" 0).cut (w.tape (w.drawn+1) (.extern "internal/bytealg.MakeNoZero.bytes" 0))), ?_,by simpa using grownCap_ge w k 0 e⟩
   have hdef:Extern.BytealgMakeNoZero.makeNoZero ps #[t] #[.int .i64 k]=
     (do
      let .slice elem<-underlying t|stuck "bytealg.MakeNoZero: slice type expected"
      if(k:Int)<0||(k:Int)>2^48 then runtimePanic (.error "makeslice: len out of range")
      let cap<-choose (.appendCap (k:Int).toNat 0 elem)
      askRoom cap
      let bytes<-choose (.extern "internal/bytealg.MakeNoZero.bytes" 0)
      let a<-newRow elem (Extern.BytealgMakeNoZero.digits cap bytes #[])
      pure (.slice (some a) (k:Int).toNat cap)):=Z
   rw [hdef]
   have h1: ¬(k:Int)<0:=by omega
   have h2: ¬(281474976710656:Int)<(k:Int):=by omega
   simp [run_underlying hu,h1,h2,Question.forced,newRow,grownCap]
  obtain⟨cap,q,hrun,hle⟩:=hdig
  obtain⟨ys,hy1,hy2⟩:=Xd cap q #[] [] Z
  have hyl:ys.length=cap:=by rw [hy1];simp
  have hcs:(Extern.BytealgMakeNoZero.digits cap q #[]).size=cap:=by rw [<-Array.length_toList,hy2,Enc.all_len,hyl];exact Nat.mul_one _
  have htk:(ys.take k).length=k:=by rw [q8];omega
  refine .inl ⟨_,_,[(w.heap.size,e,Extern.BytealgMakeNoZero.digits cap q #[])],[],ZP hx hf hname hb hn he hrun,⟨Z,Z,Z,by simp,λk hk _=>heap_alloc_old w.drew.drew _ k hk,λ_ h=>(nomatch h),λy hy=> ?_,Nat.le_succ_of_le (Nat.le_succ _)⟩,ys.take k,htk, .inr ⟨w.heap.size,cap,_,by rw [htk],by rw [htk];exact hle, ?_, ?_,Z⟩,Z⟩
  ·simp only [zi] at hy;subst hy
   exact⟨Nat.le_refl _, .of hT (heap_alloc_new w.drew.drew _)⟩
  ·rw [hcs];exact(Nat.mul_one _).symm
  ·rw [hy2,htk]
   show List.take (k*1) _=encY.all (ys.take k)
   rw [Enc.all_take];rfl
 ·obtain⟨xs,h1,hS,_⟩:=hp
  have:=h v L xs h1 hS
  rw [List.flatten_append] at this
  simpa using this
end
def Pb(S:Y0 Bl):Y0 Bl:=S.map λx=>(x.1,Xe, #[])
theorem dE(S:Y0 Bl):(Pb S).map (·.1)=S.map (·.1):=by unfold Pb;rw [List.map_map];rfl
theorem deadB_holds{S:Y0 Bl}{w:World}(h: ∀x∈S,x.1<w.heap.size): ∀x∈Pb S,Holds w x.1 x.2.1 x.2.2:=λx hx=>by
 obtain⟨y,hy,rfl⟩:=List.mem_map.1 hx
 exact .dead (h y hy)
def eX(s v:Y2):Prop:=(s= .slice none 0 0/\v= .pointer none)\/ ∃g n cap,s= .slice (some ⟨g,0,none⟩) n cap/\((cap≠0/\v= .pointer (some ⟨g,0,none⟩))\/cap=0/\ ∃q,v= .pointer q)
theorem dn(w:World)(a:Addr)(n:Nat){k:Nat}(h:k≠a.block):(w.freeze a n).heap[k]? =w.heap[k]?:=by
 unfold World.freeze
 split
 ·rfl
 ·simp only [Array.getElem?_modify]
  rw [V9 (λe=>h e.symm)]
theorem UC(w:World)(a:Addr)(n:Nat):(w.freeze a n).heap.size=w.heap.size:=by
 unfold World.freeze
 split
 ·rfl
 ·simp
section
variable {E:Env} {g:Y3} {ops:Array Oper} {K:(Nat->Y2)->Y0 Bl->Prop} {r:Y0 Oper} {T:Nat->Y2} {m:Nat} {d:Tmp} {ty:TypeId} {pos:String} {af:Array Edge}
theorem uZ{Ls:Y0 (Y0 Bl)}{ts:Array TypeId}{x:Operand}(k:Nat){S:Y0 Bl}{e:TypeId}{s:Y2}{xs:W2}(hd:decide (d<E.n)=true)(hk:E.ks.find? (λx=>x.1==some d)=some (some d,false))(hS:Ls[k]? =some S)(hm:decide (m<=(Ls.take k).flatten.length)=true)(hx:rd T x=s)(hSl:Sl e Ab8 s xs S)(hp:E.P.underlying ty=some (.pointer e))(hT:decide (e<OBJ)=true)(hcon: ∀args view v L U,E.con ⟨some d, .call ⟨.builtin .unsafeSliceData, #[x],ts⟩,ty,pos,af,none⟩ args view v L U↔(λv L U=>eX s v/\L=[]/\U=[]:Pst) v L U)(h: ∀v,eX s v->lx E g ops K r (upd T d v) Ls.flatten m):lx E g ops K (⟨some d, .call ⟨.builtin .unsafeSliceData, #[x],ts⟩,ty,pos,af,none⟩::r) T Ls.flatten m:=by
 have hex: ∀v w w',(Builtin.unsafeSliceData_ ts ty #[s]).run E.P w= .ok v w'->(execOp (rd T) ⟨some d, .call ⟨.builtin .unsafeSliceData, #[x],ts⟩,ty,pos,af,none⟩).run E.P w= .ok (.value v) w':=λv w w' hv=>by
  unfold execOp
  simp only [resolve,invoke,builtin,Sem.run_bind,Sem.run_pure,Result.andThen_ok,List.map_toArray,List.map_cons,List.map_nil,hx,hv]
 have hwit: ∃v,eX s v:=by
  rcases hSl with⟨⟨_|a,ha⟩,rfl,_,_⟩|⟨b,cap,cs,rfl,_⟩
  ·exact⟨_, .inl ⟨Z,Z⟩⟩
  ·rcases ha with ha|ha
   ·cases ha
   ·exact ha.elim
  ·by_cases hc:cap=0
   ·exact⟨_, .inr ⟨b,_,cap,Z, .inr ⟨hc,none,Z⟩⟩⟩
   ·exact⟨_, .inr ⟨b,_,cap,Z, .inl ⟨hc,Z⟩⟩⟩
 obtain⟨hf1,_⟩:=Oq hS
 refine xB (λv L U=>eX s v/\L=[]/\U=[]) hd hk Z (zl (by have:=zj hm;rw [hf1,zf];omega)) (λown nw w hse hcell hh=> ?_) hcon ⟨λk=>by obtain⟨v,hv⟩:=hwit;exact⟨v,[],[],⟨hv,Z,Z⟩,λ_ h=>(nomatch h)⟩,λv L U hp=>⟨by rw [hp.2.1];exact List.nodup_nil,hp.2.2⟩⟩ (λv L hp=> ?_)
 ·have hhs: ∀x∈S,Holds w x.1 x.2.1 x.2.2:=λx hx=>by
   obtain⟨i,him,hi⟩:=Al hS hm x hx
   exact hh i x.1 x.2.1 x.2.2 him hi
  rcases hSl with⟨⟨_|a,ha⟩,rfl,_,_⟩|⟨b,cap,cs,rfl,_,_,_,rfl⟩
  ·exact .inl ⟨_,w,[],[],hex _ _ _ (Go.Lib.run_unsafeSliceData_nil w ts ty 0 0),⟨Z,Z,Z,Nat.le_refl _,λ_ _ _=>Z,λ_ h=>(nomatch h),λ_ h=>(nomatch h),Nat.le_refl _⟩, .inl ⟨Z,Z⟩,Z,Z⟩
  ·rcases ha with ha|ha
   ·cases ha
   ·exact ha.elim
  ·by_cases hc:cap=0
   ·subst hc
    obtain⟨fr,hb,_⟩:=(hhs _ (List.mem_singleton.2 Z)).cells hT
    have hsh:w.shape? b=some (e,cs.size):=by unfold World.shape?;rw [hb]
    exact .inl ⟨_,w.alloc (.view ⟨b,0,none⟩ e),[],[],hex _ _ _ (Go.Lib.run_unsafeSliceData_zero w ts ty e hp ⟨b,0,none⟩ _ _ hsh),⟨Z,Z,Z,by simp,λk hk _=>heap_alloc_old w _ k hk,λ_ h=>(nomatch h),λ_ h=>(nomatch h),Nat.le_refl _⟩, .inr ⟨b,_,0,Z, .inr ⟨Z,_,Z⟩⟩,Z,Z⟩
   ·exact .inl ⟨_,w,[],[],hex _ _ _ (Go.Lib.run_unsafeSliceData_row w ts ty ⟨b,0,none⟩ _ cap hc),⟨Z,Z,Z,Nat.le_refl _,λ_ _ _=>Z,λ_ h=>(nomatch h),λ_ h=>(nomatch h),Nat.le_refl _⟩, .inr ⟨b,_,cap,Z, .inl ⟨hc,Z⟩⟩,Z,Z⟩
 ·obtain⟨hv,rfl,_⟩:=hp
  rw [List.append_nil]
  exact h v hv
theorem lK{Ls:Y0 (Y0 Bl)}{pt it:TypeId}{x y:Operand}(k:Nat){S:Y0 Bl}{e:TypeId}{s p:Y2}{xs:W2}(hd:decide (d<E.n)=true)(hk:E.ks.find? (λx=>x.1==some d)=some (some d,true))(hS:Ls[k]? =some S)(hm:decide (m<=(Ls.take k).flatten.length)=true)(hx:rd T x=p)(hy:rd T y= .int .i64 ((xs.length:Nat):Int))(hSl:Sl e Ab8 s xs S)(hp:eX s p)(hpt:E.P.underlying pt=some (.pointer e))(hc:E.P.cellsOf e=1)(hT:decide (e<OBJ)=true)(h63:xs.length<=140737488355328)(hcon: ∀args view v L U,E.con ⟨some d, .call ⟨.builtin .unsafeString, #[x,y], #[pt,it]⟩,ty,pos,af,none⟩ args view v L U↔pUp (λv U=>v= .string ⟨xs.toArray⟩/\U=Pb S) v L U)(h:lx E g ops K r (upd T d (.string ⟨xs.toArray⟩)) (Ls.set k (Pb S)).flatten m):lx E g ops K (⟨some d, .call ⟨.builtin .unsafeString, #[x,y], #[pt,it]⟩,ty,pos,af,none⟩::r) T Ls.flatten m:=by
 have hex: ∀v w w',(Builtin.unsafeString_ #[pt,it] ty #[p, .int .i64 ((xs.length:Nat):Int)]).run E.P w= .ok v w'->(execOp (rd T) ⟨some d, .call ⟨.builtin .unsafeString, #[x,y], #[pt,it]⟩,ty,pos,af,none⟩).run E.P w= .ok (.value v) w':=λv w w' hv=>by
  unfold execOp
  simp only [resolve,invoke,builtin,Sem.run_bind,Sem.run_pure,Result.andThen_ok,List.map_toArray,List.map_cons,List.map_nil,hx,hy,hv]
 refine rO (λv U=>v= .string ⟨xs.toArray⟩/\U=Pb S) k hd hk Z hS hm ⟨_,_,Z,Z⟩ (λ_ _ h=>by rw [h.2,dE]) (λown nw w hse hcell hh=> ?_) hcon (λv S' hp=>by obtain⟨rfl,rfl⟩:=hp;exact h)
 have hr:Rd Ab8 (cellA E own nw) s xs:=AB hSl (Al hS hm) own nw hse
 by_cases h0:xs=[]
 ·subst h0
  obtain⟨q,rfl⟩: ∃q,p= .pointer q:=by
   rcases hp with⟨_,rfl⟩|⟨g,n,cap,_,⟨_,rfl⟩|⟨_,q,rfl⟩⟩
   ·exact⟨_,Z⟩
   ·exact⟨_,Z⟩
   ·exact⟨_,Z⟩
  exact⟨_,w,Pb S,hex _ _ _ (Go.Lib.run_unsafeString_none w pt it ty q),⟨Z,Z,Z,Nat.le_refl _,λ_ _ _=>Z,deadB_holds (λx hx=>(hh x hx).lt),λ_ h=>(nomatch h),Nat.le_refl _⟩,Z,Z⟩
 ·have hpos:0<xs.length:=List.length_pos_iff.2 h0
  rcases hSl with⟨a,_,h1,_⟩|⟨b,cap,cs,rfl,hle,hcs,htk,rfl⟩
  ·exact absurd h1 h0
  ·have hp':p= .pointer (some ⟨b,0,none⟩):=by
    rcases hp with⟨h1,_⟩|⟨g,n,cap',h1,h2⟩
    ·cases h1
    ·simp only [Value.slice.injEq,Option.some.injEq,Addr.mk.injEq,and_true] at h1
     obtain⟨rfl,rfl,rfl⟩:=h1
     rcases h2 with⟨_,rfl⟩|⟨rfl,_⟩
     ·rfl
     ·omega
   subst hp'
   obtain⟨fr,hb,_⟩:=(hh _ (List.mem_singleton.2 Z)).cells hT
   have hsh:w.shape? b=some (e,cs.size):=by unfold World.shape?;rw [hb]
   have hcs':cs.size=cap:=by rw [hcs];exact Nat.mul_one _
   refine⟨_,w.freeze ⟨b,0,none⟩ xs.length,_,hex _ _ _ (Go.Lib.run_unsafeString_row w pt it ty e hpt hc b cs.size hsh xs h0 (by rw [hcs'];exact hle) (by omega) (λj x hj=> ?_)),⟨?_, ?_, ?_,by rw [UC];exact Nat.le_refl _,λk hk hne=>dn w _ _ (λe=>hne (b,Xe, #[]) (by simp [Pb]) e.symm),deadB_holds (λx hx=>by rw [UC];exact(hh x hx).lt),λ_ h=>(nomatch h),(by unfold World.freeze;split<;>exact Nat.le_refl _)⟩,Z,Z⟩
   ·rcases hr with⟨h1,_⟩|⟨a,cap',h1,h2,_,h3⟩
    ·cases h1
    ·simp only [Value.slice.injEq,Option.some.injEq,true_and] at h1
     obtain⟨rfl,rfl⟩:=h1
     rw [Hj Z]
     exact hcell _ _ (h3 _ _ (Ab8.all_get hj 0 _ Z|>λh=>by simpa [show Ab8.sz=1 from Z] using h))
   ·unfold World.freeze;split<;>rfl
   ·unfold World.freeze;split<;>rfl
   ·unfold World.freeze;split<;>rfl
end
theorem nH{α:Type}{e:TypeId}{En:Enc α}{xs ys:Y0 α}{b cap n:Nat}{cs:Array Y2}(hle:xs.length<=cap)(hcs:cs.size=cap*En.sz)(htk:cs.toList.take (xs.length*En.sz)=En.all xs)(hn:n=min ys.length xs.length):
  Sl e En (.slice (some ⟨b,0,none⟩) xs.length cap) (ys.take xs.length++xs.drop ys.length) [(b,e,(cs.toList.take 0++En.all (ys.take n)++cs.toList.drop (0+(En.all (ys.take n)).length)).toArray)]:=by
 have hyn:ys.take n=ys.take xs.length:=by
  rw [hn]
  rcases Nat.le_total ys.length xs.length with h|h
  ·rw [Nat.min_eq_left h,List.take_length,y4 h]
  ·rw [Nat.min_eq_right h]
 have hnl:(ys.take n).length=n:=by rw [q8];omega
 have hlen:(ys.take xs.length++xs.drop ys.length).length=xs.length:=by rw [zf,q8,zq];omega
 have hall:(En.all (ys.take n)).length=n*En.sz:=by rw [En.all_len,hnl]
 have hnx:n*En.sz<=xs.length*En.sz:=Nat.mul_le_mul_right _ (by omega)
 have hxc:xs.length*En.sz<=cap*En.sz:=Nat.mul_le_mul_right _ hle
 refine .inr ⟨b,cap,_,by rw [hlen],by rw [hlen];exact hle, ?_, ?_,Z⟩
 ·simp only [List.take_zero,y5,q7,List.size_toArray,zf,zq,Array.length_toList,hall,hcs];omega
 ·simp only [List.take_zero,y5,q7,hall,hlen]
  have hd:(cs.toList.drop (n*En.sz)).take (xs.length*En.sz - n*En.sz)=En.all (xs.drop ys.length):=by
   rw [<-List.drop_take,htk,Enc.all_drop]
   rcases Nat.le_total ys.length xs.length with h|h
   ·rw [show n=ys.length from by omega]
   ·have e1:n=xs.length:=by omega
    rw [e1,List.drop_eq_nil_of_le (Nat.le_of_eq (En.all_len xs)),List.drop_eq_nil_of_le (by rw [En.all_len];exact Nat.mul_le_mul_right _ h)]
  rw [List.take_append,y4 (by rw [hall];exact hnx),hall,hd,Enc.all_append,hyn]
section
variable {E:Env} {g:Y3} {ops:Array Oper} {K:(Nat->Y2)->Y0 Bl->Prop} {r:Y0 Oper} {T:Nat->Y2} {m:Nat} {d:Tmp} {ty:TypeId} {pos:String} {af:Array Edge}
theorem lM{α:Type}{Ls:Y0 (Y0 Bl)}{t u:TypeId}{x y:Operand}(k:Nat){S:Y0 Bl}{e:TypeId}{En:Enc α}{sv xv:Y2}{xs ys:Y0 α}{ii:TypeInfo}(hd:decide (d<E.n)=true)(hk:E.ks.find? (λx=>x.1==some d)=some (some d,true))(hS:Ls[k]? =some S)(hm:decide (m<=(Ls.take k).flatten.length)=true)(hx:rd T x=sv)(hy:rd T y=xv)(hSl:Sl e En sv xs S)(hlen: ∀w,(Builtin.lenOf xv).run E.P w= .ok ys.length w)(hf: ∀own nw w (n:Nat),Sees E Ls.flatten m own nw->(∀a v,cellA E own nw a=some v->w.cell? a=some v)->n<=ys.length->(Builtin.firstCells ii.size n xv).run E.P w= .ok (En.all (ys.take n)).toArray w)(hu:E.P.underlying t=some (.slice e))(hi:E.P.info? e=some ii)(hT:decide (e<OBJ)=true)(hcon: ∀args view v L U,E.con ⟨some d, .call ⟨.builtin .copy, #[x,y], #[t,u]⟩,ty,pos,af,none⟩ args view v L U↔pUp (λv U=>v= .int .i64 ((min ys.length xs.length:Nat):Int)/\Sl e En sv (ys.take xs.length++xs.drop ys.length) U/\U.map (·.1)=S.map (·.1)) v L U)(h: ∀S',Sl e En sv (ys.take xs.length++xs.drop ys.length) S'->lx E g ops K r (upd T d (.int .i64 ((min ys.length xs.length:Nat):Int))) (Ls.set k S').flatten m):lx E g ops K (⟨some d, .call ⟨.builtin .copy, #[x,y], #[t,u]⟩,ty,pos,af,none⟩::r) T Ls.flatten m:=by
 have hex: ∀v w w',(Builtin.copy_ #[t,u] ty #[sv,xv]).run E.P w= .ok v w'->(execOp (rd T) ⟨some d, .call ⟨.builtin .copy, #[x,y], #[t,u]⟩,ty,pos,af,none⟩).run E.P w= .ok (.value v) w':=λv w w' hv=>by
  unfold execOp
  simp only [resolve,invoke,builtin,Sem.run_bind,Sem.run_pure,Result.andThen_ok,List.map_toArray,List.map_cons,List.map_nil,hx,hy,hv]
 have hwit: ∃S',Sl e En sv (ys.take xs.length++xs.drop ys.length) S'/\S'.map (·.1)=S.map (·.1):=by
  rcases hSl with⟨a,rfl,rfl,rfl⟩|⟨b,cap,cs,rfl,hle,hcs,htk,rfl⟩
  ·exact⟨[], .inl ⟨a,Z,by simp,Z⟩,Z⟩
  ·exact⟨_,nH hle hcs htk Z,Z⟩
 refine rO (λv U=>v= .int .i64 ((min ys.length xs.length:Nat):Int)/\Sl e En sv (ys.take xs.length++xs.drop ys.length) U/\U.map (·.1)=S.map (·.1)) k hd hk Z hS hm (by obtain⟨S',h1,h2⟩:=hwit;exact⟨_,S',Z,h1,h2⟩) (λ_ _ h=>h.2.2) (λown nw w hse hcell hh=> ?_) hcon (λv S' hp=>by obtain⟨rfl,h1,_⟩:=hp;exact h S' h1)
 rcases hSl with⟨a,rfl,rfl,rfl⟩|⟨b,cap,cs,rfl,hle,hcs,htk,rfl⟩
 ·have hf0:=hf own nw w 0 hse hcell (Nat.zero_le _)
  refine⟨.int .i64 0,w,[],hex _ _ _ ?_,ExtW.same_of (λ_ h=>(nomatch h)),by simp, .inl ⟨a,Z,by simp,Z⟩,Z⟩
  rcases a with⟨_|a,ha⟩
  ·simp [Builtin.copy_,run_underlying hu,hlen,sizeOf,typeInfo,hi,hf0,goInt]
  ·simp [Builtin.copy_,run_underlying hu,hlen,sizeOf,typeInfo,hi,hf0,goInt,storeCells,Enc.all]
 ·have hnl:(ys.take (min ys.length xs.length)).length=min ys.length xs.length:=by rw [q8];omega
  have hf1:=hf own nw w (min ys.length xs.length) hse hcell (Nat.min_le_left _ _)
  have hb:Holds w b e cs:=hh _ (List.mem_singleton.2 Z)
  have hnx:(En.all (ys.take (min ys.length xs.length))).length<=cs.size:=by
   rw [En.all_len,hnl,hcs]
   exact Nat.mul_le_mul_right _ (by omega)
  have hst:=hb.store (λh9=>by rw [h9] at hT;exact absurd hT (by decide)) E.P 0 (En.all (ys.take (min ys.length xs.length))) (by rw [q7];exact hnx) (En.all_one _)
  refine⟨_,w.setRow b (cs.toList.take 0++En.all (ys.take (min ys.length xs.length))++cs.toList.drop (0+(En.all (ys.take (min ys.length xs.length))).length)).toArray,_,hex _ _ _ ?_,⟨Z,Z,Z,by simp,λk _ hk=>setRow_other w b k _ (λe=>hk _ (List.mem_singleton.2 Z) e.symm),λy hy=> ?_,λ_ h=>(nomatch h),Nat.le_refl _⟩,Z,nH hle hcs htk Z,Z⟩
  ·have e1:Nat.min ys.length xs.length=min ys.length xs.length:=Z
   simp only [Builtin.copy_,run_underlying hu,Sem.run_bind,Result.andThen_ok,hlen,Ob hi,e1,hf1,hst,Sem.run_pure,goInt,List.getElem?_toArray,List.getElem?_cons_zero,List.getElem?_cons_succ]
  ·simp only [zi] at hy;subst hy
   exact hb.setRow _ (by simp only [List.take_zero,y5,q7,List.size_toArray,zf,zq,Array.length_toList];omega)
theorem va{α:Type}{Ls:Y0 (Y0 Bl)}{t u:TypeId}{x y:Operand}(k:Nat){S:Y0 Bl}{e:TypeId}{En:Enc α}{sv xv:Y2}{xs ys:Y0 α}{ii:TypeInfo}(hd:decide (d<E.n)=true)(hk:E.ks.find? (λx=>x.1==some d)=some (some d,true))(hS:Ls[k]? =some S)(hm:decide (m<=(Ls.take k).flatten.length)=true)(hx:rd T x=sv)(hy:rd T y=xv)(hSl:Sl e En sv xs S)(hsh:Shp xv ys.length)(hr: ∀own nw,Sees E Ls.flatten m own nw->Rd En (cellA E own nw) xv ys)(hu:E.P.underlying t=some (.slice e))(hi:E.P.info? e=some ii)(hsz:ii.size=En.sz)(hT:decide (e<OBJ)=true)(hcon: ∀args view v L U,E.con ⟨some d, .call ⟨.builtin .copy, #[x,y], #[t,u]⟩,ty,pos,af,none⟩ args view v L U↔pUp (λv U=>v= .int .i64 ((min ys.length xs.length:Nat):Int)/\Sl e En sv (ys.take xs.length++xs.drop ys.length) U/\U.map (·.1)=S.map (·.1)) v L U)(h: ∀S',Sl e En sv (ys.take xs.length++xs.drop ys.length) S'->lx E g ops K r (upd T d (.int .i64 ((min ys.length xs.length:Nat):Int))) (Ls.set k S').flatten m):lx E g ops K (⟨some d, .call ⟨.builtin .copy, #[x,y], #[t,u]⟩,ty,pos,af,none⟩::r) T Ls.flatten m:=by
 refine lM (ii:=ii) k hd hk hS hm hx hy hSl (λw=> ?_) (λown nw w n hse hcell hn=> ?_) hu hi hT hcon h
 ·rcases hsh with⟨rfl,h0⟩|⟨a,cap,rfl,_,_⟩
  ·rw [h0];rfl
  ·rfl
 ·have hnl:(ys.take n).length=n:=by rw [q8];omega
  have hl:(En.all (ys.take n)).length=n*ii.size:=by rw [En.all_len,hnl,hsz]
  rcases hr own nw hse with⟨rfl,rfl⟩|⟨a,cap,rfl,h0,hle,hc⟩
  ·obtain rfl:n=0:=by simpa using hn
   rfl
  ·refine run_firstCells_some w ii.size n a ys.length cap _ hl (λj u hj=> ?_)
   have hlt:=(List.getElem?_eq_some_iff.1 hj).1
   have hsp:a.spot=none:=h0 (by
    rcases Nat.eq_zero_or_pos n with hz|hz
    ·subst hz;simp [Enc.all] at hlt
    ·omega)
   rw [Hj hsp]
   refine hcell _ _ (hc _ _ ?_)
   rw [Enc.all_take] at hj
   rw [List.getElem?_take] at hj
   split at hj
   ·exact hj
   ·cases hj
theorem vO{Lo:Prop}{Ls:Y0 (Y0 Bl)}{t u:TypeId}{x y:Operand}(k:Nat){S:Y0 Bl}{e:TypeId}{sv:Y2}{xs:W2}(ys:W2){ii:TypeInfo}(hd:decide (d<E.n)=true)(hk:E.ks.find? (λx=>x.1==some d)=some (some d,true))(hS:Ls[k]? =some S)(hm:decide (m<=(Ls.take k).flatten.length)=true)(hx:rd T x=sv)(hy:rd T y= .string ⟨ys.toArray⟩)(hSl:Sl e (Xc Lo) sv xs S)(hu:E.P.underlying t=some (.slice e))(hi:E.P.info? e=some ii)(hT:decide (e<OBJ)=true)(hcon: ∀args view v L U,E.con ⟨some d, .call ⟨.builtin .copy, #[x,y], #[t,u]⟩,ty,pos,af,none⟩ args view v L U↔pUp (λv U=>v= .int .i64 ((min ys.length xs.length:Nat):Int)/\Sl e (Xc Lo) sv (ys.take xs.length++xs.drop ys.length) U/\U.map (·.1)=S.map (·.1)) v L U)(h: ∀S',Sl e (Xc Lo) sv (ys.take xs.length++xs.drop ys.length) S'->lx E g ops K r (upd T d (.int .i64 ((min ys.length xs.length:Nat):Int))) (Ls.set k S').flatten m):lx E g ops K (⟨some d, .call ⟨.builtin .copy, #[x,y], #[t,u]⟩,ty,pos,af,none⟩::r) T Ls.flatten m:=by
 refine lM (ii:=ii) k hd hk hS hm hx hy hSl (λw=> ?_) (λown nw w n hse hcell hn=> ?_) hu hi hT hcon h
 ·show Sem.run E.P (pure (⟨ys.toArray⟩:ByteArray).size) w=_
  rfl
 ·show Sem.run E.P (pure (((⟨ys.toArray⟩:ByteArray).extract 0 n).data.map λb=>Value.int .u8 (b.toNat:Int))) w=_
  have e1:((⟨ys.toArray⟩:ByteArray).extract 0 n).data=(ys.take n).toArray:=by
   apply Array.ext'
   simp [ByteArray.data_extract]
  have:((⟨ys.toArray⟩:ByteArray).extract 0 n).data.map (λb=>Value.int .u8 (b.toNat:Int))=((Xc Lo).all (ys.take n)).toArray:=by
   rw [e1,<-lj]
   apply Array.ext'
   simp [lk]
  rw [this]
  rfl
end
theorem iT{P:Program}{c:Addr->Y1 Y2}{ρ:Operand->Y2}{d:Y1 Tmp}{x:Operand}{ts:Array TypeId}{t e ty:TypeId}{pos:String}{af:Array Edge}{g:Y1 (Nat×Y3)}(hts:ts= #[t])(ht:P.underlying t=some (.slice e))(hx:ρ x= .slice none 0 0):
  ev P c (execOp ρ ⟨d, .call ⟨.builtin .cap, #[x],ts⟩,ty,pos,af,g⟩)=some (.value (.int .i64 0)):=by
 subst hts
 have h2:ev P c (Builtin.cap_ #[t] ty #[ρ x])=some (.int .i64 0):=by
  show ev P c (underlying t>>=λu=>_)=_
  rw [Be,BK ht,hx];rfl
 show ev P c (do let d<-resolve ρ ⟨.builtin .cap, #[x], #[t]⟩ ty;invoke d.target d.args)=_
 simp [resolve,invoke,builtin,SK,h2]
theorem Sl.take00{α:Type}{e:TypeId}{E:Enc α}{v:Y2}{xs:Y0 α}{S:Y0 Bl}(h:Sl e E v xs S){k:Nat}(hk:k=0:=by rfl):Sl e E (GX v 0 k E.sz) ([]:Y0 α) S:=by
 subst hk
 have:=h.take0 (Nat.zero_le _)
 rwa [List.take_zero,List.drop_nil] at this
theorem dt{S:Y0 Bl}:V2 [S]=S:=by simp
theorem PG{c:Addr->Y1 Y2}{v:Y2}{xs:W2}(h:Rd encY c v xs):Rd Ab8 c v xs:=h
theorem Sl.strict{e:TypeId}{v:Y2}{xs:W2}{S:Y0 Bl}(h:Sl e encY v xs S)(h0:0<xs.length):Sl e Ab8 v xs S:=by
 rcases h with⟨a,_,h1,_⟩|⟨b,cap,cs,h1,h2,h3,h4,h5⟩
 ·rw [h1] at h0;exact absurd h0 (Nat.lt_irrefl 0)
 ·exact .inr ⟨b,cap,cs,h1,h2,h3,h4,h5⟩
theorem vv{e:TypeId}(v:Y2){xs:W2}{S:Y0 Bl}(h:Sl e Ab8 v xs S)(h0:0<xs.length){k:Nat}(hk:k=0:=by rfl):eX v (elA v k):=by
 subst hk
 rcases h with⟨a,_,h1,_⟩|⟨b,cap,cs,rfl,h2,_⟩
 ·rw [h1] at h0;exact absurd h0 (Nat.lt_irrefl 0)
 ·exact .inr ⟨b,_,cap,Z, .inl ⟨by omega,Z⟩⟩
def Bd(c e:TypeId)(v:Y2)(a:W2)(S:Y0 Bl):Prop:= ∃b f s S0,v= .pointer (some ⟨b,0,none⟩)/\Sl e Ab8 s a S0/\S=V2 [[(b,c, #[uY b f,s])],S0]
abbrev oIB(TB e:TypeId)(v:Y2)(xs:W2)(P:PO):PO:=λv' O=> ∃S O',Bd TB e v xs S/\P v' O'/\O=S::O'
theorem rR{foot:Y0 Bl}{P P':PO}(h: ∀v O,P v O-> ∃O',P' v O'/\Sub O'.flatten O.flatten){v:Y2}{L U:Y0 Bl}(hp:pO foot P v L U):pO foot P' v L U:=by
 obtain⟨h1,h2,O,h3,h4⟩:=hp
 obtain⟨O',h5,h6⟩:=h v O h3
 exact⟨h1,h2,O',h5,⟨λx hx=>h4.mem x (h6.mem x hx),λhn=>h6.nod (h4.nod hn)⟩⟩
theorem kz{P:Program}{f:FuncId}{args:Array Y2}{inv:World->Prop}{ro:Addr->Y1 Y2}{foot:Y0 Bl}{Q Q':PO}(h: ∀v O,Q v O-> ∃O',Q' v O'/\Sub O'.flatten O.flatten)(hd:DoesI P f args inv ro foot (pO foot Q)):DoesI P f args inv ro foot (pO foot Q'):=
 λw h1 h2 h3 h4=>(hd w h1 h2 h3 h4).mono (by
  rintro e w' ⟨v,L,U,h5,h6,h7⟩
  exact⟨v,L,U,h5,h6,rR h h7⟩)
theorem vC{x:Bl}{S:Y0 Bl}:Sub (V2 [V2 [[x],S]]) (V2 [S,[x]]):=by
 simp only [List.flatten_cons,List.flatten_nil,List.append_nil]
 refine⟨λy hy=> ?_,λhn=> ?_⟩
 ·rw [List.mem_append] at hy ⊢;exact hy.symm
 ·rw [List.map_append] at hn ⊢
  exact(List.perm_append_comm.nodup_iff).1 hn
theorem yz{P:Program}{g:FuncId}{args:Array Y2}{inv:World->Prop}{ro:Addr->Y1 Y2}{foot:Y0 Bl}{TB e:TypeId}{b:Nat}{f:Y3}{xs:W2}{r:Y2}(h:DoesI P g args inv ro foot (pO foot (oS e Ab8 xs λs=>oE r [[(b,TB, #[uY b f,s])]]))):
  DoesI P g args inv ro foot (pO foot (oIB TB e (.pointer (some ⟨b,0,none⟩)) xs (oE r []))):=
 kz (λv O ⟨s,S,O',hS,⟨h1,h2⟩,h3⟩=>by subst h1;subst h2;subst h3;exact⟨_,⟨_,[],⟨b,f,s,S,Z,hS,Z⟩,⟨Z,Z⟩,Z⟩,vC⟩) h
end Go.Eng
