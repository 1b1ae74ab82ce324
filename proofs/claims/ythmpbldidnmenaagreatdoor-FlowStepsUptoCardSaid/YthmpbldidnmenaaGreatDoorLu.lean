import Derived.Test.YthmpbldidnmenaaGreatDoorLz
import Derived.Test.YthmpbldidnmenaaGreatDoorRows
import Derived.SizedLaws
namespace Go.Eng
open Go Go.RowKit Go.ChangeShapes Go.WideShapes Go.ChangeAt Go.Joins Go.Deep Go.Proofs.YthmpbldidnmenaaGreatDoor
section
variable {H:Type} {enc:TypeId×Value→H} {P:Program} {W:World} {base:Nat} {held:Bool} {r:Reach} {b0:Nat} {t e:TypeId} {v:Value} {d:DataW H} {p:List MemPlace}
theorem mq(d:DataW H):1≤Rows.uptoBulk d:=by
 cases d with
 |lit l=>cases l<;>simp [Rows.uptoBulk]
 |nil=>simp [Rows.uptoBulk]
 |ptr d=>simp [Rows.uptoBulk]
 |slice elems spare=>simp [Rows.uptoBulk]
 |agg parts=>simp [Rows.uptoBulk]
 |iface t d=>simp [Rows.uptoBulk]
 |map entries=>simp [Rows.uptoBulk]
 |held h=>simp [Rows.uptoBulk]
theorem RY{l:List (DataW H)}(h:d∈l):Rows.uptoBulk d≤Rows.uptoBulkAll l:=by
 induction l with
 |nil=>cases h
 |cons x r ih=>
  simp only [Rows.uptoBulkAll]
  rcases List.mem_cons.1 h with e|e
  ·subst e;omega
  ·have:=ih e;omega
theorem bP: ∀l:List (DataW H),l.length≤Rows.uptoBulkAll l
 | []=>Nat.zero_le _
 |x::l=>by have:=bP l;have:=mq x;simp only [Rows.uptoBulkAll,za];omega
theorem ms(l r:List (DataW H)):Rows.uptoBulkAll (l++r)=Rows.uptoBulkAll l+Rows.uptoBulkAll r:=by
 induction l with
 |nil=>simp [Rows.uptoBulkAll]
 |cons x l ih=>simp only [List.cons_append,Rows.uptoBulkAll,ih];omega
def SdU(d:DataW H):Prop:=Rows.uptoBulk d≤1048576
theorem Ye{ds gs:List (DataW H)}(h:Rows.uptoBulkAll (ds++gs)≤1048576){j:Nat}(hd:ds[j]? =some d):SdU d:=by
 have h1:=RY (List.mem_of_getElem? hd)
 rw [ms] at h
 unfold SdU;omega
theorem mP{b:List UInt8}(h:SdU (.lit (.string b):DataW H)):b.length≤1048576:=by
 unfold SdU at h;rw [Rows.uptoBulk] at h;omega
theorem mQ{parts:List (DataW H)}(h:SdU (.agg parts))(hm:d∈parts):SdU d:=by
 have h1:=RY hm
 unfold SdU at h ⊢;rw [Rows.uptoBulk] at h;omega
theorem fzU{enc:TypeId×Value→H}{W:World}{fs:Array Field}{f:Field}{R:Prop}{n:Nat}{cs:List Value}{xs:List (DataW H×List MemPlace)}(hz:SdU (.agg (xs.map (·.1))))(hlen:xs.length=fs.size)
  (hf: ∀(i:Nat) (f:Field),fs[i]? =some f→DataW.trod enc P W 0 (fun _=>true) true n f.type ((cs.drop f.offset).take (P.cellsOf f.type))=xs[i]?) (i:Nat) (cs':List Value) {m:Nat} (hi:fs[i]? =some f) (hc:P.cellsOf f.type=m) (hcs:(cs.drop f.offset).take m=cs')
  (O: ∀{y:DataW H×List MemPlace},DataW.trod enc P W 0 (fun _=>true) true n f.type cs'=some y→SdU y.1→R):R:=by
 have h1:i<xs.length:=by rw [hlen];exact(Array.getElem?_eq_some_iff.1 hi).1
 have h2:=hf i f hi
 rw [hc,hcs,zo h1] at h2
 exact O h2 (mQ hz (List.mem_map.2 ⟨_,List.getElem_mem h1,rfl⟩))
theorem QC{α:Type}[Inhabited α]{sz:Nat}(hsz:0<sz)(R:α→List Value→Prop)(ht:P.underlying t=some (.slice e))(hc:P.cellsOf e=sz)
  (hO: ∀n cs y,DataW.trod enc P W base (fun _=>true) held n e cs=some y→SdU y.1→ ∃x,R x cs) {fuel:Nat} {cs:List Value} {x:DataW H×List MemPlace} (h:DataW.trod enc P W base (fun _=>true) held fuel t cs=some x) (hz:SdU x.1):
  ∃(s:Value) (xs:List α),cs=[s]∧xs.length≤1048576∧((s= .slice none 0 0∧xs=[])∨ ∃a cap,s= .slice (some a) xs.length cap∧(0<cap→a.spot=none)∧xs.length≤cap∧
   ∀i y,xs[i]? =some y→ ∃vs,R y vs∧vs.length=sz∧ ∀j u,vs[j]? =some u→W.cell? ⟨a.block,a.off+(i*sz+j),none⟩=some u):=by
 rcases open_slice ht h with⟨rfl,_⟩|⟨a,len,cap,m,n,D,Pl,rfl,hb,hl,hm,hmm,hxx,hx⟩
 ·exact⟨_,[],rfl,Nat.zero_le _, .inl ⟨rfl,rfl⟩⟩
 ·have hmm':m=cap:=by simpa using hmm
  subst hmm'
  have hlm:len≤m:=by simpa using hl
  have hzz:Rows.uptoBulkAll ((List.range len).map D)+Rows.uptoBulkAll ((List.range (m - len)).map fun j=>D (len+j))+1≤1048576:=by
   have h0:=hz
   unfold SdU at h0
   rw [hxx,Rows.uptoBulk] at h0
   exact h0
  have hel: ∀i,i<m→SdU (D i):=fun i hi=>by
   unfold SdU
   by_cases h1:i<len
   ·have:=RY (List.mem_map.2 ⟨i,List.mem_range.2 h1,rfl⟩:D i∈(List.range len).map D)
    omega
   ·have:=RY (List.mem_map.2 ⟨i - len,List.mem_range.2 (by omega),by rw [Nat.add_sub_cancel' (by omega)]⟩:D i∈(List.range (m - len)).map fun j=>D (len+j))
    omega
  have hsp:0<m→a.spot=none:=fun h0=>by
   obtain⟨cs',h1,_⟩:=hx 0 h0
   obtain⟨_,h2,h3⟩:=World.cells?_some h1
   rw [hc] at h2 h3
   have:=h3 0 hsz
   rw [Nat.zero_mul] at this
   have e1:(a.add 0).add 0=a:=by simp [Addr.add]
   rw [e1,zo (by omega)] at this
   exact fR this
  obtain⟨F,hF⟩:=choose_lt (α:=α) (n:=m) (p:=fun i y=> ∃vs,R y vs∧vs.length=sz∧ ∀j u,vs[j]? =some u→W.cell? ⟨a.block,a.off+(i*sz+j),none⟩=some u) (fun i hi=>by
   obtain⟨cs',h1,h2⟩:=hx i hi
   obtain⟨y,hy⟩:=hO n cs' _ h2 (hel i hi)
   obtain⟨_,h4,h3⟩:=World.cells?_some h1
   rw [hc] at h3 h4
   refine⟨y,cs',hy,h4,fun j u hj=> ?_⟩
   have hj':j<sz:=by rw [←h4];exact(List.getElem?_eq_some_iff.1 hj).1
   have h5:=h3 j hj'
   rw [add_add,Fr (hsp (by omega)),hj] at h5
   exact h5)
  refine⟨_,(List.range len).map F,rfl, ?_, .inr ⟨a,m,by simp,hsp,by simpa using hl,fun i y hy=> ?_⟩⟩
  ·rw [q8,List.length_range]
   have:=bP ((List.range len).map D)
   rw [q8,List.length_range] at this
   omega
  have hi:i<len:=by
   have:=(List.getElem?_eq_some_iff.1 hy).1
   simpa using this
  have:y=F i:=by
   simp [hi] at hy
   exact hy.symm
  subst this
  exact hF i (by omega)
theorem FT{α:Type}[Inhabited α](E:Enc α)(q:α→Prop)(ht:P.underlying t=some (.slice e))(hc:P.cellsOf e=E.sz) 
  (hO: ∀n cs y,DataW.trod enc P W base (fun _=>true) held n e cs=some y→SdU y.1→ ∃x,q x∧cs=E.f x) {fuel:Nat} {cs:List Value} {x:DataW H×List MemPlace} (h:DataW.trod enc P W base (fun _=>true) held fuel t cs=some x) (hz:SdU x.1):
  ∃(s:Value) (xs:List α),cs=[s]∧(xs.length≤1048576∧ ∀x∈xs,q x)∧Rd E (fun a=>W.cell? a) s xs:=by
 obtain⟨s,xs,h1,hl,h2⟩:=QC (sz:=E.sz) E.pos (fun x cs=>q x∧cs=E.f x) ht hc hO h hz
 refine⟨s,xs,h1,⟨hl, ?_⟩, ?_⟩
 ·rcases h2 with h2|⟨a,cap,h2,h3,h4,h5⟩
  ·rw [h2.2];intro x hx;cases hx
  ·intro x hx
   obtain⟨i,hi⟩:=List.getElem?_of_mem hx
   obtain⟨_,h6,_⟩:=h5 i x hi
   exact h6.1
 rcases h2 with h2|⟨a,cap,h2,h3,h4,h5⟩
 ·exact .inl h2
 ·refine .inr ⟨a,cap,h2,h3,h4,fun k u hk=> ?_⟩
  have hk2:k<xs.length*E.sz:=by rw [←E.all_len];exact(List.getElem?_eq_some_iff.1 hk).1
  have hi:k / E.sz<xs.length:=Nat.div_lt_of_lt_mul (by rw [Nat.mul_comm];exact hk2)
  obtain⟨vs,⟨_,h6⟩,_,h7⟩:=h5 (k / E.sz) _ (zo hi)
  subst h6
  have hj:k%E.sz<(E.f xs[k / E.sz]).length:=by rw [E.len];exact Nat.mod_lt _ E.pos
  have h8:=E.all_get (zo hi) (k%E.sz) _ (zo hj)
  have e1:k / E.sz*E.sz+k%E.sz=k:=by rw [Nat.mul_comm];exact Nat.div_add_mod k E.sz
  have h9:=h7 (k%E.sz) _ (zo hj)
  rw [e1] at h8 h9
  rw [h8] at hk
  cases hk
  exact h9
theorem JA{α:Type}[Inhabited α](E:OQ α)(q:α→Prop)(ht:P.underlying t=some (.slice e))(hc:P.cellsOf e=E.sz) 
  (hO: ∀n cs y,DataW.trod enc P W base (fun _=>true) held n e cs=some y→SdU y.1→ ∃x,q x∧E.R (fun a=>W.cell? a) x cs) {fuel:Nat} {cs:List Value} {x:DataW H×List MemPlace} (h:DataW.trod enc P W base (fun _=>true) held fuel t cs=some x) (hz:SdU x.1):
  ∃(s:Value) (xs:List α),cs=[s]∧(xs.length≤1048576∧ ∀x∈xs,q x)∧RdN E (fun a=>W.cell? a) s xs:=by
 obtain⟨s,xs,h1,hl,h2⟩:=QC (sz:=E.sz) E.pos (fun x cs=>q x∧E.R (fun a=>W.cell? a) x cs) ht hc hO h hz
 refine⟨s,xs,h1,⟨hl, ?_⟩, ?_⟩
 ·rcases h2 with h2|⟨a,cap,h2,h3,h4,h5⟩
  ·rw [h2.2];intro x hx;cases hx
  ·intro x hx
   obtain⟨i,hi⟩:=List.getElem?_of_mem hx
   obtain⟨_,h6,_⟩:=h5 i x hi
   exact h6.1
 rcases h2 with h2|⟨a,cap,h2,h3,h4,h5⟩
 ·exact .inl h2
 ·exact .inr ⟨a,cap,h2,h3,h4,fun i y hy=>by obtain⟨vs,h6,_,h7⟩:=h5 i y hy;exact⟨vs,h6.2,h7⟩⟩
theorem Th{fs:Array Field}{Q:List Value→Prop}(ht:P.underlying t=some (.struct fs))(hv:Value.okWide P W r b0 t v)(h:DataW.Trod enc P W base (fun _=>true) held t v d p)(hz:SdU d)
  (hq: ∀fuel cs y,DataW.trod enc P W base (fun _=>true) held fuel t cs=some y→SdU y.1→Q cs): ∃cs:List Value,v= .agg ⟨cs⟩∧Q cs:=by
 have hv':=hv
 simp only [Value.okWide,ht] at hv'
 obtain⟨cs,rfl,_,_⟩:=hv'
 obtain⟨fuel,hf⟩:=h
 exact⟨cs.toList,rfl,hq fuel _ _ hf hz⟩
theorem di{n:Nat}{Q:List Value→Prop}(ht:P.underlying t=some (.array n e))(hv:Value.okWide P W r b0 t v)(h:DataW.Trod enc P W base (fun _=>true) held t v d p)(hz:SdU d)
  (hq: ∀fuel cs y,DataW.trod enc P W base (fun _=>true) held fuel t cs=some y→SdU y.1→Q cs): ∃cs:List Value,v= .agg ⟨cs⟩∧Q cs:=by
 have hv':=hv
 simp only [Value.okWide,ht] at hv'
 obtain⟨cs,rfl,_,_⟩:=hv'
 obtain⟨fuel,hf⟩:=h
 exact⟨cs.toList,rfl,hq fuel _ _ hf hz⟩
end
end Go.Eng
