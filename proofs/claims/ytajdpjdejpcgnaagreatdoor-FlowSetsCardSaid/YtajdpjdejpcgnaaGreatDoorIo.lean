import Derived.Test.YtajdpjdejpcgnaaGreatDoorSr
import Derived.Test.YtajdpjdejpcgnaaGreatDoorShelf
import Derived.Lib.LaidTab
namespace Go.Proofs.YtajdpjdejpcgnaaGreatDoor
open Go Go.RowKit Go.Eng
def bT(_:World):Prop:=True
def bR(_:World):Prop:=True
def BY:List Int:=[8,8,8,1,8,1,16,8]
def bQ(w:World):Prop:=Lib.TabIs Tryz.prog w "shunter/image.metaWidths" .i64 BY
def bS(_:World):Prop:=True
def CR(w:World):Prop:=bS w∧bT w∧bR w∧bQ w
theorem KG{w:World}(h:CR w)(i:Nat)(hi:i<8):w.cell? ⟨0,i,none⟩=some (.int .i64 (BY[i]!)):=by
 rw [World.var?_cell (n:= "shunter/image.metaWidths") (by kernel_rfl) h.2.2.2 i]
 match i,hi with
 |0,_=>rfl|1,_=>rfl|2,_=>rfl|3,_=>rfl|4,_=>rfl|5,_=>rfl|6,_=>rfl|7,_=>rfl
theorem Vi{P:Program}{w w':World}{name:String}{cs:Array Value}(h:w.var? P name=some cs)(hk: ∀k,k<w.heap.size→w'.heap[k]? =w.heap[k]?):w'.var? P name=some cs:=by
 unfold World.var? at h ⊢
 cases hg:P.globalNamed name with
 |none=>simp [hg] at h
 |some g=>
  simp only [hg,Option.bind_some] at h ⊢
  rcases Nat.lt_or_ge g w.heap.size with h1|h1
  ·rw [hk g h1];exact h
  ·rw [Array.getElem?_eq_none h1] at h;cases h
theorem AG(w w':World)(h:CR w)(hk:Kept w.heap.size (([]:List Bl).map (·.1)) w w'):CR w':=by
 obtain⟨h1,h2,h3,h4⟩:=h
 have hb: ∀k,k<w.heap.size→w'.heap[k]? =w.heap[k]?:=fun k hlt=>hk.block k hlt (by simp)
 refine⟨?_, ?_, ?_, ?_⟩
 ·exact h1
 ·exact h2
 ·exact h3
 ·exact Vi h4 hb
section
variable {E:Env} {g:Bool} {ops:Array Oper} {K:(Nat→Value)→List Bl→Prop} {r:List Oper} {T:Nat→Value} {l:List Bl} {m:Nat} {d:Tmp} {ty:TypeId} {pos:String} {af:Array Edge}
theorem bi{b o:Nat}{e:TypeId}{p:Operand}(v0:Value)(hd:decide (d<E.n)=true)(hk:E.ks.find? (fun x=>x.1==some d)=some (some d,false))(hm:decide (m≤l.length)=true)
  (hp:rd T p= .pointer (some ⟨b,o,none⟩)) (hv:CS E.P e #[v0] 0=some v0) (hi: ∀w,E.inv w→w.cell? ⟨b,o,none⟩=some v0)
  (hcon: ∀args view v L U,E.con ⟨some d, .load e p,ty,pos,af,none⟩ args view v L U↔pV v0 v L U)
  (h:lx E g ops K r (upd T d v0) l m):lx E g ops K (⟨some d, .load e p,ty,pos,af,none⟩::r) T l m:=by
 refine r_g false (pV v0) hd hk rfl hm (fun hnd own nw hse=> ?_) (fun v L U hpv=> ?_)
 ·have hco:conOf E ⟨T,own,nw⟩ ⟨some d, .load e p,ty,pos,af,none⟩=pV v0:=by
   funext v L U;exact propext (hcon _ _ v L U)
  refine⟨⟨?_, ?_, ?_, ?_, ?_⟩, ?_⟩
  ·rw [hco];exact fun _=>(LZ v0).wit
  ·rw [hco];exact fun v L U hpv=>⟨((LZ v0).nod v L U hpv).1,by rw [((LZ v0).nod v L U hpv).2];exact List.nodup_nil⟩
  ·rw [hco];intro v L U hpv x hx;rw [((LZ v0).nod v L U hpv).2] at hx;cases hx
  ·rw [hco];exact fun _ v L U hpv=>((LZ v0).nod v L U hpv).2
  ·rw [hco]
   intro w hbase _ _
   have h1:ev E.P w.cell? (execOp (rd T) ⟨some d, .load e p,ty,pos,af,none⟩)=some (.value v0):=
    Nb hp (by
     have:=Rq (P:=E.P) (c:=w.cell?) (b:=b) (off:=o) (o:=0) (ty:=e) (vs:=[v0]) (v:=v0) (fun j u hj=>by
      cases j with
      |zero=>simp only [List.getElem?_cons_zero,Option.some.injEq] at hj;subst hj;exact hi w hbase.2
      |succ j=>simp at hj) hv
     rwa [Nat.add_zero] at this)
   exact .inl ⟨v0,w,[],[],Le (fun _ _ h=>h) _ _ h1,⟨rfl,rfl,rfl,Nat.le_refl _,fun _ _ _=>rfl,fun _ h=>(nomatch h),fun _ h=>(nomatch h)⟩,rfl,rfl,rfl⟩
  ·rw [hco];exact fun v L U hpv=>hpv
 ·obtain⟨rfl,rfl,rfl⟩:=hpv
  refine⟨l,fun _=>PutU.nil _, ?_⟩
  rw [List.append_nil];exact h
end
end Go.Proofs.YtajdpjdejpcgnaaGreatDoor
