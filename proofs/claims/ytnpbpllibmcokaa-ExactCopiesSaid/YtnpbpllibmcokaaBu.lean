/- strings.Builder, texts laid over bytes, copy: operations on blocks that are there. Conditions: none. -/
import Derived.Test.YtnpbpllibmcokaaAs
import Derived.Lib.UnsafeStr
import Derived.Lib.MakeNoZero
import Derived.Lib.Builder
import Derived.Laws.Externs
import Derived.Laws.CopyRow
import Derived.Laws.IdiomCopy
import Derived.Scope
namespace Go.Eng
open Go Go.RowKit

/-- What comes behind a scope through which the run goes without a jump. -/
def noGoL (Q : QL) : QL
  | .goto _, _, _ => False
  | e, t, l => Q e t l
theorem A_scope {E : Env} {Q : QL} {t : Nat → Value} {l : List Bl} {c : Code} (h : A E c (noGoL Q) t l) : A E (.scope c) Q t l := fun w0 a w hm hs => by
  refine wp_scope_straight (Code.wp_mono (fun e a w hk => ?_) (h w0 a w hm hs))
  obtain ⟨t', l', hq, hs'⟩ := hk
  cases e with
  | goto k => exact hq
  | _ => exact ⟨t', l', hq, hs'⟩
/-- A datum, and behind it a cell of which nothing is told. -/
def encoZ {α : Type} (A : EncO α) : EncO α where
  R x vs S := ∃ v1 v, A.R x v1 S ∧ v.oneCell' = true ∧ vs = v1 ++ [v]
  sz := A.sz + 1
  pos := Nat.succ_pos _
  len := fun ⟨_, _, h1, _, h⟩ => by rw [h, List.length_append, A.len h1]; rfl
  one := fun ⟨_, _, h1, h2, h⟩ u hu => by
    rw [h, List.mem_append, List.mem_singleton] at hu
    rcases hu with hu | rfl
    · exact A.one h1 u hu
    · exact h2
  wit x k := by
    obtain ⟨v1, S, h, n, hk⟩ := A.wit x k
    exact ⟨_, S, ⟨v1, .bool false, h, rfl, rfl⟩, n, hk⟩
  V c x vs := ∃ v1 v, A.V c x v1 ∧ vs = v1 ++ [v]
  mono hc := fun ⟨v1, v, h, e⟩ => ⟨v1, v, A.mono hc h, e⟩
  view := fun ⟨v1, v, h, _, e⟩ hc => ⟨v1, v, A.view h hc, e⟩
theorem encoZ_mk {α : Type} {A : EncO α} {x : α} {v1 : List Value} {S : List Bl} (v : Value) (h : A.R x v1 S) (h2 : v.oneCell' = true) : (encoZ A).R x (v1 ++ [v]) S := ⟨v1, v, h, h2, rfl⟩
/-- What is known of the world at a region's head, of all that is seen there. -/
theorem A_exF {E : Env} {c : Code} {Q : QL} {t : Nat → Value} {Ls : List (List Bl)} {p : Prop}
    (hp : ∀ (w : World) (own : Nat → Option (TypeId × Array Value)) (nw : Nat → Bool), E.inv w → (Ls.flatten.map (·.1)).Nodup → Sees E Ls.flatten 0 own nw → (∀ a v, cellA E own nw a = some v → w.cell? a = some v) →
      (∀ x ∈ Ls.flatten, Holds w x.1 x.2.1 x.2.2) → p) (h : p → A E c Q t Ls.flatten) : A E c Q t Ls.flatten := fun w0 a w hm hs =>
  h (hp w (ownL Ls.flatten) nonw (hs.2.iv w hs.2.bel) hs.1 hs.sees hs.2.cellA (fun x hx => by
    obtain ⟨i, hi⟩ := List.getElem?_of_mem hx
    exact (hs.2.own x.1 x.2.1 x.2.2 (ownL_get hs.1 hi)).2)) w0 a w hm hs
theorem outW {P : Program} {f : FuncId} {args : Array Value} {inv : World → Prop} {ro : Addr → Option Value} {PP : PO} (w : World) (hi : inv w) (hro : ∀ a v, ro a = some v → w.cell? a = some v) (h : DoesI P f args inv ro [] (pO [] PP)) : ∃ v O, PP v O := by
  obtain ⟨e, w', fr, ⟨v, L, U, _, _, _, _, O, hp, _⟩, _⟩ := h w hi (fun a v ha => ⟨hro a v ha, by simp⟩) (fun _ hx => (nomatch hx)) List.nodup_nil []
  exact ⟨v, O, hp⟩
theorem outWF {P : Program} {f : FuncId} {args : Array Value} {E : Env} {own : Nat → Option (TypeId × Array Value)} {nw : Nat → Bool} {Ls FL : List (List Bl)} {PP : PO} (is : List Nat) (w : World) (hi : E.inv w)
    (hn : (Ls.flatten.map (·.1)).Nodup) (hc : ∀ a v, cellA E own nw a = some v → w.cell? a = some v) (hh : ∀ x ∈ Ls.flatten, Holds w x.1 x.2.1 x.2.2) (hok : okPick is Ls.length = true) (hFL : pickL Ls is = FL)
    (h : DoesI P f args E.inv (sans (cellA E own nw) (FL.flatten.map (·.1))) FL.flatten (pO FL.flatten PP)) : ∃ v O, PP v O := by
  subst hFL
  have hs := Sub.pick Ls is hok
  obtain ⟨e, w', fr, ⟨v, L, U, _, _, _, _, O, hp, _⟩, _⟩ := h w hi (fun a v ha => ⟨hc a v (sans_le ha).1, (sans_le ha).2⟩) (fun x hx => hh x (hs.mem x hx)) (hs.nod hn) []
  exact ⟨v, O, hp⟩
theorem niceR {α : Type} {En : Enc α} {ro : Addr → Option Value} {xs : List α} {P : Value → PO} {R : List Bl} (he : ∃ s, Rd En ro s xs) (h : ∀ s, NiceO (P s) R) : NiceO (oR En ro xs P) R := fun hn k => by
  obtain ⟨s, hs⟩ := he
  obtain ⟨v, O, h1, h2⟩ := h s hn k
  exact ⟨v, O, ⟨s, hs, h1⟩, h2⟩
/-- A call's outcome is there, if it changes only parts of its own. -/
theorem niceWF {P : Program} {f : FuncId} {args : Array Value} {E : Env} {own : Nat → Option (TypeId × Array Value)} {nw : Nat → Bool} {Ls FL : List (List Bl)} {PP : PO} (is : List Nat) (w : World) (hi : E.inv w)
    (hn : (Ls.flatten.map (·.1)).Nodup) (hc : ∀ a v, cellA E own nw a = some v → w.cell? a = some v) (hh : ∀ x ∈ Ls.flatten, Holds w x.1 x.2.1 x.2.2) (hok : okPick is Ls.length = true) (hFL : pickL Ls is = FL)
    (hO : ∀ v O, PP v O → O.flatten.map (·.1) = FL.flatten.map (·.1))
    (h : DoesI P f args E.inv (sans (cellA E own nw) (FL.flatten.map (·.1))) FL.flatten (pO FL.flatten PP)) : NiceO PP FL.flatten := fun hnd _ => by
  subst hFL
  have hs := Sub.pick Ls is hok
  obtain ⟨e, w', fr, ⟨v, L, U, _, _, _, _, O, hp, _⟩, _⟩ := h w hi (fun a v ha => ⟨hc a v (sans_le ha).1, (sans_le ha).2⟩) (fun x hx => hh x (hs.mem x hx)) (hs.nod hn) []
  have e := hO v O hp
  exact ⟨v, O, hp, by rw [e]; exact hnd, fun x hx => .inl (by rw [← e]; exact List.mem_map_of_mem hx)⟩

/-- An operation that changes a part of the memory, its names as they were. -/
def pUp (p : Value → List Bl → Prop) : Pst := fun v L U => L = [] ∧ p v U
theorem PutU.part {A S S' B : List Bl} (hn : ((A ++ (S ++ B)).map (·.1)).Nodup) (hs : S'.map (·.1) = S.map (·.1)) : PutU (A ++ (S ++ B)) S' (A ++ (S' ++ B)) := by
  have hlen : S'.length = S.length := by have := congrArg List.length hs; simpa using this
  rw [List.map_append, List.map_append, List.nodup_append] at hn
  obtain ⟨_, hn2, hA⟩ := hn
  rw [List.nodup_append] at hn2
  obtain ⟨_, _, hSB⟩ := hn2
  refine ⟨by simp [hs], fun i b x hi => ?_⟩
  rw [List.getElem?_append] at hi
  split at hi
  · rename_i hlt
    refine .inr ⟨fun y hy e => ?_, by rw [List.getElem?_append_left hlt]; exact hi⟩
    have h1 : y.1 ∈ S.map (·.1) := by rw [← hs]; exact List.mem_map.2 ⟨y, hy, rfl⟩
    exact hA b (List.mem_map.2 ⟨_, List.mem_of_getElem? hi, rfl⟩) y.1 (List.mem_append_left _ h1) e.symm
  · rename_i hge
    rw [List.getElem?_append] at hi
    split at hi
    · exact .inl (List.mem_of_getElem? hi)
    · rename_i hge2
      refine .inr ⟨fun y hy e => ?_, ?_⟩
      · have h1 : y.1 ∈ S.map (·.1) := by rw [← hs]; exact List.mem_map.2 ⟨y, hy, rfl⟩
        exact hSB y.1 h1 b (List.mem_map.2 ⟨_, List.mem_of_getElem? hi, rfl⟩) e
      · rw [List.getElem?_append_right (by omega), List.getElem?_append_right (by omega), ← hlen]
        exact hi
section
variable {E : Env} {g : Bool} {ops : Array Oper} {K : (Nat → Value) → List Bl → Prop} {r : List Oper} {T : Nat → Value} {m : Nat} {d : Tmp} {ty : TypeId} {pos : String} {af : Array Edge}
theorem r_up {Ls : List (List Bl)} {op : Op} (p : Value → List Bl → Prop) (k : Nat) {S : List Bl} (hd : decide (d < E.n) = true) (hk : E.ks.find? (fun x => x.1 == some d) = some (some d, true)) (hsel : isSel op = false)
    (hS : Ls[k]? = some S) (hm : decide (m ≤ (Ls.take k).flatten.length) = true) (hw : ∃ v S', p v S') (hnm : ∀ v S', p v S' → S'.map (·.1) = S.map (·.1))
    (hrun : ∀ own nw w, Sees E Ls.flatten m own nw → (∀ a v, cellA E own nw a = some v → w.cell? a = some v) → (∀ x ∈ S, Holds w x.1 x.2.1 x.2.2) → ∃ v w' S', (execOp (rd T) ⟨some d, op, ty, pos, af, none⟩).run E.P w = .ok (.value v) w' ∧ ExtW w w' [] S' ∧ p v S')
    (hcon : ∀ args view v L U, E.con ⟨some d, op, ty, pos, af, none⟩ args view v L U ↔ pUp p v L U)
    (h : ∀ v S', p v S' → lx E g ops K r (upd T d v) (Ls.set k S').flatten m) : lx E g ops K (⟨some d, op, ty, pos, af, none⟩ :: r) T Ls.flatten m := by
  have hm' := of_decide_eq_true hm
  obtain ⟨hf1, hf2⟩ := flat_split hS
  refine r_g true (pUp p) hd hk hsel (decide_eq_true (by rw [hf1, List.length_append]; omega)) (fun hnd own nw hse => ?_) (fun v L U hp => ?_)
  · have hco : conOf E ⟨T, own, nw⟩ ⟨some d, op, ty, pos, af, none⟩ = pUp p := by
      funext v L U; exact propext (hcon _ _ v L U)
    have hSn : (S.map (·.1)).Nodup := by
      rw [hf1, List.map_append, List.map_append, List.nodup_append] at hnd
      exact (List.nodup_append.1 hnd.2.1).1
    have hblk : ∀ x ∈ S, own x.1 = some x.2 ∧ nw x.1 = false := fun x hx => by
      obtain ⟨i, him, hi⟩ := mem_chunk hS hm x hx
      obtain ⟨g1, g2⟩ := hse.has i _ _ hi
      exact ⟨g1, by rw [g2]; simp; omega⟩
    refine ⟨⟨fun _ k => ?_, fun v L U hc => ?_, fun v L U hc x hx => ?_, fun h => (nomatch h), fun w _ hcell hheap => ?_⟩, fun v L U hc => by rw [hco] at hc; exact hc⟩
    · rw [hco]; obtain ⟨v, S', hp⟩ := hw
      exact ⟨v, [], S', ⟨rfl, hp⟩, fun x hx => (nomatch hx)⟩
    · rw [hco] at hc; obtain ⟨rfl, hc⟩ := hc
      exact ⟨List.nodup_nil, by rw [hnm _ _ hc]; exact hSn⟩
    · rw [hco] at hc; obtain ⟨rfl, hc⟩ := hc
      have : x.1 ∈ S.map (·.1) := by rw [← hnm _ _ hc]; exact List.mem_map.2 ⟨x, hx, rfl⟩
      obtain ⟨y, hy, e⟩ := List.mem_map.1 this
      rw [← e]
      exact ⟨⟨_, (hblk y hy).1⟩, (hblk y hy).2⟩
    · rw [hco]
      obtain ⟨v, w', S', h1, h2, h3⟩ := hrun own nw w hse hcell (fun x hx => hheap x.1 x.2 (hblk x hx).1 (hblk x hx).2)
      exact .inl ⟨v, w', [], S', h1, h2, rfl, h3⟩
  · obtain ⟨rfl, hp⟩ := hp
    refine ⟨(Ls.set k U).flatten, fun hnd => ?_, by rw [List.append_nil]; exact h v U hp⟩
    rw [hf1, hf2] at *
    exact PutU.part hnd (hnm _ _ hp)
/-- An operation that makes some memory, by what is there. -/
theorem r_goH {l : List Bl} {op : Op} (p : Pst) (hd : decide (d < E.n) = true) (hk : E.ks.find? (fun x => x.1 == some d) = some (some d, false)) (hsel : isSel op = false) (hm : decide (m ≤ l.length) = true)
    (hrun : ∀ own nw w, Sees E l m own nw → (∀ a v, cellA E own nw a = some v → w.cell? a = some v) → (∀ i b T cs, m ≤ i → l[i]? = some (b, T, cs) → Holds w b T cs) → GenRun E.P (rd T) ⟨some d, op, ty, pos, af, none⟩ w p)
    (hcon : ∀ args view v L U, E.con ⟨some d, op, ty, pos, af, none⟩ args view v L U ↔ p v L U) (hn : Nice p)
    (h : ∀ v L, p v L [] → lx E g ops K r (upd T d v) (l ++ L) m) : lx E g ops K (⟨some d, op, ty, pos, af, none⟩ :: r) T l m := by
  refine r_g false p hd hk hsel hm (fun hnd own nw hse => ?_) (fun v L U hp => ?_)
  · have hco : conOf E ⟨T, own, nw⟩ ⟨some d, op, ty, pos, af, none⟩ = p := by
      funext v L U; exact propext (hcon _ _ v L U)
    refine ⟨⟨?_, ?_, ?_, ?_, ?_⟩, ?_⟩
    · rw [hco]; exact fun _ => hn.wit
    · rw [hco]; exact fun v L U hp => ⟨(hn.nod v L U hp).1, by rw [(hn.nod v L U hp).2]; exact List.nodup_nil⟩
    · rw [hco]; intro v L U hp x hx; rw [(hn.nod v L U hp).2] at hx; cases hx
    · rw [hco]; exact fun _ v L U hp => (hn.nod v L U hp).2
    · rw [hco]
      intro w _ hcell hheap
      refine hrun own nw w hse hcell (fun i b T cs him hi => ?_)
      obtain ⟨g1, g2⟩ := hse.has i b (T, cs) hi
      exact hheap b (T, cs) g1 (by show nw b = false; rw [g2]; simp; omega)
    · rw [hco]; exact fun v L U hp => hp
  · obtain ⟨_, rfl⟩ := hn.nod v L U hp
    exact ⟨l, fun _ => PutU.nil _, h v L hp⟩
end

theorem ExtW.same_of {w : World} {S : List Bl} (h : ∀ x ∈ S, Holds w x.1 x.2.1 x.2.2) : ExtW w w [] S :=
  ⟨rfl, rfl, rfl, Nat.le_refl _, fun _ _ _ => rfl, h, fun _ h => (nomatch h), Nat.le_refl _⟩
/-- What an extern function's call comes to. -/
theorem run_ext {P : Program} {ρ : Operand → Value} {o : Oper} {f : FuncId} {fn : Func} {args : Array Value} {e : Array Value → Sem Value} (hx : execOp ρ o = callFunc f args) (hf : P.funcs[f]? = some fn) (hname : (fn.name == "runtime.NumGoroutine") = false)
    (hb : fn.body.isNone = true) (hn : Extern.findNext fn = none) (he : Extern.find fn = some e) {w w' : World} {v : Value} (hr : (e args).run P w = .ok v w') : (execOp ρ o).run P w = .ok (.value v) w' := by
  rw [hx, run_callFunc_extern hf hname hb hn he, hr]; rfl

theorem exec_fn {t : Nat → Value} {d : Option Tmp} {f : FuncId} {xs : List Operand} {ts : Array TypeId} {ty : TypeId} {pos : String} {af : Array Edge} {g : Option (Nat × Bool)} {as : List Value} (ha : xs.map (rd t) = as) :
    execOp (rd t) ⟨d, .call ⟨.value (.func f), xs.toArray, ts⟩, ty, pos, af, g⟩ = callFunc f as.toArray := by
  subst ha
  unfold execOp
  simp [resolve, Deferred.ofValue, rd, invoke]
/-- An extern function's call, as a value. -/
theorem ev_ext {P : Program} {c : Addr → Option Value} {ρ : Operand → Value} {o : Oper} {f : FuncId} {fn : Func} {args : Array Value} {e : Array Value → Sem Value} {v : Value} (hx : execOp ρ o = callFunc f args) (hf : P.funcs[f]? = some fn) (hname : (fn.name == "runtime.NumGoroutine") = false)
    (hb : fn.body.isNone = true) (hn : Extern.findNext fn = none) (he : Extern.find fn = some e) (hv : ev P c (e args) = some v) : ev P c (execOp ρ o) = some (.value v) := by
  have h1 : fn.name ≠ "runtime.NumGoroutine" := by simpa using hname
  have h2 : fn.body = none := by simpa using hb
  rw [hx]
  unfold callFunc
  simp only [ev_bind, program, ev, Option.bind_some, hf]
  rw [if_neg (by simp [h1]), if_pos hb]
  simp only [ev_bind, mark, ev, Option.bind_some, hn, he, hv, ev_pure]
def idxByte (s : List UInt8) (c : UInt8) : Int := match (List.range s.length).find? (fun i => s.getD i 0 == c) with | some i => ((i : Nat) : Int) | none => -1
theorem ev_idxByte {P : Program} {c : Addr → Option Value} (s : List UInt8) (x : UInt8) : ev P c (Extern.BytealgIndexByte.indexByte #[.string ⟨s.toArray⟩, .int .u8 ((x.toNat : Nat) : Int)]) = some (.int .i64 (idxByte s x)) := by
  have hdef : Extern.BytealgIndexByte.indexByte #[.string ⟨s.toArray⟩, .int .u8 ((x.toNat : Nat) : Int)] = (match (List.range (⟨s.toArray⟩ : ByteArray).size).find? fun i => (⟨s.toArray⟩ : ByteArray)[i]! == (((x.toNat : Nat) : Int).toNat).toUInt8 with
    | some i => pure (goInt i)
    | none => pure (goInt (-1))) := rfl
  have e2 : (⟨s.toArray⟩ : ByteArray).size = s.length := by show s.toArray.size = _; simp
  have e3 : (((x.toNat : Nat) : Int).toNat).toUInt8 = x := by simp
  have e1 : ∀ i : Nat, (⟨s.toArray⟩ : ByteArray)[i]! = s.getD i 0 := fun i => by
    by_cases h : i < s.length
    · rw [getElem!_pos _ i (by rw [e2]; exact h), List.getD_eq_getElem?_getD, List.getElem?_eq_getElem h]; rfl
    · rw [getElem!_neg _ i (by rw [e2]; exact h), List.getD_eq_getElem?_getD, List.getElem?_eq_none (by omega)]; rfl
  rw [hdef, e2, e3]
  unfold idxByte
  have hf : (fun i : Nat => (⟨s.toArray⟩ : ByteArray)[i]! == x) = (fun i => s.getD i 0 == x) := funext fun i => by rw [e1]
  rw [hf]
  cases (List.range s.length).find? (fun i => s.getD i 0 == x) with
  | some i => rfl
  | none => rfl
/-! ### The builder's own address -/
/-- the cell in which a builder keeps its own address, once it is used -/
def selfP (b : Nat) : Bool → Value
  | true => .pointer (some ⟨b, 0, none⟩)
  | false => .pointer none
section
variable {P : Program} {c : Addr → Option Value} {ρ : Operand → Value} {d : Option Tmp} {t t' e : TypeId} {x x' y : Operand} {ty : TypeId} {pos : String} {af : Array Edge} {g : Option (Nat × Bool)} {i : TypeInfo} {b : Nat} {f : Bool}
theorem ev_ptrNN (ht : P.underlying t = some (.pointer e)) : ev P c (Op.equal t (.pointer none) (.pointer none)) = some true := by
  show ev P c (Op.equalIn (9999 + 1) t _ _) = some true
  unfold Op.equalIn
  simp [ev_bind, ev_underlying ht, ev_pure]
theorem ev_ptrSN {a : Addr} (ht : P.underlying t = some (.pointer e)) : ev P c (Op.equal t (.pointer (some a)) (.pointer none)) = some false := by
  show ev P c (Op.equalIn (9999 + 1) t _ _) = some false
  unfold Op.equalIn
  simp [ev_bind, ev_underlying ht, ev_pure]
theorem ev_ptrNS {a : Addr} (ht : P.underlying t = some (.pointer e)) : ev P c (Op.equal t (.pointer none) (.pointer (some a))) = some false := by
  show ev P c (Op.equalIn (9999 + 1) t _ _) = some false
  unfold Op.equalIn
  simp [ev_bind, ev_underlying ht, ev_pure]
theorem ev_selfE (hx : ρ x = selfP b f) (hy : ρ y = .pointer none) (ht : P.underlying t = some (.pointer e)) : ev P c (execOp ρ ⟨d, .binOp .eql t x y t', ty, pos, af, g⟩) = some (.value (.bool !f)) := by
  refine ev_v (s := do eqGuard .eql t x y (ρ x) (ρ y); binOp .eql t (ρ x) (ρ y)) ?_
  rw [hx, hy]
  cases f
  · simp only [ev_bind, Option.bind_some, binOp, selfP, ev_ptrNN ht, ev_pure]; rfl
  · simp only [ev_bind, Option.bind_some, binOp, selfP, ev_ptrSN ht, ev_pure]; rfl
theorem ev_selfN (hx : ρ x = selfP b f) (hy : ρ y = .pointer (some ⟨b, 0, none⟩)) (ht : P.underlying t = some (.pointer e)) (hi : P.info? e = some i) (hs : decide (i.size = 0) = false) :
    ev P c (execOp ρ ⟨d, .binOp .neq t x y t', ty, pos, af, g⟩) = some (.value (.bool !f)) := by
  cases f
  · refine ev_v (s := do eqGuard .neq t x y (ρ x) (ρ y); binOp .neq t (ρ x) (ρ y)) ?_
    rw [hx, hy]
    simp only [ev_bind, Option.bind_some, binOp, selfP, ev_ptrNS ht, ev_pure]; rfl
  · exact ev_neqP hx hy ht hi hs
theorem ev_shrJ {x : Int} {k : IntKind} {z : Int} (n : Nat) (hx : ρ x' = .int .i32 x) (hy : ρ y = .int k z) (hz : z = (n : Int) := by rfl) (hn : decide (n < 32) = true := by rfl) : ev P c (execOp ρ ⟨d, .binOp .shr t x' y t', ty, pos, af, g⟩) = some (.value (.int .i32 (shrI x n))) := by
  refine ev_v (s := do eqGuard .shr t x' y (ρ x') (ρ y); binOp .shr t (ρ x') (ρ y)) ?_
  subst hz
  have hn := of_decide_eq_true hn
  rw [hx, hy]
  have h1 : ¬ ((n : Int) < 0) := by omega
  have h2 : ev P c (eqGuard .shr t x' y (.int .i32 x) (.int k (n : Int))) = some () := rfl
  have h3 : min (Int.toNat (n : Int)) 32 = n := by rw [Int.toNat_natCast]; omega
  have h4 : min n 64 = n := by omega
  simp only [ev_bind, h2, Option.bind_some, binOp, Op.shift, if_neg h1, ev_pure, IntKind.bits, h3, shrI, h4]
theorem selfP_cells : (selfP b f).cells = #[selfP b f] := by cases f <;> rfl
theorem selfP_one : (selfP b f).oneCell' = true := by cases f <;> rfl
end
section
variable {E : Env} {g : Bool} {ops : Array Oper} {K : (Nat → Value) → List Bl → Prop} {r : List Oper} {T : Nat → Value} {m : Nat} {d : Tmp} {ty : TypeId} {pos : String} {af : Array Edge}
/-- An operation that comes to v, by what the blocks of a part are. -/
theorem r_hv {Ls : List (List Bl)} {op : Op} (v : Value) (k : Nat) {S : List Bl} (hd : decide (d < E.n) = true) (hk : E.ks.find? (fun x => x.1 == some d) = some (some d, true)) (hsel : isSel op = false)
    (hS : Ls[k]? = some S) (hm : decide (m ≤ (Ls.take k).flatten.length) = true)
    (hrun : ∀ w, (∀ x ∈ S, Holds w x.1 x.2.1 x.2.2) → (execOp (rd T) ⟨some d, op, ty, pos, af, none⟩).run E.P w = .ok (.value v) w)
    (hcon : ∀ args view v' L U, E.con ⟨some d, op, ty, pos, af, none⟩ args view v' L U ↔ pUp (fun v' U => v' = v ∧ U = S) v' L U)
    (h : lx E g ops K r (upd T d v) Ls.flatten m) : lx E g ops K (⟨some d, op, ty, pos, af, none⟩ :: r) T Ls.flatten m := by
  refine r_up (fun v' U => v' = v ∧ U = S) k hd hk hsel hS hm ⟨v, S, rfl, rfl⟩ (fun _ _ h => by rw [h.2]) (fun own nw w hse hcell hh => ⟨v, w, S, hrun w hh, ExtW.same_of hh, rfl, rfl⟩) hcon (fun v' S' hp => ?_)
  obtain ⟨rfl, rfl⟩ := hp
  obtain ⟨hlt, he⟩ := List.getElem?_eq_some_iff.1 hS
  rw [← he, List.set_getElem_self hlt]
  exact h
end
section
variable {P : Program} {ρ : Operand → Value} {d : Option Tmp} {x : Operand} {ty : TypeId} {pos : String} {af : Array Edge} {g : Option (Nat × Bool)} {S : List Bl}
theorem run_toU {src dst t : TypeId} {j : TypeInfo} {b : Nat} {TB : TypeId} {cs : Array Value} (hx : ρ x = .pointer (some ⟨b, 0, none⟩)) (hs : P.underlying src = some (.pointer t)) (hd : P.underlying dst = some .unsafePointer) (ht : P.info? t = some j) (hj : decide (j.size = 0) = false)
    (hT : decide (TB < OBJ) = true) (h0 : decide (0 < cs.size) = true) (hm : (b, TB, cs) ∈ S) (w : World) (h : ∀ x ∈ S, Holds w x.1 x.2.1 x.2.2) : (execOp ρ ⟨d, .convert src dst x, ty, pos, af, g⟩).run P w = .ok (.value (.pointer (some ⟨b, 0, none⟩))) w := by
  have e : execOp ρ ⟨d, .convert src dst x, ty, pos, af, g⟩ = (do pure (Next.value (← convert src dst (ρ x))) : Sem Next) := rfl
  obtain ⟨fr, hh, _⟩ := (h _ hm).cells hT
  have hsh : w.shape? b = some (TB, cs.size) := by unfold World.shape?; rw [hh]
  rw [e, hx, Sem.run_bind, Go.Lib.run_to_unsafe w ⟨b, 0, none⟩ hs hd ht (of_decide_eq_false hj) hsh (of_decide_eq_true h0)]
  rfl
theorem run_fromU {src dst : TypeId} {j : TypeInfo} {b : Nat} {TB : TypeId} {cs : Array Value} (n : Nat) (hx : ρ x = .pointer (some ⟨b, 0, none⟩)) (hs : P.underlying src = some .unsafePointer) (hd : P.underlying dst = some (.pointer TB)) (ht : P.info? TB = some j)
    (hT : decide (TB < OBJ) = true) (hm : (b, TB, cs) ∈ S) (hsz : cs.size = n) (hl : liesAt P P.depth TB (n / P.cellsOf TB) 0 TB 1 = true) (w : World) (h : ∀ x ∈ S, Holds w x.1 x.2.1 x.2.2) : (execOp ρ ⟨d, .convert src dst x, ty, pos, af, g⟩).run P w = .ok (.value (.pointer (some ⟨b, 0, none⟩))) w := by
  have e : execOp ρ ⟨d, .convert src dst x, ty, pos, af, g⟩ = (do pure (Next.value (← convert src dst (ρ x))) : Sem Next) := rfl
  subst hsz
  obtain ⟨fr, hh, _⟩ := (h _ hm).cells hT
  have hsh : w.shape? b = some (TB, cs.size) := by unfold World.shape?; rw [hh]
  rw [e, hx, Sem.run_bind, Go.Lib.run_from_unsafe w ⟨b, 0, none⟩ hs hd ht hsh hl]
  rfl
end
/-! ### New bytes, whatever they are -/
theorem digits_all : ∀ (n t : Nat) (acc : Array Value) (ys : List UInt8), acc.toList = encY.all ys → ∃ xs : List UInt8, xs.length = ys.length + n ∧ (Extern.BytealgMakeNoZero.digits n t acc).toList = encY.all xs
  | 0, _, acc, ys, h => ⟨ys, rfl, h⟩
  | n + 1, t, acc, ys, h => by
    obtain ⟨xs, h1, h2⟩ := digits_all n (t / 256) (acc.push (.int .u8 (Int.ofNat (t % 256)))) (ys ++ [UInt8.ofNat (t % 256)]) (by
      rw [Array.toList_push, h, Enc.all_append]
      have : (UInt8.ofNat (t % 256)).toNat = t % 256 := by rw [UInt8.toNat_ofNat']; omega
      show _ = _ ++ [Value.int .u8 (((UInt8.ofNat (t % 256)).toNat : Nat) : Int)]
      rw [this]; rfl)
    exact ⟨xs, by rw [h1, List.length_append, List.length_singleton]; omega, h2⟩
def pMnz (e : TypeId) (n : Nat) : Pst := fun v L U => ∃ xs : List UInt8, xs.length = n ∧ Sl e encYs v xs L ∧ U = []
theorem nice_mnz (e : TypeId) (n : Nat) : Nice (pMnz e n) :=
  ⟨fun k => by
    obtain ⟨v, S, h1, h2⟩ := Sl.wit e encYs (List.replicate n (0 : UInt8)) k
    exact ⟨v, S, [], ⟨_, List.length_replicate, h1, rfl⟩, h2⟩, fun v L U ⟨xs, _, h2, h3⟩ => ⟨h2.nod, h3⟩⟩
section
variable {E : Env} {g : Bool} {ops : Array Oper} {K : (Nat → Value) → List Bl → Prop} {r : List Oper} {T : Nat → Value} {m : Nat} {d : Tmp} {ty : TypeId} {pos : String} {af : Array Edge}
theorem r_mnz {Ls : List (List Bl)} {c : Call} (e : TypeId) (n : Int) {t : TypeId} {ps : Array TypeId} {f : FuncId} {fn : Func} (hd : decide (d < E.n) = true) (hk : E.ks.find? (fun x => x.1 == some d) = some (some d, false)) (hm : decide (m ≤ Ls.flatten.length) = true)
    (hx : execOp (rd T) ⟨some d, .call c, ty, pos, af, none⟩ = callFunc f #[.int .i64 n]) (hf : E.P.funcs[f]? = some fn) (hname : (fn.name == "runtime.NumGoroutine") = false)
    (hb : fn.body.isNone = true) (hn : Extern.findNext fn = none) (he : Extern.find fn = some (Extern.BytealgMakeNoZero.makeNoZero ps #[t])) (hu : E.P.underlying t = some (.slice e)) (hnn : 0 ≤ n ∧ n ≤ 140737488355328)
    (hcon : ∀ args view v L U, E.con ⟨some d, .call c, ty, pos, af, none⟩ args view v L U ↔ pMnz e n.toNat v L U)
    (h : ∀ sv S xs, xs.length = n.toNat → Sl e encYs sv xs S → lx E g ops K r (upd T d sv) (Ls ++ [S]).flatten m) (hT : decide (e < OBJ) = true := by rfl) : lx E g ops K (⟨some d, .call c, ty, pos, af, none⟩ :: r) T Ls.flatten m := by
  obtain ⟨k, rfl⟩ : ∃ k : Nat, n = (k : Int) := ⟨n.toNat, by omega⟩
  simp only [Int.toNat_natCast] at h hcon
  refine r_go (pMnz e k) hd hk rfl hm (fun own nw w hse hcell => ?_) hcon (nice_mnz e k) (fun v L hp => ?_)
  · have hdig : ∃ (cap q : Nat), (Extern.BytealgMakeNoZero.makeNoZero ps #[t] #[.int .i64 k]).run E.P w = .ok (.slice (some ⟨w.heap.size, 0, none⟩) k cap) (w.drew.drew.alloc (.cells (Extern.BytealgMakeNoZero.digits cap q #[]) e)) ∧ k ≤ cap := by
      refine ⟨grownCap w k 0 e, ((Question.extern "internal/bytealg.MakeNoZero.bytes" 0).cut (w.tape (w.drawn + 1) (.extern "internal/bytealg.MakeNoZero.bytes" 0))), ?_, by simpa using grownCap_ge w k 0 e⟩
      have hdef : Extern.BytealgMakeNoZero.makeNoZero ps #[t] #[.int .i64 k] =
          (do
            let .slice elem ← underlying t | stuck "bytealg.MakeNoZero: slice type expected"
            if (k : Int) < 0 || (k : Int) > 2 ^ 48 then runtimePanic (.error "makeslice: len out of range")
            let cap ← choose (.appendCap (k : Int).toNat 0 elem)
            askRoom cap
            let bytes ← choose (.extern "internal/bytealg.MakeNoZero.bytes" 0)
            let a ← newRow elem (Extern.BytealgMakeNoZero.digits cap bytes #[])
            pure (.slice (some a) (k : Int).toNat cap)) := rfl
      rw [hdef]
      have h1 : ¬ (k : Int) < 0 := by omega
      have h2 : ¬ (281474976710656 : Int) < (k : Int) := by omega
      simp [run_underlying hu, h1, h2, Question.forced, newRow, grownCap]
    obtain ⟨cap, q, hrun, hle⟩ := hdig
    obtain ⟨ys, hy1, hy2⟩ := digits_all cap q #[] [] rfl
    have hyl : ys.length = cap := by rw [hy1]; simp
    have hcs : (Extern.BytealgMakeNoZero.digits cap q #[]).size = cap := by rw [← Array.length_toList, hy2, Enc.all_len, hyl]; exact Nat.mul_one _
    have htk : (ys.take k).length = k := by rw [List.length_take]; omega
    refine .inl ⟨_, _, [(w.heap.size, e, Extern.BytealgMakeNoZero.digits cap q #[])], [], run_ext hx hf hname hb hn he hrun, ⟨rfl, rfl, rfl, by simp, fun k hk _ => heap_alloc_old w.drew.drew _ k hk, fun _ h => (nomatch h), fun y hy => ?_, Nat.le_succ_of_le (Nat.le_succ _)⟩, ys.take k, htk, .inr ⟨w.heap.size, cap, _, by rw [htk], by rw [htk]; exact hle, ?_, ?_, rfl⟩, rfl⟩
    · simp only [List.mem_singleton] at hy; subst hy
      exact ⟨Nat.le_refl _, .of hT (heap_alloc_new w.drew.drew _)⟩
    · rw [hcs]; exact (Nat.mul_one _).symm
    · rw [hy2, htk]
      show List.take (k * 1) _ = encY.all (ys.take k)
      rw [Enc.all_take]; rfl
  · obtain ⟨xs, h1, hS, _⟩ := hp
    have := h v L xs h1 hS
    rw [List.flatten_append] at this
    simpa using this
end
/-! ### Texts laid over bytes -/
/-- Blocks of which nothing is known any more. -/
def deadB (S : List Bl) : List Bl := S.map fun x => (x.1, deadT, #[])
theorem deadB_names (S : List Bl) : (deadB S).map (·.1) = S.map (·.1) := by unfold deadB; rw [List.map_map]; rfl
theorem deadB_holds {S : List Bl} {w : World} (h : ∀ x ∈ S, x.1 < w.heap.size) : ∀ x ∈ deadB S, Holds w x.1 x.2.1 x.2.2 := fun x hx => by
  obtain ⟨y, hy, rfl⟩ := List.mem_map.1 hx
  exact .dead (h y hy)
def UsdP (s v : Value) : Prop := (s = .slice none 0 0 ∧ v = .pointer none) ∨ ∃ g n cap, s = .slice (some ⟨g, 0, none⟩) n cap ∧ ((cap ≠ 0 ∧ v = .pointer (some ⟨g, 0, none⟩)) ∨ cap = 0 ∧ ∃ q, v = .pointer q)
theorem heap_freeze (w : World) (a : Addr) (n : Nat) {k : Nat} (h : k ≠ a.block) : (w.freeze a n).heap[k]? = w.heap[k]? := by
  unfold World.freeze
  split
  · rfl
  · simp only [Array.getElem?_modify]
    rw [if_neg (fun e => h e.symm)]
theorem size_freeze (w : World) (a : Addr) (n : Nat) : (w.freeze a n).heap.size = w.heap.size := by
  unfold World.freeze
  split
  · rfl
  · simp
section
variable {E : Env} {g : Bool} {ops : Array Oper} {K : (Nat → Value) → List Bl → Prop} {r : List Oper} {T : Nat → Value} {m : Nat} {d : Tmp} {ty : TypeId} {pos : String} {af : Array Edge}
theorem r_usd {Ls : List (List Bl)} {ts : Array TypeId} {x : Operand} (k : Nat) {S : List Bl} {e : TypeId} {s : Value} {xs : List UInt8} (hd : decide (d < E.n) = true) (hk : E.ks.find? (fun x => x.1 == some d) = some (some d, false))
    (hS : Ls[k]? = some S) (hm : decide (m ≤ (Ls.take k).flatten.length) = true) (hx : rd T x = s) (hSl : Sl e encYs s xs S) (hp : E.P.underlying ty = some (.pointer e)) (hT : decide (e < OBJ) = true)
    (hcon : ∀ args view v L U, E.con ⟨some d, .call ⟨.builtin .unsafeSliceData, #[x], ts⟩, ty, pos, af, none⟩ args view v L U ↔ (fun v L U => UsdP s v ∧ L = [] ∧ U = [] : Pst) v L U)
    (h : ∀ v, UsdP s v → lx E g ops K r (upd T d v) Ls.flatten m) : lx E g ops K (⟨some d, .call ⟨.builtin .unsafeSliceData, #[x], ts⟩, ty, pos, af, none⟩ :: r) T Ls.flatten m := by
  have hex : ∀ v w w', (Builtin.unsafeSliceData_ ts ty #[s]).run E.P w = .ok v w' → (execOp (rd T) ⟨some d, .call ⟨.builtin .unsafeSliceData, #[x], ts⟩, ty, pos, af, none⟩).run E.P w = .ok (.value v) w' := fun v w w' hv => by
    unfold execOp
    simp only [resolve, invoke, builtin, Sem.run_bind, Sem.run_pure, Result.andThen_ok, List.map_toArray, List.map_cons, List.map_nil, hx, hv]
  have hwit : ∃ v, UsdP s v := by
    rcases hSl with ⟨⟨_ | a, ha⟩, rfl, _, _⟩ | ⟨b, cap, cs, rfl, _⟩
    · exact ⟨_, .inl ⟨rfl, rfl⟩⟩
    · rcases ha with ha | ha
      · cases ha
      · exact ha.elim
    · by_cases hc : cap = 0
      · exact ⟨_, .inr ⟨b, _, cap, rfl, .inr ⟨hc, none, rfl⟩⟩⟩
      · exact ⟨_, .inr ⟨b, _, cap, rfl, .inl ⟨hc, rfl⟩⟩⟩
  obtain ⟨hf1, _⟩ := flat_split hS
  refine r_goH (fun v L U => UsdP s v ∧ L = [] ∧ U = []) hd hk rfl (decide_eq_true (by have := of_decide_eq_true hm; rw [hf1, List.length_append]; omega)) (fun own nw w hse hcell hh => ?_) hcon ⟨fun k => by obtain ⟨v, hv⟩ := hwit; exact ⟨v, [], [], ⟨hv, rfl, rfl⟩, fun _ h => (nomatch h)⟩, fun v L U hp => ⟨by rw [hp.2.1]; exact List.nodup_nil, hp.2.2⟩⟩ (fun v L hp => ?_)
  · have hhs : ∀ x ∈ S, Holds w x.1 x.2.1 x.2.2 := fun x hx => by
      obtain ⟨i, him, hi⟩ := mem_chunk hS hm x hx
      exact hh i x.1 x.2.1 x.2.2 him hi
    rcases hSl with ⟨⟨_ | a, ha⟩, rfl, _, _⟩ | ⟨b, cap, cs, rfl, _, _, _, rfl⟩
    · exact .inl ⟨_, w, [], [], hex _ _ _ (Go.Lib.run_unsafeSliceData_nil w ts ty 0 0), ⟨rfl, rfl, rfl, Nat.le_refl _, fun _ _ _ => rfl, fun _ h => (nomatch h), fun _ h => (nomatch h), Nat.le_refl _⟩, .inl ⟨rfl, rfl⟩, rfl, rfl⟩
    · rcases ha with ha | ha
      · cases ha
      · exact ha.elim
    · by_cases hc : cap = 0
      · subst hc
        obtain ⟨fr, hb, _⟩ := (hhs _ (List.mem_singleton.2 rfl)).cells hT
        have hsh : w.shape? b = some (e, cs.size) := by unfold World.shape?; rw [hb]
        exact .inl ⟨_, w.alloc (.view ⟨b, 0, none⟩ e), [], [], hex _ _ _ (Go.Lib.run_unsafeSliceData_zero w ts ty e hp ⟨b, 0, none⟩ _ _ hsh), ⟨rfl, rfl, rfl, by simp, fun k hk _ => heap_alloc_old w _ k hk, fun _ h => (nomatch h), fun _ h => (nomatch h), Nat.le_refl _⟩, .inr ⟨b, _, 0, rfl, .inr ⟨rfl, _, rfl⟩⟩, rfl, rfl⟩
      · exact .inl ⟨_, w, [], [], hex _ _ _ (Go.Lib.run_unsafeSliceData_row w ts ty ⟨b, 0, none⟩ _ cap hc), ⟨rfl, rfl, rfl, Nat.le_refl _, fun _ _ _ => rfl, fun _ h => (nomatch h), fun _ h => (nomatch h), Nat.le_refl _⟩, .inr ⟨b, _, cap, rfl, .inl ⟨hc, rfl⟩⟩, rfl, rfl⟩
  · obtain ⟨hv, rfl, _⟩ := hp
    rw [List.append_nil]
    exact h v hv
theorem r_uss {Ls : List (List Bl)} {pt it : TypeId} {x y : Operand} (k : Nat) {S : List Bl} {e : TypeId} {s p : Value} {xs : List UInt8} (hd : decide (d < E.n) = true) (hk : E.ks.find? (fun x => x.1 == some d) = some (some d, true))
    (hS : Ls[k]? = some S) (hm : decide (m ≤ (Ls.take k).flatten.length) = true) (hx : rd T x = p) (hy : rd T y = .int .i64 ((xs.length : Nat) : Int)) (hSl : Sl e encYs s xs S) (hp : UsdP s p) (hpt : E.P.underlying pt = some (.pointer e)) (hc : E.P.cellsOf e = 1) (hT : decide (e < OBJ) = true)
    (h63 : xs.length ≤ 140737488355328)
    (hcon : ∀ args view v L U, E.con ⟨some d, .call ⟨.builtin .unsafeString, #[x, y], #[pt, it]⟩, ty, pos, af, none⟩ args view v L U ↔ pUp (fun v U => v = .string ⟨xs.toArray⟩ ∧ U = deadB S) v L U)
    (h : lx E g ops K r (upd T d (.string ⟨xs.toArray⟩)) (Ls.set k (deadB S)).flatten m) : lx E g ops K (⟨some d, .call ⟨.builtin .unsafeString, #[x, y], #[pt, it]⟩, ty, pos, af, none⟩ :: r) T Ls.flatten m := by
  have hex : ∀ v w w', (Builtin.unsafeString_ #[pt, it] ty #[p, .int .i64 ((xs.length : Nat) : Int)]).run E.P w = .ok v w' → (execOp (rd T) ⟨some d, .call ⟨.builtin .unsafeString, #[x, y], #[pt, it]⟩, ty, pos, af, none⟩).run E.P w = .ok (.value v) w' := fun v w w' hv => by
    unfold execOp
    simp only [resolve, invoke, builtin, Sem.run_bind, Sem.run_pure, Result.andThen_ok, List.map_toArray, List.map_cons, List.map_nil, hx, hy, hv]
  refine r_up (fun v U => v = .string ⟨xs.toArray⟩ ∧ U = deadB S) k hd hk rfl hS hm ⟨_, _, rfl, rfl⟩ (fun _ _ h => by rw [h.2, deadB_names]) (fun own nw w hse hcell hh => ?_) hcon (fun v S' hp => by obtain ⟨rfl, rfl⟩ := hp; exact h)
  have hr : Rd encYs (cellA E own nw) s xs := rd_own hSl (mem_chunk hS hm) own nw hse
  by_cases h0 : xs = []
  · subst h0
    obtain ⟨q, rfl⟩ : ∃ q, p = .pointer q := by
      rcases hp with ⟨_, rfl⟩ | ⟨g, n, cap, _, ⟨_, rfl⟩ | ⟨_, q, rfl⟩⟩
      · exact ⟨_, rfl⟩
      · exact ⟨_, rfl⟩
      · exact ⟨_, rfl⟩
    exact ⟨_, w, deadB S, hex _ _ _ (Go.Lib.run_unsafeString_none w pt it ty q), ⟨rfl, rfl, rfl, Nat.le_refl _, fun _ _ _ => rfl, deadB_holds (fun x hx => (hh x hx).lt), fun _ h => (nomatch h), Nat.le_refl _⟩, rfl, rfl⟩
  · have hpos : 0 < xs.length := List.length_pos_iff.2 h0
    rcases hSl with ⟨a, _, h1, _⟩ | ⟨b, cap, cs, rfl, hle, hcs, htk, rfl⟩
    · exact absurd h1 h0
    · have hp' : p = .pointer (some ⟨b, 0, none⟩) := by
        rcases hp with ⟨h1, _⟩ | ⟨g, n, cap', h1, h2⟩
        · cases h1
        · simp only [Value.slice.injEq, Option.some.injEq, Addr.mk.injEq, and_true] at h1
          obtain ⟨rfl, rfl, rfl⟩ := h1
          rcases h2 with ⟨_, rfl⟩ | ⟨rfl, _⟩
          · rfl
          · omega
      subst hp'
      obtain ⟨fr, hb, _⟩ := (hh _ (List.mem_singleton.2 rfl)).cells hT
      have hsh : w.shape? b = some (e, cs.size) := by unfold World.shape?; rw [hb]
      have hcs' : cs.size = cap := by rw [hcs]; exact Nat.mul_one _
      refine ⟨_, w.freeze ⟨b, 0, none⟩ xs.length, _, hex _ _ _ (Go.Lib.run_unsafeString_row w pt it ty e hpt hc b cs.size hsh xs h0 (by rw [hcs']; exact hle) (by omega) (fun j x hj => ?_)), ⟨?_, ?_, ?_, by rw [size_freeze]; exact Nat.le_refl _, fun k hk hne => heap_freeze w _ _ (fun e => hne (b, deadT, #[]) (by simp [deadB]) e.symm), deadB_holds (fun x hx => by rw [size_freeze]; exact (hh x hx).lt), fun _ h => (nomatch h), (by unfold World.freeze; split <;> exact Nat.le_refl _)⟩, rfl, rfl⟩
      · rcases hr with ⟨h1, _⟩ | ⟨a, cap', h1, h2, _, h3⟩
        · cases h1
        · simp only [Value.slice.injEq, Option.some.injEq, true_and] at h1
          obtain ⟨rfl, rfl⟩ := h1
          rw [add_none rfl]
          exact hcell _ _ (h3 _ _ (encYs.all_get hj 0 _ rfl |> fun h => by simpa [show encYs.sz = 1 from rfl] using h))
      · unfold World.freeze; split <;> rfl
      · unfold World.freeze; split <;> rfl
      · unfold World.freeze; split <;> rfl
end
/-! ### copy -/
theorem cpy_sl {α : Type} {e : TypeId} {En : Enc α} {xs ys : List α} {b cap n : Nat} {cs : Array Value} (hle : xs.length ≤ cap) (hcs : cs.size = cap * En.sz) (htk : cs.toList.take (xs.length * En.sz) = En.all xs) (hn : n = min ys.length xs.length) :
    Sl e En (.slice (some ⟨b, 0, none⟩) xs.length cap) (ys.take xs.length ++ xs.drop ys.length) [(b, e, (cs.toList.take 0 ++ En.all (ys.take n) ++ cs.toList.drop (0 + (En.all (ys.take n)).length)).toArray)] := by
  have hyn : ys.take n = ys.take xs.length := by
    rw [hn]
    rcases Nat.le_total ys.length xs.length with h | h
    · rw [Nat.min_eq_left h, List.take_length, List.take_of_length_le h]
    · rw [Nat.min_eq_right h]
  have hnl : (ys.take n).length = n := by rw [List.length_take]; omega
  have hlen : (ys.take xs.length ++ xs.drop ys.length).length = xs.length := by rw [List.length_append, List.length_take, List.length_drop]; omega
  have hall : (En.all (ys.take n)).length = n * En.sz := by rw [En.all_len, hnl]
  have hnx : n * En.sz ≤ xs.length * En.sz := Nat.mul_le_mul_right _ (by omega)
  have hxc : xs.length * En.sz ≤ cap * En.sz := Nat.mul_le_mul_right _ hle
  refine .inr ⟨b, cap, _, by rw [hlen], by rw [hlen]; exact hle, ?_, ?_, rfl⟩
  · simp only [List.take_zero, List.nil_append, Nat.zero_add, List.size_toArray, List.length_append, List.length_drop, Array.length_toList, hall, hcs]; omega
  · simp only [List.take_zero, List.nil_append, Nat.zero_add, hall, hlen]
    have hd : (cs.toList.drop (n * En.sz)).take (xs.length * En.sz - n * En.sz) = En.all (xs.drop ys.length) := by
      rw [← List.drop_take, htk, Enc.all_drop]
      rcases Nat.le_total ys.length xs.length with h | h
      · rw [show n = ys.length from by omega]
      · have e1 : n = xs.length := by omega
        rw [e1, List.drop_eq_nil_of_le (Nat.le_of_eq (En.all_len xs)), List.drop_eq_nil_of_le (by rw [En.all_len]; exact Nat.mul_le_mul_right _ h)]
    rw [List.take_append, List.take_of_length_le (by rw [hall]; exact hnx), hall, hd, Enc.all_append, hyn]
section
variable {E : Env} {g : Bool} {ops : Array Oper} {K : (Nat → Value) → List Bl → Prop} {r : List Oper} {T : Nat → Value} {m : Nat} {d : Tmp} {ty : TypeId} {pos : String} {af : Array Edge}
theorem r_cpyG {α : Type} {Ls : List (List Bl)} {t u : TypeId} {x y : Operand} (k : Nat) {S : List Bl} {e : TypeId} {En : Enc α} {sv xv : Value} {xs ys : List α} {ii : TypeInfo} (hd : decide (d < E.n) = true) (hk : E.ks.find? (fun x => x.1 == some d) = some (some d, true))
    (hS : Ls[k]? = some S) (hm : decide (m ≤ (Ls.take k).flatten.length) = true) (hx : rd T x = sv) (hy : rd T y = xv) (hSl : Sl e En sv xs S)
    (hlen : ∀ w, (Builtin.lenOf xv).run E.P w = .ok ys.length w)
    (hf : ∀ own nw w (n : Nat), Sees E Ls.flatten m own nw → (∀ a v, cellA E own nw a = some v → w.cell? a = some v) → n ≤ ys.length → (Builtin.firstCells ii.size n xv).run E.P w = .ok (En.all (ys.take n)).toArray w)
    (hu : E.P.underlying t = some (.slice e)) (hi : E.P.info? e = some ii) (hT : decide (e < OBJ) = true)
    (hcon : ∀ args view v L U, E.con ⟨some d, .call ⟨.builtin .copy, #[x, y], #[t, u]⟩, ty, pos, af, none⟩ args view v L U ↔ pUp (fun v U => v = .int .i64 ((min ys.length xs.length : Nat) : Int) ∧ Sl e En sv (ys.take xs.length ++ xs.drop ys.length) U ∧ U.map (·.1) = S.map (·.1)) v L U)
    (h : ∀ S', Sl e En sv (ys.take xs.length ++ xs.drop ys.length) S' → lx E g ops K r (upd T d (.int .i64 ((min ys.length xs.length : Nat) : Int))) (Ls.set k S').flatten m) : lx E g ops K (⟨some d, .call ⟨.builtin .copy, #[x, y], #[t, u]⟩, ty, pos, af, none⟩ :: r) T Ls.flatten m := by
  have hex : ∀ v w w', (Builtin.copy_ #[t, u] ty #[sv, xv]).run E.P w = .ok v w' → (execOp (rd T) ⟨some d, .call ⟨.builtin .copy, #[x, y], #[t, u]⟩, ty, pos, af, none⟩).run E.P w = .ok (.value v) w' := fun v w w' hv => by
    unfold execOp
    simp only [resolve, invoke, builtin, Sem.run_bind, Sem.run_pure, Result.andThen_ok, List.map_toArray, List.map_cons, List.map_nil, hx, hy, hv]
  have hwit : ∃ S', Sl e En sv (ys.take xs.length ++ xs.drop ys.length) S' ∧ S'.map (·.1) = S.map (·.1) := by
    rcases hSl with ⟨a, rfl, rfl, rfl⟩ | ⟨b, cap, cs, rfl, hle, hcs, htk, rfl⟩
    · exact ⟨[], .inl ⟨a, rfl, by simp, rfl⟩, rfl⟩
    · exact ⟨_, cpy_sl hle hcs htk rfl, rfl⟩
  refine r_up (fun v U => v = .int .i64 ((min ys.length xs.length : Nat) : Int) ∧ Sl e En sv (ys.take xs.length ++ xs.drop ys.length) U ∧ U.map (·.1) = S.map (·.1)) k hd hk rfl hS hm (by obtain ⟨S', h1, h2⟩ := hwit; exact ⟨_, S', rfl, h1, h2⟩) (fun _ _ h => h.2.2) (fun own nw w hse hcell hh => ?_) hcon (fun v S' hp => by obtain ⟨rfl, h1, _⟩ := hp; exact h S' h1)
  rcases hSl with ⟨a, rfl, rfl, rfl⟩ | ⟨b, cap, cs, rfl, hle, hcs, htk, rfl⟩
  · have hf0 := hf own nw w 0 hse hcell (Nat.zero_le _)
    refine ⟨.int .i64 0, w, [], hex _ _ _ ?_, ExtW.same_of (fun _ h => (nomatch h)), by simp, .inl ⟨a, rfl, by simp, rfl⟩, rfl⟩
    rcases a with ⟨_ | a, ha⟩
    · simp [Builtin.copy_, run_underlying hu, hlen, sizeOf, typeInfo, hi, hf0, goInt]
    · simp [Builtin.copy_, run_underlying hu, hlen, sizeOf, typeInfo, hi, hf0, goInt, storeCells, Enc.all]
  · have hnl : (ys.take (min ys.length xs.length)).length = min ys.length xs.length := by rw [List.length_take]; omega
    have hf1 := hf own nw w (min ys.length xs.length) hse hcell (Nat.min_le_left _ _)
    have hb : Holds w b e cs := hh _ (List.mem_singleton.2 rfl)
    have hnx : (En.all (ys.take (min ys.length xs.length))).length ≤ cs.size := by
      rw [En.all_len, hnl, hcs]
      exact Nat.mul_le_mul_right _ (by omega)
    have hst := hb.store (fun h9 => by rw [h9] at hT; exact absurd hT (by decide)) E.P 0 (En.all (ys.take (min ys.length xs.length))) (by rw [Nat.zero_add]; exact hnx) (En.all_one _)
    refine ⟨_, w.setRow b (cs.toList.take 0 ++ En.all (ys.take (min ys.length xs.length)) ++ cs.toList.drop (0 + (En.all (ys.take (min ys.length xs.length))).length)).toArray, _, hex _ _ _ ?_, ⟨rfl, rfl, rfl, by simp, fun k _ hk => setRow_other w b k _ (fun e => hk _ (List.mem_singleton.2 rfl) e.symm), fun y hy => ?_, fun _ h => (nomatch h), Nat.le_refl _⟩, rfl, cpy_sl hle hcs htk rfl, rfl⟩
    · have e1 : Nat.min ys.length xs.length = min ys.length xs.length := rfl
      simp only [Builtin.copy_, run_underlying hu, Sem.run_bind, Result.andThen_ok, hlen, run_sizeOf hi, e1, hf1, hst, Sem.run_pure, goInt, List.getElem?_toArray, List.getElem?_cons_zero, List.getElem?_cons_succ]
    · simp only [List.mem_singleton] at hy; subst hy
      exact hb.setRow _ (by simp only [List.take_zero, List.nil_append, Nat.zero_add, List.size_toArray, List.length_append, List.length_drop, Array.length_toList]; omega)
theorem r_cpy {α : Type} {Ls : List (List Bl)} {t u : TypeId} {x y : Operand} (k : Nat) {S : List Bl} {e : TypeId} {En : Enc α} {sv xv : Value} {xs ys : List α} {ii : TypeInfo} (hd : decide (d < E.n) = true) (hk : E.ks.find? (fun x => x.1 == some d) = some (some d, true))
    (hS : Ls[k]? = some S) (hm : decide (m ≤ (Ls.take k).flatten.length) = true) (hx : rd T x = sv) (hy : rd T y = xv) (hSl : Sl e En sv xs S)
    (hsh : Shp xv ys.length) (hr : ∀ own nw, Sees E Ls.flatten m own nw → Rd En (cellA E own nw) xv ys)
    (hu : E.P.underlying t = some (.slice e)) (hi : E.P.info? e = some ii) (hsz : ii.size = En.sz) (hT : decide (e < OBJ) = true)
    (hcon : ∀ args view v L U, E.con ⟨some d, .call ⟨.builtin .copy, #[x, y], #[t, u]⟩, ty, pos, af, none⟩ args view v L U ↔ pUp (fun v U => v = .int .i64 ((min ys.length xs.length : Nat) : Int) ∧ Sl e En sv (ys.take xs.length ++ xs.drop ys.length) U ∧ U.map (·.1) = S.map (·.1)) v L U)
    (h : ∀ S', Sl e En sv (ys.take xs.length ++ xs.drop ys.length) S' → lx E g ops K r (upd T d (.int .i64 ((min ys.length xs.length : Nat) : Int))) (Ls.set k S').flatten m) : lx E g ops K (⟨some d, .call ⟨.builtin .copy, #[x, y], #[t, u]⟩, ty, pos, af, none⟩ :: r) T Ls.flatten m := by
  refine r_cpyG (ii := ii) k hd hk hS hm hx hy hSl (fun w => ?_) (fun own nw w n hse hcell hn => ?_) hu hi hT hcon h
  · rcases hsh with ⟨rfl, h0⟩ | ⟨a, cap, rfl, _, _⟩
    · rw [h0]; rfl
    · rfl
  · have hnl : (ys.take n).length = n := by rw [List.length_take]; omega
    have hl : (En.all (ys.take n)).length = n * ii.size := by rw [En.all_len, hnl, hsz]
    rcases hr own nw hse with ⟨rfl, rfl⟩ | ⟨a, cap, rfl, h0, hle, hc⟩
    · obtain rfl : n = 0 := by simpa using hn
      rfl
    · refine run_firstCells_some w ii.size n a ys.length cap _ hl (fun j u hj => ?_)
      have hlt := (List.getElem?_eq_some_iff.1 hj).1
      have hsp : a.spot = none := h0 (by
        rcases Nat.eq_zero_or_pos n with hz | hz
        · subst hz; simp [Enc.all] at hlt
        · omega)
      rw [add_none hsp]
      refine hcell _ _ (hc _ _ ?_)
      rw [Enc.all_take] at hj
      rw [List.getElem?_take] at hj
      split at hj
      · exact hj
      · cases hj
theorem r_cpys {Lo : Prop} {Ls : List (List Bl)} {t u : TypeId} {x y : Operand} (k : Nat) {S : List Bl} {e : TypeId} {sv : Value} {xs : List UInt8} (ys : List UInt8) {ii : TypeInfo} (hd : decide (d < E.n) = true) (hk : E.ks.find? (fun x => x.1 == some d) = some (some d, true))
    (hS : Ls[k]? = some S) (hm : decide (m ≤ (Ls.take k).flatten.length) = true) (hx : rd T x = sv) (hy : rd T y = .string ⟨ys.toArray⟩) (hSl : Sl e (encYl Lo) sv xs S)
    (hu : E.P.underlying t = some (.slice e)) (hi : E.P.info? e = some ii) (hT : decide (e < OBJ) = true)
    (hcon : ∀ args view v L U, E.con ⟨some d, .call ⟨.builtin .copy, #[x, y], #[t, u]⟩, ty, pos, af, none⟩ args view v L U ↔ pUp (fun v U => v = .int .i64 ((min ys.length xs.length : Nat) : Int) ∧ Sl e (encYl Lo) sv (ys.take xs.length ++ xs.drop ys.length) U ∧ U.map (·.1) = S.map (·.1)) v L U)
    (h : ∀ S', Sl e (encYl Lo) sv (ys.take xs.length ++ xs.drop ys.length) S' → lx E g ops K r (upd T d (.int .i64 ((min ys.length xs.length : Nat) : Int))) (Ls.set k S').flatten m) : lx E g ops K (⟨some d, .call ⟨.builtin .copy, #[x, y], #[t, u]⟩, ty, pos, af, none⟩ :: r) T Ls.flatten m := by
  refine r_cpyG (ii := ii) k hd hk hS hm hx hy hSl (fun w => ?_) (fun own nw w n hse hcell hn => ?_) hu hi hT hcon h
  · show Sem.run E.P (pure (⟨ys.toArray⟩ : ByteArray).size) w = _
    rfl
  · show Sem.run E.P (pure (((⟨ys.toArray⟩ : ByteArray).extract 0 n).data.map fun b => Value.int .u8 (b.toNat : Int))) w = _
    have e1 : ((⟨ys.toArray⟩ : ByteArray).extract 0 n).data = (ys.take n).toArray := by
      apply Array.ext'
      simp [ByteArray.data_extract]
    have : ((⟨ys.toArray⟩ : ByteArray).extract 0 n).data.map (fun b => Value.int .u8 (b.toNat : Int)) = ((encYl Lo).all (ys.take n)).toArray := by
      rw [e1, ← strC_all]
      apply Array.ext'
      simp [strC]
    rw [this]
    rfl
/-- make with more room than elements. -/
theorem r_mkc {α : Type} {Ls : List (List Bl)} {t : TypeId} {x y : Operand} (e : TypeId) (En : Enc α) (z0 : α) (l c : Int) {ii : TypeInfo} {z : Value} {kl kc : IntKind} (hd : decide (d < E.n) = true) (hk : E.ks.find? (fun x => x.1 == some d) = some (some d, false)) (hm : decide (m ≤ Ls.flatten.length) = true)
    (hx : rd T x = .int kl l) (hy : rd T y = .int kc c) (hu : E.P.underlying t = some (.slice e)) (hi : E.P.info? e = some ii) (hz : ii.zero = some z) (hsz : ii.size = En.sz) (hz0 : z.cells.toList = En.f z0)
    (kk : Nat) (hkk : decide (kk * ii.bytes ≤ 140737488355328 ∧ kk ≤ 140737488355328) = true) (hc : 0 ≤ l ∧ l ≤ c ∧ c ≤ (kk : Nat))
    (hcon : ∀ args view v L U, E.con ⟨some d, .makeSlice t x y, ty, pos, af, none⟩ args view v L U ↔ p1 (fun v => v) e En (List.replicate l.toNat z0) v L U)
    (h : ∀ sv S, Sl e En sv (List.replicate l.toNat z0) S → lx E g ops K r (upd T d sv) (Ls ++ [S]).flatten m) (hT : decide (e < OBJ) = true := by rfl) : lx E g ops K (⟨some d, .makeSlice t x y, ty, pos, af, none⟩ :: r) T Ls.flatten m := by
  obtain ⟨n, rfl⟩ : ∃ n : Nat, c = (n : Int) := ⟨c.toNat, by omega⟩
  obtain ⟨q, rfl⟩ : ∃ n : Nat, l = (n : Int) := ⟨l.toNat, by omega⟩
  simp only [Int.toNat_natCast] at h hcon
  have hzs : z.cells.size = ii.size := by rw [← Array.length_toList, hz0, En.len, hsz]
  obtain ⟨hk1, hk2⟩ := of_decide_eq_true hkk
  have hle : n ≤ kk := by have := hc.2; omega
  have hqn : q ≤ n := by have := hc.2; omega
  have hb : ii.bytes * n ≤ 140737488355328 := by rw [Nat.mul_comm]; exact Nat.le_trans (Nat.mul_le_mul_right _ hle) hk1
  have hmax : n ≤ 140737488355328 := Nat.le_trans hle hk2
  refine r_go (p1 (fun v => v) e En (List.replicate q z0)) hd hk rfl hm (fun own nw w hse hcell => ?_) hcon (nice_1 _ e En _) (fun v L hp => ?_)
  · have hr := run_make (P := E.P) w t e ii z hu hi hz kl kc (q : Int) (n : Int) (by omega) (by omega) (by rw [← Int.natCast_mul]; omega) (by omega)
    refine .inl ⟨.slice (some ⟨w.heap.size, 0, none⟩) q n, w.alloc (.cells (madeCells z.cells (n * ii.size)) e), [(w.heap.size, e, madeCells z.cells (n * ii.size))], [], ?_, ?_, ⟨.slice (some ⟨w.heap.size, 0, none⟩) q n, .inr ⟨w.heap.size, n, _, by rw [List.length_replicate], by rw [List.length_replicate]; exact hqn, ?_, ?_, rfl⟩, rfl, rfl⟩⟩
    · have : execOp (rd T) ⟨some d, .makeSlice t x y, ty, pos, af, none⟩ = (do pure (Next.value (← Instr.makeSlice t (rd T x) (rd T y))) : Sem Next) := rfl
      rw [this, hx, hy]
      simp only [Sem.run_bind, hr, Result.andThen_ok, Int.toNat_natCast]
      rfl
    · exact ⟨rfl, rfl, rfl, by simp, fun k hk _ => heap_alloc_old w _ k hk, fun _ h => (nomatch h), fun y hy => by
        simp only [List.mem_singleton] at hy; subst hy
        exact ⟨Nat.le_refl _, .of hT (heap_alloc_new w _)⟩, Nat.le_refl _⟩
    · rw [size_madeCells, hsz]
    · have : madeCells z.cells (n * ii.size) = Builtin.zeroCells z.cells n := by unfold madeCells Builtin.zeroCells; rw [hzs]
      rw [this, zeroCells_all hz0 n, List.length_replicate]
      have e1 : List.replicate n z0 = List.replicate q z0 ++ List.replicate (n - q) z0 := by rw [List.replicate_append_replicate]; congr 1; omega
      have hl : (En.all (List.replicate q z0)).length = q * En.sz := by rw [En.all_len, List.length_replicate]
      rw [e1, Enc.all_append, ← hl]; exact List.take_left
  · obtain ⟨s, hS, hv, _⟩ := hp
    have hv' : v = s := hv
    subst hv'
    have := h v L hS
    rw [List.flatten_append] at this
    simpa using this
end
theorem ev_cap0 {P : Program} {c : Addr → Option Value} {ρ : Operand → Value} {d : Option Tmp} {x : Operand} {ts : Array TypeId} {t e ty : TypeId} {pos : String} {af : Array Edge} {g : Option (Nat × Bool)} (hts : ts = #[t]) (ht : P.underlying t = some (.slice e)) (hx : ρ x = .slice none 0 0) :
    ev P c (execOp ρ ⟨d, .call ⟨.builtin .cap, #[x], ts⟩, ty, pos, af, g⟩) = some (.value (.int .i64 0)) := by
  subst hts
  have h2 : ev P c (Builtin.cap_ #[t] ty #[ρ x]) = some (.int .i64 0) := by
    show ev P c (underlying t >>= fun u => _) = _
    rw [ev_bind, ev_underlying ht, hx]; rfl
  show ev P c (do let d ← resolve ρ ⟨.builtin .cap, #[x], #[t]⟩ ty; invoke d.target d.args) = _
  simp [resolve, invoke, builtin, ev_map, h2]
theorem Sl.take00 {α : Type} {e : TypeId} {E : Enc α} {v : Value} {xs : List α} {S : List Bl} (h : Sl e E v xs S) {k : Nat} (hk : k = 0 := by rfl) : Sl e E (subA v 0 k E.sz) ([] : List α) S := by
  subst hk
  have := h.take0 (Nat.zero_le _)
  rwa [List.take_zero, List.drop_nil] at this
/-! ### Builders -/
theorem flat_one {S : List Bl} : List.flatten [S] = S := by simp
theorem rd_strict {c : Addr → Option Value} {v : Value} {xs : List UInt8} (h : Rd encY c v xs) : Rd encYs c v xs := h
theorem Sl.strict {e : TypeId} {v : Value} {xs : List UInt8} {S : List Bl} (h : Sl e encY v xs S) (h0 : 0 < xs.length) : Sl e encYs v xs S := by
  rcases h with ⟨a, _, h1, _⟩ | ⟨b, cap, cs, h1, h2, h3, h4, h5⟩
  · rw [h1] at h0; exact absurd h0 (Nat.lt_irrefl 0)
  · exact .inr ⟨b, cap, cs, h1, h2, h3, h4, h5⟩
theorem usd_of {e : TypeId} (v : Value) {xs : List UInt8} {S : List Bl} (h : Sl e encYs v xs S) (h0 : 0 < xs.length) {k : Nat} (hk : k = 0 := by rfl) : UsdP v (elA v k) := by
  subst hk
  rcases h with ⟨a, _, h1, _⟩ | ⟨b, cap, cs, rfl, h2, _⟩
  · rw [h1] at h0; exact absurd h0 (Nat.lt_irrefl 0)
  · exact .inr ⟨b, _, cap, rfl, .inl ⟨by omega, rfl⟩⟩
/-- v is the address of a builder that holds xs, in the blocks S. -/
def Bd (TB e : TypeId) (v : Value) (xs : List UInt8) (S : List Bl) : Prop := ∃ b f s S0, v = .pointer (some ⟨b, 0, none⟩) ∧ Sl e encYs s xs S0 ∧ S = List.flatten [[(b, TB, #[selfP b f, s])], S0]
abbrev oIB (TB e : TypeId) (v : Value) (xs : List UInt8) (P : PO) : PO := fun v' O => ∃ S O', Bd TB e v xs S ∧ P v' O' ∧ O = S :: O'
theorem niceIB {TB e : TypeId} {v : Value} {xs x0 : List UInt8} {S0 R : List Bl} {P : PO} (hS : Bd TB e v x0 S0) (h : NiceO P R) : NiceO (oIB TB e v xs P) (S0 ++ R) := fun hn k => by
  rw [List.map_append, List.nodup_append] at hn
  obtain ⟨hn1, hn2, hd⟩ := hn
  obtain ⟨K0, hk0, hK0⟩ := exMax (S0.map (·.1)) k
  obtain ⟨K, hk, hK⟩ := exMax (R.map (·.1)) K0
  obtain ⟨s', S', hS', hSk⟩ := Sl.wit e encYs xs K
  obtain ⟨K2, hk2, hS2⟩ := exMax (S'.map (·.1)) K
  obtain ⟨v', O, h1, h2, h3⟩ := h hn2 K2
  obtain ⟨b, f, s, S1, rfl, _, rfl⟩ := hS
  have hb : b ∈ (List.flatten [[(b, TB, #[selfP b f, s])], S1]).map (·.1) := by simp
  refine ⟨v', List.flatten [[(b, TB, #[selfP b true, s'])], S'] :: O, ⟨_, O, ⟨b, true, s', S', rfl, hS', rfl⟩, h1, rfl⟩, ?_, fun x hx => ?_⟩
  · rw [List.flatten_cons, List.map_append, List.nodup_append]
    refine ⟨?_, h2, fun a ha c hc e => ?_⟩
    · simp only [List.flatten_cons, List.flatten_nil, List.append_nil, List.map_append, List.map_cons, List.map_nil]
      rw [List.nodup_append]
      refine ⟨by simp, hS'.nod, fun a ha c hc e => ?_⟩
      simp only [List.mem_singleton] at ha
      obtain ⟨y, hy, rfl⟩ := List.mem_map.1 hc
      have e1 := hSk y hy
      have e2 := hK0 b hb
      subst ha; omega
    · obtain ⟨y, hy, rfl⟩ := List.mem_map.1 hc
      simp only [List.flatten_cons, List.flatten_nil, List.append_nil, List.map_append, List.map_cons, List.map_nil, List.mem_append, List.mem_singleton] at ha
      rcases ha with rfl | ha
      · rcases h3 y hy with h4 | h4
        · exact hd _ hb _ h4 e
        · have := hK0 _ hb; omega
      · obtain ⟨z, hz, rfl⟩ := List.mem_map.1 ha
        have e1 := hSk z hz
        have e2 := hS2 z.1 ha
        rcases h3 y hy with h4 | h4
        · have := hK _ h4; omega
        · omega
  · rw [List.map_append]
    rw [List.flatten_cons] at hx
    rcases List.mem_append.1 hx with hx | hx
    · simp only [List.flatten_cons, List.flatten_nil, List.append_nil, List.mem_append, List.mem_singleton] at hx
      rcases hx with rfl | hx
      · exact .inl (List.mem_append_left _ hb)
      · right; have := hSk x hx; omega
    · rcases h3 x hx with h4 | h4
      · exact .inl (List.mem_append_right _ h4)
      · right; omega
theorem pO_mono {foot : List Bl} {P P' : PO} (h : ∀ v O, P v O → ∃ O', P' v O' ∧ Sub O'.flatten O.flatten) {v : Value} {L U : List Bl} (hp : pO foot P v L U) : pO foot P' v L U := by
  obtain ⟨h1, h2, O, h3, h4⟩ := hp
  obtain ⟨O', h5, h6⟩ := h v O h3
  exact ⟨h1, h2, O', h5, ⟨fun x hx => h4.mem x (h6.mem x hx), fun hn => h6.nod (h4.nod hn)⟩⟩
theorem does_mono {P : Program} {f : FuncId} {args : Array Value} {inv : World → Prop} {ro : Addr → Option Value} {foot : List Bl} {Q Q' : PO} (h : ∀ v O, Q v O → ∃ O', Q' v O' ∧ Sub O'.flatten O.flatten) (hd : DoesI P f args inv ro foot (pO foot Q)) : DoesI P f args inv ro foot (pO foot Q') :=
  fun w h1 h2 h3 h4 => (hd w h1 h2 h3 h4).mono (by
    rintro e w' ⟨v, L, U, h5, h6, h7⟩
    exact ⟨v, L, U, h5, h6, pO_mono h h7⟩)
theorem sub_bd {x : Bl} {S : List Bl} : Sub (List.flatten [List.flatten [[x], S]]) (List.flatten [S, [x]]) := by
  simp only [List.flatten_cons, List.flatten_nil, List.append_nil]
  refine ⟨fun y hy => ?_, fun hn => ?_⟩
  · rw [List.mem_append] at hy ⊢; exact hy.symm
  · rw [List.map_append] at hn ⊢
    exact (List.perm_append_comm.nodup_iff).1 hn
theorem bd_w {P : Program} {g : FuncId} {args : Array Value} {inv : World → Prop} {ro : Addr → Option Value} {foot : List Bl} {TB e : TypeId} {b : Nat} {f : Bool} {xs : List UInt8} {r : Value} (h : DoesI P g args inv ro foot (pO foot (oS e encYs xs fun s => oE r [[(b, TB, #[selfP b f, s])]]))) :
    DoesI P g args inv ro foot (pO foot (oIB TB e (.pointer (some ⟨b, 0, none⟩)) xs (oE r []))) :=
  does_mono (fun v O ⟨s, S, O', hS, ⟨h1, h2⟩, h3⟩ => by subst h1; subst h2; subst h3; exact ⟨_, ⟨_, [], ⟨b, f, s, S, rfl, hS, rfl⟩, ⟨rfl, rfl⟩, rfl⟩, sub_bd⟩) h
theorem bd_i {P : Program} {g : FuncId} {args : Array Value} {inv : World → Prop} {ro : Addr → Option Value} {foot : List Bl} {TB e : TypeId} {b : Nat} {f : Bool} {s : Value} {xs : List UInt8} {r : Value} (h : DoesI P g args inv ro foot (pO foot (oI e encYs s xs (oE r [[(b, TB, #[selfP b f, s])]])))) :
    DoesI P g args inv ro foot (pO foot (oIB TB e (.pointer (some ⟨b, 0, none⟩)) xs (oE r []))) :=
  does_mono (fun v O ⟨S, O', hS, ⟨h1, h2⟩, h3⟩ => by subst h1; subst h2; subst h3; exact ⟨_, ⟨_, [], ⟨b, f, s, S, rfl, hS, rfl⟩, ⟨rfl, rfl⟩, rfl⟩, sub_bd⟩) h
end Go.Eng
