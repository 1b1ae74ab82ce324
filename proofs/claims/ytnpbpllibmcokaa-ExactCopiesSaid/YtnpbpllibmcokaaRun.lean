/- The engine's rules for one step each, over a list of blocks. Conditions: none. -/
import Derived.Test.YtnpbpllibmcokaaEng
namespace Go.Eng
open Go Go.RowKit

def ownL : List Bl → Nat → Option (TypeId × Array Value)
  | [], _ => none
  | (b, x) :: l, i => if i = b then some x else ownL l i
def nwL (l : List Bl) (m : Nat) : Nat → Bool := fun b => (l.take m).any fun x => x.1 == b

theorem ownL_cons (b : Nat) (x : TypeId × Array Value) (l : List Bl) : ownL ((b, x) :: l) = upd (ownL l) b (some x) := by
  funext i; simp [ownL, upd]
theorem ownL_get {l : List Bl} (hn : (l.map (·.1)).Nodup) {i : Nat} {b : Nat} {x : TypeId × Array Value} (h : l[i]? = some (b, x)) : ownL l b = some x := by
  induction l generalizing i with
  | nil => simp at h
  | cons y l ih =>
    obtain ⟨c, y⟩ := y
    simp only [List.map_cons, List.nodup_cons] at hn
    cases i with
    | zero => simp at h; obtain ⟨rfl, rfl⟩ := h; simp [ownL]
    | succ i =>
      simp only [List.getElem?_cons_succ] at h
      have : b ≠ c := by
        intro e; subst e
        exact hn.1 (List.mem_map.2 ⟨_, List.mem_of_getElem? h, rfl⟩)
      simp only [ownL, if_neg this]
      exact ih hn.2 h
theorem ownL_none {l : List Bl} {b : Nat} (h : ownL l b = none) : b ∉ l.map (·.1) := by
  induction l with
  | nil => simp
  | cons y l ih =>
    obtain ⟨c, y⟩ := y
    simp only [ownL] at h
    split at h
    · cases h
    · simp only [List.map_cons, List.mem_cons, not_or]; exact ⟨by assumption, ih h⟩
theorem ownL_set {l : List Bl} (hn : (l.map (·.1)).Nodup) {i : Nat} {b : Nat} {x y : TypeId × Array Value} (h : l[i]? = some (b, x)) : upd (ownL l) b (some y) = ownL (l.set i (b, y)) := by
  induction l generalizing i with
  | nil => simp at h
  | cons z l ih =>
    obtain ⟨c, z⟩ := z
    simp only [List.map_cons, List.nodup_cons] at hn
    cases i with
    | zero =>
      simp at h; obtain ⟨rfl, rfl⟩ := h
      funext j; simp only [upd, ownL, List.set_cons_zero]; split <;> simp_all
    | succ i =>
      simp only [List.getElem?_cons_succ] at h
      have hne : b ≠ c := by
        intro e; subst e
        exact hn.1 (List.mem_map.2 ⟨_, List.mem_of_getElem? h, rfl⟩)
      rw [List.set_cons_succ, ownL_cons, ownL_cons, ← ih hn.2 h, upd_comm _ _ _ hne.symm]
theorem set_map {l : List Bl} {i : Nat} {b : Nat} {x y : TypeId × Array Value} (h : l[i]? = some (b, x)) : (l.set i (b, y)).map (·.1) = l.map (·.1) := by
  induction l generalizing i with
  | nil => rfl
  | cons z l ih =>
    cases i with
    | zero => simp at h; subst h; rfl
    | succ i => simp only [List.getElem?_cons_succ] at h; simp only [List.set_cons_succ, List.map_cons, ih h]
theorem nwL_set {l : List Bl} {i m : Nat} {b : Nat} {x y : TypeId × Array Value} (h : l[i]? = some (b, x)) : nwL (l.set i (b, y)) m = nwL l m := by
  funext c
  unfold nwL
  have : ∀ (l : List Bl) (i m : Nat), l[i]? = some (b, x) → ((l.set i (b, y)).take m).any (fun x => x.1 == c) = (l.take m).any (fun x => x.1 == c) := by
    intro l
    induction l with
    | nil => intro i m h; simp at h
    | cons z l ih =>
      intro i m h
      cases m with
      | zero => simp
      | succ m =>
        cases i with
        | zero => simp at h; subst h; simp
        | succ i => simp only [List.getElem?_cons_succ] at h; simp only [List.set_cons_succ, List.take_succ_cons, List.any_cons, ih i m h]
  exact this l i m h
theorem nwL_old {l : List Bl} (hn : (l.map (·.1)).Nodup) {i m : Nat} {b : Nat} {x : TypeId × Array Value} (h : l[i]? = some (b, x)) (hm : m ≤ i) : nwL l m b = false := by
  unfold nwL
  induction l generalizing i m with
  | nil => simp at h
  | cons z l ih =>
    simp only [List.map_cons, List.nodup_cons] at hn
    cases m with
    | zero => simp
    | succ m =>
      cases i with
      | zero => omega
      | succ i =>
        simp only [List.getElem?_cons_succ] at h
        have hne : z.1 ≠ b := by
          intro e; rw [e] at hn
          exact hn.1 (List.mem_map.2 ⟨_, List.mem_of_getElem? h, rfl⟩)
        have h2 := ih hn.2 h (m := m) (by omega)
        simp only [List.take_succ_cons, List.any_cons, h2, Bool.or_false, beq_eq_false_iff_ne]
        exact hne


/-! ### Evaluating -/
theorem ev_bind {α β : Type} {P : Program} {c : Addr → Option Value} (s : Sem α) (f : α → Sem β) : ev P c (s >>= f) = (ev P c s).bind fun x => ev P c (f x) := by
  show ev P c (s.bind f) = _
  induction s with
  | pure a => rfl
  | load m a k ih =>
    cases m with
    | plain =>
      simp only [Sem.bind, ev]
      cases c a with
      | none => rfl
      | some v => exact ih v
    | atomic => rfl
  | program k ih => simp only [Sem.bind, ev]; exact ih P
  | mark m k ih => simp only [Sem.bind, ev]; exact ih
  | _ => rfl
theorem ev_pure {α : Type} {P : Program} {c : Addr → Option Value} (a : α) : ev P c (pure a : Sem α) = some a := rfl
theorem ev_map {α β : Type} {P : Program} {c : Addr → Option Value} (s : Sem α) (f : α → β) : ev P c (f <$> s) = (ev P c s).map f := by
  rw [map_eq_pure_bind, ev_bind]
  cases ev P c s <;> rfl
theorem ev_underlying {P : Program} {c : Addr → Option Value} {t : TypeId} {d : TypeDesc} (h : P.underlying t = some d) : ev P c (underlying t) = some d := by
  simp [underlying, program, ev_bind, ev_pure, ev, h]
theorem ev_sizeOf {P : Program} {c : Addr → Option Value} {t : TypeId} {i : TypeInfo} (h : P.info? t = some i) : ev P c (sizeOf t) = some i.size := by
  simp [sizeOf, typeInfo, program, ev_bind, ev_pure, ev, h]
theorem ev_isAgg {P : Program} {c : Addr → Option Value} {ty : TypeId} {d : TypeDesc} (h : P.underlying ty = some d) :
    ev P c (isAgg ty) = some (match d with | .struct _ | .array _ _ => true | _ => false) := by
  unfold isAgg
  rw [ev_bind, ev_underlying h]
  cases d <;> rfl
theorem ev_load {P : Program} {c : Addr → Option Value} (a : Addr) : ev P c (load a) = c a := by
  unfold load; simp only [ev]; cases c a <;> rfl
theorem ev_cells {P : Program} {c : Addr → Option Value} {b off : Nat} {cs : Array Value} (hc : ∀ k, c ⟨b, k, none⟩ = cs[k]?) : ∀ (n i : Nat) (acc : Array Value), off + i + n ≤ cs.size →
    ev P c (loadCellsFrom ⟨b, off, none⟩ i n acc) = some (acc ++ cs.extract (off + i) (off + i + n))
  | 0, i, acc, _ => by
    have : cs.extract (off + i) (off + i + 0) = #[] := by apply Array.ext'; simp
    rw [this, loadCellsFrom, ev_pure]; simp
  | n + 1, i, acc, h => by
    have hadd : (⟨b, off, none⟩ : Addr).add i = ⟨b, off + i, none⟩ := by unfold Addr.add; split <;> simp_all
    have hlt : off + i < cs.size := by omega
    have h1 : ev P c (load ((⟨b, off, none⟩ : Addr).add i)) = some cs[off + i] := by
      rw [hadd, ev_load, hc, Array.getElem?_eq_getElem hlt]
    have ih := ev_cells (P := P) (off := off) hc n (i + 1) (acc.push cs[off + i]) (by omega)
    rw [loadCellsFrom, ev_bind, h1]
    simp only [Option.bind_some]
    rw [ih]
    congr 1
    apply Array.ext'
    simp only [Array.toList_append, Array.toList_push, Array.toList_extract, List.append_assoc]
    congr 1
    rw [List.extract_eq_take_drop, List.extract_eq_take_drop, show off + (i + 1) + n - (off + (i + 1)) = n from by omega, show off + i + (n + 1) - (off + i) = n + 1 from by omega, show off + (i + 1) = off + i + 1 from by omega]
    have e : cs.toList.drop (off + i) = cs[off + i] :: cs.toList.drop (off + i + 1) := by
      rw [List.drop_eq_getElem_cons (by simpa using hlt)]; simp
    rw [e, List.take_succ_cons]
    rfl
theorem ev_ld {P : Program} {c : Addr → Option Value} {ty : TypeId} {b off : Nat} {cs : Array Value} {v : Value} (hc : ∀ k, c ⟨b, k, none⟩ = cs[k]?) (h : ldCells P ty cs off = some v) : ev P c (loadVar ty ⟨b, off, none⟩) = some v := by
  have agg : ∀ (i : TypeInfo), P.info? ty = some i → (if off = 0 ∧ i.size = cs.size then some (Value.agg cs) else if off + i.size ≤ cs.size then some (.agg (cs.extract off (off + i.size))) else none) = some v →
      ev P c (loadCells ⟨b, off, none⟩ i.size) = some (cs.extract off (off + i.size)) ∧ v = .agg (cs.extract off (off + i.size)) := by
    intro i hi he
    have hle : off + i.size ≤ cs.size ∧ v = .agg (cs.extract off (off + i.size)) := by
      split at he
      · rename_i h0
        obtain ⟨h0, h1⟩ := h0
        subst h0
        simp only [Option.some.injEq] at he
        subst he
        exact ⟨by omega, by rw [h1]; simp⟩
      · split at he
        · rename_i hle; simp only [Option.some.injEq] at he; exact ⟨hle, he.symm⟩
        · cases he
    refine ⟨?_, hle.2⟩
    have := ev_cells (P := P) hc i.size 0 #[] (by simpa using hle.1)
    simpa [loadCells] using this
  unfold ldCells at h
  unfold loadVar
  cases hu : P.underlying ty with
  | none => simp [hu] at h
  | some d =>
    rw [ev_bind, ev_isAgg hu]
    cases d with
    | struct fs =>
      simp only [hu] at h
      cases hi : P.info? ty with
      | none => simp [hi] at h
      | some i =>
        simp only [hi] at h
        obtain ⟨h1, h2⟩ := agg i hi h
        simp only [Option.bind_some, if_true, ev_bind, ev_sizeOf hi, h1, h2]
        rfl
    | array n e =>
      simp only [hu] at h
      cases hi : P.info? ty with
      | none => simp [hi] at h
      | some i =>
        simp only [hi] at h
        obtain ⟨h1, h2⟩ := agg i hi h
        simp only [Option.bind_some, if_true, ev_bind, ev_sizeOf hi, h1, h2]
        rfl
    | _ =>
      simp only [hu] at h
      simp only [Option.bind_some, Bool.false_eq_true, if_false, ev_load, hc, h]
theorem cellA_own {E : Env} {own : Nat → Option (TypeId × Array Value)} {nw : Nat → Bool} {b : Nat} {T : TypeId} {cs : Array Value} (h : own b = some (T, cs)) (hn : nw b = false) (k : Nat) : cellA E own nw ⟨b, k, none⟩ = cs[k]? := by
  unfold cellA
  simp only [h, hn, Option.isSome_none, Bool.or_self, Bool.false_eq_true, if_false]

theorem ownL_idx {l : List Bl} {b : Nat} {x : TypeId × Array Value} (h : ownL l b = some x) : ∃ i : Nat, l[i]? = some (b, x) := by
  induction l with
  | nil => cases h
  | cons y l ih =>
    obtain ⟨c, y⟩ := y
    simp only [ownL] at h
    split at h
    · rename_i he; subst he; cases h; exact ⟨0, rfl⟩
    · obtain ⟨i, hi⟩ := ih h; exact ⟨i + 1, by simpa using hi⟩
theorem nwL_new {l : List Bl} {i m : Nat} {b : Nat} {x : TypeId × Array Value} (h : l[i]? = some (b, x)) (hm : i < m) : nwL l m b = true := by
  unfold nwL
  rw [List.any_eq_true]
  refine ⟨(b, x), ?_, by simp⟩
  have h2 : (l.take m)[i]? = some (b, x) := by rw [List.getElem?_take, if_pos hm]; exact h
  exact List.mem_of_getElem? h2
structure StOk (P : Program) (e : TypeId) (cs : Array Value) (off : Nat) (vs : Array Value) : Prop where
  i : ∃ i, P.info? e = some i ∧ vs.size = i.size
  le : off + vs.size ≤ cs.size
  one : ∀ x ∈ vs, x.oneCell' = true
theorem StOk.of {P : Program} {e : TypeId} {cs : Array Value} {off : Nat} {vs : Array Value} {i : TypeInfo} (hi : P.info? e = some i)
    (h : (vs.size == i.size && decide (off + vs.size ≤ cs.size) && vs.toList.all (fun x => x.oneCell')) = true) : StOk P e cs off vs := by
  simp only [Bool.and_eq_true, beq_iff_eq, decide_eq_true_eq, List.all_eq_true] at h
  exact ⟨⟨i, hi, h.1.1⟩, h.1.2, fun x hx => h.2 x (by simpa using hx)⟩

/-- What is told of the blocks of l; the first m are of this region. -/
structure Sees (E : Env) (l : List Bl) (m : Nat) (own : Nat → Option (TypeId × Array Value)) (nw : Nat → Bool) : Prop where
  has : ∀ (i : Nat) b x, l[i]? = some (b, x) → own b = some x ∧ nw b = decide (i < m)
  ro : ∀ p v, E.ro p = some v → p.block < E.base ∧ own p.block = none
  non : ∀ b, own b = none → nw b = false
def LQ (E : Env) (K : (Nat → Value) → List Bl → Prop) (s : St) : Prop := ∃ l m, (l.map (·.1)).Nodup ∧ Sees E l m s.own s.nw ∧ K s.t l

/-- The operations from r on. The first m blocks are of this region. -/
def lx (E : Env) (g : Bool) (ops : Array Oper) (K : (Nat → Value) → List Bl → Prop) (r : List Oper) (t : Nat → Value) (l : List Bl) (m : Nat) : Prop :=
  (l.map (·.1)).Nodup → ∀ own nw, Sees E l m own nw → lexK E g ops (LQ E K) r ⟨t, own, nw⟩
theorem Sees.cell {E : Env} {l : List Bl} {m : Nat} {own : Nat → Option (TypeId × Array Value)} {nw : Nat → Bool} (h : Sees E l m own nw) (hn : (l.map (·.1)).Nodup) : ∀ a v, cellA E (ownL l) (nwL l m) a = some v → cellA E own nw a = some v := by
  intro a v ha
  unfold cellA at ha
  cases ho : ownL l a.block with
  | none =>
    rw [ho] at ha
    simp only at ha
    split at ha
    · rename_i hlt
      unfold cellA
      rw [(h.ro a v ha).2]
      simp only [if_pos hlt]; exact ha
    · cases ha
  | some x =>
    obtain ⟨i, hi⟩ := ownL_idx ho
    obtain ⟨h1, h2⟩ := h.has i _ _ hi
    rw [ho] at ha
    have h3 : nwL l m a.block = nw a.block := by
      rw [h2]
      by_cases him : i < m
      · rw [nwL_new hi him]; simp [him]
      · rw [nwL_old hn hi (by omega)]; simp [him]
    unfold cellA
    rw [h1, ← h3]
    exact ha

section
variable {E : Env} {g : Bool} {ops : Array Oper} {K : (Nat → Value) → List Bl → Prop} {r : List Oper} {t : Nat → Value} {l : List Bl} {m : Nat}
  {d : Tmp} {op : Op} {ty : TypeId} {pos : String} {af : Array Edge}

theorem lx_nil (h : K t l) : lx E g ops K [] t l m := fun hn _ _ hs => ⟨l, m, hn, hs, h⟩

/-- An operation that only computes. -/
theorem r_v (v : Value) {v0 : Value} (hk : kd op = .f) (hd : decide (d < E.n) = true) (he : v0 = v) (hy : ev E.P E.ro (execOp (rd t) ⟨some d, op, ty, pos, af, none⟩) = some (.value v0))
    (h : lx E g ops K r (upd t d v) l m) (hpl : Plain E.ks ⟨some d, op, ty, pos, af, none⟩ := by rfl) : lx E g ops K (⟨some d, op, ty, pos, af, none⟩ :: r) t l m :=
  fun hn own nw hs => lexK_f rfl (kdo_eq hpl hk (by decide)) hd v (.inl (by rw [← he]; exact hy)) (h hn own nw hs)

theorem r_c (v : Value) (hd : decide (d < E.n) = true) (f : FuncId) (args : Array Value) {c : Call} (hy : ev E.P E.ro (execOp (rd t) ⟨some d, .call c, ty, pos, af, none⟩) = some (.enter f args)) (hg : Gives E.P f args v)
    (h : lx E g ops K r (upd t d v) l m) (hpl : Plain E.ks ⟨some d, .call c, ty, pos, af, none⟩ := by rfl) : lx E g ops K (⟨some d, .call c, ty, pos, af, none⟩ :: r) t l m :=
  fun hn own nw hs => lexK_f rfl (kdo_eq hpl rfl (by decide)) hd v (.inr ⟨f, args, hy, hg⟩) (h hn own nw hs)

/-- A guarded operation whose guard says yes. -/
theorem r_y {j : Nat} {want : Bool} {dd : Option Tmp} (hw : yieldedF ops t j = some want) (hs : lx E g ops K (⟨dd, op, ty, pos, af, none⟩ :: r) t l m)
    (hcon : ∀ args view, E.con ⟨dd, op, ty, pos, af, some (j, want)⟩ args view = E.con ⟨dd, op, ty, pos, af, none⟩ args view := by intros; rfl) :
    lx E g ops K (⟨dd, op, ty, pos, af, some (j, want)⟩ :: r) t l m := by
  intro hn own nw hse
  obtain ⟨ks, con, hkc, h1, h2⟩ := hs hn own nw hse
  have e1 : Region.wanted ⟨dd, op, ty, pos, af, some (j, want)⟩ (yieldedF ops t) = true := by simp [Region.wanted, hw]
  have e2 : Region.wanted ⟨dd, op, ty, pos, af, none⟩ (yieldedF ops t) = true := rfl
  have main : ∀ con2 : Con, (∀ args view, con2 ⟨dd, op, ty, pos, af, some (j, want)⟩ args view = con ⟨dd, op, ty, pos, af, none⟩ args view) →
      OkW { E with ks := ks, con := con2 } g ops ⟨dd, op, ty, pos, af, some (j, want)⟩ ⟨t, own, nw⟩ ∧ ∀ s', NxW { E with ks := ks, con := con2 } g ops ⟨dd, op, ty, pos, af, some (j, want)⟩ ⟨t, own, nw⟩ s' → lexK E g ops (LQ E K) r s' := by
    intro con2 hcon2
    have key : ∀ s e, s.t = t → (HasFx { E with ks := ks, con := con2 } g ops ⟨dd, op, ty, pos, af, some (j, want)⟩ s e ↔ HasFx { E with ks := ks, con := con } g ops ⟨dd, op, ty, pos, af, none⟩ s e) := by
      intro s e hs
      have hc : ∀ s, conOf { E with ks := ks, con := con2 } s ⟨dd, op, ty, pos, af, some (j, want)⟩ = conOf { E with ks := ks, con := con } s ⟨dd, op, ty, pos, af, none⟩ := fun s => hcon2 _ _
      have hg : ∀ s mu, GenOk { E with ks := ks, con := con2 } g s ⟨dd, op, ty, pos, af, some (j, want)⟩ mu ↔ GenOk { E with ks := ks, con := con } g s ⟨dd, op, ty, pos, af, none⟩ mu := fun s mu =>
        ⟨fun h => ⟨by rw [← hc]; exact h.wit, by rw [← hc]; exact h.nod, by rw [← hc]; exact h.upO, by rw [← hc]; exact h.pur, fun w a b c => by rw [← hc]; exact h.run w a b c⟩,
         fun h => ⟨by rw [hc]; exact h.wit, by rw [hc]; exact h.nod, by rw [hc]; exact h.upO, by rw [hc]; exact h.pur, fun w a b c => by rw [hc]; exact h.run w a b c⟩⟩
      have hk : kdo ks g ops ⟨dd, op, ty, pos, af, some (j, want)⟩ = kdo ks g ops ⟨dd, op, ty, pos, af, none⟩ := rfl
      unfold HasFx
      rw [hs, if_pos e1, if_pos e2]
      simp only [hk]
      cases kdo ks g ops ⟨dd, op, ty, pos, af, none⟩ <;> simp only
      · rfl
      · rfl
      · rfl
      · rfl
      · rfl
      · rw [hg, hc]
      · rw [hg, hc]
      · rfl
      · rw [hg, hc]
    refine ⟨⟨h1.1, ?_⟩, fun s' hs' => ?_⟩
    · obtain ⟨e, he⟩ := h1.2; exact ⟨e, (key _ e rfl).2 he⟩
    · obtain ⟨e, he, hdo⟩ := hs'
      exact h2 s' ⟨e, (key _ e rfl).1 he, by cases e <;> exact hdo⟩
  by_cases hg1 : g = true
  · obtain ⟨rfl, rfl⟩ := hkc hg1
    exact ⟨E.ks, E.con, fun _ => ⟨rfl, rfl⟩, main E.con hcon⟩
  · exact ⟨ks, fun _ => con ⟨dd, op, ty, pos, af, none⟩, fun h => absurd h hg1, main _ (fun _ _ => rfl)⟩

/-- A guarded operation whose guard says no. -/
theorem r_n {j : Nat} {want : Bool} (b : Bool) (hw : yieldedF ops t j = some b) (hb : b ≠ want) (hd : decide (d < E.n) = true) (h : lx E g ops K r (upd t d undef) l m) :
    lx E g ops K (⟨some d, op, ty, pos, af, some (j, want)⟩ :: r) t l m := by
  intro hn own nw hs
  have e1 : ¬ Region.wanted ⟨some d, op, ty, pos, af, some (j, want)⟩ (yieldedF ops t) = true := by
    simp [Region.wanted, hw]; exact hb
  refine lexK_one (e := .val undef) (by simpa using hd) (by unfold HasFx; rw [if_neg e1]) (fun s' hs2 => ?_)
  simp only [Do] at hs2; subst hs2; exact h hn own nw hs
theorem r_n0 {j : Nat} {want : Bool} (b : Bool) (hw : yieldedF ops t j = some b) (hb : b ≠ want) (h : lx E g ops K r t l m) :
    lx E g ops K (⟨none, op, ty, pos, af, some (j, want)⟩ :: r) t l m := by
  intro hn own nw hs
  have e1 : ¬ Region.wanted ⟨none, op, ty, pos, af, some (j, want)⟩ (yieldedF ops t) = true := by
    simp [Region.wanted, hw]; exact hb
  refine lexK_one (e := .val undef) rfl (by unfold HasFx; rw [if_neg e1]) (fun s' hs2 => ?_)
  simp only [Do] at hs2; subst hs2; exact h hn own nw hs

theorem Sees.set {own : Nat → Option (TypeId × Array Value)} {nw : Nat → Bool} (h : Sees E l m own nw) (hn : (l.map (·.1)).Nodup) {i b : Nat} {x y : TypeId × Array Value} (hl : l[i]? = some (b, x)) : Sees E (l.set i (b, y)) m (upd own b (some y)) nw := by
  obtain ⟨h1, h2⟩ := h.has i b x hl
  refine ⟨fun j c z hj => ?_, fun p v hp => ⟨(h.ro p v hp).1, ?_⟩, fun c hc => ?_⟩
  · rw [List.getElem?_set] at hj
    split at hj
    · rename_i hij
      subst hij
      split at hj
      · cases hj; exact ⟨upd_same _ _ _, h2⟩
      · cases hj
    · rename_i hij
      obtain ⟨g1, g2⟩ := h.has j c z hj
      have hcb : c ≠ b := by
        intro e; subst e
        have e1 : (l.map (·.1))[i]? = some c := by rw [List.getElem?_map, hl]; rfl
        have e2 : (l.map (·.1))[j]? = some c := by rw [List.getElem?_map, hj]; rfl
        obtain ⟨hi', e1⟩ := List.getElem?_eq_some_iff.1 e1
        obtain ⟨hj', e2⟩ := List.getElem?_eq_some_iff.1 e2
        exact hij ((List.getElem_inj hn).1 (e1.trans e2.symm))
      rw [upd_ne _ _ hcb]; exact ⟨g1, g2⟩
  · have := (h.ro p v hp).2
    rw [upd_ne _ _ (by intro e; rw [e, h1] at this; cases this)]; exact this
  · by_cases e : c = b
    · subst e; rw [upd_same] at hc; cases hc
    · rw [upd_ne _ _ e] at hc; exact h.non c hc

theorem r_l (v : Value) (i : Nat) (b off : Nat) (T : TypeId) (cs : Array Value) {e : TypeId} {p : Operand} (hd : decide (d < E.n) = true) (hp : rd t p = .pointer (some ⟨b, off, none⟩)) (hl : l[i]? = some (b, T, cs)) (hm : decide (m ≤ i) = true)
    (hv : ldCells E.P e cs off = some v) (h : lx E g ops K r (upd t d v) l m) (hpl : Plain E.ks ⟨some d, .load e p, ty, pos, af, none⟩ := by rfl) : lx E g ops K (⟨some d, .load e p, ty, pos, af, none⟩ :: r) t l m :=
  fun hn own nw hs => lexK_l rfl (kdo_eq hpl rfl (by decide)) hd v (by
    obtain ⟨g1, g2⟩ := hs.has i _ _ hl
    unfold loadOf
    have h1 : ev E.P (cellA E own nw) (execOp (rd t) ⟨some d, .load e p, ty, pos, af, none⟩) = some (.value v) := by
      show ev E.P (cellA E own nw) (do pure (Next.value (← Instr.loadAt e (rd t p)))) = _
      rw [hp, ev_bind]
      show (ev E.P (cellA E own nw) (loadVar e ⟨b, off, none⟩)).bind _ = _
      rw [ev_ld (cellA_own g1 (by rw [g2]; have := of_decide_eq_true hm; simp; omega)) hv]
      rfl
    show (match ev E.P (cellA E own nw) (execOp (rd t) ⟨some d, .load e p, ty, pos, af, none⟩) with | some (.value v) => some v | _ => none) = some v
    rw [h1]) (h hn own nw hs)

/-- A load of a block that no changing call changes. -/
theorem r_lH (v : Value) (i : Nat) (b off : Nat) (T : TypeId) (cs : Array Value) {e : TypeId} {p : Operand} (hd : decide (d < E.n) = true) (hp : rd t p = .pointer (some ⟨b, off, none⟩)) (hl : l[i]? = some (b, T, cs)) (hm : decide (m ≤ i) = true)
    (hv : ldCells E.P e cs off = some v) (hb : b ∉ E.hid) (h : lx E g ops K r (upd t d v) l m) (hpl : PlainH E.ks ⟨some d, .load e p, ty, pos, af, none⟩ := by rfl) : lx E g ops K (⟨some d, .load e p, ty, pos, af, none⟩ :: r) t l m :=
  fun hn own nw hs => lexK_one (e := .val v) hd (by
    unfold HasFx; rw [if_pos (wanted_none rfl _)]; simp only [kdo_H hpl]
    refine ⟨v, ?_, rfl⟩
    obtain ⟨g1, g2⟩ := hs.has i _ _ hl
    unfold loadH
    have h1 : ev E.P (cellH E own nw) (execOp (rd t) ⟨some d, .load e p, ty, pos, af, none⟩) = some (.value v) := by
      show ev E.P (cellH E own nw) (do pure (Next.value (← Instr.loadAt e (rd t p)))) = _
      rw [hp, ev_bind]
      show (ev E.P (cellH E own nw) (loadVar e ⟨b, off, none⟩)).bind _ = _
      rw [ev_ld (fun k => by unfold cellH; rw [if_neg hb]; exact cellA_own g1 (by rw [g2]; have := of_decide_eq_true hm; simp; omega) k) hv]
      rfl
    show (match ev E.P (cellH E own nw) (execOp (rd t) ⟨some d, .load e p, ty, pos, af, none⟩) with | some (.value v) => some v | _ => none) = some v
    rw [h1]) (fun s' hs' => by simp only [Do] at hs'; subst hs'; exact h hn own nw hs)
/-- A conversion that reads nothing. -/
theorem r_wH (v : Value) {v0 : Value} (hd : decide (d < E.n) = true) (he : v0 = v) (hy : ev E.P (fun _ => none) (execOp (rd t) ⟨some d, op, ty, pos, af, none⟩) = some (.value v0))
    (h : lx E g ops K r (upd t d v) l m) (hpl : PlainH E.ks ⟨some d, op, ty, pos, af, none⟩ := by rfl) : lx E g ops K (⟨some d, op, ty, pos, af, none⟩ :: r) t l m :=
  fun hn own nw hs => lexK_one (e := .val v) hd (by
    unfold HasFx; rw [if_pos (wanted_none rfl _)]; simp only [kdo_H hpl]
    refine ⟨v, ?_, rfl⟩
    unfold loadH
    show (match ev E.P (cellH E own nw) (execOp (rd t) ⟨some d, op, ty, pos, af, none⟩) with | some (.value v) => some v | _ => none) = some v
    rw [ev_mono (c := fun _ => none) (fun _ _ h_ => by cases h_) _ _ hy, he]) (fun s' hs' => by simp only [Do] at hs'; subst hs'; exact h hn own nw hs)

/-- An operation that may read memory (a conversion), and reads what c tells. -/
theorem r_w (v : Value) {v0 : Value} (hk : kd op = .l) (hd : decide (d < E.n) = true) (he : v0 = v) (hy : (l.map (·.1)).Nodup → ev E.P (cellA E (ownL l) (nwL l m)) (execOp (rd t) ⟨some d, op, ty, pos, af, none⟩) = some (.value v0))
    (h : lx E g ops K r (upd t d v) l m) (hpl : Plain E.ks ⟨some d, op, ty, pos, af, none⟩ := by rfl) : lx E g ops K (⟨some d, op, ty, pos, af, none⟩ :: r) t l m :=
  fun hn own nw hs => lexK_l rfl (kdo_eq hpl hk (by decide)) hd v (by
    unfold loadOf
    show (match ev E.P (cellA E own nw) (execOp (rd t) ⟨some d, op, ty, pos, af, none⟩) with | some (.value v) => some v | _ => none) = some v
    rw [ev_mono (hs.cell hn) _ _ (hy hn), he]) (h hn own nw hs)

theorem r_a (x : TypeId × Array Value) (hk : kd op = .a) (hd : decide (d < E.n) = true) (hx : allocOf E.P t ⟨some d, op, ty, pos, af, none⟩ = some x)
    (h : ∀ b, lx E g ops K r (upd t d (.pointer (some ⟨b, 0, none⟩))) ((b, x) :: l) (if g then m + 1 else m)) (hm : g = true ∨ m = 0) (hpl : Plain E.ks ⟨some d, op, ty, pos, af, none⟩ := by rfl) : lx E g ops K (⟨some d, op, ty, pos, af, none⟩ :: r) t l m :=
  fun hn own nw hs => lexK_a rfl (kdo_eq hpl hk (by decide)) hd x hx (fun b hbase hb => by
    have hbl : ∀ i c y, l[i]? = some (c, y) → c ≠ b := fun i c y hi e => by subst e; change own c = none at hb; rw [(hs.has i _ _ hi).1] at hb; cases hb
    have hnd : (((b, x) :: l).map (·.1)).Nodup := by
      simp only [List.map_cons, List.nodup_cons]
      refine ⟨fun hin => ?_, hn⟩
      obtain ⟨⟨c, y⟩, hy, e⟩ := List.mem_map.1 hin
      obtain ⟨i, hi⟩ := List.getElem?_of_mem hy
      exact hbl i c y hi e
    refine h b hnd _ _ ⟨fun i c y hi => ?_, fun p v hp => ⟨(hs.ro p v hp).1, ?_⟩, fun c hc => ?_⟩
    · cases i with
      | zero =>
        simp only [List.getElem?_cons_zero, Option.some.injEq, Prod.mk.injEq] at hi
        obtain ⟨rfl, rfl⟩ := hi
        refine ⟨upd_same _ _ _, ?_⟩
        rcases hm with rfl | rfl
        · simp [upd_same]
        · cases g
          · simp only [Bool.false_eq_true, if_false]; rw [hs.non _ hb]; rfl
          · simp [upd_same]
      | succ i =>
        simp only [List.getElem?_cons_succ] at hi
        obtain ⟨g1, g2⟩ := hs.has i c y hi
        have hcb := hbl i c y hi
        refine ⟨by show upd own b _ c = _; rw [upd_ne _ _ hcb]; exact g1, ?_⟩
        rcases hm with rfl | rfl
        · simp only [if_true]; rw [upd_ne _ _ hcb, g2]; simp
        · cases g
          · simp only [Bool.false_eq_true, if_false]; rw [g2]; simp
          · simp only [if_true]; rw [upd_ne _ _ hcb, g2]; simp
    · have h1 := (hs.ro p v hp).1
      show upd own b _ p.block = none
      rw [upd_ne _ _ (by have : E.base ≤ b := hbase; omega)]; exact (hs.ro p v hp).2
    · by_cases e : c = b
      · subst e; simp [upd_same] at hc
      · have hc' : own c = none := by change upd own b _ c = none at hc; rwa [upd_ne _ _ e] at hc
        show (if g then upd nw b true else nw) c = false
        cases g
        · simpa using hs.non c hc'
        · simp only [if_true]; rw [upd_ne _ _ e]; exact hs.non c hc')

theorem kdo_pl {ks : List (Option Tmp × Bool)} {g : Bool} {ops : Array Oper} {o : Oper} {k : Kd} (hp : Plain ks o) (h : kdg g ops o = k) : kdo ks g ops o = k := (kdo_plain hp).trans h
theorem r_s (lN : List Bl) (i : Nat) (b off : Nat) (T : TypeId) (cs vs cs' : Array Value) {e : TypeId} {p x : Operand} (hk : kdg g ops ⟨none, .store e p x, ty, pos, af, none⟩ = .s) (hp : rd t p = .pointer (some ⟨b, off, none⟩)) (hl : l[i]? = some (b, T, cs)) (hx : (rd t x).cells = vs)
    (hs : StOk E.P e cs off vs) (he : splice cs off vs = cs') (hN : l.set i (b, T, cs') = lN) (h : lx E g ops K r t lN m) (hpl : Plain E.ks ⟨none, .store e p x, ty, pos, af, none⟩ := by rfl) (hgh : goodk E.ks none = false ∨ b ∈ E.hid := by first | exact .inl rfl | exact .inr (by simp)) : lx E g ops K (⟨none, .store e p x, ty, pos, af, none⟩ :: r) t l m :=
  fun hn own nw hse => lexK_s rfl (kdo_pl hpl hk) rfl b (T, cs') (by
    obtain ⟨ii, hi, hsz⟩ := hs.i
    exact ⟨off, T, cs, ii, hp, (hse.has i _ _ hl).1, hi, by rw [hx]; exact hsz, by rw [hx]; exact hs.le, by rw [hx]; exact hs.one, by rw [hx, he]⟩) (by
    subst hN
    exact h (by rw [set_map hl]; exact hn) _ _ (hse.set hn hl)) hgh
theorem r_sH (lN : List Bl) (i : Nat) (b off : Nat) (T : TypeId) (cs vs cs' : Array Value) {e : TypeId} {p x : Operand} (hk : kdg g ops ⟨none, .store e p x, ty, pos, af, none⟩ = .s) (hp : rd t p = .pointer (some ⟨b, off, none⟩)) (hl : l[i]? = some (b, T, cs)) (hx : (rd t x).cells = vs)
    (hs : StOk E.P e cs off vs) (he : splice cs off vs = cs') (hN : l.set i (b, T, cs') = lN) (hgh : b ∈ E.hid) (h : lx E g ops K r t lN m) (hpl : Plain E.ks ⟨none, .store e p x, ty, pos, af, none⟩ := by rfl) : lx E g ops K (⟨none, .store e p x, ty, pos, af, none⟩ :: r) t l m :=
  fun hn own nw hse => lexK_s rfl (kdo_pl hpl hk) rfl b (T, cs') (by
    obtain ⟨ii, hi, hsz⟩ := hs.i
    exact ⟨off, T, cs, ii, hp, (hse.has i _ _ hl).1, hi, by rw [hx]; exact hsz, by rw [hx]; exact hs.le, by rw [hx]; exact hs.one, by rw [hx, he]⟩) (by
    subst hN
    exact h (by rw [set_map hl]; exact hn) _ _ (hse.set hn hl)) (.inr hgh)
theorem r_sn (lN : List Bl) (i : Nat) (b off : Nat) (T : TypeId) (cs vs cs' : Array Value) {e : TypeId} {p x : Operand} (hk : kdg g ops ⟨none, .store e p x, ty, pos, af, none⟩ = .n) (hp : rd t p = .pointer (some ⟨b, off, none⟩)) (hl : l[i]? = some (b, T, cs)) (hm : decide (i < m) = true) (hx : (rd t x).cells = vs)
    (hs : StOk E.P e cs off vs) (he : splice cs off vs = cs') (hN : l.set i (b, T, cs') = lN) (h : lx E g ops K r t lN m) (hpl : Plain E.ks ⟨none, .store e p x, ty, pos, af, none⟩ := by rfl) : lx E g ops K (⟨none, .store e p x, ty, pos, af, none⟩ :: r) t l m :=
  fun hn own nw hse => lexK_n rfl (kdo_pl hpl hk) rfl b (T, cs') (by
    obtain ⟨ii, hi, hsz⟩ := hs.i
    exact ⟨off, T, cs, ii, hp, (hse.has i _ _ hl).1, hi, by rw [hx]; exact hsz, by rw [hx]; exact hs.le, by rw [hx]; exact hs.one, by rw [hx, he]⟩) (by
    show nw b = true
    rw [(hse.has i _ _ hl).2]; exact hm) (by
    subst hN
    exact h (by rw [set_map hl]; exact hn) _ _ (hse.set hn hl))

/-- l1 is l with its blocks changed as U tells. -/
structure PutU (l U l1 : List Bl) : Prop where
  same : l1.map (·.1) = l.map (·.1)
  has : ∀ (i : Nat) b x, l1[i]? = some (b, x) → (b, x) ∈ U ∨ ((∀ y ∈ U, y.1 ≠ b) ∧ l[i]? = some (b, x))
theorem PutU.nil (l : List Bl) : PutU l [] l := ⟨rfl, fun _ _ _ h => .inr ⟨(fun _ hy => nomatch hy), h⟩⟩
theorem PutU.one {l : List Bl} (hn : (l.map (·.1)).Nodup) {i b : Nat} {x y : TypeId × Array Value} (hl : l[i]? = some (b, x)) : PutU l [(b, y)] (l.set i (b, y)) := by
  refine ⟨set_map hl, fun j c z hj => ?_⟩
  rw [List.getElem?_set] at hj
  split at hj
  · split at hj
    · cases hj; exact .inl (by simp)
    · cases hj
  · rename_i hij
    refine .inr ⟨fun y hy e => ?_, hj⟩
    simp only [List.mem_singleton] at hy
    subst hy
    subst e
    have e1 : (l.map (·.1))[i]? = some b := by rw [List.getElem?_map, hl]; rfl
    have e2 : (l.map (·.1))[j]? = some b := by rw [List.getElem?_map, hj]; rfl
    obtain ⟨hi', e1⟩ := List.getElem?_eq_some_iff.1 e1
    obtain ⟨hj', e2⟩ := List.getElem?_eq_some_iff.1 e2
    exact hij ((List.getElem_inj hn).1 (e1.trans e2.symm))

/-- A general operation: p tells what may come of it. -/
theorem r_g {dd : Option Tmp} (mu : Bool) (p : Pst) (hd : (match dd with | some d => decide (d < E.n) | none => true) = true) (hk : E.ks.find? (fun x => x.1 == dd) = some (dd, mu)) (hsel : isSel op = false) (hm : decide (m ≤ l.length) = true)
    (H : (l.map (·.1)).Nodup → ∀ own nw, Sees E l m own nw → GenOk E g ⟨t, own, nw⟩ ⟨dd, op, ty, pos, af, none⟩ mu ∧ ∀ v L U, conOf E ⟨t, own, nw⟩ ⟨dd, op, ty, pos, af, none⟩ v L U → p v L U)
    (h : ∀ v L U, p v L U → ∃ l1, ((l.map (·.1)).Nodup → PutU l U l1) ∧ lx E g ops K r (putT t dd v) (l1 ++ L) m) : lx E g ops K (⟨dd, op, ty, pos, af, none⟩ :: r) t l m :=
  fun hn own nw hs => by
    obtain ⟨hG, hp⟩ := H hn own nw hs
    refine lexK_g rfl mu (by unfold kdo; rw [show List.find? (fun x : Option Tmp × Bool => x.1 == (Oper.dst ⟨dd, op, ty, pos, af, none⟩)) E.ks = some (dd, mu) from hk]; simp [hsel]) hd hG (fun v L U hc hL => ?_)
    obtain ⟨l1, hu, hlx⟩ := h v L U (hp v L U hc)
    have hU := hu hn
    obtain ⟨hnd, hndU⟩ := hG.nod v L U hc
    have hLl : ∀ x ∈ L, ∀ y ∈ l, x.1 ≠ y.1 := fun x hx y hy e => by
      obtain ⟨i, hi⟩ := List.getElem?_of_mem hy
      have h1 := (hs.has i y.1 y.2 hi).1
      have h2 := (hL x hx).2
      change own x.1 = none at h2
      rw [← e, h2] at h1; cases h1
    have hlen : l1.length = l.length := by have := congrArg List.length hU.same; simpa using this
    have hUo : ∀ x ∈ U, ∀ y ∈ L, x.1 ≠ y.1 := fun x hx y hy e => by
      obtain ⟨⟨z, hz⟩, _⟩ := hG.upO v L U hc x hx
      have h2 := (hL y hy).2
      change own x.1 = some z at hz; change own y.1 = none at h2
      rw [← e, hz] at h2; cases h2
    refine hlx ?_ _ _ ⟨fun i b x hi => ?_, fun q u hq => ⟨(hs.ro q u hq).1, ?_⟩, fun b hb => ?_⟩
    · rw [List.map_append, hU.same]
      refine List.nodup_append.2 ⟨hn, hnd, fun a ha b hb e => ?_⟩
      obtain ⟨y, hy, rfl⟩ := List.mem_map.1 ha
      obtain ⟨x, hx, rfl⟩ := List.mem_map.1 hb
      exact hLl x hx y hy e.symm
    · rw [List.getElem?_append] at hi
      split at hi
      · rename_i hlt
        have hbl : ∃ y, l[i]? = some (b, y) := by
          have e1 : (l1.map (·.1))[i]? = some b := by rw [List.getElem?_map, hi]; rfl
          rw [hU.same, List.getElem?_map] at e1
          cases hli : l[i]? with
          | none => rw [hli] at e1; cases e1
          | some z => rw [hli] at e1; simp only [Option.map_some, Option.some.injEq] at e1; exact ⟨z.2, by rw [← e1]⟩
        obtain ⟨y, hy⟩ := hbl
        have hnL : ∀ z ∈ L, z.1 ≠ b := fun z hz e => hLl z hz (b, y) (List.mem_of_getElem? hy) e
        refine ⟨?_, by show seen L nw b = _; rw [seen_not hnL]; exact (hs.has i b y hy).2⟩
        show over L (over U own) b = some x
        rw [over_not hnL]
        rcases hU.has i b x hi with h1 | ⟨h1, h2⟩
        · exact over_mem (x := (b, x)) hndU h1
        · rw [over_not h1]; exact (hs.has i b x h2).1
      · rename_i hge
        have hmem := List.mem_of_getElem? hi
        refine ⟨over_mem (x := (b, x)) hnd hmem, ?_⟩
        show seen L nw b = _
        rw [seen_mem (x := (b, x)) hmem]
        have := of_decide_eq_true hm
        symm; simp; omega
    · have h1 := (hs.ro q u hq).2
      show over L (over U own) q.block = none
      have hb := (hs.ro q u hq).1
      rw [over_not (fun x hx e => by have := (hL x hx).1; change E.base ≤ x.1 at this; omega), over_not (fun x hx e => by
        obtain ⟨⟨z, hz⟩, _⟩ := hG.upO v L U hc x hx
        change own x.1 = some z at hz
        rw [e, h1] at hz; cases hz)]
      exact h1
    · have hb' : over L (over U own) b = none := hb
      have n1 : ∀ x ∈ L, x.1 ≠ b := fun x hx e => by subst e; rw [over_mem hnd hx] at hb'; cases hb'
      show seen L nw b = false
      rw [seen_not n1]
      rw [over_not n1] at hb'
      refine hs.non b ?_
      unfold over at hb'
      split at hb'
      · cases hb'
      · exact hb'
/-- A blind general operation: p tells what may come of it. -/
theorem r_gb {dd : Option Tmp} (p : Pst) (hd : (match dd with | some d => decide (d < E.n) | none => true) = true) (hk : (E.ks.find? (fun x => x.1 == dd), blindK E.ks dd) = (none, true)) (hsel : isSel op = false) (hm : decide (m ≤ l.length) = true)
    (H : ∀ own nw, Sees E [] 0 own nw → GenOk E g ⟨t, own, nw⟩ ⟨dd, op, ty, pos, af, none⟩ false ∧ ∀ v L U, conOf E ⟨t, own, nw⟩ ⟨dd, op, ty, pos, af, none⟩ v L U → p v L U)
    (h : ∀ v L, p v L [] → lx E g ops K r (putT t dd v) (l ++ L) m) : lx E g ops K (⟨dd, op, ty, pos, af, none⟩ :: r) t l m :=
  fun hn own nw hs => by
    obtain ⟨hG, hp⟩ := H (fun _ => none) (fun _ => false) ⟨fun i b x hi => (by simp at hi), fun q u hq => ⟨(hs.ro q u hq).1, rfl⟩, fun _ _ => rfl⟩
    have hk1 : E.ks.find? (fun x => x.1 == dd) = none := congrArg Prod.fst hk
    have hk2 : blindK E.ks dd = true := congrArg Prod.snd hk
    refine lexK_k rfl (by unfold kdo; rw [show List.find? (fun x : Option Tmp × Bool => x.1 == (Oper.dst ⟨dd, op, ty, pos, af, none⟩)) E.ks = none from hk1]; simp [hsel, hk2]) hd hG (fun v L U hc hL => ?_)
    obtain rfl := hG.pur rfl v L U hc
    have hlx := h v L (hp v L [] hc)
    obtain ⟨hnd, _⟩ := hG.nod v L [] hc
    have hLl : ∀ x ∈ L, ∀ y ∈ l, x.1 ≠ y.1 := fun x hx y hy e => by
      obtain ⟨i, hi⟩ := List.getElem?_of_mem hy
      have h1 := (hs.has i y.1 y.2 hi).1
      have h2 := (hL x hx).2
      change own x.1 = none at h2
      rw [← e, h2] at h1; cases h1
    refine hlx ?_ _ _ ⟨fun i b x hi => ?_, fun q u hq => ⟨(hs.ro q u hq).1, ?_⟩, fun b hb => ?_⟩
    · rw [List.map_append]
      refine List.nodup_append.2 ⟨hn, hnd, fun a ha b hb e => ?_⟩
      obtain ⟨y, hy, rfl⟩ := List.mem_map.1 ha
      obtain ⟨x, hx, rfl⟩ := List.mem_map.1 hb
      exact hLl x hx y hy e.symm
    · rw [List.getElem?_append] at hi
      split at hi
      · have hnL : ∀ z ∈ L, z.1 ≠ b := fun z hz e => hLl z hz (b, x) (List.mem_of_getElem? hi) e
        refine ⟨?_, by show seen L nw b = _; rw [seen_not hnL]; exact (hs.has i b x hi).2⟩
        show over L (over [] own) b = some x
        rw [over_not hnL]; exact (hs.has i b x hi).1
      · rename_i hge
        have hmem := List.mem_of_getElem? hi
        refine ⟨over_mem (x := (b, x)) hnd hmem, ?_⟩
        show seen L nw b = _
        rw [seen_mem (x := (b, x)) hmem]
        have := of_decide_eq_true hm
        symm; simp; omega
    · have h1 := (hs.ro q u hq).2
      show over L (over [] own) q.block = none
      have hb := (hs.ro q u hq).1
      rw [over_not (fun x hx e => by have := (hL x hx).1; change E.base ≤ x.1 at this; omega)]
      exact h1
    · have hb' : over L (over [] own) b = none := hb
      have n1 : ∀ x ∈ L, x.1 ≠ b := fun x hx e => by subst e; rw [over_mem hnd hx] at hb'; cases hb'
      show seen L nw b = false
      rw [seen_not n1]
      rw [over_not n1] at hb'
      exact hs.non b hb'
end

/-! ### Code over lists -/
abbrev QL := Exit → (Nat → Value) → List Bl → Prop
def nonw : Nat → Bool := fun _ => false
def thenL (K : (Nat → Value) → List Bl → Prop) (Q : QL) : QL
  | .normal, t, l => K t l
  | e, t, l => Q e t l
def blockL (id : Nat) (Q : QL) : QL
  | .exit id', t, l => if id' = id then Q .normal t l else Q (.exit id') t l
  | e, t, l => Q e t l
def SimL (E : Env) (w0 : World) (t : Nat → Value) (l : List Bl) (a : Act) (w : World) : Prop := (l.map (·.1)).Nodup ∧ Sim E w0 ⟨t, ownL l, nonw⟩ a w
def PostL (E : Env) (w0 : World) (Q : QL) : Exit → Act → World → Prop := fun e a w => ∃ t l, Q e t l ∧ SimL E w0 t l a w
/-- From the state (t, l), in whatever world it describes, the code c comes to Q. -/
def A (E : Env) (c : Code) (Q : QL) (t : Nat → Value) (l : List Bl) : Prop := ∀ w0 a w, E.P.follows .mixedOrders = true → SimL E w0 t l a w → c.wp E.P (PostL E w0 Q) a w
theorem nwL_zero (l : List Bl) : nwL l 0 = nonw := by funext b; simp [nwL, nonw]
/-- l' is what is remembered of l. -/
structure Sub (l' l : List Bl) : Prop where
  mem : ∀ x ∈ l', x ∈ l
  nod : (l.map (·.1)).Nodup → (l'.map (·.1)).Nodup
theorem Sub.of {l' l : List Bl} (h : l'.Sublist l) : Sub l' l := ⟨fun _ hx => h.subset hx, fun hn => (h.map _).nodup hn⟩
theorem Sub.sim {E : Env} {w0 w : World} {t : Nat → Value} {l l' : List Bl} {a : Act} (h : Sub l' l) (hs : SimL E w0 t l a w) : SimL E w0 t l' a w := by
  refine ⟨h.nod hs.1, hs.2.dfr, hs.2.sz, hs.2.tm, hs.2.bel, hs.2.bs, hs.2.ro, fun b T cs ho => hs.2.own b T cs ?_, hs.2.iv⟩
  have hm : ∀ {l : List Bl} {b : Nat} {x : TypeId × Array Value}, ownL l b = some x → (b, x) ∈ l := by
    intro l b x h
    induction l with
    | nil => cases h
    | cons y l ih =>
      obtain ⟨c, y⟩ := y
      simp only [ownL] at h
      split at h
      · rename_i he; subst he; cases h; simp
      · exact List.mem_cons_of_mem _ (ih h)
  have h2 := h.mem _ (hm ho)
  obtain ⟨i, hi⟩ := List.getElem?_of_mem h2
  exact ownL_get hs.1 hi
structure Fg (J : (Nat → Value) → List Bl → Prop) (t : Nat → Value) (l : List Bl) : Prop where
  out : ∃ l', Sub l' l ∧ J t l'
section
variable {E : Env} {Q : QL} {t : Nat → Value} {l : List Bl}
theorem A_forget {c' : Code} (l' : List Bl) (hs : Sub l' l) (h : A E c' Q t l') : A E c' Q t l := fun w0 a w hm hsim => h w0 a w hm (hs.sim hsim)
theorem sep_nil {t : Nat → Value} : Sep [] t := fun _ h => by simp at h
theorem sep_cons {t : Nat → Value} {l : List Bl} {ps : List (Nat × Nat)} {p q : Nat} (hn : (l.map (·.1)).Nodup) (i j : Nat) (hij : decide (i = j) = false) {b c : Nat} {x y : TypeId × Array Value} (hi : l[i]? = some (b, x)) (hj : l[j]? = some (c, y))
    {o o' : Nat} (h1 : t p = .pointer (some ⟨b, o, none⟩)) (h2 : t q = .pointer (some ⟨c, o', none⟩)) (h : Sep ps t) : Sep ((p, q) :: ps) t := by
  intro pq hpq
  rcases List.mem_cons.1 hpq with rfl | hpq
  · simp only [h1, h2, blk, ne_eq, Option.some.injEq]
    intro e
    subst e
    have e1 : (l.map (·.1))[i]? = some b := by rw [List.getElem?_map, hi]; rfl
    have e2 : (l.map (·.1))[j]? = some b := by rw [List.getElem?_map, hj]; rfl
    obtain ⟨hi', e1⟩ := List.getElem?_eq_some_iff.1 e1
    obtain ⟨hj', e2⟩ := List.getElem?_eq_some_iff.1 e2
    exact of_decide_eq_false hij ((List.getElem_inj hn).1 (e1.trans e2.symm))
  · exact h pq hpq
theorem SimL.sees {w0 w : World} {a : Act} (hs : SimL E w0 t l a w) : Sees E l 0 (ownL l) nonw :=
  ⟨fun i b x hi => ⟨ownL_get hs.1 hi, by simp [nonw]⟩, fun p v hp => by
    obtain ⟨h1, h2, _⟩ := hs.2.ro p v hp
    refine ⟨h1, ?_⟩
    cases ho : ownL l p.block with
    | none => rfl
    | some x =>
      rcases (hs.2.own p.block x.1 x.2 ho).1 with h3 | h3
      · omega
      · exact absurd h3 h2, fun _ _ => rfl⟩
theorem Sees.simL {m : Nat} {own : Nat → Option (TypeId × Array Value)} {nw : Nat → Bool} {E' : Env} (h : Sees E' l m own nw) (hn : (l.map (·.1)).Nodup) {w0 w : World} {a : Act} (hs : Sim E w0 ⟨t, own, nw⟩ a w) : SimL E w0 t l a w :=
  ⟨hn, hs.dfr, hs.sz, hs.tm, hs.bel, hs.bs, hs.ro, fun b T cs ho => by
    obtain ⟨i, hi⟩ := ownL_idx ho
    exact hs.own b T cs (h.has i _ _ hi).1, hs.iv⟩
theorem Sim.with {ks : List (Option Tmp × Bool)} {con : Con} {hid : List Nat} {w0 w : World} {s : St} {a : Act} (h : Sim E w0 s a w) : Sim { E with ks := ks, con := con, hid := hid } w0 s a w := ⟨h.dfr, h.sz, h.tm, h.bel, h.bs, h.ro, h.own, h.iv⟩
theorem Sim.without {ks : List (Option Tmp × Bool)} {con : Con} {hid : List Nat} {w0 w : World} {s : St} {a : Act} (h : Sim { E with ks := ks, con := con, hid := hid } w0 s a w) : Sim E w0 s a w := ⟨h.dfr, h.sz, h.tm, h.bel, h.bs, h.ro, h.own, h.iv⟩
/-- A region whose order is the text's. ks names its general operations; con tells what they may do. -/
theorem A_regC {id : Nat} {r : List Oper} (ks : List (Option Tmp × Bool)) (con : Con) (h : lx { E with ks := ks, con := con } false r.toArray (Q .normal) r t l 0) : A E (.region id r.toArray false) Q t l := fun w0 a w _ hs => by
  have h1 := h hs.1 (ownL l) nonw ⟨hs.sees.has, hs.sees.ro, hs.sees.non⟩
  refine wp_region_list (Sim.list (E := { E with ks := ks, con := con }) (w0 := w0) (Q' := PostL E w0 Q) (fun s a w hk hs => ?_) _ _ a w hs.2.with h1)
  obtain ⟨l', m', hn', hse, hq⟩ := hk
  exact ⟨s.t, l', hq, hse.simL hn' hs.without⟩
theorem A_reg {id : Nat} {r : List Oper} (h : lx E false r.toArray (Q .normal) r t l 0) : A E (.region id r.toArray false) Q t l := A_regC E.ks E.con h
theorem pick_range (ops : Array Oper) : pick ops (List.range ops.size) = ops.toList := by
  unfold pick
  apply List.ext_getElem?
  intro i
  have : ∀ (n k : Nat), k + n = ops.size → List.filterMap (fun i => ops[i]?) (List.range' k n) = ops.toList.drop k := by
    intro n
    induction n with
    | zero => intro k hk; simp; omega
    | succ n ih =>
      intro k hk
      have hlt : k < ops.size := by omega
      rw [List.range'_succ, List.filterMap_cons, Array.getElem?_eq_getElem hlt]
      simp only
      rw [ih (k + 1) (by omega)]
      have e := List.drop_eq_getElem_cons (l := ops.toList) (i := k) (by simpa using hlt)
      rw [e]; simp
  rw [List.range_eq_range', this ops.size 0 (by omega)]
  rfl
/-- A region whose order is left open; it is walked in the order π. -/
theorem goodk_hmk {ks : List (Option Tmp × Bool)} {d : Option Tmp} (h : goodk ks d = true) : hmk ks = true := by
  obtain ⟨x, hx, he⟩ := List.any_eq_true.1 h
  refine List.any_eq_true.2 ⟨x, hx, ?_⟩
  simp only [Bool.and_eq_true, beq_iff_eq] at he
  unfold isHM
  rw [he.2]
  simp only [he.1, Bool.true_and]
  exact decide_eq_true (Nat.le_add_right _ _)
theorem A_drawH0 {id : Nat} {r : List Oper} (ks : List (Option Tmp × Bool)) (con : Con) (hid : List Nat) (ps : List (Nat × Nat)) (π : List Nat) (hB : ordOk ks r.toArray ps π = true) (hS : (l.map (·.1)).Nodup → Sep ps t)
    (hH : HidOk { E with ks := ks, con := con, hid := hid } r.toArray)
    (h : (l.map (·.1)).Nodup → lx { E with ks := ks, con := con, hid := hid } true r.toArray (Q .normal) (pick r.toArray π) t l 0) : A E (.region id r.toArray true) Q t l := fun w0 a w hm hs => by
  have h1 := h hs.1 hs.1 (ownL l) nonw ⟨hs.sees.has, hs.sees.ro, hs.sees.non⟩
  have h' : Sim { E with ks := ks, con := con, hid := hid } w0 ⟨t, ownL l, nonw⟩ a { w with drawn := w.drawn + 1 } := hs.2.draw.with
  simp only [ordOk, Bool.and_eq_true, beq_iff_eq, List.all_eq_true, decide_eq_true_eq] at hB
  obtain ⟨⟨⟨hp, hB⟩, hlen⟩, hall⟩ := hB
  have h2 := anyK_ord (E := { E with ks := ks, con := con, hid := hid }) hH hp π (Array.replicate r.toArray.size false) ⟨t, ownL l, nonw⟩ h'.fin (hS hs.1) hall hB h1
  rw [hlen] at h2
  refine wp_region_any hm (Sim.any (E := { E with ks := ks, con := con, hid := hid }) (w0 := w0) (Q' := PostL E w0 Q) (fun s a w hk hs => ?_) _ _ _ _ _ h' h2)
  obtain ⟨l', m', hn', hse, hq⟩ := hk
  exact ⟨s.t, l', hq, hse.simL hn' hs.without⟩
theorem A_drawC {id : Nat} {r : List Oper} (ks : List (Option Tmp × Bool)) (con : Con) (ps : List (Nat × Nat)) (π : List Nat) (hB : ordOk ks r.toArray ps π = true) (hS : (l.map (·.1)).Nodup → Sep ps t)
    (h : lx { E with ks := ks, con := con } true r.toArray (Q .normal) (pick r.toArray π) t l 0) (hg : hmk ks = false := by rfl) : A E (.region id r.toArray true) Q t l := fun w0 a w hm hs => by
  have hH : HidOk { E with ks := ks, con := con } r.toArray := fun o _ hgo => by
    have := goodk_hmk hgo
    rw [show hmk ({ E with ks := ks, con := con } : Env).ks = false from hg] at this
    cases this
  have h1 := h hs.1 (ownL l) nonw ⟨hs.sees.has, hs.sees.ro, hs.sees.non⟩
  have h' : Sim { E with ks := ks, con := con } w0 ⟨t, ownL l, nonw⟩ a { w with drawn := w.drawn + 1 } := hs.2.draw.with
  simp only [ordOk, Bool.and_eq_true, beq_iff_eq, List.all_eq_true, decide_eq_true_eq] at hB
  obtain ⟨⟨⟨hp, hB⟩, hlen⟩, hall⟩ := hB
  have h2 := anyK_ord (E := { E with ks := ks, con := con }) hH hp π (Array.replicate r.toArray.size false) ⟨t, ownL l, nonw⟩ h'.fin (hS hs.1) hall hB h1
  rw [hlen] at h2
  refine wp_region_any hm (Sim.any (E := { E with ks := ks, con := con }) (w0 := w0) (Q' := PostL E w0 Q) (fun s a w hk hs => ?_) _ _ _ _ _ h' h2)
  obtain ⟨l', m', hn', hse, hq⟩ := hk
  exact ⟨s.t, l', hq, hse.simL hn' hs.without⟩
theorem A_draw {id : Nat} {r : List Oper} (ps : List (Nat × Nat)) (hB : lexOk r.toArray ps = true) (hS : (l.map (·.1)).Nodup → Sep ps t) (h : lx { E with ks := [] } true r.toArray (Q .normal) r t l 0) : A E (.region id r.toArray true) Q t l :=
  A_drawC [] E.con ps (List.range r.toArray.size) hB hS (by rw [pick_range]; exact h)
theorem A_seq {x y : Code} (h : ∀ K : (Nat → Value) → List Bl → Prop, (∀ t l, A E y Q t l → K t l) → A E x (thenL K Q) t l) : A E (.seq x y) Q t l := fun w0 a w hm hs => by
  refine wp_seq (Code.wp_mono (fun e a w hk => ?_) (h _ (fun _ _ h => h) w0 a w hm hs))
  obtain ⟨t', l', hq, hs'⟩ := hk
  cases e with
  | normal => exact hq w0 a w hm hs'
  | _ => exact ⟨t', l', hq, hs'⟩
/-- A cut: what is known behind x. -/
theorem A_cut {x y : Code} (J : (Nat → Value) → List Bl → Prop) (h : A E x (thenL (Fg J) Q) t l) (h2 : ∀ t l, J t l → A E y Q t l) : A E (.seq x y) Q t l := fun w0 a w hm hs => by
  refine wp_seq (Code.wp_mono (fun e a w hk => ?_) (h w0 a w hm hs))
  obtain ⟨t', l', hq, hs'⟩ := hk
  cases e with
  | normal =>
    obtain ⟨l2, hsub, hj⟩ := hq.out
    exact h2 _ _ hj w0 a w hm (hsub.sim hs')
  | _ => exact ⟨t', l', hq, hs'⟩
theorem A_cond {c : Operand} {x y : Code} (b : Bool) (hx : rd t c = .bool b) (h1 : b = true → A E x Q t l) (h2 : b = false → A E y Q t l) : A E (.cond c x y) Q t l :=
  fun w0 a w hm hs => wp_cond_split (t := b) (by rw [hs.2.eval]; exact hx) (fun hb => h1 hb w0 a w hm hs) (fun hb => h2 hb w0 a w hm hs)
theorem A_cF {c : Operand} {x y : Code} (hx : rd t c = .bool false) (h : A E y Q t l) : A E (.cond c x y) Q t l := A_cond false hx (fun h => nomatch h) (fun _ => h)
theorem A_cT {c : Operand} {x y : Code} (hx : rd t c = .bool true) (h : A E x Q t l) : A E (.cond c x y) Q t l := A_cond true hx (fun _ => h) (fun h => nomatch h)
theorem A_block {id : Nat} {c : Code} (h : A E c (blockL id Q) t l) : A E (.block id c) Q t l := fun w0 a w hm hs => by
  refine wp_block (Code.wp_mono (fun e a w hk => ?_) (h w0 a w hm hs))
  obtain ⟨t', l', hq, hs'⟩ := hk
  cases e with
  | exit id' =>
    by_cases hid : id' = id
    · simp only [blockL, if_pos hid] at hq
      simp only [Exit.inBlock, if_pos hid]; exact ⟨t', l', hq, hs'⟩
    · simp only [blockL, if_neg hid] at hq
      simp only [Exit.inBlock, if_neg hid]; exact ⟨t', l', hq, hs'⟩
  | _ => exact ⟨t', l', hq, hs'⟩
theorem A_exit {id : Nat} (h : Q (.exit id) t l) : A E (.exit id) Q t l := fun _ _ _ _ hs => wp_exit ⟨t, l, h, hs⟩
theorem A_ret (h : (l.map (·.1)).Nodup → Q .ret t l) : A E .ret Q t l := fun _ _ _ _ hs => wp_ret ⟨t, l, h hs.1, hs⟩
theorem A_skip (h : Q .normal t l) : A E .skip Q t l := fun _ _ _ _ hs => wp_skip ⟨t, l, h, hs⟩
theorem A_label {k : Nat} (h : Q .normal t l) : A E (.label k) Q t l := fun _ _ _ _ hs => wp_label ⟨t, l, h, hs⟩
/-- A loop by a relation and a measure. -/
theorem A_loop {c : Code} (I : (Nat → Value) → List Bl → Nat → Prop) (n0 : Nat) (h0 : I t l n0)
    (h1 : ∀ t l n, I t l n → A E c (thenL (Fg fun t' l' => ∃ n', n' < n ∧ I t' l' n') Q) t l) : A E (.loop c) Q t l := fun w0 a w hm hs => by
  have key : ∀ n t l a w, I t l n → SimL E w0 t l a w → ∀ (b : Frame) (k : List Item) (cs : List Frame),
      ∃ e a' w', PostL E w0 Q e a' w' ∧ Arrives E.P (lone (b.at a (.code c :: .inLoop c :: k)) cs w) b k cs e a' w' := by
    intro n
    induction n using Nat.strongRecOn with
    | _ n ihn =>
      intro t l a w hI hs b k cs
      obtain ⟨e, a1, w1, ⟨t1, l1, hk, hs1⟩, harr⟩ := h1 t l n hI w0 a w hm hs b (.inLoop c :: k) cs
      cases e with
      | normal =>
        obtain ⟨l2, hsub, n', hlt, hI'⟩ := hk.out
        obtain ⟨e2, a2, w2, hq2, harr2⟩ := ihn n' hlt t1 l2 a1 w1 hI' (hsub.sim hs1) b k cs
        exact ⟨e2, a2, w2, hq2, .of_steps (Steps.trans harr (.one step_inLoop)) harr2⟩
      | exit id => exact ⟨_, a1, w1, ⟨t1, l1, hk, hs1⟩, .pass (x := .inLoop c) rfl (fun _ _ => .inl (by simp)) harr⟩
      | goto l => exact ⟨_, a1, w1, ⟨t1, l1, hk, hs1⟩, .pass (x := .inLoop c) rfl (fun _ _ => .inl (by simp)) harr⟩
      | ret => exact ⟨_, a1, w1, ⟨t1, l1, hk, hs1⟩, .pass (x := .inLoop c) rfl (fun _ _ => .inl (by simp)) harr⟩
      | panic ch => exact ⟨_, a1, w1, ⟨t1, l1, hk, hs1⟩, .pass (x := .inLoop c) rfl (fun _ _ => .inl (by simp)) harr⟩
      | outgrown => exact ⟨_, a1, w1, ⟨t1, l1, hk, hs1⟩, .pass (x := .inLoop c) rfl (fun _ _ => .inl (by simp)) harr⟩
  intro b k cs
  obtain ⟨e, a', w', hq', harr⟩ := key n0 t l a w h0 hs b k cs
  exact ⟨e, a', w', hq', .of_steps (.one step_loop) harr⟩
end
/-- What lies in slots that are not looked at any more may be forgotten. -/
def updL (f : Nat → Value) : List (Nat × Value) → Nat → Value
  | [] => f
  | (k, v) :: r => upd (updL f r) k v
theorem upd_self (f : Nat → Value) (k : Nat) : upd f k (f k) = f := by funext i; unfold upd; split <;> simp_all
theorem updL_self (f : Nat → Value) : ∀ (r : List (Nat × Value)), r.map (fun x => f x.1) = r.map (·.2) → updL f r = f
  | [], _ => rfl
  | (k, v) :: r, h => by
    simp only [List.map_cons, List.cons.injEq] at h
    simp only [updL]
    rw [updL_self f r h.2, ← h.1, upd_self]
theorem fg {J : (Nat → Value) → List Bl → Prop} {t : Nat → Value} {l : List Bl} (l' : List Bl) (hs : Sub l' l) (hj : J t l') : Fg J t l := ⟨⟨l', hs, hj⟩⟩
def Is (kv : List (Nat × Value)) (bl : List Bl) (t : Nat → Value) (l : List Bl) : Prop := (∃ T, t = updL T kv) ∧ l = bl
theorem is_mk {kv : List (Nat × Value)} {bl : List Bl} {t : Nat → Value} (h : kv.map (fun x => t x.1) = kv.map (·.2)) {l : List Bl} (hl : l = bl) : Is kv bl t l := ⟨⟨t, (updL_self t kv h).symm⟩, hl⟩
theorem keep (f : Nat → Value) (r : List (Nat × Value)) (h : r.map (fun x => f x.1) = r.map (·.2)) : ∃ T, f = updL T r := ⟨f, (updL_self f r h).symm⟩

def EndsL (E : Env) (rs : Array ResultVar) (v : Value) : QL
  | .normal, t, l | .ret, t, l => resOf E rs ⟨t, ownL l, nonw⟩ = some v
  | _, _, _ => False
theorem ends_eq {E : Env} {rs : Array ResultVar} {t : Nat → Value} {l : List Bl} {v v0 : Value} (he : v0 = v) (h : resOf E rs ⟨t, ownL l, nonw⟩ = some v0) : resOf E rs ⟨t, ownL l, nonw⟩ = some v := by rw [← he]; exact h
/-- Results that lie in a block. -/
theorem res_cell {E : Env} {t : Nat → Value} {l : List Bl} {k : Tmp} {ty : TypeId} {v : Value} (hn : (l.map (·.1)).Nodup) (i : Nat) {b : Nat} {T : TypeId} {cs : Array Value} (hp : t k = .pointer (some ⟨b, 0, none⟩)) (hl : l[i]? = some (b, T, cs)) (hv : ldCells E.P ty cs 0 = some v) :
    resV E ⟨t, ownL l, nonw⟩ (.cell k ty) = some v := by
  show (match t k with | .pointer (some a) => ev E.P (cellA E (ownL l) nonw) (loadVar ty a) | _ => none) = some v
  rw [hp]
  exact ev_ld (cellA_own (ownL_get hn hl) rfl) hv
theorem res1 {E : Env} {s : St} {a : ResultVar} {x : Value} (ha : resV E s a = some x) : resOf E #[a] s = some x := ha
theorem res2 {E : Env} {s : St} {a b : ResultVar} {x y : Value} (ha : resV E s a = some x) (hb : resV E s b = some y) : resOf E #[a, b] s = some (.tuple #[x, y]) := by
  show ((resV E s a).bind fun x => (resV E s b).bind fun y => some (Value.tuple #[x, y])) = some (Value.tuple #[x, y])
  rw [ha, hb]; rfl
theorem res3 {E : Env} {s : St} {a b c : ResultVar} {x y z : Value} (ha : resV E s a = some x) (hb : resV E s b = some y) (hc : resV E s c = some z) : resOf E #[a, b, c] s = some (.tuple #[x, y, z]) := by
  show ((resV E s a).bind fun x => (resV E s b).bind fun y => (resV E s c).bind fun z => some (Value.tuple #[x, y, z])) = some (Value.tuple #[x, y, z])
  rw [ha, hb, hc]; rfl
theorem res4 {E : Env} {s : St} {a b c d : ResultVar} {x y z u : Value} (ha : resV E s a = some x) (hb : resV E s b = some y) (hc : resV E s c = some z) (hd : resV E s d = some u) : resOf E #[a, b, c, d] s = some (.tuple #[x, y, z, u]) := by
  show ((resV E s a).bind fun x => (resV E s b).bind fun y => (resV E s c).bind fun z => (resV E s d).bind fun u => some (Value.tuple #[x, y, z, u])) = some (Value.tuple #[x, y, z, u])
  rw [ha, hb, hc, hd]; rfl
theorem res5 {E : Env} {s : St} {a b c d e : ResultVar} {x y z u w : Value} (ha : resV E s a = some x) (hb : resV E s b = some y) (hc : resV E s c = some z) (hd : resV E s d = some u) (he : resV E s e = some w) : resOf E #[a, b, c, d, e] s = some (.tuple #[x, y, z, u, w]) := by
  show ((resV E s a).bind fun x => (resV E s b).bind fun y => (resV E s c).bind fun z => (resV E s d).bind fun u => (resV E s e).bind fun w => some (Value.tuple #[x, y, z, u, w])) = some (Value.tuple #[x, y, z, u, w])
  rw [ha, hb, hc, hd, he]; rfl
theorem gives_of_A {P : Program} {f : FuncId} {fn : Func} {c : Code} {args : Array Value} {v : Value} (hm : P.follows .mixedOrders = true) (hf : P.funcs[f]? = some fn) (hb : fn.body = some c)
    (n : Nat) (hn : args.size + (fn.ntmps - args.size) = n) (t0 : Nat → Value) (ht : (fun k => args.getD k undef) = t0) (h : ∀ base, A (env P n base) c (EndsL (env P n base) fn.results v) t0 []) : Gives P f args v := by
  subst ht
  intro w
  refine calls_of_wp hf hb ?_
  have hs : Sim (env P n w.heap.size) w (St.init args) { tmps := args ++ Array.replicate (fn.ntmps - args.size) undef, defers := [] } w := sim_init n hn
  refine Code.wp_mono (fun e a w' hk => ?_) (h w.heap.size w _ w hm ⟨List.nodup_nil, hs⟩)
  obtain ⟨t, l, hq, _, hs⟩ := hk
  cases e with
  | normal => exact ⟨hs.dfr, v, resOf_run hs hq, rfl, hs.bel.below⟩
  | ret => exact ⟨hs.dfr, v, resOf_run hs hq, rfl, hs.bel.below⟩
  | _ => exact hq.elim

/-- What a call does that is handed memory: it may read what ro tells, and read and write the blocks of foot. -/
def DoesI (P : Program) (f : FuncId) (args : Array Value) (inv : World → Prop) (ro : Addr → Option Value) (foot : List Bl) (p : Pst) : Prop :=
  ∀ w, inv w → (∀ a v, ro a = some v → w.cell? a = some v ∧ a.block ∉ foot.map (·.1)) → (∀ x ∈ foot, Holds w x.1 x.2.1 x.2.2) → (foot.map (·.1)).Nodup →
    Calls P f args w fun e w' => ∃ v L U, e = .returned v ∧ ExtW w w' L U ∧ p v L U
def Does (P : Program) (f : FuncId) (args : Array Value) (ro : Addr → Option Value) (foot : List Bl) (p : Pst) : Prop := DoesI P f args (fun _ => True) ro foot p
theorem Does.inv {P : Program} {f : FuncId} {args : Array Value} {ro : Addr → Option Value} {foot : List Bl} {p : Pst} (h : Does P f args ro foot p) (inv : World → Prop) : DoesI P f args inv ro foot p := fun w _ => h w trivial
/-- How a function ends: U tells of all blocks of foot, L of new ones. -/
def EndsP (E : Env) (rs : Array ResultVar) (foot : List Bl) (p : Pst) : QL
  | .normal, t, l | .ret, t, l => ∃ v L U, resOf E rs ⟨t, ownL l, nonw⟩ = some v ∧ Sub (U ++ L) l ∧ U.map (·.1) = foot.map (·.1) ∧ p v L U
  | _, _, _ => False
theorem doesI_of_A {P : Program} {f : FuncId} {fn : Func} {c : Code} {args : Array Value} {ro : Addr → Option Value} {foot : List Bl} {p : Pst} (hm : P.follows .mixedOrders = true) (hf : P.funcs[f]? = some fn) (hb : fn.body = some c)
    (n : Nat) (hn : args.size + (fn.ntmps - args.size) = n) (t0 : Nat → Value) (ht : (fun k => args.getD k undef) = t0)
    {inv : World → Prop} (hinv : ∀ w w', inv w → Kept w.heap.size (foot.map (·.1)) w w' → inv w')
    (h : ∀ base, A { P := P, n := n, base := base, ro := ro, foot := foot.map (·.1), inv := inv } c (EndsP { P := P, n := n, base := base, ro := ro, foot := foot.map (·.1), inv := inv } fn.results foot p) t0 foot) : DoesI P f args inv ro foot p := by
  subst ht
  intro w hiw hro hfo hnd
  refine calls_of_wp hf hb ?_
  have hs0 : Sim (env P n w.heap.size) w (St.init args) { tmps := args ++ Array.replicate (fn.ntmps - args.size) undef, defers := [] } w := sim_init n hn
  have hs : SimL { P := P, n := n, base := w.heap.size, ro := ro, foot := foot.map (·.1), inv := inv } w (fun k => args.getD k undef) foot { tmps := args ++ Array.replicate (fn.ntmps - args.size) undef, defers := [] } w :=
    ⟨hnd, hs0.dfr, hs0.sz, hs0.tm, Kept.refl _ _ _, Nat.le_refl _, fun q v hq => by
      obtain ⟨h1, h2⟩ := hro q v hq
      refine ⟨?_, h2, h1⟩
      unfold World.cell? at h1
      cases hc : w.heap[q.block]? with
      | none => rw [hc] at h1; cases h1
      | some o => exact (Array.getElem?_eq_some_iff.1 hc).1, fun b T cs ho => by
      obtain ⟨i, hi⟩ := ownL_idx ho
      have hmem := List.mem_of_getElem? hi
      exact ⟨.inr (List.mem_map.2 ⟨_, hmem, rfl⟩), hfo _ hmem⟩, fun w' hk => hinv w w' hiw hk⟩
  refine Code.wp_mono (fun e a w' hk => ?_) (h w.heap.size w _ w hm hs)
  obtain ⟨t, l, hq, hnd', hs⟩ := hk
  have fin : (∃ v L U, resOf { P := P, n := n, base := w.heap.size, ro := ro, foot := foot.map (·.1), inv := inv } fn.results ⟨t, ownL l, nonw⟩ = some v ∧ Sub (U ++ L) l ∧ U.map (·.1) = foot.map (·.1) ∧ p v L U) →
      a.defers = [] ∧ ∃ v, (results fn a.tmps).run P w' = .ok v w' ∧ ∃ v' L U, Ending.returned v = .returned v' ∧ ExtW w w' L U ∧ p v' L U := by
    rintro ⟨v, L, U, hv, hsub, hU, hp⟩
    refine ⟨hs.dfr, v, resOf_run hs hv, v, L, U, rfl, ⟨hs.bel.os, hs.bel.tape, hs.bel.output, hs.bel.size, fun k hk hne => hs.bel.block k hk (fun hf => ?_), fun x hx => ?_, fun x hx => ?_, hs.bel.drawn⟩, hp⟩
    · have hf' : k ∈ foot.map (·.1) := hf
      rw [← hU] at hf'
      obtain ⟨y, hy, rfl⟩ := List.mem_map.1 hf'
      exact hne y hy rfl
    · have hmem := hsub.mem _ (List.mem_append_left L hx)
      obtain ⟨i, hi⟩ := List.getElem?_of_mem hmem
      exact (hs.own x.1 x.2.1 x.2.2 (ownL_get hnd' hi)).2
    · have hmem := hsub.mem _ (List.mem_append_right U hx)
      obtain ⟨i, hi⟩ := List.getElem?_of_mem hmem
      obtain ⟨h1, h2⟩ := hs.own x.1 x.2.1 x.2.2 (ownL_get hnd' hi)
      refine ⟨?_, h2⟩
      rcases h1 with h1 | h1
      · exact h1
      · exfalso
        have h1' : x.1 ∈ foot.map (·.1) := h1
        rw [← hU] at h1'
        have hn2 : ((U ++ L).map (·.1)).Nodup := hsub.nod hnd'
        rw [List.map_append, List.nodup_append] at hn2
        exact hn2.2.2 _ h1' _ (List.mem_map.2 ⟨x, hx, rfl⟩) rfl
  cases e with
  | normal => exact fin hq
  | ret => exact fin hq
  | _ => exact hq.elim
theorem does_of_A {P : Program} {f : FuncId} {fn : Func} {c : Code} {args : Array Value} {ro : Addr → Option Value} {foot : List Bl} {p : Pst} (hm : P.follows .mixedOrders = true) (hf : P.funcs[f]? = some fn) (hb : fn.body = some c)
    (n : Nat) (hn : args.size + (fn.ntmps - args.size) = n) (t0 : Nat → Value) (ht : (fun k => args.getD k undef) = t0)
    (h : ∀ base, A { P := P, n := n, base := base, ro := ro, foot := foot.map (·.1) } c (EndsP { P := P, n := n, base := base, ro := ro, foot := foot.map (·.1) } fn.results foot p) t0 foot) : Does P f args ro foot p :=
  doesI_of_A hm hf hb n hn t0 ht (fun _ _ h _ => h) h
theorem Gives.does {P : Program} {f : FuncId} {args : Array Value} {v : Value} (h : Gives P f args v) (ro : Addr → Option Value) : Does P f args ro [] fun v' L U => v' = v ∧ L = [] ∧ U = [] := fun w _ _ _ _ =>
  (h w).mono fun _ _ ⟨h1, h2⟩ => ⟨v, [], [], h1, ⟨h2.os, h2.tape, h2.output, h2.size, fun k hk _ => h2.block k hk, fun _ h => (nomatch h), fun _ h => (nomatch h), h2.drawn⟩, rfl, rfl, rfl⟩
/-- A call as a general operation. -/
theorem GenRun.call {P : Program} {ρ : Operand → Value} {o : Oper} {w : World} {p : Pst} {f : FuncId} {args : Array Value} {c ro : Addr → Option Value} {foot : List Bl} {inv : World → Prop} (hc : ∀ a v, c a = some v → w.cell? a = some v) (he : ev P c (execOp ρ o) = some (.enter f args)) (hd : DoesI P f args inv ro foot p)
    (hi : inv w) (hro : ∀ a v, ro a = some v → w.cell? a = some v ∧ a.block ∉ foot.map (·.1)) (hfo : ∀ x ∈ foot, Holds w x.1 x.2.1 x.2.2) (hn : (foot.map (·.1)).Nodup) : GenRun P ρ o w p :=
  .inr ⟨f, args, ev_run hc _ _ he, hd w hi hro hfo hn⟩

/-! ### Evaluating more -/
theorem ev_mapM {α β : Type} {P : Program} {c : Addr → Option Value} (g : α → Sem β) (h : α → β) : ∀ (l : List α), (∀ x ∈ l, ev P c (g x) = some (h x)) → ev P c (l.mapM g) = some (l.map h)
  | [], _ => by simp [ev_pure]
  | x :: l, hl => by
    have h1 := hl x (by simp)
    have h2 := ev_mapM g h l (fun y hy => hl y (by simp [hy]))
    simp [List.mapM_cons, ev_bind, ev_map, h1, h2]
theorem ev_mapMA {α β : Type} {P : Program} {c : Addr → Option Value} (g : α → Sem β) (h : α → β) (a : Array α) (hl : ∀ x ∈ a, ev P c (g x) = some (h x)) : ev P c (a.mapM g) = some (a.map h) := by
  obtain ⟨l⟩ := a
  have := ev_mapM g h l (fun x hx => hl x (by simpa using hx))
  simp [ev_map, this]

def placeOf (P : Program) (f : Field) : Nat × Nat := (f.offset, ((P.info? f.type).map (·.size)).getD 0)
theorem ev_build {P : Program} {c : Addr → Option Value} {t : TypeId} {parts : Array (Nat × Value)} {fs : Array Field} {z : Value} {cs : Array Value} (hu : P.underlying t = some (.struct fs))
    (hz : (P.info? t).bind (·.zero) = some z) (hf : fs.all (fun f => (P.info? f.type).isSome) = true) (hc : Instr.fill ((fs.map (placeOf P))[·]?) z.cells parts.toList = some cs) :
    ev P c (Instr.build t parts) = some (.agg cs) := by
  have hz' : ev P c (zeroValue t) = some z := by
    cases hi : P.info? t with
    | none => simp [hi] at hz
    | some i =>
      simp only [hi, Option.bind_some] at hz
      simp [zeroValue, typeInfo, program, ev_bind, ev_pure, ev, hi, hz]
  have hm := ev_mapMA (P := P) (c := c) (fun f : Field => (do pure (f.offset, ← sizeOf f.type) : Sem (Nat × Nat))) (placeOf P) fs (fun f hf' => by
    have := (Array.all_eq_true_iff_forall_mem.1 hf) f hf'
    cases hi : P.info? f.type with
    | none => simp [hi] at this
    | some i => simp [ev_map, ev_sizeOf hi, placeOf, hi])
  unfold Instr.build
  simp only [ev_bind, hz', Option.bind_some, ev_underlying hu, hm, hc, ev_pure]
theorem ev_v {P : Program} {c : Addr → Option Value} {s : Sem Value} {v : Value} (h : ev P c s = some v) : ev P c (do pure (Next.value (← s)) : Sem Next) = some (.value v) := by
  simp [ev_map, h]

/-! ### Numbers -/
theorem wi64 {x z : Int} (h : x = z) (h1 : -9223372036854775808 ≤ z) (h2 : z ≤ 9223372036854775807) : Value.int .i64 (IntKind.i64.wrap x) = .int .i64 z := by
  subst h
  have : IntKind.i64.wrap x = x := by
    simp only [IntKind.wrap, IntKind.signed, IntKind.bits]
    simp
    omega
  rw [this]
theorem wu64 (x : Int) : IntKind.u64.wrap x = x % 18446744073709551616 := by
  simp [IntKind.wrap, IntKind.signed, IntKind.bits]
abbrev U (x : BitVec 64) : Value := .int .u64 (x.toNat : Int)
theorem U_add (x y : BitVec 64) : Value.int .u64 (IntKind.u64.wrap ((x.toNat : Int) + (y.toNat : Int))) = U (x + y) := by
  rw [wu64]; congr 1
theorem U_sub (x y : BitVec 64) : Value.int .u64 (IntKind.u64.wrap ((x.toNat : Int) - (y.toNat : Int))) = U (x - y) := by
  rw [wu64]; congr 1; rw [BitVec.toNat_sub]; have := y.isLt; omega
theorem U_mul (x y : BitVec 64) : Value.int .u64 (IntKind.u64.wrap ((x.toNat : Int) * (y.toNat : Int))) = U (x * y) := by
  rw [wu64]; congr 1
theorem U_wrap (n : Nat) : Value.int .u64 (IntKind.u64.wrap (n : Int)) = U (BitVec.ofNat 64 n) := by
  rw [wu64]; congr 1
theorem U_quo (x y : BitVec 64) : Value.int .u64 (IntKind.u64.wrap ((x.toNat : Int).tdiv (y.toNat : Int))) = U (x / y) := by
  rw [wu64]; congr 1; rw [BitVec.toNat_udiv, ← Int.ofNat_tdiv]
  have h1 := x.isLt
  have h2 : x.toNat / y.toNat ≤ x.toNat := Nat.div_le_self _ _
  generalize x.toNat / y.toNat = q at *
  omega
theorem U_rem (x y : BitVec 64) : Value.int .u64 ((x.toNat : Int).tmod (y.toNat : Int)) = U (x % y) := by
  congr 1
theorem ofInt_toNat (x : BitVec 64) : BitVec.ofInt 64 (x.toNat : Int) = x := by
  rw [BitVec.ofInt_natCast, BitVec.ofNat_toNat, BitVec.setWidth_eq]
theorem U_and (x y : BitVec 64) : Value.int .u64 (IntKind.u64.wrap ((BitVec.ofInt 64 (x.toNat : Int) &&& BitVec.ofInt 64 (y.toNat : Int)).toNat : Int)) = U (x &&& y) := by
  rw [ofInt_toNat, ofInt_toNat, U_wrap, BitVec.ofNat_toNat, BitVec.setWidth_eq]
theorem U_or (x y : BitVec 64) : Value.int .u64 (IntKind.u64.wrap ((BitVec.ofInt 64 (x.toNat : Int) ||| BitVec.ofInt 64 (y.toNat : Int)).toNat : Int)) = U (x ||| y) := by
  rw [ofInt_toNat, ofInt_toNat, U_wrap, BitVec.ofNat_toNat, BitVec.setWidth_eq]
theorem U_xor (x y : BitVec 64) : Value.int .u64 (IntKind.u64.wrap ((BitVec.ofInt 64 (x.toNat : Int) ^^^ BitVec.ofInt 64 (y.toNat : Int)).toNat : Int)) = U (x ^^^ y) := by
  rw [ofInt_toNat, ofInt_toNat, U_wrap, BitVec.ofNat_toNat, BitVec.setWidth_eq]
theorem U_not (x : BitVec 64) : Value.int .u64 (IntKind.u64.wrap ((BitVec.ofInt 64 (IntKind.u64.max) ^^^ BitVec.ofInt 64 (x.toNat : Int)).toNat : Int)) = U (~~~ x) := by
  have : BitVec.ofInt 64 (IntKind.u64.max) = BitVec.allOnes 64 := by decide +kernel
  rw [ofInt_toNat, this, U_wrap, BitVec.ofNat_toNat, BitVec.setWidth_eq, BitVec.allOnes_xor]
theorem U_shl (x : BitVec 64) (n : Nat) : Value.int .u64 (IntKind.u64.wrap ((x.toNat : Int) * 2 ^ (min n 64))) = U (x <<< n) := by
  rw [show ((x.toNat : Int) * 2 ^ (min n 64)) = ((x.toNat * 2 ^ (min n 64) : Nat) : Int) by simp, U_wrap]
  refine congrArg U ?_
  apply BitVec.eq_of_toNat_eq
  rw [BitVec.toNat_ofNat, BitVec.toNat_shiftLeft, Nat.shiftLeft_eq]
  rcases Nat.le_total n 64 with h | h
  · rw [Nat.min_eq_left h]
  · rw [Nat.min_eq_right h, Nat.mul_mod_left]
    obtain ⟨k, rfl⟩ := Nat.exists_eq_add_of_le h
    rw [Nat.pow_add, ← Nat.mul_assoc, Nat.mul_right_comm, Nat.mul_mod_left]
theorem U_shr (x : BitVec 64) (n : Nat) : Value.int .u64 ((x.toNat : Int).fdiv (2 ^ (min n 64))) = U (x >>> n) := by
  congr 1
  rw [BitVec.toNat_ushiftRight, Nat.shiftRight_eq_div_pow]
  rcases Nat.le_total n 64 with h | h
  · rw [Nat.min_eq_left h, Int.fdiv_eq_ediv_of_nonneg _ (Int.le_of_lt (Int.pow_pos (by decide)))]; simp
  · rw [Nat.min_eq_right h, Int.fdiv_eq_ediv_of_nonneg _ (by decide)]
    have h1 := x.isLt
    have h2 : 2 ^ 64 ≤ 2 ^ n := Nat.pow_le_pow_right (by decide) h
    rw [Nat.div_eq_of_lt (by omega)]
    omega

theorem U_eq (x y : BitVec 64) : Value.bool ((x.toNat : Int) == (y.toNat : Int)) = .bool (x == y) := by
  congr 1; rw [Bool.eq_iff_iff]; simp [← BitVec.toNat_inj]; omega
theorem U_ne (x y : BitVec 64) : Value.bool ((x.toNat : Int) != (y.toNat : Int)) = .bool (x != y) := by
  have := U_eq x y; simp only [Value.bool.injEq] at this; simp only [bne, this]
theorem U_lt (x y : BitVec 64) : Value.bool (decide ((x.toNat : Int) < (y.toNat : Int))) = .bool (decide (x < y)) := by
  congr 1; rw [Bool.eq_iff_iff]; simp [BitVec.lt_def]
theorem U_le (x y : BitVec 64) : Value.bool (decide ((x.toNat : Int) ≤ (y.toNat : Int))) = .bool (decide (x ≤ y)) := by
  congr 1; rw [Bool.eq_iff_iff]; simp [BitVec.le_def]
theorem quo_i64 {x y : Int} (h : 0 ≤ x) (h0 : 0 ≤ y) (h1 : x ≤ 9223372036854775807) : Value.int .i64 (IntKind.i64.wrap (x.tdiv y)) = .int .i64 (x / y) := by
  rw [Int.tdiv_eq_ediv_of_nonneg h]
  have h2 : x / y ≤ x := Int.ediv_le_self _ h
  have h3 : 0 ≤ x / y := Int.ediv_nonneg h h0
  exact wi64 rfl (by omega) (by omega)
theorem rem_i64 {x y : Int} (h : 0 ≤ x) : Value.int .i64 (x.tmod y) = .int .i64 (x % y) := by
  rw [Int.tmod_eq_emod_of_nonneg h]
/-- An index into an array behind its address. -/
theorem ev_idx {P : Program} {c : Addr → Option Value} {t : TypeId} {b off : Nat} {n : Nat} {e : TypeId} {i : TypeInfo} (k : Nat) (hu : P.underlying t = some (.array n e)) (hi : P.info? e = some i) (hs : i.size = 1) (hk : k < n) :
    ev P c (Instr.indexAt t (.pointer (some ⟨b, off, none⟩)) (.int .i64 (k : Int))) = some (.pointer (some ⟨b, off + k, none⟩)) := by
  unfold Instr.indexAt
  have h1 : (0 : Int) ≤ k ∧ (k : Int) < n := by omega
  have hadd : (⟨b, off, none⟩ : Addr).add k = ⟨b, off + k, none⟩ := by unfold Addr.add; split <;> simp_all
  simp only [asIntOf, ev_bind, ev_pure, Option.bind_some, ev_underlying hu, Instr.sureAddr, Int.toNat_natCast]
  rw [if_pos h1]
  simp only [ev_bind, ev_sizeOf hi, hs, Option.bind_some, ev_pure, Nat.mul_one, hadd]

theorem ev_zero {P : Program} {c : Addr → Option Value} {t : TypeId} {z : Value} (hz : (P.info? t).bind (·.zero) = some z) : ev P c (zeroValue t) = some z := by
  cases hi : P.info? t with
  | none => simp [hi] at hz
  | some i =>
    simp only [hi, Option.bind_some] at hz
    simp [zeroValue, typeInfo, program, ev_bind, ev_pure, ev, hi, hz]
theorem ev_buildS {P : Program} {c : Addr → Option Value} {ρ : Operand → Value} {d : Option Tmp} {T : TypeId} {l : List (Nat × Operand)} {ty : TypeId} {pos : String} {af : Array Edge} {g : Option (Nat × Bool)} {fs : Array Field} {z : Value} {cs : Array Value}
    (hu : P.underlying T = some (.struct fs)) (hz : (P.info? T).bind (·.zero) = some z) (hf : fs.toList.all (fun f => (P.info? f.type).isSome) = true)
    (hc : Instr.fill ((fs.toList.map (placeOf P))[·]?) z.cells (l.map fun x => (x.1, ρ x.2)) = some cs) :
    ev P c (execOp ρ ⟨d, .build T l.toArray, ty, pos, af, g⟩) = some (.value (.agg cs)) := by
  refine ev_v (s := Instr.build T (l.toArray.map fun x => (x.1, ρ x.2))) ?_
  rw [List.map_toArray]
  exact ev_build hu hz (by rw [← Array.all_toList]; exact hf) (by
    rw [show (fun x => (fs.map (placeOf P))[x]?) = ((fs.toList.map (placeOf P))[·]?) from by funext x; rw [← Array.toList_map, Array.getElem?_toList]]
    exact hc)
theorem ev_buildA {P : Program} {c : Addr → Option Value} {ρ : Operand → Value} {d : Option Tmp} {T : TypeId} {l : List (Nat × Operand)} {ty : TypeId} {pos : String} {af : Array Edge} {g : Option (Nat × Bool)} {n : Nat} {e : TypeId} {i : TypeInfo} {z : Value} {cs : Array Value}
    (hu : P.underlying T = some (.array n e)) (hz : (P.info? T).bind (·.zero) = some z) (hi : P.info? e = some i)
    (hc : Instr.fill (fun k => some (k * i.size, i.size)) z.cells (l.map fun x => (x.1, ρ x.2)) = some cs) :
    ev P c (execOp ρ ⟨d, .build T l.toArray, ty, pos, af, g⟩) = some (.value (.agg cs)) := by
  refine ev_v (s := Instr.build T (l.toArray.map fun x => (x.1, ρ x.2))) ?_
  rw [List.map_toArray]
  unfold Instr.build
  simp only [ev_bind, ev_zero hz, Option.bind_some, ev_underlying hu, ev_sizeOf hi, hc, ev_pure]
def callB (P : Program) (f : FuncId) : Bool := match P.funcs[f]? with | some fn => fn.name != "runtime.NumGoroutine" && fn.body.isSome | none => false
theorem ev_callF {P : Program} {c : Addr → Option Value} {ρ : Operand → Value} {d : Option Tmp} {f : FuncId} {l : List Operand} {ts : Array TypeId} {ty : TypeId} {pos : String} {af : Array Edge} {g : Option (Nat × Bool)} (hρ : ρ (.func f) = .func (.func f) #[] #[]) (h : callB P f = true) {args : List Value} (ha : l.map ρ = args) :
    ev P c (execOp ρ ⟨d, .call ⟨.value (.func f), l.toArray, ts⟩, ty, pos, af, g⟩) = some (.enter f args.toArray) := by
  unfold callB at h
  cases hf : P.funcs[f]? with
  | none => simp [hf] at h
  | some fn =>
    simp only [hf, Bool.and_eq_true, bne_iff_ne, ne_eq] at h
    obtain ⟨h1, h2⟩ := h
    have ha' : l.toArray.map ρ = args.toArray := by rw [List.map_toArray, ha]
    have hr : ev P c (resolve ρ ⟨.value (.func f), l.toArray, ts⟩ ty) = (ev P c (Deferred.ofValue (ρ (.func f)) args.toArray)) := by
      show ev P c (Deferred.ofValue (ρ (.func f)) (l.toArray.map ρ)) = _
      rw [ha']
    show ev P c (do let d ← resolve ρ ⟨.value (.func f), l.toArray, ts⟩ ty; invoke d.target d.args) = _
    rw [ev_bind, hr, hρ]
    show ev P c (invoke (.fn (.func f) #[]) (#[] ++ args.toArray)) = _
    have h5 : ¬ fn.body = none := by intro e; simp [e] at h2
    simp [invoke, callFunc, program, ev_bind, ev, hf, h1, h5, ev_pure]

theorem ev_callX {P : Program} {c : Addr → Option Value} {ρ : Operand → Value} {d : Option Tmp} {f : FuncId} {l : List Operand} {ts : Array TypeId} {ty : TypeId} {pos : String} {af : Array Edge} {g : Option (Nat × Bool)} {fn : Func} {F : Array Value → Sem Value} {v : Value} (hρ : ρ (.func f) = .func (.func f) #[] #[])
    (hf : P.funcs[f]? = some fn) (hb : fn.body = none) (hn : (fn.name == "runtime.NumGoroutine") = false) (hx : Extern.findNext fn = none) (hF : Extern.find fn = some F) {args : List Value} (ha : l.map ρ = args) (hv : ev P c (F args.toArray) = some v) :
    ev P c (execOp ρ ⟨d, .call ⟨.value (.func f), l.toArray, ts⟩, ty, pos, af, g⟩) = some (.value v) := by
  have ha' : l.toArray.map ρ = args.toArray := by rw [List.map_toArray, ha]
  have hr : ev P c (resolve ρ ⟨.value (.func f), l.toArray, ts⟩ ty) = (ev P c (Deferred.ofValue (ρ (.func f)) args.toArray)) := by
    show ev P c (Deferred.ofValue (ρ (.func f)) (l.toArray.map ρ)) = _
    rw [ha']
  have h1 : ¬ fn.name = "runtime.NumGoroutine" := by simpa using hn
  show ev P c (do let d ← resolve ρ ⟨.value (.func f), l.toArray, ts⟩ ty; invoke d.target d.args) = _
  rw [ev_bind, hr, hρ]
  show ev P c (invoke (.fn (.func f) #[]) (#[] ++ args.toArray)) = _
  have hm : ∀ m, ev P c (mark m) = some () := fun _ => rfl
  simp [invoke, callFunc, program, ev_bind, ev, hf, h1, hb, hm, hx, hF, ev_map, hv]
/-- A loop whose next round begins in (t, l). -/
def AL (E : Env) (c : Code) (Q : QL) (t : Nat → Value) (l : List Bl) : Prop := ∀ w0 a w, E.P.follows .mixedOrders = true → SimL E w0 t l a w → ∀ (b : Frame) (k : List Item) (cs : List Frame),
  ∃ e a' w', PostL E w0 Q e a' w' ∧ Arrives E.P (lone (b.at a (.inLoop c :: k)) cs w) b k cs e a' w'
theorem AL_round {E : Env} {Q : QL} {t : Nat → Value} {l : List Bl} {c : Code} (h : ∀ K : (Nat → Value) → List Bl → Prop, (∀ t l, AL E c Q t l → K t l) → A E c (thenL K Q) t l) {w0 : World} {a : Act} {w : World} (hm : E.P.follows .mixedOrders = true) (hs : SimL E w0 t l a w)
    (b : Frame) (k : List Item) (cs : List Frame) : ∃ e a' w', PostL E w0 Q e a' w' ∧ Arrives E.P (lone (b.at a (.code c :: .inLoop c :: k)) cs w) b k cs e a' w' := by
  obtain ⟨e, a1, w1, ⟨t1, l1, hk, hs1⟩, harr⟩ := h _ (fun _ _ h => h) w0 a w hm hs b (.inLoop c :: k) cs
  cases e with
  | normal =>
    obtain ⟨e2, a2, w2, hq2, harr2⟩ := hk w0 a1 w1 hm hs1 b k cs
    exact ⟨e2, a2, w2, hq2, .of_steps harr harr2⟩
  | exit id => exact ⟨_, a1, w1, ⟨t1, l1, hk, hs1⟩, .pass (x := .inLoop c) rfl (fun _ _ => .inl (by simp)) harr⟩
  | goto l => exact ⟨_, a1, w1, ⟨t1, l1, hk, hs1⟩, .pass (x := .inLoop c) rfl (fun _ _ => .inl (by simp)) harr⟩
  | ret => exact ⟨_, a1, w1, ⟨t1, l1, hk, hs1⟩, .pass (x := .inLoop c) rfl (fun _ _ => .inl (by simp)) harr⟩
  | panic ch => exact ⟨_, a1, w1, ⟨t1, l1, hk, hs1⟩, .pass (x := .inLoop c) rfl (fun _ _ => .inl (by simp)) harr⟩
  | outgrown => exact ⟨_, a1, w1, ⟨t1, l1, hk, hs1⟩, .pass (x := .inLoop c) rfl (fun _ _ => .inl (by simp)) harr⟩
theorem A_unroll {E : Env} {Q : QL} {t : Nat → Value} {l : List Bl} {c : Code} (h : ∀ K : (Nat → Value) → List Bl → Prop, (∀ t l, AL E c Q t l → K t l) → A E c (thenL K Q) t l) : A E (.loop c) Q t l := fun w0 a w hm hs b k cs => by
  obtain ⟨e, a', w', hq, harr⟩ := AL_round h hm hs b k cs
  exact ⟨e, a', w', hq, .of_steps (.one step_loop) harr⟩
theorem AL_unroll {E : Env} {Q : QL} {t : Nat → Value} {l : List Bl} {c : Code} (h : ∀ K : (Nat → Value) → List Bl → Prop, (∀ t l, AL E c Q t l → K t l) → A E c (thenL K Q) t l) : AL E c Q t l := fun w0 a w hm hs b k cs => by
  obtain ⟨e, a', w', hq, harr⟩ := AL_round h hm hs b k cs
  exact ⟨e, a', w', hq, .of_steps (.one step_inLoop) harr⟩
theorem Gives.of_same {P : Program} {f : FuncId} {args : Array Value} {v : Value} (h : ∀ w, Calls P f args w fun e w' => e = .returned v ∧ w' = w) : Gives P f args v :=
  fun w => (h w).mono fun _ _ ⟨h1, h2⟩ => ⟨h1, by rw [h2]; exact Bel.refl _ _⟩
theorem Gives.eq {P : Program} {f : FuncId} {args : Array Value} {v v' : Value} (h : Gives P f args v) (e : v = v') : Gives P f args v' := e ▸ h
end Go.Eng
