/- The engine's rules for one step each, over a list of blocks. Conditions: none. -/
import Derived.Test.YtacbjgfngfamhaaEng
namespace Go.Eng
open Go Go.RowKit

abbrev Bl := Nat × TypeId × Array Value
def ownL : List Bl → Nat → Option (TypeId × Array Value)
  | [], _ => none
  | (b, x) :: l, i => if i = b then some x else ownL l i
def nwL (l : List Bl) (m : Nat) : Nat → Bool := fun b => (l.take m).any fun x => x.1 == b

theorem ownL_cons (b : Nat) (x : TypeId × Array Value) (l : List Bl) : ownL ((b, x) :: l) = upd (ownL l) b (some x) := by
  funext i; simp [ownL, upd]
theorem ownL_get {l : List Bl} (hn : (l.map (·.1)).Nodup) {i : Nat} {b : Nat} {x : TypeId × Array Value} (h : l[i]? = some (b, x)) : ownL l b = some x := by
  induction l generalizing i with
  | nil => simp at h
  | cons y l ih =>
    obtain ⟨c, y⟩ := y
    simp only [List.map_cons, List.nodup_cons] at hn
    cases i with
    | zero => simp at h; obtain ⟨rfl, rfl⟩ := h; simp [ownL]
    | succ i =>
      simp only [List.getElem?_cons_succ] at h
      have : b ≠ c := by
        intro e; subst e
        exact hn.1 (List.mem_map.2 ⟨_, List.mem_of_getElem? h, rfl⟩)
      simp only [ownL, if_neg this]
      exact ih hn.2 h
theorem ownL_none {l : List Bl} {b : Nat} (h : ownL l b = none) : b ∉ l.map (·.1) := by
  induction l with
  | nil => simp
  | cons y l ih =>
    obtain ⟨c, y⟩ := y
    simp only [ownL] at h
    split at h
    · cases h
    · simp only [List.map_cons, List.mem_cons, not_or]; exact ⟨by assumption, ih h⟩
theorem ownL_set {l : List Bl} (hn : (l.map (·.1)).Nodup) {i : Nat} {b : Nat} {x y : TypeId × Array Value} (h : l[i]? = some (b, x)) : upd (ownL l) b (some y) = ownL (l.set i (b, y)) := by
  induction l generalizing i with
  | nil => simp at h
  | cons z l ih =>
    obtain ⟨c, z⟩ := z
    simp only [List.map_cons, List.nodup_cons] at hn
    cases i with
    | zero =>
      simp at h; obtain ⟨rfl, rfl⟩ := h
      funext j; simp only [upd, ownL, List.set_cons_zero]; split <;> simp_all
    | succ i =>
      simp only [List.getElem?_cons_succ] at h
      have hne : b ≠ c := by
        intro e; subst e
        exact hn.1 (List.mem_map.2 ⟨_, List.mem_of_getElem? h, rfl⟩)
      rw [List.set_cons_succ, ownL_cons, ownL_cons, ← ih hn.2 h, upd_comm _ _ _ hne.symm]
theorem set_map {l : List Bl} {i : Nat} {b : Nat} {x y : TypeId × Array Value} (h : l[i]? = some (b, x)) : (l.set i (b, y)).map (·.1) = l.map (·.1) := by
  induction l generalizing i with
  | nil => rfl
  | cons z l ih =>
    cases i with
    | zero => simp at h; subst h; rfl
    | succ i => simp only [List.getElem?_cons_succ] at h; simp only [List.set_cons_succ, List.map_cons, ih h]
theorem nwL_set {l : List Bl} {i m : Nat} {b : Nat} {x y : TypeId × Array Value} (h : l[i]? = some (b, x)) : nwL (l.set i (b, y)) m = nwL l m := by
  funext c
  unfold nwL
  have : ∀ (l : List Bl) (i m : Nat), l[i]? = some (b, x) → ((l.set i (b, y)).take m).any (fun x => x.1 == c) = (l.take m).any (fun x => x.1 == c) := by
    intro l
    induction l with
    | nil => intro i m h; simp at h
    | cons z l ih =>
      intro i m h
      cases m with
      | zero => simp
      | succ m =>
        cases i with
        | zero => simp at h; subst h; simp
        | succ i => simp only [List.getElem?_cons_succ] at h; simp only [List.set_cons_succ, List.take_succ_cons, List.any_cons, ih i m h]
  exact this l i m h
theorem nwL_old {l : List Bl} (hn : (l.map (·.1)).Nodup) {i m : Nat} {b : Nat} {x : TypeId × Array Value} (h : l[i]? = some (b, x)) (hm : m ≤ i) : nwL l m b = false := by
  unfold nwL
  induction l generalizing i m with
  | nil => simp at h
  | cons z l ih =>
    simp only [List.map_cons, List.nodup_cons] at hn
    cases m with
    | zero => simp
    | succ m =>
      cases i with
      | zero => omega
      | succ i =>
        simp only [List.getElem?_cons_succ] at h
        have hne : z.1 ≠ b := by
          intro e; rw [e] at hn
          exact hn.1 (List.mem_map.2 ⟨_, List.mem_of_getElem? h, rfl⟩)
        have h2 := ih hn.2 h (m := m) (by omega)
        simp only [List.take_succ_cons, List.any_cons, h2, Bool.or_false, beq_eq_false_iff_ne]
        exact hne


/-! ### Evaluating -/
theorem ev_bind {α β : Type} {P : Program} {c : Addr → Option Value} (s : Sem α) (f : α → Sem β) : ev P c (s >>= f) = (ev P c s).bind fun x => ev P c (f x) := by
  show ev P c (s.bind f) = _
  induction s with
  | pure a => rfl
  | load m a k ih =>
    cases m with
    | plain =>
      simp only [Sem.bind, ev]
      cases c a with
      | none => rfl
      | some v => exact ih v
    | atomic => rfl
  | program k ih => simp only [Sem.bind, ev]; exact ih P
  | mark m k ih => simp only [Sem.bind, ev]; exact ih
  | _ => rfl
theorem ev_pure {α : Type} {P : Program} {c : Addr → Option Value} (a : α) : ev P c (pure a : Sem α) = some a := rfl
theorem ev_map {α β : Type} {P : Program} {c : Addr → Option Value} (s : Sem α) (f : α → β) : ev P c (f <$> s) = (ev P c s).map f := by
  rw [map_eq_pure_bind, ev_bind]
  cases ev P c s <;> rfl
theorem ev_underlying {P : Program} {c : Addr → Option Value} {t : TypeId} {d : TypeDesc} (h : P.underlying t = some d) : ev P c (underlying t) = some d := by
  simp [underlying, program, ev_bind, ev_pure, ev, h]
theorem ev_sizeOf {P : Program} {c : Addr → Option Value} {t : TypeId} {i : TypeInfo} (h : P.info? t = some i) : ev P c (sizeOf t) = some i.size := by
  simp [sizeOf, typeInfo, program, ev_bind, ev_pure, ev, h]
theorem ev_isAgg {P : Program} {c : Addr → Option Value} {ty : TypeId} {d : TypeDesc} (h : P.underlying ty = some d) :
    ev P c (isAgg ty) = some (match d with | .struct _ | .array _ _ => true | _ => false) := by
  unfold isAgg
  rw [ev_bind, ev_underlying h]
  cases d <;> rfl
theorem ev_load {P : Program} {c : Addr → Option Value} (a : Addr) : ev P c (load a) = c a := by
  unfold load; simp only [ev]; cases c a <;> rfl
theorem ev_cells {P : Program} {c : Addr → Option Value} {b off : Nat} {cs : Array Value} (hc : ∀ k, c ⟨b, k, none⟩ = cs[k]?) : ∀ (n i : Nat) (acc : Array Value), off + i + n ≤ cs.size →
    ev P c (loadCellsFrom ⟨b, off, none⟩ i n acc) = some (acc ++ cs.extract (off + i) (off + i + n))
  | 0, i, acc, _ => by
    have : cs.extract (off + i) (off + i + 0) = #[] := by apply Array.ext'; simp
    rw [this, loadCellsFrom, ev_pure]; simp
  | n + 1, i, acc, h => by
    have hadd : (⟨b, off, none⟩ : Addr).add i = ⟨b, off + i, none⟩ := by unfold Addr.add; split <;> simp_all
    have hlt : off + i < cs.size := by omega
    have h1 : ev P c (load ((⟨b, off, none⟩ : Addr).add i)) = some cs[off + i] := by
      rw [hadd, ev_load, hc, Array.getElem?_eq_getElem hlt]
    have ih := ev_cells (P := P) (off := off) hc n (i + 1) (acc.push cs[off + i]) (by omega)
    rw [loadCellsFrom, ev_bind, h1]
    simp only [Option.bind_some]
    rw [ih]
    congr 1
    apply Array.ext'
    simp only [Array.toList_append, Array.toList_push, Array.toList_extract, List.append_assoc]
    congr 1
    rw [List.extract_eq_take_drop, List.extract_eq_take_drop, show off + (i + 1) + n - (off + (i + 1)) = n from by omega, show off + i + (n + 1) - (off + i) = n + 1 from by omega, show off + (i + 1) = off + i + 1 from by omega]
    have e : cs.toList.drop (off + i) = cs[off + i] :: cs.toList.drop (off + i + 1) := by
      rw [List.drop_eq_getElem_cons (by simpa using hlt)]; simp
    rw [e, List.take_succ_cons]
    rfl
theorem ev_ld {P : Program} {c : Addr → Option Value} {ty : TypeId} {b off : Nat} {cs : Array Value} {v : Value} (hc : ∀ k, c ⟨b, k, none⟩ = cs[k]?) (h : ldCells P ty cs off = some v) : ev P c (loadVar ty ⟨b, off, none⟩) = some v := by
  have agg : ∀ (i : TypeInfo), P.info? ty = some i → (if off = 0 ∧ i.size = cs.size then some (Value.agg cs) else if off + i.size ≤ cs.size then some (.agg (cs.extract off (off + i.size))) else none) = some v →
      ev P c (loadCells ⟨b, off, none⟩ i.size) = some (cs.extract off (off + i.size)) ∧ v = .agg (cs.extract off (off + i.size)) := by
    intro i hi he
    have hle : off + i.size ≤ cs.size ∧ v = .agg (cs.extract off (off + i.size)) := by
      split at he
      · rename_i h0
        obtain ⟨h0, h1⟩ := h0
        subst h0
        simp only [Option.some.injEq] at he
        subst he
        exact ⟨by omega, by rw [h1]; simp⟩
      · split at he
        · rename_i hle; simp only [Option.some.injEq] at he; exact ⟨hle, he.symm⟩
        · cases he
    refine ⟨?_, hle.2⟩
    have := ev_cells (P := P) hc i.size 0 #[] (by simpa using hle.1)
    simpa [loadCells] using this
  unfold ldCells at h
  unfold loadVar
  cases hu : P.underlying ty with
  | none => simp [hu] at h
  | some d =>
    rw [ev_bind, ev_isAgg hu]
    cases d with
    | struct fs =>
      simp only [hu] at h
      cases hi : P.info? ty with
      | none => simp [hi] at h
      | some i =>
        simp only [hi] at h
        obtain ⟨h1, h2⟩ := agg i hi h
        simp only [Option.bind_some, if_true, ev_bind, ev_sizeOf hi, h1, h2]
        rfl
    | array n e =>
      simp only [hu] at h
      cases hi : P.info? ty with
      | none => simp [hi] at h
      | some i =>
        simp only [hi] at h
        obtain ⟨h1, h2⟩ := agg i hi h
        simp only [Option.bind_some, if_true, ev_bind, ev_sizeOf hi, h1, h2]
        rfl
    | _ =>
      simp only [hu] at h
      simp only [Option.bind_some, Bool.false_eq_true, if_false, ev_load, hc, h]
theorem cellA_own {E : Env} {own : Nat → Option (TypeId × Array Value)} {nw : Nat → Bool} {b : Nat} {T : TypeId} {cs : Array Value} (h : own b = some (T, cs)) (hn : nw b = false) (k : Nat) : cellA E own nw ⟨b, k, none⟩ = cs[k]? := by
  unfold cellA
  simp only [h, hn, Option.isSome_none, Bool.or_self, Bool.false_eq_true, if_false]

def LQ (K : (Nat → Value) → List Bl → Prop) (s : St) : Prop := ∃ t l m, (l.map (·.1)).Nodup ∧ s = ⟨t, ownL l, nwL l m⟩ ∧ K t l

/-- The operations from r on. The first m blocks are of this region. -/
def lx (E : Env) (g : Bool) (ops : Array Oper) (K : (Nat → Value) → List Bl → Prop) (r : List Oper) (t : Nat → Value) (l : List Bl) (m : Nat) : Prop :=
  (l.map (·.1)).Nodup → lexK E g ops (LQ K) r ⟨t, ownL l, nwL l m⟩

section
variable {E : Env} {g : Bool} {ops : Array Oper} {K : (Nat → Value) → List Bl → Prop} {r : List Oper} {t : Nat → Value} {l : List Bl} {m : Nat}
  {d : Tmp} {op : Op} {ty : TypeId} {pos : String} {af : Array Edge}

theorem lx_nil (h : K t l) : lx E g ops K [] t l m := fun hn => ⟨t, l, m, hn, rfl, h⟩

/-- An operation that only computes. -/
theorem r_v (v : Value) {v0 : Value} (hk : kd op = .f) (hd : decide (d < E.n) = true) (he : v0 = v) (hy : ev E.P E.ro (execOp (rd t) ⟨some d, op, ty, pos, af, none⟩) = some (.value v0))
    (h : lx E g ops K r (upd t d v) l m) : lx E g ops K (⟨some d, op, ty, pos, af, none⟩ :: r) t l m :=
  fun hn => lexK_f rfl (kdo_eq hk (by decide)) hd v (.inl (by rw [← he]; exact hy)) (h hn)

theorem r_c (v : Value) (hd : decide (d < E.n) = true) (f : FuncId) (args : Array Value) {c : Call} (hy : ev E.P E.ro (execOp (rd t) ⟨some d, .call c, ty, pos, af, none⟩) = some (.enter f args)) (hg : Gives E.P f args v)
    (h : lx E g ops K r (upd t d v) l m) : lx E g ops K (⟨some d, .call c, ty, pos, af, none⟩ :: r) t l m :=
  fun hn => lexK_f rfl (kdo_eq rfl (by decide)) hd v (.inr ⟨f, args, hy, hg⟩) (h hn)

/-- A guarded operation whose guard says yes. -/
theorem r_y {j : Nat} {want : Bool} (hw : yieldedF ops t j = some want) (hs : lx E g ops K (⟨some d, op, ty, pos, af, none⟩ :: r) t l m) :
    lx E g ops K (⟨some d, op, ty, pos, af, some (j, want)⟩ :: r) t l m := by
  intro hn
  have h1 := hs hn
  have e1 : Region.wanted ⟨some d, op, ty, pos, af, some (j, want)⟩ (yieldedF ops t) = true := by simp [Region.wanted, hw]
  have e2 : Region.wanted ⟨some d, op, ty, pos, af, none⟩ (yieldedF ops t) = true := rfl
  have hk : kdo g ops ⟨some d, op, ty, pos, af, some (j, want)⟩ = kdo g ops ⟨some d, op, ty, pos, af, none⟩ := rfl
  have key : ∀ s e, s.t = t → (HasFx E g ops ⟨some d, op, ty, pos, af, some (j, want)⟩ s e ↔ HasFx E g ops ⟨some d, op, ty, pos, af, none⟩ s e) := by
    intro s e hs
    unfold HasFx
    rw [hs, if_pos e1, if_pos e2]
    rfl
  refine ⟨⟨h1.1.1, ?_⟩, fun s' hs' => ?_⟩
  · obtain ⟨e, he⟩ := h1.1.2; exact ⟨e, (key _ e rfl).2 he⟩
  · obtain ⟨e, he, hdo⟩ := hs'
    exact h1.2 s' ⟨e, (key _ e rfl).1 he, hdo⟩

/-- A guarded operation whose guard says no. -/
theorem r_n {j : Nat} {want : Bool} (b : Bool) (hw : yieldedF ops t j = some b) (hb : b ≠ want) (hd : decide (d < E.n) = true) (h : lx E g ops K r (upd t d undef) l m) :
    lx E g ops K (⟨some d, op, ty, pos, af, some (j, want)⟩ :: r) t l m := by
  intro hn
  have e1 : ¬ Region.wanted ⟨some d, op, ty, pos, af, some (j, want)⟩ (yieldedF ops t) = true := by
    simp [Region.wanted, hw]; exact hb
  refine lexK_one (e := .val undef) (by simpa using hd) (by unfold HasFx; rw [if_neg e1]) (fun s' hs => ?_)
  simp only [Do] at hs; subst hs; exact h hn

theorem r_l (v : Value) (i : Nat) (b off : Nat) (T : TypeId) (cs : Array Value) {e : TypeId} {p : Operand} (hd : decide (d < E.n) = true) (hp : rd t p = .pointer (some ⟨b, off, none⟩)) (hl : l[i]? = some (b, T, cs)) (hm : decide (m ≤ i) = true)
    (hv : ldCells E.P e cs off = some v) (h : lx E g ops K r (upd t d v) l m) : lx E g ops K (⟨some d, .load e p, ty, pos, af, none⟩ :: r) t l m :=
  fun hn => lexK_l rfl (kdo_eq rfl (by decide)) hd v (by
    unfold loadOf
    have h1 : ev E.P (cellA E (ownL l) (nwL l m)) (execOp (rd t) ⟨some d, .load e p, ty, pos, af, none⟩) = some (.value v) := by
      show ev E.P (cellA E (ownL l) (nwL l m)) (do pure (Next.value (← Instr.loadAt e (rd t p)))) = _
      rw [hp, ev_bind]
      show (ev E.P (cellA E (ownL l) (nwL l m)) (loadVar e ⟨b, off, none⟩)).bind _ = _
      rw [ev_ld (cellA_own (ownL_get hn hl) (nwL_old hn hl (of_decide_eq_true hm))) hv]
      rfl
    show (match ev E.P (cellA E (ownL l) (nwL l m)) (execOp (rd t) ⟨some d, .load e p, ty, pos, af, none⟩) with | some (.value v) => some v | _ => none) = some v
    rw [h1]) (h hn)

/-- An operation that may read memory (a conversion), and reads what c tells. -/
theorem r_w (v : Value) {v0 : Value} (hk : kd op = .l) (hd : decide (d < E.n) = true) (he : v0 = v) (hy : (l.map (·.1)).Nodup → ev E.P (cellA E (ownL l) (nwL l m)) (execOp (rd t) ⟨some d, op, ty, pos, af, none⟩) = some (.value v0))
    (h : lx E g ops K r (upd t d v) l m) : lx E g ops K (⟨some d, op, ty, pos, af, none⟩ :: r) t l m :=
  fun hn => lexK_l rfl (kdo_eq hk (by decide)) hd v (by
    unfold loadOf
    show (match ev E.P (cellA E (ownL l) (nwL l m)) (execOp (rd t) ⟨some d, op, ty, pos, af, none⟩) with | some (.value v) => some v | _ => none) = some v
    rw [hy hn, he]) (h hn)

theorem r_a (x : TypeId × Array Value) (hk : kd op = .a) (hd : decide (d < E.n) = true) (hx : allocOf E.P t ⟨some d, op, ty, pos, af, none⟩ = some x)
    (h : ∀ b, lx E g ops K r (upd t d (.pointer (some ⟨b, 0, none⟩))) ((b, x) :: l) (if g then m + 1 else m)) (hm : g = true ∨ m = 0) : lx E g ops K (⟨some d, op, ty, pos, af, none⟩ :: r) t l m :=
  fun hn => lexK_a rfl (kdo_eq hk (by decide)) hd x hx (fun b _ hb => by
    have h' := h b (by simp only [List.map_cons, List.nodup_cons]; exact ⟨ownL_none hb, hn⟩)
    rw [ownL_cons] at h'
    have e : (if g then upd (nwL l m) b true else nwL l m) = nwL ((b, x) :: l) (if g then m + 1 else m) := by
      funext c
      rcases hm with rfl | rfl
      · by_cases hc : b = c
        · subst hc; simp [nwL, upd]
        · have hc2 : c ≠ b := fun e => hc e.symm
          simp [nwL, upd, hc, hc2]
      · cases g
        · simp [nwL]
        · by_cases hc : b = c
          · subst hc; simp [nwL, upd]
          · have hc2 : c ≠ b := fun e => hc e.symm
            simp [nwL, upd, hc, hc2]
    have h2 : ∀ nw, nw = nwL ((b, x) :: l) (if g then m + 1 else m) → lexK E g ops (LQ K) r ⟨upd t d (.pointer (some ⟨b, 0, none⟩)), upd (ownL l) b (some x), nw⟩ := fun nw hnw => by rw [hnw]; exact h'
    exact h2 _ e)

structure StOk (P : Program) (e : TypeId) (cs : Array Value) (off : Nat) (vs : Array Value) : Prop where
  i : ∃ i, P.info? e = some i ∧ vs.size = i.size
  le : off + vs.size ≤ cs.size
  one : ∀ x ∈ vs, x.oneCell' = true
theorem StOk.of {P : Program} {e : TypeId} {cs : Array Value} {off : Nat} {vs : Array Value} {i : TypeInfo} (hi : P.info? e = some i)
    (h : (vs.size == i.size && decide (off + vs.size ≤ cs.size) && vs.toList.all (fun x => x.oneCell')) = true) : StOk P e cs off vs := by
  simp only [Bool.and_eq_true, beq_iff_eq, decide_eq_true_eq, List.all_eq_true] at h
  exact ⟨⟨i, hi, h.1.1⟩, h.1.2, fun x hx => h.2 x (by simpa using hx)⟩

theorem r_s (lN : List Bl) (i : Nat) (b off : Nat) (T : TypeId) (cs vs cs' : Array Value) {e : TypeId} {p x : Operand} (hk : kdo g ops ⟨none, .store e p x, ty, pos, af, none⟩ = .s) (hp : rd t p = .pointer (some ⟨b, off, none⟩)) (hl : l[i]? = some (b, T, cs)) (hx : (rd t x).cells = vs)
    (hs : StOk E.P e cs off vs) (he : splice cs off vs = cs') (hN : l.set i (b, T, cs') = lN) (h : lx E g ops K r t lN m) : lx E g ops K (⟨none, .store e p x, ty, pos, af, none⟩ :: r) t l m :=
  fun hn => lexK_s rfl hk rfl b (T, cs') (by
    obtain ⟨ii, hi, hsz⟩ := hs.i
    exact ⟨off, T, cs, ii, hp, ownL_get hn hl, hi, by rw [hx]; exact hsz, by rw [hx]; exact hs.le, by rw [hx]; exact hs.one, by rw [hx, he]⟩) (by
    subst hN
    have h' := h (by rw [set_map hl]; exact hn)
    rw [nwL_set hl, ← ownL_set hn hl] at h'
    exact h')
theorem nwL_new {l : List Bl} {i m : Nat} {b : Nat} {x : TypeId × Array Value} (h : l[i]? = some (b, x)) (hm : i < m) : nwL l m b = true := by
  unfold nwL
  rw [List.any_eq_true]
  refine ⟨(b, x), ?_, by simp⟩
  have h2 : (l.take m)[i]? = some (b, x) := by rw [List.getElem?_take, if_pos hm]; exact h
  exact List.mem_of_getElem? h2
theorem r_sn (lN : List Bl) (i : Nat) (b off : Nat) (T : TypeId) (cs vs cs' : Array Value) {e : TypeId} {p x : Operand} (hk : kdo g ops ⟨none, .store e p x, ty, pos, af, none⟩ = .n) (hp : rd t p = .pointer (some ⟨b, off, none⟩)) (hl : l[i]? = some (b, T, cs)) (hm : decide (i < m) = true) (hx : (rd t x).cells = vs)
    (hs : StOk E.P e cs off vs) (he : splice cs off vs = cs') (hN : l.set i (b, T, cs') = lN) (h : lx E g ops K r t lN m) : lx E g ops K (⟨none, .store e p x, ty, pos, af, none⟩ :: r) t l m :=
  fun hn => lexK_n rfl hk rfl b (T, cs') (by
    obtain ⟨ii, hi, hsz⟩ := hs.i
    exact ⟨off, T, cs, ii, hp, ownL_get hn hl, hi, by rw [hx]; exact hsz, by rw [hx]; exact hs.le, by rw [hx]; exact hs.one, by rw [hx, he]⟩) (nwL_new hl (of_decide_eq_true hm)) (by
    subst hN
    have h' := h (by rw [set_map hl]; exact hn)
    rw [nwL_set hl, ← ownL_set hn hl] at h'
    exact h')
end

/-! ### Code over lists -/
abbrev QL := Exit → (Nat → Value) → List Bl → Prop
def nonw : Nat → Bool := fun _ => false
def thenL (K : (Nat → Value) → List Bl → Prop) (Q : QL) : QL
  | .normal, t, l => K t l
  | e, t, l => Q e t l
def blockL (id : Nat) (Q : QL) : QL
  | .exit id', t, l => if id' = id then Q .normal t l else Q (.exit id') t l
  | e, t, l => Q e t l
def SimL (E : Env) (w0 : World) (t : Nat → Value) (l : List Bl) (a : Act) (w : World) : Prop := (l.map (·.1)).Nodup ∧ Sim E w0 ⟨t, ownL l, nonw⟩ a w
def PostL (E : Env) (w0 : World) (Q : QL) : Exit → Act → World → Prop := fun e a w => ∃ t l, Q e t l ∧ SimL E w0 t l a w
/-- From the state (t, l), in whatever world it describes, the code c comes to Q. -/
def A (E : Env) (c : Code) (Q : QL) (t : Nat → Value) (l : List Bl) : Prop := ∀ w0 a w, E.P.follows .mixedOrders = true → SimL E w0 t l a w → c.wp E.P (PostL E w0 Q) a w
theorem nwL_zero (l : List Bl) : nwL l 0 = nonw := by funext b; simp [nwL, nonw]
/-- l' is what is remembered of l. -/
def Sub (l' l : List Bl) : Prop := l'.Sublist l
theorem Sub.sim {E : Env} {w0 w : World} {t : Nat → Value} {l l' : List Bl} {a : Act} (h : Sub l' l) (hs : SimL E w0 t l a w) : SimL E w0 t l' a w := by
  refine ⟨(h.map _).nodup hs.1, hs.2.dfr, hs.2.sz, hs.2.tm, hs.2.bel, hs.2.bs, hs.2.ro, fun b T cs ho => hs.2.own b T cs ?_⟩
  have hm : ∀ {l : List Bl} {b : Nat} {x : TypeId × Array Value}, ownL l b = some x → (b, x) ∈ l := by
    intro l b x h
    induction l with
    | nil => cases h
    | cons y l ih =>
      obtain ⟨c, y⟩ := y
      simp only [ownL] at h
      split at h
      · rename_i he; subst he; cases h; simp
      · exact List.mem_cons_of_mem _ (ih h)
  have h2 := h.subset (hm ho)
  obtain ⟨i, hi⟩ := List.getElem?_of_mem h2
  exact ownL_get hs.1 hi
structure Fg (J : (Nat → Value) → List Bl → Prop) (t : Nat → Value) (l : List Bl) : Prop where
  out : ∃ l', Sub l' l ∧ J t l'
section
variable {E : Env} {Q : QL} {t : Nat → Value} {l : List Bl}
theorem A_forget {c' : Code} (l' : List Bl) (hs : Sub l' l) (h : A E c' Q t l') : A E c' Q t l := fun w0 a w hm hsim => h w0 a w hm (hs.sim hsim)
theorem lexK_nw {E : Env} {ops : Array Oper} {K : St → Prop} (r : List Oper) : ∀ s, lexK E false ops K r s → lexK E false ops (fun s' => s'.nw = s.nw ∧ K s') r s := by
  induction r with
  | nil => exact fun s hk => ⟨rfl, hk⟩
  | cons o r ih =>
    refine fun s hk => ⟨hk.1, fun s' hn => ?_⟩
    have he : s'.nw = s.nw := by
      obtain ⟨e, _, hd⟩ := hn
      cases e with
      | val v => simp only [Do] at hd; subst hd; rfl
      | new x => obtain ⟨r, _, _, rfl⟩ := hd; rfl
      | sto b y => simp only [Do] at hd; subst hd; rfl
    have := ih s' (hk.2 s' hn)
    rw [he] at this; exact this
theorem sep_nil {t : Nat → Value} : Sep [] t := fun _ h => by simp at h
theorem sep_cons {t : Nat → Value} {l : List Bl} {ps : List (Nat × Nat)} {p q : Nat} (hn : (l.map (·.1)).Nodup) (i j : Nat) (hij : decide (i = j) = false) {b c : Nat} {x y : TypeId × Array Value} (hi : l[i]? = some (b, x)) (hj : l[j]? = some (c, y))
    {o o' : Nat} (h1 : t p = .pointer (some ⟨b, o, none⟩)) (h2 : t q = .pointer (some ⟨c, o', none⟩)) (h : Sep ps t) : Sep ((p, q) :: ps) t := by
  intro pq hpq
  rcases List.mem_cons.1 hpq with rfl | hpq
  · simp only [h1, h2, blk, ne_eq, Option.some.injEq]
    intro e
    subst e
    have e1 : (l.map (·.1))[i]? = some b := by rw [List.getElem?_map, hi]; rfl
    have e2 : (l.map (·.1))[j]? = some b := by rw [List.getElem?_map, hj]; rfl
    obtain ⟨hi', e1⟩ := List.getElem?_eq_some_iff.1 e1
    obtain ⟨hj', e2⟩ := List.getElem?_eq_some_iff.1 e2
    exact of_decide_eq_false hij ((List.getElem_inj hn).1 (e1.trans e2.symm))
  · exact h pq hpq
theorem A_reg {id : Nat} {r : List Oper} (h : lx E false r.toArray (Q .normal) r t l 0) : A E (.region id r.toArray false) Q t l := fun w0 a w _ hs => by
  have h1 := h hs.1
  rw [nwL_zero] at h1
  refine wp_region_list (Sim.list (w0 := w0) (Q' := PostL E w0 Q) (fun s a w hk hs => ?_) _ _ a w hs.2 (lexK_nw r _ h1))
  obtain ⟨hnw, t', l', m', hn', rfl, hq⟩ := hk
  exact ⟨t', l', hq, hn', by rw [show nonw = nwL l' m' from hnw.symm]; exact hs⟩
theorem A_draw {id : Nat} {r : List Oper} (ps : List (Nat × Nat)) (hB : lexOk r.toArray ps = true) (hS : (l.map (·.1)).Nodup → Sep ps t) (h : lx E true r.toArray (Q .normal) r t l 0) : A E (.region id r.toArray true) Q t l := fun w0 a w hm hs => by
  have h1 := h hs.1
  rw [nwL_zero] at h1
  have h' : Sim E w0 ⟨t, ownL l, nonw⟩ a { w with drawn := w.drawn + 1 } := hs.2.draw
  simp only [lexOk, Bool.and_eq_true] at hB
  have hB' : lexFromB r.toArray ps r.length 0 (Array.replicate r.toArray.size false) = true := hB.2
  have h2 := anyK_lex (E := E) hB.1 r 0 (Array.replicate r.toArray.size false) ⟨t, ownL l, nonw⟩ h'.fin (hS hs.1) (fun j => by simp) hB' h1
  refine wp_region_any hm (Sim.any (w0 := w0) (Q' := PostL E w0 Q) (fun s a w hk hs => ?_) _ _ _ _ _ h' h2)
  obtain ⟨t', l', m', hn', rfl, hq⟩ := hk
  exact ⟨t', l', hq, hn', ⟨hs.dfr, hs.sz, hs.tm, hs.bel, hs.bs, hs.ro, hs.own⟩⟩
theorem A_seq {x y : Code} (h : ∀ K : (Nat → Value) → List Bl → Prop, (∀ t l, A E y Q t l → K t l) → A E x (thenL K Q) t l) : A E (.seq x y) Q t l := fun w0 a w hm hs => by
  refine wp_seq (Code.wp_mono (fun e a w hk => ?_) (h _ (fun _ _ h => h) w0 a w hm hs))
  obtain ⟨t', l', hq, hs'⟩ := hk
  cases e with
  | normal => exact hq w0 a w hm hs'
  | _ => exact ⟨t', l', hq, hs'⟩
/-- A cut: what is known behind x. -/
theorem A_cut {x y : Code} (J : (Nat → Value) → List Bl → Prop) (h : A E x (thenL (Fg J) Q) t l) (h2 : ∀ t l, J t l → A E y Q t l) : A E (.seq x y) Q t l := fun w0 a w hm hs => by
  refine wp_seq (Code.wp_mono (fun e a w hk => ?_) (h w0 a w hm hs))
  obtain ⟨t', l', hq, hs'⟩ := hk
  cases e with
  | normal =>
    obtain ⟨l2, hsub, hj⟩ := hq.out
    exact h2 _ _ hj w0 a w hm (hsub.sim hs')
  | _ => exact ⟨t', l', hq, hs'⟩
theorem A_cond {c : Operand} {x y : Code} (b : Bool) (hx : rd t c = .bool b) (h1 : b = true → A E x Q t l) (h2 : b = false → A E y Q t l) : A E (.cond c x y) Q t l :=
  fun w0 a w hm hs => wp_cond_split (t := b) (by rw [hs.2.eval]; exact hx) (fun hb => h1 hb w0 a w hm hs) (fun hb => h2 hb w0 a w hm hs)
theorem A_block {id : Nat} {c : Code} (h : A E c (blockL id Q) t l) : A E (.block id c) Q t l := fun w0 a w hm hs => by
  refine wp_block (Code.wp_mono (fun e a w hk => ?_) (h w0 a w hm hs))
  obtain ⟨t', l', hq, hs'⟩ := hk
  cases e with
  | exit id' =>
    by_cases hid : id' = id
    · simp only [blockL, if_pos hid] at hq
      simp only [Exit.inBlock, if_pos hid]; exact ⟨t', l', hq, hs'⟩
    · simp only [blockL, if_neg hid] at hq
      simp only [Exit.inBlock, if_neg hid]; exact ⟨t', l', hq, hs'⟩
  | _ => exact ⟨t', l', hq, hs'⟩
theorem A_exit {id : Nat} (h : Q (.exit id) t l) : A E (.exit id) Q t l := fun _ _ _ _ hs => wp_exit ⟨t, l, h, hs⟩
theorem A_ret (h : (l.map (·.1)).Nodup → Q .ret t l) : A E .ret Q t l := fun _ _ _ _ hs => wp_ret ⟨t, l, h hs.1, hs⟩
theorem A_skip (h : Q .normal t l) : A E .skip Q t l := fun _ _ _ _ hs => wp_skip ⟨t, l, h, hs⟩
theorem A_label {k : Nat} (h : Q .normal t l) : A E (.label k) Q t l := fun _ _ _ _ hs => wp_label ⟨t, l, h, hs⟩
/-- A loop by a relation and a measure. -/
theorem A_loop {c : Code} (I : (Nat → Value) → List Bl → Nat → Prop) (n0 : Nat) (h0 : I t l n0)
    (h1 : ∀ t l n, I t l n → A E c (thenL (Fg fun t' l' => ∃ n', n' < n ∧ I t' l' n') Q) t l) : A E (.loop c) Q t l := fun w0 a w hm hs => by
  have key : ∀ n t l a w, I t l n → SimL E w0 t l a w → ∀ (b : Frame) (k : List Item) (cs : List Frame),
      ∃ e a' w', PostL E w0 Q e a' w' ∧ Arrives E.P (lone (b.at a (.code c :: .inLoop c :: k)) cs w) b k cs e a' w' := by
    intro n
    induction n using Nat.strongRecOn with
    | _ n ihn =>
      intro t l a w hI hs b k cs
      obtain ⟨e, a1, w1, ⟨t1, l1, hk, hs1⟩, harr⟩ := h1 t l n hI w0 a w hm hs b (.inLoop c :: k) cs
      cases e with
      | normal =>
        obtain ⟨l2, hsub, n', hlt, hI'⟩ := hk.out
        obtain ⟨e2, a2, w2, hq2, harr2⟩ := ihn n' hlt t1 l2 a1 w1 hI' (hsub.sim hs1) b k cs
        exact ⟨e2, a2, w2, hq2, .of_steps (Steps.trans harr (.one step_inLoop)) harr2⟩
      | exit id => exact ⟨_, a1, w1, ⟨t1, l1, hk, hs1⟩, .pass (x := .inLoop c) rfl (fun _ _ => .inl (by simp)) harr⟩
      | goto l => exact ⟨_, a1, w1, ⟨t1, l1, hk, hs1⟩, .pass (x := .inLoop c) rfl (fun _ _ => .inl (by simp)) harr⟩
      | ret => exact ⟨_, a1, w1, ⟨t1, l1, hk, hs1⟩, .pass (x := .inLoop c) rfl (fun _ _ => .inl (by simp)) harr⟩
      | panic ch => exact ⟨_, a1, w1, ⟨t1, l1, hk, hs1⟩, .pass (x := .inLoop c) rfl (fun _ _ => .inl (by simp)) harr⟩
      | outgrown => exact ⟨_, a1, w1, ⟨t1, l1, hk, hs1⟩, .pass (x := .inLoop c) rfl (fun _ _ => .inl (by simp)) harr⟩
  intro b k cs
  obtain ⟨e, a', w', hq', harr⟩ := key n0 t l a w h0 hs b k cs
  exact ⟨e, a', w', hq', .of_steps (.one step_loop) harr⟩
end
/-- What lies in slots that are not looked at any more may be forgotten. -/
def updL (f : Nat → Value) : List (Nat × Value) → Nat → Value
  | [] => f
  | (k, v) :: r => upd (updL f r) k v
theorem upd_self (f : Nat → Value) (k : Nat) : upd f k (f k) = f := by funext i; unfold upd; split <;> simp_all
theorem updL_self (f : Nat → Value) : ∀ (r : List (Nat × Value)), r.map (fun x => f x.1) = r.map (·.2) → updL f r = f
  | [], _ => rfl
  | (k, v) :: r, h => by
    simp only [List.map_cons, List.cons.injEq] at h
    simp only [updL]
    rw [updL_self f r h.2, ← h.1, upd_self]
theorem fg {J : (Nat → Value) → List Bl → Prop} {t : Nat → Value} {l : List Bl} (l' : List Bl) (hs : Sub l' l) (hj : J t l') : Fg J t l := ⟨⟨l', hs, hj⟩⟩
def Is (kv : List (Nat × Value)) (bl : List Bl) (t : Nat → Value) (l : List Bl) : Prop := (∃ T, t = updL T kv) ∧ l = bl
theorem is_mk {kv : List (Nat × Value)} {bl : List Bl} {t : Nat → Value} (h : kv.map (fun x => t x.1) = kv.map (·.2)) {l : List Bl} (hl : l = bl) : Is kv bl t l := ⟨⟨t, (updL_self t kv h).symm⟩, hl⟩
theorem keep (f : Nat → Value) (r : List (Nat × Value)) (h : r.map (fun x => f x.1) = r.map (·.2)) : ∃ T, f = updL T r := ⟨f, (updL_self f r h).symm⟩

def EndsL (E : Env) (rs : Array ResultVar) (v : Value) : QL
  | .normal, t, l | .ret, t, l => resOf E rs ⟨t, ownL l, nonw⟩ = some v
  | _, _, _ => False
theorem ends_eq {E : Env} {rs : Array ResultVar} {t : Nat → Value} {l : List Bl} {v v0 : Value} (he : v0 = v) (h : resOf E rs ⟨t, ownL l, nonw⟩ = some v0) : resOf E rs ⟨t, ownL l, nonw⟩ = some v := by rw [← he]; exact h
/-- Results that lie in a block. -/
theorem res_cell {E : Env} {t : Nat → Value} {l : List Bl} {k : Tmp} {ty : TypeId} {v : Value} (hn : (l.map (·.1)).Nodup) (i : Nat) {b : Nat} {T : TypeId} {cs : Array Value} (hp : t k = .pointer (some ⟨b, 0, none⟩)) (hl : l[i]? = some (b, T, cs)) (hv : ldCells E.P ty cs 0 = some v) :
    resV E ⟨t, ownL l, nonw⟩ (.cell k ty) = some v := by
  show (match t k with | .pointer (some a) => ev E.P (cellA E (ownL l) nonw) (loadVar ty a) | _ => none) = some v
  rw [hp]
  exact ev_ld (cellA_own (ownL_get hn hl) rfl) hv
theorem res1 {E : Env} {s : St} {a : ResultVar} {x : Value} (ha : resV E s a = some x) : resOf E #[a] s = some x := ha
theorem res2 {E : Env} {s : St} {a b : ResultVar} {x y : Value} (ha : resV E s a = some x) (hb : resV E s b = some y) : resOf E #[a, b] s = some (.tuple #[x, y]) := by
  show ((resV E s a).bind fun x => (resV E s b).bind fun y => some (Value.tuple #[x, y])) = some (Value.tuple #[x, y])
  rw [ha, hb]; rfl
theorem res3 {E : Env} {s : St} {a b c : ResultVar} {x y z : Value} (ha : resV E s a = some x) (hb : resV E s b = some y) (hc : resV E s c = some z) : resOf E #[a, b, c] s = some (.tuple #[x, y, z]) := by
  show ((resV E s a).bind fun x => (resV E s b).bind fun y => (resV E s c).bind fun z => some (Value.tuple #[x, y, z])) = some (Value.tuple #[x, y, z])
  rw [ha, hb, hc]; rfl
theorem gives_of_A {P : Program} {f : FuncId} {fn : Func} {c : Code} {args : Array Value} {v : Value} (hm : P.follows .mixedOrders = true) (hf : P.funcs[f]? = some fn) (hb : fn.body = some c)
    (n : Nat) (hn : args.size + (fn.ntmps - args.size) = n) (t0 : Nat → Value) (ht : (fun k => args.getD k undef) = t0) (h : ∀ base, A (env P n base) c (EndsL (env P n base) fn.results v) t0 []) : Gives P f args v := by
  subst ht
  intro w
  refine calls_of_wp hf hb ?_
  have hs : Sim (env P n w.heap.size) w (St.init args) { tmps := args ++ Array.replicate (fn.ntmps - args.size) undef, defers := [] } w := sim_init n hn
  refine Code.wp_mono (fun e a w' hk => ?_) (h w.heap.size w _ w hm ⟨List.nodup_nil, hs⟩)
  obtain ⟨t, l, hq, _, hs⟩ := hk
  cases e with
  | normal => exact ⟨hs.dfr, v, resOf_run hs hq, rfl, hs.bel⟩
  | ret => exact ⟨hs.dfr, v, resOf_run hs hq, rfl, hs.bel⟩
  | _ => exact hq.elim

/-! ### Evaluating more -/
theorem ev_mapM {α β : Type} {P : Program} {c : Addr → Option Value} (g : α → Sem β) (h : α → β) : ∀ (l : List α), (∀ x ∈ l, ev P c (g x) = some (h x)) → ev P c (l.mapM g) = some (l.map h)
  | [], _ => by simp [ev_pure]
  | x :: l, hl => by
    have h1 := hl x (by simp)
    have h2 := ev_mapM g h l (fun y hy => hl y (by simp [hy]))
    simp [List.mapM_cons, ev_bind, ev_map, h1, h2]
theorem ev_mapMA {α β : Type} {P : Program} {c : Addr → Option Value} (g : α → Sem β) (h : α → β) (a : Array α) (hl : ∀ x ∈ a, ev P c (g x) = some (h x)) : ev P c (a.mapM g) = some (a.map h) := by
  obtain ⟨l⟩ := a
  have := ev_mapM g h l (fun x hx => hl x (by simpa using hx))
  simp [ev_map, this]

def placeOf (P : Program) (f : Field) : Nat × Nat := (f.offset, ((P.info? f.type).map (·.size)).getD 0)
theorem ev_build {P : Program} {c : Addr → Option Value} {t : TypeId} {parts : Array (Nat × Value)} {fs : Array Field} {z : Value} {cs : Array Value} (hu : P.underlying t = some (.struct fs))
    (hz : (P.info? t).bind (·.zero) = some z) (hf : fs.all (fun f => (P.info? f.type).isSome) = true) (hc : Instr.fill ((fs.map (placeOf P))[·]?) z.cells parts.toList = some cs) :
    ev P c (Instr.build t parts) = some (.agg cs) := by
  have hz' : ev P c (zeroValue t) = some z := by
    cases hi : P.info? t with
    | none => simp [hi] at hz
    | some i =>
      simp only [hi, Option.bind_some] at hz
      simp [zeroValue, typeInfo, program, ev_bind, ev_pure, ev, hi, hz]
  have hm := ev_mapMA (P := P) (c := c) (fun f : Field => (do pure (f.offset, ← sizeOf f.type) : Sem (Nat × Nat))) (placeOf P) fs (fun f hf' => by
    have := (Array.all_eq_true_iff_forall_mem.1 hf) f hf'
    cases hi : P.info? f.type with
    | none => simp [hi] at this
    | some i => simp [ev_map, ev_sizeOf hi, placeOf, hi])
  unfold Instr.build
  simp only [ev_bind, hz', Option.bind_some, ev_underlying hu, hm, hc, ev_pure]
theorem ev_v {P : Program} {c : Addr → Option Value} {s : Sem Value} {v : Value} (h : ev P c s = some v) : ev P c (do pure (Next.value (← s)) : Sem Next) = some (.value v) := by
  simp [ev_map, h]

/-! ### Numbers -/
theorem wi64 {x z : Int} (h : x = z) (h1 : -9223372036854775808 ≤ z) (h2 : z ≤ 9223372036854775807) : Value.int .i64 (IntKind.i64.wrap x) = .int .i64 z := by
  subst h
  have : IntKind.i64.wrap x = x := by
    simp only [IntKind.wrap, IntKind.signed, IntKind.bits]
    simp
    omega
  rw [this]
theorem wu64 (x : Int) : IntKind.u64.wrap x = x % 18446744073709551616 := by
  simp [IntKind.wrap, IntKind.signed, IntKind.bits]
abbrev U (x : BitVec 64) : Value := .int .u64 (x.toNat : Int)
theorem U_add (x y : BitVec 64) : Value.int .u64 (IntKind.u64.wrap ((x.toNat : Int) + (y.toNat : Int))) = U (x + y) := by
  rw [wu64]; congr 1
theorem U_sub (x y : BitVec 64) : Value.int .u64 (IntKind.u64.wrap ((x.toNat : Int) - (y.toNat : Int))) = U (x - y) := by
  rw [wu64]; congr 1; rw [BitVec.toNat_sub]; have := y.isLt; omega
theorem U_mul (x y : BitVec 64) : Value.int .u64 (IntKind.u64.wrap ((x.toNat : Int) * (y.toNat : Int))) = U (x * y) := by
  rw [wu64]; congr 1
theorem U_wrap (n : Nat) : Value.int .u64 (IntKind.u64.wrap (n : Int)) = U (BitVec.ofNat 64 n) := by
  rw [wu64]; congr 1
theorem U_quo (x y : BitVec 64) : Value.int .u64 (IntKind.u64.wrap ((x.toNat : Int).tdiv (y.toNat : Int))) = U (x / y) := by
  rw [wu64]; congr 1; rw [BitVec.toNat_udiv, ← Int.ofNat_tdiv]
  have h1 := x.isLt
  have h2 : x.toNat / y.toNat ≤ x.toNat := Nat.div_le_self _ _
  generalize x.toNat / y.toNat = q at *
  omega
theorem U_rem (x y : BitVec 64) : Value.int .u64 ((x.toNat : Int).tmod (y.toNat : Int)) = U (x % y) := by
  congr 1
theorem ofInt_toNat (x : BitVec 64) : BitVec.ofInt 64 (x.toNat : Int) = x := by
  rw [BitVec.ofInt_natCast, BitVec.ofNat_toNat, BitVec.setWidth_eq]
theorem U_and (x y : BitVec 64) : Value.int .u64 (IntKind.u64.wrap ((BitVec.ofInt 64 (x.toNat : Int) &&& BitVec.ofInt 64 (y.toNat : Int)).toNat : Int)) = U (x &&& y) := by
  rw [ofInt_toNat, ofInt_toNat, U_wrap, BitVec.ofNat_toNat, BitVec.setWidth_eq]
theorem U_or (x y : BitVec 64) : Value.int .u64 (IntKind.u64.wrap ((BitVec.ofInt 64 (x.toNat : Int) ||| BitVec.ofInt 64 (y.toNat : Int)).toNat : Int)) = U (x ||| y) := by
  rw [ofInt_toNat, ofInt_toNat, U_wrap, BitVec.ofNat_toNat, BitVec.setWidth_eq]
theorem U_xor (x y : BitVec 64) : Value.int .u64 (IntKind.u64.wrap ((BitVec.ofInt 64 (x.toNat : Int) ^^^ BitVec.ofInt 64 (y.toNat : Int)).toNat : Int)) = U (x ^^^ y) := by
  rw [ofInt_toNat, ofInt_toNat, U_wrap, BitVec.ofNat_toNat, BitVec.setWidth_eq]
theorem U_not (x : BitVec 64) : Value.int .u64 (IntKind.u64.wrap ((BitVec.ofInt 64 (IntKind.u64.max) ^^^ BitVec.ofInt 64 (x.toNat : Int)).toNat : Int)) = U (~~~ x) := by
  have : BitVec.ofInt 64 (IntKind.u64.max) = BitVec.allOnes 64 := by decide +kernel
  rw [ofInt_toNat, this, U_wrap, BitVec.ofNat_toNat, BitVec.setWidth_eq, BitVec.allOnes_xor]
theorem U_shl (x : BitVec 64) (n : Nat) : Value.int .u64 (IntKind.u64.wrap ((x.toNat : Int) * 2 ^ (min n 64))) = U (x <<< n) := by
  rw [show ((x.toNat : Int) * 2 ^ (min n 64)) = ((x.toNat * 2 ^ (min n 64) : Nat) : Int) by simp, U_wrap]
  refine congrArg U ?_
  apply BitVec.eq_of_toNat_eq
  rw [BitVec.toNat_ofNat, BitVec.toNat_shiftLeft, Nat.shiftLeft_eq]
  rcases Nat.le_total n 64 with h | h
  · rw [Nat.min_eq_left h]
  · rw [Nat.min_eq_right h, Nat.mul_mod_left]
    obtain ⟨k, rfl⟩ := Nat.exists_eq_add_of_le h
    rw [Nat.pow_add, ← Nat.mul_assoc, Nat.mul_right_comm, Nat.mul_mod_left]
theorem U_shr (x : BitVec 64) (n : Nat) : Value.int .u64 ((x.toNat : Int).fdiv (2 ^ (min n 64))) = U (x >>> n) := by
  congr 1
  rw [BitVec.toNat_ushiftRight, Nat.shiftRight_eq_div_pow]
  rcases Nat.le_total n 64 with h | h
  · rw [Nat.min_eq_left h, Int.fdiv_eq_ediv_of_nonneg _ (Int.le_of_lt (Int.pow_pos (by decide)))]; simp
  · rw [Nat.min_eq_right h, Int.fdiv_eq_ediv_of_nonneg _ (by decide)]
    have h1 := x.isLt
    have h2 : 2 ^ 64 ≤ 2 ^ n := Nat.pow_le_pow_right (by decide) h
    rw [Nat.div_eq_of_lt (by omega)]
    omega

theorem U_eq (x y : BitVec 64) : Value.bool ((x.toNat : Int) == (y.toNat : Int)) = .bool (x == y) := by
  congr 1; rw [Bool.eq_iff_iff]; simp [← BitVec.toNat_inj]; omega
theorem U_ne (x y : BitVec 64) : Value.bool ((x.toNat : Int) != (y.toNat : Int)) = .bool (x != y) := by
  have := U_eq x y; simp only [Value.bool.injEq] at this; simp only [bne, this]
theorem U_lt (x y : BitVec 64) : Value.bool (decide ((x.toNat : Int) < (y.toNat : Int))) = .bool (decide (x < y)) := by
  congr 1; rw [Bool.eq_iff_iff]; simp [BitVec.lt_def]
theorem U_le (x y : BitVec 64) : Value.bool (decide ((x.toNat : Int) ≤ (y.toNat : Int))) = .bool (decide (x ≤ y)) := by
  congr 1; rw [Bool.eq_iff_iff]; simp [BitVec.le_def]
theorem quo_i64 {x y : Int} (h : 0 ≤ x) (h0 : 0 ≤ y) (h1 : x ≤ 9223372036854775807) : Value.int .i64 (IntKind.i64.wrap (x.tdiv y)) = .int .i64 (x / y) := by
  rw [Int.tdiv_eq_ediv_of_nonneg h]
  have h2 : x / y ≤ x := Int.ediv_le_self _ h
  have h3 : 0 ≤ x / y := Int.ediv_nonneg h h0
  exact wi64 rfl (by omega) (by omega)
theorem rem_i64 {x y : Int} (h : 0 ≤ x) : Value.int .i64 (x.tmod y) = .int .i64 (x % y) := by
  rw [Int.tmod_eq_emod_of_nonneg h]
/-- An index into an array behind its address. -/
theorem ev_idx {P : Program} {c : Addr → Option Value} {t : TypeId} {b off : Nat} {n : Nat} {e : TypeId} {i : TypeInfo} (k : Nat) (hu : P.underlying t = some (.array n e)) (hi : P.info? e = some i) (hs : i.size = 1) (hk : k < n) :
    ev P c (Instr.indexAt t (.pointer (some ⟨b, off, none⟩)) (.int .i64 (k : Int))) = some (.pointer (some ⟨b, off + k, none⟩)) := by
  unfold Instr.indexAt
  have h1 : (0 : Int) ≤ k ∧ (k : Int) < n := by omega
  have hadd : (⟨b, off, none⟩ : Addr).add k = ⟨b, off + k, none⟩ := by unfold Addr.add; split <;> simp_all
  simp only [asIntOf, ev_bind, ev_pure, Option.bind_some, ev_underlying hu, Instr.sureAddr, Int.toNat_natCast]
  rw [if_pos h1]
  simp only [ev_bind, ev_sizeOf hi, hs, Option.bind_some, ev_pure, Nat.mul_one, hadd]

theorem ev_zero {P : Program} {c : Addr → Option Value} {t : TypeId} {z : Value} (hz : (P.info? t).bind (·.zero) = some z) : ev P c (zeroValue t) = some z := by
  cases hi : P.info? t with
  | none => simp [hi] at hz
  | some i =>
    simp only [hi, Option.bind_some] at hz
    simp [zeroValue, typeInfo, program, ev_bind, ev_pure, ev, hi, hz]
theorem ev_buildS {P : Program} {c : Addr → Option Value} {ρ : Operand → Value} {d : Option Tmp} {T : TypeId} {l : List (Nat × Operand)} {ty : TypeId} {pos : String} {af : Array Edge} {g : Option (Nat × Bool)} {fs : Array Field} {z : Value} {cs : Array Value}
    (hu : P.underlying T = some (.struct fs)) (hz : (P.info? T).bind (·.zero) = some z) (hf : fs.toList.all (fun f => (P.info? f.type).isSome) = true)
    (hc : Instr.fill ((fs.toList.map (placeOf P))[·]?) z.cells (l.map fun x => (x.1, ρ x.2)) = some cs) :
    ev P c (execOp ρ ⟨d, .build T l.toArray, ty, pos, af, g⟩) = some (.value (.agg cs)) := by
  refine ev_v (s := Instr.build T (l.toArray.map fun x => (x.1, ρ x.2))) ?_
  rw [List.map_toArray]
  exact ev_build hu hz (by rw [← Array.all_toList]; exact hf) (by
    rw [show (fun x => (fs.map (placeOf P))[x]?) = ((fs.toList.map (placeOf P))[·]?) from by funext x; rw [← Array.toList_map, Array.getElem?_toList]]
    exact hc)
theorem ev_buildA {P : Program} {c : Addr → Option Value} {ρ : Operand → Value} {d : Option Tmp} {T : TypeId} {l : List (Nat × Operand)} {ty : TypeId} {pos : String} {af : Array Edge} {g : Option (Nat × Bool)} {n : Nat} {e : TypeId} {i : TypeInfo} {z : Value} {cs : Array Value}
    (hu : P.underlying T = some (.array n e)) (hz : (P.info? T).bind (·.zero) = some z) (hi : P.info? e = some i)
    (hc : Instr.fill (fun k => some (k * i.size, i.size)) z.cells (l.map fun x => (x.1, ρ x.2)) = some cs) :
    ev P c (execOp ρ ⟨d, .build T l.toArray, ty, pos, af, g⟩) = some (.value (.agg cs)) := by
  refine ev_v (s := Instr.build T (l.toArray.map fun x => (x.1, ρ x.2))) ?_
  rw [List.map_toArray]
  unfold Instr.build
  simp only [ev_bind, ev_zero hz, Option.bind_some, ev_underlying hu, ev_sizeOf hi, hc, ev_pure]
def callB (P : Program) (f : FuncId) : Bool := match P.funcs[f]? with | some fn => fn.name != "runtime.NumGoroutine" && fn.body.isSome | none => false
theorem ev_callF {P : Program} {c : Addr → Option Value} {ρ : Operand → Value} {d : Option Tmp} {f : FuncId} {l : List Operand} {ts : Array TypeId} {ty : TypeId} {pos : String} {af : Array Edge} {g : Option (Nat × Bool)} (hρ : ρ (.func f) = .func (.func f) #[] #[]) (h : callB P f = true) {args : List Value} (ha : l.map ρ = args) :
    ev P c (execOp ρ ⟨d, .call ⟨.value (.func f), l.toArray, ts⟩, ty, pos, af, g⟩) = some (.enter f args.toArray) := by
  unfold callB at h
  cases hf : P.funcs[f]? with
  | none => simp [hf] at h
  | some fn =>
    simp only [hf, Bool.and_eq_true, bne_iff_ne, ne_eq] at h
    obtain ⟨h1, h2⟩ := h
    have ha' : l.toArray.map ρ = args.toArray := by rw [List.map_toArray, ha]
    have hr : ev P c (resolve ρ ⟨.value (.func f), l.toArray, ts⟩ ty) = (ev P c (Deferred.ofValue (ρ (.func f)) args.toArray)) := by
      show ev P c (Deferred.ofValue (ρ (.func f)) (l.toArray.map ρ)) = _
      rw [ha']
    show ev P c (do let d ← resolve ρ ⟨.value (.func f), l.toArray, ts⟩ ty; invoke d.target d.args) = _
    rw [ev_bind, hr, hρ]
    show ev P c (invoke (.fn (.func f) #[]) (#[] ++ args.toArray)) = _
    have h5 : ¬ fn.body = none := by intro e; simp [e] at h2
    simp [invoke, callFunc, program, ev_bind, ev, hf, h1, h5, ev_pure]

theorem ev_callX {P : Program} {c : Addr → Option Value} {ρ : Operand → Value} {d : Option Tmp} {f : FuncId} {l : List Operand} {ts : Array TypeId} {ty : TypeId} {pos : String} {af : Array Edge} {g : Option (Nat × Bool)} {fn : Func} {F : Array Value → Sem Value} {v : Value} (hρ : ρ (.func f) = .func (.func f) #[] #[])
    (hf : P.funcs[f]? = some fn) (hb : fn.body = none) (hn : (fn.name == "runtime.NumGoroutine") = false) (hx : Extern.findNext fn = none) (hF : Extern.find fn = some F) {args : List Value} (ha : l.map ρ = args) (hv : ev P c (F args.toArray) = some v) :
    ev P c (execOp ρ ⟨d, .call ⟨.value (.func f), l.toArray, ts⟩, ty, pos, af, g⟩) = some (.value v) := by
  have ha' : l.toArray.map ρ = args.toArray := by rw [List.map_toArray, ha]
  have hr : ev P c (resolve ρ ⟨.value (.func f), l.toArray, ts⟩ ty) = (ev P c (Deferred.ofValue (ρ (.func f)) args.toArray)) := by
    show ev P c (Deferred.ofValue (ρ (.func f)) (l.toArray.map ρ)) = _
    rw [ha']
  have h1 : ¬ fn.name = "runtime.NumGoroutine" := by simpa using hn
  show ev P c (do let d ← resolve ρ ⟨.value (.func f), l.toArray, ts⟩ ty; invoke d.target d.args) = _
  rw [ev_bind, hr, hρ]
  show ev P c (invoke (.fn (.func f) #[]) (#[] ++ args.toArray)) = _
  have hm : ∀ m, ev P c (mark m) = some () := fun _ => rfl
  simp [invoke, callFunc, program, ev_bind, ev, hf, h1, hb, hm, hx, hF, ev_map, hv]
/-- A loop whose next round begins in (t, l). -/
def AL (E : Env) (c : Code) (Q : QL) (t : Nat → Value) (l : List Bl) : Prop := ∀ w0 a w, E.P.follows .mixedOrders = true → SimL E w0 t l a w → ∀ (b : Frame) (k : List Item) (cs : List Frame),
  ∃ e a' w', PostL E w0 Q e a' w' ∧ Arrives E.P (lone (b.at a (.inLoop c :: k)) cs w) b k cs e a' w'
theorem AL_round {E : Env} {Q : QL} {t : Nat → Value} {l : List Bl} {c : Code} (h : ∀ K : (Nat → Value) → List Bl → Prop, (∀ t l, AL E c Q t l → K t l) → A E c (thenL K Q) t l) {w0 : World} {a : Act} {w : World} (hm : E.P.follows .mixedOrders = true) (hs : SimL E w0 t l a w)
    (b : Frame) (k : List Item) (cs : List Frame) : ∃ e a' w', PostL E w0 Q e a' w' ∧ Arrives E.P (lone (b.at a (.code c :: .inLoop c :: k)) cs w) b k cs e a' w' := by
  obtain ⟨e, a1, w1, ⟨t1, l1, hk, hs1⟩, harr⟩ := h _ (fun _ _ h => h) w0 a w hm hs b (.inLoop c :: k) cs
  cases e with
  | normal =>
    obtain ⟨e2, a2, w2, hq2, harr2⟩ := hk w0 a1 w1 hm hs1 b k cs
    exact ⟨e2, a2, w2, hq2, .of_steps harr harr2⟩
  | exit id => exact ⟨_, a1, w1, ⟨t1, l1, hk, hs1⟩, .pass (x := .inLoop c) rfl (fun _ _ => .inl (by simp)) harr⟩
  | goto l => exact ⟨_, a1, w1, ⟨t1, l1, hk, hs1⟩, .pass (x := .inLoop c) rfl (fun _ _ => .inl (by simp)) harr⟩
  | ret => exact ⟨_, a1, w1, ⟨t1, l1, hk, hs1⟩, .pass (x := .inLoop c) rfl (fun _ _ => .inl (by simp)) harr⟩
  | panic ch => exact ⟨_, a1, w1, ⟨t1, l1, hk, hs1⟩, .pass (x := .inLoop c) rfl (fun _ _ => .inl (by simp)) harr⟩
  | outgrown => exact ⟨_, a1, w1, ⟨t1, l1, hk, hs1⟩, .pass (x := .inLoop c) rfl (fun _ _ => .inl (by simp)) harr⟩
theorem A_unroll {E : Env} {Q : QL} {t : Nat → Value} {l : List Bl} {c : Code} (h : ∀ K : (Nat → Value) → List Bl → Prop, (∀ t l, AL E c Q t l → K t l) → A E c (thenL K Q) t l) : A E (.loop c) Q t l := fun w0 a w hm hs b k cs => by
  obtain ⟨e, a', w', hq, harr⟩ := AL_round h hm hs b k cs
  exact ⟨e, a', w', hq, .of_steps (.one step_loop) harr⟩
theorem AL_unroll {E : Env} {Q : QL} {t : Nat → Value} {l : List Bl} {c : Code} (h : ∀ K : (Nat → Value) → List Bl → Prop, (∀ t l, AL E c Q t l → K t l) → A E c (thenL K Q) t l) : AL E c Q t l := fun w0 a w hm hs b k cs => by
  obtain ⟨e, a', w', hq, harr⟩ := AL_round h hm hs b k cs
  exact ⟨e, a', w', hq, .of_steps (.one step_inLoop) harr⟩
theorem Gives.of_same {P : Program} {f : FuncId} {args : Array Value} {v : Value} (h : ∀ w, Calls P f args w fun e w' => e = .returned v ∧ w' = w) : Gives P f args v :=
  fun w => (h w).mono fun _ _ ⟨h1, h2⟩ => ⟨h1, by rw [h2]; exact Below.refl _ _⟩
theorem Gives.eq {P : Program} {f : FuncId} {args : Array Value} {v v' : Value} (h : Gives P f args v) (e : v = v') : Gives P f args v' := e ▸ h
end Go.Eng
