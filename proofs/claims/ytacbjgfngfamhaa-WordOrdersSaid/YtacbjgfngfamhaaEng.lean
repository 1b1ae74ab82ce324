/- The engine: a walk of a Go function's code over a small state (its slots and the blocks that it made), for every world and every order that Go leaves open. Conditions: none; all is proved over any program. -/
import Derived.Orders
import Derived.Below
import Derived.Laws.CopyRow
import Derived.Laws.Small
import Derived.Tactics
namespace Go.Eng
open Go Go.RowKit

def upd {α : Type} (f : Nat → α) (k : Nat) (v : α) : Nat → α := fun i => if i = k then v else f i
theorem upd_same {α : Type} (f : Nat → α) (k : Nat) (v : α) : upd f k v k = v := by simp [upd]
theorem upd_ne {α : Type} (f : Nat → α) {k i : Nat} (v : α) (h : i ≠ k) : upd f k v i = f i := by simp [upd, h]
theorem upd_comm {α : Type} (f : Nat → α) {k l : Nat} (v u : α) (h : k ≠ l) : upd (upd f k v) l u = upd (upd f l u) k v := by
  funext i; unfold upd; by_cases h1 : i = l <;> by_cases h2 : i = k <;> simp [h1, h2] <;> omega

structure St where
  t : Nat → Value
  own : Nat → Option (TypeId × Array Value)
  nw : Nat → Bool

structure Env where
  P : Program
  n : Nat
  base : Nat
  ro : Addr → Option Value

def rd (t : Nat → Value) : Operand → Value
  | .tmp k => t k
  | .const v => v
  | .global g => .pointer (some ⟨g, 0, none⟩)
  | .func f => .func (.func f) #[] #[]

def putT (t : Nat → Value) (d : Option Tmp) (v : Value) : Nat → Value :=
  match d with
  | some k => upd t k v
  | none => t

def ev {α : Type} (P : Program) (c : Addr → Option Value) : Sem α → Option α
  | .pure a => some a
  | .load .plain a k => match c a with
    | some v => ev P c (k v)
    | none => none
  | .program k => ev P c (k P)
  | .mark _ k => ev P c k
  | _ => none

theorem ev_run {α : Type} {P : Program} {c : Addr → Option Value} {w : World} (hc : ∀ a v, c a = some v → w.cell? a = some v) :
    ∀ (s : Sem α) (x : α), ev P c s = some x → s.run P w = .ok x w := by
  intro s
  induction s with
  | pure a => intro x h; simp only [ev, Option.some.injEq] at h; subst h; rfl
  | load m a k ih =>
    intro x h
    cases m with
    | plain =>
      simp only [ev] at h
      cases hv : c a with
      | none => rw [hv] at h; cases h
      | some v => rw [hv] at h; simp only [Sem.run, hc a v hv]; exact ih v x h
    | atomic => simp [ev] at h
  | program k ih => intro x h; simp only [ev] at h; simp only [Sem.run]; exact ih P x h
  | mark m k ih => intro x h; simp only [ev] at h; simp only [Sem.run]; exact ih x h
  | _ => intro x h; simp [ev] at h

def Gives (P : Program) (f : FuncId) (args : Array Value) (v : Value) : Prop :=
  ∀ w, Calls P f args w fun e w' => e = .returned v ∧ Below w.heap.size w w'

/-! ### One value -/
theorem runN_det {P : Program} {m m1 m2 : Machine} {a b : Nat} (h1 : runN P a m = .next m1) (h2 : runN P b m = .next m2) (hab : a ≤ b) : runN P (b - a) m1 = .next m2 := by
  have h3 := runN_add P a (b - a) m
  rw [Nat.add_sub_cancel' hab, h1, h2] at h3
  exact h3.symm

def deadFrame : Frame := { (default : Frame) with todo := [.code (.refuse "")], mode := .run }

theorem dead_step {P : Program} {w : World} {v : Value} (k : Nat) (m : Machine) : runN P (k + 1) (lone (deadFrame.finish v) [] w) ≠ .next m := by
  have hs : ∃ o w', step P (lone (deadFrame.finish v) [] w) = .ended o w' := by
    refine ⟨.unsupported (Go.Unsupported.elab "") ((deadFrame.finish v).pos P), w, step_lone_ended ?_⟩
    simp [stepG, stepG.exec, deadFrame, Frame.finish]
  obtain ⟨o, w', hs⟩ := hs
  simp [runN, hs]

theorem pure_aux {P : Program} {f : FuncId} {args : Array Value} {w w1 w2 : World} {v1 v2 : Value} {f1 f2 : Frame} {a b : Nat}
    (h1 : runN P a (lone (Frame.enter P f args .normal) [deadFrame] w) = .next (lone f1 [deadFrame] w1)) (l1 : f1.leaving P w1 (.returned v1))
    (h2 : runN P b (lone (Frame.enter P f args .normal) [deadFrame] w) = .next (lone f2 [deadFrame] w2)) (l2 : f2.leaving P w2 (.returned v2)) (hab : a ≤ b) : v1 = v2 := by
  have h3 := runN_det h1 h2 hab
  cases hk : b - a with
  | zero =>
    rw [hk] at h3
    simp only [runN, Stepped.next.injEq] at h3
    have e1 : f1 = f2 := by have := congrArg (fun m : Machine => (m.gs[0]?).map (·.frame)) h3; simpa [lone] using this
    have e2 : w1 = w2 := by have := congrArg (fun m : Machine => m.world) h3; simpa [lone] using this
    subst e1; subst e2
    obtain ⟨_, _, _, fn, hf, hr⟩ := l1
    obtain ⟨_, _, _, fn', hf', hr'⟩ := l2
    rw [hf] at hf'; cases hf'
    rw [hr] at hr'
    injection hr'
  | succ k =>
    rw [hk] at h3
    have hs := step_leave_returned (P := P) (c := deadFrame) (cs := []) l1
    simp only [runN, hs] at h3
    cases k with
    | zero =>
      simp only [runN, Stepped.next.injEq] at h3
      have := congrArg (fun m : Machine => (m.gs[0]?).map (·.callers.length)) h3
      simp [lone] at this
    | succ k => exact absurd h3 (dead_step k _)

theorem Gives.unique {P : Program} {f : FuncId} {args : Array Value} {v v' : Value} (h : Gives P f args v) (h' : Gives P f args v') : v = v' := by
  obtain ⟨e1, w1, f1, ⟨he1, _⟩, c1, _, l1⟩ := h default [deadFrame]
  obtain ⟨e2, w2, f2, ⟨he2, _⟩, c2, _, l2⟩ := h' default [deadFrame]
  subst he1; subst he2
  obtain ⟨a, ha⟩ := c1
  obtain ⟨b, hb⟩ := c2
  rcases Nat.le_total a b with hab | hab
  · exact pure_aux ha l1 hb l2 hab
  · exact (pure_aux hb l2 ha l1 hab).symm

/-! ### One operation -/
inductive Kd where
  | f | l | a | s | n | bad
  deriving DecidableEq

def kd : Op → Kd
  | .load .. | .convert .. => .l
  | .alloc _ | .box .. => .a
  | .store .. => .s
  | .move _ | .assign _ | .pick .. | .build .. | .binOp .. | .unOp .. | .fieldAddr .. | .field .. | .indexAddr .. | .index .. | .slice .. | .extract .. | .call _ | .nilCheck _ | .typeAssert .. | .makeInterface .. => .f
  | _ => .bad

def Yields (E : Env) (t : Nat → Value) (o : Oper) (v : Value) : Prop :=
  ev E.P E.ro (execOp (rd t) o) = some (.value v) ∨
  ∃ f args, ev E.P E.ro (execOp (rd t) o) = some (.enter f args) ∧ Gives E.P f args v

theorem Yields.unique {E : Env} {t : Nat → Value} {o : Oper} {v v' : Value} (h : Yields E t o v) (h' : Yields E t o v') : v = v' := by
  rcases h with h | ⟨f, args, h, hp⟩ <;> rcases h' with h' | ⟨f', args', h', hp'⟩ <;> rw [h] at h' <;> simp only [Option.some.injEq, Next.value.injEq, Next.enter.injEq, reduceCtorEq] at h'
  · exact h'
  · obtain ⟨rfl, rfl⟩ := h'; exact hp.unique hp'

def ldCells (P : Program) (ty : TypeId) (cs : Array Value) (off : Nat) : Option Value :=
  match P.underlying ty with
  | some (.struct _) | some (.array _ _) =>
    match P.info? ty with
    | some i => if off = 0 ∧ i.size = cs.size then some (.agg cs) else if off + i.size ≤ cs.size then some (.agg (cs.extract off (off + i.size))) else none
    | none => none
  | some _ => cs[off]?
  | none => none

/-- A cell that may be read: of a block that was there when the region began, or of what came in. -/
def cellA (E : Env) (own : Nat → Option (TypeId × Array Value)) (nw : Nat → Bool) (a : Addr) : Option Value :=
  match own a.block with
  | some (_, cs) => if nw a.block || a.spot.isSome then none else cs[a.off]?
  | none => if a.block < E.base then E.ro a else none

def loadOf (E : Env) (s : St) (o : Oper) : Option Value :=
  match ev E.P (cellA E s.own s.nw) (execOp (rd s.t) o) with
  | some (.value v) => some v
  | _ => none

def allocOf (P : Program) (t : Nat → Value) (o : Oper) : Option (TypeId × Array Value) :=
  match o.op with
  | .alloc e => ((P.info? e).bind (·.zero)).map fun z => (e, z.cells)
  | .box e x => some (e, (rd t x).cells)
  | _ => none

def splice (cs : Array Value) (off : Nat) (vs : Array Value) : Array Value :=
  if off = 0 ∧ vs.size = cs.size then vs
  else if vs.size = 1 then cs.setIfInBounds off (vs.getD 0 undef)
  else (cs.toList.take off ++ vs.toList ++ cs.toList.drop (off + vs.size)).toArray

def StoreAtA (P : Program) (own : Nat → Option (TypeId × Array Value)) (ty : TypeId) (p v : Value) (b : Nat) (y : TypeId × Array Value) : Prop :=
  ∃ off T cs i, p = .pointer (some ⟨b, off, none⟩) ∧ own b = some (T, cs) ∧ P.info? ty = some i ∧ v.cells.size = i.size ∧ off + v.cells.size ≤ cs.size ∧
    (∀ x ∈ v.cells, x.oneCell' = true) ∧ y = (T, splice cs off v.cells)

theorem StoreAtA.unique {P : Program} {own : Nat → Option (TypeId × Array Value)} {ty : TypeId} {p v : Value} {b b' : Nat} {y y' : TypeId × Array Value} (h : StoreAtA P own ty p v b y) (h' : StoreAtA P own ty p v b' y') : b = b' ∧ y = y' := by
  obtain ⟨off, T, cs, i, h1, h2, _, _, _, _, h3⟩ := h
  obtain ⟨off', T', cs', i', h1', h2', _, _, _, _, h3'⟩ := h'
  rw [h1] at h1'
  simp only [Value.pointer.injEq, Option.some.injEq, Addr.mk.injEq, and_true] at h1'
  obtain ⟨rfl, rfl⟩ := h1'
  rw [h2] at h2'
  simp only [Option.some.injEq, Prod.mk.injEq] at h2'
  obtain ⟨rfl, rfl⟩ := h2'
  exact ⟨rfl, by rw [h3, h3']⟩

def StoreOf (E : Env) (s : St) (o : Oper) (b : Nat) (y : TypeId × Array Value) : Prop :=
  match o.op with
  | .store ty p x => StoreAtA E.P s.own ty (rd s.t p) (rd s.t x) b y
  | _ => False

/-- The store into a block that this very region makes. -/
def newStore (ops : Array Oper) (o : Oper) : Bool :=
  match o.op with
  | .store _ (.tmp k) _ => ops.toList.any fun x => kd x.op == .a && x.dst == some k
  | _ => false
def kdo (g : Bool) (ops : Array Oper) (o : Oper) : Kd := if (g && newStore ops o) = true then .n else kd o.op
theorem kdo_n {g : Bool} {ops : Array Oper} {o : Oper} (h : kdo g ops o = .n) : kd o.op = .s := by
  unfold kdo at h
  split at h
  · rename_i h1
    simp only [Bool.and_eq_true] at h1
    have := h1.2
    unfold newStore at this
    split at this
    · rename_i ho; rw [ho]; rfl
    · cases this
  · cases ho : o.op <;> rw [ho] at h <;> simp [kd] at h
theorem kdo_eq {g : Bool} {ops : Array Oper} {o : Oper} {k : Kd} (h : kd o.op = k) (hk : k ≠ .s) : kdo g ops o = k := by
  unfold kdo
  split
  · rename_i h1
    simp only [Bool.and_eq_true] at h1
    have h2 := h1.2
    unfold newStore at h2
    split at h2
    · rename_i ho; rw [ho] at h; exact absurd h.symm hk
    · cases h2
  · exact h
theorem kdo_of {g : Bool} {ops : Array Oper} {o : Oper} {k : Kd} (h : kdo g ops o = k) (hk : k ≠ .n) : kd o.op = k := by
  unfold kdo at h
  split at h
  · exact absurd h.symm hk
  · exact h

def yieldedF (ops : Array Oper) (t : Nat → Value) (j : Nat) : Option Bool :=
  match ((ops[j]?).bind (·.dst)).map t with
  | some (.bool b) => some b
  | _ => none

inductive Fx where
  | val (v : Value)
  | new (x : TypeId × Array Value)
  | sto (b : Nat) (y : TypeId × Array Value)

def HasFx (E : Env) (g : Bool) (ops : Array Oper) (o : Oper) (s : St) (e : Fx) : Prop :=
  if Region.wanted o (yieldedF ops s.t) then
    match kdo g ops o with
    | .f => ∃ v, Yields E s.t o v ∧ e = .val v
    | .l => ∃ v, loadOf E s o = some v ∧ e = .val v
    | .a => ∃ x, allocOf E.P s.t o = some x ∧ e = .new x
    | .s => ∃ b y, StoreOf E s o b y ∧ e = .sto b y
    | .n => ∃ b y, StoreOf E s o b y ∧ s.nw b = true ∧ e = .sto b y
    | .bad => False
  else e = .val undef

def Do (E : Env) (g : Bool) (o : Oper) (s : St) : Fx → St → Prop
  | .val v, s' => s' = { s with t := putT s.t o.dst v }
  | .new x, s' => ∃ r, E.base ≤ r ∧ s.own r = none ∧ s' = { t := putT s.t o.dst (.pointer (some ⟨r, 0, none⟩)), own := upd s.own r (some x), nw := if g then upd s.nw r true else s.nw }
  | .sto b y, s' => s' = { s with t := putT s.t o.dst undef, own := upd s.own b (some y) }

def OkW (E : Env) (g : Bool) (ops : Array Oper) (o : Oper) (s : St) : Prop := (∀ d, o.dst = some d → d < E.n) ∧ ∃ e, HasFx E g ops o s e
def NxW (E : Env) (g : Bool) (ops : Array Oper) (o : Oper) (s s' : St) : Prop := ∃ e, HasFx E g ops o s e ∧ Do E g o s e s'

theorem StoreOf.unique {E : Env} {s : St} {o : Oper} {b b' : Nat} {y y' : TypeId × Array Value} (h : StoreOf E s o b y) (h' : StoreOf E s o b' y') : b = b' ∧ y = y' := by
  unfold StoreOf at *
  split at h
  · rename_i ho; simp only [ho] at h'; exact StoreAtA.unique h h'
  · exact h.elim

theorem HasFx.unique {E : Env} {g : Bool} {ops : Array Oper} {o : Oper} {s : St} {e e' : Fx} (h : HasFx E g ops o s e) (h' : HasFx E g ops o s e') : e = e' := by
  unfold HasFx at *
  split at h
  · rename_i hw
    rw [if_pos hw] at h'
    cases hk : kdo g ops o <;> simp only [hk] at h h'
    · obtain ⟨v, h1, rfl⟩ := h; obtain ⟨v', h1', rfl⟩ := h'; rw [h1.unique h1']
    · obtain ⟨v, h1, rfl⟩ := h; obtain ⟨v', h1', rfl⟩ := h'; rw [h1] at h1'; cases h1'; rfl
    · obtain ⟨v, h1, rfl⟩ := h; obtain ⟨v', h1', rfl⟩ := h'; rw [h1] at h1'; cases h1'; rfl
    · obtain ⟨b, y, h1, rfl⟩ := h; obtain ⟨b', y', h1', rfl⟩ := h'; obtain ⟨rfl, rfl⟩ := h1.unique h1'; rfl
    · obtain ⟨b, y, h1, _, rfl⟩ := h; obtain ⟨b', y', h1', _, rfl⟩ := h'; obtain ⟨rfl, rfl⟩ := h1.unique h1'; rfl
  · rename_i hw; rw [if_neg hw] at h'; rw [h, h']

/-- The operations in the order of the text. -/
def lexK (E : Env) (g : Bool) (ops : Array Oper) (Q : St → Prop) : List Oper → St → Prop
  | [], s => Q s
  | o :: r, s => OkW E g ops o s ∧ ∀ s', NxW E g ops o s s' → lexK E g ops Q r s'

/-! ### What operations do to each other -/
theorem putT_comm (t : Nat → Value) {d e : Option Tmp} (v u : Value) (h : ∀ k, d = some k → e ≠ some k) : putT (putT t d v) e u = putT (putT t e u) d v := by
  cases d with
  | none => rfl
  | some k =>
    cases e with
    | none => rfl
    | some l => exact upd_comm t v u (fun hkl => h k rfl (by rw [hkl]))

def Free (ops : Array Oper) (o : Oper) (d : Option Tmp) : Prop := ∀ k, d = some k → k ∉ o.looksAt ops

theorem rd_putT {ops : Array Oper} {o : Oper} {d : Option Tmp} (h : Free ops o d) (t : Nat → Value) (v : Value) : ∀ x ∈ o.op.operands, rd (putT t d v) x = rd t x := by
  intro x hx
  cases d with
  | none => rfl
  | some k =>
    cases x with
    | tmp j =>
      have : j ≠ k := by
        intro e; subst e
        exact h j rfl (by unfold Oper.looksAt; exact List.mem_append_left _ (List.mem_filterMap.2 ⟨.tmp j, by simpa using hx, rfl⟩))
      simp [rd, putT, upd, this]
    | _ => rfl

theorem wantedF_putT {ops : Array Oper} {o : Oper} {d : Option Tmp} (h : Free ops o d) (t : Nat → Value) (v : Value) :
    Region.wanted o (yieldedF ops (putT t d v)) = Region.wanted o (yieldedF ops t) := by
  cases d with
  | none => rfl
  | some k =>
    unfold Region.wanted
    cases hg : o.guard with
    | none => rfl
    | some gw =>
      obtain ⟨g, want⟩ := gw
      have hy : yieldedF ops (putT t (some k) v) g = yieldedF ops t g := by
        unfold yieldedF
        cases ht : (ops[g]?).bind (·.dst) with
        | none => rfl
        | some j =>
          have hne : j ≠ k := fun e => h k rfl (by subst e; simp [Oper.looksAt, hg, ht])
          simp [putT, upd, hne]
      simp only [hy]

theorem kd_select {o : Oper} (h : kd o.op ≠ .bad) : ∀ cs b, o.op ≠ .select cs b := by
  intro cs b e; rw [e] at h; exact h rfl

theorem Yields_putT {E : Env} {ops : Array Oper} {o : Oper} {d : Option Tmp} (hk : kd o.op ≠ .bad) (h : Free ops o d) (t : Nat → Value) (u v : Value) :
    Yields E (putT t d u) o v ↔ Yields E t o v := by
  unfold Yields
  rw [execOp_congr o (kd_select hk) (rd_putT h t u)]

theorem allocOf_putT {P : Program} {ops : Array Oper} {o : Oper} {d : Option Tmp} (h : Free ops o d) (t : Nat → Value) (u : Value) : allocOf P (putT t d u) o = allocOf P t o := by
  have := rd_putT h t u
  unfold allocOf
  split
  · rfl
  · rename_i e x ho; rw [this x (by simp [ho, Op.operands])]
  · rfl

theorem loadOf_putT {E : Env} {ops : Array Oper} {o : Oper} {d : Option Tmp} (hk : kd o.op ≠ .bad) (h : Free ops o d) (s : St) (u : Value) : loadOf E { s with t := putT s.t d u } o = loadOf E s o := by
  unfold loadOf
  rw [execOp_congr o (kd_select hk) (rd_putT h s.t u)]

theorem StoreOf_putT {E : Env} {ops : Array Oper} {o : Oper} {d : Option Tmp} (h : Free ops o d) (s : St) (u : Value) (b : Nat) (y : TypeId × Array Value) :
    StoreOf E { s with t := putT s.t d u } o b y ↔ StoreOf E s o b y := by
  have := rd_putT h s.t u
  unfold StoreOf
  split
  · rename_i ty p x ho
    rw [this p (by simp [ho, Op.operands]), this x (by simp [ho, Op.operands])]
  · rfl

theorem cellA_new {E : Env} {own : Nat → Option (TypeId × Array Value)} {nw : Nat → Bool} {r : Nat} (hr : E.base ≤ r) (hn : own r = none) (x : TypeId × Array Value) : cellA E (upd own r (some x)) (upd nw r true) = cellA E own nw := by
  funext a
  unfold cellA
  by_cases hb : a.block = r
  · rw [hb, upd_same, upd_same, hn]
    simp only [Bool.true_or, if_true]
    rw [if_neg (by omega)]
  · rw [upd_ne _ _ hb, upd_ne _ _ hb]
theorem loadOf_new {E : Env} {s : St} {r : Nat} (hr : E.base ≤ r) (hn : s.own r = none) (x : TypeId × Array Value) (o : Oper) :
    loadOf E { s with own := upd s.own r (some x), nw := upd s.nw r true } o = loadOf E s o := by
  unfold loadOf
  rw [cellA_new hr hn x]

theorem loadOf_sto {E : Env} {s : St} {b : Nat} {z : TypeId × Array Value} (hb : s.own b = some z) (hn : s.nw b = true) (y : TypeId × Array Value) (o : Oper) :
    loadOf E { s with own := upd s.own b (some y) } o = loadOf E s o := by
  unfold loadOf
  have : cellA E (upd s.own b (some y)) s.nw = cellA E s.own s.nw := by
    funext a
    unfold cellA
    by_cases hc : a.block = b
    · rw [hc, upd_same, hb, hn]; simp
    · rw [upd_ne _ _ hc]
  simp only [this]

theorem ev_loadVar_congr {P : Program} {c c' : Addr → Option Value} {ty : TypeId} {a : Addr} (h : ∀ x, x.block = a.block → c x = c' x) : ev P c (loadVar ty a) = ev P c' (loadVar ty a) := by
  have hl : ∀ n i acc, ev P c (loadCellsFrom a i n acc) = ev P c' (loadCellsFrom a i n acc) := by
    intro n
    induction n with
    | zero => intro i acc; rfl
    | succ n ih =>
      intro i acc
      have hb : (a.add i).block = a.block := by unfold Addr.add; split <;> rfl
      show ev P c (Sem.bind (load (a.add i)) fun v => loadCellsFrom a (i + 1) n (acc.push v)) = ev P c' (Sem.bind (load (a.add i)) fun v => loadCellsFrom a (i + 1) n (acc.push v))
      simp only [load, Sem.bind, ev, h _ hb]
      split
      · exact ih _ _
      · rfl
  have hbind : ∀ {α β : Type} (s : Sem α) (f : α → Sem β) (c : Addr → Option Value), ev P c (s.bind f) = (ev P c s).bind fun x => ev P c (f x) := by
    intro α β s f c
    induction s with
    | pure a => rfl
    | load m a k ih =>
      cases m with
      | plain =>
        simp only [Sem.bind, ev]
        cases c a with
        | none => rfl
        | some v => exact ih v
      | atomic => rfl
    | program k ih => simp only [Sem.bind, ev]; exact ih P
    | mark m k ih => simp only [Sem.bind, ev]; exact ih
    | _ => rfl
  have hp : ∀ (c1 c2 : Addr → Option Value), ev P c1 (isAgg ty) = ev P c2 (isAgg ty) := by
    intro c1 c2
    show ev P c1 (Sem.bind (underlying ty) _) = ev P c2 (Sem.bind (underlying ty) _)
    unfold underlying program
    simp only [bind, Sem.bind, ev]
    cases P.underlying ty with
    | none => rfl
    | some d => cases d <;> rfl
  have hs : ∀ (c1 c2 : Addr → Option Value), ev P c1 (sizeOf ty) = ev P c2 (sizeOf ty) := by
    intro c1 c2
    unfold sizeOf typeInfo program
    simp only [bind, Sem.bind, ev]
    cases P.info? ty with
    | none => rfl
    | some d => rfl
  show ev P c (Sem.bind (isAgg ty) _) = ev P c' (Sem.bind (isAgg ty) _)
  rw [hbind, hbind, hp c c']
  cases ev P c' (isAgg ty) with
  | none => rfl
  | some b =>
    simp only [Option.bind_some]
    cases b
    · simp only [Bool.false_eq_true, if_false, load, ev, h a rfl]
    · simp only [if_true]
      show ev P c (Sem.bind (sizeOf ty) _) = ev P c' (Sem.bind (sizeOf ty) _)
      rw [hbind, hbind, hs c c']
      cases ev P c' (sizeOf ty) with
      | none => rfl
      | some n =>
        simp only [Option.bind_some]
        show ev P c (Sem.bind (loadCells a n) _) = ev P c' (Sem.bind (loadCells a n) _)
        rw [hbind, hbind]
        unfold loadCells
        rw [hl]
        rfl

theorem StoreOf_new {E : Env} {s : St} {r : Nat} (hn : s.own r = none) (x : TypeId × Array Value) (o : Oper) {b : Nat} {y : TypeId × Array Value} (h : StoreOf E s o b y) :
    b ≠ r ∧ StoreOf E { s with own := upd s.own r (some x), nw := upd s.nw r true } o b y := by
  unfold StoreOf at *
  split
  · rename_i ty p v ho
    simp only [ho] at h
    obtain ⟨off, T, cs, i, h1, h2, h3⟩ := h
    have hne : b ≠ r := by intro e; subst e; rw [hn] at h2; cases h2
    exact ⟨hne, off, T, cs, i, h1, by show upd s.own r _ b = _; rw [upd_ne _ _ hne]; exact h2, h3⟩
  · simp only at h

def Kd.mem : Kd → Bool
  | .l | .a | .s | .n => true
  | _ => false
def clashK : Kd → Kd → Bool
  | .s, k => k.mem
  | k, .s => k.mem
  | .n, .n => true
  | _, _ => false
theorem clashK_symm (x y : Kd) : clashK x y = clashK y x := by cases x <;> cases y <;> rfl
/-- A store and a load whose addresses lie in two slots of ps. -/
def slotsSL (x y : Oper) : Option (Nat × Nat) :=
  match x.op, y.op with
  | .store _ (.tmp p) _, .load _ (.tmp q) => some (p, q)
  | _, _ => none
def sepIn (ps : List (Nat × Nat)) (x y : Oper) : Bool :=
  match slotsSL x y with
  | some pq => ps.contains pq
  | none => false
def blk : Value → Option Nat
  | .pointer (some a) => some a.block
  | _ => none
def Sep (ps : List (Nat × Nat)) (t : Nat → Value) : Prop := ∀ pq ∈ ps, blk (t pq.1) ≠ blk (t pq.2)
def clash (ops : Array Oper) (ps : List (Nat × Nat)) (x y : Oper) : Bool :=
  match kdo true ops x, kdo true ops y with
  | .s, .l => !sepIn ps x y
  | .l, .s => !sepIn ps y x
  | k1, k2 => clashK k1 k2

structure Indep (ops : Array Oper) (ps : List (Nat × Nat)) (x y : Oper) : Prop where
  f1 : Free ops y x.dst
  f2 : Free ops x y.dst
  ne : ∀ k, x.dst = some k → y.dst ≠ some k
  cl : (kdo true ops x = .s ∧ kdo true ops y = .l) ∨ (kdo true ops x = .l ∧ kdo true ops y = .s) ∨ clashK (kdo true ops x) (kdo true ops y) = false
  sl : kdo true ops x = .s → kdo true ops y = .l → sepIn ps x y = true
  ls : kdo true ops x = .l → kdo true ops y = .s → sepIn ps y x = true

theorem Indep.symm {ops : Array Oper} {ps : List (Nat × Nat)} {x y : Oper} (h : Indep ops ps x y) : Indep ops ps y x :=
  ⟨h.f2, h.f1, fun k h1 h2 => h.ne k h2 h1, by
    rcases h.cl with ⟨a, b⟩ | ⟨a, b⟩ | c
    · exact .inr (.inl ⟨b, a⟩)
    · exact .inl ⟨b, a⟩
    · rw [clashK_symm] at c; exact .inr (.inr c), fun a b => h.ls b a, fun a b => h.sl b a⟩

theorem loadOf_sep {E : Env} {ps : List (Nat × Nat)} {x y : Oper} {s : St} (hs : Sep ps s.t) (hp : sepIn ps x y = true) {b : Nat} {z : TypeId × Array Value} (hx : StoreOf E s x b z) (z' : TypeId × Array Value) :
    loadOf E { s with own := upd s.own b (some z') } y = loadOf E s y := by
  unfold sepIn at hp
  split at hp
  · rename_i pq hpq
    unfold slotsSL at hpq
    split at hpq
    · rename_i ty p v ty' q hxo hyo
      cases hpq
      have hne := hs (p, q) (by simpa using hp)
      unfold StoreOf at hx
      simp only [hxo] at hx
      obtain ⟨off, T, cs, i, h1, _⟩ := hx
      have h1' : s.t p = .pointer (some ⟨b, off, none⟩) := h1
      simp only [h1', blk] at hne
      have hev : ∀ c, ev E.P c (execOp (rd s.t) y) = (ev E.P c (Instr.loadAt ty' (s.t q))).map Next.value := by
        intro c
        have e1 : execOp (rd s.t) y = Sem.bind (Instr.loadAt ty' (s.t q)) fun v => .pure (.value v) := by unfold execOp; rw [hyo]; rfl
        rw [e1]
        generalize Instr.loadAt ty' (s.t q) = m
        induction m with
        | pure a => rfl
        | load md a k ih =>
          cases md with
          | plain =>
            simp only [Sem.bind, ev]
            cases c a with
            | none => rfl
            | some v => exact ih v
          | atomic => rfl
        | program k ih => simp only [Sem.bind, ev]; exact ih E.P
        | mark md k ih => simp only [Sem.bind, ev]; exact ih
        | _ => rfl
      have key : ev E.P (cellA E (upd s.own b (some z')) s.nw) (Instr.loadAt ty' (s.t q)) = ev E.P (cellA E s.own s.nw) (Instr.loadAt ty' (s.t q)) := by
        cases hq : s.t q with
        | pointer p' =>
          cases p' with
          | none => rfl
          | some a =>
            have hab : a.block ≠ b := by intro e; apply hne; rw [hq]; simp only [e]
            show ev E.P _ (loadVar ty' a) = ev E.P _ (loadVar ty' a)
            refine ev_loadVar_congr (fun x hx => ?_)
            unfold cellA
            rw [upd_ne _ _ (by rw [hx]; exact hab)]
        | _ => rfl
      unfold loadOf
      show (match ev E.P (cellA E (upd s.own b (some z')) s.nw) (execOp (rd s.t) y) with | some (.value v) => some v | _ => none) = _
      rw [hev, hev, key]
    · cases hpq
  · cases hp

theorem kdo_bad {g : Bool} {ops : Array Oper} {o : Oper} {k : Kd} (h : kdo g ops o = k) (hk : k ≠ .bad) : kd o.op ≠ .bad := by
  intro e
  by_cases hn : k = .n
  · subst hn; rw [kdo_n h] at e; cases e
  · rw [kdo_of h hn] at e; exact hk e

theorem HasFx_putT {E : Env} {g : Bool} {ops : Array Oper} {o : Oper} {d : Option Tmp} (h : Free ops o d) (s : St) (u : Value) (e : Fx) :
    HasFx E g ops o { s with t := putT s.t d u } e ↔ HasFx E g ops o s e := by
  unfold HasFx
  simp only [wantedF_putT h]
  split
  · cases hk : kdo g ops o <;> simp only
    · simp only [Yields_putT (E := E) (kdo_bad hk (by decide)) h]
    · simp only [loadOf_putT (E := E) (kdo_bad hk (by decide)) h]
    · simp only [allocOf_putT h]
    · simp only [StoreOf_putT h]
    · simp only [StoreOf_putT h]
  · rfl

/-- Which kind an effect is of. -/
theorem HasFx.kind {E : Env} {g : Bool} {ops : Array Oper} {o : Oper} {s : St} {e : Fx} (h : HasFx E g ops o s e) :
    match e with
    | .val _ => True
    | .new _ => kdo g ops o = .a
    | .sto b _ => kdo g ops o = .s ∨ (kdo g ops o = .n ∧ s.nw b = true) := by
  unfold HasFx at h
  split at h
  · cases hk : kdo g ops o <;> simp only [hk] at h
    · obtain ⟨v, _, rfl⟩ := h; trivial
    · obtain ⟨v, _, rfl⟩ := h; trivial
    · obtain ⟨v, _, rfl⟩ := h; rfl
    · obtain ⟨b, y, _, rfl⟩ := h; exact .inl rfl
    · obtain ⟨b, y, _, hn, rfl⟩ := h; exact .inr ⟨rfl, hn⟩
  · subst h; trivial
theorem HasFx.own {E : Env} {g : Bool} {ops : Array Oper} {o : Oper} {s : St} {b : Nat} {y : TypeId × Array Value} (h : HasFx E g ops o s (.sto b y)) : ∃ z, s.own b = some z := by
  have key : ∀ b' y', StoreOf E s o b' y' → Fx.sto b y = .sto b' y' → ∃ z, s.own b = some z := fun b' y' h e => by
    cases e
    unfold StoreOf at h
    split at h
    · obtain ⟨_, _, _, _, _, h2, _⟩ := h; exact ⟨_, h2⟩
    · exact h.elim
  unfold HasFx at h
  split at h
  · cases hk : kdo g ops o <;> simp only [hk] at h
    · obtain ⟨v, _, e⟩ := h; cases e
    · obtain ⟨v, _, e⟩ := h; cases e
    · obtain ⟨v, _, e⟩ := h; cases e
    · obtain ⟨b', y', h1, e⟩ := h; exact key b' y' h1 e
    · obtain ⟨b', y', h1, _, e⟩ := h; exact key b' y' h1 e
  · cases h

theorem HasFx.storeS {E : Env} {g : Bool} {ops : Array Oper} {o : Oper} {s : St} {b : Nat} {y : TypeId × Array Value} (h : HasFx E g ops o s (.sto b y)) (hk : kdo g ops o = .s) : ∃ y, StoreOf E s o b y := by
  unfold HasFx at h
  split at h
  · simp only [hk] at h
    obtain ⟨b', y', h1, e⟩ := h
    cases e; exact ⟨_, h1⟩
  · cases h
/-- What x does takes nothing from y. -/
theorem Indep.fwd {E : Env} {ops : Array Oper} {ps : List (Nat × Nat)} {x y : Oper} (hI : Indep ops ps x y) {s s1 : St} (hsep : Sep ps s.t) {e : Fx} (hx : HasFx E true ops x s e) (hd : Do E true x s e s1) {e' : Fx} (hy : HasFx E true ops y s e') : HasFx E true ops y s1 e' := by
  have hcl := hI.cl
  have hkx := hx.kind
  cases e with
  | val v => simp only [Do] at hd; subst hd; exact (HasFx_putT hI.f1 s v e').2 hy
  | new z =>
    obtain ⟨r, hr, hn, rfl⟩ := hd
    rw [show ({ t := putT s.t x.dst (.pointer (some ⟨r, 0, none⟩)), own := upd s.own r (some z), nw := if true then upd s.nw r true else s.nw } : St) =
      { ({ s with own := upd s.own r (some z), nw := upd s.nw r true } : St) with t := putT ({ s with own := upd s.own r (some z), nw := upd s.nw r true } : St).t x.dst (.pointer (some ⟨r, 0, none⟩)) } from rfl]
    rw [HasFx_putT hI.f1]
    unfold HasFx at *
    split at hy
    · rename_i hw
      rw [if_pos hw]
      cases hk : kdo true ops y <;> simp only [hk] at hy ⊢
      · exact hy
      · simpa only [loadOf_new hr hn] using hy
      · exact hy
      · simp only [hkx, hk] at hcl; simp [clashK, Kd.mem] at hcl
      · obtain ⟨b, y', h1, h2, rfl⟩ := hy
        obtain ⟨hne, h3⟩ := StoreOf_new hn z y h1
        exact ⟨b, y', h3, by show upd s.nw r true b = true; rw [upd_ne _ _ hne]; exact h2, rfl⟩
    · rename_i hw; rw [if_neg hw]; exact hy
  | sto b z =>
    have hown := hx.own
    have hxs := fun hk => hx.storeS hk
    simp only [Do] at hd; subst hd
    rw [show ({ s with t := putT s.t x.dst undef, own := upd s.own b (some z) } : St) = { ({ s with own := upd s.own b (some z) } : St) with t := putT ({ s with own := upd s.own b (some z) } : St).t x.dst undef } from rfl]
    rw [HasFx_putT hI.f1]
    unfold HasFx at *
    split at hy
    · rename_i hw
      rw [if_pos hw]
      cases hk : kdo true ops y <;> simp only [hk] at hy ⊢
      · exact hy
      · rcases hkx with hkx | ⟨hkx, hnw⟩
        · obtain ⟨y0, hst⟩ := hxs hkx
          simpa only [loadOf_sep hsep (hI.sl hkx hk) hst] using hy
        · obtain ⟨z', hz'⟩ := hown
          simpa only [loadOf_sto hz' hnw] using hy
      · exact hy
      · rcases hkx with hkx | ⟨hkx, hnw⟩ <;> (simp only [hkx, hk] at hcl; simp [clashK, Kd.mem] at hcl)
      · rcases hkx with hkx | ⟨hkx, hnw⟩ <;> (simp only [hkx, hk] at hcl; simp [clashK, Kd.mem] at hcl)
    · rename_i hw; rw [if_neg hw]; exact hy

def Fin (s : St) : Prop := ∃ m, ∀ b, m ≤ b → s.own b = none

theorem Do.some {E : Env} {g : Bool} {o : Oper} {s : St} (hf : Fin s) (e : Fx) (k : Nat) : ∃ s', Do E g o s e s' ∧ ∀ b, b ≤ k → (match e with | .new _ => s'.own b = s.own b | _ => True) := by
  cases e with
  | val v => exact ⟨_, rfl, fun _ _ => trivial⟩
  | new x =>
    obtain ⟨m, hm⟩ := hf
    refine ⟨_, ⟨max m (max E.base (k + 1)), by omega, hm _ (by omega), rfl⟩, fun b hb => ?_⟩
    show upd s.own _ _ b = s.own b
    rw [upd_ne _ _ (by omega)]
  | sto b y => exact ⟨_, rfl, fun _ _ => trivial⟩

/-- What y can do behind x it can do ahead of it. -/
theorem Indep.back {E : Env} {ops : Array Oper} {ps : List (Nat × Nat)} {x y : Oper} (hI : Indep ops ps x y) {s : St} (hf : Fin s) (hsep : Sep ps s.t) {e : Fx} (hx : HasFx E true ops x s e) (h : ∀ s1, Do E true x s e s1 → ∃ e', HasFx E true ops y s1 e') : ∃ e', HasFx E true ops y s e' := by
  have hcl := hI.cl
  have hkx := hx.kind
  have hown := fun b z (he : e = .sto b z) => HasFx.own (by rw [← he]; exact hx)
  cases e with
  | val v =>
    obtain ⟨e', he'⟩ := h _ rfl
    exact ⟨e', (HasFx_putT hI.f1 s v e').1 he'⟩
  | new z =>
    -- the block that y's address names
    let k : Nat := match y.op with | .store _ p _ => (match rd s.t p with | .pointer (some a) => a.block | _ => 0) | _ => 0
    obtain ⟨s1, hd, hk1⟩ := Do.some (E := E) (g := true) (o := x) hf (.new z) k
    obtain ⟨e', he'⟩ := h s1 hd
    obtain ⟨r, hr, hn, rfl⟩ := hd
    rw [show ({ t := putT s.t x.dst (.pointer (some ⟨r, 0, none⟩)), own := upd s.own r (some z), nw := if true then upd s.nw r true else s.nw } : St) =
      { ({ s with own := upd s.own r (some z), nw := upd s.nw r true } : St) with t := putT ({ s with own := upd s.own r (some z), nw := upd s.nw r true } : St).t x.dst (.pointer (some ⟨r, 0, none⟩)) } from rfl] at he'
    rw [HasFx_putT hI.f1] at he'
    refine ⟨e', ?_⟩
    unfold HasFx at *
    split at he'
    · rename_i hw
      have hw' : Region.wanted y (yieldedF ops s.t) = true := hw
      rw [if_pos hw']
      cases hk : kdo true ops y <;> simp only [hk] at he' ⊢
      · exact he'
      · simpa only [loadOf_new hr hn] using he'
      · exact he'
      · simp only [hkx, hk] at hcl; simp [clashK, Kd.mem] at hcl
      · obtain ⟨b, y', h1, h2, rfl⟩ := he'
        have hop := kdo_n hk
        unfold StoreOf at h1
        split at h1
        · rename_i ty p v ho
          obtain ⟨off, T, cs, i, g1, g2, g3⟩ := h1
          have hbk : b ≤ k := by
            show b ≤ (match y.op with | .store _ p _ => (match rd s.t p with | .pointer (some a) => a.block | _ => 0) | _ => 0)
            simp only [ho]
            have g1' : rd s.t p = .pointer (some ⟨b, off, none⟩) := g1
            simp only [g1', Nat.le_refl]
          have g4 : upd s.own r (some z) b = s.own b := hk1 b hbk
          have g5 : s.own b = some (T, cs) := by rw [← g4]; exact g2
          have hne : b ≠ r := by intro e; subst e; rw [hn] at g5; cases g5
          refine ⟨b, y', ?_, ?_, rfl⟩
          · unfold StoreOf; simp only [ho]; exact ⟨off, T, cs, i, g1, g5, g3⟩
          · have : upd s.nw r true b = true := h2
            rwa [upd_ne _ _ hne] at this
        · exact h1.elim
    · rename_i hw
      have hw' : ¬ Region.wanted y (yieldedF ops s.t) = true := hw
      rw [if_neg hw']; exact he'
  | sto b z =>
    obtain ⟨z', hz'⟩ := hown b z rfl
    have hxs := fun hk => hx.storeS hk
    obtain ⟨e', he'⟩ := h _ rfl
    rw [show ({ s with t := putT s.t x.dst undef, own := upd s.own b (some z) } : St) = { ({ s with own := upd s.own b (some z) } : St) with t := putT ({ s with own := upd s.own b (some z) } : St).t x.dst undef } from rfl] at he'
    rw [HasFx_putT hI.f1] at he'
    refine ⟨e', ?_⟩
    unfold HasFx at *
    split at he'
    · rename_i hw
      have hw' : Region.wanted y (yieldedF ops s.t) = true := hw
      rw [if_pos hw']
      cases hk : kdo true ops y <;> simp only [hk] at he' ⊢
      · exact he'
      · rcases hkx with hkx | ⟨hkx, hnw⟩
        · obtain ⟨y0, hst⟩ := hxs hkx
          simpa only [loadOf_sep hsep (hI.sl hkx hk) hst] using he'
        · simpa only [loadOf_sto hz' hnw] using he'
      · exact he'
      · rcases hkx with hkx | ⟨hkx, hnw⟩ <;> (simp only [hkx, hk] at hcl; simp [clashK, Kd.mem] at hcl)
      · rcases hkx with hkx | ⟨hkx, hnw⟩ <;> (simp only [hkx, hk] at hcl; simp [clashK, Kd.mem] at hcl)
    · rename_i hw
      have hw' : ¬ Region.wanted y (yieldedF ops s.t) = true := hw
      rw [if_neg hw']; exact he'

theorem Fin.next {E : Env} {g : Bool} {ops : Array Oper} {o : Oper} {s s' : St} (hf : Fin s) (h : NxW E g ops o s s') : Fin s' := by
  obtain ⟨m, hm⟩ := hf
  obtain ⟨e, hx, hd⟩ := h
  cases e with
  | val v => simp only [Do] at hd; subst hd; exact ⟨m, hm⟩
  | new x =>
    obtain ⟨r, _, _, rfl⟩ := hd
    refine ⟨max m (r + 1), fun b hb => ?_⟩
    show upd s.own r _ b = none
    rw [upd_ne _ _ (by omega)]; exact hm b (by omega)
  | sto b y =>
    obtain ⟨z, hz⟩ := hx.own
    simp only [Do] at hd; subst hd
    refine ⟨m, fun b' hb' => ?_⟩
    have : b' ≠ b := by intro e; subst e; rw [hm _ hb'] at hz; cases hz
    show upd s.own b _ b' = none
    rw [upd_ne _ _ this]; exact hm b' hb'

/-- The slots of ps are not written. -/
def psOk (ops : Array Oper) (ps : List (Nat × Nat)) : Bool := ps.all fun pq => ops.toList.all fun x => x.dst != some pq.1 && x.dst != some pq.2
theorem Sep.next {E : Env} {g : Bool} {ops : Array Oper} {ps : List (Nat × Nat)} {o : Oper} {s s' : St} (hp : psOk ops ps = true) (ho : o ∈ ops.toList) (hs : Sep ps s.t) (h : NxW E g ops o s s') : Sep ps s'.t := by
  obtain ⟨e, hx, hd⟩ := h
  have key : ∀ v, Sep ps (putT s.t o.dst v) := by
    intro v pq hpq
    simp only [psOk, List.all_eq_true, Bool.and_eq_true, bne_iff_ne, ne_eq] at hp
    obtain ⟨h1, h2⟩ := hp pq hpq o ho
    have e1 : putT s.t o.dst v pq.1 = s.t pq.1 := by
      cases hdst : o.dst with
      | none => rfl
      | some k => rw [hdst] at h1; exact upd_ne _ _ (fun e => h1 (by rw [e]))
    have e2 : putT s.t o.dst v pq.2 = s.t pq.2 := by
      cases hdst : o.dst with
      | none => rfl
      | some k => rw [hdst] at h2; exact upd_ne _ _ (fun e => h2 (by rw [e]))
    rw [e1, e2]; exact hs pq hpq
  cases e with
  | val v => simp only [Do] at hd; subst hd; exact key v
  | new x => obtain ⟨r, _, _, rfl⟩ := hd; exact key _
  | sto b y => simp only [Do] at hd; subst hd; exact key _

/-- Two steps the other way round. -/
theorem Indep.square {E : Env} {ops : Array Oper} {ps : List (Nat × Nat)} {x y : Oper} (hI : Indep ops ps x y) {s s1 s2 : St} {ex ey : Fx} (hx : HasFx E true ops x s ex) (hy : HasFx E true ops y s ey)
    (h1 : Do E true y s ey s1) (h2 : Do E true x s1 ex s2) : ∃ s1', Do E true x s ex s1' ∧ Do E true y s1' ey s2 := by
  have hcl := hI.cl
  have kx := hx.kind
  have ky := hy.kind
  have ox := fun b z (he : ex = .sto b z) => HasFx.own (by rw [← he]; exact hx)
  have oy := fun b z (he : ey = .sto b z) => HasFx.own (by rw [← he]; exact hy)
  have pc := fun v u => putT_comm s.t v u hI.ne
  cases ex with
  | val v =>
    cases ey with
    | val u => simp only [Do] at *; subst h1; subst h2; exact ⟨_, rfl, by simp [pc]⟩
    | new z =>
      obtain ⟨r, hr, hn, rfl⟩ := h1
      simp only [Do] at h2; subst h2
      exact ⟨_, rfl, r, hr, hn, by simp [pc]⟩
    | sto b z => simp only [Do] at *; subst h1; subst h2; exact ⟨_, rfl, by simp [pc]⟩
  | new z =>
    cases ey with
    | val u =>
      simp only [Do] at h1; subst h1
      obtain ⟨r, hr, hn, rfl⟩ := h2
      exact ⟨_, ⟨r, hr, hn, rfl⟩, by simp [Do, pc]⟩
    | new z' =>
      obtain ⟨r', hr', hn', rfl⟩ := h1
      obtain ⟨r, hr, hn, rfl⟩ := h2
      have hne : r ≠ r' := by intro e; subst e; simp [upd_same] at hn
      simp only [upd_ne _ _ hne] at hn
      refine ⟨_, ⟨r, hr, hn, rfl⟩, r', hr', ?_, ?_⟩
      · show upd s.own r _ r' = none
        rw [upd_ne _ _ hne.symm]; exact hn'
      · simp only [if_true, pc, St.mk.injEq, true_and]
        exact ⟨upd_comm _ _ _ hne.symm, upd_comm _ _ _ hne.symm⟩
    | sto b y =>
      obtain ⟨w, hw⟩ := oy b y rfl
      simp only [Do] at h1; subst h1
      obtain ⟨r, hr, hn, rfl⟩ := h2
      have hne : r ≠ b := by intro e; subst e; simp [upd_same] at hn
      simp only [upd_ne _ _ hne] at hn
      refine ⟨_, ⟨r, hr, hn, rfl⟩, ?_⟩
      simp only [Do, pc, St.mk.injEq, true_and, and_true]
      exact upd_comm _ _ _ hne.symm
  | sto b z =>
    obtain ⟨w, hw⟩ := ox b z rfl
    cases ey with
    | val u => simp only [Do] at *; subst h1; subst h2; exact ⟨_, rfl, by simp [pc]⟩
    | new z' =>
      obtain ⟨r, hr, hn, rfl⟩ := h1
      simp only [Do] at h2; subst h2
      have hne : b ≠ r := by intro e; subst e; rw [hn] at hw; cases hw
      refine ⟨_, rfl, r, hr, ?_, ?_⟩
      · show upd s.own b _ r = none
        rw [upd_ne _ _ hne.symm]; exact hn
      · simp only [pc, St.mk.injEq, true_and, and_true]
        exact upd_comm _ _ _ hne.symm
    | sto b' z' =>
      rcases kx with kx | ⟨kx, _⟩ <;> rcases ky with ky | ⟨ky, _⟩ <;> (simp only [kx, ky] at hcl; simp [clashK, Kd.mem] at hcl)

theorem diamond {E : Env} {ops : Array Oper} {ps : List (Nat × Nat)} {x y : Oper} (hI : Indep ops ps x y) {s : St} {K : St → Prop} (hf : Fin s) (hp : psOk ops ps = true) (hyo : y ∈ ops.toList) (hsep : Sep ps s.t) (hx : OkW E true ops x s)
    (h : ∀ s1, NxW E true ops x s s1 → OkW E true ops y s1 ∧ ∀ s2, NxW E true ops y s1 s2 → K s2) :
    OkW E true ops y s ∧ ∀ s1, NxW E true ops y s s1 → OkW E true ops x s1 ∧ ∀ s2, NxW E true ops x s1 s2 → K s2 := by
  obtain ⟨dx, ex, hex⟩ := hx
  obtain ⟨ey, hey⟩ := hI.back hf hsep hex (fun s1 h1 => (h s1 ⟨ex, hex, h1⟩).1.2)
  obtain ⟨s0, hs0, _⟩ := Do.some (E := E) (g := true) (o := x) hf ex 0
  refine ⟨⟨(h s0 ⟨ex, hex, hs0⟩).1.1, ey, hey⟩, fun s1 h1 => ?_⟩
  have hsep1 := hsep.next hp hyo h1
  obtain ⟨ey', hy', hd'⟩ := h1
  have hx1 := hI.symm.fwd hsep hy' hd' hex
  refine ⟨⟨dx, ex, hx1⟩, fun s2 h2 => ?_⟩
  obtain ⟨ex', hx', hdx'⟩ := h2
  obtain rfl := hx'.unique hx1
  obtain ⟨s3, h3, h4⟩ := hI.square hex hy' hd' hdx'
  exact (h s3 ⟨ex', hex, h3⟩).2 s2 ⟨ey', hI.fwd hsep hex h3 hy', h4⟩

/-! ### Whatever order -/
def anyK (E : Env) (ops : Array Oper) (Q : St → Prop) : Nat → Array Bool → St → Prop
  | 0, listed, s => Region.ready .any ops listed = [] ∧ Q s
  | n + 1, listed, s => (Region.ready .any ops listed = [] → Q s) ∧
    ∀ i ∈ Region.ready .any ops listed, ∀ o, ops[i]? = some o → OkW E true ops o s ∧ ∀ s', NxW E true ops o s s' → anyK E ops Q n (listed.setIfInBounds i true) s'

theorem anyK_first {E : Env} {ops : Array Oper} {ps : List (Nat × Nat)} {Q : St → Prop} (hp : psOk ops ps = true) {i : Nat} {oi : Oper} (hi : ops[i]? = some oi) :
    ∀ (n : Nat) (listed : Array Bool) (s : St), Fin s → Sep ps s.t →
      (∀ j oj, ops[j]? = some oj → j ≠ i → listed.getD j true = false → (∀ e ∈ oj.after, Region.binds .any e = true → e.on ≠ i) → Indep ops ps oi oj) →
      i ∈ Region.ready .any ops listed → OkW E true ops oi s →
      (∀ s', NxW E true ops oi s s' → anyK E ops Q n (listed.setIfInBounds i true) s') → anyK E ops Q (n + 1) listed s := by
  intro n
  induction n with
  | zero =>
    intro listed s hf _ _ hr ho H
    refine ⟨fun h => (by rw [h] at hr; cases hr), fun j hj oj hoj => ?_⟩
    by_cases hji : j = i
    · subst hji; rw [hi] at hoj; cases hoj; exact ⟨ho, H⟩
    · obtain ⟨_, e, he⟩ := ho
      obtain ⟨s', hs', _⟩ := Do.some (E := E) (g := true) (o := oi) hf e 0
      have := ready_mono hj hji
      rw [(H s' ⟨e, he, hs'⟩).1] at this
      cases this
  | succ n ih =>
    intro listed s hf hsep hfree hr ho H
    refine ⟨fun h => (by rw [h] at hr; cases hr), fun j hj oj hoj => ?_⟩
    by_cases hji : j = i
    · subst hji; rw [hi] at hoj; cases hoj; exact ⟨ho, H⟩
    · obtain ⟨hjun, oj', hoj', hall⟩ := mem_ready.1 hj
      rw [hoj] at hoj'; cases hoj'
      have hnot : ∀ e ∈ oj.after, Region.binds .any e = true → e.on ≠ i := fun e he hb heq => by
        have h1 := hall e he hb
        have h0 := (mem_ready.1 hr).1
        rw [heq] at h1
        rcases Nat.lt_or_ge i listed.size with h' | h'
        · simp [h'] at h0 h1; rw [h0] at h1; cases h1
        · simp [Array.getElem?_eq_none h'] at h1
      have hI := hfree j oj hoj hji hjun hnot
      have hd := diamond (K := anyK E ops Q n ((listed.setIfInBounds i true).setIfInBounds j true)) hI hf hp (by have := Array.mem_of_getElem? hoj; simpa using this) hsep ho (fun s1 h1 => (H s1 h1).2 j (ready_mono hj hji) oj hoj)
      refine ⟨hd.1, fun s1 h1 => ?_⟩
      refine ih (listed.setIfInBounds j true) s1 (hf.next h1) (hsep.next hp (by have := Array.mem_of_getElem? hoj; simpa using this) h1) ?_ (ready_mono hr (Ne.symm hji)) (hd.2 s1 h1).1 (fun s2 h2 => ?_)
      · intro k ok hk hki hun hno
        refine hfree k ok hk hki ?_ hno
        by_cases hjk : j = k
        · subst hjk; exact hjun
        · rw [getD_set_ne true hjk] at hun; exact hun
      · rw [Array.setIfInBounds_comm _ _ hji]
        exact (hd.2 s1 h1).2 s2 h2

def indepB (ops : Array Oper) (ps : List (Nat × Nat)) (x y : Oper) : Bool := x.apart ops y && !clash ops ps x y
theorem Indep.of_B {ops : Array Oper} {ps : List (Nat × Nat)} {x y : Oper} (h : indepB ops ps x y = true) : Indep ops ps x y := by
  simp only [indepB, Bool.and_eq_true, Bool.not_eq_true'] at h
  obtain ⟨h1, h2, h3⟩ := Oper.apart_spec h.1
  have hc := h.2
  refine ⟨fun k hk => h1 k hk, fun k hk => h3 k hk, fun k hk => h2 k hk, ?_, fun a b => ?_, fun a b => ?_⟩
  · unfold clash at hc
    split at hc
    · rename_i a b; exact .inl ⟨a, b⟩
    · rename_i a b; exact .inr (.inl ⟨a, b⟩)
    · exact .inr (.inr hc)
  · simp only [clash, a, b, Bool.not_eq_false'] at hc; exact hc
  · simp only [clash, a, b, Bool.not_eq_false'] at hc; exact hc

def freeB (ops : Array Oper) (ps : List (Nat × Nat)) (listed : Array Bool) (i : Nat) : Bool :=
  match ops[i]? with
  | none => false
  | some oi => (List.range ops.size).all fun j => j == i || listed.getD j true || (match ops[j]? with
      | some oj => oj.after.any (fun e => Region.binds .any e && e.on == i) || indepB ops ps oi oj
      | none => true)

theorem freeB_spec {ops : Array Oper} {ps : List (Nat × Nat)} {i : Nat} {oi : Oper} {listed : Array Bool} (hi : ops[i]? = some oi) (h : freeB ops ps listed i = true) (j : Nat) (oj : Oper)
    (hj : ops[j]? = some oj) (hne : j ≠ i) (hun : listed.getD j true = false) (hno : ∀ e ∈ oj.after, Region.binds .any e = true → e.on ≠ i) : Indep ops ps oi oj := by
  simp only [freeB, hi, List.all_eq_true, List.mem_range, Bool.or_eq_true, beq_iff_eq] at h
  have hlt : j < ops.size := by
    rcases Nat.lt_or_ge j ops.size with h' | h'
    · exact h'
    · rw [Array.getElem?_eq_none h'] at hj; cases hj
  rcases h j hlt with (h1 | h1) | h1
  · exact absurd h1 hne
  · rw [hun] at h1; cases h1
  · simp only [hj, Bool.or_eq_true, Array.any_eq_true, Bool.and_eq_true, beq_iff_eq] at h1
    rcases h1 with ⟨k, hk, hb, ho⟩ | h1
    · exact absurd ho (hno _ (Array.getElem_mem hk) hb)
    · exact Indep.of_B h1

def lexFromB (ops : Array Oper) (ps : List (Nat × Nat)) : Nat → Nat → Array Bool → Bool
  | 0, _, listed => (Region.ready .any ops listed).isEmpty
  | n + 1, k, listed => (Region.ready .any ops listed).contains k && freeB ops ps listed k && lexFromB ops ps n (k + 1) (listed.setIfInBounds k true)
def lexOk (ops : Array Oper) (ps : List (Nat × Nat)) : Bool := psOk ops ps && lexFromB ops ps ops.size 0 (Array.replicate ops.size false)

theorem anyK_lex {E : Env} {ops : Array Oper} {ps : List (Nat × Nat)} {Q : St → Prop} (hp : psOk ops ps = true) : ∀ (l : List Oper) (k : Nat) (listed : Array Bool) (s : St), Fin s → Sep ps s.t → (∀ j, l[j]? = ops[k + j]?) →
    lexFromB ops ps l.length k listed = true → lexK E true ops Q l s → anyK E ops Q l.length listed s
  | [], _, _, _, _, _, _, hB, h => ⟨by simpa [lexFromB] using hB, h⟩
  | o :: l, k, listed, s, hf, hsep, hl, hB, h => by
    have h0 : ops[k]? = some o := by simpa using (hl 0).symm
    simp only [List.length_cons, lexFromB, Bool.and_eq_true] at hB
    obtain ⟨⟨hr, hfr⟩, hB'⟩ := hB
    refine anyK_first hp h0 l.length listed s hf hsep (freeB_spec h0 hfr) (by simpa using hr) h.1 (fun s' hs' => ?_)
    exact anyK_lex hp l (k + 1) _ _ (hf.next hs') (hsep.next hp (by have := Array.mem_of_getElem? h0; simpa using this) hs') (fun j => by have := hl (j + 1); simpa [Nat.add_assoc, Nat.add_comm 1 j] using this) hB' (h.2 s' hs')

/-! ### The world behind it -/
structure Sim (E : Env) (w0 : World) (s : St) (a : Act) (w : World) : Prop where
  dfr : a.defers = []
  sz : a.tmps.size = E.n
  tm : ∀ k, a.tmps.getD k undef = s.t k
  bel : Below E.base w0 w
  bs : E.base ≤ w.heap.size
  ro : ∀ p v, E.ro p = some v → p.block < E.base ∧ w.cell? p = some v
  own : ∀ b T cs, s.own b = some (T, cs) → E.base ≤ b ∧ w.heap[b]? = some (.cells cs T (0, 0))

theorem Sim.fin {E : Env} {w0 w : World} {s : St} {a : Act} (h : Sim E w0 s a w) : Fin s :=
  ⟨w.heap.size, fun b hb => by
    cases ho : s.own b with
    | none => rfl
    | some x => have := (h.own b x.1 x.2 ho).2; rw [Array.getElem?_eq_none hb] at this; cases this⟩

theorem Sim.eval {E : Env} {w0 w : World} {s : St} {a : Act} (h : Sim E w0 s a w) : a.eval = rd s.t := by
  funext x
  cases x with
  | tmp k => exact h.tm k
  | _ => rfl

theorem Sim.put {E : Env} {w0 w : World} {s : St} {a : Act} (h : Sim E w0 s a w) {d : Option Tmp} (hd : ∀ k, d = some k → k < E.n) (v : Value) :
    Sim E w0 { s with t := putT s.t d v } (a.put d v) w := by
  cases d with
  | none => exact h
  | some k =>
    have hk := hd k rfl
    refine ⟨h.dfr, by simp [Act.put, h.sz], fun j => ?_, h.bel, h.bs, h.ro, h.own⟩
    show (a.tmps.setIfInBounds k v).getD j undef = upd s.t k v j
    by_cases hj : j = k
    · subst hj
      have : j < a.tmps.size := by rw [h.sz]; exact hk
      simp [upd_same, this]
    · rw [upd_ne _ _ hj, ← h.tm j]
      simp [Array.getElem?_setIfInBounds_ne (Ne.symm hj)]

theorem Sim.wanted {E : Env} {w0 w : World} {s : St} {a : Act} (h : Sim E w0 s a w) (ops : Array Oper) (o : Oper) :
    Region.wanted o (yielded ops a.tmps) = Region.wanted o (yieldedF ops s.t) := by
  have : yielded ops a.tmps = yieldedF ops s.t := by
    funext j
    unfold yielded yieldedF
    cases (ops[j]?).bind (·.dst) with
    | none => rfl
    | some d =>
      have ht := h.tm d
      simp only [Option.bind_some, Option.map_some]
      cases hd : a.tmps[d]? with
      | none =>
        have : s.t d = undef := by rw [← ht]; simp [hd]
        rw [this]; rfl
      | some v =>
        have : s.t d = v := by rw [← ht]; simp [hd]
        rw [this]
        cases v <;> rfl
  rw [this]

theorem Sim.below {E : Env} {w0 w w' : World} {s : St} {a : Act} (h : Sim E w0 s a w) (hb : Below w.heap.size w w') : Sim E w0 s a w' := by
  refine ⟨h.dfr, h.sz, h.tm, h.bel.trans (hb.mono h.bs), Nat.le_trans h.bs hb.size, fun p v hp => ?_, fun b T cs ho => ?_⟩
  · obtain ⟨h1, h2⟩ := h.ro p v hp
    exact ⟨h1, by rw [hb.cell (p := p) (Nat.lt_of_lt_of_le h1 h.bs)]; exact h2⟩
  · obtain ⟨h1, h2⟩ := h.own b T cs ho
    have hlt : b < w.heap.size := by
      rcases Nat.lt_or_ge b w.heap.size with h' | h'
      · exact h'
      · rw [Array.getElem?_eq_none h'] at h2; cases h2
    exact ⟨h1, by rw [hb.block b hlt]; exact h2⟩

theorem Sim.draw {E : Env} {w0 w : World} {s : St} {a : Act} (h : Sim E w0 s a w) : Sim E w0 s a { w with drawn := w.drawn + 1 } :=
  ⟨h.dfr, h.sz, h.tm, h.bel.drew, h.bs, h.ro, h.own⟩

theorem run_isAgg {P : Program} {w : World} {ty : TypeId} {d : TypeDesc} (h : P.underlying ty = some d) :
    (isAgg ty).run P w = .ok (match d with | .struct _ | .array _ _ => true | _ => false) w := by
  unfold isAgg
  simp only [Sem.run_bind, run_underlying h, Result.andThen_ok]
  cases d <;> rfl

theorem run_sizeOf {P : Program} {w : World} {ty : TypeId} {i : TypeInfo} (h : P.info? ty = some i) : (sizeOf ty).run P w = .ok i.size w := by
  simp [sizeOf, typeInfo, program, h, Sem.run, bind, Sem.bind, pure]

theorem splice_eq {cs : Array Value} {off : Nat} {vs : Array Value} (h : off + vs.size ≤ cs.size) : splice cs off vs = (cs.toList.take off ++ vs.toList ++ cs.toList.drop (off + vs.size)).toArray := by
  unfold splice
  split
  · rename_i h0
    obtain ⟨rfl, h1⟩ := h0
    have : cs.toList.drop vs.size = [] := by rw [List.drop_eq_nil_iff]; simp; omega
    simp [this]
  · split
    · rename_i h1
      obtain ⟨l⟩ := vs
      match l, h1 with
      | [x], _ =>
        apply Array.ext'
        simp only [List.size_toArray, List.length_cons, List.length_nil, Nat.zero_add] at h
        simp only [Array.toList_setIfInBounds, List.size_toArray, List.length_cons, List.length_nil, Nat.zero_add]
        rw [List.set_eq_take_append_cons_drop, if_pos (by simp; omega)]
        simp
    · rfl

theorem Sim.cellA {E : Env} {w0 w : World} {s : St} {a : Act} (h : Sim E w0 s a w) : ∀ p v, cellA E s.own s.nw p = some v → w.cell? p = some v := by
  intro p v hp
  unfold Eng.cellA at hp
  split at hp
  · rename_i T cs ho
    split at hp
    · cases hp
    · rename_i hn
      simp only [Bool.or_eq_true, not_or, Bool.not_eq_true] at hn
      have h2 := (h.own _ _ _ ho).2
      simp [World.cell?, h2, hn.2, hp]
  · split at hp
    · exact (h.ro p v hp).2
    · cases hp

theorem Sim.store {E : Env} {w0 w : World} {s : St} {a : Act} (h : Sim E w0 s a w) {o : Oper} {b : Nat} {y : TypeId × Array Value} (hst : StoreOf E s o b y) (hd : ∀ d, o.dst = some d → d < E.n) :
    ∃ w', (execOp (rd s.t) o).run E.P w = .ok .skip w' ∧ Sim E w0 { s with t := putT s.t o.dst undef, own := upd s.own b (some y) } (a.put o.dst undef) w' := by
  unfold StoreOf at hst
  split at hst
  · rename_i ty p x hop
    obtain ⟨off, T, cs, i, hp, hown, hi, hsz, hle, hone, rfl⟩ := hst
    have hbw := h.own b T cs hown
    have hst := run_storeCells_at E.P b off T (rd s.t x).cells.toList 0 cs w hbw.2 (by simpa using hle) (fun v hv => hone v (by simpa using hv))
    have hrun : (execOp (rd s.t) o).run E.P w = .ok .skip (w.setRow b (splice cs off (rd s.t x).cells)) := by
      simp only [execOp, hop, Instr.storeAt, hp, Instr.sureAddr, storeVar, Sem.run_bind, pure, Sem.run, Result.andThen_ok, run_sizeOf hi]
      rw [if_neg (by simpa using hsz)]
      simp only [hst, Result.andThen_ok, splice_eq hle]
      simp
    refine ⟨_, hrun, ?_⟩
    have hb : Below E.base w (w.setRow b (splice cs off (rd s.t x).cells)) := ⟨rfl, rfl, rfl, by simp, fun k hk => setRow_other _ _ _ _ (by omega)⟩
    have h2 := h.put hd undef
    refine ⟨h2.dfr, h2.sz, h2.tm, h2.bel.trans hb, by simpa using h2.bs, fun q v hq => ?_, fun b' T' cs' ho' => ?_⟩
    · obtain ⟨h3, h4⟩ := h2.ro q v hq
      exact ⟨h3, by rw [hb.cell (p := q) h3]; exact h4⟩
    · change upd s.own b (some (T, splice cs off (rd s.t x).cells)) b' = some (T', cs') at ho'
      by_cases hbb : b' = b
      · subst hbb
        rw [upd_same] at ho'
        cases ho'
        exact ⟨hbw.1, setRow_heap _ _ _ _ _ _ hbw.2⟩
      · rw [upd_ne _ _ hbb] at ho'
        refine ⟨(h2.own b' T' cs' ho').1, ?_⟩
        rw [setRow_other _ _ _ _ hbb]
        exact (h2.own b' T' cs' ho').2
  · exact hst.elim

theorem Sim.step {E : Env} {w0 w : World} {s : St} {a : Act} (h : Sim E w0 s a w) {g : Bool} {ops : Array Oper} {o : Oper} {K : Act → World → Prop} {Q : Exit → Act → World → Prop}
    (ho : OkW E g ops o s) (hK : ∀ s' a' w', NxW E g ops o s s' → Sim E w0 s' a' w' → K a' w') :
    if Region.wanted o (yielded ops a.tmps) then o.wp E.P a w K Q ∨ (o.asks E.P a w ∧ LetsOut Q) else K (a.put o.dst undef) w := by
  rw [h.wanted ops o]
  obtain ⟨hd, e, he⟩ := ho
  by_cases hw : Region.wanted o (yieldedF ops s.t) = true
  · rw [if_pos hw]
    left
    have hN : ∀ s' a' w', Do E g o s e s' → Sim E w0 s' a' w' → K a' w' := fun s' a' w' hdo hs => hK s' a' w' ⟨e, he, hdo⟩ hs
    unfold HasFx at he
    rw [if_pos hw] at he
    unfold Oper.wp
    rw [h.eval]
    cases hk : kdo g ops o with
    | f =>
      simp only [hk] at he
      obtain ⟨v, hy, rfl⟩ := he
      rcases hy with hy | ⟨f, args, hy, hp⟩
      · rw [ev_run (fun p v hp => (h.ro p v hp).2) _ _ hy, Oper.upon_value]
        exact hN _ _ _ rfl (h.put hd v)
      · rw [ev_run (fun p v hp => (h.ro p v hp).2) _ _ hy, Oper.upon_enter]
        refine (hp w).mono fun e w' he => ?_
        obtain ⟨rfl, hb⟩ := he
        exact hN _ _ _ rfl ((h.below hb).put hd v)
    | l =>
      simp only [hk] at he
      obtain ⟨v, hl, rfl⟩ := he
      unfold loadOf at hl
      split at hl
      · rename_i v' hev
        cases hl
        rw [ev_run h.cellA _ _ hev, Oper.upon_value]
        exact hN _ _ _ rfl (h.put hd v)
      · cases hl
    | a =>
      simp only [hk] at he
      obtain ⟨x, hx, rfl⟩ := he
      have hrun : (execOp (rd s.t) o).run E.P w = .ok (.value (.pointer (some ⟨w.heap.size, 0, none⟩))) { w with heap := w.heap.push (.cells x.2 x.1 (0, 0)) } := by
        unfold allocOf at hx
        split at hx
        · rename_i e hop
          cases hi : E.P.info? e with
          | none => simp [hi] at hx
          | some i =>
            simp only [hi, Option.bind_some, Option.map_eq_some_iff] at hx
            obtain ⟨z, hz, rfl⟩ := hx
            simp [execOp, hop, Instr.alloc, zeroValue, typeInfo, program, hi, hz, newVar, newRow, newObj, Sem.run, bind, Sem.bind, pure]
        · rename_i e y hop
          simp only [Option.some.injEq] at hx
          subst hx
          simp [execOp, hop, Instr.box, newVar, newRow, newObj, Sem.run, bind, Sem.bind, pure]
        · cases hx
      rw [hrun, Oper.upon_value]
      have hfr : s.own w.heap.size = none := by
        cases hq : s.own w.heap.size with
        | none => rfl
        | some y => have := (h.own _ y.1 y.2 hq).2; simp at this
      refine hN _ _ _ ⟨w.heap.size, h.bs, hfr, rfl⟩ ?_
      have hb : Below w.heap.size w { w with heap := w.heap.push (.cells x.2 x.1 (0, 0)) } := ⟨rfl, rfl, rfl, by simp, fun k hk => by
        show (w.heap.push _)[k]? = _
        rw [Array.getElem?_push, if_neg (by omega)]⟩
      have h2 := (h.below hb).put hd (.pointer (some ⟨w.heap.size, 0, none⟩))
      refine ⟨h2.dfr, h2.sz, h2.tm, h2.bel, h2.bs, h2.ro, fun b T cs hown => ?_⟩
      change upd s.own w.heap.size (some x) b = some (T, cs) at hown
      by_cases hbr : b = w.heap.size
      · subst hbr
        rw [upd_same] at hown
        cases hown
        exact ⟨h.bs, by simp⟩
      · rw [upd_ne _ _ hbr] at hown
        exact h2.own b T cs hown
    | s =>
      simp only [hk] at he
      obtain ⟨b, y, hst, rfl⟩ := he
      obtain ⟨w', hrun, hsim⟩ := h.store hst hd
      rw [hrun]
      show o.upon E.P a K Q (.ok .skip _)
      rw [Oper.upon_skip]
      exact hN _ _ _ rfl hsim
    | n =>
      simp only [hk] at he
      obtain ⟨b, y, hst, _, rfl⟩ := he
      obtain ⟨w', hrun, hsim⟩ := h.store hst hd
      rw [hrun]
      show o.upon E.P a K Q (.ok .skip _)
      rw [Oper.upon_skip]
      exact hN _ _ _ rfl hsim
    | bad => simp only [hk] at he
  · rw [if_neg hw]
    refine hK _ _ _ ⟨.val undef, ?_, rfl⟩ (h.put hd undef)
    unfold HasFx
    rw [if_neg hw]

theorem Sim.list {E : Env} {w0 : World} {g : Bool} {ops : Array Oper} {Q : St → Prop} {Q' : Exit → Act → World → Prop} (hQ : ∀ s a w, Q s → Sim E w0 s a w → Q' .normal a w) :
    ∀ (l : List Oper) (s : St) (a : Act) (w : World), Sim E w0 s a w → lexK E g ops Q l s → wpList E.P ops Q' l a w
  | [], _, _, _, h, hl => hQ _ _ _ hl h
  | _ :: l, _, _, _, h, hl => h.step (g := g) hl.1 (fun s' a' w' hn hs => Sim.list hQ l s' a' w' hs (hl.2 s' hn))

theorem Sim.any {E : Env} {w0 : World} {ops : Array Oper} {Q : St → Prop} {Q' : Exit → Act → World → Prop} (hQ : ∀ s a w, Q s → Sim E w0 s a w → Q' .normal a w) :
    ∀ (n : Nat) (listed : Array Bool) (s : St) (a : Act) (w : World), Sim E w0 s a w → anyK E ops Q n listed s → wpAny E.P .any ops Q' n listed a w
  | 0, _, _, _, _, h, hl => ⟨hl.1, hQ _ _ _ hl.2 h⟩
  | n + 1, listed, s, a, w, h, hl => by
    refine ⟨fun h0 => hQ _ _ _ (hl.1 h0) h, fun i hi => ?_⟩
    unfold wpOp
    obtain ⟨_, o, ho, _⟩ := mem_ready.1 hi
    have hl' := hl.2 i hi o ho
    simp only [ho]
    exact h.step (g := true) hl'.1 (fun s' a' w' hn hs => Sim.any hQ n _ s' a' w' hs (hl'.2 s' hn))

/-! ### A function -/
def resV (E : Env) (s : St) : ResultVar → Option Value
  | .tmp k => some (s.t k)
  | .cell k ty => match s.t k with | .pointer (some a) => ev E.P (cellA E s.own s.nw) (loadVar ty a) | _ => none

def resOf (E : Env) (rs : Array ResultVar) (s : St) : Option Value :=
  match rs with
  | ⟨[]⟩ => some (.tuple #[])
  | ⟨[a]⟩ => resV E s a
  | ⟨[a, b]⟩ => (resV E s a).bind fun x => (resV E s b).bind fun y => some (.tuple #[x, y])
  | ⟨[a, b, c]⟩ => (resV E s a).bind fun x => (resV E s b).bind fun y => (resV E s c).bind fun z => some (.tuple #[x, y, z])
  | _ => none

def rsem (tmps : Array Value) : ResultVar → Sem Value
  | .tmp t => pure (tmps.getD t undef)
  | .cell a t => do loadVar t (← asAddr (tmps.getD a undef))

theorem results_rsem (fn : Func) (tmps : Array Value) : results fn tmps = (do
    let vs ← fn.results.mapM (rsem tmps)
    pure (if h : vs.size = 1 then vs[0] else .tuple vs)) := by
  unfold results
  congr 2

theorem resV_run {E : Env} {w0 w : World} {s : St} {a : Act} (h : Sim E w0 s a w) {r : ResultVar} {v : Value} (hr : resV E s r = some v) : (rsem a.tmps r).run E.P w = .ok v w := by
  cases r with
  | tmp k =>
    simp only [resV, Option.some.injEq] at hr
    subst hr
    simp only [rsem, h.tm k]; rfl
  | cell k ty =>
    simp only [resV] at hr
    simp only [rsem, h.tm k]
    split at hr
    · rename_i q hq
      rw [hq]
      exact ev_run h.cellA _ _ hr
    · cases hr

theorem resOf_run {E : Env} {w0 w : World} {s : St} {a : Act} (h : Sim E w0 s a w) {fn : Func} {v : Value} (hr : resOf E fn.results s = some v) :
    (results fn a.tmps).run E.P w = .ok v w := by
  unfold resOf at hr
  rw [results_rsem]
  split at hr
  · rename_i he
    cases hr
    simp [he]
  · rename_i x he
    have hx := resV_run h hr
    simp [he, hx]
  · rename_i x y he
    cases hx : resV E s x with
    | none => simp [hx] at hr
    | some vx =>
      cases hy : resV E s y with
      | none => simp [hx, hy] at hr
      | some vy =>
        simp only [hx, hy, Option.bind_some, Option.some.injEq] at hr
        subst hr
        have hx := resV_run h hx
        have hy := resV_run h hy
        simp [he, hx, hy]
  · rename_i x y z he
    cases hx : resV E s x with
    | none => simp [hx] at hr
    | some vx =>
      cases hy : resV E s y with
      | none => simp [hx, hy] at hr
      | some vy =>
        cases hz : resV E s z with
        | none => simp [hx, hy, hz] at hr
        | some vz =>
          simp only [hx, hy, hz, Option.bind_some, Option.some.injEq] at hr
          subst hr
          have hx := resV_run h hx
          have hy := resV_run h hy
          have hz := resV_run h hz
          simp [he, hx, hy, hz]
  · cases hr

def St.init (args : Array Value) : St := ⟨fun k => args.getD k undef, fun _ => none, fun _ => false⟩
abbrev env (P : Program) (n base : Nat) : Env := ⟨P, n, base, fun _ => none⟩
theorem sim_init {P : Program} {fn : Func} {args : Array Value} {w : World} (n : Nat) (hn : args.size + (fn.ntmps - args.size) = n) :
    Sim (env P n w.heap.size) w (St.init args) { tmps := args ++ Array.replicate (fn.ntmps - args.size) undef, defers := [] } w := by
  refine ⟨rfl, by simp [hn], fun k => ?_, Below.refl _ _, Nat.le_refl _, fun p v hp => (nomatch hp), fun b T cs ho => (nomatch ho)⟩
  show (args ++ Array.replicate (fn.ntmps - args.size) undef).getD k undef = args.getD k undef
  by_cases hk : k < args.size
  · simp [hk, Array.getElem?_append]
  · simp only [Array.getD_eq_getD_getElem?, Array.getElem?_append, if_neg hk, Array.getElem?_replicate]
    rw [Array.getElem?_eq_none (by omega)]
    split <;> rfl

/-! ### Steps -/
section
variable {E : Env} {g : Bool} {ops : Array Oper} {Q : St → Prop} {o : Oper} {r : List Oper} {s : St}
theorem wanted_none (hg : o.guard = none) (y : Nat → Option Bool) : Region.wanted o y = true := by simp [Region.wanted, hg]

theorem lexK_one (hd : (match o.dst with | some d => decide (d < E.n) | none => true) = true) {e : Fx} (he : HasFx E g ops o s e) (h : ∀ s', Do E g o s e s' → lexK E g ops Q r s') : lexK E g ops Q (o :: r) s := by
  refine ⟨⟨fun d hd' => by rw [hd'] at hd; simpa using hd, e, he⟩, fun s' hn => ?_⟩
  obtain ⟨e', he', hdo⟩ := hn
  obtain rfl := he'.unique he
  exact h s' hdo

theorem lexK_f (hg : o.guard = none) (hk : kdo g ops o = .f) (hd : (match o.dst with | some d => decide (d < E.n) | none => true) = true) (v : Value) (hy : Yields E s.t o v)
    (h : lexK E g ops Q r { s with t := putT s.t o.dst v }) : lexK E g ops Q (o :: r) s :=
  lexK_one hd (e := .val v) (by unfold HasFx; rw [if_pos (wanted_none hg _)]; simp only [hk]; exact ⟨v, hy, rfl⟩) (fun s' hs => by simp only [Do] at hs; subst hs; exact h)

theorem lexK_l (hg : o.guard = none) (hk : kdo g ops o = .l) (hd : (match o.dst with | some d => decide (d < E.n) | none => true) = true) (v : Value) (hy : loadOf E s o = some v)
    (h : lexK E g ops Q r { s with t := putT s.t o.dst v }) : lexK E g ops Q (o :: r) s :=
  lexK_one hd (e := .val v) (by unfold HasFx; rw [if_pos (wanted_none hg _)]; simp only [hk]; exact ⟨v, hy, rfl⟩) (fun s' hs => by simp only [Do] at hs; subst hs; exact h)

theorem lexK_a (hg : o.guard = none) (hk : kdo g ops o = .a) (hd : (match o.dst with | some d => decide (d < E.n) | none => true) = true) (x : TypeId × Array Value) (hy : allocOf E.P s.t o = some x)
    (h : ∀ b, E.base ≤ b → s.own b = none → lexK E g ops Q r { t := putT s.t o.dst (.pointer (some ⟨b, 0, none⟩)), own := upd s.own b (some x), nw := if g then upd s.nw b true else s.nw }) : lexK E g ops Q (o :: r) s :=
  lexK_one hd (e := .new x) (by unfold HasFx; rw [if_pos (wanted_none hg _)]; simp only [hk]; exact ⟨x, hy, rfl⟩) (fun s' hs => by obtain ⟨b, h1, h2, rfl⟩ := hs; exact h b h1 h2)

theorem lexK_s (hg : o.guard = none) (hk : kdo g ops o = .s) (hd : (match o.dst with | some d => decide (d < E.n) | none => true) = true) (b : Nat) (y : TypeId × Array Value) (hy : StoreOf E s o b y)
    (h : lexK E g ops Q r { s with t := putT s.t o.dst undef, own := upd s.own b (some y) }) : lexK E g ops Q (o :: r) s :=
  lexK_one hd (e := .sto b y) (by unfold HasFx; rw [if_pos (wanted_none hg _)]; simp only [hk]; exact ⟨b, y, hy, rfl⟩) (fun s' hs => by simp only [Do] at hs; subst hs; exact h)

theorem lexK_n (hg : o.guard = none) (hk : kdo g ops o = .n) (hd : (match o.dst with | some d => decide (d < E.n) | none => true) = true) (b : Nat) (y : TypeId × Array Value) (hy : StoreOf E s o b y) (hn : s.nw b = true)
    (h : lexK E g ops Q r { s with t := putT s.t o.dst undef, own := upd s.own b (some y) }) : lexK E g ops Q (o :: r) s :=
  lexK_one hd (e := .sto b y) (by unfold HasFx; rw [if_pos (wanted_none hg _)]; simp only [hk]; exact ⟨b, y, hy, hn, rfl⟩) (fun s' hs => by simp only [Do] at hs; subst hs; exact h)
end
end Go.Eng
