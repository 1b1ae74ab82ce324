/- Calls of the library that look into its own variables, told for the engine. Conditions: none; each theorem names what it asks of memory. -/
import Derived.Test.YtmfedgmmgehmgaaDoorSr
import Derived.Test.YtmfedgmmgehmgaaDoorShelf
namespace Go.Proofs.YtmfedgmmgehmgaaDoor
open Go Go.RowKit Go.Eng Go.Sort
def MemM (_ : World) : Prop := True
/-- A variable that is an array of texts. -/
def TxtTab (w : World) (g : Nat) (l : List (List UInt8)) : Prop := ∀ i : Nat, i < l.length → w.cell? ⟨g, i, none⟩ = some (.string ⟨(l[i]!).toArray⟩)
/-- The names of package code's operations. -/
def gtab_code_names : List (List UInt8) := [[112, 117, 115, 104], [102, 105, 101, 108, 100], [109, 101, 116, 97], [112, 97, 114, 97, 109], [118, 97, 108, 105, 100], [114, 101, 103], [110, 111, 116], [110, 101, 103], [115, 104, 108], [115, 104, 114], [115, 108, 105, 99, 101], [99, 97, 115, 116], [97, 100, 100], [115, 117, 98], [97, 100, 100, 45, 115, 97, 116], [115, 117, 98, 45, 115, 97, 116], [97, 110, 100], [111, 114], [120, 111, 114], [99, 97, 116], [101, 113], [108, 101, 115, 115], [112, 117, 116, 45, 102, 105, 101, 108, 100], [112, 117, 116, 45, 109, 101, 116, 97], [112, 117, 116, 45, 114, 101, 103], [115, 104, 111, 119], [104, 105, 100, 101], [112, 117, 115, 104, 45, 104, 101, 97, 100], [112, 111, 112, 45, 104, 101, 97, 100], [99, 111, 117, 110, 116], [109, 101, 116, 101, 114], [106, 117, 109, 112], [106, 117, 109, 112, 45, 122, 101, 114, 111], [106, 117, 109, 112, 45, 103, 111, 110, 101], [115, 116, 111, 112]]
def MemT (w : World) : Prop := TxtTab w 0 gtab_code_names
/-- What such calls ask of memory: the powers of ten, and so on. -/
def MemI (w : World) : Prop := Lib.TabIs Tryd.prog w "internal/strconv.uint64pow10" .u64 Lib.pow10Tab ∧ MemM w ∧ MemT w
theorem gt_code_names {w : World} (h : MemI w) (i : Nat) (hi : i < 35) : w.cell? ⟨0, i, none⟩ = some (.string ⟨(gtab_code_names[i]!).toArray⟩) := h.2.2 i hi
theorem var_kept {P : Program} {w w' : World} {name : String} {cs : Array Value} (h : w.var? P name = some cs) (hk : ∀ k, k < w.heap.size → w'.heap[k]? = w.heap[k]?) : w'.var? P name = some cs := by
  unfold World.var? at h ⊢
  cases hg : P.globalNamed name with
  | none => simp [hg] at h
  | some g =>
    simp only [hg, Option.bind_some] at h ⊢
    rcases Nat.lt_or_ge g w.heap.size with h1 | h1
    · rw [hk g h1]; exact h
    · rw [Array.getElem?_eq_none h1] at h; cases h
theorem cell_kept {w w' : World} {g i : Nat} {v : Value} (h : w.cell? ⟨g, i, none⟩ = some v) (hb : ∀ k, k < w.heap.size → w'.heap[k]? = w.heap[k]?) : w'.cell? ⟨g, i, none⟩ = some v := by
  have hlt : g < w.heap.size := by
    unfold World.cell? at h
    cases hc : w.heap[g]? with
    | none => simp [hc] at h
    | some o => exact (Array.getElem?_eq_some_iff.1 hc).1
  rw [cell_of_block (hb g hlt)]; exact h
theorem memI_kept (w w' : World) (h : MemI w) (hk : Kept w.heap.size (([] : List Bl).map (·.1)) w w') : MemI w' := by
  obtain ⟨h1, h2, h3⟩ := h
  have hb : ∀ k, k < w.heap.size → w'.heap[k]? = w.heap[k]? := fun k hlt => hk.block k hlt (by simp)
  refine ⟨var_kept h1 hb, ?_, ?_⟩
  · exact h2
  · exact fun i hi => cell_kept (h3 i hi) hb
theorem ext_below {w w' : World} (h : Below w.heap.size w w') : ExtW w w' [] [] := ⟨h.os, h.tape, h.output, h.size, fun k hk _ => h.block k hk, fun _ h => (nomatch h), fun _ h => (nomatch h)⟩
theorem below_grw (w : World) (k : Nat) (os : Array Obj) : Below w.heap.size w (grow (w.drewN k) os) := ⟨rfl, rfl, rfl, by simp [grow], fun j hj => by
  show (w.heap ++ os)[j]? = _
  rw [Array.getElem?_append, if_pos hj]⟩
theorem itoa_i (n : Int) (h : -9223372036854775808 ≤ n ∧ n ≤ 9223372036854775807) (ro : Addr → Option Value) : DoesI Tryd.prog 44 #[Value.int .i64 n] MemI ro [] (pV (Value.string (⟨(Lib.itoa n).toArray⟩))) := fun w hi _ _ _ =>
  (Tryd.strconv_Itoa n h.1 h.2 w hi.1).mono fun _ _ ⟨he, k, os, hw⟩ => ⟨_, [], [], he, ext_below (hw ▸ below_grw w k os), rfl, rfl, rfl⟩
section
variable {P : Program} {c : Addr → Option Value} {ρ : Operand → Value} {d : Option Tmp} {t t' : TypeId} {a b : Operand} {ty : TypeId} {pos : String} {af : Array Edge} {g : Option (Nat × Bool)} {x y : Int}
theorem ev_quoI (hx : ρ a = .int .i64 x) (hy : ρ b = .int .i64 y) (h0 : 0 < y) : ev P c (execOp ρ ⟨d, .binOp .quo t a b t', ty, pos, af, g⟩) = some (.value (.int .i64 (IntKind.i64.wrap (x.tdiv y)))) := by
  refine ev_v (s := do eqGuard .quo t a b (ρ a) (ρ b); binOp .quo t (ρ a) (ρ b)) ?_
  rw [hx, hy]
  have h1 : ¬ (y = 0) := by omega
  have h2 : ev P c (eqGuard .quo t a b (.int .i64 x) (.int .i64 y)) = some () := rfl
  simp only [ev_bind, h2, Option.bind_some, binOp, Op.intDiv, if_neg h1, ne_eq, not_true_eq_false, if_false, ev_pure]
theorem ev_remI (hx : ρ a = .int .i64 x) (hy : ρ b = .int .i64 y) (h0 : 0 < y) : ev P c (execOp ρ ⟨d, .binOp .rem t a b t', ty, pos, af, g⟩) = some (.value (.int .i64 (x.tmod y))) := by
  refine ev_v (s := do eqGuard .rem t a b (ρ a) (ρ b); binOp .rem t (ρ a) (ρ b)) ?_
  rw [hx, hy]
  have h1 : ¬ (y = 0) := by omega
  have h2 : ev P c (eqGuard .rem t a b (.int .i64 x) (.int .i64 y)) = some () := rfl
  simp only [ev_bind, h2, Option.bind_some, binOp, Op.intDiv, if_neg h1, ne_eq, not_true_eq_false, if_false, ev_pure]
end
section
variable {E : Env} {g : Bool} {ops : Array Oper} {K : (Nat → Value) → List Bl → Prop} {r : List Oper} {T : Nat → Value} {l : List Bl} {m : Nat} {d : Tmp} {ty : TypeId} {pos : String} {af : Array Edge}
/-- A load out of a variable of the program of which the memory's condition tells. -/
theorem r_gld {b o : Nat} {e : TypeId} {p : Operand} (v0 : Value) (hd : decide (d < E.n) = true) (hk : E.ks.find? (fun x => x.1 == some d) = some (some d, false)) (hm : decide (m ≤ l.length) = true)
    (hp : rd T p = .pointer (some ⟨b, o, none⟩)) (hv : ldCells E.P e #[v0] 0 = some v0) (hi : ∀ w, E.inv w → w.cell? ⟨b, o, none⟩ = some v0)
    (hcon : ∀ args view v L U, E.con ⟨some d, .load e p, ty, pos, af, none⟩ args view v L U ↔ pV v0 v L U)
    (h : lx E g ops K r (upd T d v0) l m) : lx E g ops K (⟨some d, .load e p, ty, pos, af, none⟩ :: r) T l m := by
  refine r_g false (pV v0) hd hk rfl hm (fun hnd own nw hse => ?_) (fun v L U hpv => ?_)
  · have hco : conOf E ⟨T, own, nw⟩ ⟨some d, .load e p, ty, pos, af, none⟩ = pV v0 := by
      funext v L U; exact propext (hcon _ _ v L U)
    refine ⟨⟨?_, ?_, ?_, ?_, ?_⟩, ?_⟩
    · rw [hco]; exact fun _ => (nice_v v0).wit
    · rw [hco]; exact fun v L U hpv => ⟨((nice_v v0).nod v L U hpv).1, by rw [((nice_v v0).nod v L U hpv).2]; exact List.nodup_nil⟩
    · rw [hco]; intro v L U hpv x hx; rw [((nice_v v0).nod v L U hpv).2] at hx; cases hx
    · rw [hco]; exact fun _ v L U hpv => ((nice_v v0).nod v L U hpv).2
    · rw [hco]
      intro w hbase _ _
      have h1 : ev E.P w.cell? (execOp (rd T) ⟨some d, .load e p, ty, pos, af, none⟩) = some (.value v0) :=
        load_ev hp (by
          have := ev_ldL (P := E.P) (c := w.cell?) (b := b) (off := o) (o := 0) (ty := e) (vs := [v0]) (v := v0) (fun j u hj => by
            cases j with
            | zero => simp only [List.getElem?_cons_zero, Option.some.injEq] at hj; subst hj; exact hi w hbase.2
            | succ j => simp at hj) hv
          rwa [Nat.add_zero] at this)
      exact .inl ⟨v0, w, [], [], ev_run (fun _ _ h => h) _ _ h1, ⟨rfl, rfl, rfl, Nat.le_refl _, fun _ _ _ => rfl, fun _ h => (nomatch h), fun _ h => (nomatch h)⟩, rfl, rfl, rfl⟩
    · rw [hco]; exact fun v L U hpv => hpv
  · obtain ⟨rfl, rfl, rfl⟩ := hpv
    refine ⟨l, fun _ => PutU.nil _, ?_⟩
    rw [List.append_nil]; exact h
/-- Blind: a load out of a variable of the program of which the memory's condition tells. -/
theorem r_gldB {b o : Nat} {e : TypeId} {p : Operand} (v0 : Value) (hd : decide (d < E.n) = true) (hk : (E.ks.find? (fun x => x.1 == some d), blindK E.ks (some d)) = (none, true)) (hm : decide (m ≤ l.length) = true)
    (hp : rd T p = .pointer (some ⟨b, o, none⟩)) (hv : ldCells E.P e #[v0] 0 = some v0) (hi : ∀ w, E.inv w → w.cell? ⟨b, o, none⟩ = some v0)
    (hcon : ∀ args view v L U, E.con ⟨some d, .load e p, ty, pos, af, none⟩ args view v L U ↔ pV v0 v L U)
    (h : lx E g ops K r (upd T d v0) l m) : lx E g ops K (⟨some d, .load e p, ty, pos, af, none⟩ :: r) T l m := by
  refine r_gb (pV v0) hd hk rfl hm (fun own nw hse => ?_) (fun v L hpv => ?_)
  · have hco : conOf E ⟨T, own, nw⟩ ⟨some d, .load e p, ty, pos, af, none⟩ = pV v0 := by
      funext v L U; exact propext (hcon _ _ v L U)
    refine ⟨⟨?_, ?_, ?_, ?_, ?_⟩, ?_⟩
    · rw [hco]; exact fun _ => (nice_v v0).wit
    · rw [hco]; exact fun v L U hpv => ⟨((nice_v v0).nod v L U hpv).1, by rw [((nice_v v0).nod v L U hpv).2]; exact List.nodup_nil⟩
    · rw [hco]; intro v L U hpv x hx; rw [((nice_v v0).nod v L U hpv).2] at hx; cases hx
    · rw [hco]; exact fun _ v L U hpv => ((nice_v v0).nod v L U hpv).2
    · rw [hco]
      intro w hbase _ _
      have h1 : ev E.P w.cell? (execOp (rd T) ⟨some d, .load e p, ty, pos, af, none⟩) = some (.value v0) :=
        load_ev hp (by
          have := ev_ldL (P := E.P) (c := w.cell?) (b := b) (off := o) (o := 0) (ty := e) (vs := [v0]) (v := v0) (fun j u hj => by
            cases j with
            | zero => simp only [List.getElem?_cons_zero, Option.some.injEq] at hj; subst hj; exact hi w hbase.2
            | succ j => simp at hj) hv
          rwa [Nat.add_zero] at this)
      exact .inl ⟨v0, w, [], [], ev_run (fun _ _ h => h) _ _ h1, ⟨rfl, rfl, rfl, Nat.le_refl _, fun _ _ _ => rfl, fun _ h => (nomatch h), fun _ h => (nomatch h)⟩, rfl, rfl, rfl⟩
    · rw [hco]; exact fun v L U hpv => hpv
  · obtain ⟨rfl, rfl, _⟩ := hpv
    rw [List.append_nil]; exact h
end
end Go.Proofs.YtmfedgmmgehmgaaDoor
