/- Rules over rows and function values. Conditions: none. -/
import Derived.Test.YtnpbpllibmcokaaSg
namespace Go.Eng
open Go Go.RowKit

/-- The block b holds vs, as c tells. -/
def Blk (c : Addr → Option Value) (b : Nat) (vs : List Value) : Prop := ∀ j u, vs[j]? = some u → c ⟨b, j, none⟩ = some u
section
variable {E : Env} {g : Bool} {ops : Array Oper} {K : (Nat → Value) → List Bl → Prop} {r : List Oper} {T : Nat → Value} {l : List Bl} {m : Nat} {d : Tmp} {ty : TypeId} {pos : String} {af : Array Edge}
/-- What is seen. -/
abbrev Sees.view {own : Nat → Option (TypeId × Array Value)} {nw : Nat → Bool} (_ : Sees E l m own nw) : Addr → Option Value := cellA E own nw
theorem blk_own {b : Nat} {t : TypeId} {cs : List Value} (i : Nat) (hl : l[i]? = some (b, t, cs.toArray)) (hm : decide (m ≤ i) = true) : ∀ own nw, Sees E l m own nw → Blk (cellA E own nw) b cs := fun own nw hs j u hj => by
  obtain ⟨h1, h2⟩ := hs.has i _ _ hl
  rw [cellA_own h1 (by rw [h2]; have := of_decide_eq_true hm; simp; omega)]
  simpa using hj
theorem blk_ro {b : Nat} {vs : List Value} (h : Blk E.ro b vs) : ∀ own nw, Sees E l m own nw → Blk (cellA E own nw) b vs := fun _ _ hs j u hj => hs.ro_cell _ _ (h j u hj)
theorem load_ev {P : Program} {c : Addr → Option Value} {ρ : Operand → Value} {dd : Option Tmp} {e : TypeId} {p : Operand} {gd : Option (Nat × Bool)} {a : Addr} {v : Value} (hp : ρ p = .pointer (some a)) (h : ev P c (loadVar e a) = some v) : ev P c (execOp ρ ⟨dd, .load e p, ty, pos, af, gd⟩) = some (.value v) := by
  show ev P c (do pure (Next.value (← Instr.loadAt e (ρ p)))) = _
  rw [hp, ev_bind]
  show (ev P c (loadVar e a)).bind _ = _
  rw [h]; rfl
/-- A load out of a block that is only read. -/
theorem r_lb (v : Value) {vs : List Value} {b o : Nat} {e : TypeId} {p : Operand} (hd : decide (d < E.n) = true) (hp : rd T p = .pointer (some ⟨b, o, none⟩)) (hb : ∀ own nw, Sees E l m own nw → Blk (cellA E own nw) b vs)
    (hv : ldCells E.P e vs.toArray o = some v) (h : lx E g ops K r (upd T d v) l m) (hpl : Plain E.ks ⟨some d, .load e p, ty, pos, af, none⟩ := by rfl) : lx E g ops K (⟨some d, .load e p, ty, pos, af, none⟩ :: r) T l m :=
  fun hn own nw hs => lexK_l rfl (kdo_eq hpl rfl (by decide)) hd v (by
    unfold loadOf
    have h1 : ev E.P (cellA E own nw) (execOp (rd T) ⟨some d, .load e p, ty, pos, af, none⟩) = some (.value v) :=
      load_ev hp (by have := ev_ldL (P := E.P) (c := cellA E own nw) (b := b) (off := 0) (o := o) (ty := e) (fun j u hj => by rw [Nat.zero_add]; exact hb own nw hs j u hj) hv; rwa [Nat.zero_add] at this)
    show (match ev E.P (cellA E own nw) (execOp (rd T) ⟨some d, .load e p, ty, pos, af, none⟩) with | some (.value v) => some v | _ => none) = some v
    rw [h1]) (h hn own nw hs)
/-- A load out of a row. -/
theorem r_le {α : Type} (v : Value) {En : Enc α} {sv : Value} {xs : List α} (x : α) (i o : Nat) {e : TypeId} {p : Operand} (hd : decide (d < E.n) = true) (hp : rd T p = elA sv (i * En.sz + o)) (hr : ∀ own nw, Sees E l m own nw → Rd En (cellA E own nw) sv xs) (hx : xs[i]? = some x)
    (hv : ldCells E.P e (En.f x).toArray o = some v) (h : lx E g ops K r (upd T d v) l m) (hpl : Plain E.ks ⟨some d, .load e p, ty, pos, af, none⟩ := by rfl) : lx E g ops K (⟨some d, .load e p, ty, pos, af, none⟩ :: r) T l m :=
  fun hn own nw hs => lexK_l rfl (kdo_eq hpl rfl (by decide)) hd v (by
    unfold loadOf
    have h1 : ev E.P (cellA E own nw) (execOp (rd T) ⟨some d, .load e p, ty, pos, af, none⟩) = some (.value v) := by
      rcases hr own nw hs with ⟨_, rfl⟩ | ⟨a, cap, rfl, h0, hle, hc⟩
      · simp at hx
      · have h0 := h0 (by have := (List.getElem?_eq_some_iff.1 hx).1; omega)
        refine load_ev (a := a.add (i * En.sz + o)) hp ?_
        rw [add_none h0, ← Nat.add_assoc]
        exact ev_ldL (fun j u hj => by rw [Nat.add_assoc]; exact hc _ _ (En.all_get hx j u hj)) hv
    show (match ev E.P (cellA E own nw) (execOp (rd T) ⟨some d, .load e p, ty, pos, af, none⟩) with | some (.value v) => some v | _ => none) = some v
    rw [h1]) (h hn own nw hs)
/-- A guarded operation whose guard was not reached. -/
theorem r_nu {op : Op} {j : Nat} {want : Bool} (hw : yieldedF ops T j = none) (hd : decide (d < E.n) = true) (h : lx E g ops K r (upd T d undef) l m) :
    lx E g ops K (⟨some d, op, ty, pos, af, some (j, want)⟩ :: r) T l m := by
  intro hn own nw hs
  have e1 : ¬ Region.wanted ⟨some d, op, ty, pos, af, some (j, want)⟩ (yieldedF ops T) = true := by simp [Region.wanted, hw]
  refine lexK_one (e := .val undef) (by simpa using hd) (by unfold HasFx; rw [if_neg e1]) (fun s' hs2 => ?_)
  simp only [Do] at hs2; subst hs2; exact h hn own nw hs
theorem r_nu0 {op : Op} {j : Nat} {want : Bool} (hw : yieldedF ops T j = none) (h : lx E g ops K r T l m) :
    lx E g ops K (⟨none, op, ty, pos, af, some (j, want)⟩ :: r) T l m := by
  intro hn own nw hs
  have e1 : ¬ Region.wanted ⟨none, op, ty, pos, af, some (j, want)⟩ (yieldedF ops T) = true := by simp [Region.wanted, hw]
  refine lexK_one (e := .val undef) rfl (by unfold HasFx; rw [if_neg e1]) (fun s' hs2 => ?_)
  simp only [Do] at hs2; subst hs2; exact h hn own nw hs
theorem get_of {α : Type} [Inhabited α] {xs : List α} {i : Int} (h : 0 ≤ i ∧ i < (xs.length : Int)) : xs[i.toNat]? = some xs[i.toNat]! := by
  have hlt : i.toNat < xs.length := by omega
  rw [List.getElem?_eq_getElem hlt, getElem!_pos xs i.toNat hlt]
theorem ev_fieldEl {P : Program} {c : Addr → Option Value} {s : TypeId} {fs : Array Field} {f : Field} {k : Nat} {sv : Value} {n j : Nat} (hu : P.underlying s = some (.struct fs)) (hf : fs[j]? = some f) {fi : TypeInfo} (hfi : P.info? f.type = some fi) (hf0 : decide (fi.size = 0) = false) (hs : Shp sv n) (hn : 0 < n) :
    ev P c (Instr.fieldAt s (elA sv k) j) = some (elA sv (k + f.offset)) := by
  rcases hs with ⟨_, rfl⟩ | ⟨a, cap, rfl, h0, hle⟩
  · omega
  · have h0 := h0 (by omega)
    unfold Instr.fieldAt
    simp only [ev_bind, ev_underlying hu, Option.bind_some, hf, elA, add_none h0]
    show ((ev P c (fieldPlace ⟨a.block, a.off + k, none⟩ f)).bind fun x => ev P c (pure (Value.pointer (some x)) : Sem Value)) = _
    have : ev P c (fieldPlace ⟨a.block, a.off + k, none⟩ f) = some (⟨a.block, a.off + (k + f.offset), none⟩ : Addr) := by
      unfold fieldPlace
      rw [ev_bind, ev_sizeOf hfi]
      simp only [Option.bind_some, if_neg (of_decide_eq_false hf0), ev_pure]
      rw [add_none (a := ⟨a.block, a.off + k, none⟩) rfl, Nat.add_assoc]
    rw [this]; rfl
/-- A store into a row of the function's own. -/
theorem r_se {α : Type} {Ls : List (List Bl)} (k : Nat) {S : List Bl} {ee : TypeId} {En : Enc α} {sv : Value} {xs : List α} (x x' : α) (i o : Nat) {e : TypeId} {p y : Operand} {ii : TypeInfo} (hk : kdg g ops ⟨none, .store e p y, ty, pos, af, none⟩ = .s) (hp : rd T p = elA sv (i * En.sz + o))
    (hS : Ls[k]? = some S) (hSl : Sl ee En sv xs S) (hx : xs[i]? = some x) (hi : E.P.info? e = some ii) (hsz : (rd T y).cells.size = ii.size) (hle' : decide (o + (rd T y).cells.size ≤ En.sz) = true) (h1 : ∀ u ∈ (rd T y).cells, u.oneCell' = true)
    (hx' : En.f x' = (En.f x).take o ++ (rd T y).cells.toList ++ (En.f x).drop (o + (rd T y).cells.size))
    (h : ∀ S', Sl ee En sv (xs.set i x') S' → lx E g ops K r T (Ls.set k S').flatten m) (hpl : Plain E.ks ⟨none, .store e p y, ty, pos, af, none⟩ := by rfl) (hgh : goodk E.ks none = false := by rfl) : lx E g ops K (⟨none, .store e p y, ty, pos, af, none⟩ :: r) T Ls.flatten m := fun hn own nw hse => by
  have hle : o + (rd T y).cells.size ≤ En.sz := of_decide_eq_true hle'
  obtain ⟨hf1, hf2⟩ := flat_split hS
  rcases hSl with ⟨_, _, rfl, _⟩ | ⟨b, cap, cs, rfl, hcap, hcs, htk, rfl⟩
  · simp at hx
  · have hget : Ls.flatten[(Ls.take k).flatten.length]? = some (b, ee, cs) := by rw [hf1, List.getElem?_append_right (Nat.le_refl _), Nat.sub_self]; rfl
    have hlt : i < xs.length := (List.getElem?_eq_some_iff.1 hx).1
    have hb1 : (i + 1) * En.sz ≤ xs.length * En.sz := Nat.mul_le_mul_right _ hlt
    have hb2 : xs.length * En.sz ≤ cap * En.sz := Nat.mul_le_mul_right _ hcap
    have hb3 : (i + 1) * En.sz = i * En.sz + En.sz := Nat.succ_mul _ _
    refine lexK_s rfl (kdo_pl hpl hk) rfl b (ee, splice cs (i * En.sz + o) (rd T y).cells) ?_ ?_ (.inl hgh)
    · refine ⟨i * En.sz + o, ee, cs, ii, ?_, (hse.has _ _ _ hget).1, hi, hsz, (show i * En.sz + o + (rd T y).cells.size ≤ cs.size by omega), h1, rfl⟩
      rw [hp]
      show Value.pointer (some ((⟨b, 0, none⟩ : Addr).add _)) = _
      rw [add_none rfl, Nat.zero_add]
    · have hset : ∀ y', (Ls.set k [(b, y')]).flatten = Ls.flatten.set (Ls.take k).flatten.length (b, y') := fun y' => by
        rw [hf2, hf1, List.set_append_right _ _ (Nat.le_refl _), Nat.sub_self]; rfl
      have hall : En.all (xs.set i x') = (En.all xs).take (i * En.sz + o) ++ (rd T y).cells.toList ++ (En.all xs).drop (i * En.sz + o + (rd T y).cells.size) := by
        have hxs : xs = xs.take i ++ x :: xs.drop (i + 1) := by
          conv => lhs; rw [← List.take_append_drop i xs]
          congr 1
          rw [List.drop_eq_getElem_cons hlt]
          congr 1
          rw [List.getElem?_eq_getElem hlt] at hx; exact Option.some.inj hx
        have hset' : xs.set i x' = xs.take i ++ x' :: xs.drop (i + 1) := by rw [List.set_eq_take_append_cons_drop, if_pos hlt]
        have hA : (En.all (xs.take i)).length = i * En.sz := by rw [En.all_len, List.length_take, Nat.min_eq_left (Nat.le_of_lt hlt)]
        rw [hset']
        conv => rhs; rw [hxs]
        rw [En.all_append, En.all_cons, En.all_append, En.all_cons, hx', ← hA, List.take_length_add_append, List.append_assoc, List.append_assoc, List.append_assoc, List.append_assoc]
        congr 1
        rw [List.take_append_of_le_length (by rw [En.len]; omega), Nat.add_assoc, List.drop_length_add_append, List.drop_append_of_le_length (by rw [En.len]; omega)]
      have h2 := h [(b, ee, splice cs (i * En.sz + o) (rd T y).cells)] (.inr ⟨b, cap, _, by rw [List.length_set], by rw [List.length_set]; exact hcap, ?_, ?_, rfl⟩)
      · rw [hset] at h2
        exact h2 (by rw [set_map hget]; exact hn) _ _ (hse.set hn hget)
      · rw [splice_eq (by omega)]
        simp only [List.size_toArray, List.length_append, List.length_take, List.length_drop, Array.length_toList]
        omega
      · rw [splice_eq (by omega), List.length_set, hall]
        have hc : cs.toList = En.all xs ++ cs.toList.drop (xs.length * En.sz) := by rw [← htk, List.take_append_drop]
        have hl : (En.all xs).length = xs.length * En.sz := En.all_len xs
        show List.take (xs.length * En.sz) (cs.toList.take (i * En.sz + o) ++ (rd T y).cells.toList ++ cs.toList.drop (i * En.sz + o + (rd T y).cells.size)) = _
        have e1 : List.take (i * En.sz + o) (En.all xs ++ cs.toList.drop (xs.length * En.sz)) = List.take (i * En.sz + o) (En.all xs) := List.take_append_of_le_length (by omega)
        have e2 : List.drop (i * En.sz + o + (rd T y).cells.size) (En.all xs ++ cs.toList.drop (xs.length * En.sz)) = List.drop (i * En.sz + o + (rd T y).cells.size) (En.all xs) ++ cs.toList.drop (xs.length * En.sz) := List.drop_append_of_le_length (by omega)
        rw [hc, e1, e2, ← List.append_assoc]
        have e3 : (List.take (i * En.sz + o) (En.all xs) ++ (rd T y).cells.toList ++ List.drop (i * En.sz + o + (rd T y).cells.size) (En.all xs)).length = xs.length * En.sz := by
          simp only [List.length_append, List.length_take, List.length_drop, Array.length_toList, hl]; omega
        rw [← e3]
        exact List.take_left

/-! ### Function values -/
theorem ev_callV {P : Program} {c : Addr → Option Value} {ρ : Operand → Value} {dd : Option Tmp} {f : FuncId} {x : Operand} {caps : List Value} {ll : List Operand} {ts : Array TypeId} {gd : Option (Nat × Bool)} (hρ : ρ x = .func (.func f) #[] caps.toArray) (h : callB P f = true) {args : List Value} (ha : ll.map ρ = args) :
    ev P c (execOp ρ ⟨dd, .call ⟨.value x, ll.toArray, ts⟩, ty, pos, af, gd⟩) = some (.enter f (args ++ caps).toArray) := by
  unfold callB at h
  cases hf : P.funcs[f]? with
  | none => simp [hf] at h
  | some fn =>
    simp only [hf, Bool.and_eq_true, bne_iff_ne, ne_eq] at h
    obtain ⟨h1, h2⟩ := h
    have ha' : ll.toArray.map ρ = args.toArray := by rw [List.map_toArray, ha]
    have hr : ev P c (resolve ρ ⟨.value x, ll.toArray, ts⟩ ty) = (ev P c (Deferred.ofValue (ρ x) args.toArray)) := by
      show ev P c (Deferred.ofValue (ρ x) (ll.toArray.map ρ)) = _
      rw [ha']
    show ev P c (do let d ← resolve ρ ⟨.value x, ll.toArray, ts⟩ ty; invoke d.target d.args) = _
    rw [ev_bind, hr, hρ]
    show ev P c (invoke (.fn (.func f) caps.toArray) (#[] ++ args.toArray)) = _
    have h5 : ¬ fn.body = none := by intro e; simp [e] at h2
    simp [invoke, callFunc, program, ev_bind, ev, hf, h1, h5, ev_pure]
theorem ev_callW {P : Program} {c : Addr → Option Value} {ρ : Operand → Value} {dd : Option Tmp} {f : FuncId} {x : Operand} {bd caps : List Value} {ll : List Operand} {ts : Array TypeId} {gd : Option (Nat × Bool)} (hρ : ρ x = .func (.func f) bd.toArray caps.toArray) (h : callB P f = true) {args : List Value} (ha : ll.map ρ = args) :
    ev P c (execOp ρ ⟨dd, .call ⟨.value x, ll.toArray, ts⟩, ty, pos, af, gd⟩) = some (.enter f (bd ++ args ++ caps).toArray) := by
  unfold callB at h
  cases hf : P.funcs[f]? with
  | none => simp [hf] at h
  | some fn =>
    simp only [hf, Bool.and_eq_true, bne_iff_ne, ne_eq] at h
    obtain ⟨h1, h2⟩ := h
    have ha' : ll.toArray.map ρ = args.toArray := by rw [List.map_toArray, ha]
    have hr : ev P c (resolve ρ ⟨.value x, ll.toArray, ts⟩ ty) = (ev P c (Deferred.ofValue (ρ x) args.toArray)) := by
      show ev P c (Deferred.ofValue (ρ x) (ll.toArray.map ρ)) = _
      rw [ha']
    show ev P c (do let d ← resolve ρ ⟨.value x, ll.toArray, ts⟩ ty; invoke d.target d.args) = _
    rw [ev_bind, hr, hρ]
    show ev P c (invoke (.fn (.func f) caps.toArray) (bd.toArray ++ args.toArray)) = _
    have h5 : ¬ fn.body = none := by intro e; simp [e] at h2
    simp [invoke, callFunc, program, ev_bind, ev, hf, h1, h5, ev_pure]
theorem ev_mkB {P : Program} {c : Addr → Option Value} {ρ : Operand → Value} {dd : Option Tmp} {f : FuncId} {lb ll : List Operand} {gd : Option (Nat × Bool)} {bs vs : List Value} (hb : lb.map ρ = bs) (h : ll.map ρ = vs) :
    ev P c (execOp ρ ⟨dd, .makeFunc (.func f) lb.toArray ll.toArray, ty, pos, af, gd⟩) = some (.value (.func (.func f) bs.toArray vs.toArray)) := by
  subst h; subst hb
  show ev P c (do pure (Next.value (← Instr.makeFunc (.func f) (lb.toArray.map ρ) (ll.toArray.map ρ)))) = _
  have e1 : lb.toArray.map ρ = (lb.map ρ).toArray := by simp
  have e2 : ll.toArray.map ρ = (ll.map ρ).toArray := by simp
  rw [e1, e2]
  rfl
theorem r_gv {c : Call} (v0 : Value) (f : FuncId) (args : Array Value)
    (hd : decide (d < E.n) = true) (hk : E.ks.find? (fun x => x.1 == some d) = some (some d, false)) (hm : decide (m ≤ l.length) = true)
    (he : ev E.P E.ro (execOp (rd T) ⟨some d, .call c, ty, pos, af, none⟩) = some (.enter f args))
    (hdo : ∀ own nw, Sees E l m own nw → DoesI E.P f args E.inv (cellA E own nw) [] (pV v0))
    (hcon : ∀ args view v L U, E.con ⟨some d, .call c, ty, pos, af, none⟩ args view v L U ↔ pV v0 v L U)
    (h : lx E g ops K r (upd T d v0) l m) : lx E g ops K (⟨some d, .call c, ty, pos, af, none⟩ :: r) T l m :=
  r_gc (pV v0) f args hd hk hm he hdo hcon (nice_v v0) (fun v L hp => by obtain ⟨rfl, rfl, _⟩ := hp; rw [List.append_nil]; exact h)
theorem r_gvB {c : Call} (v0 : Value) (f : FuncId) (args : Array Value)
    (hd : decide (d < E.n) = true) (hk : (E.ks.find? (fun x => x.1 == some d), blindK E.ks (some d)) = (none, true)) (hm : decide (m ≤ l.length) = true)
    (he : ev E.P E.ro (execOp (rd T) ⟨some d, .call c, ty, pos, af, none⟩) = some (.enter f args))
    (hdo : ∀ own nw, Sees E [] 0 own nw → DoesI E.P f args E.inv (cellA E own nw) [] (pV v0))
    (hcon : ∀ args view v L U, E.con ⟨some d, .call c, ty, pos, af, none⟩ args view v L U ↔ pV v0 v L U)
    (h : lx E g ops K r (upd T d v0) l m) : lx E g ops K (⟨some d, .call c, ty, pos, af, none⟩ :: r) T l m :=
  r_gcB (pV v0) f args hd hk hm he hdo hcon (nice_v v0) (fun v L hp => by obtain ⟨rfl, rfl, _⟩ := hp; rw [List.append_nil]; exact h)
theorem r_g1 {α : Type} {Ls : List (List Bl)} {c : Call} (F : Value → Value) (e : TypeId) (En : Enc α) (xs : List α) (f : FuncId) (args : Array Value)
    (hd : decide (d < E.n) = true) (hk : E.ks.find? (fun x => x.1 == some d) = some (some d, false)) (hm : decide (m ≤ Ls.flatten.length) = true)
    (he : ev E.P E.ro (execOp (rd T) ⟨some d, .call c, ty, pos, af, none⟩) = some (.enter f args))
    (hdo : ∀ own nw, Sees E Ls.flatten m own nw → DoesI E.P f args E.inv (cellA E own nw) [] (p1 F e En xs))
    (hcon : ∀ args view v L U, E.con ⟨some d, .call c, ty, pos, af, none⟩ args view v L U ↔ p1 F e En xs v L U)
    (h : ∀ s S, Sl e En s xs S → lx E g ops K r (upd T d (F s)) (Ls ++ [S]).flatten m) : lx E g ops K (⟨some d, .call c, ty, pos, af, none⟩ :: r) T Ls.flatten m :=
  r_gc (p1 F e En xs) f args hd hk hm he hdo hcon (nice_1 F e En xs) (fun v L hp => by
    obtain ⟨s, hS, rfl, _⟩ := hp
    have := h s L hS
    rw [List.flatten_append] at this
    simpa using this)
/-- What lies in slots that are not looked at any more is forgotten. -/
theorem r_g1B {α : Type} {Ls : List (List Bl)} {c : Call} (F : Value → Value) (e : TypeId) (En : Enc α) (xs : List α) (f : FuncId) (args : Array Value)
    (hd : decide (d < E.n) = true) (hk : (E.ks.find? (fun x => x.1 == some d), blindK E.ks (some d)) = (none, true)) (hm : decide (m ≤ Ls.flatten.length) = true)
    (he : ev E.P E.ro (execOp (rd T) ⟨some d, .call c, ty, pos, af, none⟩) = some (.enter f args))
    (hdo : ∀ own nw, Sees E [] 0 own nw → DoesI E.P f args E.inv (cellA E own nw) [] (p1 F e En xs))
    (hcon : ∀ args view v L U, E.con ⟨some d, .call c, ty, pos, af, none⟩ args view v L U ↔ p1 F e En xs v L U)
    (h : ∀ s S, Sl e En s xs S → lx E g ops K r (upd T d (F s)) (Ls ++ [S]).flatten m) : lx E g ops K (⟨some d, .call c, ty, pos, af, none⟩ :: r) T Ls.flatten m :=
  r_gcB (p1 F e En xs) f args hd hk hm he hdo hcon (nice_1 F e En xs) (fun v L hp => by
    obtain ⟨s, hS, rfl, _⟩ := hp
    have := h s L hS
    rw [List.flatten_append] at this
    simpa using this)
/-- What lies in slots that are not looked at any more is forgotten. -/
theorem A_gen {c : Code} {Q : QL} (kv : List (Nat × Value)) (h : kv.map (fun x => T x.1) = kv.map (·.2)) (H : ∀ T', A E c Q (updL T' kv) l) : A E c Q T l := by
  have := H T
  rwa [updL_self T kv h] at this
/-- A region whose order is left open, walked in the text's order. -/
theorem A_drawR {Q : QL} {id : Nat} {rs : List Oper} (ks : List (Option Tmp × Bool)) (con : Con) (ps : List (Nat × Nat)) (hB : ordOk ks rs.toArray ps (List.range rs.toArray.size) = true) (hS : (l.map (·.1)).Nodup → Sep ps T)
    (h : lx { E with ks := ks, con := con } true rs.toArray (Q .normal) rs T l 0) (hg : hmk ks = false := by rfl) : A E (.region id rs.toArray true) Q T l :=
  A_drawC ks con ps (List.range rs.toArray.size) hB hS (by rw [pick_range]; exact h) hg
theorem ev_mkF {P : Program} {c : Addr → Option Value} {ρ : Operand → Value} {dd : Option Tmp} {f : FuncId} {ll : List Operand} {gd : Option (Nat × Bool)} {vs : List Value} (h : ll.map ρ = vs) :
    ev P c (execOp ρ ⟨dd, .makeFunc (.func f) #[] ll.toArray, ty, pos, af, gd⟩) = some (.value (.func (.func f) #[] vs.toArray)) := by
  subst h
  show ev P c (do pure (Next.value (← Instr.makeFunc (.func f) ((#[] : Array Operand).map ρ) (ll.toArray.map ρ)))) = _
  have e1 : (#[] : Array Operand).map ρ = #[] := by simp
  have e2 : ll.toArray.map ρ = (ll.map ρ).toArray := by simp
  rw [e1, e2]
  rfl
/-! ### How a function ends -/
theorem endsV {rs : Array ResultVar} {t : Nat → Value} {v v0 : Value} (he : v0 = v) (h : resOf E rs ⟨t, ownL l, nonw⟩ = some v0) : EndsP E rs [] (pV v) .ret t l := ⟨v, [], [], by rw [← he]; exact h, Sub.nil l, rfl, rfl, rfl, rfl⟩
theorem ends1 {α : Type} {rs : Array ResultVar} {t : Nat → Value} {F : Value → Value} {e : TypeId} {En : Enc α} {xs : List α} {s v0 : Value} {S : List Bl} (hS : Sl e En s xs S) (hsub : Sub S l) (he : v0 = F s) (h : resOf E rs ⟨t, ownL l, nonw⟩ = some v0) : EndsP E rs [] (p1 F e En xs) .ret t l :=
  ⟨F s, S, [], by rw [← he]; exact h, hsub, rfl, s, hS, rfl, rfl⟩
theorem does_eqV {P : Program} {f : FuncId} {args : Array Value} {ro : Addr → Option Value} {v v' : Value} (h : Does P f args ro [] (pV v)) (e : v = v') : Does P f args ro [] (pV v') := e ▸ h
end

theorem lx_nilp {E : Env} {g : Bool} {ops : Array Oper} {K : (Nat → Value) → List Bl → Prop} {r : List Oper} {T : Nat → Value} {m : Nat} (Ls : List (List Bl)) (h : lx E g ops K r T (Ls ++ [[]]).flatten m) : lx E g ops K r T Ls.flatten m := by simpa using h
theorem app_b {n k b : Nat} (h : n ≤ k) (hk : decide (k * b ≤ 140737488355328) = true) : n * b ≤ 140737488355328 := Nat.le_trans (Nat.mul_le_mul_right _ h) (of_decide_eq_true hk)
theorem app_m {n k : Nat} (h : n ≤ k) (hk : decide (k ≤ maxLen) = true) : n ≤ maxLen := Nat.le_trans h (of_decide_eq_true hk)
theorem toNat_le {a b : Int} {q : Prop} (h : 0 ≤ a ∧ a ≤ b ∧ q) : a.toNat ≤ b.toNat := by omega
theorem toNat_len {a : Int} {n : Nat} (h : a ≤ (n : Int)) : a.toNat ≤ n := by omega
theorem len_td {α : Type} {l : List α} {hi lo : Nat} (h : hi ≤ l.length) : ((l.take hi).drop lo).length = hi - lo := by simp; omega
theorem shp_len {v : Value} {n n' : Nat} (h : Shp v n) (e : n' = n) : Shp v n' := e ▸ h
theorem pos_of {i : Int} {n : Nat} (h : 0 ≤ i ∧ i < (n : Int)) : 0 < n := by omega
theorem one_all {a : Array Value} (h : a.toList.all (fun x => x.oneCell') = true) : ∀ u ∈ a, u.oneCell' = true := fun u hu => List.all_eq_true.1 h u (by simpa using hu)
theorem sub_one {S l : List Bl} (h : Sub (S ++ []) l) : Sub S l := by rwa [List.append_nil] at h
/-! ### Data -/
def encB : Enc Bool := ⟨fun b => [.bool b], 1, Nat.one_pos, fun _ => rfl, fun _ v h => by simp at h; subst h; rfl, True⟩
def encY : Enc UInt8 := ⟨fun b => [.int .u8 ((b.toNat : Nat) : Int)], 1, Nat.one_pos, fun _ => rfl, fun _ v h => by simp at h; subst h; rfl, True⟩
def encI : Enc Int := ⟨fun i => [.int .i64 i], 1, Nat.one_pos, fun _ => rfl, fun _ v h => by simp at h; subst h; rfl, True⟩
def encU : Enc (BitVec 64) := ⟨fun i => [U i], 1, Nat.one_pos, fun _ => rfl, fun _ v h => by simp at h; subst h; rfl, True⟩
def encS : Enc (List UInt8) := ⟨fun s => [.string ⟨s.toArray⟩], 1, Nat.one_pos, fun _ => rfl, fun _ v h => by simp at h; subst h; rfl, True⟩
end Go.Eng
