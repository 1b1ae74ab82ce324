/- Rows of the function's own that hold rows of its own. Conditions: none. -/
import Derived.Test.YtdgejbbelmhbdaaDoorYt
namespace Go.Eng
open Go Go.RowKit
/-- The blocks of S are seen. -/
def SeenB (c : Addr → Option Value) (S : List Bl) : Prop := ∀ x ∈ S, ∀ k u, x.2.2[k]? = some u → c ⟨x.1, k, none⟩ = some u
theorem SeenB.left {c : Addr → Option Value} {S S' : List Bl} (h : SeenB c (S ++ S')) : SeenB c S := fun x hx => h x (List.mem_append_left _ hx)
theorem SeenB.right {c : Addr → Option Value} {S S' : List Bl} (h : SeenB c (S ++ S')) : SeenB c S' := fun x hx => h x (List.mem_append_right _ hx)
theorem Sl.rdB {α : Type} {e : TypeId} {en : Enc α} {v : Value} {xs : List α} {S : List Bl} {c : Addr → Option Value} (h : Sl e en v xs S) (hc : SeenB c S) : Rd en c v xs := by
  rcases h with ⟨a, rfl, rfl, _⟩ | ⟨b, cap, cs, rfl, h1, h2, h3, rfl⟩
  · rcases a with _ | a
    · exact .inl ⟨rfl, rfl⟩
    · exact .inr ⟨a, 0, rfl, (fun h => absurd h (Nat.lt_irrefl 0)), Nat.le_refl _, fun k u hk => by simp [Enc.all] at hk⟩
  · refine .inr ⟨_, cap, rfl, (fun _ => rfl), h1, fun k u hk => ?_⟩
    show c ⟨b, 0 + k, none⟩ = some u
    rw [Nat.zero_add]
    refine hc (b, e, cs) (by simp) k u ?_
    rw [← h3] at hk
    obtain ⟨hlt, hk⟩ := List.getElem?_eq_some_iff.1 hk
    rw [List.getElem_take] at hk
    show cs[k]? = some u
    rw [← Array.getElem?_toList, List.getElem?_eq_some_iff]
    exact ⟨_, hk⟩
/-- What a datum's cells are, and the blocks that are behind them. -/
structure EncO (α : Type) where
  R : α → List Value → List Bl → Prop
  sz : Nat
  pos : 0 < sz
  len : ∀ {x vs S}, R x vs S → vs.length = sz
  one : ∀ {x vs S}, R x vs S → ∀ v ∈ vs, v.oneCell' = true
  wit : ∀ x k, ∃ vs S, R x vs S ∧ (S.map (·.1)).Nodup ∧ ∀ b ∈ S, k < b.1
  V : (Addr → Option Value) → α → List Value → Prop
  mono : ∀ {c c' x vs}, (∀ a v, c a = some v → c' a = some v) → V c x vs → V c' x vs
  view : ∀ {c x vs S}, R x vs S → SeenB c S → V c x vs
def EncO.r {α : Type} (E : EncO α) : EncR α := ⟨E.V, E.sz, E.pos, E.mono⟩
theorem EncO.cast {α : Type} {E : EncO α} {x : α} {vs : List Value} {S S' : List Bl} (h : E.R x vs S) (e : S = S') : E.R x vs S' := e ▸ h
theorem exMaxB (S : List Bl) (k : Nat) : ∃ K, k ≤ K ∧ ∀ x ∈ S, x.1 ≤ K := by
  obtain ⟨K, h1, h2⟩ := exMax (S.map (·.1)) k
  exact ⟨K, h1, fun x hx => h2 _ (List.mem_map.2 ⟨x, hx, rfl⟩)⟩
theorem nod_app {S S' : List Bl} {K : Nat} (h : (S.map (·.1)).Nodup) (h' : (S'.map (·.1)).Nodup) (h1 : ∀ x ∈ S, x.1 ≤ K) (h2 : ∀ x ∈ S', K < x.1) : ((S ++ S').map (·.1)).Nodup := by
  rw [List.map_append, List.nodup_append]
  refine ⟨h, h', fun a ha b hb e => ?_⟩
  obtain ⟨x, hx, rfl⟩ := List.mem_map.1 ha
  obtain ⟨y, hy, rfl⟩ := List.mem_map.1 hb
  have := h1 x hx; have := h2 y hy; omega
/-- Cells of one datum. -/
def Raw (n : Nat) : Type := { l : List Value // l.length = n ∧ ∀ v ∈ l, v.oneCell' = true }
instance (n : Nat) : Inhabited (Raw n) := ⟨⟨List.replicate n (.bool false), List.length_replicate, fun v hv => by rw [List.eq_of_mem_replicate hv]; rfl⟩⟩
def encRaw (n : Nat) (h : 0 < n) : Enc (Raw n) := ⟨Subtype.val, n, h, fun x => x.2.1, fun x v hv => x.2.2 v hv, True⟩
def EncO.raw {α : Type} (E : EncO α) : Enc (Raw E.sz) := encRaw E.sz E.pos
def EncO.of {α : Type} (E : EncO α) {x : α} {vs : List Value} {S : List Bl} (h : E.R x vs S) : Raw E.sz := ⟨vs, E.len h, E.one h⟩
inductive Items {α : Type} (E : EncO α) : List (Raw E.sz) → List α → List Bl → Prop
  | nil : Items E [] [] []
  | cons {r : Raw E.sz} {rs : List (Raw E.sz)} {x : α} {xs : List α} {S S' : List Bl} (h : E.R x r.1 S) (t : Items E rs xs S') : Items E (r :: rs) (x :: xs) (S ++ S')
theorem Items.cast {α : Type} {E : EncO α} {rs : List (Raw E.sz)} {xs : List α} {S S' : List Bl} (h : Items E rs xs S) (e : S = S') : Items E rs xs S' := e ▸ h
theorem Items.len {α : Type} {E : EncO α} {rs : List (Raw E.sz)} {xs : List α} {S : List Bl} (h : Items E rs xs S) : rs.length = xs.length := by
  induction h with
  | nil => rfl
  | cons _ _ ih => rw [List.length_cons, List.length_cons, ih]
theorem Items.one {α : Type} {E : EncO α} {x : α} {vs : List Value} {S : List Bl} (h : E.R x vs S) : Items E [E.of h] [x] S := (Items.cons (r := E.of h) h .nil).cast (List.append_nil S)
theorem Items.append {α : Type} {E : EncO α} {rs rs' : List (Raw E.sz)} {xs xs' : List α} {S S' : List Bl} (h : Items E rs xs S) (h' : Items E rs' xs' S') : Items E (rs ++ rs') (xs ++ xs') (S ++ S') := by
  induction h with
  | nil => exact h'
  | cons hx _ ih => rw [List.append_assoc]; exact .cons hx ih
theorem Items.take {α : Type} {E : EncO α} {rs : List (Raw E.sz)} {xs : List α} {S : List Bl} (h : Items E rs xs S) (n : Nat) : ∃ S1 S2, Items E (rs.take n) (xs.take n) S1 ∧ Items E (rs.drop n) (xs.drop n) S2 ∧ S = S1 ++ S2 := by
  induction h generalizing n with
  | nil => exact ⟨[], [], by simpa using Items.nil, by simpa using Items.nil, rfl⟩
  | @cons r rs x xs S S' hx ht ih =>
    cases n with
    | zero => exact ⟨[], S ++ S', .nil, .cons hx ht, rfl⟩
    | succ n =>
      obtain ⟨S1, S2, h1, h2, rfl⟩ := ih n
      exact ⟨S ++ S1, S2, .cons hx h1, h2, (List.append_assoc ..).symm⟩
/-- One of the items: what it has, and the whole with another one in its place. -/
theorem Items.at {α : Type} {E : EncO α} {rs : List (Raw E.sz)} {xs : List α} {S : List Bl} (h : Items E rs xs S) {i : Nat} {x : α} (hx : xs[i]? = some x) :
    ∃ (r : Raw E.sz) (A B Si : List Bl), rs[i]? = some r ∧ E.R x r.1 Si ∧ S = A ++ (Si ++ B) ∧ ∀ (x' : α) (r' : Raw E.sz) (S' : List Bl), E.R x' r'.1 S' → Items E (rs.set i r') (xs.set i x') (A ++ (S' ++ B)) := by
  induction h generalizing i with
  | nil => simp at hx
  | @cons r rs y xs S S' hy ht ih =>
    cases i with
    | zero =>
      simp at hx; subst hx
      exact ⟨r, [], S', S, rfl, hy, rfl, fun x' r' S'' h' => (Items.cons (S := S'') (r := r') h' ht : Items E (r' :: rs) (x' :: xs) (S'' ++ S'))⟩
    | succ i =>
      obtain ⟨r1, A, B, Si, h1, h2, rfl, h3⟩ := ih (by simpa using hx)
      exact ⟨r1, S ++ A, B, Si, by simpa using h1, h2, (List.append_assoc ..).symm, fun x' r' S'' h' => (Items.cons hy (h3 x' r' S'' h')).cast (List.append_assoc ..).symm⟩
theorem Items.wit {α : Type} (E : EncO α) : ∀ (xs : List α) (k : Nat), ∃ rs S, Items E rs xs S ∧ (S.map (·.1)).Nodup ∧ ∀ b ∈ S, k < b.1
  | [], k => ⟨[], [], .nil, List.nodup_nil, fun _ h => (nomatch h)⟩
  | x :: xs, k => by
    obtain ⟨v1, S1, h1, n1, k1⟩ := E.wit x k
    obtain ⟨K, hK, hm⟩ := exMaxB S1 k
    obtain ⟨rs, S2, h2, n2, k2⟩ := Items.wit E xs K
    exact ⟨_, _, .cons (r := E.of h1) h1 h2, nod_app n1 n2 hm k2, fun b hb => by
      rcases List.mem_append.1 hb with hb | hb
      · exact k1 b hb
      · have := k2 b hb; omega⟩
theorem Items.view {α : Type} {E : EncO α} {rs : List (Raw E.sz)} {xs : List α} {S : List Bl} {c : Addr → Option Value} (h : Items E rs xs S) (hc : SeenB c S) : ∀ (i : Nat) (x : α), xs[i]? = some x → ∃ r : Raw E.sz, rs[i]? = some r ∧ E.V c x r.1 := fun i x hx => by
  obtain ⟨r, A, B, Si, h1, h2, rfl, _⟩ := h.at hx
  exact ⟨r, h1, E.view h2 hc.right.left⟩
/-- v is a slice whose block, and all that is behind it, is the function's own: S. -/
def SlO {α : Type} (e : TypeId) (E : EncO α) (v : Value) (xs : List α) (S : List Bl) : Prop := ∃ rs S0 Si, Sl e E.raw v rs S0 ∧ Items E rs xs Si ∧ S = S0 ++ Si
theorem SlO.nil {α : Type} {e : TypeId} {E : EncO α} : SlO e E (.slice none 0 0) [] [] := ⟨[], [], [], .nil, .nil, rfl⟩
theorem SlO.cast {α : Type} {e : TypeId} {E : EncO α} {v : Value} {xs : List α} {S S' : List Bl} (h : SlO e E v xs S) (e' : S = S') : SlO e E v xs S' := e' ▸ h
theorem SlO.shp {α : Type} {e : TypeId} {E : EncO α} {v : Value} {xs : List α} {S : List Bl} (h : SlO e E v xs S) : Shp v xs.length := by
  obtain ⟨rs, S0, Si, h1, h2, _⟩ := h
  rw [← h2.len]; exact h1.shp
theorem SlO.wit {α : Type} (e : TypeId) (E : EncO α) (xs : List α) (k : Nat) : ∃ v S, SlO e E v xs S ∧ (S.map (·.1)).Nodup ∧ ∀ x ∈ S, k < x.1 := by
  obtain ⟨rs, Si, hi, ni, ki⟩ := Items.wit E xs k
  obtain ⟨K, hK, hm⟩ := exMaxB Si k
  obtain ⟨v, S, h, hk⟩ := Sl.wit e E.raw rs K
  refine ⟨v, S ++ Si, ⟨rs, S, Si, h, hi, rfl⟩, ?_, fun b hb => ?_⟩
  · have := nod_app ni h.nod hm hk
    rw [List.map_append] at this ⊢
    exact (List.perm_append_comm.nodup_iff).1 this
  · rcases List.mem_append.1 hb with hb | hb
    · have := hk b hb; omega
    · exact ki b hb
theorem SlO.view {α : Type} {e : TypeId} {E : EncO α} {v : Value} {xs : List α} {S : List Bl} {c : Addr → Option Value} (h : SlO e E v xs S) (hc : SeenB c S) : RdN E.r c v xs := by
  obtain ⟨rs, S0, Si, h1, h2, rfl⟩ := h
  have hl := h2.len
  rcases h1.rdB hc.left with ⟨rfl, hr⟩ | ⟨a, cap, rfl, h0, hcap, hr⟩
  · subst hr
    exact .inl ⟨rfl, List.eq_nil_of_length_eq_zero (by simpa using hl.symm)⟩
  · refine .inr ⟨a, cap, by rw [hl], h0, by omega, fun i x hx => ?_⟩
    obtain ⟨r, hr1, hr2⟩ := h2.view hc.right i x hx
    exact ⟨r.1, hr2, fun j u hj => hr _ _ (E.raw.all_get hr1 j u hj)⟩
theorem RdN.map {α : Type} {E E' : EncR α} {c : Addr → Option Value} {v : Value} {xs : List α} (h : RdN E c v xs) (hs : E.sz = E'.sz) (hr : ∀ x vs, E.R c x vs → E'.R c x vs) : RdN E' c v xs := by
  rcases h with h | ⟨a, cap, h1, h2, h3, h4⟩
  · exact .inl h
  · refine .inr ⟨a, cap, h1, h2, h3, fun i x hx => ?_⟩
    obtain ⟨vs, h5, h6⟩ := h4 i x hx
    exact ⟨vs, hr x vs h5, fun j u hj => by rw [← hs]; exact h6 j u hj⟩
theorem SlO.add {α : Type} {e : TypeId} {E : EncO α} {v : Value} {rs rs' : List (Raw E.sz)} {xs xs' : List α} {S0 Si Si' : List Bl} (h : Sl e E.raw v (rs ++ rs') S0) (hi : Items E rs xs Si) (hi' : Items E rs' xs' Si') : SlO e E v (xs ++ xs') (S0 ++ (Si ++ Si')) := ⟨_, _, _, h, hi.append hi', rfl⟩
theorem SeenB.part {c : Addr → Option Value} {S S' : List Bl} (h : SeenB c S) (hs : ∀ x ∈ S', x ∈ S) : SeenB c S' := fun x hx => h x (hs x hx)
theorem Items.same {α : Type} {E : EncO α} {rs : List (Raw E.sz)} {xs : List α} {S : List Bl} {i : Nat} {r : Raw E.sz} (hr : rs[i]? = some r) (h : Items E (rs.set i r) xs S) : Items E rs xs S := by
  obtain ⟨hlt, he⟩ := List.getElem?_eq_some_iff.1 hr
  rw [← he, List.set_getElem_self] at h
  exact h
section
variable {P : Program} {c : Addr → Option Value} {ρ : Operand → Value} {d : Option Tmp} {t t' e : TypeId} {i : TypeInfo} {x y : Operand} {ty : TypeId} {pos : String} {af : Array Edge} {g : Option (Nat × Bool)} {a : Addr}
end
def isNl : Value → Bool
  | .slice none _ _ => true
  | _ => false
theorem nilS_or {v : Value} {n : Nat} (h : Shp v n) : (v = .slice none 0 0 ∧ n = 0) ∨ isNl v = false := by
  rcases h with h | ⟨a, cap, rfl, _⟩
  · exact .inl h
  · exact .inr rfl
section
variable {P : Program} {c : Addr → Option Value} {ρ : Operand → Value} {d : Option Tmp} {t t' e : TypeId} {x y : Operand} {ty : TypeId} {pos : String} {af : Array Edge} {g : Option (Nat × Bool)} {v : Value} {n : Nat}
theorem ev_eqlNil (hx : ρ x = v) (hy : ρ y = .slice none 0 0) (ht : P.underlying t = some (.slice e)) (hs : Shp v n) (hn : isNl v = false) :
    ev P c (execOp ρ ⟨d, .binOp .eql t x y t', ty, pos, af, g⟩) = some (.value (.bool false)) := by
  refine ev_v (s := do eqGuard .eql t x y (ρ x) (ρ y); binOp .eql t (ρ x) (ρ y)) ?_
  rcases hs with ⟨rfl, _⟩ | ⟨a, cap, rfl, _⟩
  · cases hn
  rw [hx, hy]
  have h1 : ev P c (eqGuard .eql t x y (.slice (some a) n cap) (.slice none 0 0)) = some () := by simp [eqGuard, ev_pure]
  have h2 : ev P c (Op.equal t (.slice (some a) n cap) (.slice none 0 0)) = some false := by
    show ev P c (Op.equalIn (9999 + 1) t (.slice (some a) n cap) (.slice none 0 0)) = some false
    unfold Op.equalIn
    simp only [ev_bind, ev_underlying ht, Option.bind_some, ev_pure]
  simp only [ev_bind, h1, Option.bind_some, binOp, h2, ev_pure]
end
section
variable {P : Program} {c : Addr → Option Value} {ρ : Operand → Value} {d : Option Tmp} {ty : TypeId} {pos : String} {af : Array Edge} {g : Option (Nat × Bool)}
end
section
variable {P : Program} {c : Addr → Option Value} {ρ : Operand → Value} {d : Option Tmp} {t t' : TypeId} {a b : Operand} {ty : TypeId} {pos : String} {af : Array Edge} {g : Option (Nat × Bool)}
end
end Go.Eng
