/- Rows of the function's own that hold rows of its own. Conditions: none. -/
import Derived.Test.YtnpbpllibmcokaaUt
namespace Go.Eng
open Go Go.RowKit

/-- The blocks of S are seen. -/
def SeenB (c : Addr → Option Value) (S : List Bl) : Prop := ∀ x ∈ S, ∀ k u, x.2.2[k]? = some u → c ⟨x.1, k, none⟩ = some u
theorem SeenB.left {c : Addr → Option Value} {S S' : List Bl} (h : SeenB c (S ++ S')) : SeenB c S := fun x hx => h x (List.mem_append_left _ hx)
theorem SeenB.right {c : Addr → Option Value} {S S' : List Bl} (h : SeenB c (S ++ S')) : SeenB c S' := fun x hx => h x (List.mem_append_right _ hx)
theorem seenB_of {E : Env} {l : List Bl} {m : Nat} {S : List Bl} (hS : ∀ x ∈ S, ∃ i, m ≤ i ∧ l[i]? = some x) : ∀ own nw, Sees E l m own nw → SeenB (cellA E own nw) S := fun own nw hs x hx k u hk => by
  obtain ⟨i, hmi, hi⟩ := hS x hx
  obtain ⟨g1, g2⟩ := hs.has i _ _ hi
  rw [cellA_own (cs := x.2.2) g1 (by rw [g2]; simp; omega)]
  exact hk
theorem Sl.rdB {α : Type} {e : TypeId} {en : Enc α} {v : Value} {xs : List α} {S : List Bl} {c : Addr → Option Value} (h : Sl e en v xs S) (hc : SeenB c S) : Rd en c v xs := by
  rcases h with ⟨a, rfl, rfl, _⟩ | ⟨b, cap, cs, rfl, h1, h2, h3, rfl⟩
  · rcases a with _ | a
    · exact .inl ⟨rfl, rfl⟩
    · exact .inr ⟨a, 0, rfl, (fun h => absurd h (Nat.lt_irrefl 0)), Nat.le_refl _, fun k u hk => by simp [Enc.all] at hk⟩
  · refine .inr ⟨_, cap, rfl, (fun _ => rfl), h1, fun k u hk => ?_⟩
    show c ⟨b, 0 + k, none⟩ = some u
    rw [Nat.zero_add]
    refine hc (b, e, cs) (by simp) k u ?_
    rw [← h3] at hk
    obtain ⟨hlt, hk⟩ := List.getElem?_eq_some_iff.1 hk
    rw [List.getElem_take] at hk
    show cs[k]? = some u
    rw [← Array.getElem?_toList, List.getElem?_eq_some_iff]
    exact ⟨_, hk⟩

/-- What a datum's cells are, and the blocks that are behind them. -/
structure EncO (α : Type) where
  R : α → List Value → List Bl → Prop
  sz : Nat
  pos : 0 < sz
  len : ∀ {x vs S}, R x vs S → vs.length = sz
  one : ∀ {x vs S}, R x vs S → ∀ v ∈ vs, v.oneCell' = true
  wit : ∀ x k, ∃ vs S, R x vs S ∧ (S.map (·.1)).Nodup ∧ ∀ b ∈ S, k < b.1
  V : (Addr → Option Value) → α → List Value → Prop
  mono : ∀ {c c' x vs}, (∀ a v, c a = some v → c' a = some v) → V c x vs → V c' x vs
  view : ∀ {c x vs S}, R x vs S → SeenB c S → V c x vs
def EncO.r {α : Type} (E : EncO α) : EncR α := ⟨E.V, E.sz, E.pos, E.mono⟩
theorem EncO.cast {α : Type} {E : EncO α} {x : α} {vs : List Value} {S S' : List Bl} (h : E.R x vs S) (e : S = S') : E.R x vs S' := e ▸ h
theorem exMaxB (S : List Bl) (k : Nat) : ∃ K, k ≤ K ∧ ∀ x ∈ S, x.1 ≤ K := by
  obtain ⟨K, h1, h2⟩ := exMax (S.map (·.1)) k
  exact ⟨K, h1, fun x hx => h2 _ (List.mem_map.2 ⟨x, hx, rfl⟩)⟩
theorem nod_app {S S' : List Bl} {K : Nat} (h : (S.map (·.1)).Nodup) (h' : (S'.map (·.1)).Nodup) (h1 : ∀ x ∈ S, x.1 ≤ K) (h2 : ∀ x ∈ S', K < x.1) : ((S ++ S').map (·.1)).Nodup := by
  rw [List.map_append, List.nodup_append]
  refine ⟨h, h', fun a ha b hb e => ?_⟩
  obtain ⟨x, hx, rfl⟩ := List.mem_map.1 ha
  obtain ⟨y, hy, rfl⟩ := List.mem_map.1 hb
  have := h1 x hx; have := h2 y hy; omega
/-- Flat data. -/
def encoF {α : Type} (E : Enc α) : EncO α where
  R x vs S := vs = E.f x ∧ S = []
  sz := E.sz
  pos := E.pos
  len h := by rw [h.1, E.len]
  one h := by rw [h.1]; exact E.one _
  wit x k := ⟨_, [], ⟨rfl, rfl⟩, List.nodup_nil, fun _ h => (nomatch h)⟩
  V _ x vs := vs = E.f x
  mono _ h := h
  view h _ := h.1
/-- A row of flat data. -/
def encoS {α : Type} (e : TypeId) (E : Enc α) : EncO (List α) where
  R xs vs S := ∃ v, vs = [v] ∧ Sl e E v xs S
  sz := 1
  pos := Nat.one_pos
  len := fun ⟨_, h, _⟩ => by rw [h]; rfl
  one := fun ⟨v, h, hs⟩ u hu => by rw [h, List.mem_singleton] at hu; subst hu; exact hs.shp.one
  wit xs k := by
    obtain ⟨v, S, h, hk⟩ := Sl.wit e E xs k
    exact ⟨[v], S, ⟨v, rfl, h⟩, h.nod, hk⟩
  V c xs vs := ∃ v, vs = [v] ∧ Rd E c v xs
  mono hc := fun ⟨v, h, hr⟩ => ⟨v, h, hr.mono hc⟩
  view := fun ⟨v, h, hs⟩ hc => ⟨v, h, hs.rdB hc⟩
/-- Two data, one behind the other. -/
def encoP {α β : Type} (A : EncO α) (B : EncO β) : EncO (α × β) where
  R x vs S := ∃ v1 v2 S1 S2, A.R x.1 v1 S1 ∧ B.R x.2 v2 S2 ∧ vs = v1 ++ v2 ∧ S = S1 ++ S2
  sz := A.sz + B.sz
  pos := Nat.add_pos_left A.pos _
  len := fun ⟨_, _, _, _, h1, h2, h, _⟩ => by rw [h, List.length_append, A.len h1, B.len h2]
  one := fun ⟨_, _, _, _, h1, h2, h, _⟩ v hv => by
    rw [h, List.mem_append] at hv
    exact hv.elim (A.one h1 v) (B.one h2 v)
  wit x k := by
    obtain ⟨v1, S1, h1, n1, k1⟩ := A.wit x.1 k
    obtain ⟨K, hK, hm⟩ := exMaxB S1 k
    obtain ⟨v2, S2, h2, n2, k2⟩ := B.wit x.2 K
    exact ⟨_, _, ⟨v1, v2, S1, S2, h1, h2, rfl, rfl⟩, nod_app n1 n2 hm k2, fun b hb => by
      rcases List.mem_append.1 hb with hb | hb
      · exact k1 b hb
      · have := k2 b hb; omega⟩
  V c x vs := ∃ v1 v2, A.V c x.1 v1 ∧ B.V c x.2 v2 ∧ vs = v1 ++ v2
  mono hc := fun ⟨v1, v2, h1, h2, h⟩ => ⟨v1, v2, A.mono hc h1, B.mono hc h2, h⟩
  view := fun ⟨v1, v2, _, _, h1, h2, h, hS⟩ hc => by subst hS; exact ⟨v1, v2, A.view h1 hc.left, B.view h2 hc.right, h⟩
/-- Cells of one datum. -/
def Raw (n : Nat) : Type := { l : List Value // l.length = n ∧ ∀ v ∈ l, v.oneCell' = true }
instance (n : Nat) : Inhabited (Raw n) := ⟨⟨List.replicate n (.bool false), List.length_replicate, fun v hv => by rw [List.eq_of_mem_replicate hv]; rfl⟩⟩
def encRaw (n : Nat) (h : 0 < n) : Enc (Raw n) := ⟨Subtype.val, n, h, fun x => x.2.1, fun x v hv => x.2.2 v hv, True⟩
def EncO.raw {α : Type} (E : EncO α) : Enc (Raw E.sz) := encRaw E.sz E.pos
theorem EncO.raw_sz {α : Type} (E : EncO α) : E.raw.sz = E.sz := rfl
def EncO.of {α : Type} (E : EncO α) {x : α} {vs : List Value} {S : List Bl} (h : E.R x vs S) : Raw E.sz := ⟨vs, E.len h, E.one h⟩
theorem EncO.of_f {α : Type} (E : EncO α) {x : α} {vs : List Value} {S : List Bl} (h : E.R x vs S) : E.raw.f (E.of h) = vs := rfl
inductive Items {α : Type} (E : EncO α) : List (Raw E.sz) → List α → List Bl → Prop
  | nil : Items E [] [] []
  | cons {r : Raw E.sz} {rs : List (Raw E.sz)} {x : α} {xs : List α} {S S' : List Bl} (h : E.R x r.1 S) (t : Items E rs xs S') : Items E (r :: rs) (x :: xs) (S ++ S')
theorem Items.cast {α : Type} {E : EncO α} {rs : List (Raw E.sz)} {xs : List α} {S S' : List Bl} (h : Items E rs xs S) (e : S = S') : Items E rs xs S' := e ▸ h
theorem Items.len {α : Type} {E : EncO α} {rs : List (Raw E.sz)} {xs : List α} {S : List Bl} (h : Items E rs xs S) : rs.length = xs.length := by
  induction h with
  | nil => rfl
  | cons _ _ ih => rw [List.length_cons, List.length_cons, ih]
theorem Items.one {α : Type} {E : EncO α} {x : α} {vs : List Value} {S : List Bl} (h : E.R x vs S) : Items E [E.of h] [x] S := (Items.cons (r := E.of h) h .nil).cast (List.append_nil S)
theorem Items.append {α : Type} {E : EncO α} {rs rs' : List (Raw E.sz)} {xs xs' : List α} {S S' : List Bl} (h : Items E rs xs S) (h' : Items E rs' xs' S') : Items E (rs ++ rs') (xs ++ xs') (S ++ S') := by
  induction h with
  | nil => exact h'
  | cons hx _ ih => rw [List.append_assoc]; exact .cons hx ih
theorem Items.take {α : Type} {E : EncO α} {rs : List (Raw E.sz)} {xs : List α} {S : List Bl} (h : Items E rs xs S) (n : Nat) : ∃ S1 S2, Items E (rs.take n) (xs.take n) S1 ∧ Items E (rs.drop n) (xs.drop n) S2 ∧ S = S1 ++ S2 := by
  induction h generalizing n with
  | nil => exact ⟨[], [], by simpa using Items.nil, by simpa using Items.nil, rfl⟩
  | @cons r rs x xs S S' hx ht ih =>
    cases n with
    | zero => exact ⟨[], S ++ S', .nil, .cons hx ht, rfl⟩
    | succ n =>
      obtain ⟨S1, S2, h1, h2, rfl⟩ := ih n
      exact ⟨S ++ S1, S2, .cons hx h1, h2, (List.append_assoc ..).symm⟩
/-- One of the items: what it has, and the whole with another one in its place. -/
theorem Items.at {α : Type} {E : EncO α} {rs : List (Raw E.sz)} {xs : List α} {S : List Bl} (h : Items E rs xs S) {i : Nat} {x : α} (hx : xs[i]? = some x) :
    ∃ (r : Raw E.sz) (A B Si : List Bl), rs[i]? = some r ∧ E.R x r.1 Si ∧ S = A ++ (Si ++ B) ∧ ∀ (x' : α) (r' : Raw E.sz) (S' : List Bl), E.R x' r'.1 S' → Items E (rs.set i r') (xs.set i x') (A ++ (S' ++ B)) := by
  induction h generalizing i with
  | nil => simp at hx
  | @cons r rs y xs S S' hy ht ih =>
    cases i with
    | zero =>
      simp at hx; subst hx
      exact ⟨r, [], S', S, rfl, hy, rfl, fun x' r' S'' h' => (Items.cons (S := S'') (r := r') h' ht : Items E (r' :: rs) (x' :: xs) (S'' ++ S'))⟩
    | succ i =>
      obtain ⟨r1, A, B, Si, h1, h2, rfl, h3⟩ := ih (by simpa using hx)
      exact ⟨r1, S ++ A, B, Si, by simpa using h1, h2, (List.append_assoc ..).symm, fun x' r' S'' h' => (Items.cons hy (h3 x' r' S'' h')).cast (List.append_assoc ..).symm⟩
theorem Items.wit {α : Type} (E : EncO α) : ∀ (xs : List α) (k : Nat), ∃ rs S, Items E rs xs S ∧ (S.map (·.1)).Nodup ∧ ∀ b ∈ S, k < b.1
  | [], k => ⟨[], [], .nil, List.nodup_nil, fun _ h => (nomatch h)⟩
  | x :: xs, k => by
    obtain ⟨v1, S1, h1, n1, k1⟩ := E.wit x k
    obtain ⟨K, hK, hm⟩ := exMaxB S1 k
    obtain ⟨rs, S2, h2, n2, k2⟩ := Items.wit E xs K
    exact ⟨_, _, .cons (r := E.of h1) h1 h2, nod_app n1 n2 hm k2, fun b hb => by
      rcases List.mem_append.1 hb with hb | hb
      · exact k1 b hb
      · have := k2 b hb; omega⟩
theorem Items.view {α : Type} {E : EncO α} {rs : List (Raw E.sz)} {xs : List α} {S : List Bl} {c : Addr → Option Value} (h : Items E rs xs S) (hc : SeenB c S) : ∀ (i : Nat) (x : α), xs[i]? = some x → ∃ r : Raw E.sz, rs[i]? = some r ∧ E.V c x r.1 := fun i x hx => by
  obtain ⟨r, A, B, Si, h1, h2, rfl, _⟩ := h.at hx
  exact ⟨r, h1, E.view h2 hc.right.left⟩
/-- v is a slice whose block, and all that is behind it, is the function's own: S. -/
def SlO {α : Type} (e : TypeId) (E : EncO α) (v : Value) (xs : List α) (S : List Bl) : Prop := ∃ rs S0 Si, Sl e E.raw v rs S0 ∧ Items E rs xs Si ∧ S = S0 ++ Si
theorem SlO.nil {α : Type} {e : TypeId} {E : EncO α} : SlO e E (.slice none 0 0) [] [] := ⟨[], [], [], .nil, .nil, rfl⟩
theorem SlO.of_nil {α : Type} {e : TypeId} {E : EncO α} {v : Value} (h : Sl e E.raw v [] []) : SlO e E v [] [] := ⟨[], [], [], h, .nil, rfl⟩
theorem SlO.cast {α : Type} {e : TypeId} {E : EncO α} {v : Value} {xs : List α} {S S' : List Bl} (h : SlO e E v xs S) (e' : S = S') : SlO e E v xs S' := e' ▸ h
theorem SlO.shp {α : Type} {e : TypeId} {E : EncO α} {v : Value} {xs : List α} {S : List Bl} (h : SlO e E v xs S) : Shp v xs.length := by
  obtain ⟨rs, S0, Si, h1, h2, _⟩ := h
  rw [← h2.len]; exact h1.shp
theorem SlO.wit {α : Type} (e : TypeId) (E : EncO α) (xs : List α) (k : Nat) : ∃ v S, SlO e E v xs S ∧ (S.map (·.1)).Nodup ∧ ∀ x ∈ S, k < x.1 := by
  obtain ⟨rs, Si, hi, ni, ki⟩ := Items.wit E xs k
  obtain ⟨K, hK, hm⟩ := exMaxB Si k
  obtain ⟨v, S, h, hk⟩ := Sl.wit e E.raw rs K
  refine ⟨v, S ++ Si, ⟨rs, S, Si, h, hi, rfl⟩, ?_, fun b hb => ?_⟩
  · have := nod_app ni h.nod hm hk
    rw [List.map_append] at this ⊢
    exact (List.perm_append_comm.nodup_iff).1 this
  · rcases List.mem_append.1 hb with hb | hb
    · have := hk b hb; omega
    · exact ki b hb
theorem SlO.view {α : Type} {e : TypeId} {E : EncO α} {v : Value} {xs : List α} {S : List Bl} {c : Addr → Option Value} (h : SlO e E v xs S) (hc : SeenB c S) : RdN E.r c v xs := by
  obtain ⟨rs, S0, Si, h1, h2, rfl⟩ := h
  have hl := h2.len
  rcases h1.rdB hc.left with ⟨rfl, hr⟩ | ⟨a, cap, rfl, h0, hcap, hr⟩
  · subst hr
    exact .inl ⟨rfl, List.eq_nil_of_length_eq_zero (by simpa using hl.symm)⟩
  · refine .inr ⟨a, cap, by rw [hl], h0, by omega, fun i x hx => ?_⟩
    obtain ⟨r, hr1, hr2⟩ := h2.view hc.right i x hx
    exact ⟨r.1, hr2, fun j u hj => hr _ _ (E.raw.all_get hr1 j u hj)⟩
/-- Rows of rows. -/
def encoN {α : Type} (e : TypeId) (E : EncO α) : EncO (List α) where
  R xs vs S := ∃ v, vs = [v] ∧ SlO e E v xs S
  sz := 1
  pos := Nat.one_pos
  len := fun ⟨_, h, _⟩ => by rw [h]; rfl
  one := fun ⟨v, h, hs⟩ u hu => by rw [h, List.mem_singleton] at hu; subst hu; exact hs.shp.one
  wit xs k := by
    obtain ⟨v, S, h, n, hk⟩ := SlO.wit e E xs k
    exact ⟨[v], S, ⟨v, rfl, h⟩, n, hk⟩
  V c xs vs := ∃ v, vs = [v] ∧ RdN E.r c v xs
  mono hc := fun ⟨v, h, hr⟩ => ⟨v, h, hr.mono hc⟩
  view := fun ⟨v, h, hs⟩ hc => ⟨v, h, hs.view hc⟩
theorem RdN.map {α : Type} {E E' : EncR α} {c : Addr → Option Value} {v : Value} {xs : List α} (h : RdN E c v xs) (hs : E.sz = E'.sz) (hr : ∀ x vs, E.R c x vs → E'.R c x vs) : RdN E' c v xs := by
  rcases h with h | ⟨a, cap, h1, h2, h3, h4⟩
  · exact .inl h
  · refine .inr ⟨a, cap, h1, h2, h3, fun i x hx => ?_⟩
    obtain ⟨vs, h5, h6⟩ := h4 i x hx
    exact ⟨vs, hr x vs h5, fun j u hj => by rw [← hs]; exact h6 j u hj⟩
/-- The parts' list may be parted otherwise. -/
theorem lx_eq {E : Env} {g : Bool} {ops : Array Oper} {K : (Nat → Value) → List Bl → Prop} {r : List Oper} {T : Nat → Value} {m : Nat} {Ls Ls' : List (List Bl)} (he : Ls.flatten = Ls'.flatten) (h : lx E g ops K r T Ls'.flatten m) : lx E g ops K r T Ls.flatten m := he ▸ h
theorem mem_sub {S A Si B : List Bl} (e : S = A ++ (Si ++ B)) {P : Bl → Prop} (h : ∀ x ∈ S, P x) : ∀ x ∈ Si, P x := fun x hx => h x (by rw [e]; exact List.mem_append_right _ (List.mem_append_left _ hx))
theorem mem_left {S A B : List Bl} (e : S = A ++ B) {P : Bl → Prop} (h : ∀ x ∈ S, P x) : ∀ x ∈ A, P x := fun x hx => h x (by rw [e]; exact List.mem_append_left _ hx)
theorem mem_right {S A B : List Bl} (e : S = A ++ B) {P : Bl → Prop} (h : ∀ x ∈ S, P x) : ∀ x ∈ B, P x := fun x hx => h x (by rw [e]; exact List.mem_append_right _ hx)
/-! ### What is told of calls -/
abbrev oSO {α : Type} (e : TypeId) (En : EncO α) (xs : List α) (P : Value → PO) : PO := fun v O => ∃ s S O', SlO e En s xs S ∧ P s v O' ∧ O = S :: O'
theorem niceSO {α : Type} {e : TypeId} {En : EncO α} {xs : List α} {P : Value → PO} {R : List Bl} (h : ∀ s, NiceO (P s) R) : NiceO (oSO e En xs P) R := fun hn k => by
  obtain ⟨K, hk, hR⟩ := exMax (R.map (·.1)) k
  obtain ⟨s, S, hS, hSn, hSk⟩ := SlO.wit e En xs K
  obtain ⟨K2, hk2, hS2⟩ := exMax (S.map (·.1)) K
  obtain ⟨v, O, h1, h2, h3⟩ := h s hn K2
  refine ⟨v, S :: O, ⟨s, S, O, hS, h1, rfl⟩, ?_, fun x hx => ?_⟩
  · rw [List.flatten_cons, List.map_append, List.nodup_append]
    refine ⟨hSn, h2, fun a ha b hb => ?_⟩
    obtain ⟨x, hx, rfl⟩ := List.mem_map.1 ha
    obtain ⟨y, hy, rfl⟩ := List.mem_map.1 hb
    have e1 := hSk x hx
    have e2 := hS2 x.1 ha
    rcases h3 y hy with h4 | h4
    · have := hR _ h4; omega
    · omega
  · rw [List.flatten_cons] at hx
    rcases List.mem_append.1 hx with hx | hx
    · right; have := hSk x hx; omega
    · rcases h3 x hx with h4 | h4
      · exact .inl h4
      · right; omega
/-- The row of rows s, which came in, holds xs. -/
abbrev oIO {α : Type} (e : TypeId) (En : EncO α) (s : Value) (xs : List α) (P : PO) : PO := fun v O => ∃ S O', SlO e En s xs S ∧ P v O' ∧ O = S :: O'
theorem niceIO {α : Type} {e : TypeId} {En : EncO α} {s : Value} {xs x0 : List α} {S0 R : List Bl} {P : PO} (hS : SlO e En s x0 S0) (hl : xs.length = x0.length) (h : NiceO P R) : NiceO (oIO e En s xs P) (S0 ++ R) := fun hn k => by
  obtain ⟨rs0, S00, Si0, h1, h2, rfl⟩ := hS
  have hl0 := h2.len
  rw [List.map_append, List.nodup_append] at hn
  obtain ⟨hn1, hn2, hd⟩ := hn
  obtain ⟨K, hk, hK⟩ := exMax ((S00 ++ Si0).map (·.1) ++ R.map (·.1)) k
  obtain ⟨rs, Si, hi, ni, ki⟩ := Items.wit En xs K
  obtain ⟨K2, hk2, hK2⟩ := exMaxB Si K
  obtain ⟨v, O, g1, g2, g3⟩ := h hn2 K2
  have hli := hi.len
  obtain ⟨S, hS', hnm⟩ : ∃ S, Sl e En.raw s rs S ∧ S.map (·.1) = S00.map (·.1) := by
    rcases h1 with ⟨a, rfl, hr, rfl⟩ | ⟨b, cap, cs, rfl, hc, hsz, htk, rfl⟩
    · obtain rfl : rs = [] := List.eq_nil_of_length_eq_zero (by rw [hr] at hl0; simp at hl0; omega)
      exact ⟨[], .inl ⟨a, rfl, rfl, rfl⟩, rfl⟩
    · refine ⟨[(b, e, (En.raw.all rs ++ cs.toList.drop (rs.length * En.raw.sz)).toArray)], .inr ⟨b, cap, _, by rw [hli, hl, hl0], by omega, ?_, ?_, rfl⟩, rfl⟩
      · have hle : rs.length * En.raw.sz ≤ cap * En.raw.sz := Nat.mul_le_mul_right _ (by omega)
        simp only [List.size_toArray, List.length_append, List.length_drop, Array.length_toList, Enc.all_len, hsz]
        omega
      · rw [← En.raw.all_len rs]; exact List.take_left
  refine ⟨v, (S ++ Si) :: O, ⟨S ++ Si, O, ⟨rs, S, Si, hS', hi, rfl⟩, g1, rfl⟩, ?_, fun x hx => ?_⟩
  · rw [List.flatten_cons, List.map_append, List.nodup_append]
    have hb : ∀ x ∈ S, x.1 ≤ K ∧ x.1 ∈ S00.map (·.1) := fun x hx => by
      have : x.1 ∈ S00.map (·.1) := by rw [← hnm]; exact List.mem_map.2 ⟨x, hx, rfl⟩
      exact ⟨hK _ (List.mem_append_left _ (by rw [List.map_append]; exact List.mem_append_left _ this)), this⟩
    have hSn : (S.map (·.1)).Nodup := by
      rw [hnm]; rw [List.map_append, List.nodup_append] at hn1; exact hn1.1
    refine ⟨nod_app hSn ni (fun x hx => (hb x hx).1) ki, g2, fun a ha b' hb' => ?_⟩
    obtain ⟨x, hx, rfl⟩ := List.mem_map.1 ha
    obtain ⟨y, hy, rfl⟩ := List.mem_map.1 hb'
    rcases List.mem_append.1 hx with hx | hx
    · rcases g3 y hy with h4 | h4
      · exact hd x.1 (by rw [List.map_append]; exact List.mem_append_left _ (hb x hx).2) y.1 h4
      · have := (hb x hx).1; omega
    · have e1 := ki x hx; have e2 := hK2 x hx
      rcases g3 y hy with h4 | h4
      · have := hK _ (List.mem_append_right _ h4); omega
      · omega
  · rw [List.flatten_cons] at hx
    rw [List.map_append]
    rcases List.mem_append.1 hx with hx | hx
    · rcases List.mem_append.1 hx with hx | hx
      · left
        refine List.mem_append_left _ ?_
        rw [List.map_append]; refine List.mem_append_left _ ?_
        rw [← hnm]; exact List.mem_map.2 ⟨x, hx, rfl⟩
      · right; have := ki x hx; omega
    · rcases g3 x hx with h4 | h4
      · exact .inl (List.mem_append_right _ h4)
      · right; omega
/-! ### Putting data together, and taking it apart -/
theorem encoF_mk {α : Type} {E : Enc α} (x : α) : (encoF E).R x (E.f x) [] := ⟨rfl, rfl⟩
theorem encoS_mk {α : Type} {e : TypeId} {E : Enc α} {v : Value} {xs : List α} {S : List Bl} (h : Sl e E v xs S) : (encoS e E).R xs [v] S := ⟨v, rfl, h⟩
theorem encoN_mk {α : Type} {e : TypeId} {E : EncO α} {v : Value} {xs : List α} {S : List Bl} (h : SlO e E v xs S) : (encoN e E).R xs [v] S := ⟨v, rfl, h⟩
theorem encoP_mk {α β : Type} {A : EncO α} {B : EncO β} {x : α} {y : β} {v1 v2 : List Value} {S1 S2 : List Bl} (h1 : A.R x v1 S1) (h2 : B.R y v2 S2) : (encoP A B).R (x, y) (v1 ++ v2) (S1 ++ S2) := ⟨v1, v2, S1, S2, h1, h2, rfl, rfl⟩
theorem SlO.add {α : Type} {e : TypeId} {E : EncO α} {v : Value} {rs rs' : List (Raw E.sz)} {xs xs' : List α} {S0 Si Si' : List Bl} (h : Sl e E.raw v (rs ++ rs') S0) (hi : Items E rs xs Si) (hi' : Items E rs' xs' Si') : SlO e E v (xs ++ xs') (S0 ++ (Si ++ Si')) := ⟨_, _, _, h, hi.append hi', rfl⟩
theorem Items.rep {α : Type} {E : EncO α} {x : α} {vs : List Value} (h : E.R x vs []) : ∀ n : Nat, Items E (List.replicate n (E.of h)) (List.replicate n x) []
  | 0 => .nil
  | n + 1 => (Items.cons (r := E.of h) h (Items.rep h n) : Items E (E.of h :: List.replicate n (E.of h)) (x :: List.replicate n x) ([] ++ []))
/-- A row gets names of its own. -/
theorem lx_name {E : Env} {g : Bool} {ops : Array Oper} {K : (Nat → Value) → List Bl → Prop} {r : List Oper} {T : Nat → Value} {m : Nat} {Ls : List (List Bl)} {S : List Bl} {p : List Bl → Prop} (k : Nat) (hk : Ls[k]? = some S) (hp : p S) (h : ∀ S', p S' → lx E g ops K r T (Ls.set k S').flatten m) : lx E g ops K r T Ls.flatten m := by
  have := h S hp
  obtain ⟨hlt, he⟩ := List.getElem?_eq_some_iff.1 hk
  rw [← he, List.set_getElem_self hlt] at this
  exact this
theorem seenB_sans {Ls : List (List Bl)} {is : List Nat} {E : Env} {S : List Bl} (k : Nat) (hS : Ls[k]? = some S) (hk : is.contains k = false) {own : Nat → Option (TypeId × Array Value)} {nw : Nat → Bool}
    (hn : (Ls.flatten.map (·.1)).Nodup) (hs : Sees E Ls.flatten 0 own nw) : SeenB (sans (cellA E own nw) ((pickL Ls is).flatten.map (·.1))) S := fun x hx j u hj =>
  sans_of (seenB_of (mem_chunk hS (m := 0) (decide_eq_true (Nat.zero_le _))) own nw hs x hx j u hj) (chunk_sans hn hk (by rw [hS]; exact hx))
theorem SeenB.part {c : Addr → Option Value} {S S' : List Bl} (h : SeenB c S) (hs : ∀ x ∈ S', x ∈ S) : SeenB c S' := fun x hx => h x (hs x hx)
/-- S is among the memory's part. -/
theorem memP_refl {S : List Bl} : ∀ x ∈ S, x ∈ S := fun _ h => h
theorem memP_l {S A B : List Bl} (e : S = A ++ B) : ∀ x ∈ A, x ∈ S := fun x hx => by rw [e]; exact List.mem_append_left _ hx
theorem memP_r {S A B : List Bl} (e : S = A ++ B) : ∀ x ∈ B, x ∈ S := fun x hx => by rw [e]; exact List.mem_append_right _ hx
theorem memP_m {S A C B : List Bl} (e : S = A ++ (C ++ B)) : ∀ x ∈ C, x ∈ S := fun x hx => by rw [e]; exact List.mem_append_right _ (List.mem_append_left _ hx)
theorem memP_t {S S' S'' : List Bl} (h : ∀ x ∈ S', x ∈ S) (h' : ∀ x ∈ S'', x ∈ S') : ∀ x ∈ S'', x ∈ S := fun x hx => h x (h' x hx)
theorem mem_part {l : List Bl} {m : Nat} {S S' : List Bl} (h : ∀ x ∈ S, ∃ i, m ≤ i ∧ l[i]? = some x) (h' : ∀ x ∈ S', x ∈ S) : ∀ x ∈ S', ∃ i, m ≤ i ∧ l[i]? = some x := fun x hx => h x (h' x hx)
/-- r_se, the cells that are stored named. -/
theorem r_seC {E : Env} {g : Bool} {ops : Array Oper} {K : (Nat → Value) → List Bl → Prop} {r : List Oper} {T : Nat → Value} {m : Nat} {ty : TypeId} {pos : String} {af : Array Edge} {α : Type} {Ls : List (List Bl)} (k : Nat) {S : List Bl} {ee : TypeId} {En : Enc α} {sv : Value} {xs : List α} {cs : Array Value} (x x' : α) (i o : Nat) {e : TypeId} {p y : Operand} {ii : TypeInfo} (hk : kdg g ops ⟨none, .store e p y, ty, pos, af, none⟩ = .s) (hp : rd T p = elA sv (i * En.sz + o))
    (hS : Ls[k]? = some S) (hSl : Sl ee En sv xs S) (hx : xs[i]? = some x) (hi : E.P.info? e = some ii) (hc : (rd T y).cells = cs) (hsz : cs.size = ii.size) (hle' : decide (o + cs.size ≤ En.sz) = true) (h1 : ∀ u ∈ cs.toList, u.oneCell' = true)
    (hx' : En.f x' = (En.f x).take o ++ cs.toList ++ (En.f x).drop (o + cs.size))
    (h : ∀ S', Sl ee En sv (xs.set i x') S' → lx E g ops K r T (Ls.set k S').flatten m) (hpl : Plain E.ks ⟨none, .store e p y, ty, pos, af, none⟩ := by rfl) (hgh : goodk E.ks none = false := by rfl) : lx E g ops K (⟨none, .store e p y, ty, pos, af, none⟩ :: r) T Ls.flatten m := by
  subst hc
  exact r_se k x x' i o hk hp hS hSl hx hi hsz hle' (fun u hu => h1 u (by simpa using hu)) hx' h hpl hgh
theorem Items.same {α : Type} {E : EncO α} {rs : List (Raw E.sz)} {xs : List α} {S : List Bl} {i : Nat} {r : Raw E.sz} (hr : rs[i]? = some r) (h : Items E (rs.set i r) xs S) : Items E rs xs S := by
  obtain ⟨hlt, he⟩ := List.getElem?_eq_some_iff.1 hr
  rw [← he, List.set_getElem_self] at h
  exact h
/-! ### One pointer -/
theorem ev_samePtr {P : Program} {c : Addr → Option Value} {t e : TypeId} {i : TypeInfo} {a : Addr} (ht : P.underlying t = some (.pointer e)) (hi : P.info? e = some i) (hs : decide (i.size = 0) = false) : ev P c (Op.equal t (.pointer (some a)) (.pointer (some a))) = some true := by
  have h0 : i.size ≠ 0 := of_decide_eq_false hs
  show ev P c (Op.equalIn (9999 + 1) t (.pointer (some a)) (.pointer (some a))) = some true
  unfold Op.equalIn
  simp only [ev_bind, ev_underlying ht, Option.bind_some, ev_sizeOf hi]
  rw [if_pos h0]
  unfold sameAddr
  simp [ev_pure]
section
variable {P : Program} {c : Addr → Option Value} {ρ : Operand → Value} {d : Option Tmp} {t t' e : TypeId} {i : TypeInfo} {x y : Operand} {ty : TypeId} {pos : String} {af : Array Edge} {g : Option (Nat × Bool)} {a : Addr}
theorem ev_eqlP (hx : ρ x = .pointer (some a)) (hy : ρ y = .pointer (some a)) (ht : P.underlying t = some (.pointer e)) (hi : P.info? e = some i) (hs : decide (i.size = 0) = false) :
    ev P c (execOp ρ ⟨d, .binOp .eql t x y t', ty, pos, af, g⟩) = some (.value (.bool true)) := by
  refine ev_v (s := do eqGuard .eql t x y (ρ x) (ρ y); binOp .eql t (ρ x) (ρ y)) ?_
  rw [hx, hy]
  have h1 : ev P c (eqGuard .eql t x y (.pointer (some a)) (.pointer (some a))) = some () := by
    simp [eqGuard, ev_pure]
  simp only [ev_bind, h1, Option.bind_some, binOp, ev_samePtr ht hi hs, ev_pure]
theorem ev_neqP (hx : ρ x = .pointer (some a)) (hy : ρ y = .pointer (some a)) (ht : P.underlying t = some (.pointer e)) (hi : P.info? e = some i) (hs : decide (i.size = 0) = false) :
    ev P c (execOp ρ ⟨d, .binOp .neq t x y t', ty, pos, af, g⟩) = some (.value (.bool false)) := by
  refine ev_v (s := do eqGuard .neq t x y (ρ x) (ρ y); binOp .neq t (ρ x) (ρ y)) ?_
  rw [hx, hy]
  have h1 : ev P c (eqGuard .neq t x y (.pointer (some a)) (.pointer (some a))) = some () := by
    simp [eqGuard, ev_pure]
  simp only [ev_bind, h1, Option.bind_some, binOp, ev_samePtr ht hi hs, ev_pure]
  rfl
end
/-! ### Slices against nil -/
def isNl : Value → Bool
  | .slice none _ _ => true
  | _ => false
theorem nilS_or {v : Value} {n : Nat} (h : Shp v n) : (v = .slice none 0 0 ∧ n = 0) ∨ isNl v = false := by
  rcases h with h | ⟨a, cap, rfl, _⟩
  · exact .inl h
  · exact .inr rfl
section
variable {P : Program} {c : Addr → Option Value} {ρ : Operand → Value} {d : Option Tmp} {t t' e : TypeId} {x y : Operand} {ty : TypeId} {pos : String} {af : Array Edge} {g : Option (Nat × Bool)} {v : Value} {n : Nat}
theorem ev_eqlNil (hx : ρ x = v) (hy : ρ y = .slice none 0 0) (ht : P.underlying t = some (.slice e)) (hs : Shp v n) (hn : isNl v = false) :
    ev P c (execOp ρ ⟨d, .binOp .eql t x y t', ty, pos, af, g⟩) = some (.value (.bool false)) := by
  refine ev_v (s := do eqGuard .eql t x y (ρ x) (ρ y); binOp .eql t (ρ x) (ρ y)) ?_
  rcases hs with ⟨rfl, _⟩ | ⟨a, cap, rfl, _⟩
  · cases hn
  rw [hx, hy]
  have h1 : ev P c (eqGuard .eql t x y (.slice (some a) n cap) (.slice none 0 0)) = some () := by simp [eqGuard, ev_pure]
  have h2 : ev P c (Op.equal t (.slice (some a) n cap) (.slice none 0 0)) = some false := by
    show ev P c (Op.equalIn (9999 + 1) t (.slice (some a) n cap) (.slice none 0 0)) = some false
    unfold Op.equalIn
    simp only [ev_bind, ev_underlying ht, Option.bind_some, ev_pure]
  simp only [ev_bind, h1, Option.bind_some, binOp, h2, ev_pure]
theorem ev_neqNil (hx : ρ x = v) (hy : ρ y = .slice none 0 0) (ht : P.underlying t = some (.slice e)) (hs : Shp v n) (hn : isNl v = false) :
    ev P c (execOp ρ ⟨d, .binOp .neq t x y t', ty, pos, af, g⟩) = some (.value (.bool true)) := by
  refine ev_v (s := do eqGuard .neq t x y (ρ x) (ρ y); binOp .neq t (ρ x) (ρ y)) ?_
  rcases hs with ⟨rfl, _⟩ | ⟨a, cap, rfl, _⟩
  · cases hn
  rw [hx, hy]
  have h1 : ev P c (eqGuard .neq t x y (.slice (some a) n cap) (.slice none 0 0)) = some () := by simp [eqGuard, ev_pure]
  have h2 : ev P c (Op.equal t (.slice (some a) n cap) (.slice none 0 0)) = some false := by
    show ev P c (Op.equalIn (9999 + 1) t (.slice (some a) n cap) (.slice none 0 0)) = some false
    unfold Op.equalIn
    simp only [ev_bind, ev_underlying ht, Option.bind_some, ev_pure]
  simp only [ev_bind, h1, Option.bind_some, binOp, h2, ev_pure]
  rfl
end
/-! ### Interface values -/
theorem cells_sum {t : Nat → Value} {x : Operand} {v : Value} (hx : rd t x = v) (h : v.cells = #[v]) : (rd t x).cells = #[v] := by rw [hx, h]
theorem alloc_sum {P : Program} {t : Nat → Value} {d : Option Tmp} {e : TypeId} {x : Operand} {ty : TypeId} {pos : String} {af : Array Edge} {g : Option (Nat × Bool)} {v : Value} (hx : rd t x = v) (h : v.cells = #[v]) (hT : decide (e < OBJ) = true := by rfl) : allocOf P t ⟨d, .box e x, ty, pos, af, g⟩ = some (e, #[v]) := by
  show (if decide (e < OBJ) = true then some (e, (rd t x).cells) else none) = _
  rw [if_pos hT, hx, h]
section
variable {P : Program} {c : Addr → Option Value} {ρ : Operand → Value} {d : Option Tmp} {ty : TypeId} {pos : String} {af : Array Edge} {g : Option (Nat × Bool)}
theorem ev_taC {x : Operand} {w r : Value} {xt at' : TypeId} {ok : Bool} (hx : ρ x = w) (h : ev P c (Instr.typeAssert w xt at' ok) = some r) : ev P c (execOp ρ ⟨d, .typeAssert x xt at' ok, ty, pos, af, g⟩) = some (.value r) :=
  ev_v (s := Instr.typeAssert (ρ x) xt at' ok) (by rw [hx]; exact h)
theorem ev_binC {op : BinOp} {t t' : TypeId} {x y : Operand} {vx vy r : Value} (hx : ρ x = vx) (hy : ρ y = vy) (h : ev P c (do eqGuard op t x y vx vy; binOp op t vx vy) = some r) : ev P c (execOp ρ ⟨d, .binOp op t x y t', ty, pos, af, g⟩) = some (.value r) :=
  ev_v (s := do eqGuard op t x y (ρ x) (ρ y); binOp op t (ρ x) (ρ y)) (by rw [hx, hy]; exact h)
/-- Values of interface types. -/
def IsI (v : Value) : Prop := v = .nilIface ∨ ∃ T w, v = .iface T w
theorem ev_eqI {t : TypeId} {x y : Operand} {vx vy : Value} {b : Bool} (hx : IsI vx) (hy : IsI vy) (hn : ¬ (vx = .nilIface ∧ vy = .nilIface)) (h : ev P c (Op.equal t vx vy) = some b) : ev P c (do eqGuard .eql t x y vx vy; binOp .eql t vx vy) = some (.bool b) := by
  rcases hx with rfl | ⟨T, w, rfl⟩ <;> rcases hy with rfl | ⟨T', w', rfl⟩
  · exact absurd ⟨rfl, rfl⟩ hn
  all_goals simp only [eqGuard, ev_bind, ev_pure, Option.bind_some, binOp, h] <;> rfl
theorem ev_neI {t : TypeId} {x y : Operand} {vx vy : Value} {b : Bool} (hx : IsI vx) (hy : IsI vy) (hn : ¬ (vx = .nilIface ∧ vy = .nilIface)) (h : ev P c (Op.equal t vx vy) = some b) : ev P c (do eqGuard .neq t x y vx vy; binOp .neq t vx vy) = some (.bool (!b)) := by
  rcases hx with rfl | ⟨T, w, rfl⟩ <;> rcases hy with rfl | ⟨T', w', rfl⟩
  · exact absurd ⟨rfl, rfl⟩ hn
  all_goals simp only [eqGuard, ev_bind, ev_pure, Option.bind_some, binOp, h] <;> rfl
theorem eqI_nn {t : TypeId} {ms} (d0 : Nat) (ht : P.underlying t = some (.interface ms)) : ev P c (Op.equalIn (d0 + 1) t .nilIface .nilIface) = some true := by
  simp only [Op.equalIn, ev_bind, ev_underlying ht, Option.bind_some]; rfl
theorem eqI_nv {t T : TypeId} {w : Value} {ms} (d0 : Nat) (ht : P.underlying t = some (.interface ms)) : ev P c (Op.equalIn (d0 + 1) t .nilIface (.iface T w)) = some false := by
  simp only [Op.equalIn, ev_bind, ev_underlying ht, Option.bind_some]; rfl
theorem eqI_vn {t T : TypeId} {w : Value} {ms} (d0 : Nat) (ht : P.underlying t = some (.interface ms)) : ev P c (Op.equalIn (d0 + 1) t (.iface T w) .nilIface) = some false := by
  simp only [Op.equalIn, ev_bind, ev_underlying ht, Option.bind_some]; rfl
theorem eqI_ne {t T T' : TypeId} {w w' : Value} {ms} (d0 : Nat) (ht : P.underlying t = some (.interface ms)) (h : decide (T = T') = false) : ev P c (Op.equalIn (d0 + 1) t (.iface T w) (.iface T' w')) = some false := by
  have h' : T ≠ T' := of_decide_eq_false h
  simp only [Op.equalIn, ev_bind, ev_underlying ht, Option.bind_some, ne_eq, h', not_false_eq_true, if_true]; rfl
theorem eqI_eq {t T : TypeId} {w w' : Value} {ms} {i : TypeInfo} {b : Bool} (d0 : Nat) (ht : P.underlying t = some (.interface ms)) (hi : P.info? T = some i) (hc : i.comparable = true) (h : ev P c (Op.equalIn d0 T w w') = some b) : ev P c (Op.equalIn (d0 + 1) t (.iface T w) (.iface T w')) = some b := by
  have h2 : ev P c (typeInfo T) = some i := by
    unfold typeInfo
    simp only [ev_bind, show ev P c program = some P from rfl, Option.bind_some, hi]; rfl
  simp only [Op.equalIn, ev_bind, ev_underlying ht, Option.bind_some, ne_eq, not_true_eq_false, if_false, h2, hc, Bool.not_true, Bool.false_eq_true]
  exact h
theorem ev_callI {recv : Operand} {name : String} {l : List Operand} {ts : Array TypeId} {T : TypeId} {v r : Value} {f : FuncId} {args : List Value} (hρ : ρ recv = .iface T v) (hm : ev P c (Go.method (P.types.size + Made.depth) T v name) = some (f, r)) (h : callB P f = true) (ha : l.map ρ = args) :
    ev P c (execOp ρ ⟨d, .call ⟨.invoke recv name, l.toArray, ts⟩, ty, pos, af, g⟩) = some (.enter f (r :: args).toArray) := by
  unfold callB at h
  cases hf : P.funcs[f]? with
  | none => simp [hf] at h
  | some fn =>
    simp only [hf, Bool.and_eq_true, bne_iff_ne, ne_eq] at h
    obtain ⟨h1, h2⟩ := h
    have ha' : l.toArray.map ρ = args.toArray := by rw [List.map_toArray, ha]
    have h5 : ¬ fn.body = none := by intro e; simp [e] at h2
    show ev P c (do let d ← resolve ρ ⟨.invoke recv name, l.toArray, ts⟩ ty; invoke d.target d.args) = _
    have hr : ev P c (resolve ρ ⟨.invoke recv name, l.toArray, ts⟩ ty) = some { target := .fn (.method name) #[], args := #[.iface T v] ++ args.toArray } := by
      show ev P c (pure _) = _
      rw [ha', hρ]; rfl
    rw [ev_bind, hr]
    have h0 : (#[Value.iface T v] ++ args.toArray)[0]? = some (Value.iface T v) := by simp
    have hx : (#[Value.iface T v] ++ args.toArray).extract 1 (#[Value.iface T v] ++ args.toArray).size = args.toArray := by
      apply Array.ext'; simp
    show ev P c (invoke (.fn (.method name) #[]) (#[Value.iface T v] ++ args.toArray)) = _
    unfold invoke
    simp only [h0, hx]
    unfold callMethod
    simp only [ev_bind, program, ev, Option.bind_some, hm]
    simp [callFunc, program, ev_bind, ev, hf, h1, h5, ev_pure]
end
/-! ### Ints bit by bit -/
def andI (x y : Int) : Int := IntKind.i64.wrap (((BitVec.ofInt 64 x &&& BitVec.ofInt 64 y).toNat : Nat) : Int)
def orI (x y : Int) : Int := IntKind.i64.wrap (((BitVec.ofInt 64 x ||| BitVec.ofInt 64 y).toNat : Nat) : Int)
def xorI (x y : Int) : Int := IntKind.i64.wrap (((BitVec.ofInt 64 x ^^^ BitVec.ofInt 64 y).toNat : Nat) : Int)
def andNotI (x y : Int) : Int := IntKind.i64.wrap (((BitVec.ofInt 64 x &&& ~~~ BitVec.ofInt 64 y).toNat : Nat) : Int)
def shlI (x : Int) (n : Nat) : Int := IntKind.i64.wrap (x * 2 ^ (min n 64))
def shrI (x : Int) (n : Nat) : Int := Int.fdiv x (2 ^ (min n 64))
section
variable {P : Program} {c : Addr → Option Value} {ρ : Operand → Value} {d : Option Tmp} {t t' : TypeId} {a b : Operand} {ty : TypeId} {pos : String} {af : Array Edge} {g : Option (Nat × Bool)}
theorem ev_shlI {x : Int} {k : IntKind} {n : Int} (hx : ρ a = .int .i64 x) (hy : ρ b = .int k n) (h : 0 ≤ n) : ev P c (execOp ρ ⟨d, .binOp .shl t a b t', ty, pos, af, g⟩) = some (.value (.int .i64 (shlI x n.toNat))) := by
  refine ev_v (s := do eqGuard .shl t a b (ρ a) (ρ b); binOp .shl t (ρ a) (ρ b)) ?_
  rw [hx, hy]
  have h1 : ¬ (n < 0) := by omega
  have h2 : ev P c (eqGuard .shl t a b (.int .i64 x) (.int k n)) = some () := rfl
  simp only [ev_bind, h2, Option.bind_some, binOp, Op.shift, if_neg h1, ev_pure, IntKind.bits]
  rfl
theorem ev_shrI {x : Int} {k : IntKind} {n : Int} (hx : ρ a = .int .i64 x) (hy : ρ b = .int k n) (h : 0 ≤ n) : ev P c (execOp ρ ⟨d, .binOp .shr t a b t', ty, pos, af, g⟩) = some (.value (.int .i64 (shrI x n.toNat))) := by
  refine ev_v (s := do eqGuard .shr t a b (ρ a) (ρ b); binOp .shr t (ρ a) (ρ b)) ?_
  rw [hx, hy]
  have h1 : ¬ (n < 0) := by omega
  have h2 : ev P c (eqGuard .shr t a b (.int .i64 x) (.int k n)) = some () := rfl
  simp only [ev_bind, h2, Option.bind_some, binOp, Op.shift, if_neg h1, ev_pure, IntKind.bits]
  rfl
end
theorem ev_partA {P : Program} {c : Addr → Option Value} {t : TypeId} {fs : Array Field} {i : TypeInfo} {vs : Array Value} (h : P.underlying t = some (.struct fs)) (hi : P.info? t = some i) (cs : Array Value) (off : Nat) (hv : cs.extract off (off + i.size) = vs) : ev P c (part t cs off) = some (.agg vs) := by
  subst hv
  unfold part isAgg
  simp [ev_bind, ev_map, ev_underlying h, ev_sizeOf hi, ev_pure]
/-! ### The beginning of an own row -/
theorem Sl.take0 {α : Type} {e : TypeId} {E : Enc α} {v : Value} {xs : List α} {S : List Bl} {hi : Nat} (h : Sl e E v xs S) (hh : hi ≤ xs.length) : Sl e E (subA v 0 hi E.sz) ((xs.take hi).drop 0) S := by
  rw [List.drop_zero]
  rcases h with ⟨a, rfl, rfl, rfl⟩ | ⟨b, cap, cs, rfl, hc, hsz, htk, rfl⟩
  · obtain rfl : hi = 0 := by simpa using hh
    refine .inl ⟨a, ?_, by simp, rfl⟩
    unfold subA
    simp
  · have hl : (xs.take hi).length = hi := by rw [List.length_take]; omega
    refine .inr ⟨b, cap, cs, ?_, by rw [hl]; omega, hsz, ?_, rfl⟩
    · unfold subA
      rw [hl]
      by_cases h0 : cap = 0
      · simp [h0]
      · simp only [if_neg h0, Nat.zero_mul, Nat.sub_zero, Option.map_some]
        rw [add_none rfl]
    · rw [hl, E.all_take, ← htk, List.take_take, Nat.min_eq_left (Nat.mul_le_mul_right _ hh)]
theorem SlO.take0 {α : Type} {e : TypeId} {E : EncO α} {v : Value} {xs : List α} {S : List Bl} {hi : Nat} (h : SlO e E v xs S) (hh : hi ≤ xs.length) : ∃ S1 S2, SlO e E (subA v 0 hi E.sz) ((xs.take hi).drop 0) S1 ∧ (S1 ++ S2).Perm S := by
  obtain ⟨rs, S0, Si, h1, h2, rfl⟩ := h
  obtain ⟨S1, S2, g1, _, rfl⟩ := h2.take hi
  have := h1.take0 (hi := hi) (by rw [h2.len]; exact hh)
  exact ⟨S0 ++ S1, S2, ⟨_, _, _, this, by rw [List.drop_zero, List.drop_zero]; exact g1, rfl⟩, by rw [List.append_assoc]⟩
theorem lx_app1 {E : Env} {g : Bool} {ops : Array Oper} {K : (Nat → Value) → List Bl → Prop} {r : List Oper} {T : Nat → Value} {m : Nat} {Ls : List (List Bl)} {S : List Bl} (h : lx E g ops K r T (Ls ++ [S]).flatten m) : lx E g ops K r T (Ls.flatten ++ S) m := by
  rw [List.flatten_append] at h
  simpa using h
/-! ### Small numbers -/
theorem Z16_quo (x : UInt16) (y : Nat) (hy : y < 2 ^ 16 := by decide) : Value.int .u16 (IntKind.u16.wrap (Int.tdiv ((x.toNat : Nat) : Int) ((y : Nat) : Int))) = .int .u16 (((x / UInt16.ofNat y).toNat : Nat) : Int) := by
  rw [Int.tdiv_eq_ediv_of_nonneg (by omega), ← Int.natCast_ediv, wrap_u16, UInt16.toNat_div, UInt16.toNat_ofNat', Nat.mod_eq_of_lt hy]
  have h1 : x.toNat / y ≤ x.toNat := Nat.div_le_self _ _
  have h2 := x.toNat_lt
  generalize x.toNat / y = q at *
  congr 1; omega
theorem Z16_rem (x : UInt16) (y : Nat) (hy : y < 2 ^ 16 := by decide) : Value.int .u16 (Int.tmod ((x.toNat : Nat) : Int) ((y : Nat) : Int)) = .int .u16 (((x % UInt16.ofNat y).toNat : Nat) : Int) := by
  rw [Int.tmod_eq_emod_of_nonneg (by omega), ← Int.natCast_emod, UInt16.toNat_mod, UInt16.toNat_ofNat', Nat.mod_eq_of_lt hy]
theorem Z32_quo (x : UInt32) (y : Nat) (hy : y < 2 ^ 32 := by decide) : Value.int .u32 (IntKind.u32.wrap (Int.tdiv ((x.toNat : Nat) : Int) ((y : Nat) : Int))) = .int .u32 (((x / UInt32.ofNat y).toNat : Nat) : Int) := by
  rw [Int.tdiv_eq_ediv_of_nonneg (by omega), ← Int.natCast_ediv, wrap_u32, UInt32.toNat_div, UInt32.toNat_ofNat', Nat.mod_eq_of_lt hy]
  have h1 : x.toNat / y ≤ x.toNat := Nat.div_le_self _ _
  have h2 := x.toNat_lt
  generalize x.toNat / y = q at *
  congr 1; omega
theorem Z32_rem (x : UInt32) (y : Nat) (hy : y < 2 ^ 32 := by decide) : Value.int .u32 (Int.tmod ((x.toNat : Nat) : Int) ((y : Nat) : Int)) = .int .u32 (((x % UInt32.ofNat y).toNat : Nat) : Int) := by
  rw [Int.tmod_eq_emod_of_nonneg (by omega), ← Int.natCast_emod, UInt32.toNat_mod, UInt32.toNat_ofNat', Nat.mod_eq_of_lt hy]
/-- An index into an array that is (a part of) an element of a row. -/
theorem ev_idxX {P : Program} {c : Addr → Option Value} {t e : TypeId} {n : Nat} {ii : TypeInfo} {k k' : Nat} {sv x : Value} {m : Nat} (j : Nat) (hx : x = elA sv k) (hu : P.underlying t = some (.array n e)) (hi : P.info? e = some ii) (hk : k + j * ii.size = k') (hs : Shp sv m) (hm : 0 < m) (hj : j < n) :
    ev P c (Instr.indexAt t x (.int .i64 (j : Int))) = some (elA sv k') := by
  subst hx; subst hk
  rcases hs with ⟨_, rfl⟩ | ⟨a, cap, rfl, h0, hle⟩
  · omega
  · have h0 := h0 (by omega)
    have h1 : (0 : Int) ≤ j ∧ (j : Int) < n := by omega
    unfold Instr.indexAt
    simp only [asIntOf, ev_bind, ev_pure, Option.bind_some, ev_underlying hu, Instr.sureAddr, Int.toNat_natCast, elA, add_none h0]
    rw [if_pos h1]
    simp only [ev_bind, ev_sizeOf hi, Option.bind_some, ev_pure]
    rw [add_none (a := ⟨a.block, a.off + k, none⟩) rfl, Nat.add_assoc]
end Go.Eng
