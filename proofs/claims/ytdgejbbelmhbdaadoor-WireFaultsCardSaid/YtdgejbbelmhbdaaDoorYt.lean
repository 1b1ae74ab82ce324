/- Rows of zeros that are made and put behind, slices without room, bytes. Conditions: none. -/
import Derived.Test.YtdgejbbelmhbdaaDoorPt
namespace Go.Eng
open Go Go.RowKit
section
variable {E : Env} {g : Bool} {ops : Array Oper} {K : (Nat → Value) → List Bl → Prop} {r : List Oper} {T : Nat → Value} {m : Nat} {d : Tmp} {ty : TypeId} {pos : String} {af : Array Edge}
end
theorem ev_convRd {P : Program} {c : Addr → Option Value} {src dst e : TypeId} {v : Value} {s : List UInt8} (h1 : P.underlying src = some (.slice e)) (h2 : P.underlying dst = some .string) (h3 : P.underlying e = some (.int .u8)) (h : Rd encY c v s) :
    ev P c (convert src dst v) = some (.string ⟨s.toArray⟩) := by
  have hv : ∃ a n k, v = .slice a n k := by
    rcases h with ⟨rfl, _⟩ | ⟨a, cap, rfl, _⟩
    · exact ⟨_, _, _, rfl⟩
    · exact ⟨_, _, _, rfl⟩
  obtain ⟨a0, n0, k0, hv⟩ := hv
  refine ev_convBS h1 h2 h3 hv ?_
  rcases h with ⟨rfl, rfl⟩ | ⟨a, cap, rfl, h0, hle, hc⟩
  · rfl
  · have h1 : ev P c (loadCells a s.length) = some (encY.all s).toArray := by
      by_cases hs0 : s = []
      · subst hs0; rfl
      have hpos : 0 < s.length := List.length_pos_iff.2 hs0
      have ha : a = ⟨a.block, a.off, none⟩ := by rw [← h0 (by omega)]
      have hl : (encY.all s).length = s.length := by rw [encY_all, List.length_map]
      have := ev_cellsL (P := P) (c := c) (b := a.block) (off := a.off) (encY.all s) 0 #[] (fun j u hj => by rw [Nat.add_zero]; exact hc j u hj)
      unfold loadCells
      rw [ha]
      rw [hl] at this
      simpa using this
    unfold Conv.bytesToString
    rw [ev_bind, h1]
    simp only [Option.bind_some, encY_all, List.forIn_toArray]
    have key : ∀ (g : Value → ByteArray → Sem (ForInStep ByteArray)), (∀ (x : UInt8) r, ev P c (g (.int .u8 ((x.toNat : Nat) : Int)) r) = some (.yield (r.push x))) →
        ∀ (s : List UInt8) (acc : ByteArray), ev P c (forIn (s.map fun c => Value.int .u8 ((c.toNat : Nat) : Int)) acc g) = some ⟨(acc.data.toList ++ s).toArray⟩ := by
      intro g hg s
      induction s with
      | nil => intro acc; simp [ev_pure]
      | cons x s ih =>
        intro acc
        simp only [List.map_cons, List.forIn_cons, ev_bind, hg, Option.bind_some]
        rw [ih]
        simp [ByteArray.push]
    rw [ev_bind, key _ (fun x r => by
      show some (ForInStep.yield (r.push (UInt8.ofNat (x.toNat : Int).toNat))) = _
      rw [Int.toNat_natCast, UInt8.ofNat_toNat])]
    rfl
section
variable {E : Env} {g : Bool} {ops : Array Oper} {K : (Nat → Value) → List Bl → Prop} {r : List Oper} {T : Nat → Value} {l : List Bl} {m : Nat} {d : Tmp} {ty : TypeId} {pos : String} {af : Array Edge}
theorem r_stl {src dst e : TypeId} {x : Operand} {sv : Value} (s : List UInt8) (hd : decide (d < E.n) = true) (hs : E.P.underlying src = some (.slice e)) (hu : E.P.underlying dst = some .string) (he : E.P.underlying e = some (.int .u8)) (hx : rd T x = sv)
    (hr : ∀ own nw, Sees E l m own nw → Rd encY (cellA E own nw) sv s)
    (h : lx E g ops K r (upd T d (.string ⟨s.toArray⟩)) l m) (hpl : Plain E.ks ⟨some d, .convert src dst x, ty, pos, af, none⟩ := by rfl) : lx E g ops K (⟨some d, .convert src dst x, ty, pos, af, none⟩ :: r) T l m := fun hn own nw hse => by
  have hev : ev E.P (cellA E own nw) (execOp (rd T) ⟨some d, .convert src dst x, ty, pos, af, none⟩) = some (.value (.string ⟨s.toArray⟩)) := by
    refine ev_v (s := convert src dst (rd T x)) ?_
    rw [hx]; exact ev_convRd hs hu he (hr own nw hse)
  exact lexK_l rfl (kdo_eq hpl rfl (by decide)) hd (.string ⟨s.toArray⟩) (by
    show (match ev E.P (cellA E own nw) (execOp (rd T) ⟨some d, .convert src dst x, ty, pos, af, none⟩) with | some (.value v) => some v | _ => none) = some (.string ⟨s.toArray⟩)
    rw [hev]) (h hn own nw hse)
end
theorem Shp.cells {v : Value} {n : Nat} (h : Shp v n) : v.cells = #[v] := by
  rcases h with ⟨rfl, _⟩ | ⟨_, _, rfl, _⟩ <;> rfl
theorem Shp.one {v : Value} {n : Nat} (h : Shp v n) : v.oneCell' = true := by
  rcases h with ⟨rfl, _⟩ | ⟨_, _, rfl, _⟩ <;> rfl
theorem cells_sl {t : Nat → Value} {x : Operand} {v : Value} {n : Nat} (hx : rd t x = v) (h : Shp v n) : (rd t x).cells = #[v] := by rw [hx, h.cells]
def fillC (place : Nat → Option (Nat × Nat)) (cells : Array Value) : List (Nat × Array Value) → Option (Array Value)
  | [] => some cells
  | (i, v) :: rest =>
    match place i with
    | none => none
    | some (off, size) =>
      if v.size ≠ size || off + v.size > cells.size then none
      else fillC place (v.zipIdx.foldl (fun cs (c, j) => cs.setIfInBounds (off + j) c) cells) rest
theorem fillC_eq (place : Nat → Option (Nat × Nat)) : ∀ (l : List (Nat × Value)) (pc : List (Nat × Array Value)) (cells : Array Value), l.map (fun x => (x.1, x.2.cells)) = pc → Instr.fill place cells l = fillC place cells pc
  | [], pc, cells, h => by subst h; rfl
  | (i, v) :: rest, pc, cells, h => by
    subst h
    simp only [List.map_cons, Instr.fill, fillC]
    cases place i with
    | none => rfl
    | some p =>
      obtain ⟨off, size⟩ := p
      simp only
      split
      · rfl
      · exact fillC_eq place rest _ _ rfl
theorem pc_nil {t : Nat → Value} : (([] : List (Nat × Operand)).map fun x => (x.1, rd t x.2)).map (fun x => (x.1, x.2.cells)) = [] := rfl
theorem pc_cons {t : Nat → Value} {i : Nat} {x : Operand} {c : Array Value} {l : List (Nat × Operand)} {pc : List (Nat × Array Value)} (h : (rd t x).cells = c) (hl : (l.map fun x => (x.1, rd t x.2)).map (fun x => (x.1, x.2.cells)) = pc) :
    (((i, x) :: l).map fun x => (x.1, rd t x.2)).map (fun x => (x.1, x.2.cells)) = (i, c) :: pc := by
  rw [List.map_cons, List.map_cons, hl, h]
theorem ev_buildSC {P : Program} {c : Addr → Option Value} {t : Nat → Value} {d : Option Tmp} {T : TypeId} {l : List (Nat × Operand)} {ty : TypeId} {pos : String} {af : Array Edge} {g : Option (Nat × Bool)} {fs : Array Field} {z : Value} {cs : Array Value} {pc : List (Nat × Array Value)}
    (hu : P.underlying T = some (.struct fs)) (hz : (P.info? T).bind (·.zero) = some z) (hf : fs.toList.all (fun f => (P.info? f.type).isSome) = true)
    (hp : (l.map fun x => (x.1, rd t x.2)).map (fun x => (x.1, x.2.cells)) = pc) (hc : fillC ((fs.toList.map (placeOf P))[·]?) z.cells pc = some cs) :
    ev P c (execOp (rd t) ⟨d, .build T l.toArray, ty, pos, af, g⟩) = some (.value (.agg cs)) :=
  ev_buildS hu hz hf (by rw [fillC_eq _ _ pc _ hp]; exact hc)
theorem wrap_u8 (x : Int) : IntKind.u8.wrap x = x % 256 := by simp [IntKind.wrap, IntKind.signed, IntKind.bits]
section
variable {P : Program} {c : Addr → Option Value} {ρ : Operand → Value} {d : Option Tmp} {t t' : TypeId} {a b : Operand} {ty : TypeId} {pos : String} {af : Array Edge} {g : Option (Nat × Bool)}
end
theorem u8_u64 (x : UInt8) : Value.int .u64 (IntKind.u64.wrap ((x.toNat : Nat) : Int)) = U (BitVec.ofNat 64 x.toNat) := U_wrap _
def byteU (x : BitVec 64) : UInt8 := UInt8.ofNat x.toNat
theorem u64_u8 (x : BitVec 64) : Value.int .u8 (IntKind.u8.wrap ((x.toNat : Nat) : Int)) = .int .u8 (((byteU x).toNat : Nat) : Int) := by
  rw [wrap_u8]; unfold byteU
  rw [UInt8.toNat_ofNat']
  congr 1
/-- Parts, some of which are empty. -/
theorem Sub.pickE {Ls Ls0 : List (List Bl)} (_ : True = True) (is : List Nat) (hok : okPick is Ls.length = true) (h2 : Ls.flatten = Ls0.flatten := by simp) : Sub (pickL Ls is).flatten Ls0.flatten := h2 ▸ Sub.pick Ls is hok
/-- What a datum's cells are, as the memory c tells. -/
structure EncR (α : Type) where
  R : (Addr → Option Value) → α → List Value → Prop
  sz : Nat
  pos : 0 < sz
  mono : ∀ {c c' : Addr → Option Value} {x vs}, (∀ a v, c a = some v → c' a = some v) → R c x vs → R c' x vs
def RdN {α : Type} (E : EncR α) (c : Addr → Option Value) (v : Value) (xs : List α) : Prop :=
  (v = .slice none 0 0 ∧ xs = []) ∨ ∃ a cap, v = .slice (some a) xs.length cap ∧ (0 < cap → a.spot = none) ∧ xs.length ≤ cap ∧
    ∀ i x, xs[i]? = some x → ∃ vs, E.R c x vs ∧ ∀ j u, vs[j]? = some u → c ⟨a.block, a.off + (i * E.sz + j), none⟩ = some u
theorem RdN.mono {α : Type} {E : EncR α} {c c' : Addr → Option Value} (hc : ∀ a v, c a = some v → c' a = some v) {v : Value} {xs : List α} (h : RdN E c v xs) : RdN E c' v xs := by
  rcases h with h | ⟨a, cap, h1, h2, h3, h4⟩
  · exact .inl h
  · refine .inr ⟨a, cap, h1, h2, h3, fun i x hx => ?_⟩
    obtain ⟨vs, h5, h6⟩ := h4 i x hx
    exact ⟨vs, E.mono hc h5, fun j u hj => hc _ _ (h6 j u hj)⟩
theorem RdN.shp {α : Type} {E : EncR α} {c : Addr → Option Value} {v : Value} {xs : List α} (h : RdN E c v xs) : Shp v xs.length := by
  rcases h with ⟨rfl, rfl⟩ | ⟨a, cap, rfl, h0, h1, _⟩
  · exact .inl ⟨rfl, rfl⟩
  · exact .inr ⟨_, cap, rfl, h0, h1⟩
/-- The cells from the element's place on. -/
def At (c : Addr → Option Value) (sv : Value) (k : Nat) (vs : List Value) : Prop := ∃ a n cap, sv = .slice (some a) n cap ∧ a.spot = none ∧ ∀ j u, vs[j]? = some u → c ⟨a.block, a.off + (k + j), none⟩ = some u
theorem At.mono {c c' : Addr → Option Value} (hc : ∀ a v, c a = some v → c' a = some v) {sv : Value} {k : Nat} {vs : List Value} (h : At c sv k vs) : At c' sv k vs := by
  obtain ⟨a, n, cap, h1, h2, h3⟩ := h
  exact ⟨a, n, cap, h1, h2, fun j u hj => hc _ _ (h3 j u hj)⟩
theorem RdN.at {α : Type} {E : EncR α} {c : Addr → Option Value} {v : Value} {xs : List α} (h : RdN E c v xs) {i : Nat} {x : α} (hx : xs[i]? = some x) : ∃ vs, E.R c x vs ∧ At c v (i * E.sz) vs := by
  rcases h with ⟨_, rfl⟩ | ⟨a, cap, rfl, h0, h1, h4⟩
  · simp at hx
  · obtain ⟨vs, h5, h6⟩ := h4 i x hx
    have hi := (List.getElem?_eq_some_iff.1 hx).1
    exact ⟨vs, h5, a, _, cap, rfl, h0 (by omega), h6⟩
theorem RdN.sub {α : Type} {E : EncR α} {c : Addr → Option Value} {v : Value} {xs : List α} {lo hi : Nat} (h : RdN E c v xs) (h1 : lo ≤ hi) (h2 : hi ≤ xs.length) : RdN E c (subA v lo hi E.sz) ((xs.take hi).drop lo) := by
  have hl : ((xs.take hi).drop lo).length = hi - lo := by simp; omega
  rcases h with ⟨rfl, rfl⟩ | ⟨a, cap, rfl, h0, hn, h⟩
  · simp at h2; subst h2
    obtain rfl : lo = 0 := by omega
    exact .inl ⟨rfl, by simp⟩
  · refine .inr ?_
    unfold subA
    rw [hl]
    by_cases hc : cap = lo
    · simp only [if_pos hc]
      have hz : (xs.take hi).drop lo = [] := List.eq_nil_of_length_eq_zero (by omega)
      refine ⟨a, _, rfl, (fun h => h0 (by omega)), by omega, fun i x hx => ?_⟩
      rw [hz] at hx; simp at hx
    · simp only [if_neg hc]
      have h0 := h0 (by omega)
      refine ⟨a.add (lo * E.sz), _, rfl, (fun _ => by rw [add_none h0]), by omega, fun i x hx => ?_⟩
      rw [List.getElem?_drop] at hx
      obtain ⟨hlt, hx⟩ := List.getElem?_eq_some_iff.1 hx
      rw [List.getElem_take] at hx
      obtain ⟨vs, h5, h6⟩ := h (lo + i) x (List.getElem?_eq_some_iff.2 ⟨_, hx⟩)
      refine ⟨vs, h5, fun j u hj => ?_⟩
      rw [add_none h0]
      have := h6 j u hj
      rw [Nat.add_mul, Nat.add_assoc] at this
      show c ⟨a.block, a.off + lo * E.sz + (i * E.sz + j), none⟩ = some u
      rw [Nat.add_assoc]; exact this
section
variable {E : Env} {g : Bool} {ops : Array Oper} {K : (Nat → Value) → List Bl → Prop} {r : List Oper} {T : Nat → Value} {l : List Bl} {m : Nat} {d : Tmp} {ty : TypeId} {pos : String} {af : Array Edge}
end
end Go.Eng
