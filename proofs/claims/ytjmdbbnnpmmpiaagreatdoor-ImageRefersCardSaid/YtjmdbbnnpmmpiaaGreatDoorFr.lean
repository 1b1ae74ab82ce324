import Derived.Test.YtjmdbbnnpmmpiaaGreatDoorBu
namespace Go.Eng
open Go
def Fv : Type := { v : Value // v.oneCell' = true }
instance : Inhabited Fv := ⟨⟨.bool false, rfl⟩⟩
def GA : Enc Fv := ⟨fun x => [x.1], 1, by decide, fun _ => rfl, fun x v h => by rw [List.mem_singleton] at h; rw [h]; exact x.2, True⟩
theorem HL {α : Type} {xs : List α} {n : Nat} {k : Int} (hl : xs.length = n) (h : 0 ≤ k ∧ k < (n : Int)) : 0 ≤ k ∧ k < (xs.length : Int) := by rw [hl]; exact h
theorem HN {xs : List Fv} {x : Fv} {k : Int} {i : Nat} (hk : k = (i : Int)) (hx : xs[i]? = some x) : xs[k.toNat]? = some x := by subst hk; exact hx
theorem bG {k n : Int} {P : Prop} (_ : P) (h : k = n) : k = n := h
abbrev vF (n : FuncId) (a b : Array Value) : Value := .func (.func n) a b
abbrev Ro : Type := Addr → Option Value
theorem suN {α : Type} : List.Sublist ([] : List α) [] := List.Sublist.slnil
theorem suC {α : Type} {l k : List α} (a : α) (h : List.Sublist l k) : List.Sublist l (a :: k) := List.Sublist.cons a h
theorem suK {α : Type} {l k : List α} (a : α) (h : List.Sublist l k) : List.Sublist (a :: l) (a :: k) := List.Sublist.cons_cons a h
theorem fz0 : (fun k => (#[] : Array Value).getD k undef) = (fun _ => undef) := by funext k; rfl
theorem fz1 {a0 : Value} : (fun k => (#[a0] : Array Value).getD k undef) = (upd (fun _ => undef) 0 a0) := by funext k; match k with | 0 => rfl | k + 1 => rfl
theorem fz2 {a0 a1 : Value} : (fun k => (#[a0, a1] : Array Value).getD k undef) = (upd (upd (fun _ => undef) 1 a1) 0 a0) := by funext k; match k with | 0 => rfl | 1 => rfl | k + 2 => rfl
theorem fz3 {a0 a1 a2 : Value} : (fun k => (#[a0, a1, a2] : Array Value).getD k undef) = (upd (upd (upd (fun _ => undef) 2 a2) 1 a1) 0 a0) := by funext k; match k with | 0 => rfl | 1 => rfl | 2 => rfl | k + 3 => rfl
theorem fz4 {a0 a1 a2 a3 : Value} : (fun k => (#[a0, a1, a2, a3] : Array Value).getD k undef) = (upd (upd (upd (upd (fun _ => undef) 3 a3) 2 a2) 1 a1) 0 a0) := by funext k; match k with | 0 => rfl | 1 => rfl | 2 => rfl | 3 => rfl | k + 4 => rfl
theorem fz5 {a0 a1 a2 a3 a4 : Value} : (fun k => (#[a0, a1, a2, a3, a4] : Array Value).getD k undef) = (upd (upd (upd (upd (upd (fun _ => undef) 4 a4) 3 a3) 2 a2) 1 a1) 0 a0) := by funext k; match k with | 0 => rfl | 1 => rfl | 2 => rfl | 3 => rfl | 4 => rfl | k + 5 => rfl
section
variable {E : Env} {Q : QL} {t : Nat → Value} {l : List Bl} {a b c : ResultVar} {v x y z : Value}
theorem aR (h : Q .ret t l) : A E .ret Q t l := AW (fun _ => h)
theorem eV1 (ha : Co E ⟨t, ownL l, nonw⟩ a = some v := by rfl) : Oq E #[a] [] (pV v) .ret t l := Xo rfl (Cy ha)
theorem eV2 (ha : Co E ⟨t, ownL l, nonw⟩ a = some x := by rfl) (hb : Co E ⟨t, ownL l, nonw⟩ b = some y := by rfl) : Oq E #[a, b] [] (pV (.tuple #[x, y])) .ret t l := Xo rfl (Iw ha hb)
theorem eV3 (ha : Co E ⟨t, ownL l, nonw⟩ a = some x := by rfl) (hb : Co E ⟨t, ownL l, nonw⟩ b = some y := by rfl) (hc : Co E ⟨t, ownL l, nonw⟩ c = some z := by rfl) : Oq E #[a, b, c] [] (pV (.tuple #[x, y, z])) .ret t l := Xo rfl (aS ha hb hc)
theorem eE1 (ha : Co E ⟨t, ownL l, nonw⟩ a = some v := by rfl) : GC E #[a] ⟨t, ownL l, nonw⟩ = some v := Cy ha
theorem eE2 (ha : Co E ⟨t, ownL l, nonw⟩ a = some x := by rfl) (hb : Co E ⟨t, ownL l, nonw⟩ b = some y := by rfl) : GC E #[a, b] ⟨t, ownL l, nonw⟩ = some (.tuple #[x, y]) := Iw ha hb
end
section
variable {α : Type} {p : Prop} [Decidable p] {a b : Option α} {r : Option α} {β : Type} [BEq β] [LawfulBEq β] {x y : β} {q : Bool}
theorem iD (h : decide p = true) (e : (if p then a else b) = r) : a = r := ifp (of_decide_eq_true h) e
theorem iF (h : decide p = false) (e : (if p then a else b) = r) : b = r := ifn (of_decide_eq_false h) e
theorem iE [Decidable (x = y)] (h : (x == y) = true) (e : (if x = y then a else b) = r) : a = r := ifp (eq_of_beq h) e
theorem iG [Decidable (x = y)] (h : (x == y) = false) (e : (if x = y then a else b) = r) : b = r := ifn (ne_of_beq_false h) e
theorem iB (h : q = false) (e : (if q = true then a else b) = r) : b = r := ifn (Bool.eq_false_iff.1 h) e
theorem iN [Decidable (x ≠ y)] (h : (x != y) = true) (e : (if x ≠ y then a else b) = r) : a = r := ifp (bne_iff_ne.1 h) e
theorem iM [Decidable (x ≠ y)] (h : (x != y) = false) (e : (if x ≠ y then a else b) = r) : b = r := ifn (fU h) e
end
theorem cF {P : Program} {c : Addr → Option Value} {ρ : Operand → Value} {d : Option Tmp} {f : FuncId} {l : List Operand} {ts : Array TypeId} {ty : TypeId} {pos : String} {af : Array Edge} {g : Option (Nat × Bool)} {args : List Value} (h : Au P f = true) (hρ : ρ (.func f) = .func (.func f) #[] #[] := by rfl) (ha : l.map ρ = args := by rfl) :
  ev P c (execOp ρ ⟨d, .call ⟨.value (.func f), l.toArray, ts⟩, ty, pos, af, g⟩) = some (.enter f args.toArray) := NR hρ h ha
abbrev cV {α A B : Type} (m : Option α) (f : α → Value) : A → B → Value → List Bl → List Bl → Prop := fun _ _ v L U => ∀ u, m = some u → pV (f u) v L U
section
variable {E : Env} {g : Bool} {ops : Array Oper} {K : (Nat → Value) → List Bl → Prop} {r : List Oper} {T : Nat → Value} {l : List Bl} {m : Nat} {d : Tmp} {ty : TypeId} {pos : String} {af : Array Edge}
theorem rl (v : Value) (i : Nat) {b off : Nat} {e T' : TypeId} {cs : Array Value} {p : Operand} (h : lx E g ops K r (upd T d v) l m) (hd : decide (d < E.n) = true := by rfl) (hp : rd T p = .pointer (some ⟨b, off, none⟩) := by rfl) (hl : l[i]? = some (b, T', cs) := by rfl) (hm : decide (m ≤ i) = true := by rfl)
  (hv : FR E.P e cs off = some v := by rfl) (hpl : Gi E.ks ⟨some d, .load e p, ty, pos, af, none⟩ := by rfl) : lx E g ops K (⟨some d, .load e p, ty, pos, af, none⟩ :: r) T l m := r_l v i b off T' cs hd hp hl hm hv h hpl
theorem rc (v : Value) {f : FuncId} {args : Array Value} {c : Call} (hy : ev E.P E.ro (execOp (rd T) ⟨some d, .call c, ty, pos, af, none⟩) = some (.enter f args)) (hg : Gives E.P f args v)
  (h : lx E g ops K r (upd T d v) l m) (hd : decide (d < E.n) = true := by rfl) (hpl : Gi E.ks ⟨some d, .call c, ty, pos, af, none⟩ := by rfl) : lx E g ops K (⟨some d, .call c, ty, pos, af, none⟩ :: r) T l m := r_c v hd f args hy hg h hpl
theorem rg {c : Call} (v0 : Value) {f : FuncId} {args : Array Value}
  (he : ev E.P E.ro (execOp (rd T) ⟨some d, .call c, ty, pos, af, none⟩) = some (.enter f args))
  (hdo : ∀ own nw, Sees E l m own nw → DoesI E.P f args E.inv (cellA E own nw) [] (pV v0))
  (hcon : ∀ args view v L U, E.con ⟨some d, .call c, ty, pos, af, none⟩ args view v L U ↔ pV v0 v L U)
  (h : lx E g ops K r (upd T d v0) l m) (hd : decide (d < E.n) = true := by rfl) (hk : E.ks.find? (fun x => x.1 == some d) = some (some d, false) := by rfl) (hm : decide (m ≤ l.length) = true := by rfl) : lx E g ops K (⟨some d, .call c, ty, pos, af, none⟩ :: r) T l m := gf v0 f args hd hk hm he hdo hcon h
end
end Go.Eng
