import Derived.Test.YthafnifhhblkbaaGreatDoorRef
import Derived.Test.YthafnifhhblkbaaGreatDoorMove
import Derived.Test.YthafnifhhblkbaaGreatDoorSr
import Derived.Test.YthafnifhhblkbaaGreatDoorShelf
import Derived.Lib.LaidTab
import Derived.Test.YthafnifhhblkbaaGreatDoorFr
namespace Go.Proofs.YthafnifhhblkbaaGreatDoor
open Go Go.RowKit Go.Eng
set_option maxRecDepth 100000 in
set_option maxHeartbeats 400000 in
theorem kE (x : BitVec 128) : Gives Tryz.prog 134 #[Value.agg (Cp (BitVec.getLsbD (x)))] (Value.int .i64 (((len128 x : Nat) : Int))) := by
 refine Aq follows Tryz.func134 rfl 13 rfl (upd (fun _ => undef) 0 (Value.agg (Cp (BitVec.getLsbD (x))))) (by funext k; match k with | 0 => rfl | k + 1 => rfl) (fun base => ?_)
 refine Aa fun K1 hK1 => ?_
 refine Ar ?_
 refine r_a (207, Cp (BitVec.getLsbD (x))) rfl rfl rfl (fun b2 => ?_) (.inr rfl)
 refine r_v (Value.int .i64 (0)) rfl rfl rfl rfl ?_
 refine As ?_
 refine hK1 _ _ ?_; try clear hK1 K1
 refine Aa fun K3 hK3 => ?_
 refine Aa fun K4 hK4 => ?_
 refine Ar ?_
 refine r_v (Value.int .i64 (127)) rfl rfl rfl rfl ?_
 refine As ?_
 refine hK4 _ _ ?_; try clear hK4 K4
 refine Aj ?_
 refine AU (fun tt ll nn => ∃ (k : Nat), (k ≤ 128) ∧ (∀ j, k ≤ j → j < 128 → x.getLsbD j = false) ∧ Is [(0, Value.agg (Cp (BitVec.getLsbD (x)))), (1, Value.pointer (some ⟨b2, 0, none⟩)), (3, Value.int .i64 (((k : Nat) : Int) - 1))] [(b2, 207, Cp (BitVec.getLsbD (x)))] tt ll ∧ nn = k + 1) (128 + 1) ?_ ?_
 ·exact ⟨128, by omega, fun j h1 h2 => by omega, Ak (rfl) (rfl), rfl⟩
 ·rintro t l n ⟨k, hp0, hp1, ⟨⟨T, rfl⟩, rfl⟩, rfl⟩
  refine Aa fun K5 hK5 => ?_
  refine Aa fun K6 hK6 => ?_
  refine Ar ?_
  refine r_v (Value.int .i64 (((k : Nat) : Int) - 1)) rfl rfl rfl rfl ?_
  refine r_v (Value.bool (decide ((((k : Nat) : Int) - 1 : Int) ≥ 0))) rfl rfl rfl rfl ?_
  refine As ?_
  refine hK6 _ _ ?_; try clear hK6 K6
  refine AB (decide ((((k : Nat) : Int) - 1 : Int) ≥ 0)) rfl (fun hc7 => ?_) (fun hc7 => ?_)
  ·have hc7x := of_decide_eq_true hc7
   obtain ⟨m, rfl⟩ : ∃ m, k = m + 1 := ⟨k - 1, by omega⟩
   rw [show (((m + 1 : Nat) : Int) - 1) = ((m : Nat) : Int) from by omega]
   refine Af ?_
   refine hK5 _ _ ?_; try clear hK5 K5
   refine Aa fun K8 hK8 => ?_
   refine Aj ?_
   refine Aa fun K9 hK9 => ?_
   refine Ar ?_
   refine r_v (Value.int .i64 (((m : Nat) : Int))) rfl rfl rfl rfl ?_
   have hx9 := GE (YP (P := Tryz.prog) (c := fun _ => none) (t := 207) (b := b2) (off := 0) (m) rfl rfl rfl (by omega))
   rw [Nat.zero_add] at hx9
   refine r_v (Value.pointer (some ⟨b2, m, none⟩)) rfl rfl rfl hx9 ?_
   clear hx9
   refine r_l (Value.bool ((x).getLsbD (m))) 0 _ _ _ _ rfl rfl rfl rfl (Zu rfl _ (by omega)) ?_
   refine As ?_
   refine hK9 _ _ ?_; try clear hK9 K9
   refine AB ((x).getLsbD (m)) rfl (fun hc10 => ?_) (fun hc10 => ?_)
   ·refine Aa fun K11 hK11 => ?_
    refine Ar ?_
    refine r_v (Value.int .i64 (((m : Nat) : Int))) rfl rfl rfl rfl ?_
    refine r_v (Value.int .i64 (((m + 1 : Nat) : Int))) rfl rfl (Ot (by omega) (by omega) (by omega)) rfl ?_
    refine r_v (Value.int .i64 (((m + 1 : Nat) : Int))) rfl rfl rfl rfl ?_
    refine As ?_
    refine hK11 _ _ ?_; try clear hK11 K11
    refine Au (fun hn => Co (v0 := Value.int .i64 (((m + 1 : Nat) : Int))) (congrArg (fun z : Nat => Value.int .i64 (z : Int)) (au hc10 (fun j h1 h2 => hp1 j h1 h2))) (AV rfl))
   ·refine Af ?_
    refine hK8 _ _ ?_; try clear hK8 K8
    refine Ar ?_
    refine r_v (Value.int .i64 (((m : Nat) : Int))) rfl rfl rfl rfl ?_
    refine r_v (Value.int .i64 ((((m : Nat) : Int)) - (1))) rfl rfl (Ot (by omega) (by omega) (by omega)) rfl ?_
    refine r_v (Value.int .i64 ((((m : Nat) : Int)) - (1))) rfl rfl rfl rfl ?_
    refine As ?_
    refine fg _ (.of (List.Sublist.cons_cons _ (List.Sublist.slnil))) ?_
    exact ⟨_, by omega, m, by omega, fun j h1 h2 => by
   by_cases hj : j = m
   ·subst hj; exact hc10
   ·exact hp1 j (by omega) h2, Ak (by first | rfl | (simp only [hc10, hc7]; rfl)) (rfl), rfl⟩
  ·have hc7x := of_decide_eq_false hc7
   refine AS ?_
   refine hK3 _ _ ?_; try clear hK3 K3
   refine Aa fun K12 hK12 => ?_
   refine Ar ?_
   refine r_v (Value.int .i64 (0)) rfl rfl rfl rfl ?_
   refine As ?_
   refine hK12 _ _ ?_; try clear hK12 K12
   refine Au (fun hn => Co (v0 := Value.int .i64 (0)) (congrArg (fun z : Nat => Value.int .i64 (z : Int)) (WJ (fun j hj => hp1 j (by omega) hj))) (AV rfl))
end Go.Proofs.YthafnifhhblkbaaGreatDoor
namespace Go.Proofs.YthafnifhhblkbaaGreatDoor
open Go Go.RowKit Go.Eng
def mP (_ : World) : Prop := True
def mN (_ : World) : Prop := True
def CC : List Int := [8, 8, 8, 1, 8, 1, 16, 8]
def mM (w : World) : Prop := Lib.TabIs Tryz.prog w "shunter/image.metaWidths" .i64 CC
def mO (_ : World) : Prop := True
def Ej (w : World) : Prop := mO w ∧ mP w ∧ mN w ∧ mM w
theorem NK {w : World} (h : Ej w) (i : Nat) (hi : i < 8) : w.cell? ⟨0, i, none⟩ = some (.int .i64 (CC[i]!)) := by
 rw [World.var?_cell (n := "shunter/image.metaWidths") (by kernel_rfl) h.2.2.2 i]
 match i, hi with
 | 0, _ => rfl | 1, _ => rfl | 2, _ => rfl | 3, _ => rfl | 4, _ => rfl | 5, _ => rfl | 6, _ => rfl | 7, _ => rfl
theorem be {P : Program} {w w' : World} {name : String} {cs : Array Value} (h : w.var? P name = some cs) (hk : ∀ k, k < w.heap.size → w'.heap[k]? = w.heap[k]?) : w'.var? P name = some cs := by
 unfold World.var? at h ⊢
 cases hg : P.globalNamed name with
 | none => simp [hg] at h
 | some g =>
  simp only [hg, Option.bind_some] at h ⊢
  rcases Nat.lt_or_ge g w.heap.size with h1 | h1
  ·rw [hk g h1]; exact h
  ·rw [Array.getElem?_eq_none h1] at h; cases h
theorem AW (w w' : World) (h : Ej w) (hk : Kept w.heap.size (([] : List Bl).map (·.1)) w w') : Ej w' := by
 obtain ⟨h1, h2, h3, h4⟩ := h
 have hb : ∀ k, k < w.heap.size → w'.heap[k]? = w.heap[k]? := fun k hlt => hk.block k hlt (by simp)
 refine ⟨?_, ?_, ?_, ?_⟩
 ·exact h1
 ·exact h2
 ·exact h3
 ·exact be h4 hb
section
variable {P : Program} {c : Addr → Option Value} {ρ : Operand → Value} {d : Option Tmp} {t t' : TypeId} {a b : Operand} {ty : TypeId} {pos : String} {af : Array Edge} {g : Option (Nat × Bool)} {x y : Int}
end
section
variable {E : Env} {g : Bool} {ops : Array Oper} {K : (Nat → Value) → List Bl → Prop} {r : List Oper} {T : Nat → Value} {l : List Bl} {m : Nat} {d : Tmp} {ty : TypeId} {pos : String} {af : Array Edge}
theorem lE {b o : Nat} {e : TypeId} {p : Operand} (v0 : Value) (hd : decide (d < E.n) = true) (hk : E.ks.find? (fun x => x.1 == some d) = some (some d, false)) (hm : decide (m ≤ l.length) = true)
  (hp : rd T p = .pointer (some ⟨b, o, none⟩)) (hv : DE E.P e #[v0] 0 = some v0) (hi : ∀ w, E.inv w → w.cell? ⟨b, o, none⟩ = some v0)
  (hcon : ∀ args view v L U, E.con ⟨some d, .load e p, ty, pos, af, none⟩ args view v L U ↔ pV v0 v L U)
  (h : lx E g ops K r (upd T d v0) l m) : lx E g ops K (⟨some d, .load e p, ty, pos, af, none⟩ :: r) T l m := by
 refine r_g false (pV v0) hd hk rfl hm (fun hnd own nw hse => ?_) (fun v L U hpv => ?_)
 ·have hco : conOf E ⟨T, own, nw⟩ ⟨some d, .load e p, ty, pos, af, none⟩ = pV v0 := by
   funext v L U; exact propext (hcon _ _ v L U)
  refine ⟨⟨?_, ?_, ?_, ?_, ?_⟩, ?_⟩
  ·rw [hco]; exact fun _ => (PB v0).wit
  ·rw [hco]; exact fun v L U hpv => ⟨((PB v0).nod v L U hpv).1, by rw [((PB v0).nod v L U hpv).2]; exact List.nodup_nil⟩
  ·rw [hco]; intro v L U hpv x hx; rw [((PB v0).nod v L U hpv).2] at hx; cases hx
  ·rw [hco]; exact fun _ v L U hpv => ((PB v0).nod v L U hpv).2
  ·rw [hco]
   intro w hbase _ _
   have h1 : ev E.P w.cell? (execOp (rd T) ⟨some d, .load e p, ty, pos, af, none⟩) = some (.value v0) :=
    QT hp (by
     have := VO (P := E.P) (c := w.cell?) (b := b) (off := o) (o := 0) (ty := e) (vs := [v0]) (v := v0) (fun j u hj => by
      cases j with
      | zero => simp only [List.getElem?_cons_zero, Option.some.injEq] at hj; subst hj; exact hi w hbase.2
      | succ j => simp at hj) hv
     rwa [Nat.add_zero] at this)
   exact .inl ⟨v0, w, [], [], Oi (fun _ _ h => h) _ _ h1, ⟨rfl, rfl, rfl, Nat.le_refl _, fun _ _ _ => rfl, fun _ h => (nomatch h), fun _ h => (nomatch h)⟩, rfl, rfl, rfl⟩
  ·rw [hco]; exact fun v L U hpv => hpv
 ·obtain ⟨rfl, rfl, rfl⟩ := hpv
  refine ⟨l, fun _ => PutU.nil _, ?_⟩
  rw [List.append_nil]; exact h
end
end Go.Proofs.YthafnifhhblkbaaGreatDoor
namespace Go.Eng
open Go
section
variable {E : Env} {g : Bool} {ops : Array Oper} {K : (Nat → Value) → List Bl → Prop} {r : List Oper} {T : Nat → Value} {m : Nat} {d : Tmp} {ty : TypeId} {pos : String} {af : Array Edge}
end
def MixR {α : Type} (E : Nl α) (c : Addr → Option Value) {n : Nat} : List (Raw n) → List α → Prop
 | [], [] => True
 | r :: rs, x :: xs => E.R c x r.1 ∧ MixR E c rs xs
 | _, _ => False
theorem MixR.len {α : Type} {E : Nl α} {c : Addr → Option Value} {n : Nat} : ∀ {rs : List (Raw n)} {xs : List α}, MixR E c rs xs → rs.length = xs.length
 | [], [], _ => rfl
 | _ :: _, _ :: _, h => congrArg (· + 1) (MixR.len h.2)
 | [], _ :: _, h => h.elim
 | _ :: _, [], h => h.elim
theorem MixR.get {α : Type} {E : Nl α} {c : Addr → Option Value} {n : Nat} : ∀ {rs : List (Raw n)} {xs : List α}, MixR E c rs xs → ∀ {i : Nat} {x : α}, xs[i]? = some x → ∃ r, rs[i]? = some r ∧ E.R c x r.1
 | [], [], _, _, _, hx => by simp at hx
 | r :: _, _ :: _, h, 0, _, hx => by cases hx; exact ⟨r, rfl, h.1⟩
 | _ :: _, _ :: _, h, _ + 1, _, hx => MixR.get h.2 hx
 | [], _ :: _, h, _, _, _ => h.elim
 | _ :: _, [], h, _, _, _ => h.elim
theorem iy {α : Type} {E : Nl α} {c : Addr → Option Value} {n : Nat} {hn : 0 < n} {v : Value} {rs : List (Raw n)} {xs : List α} (hr : Rd (VR n hn) c v rs) (hm : MixR E c rs xs) (hsz : n = E.sz := by rfl) : RdN E c v xs := by
 have hl := hm.len
 rcases hr with ⟨h1, h2⟩ | ⟨a, cap, h1, h2, h3, h4⟩
 ·subst h2
  exact .inl ⟨h1, List.length_eq_zero_iff.1 hl.symm⟩
 ·refine .inr ⟨a, cap, by rw [h1, hl], h2, by rw [← hl]; exact h3, fun i x hx => ?_⟩
  obtain ⟨r, hr1, hr2⟩ := hm.get hx
  refine ⟨r.1, hr2, fun j u hj => ?_⟩
  have := (VR n hn).all_get hr1 j u hj
  rw [← hsz]
  exact h4 _ _ this
end Go.Eng
