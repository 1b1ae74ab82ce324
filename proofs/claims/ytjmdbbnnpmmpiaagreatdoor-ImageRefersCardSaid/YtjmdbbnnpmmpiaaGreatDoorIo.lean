import Derived.Test.YtjmdbbnnpmmpiaaGreatDoorWord
import Derived.Test.YtjmdbbnnpmmpiaaGreatDoorMm
import Derived.Test.YtjmdbbnnpmmpiaaGreatDoorSr
import Derived.Test.YtjmdbbnnpmmpiaaGreatDoorShelf
import Derived.Lib.LaidTab
namespace Go.Proofs.YtjmdbbnnpmmpiaaGreatDoor
open Go Go.RowKit Go.Eng
theorem Un (y : BitVec 64) : Gives Tryz.prog 304 #[U y] (.int .i64 ((Lib.bitLen y.toNat : Nat) : Int)) :=
 Gives.of_same (fun w => Tryz.bits_Len64 (y.toNat : Int) w (by omega) (by have := y.isLt; omega))
set_option maxRecDepth 100000 in
set_option maxHeartbeats 400000 in
theorem fD (x : BitVec 128) : Gives Tryz.prog 293 #[Value.agg #[U (hi (x)), U (lo (x))]] (Value.int .i64 (((len128 x : Nat) : Int))) := by
 have hb := (cA (hi x).toNat (hi x).isLt).2.2
 refine AC follows Tryz.func293 rfl 13 rfl (upd (fun _ => undef) 0 (Value.agg #[U (hi (x)), U (lo (x))])) (by funext k; match k with | 0 => rfl | k + 1 => rfl) (fun base => ?_)
 refine Ai fun K1 hK1 => ?_
 refine Ax ?_
 refine r_a (307, #[U (hi (x)), U (lo (x))]) rfl rfl rfl (fun b2 => ?_) (.inr rfl)
 refine r_v (Value.int .i64 (0)) rfl rfl rfl rfl ?_
 refine Aa ?_
 refine hK1 _ _ ?_; try clear hK1 K1
 refine Ai fun K3 hK3 => ?_
 refine Ai fun K4 hK4 => ?_
 refine Ax ?_
 refine r_v (Value.pointer (some ⟨b2, 0, none⟩)) rfl rfl rfl rfl ?_
 refine r_l (U (hi (x))) 0 _ _ _ _ rfl rfl rfl rfl rfl ?_
 refine r_v (Value.bool ((hi (x)) == (0#64))) rfl rfl (gj (hi (x)) (0#64)) rfl ?_
 refine Aa ?_
 refine hK4 _ _ ?_; try clear hK4 K4
 refine Af ((hi (x)) == (0#64)) rfl (fun hc5 => ?_) (fun hc5 => ?_)
 ·have hc5x := eq_of_beq hc5
  refine Ai fun K6 hK6 => ?_
  refine Ax ?_
  refine r_v (Value.pointer (some ⟨b2, 1, none⟩)) rfl rfl rfl rfl ?_
  refine r_l (U (lo (x))) 0 _ _ _ _ rfl rfl rfl rfl rfl ?_
  refine r_c (Value.int .i64 (((Lib.bitLen (lo (x)).toNat : Nat) : Int))) rfl _ _ (NR rfl Sr rfl) (Un (lo (x))) ?_
  refine r_v (Value.int .i64 (((Lib.bitLen (lo (x)).toNat : Nat) : Int))) rfl rfl rfl rfl ?_
  refine Aa ?_
  refine hK6 _ _ ?_; try clear hK6 K6
  refine AW (fun hn => CY (v0 := Value.int .i64 (((Lib.bitLen (lo (x)).toNat : Nat) : Int))) (by unfold len128; rw [if_pos hc5x]) (Cy rfl))
 ·have hc5x := ne_of_beq_false hc5
  refine Ah ?_
  refine hK3 _ _ ?_; try clear hK3 K3
  refine Ai fun K7 hK7 => ?_
  refine Ax ?_
  refine r_v (Value.pointer (some ⟨b2, 0, none⟩)) rfl rfl rfl rfl ?_
  refine r_l (U (hi (x))) 0 _ _ _ _ rfl rfl rfl rfl rfl ?_
  refine r_c (Value.int .i64 (((Lib.bitLen (hi (x)).toNat : Nat) : Int))) rfl _ _ (NR rfl Sr rfl) (Un (hi (x))) ?_
  refine r_v (Value.int .i64 (64 + ((Lib.bitLen (hi (x)).toNat : Nat) : Int))) rfl rfl (AR (by omega) (by omega) (by omega)) rfl ?_
  refine r_v (Value.int .i64 (64 + ((Lib.bitLen (hi (x)).toNat : Nat) : Int))) rfl rfl rfl rfl ?_
  refine Aa ?_
  refine hK7 _ _ ?_; try clear hK7 K7
  refine AW (fun hn => CY (v0 := Value.int .i64 (64 + ((Lib.bitLen (hi (x)).toNat : Nat) : Int))) (by unfold len128; rw [if_neg hc5x]; rfl) (Cy rfl))
end Go.Proofs.YtjmdbbnnpmmpiaaGreatDoor
namespace Go.Proofs.YtjmdbbnnpmmpiaaGreatDoor
open Go Go.RowKit Go.Eng
def gn (_ : World) : Prop := True
def gl (_ : World) : Prop := True
def BA : List Int := [8, 8, 8, 1, 8, 1, 16, 8]
def gk (w : World) : Prop := Lib.TabIs Tryz.prog w "shunter/image.metaWidths" .i64 BA
def gm (_ : World) : Prop := True
def DZ (w : World) : Prop := gm w ∧ gn w ∧ gl w ∧ gk w
theorem JS {w : World} (h : DZ w) (i : Nat) (hi : i < 8) : w.cell? ⟨0, i, none⟩ = some (.int .i64 (BA[i]!)) := by
 rw [World.var?_cell (n := "shunter/image.metaWidths") (by kernel_rfl) h.2.2.2 i]
 match i, hi with
 | 0, _ => rfl | 1, _ => rfl | 2, _ => rfl | 3, _ => rfl | 4, _ => rfl | 5, _ => rfl | 6, _ => rfl | 7, _ => rfl
theorem VN {P : Program} {w w' : World} {name : String} {cs : Array Value} (h : w.var? P name = some cs) (hk : ∀ k, k < w.heap.size → w'.heap[k]? = w.heap[k]?) : w'.var? P name = some cs := by
 unfold World.var? at h ⊢
 cases hg : P.globalNamed name with
 | none => simp [hg] at h
 | some g =>
  simp only [hg, Option.bind_some] at h ⊢
  rcases Nat.lt_or_ge g w.heap.size with h1 | h1
  ·rw [hk g h1]; exact h
  ·rw [Array.getElem?_eq_none h1] at h; cases h
theorem AT (w w' : World) (h : DZ w) (hk : Kept w.heap.size (([] : List Bl).map (·.1)) w w') : DZ w' := by
 obtain ⟨h1, h2, h3, h4⟩ := h
 have hb : ∀ k, k < w.heap.size → w'.heap[k]? = w.heap[k]? := fun k hlt => hk.block k hlt (by simp)
 refine ⟨?_, ?_, ?_, ?_⟩
 ·exact h1
 ·exact h2
 ·exact h3
 ·exact VN h4 hb
section
variable {P : Program} {c : Addr → Option Value} {ρ : Operand → Value} {d : Option Tmp} {t t' : TypeId} {a b : Operand} {ty : TypeId} {pos : String} {af : Array Edge} {g : Option (Nat × Bool)} {x y : Int}
end
section
variable {E : Env} {g : Bool} {ops : Array Oper} {K : (Nat → Value) → List Bl → Prop} {r : List Oper} {T : Nat → Value} {l : List Bl} {m : Nat} {d : Tmp} {ty : TypeId} {pos : String} {af : Array Edge}
theorem eZ {b o : Nat} {e : TypeId} {p : Operand} (v0 : Value) (hd : decide (d < E.n) = true) (hk : E.ks.find? (fun x => x.1 == some d) = some (some d, false)) (hm : decide (m ≤ l.length) = true)
  (hp : rd T p = .pointer (some ⟨b, o, none⟩)) (hv : FR E.P e #[v0] 0 = some v0) (hi : ∀ w, E.inv w → w.cell? ⟨b, o, none⟩ = some v0)
  (hcon : ∀ args view v L U, E.con ⟨some d, .load e p, ty, pos, af, none⟩ args view v L U ↔ pV v0 v L U)
  (h : lx E g ops K r (upd T d v0) l m) : lx E g ops K (⟨some d, .load e p, ty, pos, af, none⟩ :: r) T l m := by
 refine r_g false (pV v0) hd hk rfl hm (fun hnd own nw hse => ?_) (fun v L U hpv => ?_)
 ·have hco : conOf E ⟨T, own, nw⟩ ⟨some d, .load e p, ty, pos, af, none⟩ = pV v0 := by
   funext v L U; exact propext (hcon _ _ v L U)
  refine ⟨⟨?_, ?_, ?_, ?_, ?_⟩, ?_⟩
  ·rw [hco]; exact fun _ => (LA v0).wit
  ·rw [hco]; exact fun v L U hpv => ⟨((LA v0).nod v L U hpv).1, by rw [((LA v0).nod v L U hpv).2]; exact List.nodup_nil⟩
  ·rw [hco]; intro v L U hpv x hx; rw [((LA v0).nod v L U hpv).2] at hx; cases hx
  ·rw [hco]; exact fun _ v L U hpv => ((LA v0).nod v L U hpv).2
  ·rw [hco]
   intro w hbase _ _
   have h1 : ev E.P w.cell? (execOp (rd T) ⟨some d, .load e p, ty, pos, af, none⟩) = some (.value v0) :=
    MB hp (by
     have := QJ (P := E.P) (c := w.cell?) (b := b) (off := o) (o := 0) (ty := e) (vs := [v0]) (v := v0) (fun j u hj => by
      cases j with
      | zero => simp only [List.getElem?_cons_zero, Option.some.injEq] at hj; subst hj; exact hi w hbase.2
      | succ j => simp at hj) hv
     rwa [Nat.add_zero] at this)
   exact .inl ⟨v0, w, [], [], KC (fun _ _ h => h) _ _ h1, ⟨rfl, rfl, rfl, Nat.le_refl _, fun _ _ _ => rfl, fun _ h => (nomatch h), fun _ h => (nomatch h)⟩, rfl, rfl, rfl⟩
  ·rw [hco]; exact fun v L U hpv => hpv
 ·obtain ⟨rfl, rfl, rfl⟩ := hpv
  refine ⟨l, fun _ => PutU.nil _, ?_⟩
  rw [List.append_nil]; exact h
end
end Go.Proofs.YtjmdbbnnpmmpiaaGreatDoor
