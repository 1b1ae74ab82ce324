/- Conversions of a row of bytes to its own type; rows of rows that lie here and there. Conditions: none but those written. -/
import Derived.Test.YtnpbpllibmcokaaFr
namespace Go.Eng
open Go
/-- The row as it is, behind a conversion to its own type. -/
def pCv {α : Type} (e : TypeId) (En : Enc α) (xs : List α) (sv : Value) : Pst := fun v L U => L = [] ∧ v = sv ∧ U.map (·.1) = blkS sv ∧ Sl e En sv xs U
theorem sl_room {α : Type} {e : TypeId} {En : Enc α} {v : Value} {xs : List α} {S : List Bl} (h : Sl e En v xs S) (hn : 0 < xs.length) : ∃ b cap cs, v = .slice (some ⟨b, 0, none⟩) xs.length cap ∧ S = [(b, e, cs)] ∧ 0 < cap := by
  rcases h with ⟨_, _, h, _⟩ | ⟨b, cap, cs, h1, h2, _, _, h3⟩
  · rw [h] at hn; exact absurd hn (Nat.lt_irrefl 0)
  · exact ⟨b, cap, cs, h1, h3, by omega⟩
theorem blkS_of {α : Type} {e : TypeId} {En : Enc α} {v : Value} {xs : List α} {S : List Bl} (h : Sl e En v xs S) (hn : 0 < xs.length) : S.map (·.1) = blkS v := by
  obtain ⟨b, cap, cs, rfl, rfl, hc⟩ := sl_room h hn
  show [b] = if cap = 0 then [] else [b]
  rw [if_neg (by omega)]
theorem ext_freeze {w : World} {b : Nat} {T : TypeId} {cs : Array Value} (hT : decide (T < OBJ) = true) (h : Holds w b T cs) : ExtW w (w.freeze ⟨b, cs.size, none⟩ 1) [] [(b, T, cs)] := by
  obtain ⟨fr, hb, hfr⟩ := h.cells hT
  refine ⟨?_, ?_, ?_, by rw [size_freeze]; exact Nat.le_refl _, fun k _ hne => heap_freeze w _ _ (fun e => hne (b, T, cs) (List.mem_singleton.2 rfl) e.symm), fun x hx => ?_, fun _ h => (nomatch h), (by unfold World.freeze; split <;> exact Nat.le_refl _)⟩
  · unfold World.freeze; split <;> rfl
  · unfold World.freeze; split <;> rfl
  · unfold World.freeze; split <;> rfl
  · rw [List.mem_singleton] at hx; subst hx
    obtain ⟨lo, hi⟩ := fr
    refine .inl ⟨of_decide_eq_true hT, (if lo == hi then (cs.size, cs.size + 1) else (min lo cs.size, max hi (cs.size + 1))), ?_, ?_⟩
    · show (w.freeze ⟨b, cs.size, none⟩ 1).heap[b]? = _
      unfold World.freeze
      rw [if_neg (by decide)]
      simp only [Array.getElem?_modify, hb, Option.map_some, if_true]
    · right
      split
      · exact Nat.le_refl _
      · rename_i hne
        rcases hfr with h | h
        · cases h; exact absurd rfl hne
        · show cs.size ≤ min lo cs.size
          have : cs.size ≤ lo := h
          omega
section
variable {E : Env} {g : Bool} {ops : Array Oper} {K : (Nat → Value) → List Bl → Prop} {r : List Oper} {T : Nat → Value} {m : Nat} {d : Tmp} {ty : TypeId} {pos : String} {af : Array Edge}
/-- []byte(b), b of the same type: the row is marked, and as it was. -/
theorem r_cvs {α : Type} {Ls : List (List Bl)} {src dst ee ed : TypeId} {x : Operand} (k : Nat) {S : List Bl} {e : TypeId} {En : Enc α} {sv : Value} {xs : List α} (hd : decide (d < E.n) = true) (hk : E.ks.find? (fun x => x.1 == some d) = some (some d, true)) (hx : rd T x = sv)
    (hS : Ls[k]? = some S) (hSl : Sl e En sv xs S) (hm : decide (m ≤ (Ls.take k).flatten.length) = true) (hn : decide (0 < xs.length) = true) (hsd : (src == dst) = true) (hs : E.P.underlying src = some (.slice ee)) (hu : E.P.underlying dst = some (.slice ed)) (he : E.P.underlying ed = some (.int .u8)) (hT : decide (e < OBJ) = true)
    (hcon : ∀ args view v L U, E.con ⟨some d, .convert src dst x, ty, pos, af, none⟩ args view v L U ↔ pCv e En xs (argAt args 0) v L U)
    (h : ∀ S', Sl e En sv xs S' → lx E g ops K r (upd T d sv) (Ls.set k S').flatten m) : lx E g ops K (⟨some d, .convert src dst x, ty, pos, af, none⟩ :: r) T Ls.flatten m := by
  have hm' := of_decide_eq_true hm
  have hn' := of_decide_eq_true hn
  obtain ⟨hf1, hf2⟩ := flat_split hS
  have hbl := blkS_of hSl hn'
  refine r_g true (pCv e En xs sv) hd hk rfl (decide_eq_true (by rw [hf1, List.length_append]; omega)) (fun hnd own nw hse => ?_) (fun v L U hp => ?_)
  · have hco : conOf E ⟨T, own, nw⟩ ⟨some d, .convert src dst x, ty, pos, af, none⟩ = pCv e En xs sv := by
      funext v L U
      refine propext ((hcon _ _ v L U).trans ?_)
      show pCv e En xs (rd T x) v L U ↔ _
      rw [hx]
    have hSn : (S.map (·.1)).Nodup := by
      rw [hf1, List.map_append, List.map_append, List.nodup_append] at hnd
      exact (List.nodup_append.1 hnd.2.1).1
    have hblk : ∀ x ∈ S, own x.1 = some x.2 ∧ nw x.1 = false := fun x hx => by
      obtain ⟨i, him, hi⟩ := mem_chunk hS hm x hx
      obtain ⟨g1, g2⟩ := hse.has i _ _ hi
      exact ⟨g1, by rw [g2]; simp; omega⟩
    refine ⟨⟨fun _ k => ?_, fun v L U hc => ?_, fun v L U hc x hx => ?_, fun h => (nomatch h), fun w _ hcell hheap => ?_⟩, fun v L U hc => by rw [hco] at hc; exact hc⟩
    · rw [hco]
      exact ⟨sv, [], S, ⟨rfl, rfl, hbl, hSl⟩, fun x hx => (nomatch hx)⟩
    · rw [hco] at hc; obtain ⟨rfl, _, hc, _⟩ := hc
      exact ⟨List.nodup_nil, by rw [hc, ← hbl]; exact hSn⟩
    · rw [hco] at hc; obtain ⟨rfl, _, hc, _⟩ := hc
      have : x.1 ∈ S.map (·.1) := by rw [hbl, ← hc]; exact List.mem_map.2 ⟨x, hx, rfl⟩
      obtain ⟨y, hy, e⟩ := List.mem_map.1 this
      rw [← e]
      exact ⟨⟨_, (hblk y hy).1⟩, (hblk y hy).2⟩
    · rw [hco]
      obtain ⟨b, cap, cs, hv, hSe, _⟩ := sl_room hSl hn'
      have hb := hblk (b, e, cs) (by rw [hSe]; exact List.mem_singleton.2 rfl)
      have hh := hheap b (e, cs) hb.1 hb.2
      obtain ⟨fr, hc, _⟩ := hh.cells hT
      have hsh : w.shape? b = some (e, cs.size) := by unfold World.shape?; rw [hc]
      refine .inl ⟨sv, w.freeze ⟨b, cs.size, none⟩ 1, [], S, ?_, by rw [hSe]; exact ext_freeze hT hh, rfl, rfl, hbl, hSl⟩
      have e1 : execOp (rd T) ⟨some d, .convert src dst x, ty, pos, af, none⟩ = (do pure (Next.value (← convert src dst (rd T x))) : Sem Next) := rfl
      rw [e1, hx, hv, Sem.run_bind]
      have e2 : (convert src dst (.slice (some ⟨b, 0, none⟩) xs.length cap)).run E.P w = .ok (.slice (some ⟨b, 0, none⟩) xs.length cap) (w.freeze ⟨b, cs.size, none⟩ 1) := by
        simp [convert, run_underlying hs, run_underlying hu, run_underlying he, markStringish, hsh, hsd]
      rw [e2]; rfl
  · obtain ⟨rfl, rfl, hU, hp⟩ := hp
    refine ⟨(Ls.set k U).flatten, fun hnd => ?_, by rw [List.append_nil]; exact h U hp⟩
    rw [hf1, hf2] at *
    exact PutU.part hnd (hU.trans hbl.symm)
end
/-- What stands in an array of words. -/
def ixU (l : List (BitVec 64)) (i : Int) : BitVec 64 := l.getD i.toNat 0
theorem ev_ixU {P : Program} {c : Addr → Option Value} {t e : TypeId} {n : Nat} {i : TypeInfo} {d : TypeDesc} {k : IntKind} {j : Int} {l : List (BitVec 64)} {vs : Array Value} (hu : P.underlying t = some (.array n e)) (hi : P.info? e = some i) (hs : i.size = 1) (hd : P.underlying e = some d) (hg : (match d with | .struct _ | .array _ _ => true | _ => false) = false) (hv : vs = (l.map U).toArray) (hn : n = l.length) (hj : 0 ≤ j ∧ j < (n : Int)) :
    ev P c (Instr.index t (.agg vs) (.int k j)) = some (U (ixU l j)) := by
  have hA : ev P c (isAgg e) = some false := by
    unfold isAgg
    simp only [ev_bind, ev_underlying hd, Option.bind_some]
    cases d <;> simp_all [ev_pure]
  have hlt : j.toNat < l.length := by omega
  unfold Instr.index
  simp only [asIntOf, ev_bind, ev_pure, Option.bind_some, ev_underlying hu]
  rw [if_pos hj]
  unfold part
  subst hv
  simp only [ev_bind, ev_sizeOf hi, hs, Option.bind_some, hA, Bool.false_eq_true, if_false, Nat.mul_one]
  have : ((l.map U).toArray)[j.toNat]? = some (U (ixU l j)) := by
    simp [ixU, List.getD, List.getElem?_eq_getElem hlt]
  simp only [this]
  rfl
/-- The cells of some rows, wherever they lie, are of the data. -/
def MixR {α : Type} (E : EncR α) (c : Addr → Option Value) {n : Nat} : List (Raw n) → List α → Prop
  | [], [] => True
  | r :: rs, x :: xs => E.R c x r.1 ∧ MixR E c rs xs
  | _, _ => False
theorem MixR.len {α : Type} {E : EncR α} {c : Addr → Option Value} {n : Nat} : ∀ {rs : List (Raw n)} {xs : List α}, MixR E c rs xs → rs.length = xs.length
  | [], [], _ => rfl
  | _ :: _, _ :: _, h => congrArg (· + 1) (MixR.len h.2)
  | [], _ :: _, h => h.elim
  | _ :: _, [], h => h.elim
theorem MixR.get {α : Type} {E : EncR α} {c : Addr → Option Value} {n : Nat} : ∀ {rs : List (Raw n)} {xs : List α}, MixR E c rs xs → ∀ {i : Nat} {x : α}, xs[i]? = some x → ∃ r, rs[i]? = some r ∧ E.R c x r.1
  | [], [], _, _, _, hx => by simp at hx
  | r :: _, _ :: _, h, 0, _, hx => by cases hx; exact ⟨r, rfl, h.1⟩
  | _ :: _, _ :: _, h, _ + 1, _, hx => MixR.get h.2 hx
  | [], _ :: _, h, _, _, _ => h.elim
  | _ :: _, [], h, _, _, _ => h.elim
theorem rdn_mix {α : Type} {E : EncR α} {c : Addr → Option Value} {n : Nat} {hn : 0 < n} {v : Value} {rs : List (Raw n)} {xs : List α} (hr : Rd (encRaw n hn) c v rs) (hm : MixR E c rs xs) (hsz : n = E.sz := by rfl) : RdN E c v xs := by
  have hl := hm.len
  rcases hr with ⟨h1, h2⟩ | ⟨a, cap, h1, h2, h3, h4⟩
  · subst h2
    exact .inl ⟨h1, List.length_eq_zero_iff.1 hl.symm⟩
  · refine .inr ⟨a, cap, by rw [h1, hl], h2, by rw [← hl]; exact h3, fun i x hx => ?_⟩
    obtain ⟨r, hr1, hr2⟩ := hm.get hx
    refine ⟨r.1, hr2, fun j u hj => ?_⟩
    have := (encRaw n hn).all_get hr1 j u hj
    rw [← hsz]
    exact h4 _ _ this
end Go.Eng
