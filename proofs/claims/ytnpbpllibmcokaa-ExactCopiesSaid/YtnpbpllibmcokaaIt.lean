/- Going through texts, rune by rune. Conditions: none. -/
import Derived.Test.YtnpbpllibmcokaaUt
import Derived.Test.YtnpbpllibmcokaaMm
import Derived.Test.YtnpbpllibmcokaaMd
namespace Go.Eng
open Go Go.RowKit
/-- the number of the rune at p, and its bytes -/
def runeAt (s : List UInt8) (p : Nat) : Nat := (Utf8.decode ⟨s.toArray⟩ p).1
def runeW (s : List UInt8) (p : Nat) : Nat := (Utf8.decode ⟨s.toArray⟩ p).2
def nextV (s : List UInt8) (p : Nat) : Value := if p < s.length then .tuple #[.bool true, .int .i64 ((p : Nat) : Int), .int .i32 ((runeAt s p : Nat) : Int)] else .tuple #[.bool false]
def nextP (s : List UInt8) (p : Nat) : Nat := if p < s.length then p + runeW s p else p
def pIt (s : List UInt8) : Pst := fun v L U => ∃ b, v = .pointer (some ⟨b, 0, none⟩) ∧ L = [(b, itT s 0, #[])] ∧ U = []
theorem nice_it (s : List UInt8) : Nice (pIt s) :=
  ⟨fun k => ⟨_, _, _, ⟨k + 1, rfl, rfl, rfl⟩, fun x hx => by simp only [List.mem_singleton] at hx; subst hx; exact Nat.lt_succ_self k⟩,
    fun v L U ⟨b, _, h2, h3⟩ => ⟨by rw [h2]; simp, h3⟩⟩
def pNx (b : Nat) (s : List UInt8) (p : Nat) : Pst := fun v L U => v = nextV s p ∧ L = [] ∧ U = [(b, itT s (nextP s p), #[])]
section
variable {E : Env} {g : Bool} {ops : Array Oper} {K : (Nat → Value) → List Bl → Prop} {r : List Oper} {T : Nat → Value} {l : List Bl} {m : Nat} {d : Tmp} {ty : TypeId} {pos : String} {af : Array Edge}
theorem r_range {xT : TypeId} {x : Operand} (s : List UInt8) (hd : decide (d < E.n) = true) (hk : E.ks.find? (fun x => x.1 == some d) = some (some d, false)) (hm : decide (m ≤ l.length) = true)
    (hu : E.P.underlying xT = some .string) (hx : rd T x = .string ⟨s.toArray⟩)
    (hcon : ∀ args view v L U, E.con ⟨some d, .range xT x, ty, pos, af, none⟩ args view v L U ↔ pIt s v L U)
    (h : ∀ b, lx E g ops K r (upd T d (.pointer (some ⟨b, 0, none⟩))) (l ++ [(b, itT s 0, #[])]) m) : lx E g ops K (⟨some d, .range xT x, ty, pos, af, none⟩ :: r) T l m := by
  refine r_go (pIt s) hd hk rfl hm (fun own nw w _ _ => ?_) hcon (nice_it s) (fun v L hp => ?_)
  · refine .inl ⟨.pointer (some ⟨w.heap.size, 0, none⟩), { w with heap := w.heap.push (.stringIter ⟨s.toArray⟩ 0) }, [(w.heap.size, itT s 0, #[])], [], ?_, ⟨rfl, rfl, rfl, by simp, fun k hk _ => ?_, fun _ h => (nomatch h), fun y hy => ?_, Nat.le_refl _⟩, _, rfl, rfl, rfl⟩
    · show (do pure (Next.value (← Instr.range xT (rd T x))) : Sem Next).run E.P w = _
      rw [hx]
      unfold Instr.range
      simp only [Sem.run_bind, run_underlying hu, Result.andThen_ok, Sem.run_pure]
      rfl
    · show (w.heap.push _)[k]? = _
      rw [Array.getElem?_push, if_neg (by omega)]
    · simp only [List.mem_singleton] at hy; subst hy
      exact ⟨Nat.le_refl _, Holds.ofIter (by show (w.heap.push _)[w.heap.size]? = _; simp)⟩
  · obtain ⟨b, rfl, rfl, _⟩ := hp
    exact h b
theorem r_next {it : Operand} {lN : List Bl} (i b : Nat) (s : List UInt8) (p : Nat) (hd : decide (d < E.n) = true) (hk : E.ks.find? (fun x => x.1 == some d) = some (some d, true)) (hm : decide (m ≤ i) = true) (hlen : decide (m ≤ l.length) = true)
    (hi : rd T it = .pointer (some ⟨b, 0, none⟩)) (hl : l[i]? = some (b, itT s p, #[]))
    (hcon : ∀ args view v L U, E.con ⟨some d, .next it true, ty, pos, af, none⟩ args view v L U ↔ pNx b s p v L U) (hN : l.set i (b, itT s (nextP s p), #[]) = lN)
    (h : lx E g ops K r (upd T d (nextV s p)) lN m) : lx E g ops K (⟨some d, .next it true, ty, pos, af, none⟩ :: r) T l m := by
  subst hN
  refine r_g true (pNx b s p) hd hk rfl hlen (fun hnd own nw hse => ?_) (fun v L U hp => ?_)
  · have hco : conOf E ⟨T, own, nw⟩ ⟨some d, .next it true, ty, pos, af, none⟩ = pNx b s p := by
      funext v L U; exact propext (hcon _ _ v L U)
    obtain ⟨hb1, hb2⟩ := hse.has i b _ hl
    have hb2' : nw b = false := by rw [hb2]; have := of_decide_eq_true hm; simp; omega
    refine ⟨⟨fun _ k => ?_, fun v L U hc => ?_, fun v L U hc => ?_, fun h => (nomatch h), fun w hbase hcell hheap => ?_⟩, fun v L U hc => by rw [hco] at hc; exact hc⟩
    · rw [hco]; exact ⟨_, _, _, ⟨rfl, rfl, rfl⟩, fun x hx => (nomatch hx)⟩
    · rw [hco] at hc; obtain ⟨rfl, rfl, rfl⟩ := hc; exact ⟨List.nodup_nil, by simp⟩
    · rw [hco] at hc; obtain ⟨rfl, rfl, rfl⟩ := hc
      intro x hx; simp only [List.mem_singleton] at hx; subst hx; exact ⟨⟨_, hb1⟩, hb2'⟩
    · rw [hco]
      have hh : w.heap[b]? = some (.stringIter ⟨⟨s⟩⟩ p) := (hheap b _ hb1 hb2').iter
      have hbl : b < w.heap.size := (Array.getElem?_eq_some_iff.1 hh).1
      have hrun : ∃ w', (execOp (rd T) ⟨some d, .next it true, ty, pos, af, none⟩).run E.P w = .ok (.value (nextV s p)) w' ∧ ExtW w w' [] [(b, itT s (nextP s p), #[])] := by
        have e0 : (execOp (rd T) ⟨some d, .next it true, ty, pos, af, none⟩) = (do pure (Next.value (← Instr.next (rd T it) true ty)) : Sem Next) := rfl
        rw [e0, hi]
        by_cases hp : p < s.length
        · refine ⟨{ w with heap := w.heap.setIfInBounds b (.stringIter ⟨⟨s⟩⟩ (p + runeW s p)) }, ?_, ?_⟩
          · unfold nextV
            rw [if_pos hp]
            have hg : (getObj b).run E.P w = .ok (.stringIter ⟨⟨s⟩⟩ p) w := by simp [getObj, Sem.run, hh]
            have hst : (setObj b (.stringIter ⟨⟨s⟩⟩ (p + (Utf8.decode ⟨⟨s⟩⟩ p).2))).run E.P w = .ok () { w with heap := w.heap.setIfInBounds b (.stringIter ⟨⟨s⟩⟩ (p + runeW s p)) } := by simp [setObj, Sem.run, hh]; rfl
            have hp' : p < (⟨⟨s⟩⟩ : ByteArray).size := hp
            unfold Instr.next
            simp only [Sem.run_bind, hg, Result.andThen_ok, if_pos hp', hst, Sem.run_pure]
            rfl
          · refine ⟨rfl, rfl, rfl, by simp, fun k hk hne => ?_, fun x hx => ?_, fun _ h => (nomatch h), Nat.le_refl _⟩
            · show (w.heap.setIfInBounds b _)[k]? = _
              rw [Array.getElem?_setIfInBounds_ne (fun e => hne _ (List.mem_singleton.2 rfl) e)]
            · simp only [List.mem_singleton] at hx; subst hx
              unfold nextP; rw [if_pos hp]
              refine Holds.ofIter ?_
              show (w.heap.setIfInBounds b _)[b]? = _
              rw [Array.getElem?_setIfInBounds_self_of_lt hbl]
        · refine ⟨w, ?_, ?_⟩
          · unfold nextV
            rw [if_neg hp]
            have hg : (getObj b).run E.P w = .ok (.stringIter ⟨⟨s⟩⟩ p) w := by simp [getObj, Sem.run, hh]
            have hp' : ¬ p < (⟨⟨s⟩⟩ : ByteArray).size := hp
            unfold Instr.next
            simp only [Sem.run_bind, hg, Result.andThen_ok, if_neg hp', Sem.run_pure]
          · refine ⟨rfl, rfl, rfl, Nat.le_refl _, fun k hk hne => rfl, fun x hx => ?_, fun _ h => (nomatch h), Nat.le_refl _⟩
            simp only [List.mem_singleton] at hx; subst hx
            unfold nextP; rw [if_neg hp]
            exact Holds.ofIter hh
      obtain ⟨w', h1, h2⟩ := hrun
      exact .inl ⟨_, w', [], _, h1, h2, rfl, rfl, rfl⟩
  · obtain ⟨rfl, rfl, rfl⟩ := hp
    refine ⟨l.set i (b, itT s (nextP s p), #[]), fun hn => PutU.one hn hl, ?_⟩
    rw [List.append_nil]
    exact h
end
theorem ev_next0 {P : Program} {c : Addr → Option Value} (s : List UInt8) (p : Nat) : ev P c (Instr.extract (nextV s p) 0) = some (.bool (decide (p < s.length))) := by
  unfold nextV
  by_cases h : p < s.length
  · rw [if_pos h, decide_eq_true h]; rfl
  · rw [if_neg h, decide_eq_false h]; rfl
theorem ev_next1 {P : Program} {c : Addr → Option Value} {s : List UInt8} {p : Nat} (h : p < s.length) : ev P c (Instr.extract (nextV s p) 1) = some (.int .i64 ((p : Nat) : Int)) := by
  unfold nextV
  rw [if_pos h]; rfl
theorem ev_next2 {P : Program} {c : Addr → Option Value} {s : List UInt8} {p : Nat} (h : p < s.length) : ev P c (Instr.extract (nextV s p) 2) = some (.int .i32 ((runeAt s p : Nat) : Int)) := by
  unfold nextV
  rw [if_pos h]; rfl
/-! ### Runes -/
def byteN (l : List UInt8) (i : Int) : UInt8 := l.getD i.toNat 0
theorem byteN_n (l : List UInt8) (i : Int) : (((byteN l i).toNat : Nat) : Int) = byteAt l i := rfl
def encI32 : Enc Int := ⟨fun i => [.int .i32 i], 1, Nat.one_pos, fun _ => rfl, fun _ v h => by simp at h; subst h; rfl, True⟩
theorem encI32_all (s : List Int) : encI32.all s = s.map fun b => Value.int .i32 b := by
  induction s with
  | nil => rfl
  | cons b s ih => rw [Enc.all_cons, ih]; rfl
theorem wi32 {k : IntKind} {x : Int} (hk : k = .i32) (h0 : -2147483648 ≤ x) (h1 : x ≤ 2147483647) : Value.int k (k.wrap x) = .int .i32 x := by
  subst hk
  congr 1
  simp [IntKind.wrap, IntKind.signed, IntKind.bits]
  omega
theorem toListB (a : List UInt8) : (⟨a.toArray⟩ : ByteArray).toList = a := by rw [ByteArray.toList_eq]
section
variable {P : Program} {c : Addr → Option Value} {ρ : Operand → Value} {d : Option Tmp} {t t' : TypeId} {x y : Operand} {ty : TypeId} {pos : String} {af : Array Edge} {g : Option (Nat × Bool)} {a b : List UInt8}
theorem ev_lssS (hx : ρ x = .string ⟨a.toArray⟩) (hy : ρ y = .string ⟨b.toArray⟩) : ev P c (execOp ρ ⟨d, .binOp .lss t x y t', ty, pos, af, g⟩) = some (.value (.bool (Op.bytesLess a b))) := by
  refine ev_v (s := do eqGuard .lss t x y (ρ x) (ρ y); binOp .lss t (ρ x) (ρ y)) ?_
  rw [hx, hy]
  have h1 : ev P c (eqGuard .lss t x y (.string ⟨a.toArray⟩) (.string ⟨b.toArray⟩)) = some () := by simp [eqGuard, ev_pure]
  simp only [ev_bind, h1, Option.bind_some, binOp, Op.stringOp, ev_pure, toListB]
theorem ev_geqS (hx : ρ x = .string ⟨a.toArray⟩) (hy : ρ y = .string ⟨b.toArray⟩) : ev P c (execOp ρ ⟨d, .binOp .geq t x y t', ty, pos, af, g⟩) = some (.value (.bool (!Op.bytesLess a b))) := by
  refine ev_v (s := do eqGuard .geq t x y (ρ x) (ρ y); binOp .geq t (ρ x) (ρ y)) ?_
  rw [hx, hy]
  have h1 : ev P c (eqGuard .geq t x y (.string ⟨a.toArray⟩) (.string ⟨b.toArray⟩)) = some () := by simp [eqGuard, ev_pure]
  simp only [ev_bind, h1, Option.bind_some, binOp, Op.stringOp, ev_pure, toListB]
theorem ev_leqS (hx : ρ x = .string ⟨a.toArray⟩) (hy : ρ y = .string ⟨b.toArray⟩) : ev P c (execOp ρ ⟨d, .binOp .leq t x y t', ty, pos, af, g⟩) = some (.value (.bool (Op.bytesLess a b || a == b))) := by
  refine ev_v (s := do eqGuard .leq t x y (ρ x) (ρ y); binOp .leq t (ρ x) (ρ y)) ?_
  rw [hx, hy]
  have h1 : ev P c (eqGuard .leq t x y (.string ⟨a.toArray⟩) (.string ⟨b.toArray⟩)) = some () := by simp [eqGuard, ev_pure]
  simp only [ev_bind, h1, Option.bind_some, binOp, Op.stringOp, ev_pure, toListB]
theorem ev_gtrS (hx : ρ x = .string ⟨a.toArray⟩) (hy : ρ y = .string ⟨b.toArray⟩) : ev P c (execOp ρ ⟨d, .binOp .gtr t x y t', ty, pos, af, g⟩) = some (.value (.bool (!(Op.bytesLess a b || a == b)))) := by
  refine ev_v (s := do eqGuard .gtr t x y (ρ x) (ρ y); binOp .gtr t (ρ x) (ρ y)) ?_
  rw [hx, hy]
  have h1 : ev P c (eqGuard .gtr t x y (.string ⟨a.toArray⟩) (.string ⟨b.toArray⟩)) = some () := by simp [eqGuard, ev_pure]
  simp only [ev_bind, h1, Option.bind_some, binOp, Op.stringOp, ev_pure, toListB]
end
/-- a rune's bytes, and those of a row of runes -/
def runeB (n : Int) : List UInt8 := (Utf8.encode n).data.toList
def rstr : List Int → List UInt8
  | [] => []
  | n :: r => runeB n ++ rstr r
theorem runeB_eq (n : Int) : Utf8.encode n = ⟨(runeB n).toArray⟩ := rfl
theorem ev_convIS {P : Program} {c : Addr → Option Value} {src dst : TypeId} {k k' : IntKind} {n : Int} (h1 : P.underlying src = some (.int k')) (h2 : P.underlying dst = some .string) : ev P c (convert src dst (.int k n)) = some (.string ⟨(runeB n).toArray⟩) := by
  unfold convert
  simp only [ev_bind, ev_underlying h1, ev_underlying h2, Option.bind_some]
  rfl
theorem ev_convRunes {P : Program} {c : Addr → Option Value} {src dst e : TypeId} {v : Value} {s : List Int} (h1 : P.underlying src = some (.slice e)) (h2 : P.underlying dst = some .string) (h3 : P.underlying e = some (.int .i32)) (h : Rd encI32 c v s) :
    ev P c (convert src dst v) = some (.string ⟨(rstr s).toArray⟩) := by
  have hv : ∃ a n k, v = .slice a n k := by
    rcases h with ⟨rfl, _⟩ | ⟨a, cap, rfl, _⟩
    · exact ⟨_, _, _, rfl⟩
    · exact ⟨_, _, _, rfl⟩
  obtain ⟨a0, n0, k0, hv⟩ := hv
  have hc : ∀ w, ev P c (Conv.runesToString v) = some w → ev P c (convert src dst v) = some w := fun w hw => by
    subst hv
    unfold convert
    simp only [ev_bind, ev_underlying h1, ev_underlying h2, ev_underlying h3, Option.bind_some, hw]
  refine hc _ ?_
  rcases h with ⟨rfl, rfl⟩ | ⟨a, cap, rfl, h0, hle, hcc⟩
  · rfl
  · have h1 : ev P c (loadCells a s.length) = some (encI32.all s).toArray := by
      by_cases hs0 : s = []
      · subst hs0; rfl
      have hpos : 0 < s.length := List.length_pos_iff.2 hs0
      have ha : a = ⟨a.block, a.off, none⟩ := by rw [← h0 (by omega)]
      have hl : (encI32.all s).length = s.length := by rw [encI32_all, List.length_map]
      have := ev_cellsL (P := P) (c := c) (b := a.block) (off := a.off) (encI32.all s) 0 #[] (fun j u hj => by rw [Nat.add_zero]; exact hcc j u hj)
      unfold loadCells
      rw [ha]
      rw [hl] at this
      simpa using this
    unfold Conv.runesToString
    rw [ev_bind, h1]
    simp only [Option.bind_some, encI32_all, List.forIn_toArray]
    have key : ∀ (g : Value → ByteArray → Sem (ForInStep ByteArray)), (∀ (x : Int) r, ev P c (g (.int .i32 x) r) = some (.yield (r ++ Utf8.encode x))) →
        ∀ (s : List Int) (acc : ByteArray), ev P c (forIn (s.map fun c => Value.int .i32 c) acc g) = some ⟨(acc.data.toList ++ rstr s).toArray⟩ := by
      intro g hg s
      induction s with
      | nil => intro acc; simp [ev_pure, rstr]
      | cons x s ih =>
        intro acc
        simp only [List.map_cons, List.forIn_cons, ev_bind, hg, Option.bind_some]
        rw [ih]
        simp [rstr, runeB, ByteArray.data_append]
    rw [ev_bind, key _ (fun x r => rfl)]
    rfl
section
variable {E : Env} {g : Bool} {ops : Array Oper} {K : (Nat → Value) → List Bl → Prop} {r : List Oper} {T : Nat → Value} {l : List Bl} {m : Nat} {d : Tmp} {ty : TypeId} {pos : String} {af : Array Edge}
theorem r_rts {src dst e : TypeId} {x : Operand} {sv : Value} (s : List Int) (hd : decide (d < E.n) = true) (hs : E.P.underlying src = some (.slice e)) (hu : E.P.underlying dst = some .string) (he : E.P.underlying e = some (.int .i32)) (hx : rd T x = sv)
    (hr : ∀ own nw, Sees E l m own nw → Rd encI32 (cellA E own nw) sv s)
    (h : lx E g ops K r (upd T d (.string ⟨(rstr s).toArray⟩)) l m) (hpl : Plain E.ks ⟨some d, .convert src dst x, ty, pos, af, none⟩ := by rfl) : lx E g ops K (⟨some d, .convert src dst x, ty, pos, af, none⟩ :: r) T l m := fun hn own nw hse => by
  have hev : ev E.P (cellA E own nw) (execOp (rd T) ⟨some d, .convert src dst x, ty, pos, af, none⟩) = some (.value (.string ⟨(rstr s).toArray⟩)) := by
    refine ev_v (s := convert src dst (rd T x)) ?_
    rw [hx]; exact ev_convRunes hs hu he (hr own nw hse)
  exact lexK_l rfl (kdo_eq hpl rfl (by decide)) hd (.string ⟨(rstr s).toArray⟩) (by
    show (match ev E.P (cellA E own nw) (execOp (rd T) ⟨some d, .convert src dst x, ty, pos, af, none⟩) with | some (.value v) => some v | _ => none) = some (.string ⟨(rstr s).toArray⟩)
    rw [hev]) (h hn own nw hse)
end
end Go.Eng
