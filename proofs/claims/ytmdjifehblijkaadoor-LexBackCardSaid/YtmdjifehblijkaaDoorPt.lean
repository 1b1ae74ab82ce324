/- Calls that change what they are handed: in-out blocks. Conditions: none. -/
import Derived.Test.YtmdjifehblijkaaDoorSb
namespace Go.Eng
open Go Go.RowKit
abbrev PO := Value → List (List Bl) → Prop
/-- What a call tells that changes the blocks of foot: O are all blocks that are known behind it. -/
def pO (foot : List Bl) (P : PO) : Pst := fun v L U => U.map (·.1) = foot.map (·.1) ∧ (L.map (·.1)).Nodup ∧ ∃ O, P v O ∧ Sub O.flatten (U ++ L)
/-- There is such an outcome, with new blocks as far out as one likes. -/
def NiceO (P : PO) (R : List Bl) : Prop := (R.map (·.1)).Nodup → ∀ k, ∃ v O, P v O ∧ (O.flatten.map (·.1)).Nodup ∧ ∀ x ∈ O.flatten, x.1 ∈ R.map (·.1) ∨ k < x.1
/-- The end: a value, and blocks that are told. -/
abbrev oE (v0 : Value) (bs : List (List Bl)) : PO := fun v O => v = v0 ∧ O = bs
/-- A slice in blocks that nobody else has. -/
abbrev oS {α : Type} (e : TypeId) (En : Enc α) (xs : List α) (P : Value → PO) : PO := fun v O => ∃ s S O', Sl e En s xs S ∧ P s v O' ∧ O = S :: O'
/-- The slice s, which came in, holds xs. -/
abbrev oI {α : Type} (e : TypeId) (En : Enc α) (s : Value) (xs : List α) (P : PO) : PO := fun v O => ∃ S O', Sl e En s xs S ∧ P v O' ∧ O = S :: O'
/-- A block that is new. -/
abbrev oB (T : TypeId) (cs : Array Value) (P : Nat → PO) : PO := fun v O => ∃ b O', P b v O' ∧ O = [(b, T, cs)] :: O'
theorem exMax (R : List Nat) (k : Nat) : ∃ K, k ≤ K ∧ ∀ x ∈ R, x ≤ K := by
  induction R with
  | nil => exact ⟨k, Nat.le_refl _, fun _ h => (nomatch h)⟩
  | cons a R ih =>
    obtain ⟨K, h1, h2⟩ := ih
    refine ⟨max K a, by omega, fun x hx => ?_⟩
    rcases List.mem_cons.1 hx with rfl | hx
    · omega
    · have := h2 x hx; omega
def EndsO (E : Env) (rs : Array ResultVar) (P : PO) : QL
  | .normal, t, l | .ret, t, l => ∃ v O, resOf E rs ⟨t, ownL l, nonw⟩ = some v ∧ Sub O.flatten l ∧ P v O
  | _, _, _ => False
theorem endsO {E : Env} {rs : Array ResultVar} {P : PO} {t : Nat → Value} {l : List Bl} {v0 : Value} {O : List (List Bl)} (h : resOf E rs ⟨t, ownL l, nonw⟩ = some v0) (hs : Sub O.flatten l) (hp : P v0 O) : EndsO E rs P .ret t l := ⟨v0, O, h, hs, hp⟩
theorem endsN {E : Env} {rs : Array ResultVar} {P : PO} {t : Nat → Value} {l : List Bl} {v0 : Value} {O : List (List Bl)} (h : resOf E rs ⟨t, ownL l, nonw⟩ = some v0) (hs : Sub O.flatten l) (hp : P v0 O) : EndsO E rs P .normal t l := ⟨v0, O, h, hs, hp⟩
theorem footU {w : World} {OF : List Bl} (hnd : (OF.map (·.1)).Nodup) (hO : ∀ x ∈ OF, Holds w x.1 x.2.1 x.2.2) : ∀ foot : List Bl, (∀ y ∈ foot, ∃ T cs, Holds w y.1 T cs) →
    ∃ U : List Bl, U.map (·.1) = foot.map (·.1) ∧ (∀ x ∈ U, Holds w x.1 x.2.1 x.2.2) ∧ ∀ x ∈ OF, x.1 ∈ foot.map (·.1) → x ∈ U
  | [], _ => ⟨[], rfl, fun _ h => (nomatch h), fun _ _ h => (nomatch h)⟩
  | y :: foot, hy => by
    obtain ⟨U, h1, h2, h3⟩ := footU hnd hO foot (fun z hz => hy z (List.mem_cons_of_mem _ hz))
    by_cases h : ∃ x ∈ OF, x.1 = y.1
    · obtain ⟨x, hx, e⟩ := h
      refine ⟨x :: U, by simp [h1, e], fun z hz => ?_, fun z hz hm => ?_⟩
      · rcases List.mem_cons.1 hz with rfl | hz
        · exact hO _ hx
        · exact h2 z hz
      · rw [List.map_cons] at hm
        rcases List.mem_cons.1 hm with e2 | hm
        · have : z = x := by
            obtain ⟨i, hi⟩ := List.getElem?_of_mem hz
            obtain ⟨j, hj⟩ := List.getElem?_of_mem hx
            have e3 : (OF.map (·.1))[i]? = some y.1 := by rw [List.getElem?_map, hi]; simp [e2]
            have e4 : (OF.map (·.1))[j]? = some y.1 := by rw [List.getElem?_map, hj]; simp [e]
            obtain ⟨_, e3⟩ := List.getElem?_eq_some_iff.1 e3
            obtain ⟨_, e4⟩ := List.getElem?_eq_some_iff.1 e4
            have := (List.getElem_inj hnd).1 (e3.trans e4.symm)
            subst this
            rw [hi] at hj; exact Option.some.inj hj
          exact List.mem_cons.2 (.inl this)
        · exact List.mem_cons_of_mem _ (h3 z hz hm)
    · obtain ⟨T, cs, hh⟩ := hy y (List.mem_cons_self ..)
      refine ⟨(y.1, T, cs) :: U, by simp [h1], fun z hz => ?_, fun z hz hm => ?_⟩
      · rcases List.mem_cons.1 hz with rfl | hz
        · exact hh
        · exact h2 z hz
      · rw [List.map_cons] at hm
        rcases List.mem_cons.1 hm with e2 | hm
        · exact absurd ⟨z, hz, e2⟩ h
        · exact List.mem_cons_of_mem _ (h3 z hz hm)
theorem doesO_of_A {P : Program} {f : FuncId} {fn : Func} {c : Code} {args : Array Value} {ro : Addr → Option Value} {foot : List Bl} {PP : PO} (hm : P.follows .mixedOrders = true) (hf : P.funcs[f]? = some fn) (hb : fn.body = some c)
    (n : Nat) (hn : args.size + (fn.ntmps - args.size) = n) (t0 : Nat → Value) (ht : (fun k => args.getD k undef) = t0)
    {inv : World → Prop} (hinv : ∀ w w', inv w → Kept w.heap.size (foot.map (·.1)) w w' → inv w')
    (h : ∀ base, A { P := P, n := n, base := base, ro := ro, foot := foot.map (·.1), inv := inv } c (EndsO { P := P, n := n, base := base, ro := ro, foot := foot.map (·.1), inv := inv } fn.results PP) t0 foot) : DoesI P f args inv ro foot (pO foot PP) := by
  subst ht
  intro w hiw hro hfo hnd
  refine calls_of_wp hf hb ?_
  have hs0 : Sim (env P n w.heap.size) w (St.init args) { tmps := args ++ Array.replicate (fn.ntmps - args.size) undef, defers := [] } w := sim_init n hn
  have hs : SimL { P := P, n := n, base := w.heap.size, ro := ro, foot := foot.map (·.1), inv := inv } w (fun k => args.getD k undef) foot { tmps := args ++ Array.replicate (fn.ntmps - args.size) undef, defers := [] } w :=
    ⟨hnd, hs0.dfr, hs0.sz, hs0.tm, Kept.refl _ _ _, Nat.le_refl _, fun q v hq => by
      obtain ⟨h1, h2⟩ := hro q v hq
      refine ⟨?_, h2, h1⟩
      unfold World.cell? at h1
      cases hc : w.heap[q.block]? with
      | none => rw [hc] at h1; cases h1
      | some o => exact (Array.getElem?_eq_some_iff.1 hc).1, fun b T cs ho => by
      obtain ⟨i, hi⟩ := ownL_idx ho
      have hmem := List.mem_of_getElem? hi
      exact ⟨.inr (List.mem_map.2 ⟨_, hmem, rfl⟩), hfo _ hmem⟩, fun w' hk => hinv w w' hiw hk⟩
  refine Code.wp_mono (fun e a w' hk => ?_) (h w.heap.size w _ w hm hs)
  obtain ⟨t, l, hq, hnd', hs⟩ := hk
  have fin : (∃ v O, resOf { P := P, n := n, base := w.heap.size, ro := ro, foot := foot.map (·.1), inv := inv } fn.results ⟨t, ownL l, nonw⟩ = some v ∧ Sub O.flatten l ∧ PP v O) →
      a.defers = [] ∧ ∃ v, (results fn a.tmps).run P w' = .ok v w' ∧ ∃ v' L U, Ending.returned v = .returned v' ∧ ExtW w w' L U ∧ pO foot PP v' L U := by
    rintro ⟨v, O, hv, hsub, hp⟩
    have hOn := hsub.nod hnd'
    have hOh : ∀ x ∈ O.flatten, (w.heap.size ≤ x.1 ∨ x.1 ∈ foot.map (·.1)) ∧ Holds w' x.1 x.2.1 x.2.2 := fun x hx => by
      obtain ⟨i, hi⟩ := List.getElem?_of_mem (hsub.mem _ hx)
      exact hs.own x.1 x.2.1 x.2.2 (ownL_get hnd' hi)
    obtain ⟨U, hU1, hU2, hU3⟩ := footU hOn (fun x hx => (hOh x hx).2) foot (fun y hy => hs.bel.keep y.1 (List.mem_map.2 ⟨y, hy, rfl⟩) ⟨_, _, hfo y hy⟩)
    refine ⟨hs.dfr, v, resOf_run hs hv, v, O.flatten.filter (fun x => decide (x.1 ∉ foot.map (·.1))), U, rfl, ⟨hs.bel.os, hs.bel.tape, hs.bel.output, hs.bel.size, fun k hk hne => hs.bel.block k hk (fun hf => ?_), hU2, fun x hx => ?_⟩, hU1, ?_, O, hp, fun x hx => ?_, fun _ => hOn⟩
    · have hf' : k ∈ foot.map (·.1) := hf
      rw [← hU1] at hf'
      obtain ⟨y, hy, rfl⟩ := List.mem_map.1 hf'
      exact hne y hy rfl
    · obtain ⟨hx1, hx2⟩ := List.mem_filter.1 hx
      obtain ⟨h1, h2⟩ := hOh x hx1
      rcases h1 with h1 | h1
      · exact ⟨h1, h2⟩
      · exact absurd h1 (of_decide_eq_true hx2)
    · exact (List.filter_sublist.map _).nodup hOn
    · by_cases hx1 : x.1 ∈ foot.map (·.1)
      · exact List.mem_append_left _ (hU3 x hx hx1)
      · exact List.mem_append_right _ (List.mem_filter.2 ⟨hx, decide_eq_true hx1⟩)
  cases e with
  | normal => exact fin hq
  | ret => exact fin hq
  | _ => exact hq.elim
/-- What is seen beside the blocks F. -/
def sans (c : Addr → Option Value) (F : List Nat) : Addr → Option Value := fun a => if a.block ∈ F then none else c a
theorem sans_le {c : Addr → Option Value} {F : List Nat} {a : Addr} {v : Value} (h : sans c F a = some v) : c a = some v ∧ a.block ∉ F := by
  unfold sans at h; split at h
  · cases h
  · rename_i h1; exact ⟨h, h1⟩
def others (is : List Nat) (n : Nat) : List Nat := (List.range n).filter fun i => !is.contains i
theorem pick_mem {Ls : List (List Bl)} {is : List Nat} {x : Bl} (h : x ∈ (pickL Ls is).flatten) : ∃ i ∈ is, x ∈ (Ls[i]?).getD [] := by
  obtain ⟨S, hS, hx⟩ := List.mem_flatten.1 h
  obtain ⟨i, hi, rfl⟩ := List.mem_map.1 hS
  exact ⟨i, hi, hx⟩
theorem okPick_others (is : List Nat) (n : Nat) : okPick (others is n) n = true := by
  unfold okPick others
  rw [Bool.and_eq_true]
  refine ⟨List.all_eq_true.2 fun i hi => decide_eq_true ?_, decide_eq_true (List.nodup_range.filter _)⟩
  have := (List.mem_filter.1 hi).1
  simpa using this
section
variable {E : Env} {g : Bool} {ops : Array Oper} {K : (Nat → Value) → List Bl → Prop} {r : List Oper} {T : Nat → Value} {d : Tmp} {ty : TypeId} {pos : String} {af : Array Edge}
/-- A call that changes the parts is of the memory. -/
theorem r_gm {Ls FL RL : List (List Bl)} {c : Call} (is : List Nat) (P : PO) (dd : Option Tmp) (f : FuncId) (args : Array Value)
    (hd : (match dd with | some d => decide (d < E.n) | none => true) = true) (hk : E.ks.find? (fun x => x.1 == dd) = some (dd, true))
    (hok : okPick is Ls.length = true) (hFL : pickL Ls is = FL) (hRL : pickL Ls (others is Ls.length) = RL)
    (he : ev E.P E.ro (execOp (rd T) ⟨dd, .call c, ty, pos, af, none⟩) = some (.enter f args))
    (hdo : ∀ own nw, (Ls.flatten.map (·.1)).Nodup → Sees E Ls.flatten 0 own nw → DoesI E.P f args E.inv (sans (cellA E own nw) (FL.flatten.map (·.1))) FL.flatten (pO FL.flatten P))
    (hcon : ∀ args view v L U, E.con ⟨dd, .call c, ty, pos, af, none⟩ args view v L U ↔ pO FL.flatten P v L U) (hnice : g = true → NiceO P FL.flatten)
    (h : ∀ v O, P v O → lx E g ops K r (putT T dd v) (RL ++ O).flatten 0) : lx E g ops K (⟨dd, .call c, ty, pos, af, none⟩ :: r) T Ls.flatten 0 := by
  subst hFL; subst hRL
  have hsF := Sub.pick Ls is hok
  have hsR := Sub.pick Ls (others is Ls.length) (okPick_others is Ls.length)
  refine r_g true (pO (pickL Ls is).flatten P) hd hk rfl rfl (fun hnd own nw hse => ?_) (fun v L U hp => ?_)
  · have hco : conOf E ⟨T, own, nw⟩ ⟨dd, .call c, ty, pos, af, none⟩ = pO (pickL Ls is).flatten P := by
      funext v L U; exact propext (hcon _ _ v L U)
    have hfn := hsF.nod hnd
    refine ⟨⟨?_, ?_, ?_, fun h => (nomatch h), ?_⟩, ?_⟩
    · rw [hco]
      intro hg k
      obtain ⟨K', hk1, hk2⟩ := exMax ((pickL Ls is).flatten.map (·.1)) k
      obtain ⟨v, O, h1, h2, h3⟩ := hnice hg hfn K'
      refine ⟨v, O.flatten.filter (fun x => decide (x.1 ∉ (pickL Ls is).flatten.map (·.1))), (pickL Ls is).flatten.map (fun y : Bl => match O.flatten.find? (fun x : Bl => x.1 == y.1) with | some x => x | none => y), ⟨?_, (List.filter_sublist.map _).nodup h2, O, h1, fun x hx => ?_, fun _ => h2⟩, fun x hx => ?_⟩
      · rw [List.map_map]
        refine List.map_congr_left fun (y : Bl) _ => ?_
        show (match O.flatten.find? (fun x : Bl => x.1 == y.1) with | some x => x | none => y).1 = y.1
        split
        · rename_i x hx; have := List.find?_some hx; simpa using this
        · rfl
      · by_cases hx1 : x.1 ∈ (pickL Ls is).flatten.map (·.1)
        · refine List.mem_append_left _ (List.mem_map.2 ?_)
          obtain ⟨y, hy, e⟩ := List.mem_map.1 hx1
          refine ⟨y, hy, ?_⟩
          have e' : y.1 = x.1 := e
          have : O.flatten.find? (fun z => z.1 == y.1) = some x := by
            cases hf : O.flatten.find? (fun z => z.1 == y.1) with
            | none => have := List.find?_eq_none.1 hf x hx; simp [e'] at this
            | some z =>
              have hz1 := List.mem_of_find?_eq_some hf
              have hz2 := List.find?_some hf
              simp only [beq_iff_eq] at hz2
              obtain ⟨i, hi⟩ := List.getElem?_of_mem hz1
              obtain ⟨j, hj⟩ := List.getElem?_of_mem hx
              have e3 : (O.flatten.map (·.1))[i]? = some x.1 := by rw [List.getElem?_map, hi]; simp [hz2, e']
              have e4 : (O.flatten.map (·.1))[j]? = some x.1 := by rw [List.getElem?_map, hj]; rfl
              obtain ⟨_, e3⟩ := List.getElem?_eq_some_iff.1 e3
              obtain ⟨_, e4⟩ := List.getElem?_eq_some_iff.1 e4
              have := (List.getElem_inj h2).1 (e3.trans e4.symm)
              subst this
              rw [hi] at hj; exact hj
          simp only [this]
        · exact List.mem_append_right _ (List.mem_filter.2 ⟨hx, decide_eq_true hx1⟩)
      · obtain ⟨hx1, hx2⟩ := List.mem_filter.1 hx
        rcases h3 x hx1 with h4 | h4
        · exact absurd h4 (of_decide_eq_true hx2)
        · omega
    · rw [hco]; intro v L U hp
      exact ⟨hp.2.1, by rw [hp.1]; exact hfn⟩
    · rw [hco]; intro v L U hp x hx
      have hxn : x.1 ∈ U.map (·.1) := List.mem_map.2 ⟨x, hx, rfl⟩
      rw [hp.1] at hxn
      obtain ⟨y, hy, e⟩ := List.mem_map.1 hxn
      obtain ⟨i, hi⟩ := List.getElem?_of_mem (hsF.mem y hy)
      obtain ⟨g1, g2⟩ := hse.has i _ _ hi
      rw [← e]
      exact ⟨⟨_, g1⟩, by show nw y.1 = false; rw [g2]; simp⟩
    · rw [hco]
      intro w hbase hcell hheap
      refine GenRun.call (fun a v ha => hcell a v (hse.ro_cell a v ha)) he (hdo own nw hnd hse) hbase.2 (fun a v ha => ?_) (fun x hx => ?_) hfn
      · obtain ⟨h1, h2⟩ := sans_le ha
        exact ⟨hcell a v h1, h2⟩
      · obtain ⟨i, hi⟩ := List.getElem?_of_mem (hsF.mem x hx)
        obtain ⟨g1, g2⟩ := hse.has i _ _ hi
        exact hheap x.1 x.2 g1 (by show nw x.1 = false; rw [g2]; simp)
    · rw [hco]; exact fun v L U hp => hp
  · obtain ⟨hU, hLn, O, hP, hsub⟩ := hp
    refine ⟨Ls.flatten.map (fun x : Bl => match U.find? (fun y : Bl => y.1 == x.1) with | some y => y | none => x), fun hnd => ⟨?_, fun i b x hi => ?_⟩, fun hn' => ?_⟩
    · rw [List.map_map]
      refine List.map_congr_left fun (y : Bl) _ => ?_
      show (match U.find? (fun x : Bl => x.1 == y.1) with | some x => x | none => y).1 = y.1
      split
      · rename_i x hx; have := List.find?_some hx; simpa using this
      · rfl
    · rw [List.getElem?_map] at hi
      cases hli : Ls.flatten[i]? with
      | none => rw [hli] at hi; cases hi
      | some z =>
        rw [hli] at hi
        simp only [Option.map_some, Option.some.injEq] at hi
        split at hi
        · rename_i y hy; subst hi; exact .inl (List.mem_of_find?_eq_some hy)
        · rename_i hy; subst hi
          exact .inr ⟨fun y hyU e => by have := List.find?_eq_none.1 hy y hyU; simp [e] at this, rfl⟩
    · generalize hl1 : Ls.flatten.map (fun x : Bl => match U.find? (fun y : Bl => y.1 == x.1) with | some y => y | none => x) = l1 at hn' ⊢
      have hsame : l1.map (·.1) = Ls.flatten.map (·.1) := by
        rw [← hl1, List.map_map]
        refine List.map_congr_left fun (y : Bl) _ => ?_
        show (match U.find? (fun x : Bl => x.1 == y.1) with | some x => x | none => y).1 = y.1
        split
        · rename_i x hx; have := List.find?_some hx; simpa using this
        · rfl
      rw [List.map_append, hsame] at hn'
      have hn0 := hn'
      rw [List.nodup_append] at hn'
      obtain ⟨hnd, _, hdj⟩ := hn'
      have hfn := hsF.nod hnd
      have hUn : (U.map (·.1)).Nodup := by rw [hU]; exact hfn
      have hFl : ∀ n, n ∈ U.map (·.1) → n ∈ Ls.flatten.map (·.1) := fun n h1 => by
        rw [hU] at h1
        obtain ⟨y, hy, e⟩ := List.mem_map.1 h1
        exact List.mem_map.2 ⟨y, hsF.mem y hy, e⟩
      have hULn : ((U ++ L).map (·.1)).Nodup := by
        rw [List.map_append, List.nodup_append]
        exact ⟨hUn, hLn, fun a ha b hb => hdj a (hFl a ha) b hb⟩
      have hOn := hsub.nod hULn
      have hUl1 : ∀ x ∈ U, x ∈ l1 := fun x hx => by
        obtain ⟨z, hz, e⟩ := List.mem_map.1 (hFl x.1 (List.mem_map.2 ⟨x, hx, rfl⟩))
        have e' : z.1 = x.1 := e
        rw [← hl1]
        refine List.mem_map.2 ⟨z, hz, ?_⟩
        have : U.find? (fun y => y.1 == z.1) = some x := by
          cases hf : U.find? (fun y => y.1 == z.1) with
          | none => have := List.find?_eq_none.1 hf x hx; simp [e'] at this
          | some y =>
            have hz1 := List.mem_of_find?_eq_some hf
            have hz2 := List.find?_some hf
            simp only [beq_iff_eq] at hz2
            obtain ⟨i, hi⟩ := List.getElem?_of_mem hz1
            obtain ⟨j, hj⟩ := List.getElem?_of_mem hx
            have e3 : (U.map (·.1))[i]? = some x.1 := by rw [List.getElem?_map, hi]; simp [hz2, e']
            have e4 : (U.map (·.1))[j]? = some x.1 := by rw [List.getElem?_map, hj]; rfl
            obtain ⟨_, e3⟩ := List.getElem?_eq_some_iff.1 e3
            obtain ⟨_, e4⟩ := List.getElem?_eq_some_iff.1 e4
            have := (List.getElem_inj hUn).1 (e3.trans e4.symm)
            subst this
            rw [hi] at hj; exact hj
        simp only [this]
      have hR : ∀ x ∈ (pickL Ls (others is Ls.length)).flatten, x.1 ∉ U.map (·.1) := fun x hx hxU => by
        rw [hU] at hxU
        obtain ⟨y, hy, e⟩ := List.mem_map.1 hxU
        obtain ⟨i, hi, hy⟩ := pick_mem hy
        obtain ⟨j, hj, hx⟩ := pick_mem hx
        have := flat_disj Ls hnd i j y x hy hx e
        subst this
        have hj2 := (List.mem_filter.1 hj).2
        have : is.contains i = true := List.contains_iff_mem.2 hi
        rw [this] at hj2; cases hj2
      refine lx_sub (l' := (pickL Ls (others is Ls.length) ++ O).flatten) ⟨fun x hx => ?_, fun _ => ?_⟩ (fun i hi => absurd hi (Nat.not_lt_zero i)) (Nat.zero_le _) (h v O hP) (by rw [List.map_append, hsame]; exact hn0)
      · rw [List.flatten_append] at hx
        rcases List.mem_append.1 hx with hx | hx
        · refine List.mem_append_left _ ?_
          have hxl := hsR.mem x hx
          rw [← hl1]
          refine List.mem_map.2 ⟨x, hxl, ?_⟩
          have : U.find? (fun y => y.1 == x.1) = none := List.find?_eq_none.2 fun y hy => by
            have h1 := hR x hx
            simp only [beq_iff_eq]
            intro e
            exact h1 (List.mem_map.2 ⟨y, hy, e⟩)
          simp only [this]
        · rcases List.mem_append.1 (hsub.mem x hx) with h1 | h1
          · exact List.mem_append_left _ (hUl1 x h1)
          · exact List.mem_append_right _ h1
      · rw [List.flatten_append, List.map_append, List.nodup_append]
        refine ⟨hsR.nod hnd, hOn, fun a ha b hb e => ?_⟩
        obtain ⟨x, hx, rfl⟩ := List.mem_map.1 ha
        obtain ⟨y, hy, rfl⟩ := List.mem_map.1 hb
        rcases List.mem_append.1 (hsub.mem y hy) with h1 | h1
        · exact hR x hx (e ▸ List.mem_map.2 ⟨y, h1, rfl⟩)
        · exact hdj _ (List.mem_map.2 ⟨x, hsR.mem x hx, rfl⟩) _ (List.mem_map.2 ⟨y, h1, rfl⟩) e
end
section
variable {E : Env} {Ls : List (List Bl)} {is : List Nat}
theorem Blk.mono {c c' : Addr → Option Value} {b : Nat} {vs : List Value} (h : Blk c b vs) (hc : ∀ a v, c a = some v → c' a = some v) : Blk c' b vs := fun j u hj => hc _ _ (h j u hj)
end
/-- Parts in another order. -/
theorem lx_perm {E : Env} {g : Bool} {ops : Array Oper} {K : (Nat → Value) → List Bl → Prop} {r : List Oper} {T : Nat → Value} {Ls Ls' : List (List Bl)} (is : List Nat) (hok : okPick is Ls.length = true) (hL : pickL Ls is = Ls') (h : lx E g ops K r T Ls'.flatten 0) : lx E g ops K r T Ls.flatten 0 := by
  subst hL
  exact lx_sub (Sub.pick Ls is hok) (fun i hi => absurd hi (Nat.not_lt_zero i)) (Nat.zero_le _) h
end Go.Eng
