/- Rows of zeros that are made and put behind, slices without room, bytes. Conditions: none. -/
import Derived.Test.YtnpbpllibmcokaaPt
namespace Go.Eng
open Go Go.RowKit

theorem zeroCells_all {α : Type} {En : Enc α} {z : Array Value} {z0 : α} (hz : z.toList = En.f z0) (n : Nat) : (Builtin.zeroCells z n).toList = En.all (List.replicate n z0) := by
  have hs : z.size = En.sz := by rw [← Array.length_toList, hz, En.len]
  induction n with
  | zero => simp [Builtin.zeroCells, Enc.all]
  | succ n ih =>
    rw [List.replicate_succ', En.all_append, ← ih]
    unfold Builtin.zeroCells
    rw [Nat.succ_mul, hs]
    simp only [Array.toList_map, Array.toList_range]
    rw [List.range_add, List.map_append, List.map_map]
    congr 1
    have h1 : En.all [z0] = z.toList := by simp [Enc.all, hz]
    rw [h1]
    apply List.ext_getElem
    · simp [hs]
    · intro i hi hi'
      have hi2 : i < z.size := by simpa [hs] using hi
      simp only [List.getElem_map, Function.comp, List.getElem_range]
      rw [Nat.mul_comm, Nat.mul_add_mod, Nat.mod_eq_of_lt (by omega)]
      simp [hi2]

theorem append_none0 {P : Program} {w : World} {t tn ty e : TypeId} {i : TypeInfo} {kn kq : IntKind} (ht : P.underlying t = some (.slice e)) (htn : P.underlying tn = some (.int kn)) (hi : P.info? e = some i) {s : Value} {n : Nat}
    (hs : (∃ a : Option Addr, s = .slice a 0 0 ∧ n = 0) ∨ ∃ b cap cs, s = .slice (some ⟨b, 0, none⟩) n cap ∧ n ≤ cap ∧ Holds w b e cs) :
    (Builtin.append_ #[t, tn] ty #[s, .int kq 0]).run P w = .ok s w := by
  have hw : IntKind.i64.wrap 0 = 0 := by rw [IntKind.wrap_i64]; omega
  rcases hs with ⟨a, rfl, rfl⟩ | ⟨b, cap, cs, rfl, hn, hb⟩
  · rcases a with _ | a
    · simp [Builtin.append_, run_underlying ht, run_underlying htn, sizeOf, typeInfo, hi, asInt, asIntOf, hw]
    · simp [Builtin.append_, run_underlying ht, run_underlying htn, sizeOf, typeInfo, hi, asInt, asIntOf, hw, storeCells]
  · simp [Builtin.append_, run_underlying ht, run_underlying htn, sizeOf, typeInfo, hi, asInt, asIntOf, hw, hn, storeCells]

theorem append_roomz {P : Program} {w : World} {t tn ty e : TypeId} {i : TypeInfo} {z : Value} {kn kq : IntKind} (ht : P.underlying t = some (.slice e)) (htn : P.underlying tn = some (.int kn)) (hi : P.info? e = some i) (hz : i.zero = some z) (hzs : z.cells.size = i.size)
    {g sLen sCap : Nat} {cur : Array Value} (hg : Holds w g e cur) (hne : e ≠ deadT) (m : Nat) (hm : 0 < m) (hs0 : 0 < i.size) (h63 : (m : Int) ≤ 9223372036854775807) (h48 : m * i.bytes ≤ 140737488355328) (h1 : ∀ u ∈ (Builtin.zeroCells z.cells m).toList, u.oneCell' = true)
    (hroom : sLen + m ≤ sCap) (hfit : sLen * i.size + m * i.size ≤ cur.size) :
    (Builtin.append_ #[t, tn] ty #[.slice (some ⟨g, 0, none⟩) sLen sCap, .int kq ((m : Nat) : Int)]).run P w =
      .ok (.slice (some ⟨g, 0, none⟩) (sLen + m) sCap) (w.setRow g (cur.toList.take (sLen * i.size) ++ (Builtin.zeroCells z.cells m).toList ++ cur.toList.drop (sLen * i.size + m * i.size)).toArray) := by
  have hl : (Builtin.zeroCells z.cells m).toList.length = m * i.size := by simp [Builtin.zeroCells, hzs]
  have hst := hg.store hne P (sLen * i.size) _ (by rw [hl]; exact hfit) h1
  rw [hl] at hst
  have hw : IntKind.i64.wrap (m : Int) = m := by rw [IntKind.wrap_i64]; omega
  have hneg : ¬ ((m : Int) < 0) := by omega
  have h48i : ¬ (281474976710656 < (m : Int) * (i.bytes : Int)) := by
    rw [← Int.natCast_mul]; omega
  have hns : ¬ (m * i.size = 0) := Nat.mul_ne_zero (by omega) (by omega)
  simp [Builtin.append_, run_underlying ht, run_underlying htn, sizeOf, typeInfo, zeroValue, hi, hz, asInt, asIntOf, hw, hneg, h48i, hns, hroom, Addr.add_lit, hst]

section
variable {E : Env} {g : Bool} {ops : Array Oper} {K : (Nat → Value) → List Bl → Prop} {r : List Oper} {T : Nat → Value} {m : Nat} {d : Tmp} {ty : TypeId} {pos : String} {af : Array Edge}
/-- n zeros are put behind an own slice. -/
theorem r_apz {α : Type} {Ls : List (List Bl)} {cs0 : List (Tmp × (List Value → (Addr → Option Value) → Pst))} (k : Nat) {S : List Bl} {e : TypeId} {En : Enc α} {s x : Operand} {sv : Value} {xs : List α} (z0 : α) (c : Int) {t tn : TypeId} {ii : TypeInfo} {z : Value} {kn kq : IntKind}
    (hd : decide (d < E.n) = true) (hk : E.ks.find? (fun x => x.1 == some d) = some (some d, true)) (hs : rd T s = sv) (hx : rd T x = .int kq c) (hS : Ls[k]? = some S) (hSl : Sl e En sv xs S)
    (hm : decide (m ≤ (Ls.take k).flatten.length) = true)
    (hu : E.P.underlying t = some (.slice e)) (hun : E.P.underlying tn = some (.int kn)) (hi : E.P.info? e = some ii) (hz : ii.zero = some z) (hsz : ii.size = En.sz) (hz0 : z.cells.toList = En.f z0)
    (kk : Nat) (hkk : decide (kk * ii.bytes ≤ 140737488355328 ∧ kk ≤ 140737488355328) = true) (hc : 0 ≤ c ∧ (xs.length : Int) + c ≤ (kk : Nat)) (hcon : E.con = conG E.P cs0)
    (h : ∀ v S', Sl e En v (xs ++ List.replicate c.toNat z0) S' → lx E g ops K r (upd T d v) (Ls.set k S').flatten m) (hT : decide (e < OBJ) = true := by rfl) :
    lx E g ops K (⟨some d, .call ⟨.builtin .append, #[s, x], #[t, tn]⟩, ty, pos, af, none⟩ :: r) T Ls.flatten m := by
  obtain ⟨n, rfl⟩ : ∃ n : Nat, c = (n : Int) := ⟨c.toNat, by omega⟩
  simp only [Int.toNat_natCast] at h
  have hzs : z.cells.size = ii.size := by rw [← Array.length_toList, hz0, En.len, hsz]
  have hall := zeroCells_all hz0 n
  obtain ⟨hk1, hk2⟩ := of_decide_eq_true hkk
  have h2 : xs.length + n ≤ kk := by have := hc.2; omega
  have hbytes : (xs.length + n) * ii.bytes ≤ 140737488355328 := Nat.le_trans (Nat.mul_le_mul_right _ h2) hk1
  have hmax : xs.length + n ≤ 140737488355328 := Nat.le_trans h2 hk2
  have hpos : 0 < ii.size := by rw [hsz]; exact En.pos
  refine r_appG (ys := List.replicate n z0) k hd hk rfl hS hSl hm (fun own nw hse hrs => ?_) (fun own nw w hse hrs hcell hown => ?_) h
  · funext v L U
    have := propext (conG_apz (cs := cs0) (d := some d) (ty := ty) (pos := pos) (af := af) (g := none) (ρ := rd T) (s := s) (x := x) (tn := tn) hu hi hz (by rw [hs, hsz]; exact hrs.v) hx v L U)
    rw [hs, hx, hsz, hall] at this
    unfold conOf
    rw [hcon, List.length_replicate, ← this, ← hs, ← hx]
    rfl
  · rw [List.length_replicate, ← hall, ← hsz]
    have hex : ∀ v w', (Builtin.append_ #[t, tn] ty #[sv, .int kq ((n : Nat) : Int)]).run E.P w = .ok v w' → (execOp (rd T) ⟨some d, .call ⟨.builtin .append, #[s, x], #[t, tn]⟩, ty, pos, af, none⟩).run E.P w = .ok (.value v) w' := fun v w' hv => by
      unfold execOp
      simp only [resolve, invoke, builtin, Sem.run_bind, Sem.run_pure, Result.andThen_ok, List.map_toArray, List.map_cons, List.map_nil, hs, hx, hv]
    by_cases hn : n = 0
    · subst hn
      refine ⟨sv, w, [], [], ?_, ⟨rfl, rfl, rfl, Nat.le_refl _, fun _ _ _ => rfl, fun _ h => (nomatch h), fun _ h => (nomatch h), Nat.le_refl _⟩, .inl ⟨rfl, rfl, rfl, rfl⟩⟩
      exact hex _ _ (append_none0 hu hun hi (n := xs.length) (by
        rcases hown with h | ⟨b, cap, cs, h1, h2, _, _, h3⟩
        · exact .inl h
        · exact .inr ⟨b, cap, cs, h1, h2, h3⟩))
    · have hn0 : 0 < n := by omega
      have hzl : (Builtin.zeroCells z.cells n).toList.length = n * ii.size := by simp [Builtin.zeroCells, hzs]
      have hone : ∀ u ∈ (Builtin.zeroCells z.cells n).toList, u.oneCell' = true := by rw [hall]; exact En.all_one _
      have ext : ∀ (cur : Array Value), ExtW w (w.drew.alloc (.cells cur e)) [(w.heap.size, e, cur)] [] := fun cur =>
        ⟨rfl, rfl, rfl, by simp, fun k hk _ => heap_alloc_old w.drew _ k hk, fun _ h => (nomatch h), fun y hy => by
          simp only [List.mem_singleton] at hy; subst hy
          exact ⟨Nat.le_refl _, .of hT (heap_alloc_new w.drew _)⟩, Nat.le_succ _⟩
      have hnb : n * ii.bytes ≤ 140737488355328 := Nat.le_trans (Nat.mul_le_mul_right _ (Nat.le_add_left _ _)) hbytes
      rcases hown with ⟨a0, h1, h2⟩ | ⟨b, cap, cs, h1, hncap, hsz', hvb, hb⟩
      · have hx0 : xs = [] := List.eq_nil_of_length_eq_zero h2
        subst hx0
        have hr := Go.Lib.run_append_grow_zeros (P := E.P) w t tn ty e ii z kq kn hu hun hi hz a0 0 0 [] (by cases a0 <;> simp [Builtin.firstCells, loadCells, loadCellsFrom]) n hn0 hpos (by omega) (by omega) (by omega) (growslice_fits (by omega) (by rw [Nat.zero_add]; exact hnb))
        have hge := grownCap_ge w (0 + n) 0 e
        rw [← h1] at hr
        refine ⟨_, _, _, _, hex _ _ hr, ext _, .inr (.inr ⟨hn0, fun a' cap' h => ?_, w.heap.size, grownCap w (0 + n) 0 e, _, rfl, hge, ?_, ?_, rfl, rfl⟩)⟩
        · rw [h1] at h
          simp only [Value.slice.injEq] at h
          obtain ⟨_, _, rfl⟩ := h
          simpa using hn0
        · simp only [Array.size_append, List.size_toArray, List.length_nil, size_zeroCells, hzs]
          rw [Nat.zero_add, ← Nat.add_mul]; congr 1; omega
        · simp only [Array.toList_append, List.nil_append, Enc.all, List.flatMap_nil, List.length_nil]
          rw [Nat.zero_add, ← hzl]
          exact List.take_left
      · by_cases hroom : xs.length + n ≤ cap
        · have hfit : xs.length * ii.size + n * ii.size ≤ cs.size := by rw [hsz', hsz, ← Nat.add_mul]; exact Nat.mul_le_mul_right _ hroom
          have hr := append_roomz (P := E.P) (ty := ty) (kq := kq) hu hun hi hz hzs (sCap := cap) hb (fun h9 => by rw [h9] at hT; exact absurd hT (by decide)) n hn0 hpos (by omega) hnb hone hroom hfit
          rw [← h1] at hr
          refine ⟨_, _, [], [(b, e, (cs.toList.take (xs.length * ii.size) ++ (Builtin.zeroCells z.cells n).toList ++ cs.toList.drop (xs.length * ii.size + n * ii.size)).toArray)], hex _ _ hr, ⟨rfl, rfl, rfl, by simp, fun k _ hk => setRow_other w b k _ (fun e => hk _ (List.mem_singleton.2 rfl) e.symm), fun y hy => ?_, fun _ h => (nomatch h), Nat.le_refl _⟩, .inr (.inl ⟨hn0, b, cap, cs, h1, hroom, hvb, rfl, rfl, ?_⟩)⟩
          · simp only [List.mem_singleton] at hy; subst hy
            exact hb.setRow _ (by simp only [List.size_toArray, List.length_append, List.length_take, List.length_drop, Array.length_toList, hzl]; omega)
          · rw [← Nat.add_mul]
        · have holds : ∀ j u, (En.all xs)[j]? = some u → w.drew.cell? ((⟨b, 0, none⟩ : Addr).add j) = some u := fun j u hj => by
            rcases hrs with ⟨h, _⟩ | ⟨a', cap', h, hsp', _, hc⟩
            · rw [h1] at h; cases h
            · rw [h1] at h
              simp only [Value.slice.injEq, Option.some.injEq] at h
              obtain ⟨rfl, _, rfl⟩ := h
              rw [add_none rfl]; exact hcell _ _ (hc j u hj)
          have hol : (En.all xs).length = xs.length * ii.size := by rw [En.all_len, hsz]
          have hr := Go.Lib.run_append_grow_zeros (P := E.P) w t tn ty e ii z kq kn hu hun hi hz (some ⟨b, 0, none⟩) xs.length cap (En.all xs) (run_firstCells_some w.drew ii.size xs.length ⟨b, 0, none⟩ xs.length cap (En.all xs) hol holds) n hn0 hpos (by omega) (by omega) (by omega) (growslice_fits (by omega) hbytes)
          have hge := grownCap_ge w (xs.length + n) cap e
          rw [← h1] at hr
          refine ⟨_, _, _, _, hex _ _ hr, ext _, .inr (.inr ⟨hn0, fun a' cap' h => ?_, w.heap.size, grownCap w (xs.length + n) cap e, _, rfl, hge, ?_, ?_, rfl, rfl⟩)⟩
          · rw [h1] at h
            simp only [Value.slice.injEq] at h
            obtain ⟨_, _, rfl⟩ := h; omega
          · simp only [Array.size_append, List.size_toArray, size_zeroCells, hzs, hol, ← Nat.add_mul]
            congr 1; omega
          · simp only [Array.toList_append, List.append_assoc]
            rw [← List.append_assoc, show (xs.length + n) * ii.size = (En.all xs ++ (Builtin.zeroCells z.cells n).toList).length from by rw [List.length_append, hol, hzl, Nat.add_mul]]
            exact List.take_left
/-- A row of zeros is made. -/
theorem r_mk {α : Type} {Ls : List (List Bl)} {t : TypeId} {x y : Operand} (e : TypeId) (En : Enc α) (z0 : α) (c : Int) {ii : TypeInfo} {z : Value} {kl kc : IntKind} (hd : decide (d < E.n) = true) (hk : E.ks.find? (fun x => x.1 == some d) = some (some d, false)) (hm : decide (m ≤ Ls.flatten.length) = true)
    (hx : rd T x = .int kl c) (hy : rd T y = .int kc c) (hu : E.P.underlying t = some (.slice e)) (hi : E.P.info? e = some ii) (hz : ii.zero = some z) (hsz : ii.size = En.sz) (hz0 : z.cells.toList = En.f z0)
    (kk : Nat) (hkk : decide (kk * ii.bytes ≤ 140737488355328 ∧ kk ≤ 140737488355328) = true) (hc : 0 ≤ c ∧ c ≤ (kk : Nat))
    (hcon : ∀ args view v L U, E.con ⟨some d, .makeSlice t x y, ty, pos, af, none⟩ args view v L U ↔ p1 (fun v => v) e En (List.replicate c.toNat z0) v L U)
    (h : ∀ sv S, Sl e En sv (List.replicate c.toNat z0) S → lx E g ops K r (upd T d sv) (Ls ++ [S]).flatten m) (hT : decide (e < OBJ) = true := by rfl) : lx E g ops K (⟨some d, .makeSlice t x y, ty, pos, af, none⟩ :: r) T Ls.flatten m := by
  obtain ⟨n, rfl⟩ : ∃ n : Nat, c = (n : Int) := ⟨c.toNat, by omega⟩
  simp only [Int.toNat_natCast] at h hcon
  have hzs : z.cells.size = ii.size := by rw [← Array.length_toList, hz0, En.len, hsz]
  obtain ⟨hk1, hk2⟩ := of_decide_eq_true hkk
  have hle : n ≤ kk := by have := hc.2; omega
  have hb : ii.bytes * n ≤ 140737488355328 := by rw [Nat.mul_comm]; exact Nat.le_trans (Nat.mul_le_mul_right _ hle) hk1
  have hmax : n ≤ 140737488355328 := Nat.le_trans hle hk2
  refine r_go (p1 (fun v => v) e En (List.replicate n z0)) hd hk rfl hm (fun own nw w hse hcell => ?_) hcon (nice_1 _ e En _) (fun v L hp => ?_)
  · have hr := run_make (P := E.P) w t e ii z hu hi hz kl kc (n : Int) (n : Int) (by omega) (Int.le_refl _) (by rw [← Int.natCast_mul]; omega) (by omega)
    refine .inl ⟨.slice (some ⟨w.heap.size, 0, none⟩) n n, w.alloc (.cells (madeCells z.cells (n * ii.size)) e), [(w.heap.size, e, madeCells z.cells (n * ii.size))], [], ?_, ?_, ⟨.slice (some ⟨w.heap.size, 0, none⟩) n n, .inr ⟨w.heap.size, n, _, by rw [List.length_replicate], by rw [List.length_replicate]; exact Nat.le_refl _, ?_, ?_, rfl⟩, rfl, rfl⟩⟩
    · have : execOp (rd T) ⟨some d, .makeSlice t x y, ty, pos, af, none⟩ = (do pure (Next.value (← Instr.makeSlice t (rd T x) (rd T y))) : Sem Next) := rfl
      rw [this, hx, hy]
      simp only [Sem.run_bind, hr, Result.andThen_ok, Int.toNat_natCast]
      rfl
    · exact ⟨rfl, rfl, rfl, by simp, fun k hk _ => heap_alloc_old w _ k hk, fun _ h => (nomatch h), fun y hy => by
        simp only [List.mem_singleton] at hy; subst hy
        exact ⟨Nat.le_refl _, .of hT (heap_alloc_new w _)⟩, Nat.le_refl _⟩
    · rw [size_madeCells, hsz]
    · have : madeCells z.cells (n * ii.size) = Builtin.zeroCells z.cells n := by unfold madeCells Builtin.zeroCells; rw [hzs]
      rw [this, zeroCells_all hz0 n, List.length_replicate]
      have hl : (En.all (List.replicate n z0)).length = n * En.sz := by rw [En.all_len, List.length_replicate]
      rw [← hl]; exact List.take_length
  · obtain ⟨s, hS, hv, _⟩ := hp
    have hv' : v = s := hv
    subst hv'
    have := h v L hS
    rw [List.flatten_append] at this
    simpa using this
end

/-! ### A slice without room -/
def cut0 (v : Value) : Value := match v with | .slice a _ _ => .slice a 0 0 | _ => undef
theorem cut0_sl {α : Type} {e : TypeId} {En : Enc α} {v : Value} {n : Nat} (h : Shp v n) (hl : En.loose := by exact True.intro) : Sl e En (cut0 v) [] [] := by
  rcases h with ⟨rfl, rfl⟩ | ⟨a, cap, rfl, h0, _⟩
  · exact .inl ⟨⟨none, .inl rfl⟩, rfl, rfl, rfl⟩
  · exact .inl ⟨⟨some a, .inr hl⟩, rfl, rfl, rfl⟩
theorem ev_cut0 {P : Program} {c : Addr → Option Value} {t e : TypeId} {i : TypeInfo} {v x y : Value} {n : Nat} {k k' : IntKind} (hx : x = .int k 0) (hy : y = .int k' 0) (hu : P.underlying t = some (.slice e)) (hi' : P.info? e = some i) (h : Shp v n) :
    ev P c (Instr.sliceAt t v none (some x) (some y)) = some (cut0 v) := by
  subst hx; subst hy
  have hb : ∀ n cap : Nat, ev P c (Instr.sliceBounds true n cap none (some (.int k 0)) (some (.int k' 0))) = some (0, 0, 0) := fun n cap => by
    unfold Instr.sliceBounds
    simp only [ev_bind, ev_pure, Option.bind_some]
    rw [ev_bnd rfl ⟨Int.le_refl 0, by omega⟩]
    simp only [Option.bind_some]
    rw [ev_bnd rfl ⟨Int.le_refl 0, by simp⟩]
    rfl
  rcases h with ⟨rfl, rfl⟩ | ⟨a, cap, rfl, h0, hn⟩
  · unfold Instr.sliceAt
    simp only [ev_bind, ev_underlying hu, Option.bind_some, Instr.slice, hb, ev_sizeOf hi', ev_pure]
    rfl
  · unfold Instr.sliceAt
    simp only [ev_bind, ev_underlying hu, Option.bind_some, Instr.slice, hb, ev_sizeOf hi', ev_pure]
    rfl
/-! ### string(b), as a read -/
theorem ev_convRd {P : Program} {c : Addr → Option Value} {src dst e : TypeId} {v : Value} {s : List UInt8} (h1 : P.underlying src = some (.slice e)) (h2 : P.underlying dst = some .string) (h3 : P.underlying e = some (.int .u8)) (h : Rd encY c v s) :
    ev P c (convert src dst v) = some (.string ⟨s.toArray⟩) := by
  have hv : ∃ a n k, v = .slice a n k := by
    rcases h with ⟨rfl, _⟩ | ⟨a, cap, rfl, _⟩
    · exact ⟨_, _, _, rfl⟩
    · exact ⟨_, _, _, rfl⟩
  obtain ⟨a0, n0, k0, hv⟩ := hv
  refine ev_convBS h1 h2 h3 hv ?_
  rcases h with ⟨rfl, rfl⟩ | ⟨a, cap, rfl, h0, hle, hc⟩
  · rfl
  · have h1 : ev P c (loadCells a s.length) = some (encY.all s).toArray := by
      by_cases hs0 : s = []
      · subst hs0; rfl
      have hpos : 0 < s.length := List.length_pos_iff.2 hs0
      have ha : a = ⟨a.block, a.off, none⟩ := by rw [← h0 (by omega)]
      have hl : (encY.all s).length = s.length := by rw [encY_all, List.length_map]
      have := ev_cellsL (P := P) (c := c) (b := a.block) (off := a.off) (encY.all s) 0 #[] (fun j u hj => by rw [Nat.add_zero]; exact hc j u hj)
      unfold loadCells
      rw [ha]
      rw [hl] at this
      simpa using this
    unfold Conv.bytesToString
    rw [ev_bind, h1]
    simp only [Option.bind_some, encY_all, List.forIn_toArray]
    have key : ∀ (g : Value → ByteArray → Sem (ForInStep ByteArray)), (∀ (x : UInt8) r, ev P c (g (.int .u8 ((x.toNat : Nat) : Int)) r) = some (.yield (r.push x))) →
        ∀ (s : List UInt8) (acc : ByteArray), ev P c (forIn (s.map fun c => Value.int .u8 ((c.toNat : Nat) : Int)) acc g) = some ⟨(acc.data.toList ++ s).toArray⟩ := by
      intro g hg s
      induction s with
      | nil => intro acc; simp [ev_pure]
      | cons x s ih =>
        intro acc
        simp only [List.map_cons, List.forIn_cons, ev_bind, hg, Option.bind_some]
        rw [ih]
        simp [ByteArray.push]
    rw [ev_bind, key _ (fun x r => by
      show some (ForInStep.yield (r.push (UInt8.ofNat (x.toNat : Int).toNat))) = _
      rw [Int.toNat_natCast, UInt8.ofNat_toNat])]
    rfl
section
variable {E : Env} {g : Bool} {ops : Array Oper} {K : (Nat → Value) → List Bl → Prop} {r : List Oper} {T : Nat → Value} {l : List Bl} {m : Nat} {d : Tmp} {ty : TypeId} {pos : String} {af : Array Edge}
theorem r_stl {src dst e : TypeId} {x : Operand} {sv : Value} (s : List UInt8) (hd : decide (d < E.n) = true) (hs : E.P.underlying src = some (.slice e)) (hu : E.P.underlying dst = some .string) (he : E.P.underlying e = some (.int .u8)) (hx : rd T x = sv)
    (hr : ∀ own nw, Sees E l m own nw → Rd encY (cellA E own nw) sv s)
    (h : lx E g ops K r (upd T d (.string ⟨s.toArray⟩)) l m) (hpl : Plain E.ks ⟨some d, .convert src dst x, ty, pos, af, none⟩ := by rfl) : lx E g ops K (⟨some d, .convert src dst x, ty, pos, af, none⟩ :: r) T l m := fun hn own nw hse => by
  have hev : ev E.P (cellA E own nw) (execOp (rd T) ⟨some d, .convert src dst x, ty, pos, af, none⟩) = some (.value (.string ⟨s.toArray⟩)) := by
    refine ev_v (s := convert src dst (rd T x)) ?_
    rw [hx]; exact ev_convRd hs hu he (hr own nw hse)
  exact lexK_l rfl (kdo_eq hpl rfl (by decide)) hd (.string ⟨s.toArray⟩) (by
    show (match ev E.P (cellA E own nw) (execOp (rd T) ⟨some d, .convert src dst x, ty, pos, af, none⟩) with | some (.value v) => some v | _ => none) = some (.string ⟨s.toArray⟩)
    rw [hev]) (h hn own nw hse)
end
theorem ev_fieldX {P : Program} {c : Addr → Option Value} {s : TypeId} {fs : Array Field} {f : Field} {k k' : Nat} {sv x : Value} {n j : Nat} (hx : x = elA sv k) (hu : P.underlying s = some (.struct fs)) (hf : fs[j]? = some f) {fi : TypeInfo} (hfi : P.info? f.type = some fi) (hf0 : decide (fi.size = 0) = false) (hk : k + f.offset = k') (hs : Shp sv n) (hn : 0 < n) :
    ev P c (Instr.fieldAt s x j) = some (elA sv k') := by
  subst hx; subst hk; exact ev_fieldEl hu hf hfi hf0 hs hn

/-! ### Slices in cells -/
theorem Shp.cells {v : Value} {n : Nat} (h : Shp v n) : v.cells = #[v] := by
  rcases h with ⟨rfl, _⟩ | ⟨_, _, rfl, _⟩ <;> rfl
theorem Shp.one {v : Value} {n : Nat} (h : Shp v n) : v.oneCell' = true := by
  rcases h with ⟨rfl, _⟩ | ⟨_, _, rfl, _⟩ <;> rfl
theorem alloc_sl {P : Program} {t : Nat → Value} {d : Option Tmp} {e : TypeId} {x : Operand} {ty : TypeId} {pos : String} {af : Array Edge} {g : Option (Nat × Bool)} {v : Value} {n : Nat} (hx : rd t x = v) (h : Shp v n) (hT : decide (e < OBJ) = true := by rfl) : allocOf P t ⟨d, .box e x, ty, pos, af, g⟩ = some (e, #[v]) := by
  show (if decide (e < OBJ) = true then some (e, (rd t x).cells) else none) = _
  rw [if_pos hT, hx, h.cells]
theorem cells_sl {t : Nat → Value} {x : Operand} {v : Value} {n : Nat} (hx : rd t x = v) (h : Shp v n) : (rd t x).cells = #[v] := by rw [hx, h.cells]
theorem all_nil' : ∀ x ∈ ([] : List Value), x.oneCell' = true := fun _ h => (nomatch h)
theorem all_cons' {v : Value} {l : List Value} (h : v.oneCell' = true) (hl : ∀ x ∈ l, x.oneCell' = true) : ∀ x ∈ v :: l, x.oneCell' = true := fun x hx => by
  rcases List.mem_cons.1 hx with rfl | hx
  · exact h
  · exact hl x hx
theorem StOk.ofS {P : Program} {e : TypeId} {cs : Array Value} {off : Nat} {vs : List Value} {i : TypeInfo} (hi : P.info? e = some i)
    (h : (vs.toArray.size == i.size && decide (off + vs.toArray.size ≤ cs.size)) = true) (h1 : ∀ x ∈ vs, x.oneCell' = true) : StOk P e cs off vs.toArray := by
  simp only [Bool.and_eq_true, beq_iff_eq, decide_eq_true_eq] at h
  exact ⟨⟨i, hi, h.1⟩, h.2, fun x hx => h1 x (by simpa using hx)⟩

def fillC (place : Nat → Option (Nat × Nat)) (cells : Array Value) : List (Nat × Array Value) → Option (Array Value)
  | [] => some cells
  | (i, v) :: rest =>
    match place i with
    | none => none
    | some (off, size) =>
      if v.size ≠ size || off + v.size > cells.size then none
      else fillC place (v.zipIdx.foldl (fun cs (c, j) => cs.setIfInBounds (off + j) c) cells) rest
theorem fillC_eq (place : Nat → Option (Nat × Nat)) : ∀ (l : List (Nat × Value)) (pc : List (Nat × Array Value)) (cells : Array Value), l.map (fun x => (x.1, x.2.cells)) = pc → Instr.fill place cells l = fillC place cells pc
  | [], pc, cells, h => by subst h; rfl
  | (i, v) :: rest, pc, cells, h => by
    subst h
    simp only [List.map_cons, Instr.fill, fillC]
    cases place i with
    | none => rfl
    | some p =>
      obtain ⟨off, size⟩ := p
      simp only
      split
      · rfl
      · exact fillC_eq place rest _ _ rfl
theorem pc_nil {t : Nat → Value} : (([] : List (Nat × Operand)).map fun x => (x.1, rd t x.2)).map (fun x => (x.1, x.2.cells)) = [] := rfl
theorem pc_cons {t : Nat → Value} {i : Nat} {x : Operand} {c : Array Value} {l : List (Nat × Operand)} {pc : List (Nat × Array Value)} (h : (rd t x).cells = c) (hl : (l.map fun x => (x.1, rd t x.2)).map (fun x => (x.1, x.2.cells)) = pc) :
    (((i, x) :: l).map fun x => (x.1, rd t x.2)).map (fun x => (x.1, x.2.cells)) = (i, c) :: pc := by
  rw [List.map_cons, List.map_cons, hl, h]
theorem ev_buildSC {P : Program} {c : Addr → Option Value} {t : Nat → Value} {d : Option Tmp} {T : TypeId} {l : List (Nat × Operand)} {ty : TypeId} {pos : String} {af : Array Edge} {g : Option (Nat × Bool)} {fs : Array Field} {z : Value} {cs : Array Value} {pc : List (Nat × Array Value)}
    (hu : P.underlying T = some (.struct fs)) (hz : (P.info? T).bind (·.zero) = some z) (hf : fs.toList.all (fun f => (P.info? f.type).isSome) = true)
    (hp : (l.map fun x => (x.1, rd t x.2)).map (fun x => (x.1, x.2.cells)) = pc) (hc : fillC ((fs.toList.map (placeOf P))[·]?) z.cells pc = some cs) :
    ev P c (execOp (rd t) ⟨d, .build T l.toArray, ty, pos, af, g⟩) = some (.value (.agg cs)) :=
  ev_buildS hu hz hf (by rw [fillC_eq _ _ pc _ hp]; exact hc)

/-! ### Bytes -/
def sl8 (x : UInt8) (n : Nat) : UInt8 := UInt8.ofNat (x.toNat * 2 ^ (min n 8))
def sr8 (x : UInt8) (n : Nat) : UInt8 := UInt8.ofNat (x.toNat / 2 ^ (min n 8))
def byteI (x : Int) : UInt8 := UInt8.ofNat (x % 256).toNat
theorem wrap_u8 (x : Int) : IntKind.u8.wrap x = x % 256 := by simp [IntKind.wrap, IntKind.signed, IntKind.bits]
theorem u8_wrap (x : Int) : Value.int .u8 (IntKind.u8.wrap x) = .int .u8 (((byteI x).toNat : Nat) : Int) := by
  rw [wrap_u8]; unfold byteI
  rw [UInt8.toNat_ofNat']
  congr 1; omega
theorem byteI_u (x : UInt8) : byteI (x.toNat : Int) = x := by
  apply UInt8.toNat_inj.1
  unfold byteI
  rw [UInt8.toNat_ofNat']
  have := x.toNat_lt
  omega
theorem ofInt8 (x : UInt8) : BitVec.ofInt 8 ((x.toNat : Nat) : Int) = x.toBitVec := by
  apply BitVec.eq_of_toNat_eq
  rw [BitVec.toNat_ofInt]
  have := x.toNat_lt
  show _ = x.toNat
  simp; omega
theorem bits8 (b : BitVec 8) (x : UInt8) (h : x.toBitVec = b) : Value.int .u8 (IntKind.u8.wrap (b.toNat : Int)) = .int .u8 ((x.toNat : Nat) : Int) := by
  subst h
  rw [wrap_u8]
  have : x.toBitVec.toNat = x.toNat := rfl
  rw [this]
  have := x.toNat_lt
  congr 1; omega
theorem Y_and (x y : UInt8) : Value.int .u8 (IntKind.u8.wrap ((BitVec.ofInt 8 ((x.toNat : Nat) : Int) &&& BitVec.ofInt 8 ((y.toNat : Nat) : Int)).toNat : Int)) = .int .u8 (((x &&& y).toNat : Nat) : Int) :=
  bits8 _ _ (by rw [ofInt8, ofInt8]; rfl)
theorem Y_or (x y : UInt8) : Value.int .u8 (IntKind.u8.wrap ((BitVec.ofInt 8 ((x.toNat : Nat) : Int) ||| BitVec.ofInt 8 ((y.toNat : Nat) : Int)).toNat : Int)) = .int .u8 (((x ||| y).toNat : Nat) : Int) :=
  bits8 _ _ (by rw [ofInt8, ofInt8]; rfl)
theorem Y_xor (x y : UInt8) : Value.int .u8 (IntKind.u8.wrap ((BitVec.ofInt 8 ((x.toNat : Nat) : Int) ^^^ BitVec.ofInt 8 ((y.toNat : Nat) : Int)).toNat : Int)) = .int .u8 (((x ^^^ y).toNat : Nat) : Int) :=
  bits8 _ _ (by rw [ofInt8, ofInt8]; rfl)
theorem Y_andNot (x y : UInt8) : Value.int .u8 (IntKind.u8.wrap ((BitVec.ofInt 8 ((x.toNat : Nat) : Int) &&& ~~~ BitVec.ofInt 8 ((y.toNat : Nat) : Int)).toNat : Int)) = .int .u8 (((x &&& ~~~ y).toNat : Nat) : Int) :=
  bits8 _ _ (by rw [ofInt8, ofInt8]; rfl)
theorem Y_add (x y : UInt8) : Value.int .u8 (IntKind.u8.wrap (((x.toNat : Nat) : Int) + ((y.toNat : Nat) : Int))) = .int .u8 (((x + y).toNat : Nat) : Int) := by
  rw [wrap_u8, UInt8.toNat_add]; congr 1
section
variable {P : Program} {c : Addr → Option Value} {ρ : Operand → Value} {d : Option Tmp} {t t' : TypeId} {a b : Operand} {ty : TypeId} {pos : String} {af : Array Edge} {g : Option (Nat × Bool)}
theorem ev_shl8 {x : UInt8} {k : IntKind} {n : Int} (hx : ρ a = .int .u8 ((x.toNat : Nat) : Int)) (hy : ρ b = .int k n) (h : 0 ≤ n) : ev P c (execOp ρ ⟨d, .binOp .shl t a b t', ty, pos, af, g⟩) = some (.value (.int .u8 (((sl8 x n.toNat).toNat : Nat) : Int))) := by
  refine ev_v (s := do eqGuard .shl t a b (ρ a) (ρ b); binOp .shl t (ρ a) (ρ b)) ?_
  rw [hx, hy]
  have h1 : ¬ (n < 0) := by omega
  have h2 : ev P c (eqGuard .shl t a b (.int .u8 ((x.toNat : Nat) : Int)) (.int k n)) = some () := rfl
  simp only [ev_bind, h2, Option.bind_some, binOp, Op.shift, if_neg h1, ev_pure, IntKind.bits]
  rw [wrap_u8]
  unfold sl8
  rw [UInt8.toNat_ofNat', Int.natCast_emod, Int.natCast_mul, Int.natCast_pow]
  rfl
theorem ev_shr8 {x : UInt8} {k : IntKind} {n : Int} (hx : ρ a = .int .u8 ((x.toNat : Nat) : Int)) (hy : ρ b = .int k n) (h : 0 ≤ n) : ev P c (execOp ρ ⟨d, .binOp .shr t a b t', ty, pos, af, g⟩) = some (.value (.int .u8 (((sr8 x n.toNat).toNat : Nat) : Int))) := by
  refine ev_v (s := do eqGuard .shr t a b (ρ a) (ρ b); binOp .shr t (ρ a) (ρ b)) ?_
  rw [hx, hy]
  have h1 : ¬ (n < 0) := by omega
  have h2 : ev P c (eqGuard .shr t a b (.int .u8 ((x.toNat : Nat) : Int)) (.int k n)) = some () := rfl
  simp only [ev_bind, h2, Option.bind_some, binOp, Op.shift, if_neg h1, ev_pure, IntKind.bits]
  unfold sr8
  have h3 : x.toNat / 2 ^ (min n.toNat 8) < 256 := Nat.lt_of_le_of_lt (Nat.div_le_self _ _) x.toNat_lt
  rw [UInt8.toNat_ofNat', Nat.mod_eq_of_lt h3, Int.fdiv_eq_ediv_of_nonneg _ (Int.le_of_lt (Int.pow_pos (by decide))), Int.natCast_ediv, Int.natCast_pow]
  rfl
end
theorem u8_u64 (x : UInt8) : Value.int .u64 (IntKind.u64.wrap ((x.toNat : Nat) : Int)) = U (BitVec.ofNat 64 x.toNat) := U_wrap _
theorem u8_i64 (x : UInt8) : Value.int .i64 (IntKind.i64.wrap ((x.toNat : Nat) : Int)) = .int .i64 ((x.toNat : Nat) : Int) := wi64 rfl (by omega) (by have := x.toNat_lt; omega)
def byteU (x : BitVec 64) : UInt8 := UInt8.ofNat x.toNat
theorem u64_u8 (x : BitVec 64) : Value.int .u8 (IntKind.u8.wrap ((x.toNat : Nat) : Int)) = .int .u8 (((byteU x).toNat : Nat) : Int) := by
  rw [wrap_u8]; unfold byteU
  rw [UInt8.toNat_ofNat']
  congr 1

theorem Rd.of_nil {α : Type} {e : TypeId} {E : Enc α} {c : Addr → Option Value} {v : Value} (h : Sl e E v [] []) : Rd E c v [] := by
  rcases h with ⟨a, rfl, _, _⟩ | ⟨b, cap, cs, _, _, _, _, h⟩
  · rcases a with _ | a
    · exact .inl ⟨rfl, rfl⟩
    · exact .inr ⟨a, 0, rfl, (fun h => absurd h (Nat.lt_irrefl 0)), Nat.le_refl _, fun k u hk => by simp [Enc.all] at hk⟩
  · cases h
/-- Parts, some of which are empty. -/
theorem Sub.pickE {Ls Ls0 : List (List Bl)} (_ : True = True) (is : List Nat) (hok : okPick is Ls.length = true) (h2 : Ls.flatten = Ls0.flatten := by simp) : Sub (pickL Ls is).flatten Ls0.flatten := h2 ▸ Sub.pick Ls is hok

/-! ### Rows of data that hold rows -/
/-- What a datum's cells are, as the memory c tells. -/
structure EncR (α : Type) where
  R : (Addr → Option Value) → α → List Value → Prop
  sz : Nat
  pos : 0 < sz
  mono : ∀ {c c' : Addr → Option Value} {x vs}, (∀ a v, c a = some v → c' a = some v) → R c x vs → R c' x vs
def RdN {α : Type} (E : EncR α) (c : Addr → Option Value) (v : Value) (xs : List α) : Prop :=
  (v = .slice none 0 0 ∧ xs = []) ∨ ∃ a cap, v = .slice (some a) xs.length cap ∧ (0 < cap → a.spot = none) ∧ xs.length ≤ cap ∧
    ∀ i x, xs[i]? = some x → ∃ vs, E.R c x vs ∧ ∀ j u, vs[j]? = some u → c ⟨a.block, a.off + (i * E.sz + j), none⟩ = some u
theorem RdN.mono {α : Type} {E : EncR α} {c c' : Addr → Option Value} (hc : ∀ a v, c a = some v → c' a = some v) {v : Value} {xs : List α} (h : RdN E c v xs) : RdN E c' v xs := by
  rcases h with h | ⟨a, cap, h1, h2, h3, h4⟩
  · exact .inl h
  · refine .inr ⟨a, cap, h1, h2, h3, fun i x hx => ?_⟩
    obtain ⟨vs, h5, h6⟩ := h4 i x hx
    exact ⟨vs, E.mono hc h5, fun j u hj => hc _ _ (h6 j u hj)⟩
theorem RdN.shp {α : Type} {E : EncR α} {c : Addr → Option Value} {v : Value} {xs : List α} (h : RdN E c v xs) : Shp v xs.length := by
  rcases h with ⟨rfl, rfl⟩ | ⟨a, cap, rfl, h0, h1, _⟩
  · exact .inl ⟨rfl, rfl⟩
  · exact .inr ⟨_, cap, rfl, h0, h1⟩
abbrev oRN {α : Type} (En : EncR α) (ro : Addr → Option Value) (xs : List α) (P : Value → PO) : PO := fun v O => ∃ s, RdN En ro s xs ∧ P s v O
/-- The cells from the element's place on. -/
def At (c : Addr → Option Value) (sv : Value) (k : Nat) (vs : List Value) : Prop := ∃ a n cap, sv = .slice (some a) n cap ∧ a.spot = none ∧ ∀ j u, vs[j]? = some u → c ⟨a.block, a.off + (k + j), none⟩ = some u
theorem At.mono {c c' : Addr → Option Value} (hc : ∀ a v, c a = some v → c' a = some v) {sv : Value} {k : Nat} {vs : List Value} (h : At c sv k vs) : At c' sv k vs := by
  obtain ⟨a, n, cap, h1, h2, h3⟩ := h
  exact ⟨a, n, cap, h1, h2, fun j u hj => hc _ _ (h3 j u hj)⟩
theorem RdN.at {α : Type} {E : EncR α} {c : Addr → Option Value} {v : Value} {xs : List α} (h : RdN E c v xs) {i : Nat} {x : α} (hx : xs[i]? = some x) : ∃ vs, E.R c x vs ∧ At c v (i * E.sz) vs := by
  rcases h with ⟨_, rfl⟩ | ⟨a, cap, rfl, h0, h1, h4⟩
  · simp at hx
  · obtain ⟨vs, h5, h6⟩ := h4 i x hx
    have hi := (List.getElem?_eq_some_iff.1 hx).1
    exact ⟨vs, h5, a, _, cap, rfl, h0 (by omega), h6⟩
theorem RdN.sub {α : Type} {E : EncR α} {c : Addr → Option Value} {v : Value} {xs : List α} {lo hi : Nat} (h : RdN E c v xs) (h1 : lo ≤ hi) (h2 : hi ≤ xs.length) : RdN E c (subA v lo hi E.sz) ((xs.take hi).drop lo) := by
  have hl : ((xs.take hi).drop lo).length = hi - lo := by simp; omega
  rcases h with ⟨rfl, rfl⟩ | ⟨a, cap, rfl, h0, hn, h⟩
  · simp at h2; subst h2
    obtain rfl : lo = 0 := by omega
    exact .inl ⟨rfl, by simp⟩
  · refine .inr ?_
    unfold subA
    rw [hl]
    by_cases hc : cap = lo
    · simp only [if_pos hc]
      have hz : (xs.take hi).drop lo = [] := List.eq_nil_of_length_eq_zero (by omega)
      refine ⟨a, _, rfl, (fun h => h0 (by omega)), by omega, fun i x hx => ?_⟩
      rw [hz] at hx; simp at hx
    · simp only [if_neg hc]
      have h0 := h0 (by omega)
      refine ⟨a.add (lo * E.sz), _, rfl, (fun _ => by rw [add_none h0]), by omega, fun i x hx => ?_⟩
      rw [List.getElem?_drop] at hx
      obtain ⟨hlt, hx⟩ := List.getElem?_eq_some_iff.1 hx
      rw [List.getElem_take] at hx
      obtain ⟨vs, h5, h6⟩ := h (lo + i) x (List.getElem?_eq_some_iff.2 ⟨_, hx⟩)
      refine ⟨vs, h5, fun j u hj => ?_⟩
      rw [add_none h0]
      have := h6 j u hj
      rw [Nat.add_mul, Nat.add_assoc] at this
      show c ⟨a.block, a.off + lo * E.sz + (i * E.sz + j), none⟩ = some u
      rw [Nat.add_assoc]; exact this
section
variable {E : Env} {g : Bool} {ops : Array Oper} {K : (Nat → Value) → List Bl → Prop} {r : List Oper} {T : Nat → Value} {l : List Bl} {m : Nat} {d : Tmp} {ty : TypeId} {pos : String} {af : Array Edge}
/-- A load of an element whose cells are known. -/
theorem r_at (v : Value) {sv : Value} {vs : List Value} (k o : Nat) {e : TypeId} {p : Operand} (hd : decide (d < E.n) = true) (hp : rd T p = elA sv (k + o)) (hr : ∀ own nw, Sees E l m own nw → At (cellA E own nw) sv k vs)
    (hv : ldCells E.P e vs.toArray o = some v) (h : lx E g ops K r (upd T d v) l m) (hpl : Plain E.ks ⟨some d, .load e p, ty, pos, af, none⟩ := by rfl) : lx E g ops K (⟨some d, .load e p, ty, pos, af, none⟩ :: r) T l m := fun hn own nw hse => by
  obtain ⟨a, n, cap, rfl, h0, h3⟩ := hr own nw hse
  have hp' : rd T p = .pointer (some ⟨a.block, a.off + k + o, none⟩) := by
    rw [hp]; show Value.pointer (some (a.add (k + o))) = _; rw [add_none h0, Nat.add_assoc]
  have hev : ev E.P (cellA E own nw) (loadVar e ⟨a.block, a.off + k + o, none⟩) = some v := ev_ldL (b := a.block) (off := a.off + k) (fun j u hj => by have := h3 j u hj; rw [← Nat.add_assoc] at this; exact this) hv
  exact lexK_l rfl (kdo_eq hpl rfl (by decide)) hd v (by
    show (match ev E.P (cellA E own nw) (execOp (rd T) ⟨some d, .load e p, ty, pos, af, none⟩) with | some (.value v) => some v | _ => none) = some v
    rw [load_ev hp' hev]) (h hn own nw hse)
end
section
variable {P : Program} {c : Addr → Option Value} {ρ : Operand → Value} {d : Option Tmp} {t t' : TypeId} {a b : Operand} {ty : TypeId} {pos : String} {af : Array Edge} {g : Option (Nat × Bool)} {x y : Int}
theorem ev_quoI (hx : ρ a = .int .i64 x) (hy : ρ b = .int .i64 y) (h0 : 0 < y) : ev P c (execOp ρ ⟨d, .binOp .quo t a b t', ty, pos, af, g⟩) = some (.value (.int .i64 (IntKind.i64.wrap (x.tdiv y)))) := by
  refine ev_v (s := do eqGuard .quo t a b (ρ a) (ρ b); binOp .quo t (ρ a) (ρ b)) ?_
  rw [hx, hy]
  have h1 : ¬ (y = 0) := by omega
  have h2 : ev P c (eqGuard .quo t a b (.int .i64 x) (.int .i64 y)) = some () := rfl
  simp only [ev_bind, h2, Option.bind_some, binOp, Op.intDiv, if_neg h1, ne_eq, not_true_eq_false, if_false, ev_pure]
theorem ev_remI (hx : ρ a = .int .i64 x) (hy : ρ b = .int .i64 y) (h0 : 0 < y) : ev P c (execOp ρ ⟨d, .binOp .rem t a b t', ty, pos, af, g⟩) = some (.value (.int .i64 (x.tmod y))) := by
  refine ev_v (s := do eqGuard .rem t a b (ρ a) (ρ b); binOp .rem t (ρ a) (ρ b)) ?_
  rw [hx, hy]
  have h1 : ¬ (y = 0) := by omega
  have h2 : ev P c (eqGuard .rem t a b (.int .i64 x) (.int .i64 y)) = some () := rfl
  simp only [ev_bind, h2, Option.bind_some, binOp, Op.intDiv, if_neg h1, ne_eq, not_true_eq_false, if_false, ev_pure]
end
end Go.Eng
