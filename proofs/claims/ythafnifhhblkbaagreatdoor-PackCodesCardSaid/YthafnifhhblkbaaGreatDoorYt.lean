import Derived.Test.YthafnifhhblkbaaGreatDoorPt
namespace Go.Eng
open Go Go.RowKit
theorem NL {α : Type} {En : Enc α} {z : Array Value} {z0 : α} (hz : z.toList = En.f z0) (n : Nat) : (Builtin.zeroCells z n).toList = En.all (List.replicate n z0) := by
 have hs : z.size = En.sz := by rw [← Array.length_toList, hz, En.len]
 induction n with
 | zero => simp [Builtin.zeroCells, Enc.all]
 | succ n ih =>
  rw [List.replicate_succ', En.all_append, ← ih]
  unfold Builtin.zeroCells
  rw [Nat.succ_mul, hs]
  simp only [Array.toList_map, Array.toList_range]
  rw [List.range_add, List.map_append, List.map_map]
  congr 1
  have h1 : En.all [z0] = z.toList := by simp [Enc.all, hz]
  rw [h1]
  apply List.ext_getElem
  ·simp [hs]
  ·intro i hi hi'
   have hi2 : i < z.size := by simpa [hs] using hi
   simp only [List.getElem_map, Function.comp, List.getElem_range]
   rw [Nat.mul_comm, Nat.mul_add_mod, Nat.mod_eq_of_lt (by omega)]
   simp [hi2]
theorem Wa {P : Program} {w : World} {t tn ty e : TypeId} {i : TypeInfo} {kn kq : IntKind} (ht : P.underlying t = some (.slice e)) (htn : P.underlying tn = some (.int kn)) (hi : P.info? e = some i) {s : Value} {n : Nat}
  (hs : (∃ a : Option Addr, s = .slice a 0 0 ∧ n = 0) ∨ ∃ b cap cs, s = .slice (some ⟨b, 0, none⟩) n cap ∧ n ≤ cap ∧ Holds w b e cs) :
  (Builtin.append_ #[t, tn] ty #[s, .int kq 0]).run P w = .ok s w := by
 have hw : IntKind.i64.wrap 0 = 0 := by rw [IntKind.wrap_i64]; omega
 rcases hs with ⟨a, rfl, rfl⟩ | ⟨b, cap, cs, rfl, hn, hb⟩
 ·rcases a with _ | a
  ·simp [Builtin.append_, run_underlying ht, run_underlying htn, sizeOf, typeInfo, hi, asInt, asIntOf, hw]
  ·simp [Builtin.append_, run_underlying ht, run_underlying htn, sizeOf, typeInfo, hi, asInt, asIntOf, hw, storeCells]
 ·simp [Builtin.append_, run_underlying ht, run_underlying htn, sizeOf, typeInfo, hi, asInt, asIntOf, hw, hn, storeCells]
theorem VY {P : Program} {w : World} {t tn ty e : TypeId} {i : TypeInfo} {z : Value} {kn kq : IntKind} (ht : P.underlying t = some (.slice e)) (htn : P.underlying tn = some (.int kn)) (hi : P.info? e = some i) (hz : i.zero = some z) (hzs : z.cells.size = i.size)
  {g sLen sCap : Nat} {cur : Array Value} (hg : Holds w g e cur) (hne : e ≠ Qo) (m : Nat) (hm : 0 < m) (hs0 : 0 < i.size) (h63 : (m : Int) ≤ 9223372036854775807) (h48 : m * i.bytes ≤ 140737488355328) (h1 : ∀ u ∈ (Builtin.zeroCells z.cells m).toList, u.oneCell' = true)
  (hroom : sLen + m ≤ sCap) (hfit : sLen * i.size + m * i.size ≤ cur.size) :
  (Builtin.append_ #[t, tn] ty #[.slice (some ⟨g, 0, none⟩) sLen sCap, .int kq ((m : Nat) : Int)]).run P w =
   .ok (.slice (some ⟨g, 0, none⟩) (sLen + m) sCap) (w.setRow g (cur.toList.take (sLen * i.size) ++ (Builtin.zeroCells z.cells m).toList ++ cur.toList.drop (sLen * i.size + m * i.size)).toArray) := by
 have hl : (Builtin.zeroCells z.cells m).toList.length = m * i.size := by simp [Builtin.zeroCells, hzs]
 have hst := hg.store hne P (sLen * i.size) _ (by rw [hl]; exact hfit) h1
 rw [hl] at hst
 have hw : IntKind.i64.wrap (m : Int) = m := by rw [IntKind.wrap_i64]; omega
 have hneg : ¬ ((m : Int) < 0) := by omega
 have h48i : ¬ (281474976710656 < (m : Int) * (i.bytes : Int)) := by
  rw [← Int.natCast_mul]; omega
 have hns : ¬ (m * i.size = 0) := Nat.mul_ne_zero (by omega) (by omega)
 simp [Builtin.append_, run_underlying ht, run_underlying htn, sizeOf, typeInfo, zeroValue, hi, hz, asInt, asIntOf, hw, hneg, h48i, hns, hroom, Addr.add_lit, hst]
section
variable {E : Env} {g : Bool} {ops : Array Oper} {K : (Nat → Value) → List Bl → Prop} {r : List Oper} {T : Nat → Value} {m : Nat} {d : Tmp} {ty : TypeId} {pos : String} {af : Array Edge}
theorem lH {α : Type} {Ls : List (List Bl)} {cs0 : List (Tmp × (List Value → (Addr → Option Value) → Pst))} (k : Nat) {S : List Bl} {e : TypeId} {En : Enc α} {s x : Operand} {sv : Value} {xs : List α} (z0 : α) (c : Int) {t tn : TypeId} {ii : TypeInfo} {z : Value} {kn kq : IntKind}
  (hd : decide (d < E.n) = true) (hk : E.ks.find? (fun x => x.1 == some d) = some (some d, true)) (hs : rd T s = sv) (hx : rd T x = .int kq c) (hS : Ls[k]? = some S) (hSl : Sl e En sv xs S)
  (hm : decide (m ≤ (Ls.take k).flatten.length) = true)
  (hu : E.P.underlying t = some (.slice e)) (hun : E.P.underlying tn = some (.int kn)) (hi : E.P.info? e = some ii) (hz : ii.zero = some z) (hsz : ii.size = En.sz) (hz0 : z.cells.toList = En.f z0)
  (kk : Nat) (hkk : decide (kk * ii.bytes ≤ 140737488355328 ∧ kk ≤ 140737488355328) = true) (hc : 0 ≤ c ∧ (xs.length : Int) + c ≤ (kk : Nat)) (hcon : E.con = conG E.P cs0)
  (h : ∀ v S', Sl e En v (xs ++ List.replicate c.toNat z0) S' → lx E g ops K r (upd T d v) (Ls.set k S').flatten m) (hT : decide (e < OBJ) = true := by rfl) :
  lx E g ops K (⟨some d, .call ⟨.builtin .append, #[s, x], #[t, tn]⟩, ty, pos, af, none⟩ :: r) T Ls.flatten m := by
 obtain ⟨n, rfl⟩ : ∃ n : Nat, c = (n : Int) := ⟨c.toNat, by omega⟩
 simp only [Int.toNat_natCast] at h
 have hzs : z.cells.size = ii.size := by rw [← Array.length_toList, hz0, En.len, hsz]
 have hall := NL hz0 n
 obtain ⟨hk1, hk2⟩ := of_decide_eq_true hkk
 have h2 : xs.length + n ≤ kk := by have := hc.2; omega
 have hbytes : (xs.length + n) * ii.bytes ≤ 140737488355328 := Nat.le_trans (Nat.mul_le_mul_right _ h2) hk1
 have hmax : xs.length + n ≤ 140737488355328 := Nat.le_trans h2 hk2
 have hpos : 0 < ii.size := by rw [hsz]; exact En.pos
 refine YC (ys := List.replicate n z0) k hd hk rfl hS hSl hm (fun own nw hse hrs => ?_) (fun own nw w hse hrs hcell hown => ?_) h
 ·funext v L U
  have := propext (cB (cs := cs0) (d := some d) (ty := ty) (pos := pos) (af := af) (g := none) (ρ := rd T) (s := s) (x := x) (tn := tn) hu hi hz (by rw [hs, hsz]; exact hrs.v) hx v L U)
  rw [hs, hx, hsz, hall] at this
  unfold conOf
  rw [hcon, List.length_replicate, ← this, ← hs, ← hx]
  rfl
 ·rw [List.length_replicate, ← hall, ← hsz]
  have hex : ∀ v w', (Builtin.append_ #[t, tn] ty #[sv, .int kq ((n : Nat) : Int)]).run E.P w = .ok v w' → (execOp (rd T) ⟨some d, .call ⟨.builtin .append, #[s, x], #[t, tn]⟩, ty, pos, af, none⟩).run E.P w = .ok (.value v) w' := fun v w' hv => by
   unfold execOp
   simp only [resolve, invoke, builtin, Sem.run_bind, Sem.run_pure, Result.andThen_ok, List.map_toArray, List.map_cons, List.map_nil, hs, hx, hv]
  by_cases hn : n = 0
  ·subst hn
   refine ⟨sv, w, [], [], ?_, ⟨rfl, rfl, rfl, Nat.le_refl _, fun _ _ _ => rfl, fun _ h => (nomatch h), fun _ h => (nomatch h)⟩, .inl ⟨rfl, rfl, rfl, rfl⟩⟩
   exact hex _ _ (Wa hu hun hi (n := xs.length) (by
    rcases hown with h | ⟨b, cap, cs, h1, h2, _, _, h3⟩
    ·exact .inl h
    ·exact .inr ⟨b, cap, cs, h1, h2, h3⟩))
  ·have hn0 : 0 < n := by omega
   have hzl : (Builtin.zeroCells z.cells n).toList.length = n * ii.size := by simp [Builtin.zeroCells, hzs]
   have hone : ∀ u ∈ (Builtin.zeroCells z.cells n).toList, u.oneCell' = true := by rw [hall]; exact En.all_one _
   have ext : ∀ (cur : Array Value), ExtW w (w.drew.alloc (.cells cur e)) [(w.heap.size, e, cur)] [] := fun cur =>
    ⟨rfl, rfl, rfl, by simp, fun k hk _ => heap_alloc_old w.drew _ k hk, fun _ h => (nomatch h), fun y hy => by
     simp only [List.mem_singleton] at hy; subst hy
     exact ⟨Nat.le_refl _, .of hT (heap_alloc_new w.drew _)⟩⟩
   have hnb : n * ii.bytes ≤ 140737488355328 := Nat.le_trans (Nat.mul_le_mul_right _ (Nat.le_add_left _ _)) hbytes
   rcases hown with ⟨a0, h1, h2⟩ | ⟨b, cap, cs, h1, hncap, hsz', hvb, hb⟩
   ·have hx0 : xs = [] := List.eq_nil_of_length_eq_zero h2
    subst hx0
    have hr := Go.Lib.run_append_grow_zeros (P := E.P) w t tn ty e ii z kq kn hu hun hi hz a0 0 0 [] (by cases a0 <;> simp [Builtin.firstCells, loadCells, loadCellsFrom]) n hn0 hpos (by omega) (by omega) (by omega) (growslice_fits (by omega) (by rw [Nat.zero_add]; exact hnb))
    have hge := grownCap_ge w (0 + n) 0 e
    rw [← h1] at hr
    refine ⟨_, _, _, _, hex _ _ hr, ext _, .inr (.inr ⟨hn0, fun a' cap' h => ?_, w.heap.size, grownCap w (0 + n) 0 e, _, rfl, hge, ?_, ?_, rfl, rfl⟩)⟩
    ·rw [h1] at h
     simp only [Value.slice.injEq] at h
     obtain ⟨_, _, rfl⟩ := h
     simpa using hn0
    ·simp only [Array.size_append, List.size_toArray, List.length_nil, size_zeroCells, hzs]
     rw [Nat.zero_add, ← Nat.add_mul]; congr 1; omega
    ·simp only [Array.toList_append, List.nil_append, Enc.all, List.flatMap_nil, List.length_nil]
     rw [Nat.zero_add, ← hzl]
     exact List.take_left
   ·by_cases hroom : xs.length + n ≤ cap
    ·have hfit : xs.length * ii.size + n * ii.size ≤ cs.size := by rw [hsz', hsz, ← Nat.add_mul]; exact Nat.mul_le_mul_right _ hroom
     have hr := VY (P := E.P) (ty := ty) (kq := kq) hu hun hi hz hzs (sCap := cap) hb (fun h9 => by rw [h9] at hT; exact absurd hT (by decide)) n hn0 hpos (by omega) hnb hone hroom hfit
     rw [← h1] at hr
     refine ⟨_, _, [], [(b, e, (cs.toList.take (xs.length * ii.size) ++ (Builtin.zeroCells z.cells n).toList ++ cs.toList.drop (xs.length * ii.size + n * ii.size)).toArray)], hex _ _ hr, ⟨rfl, rfl, rfl, by simp, fun k _ hk => setRow_other w b k _ (fun e => hk _ (List.mem_singleton.2 rfl) e.symm), fun y hy => ?_, fun _ h => (nomatch h)⟩, .inr (.inl ⟨hn0, b, cap, cs, h1, hroom, hvb, rfl, rfl, ?_⟩)⟩
     ·simp only [List.mem_singleton] at hy; subst hy
      exact hb.setRow _ (by simp only [List.size_toArray, List.length_append, List.length_take, List.length_drop, Array.length_toList, hzl]; omega)
     ·rw [← Nat.add_mul]
    ·have holds : ∀ j u, (En.all xs)[j]? = some u → w.drew.cell? ((⟨b, 0, none⟩ : Addr).add j) = some u := fun j u hj => by
      rcases hrs with ⟨h, _⟩ | ⟨a', cap', h, hsp', _, hc⟩
      ·rw [h1] at h; cases h
      ·rw [h1] at h
       simp only [Value.slice.injEq, Option.some.injEq] at h
       obtain ⟨rfl, _, rfl⟩ := h
       rw [Dw rfl]; exact hcell _ _ (hc j u hj)
     have hol : (En.all xs).length = xs.length * ii.size := by rw [En.all_len, hsz]
     have hr := Go.Lib.run_append_grow_zeros (P := E.P) w t tn ty e ii z kq kn hu hun hi hz (some ⟨b, 0, none⟩) xs.length cap (En.all xs) (run_firstCells_some w.drew ii.size xs.length ⟨b, 0, none⟩ xs.length cap (En.all xs) hol holds) n hn0 hpos (by omega) (by omega) (by omega) (growslice_fits (by omega) hbytes)
     have hge := grownCap_ge w (xs.length + n) cap e
     rw [← h1] at hr
     refine ⟨_, _, _, _, hex _ _ hr, ext _, .inr (.inr ⟨hn0, fun a' cap' h => ?_, w.heap.size, grownCap w (xs.length + n) cap e, _, rfl, hge, ?_, ?_, rfl, rfl⟩)⟩
     ·rw [h1] at h
      simp only [Value.slice.injEq] at h
      obtain ⟨_, _, rfl⟩ := h; omega
     ·simp only [Array.size_append, List.size_toArray, size_zeroCells, hzs, hol, ← Nat.add_mul]
      congr 1; omega
     ·simp only [Array.toList_append, List.append_assoc]
      rw [← List.append_assoc, show (xs.length + n) * ii.size = (En.all xs ++ (Builtin.zeroCells z.cells n).toList).length from by rw [List.length_append, hol, hzl, Nat.add_mul]]
      exact List.take_left
theorem Rs {α : Type} {Ls : List (List Bl)} {t : TypeId} {x y : Operand} (e : TypeId) (En : Enc α) (z0 : α) (c : Int) {ii : TypeInfo} {z : Value} {kl kc : IntKind} (hd : decide (d < E.n) = true) (hk : E.ks.find? (fun x => x.1 == some d) = some (some d, false)) (hm : decide (m ≤ Ls.flatten.length) = true)
  (hx : rd T x = .int kl c) (hy : rd T y = .int kc c) (hu : E.P.underlying t = some (.slice e)) (hi : E.P.info? e = some ii) (hz : ii.zero = some z) (hsz : ii.size = En.sz) (hz0 : z.cells.toList = En.f z0)
  (kk : Nat) (hkk : decide (kk * ii.bytes ≤ 140737488355328 ∧ kk ≤ 140737488355328) = true) (hc : 0 ≤ c ∧ c ≤ (kk : Nat))
  (hcon : ∀ args view v L U, E.con ⟨some d, .makeSlice t x y, ty, pos, af, none⟩ args view v L U ↔ p1 (fun v => v) e En (List.replicate c.toNat z0) v L U)
  (h : ∀ sv S, Sl e En sv (List.replicate c.toNat z0) S → lx E g ops K r (upd T d sv) (Ls ++ [S]).flatten m) (hT : decide (e < OBJ) = true := by rfl) : lx E g ops K (⟨some d, .makeSlice t x y, ty, pos, af, none⟩ :: r) T Ls.flatten m := by
 obtain ⟨n, rfl⟩ : ∃ n : Nat, c = (n : Int) := ⟨c.toNat, by omega⟩
 simp only [Int.toNat_natCast] at h hcon
 have hzs : z.cells.size = ii.size := by rw [← Array.length_toList, hz0, En.len, hsz]
 obtain ⟨hk1, hk2⟩ := of_decide_eq_true hkk
 have hle : n ≤ kk := by have := hc.2; omega
 have hb : ii.bytes * n ≤ 140737488355328 := by rw [Nat.mul_comm]; exact Nat.le_trans (Nat.mul_le_mul_right _ hle) hk1
 have hmax : n ≤ 140737488355328 := Nat.le_trans hle hk2
 refine kH (p1 (fun v => v) e En (List.replicate n z0)) hd hk rfl hm (fun own nw w hse hcell => ?_) hcon (bP _ e En _) (fun v L hp => ?_)
 ·have hr := run_make (P := E.P) w t e ii z hu hi hz kl kc (n : Int) (n : Int) (by omega) (Int.le_refl _) (by rw [← Int.natCast_mul]; omega) (by omega)
  refine .inl ⟨.slice (some ⟨w.heap.size, 0, none⟩) n n, w.alloc (.cells (madeCells z.cells (n * ii.size)) e), [(w.heap.size, e, madeCells z.cells (n * ii.size))], [], ?_, ?_, ⟨.slice (some ⟨w.heap.size, 0, none⟩) n n, .inr ⟨w.heap.size, n, _, by rw [List.length_replicate], by rw [List.length_replicate]; exact Nat.le_refl _, ?_, ?_, rfl⟩, rfl, rfl⟩⟩
  ·have : execOp (rd T) ⟨some d, .makeSlice t x y, ty, pos, af, none⟩ = (do pure (Next.value (← Instr.makeSlice t (rd T x) (rd T y))) : Sem Next) := rfl
   rw [this, hx, hy]
   simp only [Sem.run_bind, hr, Result.andThen_ok, Int.toNat_natCast]
   rfl
  ·exact ⟨rfl, rfl, rfl, by simp, fun k hk _ => heap_alloc_old w _ k hk, fun _ h => (nomatch h), fun y hy => by
    simp only [List.mem_singleton] at hy; subst hy
    exact ⟨Nat.le_refl _, .of hT (heap_alloc_new w _)⟩⟩
  ·rw [size_madeCells, hsz]
  ·have : madeCells z.cells (n * ii.size) = Builtin.zeroCells z.cells n := by unfold madeCells Builtin.zeroCells; rw [hzs]
   rw [this, NL hz0 n, List.length_replicate]
   have hl : (En.all (List.replicate n z0)).length = n * En.sz := by rw [En.all_len, List.length_replicate]
   rw [← hl]; exact List.take_length
 ·obtain ⟨s, hS, hv, _⟩ := hp
  have hv' : v = s := hv
  subst hv'
  have := h v L hS
  rw [List.flatten_append] at this
  simpa using this
end
theorem aC {P : Program} {c : Addr → Option Value} {src dst e : TypeId} {v : Value} {s : List UInt8} (h1 : P.underlying src = some (.slice e)) (h2 : P.underlying dst = some .string) (h3 : P.underlying e = some (.int .u8)) (h : Rd encY c v s) :
  ev P c (convert src dst v) = some (.string ⟨s.toArray⟩) := by
 have hv : ∃ a n k, v = .slice a n k := by
  rcases h with ⟨rfl, _⟩ | ⟨a, cap, rfl, _⟩
  ·exact ⟨_, _, _, rfl⟩
  ·exact ⟨_, _, _, rfl⟩
 obtain ⟨a0, n0, k0, hv⟩ := hv
 refine aF h1 h2 h3 hv ?_
 rcases h with ⟨rfl, rfl⟩ | ⟨a, cap, rfl, h0, hle, hc⟩
 ·rfl
 ·have h1 : ev P c (loadCells a s.length) = some (encY.all s).toArray := by
   by_cases hs0 : s = []
   ·subst hs0; rfl
   have hpos : 0 < s.length := List.length_pos_iff.2 hs0
   have ha : a = ⟨a.block, a.off, none⟩ := by rw [← h0 (by omega)]
   have hl : (encY.all s).length = s.length := by rw [Xm, List.length_map]
   have := PS (P := P) (c := c) (b := a.block) (off := a.off) (encY.all s) 0 #[] (fun j u hj => by rw [Nat.add_zero]; exact hc j u hj)
   unfold loadCells
   rw [ha]
   rw [hl] at this
   simpa using this
  unfold Conv.bytesToString
  rw [AK, h1]
  simp only [Option.bind_some, Xm, List.forIn_toArray]
  have key : ∀ (g : Value → ByteArray → Sem (ForInStep ByteArray)), (∀ (x : UInt8) r, ev P c (g (.int .u8 ((x.toNat : Nat) : Int)) r) = some (.yield (r.push x))) →
    ∀ (s : List UInt8) (acc : ByteArray), ev P c (forIn (s.map fun c => Value.int .u8 ((c.toNat : Nat) : Int)) acc g) = some ⟨(acc.data.toList ++ s).toArray⟩ := by
   intro g hg s
   induction s with
   | nil => intro acc; simp [Bk]
   | cons x s ih =>
    intro acc
    simp only [List.map_cons, List.forIn_cons, AK, hg, Option.bind_some]
    rw [ih]
    simp [ByteArray.push]
  rw [AK, key _ (fun x r => by
   show some (ForInStep.yield (r.push (UInt8.ofNat (x.toNat : Int).toNat))) = _
   rw [Int.toNat_natCast, UInt8.ofNat_toNat])]
  rfl
section
variable {E : Env} {g : Bool} {ops : Array Oper} {K : (Nat → Value) → List Bl → Prop} {r : List Oper} {T : Nat → Value} {l : List Bl} {m : Nat} {d : Tmp} {ty : TypeId} {pos : String} {af : Array Edge}
theorem Ww {src dst e : TypeId} {x : Operand} {sv : Value} (s : List UInt8) (hd : decide (d < E.n) = true) (hs : E.P.underlying src = some (.slice e)) (hu : E.P.underlying dst = some .string) (he : E.P.underlying e = some (.int .u8)) (hx : rd T x = sv)
  (hr : ∀ own nw, Sees E l m own nw → Rd encY (cellA E own nw) sv s)
  (h : lx E g ops K r (upd T d (.string ⟨s.toArray⟩)) l m) (hpl : Dl E.ks ⟨some d, .convert src dst x, ty, pos, af, none⟩ := by rfl) : lx E g ops K (⟨some d, .convert src dst x, ty, pos, af, none⟩ :: r) T l m := fun hn own nw hse => by
 have hev : ev E.P (cellA E own nw) (execOp (rd T) ⟨some d, .convert src dst x, ty, pos, af, none⟩) = some (.value (.string ⟨s.toArray⟩)) := by
  refine GE (s := convert src dst (rd T x)) ?_
  rw [hx]; exact aC hs hu he (hr own nw hse)
 exact PC rfl (Jx hpl rfl (by decide)) hd (.string ⟨s.toArray⟩) (by
  show (match ev E.P (cellA E own nw) (execOp (rd T) ⟨some d, .convert src dst x, ty, pos, af, none⟩) with | some (.value v) => some v | _ => none) = some (.string ⟨s.toArray⟩)
  rw [hev]) (h hn own nw hse)
end
theorem aA {P : Program} {c : Addr → Option Value} {s : TypeId} {fs : Array Field} {f : Field} {k k' : Nat} {sv x : Value} {n j : Nat} (hx : x = elA sv k) (hu : P.underlying s = some (.struct fs)) (hf : fs[j]? = some f) {fi : TypeInfo} (hfi : P.info? f.type = some fi) (hf0 : decide (fi.size = 0) = false) (hk : k + f.offset = k') (hs : Shp sv n) (hn : 0 < n) :
  ev P c (Instr.fieldAt s x j) = some (elA sv k') := by
 subst hx; subst hk; exact YQ hu hf hfi hf0 hs hn
theorem Shp.cells {v : Value} {n : Nat} (h : Shp v n) : v.cells = #[v] := by
 rcases h with ⟨rfl, _⟩ | ⟨_, _, rfl, _⟩ <;> rfl
theorem Shp.one {v : Value} {n : Nat} (h : Shp v n) : v.oneCell' = true := by
 rcases h with ⟨rfl, _⟩ | ⟨_, _, rfl, _⟩ <;> rfl
theorem KB {P : Program} {t : Nat → Value} {d : Option Tmp} {e : TypeId} {x : Operand} {ty : TypeId} {pos : String} {af : Array Edge} {g : Option (Nat × Bool)} {v : Value} {n : Nat} (hx : rd t x = v) (h : Shp v n) (hT : decide (e < OBJ) = true := by rfl) : allocOf P t ⟨d, .box e x, ty, pos, af, g⟩ = some (e, #[v]) := by
 show (if decide (e < OBJ) = true then some (e, (rd t x).cells) else none) = _
 rw [if_pos hT, hx, h.cells]
theorem AI {t : Nat → Value} {x : Operand} {v : Value} {n : Nat} (hx : rd t x = v) (h : Shp v n) : (rd t x).cells = #[v] := by rw [hx, h.cells]
theorem Bh : ∀ x ∈ ([] : List Value), x.oneCell' = true := fun _ h => (nomatch h)
theorem Ab {v : Value} {l : List Value} (h : v.oneCell' = true) (hl : ∀ x ∈ l, x.oneCell' = true) : ∀ x ∈ v :: l, x.oneCell' = true := fun x hx => by
 rcases List.mem_cons.1 hx with rfl | hx
 ·exact h
 ·exact hl x hx
theorem StOk.ofS {P : Program} {e : TypeId} {cs : Array Value} {off : Nat} {vs : List Value} {i : TypeInfo} (hi : P.info? e = some i)
  (h : (vs.toArray.size == i.size && decide (off + vs.toArray.size ≤ cs.size)) = true) (h1 : ∀ x ∈ vs, x.oneCell' = true) : StOk P e cs off vs.toArray := by
 simp only [Bool.and_eq_true, beq_iff_eq, decide_eq_true_eq] at h
 exact ⟨⟨i, hi, h.1⟩, h.2, fun x hx => h1 x (by simpa using hx)⟩
def ZH (place : Nat → Option (Nat × Nat)) (cells : Array Value) : List (Nat × Array Value) → Option (Array Value)
 | [] => some cells
 | (i, v) :: rest =>
  match place i with
  | none => none
  | some (off, size) =>
   if v.size ≠ size || off + v.size > cells.size then none
   else ZH place (v.zipIdx.foldl (fun cs (c, j) => cs.setIfInBounds (off + j) c) cells) rest
theorem CN (place : Nat → Option (Nat × Nat)) : ∀ (l : List (Nat × Value)) (pc : List (Nat × Array Value)) (cells : Array Value), l.map (fun x => (x.1, x.2.cells)) = pc → Instr.fill place cells l = ZH place cells pc
 | [], pc, cells, h => by subst h; rfl
 | (i, v) :: rest, pc, cells, h => by
  subst h
  simp only [List.map_cons, Instr.fill, ZH]
  cases place i with
  | none => rfl
  | some p =>
   obtain ⟨off, size⟩ := p
   simp only
   split
   ·rfl
   ·exact CN place rest _ _ rfl
theorem Ei {t : Nat → Value} : (([] : List (Nat × Operand)).map fun x => (x.1, rd t x.2)).map (fun x => (x.1, x.2.cells)) = [] := rfl
theorem Bj {t : Nat → Value} {i : Nat} {x : Operand} {c : Array Value} {l : List (Nat × Operand)} {pc : List (Nat × Array Value)} (h : (rd t x).cells = c) (hl : (l.map fun x => (x.1, rd t x.2)).map (fun x => (x.1, x.2.cells)) = pc) :
  (((i, x) :: l).map fun x => (x.1, rd t x.2)).map (fun x => (x.1, x.2.cells)) = (i, c) :: pc := by
 rw [List.map_cons, List.map_cons, hl, h]
theorem Ol {P : Program} {c : Addr → Option Value} {t : Nat → Value} {d : Option Tmp} {T : TypeId} {l : List (Nat × Operand)} {ty : TypeId} {pos : String} {af : Array Edge} {g : Option (Nat × Bool)} {fs : Array Field} {z : Value} {cs : Array Value} {pc : List (Nat × Array Value)}
  (hu : P.underlying T = some (.struct fs)) (hz : (P.info? T).bind (·.zero) = some z) (hf : fs.toList.all (fun f => (P.info? f.type).isSome) = true)
  (hp : (l.map fun x => (x.1, rd t x.2)).map (fun x => (x.1, x.2.cells)) = pc) (hc : ZH ((fs.toList.map (LZ P))[·]?) z.cells pc = some cs) :
  ev P c (execOp (rd t) ⟨d, .build T l.toArray, ty, pos, af, g⟩) = some (.value (.agg cs)) :=
 An hu hz hf (by rw [CN _ _ pc _ hp]; exact hc)
def byteI (x : Int) : UInt8 := UInt8.ofNat (x % 256).toNat
theorem UJ (x : Int) : IntKind.u8.wrap x = x % 256 := by simp [IntKind.wrap, IntKind.signed, IntKind.bits]
theorem GS (x : Int) : Value.int .u8 (IntKind.u8.wrap x) = .int .u8 (((byteI x).toNat : Nat) : Int) := by
 rw [UJ]; unfold byteI
 rw [UInt8.toNat_ofNat']
 congr 1; omega
theorem Vj (x : UInt8) : BitVec.ofInt 8 ((x.toNat : Nat) : Int) = x.toBitVec := by
 apply BitVec.eq_of_toNat_eq
 rw [BitVec.toNat_ofInt]
 have := x.toNat_lt
 show _ = x.toNat
 simp; omega
theorem ka (b : BitVec 8) (x : UInt8) (h : x.toBitVec = b) : Value.int .u8 (IntKind.u8.wrap (b.toNat : Int)) = .int .u8 ((x.toNat : Nat) : Int) := by
 subst h
 rw [UJ]
 have : x.toBitVec.toNat = x.toNat := rfl
 rw [this]
 have := x.toNat_lt
 congr 1; omega
theorem UI (x y : UInt8) : Value.int .u8 (IntKind.u8.wrap ((BitVec.ofInt 8 ((x.toNat : Nat) : Int) &&& BitVec.ofInt 8 ((y.toNat : Nat) : Int)).toNat : Int)) = .int .u8 (((x &&& y).toNat : Nat) : Int) :=
 ka _ _ (by rw [Vj, Vj]; rfl)
theorem Wd (x y : UInt8) : Value.int .u8 (IntKind.u8.wrap ((BitVec.ofInt 8 ((x.toNat : Nat) : Int) ||| BitVec.ofInt 8 ((y.toNat : Nat) : Int)).toNat : Int)) = .int .u8 (((x ||| y).toNat : Nat) : Int) :=
 ka _ _ (by rw [Vj, Vj]; rfl)
section
variable {P : Program} {c : Addr → Option Value} {ρ : Operand → Value} {d : Option Tmp} {t t' : TypeId} {a b : Operand} {ty : TypeId} {pos : String} {af : Array Edge} {g : Option (Nat × Bool)}
end
def LS (x : BitVec 64) : UInt8 := UInt8.ofNat x.toNat
theorem ku (x : BitVec 64) : Value.int .u8 (IntKind.u8.wrap ((x.toNat : Nat) : Int)) = .int .u8 (((LS x).toNat : Nat) : Int) := by
 rw [UJ]; unfold LS
 rw [UInt8.toNat_ofNat']
 congr 1
theorem Sub.pickE {Ls Ls0 : List (List Bl)} (_ : True = True) (is : List Nat) (hok : Lp is Ls.length = true) (h2 : Ls.flatten = Ls0.flatten := by simp) : Sub (pickL Ls is).flatten Ls0.flatten := h2 ▸ Sub.pick Ls is hok
structure Nl (α : Type) where
 R : (Addr → Option Value) → α → List Value → Prop
 sz : Nat
 pos : 0 < sz
 mono : ∀ {c c' : Addr → Option Value} {x vs}, (∀ a v, c a = some v → c' a = some v) → R c x vs → R c' x vs
def RdN {α : Type} (E : Nl α) (c : Addr → Option Value) (v : Value) (xs : List α) : Prop :=
 (v = .slice none 0 0 ∧ xs = []) ∨ ∃ a cap, v = .slice (some a) xs.length cap ∧ (0 < cap → a.spot = none) ∧ xs.length ≤ cap ∧
  ∀ i x, xs[i]? = some x → ∃ vs, E.R c x vs ∧ ∀ j u, vs[j]? = some u → c ⟨a.block, a.off + (i * E.sz + j), none⟩ = some u
theorem RdN.mono {α : Type} {E : Nl α} {c c' : Addr → Option Value} (hc : ∀ a v, c a = some v → c' a = some v) {v : Value} {xs : List α} (h : RdN E c v xs) : RdN E c' v xs := by
 rcases h with h | ⟨a, cap, h1, h2, h3, h4⟩
 ·exact .inl h
 ·refine .inr ⟨a, cap, h1, h2, h3, fun i x hx => ?_⟩
  obtain ⟨vs, h5, h6⟩ := h4 i x hx
  exact ⟨vs, E.mono hc h5, fun j u hj => hc _ _ (h6 j u hj)⟩
theorem RdN.shp {α : Type} {E : Nl α} {c : Addr → Option Value} {v : Value} {xs : List α} (h : RdN E c v xs) : Shp v xs.length := by
 rcases h with ⟨rfl, rfl⟩ | ⟨a, cap, rfl, h0, h1, _⟩
 ·exact .inl ⟨rfl, rfl⟩
 ·exact .inr ⟨_, cap, rfl, h0, h1⟩
def At (c : Addr → Option Value) (sv : Value) (k : Nat) (vs : List Value) : Prop := ∃ a n cap, sv = .slice (some a) n cap ∧ a.spot = none ∧ ∀ j u, vs[j]? = some u → c ⟨a.block, a.off + (k + j), none⟩ = some u
theorem At.mono {c c' : Addr → Option Value} (hc : ∀ a v, c a = some v → c' a = some v) {sv : Value} {k : Nat} {vs : List Value} (h : At c sv k vs) : At c' sv k vs := by
 obtain ⟨a, n, cap, h1, h2, h3⟩ := h
 exact ⟨a, n, cap, h1, h2, fun j u hj => hc _ _ (h3 j u hj)⟩
theorem RdN.at {α : Type} {E : Nl α} {c : Addr → Option Value} {v : Value} {xs : List α} (h : RdN E c v xs) {i : Nat} {x : α} (hx : xs[i]? = some x) : ∃ vs, E.R c x vs ∧ At c v (i * E.sz) vs := by
 rcases h with ⟨_, rfl⟩ | ⟨a, cap, rfl, h0, h1, h4⟩
 ·simp at hx
 ·obtain ⟨vs, h5, h6⟩ := h4 i x hx
  have hi := (List.getElem?_eq_some_iff.1 hx).1
  exact ⟨vs, h5, a, _, cap, rfl, h0 (by omega), h6⟩
theorem RdN.sub {α : Type} {E : Nl α} {c : Addr → Option Value} {v : Value} {xs : List α} {lo hi : Nat} (h : RdN E c v xs) (h1 : lo ≤ hi) (h2 : hi ≤ xs.length) : RdN E c (Fy v lo hi E.sz) ((xs.take hi).drop lo) := by
 have hl : ((xs.take hi).drop lo).length = hi - lo := by simp; omega
 rcases h with ⟨rfl, rfl⟩ | ⟨a, cap, rfl, h0, hn, h⟩
 ·simp at h2; subst h2
  obtain rfl : lo = 0 := by omega
  exact .inl ⟨rfl, by simp⟩
 ·refine .inr ?_
  unfold Fy
  rw [hl]
  by_cases hc : cap = lo
  ·simp only [if_pos hc]
   have hz : (xs.take hi).drop lo = [] := List.eq_nil_of_length_eq_zero (by omega)
   refine ⟨a, _, rfl, (fun h => h0 (by omega)), by omega, fun i x hx => ?_⟩
   rw [hz] at hx; simp at hx
  ·simp only [if_neg hc]
   have h0 := h0 (by omega)
   refine ⟨a.add (lo * E.sz), _, rfl, (fun _ => by rw [Dw h0]), by omega, fun i x hx => ?_⟩
   rw [List.getElem?_drop] at hx
   obtain ⟨hlt, hx⟩ := List.getElem?_eq_some_iff.1 hx
   rw [List.getElem_take] at hx
   obtain ⟨vs, h5, h6⟩ := h (lo + i) x (List.getElem?_eq_some_iff.2 ⟨_, hx⟩)
   refine ⟨vs, h5, fun j u hj => ?_⟩
   rw [Dw h0]
   have := h6 j u hj
   rw [Nat.add_mul, Nat.add_assoc] at this
   show c ⟨a.block, a.off + lo * E.sz + (i * E.sz + j), none⟩ = some u
   rw [Nat.add_assoc]; exact this
section
variable {E : Env} {g : Bool} {ops : Array Oper} {K : (Nat → Value) → List Bl → Prop} {r : List Oper} {T : Nat → Value} {l : List Bl} {m : Nat} {d : Tmp} {ty : TypeId} {pos : String} {af : Array Edge}
theorem Mv (v : Value) {sv : Value} {vs : List Value} (k o : Nat) {e : TypeId} {p : Operand} (hd : decide (d < E.n) = true) (hp : rd T p = elA sv (k + o)) (hr : ∀ own nw, Sees E l m own nw → At (cellA E own nw) sv k vs)
  (hv : DE E.P e vs.toArray o = some v) (h : lx E g ops K r (upd T d v) l m) (hpl : Dl E.ks ⟨some d, .load e p, ty, pos, af, none⟩ := by rfl) : lx E g ops K (⟨some d, .load e p, ty, pos, af, none⟩ :: r) T l m := fun hn own nw hse => by
 obtain ⟨a, n, cap, rfl, h0, h3⟩ := hr own nw hse
 have hp' : rd T p = .pointer (some ⟨a.block, a.off + k + o, none⟩) := by
  rw [hp]; show Value.pointer (some (a.add (k + o))) = _; rw [Dw h0, Nat.add_assoc]
 have hev : ev E.P (cellA E own nw) (loadVar e ⟨a.block, a.off + k + o, none⟩) = some v := VO (b := a.block) (off := a.off + k) (fun j u hj => by have := h3 j u hj; rw [← Nat.add_assoc] at this; exact this) hv
 exact PC rfl (Jx hpl rfl (by decide)) hd v (by
  show (match ev E.P (cellA E own nw) (execOp (rd T) ⟨some d, .load e p, ty, pos, af, none⟩) with | some (.value v) => some v | _ => none) = some v
  rw [QT hp' hev]) (h hn own nw hse)
end
end Go.Eng
