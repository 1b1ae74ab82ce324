/- A text put behind a row of bytes. Conditions: none. -/
import Derived.Test.YtnpbpllibmcokaaNo
import Derived.Lib.AppendStr
namespace Go.Eng
open Go Go.RowKit
theorem strC_len (s : ByteArray) : (strC s).length = s.size := by rw [strC, List.length_map, Array.length_toList]; rfl
theorem strC_eq (s : ByteArray) : strC s = Go.Lib.strCells s := rfl
/-- rows of bytes, strict or not -/
def encYl (L : Prop) : Enc UInt8 := { encY with loose := L }
abbrev encYs : Enc UInt8 := encYl False
theorem strC_all {L : Prop} (l : List UInt8) : strC ⟨l.toArray⟩ = (encYl L).all l := by
  unfold strC Enc.all encYl encY
  induction l with
  | nil => rfl
  | cons x l ih => simpa using ih
theorem append_noneS {P : Program} {w : World} {t u ty e : TypeId} {i : TypeInfo} (ht : P.underlying t = some (.slice e)) (hu : P.underlying u = some .string) (hi : P.info? e = some i) {s : Value} {st : ByteArray} (hst : st.size = 0) {n : Nat}
    (hs : (∃ a : Option Addr, s = .slice a 0 0 ∧ n = 0) ∨ ∃ b cap cs, s = .slice (some ⟨b, 0, none⟩) n cap ∧ n ≤ cap ∧ Holds w b e cs) :
    (Builtin.append_ #[t, u] ty #[s, .string st]).run P w = .ok s w := by
  have hf : (Builtin.firstCells i.size 0 (.string st)).run P w = .ok #[] w := by
    have h := Go.Lib.run_firstCells_string (P := P) w i.size st
    rw [hst] at h
    have h2 : (Go.Lib.strCells st) = [] := List.eq_nil_of_length_eq_zero (by rw [Go.Lib.strCells_length, hst])
    rw [h2] at h; exact h
  rcases hs with ⟨a, rfl, rfl⟩ | ⟨b, cap, cs, rfl, hn, hb⟩
  · rcases a with _ | a
    · simp [Builtin.append_, run_underlying ht, run_underlying hu, sizeOf, typeInfo, hi, Builtin.lenOf, hst, hf]
    · simp [Builtin.append_, run_underlying ht, run_underlying hu, sizeOf, typeInfo, hi, Builtin.lenOf, hst, hf, storeCells]
  · simp [Builtin.append_, run_underlying ht, run_underlying hu, sizeOf, typeInfo, hi, Builtin.lenOf, hst, hf, hn, storeCells]
section
variable {E : Env} {g : Bool} {ops : Array Oper} {K : (Nat → Value) → List Bl → Prop} {r : List Oper} {T : Nat → Value} {m : Nat} {d : Tmp} {ty : TypeId} {pos : String} {af : Array Edge}
/-- A text's bytes are put behind an own slice. -/
theorem r_apsL {Lo : Prop} {Ls : List (List Bl)} {cs0 : List (Tmp × (List Value → (Addr → Option Value) → Pst))} (k : Nat) {S : List Bl} {e : TypeId} {s x : Operand} {sv : Value} {xs : List UInt8} (ys : List UInt8) {t u : TypeId} {ii : TypeInfo} {z : Value}
    (hd : decide (d < E.n) = true) (hk : E.ks.find? (fun x => x.1 == some d) = some (some d, true)) (hs : rd T s = sv) (hx : rd T x = .string ⟨ys.toArray⟩) (hS : Ls[k]? = some S) (hSl : Sl e (encYl Lo) sv xs S)
    (hm : decide (m ≤ (Ls.take k).flatten.length) = true)
    (hu : E.P.underlying t = some (.slice e)) (hun : E.P.underlying u = some .string) (hi : E.P.info? e = some ii) (hz : ii.zero = some z) (hsz : ii.size = 1) (hby : ii.bytes = 1) (hzs : z.cells.size = 1)
    (hb : xs.length + ys.length ≤ 140737488355328) (hcon : E.con = conG E.P cs0)
    (h : ∀ v S', Sl e (encYl Lo) v (xs ++ ys) S' → lx E g ops K r (upd T d v) (Ls.set k S').flatten m) (hT : decide (e < OBJ) = true := by rfl) :
    lx E g ops K (⟨some d, .call ⟨.builtin .append, #[s, x], #[t, u]⟩, ty, pos, af, none⟩ :: r) T Ls.flatten m := by
  have hys : (⟨ys.toArray⟩ : ByteArray).size = ys.length := by show ys.toArray.size = _; simp
  have hall := strC_all (L := Lo) ys
  have h63 : xs.length + ys.length ≤ maxLen := by simp only [maxLen]; omega
  refine r_appG (ys := ys) k hd hk rfl hS hSl hm (fun own nw hse hrs => ?_) (fun own nw w hse hrs hcell hown => ?_) h
  · funext v L U
    have := propext (conG_aps (cs := cs0) (d := some d) (ty := ty) (pos := pos) (af := af) (g := none) (ρ := rd T) (s := s) (x := x) (u := u) hu hi (by rw [hs, hsz]; exact hrs.v) hx v L U)
    rw [hs, hx, hsz, hall, hys] at this
    unfold conOf
    rw [hcon, show (encYl Lo).sz = 1 from rfl, ← this, ← hs, ← hx]
    rfl
  · have hex : ∀ v w', (Builtin.append_ #[t, u] ty #[sv, .string ⟨ys.toArray⟩]).run E.P w = .ok v w' → (execOp (rd T) ⟨some d, .call ⟨.builtin .append, #[s, x], #[t, u]⟩, ty, pos, af, none⟩).run E.P w = .ok (.value v) w' := fun v w' hv => by
      unfold execOp
      simp only [resolve, invoke, builtin, Sem.run_bind, Sem.run_pure, Result.andThen_ok, List.map_toArray, List.map_cons, List.map_nil, hs, hx, hv]
    have hsz1 : (encYl Lo).sz = 1 := rfl
    by_cases hn : ys.length = 0
    · have : ys = [] := List.eq_nil_of_length_eq_zero hn
      subst this
      refine ⟨sv, w, [], [], ?_, ⟨rfl, rfl, rfl, Nat.le_refl _, fun _ _ _ => rfl, fun _ h => (nomatch h), fun _ h => (nomatch h), Nat.le_refl _⟩, .inl ⟨rfl, rfl, rfl, rfl⟩⟩
      exact hex _ _ (append_noneS hu hun hi (n := xs.length) rfl (by
        rcases hown with h | ⟨b, cap, cs, h1, h2, _, _, h3⟩
        · exact .inl h
        · exact .inr ⟨b, cap, cs, h1, h2, h3⟩))
    · have hn0 : 0 < ys.length := by omega
      have ext : ∀ (cur : Array Value), ExtW w (w.drew.alloc (.cells cur e)) [(w.heap.size, e, cur)] [] := fun cur =>
        ⟨rfl, rfl, rfl, by simp, fun k hk _ => heap_alloc_old w.drew _ k hk, fun _ h => (nomatch h), fun y hy => by
          simp only [List.mem_singleton] at hy; subst hy
          exact ⟨Nat.le_refl _, .of hT (heap_alloc_new w.drew _)⟩, Nat.le_succ _⟩
      have hone : ∀ u ∈ strC ⟨ys.toArray⟩, u.oneCell' = true := by rw [hall]; exact (encYl Lo).all_one _
      have hl : (strC ⟨ys.toArray⟩).length = ys.length := by rw [strC_len, hys]
      rcases hown with ⟨a0, h1, h2⟩ | ⟨b, cap, cs, h1, hncap, hsz', hvb, hb'⟩
      · have hx0 : xs = [] := List.eq_nil_of_length_eq_zero h2
        subst hx0
        rcases a0 with _ | a0
        · have hr := run_append_nil_string (P := E.P) w t u ty e ii z hu hun hi hz ⟨ys.toArray⟩ (by rw [hys]; exact hn0) (by rw [hys]; simp only [maxLen] at h63; omega) (by rw [hys, hby]; omega)
          have hge := grownCap_ge w ys.length 0 e
          rw [hys, ← h1] at hr
          refine ⟨_, _, _, _, hex _ _ hr, ext _, .inr (.inr ⟨hn0, fun a' cap' h => ?_, w.heap.size, grownCap w ys.length 0 e, _, ?_, ?_, ?_, ?_, rfl, rfl⟩)⟩
          · rw [h1] at h; cases h
          · rw [List.length_nil, Nat.zero_add]
          · rw [List.length_nil, Nat.zero_add]; exact hge
          · simp only [Array.size_append, Array.size_map, size_zeroCells, hzs, hsz1, Nat.mul_one]
            show ys.toArray.size + _ = _
            simp; omega
          · rw [List.length_nil, Nat.zero_add, hsz1, Nat.mul_one, Array.toList_append, Array.toList_map]
            show List.take ys.length (strC ⟨ys.toArray⟩ ++ _) = _
            rw [← hl, List.take_left, hall]; rfl
        · have hr := Go.Lib.run_append_grow_string (P := E.P) w t u ty e ii z hu hun hi hz a0 0 0 [] (by simp) (fun j u hj => by simp at hj) ⟨ys.toArray⟩ (by rw [hys]; omega) (by rw [hys]; simp only [maxLen] at h63; omega) (by
            rw [hys]; exact growslice_fits (by omega) (by rw [hby]; omega))
          have hge := grownCap_ge w (0 + ys.length) 0 e
          rw [hys, ← h1] at hr
          refine ⟨_, _, _, _, hex _ _ hr, ext _, .inr (.inr ⟨hn0, fun a' cap' h => ?_, w.heap.size, grownCap w (0 + ys.length) 0 e, _, ?_, ?_, ?_, ?_, rfl, rfl⟩)⟩
          · rw [h1] at h
            simp only [Value.slice.injEq] at h
            obtain ⟨_, _, rfl⟩ := h
            simpa using hn0
          · rw [List.length_nil]
          · rw [List.length_nil]; exact hge
          · simp only [Array.size_append, List.size_toArray, List.length_nil, size_zeroCells, hzs, hsz1, Nat.mul_one, ← strC_eq, hl]
            omega
          · rw [List.length_nil, hsz1, Nat.mul_one, Array.toList_append, Array.toList_append]
            show List.take (0 + ys.length) (([] ++ strC ⟨ys.toArray⟩) ++ _) = _
            rw [List.nil_append, Nat.zero_add, ← hl, List.take_left, hall]; rfl
      · by_cases hroom : xs.length + ys.length ≤ cap
        · have hfit : xs.length + ys.length ≤ cs.size := by rw [hsz', hsz1]; omega
          obtain ⟨fr, hcell', hfr⟩ : True ∧ True ∧ True := ⟨trivial, trivial, trivial⟩
          have hst := hb'.store (fun h9 => by rw [h9] at hT; exact absurd hT (by decide)) E.P xs.length (strC ⟨ys.toArray⟩) (by rw [hl]; exact hfit) hone
          have hf := Go.Lib.run_firstCells_string (P := E.P) w 1 ⟨ys.toArray⟩
          rw [hys] at hf
          have hr : (Builtin.append_ #[t, u] ty #[sv, .string ⟨ys.toArray⟩]).run E.P w = .ok (.slice (some ⟨b, 0, none⟩) (xs.length + ys.length) cap) (w.setRow b (cs.toList.take xs.length ++ strC ⟨ys.toArray⟩ ++ cs.toList.drop (xs.length + ys.length)).toArray) := by
            rw [hl] at hst
            rw [← strC_eq] at hf
            rw [h1]
            simp [Builtin.append_, run_underlying hu, run_underlying hun, sizeOf, typeInfo, hi, hsz, Builtin.lenOf, hys, hroom, hf, Addr.add_lit, hst]
          refine ⟨_, _, [], [(b, e, (cs.toList.take (xs.length * (encYl Lo).sz) ++ (encYl Lo).all ys ++ cs.toList.drop ((xs.length + ys.length) * (encYl Lo).sz)).toArray)], hex _ _ hr, ⟨rfl, rfl, rfl, by simp, fun k _ hk => setRow_other w b k _ (fun e => hk _ (List.mem_singleton.2 rfl) e.symm), fun y hy => ?_, fun _ h => (nomatch h), Nat.le_refl _⟩, .inr (.inl ⟨hn0, b, cap, cs, h1, hroom, hvb, rfl, rfl, rfl⟩)⟩
          simp only [List.mem_singleton] at hy; subst hy
          rw [hsz1, Nat.mul_one, Nat.mul_one, ← hall]
          exact hb'.setRow _ (by simp only [List.size_toArray, List.length_append, List.length_take, List.length_drop, Array.length_toList, hl]; omega)
        · have hol : ((encYl Lo).all xs).length = xs.length * ii.size := by rw [(encYl Lo).all_len, hsz1, hsz]
          have holds : ∀ j u, ((encYl Lo).all xs)[j]? = some u → w.cell? ((⟨b, 0, none⟩ : Addr).add j) = some u := fun j u hj => by
            rcases hrs with ⟨h, _⟩ | ⟨a', cap', h, hsp', _, hc⟩
            · rw [h1] at h; cases h
            · rw [h1] at h
              simp only [Value.slice.injEq, Option.some.injEq] at h
              obtain ⟨rfl, _, rfl⟩ := h
              rw [add_none rfl]; exact hcell _ _ (hc j u hj)
          have hr := Go.Lib.run_append_grow_string (P := E.P) w t u ty e ii z hu hun hi hz ⟨b, 0, none⟩ xs.length cap ((encYl Lo).all xs) hol holds ⟨ys.toArray⟩ (by rw [hys]; omega) (by rw [hys]; simp only [maxLen] at h63; omega) (by
            rw [hys]; exact growslice_fits (by omega) (by rw [hby]; omega))
          have hge := grownCap_ge w (xs.length + ys.length) cap e
          rw [hys, ← h1] at hr
          refine ⟨_, _, _, _, hex _ _ hr, ext _, .inr (.inr ⟨hn0, fun a' cap' h => ?_, w.heap.size, grownCap w (xs.length + ys.length) cap e, _, rfl, hge, ?_, ?_, rfl, rfl⟩)⟩
          · rw [h1] at h
            simp only [Value.slice.injEq] at h
            obtain ⟨_, _, rfl⟩ := h; omega
          · simp only [Array.size_append, List.size_toArray, size_zeroCells, hzs, hsz1, Nat.mul_one, ← strC_eq, hl, (encYl Lo).all_len]
            omega
          · rw [hsz1, Nat.mul_one, Array.toList_append, Array.toList_append]
            show List.take (xs.length + ys.length) (((encYl Lo).all xs ++ strC ⟨ys.toArray⟩) ++ _) = _
            rw [hall, show xs.length + ys.length = ((encYl Lo).all xs ++ (encYl Lo).all ys).length from by rw [List.length_append, (encYl Lo).all_len, (encYl Lo).all_len, hsz1]; omega]
            exact List.take_left
theorem r_aps {Ls : List (List Bl)} {cs0 : List (Tmp × (List Value → (Addr → Option Value) → Pst))} (k : Nat) {S : List Bl} {e : TypeId} {s x : Operand} {sv : Value} {xs : List UInt8} (ys : List UInt8) {t u : TypeId} {ii : TypeInfo} {z : Value}
    (hd : decide (d < E.n) = true) (hk : E.ks.find? (fun x => x.1 == some d) = some (some d, true)) (hs : rd T s = sv) (hx : rd T x = .string ⟨ys.toArray⟩) (hS : Ls[k]? = some S) (hSl : Sl e encY sv xs S)
    (hm : decide (m ≤ (Ls.take k).flatten.length) = true)
    (hu : E.P.underlying t = some (.slice e)) (hun : E.P.underlying u = some .string) (hi : E.P.info? e = some ii) (hz : ii.zero = some z) (hsz : ii.size = 1) (hby : ii.bytes = 1) (hzs : z.cells.size = 1)
    (hb : xs.length + ys.length ≤ 140737488355328) (hcon : E.con = conG E.P cs0)
    (h : ∀ v S', Sl e encY v (xs ++ ys) S' → lx E g ops K r (upd T d v) (Ls.set k S').flatten m) (hT : decide (e < OBJ) = true := by rfl) :
    lx E g ops K (⟨some d, .call ⟨.builtin .append, #[s, x], #[t, u]⟩, ty, pos, af, none⟩ :: r) T Ls.flatten m :=
  r_apsL (Lo := True) k ys hd hk hs hx hS hSl hm hu hun hi hz hsz hby hzs hb hcon h hT
theorem r_apsS {Ls : List (List Bl)} {cs0 : List (Tmp × (List Value → (Addr → Option Value) → Pst))} (k : Nat) {S : List Bl} {e : TypeId} {s x : Operand} {sv : Value} {xs : List UInt8} (ys : List UInt8) {t u : TypeId} {ii : TypeInfo} {z : Value}
    (hd : decide (d < E.n) = true) (hk : E.ks.find? (fun x => x.1 == some d) = some (some d, true)) (hs : rd T s = sv) (hx : rd T x = .string ⟨ys.toArray⟩) (hS : Ls[k]? = some S) (hSl : Sl e encYs sv xs S)
    (hm : decide (m ≤ (Ls.take k).flatten.length) = true)
    (hu : E.P.underlying t = some (.slice e)) (hun : E.P.underlying u = some .string) (hi : E.P.info? e = some ii) (hz : ii.zero = some z) (hsz : ii.size = 1) (hby : ii.bytes = 1) (hzs : z.cells.size = 1)
    (hb : xs.length + ys.length ≤ 140737488355328) (hcon : E.con = conG E.P cs0)
    (h : ∀ v S', Sl e encYs v (xs ++ ys) S' → lx E g ops K r (upd T d v) (Ls.set k S').flatten m) (hT : decide (e < OBJ) = true := by rfl) :
    lx E g ops K (⟨some d, .call ⟨.builtin .append, #[s, x], #[t, u]⟩, ty, pos, af, none⟩ :: r) T Ls.flatten m :=
  r_apsL (Lo := False) k ys hd hk hs hx hS hSl hm hu hun hi hz hsz hby hzs hb hcon h hT
end
end Go.Eng
