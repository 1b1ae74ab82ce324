/- Bytes of a string, and a string of bytes. Conditions: none. -/
import Derived.Test.YtnpbpllibmcokaaSr
import Derived.Laws.IdiomStrings
namespace Go.Eng
open Go Go.RowKit
section
variable {E : Env} {g : Bool} {ops : Array Oper} {K : (Nat → Value) → List Bl → Prop} {r : List Oper} {T : Nat → Value} {m : Nat} {d : Tmp} {ty : TypeId} {pos : String} {af : Array Edge}
/-- An operation that reads memory and makes some. -/
theorem r_go {l : List Bl} {op : Op} (p : Pst) (hd : decide (d < E.n) = true) (hk : E.ks.find? (fun x => x.1 == some d) = some (some d, false)) (hsel : isSel op = false) (hm : decide (m ≤ l.length) = true)
    (hrun : ∀ own nw w, Sees E l m own nw → (∀ a v, cellA E own nw a = some v → w.cell? a = some v) → GenRun E.P (rd T) ⟨some d, op, ty, pos, af, none⟩ w p)
    (hcon : ∀ args view v L U, E.con ⟨some d, op, ty, pos, af, none⟩ args view v L U ↔ p v L U) (hn : Nice p)
    (h : ∀ v L, p v L [] → lx E g ops K r (upd T d v) (l ++ L) m) : lx E g ops K (⟨some d, op, ty, pos, af, none⟩ :: r) T l m := by
  refine r_g false p hd hk hsel hm (fun hnd own nw hse => ?_) (fun v L U hp => ?_)
  · have hco : conOf E ⟨T, own, nw⟩ ⟨some d, op, ty, pos, af, none⟩ = p := by
      funext v L U; exact propext (hcon _ _ v L U)
    refine ⟨⟨?_, ?_, ?_, ?_, ?_⟩, ?_⟩
    · rw [hco]; exact fun _ => hn.wit
    · rw [hco]; exact fun v L U hp => ⟨(hn.nod v L U hp).1, by rw [(hn.nod v L U hp).2]; exact List.nodup_nil⟩
    · rw [hco]; intro v L U hp x hx; rw [(hn.nod v L U hp).2] at hx; cases hx
    · rw [hco]; exact fun _ v L U hp => (hn.nod v L U hp).2
    · rw [hco]
      intro w _ hcell _
      exact hrun own nw w hse hcell
    · rw [hco]; exact fun v L U hp => hp
  · obtain ⟨_, rfl⟩ := hn.nod v L U hp
    exact ⟨l, fun _ => PutU.nil _, h v L hp⟩
theorem encY_all (s : List UInt8) : encY.all s = s.map fun b => Value.int .u8 ((b.toNat : Nat) : Int) := by
  induction s with
  | nil => rfl
  | cons b s ih => rw [Enc.all_cons, ih]; rfl
/-- []byte(s). -/
theorem r_sb {Ls : List (List Bl)} {src dst : TypeId} {x : Operand} (e : TypeId) (s : List UInt8) (hd : decide (d < E.n) = true) (hk : E.ks.find? (fun x => x.1 == some d) = some (some d, false)) (hm : decide (m ≤ Ls.flatten.length) = true)
    (hs : E.P.underlying src = some .string) (hu : E.P.underlying dst = some (.slice e)) (he : E.P.underlying e = some (.int .u8)) (hx : rd T x = .string ⟨s.toArray⟩)
    (hcon : ∀ args view v L U, E.con ⟨some d, .convert src dst x, ty, pos, af, none⟩ args view v L U ↔ p1 (fun v => v) e encY s v L U)
    (h : ∀ sv S, Sl e encY sv s S → lx E g ops K r (upd T d sv) (Ls ++ [S]).flatten m) (hT : decide (e < OBJ) = true := by rfl) : lx E g ops K (⟨some d, .convert src dst x, ty, pos, af, none⟩ :: r) T Ls.flatten m := by
  refine r_go (p1 (fun v => v) e encY s) hd hk rfl hm (fun own nw w _ _ => ?_) hcon (nice_1 _ _ _ _) (fun v L hp => ?_)
  · have hr := run_bytes_of_string (P := E.P) w src dst e ⟨s.toArray⟩ hs hu he
    have hsz : (⟨s.toArray⟩ : ByteArray).size = s.length := rfl
    rw [hsz] at hr
    have hge := grownCap_ge w s.length 0 e
    have hbs : (bytesRow ⟨s.toArray⟩ (grownCap w s.length 0 e)).size = grownCap w s.length 0 e := by
      simp only [bytesRow, Array.size_append, Array.size_map, List.size_toArray, Array.size_replicate, hsz]; omega
    refine .inl ⟨_, w.drew.alloc (.cells (bytesRow ⟨s.toArray⟩ (grownCap w s.length 0 e)) e ((bytesRow ⟨s.toArray⟩ (grownCap w s.length 0 e)).size, (bytesRow ⟨s.toArray⟩ (grownCap w s.length 0 e)).size + 1)), [(w.heap.size, e, bytesRow ⟨s.toArray⟩ (grownCap w s.length 0 e))], [], ?_, ⟨rfl, rfl, rfl, by simp, fun k hk _ => heap_alloc_old w.drew _ k hk, fun _ h => (nomatch h), fun y hy => ?_, Nat.le_succ _⟩, _, .inr ⟨w.heap.size, grownCap w s.length 0 e, _, rfl, hge, ?_, ?_, rfl⟩, rfl, rfl⟩
    · show (do pure (Next.value (← convert src dst (rd T x))) : Sem Next).run E.P w = _
      rw [hx]
      simp only [Sem.run_bind, hr, Result.andThen_ok]
      rfl
    · simp only [List.mem_singleton] at hy; subst hy
      exact ⟨Nat.le_refl _, .inl ⟨of_decide_eq_true hT, _, heap_alloc_new w.drew _, .inr (Nat.le_refl _)⟩⟩
    · rw [hbs]; exact (Nat.mul_one _).symm
    · rw [encY_all]
      show (bytesRow ⟨s.toArray⟩ (grownCap w s.length 0 e)).toList.take (s.length * 1) = _
      simp [bytesRow]
  · obtain ⟨sv, hS, rfl, _⟩ := hp
    have := h v L hS
    rw [List.flatten_append] at this
    simpa using this
/-- string(b). -/
theorem r_str {l : List Bl} {src dst e : TypeId} {x : Operand} (s : List UInt8) (hd : decide (d < E.n) = true) (hk : E.ks.find? (fun x => x.1 == some d) = some (some d, false)) (hm : decide (m ≤ l.length) = true)
    (hs : E.P.underlying src = some (.slice e)) (hu : E.P.underlying dst = some .string) (he : E.P.underlying e = some (.int .u8))
    (hr : ∀ own nw, Sees E l m own nw → Rd encY (cellA E own nw) (rd T x) s)
    (hcon : ∀ args view v L U, E.con ⟨some d, .convert src dst x, ty, pos, af, none⟩ args view v L U ↔ pV (.string ⟨s.toArray⟩) v L U)
    (h : lx E g ops K r (upd T d (.string ⟨s.toArray⟩)) l m) : lx E g ops K (⟨some d, .convert src dst x, ty, pos, af, none⟩ :: r) T l m := by
  refine r_go (pV (.string ⟨s.toArray⟩)) hd hk rfl hm (fun own nw w hse hcell => ?_) hcon (nice_v _) (fun v L hp => by obtain ⟨rfl, rfl, _⟩ := hp; rw [List.append_nil]; exact h)
  have key : (convert src dst (rd T x)).run E.P w = .ok (.string ⟨s.toArray⟩) w := by
    rcases hr own nw hse with ⟨h1, rfl⟩ | ⟨a, cap, h1, h2, h3, h4⟩
    · rw [h1, run_convert_bytes_string (P := E.P) w src dst e none 0 0 hs he hu]
      rfl
    · rw [h1]
      refine run_convert_bytes_back (P := E.P) w src dst e a cap s hs he hu (fun j hj => ?_)
      rw [add_none (h2 (by omega))]
      refine hcell _ _ (h4 j _ ?_)
      rw [encY_all, List.getElem?_map, List.getElem?_eq_getElem hj]; rfl
  refine .inl ⟨_, w, [], [], ?_, ⟨rfl, rfl, rfl, Nat.le_refl _, fun _ _ _ => rfl, fun _ h => (nomatch h), fun _ h => (nomatch h), Nat.le_refl _⟩, rfl, rfl, rfl⟩
  show (do pure (Next.value (← convert src dst (rd T x))) : Sem Next).run E.P w = _
  simp only [Sem.run_bind, key, Result.andThen_ok]
  rfl
end
theorem u8_sub (x y : UInt8) : Value.int .u8 (IntKind.u8.wrap (((x.toNat : Nat) : Int) - ((y.toNat : Nat) : Int))) = .int .u8 (((x - y).toNat : Nat) : Int) := by
  congr 1
  rw [UInt8.toNat_sub]
  have h1 := x.toNat_lt
  have h2 := y.toNat_lt
  simp only [IntKind.wrap, IntKind.signed, IntKind.bits]
  simp
  omega
end Go.Eng
