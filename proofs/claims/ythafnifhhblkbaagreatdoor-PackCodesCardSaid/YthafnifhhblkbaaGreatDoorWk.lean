import Derived.Test.YthafnifhhblkbaaGreatDoorFr
set_option linter.unusedSimpArgs false
set_option linter.unusedVariables false
namespace Go.Eng
open Go
section
variable {E : Env} {g : Bool} {ops : Array Oper} {K : (Nat → Value) → List Bl → Prop} {r : List Oper} {T : Nat → Value} {l : List Bl} {m : Nat} {d : Tmp} {ty : TypeId} {pos : String} {af : Array Edge}
theorem w1 {op : Op} {v : Value} (h0 : (kd op, decide (d < E.n), ev E.P E.ro (execOp (rd T) ⟨some d, op, ty, pos, af, none⟩)) = (.f, true, some (.value v)))
  (h : lx E g ops K r (upd T d v) l m) (hpl : Dl E.ks ⟨some d, op, ty, pos, af, none⟩ := by rfl) : lx E g ops K (⟨some d, op, ty, pos, af, none⟩ :: r) T l m :=
 r_v v (congrArg (fun x => x.1) h0) (congrArg (fun x => x.2.1) h0) rfl (congrArg (fun x => x.2.2) h0) h hpl
theorem wX {z : Int} {o : BinOp} {t1 t2 : TypeId} {x y : Operand} (ck : -9223372036854775808 ≤ z ∧ z ≤ 9223372036854775807) (hz : (kd (.binOp o t1 x y t2), decide (d < E.n), ev E.P E.ro (execOp (rd T) ⟨some d, .binOp o t1 x y t2, ty, pos, af, none⟩)) = (.f, true, some (.value (.int .i64 (IntKind.i64.wrap z)))))
  (h : lx E g ops K r (upd T d (.int .i64 z)) l m) (hpl : Dl E.ks ⟨some d, .binOp o t1 x y t2, ty, pos, af, none⟩ := by rfl) : lx E g ops K (⟨some d, .binOp o t1 x y t2, ty, pos, af, none⟩ :: r) T l m := rX ck hz h hpl
theorem wS {α : Type} {p : Prop} [Decidable p] {m1 m2 s : Option α} {op : Op} (hM : (if p then m1 else m2) = s)
  (h0 : (kd op, decide (d < E.n), ev E.P E.ro (execOp (rd T) ⟨some d, op, ty, pos, af, none⟩)) = (.f, true, some (.value (.bool (decide p)))))
  (h1 : p → m1 = s → lx E g ops K r (upd T d (.bool true)) l m) (h2 : ¬p → m2 = s → lx E g ops K r (upd T d (.bool false)) l m)
  (hpl : Dl E.ks ⟨some d, op, ty, pos, af, none⟩ := by rfl) : lx E g ops K (⟨some d, op, ty, pos, af, none⟩ :: r) T l m := by
 by_cases hp : p
 ·exact w1 (v := .bool true) (by rw [h0, decide_eq_true hp]) (h1 hp (by rw [if_pos hp] at hM; exact hM)) hpl
 ·exact w1 (v := .bool false) (by rw [h0, decide_eq_false hp]) (h2 hp (by rw [if_neg hp] at hM; exact hM)) hpl
theorem wE {α : Type} [Inhabited α] {En : Enc α} {sv v : Value} {xs : List α} {i : Int} {e : TypeId} {p : Operand} {k o : Nat} (hp : rd T p = elA sv k) (hr : ∀ own nw, Sees E l m own nw → Rd En (cellA E own nw) sv xs) (hk : k = i.toNat * En.sz + o) (ck : 0 ≤ i ∧ i < (xs.length : Int))
  (hz : (decide (d < E.n), DE E.P e (En.f xs[i.toNat]!).toArray o) = (true, some v))
  (h : lx E g ops K r (upd T d v) l m) (hpl : Dl E.ks ⟨some d, .load e p, ty, pos, af, none⟩ := by rfl) : lx E g ops K (⟨some d, .load e p, ty, pos, af, none⟩ :: r) T l m :=
 iA v xs[i.toNat]! i.toNat o (congrArg (fun x => x.1) hz) (by rw [hp, hk]) hr (CP ck) (congrArg (fun x => x.2) hz) h hpl
theorem wE0 {α : Type} [Inhabited α] {En : Enc α} {sv v : Value} {xs : List α} {i : Int} {e : TypeId} {p : Operand} {k : Nat} (hp : rd T p = elA sv k) (hr : ∀ own nw, Sees E l m own nw → Rd En (cellA E own nw) sv xs) (hk : k = i.toNat * En.sz) (ck : 0 ≤ i ∧ i < (xs.length : Int))
  (hz : (decide (d < E.n), DE E.P e (En.f xs[i.toNat]!).toArray 0) = (true, some v))
  (h : lx E g ops K r (upd T d v) l m) (hpl : Dl E.ks ⟨some d, .load e p, ty, pos, af, none⟩ := by rfl) : lx E g ops K (⟨some d, .load e p, ty, pos, af, none⟩ :: r) T l m :=
 wE hp hr (o := 0) hk ck hz h hpl
theorem wT {x : Operand} {t1 t2 : TypeId} {ok : Bool} {v : Value} (h0 : (decide (d < E.n), ev E.P E.ro (execOp (rd T) ⟨some d, .typeAssert x t1 t2 ok, ty, pos, af, none⟩)) = (true, some (.value v)))
  (h : lx E g ops K r (upd T d v) l m) (hpl : Dl E.ks ⟨some d, .typeAssert x t1 t2 ok, ty, pos, af, none⟩ := by rfl) : lx E g ops K (⟨some d, .typeAssert x t1 t2 ok, ty, pos, af, none⟩ :: r) T l m :=
 r_v v rfl (congrArg (fun x => x.1) h0) rfl (congrArg (fun x => x.2) h0) h hpl
theorem wC {c : Call} {v0 : Value} {f : FuncId} {args : Array Value}
  (he : ev E.P E.ro (execOp (rd T) ⟨some d, .call c, ty, pos, af, none⟩) = some (.enter f args))
  (hdo : ∀ own nw, Sees E l m own nw → DoesI E.P f args E.inv (cellA E own nw) [] (pV v0))
  (hcon : ∀ args view v L U, E.con ⟨some d, .call c, ty, pos, af, none⟩ args view v L U ↔ pV v0 v L U)
  (h : lx E g ops K r (upd T d v0) l m) (hd : decide (d < E.n) = true := by rfl) (hk : E.ks.find? (fun x => x.1 == some d) = some (some d, false) := by rfl) (hm : decide (m ≤ l.length) = true := by rfl) : lx E g ops K (⟨some d, .call c, ty, pos, af, none⟩ :: r) T l m := rg v0 he hdo hcon h hd hk hm
end
section
variable {E : Env} {g : Bool} {ops : Array Oper} {K : (Nat → Value) → List Bl → Prop} {r : List Oper} {T : Nat → Value} {l : List Bl} {m : Nat} {d : Tmp} {ty : TypeId} {pos : String} {af : Array Edge}
theorem wCS {α : Type} {q : Bool} {m1 m2 s : Option α} {c : Call} {f : FuncId} {args : Array Value} (hM : (if q = true then m1 else m2) = s)
  (he : ev E.P E.ro (execOp (rd T) ⟨some d, .call c, ty, pos, af, none⟩) = some (.enter f args))
  (hdo : ∀ own nw, Sees E l m own nw → DoesI E.P f args E.inv (cellA E own nw) [] (pV (.bool q)))
  (hcon : ∀ args view v L U, E.con ⟨some d, .call c, ty, pos, af, none⟩ args view v L U ↔ pV (.bool q) v L U)
  (h1 : m1 = s → lx E g ops K r (upd T d (.bool true)) l m) (h2 : m2 = s → lx E g ops K r (upd T d (.bool false)) l m) (hd : decide (d < E.n) = true := by rfl) (hk : E.ks.find? (fun x => x.1 == some d) = some (some d, false) := by rfl) (hm : decide (m ≤ l.length) = true := by rfl) : lx E g ops K (⟨some d, .call c, ty, pos, af, none⟩ :: r) T l m := by
 refine wC he hdo hcon ?_ hd hk hm
 cases q
 ·exact h2 (by rw [if_neg (by decide)] at hM; exact hM)
 ·exact h1 (by rw [if_pos rfl] at hM; exact hM)
end
def RR (o : Oper) : Bool := match o.op with
 | .call ⟨.value _, _, _⟩ => true
 | _ => false
def ksC (ops : List Oper) : List (Option Tmp × Bool) := (ops.filter RR).map fun o => (o.dst, false)
def conC : List (Option Tmp) → List Pst → Con
 | d :: ds, p :: ps => fun o a w v L U => if o.dst = d then p v L U else conC ds ps o a w v L U
 | _, _ => fun _ _ _ _ _ _ => False
section
variable {E : Env} {Q : QL} {t : Nat → Value} {l : List Bl} {id : Nat} {r : List Oper} {y : Code}
theorem wR (h0 : r.any RR = false) (h : lx E false r.toArray (fun t l => A E y Q t l) r t l 0) : A E (.seq (.region id r.toArray false) y) Q t l := Ai h
theorem wR' (h0 : r.any RR = false) (h : lx E false r.toArray (Q .normal) r t l 0) : A E (.region id r.toArray false) Q t l := Ar h
theorem wG (ps : List Pst) (ks : List (Option Tmp × Bool)) (h0 : ksC r = ks) (h : lx { E with ks := ks, con := conC (ks.map (·.1)) ps } false r.toArray (fun t l => A E y Q t l) r t l 0) : A E (.seq (.region id r.toArray false) y) Q t l := A_sc _ _ h
theorem wG' (ps : List Pst) (ks : List (Option Tmp × Bool)) (h0 : ksC r = ks) (h : lx { E with ks := ks, con := conC (ks.map (·.1)) ps } false r.toArray (Q .normal) r t l 0) : A E (.region id r.toArray false) Q t l := A_regC _ _ h
theorem wK {K : (Nat → Value) → List Bl → Prop} (hK : ∀ t l, A E y Q t l → K t l) (h : A E y Q t l) : K t l := hK t l h
end
def kZ (o : Oper) : Bool := match o.op with
 | .buildSlice .. => true
 | _ => false
def bsC (ops : List Oper) : List (Option Tmp × Bool) := (ops.filter kZ).map fun o => (o.dst, false)
section
variable {E : Env} {Q : QL} {t : Nat → Value} {l : List Bl} {id : Nat} {r : List Oper} {y : Code}
theorem wB (h0 : (r.any RR, r.any kZ) = (false, true)) (ks : List (Option Tmp × Bool)) (h1 : bsC r = ks) (h : lx { E with ks := ks, con := conG E.P [] } false r.toArray (fun t l => A E y Q t l) r t l 0) : A E (.seq (.region id r.toArray false) y) Q t l := A_sc _ _ h
theorem wB' (h0 : (r.any RR, r.any kZ) = (false, true)) (ks : List (Option Tmp × Bool)) (h1 : bsC r = ks) (h : lx { E with ks := ks, con := conG E.P [] } false r.toArray (Q .normal) r t l 0) : A E (.region id r.toArray false) Q t l := A_regC _ _ h
end
section
variable {E : Env} {g : Bool} {ops : Array Oper} {K : (Nat → Value) → List Bl → Prop} {r : List Oper} {T : Nat → Value} {l : List Bl} {m : Nat} {d : Tmp} {ty : TypeId} {pos : String} {af : Array Edge}
theorem wBs {α : Type} {cs0 : List (Tmp × (List Value → (Addr → Option Value) → Pst))} {t : TypeId} {n : Nat} {parts : List (Nat × Operand)} (e : TypeId) (En : Enc α) (xs : List α) (cells zs : List Value) {ii : TypeInfo} {z : Value} (hd : decide (d < E.n) = true)
  (hk : E.ks.find? (fun x => x.1 == some d) = some (some d, false)) (hm : decide (m ≤ l.length) = true) (hu : E.P.underlying t = some (.slice e)) (hi : E.P.info? e = some ii) (hz : ii.zero = some z) (hn' : decide (n * ii.size ≤ 16777216) = true)
  (hz0 : (Array.range (n * ii.size)).map (z.cells[· % z.cells.size]!) = zs.toArray) (hfill : Instr.fill (fun j => some (j * ii.size, ii.size)) zs.toArray (parts.map fun x => (x.1, rd T x.2)) = some cells.toArray)
  (hxs : cells = En.all xs) (hlen : n = xs.length) (hcon : E.con = conG E.P cs0) (h : ∀ v S, Sl e En v xs S → lx E g ops K r (upd T d v) (l ++ S) m) (hT : decide (e < OBJ) = true := by rfl) :
  lx E g ops K (⟨some d, .buildSlice t n parts.toArray, ty, pos, af, none⟩ :: r) T l m := by
 have h1 : [l].flatten = l := by simp
 rw [← h1]
 refine BF (Ls := [l]) e En xs cells zs hd hk (by rw [h1]; exact hm) hu hi hz hn' hz0 hfill hxs hlen hcon (fun v S hS => ?_) hT
 have h2 : ([l] ++ [S]).flatten = l ++ S := by simp
 rw [h2]
 exact h v S hS
end
theorem UM {α : Type} {e : TypeId} {En : Enc α} {v : Value} {xs : List α} {S l : List Bl} (_ : Sl e En v xs S) : Sub S (l ++ S) := Sub.of (List.sublist_append_right l S)
theorem fgJ {J : (Nat → Value) → List Bl → Prop} {t : Nat → Value} {l l' : List Bl} (hj : J t l') (hs : Sub l' l) : Fg J t l := fg l' hs hj
theorem Gives.inv {P : Program} {f : FuncId} {args : Array Value} {v : Value} (h : Gives P f args v) (inv : World → Prop) (ro : Ro) : DoesI P f args inv ro [] (pV v) := (h.doesV ro).inv inv
def aW (T : Nat → Value) (k : Nat) (v : Value) : Prop := T k = v
theorem lO {T : Nat → Value} {k : Nat} {v : Value} : aW (upd T k v) k v := Cb T k v
theorem lM {T : Nat → Value} {k j : Nat} {v w : Value} (hk : Nat.beq k j = false) (h : aW T k v) : aW (upd T j w) k v := (Bx T w (fun e => by rw [e] at hk; simp at hk)).trans h
theorem lL {T : Nat → Value} {k : Nat} {v : Value} (h : T k = v) : aW T k v := h
theorem Yi {b : Nat} {x : TypeId × Array Value} {l : List Bl} : (((b, x) :: l)[0]? : Option Bl) = some (b, x) := rfl
theorem YZ {i b : Nat} {x : TypeId × Array Value} {y : Bl} {l : List Bl} (h : (l[i]? : Option Bl) = some (b, x)) : ((y :: l)[i + 1]? : Option Bl) = some (b, x) := h
section
variable {E : Env} {g : Bool} {ops : Array Oper} {K : (Nat → Value) → List Bl → Prop} {r : List Oper} {T : Nat → Value} {l : List Bl} {m : Nat} {d : Tmp} {ty : TypeId} {pos : String} {af : Array Edge}
theorem wMv {k : Nat} {v : Value} (h0 : aW T k v) (h : lx E g ops K r (upd T d v) l m) (hd : decide (d < E.n) = true := by rfl) (hpl : Dl E.ks ⟨some d, .move (.tmp k), ty, pos, af, none⟩ := by rfl) : lx E g ops K (⟨some d, .move (.tmp k), ty, pos, af, none⟩ :: r) T l m :=
 r_v v rfl hd rfl (by rw [← h0]; rfl) h hpl
theorem wAs {k : Nat} {v : Value} (h0 : aW T k v) (h : lx E g ops K r (upd T d v) l m) (hd : decide (d < E.n) = true := by rfl) (hpl : Dl E.ks ⟨some d, .assign (.tmp k), ty, pos, af, none⟩ := by rfl) : lx E g ops K (⟨some d, .assign (.tmp k), ty, pos, af, none⟩ :: r) T l m :=
 r_v v rfl hd rfl (by rw [← h0]; rfl) h hpl
theorem wAc {v : Value} (h : lx E g ops K r (upd T d v) l m) (hd : decide (d < E.n) = true := by rfl) (hpl : Dl E.ks ⟨some d, .assign (.const v), ty, pos, af, none⟩ := by rfl) : lx E g ops K (⟨some d, .assign (.const v), ty, pos, af, none⟩ :: r) T l m :=
 r_v v rfl hd rfl rfl h hpl
theorem wLd {v : Value} {i b off : Nat} {e : TypeId} {p : Operand} {x : TypeId × Array Value} (hp : rd T p = .pointer (some ⟨b, off, none⟩)) (hl : (l[i]? : Option Bl) = some (b, x)) (hv : DE E.P e x.2 off = some v) (h : lx E g ops K r (upd T d v) l m)
  (hd : decide (d < E.n) = true := by rfl) (hm : decide (m ≤ i) = true := by rfl) (hpl : Dl E.ks ⟨some d, .load e p, ty, pos, af, none⟩ := by rfl) : lx E g ops K (⟨some d, .load e p, ty, pos, af, none⟩ :: r) T l m := r_l v i b off x.1 x.2 hd hp hl hm hv h hpl
end
theorem qV {G : Prop} (h : G := by first | exact (rfl : _ = (Kd.f, true, some (Next.value (Value.int _ _)))) | exact (rfl : _ = (Kd.f, true, some (Next.value (Value.bool _)))) | exact (rfl : _ = (Kd.f, true, some (Next.value (Value.pointer (some ⟨_, _, none⟩))))) | exact (rfl : _ = (Kd.f, true, some (Next.value (Value.agg #[_])))) | exact (rfl : _ = (Kd.f, true, some (Next.value (Value.agg #[_, _])))) | exact (rfl : _ = (Kd.f, true, some (Next.value (Value.agg #[_, _, _])))) | exact (rfl : _ = (Kd.f, true, some (Next.value (Value.string _)))) | exact (rfl : _ = (Kd.f, true, some (Next.value (Value.agg _)))) | exact (rfl : _ = (Kd.f, true, some (Next.value (Value.tuple _)))) | exact (rfl : _ = (Kd.f, true, some (Next.value (Value.slice _ _ _)))) | exact (rfl : _ = (Kd.f, true, some (Next.value (Value.func _ _ _)))) | exact (rfl : _ = (Kd.f, true, some (Next.value (Value.iface _ _)))) | exact (rfl : _ = (Kd.f, true, some (Next.value (Value.nilIface)))) | exact (rfl : _ = (Kd.f, true, some (Next.value (Value.pointer none)))) | exact (rfl : _ = (Kd.f, true, some (Next.value (_))))) : G := h
theorem qU {G : Prop} (h : G := by first | exact (rfl : _ = some (Value.int _ _)) | exact (rfl : _ = some (Value.bool _)) | exact (rfl : _ = some (Value.pointer (some ⟨_, _, none⟩))) | exact (rfl : _ = some (Value.agg #[_])) | exact (rfl : _ = some (Value.agg #[_, _])) | exact (rfl : _ = some (Value.agg #[_, _, _])) | exact (rfl : _ = some (Value.string _)) | exact (rfl : _ = some (Value.agg _)) | exact (rfl : _ = some (Value.tuple _)) | exact (rfl : _ = some (Value.slice _ _ _)) | exact (rfl : _ = some (Value.func _ _ _)) | exact (rfl : _ = some (Value.iface _ _)) | exact (rfl : _ = some (Value.nilIface)) | exact (rfl : _ = some (Value.pointer none)) | exact (rfl : _ = some (_))) : G := h
theorem qT {G : Prop} (h : G := by first | exact (rfl : _ = (true, some (Next.value (Value.tuple #[Value.agg #[_, _], Value.bool _])))) | exact (rfl : _ = (true, some (Next.value (Value.tuple #[Value.agg #[_, _, _], Value.bool _])))) | exact (rfl : _ = (true, some (Next.value (Value.tuple #[Value.agg #[_], Value.bool _])))) | exact (rfl : _ = (true, some (Next.value (Value.tuple #[_, Value.bool _])))) | exact (rfl : _ = (true, some (Next.value (_))))) : G := h
theorem qL {G : Prop} (h : G := by (repeat first | exact lO | refine lM rfl ?_); first | done | exact lL rfl) : G := h
theorem qP {G : Prop} (h : G := by first | exact Yi | (refine YZ ?_; first | exact Yi | (refine YZ ?_; first | exact Yi | (refine YZ ?_; first | exact Yi | (refine YZ ?_; first | exact Yi | (refine YZ ?_; first | exact Yi | (refine YZ ?_; first | exact Yi | (refine YZ ?_; exact Yi)))))))) : G := h
theorem qS {G : Prop} (h : G := by first | exact Rd.shp (by assumption) | exact RdN.shp (by assumption) | exact Sl.shp (by assumption)) : G := h
theorem qR {G : Prop} (h : G := by first | exact AA (by assumption)) : G := h
theorem qA {G : Prop} (h : G := by first | assumption | exact z.r (by assumption) | exact Rd.mono z.ro_cell (by assumption) | exact RdN.mono z.ro_cell (by assumption)) : G := h
theorem qC {G : Prop} (h : G := by first
 | (apply Gives.inv; first | (apply c1; all_goals exact qA) | (apply c2; all_goals exact qA) | (apply c3; all_goals exact qA) | (apply c4; all_goals exact qA) | (apply c5; all_goals exact qA) | (apply c6; all_goals exact qA) | (apply c7; all_goals exact qA) | (apply c8; all_goals exact qA))
 | (apply Does.inv; first | (apply c1; all_goals exact qA) | (apply c2; all_goals exact qA) | (apply c3; all_goals exact qA) | (apply c4; all_goals exact qA) | (apply c5; all_goals exact qA) | (apply c6; all_goals exact qA) | (apply c7; all_goals exact qA) | (apply c8; all_goals exact qA))
 | first | (apply c1; all_goals exact qA) | (apply c2; all_goals exact qA) | (apply c3; all_goals exact qA) | (apply c4; all_goals exact qA) | (apply c5; all_goals exact qA) | (apply c6; all_goals exact qA) | (apply c7; all_goals exact qA) | (apply c8; all_goals exact qA)) : G := h
theorem qB {G : Prop} (h : G := by (repeat' first | exact suN | apply suK | apply suC); first | done | fail "W") : G := h
theorem W {G : Prop} (h : G := by
 (repeat' first
 | (with_reducible refine kC hM fun ck hM => ?_)
 | (with_reducible refine kB hM fun _ hr hM => ?_)
 | refine As ?_
 | refine wMv (by exact qL) ?_
 | refine wAs (by exact qL) ?_
 | refine wAc ?_
 | refine wT (by exact qT) ?_
 | refine wX (by assumption) rfl ?_
 | refine wS hM rfl (fun hc hM => ?_) (fun hc hM => ?_)
 | refine w1 (by exact qV) ?_
 | refine wLd rfl (by exact qP) (by exact qU) ?_
 | refine rm 1 [0] rfl ?_
 | refine rm 1 [1] rfl ?_
 | refine rm 1 [2] rfl ?_
 | refine rm 1 [3] rfl ?_
 | refine rm 1 [4] rfl ?_
 | refine rn 1 rfl ?_
 | refine r_y rfl ?_
 | refine rA rfl fun _ => ?_
 | refine rL (by exact qS) rfl ?_
 | refine rI (by exact qS) (by assumption) rfl ?_
 | refine rF (by exact qS) (Eh (by assumption)) rfl ?_
 | refine wE0 rfl (by exact qR) (by rfl) (by assumption) (by rfl) ?_
 | refine wE rfl (by exact qR) (by rfl) (by assumption) (by rfl) ?_
 | refine wCS hM (cF rfl) (fun _ _ z => by exact qC) (fun _ _ _ _ _ => Iff.rfl) (fun hM => ?_) (fun hM => ?_)
 | refine wC (cF rfl) (fun _ _ z => by exact qC) (fun _ _ _ _ _ => Iff.rfl) ?_
 | refine wBs _ Bf [_] [_] [vI 0] rfl rfl rfl rfl rfl rfl rfl rfl rfl rfl rfl rfl (fun _ _ hS => ?_)
 | refine wBs _ Bf [_, _] [_, _] [vI 0, vI 0] rfl rfl rfl rfl rfl rfl rfl rfl rfl rfl rfl rfl (fun _ _ hS => ?_)
 | refine wBs _ Bf [_, _, _] [_, _, _] [vI 0, vI 0, vI 0] rfl rfl rfl rfl rfl rfl rfl rfl rfl rfl rfl rfl (fun _ _ hS => ?_)
 | refine wR rfl ?_
 | refine wR' rfl ?_
 | refine Aa fun _ hK => ?_
 | refine Aj ?_
 | refine Af ?_
 | refine AS ?_
 | refine jK ?_
 | refine AB true rfl (fun _ => ?_) (fun h_ => nomatch h_)
 | refine AB false rfl (fun h_ => nomatch h_) (fun _ => ?_)
 | refine aD hM rfl (fun hc hM => ?_) (fun hc hM => ?_)
 | refine aB hM rfl (fun hc hM => ?_) (fun hc hM => ?_)
 | refine aN hM rfl (fun hc hM => ?_) (fun hc hM => ?_)
 | refine wK (by assumption) ?_
 | (obtain rfl := Option.some.inj hM; first | exact aR eV1 | exact aR eE1 | exact aR eV2 | exact aR eE2 | exact Au (fun _ => AG hS (UM hS) rfl (AV rfl)) | exact Au (fun _ => AG Sl.nil (Sub.nil _) rfl (AV rfl)) | exact aR eV3 | exact aR eE3)
 | exact ⟨_, hM, Ak rfl rfl⟩
 | exact fgJ ⟨_, Nat.lt_succ_self _, _, _, hM, Ak rfl rfl, rfl⟩ (Sub.of qB)
 | exact fgJ ⟨_, Nat.lt_succ_self _, _, _, _, hM, Ak rfl rfl, rfl⟩ (Sub.of qB)
 | refine wB rfl _ rfl ?_
 | refine wB' rfl _ rfl ?_
 | (apply wG [_] _ rfl)
 | (apply wG' [_] _ rfl)); first | done | fail "W") : G := h
end Go.Eng
