import Derived.Test.YthafnifhhblkbaaGreatDoorBc
namespace Go.Proofs.YthafnifhhblkbaaGreatDoor
open Go Go.RowKit Go.Eng _root_.Go.Proofs.Tryz
set_option maxRecDepth 100000
set_option maxHeartbeats 8000000
abbrev HK (b : Nat) (x0 : Int) (x1 : Int) (x2 : Int) (x3 : Int) (x4 : BitVec 64) (x5 : BitVec 64) : List Bl := [(b, 56, #[vI x0, vI x1, vI x2, vI x3, U x4, U x5])]
abbrev Zy (b : Nat) (x0 : Value) : List Bl := [(b, 49, #[x0])]
abbrev Zz (b : Nat) (x0 : Value) : List Bl := [(b, 29, #[x0])]
abbrev OQ (b : Nat) (x0 : List UInt8) (x1 : Value) (x2 : Value) : List Bl := [(b, 87, #[vS x0, x1, x2])]
abbrev RO (b : Nat) (x0 : Value) : List Bl := [(b, 332, #[x0])]
abbrev Zx (b : Nat) (x0 : Value) : List Bl := [(b, 62, #[x0])]
def Ni (_ : Nat) (o : Int) : Option Bool := if o ≥ 0 then some (decide (o < 35)) else some false
theorem cE (N o r) (hM : Ni N o = some r) : Gives prog 275 #[vI o] (vB r) := by
 unfold Ni at hM
 refine Aq follows func275 rfl 9 rfl _ fz1 (fun base0_ => ?_)
 refine AZ rfl <| Aa fun K2 hK2 => Ar <| rn 3 rfl ?_
 rcases hg3 : (decide (o ≥ 0)) with _ | _
 ·replace hM := iF hg3 hM
  refine rz rfl <| hK2 _ _ ?_
  cases hM
  exact aR eE1
 replace hM := iD hg3 hM
 refine rz rfl <| hK2 _ _ ?_
 cases hM
 exact aR eE1
def EV (_ : Nat) (s_0 : Int) (s_1 : Int) (n : Int) : Option Bool := if n ≥ s_0 then some (decide (n ≤ s_1)) else some false
theorem Pc (N s_0 s_1 n r) (hM : EV N s_0 s_1 n = some r) : Gives prog 276 #[vA #[vI s_0, vI s_1], vI n] (vB r) := by
 unfold EV at hM
 refine Aq follows func276 rfl 15 rfl _ fz2 (fun base0_ => ?_)
 refine Ai <| rA rfl fun b2 => rz rfl <| Aa fun K3 hK3 => Ar <| rm 5 [0] rfl ?_
 rcases hg4 : (decide (n ≥ s_0)) with _ | _
 ·replace hM := iF hg4 hM
  refine rz rfl <| hK3 _ _ ?_
  cases hM
  exact aR eE1
 replace hM := iD hg4 hM
 refine rn 2 rfl <| r_y rfl <| ry [0] rfl <| hK3 _ _ ?_
 cases hM
 exact aR eE1
theorem jY  : prog.eqGuardType prog.depth 54 = false := by kernel_rfl
theorem lu  : prog.stoodInHeld 54 = false := by kernel_rfl
set_option maxRecDepth 100000 in
theorem ZL  {c : Addr → Option Value} (x0 y0 : Int) (x1 y1 : BitVec 128) : ev prog c (Op.equal 54 (.agg #[vI x0, U (hi x1), U (lo x1)]) (.agg #[vI y0, U (hi y1), U (lo y1)])) = some ((x0 == y0) && (x1 == y1)) := by
 have h := Qn (P := prog) (c := c) 9999 (t := 54) #[vI x0, U (hi x1), U (lo x1)] #[vI y0, U (hi y1), U (lo y1)] rfl lu (fun f => if f.offset = 0 then (x0 == y0) else if f.offset = 1 then (((hi x1).toNat : Int) == ((hi y1).toNat : Int)) else (((lo x1).toNat : Int) == ((lo y1).toNat : Int)))
   (fun f hf => by
     simp only [List.mem_cons, List.not_mem_nil, or_false] at hf
     rcases hf with rfl | rfl | rfl
     · exact ⟨by decide, _, _, GN (P := prog) (t := 3) rfl (by intro fs h; cases h) (by intro n e h; cases h) _ _ rfl, GN (P := prog) (t := 3) rfl (by intro fs h; cases h) (by intro n e h; cases h) _ _ rfl, Nc _ _ _ rfl⟩
     · exact ⟨by decide, _, _, GN (P := prog) (t := 52) rfl (by intro fs h; cases h) (by intro n e h; cases h) _ _ rfl, GN (P := prog) (t := 52) rfl (by intro fs h; cases h) (by intro n e h; cases h) _ _ rfl, Nc _ _ _ rfl⟩
     · exact ⟨by decide, _, _, GN (P := prog) (t := 52) rfl (by intro fs h; cases h) (by intro n e h; cases h) _ _ rfl, GN (P := prog) (t := 52) rfl (by intro fs h; cases h) (by intro n e h; cases h) _ _ rfl, Nc _ _ _ rfl⟩)
 rw [← Wg x1 y1]; rw [show Op.equal 54 (.agg #[vI x0, U (hi x1), U (lo x1)]) (.agg #[vI y0, U (hi y1), U (lo y1)]) = Op.equalIn (9999 + 1) 54 (.agg #[vI x0, U (hi x1), U (lo x1)]) (.agg #[vI y0, U (hi y1), U (lo y1)]) from rfl, h]
 first | (simp; done) | simp [Bool.and_assoc]
def GO (N : Nat) (x_0 : Int) (_ : Int) (_ : Int) (x_3 : Int) (x_4 : BitVec 128) : Option Bool := if x_0 = 0 then (It N x_3 x_4).bind fun r7 => some r7 else some ((x_3 == 0) && (x_4 == ((0#64) ++ (0#64))))
theorem Ug (N x_0 x_1 x_2 x_3 x_4 r) (hM : GO N x_0 x_1 x_2 x_3 x_4 = some r) : Gives prog 277 #[vA #[vI x_0, vI x_1, vI x_2, vI x_3, U (hi x_4), U (lo x_4)]] (vB r) := by
 unfold GO at hM
 refine Aq follows func277 rfl 13 rfl _ fz1 (fun base0_ => ?_)
 refine Ai <| rA rfl fun b2 => rz rfl <| Aa fun K3 hK3 => AY [0] rfl <| aE hM rfl (fun hc5 hM => ?_) (fun hc5 hM => ?_)
 ·refine Ai <| rm 2 [0] rfl <| kB hM fun r7 hr8 hM => rc _ (cF SL) (Pq N x_3 x_4 _ hr8) <| rz rfl ?_
  cases hM
  exact aR eE1
 refine Af <| hK3 _ _ ?_
 refine Ai <| r_V (vP b2 3) rfl <| rl (vA #[vI x_3, U (hi x_4), U (lo x_4)]) 0 <| r_W (vA #[vI 0, U (0#64), U (0#64)]) rfl (An rfl rfl rfl rfl) <| r_W (vB ((x_3 == 0) && (x_4 == ((0#64) ++ (0#64))))) rfl (Sy rfl rfl jY (by have h_ := fun c => ZL (c := c) x_3 0 x_4 ((0#64) ++ (0#64)); simp only [CZ] at h_; exact h_ _)) ?_
 refine rz rfl ?_
 cases hM
 exact aR eE1
def Jr (N : Nat) (x_0 : Int) (x_1 : Int) (x_2 : Int) (x_3 : Int) (x_4 : BitVec 128) (x1_ : Bool) : Option Int := if x1_ = true then some 7 else (GO N x_0 x_1 x_2 x_3 x_4).bind fun r17 => if r17 = true then some 0 else some 1
def Pe (N : Nat) (x_0 : Int) (x_1 : Int) (x_2 : Int) (x_3 : Int) (x_4 : BitVec 128) : Option Int := (Kv N x_0 x_1 x_2 x_3 x_4).bind fun r4 => (Ni N x_0).bind fun r10 => if r10 = true then (EV N r4.1 r4.2.1 x_1).bind fun r22 => if r22 = true then (EV N r4.2.2.1 r4.2.2.2 x_2).bind fun r25 => Jr N x_0 x_1 x_2 x_3 x_4 (!(r25)) else Jr N x_0 x_1 x_2 x_3 x_4 true else some 10
theorem jk (N x_0 x_1 x_2 x_3 x_4 r) (hM : Pe N x_0 x_1 x_2 x_3 x_4 = some r) : Gives prog 222 #[vA #[vI x_0, vI x_1, vI x_2, vI x_3, U (hi x_4), U (lo x_4)]] (vI r) := by
 unfold Pe at hM
 refine Aq follows func222 rfl 32 rfl _ fz1 (fun base0_ => ?_)
 refine Ai <| rA rfl fun b2 => rz rfl <| Ai <| rm 1 [0] rfl <| kB hM fun r4 hr5 hM => rc _ (cF eW) (cG N x_0 x_1 x_2 x_3 x_4 _ hr5) <| rn 3 rfl <| rA rfl fun b6 => rA rfl fun b7 => ry [1, 0] rfl <| Aa fun K8 hK8 => Aj <| Ai <| rm 2 [2] rfl <| kB hM fun r10 hr11 hM => rc _ (cF eV) (cE N x_0 _ hr11) <| rz rfl <| AB _ rfl (fun hc12 => ?_) (fun hc12 => ?_)
 ·replace hM := ifn (Bool.eq_false_iff.1 (EF hc12)) hM
  refine AZ rfl ?_
  cases hM
  exact aR eE1
 replace hM := ifp (EG hc12) hM
 refine Cr (fun tt ll => ∃ (x1_ : Bool), (Jr N x_0 x_1 x_2 x_3 x_4 x1_ = some r) ∧ Is [(1, vP b2 0), (15, vB x1_)] (HK b2 x_0 x_1 x_2 x_3 (hi x_4) (lo x_4)) tt ll) ?_ ?_
 ·refine Ar <| rm 3 [1, 2] rfl <| kB hM fun r22 hr23 hM => rc _ (cF XV) (Pc N r4.1 r4.2.1 x_1 _ hr23) <| rn 2 rfl ?_
  rcases hg24 : (!(r22)) with _ | _
  ·replace hM := ifp (EG hg24) hM
   refine r_y rfl <| rm 2 [0] rfl <| r_y rfl <| rm 1 [2] rfl <| r_y rfl <| kB hM fun r25 hr26 hM => rc _ (cF XV) (Pc N r4.2.2.1 r4.2.2.2 x_2 _ hr26) <| rz rfl <| fg _ (Sub.of (suC _ (suC _ (suK _ suN)))) ?_
   exact ⟨!(r25), hM, Ak (by first | rfl | (simp only [hg24]; done) | (simp only [hg24]; rfl) | (simp only [CZ]; rfl)) rfl⟩
  replace hM := ifn (Bool.eq_false_iff.1 (EF hg24)) hM
  refine rz rfl <| fg _ (Sub.of (suC _ (suC _ (suK _ suN)))) ?_
  exact ⟨true, hM, Ak (by first | rfl | (simp only [hg24]; done) | (simp only [hg24]; rfl) | (simp only [CZ]; rfl)) rfl⟩
 clear hM; rintro t l ⟨x1_, hM, ⟨T, rfl⟩, rfl⟩
 unfold Jr at hM
 refine aB hM rfl (fun hc14 hM => ?_) (fun hc14 hM => ?_)
 ·refine AZ rfl ?_
  cases hM
  exact aR eE1
 refine Ai <| rm 1 [0] rfl <| kB hM fun r17 hr18 hM => rc _ (cF eU) (Ug N x_0 x_1 x_2 x_3 x_4 _ hr18) <| rz rfl <| AB _ rfl (fun hc19 => ?_) (fun hc19 => ?_)
 ·replace hM := ifn (Bool.eq_false_iff.1 (EF hc19)) hM
  refine AZ rfl ?_
  cases hM
  exact aR eE1
 replace hM := ifp (EG hc19) hM
 refine Af <| hK8 _ _ ?_
 refine AZ rfl ?_
 cases hM
 exact aR eE1
inductive Sum214 where
  | nil
  | t272 (x0 : Int) (x1 : BitVec 128)
  | t294 (x0 : Int) (x1 : Int) (x2 : Int)
  | t297 (x0 : Int) (x1 : Int)
  | t299 (x0 : Int) (x1 : Int)
  | t301 (x0 : Int) (x1 : Int)
  | t304 (x0 : Int) (x1 : Int)
  | t307 (x0 : Int) (x1 : Int) (x2 : Int)
  | t310 (x0 : Int) (x1 : Int)
  | t313 (x0 : Int) (x1 : Int)
  | t366 
  | t368 (x0 : Int)
  deriving Inhabited
def Sum214.on {β : Type} (x : Sum214) (a : β) (f272 : Int → (BitVec 128) → β) (f294 : Int → Int → Int → β) (f297 : Int → Int → β) (f299 : Int → Int → β) (f301 : Int → Int → β) (f304 : Int → Int → β) (f307 : Int → Int → Int → β) (f310 : Int → Int → β) (f313 : Int → Int → β) (f366 : β) (f368 : Int → β) : β := match x with | .nil => a | .t272 x0 x1 => f272 x0 x1 | .t294 x0 x1 x2 => f294 x0 x1 x2 | .t297 x0 x1 => f297 x0 x1 | .t299 x0 x1 => f299 x0 x1 | .t301 x0 x1 => f301 x0 x1 | .t304 x0 x1 => f304 x0 x1 | .t307 x0 x1 x2 => f307 x0 x1 x2 | .t310 x0 x1 => f310 x0 x1 | .t313 x0 x1 => f313 x0 x1 | .t366  => f366  | .t368 x0 => f368 x0
theorem Sum214.on_nil  {β : Type} {x : Sum214} {a r : β} {f272 : Int → (BitVec 128) → β} {f294 : Int → Int → Int → β} {f297 : Int → Int → β} {f299 : Int → Int → β} {f301 : Int → Int → β} {f304 : Int → Int → β} {f307 : Int → Int → Int → β} {f310 : Int → Int → β} {f313 : Int → Int → β} {f366 : β} {f368 : Int → β} (h : x = .nil) (e : Sum214.on x a f272 f294 f297 f299 f301 f304 f307 f310 f313 f366 f368 = r) : a = r := by subst h; exact e
theorem Sum214.on_t272  {β : Type} {x : Sum214} {a r : β} {f272 : Int → (BitVec 128) → β} {f294 : Int → Int → Int → β} {f297 : Int → Int → β} {f299 : Int → Int → β} {f301 : Int → Int → β} {f304 : Int → Int → β} {f307 : Int → Int → Int → β} {f310 : Int → Int → β} {f313 : Int → Int → β} {f366 : β} {f368 : Int → β} {x0 : Int} {x1 : BitVec 128} (h : x = .t272 x0 x1) (e : Sum214.on x a f272 f294 f297 f299 f301 f304 f307 f310 f313 f366 f368 = r) : f272 x0 x1 = r := by subst h; exact e
theorem Sum214.on_t294  {β : Type} {x : Sum214} {a r : β} {f272 : Int → (BitVec 128) → β} {f294 : Int → Int → Int → β} {f297 : Int → Int → β} {f299 : Int → Int → β} {f301 : Int → Int → β} {f304 : Int → Int → β} {f307 : Int → Int → Int → β} {f310 : Int → Int → β} {f313 : Int → Int → β} {f366 : β} {f368 : Int → β} {x0 : Int} {x1 : Int} {x2 : Int} (h : x = .t294 x0 x1 x2) (e : Sum214.on x a f272 f294 f297 f299 f301 f304 f307 f310 f313 f366 f368 = r) : f294 x0 x1 x2 = r := by subst h; exact e
theorem Sum214.on_t297  {β : Type} {x : Sum214} {a r : β} {f272 : Int → (BitVec 128) → β} {f294 : Int → Int → Int → β} {f297 : Int → Int → β} {f299 : Int → Int → β} {f301 : Int → Int → β} {f304 : Int → Int → β} {f307 : Int → Int → Int → β} {f310 : Int → Int → β} {f313 : Int → Int → β} {f366 : β} {f368 : Int → β} {x0 : Int} {x1 : Int} (h : x = .t297 x0 x1) (e : Sum214.on x a f272 f294 f297 f299 f301 f304 f307 f310 f313 f366 f368 = r) : f297 x0 x1 = r := by subst h; exact e
theorem Sum214.on_t299  {β : Type} {x : Sum214} {a r : β} {f272 : Int → (BitVec 128) → β} {f294 : Int → Int → Int → β} {f297 : Int → Int → β} {f299 : Int → Int → β} {f301 : Int → Int → β} {f304 : Int → Int → β} {f307 : Int → Int → Int → β} {f310 : Int → Int → β} {f313 : Int → Int → β} {f366 : β} {f368 : Int → β} {x0 : Int} {x1 : Int} (h : x = .t299 x0 x1) (e : Sum214.on x a f272 f294 f297 f299 f301 f304 f307 f310 f313 f366 f368 = r) : f299 x0 x1 = r := by subst h; exact e
theorem Sum214.on_t301  {β : Type} {x : Sum214} {a r : β} {f272 : Int → (BitVec 128) → β} {f294 : Int → Int → Int → β} {f297 : Int → Int → β} {f299 : Int → Int → β} {f301 : Int → Int → β} {f304 : Int → Int → β} {f307 : Int → Int → Int → β} {f310 : Int → Int → β} {f313 : Int → Int → β} {f366 : β} {f368 : Int → β} {x0 : Int} {x1 : Int} (h : x = .t301 x0 x1) (e : Sum214.on x a f272 f294 f297 f299 f301 f304 f307 f310 f313 f366 f368 = r) : f301 x0 x1 = r := by subst h; exact e
theorem Sum214.on_t304  {β : Type} {x : Sum214} {a r : β} {f272 : Int → (BitVec 128) → β} {f294 : Int → Int → Int → β} {f297 : Int → Int → β} {f299 : Int → Int → β} {f301 : Int → Int → β} {f304 : Int → Int → β} {f307 : Int → Int → Int → β} {f310 : Int → Int → β} {f313 : Int → Int → β} {f366 : β} {f368 : Int → β} {x0 : Int} {x1 : Int} (h : x = .t304 x0 x1) (e : Sum214.on x a f272 f294 f297 f299 f301 f304 f307 f310 f313 f366 f368 = r) : f304 x0 x1 = r := by subst h; exact e
theorem Sum214.on_t307  {β : Type} {x : Sum214} {a r : β} {f272 : Int → (BitVec 128) → β} {f294 : Int → Int → Int → β} {f297 : Int → Int → β} {f299 : Int → Int → β} {f301 : Int → Int → β} {f304 : Int → Int → β} {f307 : Int → Int → Int → β} {f310 : Int → Int → β} {f313 : Int → Int → β} {f366 : β} {f368 : Int → β} {x0 : Int} {x1 : Int} {x2 : Int} (h : x = .t307 x0 x1 x2) (e : Sum214.on x a f272 f294 f297 f299 f301 f304 f307 f310 f313 f366 f368 = r) : f307 x0 x1 x2 = r := by subst h; exact e
theorem Sum214.on_t310  {β : Type} {x : Sum214} {a r : β} {f272 : Int → (BitVec 128) → β} {f294 : Int → Int → Int → β} {f297 : Int → Int → β} {f299 : Int → Int → β} {f301 : Int → Int → β} {f304 : Int → Int → β} {f307 : Int → Int → Int → β} {f310 : Int → Int → β} {f313 : Int → Int → β} {f366 : β} {f368 : Int → β} {x0 : Int} {x1 : Int} (h : x = .t310 x0 x1) (e : Sum214.on x a f272 f294 f297 f299 f301 f304 f307 f310 f313 f366 f368 = r) : f310 x0 x1 = r := by subst h; exact e
theorem Sum214.on_t313  {β : Type} {x : Sum214} {a r : β} {f272 : Int → (BitVec 128) → β} {f294 : Int → Int → Int → β} {f297 : Int → Int → β} {f299 : Int → Int → β} {f301 : Int → Int → β} {f304 : Int → Int → β} {f307 : Int → Int → Int → β} {f310 : Int → Int → β} {f313 : Int → Int → β} {f366 : β} {f368 : Int → β} {x0 : Int} {x1 : Int} (h : x = .t313 x0 x1) (e : Sum214.on x a f272 f294 f297 f299 f301 f304 f307 f310 f313 f366 f368 = r) : f313 x0 x1 = r := by subst h; exact e
theorem Sum214.on_t366  {β : Type} {x : Sum214} {a r : β} {f272 : Int → (BitVec 128) → β} {f294 : Int → Int → Int → β} {f297 : Int → Int → β} {f299 : Int → Int → β} {f301 : Int → Int → β} {f304 : Int → Int → β} {f307 : Int → Int → Int → β} {f310 : Int → Int → β} {f313 : Int → Int → β} {f366 : β} {f368 : Int → β} (h : x = .t366 ) (e : Sum214.on x a f272 f294 f297 f299 f301 f304 f307 f310 f313 f366 f368 = r) : f366  = r := by subst h; exact e
theorem Sum214.on_t368  {β : Type} {x : Sum214} {a r : β} {f272 : Int → (BitVec 128) → β} {f294 : Int → Int → Int → β} {f297 : Int → Int → β} {f299 : Int → Int → β} {f301 : Int → Int → β} {f304 : Int → Int → β} {f307 : Int → Int → Int → β} {f310 : Int → Int → β} {f313 : Int → Int → β} {f366 : β} {f368 : Int → β} {x0 : Int} (h : x = .t368 x0) (e : Sum214.on x a f272 f294 f297 f299 f301 f304 f307 f310 f313 f366 f368 = r) : f368 x0 = r := by subst h; exact e
def Sum214.onP (x : Sum214) (a : PO) (f272 : Int → (BitVec 128) → PO) (f294 : Int → Int → Int → PO) (f297 : Int → Int → PO) (f299 : Int → Int → PO) (f301 : Int → Int → PO) (f304 : Int → Int → PO) (f307 : Int → Int → Int → PO) (f310 : Int → Int → PO) (f313 : Int → Int → PO) (f366 : PO) (f368 : Int → PO) : PO := match x with | .nil => a | .t272 x0 x1 => f272 x0 x1 | .t294 x0 x1 x2 => f294 x0 x1 x2 | .t297 x0 x1 => f297 x0 x1 | .t299 x0 x1 => f299 x0 x1 | .t301 x0 x1 => f301 x0 x1 | .t304 x0 x1 => f304 x0 x1 | .t307 x0 x1 x2 => f307 x0 x1 x2 | .t310 x0 x1 => f310 x0 x1 | .t313 x0 x1 => f313 x0 x1 | .t366  => f366  | .t368 x0 => f368 x0
theorem Sum214.onP_nil  {x : Sum214} {a : PO} {f272 : Int → (BitVec 128) → PO} {f294 : Int → Int → Int → PO} {f297 : Int → Int → PO} {f299 : Int → Int → PO} {f301 : Int → Int → PO} {f304 : Int → Int → PO} {f307 : Int → Int → Int → PO} {f310 : Int → Int → PO} {f313 : Int → Int → PO} {f366 : PO} {f368 : Int → PO} {v : Value} {O : List (List Bl)} (h : x = .nil) (e : Sum214.onP x a f272 f294 f297 f299 f301 f304 f307 f310 f313 f366 f368 v O) : a v O := by subst h; exact e
theorem Sum214.cases (x : Sum214) : x = .nil ∨ (∃ x0 x1, x = .t272 x0 x1) ∨ (∃ x0 x1 x2, x = .t294 x0 x1 x2) ∨ (∃ x0 x1, x = .t297 x0 x1) ∨ (∃ x0 x1, x = .t299 x0 x1) ∨ (∃ x0 x1, x = .t301 x0 x1) ∨ (∃ x0 x1, x = .t304 x0 x1) ∨ (∃ x0 x1 x2, x = .t307 x0 x1 x2) ∨ (∃ x0 x1, x = .t310 x0 x1) ∨ (∃ x0 x1, x = .t313 x0 x1) ∨ (x = .t366 ) ∨ (∃ x0, x = .t368 x0) := by cases x <;> simp
def Sum214.v : Sum214 → Value
  | .nil => Value.nilIface
  | .t272 x0 x1 => Value.iface 272 (vA #[vI x0, U (hi x1), U (lo x1)])
  | .t294 x0 x1 x2 => Value.iface 294 (vA #[vI x0, vI x1, vI x2])
  | .t297 x0 x1 => Value.iface 297 (vA #[vI x0, vI x1])
  | .t299 x0 x1 => Value.iface 299 (vA #[vI x0, vI x1])
  | .t301 x0 x1 => Value.iface 301 (vA #[vI x0, vI x1])
  | .t304 x0 x1 => Value.iface 304 (vA #[vI x0, vI x1])
  | .t307 x0 x1 x2 => Value.iface 307 (vA #[vI x0, vI x1, vI x2])
  | .t310 x0 x1 => Value.iface 310 (vA #[vI x0, vI x1])
  | .t313 x0 x1 => Value.iface 313 (vA #[vI x0, vI x1])
  | .t366  => Value.iface 366 (vA #[])
  | .t368 x0 => Value.iface 368 (vA #[vI x0])
theorem Sum214.cells (x : Sum214) : (Sum214.v x).cells = #[Sum214.v x] := by cases x <;> rfl
theorem Sum214.one (x : Sum214) : (Sum214.v x).oneCell' = true := by cases x <;> rfl
def Fh : Enc Sum214 := ⟨fun x => [Sum214.v x], 1, Nat.one_pos, fun _ => rfl, fun x v h => by rw [List.mem_singleton] at h; rw [h]; exact Sum214.one x, True⟩
def Mn (x_0 : Int) (x_1 : Int) (x_2 : Int) (x11_ : Bool) : Option Sum214 := if x11_ = true then some (Sum214.t310 x_0 x_1) else if x_0 = 33 then some (Sum214.t313 x_1 x_2) else if x_0 = 34 then some Sum214.t366 else some (Sum214.t368 x_0)
def Mo (x_0 : Int) (x_1 : Int) (x_2 : Int) (x9_ : Bool) : Option Sum214 := if x9_ = true then some (Sum214.t307 x_0 x_1 x_2) else if x_0 = 31 then Mn x_0 x_1 x_2 (x_0 == 31) else Mn x_0 x_1 x_2 (x_0 == 32)
def IC (x_0 : Int) (x_1 : Int) (x_2 : Int) (x7_ : Bool) : Option Sum214 := if x7_ = true then some (Sum214.t301 x_0 x_1) else if x_0 = 10 then some (Sum214.t304 x_1 x_2) else if x_0 = 27 then Mo x_0 x_1 x_2 (x_0 == 27) else Mo x_0 x_1 x_2 (x_0 == 28)
def LO (x_0 : Int) (x_1 : Int) (x_2 : Int) (x5_ : Bool) : Option Sum214 := if x5_ = true then some (Sum214.t299 x_0 x_1) else if x_0 = 6 then IC x_0 x_1 x_2 (x_0 == 6) else if x_0 = 7 then IC x_0 x_1 x_2 (x_0 == 7) else if x_0 = 8 then IC x_0 x_1 x_2 (x_0 == 8) else if x_0 = 9 then IC x_0 x_1 x_2 (x_0 == 9) else IC x_0 x_1 x_2 (x_0 == 11)
def Gz (x_0 : Int) (x_1 : Int) (x_2 : Int) (x3_ : Bool) : Option Sum214 := if x3_ = true then some (Sum214.t297 x_0 x_1) else if x_0 = 4 then LO x_0 x_1 x_2 (x_0 == 4) else if x_0 = 25 then LO x_0 x_1 x_2 (x_0 == 25) else LO x_0 x_1 x_2 (x_0 == 26)
def ND (x_0 : Int) (x_1 : Int) (x_2 : Int) (x1_ : Bool) : Option Sum214 := if x1_ = true then some (Sum214.t294 x_0 x_1 x_2) else if x_0 = 2 then Gz x_0 x_1 x_2 (x_0 == 2) else if x_0 = 23 then Gz x_0 x_1 x_2 (x_0 == 23) else if x_0 = 3 then Gz x_0 x_1 x_2 (x_0 == 3) else if x_0 = 5 then Gz x_0 x_1 x_2 (x_0 == 5) else if x_0 = 24 then Gz x_0 x_1 x_2 (x_0 == 24) else if x_0 = 29 then Gz x_0 x_1 x_2 (x_0 == 29) else Gz x_0 x_1 x_2 (x_0 == 30)
def Nh (_ : Nat) (x_0 : Int) (x_1 : Int) (x_2 : Int) (x_3 : Int) (x_4 : BitVec 128) : Option Sum214 := if x_0 = 0 then some (Sum214.t272 x_3 x_4) else if x_0 = 1 then ND x_0 x_1 x_2 (x_0 == 1) else ND x_0 x_1 x_2 (x_0 == 22)
theorem cz (N x_0 x_1 x_2 x_3 x_4 r) (hM : Nh N x_0 x_1 x_2 x_3 x_4 = some r) : Gives prog 223 #[vA #[vI x_0, vI x_1, vI x_2, vI x_3, U (hi x_4), U (lo x_4)]] (Sum214.v r) := by
 unfold Nh at hM
 refine Aq follows func223 rfl 102 rfl _ fz1 (fun base0_ => ?_)
 refine Ai <| rA rfl fun b2 => rz rfl <| Aa fun K3 hK3 => AY [0] rfl <| Aj <| AZ rfl <| aE hM rfl (fun hc6 hM => ?_) (fun hc6 hM => ?_)
 ·refine Ai <| r_V (vP b2 3) rfl <| rl (vA #[vI x_3, U (hi x_4), U (lo x_4)]) 0 <| r_W (vA #[vI x_3, U (hi x_4), U (lo x_4)]) rfl (An rfl rfl rfl rfl) <| rz rfl ?_
  cases hM
  exact aR eE1
 refine Cr (fun tt ll => ∃ (x1_ : Bool), (ND x_0 x_1 x_2 x1_ = some r) ∧ Is [(1, vP b2 0), (4, vI x_0), (11, vB x1_)] (HK b2 x_0 x_1 x_2 x_3 (hi x_4) (lo x_4)) tt ll) ?_ ?_
 ·refine AZ rfl <| aE hM rfl (fun hc59 hM => ?_) (fun hc59 hM => ?_)
  ·refine Af <| fg _ (Sub.of (suK _ suN)) ?_
   exact ⟨(x_0 == 1), hM, Ak rfl rfl⟩
  refine Ar <| rz rfl <| fg _ (Sub.of (suK _ suN)) ?_
  exact ⟨(x_0 == 22), hM, Ak rfl rfl⟩
 clear hM; rintro t l ⟨x1_, hM, ⟨T, rfl⟩, rfl⟩
 unfold ND at hM
 refine aB hM rfl (fun hc8 hM => ?_) (fun hc8 hM => ?_)
 ·refine Ai <| r_V (vP b2 0) rfl <| rl (vI x_0) 0 <| r_V (vP b2 1) rfl <| rl (vI x_1) 0 <| r_V (vP b2 2) rfl <| rl (vI x_2) 0 <| r_W (vA #[vI x_0, vI x_1, vI x_2]) rfl (An rfl rfl rfl rfl) <| rz rfl ?_
  cases hM
  exact aR eE1
 refine Cr (fun tt ll => ∃ (x3_ : Bool), (Gz x_0 x_1 x_2 x3_ = some r) ∧ Is [(1, vP b2 0), (4, vI x_0), (22, vB x3_)] (HK b2 x_0 x_1 x_2 x_3 (hi x_4) (lo x_4)) tt ll) ?_ ?_
 ·refine AZ rfl <| aE hM rfl (fun hc47 hM => ?_) (fun hc47 hM => ?_)
  ·refine Af <| fg _ (Sub.of (suK _ suN)) ?_
   exact ⟨(x_0 == 2), hM, Ak rfl rfl⟩
  refine AZ rfl <| aE hM rfl (fun hc49 hM => ?_) (fun hc49 hM => ?_)
  ·refine Af <| fg _ (Sub.of (suK _ suN)) ?_
   exact ⟨(x_0 == 23), hM, Ak rfl rfl⟩
  refine AZ rfl <| aE hM rfl (fun hc51 hM => ?_) (fun hc51 hM => ?_)
  ·refine Af <| fg _ (Sub.of (suK _ suN)) ?_
   exact ⟨(x_0 == 3), hM, Ak rfl rfl⟩
  refine AZ rfl <| aE hM rfl (fun hc53 hM => ?_) (fun hc53 hM => ?_)
  ·refine Af <| fg _ (Sub.of (suK _ suN)) ?_
   exact ⟨(x_0 == 5), hM, Ak rfl rfl⟩
  refine AZ rfl <| aE hM rfl (fun hc55 hM => ?_) (fun hc55 hM => ?_)
  ·refine Af <| fg _ (Sub.of (suK _ suN)) ?_
   exact ⟨(x_0 == 24), hM, Ak rfl rfl⟩
  refine AZ rfl <| aE hM rfl (fun hc57 hM => ?_) (fun hc57 hM => ?_)
  ·refine Af <| fg _ (Sub.of (suK _ suN)) ?_
   exact ⟨(x_0 == 29), hM, Ak rfl rfl⟩
  refine Ar <| rz rfl <| fg _ (Sub.of (suK _ suN)) ?_
  exact ⟨(x_0 == 30), hM, Ak rfl rfl⟩
 clear hM; rintro t l ⟨x3_, hM, ⟨T, rfl⟩, rfl⟩
 unfold Gz at hM
 refine aB hM rfl (fun hc10 hM => ?_) (fun hc10 hM => ?_)
 ·refine Ai <| r_V (vP b2 0) rfl <| rl (vI x_0) 0 <| r_V (vP b2 1) rfl <| rl (vI x_1) 0 <| r_W (vA #[vI x_0, vI x_1]) rfl (An rfl rfl rfl rfl) <| rz rfl ?_
  cases hM
  exact aR eE1
 refine Cr (fun tt ll => ∃ (x5_ : Bool), (LO x_0 x_1 x_2 x5_ = some r) ∧ Is [(1, vP b2 0), (4, vI x_0), (36, vB x5_)] (HK b2 x_0 x_1 x_2 x_3 (hi x_4) (lo x_4)) tt ll) ?_ ?_
 ·refine AZ rfl <| aE hM rfl (fun hc43 hM => ?_) (fun hc43 hM => ?_)
  ·refine Af <| fg _ (Sub.of (suK _ suN)) ?_
   exact ⟨(x_0 == 4), hM, Ak rfl rfl⟩
  refine AZ rfl <| aE hM rfl (fun hc45 hM => ?_) (fun hc45 hM => ?_)
  ·refine Af <| fg _ (Sub.of (suK _ suN)) ?_
   exact ⟨(x_0 == 25), hM, Ak rfl rfl⟩
  refine Ar <| rz rfl <| fg _ (Sub.of (suK _ suN)) ?_
  exact ⟨(x_0 == 26), hM, Ak rfl rfl⟩
 clear hM; rintro t l ⟨x5_, hM, ⟨T, rfl⟩, rfl⟩
 unfold LO at hM
 refine aB hM rfl (fun hc12 hM => ?_) (fun hc12 hM => ?_)
 ·refine Ai <| r_V (vP b2 0) rfl <| rl (vI x_0) 0 <| r_V (vP b2 1) rfl <| rl (vI x_1) 0 <| r_W (vA #[vI x_0, vI x_1]) rfl (An rfl rfl rfl rfl) <| rz rfl ?_
  cases hM
  exact aR eE1
 refine Cr (fun tt ll => ∃ (x7_ : Bool), (IC x_0 x_1 x_2 x7_ = some r) ∧ Is [(1, vP b2 0), (4, vI x_0), (46, vB x7_)] (HK b2 x_0 x_1 x_2 x_3 (hi x_4) (lo x_4)) tt ll) ?_ ?_
 ·refine AZ rfl <| aE hM rfl (fun hc35 hM => ?_) (fun hc35 hM => ?_)
  ·refine Af <| fg _ (Sub.of (suK _ suN)) ?_
   exact ⟨(x_0 == 6), hM, Ak rfl rfl⟩
  refine AZ rfl <| aE hM rfl (fun hc37 hM => ?_) (fun hc37 hM => ?_)
  ·refine Af <| fg _ (Sub.of (suK _ suN)) ?_
   exact ⟨(x_0 == 7), hM, Ak rfl rfl⟩
  refine AZ rfl <| aE hM rfl (fun hc39 hM => ?_) (fun hc39 hM => ?_)
  ·refine Af <| fg _ (Sub.of (suK _ suN)) ?_
   exact ⟨(x_0 == 8), hM, Ak rfl rfl⟩
  refine AZ rfl <| aE hM rfl (fun hc41 hM => ?_) (fun hc41 hM => ?_)
  ·refine Af <| fg _ (Sub.of (suK _ suN)) ?_
   exact ⟨(x_0 == 9), hM, Ak rfl rfl⟩
  refine Ar <| rz rfl <| fg _ (Sub.of (suK _ suN)) ?_
  exact ⟨(x_0 == 11), hM, Ak rfl rfl⟩
 clear hM; rintro t l ⟨x7_, hM, ⟨T, rfl⟩, rfl⟩
 unfold IC at hM
 refine aB hM rfl (fun hc14 hM => ?_) (fun hc14 hM => ?_)
 ·refine Ai <| r_V (vP b2 0) rfl <| rl (vI x_0) 0 <| r_V (vP b2 1) rfl <| rl (vI x_1) 0 <| r_W (vA #[vI x_0, vI x_1]) rfl (An rfl rfl rfl rfl) <| rz rfl ?_
  cases hM
  exact aR eE1
 refine AZ rfl <| aE hM rfl (fun hc17 hM => ?_) (fun hc17 hM => ?_)
 ·refine Ai <| r_V (vP b2 1) rfl <| rl (vI x_1) 0 <| r_V (vP b2 2) rfl <| rl (vI x_2) 0 <| r_W (vA #[vI x_1, vI x_2]) rfl (An rfl rfl rfl rfl) <| rz rfl ?_
  cases hM
  exact aR eE1
 refine Cr (fun tt ll => ∃ (x9_ : Bool), (Mo x_0 x_1 x_2 x9_ = some r) ∧ Is [(1, vP b2 0), (4, vI x_0), (66, vB x9_)] (HK b2 x_0 x_1 x_2 x_3 (hi x_4) (lo x_4)) tt ll) ?_ ?_
 ·refine AZ rfl <| aE hM rfl (fun hc33 hM => ?_) (fun hc33 hM => ?_)
  ·refine Af <| fg _ (Sub.of (suK _ suN)) ?_
   exact ⟨(x_0 == 27), hM, Ak rfl rfl⟩
  refine Ar <| rz rfl <| fg _ (Sub.of (suK _ suN)) ?_
  exact ⟨(x_0 == 28), hM, Ak rfl rfl⟩
 clear hM; rintro t l ⟨x9_, hM, ⟨T, rfl⟩, rfl⟩
 unfold Mo at hM
 refine aB hM rfl (fun hc19 hM => ?_) (fun hc19 hM => ?_)
 ·refine Ai <| r_V (vP b2 0) rfl <| rl (vI x_0) 0 <| r_V (vP b2 1) rfl <| rl (vI x_1) 0 <| r_V (vP b2 2) rfl <| rl (vI x_2) 0 <| r_W (vA #[vI x_0, vI x_1, vI x_2]) rfl (An rfl rfl rfl rfl) <| rz rfl ?_
  cases hM
  exact aR eE1
 refine Cr (fun tt ll => ∃ (x11_ : Bool), (Mn x_0 x_1 x_2 x11_ = some r) ∧ Is [(1, vP b2 0), (4, vI x_0), (77, vB x11_)] (HK b2 x_0 x_1 x_2 x_3 (hi x_4) (lo x_4)) tt ll) ?_ ?_
 ·refine AZ rfl <| aE hM rfl (fun hc31 hM => ?_) (fun hc31 hM => ?_)
  ·refine Af <| fg _ (Sub.of (suK _ suN)) ?_
   exact ⟨(x_0 == 31), hM, Ak rfl rfl⟩
  refine Ar <| rz rfl <| fg _ (Sub.of (suK _ suN)) ?_
  exact ⟨(x_0 == 32), hM, Ak rfl rfl⟩
 clear hM; rintro t l ⟨x11_, hM, ⟨T, rfl⟩, rfl⟩
 unfold Mn at hM
 refine aB hM rfl (fun hc21 hM => ?_) (fun hc21 hM => ?_)
 ·refine Ai <| r_V (vP b2 0) rfl <| rl (vI x_0) 0 <| r_V (vP b2 1) rfl <| rl (vI x_1) 0 <| r_W (vA #[vI x_0, vI x_1]) rfl (An rfl rfl rfl rfl) <| rz rfl ?_
  cases hM
  exact aR eE1
 refine AZ rfl <| aE hM rfl (fun hc24 hM => ?_) (fun hc24 hM => ?_)
 ·refine Ai <| r_V (vP b2 1) rfl <| rl (vI x_1) 0 <| r_V (vP b2 2) rfl <| rl (vI x_2) 0 <| r_W (vA #[vI x_1, vI x_2]) rfl (An rfl rfl rfl rfl) <| rz rfl ?_
  cases hM
  exact aR eE1
 refine AZ rfl <| aE hM rfl (fun hc27 hM => ?_) (fun hc27 hM => ?_)
 ·refine Ai <| r_W (vA #[]) rfl (An rfl rfl rfl rfl) <| rz rfl ?_
  cases hM
  exact aR eE1
 refine Af <| hK3 _ _ ?_
 refine Ai <| r_V (vP b2 0) rfl <| rl (vI x_0) 0 <| r_W (vA #[vI x_0]) rfl (An rfl rfl rfl rfl) <| rz rfl ?_
 cases hM
 exact aR eE1
def Nj (N : Nat) (x_0 : Int) (x_1 : Int) (x_2 : Int) (x_3 : Int) (x_4 : BitVec 128) : Option (Sum214 × Int) := (Pe N x_0 x_1 x_2 x_3 x_4).bind fun r5 => if (r5 : Int) ≠ 0 then some (Sum214.nil, r5) else (Nh N x_0 x_1 x_2 x_3 x_4).bind fun r11 => some (r11, 0)
theorem cH (N x_0 x_1 x_2 x_3 x_4 r) (hM : Nj N x_0 x_1 x_2 x_3 x_4 = some r) : Gives prog 190 #[vA #[vI x_0, vI x_1, vI x_2, vI x_3, U (hi x_4), U (lo x_4)]] (vT #[Sum214.v r.1, vI r.2]) := by
 unfold Nj at hM
 refine Aq follows func190 rfl 12 rfl _ fz1 (fun base0_ => ?_)
 refine Ai <| rA rfl fun b2 => rz rfl <| Aa fun K3 hK3 => Ai <| rm 1 [0] rfl <| kB hM fun r5 hr6 hM => rc _ (cF fJ) (jk N x_0 x_1 x_2 x_3 x_4 _ hr6) <| rz rfl <| AZ rfl <| aN hM rfl (fun hc8 hM => ?_) (fun hc8 hM => ?_)
 ·refine AZ rfl ?_
  cases hM
  exact aR eE2
 refine Af <| hK3 _ _ ?_
 refine Ai <| rm 1 [0] rfl <| kB hM fun r11 hr12 hM => rc _ (cF fI) (cz N x_0 x_1 x_2 x_3 x_4 _ hr12) <| rz rfl ?_
 cases hM
 exact aR eE2
def Js (N : Nat) (l' : List (Int × Int × Int × Int × BitVec 128)) : Nat → List Sum214 → Int → Option ((List Sum214) × Int × Int)
  | 0, _, _ => none
  | n5 + 1, steps1_, x2_ => if x2_ < (l'.length : Int) then ck (0 ≤ x2_ ∧ x2_ < (l'.length : Int)) (if x2_ = 64 then some ([], x2_, 2) else (Nj N ((l'[x2_.toNat]!).1) ((l'[x2_.toNat]!).2.1) ((l'[x2_.toNat]!).2.2.1) ((l'[x2_.toNat]!).2.2.2.1) ((l'[x2_.toNat]!).2.2.2.2)).bind fun r18 => if (r18.2 : Int) ≠ 0 then some ([], x2_, r18.2) else ck ((steps1_).length + ([r18.1]).length ≤ 8796093022208) (ck (-9223372036854775808 ≤ (x2_ + 1) ∧ (x2_ + 1) ≤ 9223372036854775807) ((Js N l' n5) (steps1_ ++ ([r18.1])) (x2_ + 1)))) else some (steps1_, (steps1_.length : Int), 0)
def Lh (N : Nat) (l' : List (Int × Int × Int × Int × BitVec 128)) : Option ((List Sum214) × Int × Int) := Js N l' N ([]) 0
theorem ZN (N l' r) (hM : Lh N l' = some r) (ro l'v) (hl' : Rd enc_56 ro l'v l') : Does prog 138 #[l'v] ro [] (p1 (fun s_ => vT #[s_, vI r.2.1, vI r.2.2]) 214 Fh r.1) := by
 unfold Lh at hM
 refine Ac follows func138 rfl 37 rfl _ fz1 (fun base0_ => ?_)
 refine AZ rfl <| AZ rfl <| Aa fun K3 hK3 => Ai <| rn 1 rfl <| rL (Rd.shp hl') rfl <| rz rfl <| Aj <| Be _ (Sub.pickE (Ls := [[]]) (Ls0 := []) rfl [0] rfl) <| AU (fun tt ll nn => ∃ (n5 : Nat) (steps1_ : List Sum214) (x2_ : Int), (Js N l' n5 steps1_ x2_ = some r) ∧ ∃ (vsteps1_ : Value) (Ssteps1_ : List Bl), Sl 214 Fh vsteps1_ steps1_ Ssteps1_ ∧ Is [(5, vsteps1_), (10, l'v), (11, vI (l'.length : Int)), (12, vI x2_)] (List.flatten [Ssteps1_]) tt ll ∧ nn = n5 + 1) (N + 1) ?_ ?_
 ·exact ⟨N, [], 0, hM, nS, [], Sl.nil, Ak rfl rfl, rfl⟩
 clear hM; rintro t l _ ⟨n5, steps1_, x2_, hM, vsteps1_, Ssteps1_, hsteps1_, ⟨⟨T, rfl⟩, rfl⟩, rfl⟩
 rcases n5 with _ | n5
 ·exact absurd hM (by simp [Js])
 rw [Js] at hM
 refine AZ rfl <| Aa fun K7 hK7 => aD hM rfl (fun hc8 hM => ?_) (fun hc8 hM => ?_)
 ·refine Af <| hK7 _ _ ?_
  refine Aa fun K9 hK9 => Aj <| Ai <| rn 1 rfl <| kC hM fun ck11 hM => rI (Rd.shp hl') ck11 rfl <| rE (AA hl') ck11 0 rfl <| rA rfl fun b12 => ry [0] rfl <| Aa fun K13 hK13 => AZ rfl <| aE hM rfl (fun hc15 hM => ?_) (fun hc15 hM => ?_)
  ·refine AZ rfl ?_
   cases hM
   refine Au (fun hn => AG (v0 := vT #[nS, vI x2_, vI 2]) Sl.nil (Sub.nil _) rfl (bA rfl rfl rfl))
  refine Af <| hK13 _ _ ?_
  refine Ai <| rm 1 [0] rfl <| kB hM fun r18 hr19 hM => rc _ (cF gc) (cH N ((l'[x2_.toNat]!).1) ((l'[x2_.toNat]!).2.1) ((l'[x2_.toNat]!).2.2.1) ((l'[x2_.toNat]!).2.2.2.1) ((l'[x2_.toNat]!).2.2.2.2) _ hr19) <| rz rfl <| Aa fun K20 hK20 => AZ rfl <| aN hM rfl (fun hc22 hM => ?_) (fun hc22 hM => ?_)
  ·refine AZ rfl ?_
   cases hM
   refine Au (fun hn => AG (v0 := vT #[nS, vI x2_, vI r18.2]) Sl.nil (Sub.nil _) rfl (bA rfl rfl rfl))
  refine Af <| hK20 _ _ ?_
  refine A_regC [(some 31, false), (some 32, true)] (conG prog []) <| rn 2 rfl <| BF (cs0 := []) (Ls := [(HK b12 ((l'[x2_.toNat]!).1) ((l'[x2_.toNat]!).2.1) ((l'[x2_.toNat]!).2.2.1) ((l'[x2_.toNat]!).2.2.2.1) (hi ((l'[x2_.toNat]!).2.2.2.2)) (lo ((l'[x2_.toNat]!).2.2.2.2))), Ssteps1_]) 214 Fh [r18.1] [Sum214.v r18.1] [Value.nilIface] rfl rfl rfl rfl rfl rfl rfl (by kernel_rfl) ((CN _ _ _ _ (Bj (aO (v := Sum214.v r18.1) rfl (Sum214.cells r18.1)) Ei)).trans (by kernel_rfl)) rfl rfl rfl (fun s24 S25 H26 => ?_)
  refine kC hM fun ck27 hM => Dg (cs0 := []) (Ls := [(HK b12 ((l'[x2_.toNat]!).1) ((l'[x2_.toNat]!).2.1) ((l'[x2_.toNat]!).2.2.1) ((l'[x2_.toNat]!).2.2.2.1) (hi ((l'[x2_.toNat]!).2.2.2.2)) (lo ((l'[x2_.toNat]!).2.2.2.2))), Ssteps1_, S25]) 1 (En := Fh) rfl rfl rfl rfl rfl hsteps1_ rfl (Ap H26 (Ad (Ls := [(HK b12 ((l'[x2_.toNat]!).1) ((l'[x2_.toNat]!).2.1) ((l'[x2_.toNat]!).2.2.1) ((l'[x2_.toNat]!).2.2.2.1) (hi ((l'[x2_.toNat]!).2.2.2.2)) (lo ((l'[x2_.toNat]!).2.2.2.2))), Ssteps1_, S25]) (k := 2) rfl rfl)) rfl rfl rfl rfl rfl (Dk ck27 rfl) (Dj ck27 rfl) rfl (fun s28 S29 H30 => ?_)
  refine rz rfl <| hK9 _ _ ?_
  refine Ar <| kC hM fun ck31 hM => rX ck31 rfl <| rz rfl <| fg _ (Sub.pick [(HK b12 ((l'[x2_.toNat]!).1) ((l'[x2_.toNat]!).2.1) ((l'[x2_.toNat]!).2.2.1) ((l'[x2_.toNat]!).2.2.2.1) (hi ((l'[x2_.toNat]!).2.2.2.2)) (lo ((l'[x2_.toNat]!).2.2.2.2))), S29, S25] [1] rfl) ?_
  exact ⟨n5 + 1, by omega, n5, (steps1_ ++ ([r18.1])), (x2_ + 1), hM, s28, S29, H30, Ak rfl rfl, rfl⟩
 refine AS <| hK3 _ _ ?_
 refine Ai <| rn 2 rfl <| rL (Sl.shp hsteps1_) rfl <| rz rfl ?_
 cases hM
 refine Au (fun hn => AG (v0 := vT #[vsteps1_, vI (steps1_.length : Int), vI 0]) hsteps1_ (Aw (Sub.pick [Ssteps1_] [0] rfl)) rfl (bA rfl rfl rfl))
def OW (N : Nat) (l' : List Int) (i : Int) : Option Bool := ck ((-9223372036854775808 ≤ ((l'.length : Int) - 1) ∧ ((l'.length : Int) - 1) ≤ 9223372036854775807)) ((AE N i 0 ((l'.length : Int) - 1)).bind fun r4 => some r4)
theorem cg (N l' i r) (hM : OW N l' i = some r) (ro l'v) (hl' : Rd Bf ro l'v l') : Does prog 387 #[l'v, vI i] ro [] (pV (vB r)) := by
 unfold OW at hM
 refine Ac follows func387 rfl 10 rfl _ fz2 (fun base0_ => ?_)
 refine AZ rfl <| Ai <| rn 2 rfl <| rL (Rd.shp hl') rfl <| kC hM fun ck3 hM => rX ck3 rfl <| kB hM fun r4 hr5 hM => rc _ (cF Cd) (AJ N i 0 ((l'.length : Int) - 1) _ hr5) <| rz rfl ?_
 cases hM
 exact aR eV1
def JK (N : Nat) (l' : List (List UInt8 × Int × Int)) (i : Int) : Option Bool := ck ((-9223372036854775808 ≤ ((l'.length : Int) - 1) ∧ ((l'.length : Int) - 1) ≤ 9223372036854775807)) ((AE N i 0 ((l'.length : Int) - 1)).bind fun r4 => some r4)
theorem Vw (N l' i r) (hM : JK N l' i = some r) (ro l'v) (hl' : Rd Lf ro l'v l') : Does prog 388 #[l'v, vI i] ro [] (pV (vB r)) := by
 unfold JK at hM
 refine Ac follows func388 rfl 10 rfl _ fz2 (fun base0_ => ?_)
 refine AZ rfl <| Ai <| rn 2 rfl <| rL (Rd.shp hl') rfl <| kC hM fun ck3 hM => rX ck3 rfl <| kB hM fun r4 hr5 hM => rc _ (cF Cd) (AJ N i 0 ((l'.length : Int) - 1) _ hr5) <| rz rfl ?_
 cases hM
 exact aR eV1
def Gs (N : Nat) (l' : List (List UInt8 × Int)) (i : Int) : Option Bool := ck ((-9223372036854775808 ≤ ((l'.length : Int) - 1) ∧ ((l'.length : Int) - 1) ≤ 9223372036854775807)) ((AE N i 0 ((l'.length : Int) - 1)).bind fun r4 => some r4)
theorem PI (N l' i r) (hM : Gs N l' i = some r) (ro l'v) (hl' : Rd Le ro l'v l') : Does prog 389 #[l'v, vI i] ro [] (pV (vB r)) := by
 unfold Gs at hM
 refine Ac follows func389 rfl 10 rfl _ fz2 (fun base0_ => ?_)
 refine AZ rfl <| Ai <| rn 2 rfl <| rL (Rd.shp hl') rfl <| kC hM fun ck3 hM => rX ck3 rfl <| kB hM fun r4 hr5 hM => rc _ (cF Cd) (AJ N i 0 ((l'.length : Int) - 1) _ hr5) <| rz rfl ?_
 cases hM
 exact aR eV1
def HT (N : Nat) (l' : List (List UInt8 × Int × Int × Int)) (i : Int) : Option Bool := ck ((-9223372036854775808 ≤ ((l'.length : Int) - 1) ∧ ((l'.length : Int) - 1) ≤ 9223372036854775807)) ((AE N i 0 ((l'.length : Int) - 1)).bind fun r4 => some r4)
theorem RY (N l' i r) (hM : HT N l' i = some r) (ro l'v) (hl' : Rd Ld ro l'v l') : Does prog 390 #[l'v, vI i] ro [] (pV (vB r)) := by
 unfold HT at hM
 refine Ac follows func390 rfl 10 rfl _ fz2 (fun base0_ => ?_)
 refine AZ rfl <| Ai <| rn 2 rfl <| rL (Rd.shp hl') rfl <| kC hM fun ck3 hM => rX ck3 rfl <| kB hM fun r4 hr5 hM => rc _ (cF Cd) (AJ N i 0 ((l'.length : Int) - 1) _ hr5) <| rz rfl ?_
 cases hM
 exact aR eV1
def DG (N : Nat) (m : AN) (slot : Int) : Option Bool := (MG N m.2.2.1 slot).bind fun r4 => some r4.2.2
theorem Lq (N m slot r) (hM : DG N m slot = some r) (ro) (mv : AH) (hm : Bun35R ro mv m) : Does prog 251 #[vA (Ag m mv), vI slot] ro [] (pV (vB r)) := by
 unfold DG at hM
 refine Ac follows func251 rfl 17 rfl _ fz2 (fun base0_ => ?_)
 refine Ai <| rA rfl fun b2 => rz rfl <| A_sc [(some 12, false)] (conG prog [(12, cV (MG N m.2.2.1 slot) fun u0_ => vT #[vI u0_.1, vI u0_.2.1, vB u0_.2.2])]) <| rm 3 [0] rfl <| kB hM fun r4 hr5 hM => rg _ (cF SJ) (fun o w z_ => Yv N m.2.2.1 slot _ hr5 z_.view mv.2.1 ((AA hm.2.1) o w z_)) (Ao hr5) <| rz rfl <| AZ rfl ?_
 cases hM
 exact aR eV1
def OV (N : Nat) (m : AN) (x_1 : Int) (x9_ : Bool) : Option Bool := if x9_ = true then (EI N m x_1).bind fun r39 => some r39.2.2 else some true
def Ny (N : Nat) (m : AN) (x_0 : Int) (x_1 : Int) (x7_ : Bool) : Option Bool := if x7_ = true then (DG N m x_1).bind fun r35 => some r35 else if x_0 = 27 then OV N m x_1 (x_0 == 27) else OV N m x_1 (x_0 == 28)
def QX (N : Nat) (m : AN) (x_0 : Int) (x_1 : Int) (x5_ : Bool) : Option Bool := if x5_ = true then (JK N m.2.2.2.2.2.2.2.2.2.2.2.2.1 x_1).bind fun r21 => some r21 else if x_0 = 29 then (Gs N m.2.2.2.2.2.2.2.2.2.2.2.2.2.1 x_1).bind fun r26 => some r26 else if x_0 = 30 then (HT N m.2.2.2.2.2.2.2.2.2.2.2.2.2.2.1 x_1).bind fun r31 => some r31 else if x_0 = 4 then Ny N m x_0 x_1 (x_0 == 4) else if x_0 = 25 then Ny N m x_0 x_1 (x_0 == 25) else if x_0 = 26 then Ny N m x_0 x_1 (x_0 == 26) else Ny N m x_0 x_1 (x_0 == 33)
def QY (N : Nat) (m : AN) (params : List Int) (x_0 : Int) (x_1 : Int) (x3_ : Bool) : Option Bool := if x3_ = true then (Hx N m x_1).bind fun r12 => some r12.2 else if x_0 = 3 then (OW N params x_1).bind fun r17 => some r17 else if x_0 = 5 then QX N m x_0 x_1 (x_0 == 5) else QX N m x_0 x_1 (x_0 == 24)
def QZ (N : Nat) (m : AN) (params : List Int) (x_0 : Int) (x_1 : Int) (x_2 : Int) (x1_ : Bool) : Option Bool := if x1_ = true then (Et N m x_1 x_2).bind fun r8 => some r8.2 else if x_0 = 2 then QY N m params x_0 x_1 (x_0 == 2) else QY N m params x_0 x_1 (x_0 == 23)
def RV (N : Nat) (m : AN) (params : List Int) (x_0 : Int) (x_1 : Int) (x_2 : Int) (_ : Int) (_ : BitVec 128) : Option Bool := if x_0 = 1 then QZ N m params x_0 x_1 x_2 (x_0 == 1) else QZ N m params x_0 x_1 x_2 (x_0 == 22)
theorem la (N m params x_0 x_1 x_2 x_3 x_4 r) (hM : RV N m params x_0 x_1 x_2 x_3 x_4 = some r) (ro) (mv : AH) (hm : Bun35R ro mv m) (paramsv) (hparams : Rd Bf ro paramsv params) : DoesI prog 366 #[vA (Ag m mv), paramsv, vA #[vI x_0, vI x_1, vI x_2, vI x_3, U (hi x_4), U (lo x_4)]] Ej ro [] (pV (vB r)) := by
 unfold RV at hM
 refine AQ follows func366 rfl 81 rfl _ fz3 AW (fun base0_ => ?_)
 refine Ai <| rA rfl fun b2 => rA rfl fun b3 => rz rfl <| AZ rfl <| Aa fun K5 hK5 => AY [0] rfl <| Aj <| Cr (fun tt ll => ∃ (x1_ : Bool), (QZ N m params x_0 x_1 x_2 x1_ = some r) ∧ Is [(1, paramsv), (3, vP b2 0), (5, vP b3 0), (7, vB true), (9, vI x_0), (10, vB x1_)] [(b3, 56, #[vI x_0, vI x_1, vI x_2, vI x_3, U (hi x_4), U (lo x_4)]), (b2, 35, (Ag m mv))] tt ll) ?_ ?_
 ·refine AZ rfl <| aE hM rfl (fun hc56 hM => ?_) (fun hc56 hM => ?_)
  ·refine Af <| fg _ (Sub.of (suK _ (suK _ suN))) ?_
   exact ⟨(x_0 == 1), hM, Ak rfl rfl⟩
  refine Ar <| rz rfl <| fg _ (Sub.of (suK _ (suK _ suN))) ?_
  exact ⟨(x_0 == 22), hM, Ak rfl rfl⟩
 clear hM; rintro t l ⟨x1_, hM, ⟨T, rfl⟩, rfl⟩
 unfold QZ at hM
 refine aB hM rfl (fun hc7 hM => ?_) (fun hc7 hM => ?_)
 ·refine A_regC [(some 19, false)] (conG prog [(19, cV (Et N m x_1 x_2) fun u0_ => vT #[vI u0_.1, vB u0_.2])]) <| rm 5 [1, 0, 0] rfl <| kB hM fun r8 hr9 hM => rg _ (cF SI) (fun o w z_ => (Does.inv (Me N m x_1 x_2 _ hr9 z_.view mv (Bun35R.mono z_.ro_cell hm)) _)) (Ao hr9) <| rz rfl <| hK5 _ _ ?_
  refine AZ rfl ?_
  cases hM
  exact aR eV1
 refine Cr (fun tt ll => ∃ (x3_ : Bool), (QY N m params x_0 x_1 x3_ = some r) ∧ Is [(1, paramsv), (3, vP b2 0), (5, vP b3 0), (7, vB true), (9, vI x_0), (22, vB x3_)] [(b3, 56, #[vI x_0, vI x_1, vI x_2, vI x_3, U (hi x_4), U (lo x_4)]), (b2, 35, (Ag m mv))] tt ll) ?_ ?_
 ·refine AZ rfl <| aE hM rfl (fun hc54 hM => ?_) (fun hc54 hM => ?_)
  ·refine Af <| fg _ (Sub.of (suK _ (suK _ suN))) ?_
   exact ⟨(x_0 == 2), hM, Ak rfl rfl⟩
  refine Ar <| rz rfl <| fg _ (Sub.of (suK _ (suK _ suN))) ?_
  exact ⟨(x_0 == 23), hM, Ak rfl rfl⟩
 clear hM; rintro t l ⟨x3_, hM, ⟨T, rfl⟩, rfl⟩
 unfold QY at hM
 refine aB hM rfl (fun hc11 hM => ?_) (fun hc11 hM => ?_)
 ·refine A_regC [(some 29, false)] (conG prog [(29, cV (Hx N m x_1) fun u0_ => vT #[vI u0_.1, vB u0_.2])]) <| rm 3 [1, 0] rfl <| kB hM fun r12 hr13 hM => rg _ (cF XC) (fun o w z_ => Qj N m x_1 _ hr13 z_.view mv (Bun35R.mono z_.ro_cell hm)) (Ao hr13) <| rz rfl <| hK5 _ _ ?_
  refine AZ rfl ?_
  cases hM
  exact aR eV1
 refine AZ rfl <| aE hM rfl (fun hc16 hM => ?_) (fun hc16 hM => ?_)
 ·refine A_regC [(some 37, false)] (conG prog [(37, cV (OW N params x_1) fun u0_ => vB u0_)]) <| rm 3 [0] rfl <| kB hM fun r17 hr18 hM => rg _ (cF dg) (fun o w z_ => (Does.inv (cg N params x_1 _ hr18 z_.view paramsv (z_.r hparams)) _)) (Ao hr18) <| rz rfl <| hK5 _ _ ?_
  refine AZ rfl ?_
  cases hM
  exact aR eV1
 refine Cr (fun tt ll => ∃ (x5_ : Bool), (QX N m x_0 x_1 x5_ = some r) ∧ Is [(3, vP b2 0), (5, vP b3 0), (7, vB true), (9, vI x_0), (38, vB x5_)] [(b3, 56, #[vI x_0, vI x_1, vI x_2, vI x_3, U (hi x_4), U (lo x_4)]), (b2, 35, (Ag m mv))] tt ll) ?_ ?_
 ·refine AZ rfl <| aE hM rfl (fun hc52 hM => ?_) (fun hc52 hM => ?_)
  ·refine Af <| fg _ (Sub.of (suK _ (suK _ suN))) ?_
   exact ⟨(x_0 == 5), hM, Ak rfl rfl⟩
  refine Ar <| rz rfl <| fg _ (Sub.of (suK _ (suK _ suN))) ?_
  exact ⟨(x_0 == 24), hM, Ak rfl rfl⟩
 clear hM; rintro t l ⟨x5_, hM, ⟨T, rfl⟩, rfl⟩
 unfold QX at hM
 refine aB hM rfl (fun hc20 hM => ?_) (fun hc20 hM => ?_)
 ·refine A_regC [(some 45, false)] (conG prog [(45, cV (JK N m.2.2.2.2.2.2.2.2.2.2.2.2.1 x_1) fun u0_ => vB u0_)]) <| rm 4 [1, 0] rfl <| kB hM fun r21 hr22 hM => rg _ (cF df) (fun o w z_ => (Does.inv (Vw N m.2.2.2.2.2.2.2.2.2.2.2.2.1 x_1 _ hr22 z_.view mv.2.2.2.2.2.2.2.2.2.2.2.1 ((AA hm.2.2.2.2.2.2.2.2.2.2.2.1) o w z_)) _)) (Ao hr22) <| rz rfl <| hK5 _ _ ?_
  refine AZ rfl ?_
  cases hM
  exact aR eV1
 refine AZ rfl <| aE hM rfl (fun hc25 hM => ?_) (fun hc25 hM => ?_)
 ·refine A_regC [(some 52, false)] (conG prog [(52, cV (Gs N m.2.2.2.2.2.2.2.2.2.2.2.2.2.1 x_1) fun u0_ => vB u0_)]) <| rm 4 [1, 0] rfl <| kB hM fun r26 hr27 hM => rg _ (cF dc) (fun o w z_ => (Does.inv (PI N m.2.2.2.2.2.2.2.2.2.2.2.2.2.1 x_1 _ hr27 z_.view mv.2.2.2.2.2.2.2.2.2.2.2.2.1 ((AA hm.2.2.2.2.2.2.2.2.2.2.2.2.1) o w z_)) _)) (Ao hr27) <| rz rfl <| hK5 _ _ ?_
  refine AZ rfl ?_
  cases hM
  exact aR eV1
 refine AZ rfl <| aE hM rfl (fun hc30 hM => ?_) (fun hc30 hM => ?_)
 ·refine A_regC [(some 59, false)] (conG prog [(59, cV (HT N m.2.2.2.2.2.2.2.2.2.2.2.2.2.2.1 x_1) fun u0_ => vB u0_)]) <| rm 4 [1, 0] rfl <| kB hM fun r31 hr32 hM => rg _ (cF db) (fun o w z_ => (Does.inv (RY N m.2.2.2.2.2.2.2.2.2.2.2.2.2.2.1 x_1 _ hr32 z_.view mv.2.2.2.2.2.2.2.2.2.2.2.2.2 ((AA hm.2.2.2.2.2.2.2.2.2.2.2.2.2) o w z_)) _)) (Ao hr32) <| rz rfl <| hK5 _ _ ?_
  refine AZ rfl ?_
  cases hM
  exact aR eV1
 refine Cr (fun tt ll => ∃ (x7_ : Bool), (Ny N m x_0 x_1 x7_ = some r) ∧ Is [(3, vP b2 0), (5, vP b3 0), (7, vB true), (9, vI x_0), (60, vB x7_)] [(b3, 56, #[vI x_0, vI x_1, vI x_2, vI x_3, U (hi x_4), U (lo x_4)]), (b2, 35, (Ag m mv))] tt ll) ?_ ?_
 ·refine AZ rfl <| aE hM rfl (fun hc46 hM => ?_) (fun hc46 hM => ?_)
  ·refine Af <| fg _ (Sub.of (suK _ (suK _ suN))) ?_
   exact ⟨(x_0 == 4), hM, Ak rfl rfl⟩
  refine AZ rfl <| aE hM rfl (fun hc48 hM => ?_) (fun hc48 hM => ?_)
  ·refine Af <| fg _ (Sub.of (suK _ (suK _ suN))) ?_
   exact ⟨(x_0 == 25), hM, Ak rfl rfl⟩
  refine AZ rfl <| aE hM rfl (fun hc50 hM => ?_) (fun hc50 hM => ?_)
  ·refine Af <| fg _ (Sub.of (suK _ (suK _ suN))) ?_
   exact ⟨(x_0 == 26), hM, Ak rfl rfl⟩
  refine Ar <| rz rfl <| fg _ (Sub.of (suK _ (suK _ suN))) ?_
  exact ⟨(x_0 == 33), hM, Ak rfl rfl⟩
 clear hM; rintro t l ⟨x7_, hM, ⟨T, rfl⟩, rfl⟩
 unfold Ny at hM
 refine aB hM rfl (fun hc34 hM => ?_) (fun hc34 hM => ?_)
 ·refine A_regC [(some 68, false)] (conG prog [(68, cV (DG N m x_1) fun u0_ => vB u0_)]) <| rm 3 [1, 0] rfl <| kB hM fun r35 hr36 hM => rg _ (cF SO) (fun o w z_ => (Does.inv (Lq N m x_1 _ hr36 z_.view mv (Bun35R.mono z_.ro_cell hm)) _)) (Ao hr36) <| rz rfl <| hK5 _ _ ?_
  refine AZ rfl ?_
  cases hM
  exact aR eV1
 refine Cr (fun tt ll => ∃ (x9_ : Bool), (OV N m x_1 x9_ = some r) ∧ Is [(3, vP b2 0), (5, vP b3 0), (7, vB true), (69, vB x9_)] [(b3, 56, #[vI x_0, vI x_1, vI x_2, vI x_3, U (hi x_4), U (lo x_4)]), (b2, 35, (Ag m mv))] tt ll) ?_ ?_
 ·refine AZ rfl <| aE hM rfl (fun hc44 hM => ?_) (fun hc44 hM => ?_)
  ·refine Af <| fg _ (Sub.of (suK _ (suK _ suN))) ?_
   exact ⟨(x_0 == 27), hM, Ak rfl rfl⟩
  refine Ar <| rz rfl <| fg _ (Sub.of (suK _ (suK _ suN))) ?_
  exact ⟨(x_0 == 28), hM, Ak rfl rfl⟩
 clear hM; rintro t l ⟨x9_, hM, ⟨T, rfl⟩, rfl⟩
 unfold OV at hM
 refine aB hM rfl (fun hc38 hM => ?_) (fun hc38 hM => ?_)
 ·refine A_regC [(some 76, false)] (conG prog [(76, cV (EI N m x_1) fun u0_ => vT #[vI u0_.1, vI u0_.2.1, vB u0_.2.2])]) <| rm 3 [1, 0] rfl <| kB hM fun r39 hr40 hM => rg _ (cF XG) (fun o w z_ => (Does.inv (MX N m x_1 _ hr40 z_.view mv (Bun35R.mono z_.ro_cell hm)) _)) (Ao hr40) <| rz rfl <| hK5 _ _ ?_
  refine AZ rfl ?_
  cases hM
  exact aR eV1
 refine Af <| hK5 _ _ ?_
 refine AZ rfl ?_
 cases hM
 exact aR eV1
def Om (_ : Nat) (s : Sum214) : Option (Int × Bool) := Sum214.on s (some (0, false)) (fun _ _ => some (0, false)) (fun _ _ _ => some (0, false)) (fun _ _ => some (0, false)) (fun _ _ => some (0, false)) (fun _ _ => some (0, false)) (fun _ _ => some (0, false)) (fun _ _ _ => some (0, false)) (fun _ x22_1 => some (x22_1, true)) (fun _ x24_1 => some (x24_1, true)) (some (0, false)) (fun _ => some (0, false))
theorem YS (N s r) (hM : Om N s = some r) : Gives prog 397 #[Sum214.v s] (vT #[vI r.1, vB r.2]) := by
 unfold Om at hM
 refine Aq follows func397 rfl 24 rfl _ fz1 (fun base0_ => ?_)
 refine AZ rfl <| Aa fun K2 hK2 => Aa fun K3 hK3 => Ar <| rn 1 rfl ?_
 rcases Sum214.cases s with hx4 | ⟨x5_0, x6_1, hx4⟩ | ⟨x7_0, x8_1, x9_2, hx4⟩ | ⟨x10_0, x11_1, hx4⟩ | ⟨x12_0, x13_1, hx4⟩ | ⟨x14_0, x15_1, hx4⟩ | ⟨x16_0, x17_1, hx4⟩ | ⟨x18_0, x19_1, x20_2, hx4⟩ | ⟨x21_0, x22_1, hx4⟩ | ⟨x23_0, x24_1, hx4⟩ | hx4 | ⟨x25_0, hx4⟩
 ·replace hM := Sum214.on_nil hx4 hM
  refine r_W (vT #[vA #[vI 0, vI 0], vB false]) rfl (BT ((rfl : _ = Sum214.v s).trans (show Sum214.v s = Value.nilIface from by rw [hx4]; rfl)) rfl) ?_
  refine rn 3 rfl <| rA rfl fun b26 => ry [0] rfl <| hK3 _ _ ?_
  refine AZ rfl <| AB false rfl (fun h_ => nomatch h_) (fun _ => ?_)
  refine Af <| hK2 _ _ ?_
  refine Aa fun K28 hK28 => Ai <| rn 1 rfl <| r_W (vT #[vA #[vI 0, vI 0], vB false]) rfl (BT ((rfl : _ = Sum214.v s).trans (show Sum214.v s = Value.nilIface from by rw [hx4]; rfl)) rfl) ?_
  refine rn 3 rfl <| rA rfl fun b30 => ry [0] rfl <| AZ rfl <| AB false rfl (fun h_ => nomatch h_) (fun _ => ?_)
  refine Af <| hK28 _ _ ?_
  refine AZ rfl ?_
  cases hM
  exact aR eE2
 ·replace hM := Sum214.on_t272 hx4 hM
  refine r_W (vT #[vA #[vI 0, vI 0], vB false]) rfl (BT ((rfl : _ = Sum214.v s).trans (show Sum214.v s = Value.iface 272 (vA #[vI x5_0, U (hi x6_1), U (lo x6_1)]) from by rw [hx4]; rfl)) rfl) ?_
  refine rn 3 rfl <| rA rfl fun b26 => ry [0] rfl <| hK3 _ _ ?_
  refine AZ rfl <| AB false rfl (fun h_ => nomatch h_) (fun _ => ?_)
  refine Af <| hK2 _ _ ?_
  refine Aa fun K28 hK28 => Ai <| rn 1 rfl <| r_W (vT #[vA #[vI 0, vI 0], vB false]) rfl (BT ((rfl : _ = Sum214.v s).trans (show Sum214.v s = Value.iface 272 (vA #[vI x5_0, U (hi x6_1), U (lo x6_1)]) from by rw [hx4]; rfl)) rfl) ?_
  refine rn 3 rfl <| rA rfl fun b30 => ry [0] rfl <| AZ rfl <| AB false rfl (fun h_ => nomatch h_) (fun _ => ?_)
  refine Af <| hK28 _ _ ?_
  refine AZ rfl ?_
  cases hM
  exact aR eE2
 ·replace hM := Sum214.on_t294 hx4 hM
  refine r_W (vT #[vA #[vI 0, vI 0], vB false]) rfl (BT ((rfl : _ = Sum214.v s).trans (show Sum214.v s = Value.iface 294 (vA #[vI x7_0, vI x8_1, vI x9_2]) from by rw [hx4]; rfl)) rfl) ?_
  refine rn 3 rfl <| rA rfl fun b26 => ry [0] rfl <| hK3 _ _ ?_
  refine AZ rfl <| AB false rfl (fun h_ => nomatch h_) (fun _ => ?_)
  refine Af <| hK2 _ _ ?_
  refine Aa fun K28 hK28 => Ai <| rn 1 rfl <| r_W (vT #[vA #[vI 0, vI 0], vB false]) rfl (BT ((rfl : _ = Sum214.v s).trans (show Sum214.v s = Value.iface 294 (vA #[vI x7_0, vI x8_1, vI x9_2]) from by rw [hx4]; rfl)) rfl) ?_
  refine rn 3 rfl <| rA rfl fun b30 => ry [0] rfl <| AZ rfl <| AB false rfl (fun h_ => nomatch h_) (fun _ => ?_)
  refine Af <| hK28 _ _ ?_
  refine AZ rfl ?_
  cases hM
  exact aR eE2
 ·replace hM := Sum214.on_t297 hx4 hM
  refine r_W (vT #[vA #[vI 0, vI 0], vB false]) rfl (BT ((rfl : _ = Sum214.v s).trans (show Sum214.v s = Value.iface 297 (vA #[vI x10_0, vI x11_1]) from by rw [hx4]; rfl)) rfl) ?_
  refine rn 3 rfl <| rA rfl fun b26 => ry [0] rfl <| hK3 _ _ ?_
  refine AZ rfl <| AB false rfl (fun h_ => nomatch h_) (fun _ => ?_)
  refine Af <| hK2 _ _ ?_
  refine Aa fun K28 hK28 => Ai <| rn 1 rfl <| r_W (vT #[vA #[vI 0, vI 0], vB false]) rfl (BT ((rfl : _ = Sum214.v s).trans (show Sum214.v s = Value.iface 297 (vA #[vI x10_0, vI x11_1]) from by rw [hx4]; rfl)) rfl) ?_
  refine rn 3 rfl <| rA rfl fun b30 => ry [0] rfl <| AZ rfl <| AB false rfl (fun h_ => nomatch h_) (fun _ => ?_)
  refine Af <| hK28 _ _ ?_
  refine AZ rfl ?_
  cases hM
  exact aR eE2
 ·replace hM := Sum214.on_t299 hx4 hM
  refine r_W (vT #[vA #[vI 0, vI 0], vB false]) rfl (BT ((rfl : _ = Sum214.v s).trans (show Sum214.v s = Value.iface 299 (vA #[vI x12_0, vI x13_1]) from by rw [hx4]; rfl)) rfl) ?_
  refine rn 3 rfl <| rA rfl fun b26 => ry [0] rfl <| hK3 _ _ ?_
  refine AZ rfl <| AB false rfl (fun h_ => nomatch h_) (fun _ => ?_)
  refine Af <| hK2 _ _ ?_
  refine Aa fun K28 hK28 => Ai <| rn 1 rfl <| r_W (vT #[vA #[vI 0, vI 0], vB false]) rfl (BT ((rfl : _ = Sum214.v s).trans (show Sum214.v s = Value.iface 299 (vA #[vI x12_0, vI x13_1]) from by rw [hx4]; rfl)) rfl) ?_
  refine rn 3 rfl <| rA rfl fun b30 => ry [0] rfl <| AZ rfl <| AB false rfl (fun h_ => nomatch h_) (fun _ => ?_)
  refine Af <| hK28 _ _ ?_
  refine AZ rfl ?_
  cases hM
  exact aR eE2
 ·replace hM := Sum214.on_t301 hx4 hM
  refine r_W (vT #[vA #[vI 0, vI 0], vB false]) rfl (BT ((rfl : _ = Sum214.v s).trans (show Sum214.v s = Value.iface 301 (vA #[vI x14_0, vI x15_1]) from by rw [hx4]; rfl)) rfl) ?_
  refine rn 3 rfl <| rA rfl fun b26 => ry [0] rfl <| hK3 _ _ ?_
  refine AZ rfl <| AB false rfl (fun h_ => nomatch h_) (fun _ => ?_)
  refine Af <| hK2 _ _ ?_
  refine Aa fun K28 hK28 => Ai <| rn 1 rfl <| r_W (vT #[vA #[vI 0, vI 0], vB false]) rfl (BT ((rfl : _ = Sum214.v s).trans (show Sum214.v s = Value.iface 301 (vA #[vI x14_0, vI x15_1]) from by rw [hx4]; rfl)) rfl) ?_
  refine rn 3 rfl <| rA rfl fun b30 => ry [0] rfl <| AZ rfl <| AB false rfl (fun h_ => nomatch h_) (fun _ => ?_)
  refine Af <| hK28 _ _ ?_
  refine AZ rfl ?_
  cases hM
  exact aR eE2
 ·replace hM := Sum214.on_t304 hx4 hM
  refine r_W (vT #[vA #[vI 0, vI 0], vB false]) rfl (BT ((rfl : _ = Sum214.v s).trans (show Sum214.v s = Value.iface 304 (vA #[vI x16_0, vI x17_1]) from by rw [hx4]; rfl)) rfl) ?_
  refine rn 3 rfl <| rA rfl fun b26 => ry [0] rfl <| hK3 _ _ ?_
  refine AZ rfl <| AB false rfl (fun h_ => nomatch h_) (fun _ => ?_)
  refine Af <| hK2 _ _ ?_
  refine Aa fun K28 hK28 => Ai <| rn 1 rfl <| r_W (vT #[vA #[vI 0, vI 0], vB false]) rfl (BT ((rfl : _ = Sum214.v s).trans (show Sum214.v s = Value.iface 304 (vA #[vI x16_0, vI x17_1]) from by rw [hx4]; rfl)) rfl) ?_
  refine rn 3 rfl <| rA rfl fun b30 => ry [0] rfl <| AZ rfl <| AB false rfl (fun h_ => nomatch h_) (fun _ => ?_)
  refine Af <| hK28 _ _ ?_
  refine AZ rfl ?_
  cases hM
  exact aR eE2
 ·replace hM := Sum214.on_t307 hx4 hM
  refine r_W (vT #[vA #[vI 0, vI 0], vB false]) rfl (BT ((rfl : _ = Sum214.v s).trans (show Sum214.v s = Value.iface 307 (vA #[vI x18_0, vI x19_1, vI x20_2]) from by rw [hx4]; rfl)) rfl) ?_
  refine rn 3 rfl <| rA rfl fun b26 => ry [0] rfl <| hK3 _ _ ?_
  refine AZ rfl <| AB false rfl (fun h_ => nomatch h_) (fun _ => ?_)
  refine Af <| hK2 _ _ ?_
  refine Aa fun K28 hK28 => Ai <| rn 1 rfl <| r_W (vT #[vA #[vI 0, vI 0], vB false]) rfl (BT ((rfl : _ = Sum214.v s).trans (show Sum214.v s = Value.iface 307 (vA #[vI x18_0, vI x19_1, vI x20_2]) from by rw [hx4]; rfl)) rfl) ?_
  refine rn 3 rfl <| rA rfl fun b30 => ry [0] rfl <| AZ rfl <| AB false rfl (fun h_ => nomatch h_) (fun _ => ?_)
  refine Af <| hK28 _ _ ?_
  refine AZ rfl ?_
  cases hM
  exact aR eE2
 ·replace hM := Sum214.on_t310 hx4 hM
  refine r_W (vT #[vA #[vI x21_0, vI x22_1], vB true]) rfl (BT ((rfl : _ = Sum214.v s).trans (show Sum214.v s = Value.iface 310 (vA #[vI x21_0, vI x22_1]) from by rw [hx4]; rfl)) rfl) ?_
  refine rn 3 rfl <| rA rfl fun b26 => ry [0] rfl <| hK3 _ _ ?_
  refine AZ rfl <| AB true rfl (fun _ => ?_) (fun h_ => nomatch h_)
  refine AY [0] rfl ?_
  cases hM
  exact aR eE2
 ·replace hM := Sum214.on_t313 hx4 hM
  refine r_W (vT #[vA #[vI 0, vI 0], vB false]) rfl (BT ((rfl : _ = Sum214.v s).trans (show Sum214.v s = Value.iface 313 (vA #[vI x23_0, vI x24_1]) from by rw [hx4]; rfl)) rfl) ?_
  refine rn 3 rfl <| rA rfl fun b26 => ry [0] rfl <| hK3 _ _ ?_
  refine AZ rfl <| AB false rfl (fun h_ => nomatch h_) (fun _ => ?_)
  refine Af <| hK2 _ _ ?_
  refine Aa fun K28 hK28 => Ai <| rn 1 rfl <| r_W (vT #[vA #[vI x23_0, vI x24_1], vB true]) rfl (BT ((rfl : _ = Sum214.v s).trans (show Sum214.v s = Value.iface 313 (vA #[vI x23_0, vI x24_1]) from by rw [hx4]; rfl)) rfl) ?_
  refine rn 3 rfl <| rA rfl fun b30 => ry [0] rfl <| AZ rfl <| AB true rfl (fun _ => ?_) (fun h_ => nomatch h_)
  refine AY [0] rfl ?_
  cases hM
  exact aR eE2
 ·replace hM := Sum214.on_t366 hx4 hM
  refine r_W (vT #[vA #[vI 0, vI 0], vB false]) rfl (BT ((rfl : _ = Sum214.v s).trans (show Sum214.v s = Value.iface 366 (vA #[]) from by rw [hx4]; rfl)) rfl) ?_
  refine rn 3 rfl <| rA rfl fun b26 => ry [0] rfl <| hK3 _ _ ?_
  refine AZ rfl <| AB false rfl (fun h_ => nomatch h_) (fun _ => ?_)
  refine Af <| hK2 _ _ ?_
  refine Aa fun K28 hK28 => Ai <| rn 1 rfl <| r_W (vT #[vA #[vI 0, vI 0], vB false]) rfl (BT ((rfl : _ = Sum214.v s).trans (show Sum214.v s = Value.iface 366 (vA #[]) from by rw [hx4]; rfl)) rfl) ?_
  refine rn 3 rfl <| rA rfl fun b30 => ry [0] rfl <| AZ rfl <| AB false rfl (fun h_ => nomatch h_) (fun _ => ?_)
  refine Af <| hK28 _ _ ?_
  refine AZ rfl ?_
  cases hM
  exact aR eE2
 replace hM := Sum214.on_t368 hx4 hM
 refine r_W (vT #[vA #[vI 0, vI 0], vB false]) rfl (BT ((rfl : _ = Sum214.v s).trans (show Sum214.v s = Value.iface 368 (vA #[vI x25_0]) from by rw [hx4]; rfl)) rfl) ?_
 refine rn 3 rfl <| rA rfl fun b26 => ry [0] rfl <| hK3 _ _ ?_
 refine AZ rfl <| AB false rfl (fun h_ => nomatch h_) (fun _ => ?_)
 refine Af <| hK2 _ _ ?_
 refine Aa fun K28 hK28 => Ai <| rn 1 rfl <| r_W (vT #[vA #[vI 0, vI 0], vB false]) rfl (BT ((rfl : _ = Sum214.v s).trans (show Sum214.v s = Value.iface 368 (vA #[vI x25_0]) from by rw [hx4]; rfl)) rfl) ?_
 refine rn 3 rfl <| rA rfl fun b30 => ry [0] rfl <| AZ rfl <| AB false rfl (fun h_ => nomatch h_) (fun _ => ?_)
 refine Af <| hK28 _ _ ?_
 refine AZ rfl ?_
 cases hM
 exact aR eE2
def On (N : Nat) (s : Sum214) : Option (Int × Bool) := (Om N s).bind fun r3 => some (r3.1, r3.2)
theorem YV (N s r) (hM : On N s = some r) : Gives prog 391 #[Sum214.v s] (vT #[vI r.1, vB r.2]) := by
 unfold On at hM
 refine Aq follows func391 rfl 8 rfl _ fz1 (fun base0_ => ?_)
 refine AZ rfl <| Ai <| rn 1 rfl <| kB hM fun r3 hr4 hM => rc _ (cF cW) (YS N s _ hr4) <| rz rfl ?_
 cases hM
 exact aR eE2
def HL (N : Nat) (s : Sum214) (at' : Int) (end' : Int) : Option Bool := (On N s).bind fun r3 => if r3.2 = true then ck (-9223372036854775808 ≤ (at' + 1) ∧ (at' + 1) ≤ 9223372036854775807) ((AE N r3.1 (at' + 1) end').bind fun r8 => some r8) else some true
theorem RT (N s at' end' r) (hM : HL N s at' end' = some r) : Gives prog 367 #[Sum214.v s, vI at', vI end'] (vB r) := by
 unfold HL at hM
 refine Aq follows func367 rfl 23 rfl _ fz3 (fun base0_ => ?_)
 refine AZ rfl <| Ai <| rn 1 rfl <| kB hM fun r3 hr4 hM => rc _ (cF da) (YV N s _ hr4) <| rz rfl <| Aa fun K5 hK5 => Ar <| rn 3 rfl ?_
 rcases hg6 : (!(r3.2)) with _ | _
 ·replace hM := ifp (EG hg6) hM
  refine rn 2 rfl <| r_y rfl <| kC hM fun ck7 hM => rX ck7 rfl <| rn 1 rfl <| r_y rfl <| kB hM fun r8 hr9 hM => rc _ (cF Cd) (AJ N r3.1 (at' + 1) end' _ hr9) <| rz rfl <| hK5 _ _ ?_
  cases hM
  exact aR eE1
 replace hM := ifn (Bool.eq_false_iff.1 (EF hg6)) hM
 refine rz rfl <| hK5 _ _ ?_
 cases hM
 exact aR eE1
def IM (N : Nat) (i : Int) (s : Sum214) (c2_ : AN) (c3_ : List Int) (c4_ : List (Int × Int × Int × Int × BitVec 128)) : Option Int := ck (0 ≤ i ∧ i < (c4_.length : Int)) ((RV N c2_ c3_ ((c4_[i.toNat]!).1) ((c4_[i.toNat]!).2.1) ((c4_[i.toNat]!).2.2.1) ((c4_[i.toNat]!).2.2.2.1) ((c4_[i.toNat]!).2.2.2.2)).bind fun r4 => (Al N r4 5).bind fun r6 => (HL N s i (c4_.length : Int)).bind fun r8 => (Al N r8 12).bind fun r10 => (AC N ([r6, r10])).bind fun r15 => some r15)
theorem TG (N i s c2_ c3_ c4_ r) (hM : IM N i s c2_ c3_ c4_ = some r) (ro) (bc2_ : Nat) (c2_v : AH) (hc2_ : Bun35R ro c2_v c2_) (hbc2_ : Blk ro bc2_ (DA c2_ c2_v)) (bc3_ : Nat) (c3_v) (hc3_ : Rd Bf ro c3_v c3_) (hbc3_ : Blk ro bc3_ [c3_v]) (bc4_ : Nat) (c4_v) (hc4_ : Rd enc_56 ro c4_v c4_) (hbc4_ : Blk ro bc4_ [c4_v]) : DoesI prog 365 #[vI i, Sum214.v s, vP bc2_ 0, vP bc3_ 0, vP bc4_ 0] Ej ro [] (pV (vI r)) := by
 unfold IM at hM
 refine AQ follows func365 rfl 24 rfl _ fz5 AW (fun base0_ => ?_)
 refine AZ rfl <| Aa fun K2 hK2 => ?_
 refine BA [(some 14, false), (some 22, false), (some 23, false)] (conG prog [(14, cV (RV N c2_ c3_ ((c4_[i.toNat]!).1) ((c4_[i.toNat]!).2.1) ((c4_[i.toNat]!).2.2.1) ((c4_[i.toNat]!).2.2.2.1) ((c4_[i.toNat]!).2.2.2.2)) fun u0_ => vB u0_), (23, fun _ _ v_ L_ U_ => ∀ u0_, RV N c2_ c3_ ((c4_[i.toNat]!).1) ((c4_[i.toNat]!).2.1) ((c4_[i.toNat]!).2.2.1) ((c4_[i.toNat]!).2.2.2.1) ((c4_[i.toNat]!).2.2.2.2) = some u0_ → ∀ u1_, Al N u0_ 5 = some u1_ → ∀ u2_, HL N s i (c4_.length : Int) = some u2_ → ∀ u3_, Al N u2_ 12 = some u3_ → ∀ u4_, AC N ([u1_, u3_]) = some u4_ → (pV (vI u4_)) v_ L_ U_)]) [] (by decide +kernel) (fun hn => Ba) ?_
 refine Ec (vA (Ag c2_ c2_v)) (vs := (DA c2_ c2_v)) (o := 0) rfl rfl (AM hbc2_) rfl <| Ec c3_v (vs := [c3_v]) (o := 0) rfl rfl (AM hbc3_) rfl <| Ec c4_v (vs := [c4_v]) (o := 0) rfl rfl (AM hbc4_) rfl <| rn 1 rfl <| kC hM fun ck3 hM => rI (Rd.shp hc4_) ck3 rfl <| rE (AA hc4_) ck3 0 rfl <| kB hM fun r4 hr5 hM => rg _ (cF dA) (fun o w z_ => la N c2_ c3_ ((c4_[i.toNat]!).1) ((c4_[i.toNat]!).2.1) ((c4_[i.toNat]!).2.2.1) ((c4_[i.toNat]!).2.2.2.1) ((c4_[i.toNat]!).2.2.2.2) _ hr5 z_.view c2_v (Bun35R.mono z_.ro_cell hc2_) c3_v (z_.r hc3_)) (Ao hr5) <| kB hM fun r6 hr7 hM => rc _ (cF AL) (Az N r4 5 _ hr7) <| rn 2 rfl <| Ec c4_v (vs := [c4_v]) (o := 0) rfl rfl (AM hbc4_) rfl <| rL (Rd.shp hc4_) rfl <| kB hM fun r8 hr9 hM => rc _ (cF dz) (RT N s i (c4_.length : Int) _ hr9) <| kB hM fun r10 hr11 hM => rc _ (cF AL) (Az N r8 12 _ hr11) ?_
 refine BF (Ls := []) 39 Bf [r6, r10] [vI r6, vI r10] [vI 0, vI 0] rfl rfl rfl rfl rfl rfl rfl (by kernel_rfl) (by kernel_rfl) rfl rfl rfl (fun s12 S13 H14 => ?_)
 refine kB hM fun r15 hr16 hM => rg _ (cF BV) (fun o w z_ => (Does.inv (BD N ([r6, r10]) _ hr16 z_.view s12 ((Ap H14 (Ad (Ls := [S13]) (k := 0) rfl rfl)) o w z_)) _)) (fun _ _ v_ L_ U_ => ⟨fun h_ => h_ _ hr5 _ hr7 _ hr9 _ hr11 _ hr16, fun h_ => by intro _ e_; cases Option.some.inj (e_.symm.trans hr5); intro _ e_; cases Option.some.inj (e_.symm.trans hr7); intro _ e_; cases Option.some.inj (e_.symm.trans hr9); intro _ e_; cases Option.some.inj (e_.symm.trans hr11); intro _ e_; cases Option.some.inj (e_.symm.trans hr16); exact h_⟩) ?_
 refine rz rfl <| hK2 _ _ ?_
 cases hM
 exact aR eV1
def Ed (N : Nat) (l' : List Sum214) (ask0_ : AN) (ask1_ : List Int) (ask2_ : List (Int × Int × Int × Int × BitVec 128)) : Nat → Int → Option (Int × Int)
  | 0, _ => none
  | n8 + 1, x1_ => if x1_ < (l'.length : Int) then ck (0 ≤ x1_ ∧ x1_ < (l'.length : Int)) ((IM N x1_ (l'[x1_.toNat]!) ask0_ ask1_ ask2_).bind fun r16 => if (r16 : Int) ≠ 0 then some (x1_, r16) else ck (-9223372036854775808 ≤ (x1_ + 1) ∧ (x1_ + 1) ≤ 9223372036854775807) ((Ed N l' ask0_ ask1_ ask2_ n8) (x1_ + 1))) else some (0, 0)
def Fu (N : Nat) (l' : List Sum214) (most : Int) (ask0_ : AN) (ask1_ : List Int) (ask2_ : List (Int × Int × Int × Int × BitVec 128)) : Option (Int × Int) := if (l'.length : Int) > most then some (0, 2) else Ed N l' ask0_ ask1_ ask2_ N 0
theorem OU (N l' most ask0_ ask1_ ask2_ r) (hM : Fu N l' most ask0_ ask1_ ask2_ = some r) (ro l'v) (hl' : Rd Fh ro l'v l') (bask0_ : Nat) (ask0_v : AH) (hask0_ : Bun35R ro ask0_v ask0_) (hbask0_ : Blk ro bask0_ (DA ask0_ ask0_v)) (bask1_ : Nat) (ask1_v) (hask1_ : Rd Bf ro ask1_v ask1_) (hbask1_ : Blk ro bask1_ [ask1_v]) (bask2_ : Nat) (ask2_v) (hask2_ : Rd enc_56 ro ask2_v ask2_) (hbask2_ : Blk ro bask2_ [ask2_v]) : DoesI prog 364 #[l'v, vI most, vF 365 #[] #[vP bask0_ 0, vP bask1_ 0, vP bask2_ 0]] Ej ro [] (pV (vT #[vI r.1, vI r.2])) := by
 unfold Fu at hM
 refine AQ follows func364 rfl 31 rfl _ fz3 AW (fun base0_ => ?_)
 refine AZ rfl <| Aa fun K2 hK2 => Ai <| rn 1 rfl <| rL (Rd.shp hl') rfl <| rz rfl <| aD hM rfl (fun hc4 hM => ?_) (fun hc4 hM => ?_)
 ·refine AZ rfl ?_
  cases hM
  exact aR eV2
 refine Af <| hK2 _ _ ?_
 refine Aa fun K6 hK6 => Ai <| rn 1 rfl <| rL (Rd.shp hl') rfl <| rz rfl <| Aj <| AU (fun tt ll nn => ∃ (n8 : Nat) (x1_ : Int), (Ed N l' ask0_ ask1_ ask2_ n8 x1_ = some r) ∧ Is [(2, vF 365 #[] #[vP bask0_ 0, vP bask1_ 0, vP bask2_ 0]), (15, l'v), (16, vI (l'.length : Int)), (17, vI x1_)] [] tt ll ∧ nn = n8 + 1) (N + 1) ?_ ?_
 ·exact ⟨N, 0, hM, Ak rfl rfl, rfl⟩
 clear hM; rintro t l _ ⟨n8, x1_, hM, ⟨⟨T, rfl⟩, rfl⟩, rfl⟩
 rcases n8 with _ | n8
 ·exact absurd hM (by simp [Ed])
 rw [Ed] at hM
 refine AZ rfl <| Aa fun K10 hK10 => aD hM rfl (fun hc11 hM => ?_) (fun hc11 hM => ?_)
 ·refine Af <| hK10 _ _ ?_
  refine Aa fun K12 hK12 => Aj <| Ai <| rn 1 rfl <| kC hM fun ck14 hM => rI (Rd.shp hl') ck14 rfl <| rE (AA hl') ck14 0 rfl <| rz rfl <| A_sc [(some 25, false)] (conG prog [(25, cV (IM N x1_ (l'[x1_.toNat]!) ask0_ ask1_ ask2_) fun u0_ => vI u0_)]) <| rn 3 rfl <| kB hM fun r16 hr17 hM => rg _ (AO (caps := [vP bask0_ 0, vP bask1_ 0, vP bask2_ 0]) rfl dB rfl) (fun o w z_ => TG N x1_ (l'[x1_.toNat]!) ask0_ ask1_ ask2_ _ hr17 z_.view bask0_ ask0_v (Bun35R.mono z_.ro_cell hask0_) (AM hbask0_ o w z_) bask1_ ask1_v (z_.r hask1_) (AM hbask1_ o w z_) bask2_ ask2_v (z_.r hask2_) (AM hbask2_ o w z_)) (Ao hr17) <| rz rfl <| AZ rfl <| aN hM rfl (fun hc19 hM => ?_) (fun hc19 hM => ?_)
  ·refine AZ rfl ?_
   cases hM
   exact aR eV2
  refine Af <| hK12 _ _ ?_
  refine Ar <| kC hM fun ck21 hM => rX ck21 rfl <| rz rfl <| fg _ (Sub.of suN) ?_
  exact ⟨n8 + 1, by omega, n8, (x1_ + 1), hM, Ak rfl rfl, rfl⟩
 refine AS <| hK6 _ _ ?_
 refine AZ rfl ?_
 cases hM
 exact aR eV2
def FR (N : Nat) (m : AN) (params : List Int) (l' : List (Int × Int × Int × Int × BitVec 128)) : Option Int := if (params.length : Int) > 8 then some 2 else (Lh N l').bind fun r10 => if (r10.2.2 : Int) ≠ 0 then some r10.2.2 else (Fu N r10.1 64 m params l').bind fun r20 => some r20.2
theorem Qk (N m params l' r) (hM : FR N m params l' = some r) (ro) (mv : AH) (hm : Bun35R ro mv m) (paramsv) (hparams : Rd Bf ro paramsv params) (l'v) (hl' : Rd enc_56 ro l'v l') : DoesI prog 308 #[vA (Ag m mv), paramsv, l'v] Ej ro [] (pV (vI r)) := by
 unfold FR at hM
 refine AQ follows func308 rfl 29 rfl _ fz3 AW (fun base0_ => ?_)
 refine Ai <| rA rfl fun b2 => r_a (29, #[paramsv]) rfl rfl (KB rfl (Rd.shp hparams)) (fun b3 => ?_) (.inr rfl)
 refine r_a (49, #[l'v]) rfl rfl (KB rfl (Rd.shp hl')) (fun b4 => ?_) (.inr rfl)
 refine rz rfl <| Aa fun K5 hK5 => Ai <| rm 1 [1] rfl <| rL (Rd.shp hparams) rfl <| rz rfl <| aD hM rfl (fun hc7 hM => ?_) (fun hc7 hM => ?_)
 ·refine AZ rfl ?_
  cases hM
  exact aR eV1
 refine Af <| hK5 _ _ ?_
 refine A_sc [(some 15, false)] (conG prog [(15, fun _ _ v_ L_ U_ => ∀ u0_, Lh N l' = some u0_ → (p1 (fun s_ => vT #[s_, vI u0_.2.1, vI u0_.2.2]) 214 Fh u0_.1) v_ L_ U_)]) <| rm 1 [0] rfl <| kB hM fun r10 hr11 hM => AP (Ls := [(Zy b4 l'v), (Zz b3 paramsv), [(b2, 35, (Ag m mv))]]) (fun s12 => vT #[s12, vI r10.2.1, vI r10.2.2]) 214 Fh r10.1 138 _ rfl rfl rfl (cF Yd) (fun o w z_ => (Does.inv (ZN N l' _ hr11 z_.view l'v ((AA hl') o w z_)) _)) (Ao hr11) (fun s12 S13 H14 => ?_)
 refine rz rfl <| Aa fun K15 hK15 => AZ rfl <| aN hM rfl (fun hc17 hM => ?_) (fun hc17 hM => ?_)
 ·refine AZ rfl ?_
  cases hM
  exact aR eV1
 refine Af <| hK15 _ _ ?_
 refine A_sc [(some 25, false)] (conG prog [(25, cV (Fu N r10.1 64 m params l') fun u0_ => vT #[vI u0_.1, vI u0_.2])]) <| rn 1 rfl <| r_W (vF 365 #[] #[vP b2 0, vP b3 0, vP b4 0]) rfl (EM rfl) <| kB hM fun r20 hr21 hM => rg _ (cF dC) (fun o w z_ => OU N r10.1 64 m params l' _ hr21 z_.view s12 ((Ap H14 (Ad (Ls := [(Zy b4 l'v), (Zz b3 paramsv), [(b2, 35, (Ag m mv))], S13]) (k := 3) rfl rfl)) o w z_) b2 mv (Bun35R.mono z_.ro_cell hm) (BR 2 rfl rfl o w z_) b3 paramsv (z_.r hparams) (BR 1 rfl rfl o w z_) b4 l'v ((AA hl') o w z_) (BR 0 rfl rfl o w z_)) (Ao hr21) <| rz rfl <| DJ [(9, vI r20.2)] rfl (fun T => ?_)
 refine AZ rfl ?_
 cases hM
 exact aR eV1
def GM (N : Nat) (c : AN) (_ : List UInt8) (x_1 : List Int) (x_2 : List (Int × Int × Int × Int × BitVec 128)) : Option Int := (KS N x_1 8).bind fun r5 => (FR N c x_1 x_2).bind fun r8 => (AC N ([r5.2, r8])).bind fun r13 => some r13
theorem Ud (N c x_0 x_1 x_2 r) (hM : GM N c x_0 x_1 x_2 = some r) (ro) (cv : AH) (hc : Bun35R ro cv c) (x_1v) (hx_1 : Rd Bf ro x_1v x_1) (x_2v) (hx_2 : Rd enc_56 ro x_2v x_2) : DoesI prog 244 #[vA (Ag c cv), vA #[vS x_0, x_1v, x_2v]] Ej ro [] (pV (vI r)) := by
 unfold GM at hM
 refine AQ follows func244 rfl 23 rfl _ fz2 AW (fun base0_ => ?_)
 refine Ai <| rA rfl fun b2 => rA rfl fun b3 => rz rfl <| A_sc [(some 10, false)] (conG prog [(10, cV (KS N x_1 8) fun u0_ => vT #[vI u0_.1, vI u0_.2])]) <| rm 2 [0] rfl <| kB hM fun r5 hr6 hM => rg _ (cF Pj) (fun o w z_ => (Does.inv (WQ N x_1 8 _ hr6 z_.view x_1v (z_.r hx_1)) _)) (Ao hr6) <| rz rfl <| A_sc [(some 20, false), (some 21, false), (some 22, false)] (conG prog [(20, cV (FR N c x_1 x_2) fun u0_ => vI u0_), (22, fun _ _ v_ L_ U_ => ∀ u0_, FR N c x_1 x_2 = some u0_ → ∀ u1_, AC N ([r5.2, u0_]) = some u1_ → (pV (vI u1_)) v_ L_ U_)]) <| rn 2 rfl ?_
 refine rm 5 [1, 0, 0] rfl <| kB hM fun r8 hr9 hM => rg _ (cF XN) (fun o w z_ => Qk N c x_1 x_2 _ hr9 z_.view cv (Bun35R.mono z_.ro_cell hc) x_1v (z_.r hx_1) x_2v (z_.r hx_2)) (Ao hr9) ?_
 refine BF (Ls := [(OQ b3 x_0 x_1v x_2v), [(b2, 238, (Ag c cv))]]) 39 Bf [r5.2, r8] [vI r5.2, vI r8] [vI 0, vI 0] rfl rfl rfl rfl rfl rfl rfl (by kernel_rfl) (by kernel_rfl) rfl rfl rfl (fun s10 S11 H12 => ?_)
 refine kB hM fun r13 hr14 hM => rg _ (cF BV) (fun o w z_ => (Does.inv (BD N ([r5.2, r8]) _ hr14 z_.view s10 ((Ap H12 (Ad (Ls := [(OQ b3 x_0 x_1v x_2v), [(b2, 238, (Ag c cv))], S11]) (k := 2) rfl rfl)) o w z_)) _)) (fun _ _ v_ L_ U_ => ⟨fun h_ => h_ _ hr9 _ hr14, fun h_ => by intro _ e_; cases Option.some.inj (e_.symm.trans hr9); intro _ e_; cases Option.some.inj (e_.symm.trans hr14); exact h_⟩) ?_
 refine rz rfl ?_
 cases hM
 exact aR eV1
def Gt (N : Nat) (i : Int) (x_0 : List UInt8) (x_1 : List Int) (x_2 : List (Int × Int × Int × Int × BitVec 128)) (c2_ : List (List UInt8)) (c3_p0_0_ : AN) : Option Int := ck (0 ≤ i ∧ i < (c2_.length : Int)) ((Df N (c2_[i.toNat]!)).bind fun r5 => (Al N r5 4).bind fun r7 => (Bb N c2_ i).bind fun r9 => (GM N c3_p0_0_ x_0 x_1 x_2).bind fun r11 => (AC N ([r7, r9, r11])).bind fun r16 => some r16)
theorem PJ (N i x_0 x_1 x_2 c2_ c3_p0_0_ r) (hM : Gt N i x_0 x_1 x_2 c2_ c3_p0_0_ = some r) (ro x_1v) (hx_1 : Rd Bf ro x_1v x_1) (x_2v) (hx_2 : Rd enc_56 ro x_2v x_2) (bc2_ : Nat) (c2_v) (hc2_ : Rd Bz ro c2_v c2_) (hbc2_ : Blk ro bc2_ [c2_v]) (bc3_ : Nat) (c3_p0_0_v : AH) (hc3_p0_0_ : Bun35R ro c3_p0_0_v c3_p0_0_) (hbc3_ : Blk ro bc3_ [vF 244 #[vA (Ag c3_p0_0_ c3_p0_0_v)] #[]]) : DoesI prog 306 #[vI i, vA #[vS x_0, x_1v, x_2v], vP bc2_ 0, vP bc3_ 0] Ej ro [] (pV (vI r)) := by
 unfold Gt at hM
 refine AQ follows func306 rfl 21 rfl _ fz4 AW (fun base0_ => ?_)
 refine Ai <| rA rfl fun b2 => rz rfl <| Aa fun K3 hK3 => ?_
 refine BA [(some 15, false), (some 18, false), (some 19, false), (some 20, false)] (conG prog [(15, cV (Bb N c2_ i) fun u0_ => vI u0_), (18, cV (GM N c3_p0_0_ x_0 x_1 x_2) fun u0_ => vI u0_), (20, fun _ _ v_ L_ U_ => ∀ u0_, Df N (c2_[i.toNat]!) = some u0_ → ∀ u1_, Al N u0_ 4 = some u1_ → ∀ u2_, Bb N c2_ i = some u2_ → ∀ u3_, GM N c3_p0_0_ x_0 x_1 x_2 = some u3_ → ∀ u4_, AC N ([u1_, u2_, u3_]) = some u4_ → (pV (vI u4_)) v_ L_ U_)]) [] (by decide +kernel) (fun hn => Ba) ?_
 refine Ec c2_v (vs := [c2_v]) (o := 0) rfl rfl (AM hbc2_) rfl <| rn 1 rfl <| kC hM fun ck4 hM => rI (Rd.shp hc2_) ck4 rfl <| rE (AA hc2_) ck4 0 rfl <| kB hM fun r5 hr6 hM => rc _ (cF Kz) (Iz N (c2_[i.toNat]!) _ hr6) <| kB hM fun r7 hr8 hM => rc _ (cF AL) (Az N r5 4 _ hr8) <| Ec c2_v (vs := [c2_v]) (o := 0) rfl rfl (AM hbc2_) rfl <| rn 1 rfl <| kB hM fun r9 hr10 hM => rg _ (cF Jt) (fun o w z_ => (Does.inv (Es N c2_ i _ hr10 z_.view c2_v (z_.r hc2_)) _)) (Ao hr10) <| Ec (vF 244 #[vA (Ag c3_p0_0_ c3_p0_0_v)] #[]) (vs := [vF 244 #[vA (Ag c3_p0_0_ c3_p0_0_v)] #[]]) (o := 0) rfl rfl (AM hbc3_) rfl <| rm 1 [0] rfl <| kB hM fun r11 hr12 hM => rg _ (Nd (bd := [vA (Ag c3_p0_0_ c3_p0_0_v)]) (caps := []) rfl fp rfl) (fun o w z_ => Ud N c3_p0_0_ x_0 x_1 x_2 _ hr12 z_.view c3_p0_0_v (Bun35R.mono z_.ro_cell hc3_p0_0_) x_1v (z_.r hx_1) x_2v (z_.r hx_2)) (Ao hr12) ?_
 refine BF (Ls := [(OQ b2 x_0 x_1v x_2v)]) 39 Bf [r7, r9, r11] [vI r7, vI r9, vI r11] [vI 0, vI 0, vI 0] rfl rfl rfl rfl rfl rfl rfl (by kernel_rfl) (by kernel_rfl) rfl rfl rfl (fun s13 S14 H15 => ?_)
 refine kB hM fun r16 hr17 hM => rg _ (cF BV) (fun o w z_ => (Does.inv (BD N ([r7, r9, r11]) _ hr17 z_.view s13 ((Ap H15 (Ad (Ls := [(OQ b2 x_0 x_1v x_2v), S14]) (k := 1) rfl rfl)) o w z_)) _)) (fun _ _ v_ L_ U_ => ⟨fun h_ => h_ _ hr6 _ hr8 _ hr10 _ hr12 _ hr17, fun h_ => by intro _ e_; cases Option.some.inj (e_.symm.trans hr6); intro _ e_; cases Option.some.inj (e_.symm.trans hr8); intro _ e_; cases Option.some.inj (e_.symm.trans hr10); intro _ e_; cases Option.some.inj (e_.symm.trans hr12); intro _ e_; cases Option.some.inj (e_.symm.trans hr17); exact h_⟩) ?_
 refine rz rfl <| hK3 _ _ ?_
 cases hM
 exact aR eV1
def EZ (N : Nat) (l' : List ((List UInt8) × (List Int) × (List (Int × Int × Int × Int × BitVec 128)))) (ask0_ : List (List UInt8)) (ask1_p0_0_ : AN) : Nat → Int → Option (Int × Int)
  | 0, _ => none
  | n8 + 1, x1_ => if x1_ < (l'.length : Int) then ck (0 ≤ x1_ ∧ x1_ < (l'.length : Int)) ((Gt N x1_ (l'[x1_.toNat]!.1) (l'[x1_.toNat]!.2.1) (l'[x1_.toNat]!.2.2) ask0_ ask1_p0_0_).bind fun r22 => if (r22 : Int) ≠ 0 then some (x1_, r22) else ck (-9223372036854775808 ≤ (x1_ + 1) ∧ (x1_ + 1) ≤ 9223372036854775807) ((EZ N l' ask0_ ask1_p0_0_ n8) (x1_ + 1))) else some (0, 0)
def Ig (N : Nat) (l' : List ((List UInt8) × (List Int) × (List (Int × Int × Int × Int × BitVec 128)))) (most : Int) (ask0_ : List (List UInt8)) (ask1_p0_0_ : AN) : Option (Int × Int) := if (l'.length : Int) > most then some (0, 2) else EZ N l' ask0_ ask1_p0_0_ N 0
theorem Sg (N l' most ask0_ ask1_p0_0_ r) (hM : Ig N l' most ask0_ ask1_p0_0_ = some r) (ro l'v) (hl' : RdN Hk ro l'v l') (bask0_ : Nat) (ask0_v) (hask0_ : Rd Bz ro ask0_v ask0_) (hbask0_ : Blk ro bask0_ [ask0_v]) (bask1_ : Nat) (ask1_p0_0_v : AH) (hask1_p0_0_ : Bun35R ro ask1_p0_0_v ask1_p0_0_) (hbask1_ : Blk ro bask1_ [vF 244 #[vA (Ag ask1_p0_0_ ask1_p0_0_v)] #[]]) : DoesI prog 305 #[l'v, vI most, vF 306 #[] #[vP bask0_ 0, vP bask1_ 0]] Ej ro [] (pV (vT #[vI r.1, vI r.2])) := by
 unfold Ig at hM
 refine AQ follows func305 rfl 31 rfl _ fz3 AW (fun base0_ => ?_)
 refine AZ rfl <| Aa fun K2 hK2 => Ai <| rn 1 rfl <| rL (RdN.shp hl') rfl <| rz rfl <| aD hM rfl (fun hc4 hM => ?_) (fun hc4 hM => ?_)
 ·refine AZ rfl ?_
  cases hM
  exact aR eV2
 refine Af <| hK2 _ _ ?_
 refine Aa fun K6 hK6 => Ai <| rn 1 rfl <| rL (RdN.shp hl') rfl <| rz rfl <| Aj <| AU (fun tt ll nn => ∃ (n8 : Nat) (x1_ : Int), (EZ N l' ask0_ ask1_p0_0_ n8 x1_ = some r) ∧ Is [(2, vF 306 #[] #[vP bask0_ 0, vP bask1_ 0]), (15, l'v), (16, vI (l'.length : Int)), (17, vI x1_)] [] tt ll ∧ nn = n8 + 1) (N + 1) ?_ ?_
 ·exact ⟨N, 0, hM, Ak rfl rfl, rfl⟩
 clear hM; rintro t l _ ⟨n8, x1_, hM, ⟨⟨T, rfl⟩, rfl⟩, rfl⟩
 rcases n8 with _ | n8
 ·exact absurd hM (by simp [EZ])
 rw [EZ] at hM
 refine AZ rfl <| Aa fun K10 hK10 => aD hM rfl (fun hc11 hM => ?_) (fun hc11 hM => ?_)
 ·refine Af <| hK10 _ _ ?_
  refine Aa fun K12 hK12 => Aj <| Ai <| rn 1 rfl <| kC hM fun ck14 hM => ?_
  obtain ⟨_, ⟨s15, s16, hs17, hs18, rfl⟩, hat19⟩ := RdN.at (E := Hk) hl' (CP ck14)
  refine rI (RdN.shp hl') ck14 rfl <| Mv (vA #[vS (l'[x1_.toNat]!.1), s15, s16]) (vs := [vS (l'[x1_.toNat]!.1), s15, s16]) (x1_.toNat * 3) 0 rfl rfl (fun o w z_ => At.mono z_.ro_cell hat19) rfl <| rA rfl fun b20 => rn 1 rfl <| r_s (OQ b20 (l'[x1_.toNat]!.1) s15 s16) 0 _ _ _ _ _ (#[vS (l'[x1_.toNat]!.1), s15, s16]) rfl rfl rfl rfl (.ofS rfl rfl (Ab rfl (Ab (Shp.one (Rd.shp hs17)) (Ab (Shp.one (Rd.shp hs18)) Bh)))) rfl rfl <| As <| A_sc [(some 25, false)] (conG prog [(25, cV (Gt N x1_ (l'[x1_.toNat]!.1) (l'[x1_.toNat]!.2.1) (l'[x1_.toNat]!.2.2) ask0_ ask1_p0_0_) fun u0_ => vI u0_)]) <| rm 3 [0] rfl <| kB hM fun r22 hr23 hM => rg _ (AO (caps := [vP bask0_ 0, vP bask1_ 0]) rfl eB rfl) (fun o w z_ => PJ N x1_ (l'[x1_.toNat]!.1) (l'[x1_.toNat]!.2.1) (l'[x1_.toNat]!.2.2) ask0_ ask1_p0_0_ _ hr23 z_.view s15 (z_.r hs17) s16 (z_.r hs18) bask0_ ask0_v (z_.r hask0_) (AM hbask0_ o w z_) bask1_ ask1_p0_0_v (Bun35R.mono z_.ro_cell hask1_p0_0_) (AM hbask1_ o w z_)) (Ao hr23) <| rz rfl <| AZ rfl <| aN hM rfl (fun hc25 hM => ?_) (fun hc25 hM => ?_)
  ·refine AZ rfl ?_
   cases hM
   exact aR eV2
  refine Af <| hK12 _ _ ?_
  refine Ar <| kC hM fun ck27 hM => rX ck27 rfl <| rz rfl <| fg _ (Sub.of (suC _ suN)) ?_
  exact ⟨n8 + 1, by omega, n8, (x1_ + 1), hM, Ak rfl rfl, rfl⟩
 refine AS <| hK6 _ _ ?_
 refine AZ rfl ?_
 cases hM
 exact aR eV2
def HV (N : Nat) (l' : List ((List UInt8) × (List Int) × (List (Int × Int × Int × Int × BitVec 128)))) (most : Int) (ask0_ : AN) : Option (Int × Int) := (HY N l').bind fun r4 => (Ig N l' most r4 ask0_).bind fun r11 => some (r11.1, r11.2)
theorem Sa (N l' most ask0_ r) (hM : HV N l' most ask0_ = some r) (ro l'v) (hl' : RdN Hk ro l'v l') (ask0_v : AH) (hask0_ : Bun35R ro ask0_v ask0_) : DoesI prog 242 #[l'v, vI most, vF 243 #[] #[], vF 244 #[vA (Ag ask0_ ask0_v)] #[]] Ej ro [] (pV (vT #[vI r.1, vI r.2])) := by
 unfold HV at hM
 refine AQ follows func242 rfl 20 rfl _ fz4 AW (fun base0_ => ?_)
 refine Ai <| rA rfl fun b2 => rz rfl <| A_sc [(some 13, false)] (conG prog [(13, fun _ _ v_ L_ U_ => ∀ u0_, HY N l' = some u0_ → (p1 (fun s_ => s_) 9 Bz u0_) v_ L_ U_)]) <| rn 2 rfl <| kB hM fun r4 hr5 hM => AP (Ls := [(RO b2 (vF 244 #[vA (Ag ask0_ ask0_v)] #[]))]) (fun s6 => s6) 9 Bz r4 304 _ rfl rfl rfl (cF eD) (fun o w z_ => (Does.inv (Se N l' _ hr5 z_.view l'v (RdN.mono z_.ro_cell hl')) _)) (Ao hr5) (fun s6 S7 H8 => ?_)
 refine rA rfl fun b9 => r_s (List.flatten [(Zx b9 s6), (RO b2 (vF 244 #[vA (Ag ask0_ ask0_v)] #[])), S7]) 0 _ _ _ _ _ (#[s6]) rfl rfl rfl (AI rfl (Sl.shp H8)) (.ofS rfl rfl (Ab (Shp.one (Sl.shp H8)) Bh)) rfl rfl <| As <| A_sc [(some 17, false)] (conG prog [(17, cV (Ig N l' most r4 ask0_) fun u0_ => vT #[vI u0_.1, vI u0_.2])]) <| rn 2 rfl <| r_W (vF 306 #[] #[vP b9 0, vP b2 0]) rfl (EM rfl) <| kB hM fun r11 hr12 hM => rg _ (cF eC) (fun o w z_ => Sg N l' most r4 ask0_ _ hr12 z_.view l'v (RdN.mono z_.ro_cell hl') b9 s6 ((Ap H8 (Ad (Ls := [(Zx b9 s6), (RO b2 (vF 244 #[vA (Ag ask0_ ask0_v)] #[])), S7]) (k := 2) rfl rfl)) o w z_) (BR 0 rfl rfl o w z_) b2 ask0_v (Bun35R.mono z_.ro_cell hask0_) (BR 1 rfl rfl o w z_)) (Ao hr12) <| rz rfl ?_
 cases hM
 exact aR eV2
end Go.Proofs.YthafnifhhblkbaaGreatDoor
