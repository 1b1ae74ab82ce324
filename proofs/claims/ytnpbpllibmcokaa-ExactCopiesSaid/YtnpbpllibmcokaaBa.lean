/- models of functions and their walks -/
import Derived.Test.YtnpbpllibmcokaaIt
import Derived.Test.YtnpbpllibmcokaaYt
import Derived.Test.YtnpbpllibmcokaaAs
import Derived.Test.YtnpbpllibmcokaaBu
import Derived.Test.YtnpbpllibmcokaaMove
import Derived.Test.YtnpbpllibmcokaaReft
import Derived.Test.YtnpbpllibmcokaaGx
import Derived.Test.YtnpbpllibmcokaaRs
import Derived.Test.YtnpbpllibmcokaaRv
import Derived.Test.YtnpbpllibmcokaaOs
import Derived.Test.YtnpbpllibmcokaaSs
namespace Go.Proofs.Ytnpbpllibmcokaa
open Go Go.RowKit Go.Eng
abbrev kBa53_0 (b : Nat) (x0 : Value) (x1 : Int) (x2 : Int) : List Bl := [(b, 53, #[x0, vI x1, vI x2])]
abbrev kBa31_1 (b : Nat) (x0 : Int) (x1 : BitVec 64) (x2 : BitVec 64) : List Bl := [(b, 31, #[vI x0, U x1, U x2])]
abbrev kBa23_2 (b : Nat) (x0 : Value) : List Bl := [(b, 23, #[x0])]
abbrev kBa3_3 (b : Nat) (x0 : Int) : List Bl := [(b, 3, #[vI x0])]
abbrev kBa33_4 (b : Nat) (x0 : Int) (x1 : Int) (x2 : Int) (x3 : BitVec 64) (x4 : BitVec 64) : List Bl := [(b, 33, #[vI x0, vI x1, vI x2, U x3, U x4])]
abbrev kBa40_5 (b : Nat) (x0 : Int) (x1 : BitVec 64) (x2 : BitVec 64) (x3 : Int) : List Bl := [(b, 40, #[vI x0, U x1, U x2, vI x3])]
def enc_33 : Enc (Int × Int × Int × BitVec 128) := ⟨fun x => [vI x.1, vI x.2.1, vI x.2.2.1, U (hi x.2.2.2), U (lo x.2.2.2)], 5, by decide, fun _ => rfl, fun x v h => by simp only [List.mem_cons, List.not_mem_nil, or_false] at h; rcases h with rfl | rfl | rfl | rfl | rfl <;> rfl, True⟩
def enc_40 : Enc (Int × BitVec 128 × Int) := ⟨fun x => [vI x.1, U (hi x.2.1), U (lo x.2.1), vI x.2.2], 4, by decide, fun _ => rfl, fun x v h => by simp only [List.mem_cons, List.not_mem_nil, or_false] at h; rcases h with rfl | rfl | rfl | rfl <;> rfl, True⟩
def enc_41 : Enc (Int × BitVec 128 × Int) := ⟨fun x => [vI x.1, U (hi x.2.1), U (lo x.2.1), vI x.2.2], 4, by decide, fun _ => rfl, fun x v h => by simp only [List.mem_cons, List.not_mem_nil, or_false] at h; rcases h with rfl | rfl | rfl | rfl <;> rfl, True⟩
inductive Sum23 where
  | nil
  | t53 (x0 : List (Int × BitVec 128 × Int)) (x1 : Int) (x2 : Int)
  deriving Inhabited
def Sum23.on {β : Type} (x : Sum23) (a : β) (f53 : (List (Int × BitVec 128 × Int)) → Int → Int → β) : β := match x with | .nil => a | .t53 x0 x1 x2 => f53 x0 x1 x2
theorem Sum23.on_nil  {β : Type} {x : Sum23} {a r : β} {f53 : (List (Int × BitVec 128 × Int)) → Int → Int → β} (h : x = .nil) (e : Sum23.on x a f53 = r) : a = r := by subst h; exact e
theorem Sum23.at_nil  {β : Type} {a : β} {f53 : (List (Int × BitVec 128 × Int)) → Int → Int → β} : Sum23.on .nil a f53 = a := rfl
theorem Sum23.at_t53  {β : Type} {a : β} {f53 : (List (Int × BitVec 128 × Int)) → Int → Int → β} {x0 : List (Int × BitVec 128 × Int)} {x1 : Int} {x2 : Int} : Sum23.on (.t53 x0 x1 x2) a f53 = f53 x0 x1 x2 := rfl
theorem Sum23.on_t53  {β : Type} {x : Sum23} {a r : β} {f53 : (List (Int × BitVec 128 × Int)) → Int → Int → β} {x0 : List (Int × BitVec 128 × Int)} {x1 : Int} {x2 : Int} (h : x = .t53 x0 x1 x2) (e : Sum23.on x a f53 = r) : f53 x0 x1 x2 = r := by subst h; exact e
def Sum23.onP (x : Sum23) (a : PO) (f53 : (List (Int × BitVec 128 × Int)) → Int → Int → PO) : PO := match x with | .nil => a | .t53 x0 x1 x2 => f53 x0 x1 x2
theorem Sum23.onP_nil  {x : Sum23} {a : PO} {f53 : (List (Int × BitVec 128 × Int)) → Int → Int → PO} {v : Value} {O : List (List Bl)} (h : x = .nil) (e : Sum23.onP x a f53 v O) : a v O := by subst h; exact e
theorem Sum23.onP_t53  {x : Sum23} {a : PO} {f53 : (List (Int × BitVec 128 × Int)) → Int → Int → PO} {x0 : List (Int × BitVec 128 × Int)} {x1 : Int} {x2 : Int} {v : Value} {O : List (List Bl)} (h : x = .t53 x0 x1 x2) (e : Sum23.onP x a f53 v O) : f53 x0 x1 x2 v O := by subst h; exact e
theorem Sum23.niceP  {x : Sum23} {a : PO} {f53 : (List (Int × BitVec 128 × Int)) → Int → Int → PO} {R : List Bl} (h : NiceO a R) (h53 : ∀ x0 x1 x2, NiceO (f53 x0 x1 x2) R) : NiceO (Sum23.onP x a f53) R := by cases x with | nil => exact h | t53 => exact h53 _ _ _
theorem Sum23.cases (x : Sum23) : x = .nil ∨ (∃ x0 x1 x2, x = .t53 x0 x1 x2) := by cases x <;> simp
def exact_New_k1 (most : Int) (b4 : Bool) : Option Sum23 := if b4 = true then some (.nil) else ck (-9223372036854775808 ≤ (2 * most) ∧ (2 * most) ≤ 9223372036854775807) (ck (0 ≤ (2 * most) ∧ (2 * most) ≤ 4398046511104) (some ((.t53 (List.replicate ((2 * most)).toNat (0, (0#64) ++ (0#64), 0)) 0 most))))
def exact_New_m (_ : Nat) (most : Int) : Option Sum23 := if most < 1 then exact_New_k1 most true else exact_New_k1 most (decide (most > 256))
set_option maxRecDepth 100000 in
set_option maxHeartbeats 8000000 in
theorem exact_New_g (N : Nat) (most : Int) (r) (hM : exact_New_m N most = some r) (ro : Addr → Option Value) : Does Try.prog 7 #[vI most] ro [] (pO [] (Sum23.onP r (oE (Value.pointer none) []) (fun y0_0 y0_1 y0_2 => (oS 40 enc_40 y0_0 fun ss_0_0 => (oB 53 #[ss_0_0, vI y0_1, vI y0_2] fun bs_0 => (oE (vP bs_0 0) [])))))) := by
 unfold exact_New_m at hM
 refine doesO_of_A follows Try.func7 rfl 15 rfl (upd (fun _ => undef) 0 (vI most)) (by funext k; match k with | 0 => rfl | k + 1 => rfl) (fun _ _ h_ _ => h_) (fun base0_ => ?_)
 refine A_sr <| r_V (Value.pointer none) rfl <| lx_nil <| A_seq fun K2 hK2 => A_seq fun K3 hK3 => A_reg <| r_R [vI most, vB (decide (most < 1)), vB (decide (most < 1))] rfl <| lx_jn 3 8 [(0, vI most)] vB (fun b_ => exact_New_k1 most b_ = some r) (fun b4 hM T => ?_) (fun HJ => ?_)
 ·unfold exact_New_k1 at hM
  refine lx_nil <| hK3 _ _ ?_; try clear hK3 K3
  refine A_cond b4 rfl (fun hc5 => ?_) (fun hc5 => ?_)
  ·replace hM := ifp hc5 hM
   refine A_sr <| r_V (Value.pointer none) rfl <| lx_nil ?_
   obtain rfl := Option.some.inj hM
   refine A_ret (fun hn => endsO (v0 := Value.pointer none) (O := []) (res1 rfl) (Sub.nil _) ⟨rfl, rfl⟩)
  replace hM := ifn (Bool.eq_false_iff.1 hc5) hM
  refine A_skip <| hK2 _ _ ?_; try clear hK2 K2
  refine A_sr <| r_V (vI most) rfl ?_
  obtain ⟨ck8, hM⟩ := ck_some hM
  refine r_X (vI (2 * most)) rfl (wi64 rfl ck8.1 ck8.2) rfl ?_
  obtain ⟨ck9, hM⟩ := ck_some hM
  refine cB 11 <| r_mk (Ls := []) 40 enc_40 (0, (0#64) ++ (0#64), 0) (2 * most) rfl rfl rfl rfl rfl rfl rfl rfl rfl rfl 4398046511104 rfl ck9 (fun _ _ _ _ _ => Iff.rfl) (fun s10 S11 H12 => ?_)
  refine r_V (vI most) rfl <| r_W (vA #[s10, vI 0, vI most]) rfl (ev_buildSC rfl rfl rfl (pc_cons (cells_sl rfl (Sl.shp H12)) (pc_cons rfl pc_nil)) rfl) <| r_a (53, #[s10, vI 0, vI most]) rfl rfl rfl (fun b13 => ?_) (.inr rfl)
  refine r_V (vP b13 0) rfl <| lx_nil ?_
  obtain rfl := Option.some.inj hM
  refine A_ret (fun hn => endsO (v0 := vP b13 0) (O := [S11, (kBa53_0 b13 s10 0 most)]) (res1 rfl) (Sub.pick [(kBa53_0 b13 s10 0 most), S11] [1, 0] rfl) ⟨s10, S11, _, H12, ⟨b13, _, ⟨rfl, rfl⟩, rfl⟩, rfl⟩)
 rcases hg14 : (decide (most < 1)) with _ | _
 ·replace hM := ifn (of_decide_eq_false hg14) hM
  refine r_R [vI most, vB (decide (most > 256)), vB (decide (most > 256))] rfl ?_
  first | exact HJ _ _ hM rfl rfl | exact lx_cn _ _ (HJ _ _ hM rfl rfl)
 replace hM := ifp (of_decide_eq_true hg14) hM
 refine r_R [none, none, vB true] rfl ?_
 first | exact HJ _ _ hM rfl rfl | exact lx_cn _ _ (HJ _ _ hM rfl rfl)
def vec_mayWidth_m (_ : Nat) (w : Int) : Option Bool := if w ≥ 1 then some (decide (w ≤ 128)) else some false
set_option maxRecDepth 100000 in
set_option maxHeartbeats 8000000 in
theorem vec_mayWidth_g (N : Nat) (w : Int) (r) (hM : vec_mayWidth_m N w = some r) : Gives Try.prog 65 #[vI w] (vB r) := by
 unfold vec_mayWidth_m at hM
 refine gives_of_A follows Try.func65 rfl 9 rfl (upd (fun _ => undef) 0 (vI w)) (by funext k; match k with | 0 => rfl | k + 1 => rfl) (fun base0_ => ?_)
 refine A_sr <| r_V (vB false) rfl <| lx_nil <| A_seq fun K2 hK2 => A_reg <| r_R [vI w, vB (decide (w ≥ 1)), vB (decide (w ≥ 1))] rfl ?_
 rcases hg3 : (decide (w ≥ 1)) with _ | _
 ·replace hM := ifn (of_decide_eq_false hg3) hM
  refine r_R [none, none, vB false, vB false] rfl <| lx_nil <| hK2 _ _ ?_; try clear hK2 K2
  obtain rfl := Option.some.inj hM
  refine A_ret (fun hn => ends_eq (v0 := vB false) rfl (res1 rfl))
 replace hM := ifp (of_decide_eq_true hg3) hM
 refine r_R [vI w, vB (decide (w ≤ 128)), vB (decide (w ≤ 128)), vB (decide (w ≤ 128))] rfl <| lx_nil <| hK2 _ _ ?_; try clear hK2 K2
 obtain rfl := Option.some.inj hM
 refine A_ret (fun hn => ends_eq (v0 := vB (decide (w ≤ 128))) rfl (res1 rfl))
def vec_Word_m (_ : Nat) (_ : Int) (v_1 : BitVec 128) : Option (BitVec 128) := some v_1
set_option maxRecDepth 100000 in
set_option maxHeartbeats 8000000 in
theorem vec_Word_g (N : Nat) (v_0 : Int) (v_1 r : BitVec 128) (hM : vec_Word_m N v_0 v_1 = some r) : Gives Try.prog 30 #[vA #[vI v_0, U (hi v_1), U (lo v_1)]] (vA #[U (hi r), U (lo r)]) := by
 unfold vec_Word_m at hM
 refine gives_of_A follows Try.func30 rfl 8 rfl (upd (fun _ => undef) 0 (vA #[vI v_0, U (hi v_1), U (lo v_1)])) (by funext k; match k with | 0 => rfl | k + 1 => rfl) (fun base0_ => ?_)
 refine A_sr <| r_a (31, #[vI v_0, U (hi v_1), U (lo v_1)]) rfl rfl rfl (fun b2 => ?_) (.inr rfl)
 refine r_a (64, #[U (0#64), U (0#64)]) rfl rfl rfl (fun b3 => ?_) (.inr rfl)
 refine lx_nil <| A_sr <| r_V (vP b2 1) rfl <| r_l (U (hi v_1)) 1 _ _ _ _ rfl rfl rfl rfl rfl <| r_V (vP b2 2) rfl <| r_l (U (lo v_1)) 1 _ _ _ _ rfl rfl rfl rfl rfl <| r_W (vA #[U (hi v_1), U (lo v_1)]) rfl (ev_buildS rfl rfl rfl rfl) <| r_s [(b3, 64, #[U (hi v_1), U (lo v_1)]), (b2, 31, #[vI v_0, U (hi v_1), U (lo v_1)])] 0 _ _ _ _ _ (#[U (hi v_1), U (lo v_1)]) rfl rfl rfl rfl (.of rfl rfl) rfl rfl <| lx_nil ?_
 obtain rfl := Option.some.inj hM
 refine A_ret (fun hn => ends_eq (v0 := vA #[U (hi v_1), U (lo v_1)]) rfl (res1 (res_cell hn 0 rfl rfl rfl)))
def vec_May_m (N : Nat) (v_0 : Int) (v_1 : BitVec 128) : Option Bool := (vec_mayWidth_m N v_0).bind fun r4 => if r4 = true then (vec_Word_m N v_0 v_1).bind fun r7 => some (decide ((((len128 r7 : Nat) : Int) : Int) ≤ v_0)) else some false
set_option maxRecDepth 100000 in
set_option maxHeartbeats 8000000 in
theorem vec_May_g (N : Nat) (v_0 : Int) (v_1 : BitVec 128) (r) (hM : vec_May_m N v_0 v_1 = some r) : Gives Try.prog 45 #[vA #[vI v_0, U (hi v_1), U (lo v_1)]] (vB r) := by
 unfold vec_May_m at hM
 refine gives_of_A follows Try.func45 rfl 14 rfl (upd (fun _ => undef) 0 (vA #[vI v_0, U (hi v_1), U (lo v_1)])) (by funext k; match k with | 0 => rfl | k + 1 => rfl) (fun base0_ => ?_)
 refine A_sr <| r_a (31, #[vI v_0, U (hi v_1), U (lo v_1)]) rfl rfl rfl (fun b2 => ?_) (.inr rfl)
 refine r_V (vB false) rfl <| lx_nil <| A_seq fun K3 hK3 => A_draw [] (by decide +kernel) (fun hn => sep_nil) <| r_V (vP b2 0) rfl <| r_l (vI v_0) 0 _ _ _ _ rfl rfl rfl rfl rfl ?_
 obtain ⟨r4, hr5, hM⟩ := bind_sm hM
 refine r_c (vB r4) rfl _ _ (ev_callF rfl call_65 rfl) (vec_mayWidth_g N v_0 _ hr5) <| r_V (vB r4) rfl ?_
 rcases hg6 : r4 with _ | _
 ·replace hM := ifn (Bool.eq_false_iff.1 hg6) hM
  refine r_R [none, none, none, none, none, none, vB false, vB false] rfl <| lx_nil <| hK3 _ _ ?_; try clear hK3 K3
  obtain rfl := Option.some.inj hM
  refine A_ret (fun hn => ends_eq (v0 := vB false) rfl (res1 rfl))
 replace hM := ifp hg6 hM
 refine r_y rfl <| r_l (vA #[vI v_0, U (hi v_1), U (lo v_1)]) 0 _ _ _ _ rfl rfl rfl rfl rfl <| r_y rfl ?_
 obtain ⟨r7, hr8, hM⟩ := bind_sm hM
 refine r_c (vA #[U (hi r7), U (lo r7)]) rfl _ _ (ev_callF rfl call_30 rfl) (vec_Word_g N v_0 v_1 _ hr8) <| r_y rfl <| r_c (vI ((len128 r7 : Nat) : Int)) rfl _ _ (ev_callF rfl call_66 rfl) (len_g r7) <| r_R [vP b2 0] rfl <| r_y rfl <| r_l (vI v_0) 0 _ _ _ _ rfl rfl rfl rfl rfl <| r_R [vB (decide ((((len128 r7 : Nat) : Int) : Int) ≤ v_0)), vB (decide ((((len128 r7 : Nat) : Int) : Int) ≤ v_0)), vB (decide ((((len128 r7 : Nat) : Int) : Int) ≤ v_0))] rfl <| lx_nil <| hK3 _ _ ?_; try clear hK3 K3
 obtain rfl := Option.some.inj hM
 refine A_ret (fun hn => ends_eq (v0 := vB (decide ((((len128 r7 : Nat) : Int) : Int) ≤ v_0))) rfl (res1 rfl))
def exact_Map_takes_v1_m (N : Nat) (_ : List (Int × BitVec 128 × Int)) (_ : Int) (_ : Int) (key_0 : Int) (key_1 : BitVec 128) : Option Bool := (vec_May_m N key_0 key_1).bind fun r4 => some r4
set_option maxRecDepth 100000 in
set_option maxHeartbeats 8000000 in
theorem exact_Map_takes_v1_g (N : Nat) (m_0 : List (Int × BitVec 128 × Int)) (m_1 m_2 key_0 : Int) (key_1 : BitVec 128) (r) (hM : exact_Map_takes_v1_m N m_0 m_1 m_2 key_0 key_1 = some r) (ro : Addr → Option Value) (bm : Nat) (m_0v : Value) (_hm_0 : Rd enc_40 ro m_0v m_0) (_hbm : Blk ro bm [m_0v, vI m_1, vI m_2]) : Does Try.prog 34 #[vP bm 0, vA #[vI key_0, U (hi key_1), U (lo key_1)]] ro [] (pV (vB r)) := by
 unfold exact_Map_takes_v1_m at hM
 refine does_of_A follows Try.func34 rfl 11 rfl (upd (upd (fun _ => undef) 1 (vA #[vI key_0, U (hi key_1), U (lo key_1)])) 0 (vP bm 0)) (by funext k; match k with | 0 => rfl | 1 => rfl | k + 2 => rfl) (fun base0_ => ?_)
 refine A_sr <| r_a (31, #[vI key_0, U (hi key_1), U (lo key_1)]) rfl rfl rfl (fun b2 => ?_) (.inr rfl)
 refine r_V (vB false) rfl <| lx_nil <| A_sr <| r_R [vP bm 0, vB true, vB true] rfl <| r_y rfl <| r_l (vA #[vI key_0, U (hi key_1), U (lo key_1)]) 0 _ _ _ _ rfl rfl rfl rfl rfl <| r_y rfl ?_
 obtain ⟨r4, hr5, hM⟩ := bind_sm hM
 refine r_c (vB r4) rfl _ _ (ev_callF rfl call_45 rfl) (vec_May_g N key_0 key_1 _ hr5) <| r_R [vB r4, vB r4] rfl <| lx_nil ?_
 obtain rfl := Option.some.inj hM
 refine A_ret (fun hn => endsV (v0 := vB r4) rfl (res1 rfl))
def exact_Map_home_v1_l3 (m_0 : List (Int × BitVec 128 × Int)) (key_1 : BitVec 128) : Nat → BitVec 64 → Int → Option Int
  | 0, _, _ => none
  | n6 + 1, x1_, x2_ => if x2_ < 2 then ck (0 ≤ x2_ ∧ x2_ < 2) (ck (-9223372036854775808 ≤ (x2_ + 1) ∧ (x2_ + 1) ≤ 9223372036854775807) ((exact_Map_home_v1_l3 m_0 key_1 n6) ((((x1_ ^^^ (ixU [hi key_1, lo key_1] x2_)) * 11400714819323198485#64) ^^^ (((x1_ ^^^ (ixU [hi key_1, lo key_1] x2_)) * 11400714819323198485#64) >>> 32))) (x2_ + 1))) else ck ((BitVec.ofInt 64 ((m_0).length : Int) : BitVec 64) ≠ 0#64) (ck (((((x1_ % BitVec.ofInt 64 ((m_0).length : Int))).toNat : Nat) : Int) ≤ 9223372036854775807) (some (((((x1_ % BitVec.ofInt 64 ((m_0).length : Int))).toNat : Nat) : Int))))
def exact_Map_home_v1_m (N : Nat) (m_0 : List (Int × BitVec 128 × Int)) (_ : Int) (_ : Int) (key_0 : Int) (key_1 : BitVec 128) : Option Int := exact_Map_home_v1_l3 m_0 key_1 N (BitVec.ofInt 64 key_0) 0
set_option maxRecDepth 100000 in
set_option maxHeartbeats 8000000 in
theorem exact_Map_home_v1_g (N : Nat) (m_0 : List (Int × BitVec 128 × Int)) (m_1 m_2 key_0 : Int) (key_1 : BitVec 128) (r) (hM : exact_Map_home_v1_m N m_0 m_1 m_2 key_0 key_1 = some r) (ro : Addr → Option Value) (bm : Nat) (m_0v : Value) (hm_0 : Rd enc_40 ro m_0v m_0) (hbm : Blk ro bm [m_0v, vI m_1, vI m_2]) : Does Try.prog 47 #[vP bm 0, vA #[vI key_0, U (hi key_1), U (lo key_1)]] ro [] (pV (vI r)) := by
 unfold exact_Map_home_v1_m at hM
 refine does_of_A follows Try.func47 rfl 37 rfl (upd (upd (fun _ => undef) 1 (vA #[vI key_0, U (hi key_1), U (lo key_1)])) 0 (vP bm 0)) (by funext k; match k with | 0 => rfl | 1 => rfl | k + 2 => rfl) (fun base0_ => ?_)
 refine A_sr <| r_a (31, #[vI key_0, U (hi key_1), U (lo key_1)]) rfl rfl rfl (fun b2 => ?_) (.inr rfl)
 refine r_V (vI 0) rfl <| lx_nil <| A_sr <| r_V (vP b2 0) rfl <| r_l (vI key_0) 0 _ _ _ _ rfl rfl rfl rfl rfl <| r_w (U (BitVec.ofInt 64 key_0)) rfl rfl (U_wrapI key_0) (fun _ => rfl) <| r_V (U (BitVec.ofInt 64 key_0)) rfl <| lx_nil <| A_seq fun K4 hK4 => A_sr <| r_V (vP b2 1) rfl <| r_l (U (hi key_1)) 0 _ _ _ _ rfl rfl rfl rfl rfl <| r_V (vP b2 2) rfl <| r_l (U (lo key_1)) 0 _ _ _ _ rfl rfl rfl rfl rfl <| r_W (vA #[U (hi key_1), U (lo key_1)]) rfl (ev_buildA rfl rfl rfl rfl) <| r_V (vI 0) rfl <| lx_nil <| A_block <| A_forget [] (Sub.of (List.Sublist.cons _ List.Sublist.slnil)) ?_
 refine A_loop (fun tt ll nn => ∃ (n6 : Nat) (x1_ : BitVec 64) (x2_ : Int), (exact_Map_home_v1_l3 m_0 key_1 n6 x1_ x2_ = some r) ∧ Is [(0, vP bm 0), (5, U x1_), (15, vA #[U (hi key_1), U (lo key_1)]), (16, vI x2_)] [] tt ll ∧ nn = n6 + 1) (N + 1) ?_ ?_
 ·exact ⟨N, BitVec.ofInt 64 key_0, 0, hM, is_mk rfl rfl, rfl⟩
 clear hM; rintro t l _ ⟨n6, x1_, x2_, hM, ⟨⟨T, rfl⟩, rfl⟩, rfl⟩
 rcases n6 with _ | n6
 ·exact absurd hM (by simp [exact_Map_home_v1_l3])
 rw [exact_Map_home_v1_l3] at hM
 refine A_sr <| r_V (vB (decide (x2_ < 2))) rfl <| lx_nil <| A_seq fun K8 hK8 => A_cond (decide (x2_ < 2)) rfl (fun hc9 => ?_) (fun hc9 => ?_)
 ·replace hM := ifp (of_decide_eq_true hc9) hM
  refine A_skip <| hK8 _ _ ?_; try clear hK8 K8
  refine A_seq fun K10 hK10 => A_block <| A_sr ?_
  obtain ⟨ck12, hM⟩ := ck_some hM
  refine r_W (U (ixU [hi key_1, lo key_1] x2_)) rfl (ev_v (ev_ixU rfl rfl rfl rfl rfl rfl rfl ck12)) <| r_V (U (ixU [hi key_1, lo key_1] x2_)) rfl <| lx_nil <| A_sr <| r_R [U x1_, U (ixU [hi key_1, lo key_1] x2_)] rfl <| r_X (U (x1_ ^^^ (ixU [hi key_1, lo key_1] x2_))) rfl (U_xor x1_ (ixU [hi key_1, lo key_1] x2_)) rfl <| r_X (U ((x1_ ^^^ (ixU [hi key_1, lo key_1] x2_)) * 11400714819323198485#64)) rfl (U_mul (x1_ ^^^ (ixU [hi key_1, lo key_1] x2_)) (11400714819323198485#64)) rfl <| r_V (U ((x1_ ^^^ (ixU [hi key_1, lo key_1] x2_)) * 11400714819323198485#64)) rfl <| lx_nil <| A_reg ?_
  refine r_R [U ((x1_ ^^^ (ixU [hi key_1, lo key_1] x2_)) * 11400714819323198485#64), U ((x1_ ^^^ (ixU [hi key_1, lo key_1] x2_)) * 11400714819323198485#64)] rfl <| r_v (U ((((x1_ ^^^ (ixU [hi key_1, lo key_1] x2_)) * 11400714819323198485#64) >>> 32))) rfl rfl (U_shr ((x1_ ^^^ (ixU [hi key_1, lo key_1] x2_)) * 11400714819323198485#64) 32) (ev_shr rfl rfl) <| r_X (U ((((x1_ ^^^ (ixU [hi key_1, lo key_1] x2_)) * 11400714819323198485#64) ^^^ (((x1_ ^^^ (ixU [hi key_1, lo key_1] x2_)) * 11400714819323198485#64) >>> 32)))) rfl (U_xor ((x1_ ^^^ (ixU [hi key_1, lo key_1] x2_)) * 11400714819323198485#64) ((((x1_ ^^^ (ixU [hi key_1, lo key_1] x2_)) * 11400714819323198485#64) >>> 32))) rfl ?_
  refine r_V (U ((((x1_ ^^^ (ixU [hi key_1, lo key_1] x2_)) * 11400714819323198485#64) ^^^ (((x1_ ^^^ (ixU [hi key_1, lo key_1] x2_)) * 11400714819323198485#64) >>> 32)))) rfl <| lx_nil <| hK10 _ _ ?_; try clear hK10 K10
  refine A_reg ?_
  obtain ⟨ck14, hM⟩ := ck_some hM
  refine r_X (vI (x2_ + 1)) rfl (wi64 rfl ck14.1 ck14.2) rfl <| r_V (vI (x2_ + 1)) rfl <| lx_nil <| fg _ (Sub.of List.Sublist.slnil) ?_
  exact ⟨n6 + 1, by omega, n6, (((x1_ ^^^ (ixU [hi key_1, lo key_1] x2_)) * 11400714819323198485#64) ^^^ (((x1_ ^^^ (ixU [hi key_1, lo key_1] x2_)) * 11400714819323198485#64) >>> 32)), (x2_ + 1), hM, is_mk rfl rfl, rfl⟩
 replace hM := ifn (of_decide_eq_false hc9) hM
 refine A_exit <| hK4 _ _ ?_; try clear hK4 K4
 refine A_sr <| r_R [U x1_, vP bm 0, vP bm 0, vP bm 0] rfl <| r_lb m_0v (vs := [m_0v, vI m_1, vI m_2]) (o := 0) rfl rfl (blk_ro hbm) rfl <| r_W (vI ((m_0).length : Int)) rfl (ev_lenSl rfl rfl rfl (Rd.shp hm_0)) <| r_w (U (BitVec.ofInt 64 ((m_0).length : Int))) rfl rfl (U_wrapI ((m_0).length : Int)) (fun _ => rfl) ?_
 obtain ⟨ck16, hM⟩ := ck_some hM
 refine r_v (U (x1_ % BitVec.ofInt 64 ((m_0).length : Int))) rfl rfl (U_rem x1_ (BitVec.ofInt 64 ((m_0).length : Int))) (ev_remU rfl rfl ck16) ?_
 obtain ⟨ck17, hM⟩ := ck_some hM
 refine r_w (vI (((((x1_ % BitVec.ofInt 64 ((m_0).length : Int))).toNat : Nat) : Int))) rfl rfl (wi64 rfl (by omega) ck17) (fun _ => rfl) <| r_V (vI (((((x1_ % BitVec.ofInt 64 ((m_0).length : Int))).toNat : Nat) : Int))) rfl <| lx_nil ?_
 obtain rfl := Option.some.inj hM
 refine A_ret (fun hn => endsV (v0 := vI (((((x1_ % BitVec.ofInt 64 ((m_0).length : Int))).toNat : Nat) : Int))) rfl (res1 rfl))
theorem eg_31  : Try.prog.eqGuardType Try.prog.depth 31 = false := by kernel_rfl
theorem si_31  : Try.prog.stoodInHeld 31 = false := by kernel_rfl
set_option maxRecDepth 100000 in
theorem eqst_31  {c : Addr → Option Value} (x0 y0 : Int) (x1 y1 : BitVec 128) : ev Try.prog c (Op.equal 31 (.agg #[vI x0, U (hi x1), U (lo x1)]) (.agg #[vI y0, U (hi y1), U (lo y1)])) = some ((x0 == y0) && (x1 == y1)) := by
 have h := ev_eqStruct (P := Try.prog) (c := c) 9999 (t := 31) #[vI x0, U (hi x1), U (lo x1)] #[vI y0, U (hi y1), U (lo y1)] rfl si_31 (fun f => if f.offset = 0 then (x0 == y0) else if f.offset = 1 then (((hi x1).toNat : Int) == ((hi y1).toNat : Int)) else (((lo x1).toNat : Int) == ((lo y1).toNat : Int)))
   (fun f hf => by
     simp only [List.mem_cons, List.not_mem_nil, or_false] at hf
     rcases hf with rfl | rfl | rfl
     · exact ⟨by decide, _, _, ev_partS (P := Try.prog) (t := 3) rfl (by intro fs h; cases h) (by intro n e h; cases h) _ _ rfl, ev_partS (P := Try.prog) (t := 3) rfl (by intro fs h; cases h) (by intro n e h; cases h) _ _ rfl, ev_eqInt _ _ _ rfl⟩
     · exact ⟨by decide, _, _, ev_partS (P := Try.prog) (t := 29) rfl (by intro fs h; cases h) (by intro n e h; cases h) _ _ rfl, ev_partS (P := Try.prog) (t := 29) rfl (by intro fs h; cases h) (by intro n e h; cases h) _ _ rfl, ev_eqInt _ _ _ rfl⟩
     · exact ⟨by decide, _, _, ev_partS (P := Try.prog) (t := 29) rfl (by intro fs h; cases h) (by intro n e h; cases h) _ _ rfl, ev_partS (P := Try.prog) (t := 29) rfl (by intro fs h; cases h) (by intro n e h; cases h) _ _ rfl, ev_eqInt _ _ _ rfl⟩)
 rw [← word_beq x1 y1]; rw [show Op.equal 31 (.agg #[vI x0, U (hi x1), U (lo x1)]) (.agg #[vI y0, U (hi y1), U (lo y1)]) = Op.equalIn (9999 + 1) 31 (.agg #[vI x0, U (hi x1), U (lo x1)]) (.agg #[vI y0, U (hi y1), U (lo y1)]) from rfl, h]
 first | (simp; done) | simp [Bool.and_assoc]
def exact_Map_free_v1_m (_ : Nat) (m_0 : List (Int × BitVec 128 × Int)) (_ : Int) (_ : Int) (at' : Int) : Option Bool := ck (0 ≤ at' ∧ at' < ((m_0).length : Int)) (some (((((m_0)[(at').toNat]!).1) == 0) && ((((m_0)[(at').toNat]!).2.1) == ((0#64) ++ (0#64)))))
set_option maxRecDepth 100000 in
set_option maxHeartbeats 8000000 in
theorem exact_Map_free_v1_g (N : Nat) (m_0 : List (Int × BitVec 128 × Int)) (m_1 m_2 at' : Int) (r) (hM : exact_Map_free_v1_m N m_0 m_1 m_2 at' = some r) (ro : Addr → Option Value) (bm : Nat) (m_0v : Value) (hm_0 : Rd enc_40 ro m_0v m_0) (hbm : Blk ro bm [m_0v, vI m_1, vI m_2]) : Does Try.prog 24 #[vP bm 0, vI at'] ro [] (pV (vB r)) := by
 unfold exact_Map_free_v1_m at hM
 refine does_of_A follows Try.func24 rfl 15 rfl (upd (upd (fun _ => undef) 1 (vI at')) 0 (vP bm 0)) (by funext k; match k with | 0 => rfl | 1 => rfl | k + 2 => rfl) (fun base0_ => ?_)
 refine A_sr <| r_V (vB false) rfl <| lx_nil <| A_sr <| r_R [vP bm 0, vP bm 0, vP bm 0] rfl <| r_lb m_0v (vs := [m_0v, vI m_1, vI m_2]) (o := 0) rfl rfl (blk_ro hbm) rfl <| r_V (vI at') rfl ?_
 obtain ⟨ck3, hM⟩ := ck_some hM
 refine r_W (elA m_0v ((at').toNat * 4)) rfl (ev_v (ev_idxSl rfl rfl rfl (Rd.shp hm_0) ck3)) <| r_W (elA m_0v ((at').toNat * 4 + 0)) rfl (ev_v (ev_fieldX rfl rfl rfl rfl rfl rfl (Rd.shp hm_0) (pos_of ck3))) <| r_le (vA #[vI (((m_0)[(at').toNat]!).1), U (hi (((m_0)[(at').toNat]!).2.1)), U (lo (((m_0)[(at').toNat]!).2.1))]) (En := enc_40) ((m_0)[(at').toNat]!) ((at').toNat) 0 rfl rfl (rd_ro hm_0) (get_of ck3) rfl <| r_W (vA #[vI 0, U (0#64), U (0#64)]) rfl (ev_buildS rfl rfl rfl rfl) ?_
 refine r_W (vB (((((m_0)[(at').toNat]!).1) == 0) && ((((m_0)[(at').toNat]!).2.1) == ((0#64) ++ (0#64))))) rfl (ev_binEq rfl rfl eg_31 (by have h_ := fun c => eqst_31 (c := c) (((m_0)[(at').toNat]!).1) 0 (((m_0)[(at').toNat]!).2.1) ((0#64) ++ (0#64)); simp only [app_hl] at h_; exact h_ _)) ?_
 refine r_V (vB (((((m_0)[(at').toNat]!).1) == 0) && ((((m_0)[(at').toNat]!).2.1) == ((0#64) ++ (0#64))))) rfl <| lx_nil ?_
 obtain rfl := Option.some.inj hM
 refine A_ret (fun hn => endsV (v0 := vB (((((m_0)[(at').toNat]!).1) == 0) && ((((m_0)[(at').toNat]!).2.1) == ((0#64) ++ (0#64))))) rfl (res1 rfl))
def exact_Map_find_1_v1_m (N : Nat) (at' : Int) (c1_p0__0 : List (Int × BitVec 128 × Int)) (c1_p0__1 : Int) (c1_p0__2 : Int) (c2__0 : Int) (c2__1 : BitVec 128) : Option Bool := ck (0 ≤ at' ∧ at' < ((c1_p0__0).length : Int)) (if (((((c1_p0__0)[(at').toNat]!).1) == c2__0) && ((((c1_p0__0)[(at').toNat]!).2.1) == c2__1)) = true then some true else (exact_Map_free_v1_m N c1_p0__0 c1_p0__1 c1_p0__2 at').bind fun r5 => some r5)
set_option maxRecDepth 100000 in
set_option maxHeartbeats 8000000 in
theorem exact_Map_find_1_v1_g (N : Nat) (at' : Int) (c1_p0__0 : List (Int × BitVec 128 × Int)) (c1_p0__1 c1_p0__2 c2__0 : Int) (c2__1 : BitVec 128) (r) (hM : exact_Map_find_1_v1_m N at' c1_p0__0 c1_p0__1 c1_p0__2 c2__0 c2__1 = some r) (ro : Addr → Option Value) (bc1_ bc1_p0_ : Nat) (c1_p0__0v : Value) (hc1_p0__0 : Rd enc_40 ro c1_p0__0v c1_p0__0) (hbc1_p0_ : Blk ro bc1_p0_ [c1_p0__0v, vI c1_p0__1, vI c1_p0__2]) (hbc1_ : Blk ro bc1_ [vP bc1_p0_ 0]) (bc2_ : Nat) (hbc2_ : Blk ro bc2_ [vI c2__0, U (hi c2__1), U (lo c2__1)]) : Does Try.prog 48 #[vI at', vP bc1_ 0, vP bc2_ 0] ro [] (pV (vB r)) := by
 unfold exact_Map_find_1_v1_m at hM
 refine does_of_A follows Try.func48 rfl 20 rfl (upd (upd (upd (fun _ => undef) 2 (vP bc2_ 0)) 1 (vP bc1_ 0)) 0 (vI at')) (by funext k; match k with | 0 => rfl | 1 => rfl | 2 => rfl | k + 3 => rfl) (fun base0_ => ?_)
 refine A_sr <| r_V (vB false) rfl <| lx_nil <| A_seq fun K2 hK2 => A_drawR [(some 18, false)] (conG Try.prog [(18, fun _ _ v_ L_ U_ => ∀ u0_, exact_Map_free_v1_m N c1_p0__0 c1_p0__1 c1_p0__2 at' = some u0_ → (pV (vB u0_)) v_ L_ U_)]) [] (by decide +kernel) (fun hn => sep_nil) <| r_lb (vP bc1_p0_ 0) (vs := [vP bc1_p0_ 0]) (o := 0) rfl rfl (blk_ro hbc1_) rfl <| r_R [vP bc1_p0_ 0, vP bc1_p0_ 0] rfl <| r_lb c1_p0__0v (vs := [c1_p0__0v, vI c1_p0__1, vI c1_p0__2]) (o := 0) rfl rfl (blk_ro hbc1_p0_) rfl <| r_V (vI at') rfl ?_
 obtain ⟨ck3, hM⟩ := ck_some hM
 refine r_W (elA c1_p0__0v ((at').toNat * 4)) rfl (ev_v (ev_idxSl rfl rfl rfl (Rd.shp hc1_p0__0) ck3)) <| r_W (elA c1_p0__0v ((at').toNat * 4 + 0)) rfl (ev_v (ev_fieldX rfl rfl rfl rfl rfl rfl (Rd.shp hc1_p0__0) (pos_of ck3))) <| r_le (vA #[vI (((c1_p0__0)[(at').toNat]!).1), U (hi (((c1_p0__0)[(at').toNat]!).2.1)), U (lo (((c1_p0__0)[(at').toNat]!).2.1))]) (En := enc_40) ((c1_p0__0)[(at').toNat]!) ((at').toNat) 0 rfl rfl (rd_ro hc1_p0__0) (get_of ck3) rfl <| r_lb (vA #[vI c2__0, U (hi c2__1), U (lo c2__1)]) (vs := [vI c2__0, U (hi c2__1), U (lo c2__1)]) (o := 0) rfl rfl (blk_ro hbc2_) rfl ?_
 refine r_W (vB (((((c1_p0__0)[(at').toNat]!).1) == c2__0) && ((((c1_p0__0)[(at').toNat]!).2.1) == c2__1))) rfl (ev_binEq rfl rfl eg_31 (eqst_31 (((c1_p0__0)[(at').toNat]!).1) c2__0 (((c1_p0__0)[(at').toNat]!).2.1) c2__1)) <| r_V (vB (((((c1_p0__0)[(at').toNat]!).1) == c2__0) && ((((c1_p0__0)[(at').toNat]!).2.1) == c2__1))) rfl ?_
 rcases hg4 : (((((c1_p0__0)[(at').toNat]!).1) == c2__0) && ((((c1_p0__0)[(at').toNat]!).2.1) == c2__1)) with _ | _
 ·replace hM := ifn (Bool.eq_false_iff.1 hg4) hM
  refine r_y rfl <| r_lb (vP bc1_p0_ 0) (vs := [vP bc1_p0_ 0]) (o := 0) rfl rfl (blk_ro hbc1_) rfl <| r_R [vI at'] rfl <| r_y rfl ?_
  obtain ⟨r5, hr6, hM⟩ := bind_sm hM
  refine r_gv (vB r5) 24 _ rfl rfl rfl (ev_callF rfl call_24 rfl) (fun own_ nw_ hs_ => exact_Map_free_v1_g N c1_p0__0 c1_p0__1 c1_p0__2 at' _ hr6 hs_.view bc1_p0_ c1_p0__0v ((rd_ro hc1_p0__0) own_ nw_ hs_) (blk_ro hbc1_p0_ own_ nw_ hs_)) (conE hr6) <| r_R [vB r5, vB r5] rfl <| lx_nil <| hK2 _ _ ?_; try clear hK2 K2
  obtain rfl := Option.some.inj hM
  refine A_ret (fun hn => endsV (v0 := vB r5) rfl (res1 rfl))
 replace hM := ifp hg4 hM
 refine r_R [none, none, none, vB true, vB true] rfl <| lx_nil <| hK2 _ _ ?_; try clear hK2 K2
 obtain rfl := Option.some.inj hM
 refine A_ret (fun hn => endsV (v0 := vB true) rfl (res1 rfl))
def exact_Map_next_v1_m (_ : Nat) (m_0 : List (Int × BitVec 128 × Int)) (_ : Int) (_ : Int) (at' : Int) : Option Int := ck (-9223372036854775808 ≤ (at' + 1) ∧ (at' + 1) ≤ 9223372036854775807) (ck (((0 : Int) ≤ (at' + 1) ∧ ((at' + 1) : Int) ≤ 9223372036854775807) ∧ (0 : Int) < ((m_0).length : Int)) (some ((at' + 1) % ((m_0).length : Int))))
set_option maxRecDepth 100000 in
set_option maxHeartbeats 8000000 in
theorem exact_Map_next_v1_g (N : Nat) (m_0 : List (Int × BitVec 128 × Int)) (m_1 m_2 at' r : Int) (hM : exact_Map_next_v1_m N m_0 m_1 m_2 at' = some r) (ro : Addr → Option Value) (bm : Nat) (m_0v : Value) (hm_0 : Rd enc_40 ro m_0v m_0) (hbm : Blk ro bm [m_0v, vI m_1, vI m_2]) : Does Try.prog 49 #[vP bm 0, vI at'] ro [] (pV (vI r)) := by
 unfold exact_Map_next_v1_m at hM
 refine does_of_A follows Try.func49 rfl 13 rfl (upd (upd (fun _ => undef) 1 (vI at')) 0 (vP bm 0)) (by funext k; match k with | 0 => rfl | 1 => rfl | k + 2 => rfl) (fun base0_ => ?_)
 refine A_sr <| r_V (vI 0) rfl <| lx_nil <| A_sr <| r_V (vI at') rfl ?_
 obtain ⟨ck3, hM⟩ := ck_some hM
 refine r_X (vI (at' + 1)) rfl (wi64 rfl ck3.1 ck3.2) rfl <| r_R [vP bm 0, vP bm 0, vP bm 0] rfl <| r_lb m_0v (vs := [m_0v, vI m_1, vI m_2]) (o := 0) rfl rfl (blk_ro hbm) rfl <| r_W (vI ((m_0).length : Int)) rfl (ev_lenSl rfl rfl rfl (Rd.shp hm_0)) ?_
 obtain ⟨ck4, hM⟩ := ck_some hM
 refine r_v (vI ((at' + 1) % ((m_0).length : Int))) rfl rfl (rem_i64 ck4.1.1) (ev_remI rfl rfl ck4.2) <| r_V (vI ((at' + 1) % ((m_0).length : Int))) rfl <| lx_nil ?_
 obtain rfl := Option.some.inj hM
 refine A_ret (fun hn => endsV (v0 := vI ((at' + 1) % ((m_0).length : Int))) rfl (res1 rfl))
def exact_Map_round_v1_l2 (N : Nat) (m_0 : List (Int × BitVec 128 × Int)) (m_1 : Int) (m_2 : Int) (ends1__0 : Int) (ends1__1 : BitVec 128) : Nat → Int → Option Int
  | 0, _ => none
  | n3 + 1, at1_ => (exact_Map_find_1_v1_m N at1_ m_0 m_1 m_2 ends1__0 ends1__1).bind fun r6 => if r6 = true then some at1_ else (exact_Map_next_v1_m N m_0 m_1 m_2 at1_).bind fun r9 => (exact_Map_round_v1_l2 N m_0 m_1 m_2 ends1__0 ends1__1 n3) r9
def exact_Map_round_v1_m (N : Nat) (m_0 : List (Int × BitVec 128 × Int)) (m_1 : Int) (m_2 : Int) (at' : Int) (ends1__0 : Int) (ends1__1 : BitVec 128) : Option Int := exact_Map_round_v1_l2 N m_0 m_1 m_2 ends1__0 ends1__1 N at'
set_option maxRecDepth 100000 in
set_option maxHeartbeats 8000000 in
theorem exact_Map_round_v1_g (N : Nat) (m_0 : List (Int × BitVec 128 × Int)) (m_1 m_2 at' ends1__0 : Int) (ends1__1 : BitVec 128) (r) (hM : exact_Map_round_v1_m N m_0 m_1 m_2 at' ends1__0 ends1__1 = some r) (ro : Addr → Option Value) (bm : Nat) (m_0v : Value) (hm_0 : Rd enc_40 ro m_0v m_0) (hbm : Blk ro bm [m_0v, vI m_1, vI m_2]) (bends0_ : Nat) (hbends0_ : Blk ro bends0_ [vP bm 0]) (bends1_ : Nat) (hbends1_ : Blk ro bends1_ [vI ends1__0, U (hi ends1__1), U (lo ends1__1)]) : Does Try.prog 46 #[vP bm 0, vI at', Value.func (.func 48) #[] #[vP bends0_ 0, vP bends1_ 0]] ro [] (pV (vI r)) := by
 unfold exact_Map_round_v1_m at hM
 refine does_of_A follows Try.func46 rfl 15 rfl (upd (upd (upd (fun _ => undef) 2 (Value.func (.func 48) #[] #[vP bends0_ 0, vP bends1_ 0])) 1 (vI at')) 0 (vP bm 0)) (by funext k; match k with | 0 => rfl | 1 => rfl | 2 => rfl | k + 3 => rfl) (fun base0_ => ?_)
 refine A_sr <| r_V (vI 0) rfl <| lx_nil <| A_seq fun K2 hK2 => A_block <| A_loop (fun tt ll nn => ∃ (n3 : Nat) (at1_ : Int), (exact_Map_round_v1_l2 N m_0 m_1 m_2 ends1__0 ends1__1 n3 at1_ = some r) ∧ Is [(0, vP bm 0), (1, vI at1_), (2, Value.func (.func 48) #[] #[vP bends0_ 0, vP bends1_ 0])] [] tt ll ∧ nn = n3 + 1) (N + 1) ?_ ?_
 ·exact ⟨N, at', hM, is_mk rfl rfl, rfl⟩
 clear hM; rintro t l _ ⟨n3, at1_, hM, ⟨⟨T, rfl⟩, rfl⟩, rfl⟩
 rcases n3 with _ | n3
 ·exact absurd hM (by simp [exact_Map_round_v1_l2])
 rw [exact_Map_round_v1_l2] at hM
 refine A_seq fun K4 hK4 => A_sr <| r_R [Value.func (.func 48) #[] #[vP bends0_ 0, vP bends1_ 0], vI at1_] rfl ?_
 obtain ⟨r6, hr7, hM⟩ := bind_sm hM
 refine cB 9 <| r_gv (vB r6) 48 _ rfl rfl rfl (ev_callV (caps := [vP bends0_ 0, vP bends1_ 0]) rfl call_48 rfl) (fun own_ nw_ hs_ => exact_Map_find_1_v1_g N at1_ m_0 m_1 m_2 ends1__0 ends1__1 _ hr7 hs_.view bends0_ bm m_0v ((rd_ro hm_0) own_ nw_ hs_) (blk_ro hbm own_ nw_ hs_) (blk_ro hbends0_ own_ nw_ hs_) bends1_ (blk_ro hbends1_ own_ nw_ hs_)) (fun _ _ _ _ _ => Iff.rfl) <| r_V (vB (!(r6))) rfl <| lx_nil <| A_cond (!(r6)) rfl (fun hc8 => ?_) (fun hc8 => ?_)
 ·replace hM := ifn (Bool.eq_false_iff.1 (not_t hc8)) hM
  refine A_skip <| hK4 _ _ ?_; try clear hK4 K4
  refine A_block <| A_reg <| r_R [vP bm 0, vI at1_] rfl ?_
  obtain ⟨r9, hr10, hM⟩ := bind_sm hM
  refine cB 13 <| r_gv (vI r9) 49 _ rfl rfl rfl (ev_callF rfl call_49 rfl) (fun own_ nw_ hs_ => exact_Map_next_v1_g N m_0 m_1 m_2 at1_ _ hr10 hs_.view bm m_0v ((rd_ro hm_0) own_ nw_ hs_) (blk_ro hbm own_ nw_ hs_)) (fun _ _ _ _ _ => Iff.rfl) <| r_V (vI r9) rfl <| lx_nil <| fg _ (Sub.of List.Sublist.slnil) ?_
  exact ⟨n3 + 1, by omega, n3, r9, hM, is_mk rfl rfl, rfl⟩
 replace hM := ifp (not_f hc8) hM
 refine A_exit <| hK2 _ _ ?_; try clear hK2 K2
 refine A_sr <| r_R [vI at1_, vI at1_] rfl <| lx_nil ?_
 obtain rfl := Option.some.inj hM
 refine A_ret (fun hn => endsV (v0 := vI at1_) rfl (res1 rfl))
def exact_Map_find_v1_m (N : Nat) (m_0 : List (Int × BitVec 128 × Int)) (m_1 : Int) (m_2 : Int) (key_0 : Int) (key_1 : BitVec 128) : Option (Int × Bool) := (exact_Map_home_v1_m N m_0 m_1 m_2 key_0 key_1).bind fun r5 => (exact_Map_round_v1_m N m_0 m_1 m_2 r5 key_0 key_1).bind fun r7 => ck (0 ≤ r7 ∧ r7 < ((m_0).length : Int)) (some (r7, ((((m_0)[(r7).toNat]!).1) == key_0) && ((((m_0)[(r7).toNat]!).2.1) == key_1)))
set_option maxRecDepth 100000 in
set_option maxHeartbeats 8000000 in
theorem exact_Map_find_v1_g (N : Nat) (m_0 : List (Int × BitVec 128 × Int)) (m_1 m_2 key_0 : Int) (key_1 : BitVec 128) (r) (hM : exact_Map_find_v1_m N m_0 m_1 m_2 key_0 key_1 = some r) (ro : Addr → Option Value) (bm : Nat) (m_0v : Value) (hm_0 : Rd enc_40 ro m_0v m_0) (hbm : Blk ro bm [m_0v, vI m_1, vI m_2]) : Does Try.prog 35 #[vP bm 0, vA #[vI key_0, U (hi key_1), U (lo key_1)]] ro [] (pV (vT #[vI r.1, vB r.2])) := by
 unfold exact_Map_find_v1_m at hM
 refine does_of_A follows Try.func35 rfl 24 rfl (upd (upd (fun _ => undef) 1 (vA #[vI key_0, U (hi key_1), U (lo key_1)])) 0 (vP bm 0)) (by funext k; match k with | 0 => rfl | 1 => rfl | k + 2 => rfl) (fun base0_ => ?_)
 refine A_sr <| r_a (23, #[vP bm 0]) rfl rfl rfl (fun b2 => ?_) (.inr rfl)
 refine r_a (31, #[vI key_0, U (hi key_1), U (lo key_1)]) rfl rfl rfl (fun b3 => ?_) (.inr rfl)
 refine r_R [vI 0, vB false] rfl <| lx_nil <| A_seq fun K4 hK4 => A_drawR [(some 10, false), (some 12, false)] (conG Try.prog [(10, fun _ _ v_ L_ U_ => ∀ u0_, exact_Map_home_v1_m N m_0 m_1 m_2 key_0 key_1 = some u0_ → (pV (vI u0_)) v_ L_ U_), (12, fun _ _ v_ L_ U_ => ∀ u0_, exact_Map_home_v1_m N m_0 m_1 m_2 key_0 key_1 = some u0_ → ∀ u1_, exact_Map_round_v1_m N m_0 m_1 m_2 u0_ key_0 key_1 = some u1_ → (pV (vI u1_)) v_ L_ U_)]) [] (by decide +kernel) (fun hn => sep_nil) <| r_l (vP bm 0) 1 _ _ _ _ rfl rfl rfl rfl rfl <| r_l (vP bm 0) 1 _ _ _ _ rfl rfl rfl rfl rfl <| r_l (vA #[vI key_0, U (hi key_1), U (lo key_1)]) 0 _ _ _ _ rfl rfl rfl rfl rfl ?_
 obtain ⟨r5, hr6, hM⟩ := bind_sm hM
 refine r_gv (vI r5) 47 _ rfl rfl rfl (ev_callF rfl call_47 rfl) (fun own_ nw_ hs_ => exact_Map_home_v1_g N m_0 m_1 m_2 key_0 key_1 _ hr6 hs_.view bm m_0v ((rd_ro hm_0) own_ nw_ hs_) (blk_ro hbm own_ nw_ hs_)) (conE hr6) <| r_W (Value.func (.func 48) #[] #[vP b2 0, vP b3 0]) rfl (ev_mkF rfl) ?_
 obtain ⟨r7, hr8, hM⟩ := bind_sm hM
 refine r_gv (vI r7) 46 _ rfl rfl rfl (ev_callF rfl call_46 rfl) (fun own_ nw_ hs_ => exact_Map_round_v1_g N m_0 m_1 m_2 r5 key_0 key_1 _ hr8 hs_.view bm m_0v ((rd_ro hm_0) own_ nw_ hs_) (blk_ro hbm own_ nw_ hs_) b2 (blk_own 1 rfl rfl own_ nw_ hs_) b3 (blk_own 0 rfl rfl own_ nw_ hs_)) (fun _ _ v_ L_ U_ => ⟨fun h_ => h_ _ hr6 _ hr8, fun h_ => by intro _ e_; cases Option.some.inj (e_.symm.trans hr6); intro _ e_; cases Option.some.inj (e_.symm.trans hr8); exact h_⟩) ?_
 refine r_V (vI r7) rfl <| lx_nil <| hK4 _ _ ?_; try clear hK4 K4
 refine A_seq fun K9 hK9 => A_draw [] (by decide +kernel) (fun hn => sep_nil) <| r_V (vI r7) rfl <| r_l (vP bm 0) 1 _ _ _ _ rfl rfl rfl rfl rfl <| r_R [vP bm 0, vP bm 0] rfl <| r_lb m_0v (vs := [m_0v, vI m_1, vI m_2]) (o := 0) rfl rfl (blk_ro hbm) rfl <| r_V (vI r7) rfl ?_
 obtain ⟨ck10, hM⟩ := ck_some hM
 refine r_W (elA m_0v ((r7).toNat * 4)) rfl (ev_v (ev_idxSl rfl rfl rfl (Rd.shp hm_0) ck10)) <| r_W (elA m_0v ((r7).toNat * 4 + 0)) rfl (ev_v (ev_fieldX rfl rfl rfl rfl rfl rfl (Rd.shp hm_0) (pos_of ck10))) <| r_le (vA #[vI (((m_0)[(r7).toNat]!).1), U (hi (((m_0)[(r7).toNat]!).2.1)), U (lo (((m_0)[(r7).toNat]!).2.1))]) (En := enc_40) ((m_0)[(r7).toNat]!) ((r7).toNat) 0 rfl rfl (rd_ro hm_0) (get_of ck10) rfl <| r_l (vA #[vI key_0, U (hi key_1), U (lo key_1)]) 0 _ _ _ _ rfl rfl rfl rfl rfl <| r_W (vB (((((m_0)[(r7).toNat]!).1) == key_0) && ((((m_0)[(r7).toNat]!).2.1) == key_1))) rfl (ev_binEq rfl rfl eg_31 (eqst_31 (((m_0)[(r7).toNat]!).1) key_0 (((m_0)[(r7).toNat]!).2.1) key_1)) ?_
 refine r_R [vI r7, vB (((((m_0)[(r7).toNat]!).1) == key_0) && ((((m_0)[(r7).toNat]!).2.1) == key_1))] rfl <| lx_nil <| hK9 _ _ ?_; try clear hK9 K9
 obtain rfl := Option.some.inj hM
 refine A_ret (fun hn => endsV (v0 := vT #[vI r7, vB (((((m_0)[(r7).toNat]!).1) == key_0) && ((((m_0)[(r7).toNat]!).2.1) == key_1))]) rfl (res2 rfl rfl))
def exact_Map_Room_v1_m (_ : Nat) (_ : List (Int × BitVec 128 × Int)) (m_1 : Int) (m_2 : Int) : Option Int := ck (-9223372036854775808 ≤ (m_2 - m_1) ∧ (m_2 - m_1) ≤ 9223372036854775807) (some (m_2 - m_1))
set_option maxRecDepth 100000 in
set_option maxHeartbeats 8000000 in
theorem exact_Map_Room_v1_g (N : Nat) (m_0 : List (Int × BitVec 128 × Int)) (m_1 m_2 r : Int) (hM : exact_Map_Room_v1_m N m_0 m_1 m_2 = some r) (ro : Addr → Option Value) (bm : Nat) (m_0v : Value) (_hm_0 : Rd enc_40 ro m_0v m_0) (hbm : Blk ro bm [m_0v, vI m_1, vI m_2]) : Does Try.prog 11 #[vP bm 0] ro [] (pV (vI r)) := by
 unfold exact_Map_Room_v1_m at hM
 refine does_of_A follows Try.func11 rfl 14 rfl (upd (fun _ => undef) 0 (vP bm 0)) (by funext k; match k with | 0 => rfl | k + 1 => rfl) (fun base0_ => ?_)
 refine A_sr <| r_V (vI 0) rfl <| lx_nil <| A_seq fun K2 hK2 => A_sr <| r_R [vP bm 0, vB false] rfl <| lx_nil <| A_cond false rfl (fun h_ => nomatch h_) (fun _ => ?_)
 refine A_skip <| hK2 _ _ ?_; try clear hK2 K2
 refine A_seq fun K4 hK4 => A_draw [] (by decide +kernel) (fun hn => sep_nil) <| r_R [vP bm 0, vP bm 0, vP bm 2] rfl <| r_lb (vI m_2) (vs := [m_0v, vI m_1, vI m_2]) (o := 2) rfl rfl (blk_ro hbm) rfl <| r_R [vP bm 0, vP bm 0, vP bm 1] rfl <| r_lb (vI m_1) (vs := [m_0v, vI m_1, vI m_2]) (o := 1) rfl rfl (blk_ro hbm) rfl ?_
 obtain ⟨ck5, hM⟩ := ck_some hM
 refine r_X (vI (m_2 - m_1)) rfl (wi64 rfl ck5.1 ck5.2) rfl <| r_V (vI (m_2 - m_1)) rfl <| lx_nil <| hK4 _ _ ?_; try clear hK4 K4
 obtain rfl := Option.some.inj hM
 refine A_ret (fun hn => endsV (v0 := vI (m_2 - m_1)) rfl (res1 rfl))
def exact_Map_Put_v1_m (N : Nat) (m_0 : List (Int × BitVec 128 × Int)) (m_1 : Int) (m_2 : Int) (key_0 : Int) (key_1 : BitVec 128) (n : Int) : Option (Int × (List (Int × BitVec 128 × Int)) × Int × Int) := (exact_Map_takes_v1_m N m_0 m_1 m_2 key_0 key_1).bind fun r5 => if r5 = true then (exact_Map_find_v1_m N m_0 m_1 m_2 key_0 key_1).bind fun r10 => if r10.2 = true then some (6, m_0, m_1, m_2) else (exact_Map_Room_v1_m N m_0 m_1 m_2).bind fun r18 => if r18 = 0 then some (8, m_0, m_1, m_2) else ck (0 ≤ r10.1 ∧ r10.1 < ((m_0).length : Int)) (ck (-9223372036854775808 ≤ (m_1 + 1) ∧ (m_1 + 1) ≤ 9223372036854775807) (some (0, (m_0).set ((r10.1).toNat) (key_0, key_1, n), (m_1 + 1), m_2))) else some (1, m_0, m_1, m_2)
set_option maxRecDepth 100000 in
set_option maxHeartbeats 8000000 in
theorem exact_Map_Put_v1_g (N : Nat) (m_0 : List (Int × BitVec 128 × Int)) (m_1 m_2 key_0 : Int) (key_1 : BitVec 128) (n : Int) (r) (hM : exact_Map_Put_v1_m N m_0 m_1 m_2 key_0 key_1 n = some r) (ro : Addr → Option Value) (bm : Nat) (m_0v : Value) (Sm_0 : List Bl) (hm_0 : Sl 40 enc_40 m_0v m_0 Sm_0) : Does Try.prog 16 #[vP bm 0, vA #[vI key_0, U (hi key_1), U (lo key_1)], vI n] ro (List.flatten [(kBa53_0 bm m_0v m_1 m_2), Sm_0]) (pO (List.flatten [(kBa53_0 bm m_0v m_1 m_2), Sm_0]) (oI 40 enc_40 m_0v r.2.1 (oE (vI r.1) [(kBa53_0 bm m_0v r.2.2.1 r.2.2.2)]))) := by
 unfold exact_Map_Put_v1_m at hM
 refine doesO_of_A follows Try.func16 rfl 39 rfl (upd (upd (upd (fun _ => undef) 2 (vI n)) 1 (vA #[vI key_0, U (hi key_1), U (lo key_1)])) 0 (vP bm 0)) (by funext k; match k with | 0 => rfl | 1 => rfl | 2 => rfl | k + 3 => rfl) (fun _ _ h_ _ => h_) (fun base0_ => ?_)
 refine A_sr <| r_a (31, #[vI key_0, U (hi key_1), U (lo key_1)]) rfl rfl rfl (fun b2 => ?_) (.inr rfl)
 refine r_V (vI 0) rfl <| lx_nil <| A_seq fun K3 hK3 => A_sr <| r_V (vP bm 0) rfl <| r_l (vA #[vI key_0, U (hi key_1), U (lo key_1)]) 0 _ _ _ _ rfl rfl rfl rfl rfl ?_
 obtain ⟨r5, hr6, hM⟩ := bind_sm hM
 refine cB 11 <| r_gv (vB r5) 34 _ rfl rfl rfl (ev_callF rfl call_34 rfl) (fun own_ nw_ hs_ => exact_Map_takes_v1_g N m_0 m_1 m_2 key_0 key_1 _ hr6 hs_.view bm m_0v ((rd_own hm_0 (mem_chunk (Ls := [(kBa31_1 b2 key_0 (hi key_1) (lo key_1)), (kBa53_0 bm m_0v m_1 m_2), Sm_0]) (k := 2) rfl rfl)) own_ nw_ hs_) (blk_own 1 rfl rfl own_ nw_ hs_)) (fun _ _ _ _ _ => Iff.rfl) <| r_V (vB (!(r5))) rfl <| lx_nil <| A_cond (!(r5)) rfl (fun hc7 => ?_) (fun hc7 => ?_)
 ·replace hM := ifn (Bool.eq_false_iff.1 (not_t hc7)) hM
  refine A_sr <| r_V (vI 1) rfl <| lx_nil ?_
  obtain rfl := Option.some.inj hM
  refine A_ret (fun hn => endsO (v0 := vI 1) (O := [Sm_0, (kBa53_0 bm m_0v m_1 m_2)]) (res1 rfl) (Sub.pick [(kBa31_1 b2 key_0 (hi key_1) (lo key_1)), (kBa53_0 bm m_0v m_1 m_2), Sm_0] [2, 1] rfl) ⟨Sm_0, _, hm_0, ⟨rfl, rfl⟩, rfl⟩)
 replace hM := ifp (not_f hc7) hM
 refine A_skip <| hK3 _ _ ?_; try clear hK3 K3
 refine A_sr <| r_V (vP bm 0) rfl <| r_l (vA #[vI key_0, U (hi key_1), U (lo key_1)]) 0 _ _ _ _ rfl rfl rfl rfl rfl ?_
 obtain ⟨r10, hr11, hM⟩ := bind_sm hM
 refine cB 16 <| r_gv (vT #[vI r10.1, vB r10.2]) 35 _ rfl rfl rfl (ev_callF rfl call_35 rfl) (fun own_ nw_ hs_ => exact_Map_find_v1_g N m_0 m_1 m_2 key_0 key_1 _ hr11 hs_.view bm m_0v ((rd_own hm_0 (mem_chunk (Ls := [(kBa31_1 b2 key_0 (hi key_1) (lo key_1)), (kBa53_0 bm m_0v m_1 m_2), Sm_0]) (k := 2) rfl rfl)) own_ nw_ hs_) (blk_own 1 rfl rfl own_ nw_ hs_)) (fun _ _ _ _ _ => Iff.rfl) <| r_R [vT #[vI r10.1, vB r10.2], vI r10.1, vB r10.2, vI r10.1, vB r10.2] rfl <| lx_nil <| A_seq fun K12 hK12 => A_sr <| r_V (vB r10.2) rfl <| lx_nil <| A_cond r10.2 rfl (fun hc14 => ?_) (fun hc14 => ?_)
 ·replace hM := ifp hc14 hM
  refine A_sr <| r_V (vI 6) rfl <| lx_nil ?_
  obtain rfl := Option.some.inj hM
  refine A_ret (fun hn => endsO (v0 := vI 6) (O := [Sm_0, (kBa53_0 bm m_0v m_1 m_2)]) (res1 rfl) (Sub.pick [(kBa31_1 b2 key_0 (hi key_1) (lo key_1)), (kBa53_0 bm m_0v m_1 m_2), Sm_0] [2, 1] rfl) ⟨Sm_0, _, hm_0, ⟨rfl, rfl⟩, rfl⟩)
 replace hM := ifn (Bool.eq_false_iff.1 hc14) hM
 refine A_skip <| hK12 _ _ ?_; try clear hK12 K12
 refine A_seq fun K16 hK16 => A_sr <| r_V (vP bm 0) rfl ?_
 obtain ⟨r18, hr19, hM⟩ := bind_sm hM
 refine cB 21 <| r_gv (vI r18) 11 _ rfl rfl rfl (ev_callF rfl call_11 rfl) (fun own_ nw_ hs_ => exact_Map_Room_v1_g N m_0 m_1 m_2 _ hr19 hs_.view bm m_0v ((rd_own hm_0 (mem_chunk (Ls := [(kBa31_1 b2 key_0 (hi key_1) (lo key_1)), (kBa53_0 bm m_0v m_1 m_2), Sm_0]) (k := 2) rfl rfl)) own_ nw_ hs_) (blk_own 1 rfl rfl own_ nw_ hs_)) (fun _ _ _ _ _ => Iff.rfl) <| r_V (vB (r18 == 0)) rfl <| lx_nil <| A_cond (r18 == 0) rfl (fun hc20 => ?_) (fun hc20 => ?_)
 ·replace hM := ifp (eq_of_beq hc20) hM
  refine A_sr <| r_V (vI 8) rfl <| lx_nil ?_
  obtain rfl := Option.some.inj hM
  refine A_ret (fun hn => endsO (v0 := vI 8) (O := [Sm_0, (kBa53_0 bm m_0v m_1 m_2)]) (res1 rfl) (Sub.pick [(kBa31_1 b2 key_0 (hi key_1) (lo key_1)), (kBa53_0 bm m_0v m_1 m_2), Sm_0] [2, 1] rfl) ⟨Sm_0, _, hm_0, ⟨rfl, rfl⟩, rfl⟩)
 replace hM := ifn (ne_of_beq_false hc20) hM
 refine A_skip <| hK16 _ _ ?_; try clear hK16 K16
 refine A_seq fun K22 hK22 => A_draw [] (by decide +kernel) (fun hn => sep_nil) <| r_R [vP bm 0, vP bm 0, vP bm 0] rfl <| r_l m_0v 1 _ _ _ _ rfl rfl rfl rfl rfl <| r_V (vI r10.1) rfl <| r_l (vA #[vI key_0, U (hi key_1), U (lo key_1)]) 0 _ _ _ _ rfl rfl rfl rfl rfl <| r_V (vI n) rfl <| r_W (vA #[vI key_0, U (hi key_1), U (lo key_1), vI n]) rfl (ev_buildS rfl rfl rfl rfl) ?_
 obtain ⟨ck23, hM⟩ := ck_some hM
 refine r_W (elA m_0v ((r10.1).toNat * 4)) rfl (ev_v (ev_idxSl rfl rfl rfl (Sl.shp hm_0) ck23)) <| r_se (Ls := [(kBa31_1 b2 key_0 (hi key_1) (lo key_1)), (kBa53_0 bm m_0v m_1 m_2), Sm_0]) 2 (En := enc_40) ((m_0)[(r10.1).toNat]!) (key_0, key_1, n) ((r10.1).toNat) 0 rfl rfl rfl hm_0 (get_of ck23) rfl rfl rfl (one_all rfl) rfl (fun S24 H25 => ?_)
 refine lx_nil <| hK22 _ _ ?_; try clear hK22 K22
 refine A_gen [(0, vP bm 0)] rfl (fun T => ?_)
 refine A_sr <| r_R [vP bm 0, vP bm 0, vP bm 1] rfl <| r_l (vI m_1) 1 _ _ _ _ rfl rfl rfl rfl rfl ?_
 obtain ⟨ck27, hM⟩ := ck_some hM
 refine r_X (vI (m_1 + 1)) rfl (wi64 rfl ck27.1 ck27.2) rfl <| r_R [vP bm 0, vP bm 1] rfl <| r_s (List.flatten [(kBa31_1 b2 key_0 (hi key_1) (lo key_1)), (kBa53_0 bm m_0v (m_1 + 1) m_2), S24]) 1 _ _ _ _ _ (#[m_0v, vI (m_1 + 1), vI m_2]) rfl rfl rfl rfl (.of rfl rfl) rfl rfl <| lx_nil <| A_sr <| r_V (vI 0) rfl <| lx_nil ?_
 obtain rfl := Option.some.inj hM
 refine A_ret (fun hn => endsO (v0 := vI 0) (O := [S24, (kBa53_0 bm m_0v (m_1 + 1) m_2)]) (res1 rfl) (Sub.pick [(kBa31_1 b2 key_0 (hi key_1) (lo key_1)), (kBa53_0 bm m_0v (m_1 + 1) m_2), S24] [2, 1] rfl) ⟨S24, _, H25, ⟨rfl, rfl⟩, rfl⟩)
def exact_Map_there_v1_m (N : Nat) (m_0 : List (Int × BitVec 128 × Int)) (m_1 : Int) (m_2 : Int) (key_0 : Int) (key_1 : BitVec 128) : Option (Int × Int) := (exact_Map_takes_v1_m N m_0 m_1 m_2 key_0 key_1).bind fun r5 => if r5 = true then (exact_Map_find_v1_m N m_0 m_1 m_2 key_0 key_1).bind fun r10 => if r10.2 = true then some (r10.1, 0) else some (0, 5) else some (0, 1)
set_option maxRecDepth 100000 in
set_option maxHeartbeats 8000000 in
theorem exact_Map_there_v1_g (N : Nat) (m_0 : List (Int × BitVec 128 × Int)) (m_1 m_2 key_0 : Int) (key_1 : BitVec 128) (r) (hM : exact_Map_there_v1_m N m_0 m_1 m_2 key_0 key_1 = some r) (ro : Addr → Option Value) (bm : Nat) (m_0v : Value) (hm_0 : Rd enc_40 ro m_0v m_0) (hbm : Blk ro bm [m_0v, vI m_1, vI m_2]) : Does Try.prog 36 #[vP bm 0, vA #[vI key_0, U (hi key_1), U (lo key_1)]] ro [] (pV (vT #[vI r.1, vI r.2])) := by
 unfold exact_Map_there_v1_m at hM
 refine does_of_A follows Try.func36 rfl 21 rfl (upd (upd (fun _ => undef) 1 (vA #[vI key_0, U (hi key_1), U (lo key_1)])) 0 (vP bm 0)) (by funext k; match k with | 0 => rfl | 1 => rfl | k + 2 => rfl) (fun base0_ => ?_)
 refine A_sr <| r_a (31, #[vI key_0, U (hi key_1), U (lo key_1)]) rfl rfl rfl (fun b2 => ?_) (.inr rfl)
 refine r_R [vI 0, vI 0] rfl <| lx_nil <| A_seq fun K3 hK3 => A_sr <| r_V (vP bm 0) rfl <| r_l (vA #[vI key_0, U (hi key_1), U (lo key_1)]) 0 _ _ _ _ rfl rfl rfl rfl rfl ?_
 obtain ⟨r5, hr6, hM⟩ := bind_sm hM
 refine cB 10 <| r_gv (vB r5) 34 _ rfl rfl rfl (ev_callF rfl call_34 rfl) (fun own_ nw_ hs_ => exact_Map_takes_v1_g N m_0 m_1 m_2 key_0 key_1 _ hr6 hs_.view bm m_0v ((rd_ro hm_0) own_ nw_ hs_) (blk_ro hbm own_ nw_ hs_)) (fun _ _ _ _ _ => Iff.rfl) <| r_V (vB (!(r5))) rfl <| lx_nil <| A_cond (!(r5)) rfl (fun hc7 => ?_) (fun hc7 => ?_)
 ·replace hM := ifn (Bool.eq_false_iff.1 (not_t hc7)) hM
  refine A_sr <| r_R [vI 0, vI 1] rfl <| lx_nil ?_
  obtain rfl := Option.some.inj hM
  refine A_ret (fun hn => endsV (v0 := vT #[vI 0, vI 1]) rfl (res2 rfl rfl))
 replace hM := ifp (not_f hc7) hM
 refine A_skip <| hK3 _ _ ?_; try clear hK3 K3
 refine A_sr <| r_V (vP bm 0) rfl <| r_l (vA #[vI key_0, U (hi key_1), U (lo key_1)]) 0 _ _ _ _ rfl rfl rfl rfl rfl ?_
 obtain ⟨r10, hr11, hM⟩ := bind_sm hM
 refine cB 15 <| r_gv (vT #[vI r10.1, vB r10.2]) 35 _ rfl rfl rfl (ev_callF rfl call_35 rfl) (fun own_ nw_ hs_ => exact_Map_find_v1_g N m_0 m_1 m_2 key_0 key_1 _ hr11 hs_.view bm m_0v ((rd_ro hm_0) own_ nw_ hs_) (blk_ro hbm own_ nw_ hs_)) (fun _ _ _ _ _ => Iff.rfl) <| r_R [vT #[vI r10.1, vB r10.2], vI r10.1, vB r10.2, vI r10.1, vB r10.2] rfl <| lx_nil <| A_seq fun K12 hK12 => A_sr <| r_R [vB r10.2, vB (!(r10.2))] rfl <| lx_nil <| A_cond (!(r10.2)) rfl (fun hc14 => ?_) (fun hc14 => ?_)
 ·replace hM := ifn (Bool.eq_false_iff.1 (not_t hc14)) hM
  refine A_sr <| r_R [vI 0, vI 5] rfl <| lx_nil ?_
  obtain rfl := Option.some.inj hM
  refine A_ret (fun hn => endsV (v0 := vT #[vI 0, vI 5]) rfl (res2 rfl rfl))
 replace hM := ifp (not_f hc14) hM
 refine A_skip <| hK12 _ _ ?_; try clear hK12 K12
 refine A_sr <| r_R [vI r10.1, vI r10.1, vI 0] rfl <| lx_nil ?_
 obtain rfl := Option.some.inj hM
 refine A_ret (fun hn => endsV (v0 := vT #[vI r10.1, vI 0]) rfl (res2 rfl rfl))
def exact_Map_Get_v1_m (N : Nat) (m_0 : List (Int × BitVec 128 × Int)) (m_1 : Int) (m_2 : Int) (key_0 : Int) (key_1 : BitVec 128) : Option (Int × Bool) := (exact_Map_there_v1_m N m_0 m_1 m_2 key_0 key_1).bind fun r4 => if (r4.2 : Int) ≠ 0 then some (0, false) else ck (0 ≤ r4.1 ∧ r4.1 < ((m_0).length : Int)) (some (((m_0)[(r4.1).toNat]!).2.2, true))
set_option maxRecDepth 100000 in
set_option maxHeartbeats 8000000 in
theorem exact_Map_Get_v1_g (N : Nat) (m_0 : List (Int × BitVec 128 × Int)) (m_1 m_2 key_0 : Int) (key_1 : BitVec 128) (r) (hM : exact_Map_Get_v1_m N m_0 m_1 m_2 key_0 key_1 = some r) (ro : Addr → Option Value) (bm : Nat) (m_0v : Value) (hm_0 : Rd enc_40 ro m_0v m_0) (hbm : Blk ro bm [m_0v, vI m_1, vI m_2]) : Does Try.prog 19 #[vP bm 0, vA #[vI key_0, U (hi key_1), U (lo key_1)]] ro [] (pV (vT #[vI r.1, vB r.2])) := by
 unfold exact_Map_Get_v1_m at hM
 refine does_of_A follows Try.func19 rfl 24 rfl (upd (upd (fun _ => undef) 1 (vA #[vI key_0, U (hi key_1), U (lo key_1)])) 0 (vP bm 0)) (by funext k; match k with | 0 => rfl | 1 => rfl | k + 2 => rfl) (fun base0_ => ?_)
 refine A_sr <| r_a (31, #[vI key_0, U (hi key_1), U (lo key_1)]) rfl rfl rfl (fun b2 => ?_) (.inr rfl)
 refine r_R [vI 0, vB false] rfl <| lx_nil <| A_sr <| r_V (vP bm 0) rfl <| r_l (vA #[vI key_0, U (hi key_1), U (lo key_1)]) 0 _ _ _ _ rfl rfl rfl rfl rfl ?_
 obtain ⟨r4, hr5, hM⟩ := bind_sm hM
 refine cB 11 <| r_gv (vT #[vI r4.1, vI r4.2]) 36 _ rfl rfl rfl (ev_callF rfl call_36 rfl) (fun own_ nw_ hs_ => exact_Map_there_v1_g N m_0 m_1 m_2 key_0 key_1 _ hr5 hs_.view bm m_0v ((rd_ro hm_0) own_ nw_ hs_) (blk_ro hbm own_ nw_ hs_)) (fun _ _ _ _ _ => Iff.rfl) <| r_R [vT #[vI r4.1, vI r4.2], vI r4.1, vI r4.2, vI r4.1, vI r4.2] rfl <| lx_nil <| A_seq fun K6 hK6 => A_sr <| r_R [vI r4.2, vB (r4.2 != 0)] rfl <| lx_nil <| A_cond (r4.2 != 0) rfl (fun hc8 => ?_) (fun hc8 => ?_)
 ·replace hM := ifp (bne_iff_ne.1 hc8) hM
  refine A_sr <| r_R [vI 0, vB false] rfl <| lx_nil ?_
  obtain rfl := Option.some.inj hM
  refine A_ret (fun hn => endsV (v0 := vT #[vI 0, vB false]) rfl (res2 rfl rfl))
 replace hM := ifn (bne_f hc8) hM
 refine A_skip <| hK6 _ _ ?_; try clear hK6 K6
 refine A_sr <| r_R [vP bm 0, vP bm 0, vP bm 0] rfl <| r_lb m_0v (vs := [m_0v, vI m_1, vI m_2]) (o := 0) rfl rfl (blk_ro hbm) rfl <| r_V (vI r4.1) rfl ?_
 obtain ⟨ck11, hM⟩ := ck_some hM
 refine r_W (elA m_0v ((r4.1).toNat * 4)) rfl (ev_v (ev_idxSl rfl rfl rfl (Rd.shp hm_0) ck11)) <| r_W (elA m_0v ((r4.1).toNat * 4 + 3)) rfl (ev_v (ev_fieldX rfl rfl rfl rfl rfl rfl (Rd.shp hm_0) (pos_of ck11))) <| r_le (vI (((m_0)[(r4.1).toNat]!).2.2)) (En := enc_40) ((m_0)[(r4.1).toNat]!) ((r4.1).toNat) 3 rfl rfl (rd_ro hm_0) (get_of ck11) rfl <| r_R [vI (((m_0)[(r4.1).toNat]!).2.2), vB true] rfl <| lx_nil ?_
 obtain rfl := Option.some.inj hM
 refine A_ret (fun hn => endsV (v0 := vT #[vI (((m_0)[(r4.1).toNat]!).2.2), vB true]) rfl (res2 rfl rfl))
def shunterlaw19_lives_m (N : Nat) : Option Bool := (exact_New_m N 1).bind fun r3 => Sum23.on r3 (some false) (fun x6_0 x7_1 x8_2 => (exact_Map_Put_v1_m N x6_0 x7_1 x8_2 8 ((0#64) ++ (5#64)) 7).bind fun r15 => ck ((r15.2.1).length = (x6_0).length) (if (r15.1 : Int) ≠ 0 then some false else (exact_Map_Put_v1_m N r15.2.1 r15.2.2.1 r15.2.2.2 8 ((0#64) ++ (6#64)) 8).bind fun r21 => ck ((r21.2.1).length = (r15.2.1).length) (if (r21.1 : Int) ≠ 8 then some false else (exact_Map_Get_v1_m N r21.2.1 r21.2.2.1 r21.2.2.2 8 ((0#64) ++ (5#64))).bind fun r29 => if r29.1 = 7 then some r29.2 else some false)))
set_option maxRecDepth 100000 in
set_option maxHeartbeats 8000000 in
theorem shunterlaw19_lives_g (N : Nat) (r) (hM : shunterlaw19_lives_m N = some r) : Gives Try.prog 8 #[] (vB r) := by
 unfold shunterlaw19_lives_m at hM
 refine gives_of_A follows Try.func8 rfl 30 rfl (fun _ => undef) (by funext k; rfl) (fun base0_ => ?_)
 refine A_sr <| r_V (vB false) rfl <| lx_nil <| A_seq fun K2 hK2 => A_reg ?_
 obtain ⟨r3, hr4, hM⟩ := bind_sm hM
 refine cA 4 <| r_gm (Ls := []) (FL := []) [] _ (some 4) 7 _ rfl rfl rfl rfl rfl (ev_callF rfl call_7 rfl) (fun own_ nw_ hn_ hs_ => exact_New_g N 1 _ hr4 _ ) (fun _ _ _ _ _ => Iff.rfl) (fun h_ => nomatch h_) ?_
 rcases Sum23.cases r3 with hx5 | ⟨x6_0, x7_1, x8_2, hx5⟩
 ·rintro _ _ hp_
  obtain ⟨rfl, rfl⟩ := Sum23.onP_nil hx5 hp_
  replace hM := Sum23.on_nil hx5 hM
  refine lx_perm (Ls := []) (Ls' := []) [] rfl rfl <| r_V (Value.pointer none) rfl <| lx_nil <| hK2 _ _ ?_; try clear hK2 K2
  refine A_seq fun K9 hK9 => A_sr <| r_R [Value.pointer none, vB true, vB true, none, none, none, none, vB true, vB true, none, none, none, none, vB true] rfl <| lx_nil <| A_cond true rfl (fun _ => ?_) (fun h_ => nomatch h_)
  refine A_sr <| r_V (vB false) rfl <| lx_nil ?_
  obtain rfl := Option.some.inj hM
  refine A_ret (fun hn => ends_eq (v0 := vB false) rfl (res1 rfl))
 rintro _ _ hp_
 obtain ⟨s9, S10, _, H11, ⟨b12, _, ⟨rfl, rfl⟩, rfl⟩, rfl⟩ := Sum23.onP_t53 hx5 hp_
 replace hM := Sum23.on_t53 hx5 hM
 refine lx_perm (Ls := [S10, (kBa53_0 b12 s9 x7_1 x8_2)]) (Ls' := [(kBa53_0 b12 s9 x7_1 x8_2), S10]) [1, 0] rfl rfl <| r_V (vP b12 0) rfl <| lx_nil <| hK2 _ _ ?_; try clear hK2 K2
 refine A_seq fun K13 hK13 => A_seq fun K14 hK14 => A_reg <| r_R [vP b12 0, vB false, vB false, vP b12 0] rfl <| r_y rfl <| r_W (vA #[vI 8, U (0#64), U (5#64)]) rfl (ev_buildS rfl rfl rfl rfl) <| r_y rfl ?_
 obtain ⟨r15, hr16, hM⟩ := bind_sm hM
 obtain ⟨ck17, hM⟩ := ck_some hM
 refine cA 10 <| r_gm (Ls := [(kBa53_0 b12 s9 x7_1 x8_2), S10]) (FL := [(kBa53_0 b12 s9 x7_1 x8_2), S10]) [0, 1] (oI 40 enc_40 s9 r15.2.1 (oE (vI r15.1) [(kBa53_0 b12 s9 r15.2.2.1 r15.2.2.2)])) (some 10) 16 _ rfl rfl rfl rfl rfl (ev_callF rfl call_16 rfl) (fun own_ nw_ hn_ hs_ => (by have h_ := exact_Map_Put_v1_g N x6_0 x7_1 x8_2 8 ((0#64) ++ (5#64)) 7 _ hr16 (sans hs_.view (([(kBa53_0 b12 s9 x7_1 x8_2), S10]).flatten.map (·.1))) b12 s9 S10 H11; simp only [app_hl] at h_; exact h_)) (fun _ _ _ _ _ => Iff.rfl) (fun h_ => nomatch h_) ?_
 rintro _ _ ⟨S18, _, H19, ⟨rfl, rfl⟩, rfl⟩
 refine lx_perm (Ls := [S18, (kBa53_0 b12 s9 r15.2.2.1 r15.2.2.2)]) (Ls' := [(kBa53_0 b12 s9 r15.2.2.1 r15.2.2.2), S18]) [1, 0] rfl rfl <| r_R [vB (r15.1 != 0), vB (r15.1 != 0), vB (r15.1 != 0)] rfl ?_
 rcases hg20 : (r15.1 != 0) with _ | _
 ·replace hM := ifn (bne_f hg20) hM
  refine r_R [vP b12 0] rfl <| r_y rfl <| r_W (vA #[vI 8, U (0#64), U (6#64)]) rfl (ev_buildS rfl rfl rfl rfl) <| r_y rfl ?_
  obtain ⟨r21, hr22, hM⟩ := bind_sm hM
  obtain ⟨ck23, hM⟩ := ck_some hM
  refine cA 16 <| r_gm (Ls := [(kBa53_0 b12 s9 r15.2.2.1 r15.2.2.2), S18]) (FL := [(kBa53_0 b12 s9 r15.2.2.1 r15.2.2.2), S18]) [0, 1] (oI 40 enc_40 s9 r21.2.1 (oE (vI r21.1) [(kBa53_0 b12 s9 r21.2.2.1 r21.2.2.2)])) (some 16) 16 _ rfl rfl rfl rfl rfl (ev_callF rfl call_16 rfl) (fun own_ nw_ hn_ hs_ => (by have h_ := exact_Map_Put_v1_g N r15.2.1 r15.2.2.1 r15.2.2.2 8 ((0#64) ++ (6#64)) 8 _ hr22 (sans hs_.view (([(kBa53_0 b12 s9 r15.2.2.1 r15.2.2.2), S18]).flatten.map (·.1))) b12 s9 S18 H19; simp only [app_hl] at h_; exact h_)) (fun _ _ _ _ _ => Iff.rfl) (fun h_ => nomatch h_) ?_
  rintro _ _ ⟨S24, _, H25, ⟨rfl, rfl⟩, rfl⟩
  refine lx_perm (Ls := [S24, (kBa53_0 b12 s9 r21.2.2.1 r21.2.2.2)]) (Ls' := [(kBa53_0 b12 s9 r21.2.2.1 r21.2.2.2), S24]) [1, 0] rfl rfl <| r_R [vB (r21.1 != 8), vB (r21.1 != 8)] rfl <| lx_nil <| hK14 _ _ ?_; try clear hK14 K14
  refine A_cond (r21.1 != 8) rfl (fun hc26 => ?_) (fun hc26 => ?_)
  ·replace hM := ifp (bne_iff_ne.1 hc26) hM
   refine A_sr <| r_V (vB false) rfl <| lx_nil ?_
   obtain rfl := Option.some.inj hM
   refine A_ret (fun hn => ends_eq (v0 := vB false) rfl (res1 rfl))
  replace hM := ifn (bne_f hc26) hM
  refine A_skip <| hK13 _ _ ?_; try clear hK13 K13
  refine A_sr <| r_V (vP b12 0) rfl <| r_W (vA #[vI 8, U (0#64), U (5#64)]) rfl (ev_buildS rfl rfl rfl rfl) ?_
  obtain ⟨r29, hr30, hM⟩ := bind_sm hM
  refine cB 22 <| r_gv (vT #[vI r29.1, vB r29.2]) 19 _ rfl rfl rfl (ev_callF rfl call_19 rfl) (fun own_ nw_ hs_ => (by have h_ := exact_Map_Get_v1_g N r21.2.1 r21.2.2.1 r21.2.2.2 8 ((0#64) ++ (5#64)) _ hr30 hs_.view b12 s9 ((rd_own H25 (mem_chunk (Ls := [(kBa53_0 b12 s9 r21.2.2.1 r21.2.2.2), S24]) (k := 1) rfl rfl)) own_ nw_ hs_) (blk_own 0 rfl rfl own_ nw_ hs_); simp only [app_hl] at h_; exact h_)) (fun _ _ _ _ _ => Iff.rfl) ?_
  refine r_R [vT #[vI r29.1, vB r29.2], vI r29.1, vB r29.2, vI r29.1, vB r29.2] rfl <| lx_nil <| A_seq fun K31 hK31 => A_reg <| r_R [vI r29.1, vB (r29.1 == 7), vB (r29.1 == 7)] rfl ?_
  rcases hg32 : (r29.1 == 7) with _ | _
  ·replace hM := ifn (ne_of_beq_false hg32) hM
   refine r_R [none, vB false, vB false] rfl <| lx_nil <| hK31 _ _ ?_; try clear hK31 K31
   refine A_gen [(0, vB false)] rfl (fun T => ?_)
   obtain rfl := Option.some.inj hM
   refine A_ret (fun hn => ends_eq (v0 := vB false) rfl (res1 rfl))
  replace hM := ifp (eq_of_beq hg32) hM
  refine r_R [vB r29.2, vB r29.2, vB r29.2] rfl <| lx_nil <| hK31 _ _ ?_; try clear hK31 K31
  refine A_gen [(0, vB r29.2)] rfl (fun T => ?_)
  obtain rfl := Option.some.inj hM
  refine A_ret (fun hn => ends_eq (v0 := vB r29.2) rfl (res1 rfl))
 replace hM := ifp (bne_iff_ne.1 hg20) hM
 refine r_R [none, none, none, none, vB true] rfl <| lx_nil <| hK14 _ _ ?_; try clear hK14 K14
 refine A_cond true rfl (fun _ => ?_) (fun h_ => nomatch h_)
 refine A_sr <| r_V (vB false) rfl <| lx_nil ?_
 obtain rfl := Option.some.inj hM
 refine A_ret (fun hn => ends_eq (v0 := vB false) rfl (res1 rfl))
def shunterref02_May_m (_ : Nat) (v_0 : Int) (v_1 : BitVec 128) : Option Bool := if v_0 ≥ 1 then if v_0 ≤ 128 then some (decide ((((len128 ((hi v_1) ++ (lo v_1)) : Nat) : Int) : Int) ≤ v_0)) else some false else some false
set_option maxRecDepth 100000 in
set_option maxHeartbeats 8000000 in
theorem shunterref02_May_g (N : Nat) (v_0 : Int) (v_1 : BitVec 128) (r) (hM : shunterref02_May_m N v_0 v_1 = some r) : Gives Try.prog 15 #[vA #[vI v_0, U (hi v_1), U (lo v_1)]] (vB r) := by
 unfold shunterref02_May_m at hM
 refine gives_of_A follows Try.func15 rfl 22 rfl (upd (fun _ => undef) 0 (vA #[vI v_0, U (hi v_1), U (lo v_1)])) (by funext k; match k with | 0 => rfl | k + 1 => rfl) (fun base0_ => ?_)
 refine A_sr <| r_a (31, #[vI v_0, U (hi v_1), U (lo v_1)]) rfl rfl rfl (fun b2 => ?_) (.inr rfl)
 refine r_V (vB false) rfl <| lx_nil <| A_seq fun K3 hK3 => A_draw [] (by decide +kernel) (fun hn => sep_nil) <| r_V (vP b2 0) rfl <| r_l (vI v_0) 0 _ _ _ _ rfl rfl rfl rfl rfl <| r_R [vB (decide (v_0 ≥ 1)), vB (decide (v_0 ≥ 1))] rfl ?_
 rcases hg4 : (decide (v_0 ≥ 1)) with _ | _
 ·replace hM := ifn (of_decide_eq_false hg4) hM
  refine r_R [none, none, none, vB false, vB false, none, none, none, none, none, none, none, none, none, vB false, vB false] rfl <| lx_nil <| hK3 _ _ ?_; try clear hK3 K3
  obtain rfl := Option.some.inj hM
  refine A_ret (fun hn => ends_eq (v0 := vB false) rfl (res1 rfl))
 replace hM := ifp (of_decide_eq_true hg4) hM
 refine r_R [vP b2 0] rfl <| r_y rfl <| r_l (vI v_0) 0 _ _ _ _ rfl rfl rfl rfl rfl <| r_R [vB (decide (v_0 ≤ 128)), vB (decide (v_0 ≤ 128)), vB (decide (v_0 ≤ 128))] rfl ?_
 rcases hg5 : (decide (v_0 ≤ 128)) with _ | _
 ·replace hM := ifn (of_decide_eq_false hg5) hM
  refine r_R [none, none, none, none, none, none, none, none, none, vB false, vB false] rfl <| lx_nil <| hK3 _ _ ?_; try clear hK3 K3
  obtain rfl := Option.some.inj hM
  refine A_ret (fun hn => ends_eq (v0 := vB false) rfl (res1 rfl))
 replace hM := ifp (of_decide_eq_true hg5) hM
 refine r_R [vP b2 1] rfl <| r_y rfl <| r_l (U (hi v_1)) 0 _ _ _ _ rfl rfl rfl rfl rfl <| r_R [vP b2 2] rfl <| r_y rfl <| r_l (U (lo v_1)) 0 _ _ _ _ rfl rfl rfl rfl rfl <| r_y rfl <| r_c (Value.agg (rowF (BitVec.getLsbD ((hi v_1) ++ (lo v_1))))) rfl _ _ (ev_callF rfl call_33 rfl) (of_g (hi v_1) (lo v_1)) <| r_y rfl <| r_c (vI (((len128 ((hi v_1) ++ (lo v_1)) : Nat) : Int))) rfl _ _ (ev_callF rfl call_32 rfl) (rlen_g ((hi v_1) ++ (lo v_1))) <| r_R [vP b2 0] rfl <| r_y rfl <| r_l (vI v_0) 0 _ _ _ _ rfl rfl rfl rfl rfl ?_
 refine r_R [vB (decide ((((len128 ((hi v_1) ++ (lo v_1)) : Nat) : Int) : Int) ≤ v_0)), vB (decide ((((len128 ((hi v_1) ++ (lo v_1)) : Nat) : Int) : Int) ≤ v_0)), vB (decide ((((len128 ((hi v_1) ++ (lo v_1)) : Nat) : Int) : Int) ≤ v_0))] rfl <| lx_nil <| hK3 _ _ ?_; try clear hK3 K3
 obtain rfl := Option.some.inj hM
 refine A_ret (fun hn => ends_eq (v0 := vB (decide ((((len128 ((hi v_1) ++ (lo v_1)) : Nat) : Int) : Int) ≤ v_0))) rfl (res1 rfl))
def shunterref19_Find_l2 (l' : List (Int × BitVec 128 × Int)) (key_0 : Int) (key_1 : BitVec 128) : Nat → Int → Option Int
  | 0, _ => none
  | n5 + 1, i1_ => if i1_ < ((l').length : Int) then ck (0 ≤ i1_ ∧ i1_ < ((l').length : Int)) (if (((((l')[(i1_).toNat]!).1) == key_0) && ((((l')[(i1_).toNat]!).2.1) == key_1)) = true then some i1_ else ck (-9223372036854775808 ≤ (i1_ + 1) ∧ (i1_ + 1) ≤ 9223372036854775807) ((shunterref19_Find_l2 l' key_0 key_1 n5) (i1_ + 1))) else some (-1)
def shunterref19_Find_m (N : Nat) (l' : List (Int × BitVec 128 × Int)) (key_0 : Int) (key_1 : BitVec 128) : Option Int := shunterref19_Find_l2 l' key_0 key_1 N 0
set_option maxRecDepth 100000 in
set_option maxHeartbeats 8000000 in
theorem shunterref19_Find_g (N : Nat) (l' : List (Int × BitVec 128 × Int)) (key_0 : Int) (key_1 : BitVec 128) (r) (hM : shunterref19_Find_m N l' key_0 key_1 = some r) (ro : Addr → Option Value) (l'v : Value) (hl' : Rd enc_41 ro l'v l') : Does Try.prog 13 #[l'v, vA #[vI key_0, U (hi key_1), U (lo key_1)]] ro [] (pV (vI r)) := by
 unfold shunterref19_Find_m at hM
 refine does_of_A follows Try.func13 rfl 20 rfl (upd (upd (fun _ => undef) 1 (vA #[vI key_0, U (hi key_1), U (lo key_1)])) 0 l'v) (by funext k; match k with | 0 => rfl | 1 => rfl | k + 2 => rfl) (fun base0_ => ?_)
 refine A_sr <| r_a (31, #[vI key_0, U (hi key_1), U (lo key_1)]) rfl rfl rfl (fun b2 => ?_) (.inr rfl)
 refine r_V (vI 0) rfl <| lx_nil <| A_seq fun K3 hK3 => A_sr <| r_V (vI 0) rfl <| lx_nil <| A_block <| A_loop (fun tt ll nn => ∃ (n5 : Nat) (i1_ : Int), (shunterref19_Find_l2 l' key_0 key_1 n5 i1_ = some r) ∧ Is [(0, l'v), (3, vP b2 0), (5, vI i1_)] (kBa31_1 b2 key_0 (hi key_1) (lo key_1)) tt ll ∧ nn = n5 + 1) (N + 1) ?_ ?_
 ·exact ⟨N, 0, hM, is_mk rfl rfl, rfl⟩
 clear hM; rintro t l _ ⟨n5, i1_, hM, ⟨⟨T, rfl⟩, rfl⟩, rfl⟩
 rcases n5 with _ | n5
 ·exact absurd hM (by simp [shunterref19_Find_l2])
 rw [shunterref19_Find_l2] at hM
 refine A_seq fun K6 hK6 => A_sr <| r_R [vI i1_, l'v] rfl <| r_W (vI ((l').length : Int)) rfl (ev_lenSl rfl rfl rfl (Rd.shp hl')) <| r_V (vB (decide (i1_ < ((l').length : Int)))) rfl <| lx_nil <| A_cond (decide (i1_ < ((l').length : Int))) rfl (fun hc8 => ?_) (fun hc8 => ?_)
 ·replace hM := ifp (of_decide_eq_true hc8) hM
  refine A_skip <| hK6 _ _ ?_; try clear hK6 K6
  refine A_seq fun K9 hK9 => A_block <| A_seq fun K10 hK10 => A_draw [] (by decide +kernel) (fun hn => sep_nil) <| r_R [l'v, vI i1_] rfl ?_
  obtain ⟨ck11, hM⟩ := ck_some hM
  refine r_W (elA l'v ((i1_).toNat * 4)) rfl (ev_v (ev_idxSl rfl rfl rfl (Rd.shp hl') ck11)) <| r_W (elA l'v ((i1_).toNat * 4 + 0)) rfl (ev_v (ev_fieldX rfl rfl rfl rfl rfl rfl (Rd.shp hl') (pos_of ck11))) <| r_le (vA #[vI (((l')[(i1_).toNat]!).1), U (hi (((l')[(i1_).toNat]!).2.1)), U (lo (((l')[(i1_).toNat]!).2.1))]) (En := enc_41) ((l')[(i1_).toNat]!) ((i1_).toNat) 0 rfl rfl (rd_ro hl') (get_of ck11) rfl <| r_l (vA #[vI key_0, U (hi key_1), U (lo key_1)]) 0 _ _ _ _ rfl rfl rfl rfl rfl <| r_W (vB (((((l')[(i1_).toNat]!).1) == key_0) && ((((l')[(i1_).toNat]!).2.1) == key_1))) rfl (ev_binEq rfl rfl eg_31 (eqst_31 (((l')[(i1_).toNat]!).1) key_0 (((l')[(i1_).toNat]!).2.1) key_1)) ?_
  refine lx_nil <| hK10 _ _ ?_; try clear hK10 K10
  refine A_cond (((((l')[(i1_).toNat]!).1) == key_0) && ((((l')[(i1_).toNat]!).2.1) == key_1)) rfl (fun hc12 => ?_) (fun hc12 => ?_)
  ·replace hM := ifp hc12 hM
   refine A_sr <| r_R [vI i1_, vI i1_] rfl <| lx_nil ?_
   obtain rfl := Option.some.inj hM
   refine A_ret (fun hn => endsV (v0 := vI i1_) rfl (res1 rfl))
  replace hM := ifn (Bool.eq_false_iff.1 hc12) hM
  refine A_skip <| hK9 _ _ ?_; try clear hK9 K9
  refine A_reg <| r_V (vI i1_) rfl ?_
  obtain ⟨ck14, hM⟩ := ck_some hM
  refine r_X (vI (i1_ + 1)) rfl (wi64 rfl ck14.1 ck14.2) rfl <| r_V (vI (i1_ + 1)) rfl <| lx_nil <| fg _ (Sub.of (List.Sublist.cons_cons _ List.Sublist.slnil)) ?_
  exact ⟨n5 + 1, by omega, n5, (i1_ + 1), hM, is_mk rfl rfl, rfl⟩
 replace hM := ifn (of_decide_eq_false hc8) hM
 refine A_exit <| hK3 _ _ ?_; try clear hK3 K3
 refine A_sr <| r_V (vI (-1)) rfl <| lx_nil ?_
 obtain rfl := Option.some.inj hM
 refine A_ret (fun hn => endsV (v0 := vI (-1)) rfl (res1 rfl))
inductive SumRow41 where
  | nil
  | t0 (x0 : List (Int × BitVec 128 × Int))
  deriving Inhabited
def SumRow41.on {β : Type} (x : SumRow41) (a : β) (f0 : (List (Int × BitVec 128 × Int)) → β) : β := match x with | .nil => a | .t0 x0 => f0 x0
theorem SumRow41.on_nil  {β : Type} {x : SumRow41} {a r : β} {f0 : (List (Int × BitVec 128 × Int)) → β} (h : x = .nil) (e : SumRow41.on x a f0 = r) : a = r := by subst h; exact e
theorem SumRow41.at_nil  {β : Type} {a : β} {f0 : (List (Int × BitVec 128 × Int)) → β} : SumRow41.on .nil a f0 = a := rfl
theorem SumRow41.at_t0  {β : Type} {a : β} {f0 : (List (Int × BitVec 128 × Int)) → β} {x0 : List (Int × BitVec 128 × Int)} : SumRow41.on (.t0 x0) a f0 = f0 x0 := rfl
theorem SumRow41.on_t0  {β : Type} {x : SumRow41} {a r : β} {f0 : (List (Int × BitVec 128 × Int)) → β} {x0 : List (Int × BitVec 128 × Int)} (h : x = .t0 x0) (e : SumRow41.on x a f0 = r) : f0 x0 = r := by subst h; exact e
def SumRow41.onP (x : SumRow41) (a : PO) (f0 : (List (Int × BitVec 128 × Int)) → PO) : PO := match x with | .nil => a | .t0 x0 => f0 x0
theorem SumRow41.onP_nil  {x : SumRow41} {a : PO} {f0 : (List (Int × BitVec 128 × Int)) → PO} {v : Value} {O : List (List Bl)} (h : x = .nil) (e : SumRow41.onP x a f0 v O) : a v O := by subst h; exact e
theorem SumRow41.onP_t0  {x : SumRow41} {a : PO} {f0 : (List (Int × BitVec 128 × Int)) → PO} {x0 : List (Int × BitVec 128 × Int)} {v : Value} {O : List (List Bl)} (h : x = .t0 x0) (e : SumRow41.onP x a f0 v O) : f0 x0 v O := by subst h; exact e
theorem SumRow41.niceP  {x : SumRow41} {a : PO} {f0 : (List (Int × BitVec 128 × Int)) → PO} {R : List Bl} (h : NiceO a R) (h0 : ∀ x0, NiceO (f0 x0) R) : NiceO (SumRow41.onP x a f0) R := by cases x with | nil => exact h | t0 => exact h0 _
theorem SumRow41.cases (x : SumRow41) : x = .nil ∨ (∃ x0, x = .t0 x0) := by cases x <;> simp
def shunterref19_Put_m (N : Nat) (l' : List (Int × BitVec 128 × Int)) (most : Int) (key_0 : Int) (key_1 : BitVec 128) (n : Int) : Option (SumRow41 × Int) := (shunterref02_May_m N key_0 key_1).bind fun r5 => if r5 = true then (shunterref19_Find_m N l' key_0 key_1).bind fun r11 => if r11 ≥ 0 then some (.nil, 6) else if (((l').length : Int) : Int) ≥ most then some (.nil, 8) else ck ((([] : List (Int × BitVec 128 × Int))).length + (l').length ≤ 4398046511104) (ck (((([] : List (Int × BitVec 128 × Int)) ++ l')).length + ([(key_0, key_1, n)]).length ≤ 4398046511104) (some ((.t0 ((([] : List (Int × BitVec 128 × Int)) ++ l') ++ ([(key_0, key_1, n)]))), 0))) else some (.nil, 1)
set_option maxRecDepth 100000 in
set_option maxHeartbeats 8000000 in
theorem shunterref19_Put_g (N : Nat) (l' : List (Int × BitVec 128 × Int)) (most key_0 : Int) (key_1 : BitVec 128) (n : Int) (r) (hM : shunterref19_Put_m N l' most key_0 key_1 n = some r) (ro : Addr → Option Value) (l'v : Value) (hl' : Rd enc_41 ro l'v l') : Does Try.prog 21 #[l'v, vI most, vA #[vI key_0, U (hi key_1), U (lo key_1)], vI n] ro [] (pO [] (SumRow41.onP r.1 (oE (vT #[l'v, vI r.2]) []) (fun y0_0 => (oS 41 enc_41 y0_0 fun ss_0_0 => (oE (vT #[ss_0_0, vI r.2]) []))))) := by
 unfold shunterref19_Put_m at hM
 refine doesO_of_A follows Try.func21 rfl 34 rfl (upd (upd (upd (upd (fun _ => undef) 3 (vI n)) 2 (vA #[vI key_0, U (hi key_1), U (lo key_1)])) 1 (vI most)) 0 l'v) (by funext k; match k with | 0 => rfl | 1 => rfl | 2 => rfl | 3 => rfl | k + 4 => rfl) (fun _ _ h_ _ => h_) (fun base0_ => ?_)
 refine A_sr <| r_a (31, #[vI key_0, U (hi key_1), U (lo key_1)]) rfl rfl rfl (fun b2 => ?_) (.inr rfl)
 refine r_R [nS, vI 0] rfl <| lx_nil <| A_seq fun K3 hK3 => A_sr <| r_l (vA #[vI key_0, U (hi key_1), U (lo key_1)]) 0 _ _ _ _ rfl rfl rfl rfl rfl ?_
 obtain ⟨r5, hr6, hM⟩ := bind_sm hM
 refine r_c (vB r5) rfl _ _ (ev_callF rfl call_15 rfl) (shunterref02_May_g N key_0 key_1 _ hr6) <| r_V (vB (!(r5))) rfl <| lx_nil <| A_cond (!(r5)) rfl (fun hc7 => ?_) (fun hc7 => ?_)
 ·replace hM := ifn (Bool.eq_false_iff.1 (not_t hc7)) hM
  refine A_sr <| r_R [l'v, l'v, vI 1] rfl <| lx_nil ?_
  obtain rfl := Option.some.inj hM
  refine A_ret (fun hn => endsO (v0 := vT #[l'v, vI 1]) (O := []) (res2 rfl rfl) (Sub.nil _) ⟨rfl, rfl⟩)
 replace hM := ifp (not_f hc7) hM
 refine A_skip <| hK3 _ _ ?_; try clear hK3 K3
 refine A_seq fun K9 hK9 => A_sr <| r_V l'v rfl <| r_l (vA #[vI key_0, U (hi key_1), U (lo key_1)]) 0 _ _ _ _ rfl rfl rfl rfl rfl ?_
 obtain ⟨r11, hr12, hM⟩ := bind_sm hM
 refine cB 17 <| r_gv (vI r11) 13 _ rfl rfl rfl (ev_callF rfl call_13 rfl) (fun own_ nw_ hs_ => shunterref19_Find_g N l' key_0 key_1 _ hr12 hs_.view l'v ((rd_ro hl') own_ nw_ hs_)) (fun _ _ _ _ _ => Iff.rfl) <| r_V (vB (decide (r11 ≥ 0))) rfl <| lx_nil <| A_cond (decide (r11 ≥ 0)) rfl (fun hc13 => ?_) (fun hc13 => ?_)
 ·replace hM := ifp (of_decide_eq_true hc13) hM
  refine A_sr <| r_R [l'v, l'v, vI 6] rfl <| lx_nil ?_
  obtain rfl := Option.some.inj hM
  refine A_ret (fun hn => endsO (v0 := vT #[l'v, vI 6]) (O := []) (res2 rfl rfl) (Sub.nil _) ⟨rfl, rfl⟩)
 replace hM := ifn (of_decide_eq_false hc13) hM
 refine A_skip <| hK9 _ _ ?_; try clear hK9 K9
 refine A_seq fun K15 hK15 => A_sr <| r_V l'v rfl <| r_W (vI ((l').length : Int)) rfl (ev_lenSl rfl rfl rfl (Rd.shp hl')) <| r_R [vI most, vB (decide ((((l').length : Int) : Int) ≥ most))] rfl <| lx_nil <| A_cond (decide ((((l').length : Int) : Int) ≥ most)) rfl (fun hc17 => ?_) (fun hc17 => ?_)
 ·replace hM := ifp (of_decide_eq_true hc17) hM
  refine A_sr <| r_R [l'v, l'v, vI 8] rfl <| lx_nil ?_
  obtain rfl := Option.some.inj hM
  refine A_ret (fun hn => endsO (v0 := vT #[l'v, vI 8]) (O := []) (res2 rfl rfl) (Sub.nil _) ⟨rfl, rfl⟩)
 replace hM := ifn (of_decide_eq_false hc17) hM
 refine A_skip <| hK15 _ _ ?_; try clear hK15 K15
 refine A_sr <| r_V nS rfl <| lx_nil <| A_sr <| r_R [nS, l'v] rfl ?_
 obtain ⟨ck21, hM⟩ := ck_some hM
 refine lx_nilp [(kBa31_1 b2 key_0 (hi key_1) (lo key_1))] <| cC 27 <| r_app (cs0 := []) (Ls := [(kBa31_1 b2 key_0 (hi key_1) (lo key_1)), []]) 1 (En := enc_41) rfl rfl rfl rfl rfl Sl.nil rfl (rd_ro hl') rfl rfl rfl rfl rfl (app_b ck21 rfl) (app_m ck21 rfl) rfl (fun s22 S23 H24 => ?_)
 refine r_V s22 rfl <| lx_nil <| A_sr <| r_V s22 rfl <| r_l (vA #[vI key_0, U (hi key_1), U (lo key_1)]) 0 _ _ _ _ rfl rfl rfl rfl rfl <| r_V (vI n) rfl <| r_W (vA #[vI key_0, U (hi key_1), U (lo key_1), vI n]) rfl (ev_buildS rfl rfl rfl rfl) <| cD 32 <| r_bs (cs0 := []) (Ls := [(kBa31_1 b2 key_0 (hi key_1) (lo key_1)), S23]) 41 enc_41 [(key_0, key_1, n)] [vI key_0, U (hi key_1), U (lo key_1), vI n] [vI 0, U (0#64), U (0#64), vI 0] rfl rfl rfl rfl rfl rfl rfl (by kernel_rfl) (by kernel_rfl) rfl rfl rfl (fun s26 S27 H28 => ?_)
 obtain ⟨ck29, hM⟩ := ck_some hM
 refine cC 33 <| r_app (cs0 := []) (Ls := [(kBa31_1 b2 key_0 (hi key_1) (lo key_1)), S23, S27]) 1 (En := enc_41) rfl rfl rfl rfl rfl H24 rfl (rd_own H28 (mem_chunk (Ls := [(kBa31_1 b2 key_0 (hi key_1) (lo key_1)), S23, S27]) (k := 2) rfl rfl)) rfl rfl rfl rfl rfl (app_b ck29 rfl) (app_m ck29 rfl) rfl (fun s30 S31 H32 => ?_)
 refine r_R [s30, vI 0] rfl <| lx_nil <| A_gen [(8, s30), (9, vI 0)] rfl (fun T => ?_)
 obtain rfl := Option.some.inj hM
 refine A_ret (fun hn => endsO (v0 := vT #[s30, vI 0]) (O := [S31]) (res2 rfl rfl) (Sub.pick [(kBa31_1 b2 key_0 (hi key_1) (lo key_1)), S31, S27] [1] rfl) ⟨s30, S31, _, H32, ⟨rfl, rfl⟩, rfl⟩)
def shunterref19_Set_m (N : Nat) (l' : List (Int × BitVec 128 × Int)) (key_0 : Int) (key_1 : BitVec 128) (n : Int) : Option (SumRow41 × Int) := (shunterref02_May_m N key_0 key_1).bind fun r5 => if r5 = true then (shunterref19_Find_m N l' key_0 key_1).bind fun r10 => if r10 < 0 then some (.nil, 5) else ck ((([] : List (Int × BitVec 128 × Int))).length + (l').length ≤ 4398046511104) (ck (0 ≤ r10 ∧ r10 < (((([] : List (Int × BitVec 128 × Int)) ++ l')).length : Int)) (some ((.t0 (((([] : List (Int × BitVec 128 × Int)) ++ l')).set ((r10).toNat) (((((([] : List (Int × BitVec 128 × Int)) ++ l'))[(r10).toNat]!).1, (((([] : List (Int × BitVec 128 × Int)) ++ l'))[(r10).toNat]!).2.1, n)))), 0))) else some (.nil, 1)
set_option maxRecDepth 100000 in
set_option maxHeartbeats 8000000 in
theorem shunterref19_Set_g (N : Nat) (l' : List (Int × BitVec 128 × Int)) (key_0 : Int) (key_1 : BitVec 128) (n : Int) (r) (hM : shunterref19_Set_m N l' key_0 key_1 n = some r) (ro : Addr → Option Value) (l'v : Value) (hl' : Rd enc_41 ro l'v l') : Does Try.prog 22 #[l'v, vA #[vI key_0, U (hi key_1), U (lo key_1)], vI n] ro [] (pO [] (SumRow41.onP r.1 (oE (vT #[l'v, vI r.2]) []) (fun y0_0 => (oS 41 enc_41 y0_0 fun ss_0_0 => (oE (vT #[ss_0_0, vI r.2]) []))))) := by
 unfold shunterref19_Set_m at hM
 refine doesO_of_A follows Try.func22 rfl 29 rfl (upd (upd (upd (fun _ => undef) 2 (vI n)) 1 (vA #[vI key_0, U (hi key_1), U (lo key_1)])) 0 l'v) (by funext k; match k with | 0 => rfl | 1 => rfl | 2 => rfl | k + 3 => rfl) (fun _ _ h_ _ => h_) (fun base0_ => ?_)
 refine A_sr <| r_a (31, #[vI key_0, U (hi key_1), U (lo key_1)]) rfl rfl rfl (fun b2 => ?_) (.inr rfl)
 refine r_R [nS, vI 0] rfl <| lx_nil <| A_seq fun K3 hK3 => A_sr <| r_l (vA #[vI key_0, U (hi key_1), U (lo key_1)]) 0 _ _ _ _ rfl rfl rfl rfl rfl ?_
 obtain ⟨r5, hr6, hM⟩ := bind_sm hM
 refine r_c (vB r5) rfl _ _ (ev_callF rfl call_15 rfl) (shunterref02_May_g N key_0 key_1 _ hr6) <| r_V (vB (!(r5))) rfl <| lx_nil <| A_cond (!(r5)) rfl (fun hc7 => ?_) (fun hc7 => ?_)
 ·replace hM := ifn (Bool.eq_false_iff.1 (not_t hc7)) hM
  refine A_sr <| r_R [l'v, l'v, vI 1] rfl <| lx_nil ?_
  obtain rfl := Option.some.inj hM
  refine A_ret (fun hn => endsO (v0 := vT #[l'v, vI 1]) (O := []) (res2 rfl rfl) (Sub.nil _) ⟨rfl, rfl⟩)
 replace hM := ifp (not_f hc7) hM
 refine A_skip <| hK3 _ _ ?_; try clear hK3 K3
 refine A_sr <| r_V l'v rfl <| r_l (vA #[vI key_0, U (hi key_1), U (lo key_1)]) 0 _ _ _ _ rfl rfl rfl rfl rfl ?_
 obtain ⟨r10, hr11, hM⟩ := bind_sm hM
 refine cB 16 <| r_gv (vI r10) 13 _ rfl rfl rfl (ev_callF rfl call_13 rfl) (fun own_ nw_ hs_ => shunterref19_Find_g N l' key_0 key_1 _ hr11 hs_.view l'v ((rd_ro hl') own_ nw_ hs_)) (fun _ _ _ _ _ => Iff.rfl) <| r_V (vI r10) rfl <| lx_nil <| A_seq fun K12 hK12 => A_sr <| r_R [vI r10, vB (decide (r10 < 0))] rfl <| lx_nil <| A_cond (decide (r10 < 0)) rfl (fun hc14 => ?_) (fun hc14 => ?_)
 ·replace hM := ifp (of_decide_eq_true hc14) hM
  refine A_sr <| r_R [l'v, l'v, vI 5] rfl <| lx_nil ?_
  obtain rfl := Option.some.inj hM
  refine A_ret (fun hn => endsO (v0 := vT #[l'v, vI 5]) (O := []) (res2 rfl rfl) (Sub.nil _) ⟨rfl, rfl⟩)
 replace hM := ifn (of_decide_eq_false hc14) hM
 refine A_skip <| hK12 _ _ ?_; try clear hK12 K12
 refine A_sr <| r_V nS rfl <| lx_nil <| A_sr <| r_R [nS, l'v] rfl ?_
 obtain ⟨ck18, hM⟩ := ck_some hM
 refine lx_nilp [(kBa31_1 b2 key_0 (hi key_1) (lo key_1))] <| cC 22 <| r_app (cs0 := []) (Ls := [(kBa31_1 b2 key_0 (hi key_1) (lo key_1)), []]) 1 (En := enc_41) rfl rfl rfl rfl rfl Sl.nil rfl (rd_ro hl') rfl rfl rfl rfl rfl (app_b ck18 rfl) (app_m ck18 rfl) rfl (fun s19 S20 H21 => ?_)
 refine r_V s19 rfl <| lx_nil <| A_sr <| r_R [s19, vI r10, vI n] rfl ?_
 obtain ⟨ck23, hM⟩ := ck_some hM
 refine r_W (elA s19 ((r10).toNat * 4)) rfl (ev_v (ev_idxSl rfl rfl rfl (Sl.shp H21) ck23)) <| r_W (elA s19 ((r10).toNat * 4 + 3)) rfl (ev_v (ev_fieldX rfl rfl rfl rfl rfl rfl (Sl.shp H21) (pos_of ck23))) <| r_se (Ls := [(kBa31_1 b2 key_0 (hi key_1) (lo key_1)), S20]) 1 (En := enc_41) (((([] : List (Int × BitVec 128 × Int)) ++ l'))[(r10).toNat]!) (((((([] : List (Int × BitVec 128 × Int)) ++ l'))[(r10).toNat]!).1, (((([] : List (Int × BitVec 128 × Int)) ++ l'))[(r10).toNat]!).2.1, n)) ((r10).toNat) 3 rfl rfl rfl H21 (get_of ck23) rfl rfl rfl (one_all rfl) rfl (fun S24 H25 => ?_)
 refine lx_nil <| A_sr <| r_R [s19, s19, vI 0] rfl <| lx_nil ?_
 obtain rfl := Option.some.inj hM
 refine A_ret (fun hn => endsO (v0 := vT #[s19, vI 0]) (O := [S24]) (res2 rfl rfl) (Sub.pick [(kBa31_1 b2 key_0 (hi key_1) (lo key_1)), S24] [1] rfl) ⟨s19, S24, _, H25, ⟨rfl, rfl⟩, rfl⟩)
def exact_Map_Set_v1_m (N : Nat) (m_0 : List (Int × BitVec 128 × Int)) (m_1 : Int) (m_2 : Int) (key_0 : Int) (key_1 : BitVec 128) (n : Int) : Option (Int × (List (Int × BitVec 128 × Int)) × Int × Int) := (exact_Map_there_v1_m N m_0 m_1 m_2 key_0 key_1).bind fun r4 => if (r4.2 : Int) ≠ 0 then some (r4.2, m_0, m_1, m_2) else ck (0 ≤ r4.1 ∧ r4.1 < ((m_0).length : Int)) (some (0, (m_0).set ((r4.1).toNat) (((m_0)[(r4.1).toNat]!).1, ((m_0)[(r4.1).toNat]!).2.1, n), m_1, m_2))
set_option maxRecDepth 100000 in
set_option maxHeartbeats 8000000 in
theorem exact_Map_Set_v1_g (N : Nat) (m_0 : List (Int × BitVec 128 × Int)) (m_1 m_2 key_0 : Int) (key_1 : BitVec 128) (n : Int) (r) (hM : exact_Map_Set_v1_m N m_0 m_1 m_2 key_0 key_1 n = some r) (ro : Addr → Option Value) (bm : Nat) (m_0v : Value) (Sm_0 : List Bl) (hm_0 : Sl 40 enc_40 m_0v m_0 Sm_0) : Does Try.prog 17 #[vP bm 0, vA #[vI key_0, U (hi key_1), U (lo key_1)], vI n] ro (List.flatten [(kBa53_0 bm m_0v m_1 m_2), Sm_0]) (pO (List.flatten [(kBa53_0 bm m_0v m_1 m_2), Sm_0]) (oI 40 enc_40 m_0v r.2.1 (oE (vI r.1) [(kBa53_0 bm m_0v r.2.2.1 r.2.2.2)]))) := by
 unfold exact_Map_Set_v1_m at hM
 refine doesO_of_A follows Try.func17 rfl 26 rfl (upd (upd (upd (fun _ => undef) 2 (vI n)) 1 (vA #[vI key_0, U (hi key_1), U (lo key_1)])) 0 (vP bm 0)) (by funext k; match k with | 0 => rfl | 1 => rfl | 2 => rfl | k + 3 => rfl) (fun _ _ h_ _ => h_) (fun base0_ => ?_)
 refine A_sr <| r_a (31, #[vI key_0, U (hi key_1), U (lo key_1)]) rfl rfl rfl (fun b2 => ?_) (.inr rfl)
 refine r_V (vI 0) rfl <| lx_nil <| A_sr <| r_V (vP bm 0) rfl <| r_l (vA #[vI key_0, U (hi key_1), U (lo key_1)]) 0 _ _ _ _ rfl rfl rfl rfl rfl ?_
 obtain ⟨r4, hr5, hM⟩ := bind_sm hM
 refine cB 12 <| r_gv (vT #[vI r4.1, vI r4.2]) 36 _ rfl rfl rfl (ev_callF rfl call_36 rfl) (fun own_ nw_ hs_ => exact_Map_there_v1_g N m_0 m_1 m_2 key_0 key_1 _ hr5 hs_.view bm m_0v ((rd_own hm_0 (mem_chunk (Ls := [(kBa31_1 b2 key_0 (hi key_1) (lo key_1)), (kBa53_0 bm m_0v m_1 m_2), Sm_0]) (k := 2) rfl rfl)) own_ nw_ hs_) (blk_own 1 rfl rfl own_ nw_ hs_)) (fun _ _ _ _ _ => Iff.rfl) <| r_R [vT #[vI r4.1, vI r4.2], vI r4.1, vI r4.2, vI r4.1, vI r4.2] rfl <| lx_nil <| A_seq fun K6 hK6 => A_sr <| r_R [vI r4.2, vB (r4.2 != 0)] rfl <| lx_nil <| A_cond (r4.2 != 0) rfl (fun hc8 => ?_) (fun hc8 => ?_)
 ·replace hM := ifp (bne_iff_ne.1 hc8) hM
  refine A_sr <| r_R [vI r4.2, vI r4.2] rfl <| lx_nil ?_
  obtain rfl := Option.some.inj hM
  refine A_ret (fun hn => endsO (v0 := vI r4.2) (O := [Sm_0, (kBa53_0 bm m_0v m_1 m_2)]) (res1 rfl) (Sub.pick [(kBa31_1 b2 key_0 (hi key_1) (lo key_1)), (kBa53_0 bm m_0v m_1 m_2), Sm_0] [2, 1] rfl) ⟨Sm_0, _, hm_0, ⟨rfl, rfl⟩, rfl⟩)
 replace hM := ifn (bne_f hc8) hM
 refine A_skip <| hK6 _ _ ?_; try clear hK6 K6
 refine A_sr <| r_R [vP bm 0, vP bm 0, vP bm 0] rfl <| r_l m_0v 1 _ _ _ _ rfl rfl rfl rfl rfl <| r_R [vI r4.1, vI n] rfl ?_
 obtain ⟨ck11, hM⟩ := ck_some hM
 refine r_W (elA m_0v ((r4.1).toNat * 4)) rfl (ev_v (ev_idxSl rfl rfl rfl (Sl.shp hm_0) ck11)) <| r_W (elA m_0v ((r4.1).toNat * 4 + 3)) rfl (ev_v (ev_fieldX rfl rfl rfl rfl rfl rfl (Sl.shp hm_0) (pos_of ck11))) <| r_se (Ls := [(kBa31_1 b2 key_0 (hi key_1) (lo key_1)), (kBa53_0 bm m_0v m_1 m_2), Sm_0]) 2 (En := enc_40) ((m_0)[(r4.1).toNat]!) (((m_0)[(r4.1).toNat]!).1, ((m_0)[(r4.1).toNat]!).2.1, n) ((r4.1).toNat) 3 rfl rfl rfl hm_0 (get_of ck11) rfl rfl rfl (one_all rfl) rfl (fun S12 H13 => ?_)
 refine lx_nil <| A_sr <| r_V (vI 0) rfl <| lx_nil ?_
 obtain rfl := Option.some.inj hM
 refine A_ret (fun hn => endsO (v0 := vI 0) (O := [S12, (kBa53_0 bm m_0v m_1 m_2)]) (res1 rfl) (Sub.pick [(kBa31_1 b2 key_0 (hi key_1) (lo key_1)), (kBa53_0 bm m_0v m_1 m_2), S12] [2, 1] rfl) ⟨S12, _, H13, ⟨rfl, rfl⟩, rfl⟩)
def shunterref19_Drop_m (N : Nat) (l' : List (Int × BitVec 128 × Int)) (key_0 : Int) (key_1 : BitVec 128) : Option (SumRow41 × Int) := (shunterref02_May_m N key_0 key_1).bind fun r5 => if r5 = true then (shunterref19_Find_m N l' key_0 key_1).bind fun r10 => if r10 < 0 then some (.nil, 5) else ck (0 ≤ r10 ∧ r10 ≤ ((l').length : Int)) (ck ((([] : List (Int × BitVec 128 × Int))).length + (((l').take ((r10).toNat)).drop 0).length ≤ 4398046511104) (ck (-9223372036854775808 ≤ (r10 + 1) ∧ (r10 + 1) ≤ 9223372036854775807) (ck (0 ≤ (r10 + 1) ∧ (r10 + 1) ≤ ((l').length : Int)) (ck (((([] : List (Int × BitVec 128 × Int)) ++ (((l').take ((r10).toNat)).drop 0))).length + (((l').take ((l').length)).drop (((r10 + 1)).toNat)).length ≤ 4398046511104) (some ((.t0 ((([] : List (Int × BitVec 128 × Int)) ++ (((l').take ((r10).toNat)).drop 0)) ++ (((l').take ((l').length)).drop (((r10 + 1)).toNat)))), 0)))))) else some (.nil, 1)
set_option maxRecDepth 100000 in
set_option maxHeartbeats 8000000 in
theorem shunterref19_Drop_g (N : Nat) (l' : List (Int × BitVec 128 × Int)) (key_0 : Int) (key_1 : BitVec 128) (r) (hM : shunterref19_Drop_m N l' key_0 key_1 = some r) (ro : Addr → Option Value) (l'v : Value) (hl' : Rd enc_41 ro l'v l') : Does Try.prog 23 #[l'v, vA #[vI key_0, U (hi key_1), U (lo key_1)]] ro [] (pO [] (SumRow41.onP r.1 (oE (vT #[l'v, vI r.2]) []) (fun y0_0 => (oS 41 enc_41 y0_0 fun ss_0_0 => (oE (vT #[ss_0_0, vI r.2]) []))))) := by
 unfold shunterref19_Drop_m at hM
 refine doesO_of_A follows Try.func23 rfl 29 rfl (upd (upd (fun _ => undef) 1 (vA #[vI key_0, U (hi key_1), U (lo key_1)])) 0 l'v) (by funext k; match k with | 0 => rfl | 1 => rfl | k + 2 => rfl) (fun _ _ h_ _ => h_) (fun base0_ => ?_)
 refine A_sr <| r_a (31, #[vI key_0, U (hi key_1), U (lo key_1)]) rfl rfl rfl (fun b2 => ?_) (.inr rfl)
 refine r_R [nS, vI 0] rfl <| lx_nil <| A_seq fun K3 hK3 => A_sr <| r_l (vA #[vI key_0, U (hi key_1), U (lo key_1)]) 0 _ _ _ _ rfl rfl rfl rfl rfl ?_
 obtain ⟨r5, hr6, hM⟩ := bind_sm hM
 refine r_c (vB r5) rfl _ _ (ev_callF rfl call_15 rfl) (shunterref02_May_g N key_0 key_1 _ hr6) <| r_V (vB (!(r5))) rfl <| lx_nil <| A_cond (!(r5)) rfl (fun hc7 => ?_) (fun hc7 => ?_)
 ·replace hM := ifn (Bool.eq_false_iff.1 (not_t hc7)) hM
  refine A_sr <| r_R [l'v, l'v, vI 1] rfl <| lx_nil ?_
  obtain rfl := Option.some.inj hM
  refine A_ret (fun hn => endsO (v0 := vT #[l'v, vI 1]) (O := []) (res2 rfl rfl) (Sub.nil _) ⟨rfl, rfl⟩)
 replace hM := ifp (not_f hc7) hM
 refine A_skip <| hK3 _ _ ?_; try clear hK3 K3
 refine A_sr <| r_V l'v rfl <| r_l (vA #[vI key_0, U (hi key_1), U (lo key_1)]) 0 _ _ _ _ rfl rfl rfl rfl rfl ?_
 obtain ⟨r10, hr11, hM⟩ := bind_sm hM
 refine cB 14 <| r_gv (vI r10) 13 _ rfl rfl rfl (ev_callF rfl call_13 rfl) (fun own_ nw_ hs_ => shunterref19_Find_g N l' key_0 key_1 _ hr11 hs_.view l'v ((rd_ro hl') own_ nw_ hs_)) (fun _ _ _ _ _ => Iff.rfl) <| r_V (vI r10) rfl <| lx_nil <| A_seq fun K12 hK12 => A_sr <| r_R [vI r10, vB (decide (r10 < 0))] rfl <| lx_nil <| A_cond (decide (r10 < 0)) rfl (fun hc14 => ?_) (fun hc14 => ?_)
 ·replace hM := ifp (of_decide_eq_true hc14) hM
  refine A_sr <| r_R [l'v, l'v, vI 5] rfl <| lx_nil ?_
  obtain rfl := Option.some.inj hM
  refine A_ret (fun hn => endsO (v0 := vT #[l'v, vI 5]) (O := []) (res2 rfl rfl) (Sub.nil _) ⟨rfl, rfl⟩)
 replace hM := ifn (of_decide_eq_false hc14) hM
 refine A_skip <| hK12 _ _ ?_; try clear hK12 K12
 refine A_sr <| r_V nS rfl <| lx_nil <| A_sr <| r_R [nS, l'v, vI r10] rfl ?_
 obtain ⟨ck18, hM⟩ := ck_some hM
 refine r_W (subA l'v 0 ((r10).toNat) 4) rfl (ev_v (ev_subSl2 rfl rfl rfl rfl (Rd.shp hl') ck18)) ?_
 obtain ⟨ck19, hM⟩ := ck_some hM
 refine lx_nilp [(kBa31_1 b2 key_0 (hi key_1) (lo key_1))] <| cC 22 <| r_app (cs0 := []) (Ls := [(kBa31_1 b2 key_0 (hi key_1) (lo key_1)), []]) 1 (En := enc_41) rfl rfl rfl rfl rfl Sl.nil rfl (rd_sub (rd_ro hl') (Nat.zero_le _) (toNat_len ck18.2)) rfl rfl rfl rfl rfl (app_b ck19 rfl) (app_m ck19 rfl) rfl (fun s20 S21 H22 => ?_)
 refine r_V s20 rfl <| lx_nil <| A_sr <| r_R [s20, l'v, vI r10] rfl ?_
 obtain ⟨ck24, hM⟩ := ck_some hM
 refine r_X (vI (r10 + 1)) rfl (wi64 rfl ck24.1 ck24.2) rfl ?_
 obtain ⟨ck25, hM⟩ := ck_some hM
 refine r_W (subA l'v (((r10 + 1)).toNat) ((l').length) 4) rfl (ev_v (ev_subSl1 rfl rfl rfl rfl (Rd.shp hl') ck25)) ?_
 obtain ⟨ck26, hM⟩ := ck_some hM
 refine cC 28 <| r_app (cs0 := []) (Ls := [(kBa31_1 b2 key_0 (hi key_1) (lo key_1)), S21]) 1 (En := enc_41) rfl rfl rfl rfl rfl H22 rfl (rd_sub (rd_ro hl') (toNat_len ck25.2) (Nat.le_refl _)) rfl rfl rfl rfl rfl (app_b ck26 rfl) (app_m ck26 rfl) rfl (fun s27 S28 H29 => ?_)
 refine r_R [s27, vI 0] rfl <| lx_nil ?_
 obtain rfl := Option.some.inj hM
 refine A_ret (fun hn => endsO (v0 := vT #[s27, vI 0]) (O := [S28]) (res2 rfl rfl) (Sub.pick [(kBa31_1 b2 key_0 (hi key_1) (lo key_1)), S28] [1] rfl) ⟨s27, S28, _, H29, ⟨rfl, rfl⟩, rfl⟩)
def exact_Map_ahead_v1_m (_ : Nat) (m_0 : List (Int × BitVec 128 × Int)) (_ : Int) (_ : Int) (from' : Int) (to : Int) : Option Int := ck (-9223372036854775808 ≤ (to - from') ∧ (to - from') ≤ 9223372036854775807) (ck ((-9223372036854775808 ≤ ((to - from') + ((m_0).length : Int)) ∧ ((to - from') + ((m_0).length : Int)) ≤ 9223372036854775807)) (ck (((0 : Int) ≤ ((to - from') + ((m_0).length : Int)) ∧ (((to - from') + ((m_0).length : Int)) : Int) ≤ 9223372036854775807) ∧ (0 : Int) < ((m_0).length : Int)) (some (((to - from') + ((m_0).length : Int)) % ((m_0).length : Int)))))
set_option maxRecDepth 100000 in
set_option maxHeartbeats 8000000 in
theorem exact_Map_ahead_v1_g (N : Nat) (m_0 : List (Int × BitVec 128 × Int)) (m_1 m_2 from' to r : Int) (hM : exact_Map_ahead_v1_m N m_0 m_1 m_2 from' to = some r) (ro : Addr → Option Value) (bm : Nat) (m_0v : Value) (hm_0 : Rd enc_40 ro m_0v m_0) (hbm : Blk ro bm [m_0v, vI m_1, vI m_2]) : Does Try.prog 51 #[vP bm 0, vI from', vI to] ro [] (pV (vI r)) := by
 unfold exact_Map_ahead_v1_m at hM
 refine does_of_A follows Try.func51 rfl 22 rfl (upd (upd (upd (fun _ => undef) 2 (vI to)) 1 (vI from')) 0 (vP bm 0)) (by funext k; match k with | 0 => rfl | 1 => rfl | 2 => rfl | k + 3 => rfl) (fun base0_ => ?_)
 refine A_sr <| r_V (vI 0) rfl <| lx_nil <| A_seq fun K2 hK2 => A_draw [] (by decide +kernel) (fun hn => sep_nil) <| r_R [vI to, vI from'] rfl ?_
 obtain ⟨ck3, hM⟩ := ck_some hM
 refine r_X (vI (to - from')) rfl (wi64 rfl ck3.1 ck3.2) rfl <| r_R [vP bm 0, vP bm 0, vP bm 0] rfl <| r_lb m_0v (vs := [m_0v, vI m_1, vI m_2]) (o := 0) rfl rfl (blk_ro hbm) rfl <| r_W (vI ((m_0).length : Int)) rfl (ev_lenSl rfl rfl rfl (Rd.shp hm_0)) ?_
 obtain ⟨ck4, hM⟩ := ck_some hM
 refine r_X (vI ((to - from') + ((m_0).length : Int))) rfl (wi64 rfl ck4.1 ck4.2) rfl <| r_R [vP bm 0, vP bm 0, vP bm 0] rfl <| r_lb m_0v (vs := [m_0v, vI m_1, vI m_2]) (o := 0) rfl rfl (blk_ro hbm) rfl <| r_W (vI ((m_0).length : Int)) rfl (ev_lenSl rfl rfl rfl (Rd.shp hm_0)) ?_
 obtain ⟨ck5, hM⟩ := ck_some hM
 refine r_v (vI (((to - from') + ((m_0).length : Int)) % ((m_0).length : Int))) rfl rfl (rem_i64 ck5.1.1) (ev_remI rfl rfl ck5.2) <| r_V (vI (((to - from') + ((m_0).length : Int)) % ((m_0).length : Int))) rfl <| lx_nil <| hK2 _ _ ?_; try clear hK2 K2
 obtain rfl := Option.some.inj hM
 refine A_ret (fun hn => endsV (v0 := vI (((to - from') + ((m_0).length : Int)) % ((m_0).length : Int))) rfl (res1 rfl))
def exact_Map_empty_1_v1_m (N : Nat) (at' : Int) (c1_p0__0 : List (Int × BitVec 128 × Int)) (c1_p0__1 : Int) (c1_p0__2 : Int) (c2_ : Int) : Option (Bool × (List (Int × BitVec 128 × Int)) × Int × Int × Int) := (exact_Map_free_v1_m N c1_p0__0 c1_p0__1 c1_p0__2 at').bind fun r4 => if r4 = true then some (true, c1_p0__0, c1_p0__1, c1_p0__2, c2_) else ck (0 ≤ at' ∧ at' < ((c1_p0__0).length : Int)) ((exact_Map_home_v1_m N c1_p0__0 c1_p0__1 c1_p0__2 (((c1_p0__0)[(at').toNat]!).1) (((c1_p0__0)[(at').toNat]!).2.1)).bind fun r11 => (exact_Map_ahead_v1_m N c1_p0__0 c1_p0__1 c1_p0__2 r11 at').bind fun r13 => (exact_Map_ahead_v1_m N c1_p0__0 c1_p0__1 c1_p0__2 c2_ at').bind fun r15 => if r13 ≥ r15 then ck (0 ≤ at' ∧ at' < ((c1_p0__0).length : Int)) (ck (0 ≤ c2_ ∧ c2_ < ((c1_p0__0).length : Int)) (some (false, (c1_p0__0).set ((c2_).toNat) (((c1_p0__0)[(at').toNat]!).1, ((c1_p0__0)[(at').toNat]!).2.1, ((c1_p0__0)[(at').toNat]!).2.2), c1_p0__1, c1_p0__2, at'))) else some (false, c1_p0__0, c1_p0__1, c1_p0__2, c2_))
set_option maxRecDepth 100000 in
set_option maxHeartbeats 8000000 in
theorem exact_Map_empty_1_v1_g (N : Nat) (at' : Int) (c1_p0__0 : List (Int × BitVec 128 × Int)) (c1_p0__1 c1_p0__2 c2_ : Int) (r) (hM : exact_Map_empty_1_v1_m N at' c1_p0__0 c1_p0__1 c1_p0__2 c2_ = some r) (ro : Addr → Option Value) (bc1_ bc1_p0_ : Nat) (c1_p0__0v : Value) (Sc1_p0__0 : List Bl) (hc1_p0__0 : Sl 40 enc_40 c1_p0__0v c1_p0__0 Sc1_p0__0) (bc2_ : Nat) : Does Try.prog 50 #[vI at', vP bc1_ 0, vP bc2_ 0] ro (List.flatten [(kBa23_2 bc1_ (vP bc1_p0_ 0)), (kBa53_0 bc1_p0_ c1_p0__0v c1_p0__1 c1_p0__2), (kBa3_3 bc2_ c2_), Sc1_p0__0]) (pO (List.flatten [(kBa23_2 bc1_ (vP bc1_p0_ 0)), (kBa53_0 bc1_p0_ c1_p0__0v c1_p0__1 c1_p0__2), (kBa3_3 bc2_ c2_), Sc1_p0__0]) (oI 40 enc_40 c1_p0__0v r.2.1 (oE (vB r.1) [(kBa53_0 bc1_p0_ c1_p0__0v r.2.2.1 r.2.2.2.1), (kBa23_2 bc1_ (vP bc1_p0_ 0)), (kBa3_3 bc2_ r.2.2.2.2)]))) := by
 unfold exact_Map_empty_1_v1_m at hM
 refine doesO_of_A follows Try.func50 rfl 40 rfl (upd (upd (upd (fun _ => undef) 2 (vP bc2_ 0)) 1 (vP bc1_ 0)) 0 (vI at')) (by funext k; match k with | 0 => rfl | 1 => rfl | 2 => rfl | k + 3 => rfl) (fun _ _ h_ _ => h_) (fun base0_ => ?_)
 refine A_sr <| r_V (vB false) rfl <| lx_nil <| A_seq fun K2 hK2 => A_sr <| r_l (vP bc1_p0_ 0) 0 _ _ _ _ rfl rfl rfl rfl rfl <| r_V (vI at') rfl ?_
 obtain ⟨r4, hr5, hM⟩ := bind_sm hM
 refine cB 7 <| r_gv (vB r4) 24 _ rfl rfl rfl (ev_callF rfl call_24 rfl) (fun own_ nw_ hs_ => exact_Map_free_v1_g N c1_p0__0 c1_p0__1 c1_p0__2 at' _ hr5 hs_.view bc1_p0_ c1_p0__0v ((rd_own hc1_p0__0 (mem_chunk (Ls := [(kBa23_2 bc1_ (vP bc1_p0_ 0)), (kBa53_0 bc1_p0_ c1_p0__0v c1_p0__1 c1_p0__2), (kBa3_3 bc2_ c2_), Sc1_p0__0]) (k := 3) rfl rfl)) own_ nw_ hs_) (blk_own 1 rfl rfl own_ nw_ hs_)) (fun _ _ _ _ _ => Iff.rfl) <| lx_nil <| A_cond r4 rfl (fun hc6 => ?_) (fun hc6 => ?_)
 ·replace hM := ifp hc6 hM
  refine A_sr <| r_V (vB true) rfl <| lx_nil ?_
  obtain rfl := Option.some.inj hM
  refine A_ret (fun hn => endsO (v0 := vB true) (O := [Sc1_p0__0, (kBa53_0 bc1_p0_ c1_p0__0v c1_p0__1 c1_p0__2), (kBa23_2 bc1_ (vP bc1_p0_ 0)), (kBa3_3 bc2_ c2_)]) (res1 rfl) (Sub.pick [(kBa23_2 bc1_ (vP bc1_p0_ 0)), (kBa53_0 bc1_p0_ c1_p0__0v c1_p0__1 c1_p0__2), (kBa3_3 bc2_ c2_), Sc1_p0__0] [3, 1, 0, 2] rfl) ⟨Sc1_p0__0, _, hc1_p0__0, ⟨rfl, rfl⟩, rfl⟩)
 replace hM := ifn (Bool.eq_false_iff.1 hc6) hM
 refine A_skip <| hK2 _ _ ?_; try clear hK2 K2
 refine A_seq fun K8 hK8 => A_seq fun K9 hK9 => ?_
 refine A_drawR [(some 18, false), (some 20, false), (some 24, false)] (conG Try.prog [(18, fun _ _ v_ L_ U_ => ∀ u0_, exact_Map_home_v1_m N c1_p0__0 c1_p0__1 c1_p0__2 (((c1_p0__0)[(at').toNat]!).1) (((c1_p0__0)[(at').toNat]!).2.1) = some u0_ → (pV (vI u0_)) v_ L_ U_), (20, fun _ _ v_ L_ U_ => ∀ u0_, exact_Map_home_v1_m N c1_p0__0 c1_p0__1 c1_p0__2 (((c1_p0__0)[(at').toNat]!).1) (((c1_p0__0)[(at').toNat]!).2.1) = some u0_ → ∀ u1_, exact_Map_ahead_v1_m N c1_p0__0 c1_p0__1 c1_p0__2 u0_ at' = some u1_ → (pV (vI u1_)) v_ L_ U_), (24, fun _ _ v_ L_ U_ => ∀ u0_, exact_Map_ahead_v1_m N c1_p0__0 c1_p0__1 c1_p0__2 c2_ at' = some u0_ → (pV (vI u0_)) v_ L_ U_)]) [] (by decide +kernel) (fun hn => sep_nil) ?_
 refine r_l (vP bc1_p0_ 0) 0 _ _ _ _ rfl rfl rfl rfl rfl <| r_l (vP bc1_p0_ 0) 0 _ _ _ _ rfl rfl rfl rfl rfl <| r_l (vP bc1_p0_ 0) 0 _ _ _ _ rfl rfl rfl rfl rfl <| r_R [vP bc1_p0_ 0, vP bc1_p0_ 0] rfl <| r_l c1_p0__0v 1 _ _ _ _ rfl rfl rfl rfl rfl <| r_V (vI at') rfl ?_
 obtain ⟨ck10, hM⟩ := ck_some hM
 refine r_W (elA c1_p0__0v ((at').toNat * 4)) rfl (ev_v (ev_idxSl rfl rfl rfl (Sl.shp hc1_p0__0) ck10)) <| r_W (elA c1_p0__0v ((at').toNat * 4 + 0)) rfl (ev_v (ev_fieldX rfl rfl rfl rfl rfl rfl (Sl.shp hc1_p0__0) (pos_of ck10))) <| r_le (vA #[vI (((c1_p0__0)[(at').toNat]!).1), U (hi (((c1_p0__0)[(at').toNat]!).2.1)), U (lo (((c1_p0__0)[(at').toNat]!).2.1))]) (En := enc_40) ((c1_p0__0)[(at').toNat]!) ((at').toNat) 0 rfl rfl (rd_own hc1_p0__0 (mem_chunk (Ls := [(kBa23_2 bc1_ (vP bc1_p0_ 0)), (kBa53_0 bc1_p0_ c1_p0__0v c1_p0__1 c1_p0__2), (kBa3_3 bc2_ c2_), Sc1_p0__0]) (k := 3) rfl rfl)) (get_of ck10) rfl ?_
 obtain ⟨r11, hr12, hM⟩ := bind_sm hM
 refine r_gv (vI r11) 47 _ rfl rfl rfl (ev_callF rfl call_47 rfl) (fun own_ nw_ hs_ => exact_Map_home_v1_g N c1_p0__0 c1_p0__1 c1_p0__2 (((c1_p0__0)[(at').toNat]!).1) (((c1_p0__0)[(at').toNat]!).2.1) _ hr12 hs_.view bc1_p0_ c1_p0__0v ((rd_own hc1_p0__0 (mem_chunk (Ls := [(kBa23_2 bc1_ (vP bc1_p0_ 0)), (kBa53_0 bc1_p0_ c1_p0__0v c1_p0__1 c1_p0__2), (kBa3_3 bc2_ c2_), Sc1_p0__0]) (k := 3) rfl rfl)) own_ nw_ hs_) (blk_own 1 rfl rfl own_ nw_ hs_)) (conE hr12) <| r_V (vI at') rfl ?_
 obtain ⟨r13, hr14, hM⟩ := bind_sm hM
 refine r_gv (vI r13) 51 _ rfl rfl rfl (ev_callF rfl call_51 rfl) (fun own_ nw_ hs_ => exact_Map_ahead_v1_g N c1_p0__0 c1_p0__1 c1_p0__2 r11 at' _ hr14 hs_.view bc1_p0_ c1_p0__0v ((rd_own hc1_p0__0 (mem_chunk (Ls := [(kBa23_2 bc1_ (vP bc1_p0_ 0)), (kBa53_0 bc1_p0_ c1_p0__0v c1_p0__1 c1_p0__2), (kBa3_3 bc2_ c2_), Sc1_p0__0]) (k := 3) rfl rfl)) own_ nw_ hs_) (blk_own 1 rfl rfl own_ nw_ hs_)) (fun _ _ v_ L_ U_ => ⟨fun h_ => h_ _ hr12 _ hr14, fun h_ => by intro _ e_; cases Option.some.inj (e_.symm.trans hr12); intro _ e_; cases Option.some.inj (e_.symm.trans hr14); exact h_⟩) ?_
 refine r_l (vP bc1_p0_ 0) 0 _ _ _ _ rfl rfl rfl rfl rfl <| r_l (vI c2_) 2 _ _ _ _ rfl rfl rfl rfl rfl <| r_V (vI at') rfl ?_
 obtain ⟨r15, hr16, hM⟩ := bind_sm hM
 refine r_gv (vI r15) 51 _ rfl rfl rfl (ev_callF rfl call_51 rfl) (fun own_ nw_ hs_ => exact_Map_ahead_v1_g N c1_p0__0 c1_p0__1 c1_p0__2 c2_ at' _ hr16 hs_.view bc1_p0_ c1_p0__0v ((rd_own hc1_p0__0 (mem_chunk (Ls := [(kBa23_2 bc1_ (vP bc1_p0_ 0)), (kBa53_0 bc1_p0_ c1_p0__0v c1_p0__1 c1_p0__2), (kBa3_3 bc2_ c2_), Sc1_p0__0]) (k := 3) rfl rfl)) own_ nw_ hs_) (blk_own 1 rfl rfl own_ nw_ hs_)) (conE hr16) <| r_V (vB (decide (r13 ≥ r15))) rfl <| lx_nil <| hK9 _ _ ?_; try clear hK9 K9
 refine A_cond (decide (r13 ≥ r15)) rfl (fun hc17 => ?_) (fun hc17 => ?_)
 ·replace hM := ifp (of_decide_eq_true hc17) hM
  refine A_seq fun K18 hK18 => A_draw [] (by decide +kernel) (fun hn => sep_nil) <| r_l (vP bc1_p0_ 0) 0 _ _ _ _ rfl rfl rfl rfl rfl <| r_R [vP bc1_p0_ 0, vP bc1_p0_ 0] rfl <| r_l c1_p0__0v 1 _ _ _ _ rfl rfl rfl rfl rfl <| r_l (vI c2_) 2 _ _ _ _ rfl rfl rfl rfl rfl <| r_l (vP bc1_p0_ 0) 0 _ _ _ _ rfl rfl rfl rfl rfl <| r_R [vP bc1_p0_ 0, vP bc1_p0_ 0] rfl <| r_l c1_p0__0v 1 _ _ _ _ rfl rfl rfl rfl rfl <| r_V (vI at') rfl ?_
  obtain ⟨ck19, hM⟩ := ck_some hM
  refine r_W (elA c1_p0__0v ((at').toNat * 4)) rfl (ev_v (ev_idxSl rfl rfl rfl (Sl.shp hc1_p0__0) ck19)) <| r_le (vA #[vI (((c1_p0__0)[(at').toNat]!).1), U (hi (((c1_p0__0)[(at').toNat]!).2.1)), U (lo (((c1_p0__0)[(at').toNat]!).2.1)), vI (((c1_p0__0)[(at').toNat]!).2.2)]) (En := enc_40) ((c1_p0__0)[(at').toNat]!) ((at').toNat) 0 rfl rfl (rd_own hc1_p0__0 (mem_chunk (Ls := [(kBa23_2 bc1_ (vP bc1_p0_ 0)), (kBa53_0 bc1_p0_ c1_p0__0v c1_p0__1 c1_p0__2), (kBa3_3 bc2_ c2_), Sc1_p0__0]) (k := 3) rfl rfl)) (get_of ck19) rfl ?_
  obtain ⟨ck20, hM⟩ := ck_some hM
  refine r_W (elA c1_p0__0v ((c2_).toNat * 4)) rfl (ev_v (ev_idxSl rfl rfl rfl (Sl.shp hc1_p0__0) ck20)) <| r_se (Ls := [(kBa23_2 bc1_ (vP bc1_p0_ 0)), (kBa53_0 bc1_p0_ c1_p0__0v c1_p0__1 c1_p0__2), (kBa3_3 bc2_ c2_), Sc1_p0__0]) 3 (En := enc_40) ((c1_p0__0)[(c2_).toNat]!) (((c1_p0__0)[(at').toNat]!).1, ((c1_p0__0)[(at').toNat]!).2.1, ((c1_p0__0)[(at').toNat]!).2.2) ((c2_).toNat) 0 rfl rfl rfl hc1_p0__0 (get_of ck20) rfl rfl rfl (one_all rfl) rfl (fun S21 H22 => ?_)
  refine lx_nil <| hK18 _ _ ?_; try clear hK18 K18
  refine A_gen [(0, vI at'), (2, vP bc2_ 0)] rfl (fun T => ?_)
  refine A_reg <| r_V (vI at') rfl <| r_s (List.flatten [(kBa23_2 bc1_ (vP bc1_p0_ 0)), (kBa53_0 bc1_p0_ c1_p0__0v c1_p0__1 c1_p0__2), (kBa3_3 bc2_ at'), S21]) 2 _ _ _ _ _ (#[vI at']) rfl rfl rfl rfl (.of rfl rfl) rfl rfl <| lx_nil <| hK8 _ _ ?_; try clear hK8 K8
  refine A_sr <| r_V (vB false) rfl <| lx_nil ?_
  obtain rfl := Option.some.inj hM
  refine A_ret (fun hn => endsO (v0 := vB false) (O := [S21, (kBa53_0 bc1_p0_ c1_p0__0v c1_p0__1 c1_p0__2), (kBa23_2 bc1_ (vP bc1_p0_ 0)), (kBa3_3 bc2_ at')]) (res1 rfl) (Sub.pick [(kBa23_2 bc1_ (vP bc1_p0_ 0)), (kBa53_0 bc1_p0_ c1_p0__0v c1_p0__1 c1_p0__2), (kBa3_3 bc2_ at'), S21] [3, 1, 0, 2] rfl) ⟨S21, _, H22, ⟨rfl, rfl⟩, rfl⟩)
 replace hM := ifn (of_decide_eq_false hc17) hM
 refine A_skip <| hK8 _ _ ?_; try clear hK8 K8
 refine A_sr <| r_V (vB false) rfl <| lx_nil ?_
 obtain rfl := Option.some.inj hM
 refine A_ret (fun hn => endsO (v0 := vB false) (O := [Sc1_p0__0, (kBa53_0 bc1_p0_ c1_p0__0v c1_p0__1 c1_p0__2), (kBa23_2 bc1_ (vP bc1_p0_ 0)), (kBa3_3 bc2_ c2_)]) (res1 rfl) (Sub.pick [(kBa23_2 bc1_ (vP bc1_p0_ 0)), (kBa53_0 bc1_p0_ c1_p0__0v c1_p0__1 c1_p0__2), (kBa3_3 bc2_ c2_), Sc1_p0__0] [3, 1, 0, 2] rfl) ⟨Sc1_p0__0, _, hc1_p0__0, ⟨rfl, rfl⟩, rfl⟩)
def exact_Map_round_v2_l5 (N : Nat) : Nat → Int → List (Int × BitVec 128 × Int) → Int → Int → Int → Option (Int × (List (Int × BitVec 128 × Int)) × Int × Int × Int)
  | 0, _, _, _, _, _ => none
  | n3 + 1, at1_, mv3_, m2__1, m2__2, m4_ => (exact_Map_empty_1_v1_m N at1_ mv3_ m2__1 m2__2 m4_).bind fun r6 => ck ((r6.2.1).length = (mv3_).length) (if r6.1 = true then some (at1_, r6.2.1, r6.2.2.1, r6.2.2.2.1, r6.2.2.2.2) else (exact_Map_next_v1_m N r6.2.1 r6.2.2.1 r6.2.2.2.1 at1_).bind fun r12 => (exact_Map_round_v2_l5 N n3) r12 r6.2.1 r6.2.2.1 r6.2.2.2.1 r6.2.2.2.2)
def exact_Map_round_v2_m (N : Nat) (m_0 : List (Int × BitVec 128 × Int)) (m_1 : Int) (m_2 : Int) (at' : Int) (ends1_ : Int) : Option (Int × (List (Int × BitVec 128 × Int)) × Int × Int × Int) := exact_Map_round_v2_l5 N N at' m_0 m_1 m_2 ends1_
set_option maxRecDepth 100000 in
set_option maxHeartbeats 8000000 in
theorem exact_Map_round_v2_g (N : Nat) (m_0 : List (Int × BitVec 128 × Int)) (m_1 m_2 at' ends1_ : Int) (r) (hM : exact_Map_round_v2_m N m_0 m_1 m_2 at' ends1_ = some r) (ro : Addr → Option Value) (bm : Nat) (m_0v : Value) (Sm_0 : List Bl) (hm_0 : Sl 40 enc_40 m_0v m_0 Sm_0) (bends0_ bends1_ : Nat) : Does Try.prog 46 #[vP bm 0, vI at', Value.func (.func 50) #[] #[vP bends0_ 0, vP bends1_ 0]] ro (List.flatten [(kBa53_0 bm m_0v m_1 m_2), (kBa23_2 bends0_ (vP bm 0)), (kBa3_3 bends1_ ends1_), Sm_0]) (pO (List.flatten [(kBa53_0 bm m_0v m_1 m_2), (kBa23_2 bends0_ (vP bm 0)), (kBa3_3 bends1_ ends1_), Sm_0]) (oI 40 enc_40 m_0v r.2.1 (oE (vI r.1) [(kBa53_0 bm m_0v r.2.2.1 r.2.2.2.1), (kBa23_2 bends0_ (vP bm 0)), (kBa3_3 bends1_ r.2.2.2.2)]))) := by
 unfold exact_Map_round_v2_m at hM
 refine doesO_of_A follows Try.func46 rfl 15 rfl (upd (upd (upd (fun _ => undef) 2 (Value.func (.func 50) #[] #[vP bends0_ 0, vP bends1_ 0])) 1 (vI at')) 0 (vP bm 0)) (by funext k; match k with | 0 => rfl | 1 => rfl | 2 => rfl | k + 3 => rfl) (fun _ _ h_ _ => h_) (fun base0_ => ?_)
 refine A_sr <| r_V (vI 0) rfl <| lx_nil <| A_seq fun K2 hK2 => A_block <| A_forget _ (Sub.pick [(kBa53_0 bm m_0v m_1 m_2), (kBa23_2 bends0_ (vP bm 0)), (kBa3_3 bends1_ ends1_), Sm_0] [0, 1, 2, 3] rfl) ?_
 refine A_loop (fun tt ll nn => ∃ (n3 : Nat) (at1_ : Int) (mv3_ : List (Int × BitVec 128 × Int)) (m2__1 : Int) (m2__2 : Int) (m4_ : Int), (exact_Map_round_v2_l5 N n3 at1_ mv3_ m2__1 m2__2 m4_ = some r) ∧ ∃ (Smv3_ : List Bl), Sl 40 enc_40 m_0v mv3_ Smv3_ ∧ Is [(0, vP bm 0), (1, vI at1_), (2, Value.func (.func 50) #[] #[vP bends0_ 0, vP bends1_ 0])] (List.flatten [(kBa53_0 bm m_0v m2__1 m2__2), (kBa23_2 bends0_ (vP bm 0)), (kBa3_3 bends1_ m4_), Smv3_]) tt ll ∧ nn = n3 + 1) (N + 1) ?_ ?_
 ·exact ⟨N, at', m_0, m_1, m_2, ends1_, hM, Sm_0, hm_0, is_mk rfl rfl, rfl⟩
 clear hM; rintro t l _ ⟨n3, at1_, mv3_, m2__1, m2__2, m4_, hM, Smv3_, hmv3_, ⟨⟨T, rfl⟩, rfl⟩, rfl⟩
 rcases n3 with _ | n3
 ·exact absurd hM (by simp [exact_Map_round_v2_l5])
 rw [exact_Map_round_v2_l5] at hM
 refine A_seq fun K4 hK4 => A_sr <| r_R [Value.func (.func 50) #[] #[vP bends0_ 0, vP bends1_ 0], vI at1_] rfl ?_
 obtain ⟨r6, hr7, hM⟩ := bind_sm hM
 obtain ⟨ck8, hM⟩ := ck_some hM
 refine cA 9 <| r_gm (Ls := [(kBa53_0 bm m_0v m2__1 m2__2), (kBa23_2 bends0_ (vP bm 0)), (kBa3_3 bends1_ m4_), Smv3_]) (FL := [(kBa23_2 bends0_ (vP bm 0)), (kBa53_0 bm m_0v m2__1 m2__2), (kBa3_3 bends1_ m4_), Smv3_]) [1, 0, 2, 3] _ (some 9) 50 _ rfl rfl rfl rfl rfl (ev_callV (caps := [vP bends0_ 0, vP bends1_ 0]) rfl call_50 rfl) (fun own_ nw_ hn_ hs_ => exact_Map_empty_1_v1_g N at1_ mv3_ m2__1 m2__2 m4_ _ hr7 _ bends0_ bm m_0v Smv3_ hmv3_ bends1_) (fun _ _ _ _ _ => Iff.rfl) (fun h_ => nomatch h_) ?_
 rintro _ _ ⟨S9, _, H10, ⟨rfl, rfl⟩, rfl⟩
 refine lx_perm (Ls := [S9, (kBa53_0 bm m_0v r6.2.2.1 r6.2.2.2.1), (kBa23_2 bends0_ (vP bm 0)), (kBa3_3 bends1_ r6.2.2.2.2)]) (Ls' := [(kBa53_0 bm m_0v r6.2.2.1 r6.2.2.2.1), (kBa23_2 bends0_ (vP bm 0)), (kBa3_3 bends1_ r6.2.2.2.2), S9]) [1, 2, 3, 0] rfl rfl <| r_V (vB (!(r6.1))) rfl <| lx_nil <| A_cond (!(r6.1)) rfl (fun hc11 => ?_) (fun hc11 => ?_)
 ·replace hM := ifn (Bool.eq_false_iff.1 (not_t hc11)) hM
  refine A_skip <| hK4 _ _ ?_; try clear hK4 K4
  refine A_block <| A_reg <| r_R [vP bm 0, vI at1_] rfl ?_
  obtain ⟨r12, hr13, hM⟩ := bind_sm hM
  refine cB 13 <| r_gv (vI r12) 49 _ rfl rfl rfl (ev_callF rfl call_49 rfl) (fun own_ nw_ hs_ => exact_Map_next_v1_g N r6.2.1 r6.2.2.1 r6.2.2.2.1 at1_ _ hr13 hs_.view bm m_0v ((rd_own H10 (mem_chunk (Ls := [(kBa53_0 bm m_0v r6.2.2.1 r6.2.2.2.1), (kBa23_2 bends0_ (vP bm 0)), (kBa3_3 bends1_ r6.2.2.2.2), S9]) (k := 3) rfl rfl)) own_ nw_ hs_) (blk_own 0 rfl rfl own_ nw_ hs_)) (fun _ _ _ _ _ => Iff.rfl) <| r_V (vI r12) rfl <| lx_nil <| fg _ (Sub.pick [(kBa53_0 bm m_0v r6.2.2.1 r6.2.2.2.1), (kBa23_2 bends0_ (vP bm 0)), (kBa3_3 bends1_ r6.2.2.2.2), S9] [0, 1, 2, 3] rfl) ?_
  exact ⟨n3 + 1, by omega, n3, r12, r6.2.1, r6.2.2.1, r6.2.2.2.1, r6.2.2.2.2, hM, S9, H10, is_mk rfl rfl, rfl⟩
 replace hM := ifp (not_f hc11) hM
 refine A_exit <| hK2 _ _ ?_; try clear hK2 K2
 refine A_sr <| r_R [vI at1_, vI at1_] rfl <| lx_nil ?_
 obtain rfl := Option.some.inj hM
 refine A_ret (fun hn => endsO (v0 := vI at1_) (O := [S9, (kBa53_0 bm m_0v r6.2.2.1 r6.2.2.2.1), (kBa23_2 bends0_ (vP bm 0)), (kBa3_3 bends1_ r6.2.2.2.2)]) (res1 rfl) (Sub.pick [(kBa53_0 bm m_0v r6.2.2.1 r6.2.2.2.1), (kBa23_2 bends0_ (vP bm 0)), (kBa3_3 bends1_ r6.2.2.2.2), S9] [3, 0, 1, 2] rfl) ⟨S9, _, H10, ⟨rfl, rfl⟩, rfl⟩)
def exact_Map_empty_v1_m (N : Nat) (m_0 : List (Int × BitVec 128 × Int)) (m_1 : Int) (m_2 : Int) (gap : Int) : Option ((List (Int × BitVec 128 × Int)) × Int × Int) := (exact_Map_next_v1_m N m_0 m_1 m_2 gap).bind fun r5 => (exact_Map_round_v2_m N m_0 m_1 m_2 r5 gap).bind fun r7 => ck ((r7.2.1).length = (m_0).length) (ck (0 ≤ r7.2.2.2.2 ∧ r7.2.2.2.2 < ((r7.2.1).length : Int)) (some ((r7.2.1).set ((r7.2.2.2.2).toNat) (0, (0#64) ++ (0#64), 0), r7.2.2.1, r7.2.2.2.1)))
set_option maxRecDepth 100000 in
set_option maxHeartbeats 8000000 in
theorem exact_Map_empty_v1_g (N : Nat) (m_0 : List (Int × BitVec 128 × Int)) (m_1 m_2 gap : Int) (r) (hM : exact_Map_empty_v1_m N m_0 m_1 m_2 gap = some r) (ro : Addr → Option Value) (bm : Nat) (m_0v : Value) (Sm_0 : List Bl) (hm_0 : Sl 40 enc_40 m_0v m_0 Sm_0) : Does Try.prog 37 #[vP bm 0, vI gap] ro (List.flatten [(kBa53_0 bm m_0v m_1 m_2), Sm_0]) (pO (List.flatten [(kBa53_0 bm m_0v m_1 m_2), Sm_0]) (oI 40 enc_40 m_0v r.1 (oE (vT #[]) [(kBa53_0 bm m_0v r.2.1 r.2.2)]))) := by
 unfold exact_Map_empty_v1_m at hM
 refine doesO_of_A follows Try.func37 rfl 17 rfl (upd (upd (fun _ => undef) 1 (vI gap)) 0 (vP bm 0)) (by funext k; match k with | 0 => rfl | 1 => rfl | k + 2 => rfl) (fun _ _ h_ _ => h_) (fun base0_ => ?_)
 refine A_sr <| r_a (23, #[vP bm 0]) rfl rfl rfl (fun b2 => ?_) (.inr rfl)
 refine r_a (3, #[vI gap]) rfl rfl rfl (fun b3 => ?_) (.inr rfl)
 refine lx_nil <| A_seq fun K4 hK4 => A_drawR [(some 7, false), (some 9, true)] (conG Try.prog [(7, fun _ _ v_ L_ U_ => ∀ u0_, exact_Map_next_v1_m N m_0 m_1 m_2 gap = some u0_ → (pV (vI u0_)) v_ L_ U_), (9, fun _ _ v_ L_ U_ => ∀ u0_, exact_Map_next_v1_m N m_0 m_1 m_2 gap = some u0_ → ∀ u1_, exact_Map_round_v2_m N m_0 m_1 m_2 u0_ gap = some u1_ → (pO (List.flatten [(kBa53_0 bm m_0v m_1 m_2), (kBa23_2 b2 (vP bm 0)), (kBa3_3 b3 gap), Sm_0]) (oI 40 enc_40 m_0v u1_.2.1 (oE (vI u1_.1) [(kBa53_0 bm m_0v u1_.2.2.1 u1_.2.2.2.1), (kBa23_2 b2 (vP bm 0)), (kBa3_3 b3 u1_.2.2.2.2)]))) v_ L_ U_)]) [] (by decide +kernel) (fun hn => sep_nil) ?_
 refine r_l (vP bm 0) 1 _ _ _ _ rfl rfl rfl rfl rfl <| r_l (vP bm 0) 1 _ _ _ _ rfl rfl rfl rfl rfl <| r_l (vI gap) 0 _ _ _ _ rfl rfl rfl rfl rfl ?_
 obtain ⟨r5, hr6, hM⟩ := bind_sm hM
 refine r_gv (vI r5) 49 _ rfl rfl rfl (ev_callF rfl call_49 rfl) (fun own_ nw_ hs_ => exact_Map_next_v1_g N m_0 m_1 m_2 gap _ hr6 hs_.view bm m_0v ((rd_own hm_0 (mem_chunk (Ls := [(kBa3_3 b3 gap), (kBa23_2 b2 (vP bm 0)), (kBa53_0 bm m_0v m_1 m_2), Sm_0]) (k := 3) rfl rfl)) own_ nw_ hs_) (blk_own 2 rfl rfl own_ nw_ hs_)) (conE hr6) <| r_W (Value.func (.func 50) #[] #[vP b2 0, vP b3 0]) rfl (ev_mkF rfl) ?_
 obtain ⟨r7, hr8, hM⟩ := bind_sm hM
 obtain ⟨ck9, hM⟩ := ck_some hM
 refine r_gm (Ls := [(kBa3_3 b3 gap), (kBa23_2 b2 (vP bm 0)), (kBa53_0 bm m_0v m_1 m_2), Sm_0]) (FL := [(kBa53_0 bm m_0v m_1 m_2), (kBa23_2 b2 (vP bm 0)), (kBa3_3 b3 gap), Sm_0]) [2, 1, 0, 3] _ (some 9) 46 _ rfl rfl rfl rfl rfl (ev_callF rfl call_46 rfl) (fun own_ nw_ hn_ hs_ => exact_Map_round_v2_g N m_0 m_1 m_2 r5 gap _ hr8 _ bm m_0v Sm_0 hm_0 b2 b3) (fun _ _ v_ L_ U_ => ⟨fun h_ => h_ _ hr6 _ hr8, fun h_ => by intro _ e_; cases Option.some.inj (e_.symm.trans hr6); intro _ e_; cases Option.some.inj (e_.symm.trans hr8); exact h_⟩) (fun _ => (NiceO.sub (R := (Sm_0 ++ ((kBa53_0 bm m_0v m_1 m_2) ++ ((kBa23_2 b2 (vP bm 0)) ++ ((kBa3_3 b3 gap) ++ []))))) (niceI hm_0 ck9 (niceE rfl)) (Sub.pick [(kBa53_0 bm m_0v m_1 m_2), (kBa23_2 b2 (vP bm 0)), (kBa3_3 b3 gap), Sm_0] [3, 0, 1, 2] rfl))) ?_
 rintro _ _ ⟨S10, _, H11, ⟨rfl, rfl⟩, rfl⟩
 refine lx_perm (Ls := [S10, (kBa53_0 bm m_0v r7.2.2.1 r7.2.2.2.1), (kBa23_2 b2 (vP bm 0)), (kBa3_3 b3 r7.2.2.2.2)]) (Ls' := [(kBa53_0 bm m_0v r7.2.2.1 r7.2.2.2.1), (kBa23_2 b2 (vP bm 0)), (kBa3_3 b3 r7.2.2.2.2), S10]) [1, 2, 3, 0] rfl rfl <| lx_nil <| hK4 _ _ ?_; try clear hK4 K4
 refine A_draw [] (by decide +kernel) (fun hn => sep_nil) <| r_l (vP bm 0) 1 _ _ _ _ rfl rfl rfl rfl rfl <| r_R [vP bm 0, vP bm 0] rfl <| r_l m_0v 0 _ _ _ _ rfl rfl rfl rfl rfl <| r_l (vI r7.2.2.2.2) 2 _ _ _ _ rfl rfl rfl rfl rfl <| r_W (vA #[vI 0, U (0#64), U (0#64), vI 0]) rfl (ev_buildS rfl rfl rfl rfl) ?_
 obtain ⟨ck12, hM⟩ := ck_some hM
 refine r_W (elA m_0v ((r7.2.2.2.2).toNat * 4)) rfl (ev_v (ev_idxSl rfl rfl rfl (Sl.shp H11) ck12)) <| r_se (Ls := [(kBa53_0 bm m_0v r7.2.2.1 r7.2.2.2.1), (kBa23_2 b2 (vP bm 0)), (kBa3_3 b3 r7.2.2.2.2), S10]) 3 (En := enc_40) ((r7.2.1)[(r7.2.2.2.2).toNat]!) (0, (0#64) ++ (0#64), 0) ((r7.2.2.2.2).toNat) 0 rfl rfl rfl H11 (get_of ck12) rfl rfl rfl (one_all rfl) rfl (fun S13 H14 => ?_)
 refine lx_nil ?_
 obtain rfl := Option.some.inj hM
 refine endsN (v0 := vT #[]) (O := [S13, (kBa53_0 bm m_0v r7.2.2.1 r7.2.2.2.1)]) rfl (Sub.pick [(kBa53_0 bm m_0v r7.2.2.1 r7.2.2.2.1), (kBa23_2 b2 (vP bm 0)), (kBa3_3 b3 r7.2.2.2.2), S13] [3, 0] rfl) ⟨S13, _, H14, ⟨rfl, rfl⟩, rfl⟩
def exact_Map_Drop_v1_m (N : Nat) (m_0 : List (Int × BitVec 128 × Int)) (m_1 : Int) (m_2 : Int) (key_0 : Int) (key_1 : BitVec 128) : Option (Int × (List (Int × BitVec 128 × Int)) × Int × Int) := (exact_Map_there_v1_m N m_0 m_1 m_2 key_0 key_1).bind fun r4 => if (r4.2 : Int) ≠ 0 then some (r4.2, m_0, m_1, m_2) else (exact_Map_empty_v1_m N m_0 m_1 m_2 r4.1).bind fun r11 => ck ((r11.1).length = (m_0).length) (ck (-9223372036854775808 ≤ (r11.2.1 - 1) ∧ (r11.2.1 - 1) ≤ 9223372036854775807) (some (0, r11.1, (r11.2.1 - 1), r11.2.2)))
set_option maxRecDepth 100000 in
set_option maxHeartbeats 8000000 in
theorem exact_Map_Drop_v1_g (N : Nat) (m_0 : List (Int × BitVec 128 × Int)) (m_1 m_2 key_0 : Int) (key_1 : BitVec 128) (r) (hM : exact_Map_Drop_v1_m N m_0 m_1 m_2 key_0 key_1 = some r) (ro : Addr → Option Value) (bm : Nat) (m_0v : Value) (Sm_0 : List Bl) (hm_0 : Sl 40 enc_40 m_0v m_0 Sm_0) : Does Try.prog 18 #[vP bm 0, vA #[vI key_0, U (hi key_1), U (lo key_1)]] ro (List.flatten [(kBa53_0 bm m_0v m_1 m_2), Sm_0]) (pO (List.flatten [(kBa53_0 bm m_0v m_1 m_2), Sm_0]) (oI 40 enc_40 m_0v r.2.1 (oE (vI r.1) [(kBa53_0 bm m_0v r.2.2.1 r.2.2.2)]))) := by
 unfold exact_Map_Drop_v1_m at hM
 refine doesO_of_A follows Try.func18 rfl 26 rfl (upd (upd (fun _ => undef) 1 (vA #[vI key_0, U (hi key_1), U (lo key_1)])) 0 (vP bm 0)) (by funext k; match k with | 0 => rfl | 1 => rfl | k + 2 => rfl) (fun _ _ h_ _ => h_) (fun base0_ => ?_)
 refine A_sr <| r_a (31, #[vI key_0, U (hi key_1), U (lo key_1)]) rfl rfl rfl (fun b2 => ?_) (.inr rfl)
 refine r_V (vI 0) rfl <| lx_nil <| A_sr <| r_V (vP bm 0) rfl <| r_l (vA #[vI key_0, U (hi key_1), U (lo key_1)]) 0 _ _ _ _ rfl rfl rfl rfl rfl ?_
 obtain ⟨r4, hr5, hM⟩ := bind_sm hM
 refine cB 10 <| r_gv (vT #[vI r4.1, vI r4.2]) 36 _ rfl rfl rfl (ev_callF rfl call_36 rfl) (fun own_ nw_ hs_ => exact_Map_there_v1_g N m_0 m_1 m_2 key_0 key_1 _ hr5 hs_.view bm m_0v ((rd_own hm_0 (mem_chunk (Ls := [(kBa31_1 b2 key_0 (hi key_1) (lo key_1)), (kBa53_0 bm m_0v m_1 m_2), Sm_0]) (k := 2) rfl rfl)) own_ nw_ hs_) (blk_own 1 rfl rfl own_ nw_ hs_)) (fun _ _ _ _ _ => Iff.rfl) <| r_R [vT #[vI r4.1, vI r4.2], vI r4.1, vI r4.2, vI r4.1, vI r4.2] rfl <| lx_nil <| A_seq fun K6 hK6 => A_sr <| r_R [vI r4.2, vB (r4.2 != 0)] rfl <| lx_nil <| A_cond (r4.2 != 0) rfl (fun hc8 => ?_) (fun hc8 => ?_)
 ·replace hM := ifp (bne_iff_ne.1 hc8) hM
  refine A_sr <| r_R [vI r4.2, vI r4.2] rfl <| lx_nil ?_
  obtain rfl := Option.some.inj hM
  refine A_ret (fun hn => endsO (v0 := vI r4.2) (O := [Sm_0, (kBa53_0 bm m_0v m_1 m_2)]) (res1 rfl) (Sub.pick [(kBa31_1 b2 key_0 (hi key_1) (lo key_1)), (kBa53_0 bm m_0v m_1 m_2), Sm_0] [2, 1] rfl) ⟨Sm_0, _, hm_0, ⟨rfl, rfl⟩, rfl⟩)
 replace hM := ifn (bne_f hc8) hM
 refine A_skip <| hK6 _ _ ?_; try clear hK6 K6
 refine A_sr <| r_R [vP bm 0, vI r4.1] rfl ?_
 obtain ⟨r11, hr12, hM⟩ := bind_sm hM
 obtain ⟨ck13, hM⟩ := ck_some hM
 refine cA 18 <| r_gm (Ls := [(kBa31_1 b2 key_0 (hi key_1) (lo key_1)), (kBa53_0 bm m_0v m_1 m_2), Sm_0]) (FL := [(kBa53_0 bm m_0v m_1 m_2), Sm_0]) [1, 2] _ (some 18) 37 _ rfl rfl rfl rfl rfl (ev_callF rfl call_37 rfl) (fun own_ nw_ hn_ hs_ => exact_Map_empty_v1_g N m_0 m_1 m_2 r4.1 _ hr12 _ bm m_0v Sm_0 hm_0) (fun _ _ _ _ _ => Iff.rfl) (fun h_ => nomatch h_) ?_
 rintro _ _ ⟨S14, _, H15, ⟨rfl, rfl⟩, rfl⟩
 refine lx_perm (Ls := [(kBa31_1 b2 key_0 (hi key_1) (lo key_1)), S14, (kBa53_0 bm m_0v r11.2.1 r11.2.2)]) (Ls' := [(kBa31_1 b2 key_0 (hi key_1) (lo key_1)), (kBa53_0 bm m_0v r11.2.1 r11.2.2), S14]) [0, 2, 1] rfl rfl <| lx_nil <| A_sr <| r_R [vP bm 0, vP bm 0, vP bm 1] rfl <| r_l (vI r11.2.1) 1 _ _ _ _ rfl rfl rfl rfl rfl ?_
 obtain ⟨ck17, hM⟩ := ck_some hM
 refine r_X (vI (r11.2.1 - 1)) rfl (wi64 rfl ck17.1 ck17.2) rfl <| r_R [vP bm 0, vP bm 1] rfl <| r_s (List.flatten [(kBa31_1 b2 key_0 (hi key_1) (lo key_1)), (kBa53_0 bm m_0v (r11.2.1 - 1) r11.2.2), S14]) 1 _ _ _ _ _ (#[m_0v, vI (r11.2.1 - 1), vI r11.2.2]) rfl rfl rfl rfl (.of rfl rfl) rfl rfl <| lx_nil <| A_sr <| r_V (vI 0) rfl <| lx_nil ?_
 obtain rfl := Option.some.inj hM
 refine A_ret (fun hn => endsO (v0 := vI 0) (O := [S14, (kBa53_0 bm m_0v (r11.2.1 - 1) r11.2.2)]) (res1 rfl) (Sub.pick [(kBa31_1 b2 key_0 (hi key_1) (lo key_1)), (kBa53_0 bm m_0v (r11.2.1 - 1) r11.2.2), S14] [2, 1] rfl) ⟨S14, _, H15, ⟨rfl, rfl⟩, rfl⟩)
def shunterlaw19_step_v1_k3 (m_0 : List (Int × BitVec 128 × Int)) (m_1 : Int) (m_2 : Int) (b62 : Bool) : Option (SumRow41 × Bool × (List (Int × BitVec 128 × Int)) × Int × Int) := some (.nil, b62, m_0, m_1, m_2)
def shunterlaw19_step_v1_k4 (m_0 : List (Int × BitVec 128 × Int)) (m_1 : Int) (m_2 : Int) (b66 : Bool) : Option (SumRow41 × Bool × (List (Int × BitVec 128 × Int)) × Int × Int) := some (.nil, b66, m_0, m_1, m_2)
def shunterlaw19_step_v1_k2 (m_0 : List (Int × BitVec 128 × Int)) (m_1 : Int) (m_2 : Int) (l' : List (Int × BitVec 128 × Int)) (r55 : Int × Bool) (i1_ : Int) : Option (SumRow41 × Bool × (List (Int × BitVec 128 × Int)) × Int × Int) := if i1_ < 0 then if r55.1 = 0 then shunterlaw19_step_v1_k3 m_0 m_1 m_2 (!(r55.2)) else shunterlaw19_step_v1_k3 m_0 m_1 m_2 false else ck (0 ≤ i1_ ∧ i1_ < ((l').length : Int)) (if r55.1 = ((l')[(i1_).toNat]!).2.2 then shunterlaw19_step_v1_k4 m_0 m_1 m_2 r55.2 else shunterlaw19_step_v1_k4 m_0 m_1 m_2 false)
def shunterlaw19_step_v1_m (N : Nat) (m_0 : List (Int × BitVec 128 × Int)) (m_1 : Int) (m_2 : Int) (l' : List (Int × BitVec 128 × Int)) (most : Int) (o_0 : Int) (o_1 : Int) (o_2 : Int) (o_3 : BitVec 128) : Option (SumRow41 × Bool × (List (Int × BitVec 128 × Int)) × Int × Int) := if o_0 = 0 then (shunterref19_Put_m N l' most o_2 o_3 o_1).bind fun r9 => SumRow41.on r9.1 ((exact_Map_Put_v1_m N m_0 m_1 m_2 o_2 o_3 o_1).bind fun r14 => ck ((r14.2.1).length = (m_0).length) (some (.nil, (r14.1 == r9.2), r14.2.1, r14.2.2.1, r14.2.2.2))) (fun x12_0 => (exact_Map_Put_v1_m N m_0 m_1 m_2 o_2 o_3 o_1).bind fun r17 => ck ((r17.2.1).length = (m_0).length) (some ((.t0 x12_0), (r17.1 == r9.2), r17.2.1, r17.2.2.1, r17.2.2.2))) else if o_0 = 1 then (shunterref19_Set_m N l' o_2 o_3 o_1).bind fun r25 => SumRow41.on r25.1 ((exact_Map_Set_v1_m N m_0 m_1 m_2 o_2 o_3 o_1).bind fun r30 => ck ((r30.2.1).length = (m_0).length) (some (.nil, (r30.1 == r25.2), r30.2.1, r30.2.2.1, r30.2.2.2))) (fun x28_0 => (exact_Map_Set_v1_m N m_0 m_1 m_2 o_2 o_3 o_1).bind fun r33 => ck ((r33.2.1).length = (m_0).length) (some ((.t0 x28_0), (r33.1 == r25.2), r33.2.1, r33.2.2.1, r33.2.2.2))) else if o_0 = 2 then (shunterref19_Drop_m N l' o_2 o_3).bind fun r41 => SumRow41.on r41.1 ((exact_Map_Drop_v1_m N m_0 m_1 m_2 o_2 o_3).bind fun r46 => ck ((r46.2.1).length = (m_0).length) (some (.nil, (r46.1 == r41.2), r46.2.1, r46.2.2.1, r46.2.2.2))) (fun x44_0 => (exact_Map_Drop_v1_m N m_0 m_1 m_2 o_2 o_3).bind fun r49 => ck ((r49.2.1).length = (m_0).length) (some ((.t0 x44_0), (r49.1 == r41.2), r49.2.1, r49.2.2.1, r49.2.2.2))) else (exact_Map_Get_v1_m N m_0 m_1 m_2 o_2 o_3).bind fun r55 => (shunterref02_May_m N o_2 o_3).bind fun r69 => if r69 = true then (shunterref19_Find_m N l' o_2 o_3).bind fun r72 => shunterlaw19_step_v1_k2 m_0 m_1 m_2 l' r55 r72 else shunterlaw19_step_v1_k2 m_0 m_1 m_2 l' r55 (-1)
set_option maxRecDepth 100000 in
set_option maxHeartbeats 8000000 in
theorem shunterlaw19_step_v1_g (N : Nat) (m_0 : List (Int × BitVec 128 × Int)) (m_1 m_2 : Int) (l' : List (Int × BitVec 128 × Int)) (most o_0 o_1 o_2 : Int) (o_3 : BitVec 128) (r) (hM : shunterlaw19_step_v1_m N m_0 m_1 m_2 l' most o_0 o_1 o_2 o_3 = some r) (ro : Addr → Option Value) (bm : Nat) (m_0v : Value) (Sm_0 : List Bl) (hm_0 : Sl 40 enc_40 m_0v m_0 Sm_0) (l'v : Value) (hl' : Rd enc_41 ro l'v l') : Does Try.prog 9 #[vP bm 0, l'v, vI most, vA #[vI o_0, vI o_1, vI o_2, U (hi o_3), U (lo o_3)]] ro (List.flatten [(kBa53_0 bm m_0v m_1 m_2), Sm_0]) (pO (List.flatten [(kBa53_0 bm m_0v m_1 m_2), Sm_0]) (oI 40 enc_40 m_0v r.2.2.1 (SumRow41.onP r.1 (oE (vT #[l'v, vB r.2.1]) [(kBa53_0 bm m_0v r.2.2.2.1 r.2.2.2.2)]) (fun y0_0 => (oS 41 enc_41 y0_0 fun ss_0_0 => (oE (vT #[ss_0_0, vB r.2.1]) [(kBa53_0 bm m_0v r.2.2.2.1 r.2.2.2.2)])))))) := by
 unfold shunterlaw19_step_v1_m at hM
 refine doesO_of_A follows Try.func9 rfl 107 rfl (upd (upd (upd (upd (fun _ => undef) 3 (vA #[vI o_0, vI o_1, vI o_2, U (hi o_3), U (lo o_3)])) 2 (vI most)) 1 l'v) 0 (vP bm 0)) (by funext k; match k with | 0 => rfl | 1 => rfl | 2 => rfl | 3 => rfl | k + 4 => rfl) (fun _ _ h_ _ => h_) (fun base0_ => ?_)
 refine A_sr <| r_a (33, #[vI o_0, vI o_1, vI o_2, U (hi o_3), U (lo o_3)]) rfl rfl rfl (fun b2 => ?_) (.inr rfl)
 refine r_R [nS, vB false] rfl <| lx_nil <| A_sr <| r_V (vI 0) rfl <| lx_nil <| A_seq fun K4 hK4 => A_sr <| r_V (vP b2 0) rfl <| r_l (vI o_0) 0 _ _ _ _ rfl rfl rfl rfl rfl <| lx_nil <| A_block <| A_sr <| r_R [vB (o_0 == 0), vB (o_0 == 0)] rfl <| lx_nil <| A_cond (o_0 == 0) rfl (fun hc7 => ?_) (fun hc7 => ?_)
 ·replace hM := ifp (eq_of_beq hc7) hM
  refine A_seq fun K8 hK8 => A_reg <| r_R [l'v, vI most, vP b2 2] rfl <| r_l (vA #[vI o_2, U (hi o_3), U (lo o_3)]) 0 _ _ _ _ rfl rfl rfl rfl rfl <| r_V (vP b2 1) rfl <| r_l (vI o_1) 0 _ _ _ _ rfl rfl rfl rfl rfl ?_
  obtain ⟨r9, hr10, hM⟩ := bind_sm hM
  refine cA 25 <| r_gm (Ls := [(kBa33_4 b2 o_0 o_1 o_2 (hi o_3) (lo o_3)), (kBa53_0 bm m_0v m_1 m_2), Sm_0]) (FL := []) [] _ (some 25) 21 _ rfl rfl rfl rfl rfl (ev_callF rfl call_21 rfl) (fun own_ nw_ hn_ hs_ => shunterref19_Put_g N l' most o_2 o_3 o_1 _ hr10 _ l'v (Rd.mono (ro_sans (Ls := [(kBa33_4 b2 o_0 o_1 o_2 (hi o_3) (lo o_3)), (kBa53_0 bm m_0v m_1 m_2), Sm_0]) (is := []) rfl hs_) hl')) (fun _ _ _ _ _ => Iff.rfl) (fun h_ => nomatch h_) ?_
  rcases SumRow41.cases r9.1 with hx11 | ⟨x12_0, hx11⟩
  ·rintro _ _ hp_
   obtain ⟨rfl, rfl⟩ := SumRow41.onP_nil hx11 hp_
   replace hM := SumRow41.on_nil hx11 hM
   refine lx_perm (Ls := [(kBa33_4 b2 o_0 o_1 o_2 (hi o_3) (lo o_3)), (kBa53_0 bm m_0v m_1 m_2), Sm_0]) (Ls' := [(kBa33_4 b2 o_0 o_1 o_2 (hi o_3) (lo o_3)), (kBa53_0 bm m_0v m_1 m_2), Sm_0]) [0, 1, 2] rfl rfl <| r_R [vT #[l'v, vI r9.2], l'v, vI r9.2, l'v, vI r9.2] rfl <| lx_nil <| hK8 _ _ ?_; try clear hK8 K8
   refine A_sr <| r_R [l'v, vP bm 0, vP b2 2] rfl <| r_l (vA #[vI o_2, U (hi o_3), U (lo o_3)]) 0 _ _ _ _ rfl rfl rfl rfl rfl <| r_V (vP b2 1) rfl <| r_l (vI o_1) 0 _ _ _ _ rfl rfl rfl rfl rfl ?_
   obtain ⟨r14, hr15, hM⟩ := bind_sm hM
   obtain ⟨ck16, hM⟩ := ck_some hM
   refine cA 34 <| r_gm (Ls := [(kBa33_4 b2 o_0 o_1 o_2 (hi o_3) (lo o_3)), (kBa53_0 bm m_0v m_1 m_2), Sm_0]) (FL := [(kBa53_0 bm m_0v m_1 m_2), Sm_0]) [1, 2] _ (some 34) 16 _ rfl rfl rfl rfl rfl (ev_callF rfl call_16 rfl) (fun own_ nw_ hn_ hs_ => exact_Map_Put_v1_g N m_0 m_1 m_2 o_2 o_3 o_1 _ hr15 _ bm m_0v Sm_0 hm_0) (fun _ _ _ _ _ => Iff.rfl) (fun h_ => nomatch h_) ?_
   rintro _ _ ⟨S17, _, H18, ⟨rfl, rfl⟩, rfl⟩
   refine lx_perm (Ls := [(kBa33_4 b2 o_0 o_1 o_2 (hi o_3) (lo o_3)), S17, (kBa53_0 bm m_0v r14.2.2.1 r14.2.2.2)]) (Ls' := [(kBa33_4 b2 o_0 o_1 o_2 (hi o_3) (lo o_3)), (kBa53_0 bm m_0v r14.2.2.1 r14.2.2.2), S17]) [0, 2, 1] rfl rfl <| r_R [vI r9.2, vB (r14.1 == r9.2), l'v, vB (r14.1 == r9.2)] rfl <| lx_nil <| A_gen [(8, l'v), (9, vB (r14.1 == r9.2))] rfl (fun T => ?_)
   obtain rfl := Option.some.inj hM
   refine A_ret (fun hn => endsO (v0 := vT #[l'v, vB (r14.1 == r9.2)]) (O := [S17, (kBa53_0 bm m_0v r14.2.2.1 r14.2.2.2)]) (res2 rfl rfl) (Sub.pick [(kBa33_4 b2 o_0 o_1 o_2 (hi o_3) (lo o_3)), (kBa53_0 bm m_0v r14.2.2.1 r14.2.2.2), S17] [2, 1] rfl) ⟨S17, _, H18, ⟨rfl, rfl⟩, rfl⟩)
  rintro _ _ hp_
  obtain ⟨s13, S14, _, H15, ⟨rfl, rfl⟩, rfl⟩ := SumRow41.onP_t0 hx11 hp_
  replace hM := SumRow41.on_t0 hx11 hM
  refine lx_perm (Ls := [(kBa33_4 b2 o_0 o_1 o_2 (hi o_3) (lo o_3)), (kBa53_0 bm m_0v m_1 m_2), Sm_0, S14]) (Ls' := [(kBa33_4 b2 o_0 o_1 o_2 (hi o_3) (lo o_3)), (kBa53_0 bm m_0v m_1 m_2), Sm_0, S14]) [0, 1, 2, 3] rfl rfl <| r_R [vT #[s13, vI r9.2], s13, vI r9.2, s13, vI r9.2] rfl <| lx_nil <| hK8 _ _ ?_; try clear hK8 K8
  refine A_sr <| r_R [s13, vP bm 0, vP b2 2] rfl <| r_l (vA #[vI o_2, U (hi o_3), U (lo o_3)]) 0 _ _ _ _ rfl rfl rfl rfl rfl <| r_V (vP b2 1) rfl <| r_l (vI o_1) 0 _ _ _ _ rfl rfl rfl rfl rfl ?_
  obtain ⟨r17, hr18, hM⟩ := bind_sm hM
  obtain ⟨ck19, hM⟩ := ck_some hM
  refine cA 34 <| r_gm (Ls := [(kBa33_4 b2 o_0 o_1 o_2 (hi o_3) (lo o_3)), (kBa53_0 bm m_0v m_1 m_2), Sm_0, S14]) (FL := [(kBa53_0 bm m_0v m_1 m_2), Sm_0]) [1, 2] _ (some 34) 16 _ rfl rfl rfl rfl rfl (ev_callF rfl call_16 rfl) (fun own_ nw_ hn_ hs_ => exact_Map_Put_v1_g N m_0 m_1 m_2 o_2 o_3 o_1 _ hr18 _ bm m_0v Sm_0 hm_0) (fun _ _ _ _ _ => Iff.rfl) (fun h_ => nomatch h_) ?_
  rintro _ _ ⟨S20, _, H21, ⟨rfl, rfl⟩, rfl⟩
  refine lx_perm (Ls := [(kBa33_4 b2 o_0 o_1 o_2 (hi o_3) (lo o_3)), S14, S20, (kBa53_0 bm m_0v r17.2.2.1 r17.2.2.2)]) (Ls' := [(kBa33_4 b2 o_0 o_1 o_2 (hi o_3) (lo o_3)), (kBa53_0 bm m_0v r17.2.2.1 r17.2.2.2), S14, S20]) [0, 3, 1, 2] rfl rfl <| r_R [vI r9.2, vB (r17.1 == r9.2), s13, vB (r17.1 == r9.2)] rfl <| lx_nil <| A_gen [(8, s13), (9, vB (r17.1 == r9.2))] rfl (fun T => ?_)
  obtain rfl := Option.some.inj hM
  refine A_ret (fun hn => endsO (v0 := vT #[s13, vB (r17.1 == r9.2)]) (O := [S20, S14, (kBa53_0 bm m_0v r17.2.2.1 r17.2.2.2)]) (res2 rfl rfl) (Sub.pick [(kBa33_4 b2 o_0 o_1 o_2 (hi o_3) (lo o_3)), (kBa53_0 bm m_0v r17.2.2.1 r17.2.2.2), S14, S20] [3, 2, 1] rfl) ⟨S20, _, H21, ⟨s13, S14, _, H15, ⟨rfl, rfl⟩, rfl⟩, rfl⟩)
 replace hM := ifn (ne_of_beq_false hc7) hM
 refine A_sr <| r_R [vB (o_0 == 1), vB (o_0 == 1)] rfl <| lx_nil <| A_cond (o_0 == 1) rfl (fun hc23 => ?_) (fun hc23 => ?_)
 ·replace hM := ifp (eq_of_beq hc23) hM
  refine A_seq fun K24 hK24 => A_reg <| r_R [l'v, vP b2 2] rfl <| r_l (vA #[vI o_2, U (hi o_3), U (lo o_3)]) 0 _ _ _ _ rfl rfl rfl rfl rfl <| r_V (vP b2 1) rfl <| r_l (vI o_1) 0 _ _ _ _ rfl rfl rfl rfl rfl ?_
  obtain ⟨r25, hr26, hM⟩ := bind_sm hM
  refine cA 45 <| r_gm (Ls := [(kBa33_4 b2 o_0 o_1 o_2 (hi o_3) (lo o_3)), (kBa53_0 bm m_0v m_1 m_2), Sm_0]) (FL := []) [] _ (some 45) 22 _ rfl rfl rfl rfl rfl (ev_callF rfl call_22 rfl) (fun own_ nw_ hn_ hs_ => shunterref19_Set_g N l' o_2 o_3 o_1 _ hr26 _ l'v (Rd.mono (ro_sans (Ls := [(kBa33_4 b2 o_0 o_1 o_2 (hi o_3) (lo o_3)), (kBa53_0 bm m_0v m_1 m_2), Sm_0]) (is := []) rfl hs_) hl')) (fun _ _ _ _ _ => Iff.rfl) (fun h_ => nomatch h_) ?_
  rcases SumRow41.cases r25.1 with hx27 | ⟨x28_0, hx27⟩
  ·rintro _ _ hp_
   obtain ⟨rfl, rfl⟩ := SumRow41.onP_nil hx27 hp_
   replace hM := SumRow41.on_nil hx27 hM
   refine lx_perm (Ls := [(kBa33_4 b2 o_0 o_1 o_2 (hi o_3) (lo o_3)), (kBa53_0 bm m_0v m_1 m_2), Sm_0]) (Ls' := [(kBa33_4 b2 o_0 o_1 o_2 (hi o_3) (lo o_3)), (kBa53_0 bm m_0v m_1 m_2), Sm_0]) [0, 1, 2] rfl rfl <| r_R [vT #[l'v, vI r25.2], l'v, vI r25.2, l'v, vI r25.2] rfl <| lx_nil <| hK24 _ _ ?_; try clear hK24 K24
   refine A_sr <| r_R [l'v, vP bm 0, vP b2 2] rfl <| r_l (vA #[vI o_2, U (hi o_3), U (lo o_3)]) 0 _ _ _ _ rfl rfl rfl rfl rfl <| r_V (vP b2 1) rfl <| r_l (vI o_1) 0 _ _ _ _ rfl rfl rfl rfl rfl ?_
   obtain ⟨r30, hr31, hM⟩ := bind_sm hM
   obtain ⟨ck32, hM⟩ := ck_some hM
   refine cA 54 <| r_gm (Ls := [(kBa33_4 b2 o_0 o_1 o_2 (hi o_3) (lo o_3)), (kBa53_0 bm m_0v m_1 m_2), Sm_0]) (FL := [(kBa53_0 bm m_0v m_1 m_2), Sm_0]) [1, 2] _ (some 54) 17 _ rfl rfl rfl rfl rfl (ev_callF rfl call_17 rfl) (fun own_ nw_ hn_ hs_ => exact_Map_Set_v1_g N m_0 m_1 m_2 o_2 o_3 o_1 _ hr31 _ bm m_0v Sm_0 hm_0) (fun _ _ _ _ _ => Iff.rfl) (fun h_ => nomatch h_) ?_
   rintro _ _ ⟨S33, _, H34, ⟨rfl, rfl⟩, rfl⟩
   refine lx_perm (Ls := [(kBa33_4 b2 o_0 o_1 o_2 (hi o_3) (lo o_3)), S33, (kBa53_0 bm m_0v r30.2.2.1 r30.2.2.2)]) (Ls' := [(kBa33_4 b2 o_0 o_1 o_2 (hi o_3) (lo o_3)), (kBa53_0 bm m_0v r30.2.2.1 r30.2.2.2), S33]) [0, 2, 1] rfl rfl <| r_R [vI r25.2, vB (r30.1 == r25.2), l'v, vB (r30.1 == r25.2)] rfl <| lx_nil <| A_gen [(8, l'v), (9, vB (r30.1 == r25.2))] rfl (fun T => ?_)
   obtain rfl := Option.some.inj hM
   refine A_ret (fun hn => endsO (v0 := vT #[l'v, vB (r30.1 == r25.2)]) (O := [S33, (kBa53_0 bm m_0v r30.2.2.1 r30.2.2.2)]) (res2 rfl rfl) (Sub.pick [(kBa33_4 b2 o_0 o_1 o_2 (hi o_3) (lo o_3)), (kBa53_0 bm m_0v r30.2.2.1 r30.2.2.2), S33] [2, 1] rfl) ⟨S33, _, H34, ⟨rfl, rfl⟩, rfl⟩)
  rintro _ _ hp_
  obtain ⟨s29, S30, _, H31, ⟨rfl, rfl⟩, rfl⟩ := SumRow41.onP_t0 hx27 hp_
  replace hM := SumRow41.on_t0 hx27 hM
  refine lx_perm (Ls := [(kBa33_4 b2 o_0 o_1 o_2 (hi o_3) (lo o_3)), (kBa53_0 bm m_0v m_1 m_2), Sm_0, S30]) (Ls' := [(kBa33_4 b2 o_0 o_1 o_2 (hi o_3) (lo o_3)), (kBa53_0 bm m_0v m_1 m_2), Sm_0, S30]) [0, 1, 2, 3] rfl rfl <| r_R [vT #[s29, vI r25.2], s29, vI r25.2, s29, vI r25.2] rfl <| lx_nil <| hK24 _ _ ?_; try clear hK24 K24
  refine A_sr <| r_R [s29, vP bm 0, vP b2 2] rfl <| r_l (vA #[vI o_2, U (hi o_3), U (lo o_3)]) 0 _ _ _ _ rfl rfl rfl rfl rfl <| r_V (vP b2 1) rfl <| r_l (vI o_1) 0 _ _ _ _ rfl rfl rfl rfl rfl ?_
  obtain ⟨r33, hr34, hM⟩ := bind_sm hM
  obtain ⟨ck35, hM⟩ := ck_some hM
  refine cA 54 <| r_gm (Ls := [(kBa33_4 b2 o_0 o_1 o_2 (hi o_3) (lo o_3)), (kBa53_0 bm m_0v m_1 m_2), Sm_0, S30]) (FL := [(kBa53_0 bm m_0v m_1 m_2), Sm_0]) [1, 2] _ (some 54) 17 _ rfl rfl rfl rfl rfl (ev_callF rfl call_17 rfl) (fun own_ nw_ hn_ hs_ => exact_Map_Set_v1_g N m_0 m_1 m_2 o_2 o_3 o_1 _ hr34 _ bm m_0v Sm_0 hm_0) (fun _ _ _ _ _ => Iff.rfl) (fun h_ => nomatch h_) ?_
  rintro _ _ ⟨S36, _, H37, ⟨rfl, rfl⟩, rfl⟩
  refine lx_perm (Ls := [(kBa33_4 b2 o_0 o_1 o_2 (hi o_3) (lo o_3)), S30, S36, (kBa53_0 bm m_0v r33.2.2.1 r33.2.2.2)]) (Ls' := [(kBa33_4 b2 o_0 o_1 o_2 (hi o_3) (lo o_3)), (kBa53_0 bm m_0v r33.2.2.1 r33.2.2.2), S30, S36]) [0, 3, 1, 2] rfl rfl <| r_R [vI r25.2, vB (r33.1 == r25.2), s29, vB (r33.1 == r25.2)] rfl <| lx_nil <| A_gen [(8, s29), (9, vB (r33.1 == r25.2))] rfl (fun T => ?_)
  obtain rfl := Option.some.inj hM
  refine A_ret (fun hn => endsO (v0 := vT #[s29, vB (r33.1 == r25.2)]) (O := [S36, S30, (kBa53_0 bm m_0v r33.2.2.1 r33.2.2.2)]) (res2 rfl rfl) (Sub.pick [(kBa33_4 b2 o_0 o_1 o_2 (hi o_3) (lo o_3)), (kBa53_0 bm m_0v r33.2.2.1 r33.2.2.2), S30, S36] [3, 2, 1] rfl) ⟨S36, _, H37, ⟨s29, S30, _, H31, ⟨rfl, rfl⟩, rfl⟩, rfl⟩)
 replace hM := ifn (ne_of_beq_false hc23) hM
 refine A_sr <| r_R [vB (o_0 == 2), vB (o_0 == 2)] rfl <| lx_nil <| A_cond (o_0 == 2) rfl (fun hc39 => ?_) (fun hc39 => ?_)
 ·replace hM := ifp (eq_of_beq hc39) hM
  refine A_seq fun K40 hK40 => A_reg <| r_R [l'v, vP b2 2] rfl <| r_l (vA #[vI o_2, U (hi o_3), U (lo o_3)]) 0 _ _ _ _ rfl rfl rfl rfl rfl ?_
  obtain ⟨r41, hr42, hM⟩ := bind_sm hM
  refine cA 63 <| r_gm (Ls := [(kBa33_4 b2 o_0 o_1 o_2 (hi o_3) (lo o_3)), (kBa53_0 bm m_0v m_1 m_2), Sm_0]) (FL := []) [] _ (some 63) 23 _ rfl rfl rfl rfl rfl (ev_callF rfl call_23 rfl) (fun own_ nw_ hn_ hs_ => shunterref19_Drop_g N l' o_2 o_3 _ hr42 _ l'v (Rd.mono (ro_sans (Ls := [(kBa33_4 b2 o_0 o_1 o_2 (hi o_3) (lo o_3)), (kBa53_0 bm m_0v m_1 m_2), Sm_0]) (is := []) rfl hs_) hl')) (fun _ _ _ _ _ => Iff.rfl) (fun h_ => nomatch h_) ?_
  rcases SumRow41.cases r41.1 with hx43 | ⟨x44_0, hx43⟩
  ·rintro _ _ hp_
   obtain ⟨rfl, rfl⟩ := SumRow41.onP_nil hx43 hp_
   replace hM := SumRow41.on_nil hx43 hM
   refine lx_perm (Ls := [(kBa33_4 b2 o_0 o_1 o_2 (hi o_3) (lo o_3)), (kBa53_0 bm m_0v m_1 m_2), Sm_0]) (Ls' := [(kBa33_4 b2 o_0 o_1 o_2 (hi o_3) (lo o_3)), (kBa53_0 bm m_0v m_1 m_2), Sm_0]) [0, 1, 2] rfl rfl <| r_R [vT #[l'v, vI r41.2], l'v, vI r41.2, l'v, vI r41.2] rfl <| lx_nil <| hK40 _ _ ?_; try clear hK40 K40
   refine A_sr <| r_R [l'v, vP bm 0, vP b2 2] rfl <| r_l (vA #[vI o_2, U (hi o_3), U (lo o_3)]) 0 _ _ _ _ rfl rfl rfl rfl rfl ?_
   obtain ⟨r46, hr47, hM⟩ := bind_sm hM
   obtain ⟨ck48, hM⟩ := ck_some hM
   refine cA 70 <| r_gm (Ls := [(kBa33_4 b2 o_0 o_1 o_2 (hi o_3) (lo o_3)), (kBa53_0 bm m_0v m_1 m_2), Sm_0]) (FL := [(kBa53_0 bm m_0v m_1 m_2), Sm_0]) [1, 2] _ (some 70) 18 _ rfl rfl rfl rfl rfl (ev_callF rfl call_18 rfl) (fun own_ nw_ hn_ hs_ => exact_Map_Drop_v1_g N m_0 m_1 m_2 o_2 o_3 _ hr47 _ bm m_0v Sm_0 hm_0) (fun _ _ _ _ _ => Iff.rfl) (fun h_ => nomatch h_) ?_
   rintro _ _ ⟨S49, _, H50, ⟨rfl, rfl⟩, rfl⟩
   refine lx_perm (Ls := [(kBa33_4 b2 o_0 o_1 o_2 (hi o_3) (lo o_3)), S49, (kBa53_0 bm m_0v r46.2.2.1 r46.2.2.2)]) (Ls' := [(kBa33_4 b2 o_0 o_1 o_2 (hi o_3) (lo o_3)), (kBa53_0 bm m_0v r46.2.2.1 r46.2.2.2), S49]) [0, 2, 1] rfl rfl <| r_R [vI r41.2, vB (r46.1 == r41.2), l'v, vB (r46.1 == r41.2)] rfl <| lx_nil <| A_gen [(8, l'v), (9, vB (r46.1 == r41.2))] rfl (fun T => ?_)
   obtain rfl := Option.some.inj hM
   refine A_ret (fun hn => endsO (v0 := vT #[l'v, vB (r46.1 == r41.2)]) (O := [S49, (kBa53_0 bm m_0v r46.2.2.1 r46.2.2.2)]) (res2 rfl rfl) (Sub.pick [(kBa33_4 b2 o_0 o_1 o_2 (hi o_3) (lo o_3)), (kBa53_0 bm m_0v r46.2.2.1 r46.2.2.2), S49] [2, 1] rfl) ⟨S49, _, H50, ⟨rfl, rfl⟩, rfl⟩)
  rintro _ _ hp_
  obtain ⟨s45, S46, _, H47, ⟨rfl, rfl⟩, rfl⟩ := SumRow41.onP_t0 hx43 hp_
  replace hM := SumRow41.on_t0 hx43 hM
  refine lx_perm (Ls := [(kBa33_4 b2 o_0 o_1 o_2 (hi o_3) (lo o_3)), (kBa53_0 bm m_0v m_1 m_2), Sm_0, S46]) (Ls' := [(kBa33_4 b2 o_0 o_1 o_2 (hi o_3) (lo o_3)), (kBa53_0 bm m_0v m_1 m_2), Sm_0, S46]) [0, 1, 2, 3] rfl rfl <| r_R [vT #[s45, vI r41.2], s45, vI r41.2, s45, vI r41.2] rfl <| lx_nil <| hK40 _ _ ?_; try clear hK40 K40
  refine A_sr <| r_R [s45, vP bm 0, vP b2 2] rfl <| r_l (vA #[vI o_2, U (hi o_3), U (lo o_3)]) 0 _ _ _ _ rfl rfl rfl rfl rfl ?_
  obtain ⟨r49, hr50, hM⟩ := bind_sm hM
  obtain ⟨ck51, hM⟩ := ck_some hM
  refine cA 70 <| r_gm (Ls := [(kBa33_4 b2 o_0 o_1 o_2 (hi o_3) (lo o_3)), (kBa53_0 bm m_0v m_1 m_2), Sm_0, S46]) (FL := [(kBa53_0 bm m_0v m_1 m_2), Sm_0]) [1, 2] _ (some 70) 18 _ rfl rfl rfl rfl rfl (ev_callF rfl call_18 rfl) (fun own_ nw_ hn_ hs_ => exact_Map_Drop_v1_g N m_0 m_1 m_2 o_2 o_3 _ hr50 _ bm m_0v Sm_0 hm_0) (fun _ _ _ _ _ => Iff.rfl) (fun h_ => nomatch h_) ?_
  rintro _ _ ⟨S52, _, H53, ⟨rfl, rfl⟩, rfl⟩
  refine lx_perm (Ls := [(kBa33_4 b2 o_0 o_1 o_2 (hi o_3) (lo o_3)), S46, S52, (kBa53_0 bm m_0v r49.2.2.1 r49.2.2.2)]) (Ls' := [(kBa33_4 b2 o_0 o_1 o_2 (hi o_3) (lo o_3)), (kBa53_0 bm m_0v r49.2.2.1 r49.2.2.2), S46, S52]) [0, 3, 1, 2] rfl rfl <| r_R [vI r41.2, vB (r49.1 == r41.2), s45, vB (r49.1 == r41.2)] rfl <| lx_nil <| A_gen [(8, s45), (9, vB (r49.1 == r41.2))] rfl (fun T => ?_)
  obtain rfl := Option.some.inj hM
  refine A_ret (fun hn => endsO (v0 := vT #[s45, vB (r49.1 == r41.2)]) (O := [S52, S46, (kBa53_0 bm m_0v r49.2.2.1 r49.2.2.2)]) (res2 rfl rfl) (Sub.pick [(kBa33_4 b2 o_0 o_1 o_2 (hi o_3) (lo o_3)), (kBa53_0 bm m_0v r49.2.2.1 r49.2.2.2), S46, S52] [3, 2, 1] rfl) ⟨S52, _, H53, ⟨s45, S46, _, H47, ⟨rfl, rfl⟩, rfl⟩, rfl⟩)
 replace hM := ifn (ne_of_beq_false hc39) hM
 refine A_skip <| hK4 _ _ ?_; try clear hK4 K4
 refine A_sr <| r_R [vP bm 0, vP b2 2] rfl <| r_l (vA #[vI o_2, U (hi o_3), U (lo o_3)]) 0 _ _ _ _ rfl rfl rfl rfl rfl ?_
 obtain ⟨r55, hr56, hM⟩ := bind_sm hM
 refine cB 77 <| r_gv (vT #[vI r55.1, vB r55.2]) 19 _ rfl rfl rfl (ev_callF rfl call_19 rfl) (fun own_ nw_ hs_ => exact_Map_Get_v1_g N m_0 m_1 m_2 o_2 o_3 _ hr56 hs_.view bm m_0v ((rd_own hm_0 (mem_chunk (Ls := [(kBa33_4 b2 o_0 o_1 o_2 (hi o_3) (lo o_3)), (kBa53_0 bm m_0v m_1 m_2), Sm_0]) (k := 2) rfl rfl)) own_ nw_ hs_) (blk_own 1 rfl rfl own_ nw_ hs_)) (fun _ _ _ _ _ => Iff.rfl) <| r_R [vT #[vI r55.1, vB r55.2], vI r55.1, vB r55.2, vI r55.1, vB r55.2] rfl <| lx_nil <| A_sr <| r_V (vI (-1)) rfl <| lx_nil ?_
 refine A_cut (fun tt ll => ∃ (i1_ : Int), (shunterlaw19_step_v1_k2 m_0 m_1 m_2 l' r55 i1_ = some r) ∧ Is [(1, l'v), (11, vI r55.1), (12, vB r55.2), (13, vI i1_)] (List.flatten [(kBa53_0 bm m_0v m_1 m_2), Sm_0]) tt ll) ?_ ?_
 ·refine A_sr <| r_V (vP b2 2) rfl <| r_l (vA #[vI o_2, U (hi o_3), U (lo o_3)]) 0 _ _ _ _ rfl rfl rfl rfl rfl ?_
  obtain ⟨r69, hr70, hM⟩ := bind_sm hM
  refine r_c (vB r69) rfl _ _ (ev_callF rfl call_15 rfl) (shunterref02_May_g N o_2 o_3 _ hr70) <| lx_nil <| A_cond r69 rfl (fun hc71 => ?_) (fun hc71 => ?_)
  ·replace hM := ifp hc71 hM
   refine A_reg <| r_R [l'v, vP b2 2] rfl <| r_l (vA #[vI o_2, U (hi o_3), U (lo o_3)]) 0 _ _ _ _ rfl rfl rfl rfl rfl ?_
   obtain ⟨r72, hr73, hM⟩ := bind_sm hM
   refine cB 86 <| r_gv (vI r72) 13 _ rfl rfl rfl (ev_callF rfl call_13 rfl) (fun own_ nw_ hs_ => shunterref19_Find_g N l' o_2 o_3 _ hr73 hs_.view l'v ((rd_ro hl') own_ nw_ hs_)) (fun _ _ _ _ _ => Iff.rfl) <| r_V (vI r72) rfl <| lx_nil <| fg _ (Sub.pick [(kBa33_4 b2 o_0 o_1 o_2 (hi o_3) (lo o_3)), (kBa53_0 bm m_0v m_1 m_2), Sm_0] [1, 2] rfl) ?_
   exact ⟨r72, hM, is_mk rfl rfl⟩
  replace hM := ifn (Bool.eq_false_iff.1 hc71) hM
  refine A_skip <| fg _ (Sub.pick [(kBa33_4 b2 o_0 o_1 o_2 (hi o_3) (lo o_3)), (kBa53_0 bm m_0v m_1 m_2), Sm_0] [1, 2] rfl) ?_
  exact ⟨-1, hM, is_mk rfl rfl⟩
 clear hM; rintro t l ⟨i1_, hM, ⟨T, rfl⟩, rfl⟩
 unfold shunterlaw19_step_v1_k2 at hM
 refine A_seq fun K58 hK58 => A_sr <| r_R [vI i1_, vB (decide (i1_ < 0))] rfl <| lx_nil <| A_cond (decide (i1_ < 0)) rfl (fun hc60 => ?_) (fun hc60 => ?_)
 ·replace hM := ifp (of_decide_eq_true hc60) hM
  refine A_seq fun K61 hK61 => A_reg <| r_R [l'v, vI r55.1, vB (r55.1 == 0), vB (r55.1 == 0)] rfl <| lx_jn 3 95 [(89, l'v)] vB (fun b_ => shunterlaw19_step_v1_k3 m_0 m_1 m_2 b_ = some r) (fun b62 hM T => ?_) (fun HJ => ?_)
  ·unfold shunterlaw19_step_v1_k3 at hM
   refine r_R [l'v, vB b62] rfl <| lx_nil <| hK61 _ _ ?_; try clear hK61 K61
   obtain rfl := Option.some.inj hM
   refine A_ret (fun hn => endsO (v0 := vT #[l'v, vB b62]) (O := [Sm_0, (kBa53_0 bm m_0v m_1 m_2)]) (res2 rfl rfl) (Sub.pick [(kBa53_0 bm m_0v m_1 m_2), Sm_0] [1, 0] rfl) ⟨Sm_0, _, hm_0, ⟨rfl, rfl⟩, rfl⟩)
  rcases hg63 : (r55.1 == 0) with _ | _
  ·replace hM := ifn (ne_of_beq_false hg63) hM
   refine r_R [none, none, vB false] rfl ?_
   first | exact HJ _ _ hM rfl rfl | exact lx_cn _ _ (HJ _ _ hM rfl rfl)
  replace hM := ifp (eq_of_beq hg63) hM
  refine r_R [vB r55.2, vB (!(r55.2)), vB (!(r55.2))] rfl ?_
  first | exact HJ _ _ hM rfl rfl | exact lx_cn _ _ (HJ _ _ hM rfl rfl)
 replace hM := ifn (of_decide_eq_false hc60) hM
 refine A_skip <| hK58 _ _ ?_; try clear hK58 K58
 refine A_seq fun K64 hK64 => A_reg <| r_R [l'v, vI r55.1, l'v, vI i1_] rfl ?_
 obtain ⟨ck65, hM⟩ := ck_some hM
 refine r_W (elA l'v ((i1_).toNat * 4)) rfl (ev_v (ev_idxSl rfl rfl rfl (Rd.shp hl') ck65)) <| r_W (elA l'v ((i1_).toNat * 4 + 3)) rfl (ev_v (ev_fieldX rfl rfl rfl rfl rfl rfl (Rd.shp hl') (pos_of ck65))) <| r_le (vI (((l')[(i1_).toNat]!).2.2)) (En := enc_41) ((l')[(i1_).toNat]!) ((i1_).toNat) 3 rfl rfl (rd_ro hl') (get_of ck65) rfl <| r_R [vB (r55.1 == ((l')[(i1_).toNat]!).2.2), vB (r55.1 == ((l')[(i1_).toNat]!).2.2)] rfl <| lx_jn 2 106 [(96, l'v)] vB (fun b_ => shunterlaw19_step_v1_k4 m_0 m_1 m_2 b_ = some r) (fun b66 hM T => ?_) (fun HJ => ?_)
 ·unfold shunterlaw19_step_v1_k4 at hM
  refine r_R [l'v, vB b66] rfl <| lx_nil <| hK64 _ _ ?_; try clear hK64 K64
  obtain rfl := Option.some.inj hM
  refine A_ret (fun hn => endsO (v0 := vT #[l'v, vB b66]) (O := [Sm_0, (kBa53_0 bm m_0v m_1 m_2)]) (res2 rfl rfl) (Sub.pick [(kBa53_0 bm m_0v m_1 m_2), Sm_0] [1, 0] rfl) ⟨Sm_0, _, hm_0, ⟨rfl, rfl⟩, rfl⟩)
 rcases hg67 : (r55.1 == ((l')[(i1_).toNat]!).2.2) with _ | _
 ·replace hM := ifn (ne_of_beq_false hg67) hM
  refine r_R [none, vB false] rfl ?_
  first | exact HJ _ _ hM rfl rfl | exact lx_cn _ _ (HJ _ _ hM rfl rfl)
 replace hM := ifp (eq_of_beq hg67) hM
 refine r_R [vB r55.2, vB r55.2] rfl ?_
 first | exact HJ _ _ hM rfl rfl | exact lx_cn _ _ (HJ _ _ hM rfl rfl)
def exact_Map_Len_v1_m (_ : Nat) (_ : List (Int × BitVec 128 × Int)) (m_1 : Int) (_ : Int) : Option Int := some m_1
set_option maxRecDepth 100000 in
set_option maxHeartbeats 8000000 in
theorem exact_Map_Len_v1_g (N : Nat) (m_0 : List (Int × BitVec 128 × Int)) (m_1 m_2 r : Int) (hM : exact_Map_Len_v1_m N m_0 m_1 m_2 = some r) (ro : Addr → Option Value) (bm : Nat) (m_0v : Value) (_hm_0 : Rd enc_40 ro m_0v m_0) (hbm : Blk ro bm [m_0v, vI m_1, vI m_2]) : Does Try.prog 10 #[vP bm 0] ro [] (pV (vI r)) := by
 unfold exact_Map_Len_v1_m at hM
 refine does_of_A follows Try.func10 rfl 9 rfl (upd (fun _ => undef) 0 (vP bm 0)) (by funext k; match k with | 0 => rfl | k + 1 => rfl) (fun base0_ => ?_)
 refine A_sr <| r_V (vI 0) rfl <| lx_nil <| A_seq fun K2 hK2 => A_sr <| r_R [vP bm 0, vB false] rfl <| lx_nil <| A_cond false rfl (fun h_ => nomatch h_) (fun _ => ?_)
 refine A_skip <| hK2 _ _ ?_; try clear hK2 K2
 refine A_sr <| r_R [vP bm 0, vP bm 0, vP bm 1] rfl <| r_lb (vI m_1) (vs := [m_0v, vI m_1, vI m_2]) (o := 1) rfl rfl (blk_ro hbm) rfl <| r_V (vI m_1) rfl <| lx_nil ?_
 obtain rfl := Option.some.inj hM
 refine A_ret (fun hn => endsV (v0 := vI m_1) rfl (res1 rfl))
def cmp_isNaN_int__m (_ : Nat) (x : Int) : Option Bool := some (x != x)
set_option maxRecDepth 100000 in
set_option maxHeartbeats 8000000 in
theorem cmp_isNaN_int__g (N : Nat) (x : Int) (r) (hM : cmp_isNaN_int__m N x = some r) : Gives Try.prog 41 #[vI x] (vB r) := by
 unfold cmp_isNaN_int__m at hM
 refine gives_of_A follows Try.func41 rfl 6 rfl (upd (fun _ => undef) 0 (vI x)) (by funext k; match k with | 0 => rfl | k + 1 => rfl) (fun base0_ => ?_)
 refine A_sr <| r_V (vB false) rfl <| lx_nil <| A_sr <| r_R [vI x, vI x, vB (x != x), vB (x != x)] rfl <| lx_nil ?_
 obtain rfl := Option.some.inj hM
 refine A_ret (fun hn => ends_eq (v0 := vB (x != x)) rfl (res1 rfl))
def cmp_Compare_int__m (N : Nat) (x : Int) (y : Int) : Option Int := (cmp_isNaN_int__m N x).bind fun r3 => (cmp_isNaN_int__m N y).bind fun r6 => if r3 = true then if r6 = true then some 0 else some (-1) else if r6 = true then some 1 else if x < y then some (-1) else if x > y then some 1 else some 0
set_option maxRecDepth 100000 in
set_option maxHeartbeats 8000000 in
theorem cmp_Compare_int__g (N : Nat) (x y r : Int) (hM : cmp_Compare_int__m N x y = some r) : Gives Try.prog 28 #[vI x, vI y] (vI r) := by
 unfold cmp_Compare_int__m at hM
 refine gives_of_A follows Try.func28 rfl 20 rfl (upd (upd (fun _ => undef) 1 (vI y)) 0 (vI x)) (by funext k; match k with | 0 => rfl | 1 => rfl | k + 2 => rfl) (fun base0_ => ?_)
 refine A_sr <| r_V (vI 0) rfl <| lx_nil <| A_sr <| r_V (vI x) rfl ?_
 obtain ⟨r3, hr4, hM⟩ := bind_sm hM
 refine r_c (vB r3) rfl _ _ (ev_callF rfl call_41 rfl) (cmp_isNaN_int__g N x _ hr4) <| r_V (vB r3) rfl <| lx_nil <| A_sr <| r_V (vI y) rfl ?_
 obtain ⟨r6, hr7, hM⟩ := bind_sm hM
 refine r_c (vB r6) rfl _ _ (ev_callF rfl call_41 rfl) (cmp_isNaN_int__g N y _ hr7) <| r_V (vB r6) rfl <| lx_nil <| A_seq fun K8 hK8 => A_sr <| r_V (vB r3) rfl <| lx_nil <| A_cond r3 rfl (fun hc10 => ?_) (fun hc10 => ?_)
 ·replace hM := ifp hc10 hM
  refine A_seq fun K11 hK11 => A_sr <| r_V (vB r6) rfl <| lx_nil <| A_cond r6 rfl (fun hc13 => ?_) (fun hc13 => ?_)
  ·replace hM := ifp hc13 hM
   refine A_sr <| r_V (vI 0) rfl <| lx_nil ?_
   obtain rfl := Option.some.inj hM
   refine A_ret (fun hn => ends_eq (v0 := vI 0) rfl (res1 rfl))
  replace hM := ifn (Bool.eq_false_iff.1 hc13) hM
  refine A_skip <| hK11 _ _ ?_; try clear hK11 K11
  refine A_sr <| r_V (vI (-1)) rfl <| lx_nil ?_
  obtain rfl := Option.some.inj hM
  refine A_ret (fun hn => ends_eq (v0 := vI (-1)) rfl (res1 rfl))
 replace hM := ifn (Bool.eq_false_iff.1 hc10) hM
 refine A_skip <| hK8 _ _ ?_; try clear hK8 K8
 refine A_seq fun K16 hK16 => A_sr <| r_V (vB r6) rfl <| lx_nil <| A_cond r6 rfl (fun hc18 => ?_) (fun hc18 => ?_)
 ·replace hM := ifp hc18 hM
  refine A_sr <| r_V (vI 1) rfl <| lx_nil ?_
  obtain rfl := Option.some.inj hM
  refine A_ret (fun hn => ends_eq (v0 := vI 1) rfl (res1 rfl))
 replace hM := ifn (Bool.eq_false_iff.1 hc18) hM
 refine A_skip <| hK16 _ _ ?_; try clear hK16 K16
 refine A_seq fun K20 hK20 => A_sr <| r_R [vI x, vI y, vB (decide (x < y))] rfl <| lx_nil <| A_cond (decide (x < y)) rfl (fun hc22 => ?_) (fun hc22 => ?_)
 ·replace hM := ifp (of_decide_eq_true hc22) hM
  refine A_sr <| r_V (vI (-1)) rfl <| lx_nil ?_
  obtain rfl := Option.some.inj hM
  refine A_ret (fun hn => ends_eq (v0 := vI (-1)) rfl (res1 rfl))
 replace hM := ifn (of_decide_eq_false hc22) hM
 refine A_skip <| hK20 _ _ ?_; try clear hK20 K20
 refine A_seq fun K24 hK24 => A_sr <| r_R [vI x, vI y, vB (decide (x > y))] rfl <| lx_nil <| A_cond (decide (x > y)) rfl (fun hc26 => ?_) (fun hc26 => ?_)
 ·replace hM := ifp (of_decide_eq_true hc26) hM
  refine A_sr <| r_V (vI 1) rfl <| lx_nil ?_
  obtain rfl := Option.some.inj hM
  refine A_ret (fun hn => ends_eq (v0 := vI 1) rfl (res1 rfl))
 replace hM := ifn (of_decide_eq_false hc26) hM
 refine A_skip <| hK24 _ _ ?_; try clear hK24 K24
 refine A_sr <| r_V (vI 0) rfl <| lx_nil ?_
 obtain rfl := Option.some.inj hM
 refine A_ret (fun hn => ends_eq (v0 := vI 0) rfl (res1 rfl))
def cmp_Or_int__l2 (vals : List Int) : Nat → Int → Option Int
  | 0, _ => none
  | n5 + 1, x1_ => if x1_ < ((vals).length : Int) then ck (0 ≤ x1_ ∧ x1_ < ((vals).length : Int)) (if ((vals)[(x1_).toNat]! : Int) ≠ 0 then some ((vals)[(x1_).toNat]!) else ck (-9223372036854775808 ≤ (x1_ + 1) ∧ (x1_ + 1) ≤ 9223372036854775807) ((cmp_Or_int__l2 vals n5) (x1_ + 1))) else some 0
def cmp_Or_int__m (N : Nat) (vals : List Int) : Option Int := cmp_Or_int__l2 vals N 0
set_option maxRecDepth 100000 in
set_option maxHeartbeats 8000000 in
theorem cmp_Or_int__g (N : Nat) (vals : List Int) (r) (hM : cmp_Or_int__m N vals = some r) (ro : Addr → Option Value) (valsv : Value) (hvals : Rd Go.Eng.encI ro valsv vals) : Does Try.prog 27 #[valsv] ro [] (pV (vI r)) := by
 unfold cmp_Or_int__m at hM
 refine does_of_A follows Try.func27 rfl 18 rfl (upd (fun _ => undef) 0 valsv) (by funext k; match k with | 0 => rfl | k + 1 => rfl) (fun base0_ => ?_)
 refine A_sr <| r_V (vI 0) rfl <| lx_nil <| A_sr <| r_V (vI 0) rfl <| lx_nil <| A_seq fun K3 hK3 => A_sr <| r_V valsv rfl <| r_W (vI ((vals).length : Int)) rfl (ev_lenSl rfl rfl rfl (Rd.shp hvals)) <| r_V (vI 0) rfl <| lx_nil <| A_block <| A_loop (fun tt ll nn => ∃ (n5 : Nat) (x1_ : Int), (cmp_Or_int__l2 vals n5 x1_ = some r) ∧ Is [(3, vI 0), (6, valsv), (7, vI ((vals).length : Int)), (8, vI x1_)] [] tt ll ∧ nn = n5 + 1) (N + 1) ?_ ?_
 ·exact ⟨N, 0, hM, is_mk rfl rfl, rfl⟩
 clear hM; rintro t l _ ⟨n5, x1_, hM, ⟨⟨T, rfl⟩, rfl⟩, rfl⟩
 rcases n5 with _ | n5
 ·exact absurd hM (by simp [cmp_Or_int__l2])
 rw [cmp_Or_int__l2] at hM
 refine A_sr <| r_V (vB (decide (x1_ < ((vals).length : Int)))) rfl <| lx_nil <| A_seq fun K7 hK7 => A_cond (decide (x1_ < ((vals).length : Int))) rfl (fun hc8 => ?_) (fun hc8 => ?_)
 ·replace hM := ifp (of_decide_eq_true hc8) hM
  refine A_skip <| hK7 _ _ ?_; try clear hK7 K7
  refine A_seq fun K9 hK9 => A_block <| A_sr ?_
  obtain ⟨ck11, hM⟩ := ck_some hM
  refine r_W (elA valsv ((x1_).toNat * 1)) rfl (ev_v (ev_idxSl rfl rfl rfl (Rd.shp hvals) ck11)) <| r_le (vI ((vals)[(x1_).toNat]!)) (En := Go.Eng.encI) ((vals)[(x1_).toNat]!) ((x1_).toNat) 0 rfl rfl (rd_ro hvals) (get_of ck11) rfl <| r_V (vI ((vals)[(x1_).toNat]!)) rfl <| lx_nil <| A_sr <| r_R [vI ((vals)[(x1_).toNat]!), vI 0, vB (((vals)[(x1_).toNat]! : Int) != 0)] rfl <| lx_nil <| A_cond (((vals)[(x1_).toNat]! : Int) != 0) rfl (fun hc13 => ?_) (fun hc13 => ?_)
  ·replace hM := ifp (bne_iff_ne.1 hc13) hM
   refine A_sr <| r_R [vI ((vals)[(x1_).toNat]!), vI ((vals)[(x1_).toNat]!)] rfl <| lx_nil ?_
   obtain rfl := Option.some.inj hM
   refine A_ret (fun hn => endsV (v0 := vI ((vals)[(x1_).toNat]!)) rfl (res1 rfl))
  replace hM := ifn (bne_f hc13) hM
  refine A_skip <| hK9 _ _ ?_; try clear hK9 K9
  refine A_reg ?_
  obtain ⟨ck15, hM⟩ := ck_some hM
  refine r_X (vI (x1_ + 1)) rfl (wi64 rfl ck15.1 ck15.2) rfl <| r_V (vI (x1_ + 1)) rfl <| lx_nil <| fg _ (Sub.of List.Sublist.slnil) ?_
  exact ⟨n5 + 1, by omega, n5, (x1_ + 1), hM, is_mk rfl rfl, rfl⟩
 replace hM := ifn (of_decide_eq_false hc8) hM
 refine A_exit <| hK3 _ _ ?_; try clear hK3 K3
 refine A_sr <| r_R [vI 0, vI 0] rfl <| lx_nil ?_
 obtain rfl := Option.some.inj hM
 refine A_ret (fun hn => endsV (v0 := vI 0) rfl (res1 rfl))
def exact_Map_List_1_m (N : Nat) (a_0 : Int) (a_1 : BitVec 128) (_ : Int) (b_0 : Int) (b_1 : BitVec 128) (_ : Int) : Option Int := (cmp_Compare_int__m N a_0 b_0).bind fun r5 => (vec_Word_m N a_0 a_1).bind fun r7 => (vec_Word_m N b_0 b_1).bind fun r9 => (cmp_Or_int__m N ([r5, cmpI r7 r9])).bind fun r14 => some r14
set_option maxRecDepth 100000 in
set_option maxHeartbeats 8000000 in
theorem exact_Map_List_1_g (N : Nat) (a_0 : Int) (a_1 : BitVec 128) (a_2 b_0 : Int) (b_1 : BitVec 128) (b_2 r : Int) (hM : exact_Map_List_1_m N a_0 a_1 a_2 b_0 b_1 b_2 = some r) : Gives Try.prog 26 #[vA #[vI a_0, U (hi a_1), U (lo a_1), vI a_2], vA #[vI b_0, U (hi b_1), U (lo b_1), vI b_2]] (vI r) := by
 unfold exact_Map_List_1_m at hM
 refine gives_of_A follows Try.func26 rfl 21 rfl (upd (upd (fun _ => undef) 1 (vA #[vI b_0, U (hi b_1), U (lo b_1), vI b_2])) 0 (vA #[vI a_0, U (hi a_1), U (lo a_1), vI a_2])) (by funext k; match k with | 0 => rfl | 1 => rfl | k + 2 => rfl) (fun base0_ => ?_)
 refine A_sr <| r_a (40, #[vI a_0, U (hi a_1), U (lo a_1), vI a_2]) rfl rfl rfl (fun b2 => ?_) (.inr rfl)
 refine r_a (40, #[vI b_0, U (hi b_1), U (lo b_1), vI b_2]) rfl rfl rfl (fun b3 => ?_) (.inr rfl)
 refine r_V (vI 0) rfl <| lx_nil <| A_seq fun K4 hK4 => A_drawR [(some 19, false), (some 20, false)] (conG Try.prog [(20, fun _ _ v_ L_ U_ => ∀ u0_, cmp_Compare_int__m N a_0 b_0 = some u0_ → ∀ u1_, vec_Word_m N a_0 a_1 = some u1_ → ∀ u2_, vec_Word_m N b_0 b_1 = some u2_ → ∀ u3_, cmp_Or_int__m N ([u0_, cmpI u1_ u2_]) = some u3_ → (pV (vI u3_)) v_ L_ U_)]) [] (by decide +kernel) (fun hn => sep_nil) <| r_R [vP b2 0, vP b2 0] rfl <| r_l (vI a_0) 1 _ _ _ _ rfl rfl rfl rfl rfl <| r_R [vP b3 0, vP b3 0] rfl <| r_l (vI b_0) 0 _ _ _ _ rfl rfl rfl rfl rfl ?_
 obtain ⟨r5, hr6, hM⟩ := bind_sm hM
 refine r_c (vI r5) rfl _ _ (ev_callF rfl call_28 rfl) (cmp_Compare_int__g N a_0 b_0 _ hr6) <| r_V (vP b2 0) rfl <| r_l (vA #[vI a_0, U (hi a_1), U (lo a_1)]) 1 _ _ _ _ rfl rfl rfl rfl rfl ?_
 obtain ⟨r7, hr8, hM⟩ := bind_sm hM
 refine r_c (vA #[U (hi r7), U (lo r7)]) rfl _ _ (ev_callF rfl call_30 rfl) (vec_Word_g N a_0 a_1 _ hr8) <| r_V (vP b3 0) rfl <| r_l (vA #[vI b_0, U (hi b_1), U (lo b_1)]) 0 _ _ _ _ rfl rfl rfl rfl rfl ?_
 obtain ⟨r9, hr10, hM⟩ := bind_sm hM
 refine r_c (vA #[U (hi r9), U (lo r9)]) rfl _ _ (ev_callF rfl call_30 rfl) (vec_Word_g N b_0 b_1 _ hr10) <| r_c (vI (cmpI r7 r9)) rfl _ _ (ev_callF rfl call_29 rfl) (cmp_g r7 r9) ?_
 refine r_bs (cs0 := [(20, fun _ _ v_ L_ U_ => ∀ u0_, cmp_Compare_int__m N a_0 b_0 = some u0_ → ∀ u1_, vec_Word_m N a_0 a_1 = some u1_ → ∀ u2_, vec_Word_m N b_0 b_1 = some u2_ → ∀ u3_, cmp_Or_int__m N ([u0_, cmpI u1_ u2_]) = some u3_ → (pV (vI u3_)) v_ L_ U_)]) (Ls := [(kBa40_5 b3 b_0 (hi b_1) (lo b_1) b_2), (kBa40_5 b2 a_0 (hi a_1) (lo a_1) a_2)]) 3 Go.Eng.encI [r5, cmpI r7 r9] [vI r5, vI (cmpI r7 r9)] [vI 0, vI 0] rfl rfl rfl rfl rfl rfl rfl (by kernel_rfl) (by kernel_rfl) rfl rfl rfl (fun s11 S12 H13 => ?_)
 obtain ⟨r14, hr15, hM⟩ := bind_sm hM
 refine r_gv (vI r14) 27 _ rfl rfl rfl (ev_callF rfl call_27 rfl) (fun own_ nw_ hs_ => cmp_Or_int__g N ([r5, cmpI r7 r9]) _ hr15 hs_.view s11 ((rd_own H13 (mem_chunk (Ls := [(kBa40_5 b3 b_0 (hi b_1) (lo b_1) b_2), (kBa40_5 b2 a_0 (hi a_1) (lo a_1) a_2), S12]) (k := 2) rfl rfl)) own_ nw_ hs_)) (fun _ _ v_ L_ U_ => ⟨fun h_ => h_ _ hr6 _ hr8 _ hr10 _ hr15, fun h_ => by intro _ e_; cases Option.some.inj (e_.symm.trans hr6); intro _ e_; cases Option.some.inj (e_.symm.trans hr8); intro _ e_; cases Option.some.inj (e_.symm.trans hr10); intro _ e_; cases Option.some.inj (e_.symm.trans hr15); exact h_⟩) ?_
 refine r_V (vI r14) rfl <| lx_nil <| hK4 _ _ ?_; try clear hK4 K4
 obtain rfl := Option.some.inj hM
 refine A_ret (fun hn => ends_eq (v0 := vI r14) rfl (res1 rfl))
theorem cmpL_s (a0 : Int) (a1 : BitVec 128) (a2 b0 : Int) (b1 : BitVec 128) (b2 : Int) : exact_Map_List_1_m 1000 a0 a1 a2 b0 b1 b2 = some (cfIt (a0, a1, a2) (b0, b1, b2)) := by
 unfold exact_Map_List_1_m cmp_Compare_int__m cmp_isNaN_int__m vec_Word_m cmp_Or_int__m cfIt
 have l2 : ∀ c d : Int, cmp_Or_int__l2 [c, d] 1000 0 = some (if c ≠ 0 then c else d) := fun c d => by by_cases hc : c = 0 <;> by_cases hd : d = 0 <;> simp [cmp_Or_int__l2, ck, hc, hd]
 by_cases h1 : a0 < b0 <;> by_cases h2 : a0 > b0 <;> simp [h1, h2, l2]

theorem sort_call25 (blk cap : Nat) (d : Array (Int × BitVec 128 × Int)) (w : World) (h1 : CmpLays Try.prog 26 #[] enc_40.f enc_40.sz cfIt blk 0 d.size w) (h2 : Go.Sort.HoldsK enc_40.f enc_40.sz w blk 0 d) (h3 : blk < w.heap.size) (h4 : d.size < 4611686018427387904) :
   Calls Try.prog 25 #[.slice (some ⟨blk, 0, none⟩) d.size cap, .func (.func 26) #[] #[]] w fun e w' => e = .returned (.tuple #[]) ∧ ∃ n os, w' = sortWorldK enc_40.f enc_40.sz w blk 0 n (Go.Sort.pdq (ltOf cfIt) d 0 d.size (Lib.bitLen d.size) true true) os :=
 AnyQ.slices_SortFunc_eq Try.laysSort 4 Try.isAgg40 Try.sizeOf40 enc_40.f (fun x => enc_40.len x) (fun x v hv => enc_40.one x v hv) cfIt swoIt 26 #[] blk 0 cap d w (enters_of Try.func26 (by kernel_rfl) rfl) h1 h2 h3 h4

theorem sort_none25 (p : Option Addr) (cap : Nat) (w : World) : Calls Try.prog 25 #[.slice p 0 cap, .func (.func 26) #[] #[]] w fun e w' => e = .returned (.tuple #[]) ∧ w' = w :=
 AnyF.slices_SortFunc_none Try.laysSort p cap _ w

def slices_SortFunc___exact_Item_exact_Item__v1_m (_ : Nat) (x : List (Int × BitVec 128 × Int)) : Option (List (Int × BitVec 128 × Int)) := ck ((x).length ≤ 4398046511104) (some (sortI cfIt x))

theorem slices_SortFunc___exact_Item_exact_Item__v1_g (N : Nat) (x r : List (Int × BitVec 128 × Int)) (hM : slices_SortFunc___exact_Item_exact_Item__v1_m N x = some r) (ro : Addr → Option Value) (xv : Value) (Sx : List Bl) (hx : Sl 40 enc_40 xv x Sx) : Does Try.prog 25 #[xv, Value.func (.func 26) #[] #[]] ro (List.flatten [Sx]) (pO (List.flatten [Sx]) (oI 40 enc_40 xv r (oE (vT #[]) []))) := by
 unfold slices_SortFunc___exact_Item_exact_Item__v1_m at hM
 obtain ⟨ck0, hM⟩ := ck_some hM
 obtain rfl := Option.some.inj hM
 exact does_sort cfIt swoIt sort_call25 sort_none25 (fun x y => exact_Map_List_1_g 1000 x.1 x.2.1 x.2.2 y.1 y.2.1 y.2.2 _ (cmpL_s _ _ _ _ _ _)) rfl x (by omega) xv Sx hx ro

def exact_Map_List_v1_l3 (N : Nat) (m_0 : List (Int × BitVec 128 × Int)) (m_1 : Int) (m_2 : Int) : Nat → List (Int × BitVec 128 × Int) → Int → Option (List (Int × BitVec 128 × Int))
  | 0, _, _ => none
  | n7 + 1, l1_, x2_ => if x2_ < ((m_0).length : Int) then ck (0 ≤ x2_ ∧ x2_ < ((m_0).length : Int)) ((exact_Map_free_v1_m N m_0 m_1 m_2 x2_).bind fun r16 => if r16 = true then ck (-9223372036854775808 ≤ (x2_ + 1) ∧ (x2_ + 1) ≤ 9223372036854775807) ((exact_Map_List_v1_l3 N m_0 m_1 m_2 n7) l1_ (x2_ + 1)) else ck ((l1_).length + ([(((m_0)[(x2_).toNat]!).1, ((m_0)[(x2_).toNat]!).2.1, ((m_0)[(x2_).toNat]!).2.2)]).length ≤ 4398046511104) (ck (-9223372036854775808 ≤ (x2_ + 1) ∧ (x2_ + 1) ≤ 9223372036854775807) ((exact_Map_List_v1_l3 N m_0 m_1 m_2 n7) ((l1_ ++ ([(((m_0)[(x2_).toNat]!).1, ((m_0)[(x2_).toNat]!).2.1, ((m_0)[(x2_).toNat]!).2.2)]))) (x2_ + 1)))) else (slices_SortFunc___exact_Item_exact_Item__v1_m N l1_).bind fun r29 => ck ((r29).length = (l1_).length) (some r29)
def exact_Map_List_v1_m (N : Nat) (m_0 : List (Int × BitVec 128 × Int)) (m_1 : Int) (m_2 : Int) : Option (List (Int × BitVec 128 × Int)) := exact_Map_List_v1_l3 N m_0 m_1 m_2 N ([]) 0
set_option maxRecDepth 100000 in
set_option maxHeartbeats 8000000 in
theorem exact_Map_List_v1_g (N : Nat) (m_0 : List (Int × BitVec 128 × Int)) (m_1 m_2 : Int) (r) (hM : exact_Map_List_v1_m N m_0 m_1 m_2 = some r) (ro : Addr → Option Value) (bm : Nat) (m_0v : Value) (hm_0 : Rd enc_40 ro m_0v m_0) (hbm : Blk ro bm [m_0v, vI m_1, vI m_2]) : Does Try.prog 12 #[vP bm 0] ro [] (p1 (fun s_ => s_) 40 enc_40 r) := by
 unfold exact_Map_List_v1_m at hM
 refine does_of_A follows Try.func12 rfl 30 rfl (upd (fun _ => undef) 0 (vP bm 0)) (by funext k; match k with | 0 => rfl | k + 1 => rfl) (fun base0_ => ?_)
 refine A_sr <| r_V nS rfl <| lx_nil <| A_seq fun K2 hK2 => A_sr <| r_R [vP bm 0, vB false] rfl <| lx_nil <| A_cond false rfl (fun h_ => nomatch h_) (fun _ => ?_)
 refine A_skip <| hK2 _ _ ?_; try clear hK2 K2
 refine A_sr <| r_V nS rfl <| lx_nil <| A_seq fun K5 hK5 => A_sr <| r_R [vP bm 0, vP bm 0, vP bm 0] rfl <| r_lb m_0v (vs := [m_0v, vI m_1, vI m_2]) (o := 0) rfl rfl (blk_ro hbm) rfl <| r_W (vI ((m_0).length : Int)) rfl (ev_lenSl rfl rfl rfl (Rd.shp hm_0)) <| r_V (vI 0) rfl <| lx_nil <| A_block <| A_forget _ (Sub.pickE (Ls := [[]]) (Ls0 := []) rfl [0] rfl) ?_
 refine A_loop (fun tt ll nn => ∃ (n7 : Nat) (l1_ : List (Int × BitVec 128 × Int)) (x2_ : Int), (exact_Map_List_v1_l3 N m_0 m_1 m_2 n7 l1_ x2_ = some r) ∧ ∃ (vl1_ : Value) (Sl1_ : List Bl), Sl 40 enc_40 vl1_ l1_ Sl1_ ∧ Is [(0, vP bm 0), (3, vl1_), (11, m_0v), (12, vI ((m_0).length : Int)), (13, vI x2_)] (List.flatten [Sl1_]) tt ll ∧ nn = n7 + 1) (N + 1) ?_ ?_
 ·exact ⟨N, [], 0, hM, nS, [], Sl.nil, is_mk rfl rfl, rfl⟩
 clear hM; rintro t l _ ⟨n7, l1_, x2_, hM, vl1_, Sl1_, hl1_, ⟨⟨T, rfl⟩, rfl⟩, rfl⟩
 rcases n7 with _ | n7
 ·exact absurd hM (by simp [exact_Map_List_v1_l3])
 rw [exact_Map_List_v1_l3] at hM
 refine A_sr <| r_V (vB (decide (x2_ < ((m_0).length : Int)))) rfl <| lx_nil <| A_seq fun K9 hK9 => A_cond (decide (x2_ < ((m_0).length : Int))) rfl (fun hc10 => ?_) (fun hc10 => ?_)
 ·replace hM := ifp (of_decide_eq_true hc10) hM
  refine A_skip <| hK9 _ _ ?_; try clear hK9 K9
  refine A_seq fun K11 hK11 => A_block <| A_sr <| r_V (vI x2_) rfl ?_
  obtain ⟨ck13, hM⟩ := ck_some hM
  refine r_W (elA m_0v ((x2_).toNat * 4)) rfl (ev_v (ev_idxSl rfl rfl rfl (Rd.shp hm_0) ck13)) <| r_le (vA #[vI (((m_0)[(x2_).toNat]!).1), U (hi (((m_0)[(x2_).toNat]!).2.1)), U (lo (((m_0)[(x2_).toNat]!).2.1)), vI (((m_0)[(x2_).toNat]!).2.2)]) (En := enc_40) ((m_0)[(x2_).toNat]!) ((x2_).toNat) 0 rfl rfl (rd_ro hm_0) (get_of ck13) rfl <| r_a (40, #[vI 0, U (0#64), U (0#64), vI 0]) rfl rfl rfl (fun b14 => ?_) (.inr rfl)
  refine r_V (vI x2_) rfl <| r_s (List.flatten [(kBa40_5 b14 (((m_0)[(x2_).toNat]!).1) (hi (((m_0)[(x2_).toNat]!).2.1)) (lo (((m_0)[(x2_).toNat]!).2.1)) (((m_0)[(x2_).toNat]!).2.2)), Sl1_]) 0 _ _ _ _ _ (#[vI (((m_0)[(x2_).toNat]!).1), U (hi (((m_0)[(x2_).toNat]!).2.1)), U (lo (((m_0)[(x2_).toNat]!).2.1)), vI (((m_0)[(x2_).toNat]!).2.2)]) rfl rfl rfl rfl (.of rfl rfl) rfl rfl <| lx_nil <| A_sr <| r_R [vP bm 0, vI x2_] rfl ?_
  obtain ⟨r16, hr17, hM⟩ := bind_sm hM
  refine cB 20 <| r_gv (vB r16) 24 _ rfl rfl rfl (ev_callF rfl call_24 rfl) (fun own_ nw_ hs_ => exact_Map_free_v1_g N m_0 m_1 m_2 x2_ _ hr17 hs_.view bm m_0v ((rd_ro hm_0) own_ nw_ hs_) (blk_ro hbm own_ nw_ hs_)) (fun _ _ _ _ _ => Iff.rfl) <| r_V (vB (!(r16))) rfl <| lx_nil <| A_cond (!(r16)) rfl (fun hc18 => ?_) (fun hc18 => ?_)
  ·replace hM := ifn (Bool.eq_false_iff.1 (not_t hc18)) hM
   refine A_reg <| r_V vl1_ rfl <| r_l (vA #[vI (((m_0)[(x2_).toNat]!).1), U (hi (((m_0)[(x2_).toNat]!).2.1)), U (lo (((m_0)[(x2_).toNat]!).2.1)), vI (((m_0)[(x2_).toNat]!).2.2)]) 0 _ _ _ _ rfl rfl rfl rfl rfl <| cD 24 ?_
   refine r_bs (cs0 := []) (Ls := [(kBa40_5 b14 (((m_0)[(x2_).toNat]!).1) (hi (((m_0)[(x2_).toNat]!).2.1)) (lo (((m_0)[(x2_).toNat]!).2.1)) (((m_0)[(x2_).toNat]!).2.2)), Sl1_]) 40 enc_40 [(((m_0)[(x2_).toNat]!).1, ((m_0)[(x2_).toNat]!).2.1, ((m_0)[(x2_).toNat]!).2.2)] [vI (((m_0)[(x2_).toNat]!).1), U (hi (((m_0)[(x2_).toNat]!).2.1)), U (lo (((m_0)[(x2_).toNat]!).2.1)), vI (((m_0)[(x2_).toNat]!).2.2)] [vI 0, U (0#64), U (0#64), vI 0] rfl rfl rfl rfl rfl rfl rfl (by kernel_rfl) (by kernel_rfl) rfl rfl rfl (fun s19 S20 H21 => ?_)
   obtain ⟨ck22, hM⟩ := ck_some hM
   refine cC 25 <| r_app (cs0 := []) (Ls := [(kBa40_5 b14 (((m_0)[(x2_).toNat]!).1) (hi (((m_0)[(x2_).toNat]!).2.1)) (lo (((m_0)[(x2_).toNat]!).2.1)) (((m_0)[(x2_).toNat]!).2.2)), Sl1_, S20]) 1 (En := enc_40) rfl rfl rfl rfl rfl hl1_ rfl (rd_own H21 (mem_chunk (Ls := [(kBa40_5 b14 (((m_0)[(x2_).toNat]!).1) (hi (((m_0)[(x2_).toNat]!).2.1)) (lo (((m_0)[(x2_).toNat]!).2.1)) (((m_0)[(x2_).toNat]!).2.2)), Sl1_, S20]) (k := 2) rfl rfl)) rfl rfl rfl rfl rfl (app_b ck22 rfl) (app_m ck22 rfl) rfl (fun s23 S24 H25 => ?_)
   refine r_V s23 rfl <| lx_nil <| hK11 _ _ ?_; try clear hK11 K11
   refine A_reg ?_
   obtain ⟨ck26, hM⟩ := ck_some hM
   refine r_X (vI (x2_ + 1)) rfl (wi64 rfl ck26.1 ck26.2) rfl <| r_V (vI (x2_ + 1)) rfl <| lx_nil <| fg _ (Sub.pick [(kBa40_5 b14 (((m_0)[(x2_).toNat]!).1) (hi (((m_0)[(x2_).toNat]!).2.1)) (lo (((m_0)[(x2_).toNat]!).2.1)) (((m_0)[(x2_).toNat]!).2.2)), S24, S20] [1] rfl) ?_
   exact ⟨n7 + 1, by omega, n7, (l1_ ++ ([(((m_0)[(x2_).toNat]!).1, ((m_0)[(x2_).toNat]!).2.1, ((m_0)[(x2_).toNat]!).2.2)])), (x2_ + 1), hM, s23, S24, H25, is_mk rfl rfl, rfl⟩
  replace hM := ifp (not_f hc18) hM
  refine A_skip <| hK11 _ _ ?_; try clear hK11 K11
  refine A_reg ?_
  obtain ⟨ck27, hM⟩ := ck_some hM
  refine r_X (vI (x2_ + 1)) rfl (wi64 rfl ck27.1 ck27.2) rfl <| r_V (vI (x2_ + 1)) rfl <| lx_nil <| fg _ (Sub.pick [(kBa40_5 b14 (((m_0)[(x2_).toNat]!).1) (hi (((m_0)[(x2_).toNat]!).2.1)) (lo (((m_0)[(x2_).toNat]!).2.1)) (((m_0)[(x2_).toNat]!).2.2)), Sl1_] [1] rfl) ?_
  exact ⟨n7 + 1, by omega, n7, l1_, (x2_ + 1), hM, vl1_, Sl1_, hl1_, is_mk rfl rfl, rfl⟩
 replace hM := ifn (of_decide_eq_false hc10) hM
 refine A_exit <| hK5 _ _ ?_; try clear hK5 K5
 refine A_sr <| r_V vl1_ rfl ?_
 obtain ⟨r29, hr30, hM⟩ := bind_sm hM
 obtain ⟨ck31, hM⟩ := ck_some hM
 refine cA 28 <| r_gm (Ls := [Sl1_]) (FL := [Sl1_]) [0] _ (some 28) 25 _ rfl rfl rfl rfl rfl (ev_callF rfl call_25 rfl) (fun own_ nw_ hn_ hs_ => slices_SortFunc___exact_Item_exact_Item__v1_g N l1_ _ hr30 _ vl1_ Sl1_ hl1_) (fun _ _ _ _ _ => Iff.rfl) (fun h_ => nomatch h_) ?_
 rintro _ _ ⟨S32, _, H33, ⟨rfl, rfl⟩, rfl⟩
 refine lx_perm (Ls := [S32]) (Ls' := [S32]) [0] rfl rfl <| lx_nil <| A_sr <| r_R [vl1_, vl1_] rfl <| lx_nil ?_
 obtain rfl := Option.some.inj hM
 refine A_ret (fun hn => ends1 (v0 := vl1_) H33 (sub_one (Sub.pick [S32] [0] rfl)) rfl (res1 rfl))
end Go.Proofs.Ytnpbpllibmcokaa
