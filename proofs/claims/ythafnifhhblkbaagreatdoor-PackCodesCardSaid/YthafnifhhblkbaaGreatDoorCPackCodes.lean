/- What is proved: the card of PackCodes: for every input the law returns true. Conditions: none but the card's own (package variables are laid as the program's text says). -/
import Derived.Test.YthafnifhhblkbaaGreatDoorCjPackCodes
import Derived.Test.YthafnifhhblkbaaGreatDoorCkPackCodes
import Derived.Test.YthafnifhhblkbaaGreatDoorQb
import Derived.Test.YthafnifhhblkbaaGreatDoorLw
import Derived.Test.YthafnifhhblkbaaGreatDoorTie
import Derived.Test.YthafnifhhblkbaaGreatDoorCards
import Derived.LaidMore
import Derived.OpenShut
import Derived.Stop.Joined
import Derived.SevenTiedAt
import Derived.ChangeMaps5
namespace Go.Proofs.YthafnifhhblkbaaGreatDoor
open Go Go.RowKit Go.Eng Go.ChangeShapes Go.WideShapes Go.ChangeAt Go.Joins Go.Deep Go.WideMaps Go.WideElems
theorem own : ownKnob Tryz.prog.godebug = none := by kernel_rfl
theorem jb : laidOutB Tryz.prog = true := by kernel_rfl
def ON : List (String × DataW Unit) := [("shunter/image.metaWidths", Rows.laid_shunter_image_metaWidths)]
theorem cx (os : Os) (args : Array Value) : laidMetH Tryz.prog ON ((World.doorLaid Tryz.prog 6000 os).forCall (fun _ _ => 0) ⟨#[], args, []⟩).memory :=
 laidMetH_of_parts3 (fuel := 8) (laidMet_of_run' 8 (by kernel_rfl) (by kernel_rfl)) (by kernel_rfl) (by kernel_rfl)
theorem lZ : Tryz.prog.cellsOf 38 = 1 := by kernel_rfl
theorem jl : Tryz.prog.cellsOf 5 = 1 := by kernel_rfl
set_option maxRecDepth 100000 in
theorem lJ {H : Type} {enc : TypeId × Value → H} {W : World} {fuel : Nat} {cs : List Value} {y : DataW H × List MemPlace} (h : DataW.trod enc Tryz.prog W 0 (fun _ => true) true fuel 5 cs = some y) (_ : Sd Tryz.prog 5 y.1) : ∃ x : UInt8, True ∧ cs = encY.f x := by
 obtain ⟨n, rfl, _, hw⟩ := DataW.trod_int (k := .u8) rfl h
 obtain ⟨x, rfl⟩ := bi hw; exact ⟨x, trivial, rfl⟩
theorem jE : Tryz.prog.bytesOf 5 = 1 := by kernel_rfl
set_option maxRecDepth 100000 in
theorem kO {H : Type} {enc : TypeId × Value → H} {W : World} {fuel : Nat} {cs : List Value} {y : DataW H × List MemPlace} (h : DataW.trod enc Tryz.prog W 0 (fun _ => true) true fuel 38 cs = some y) (hz : Sd Tryz.prog 38 y.1) : ∃ (s : Value) (x : List (UInt8)), cs = [s] ∧ ((x).length * 1 ≤ reachBytes ∧ ∀ z0_ ∈ (x), True) ∧ Rd encY (fun a => W.cell? a) s x :=
 Qe encY (fun _ => True) rfl jl jE (fun _ _ _ hy hz => lJ hy hz) h hz
theorem lY : Tryz.prog.cellsOf 49 = 1 := by kernel_rfl
abbrev Z56 (x : (Int × Int × Int × Int × BitVec 128)) : Prop := (-9223372036854775808 ≤ (x.1 : Int) ∧ (x.1 : Int) ≤ 9223372036854775807) ∧ (-9223372036854775808 ≤ (x.2.1 : Int) ∧ (x.2.1 : Int) ≤ 9223372036854775807) ∧ (-9223372036854775808 ≤ (x.2.2.1 : Int) ∧ (x.2.2.1 : Int) ≤ 9223372036854775807) ∧ (-9223372036854775808 ≤ (x.2.2.2.1 : Int) ∧ (x.2.2.2.1 : Int) ≤ 9223372036854775807)
theorem Xy : Tryz.prog.cellsOf 56 = 6 := by kernel_rfl
theorem cI : Tryz.prog.cellsOf 51 = 1 := by kernel_rfl
set_option maxRecDepth 100000 in
theorem kM {H : Type} {enc : TypeId × Value → H} {W : World} {fuel : Nat} {cs : List Value} {y : DataW H × List MemPlace} (h : DataW.trod enc Tryz.prog W 0 (fun _ => true) true fuel 51 cs = some y) (_ : Sd Tryz.prog 51 y.1) : ∃ x : Int, (-9223372036854775808 ≤ (x : Int) ∧ (x : Int) ≤ 9223372036854775807) ∧ cs = [.int .i64 x] := by
 obtain ⟨n, rfl, _, hw⟩ := DataW.trod_int (k := .i64) rfl h; exact ⟨n, UA hw, rfl⟩
theorem VU : Tryz.prog.cellsOf 3 = 1 := by kernel_rfl
set_option maxRecDepth 100000 in
theorem bJ {H : Type} {enc : TypeId × Value → H} {W : World} {fuel : Nat} {cs : List Value} {y : DataW H × List MemPlace} (h : DataW.trod enc Tryz.prog W 0 (fun _ => true) true fuel 3 cs = some y) (_ : Sd Tryz.prog 3 y.1) : ∃ x : Int, (-9223372036854775808 ≤ (x : Int) ∧ (x : Int) ≤ 9223372036854775807) ∧ cs = [.int .i64 x] := by
 obtain ⟨n, rfl, _, hw⟩ := DataW.trod_int (k := .i64) rfl h; exact ⟨n, UA hw, rfl⟩
theorem Xz : Tryz.prog.cellsOf 54 = 3 := by kernel_rfl
abbrev Z54 (x : (Int × BitVec 128)) : Prop := (-9223372036854775808 ≤ (x.1 : Int) ∧ (x.1 : Int) ≤ 9223372036854775807)
theorem XA : Tryz.prog.cellsOf 52 = 1 := by kernel_rfl
set_option maxRecDepth 100000 in
theorem bI {H : Type} {enc : TypeId × Value → H} {W : World} {fuel : Nat} {cs : List Value} {y : DataW H × List MemPlace} (h : DataW.trod enc Tryz.prog W 0 (fun _ => true) true fuel 52 cs = some y) (_ : Sd Tryz.prog 52 y.1) : ∃ x : BitVec 64, True ∧ cs = [U x] := by
 obtain ⟨n, rfl, _, hw⟩ := DataW.trod_int (k := .u64) rfl h
 obtain ⟨x, rfl⟩ := ac hw; exact ⟨x, trivial, rfl⟩
set_option maxRecDepth 100000 in
theorem kL {H : Type} {enc : TypeId × Value → H} {W : World} {fuel : Nat} {cs : List Value} {y : DataW H × List MemPlace} (h : DataW.trod enc Tryz.prog W 0 (fun _ => true) true fuel 54 cs = some y) (hz : Sd Tryz.prog 54 y.1) : ∃ x : (Int × BitVec 128), (Z54 x) ∧ cs = enc_54.f x := by
 obtain ⟨xs, n, _, hxx, hl, hlen, hf⟩ := DataW.trod_struct rfl h
 have hz2 := hz
 rw [hxx] at hz2
 have hl2 : cs.length = 3 := hl.trans Xz
 obtain ⟨c0, c1, c2, rfl⟩ : ∃ c0 c1 c2, cs = [c0, c1, c2] := by
  match cs, hl2 with
  | [c0, c1, c2], _ => exact ⟨c0, c1, c2, rfl⟩
 obtain ⟨x0, z0, e0⟩ := fz rfl hz2 hlen hf 0 [c0] rfl VU rfl (fun h z => bJ h z)
 obtain rfl := (List.cons.inj e0).1
 obtain ⟨x1, z1, e1⟩ := fz rfl hz2 hlen hf 1 [c1] rfl XA rfl (fun h z => bI h z)
 obtain rfl := (List.cons.inj e1).1
 obtain ⟨x2, z2, e2⟩ := fz rfl hz2 hlen hf 2 [c2] rfl XA rfl (fun h z => bI h z)
 obtain rfl := (List.cons.inj e2).1
 exact ⟨(x0, x1 ++ x2), z0, by simp only [enc_54, ci, bW]⟩
set_option maxRecDepth 100000 in
theorem kK {H : Type} {enc : TypeId × Value → H} {W : World} {fuel : Nat} {cs : List Value} {y : DataW H × List MemPlace} (h : DataW.trod enc Tryz.prog W 0 (fun _ => true) true fuel 56 cs = some y) (hz : Sd Tryz.prog 56 y.1) : ∃ x : (Int × Int × Int × Int × BitVec 128), (Z56 x) ∧ cs = enc_56.f x := by
 obtain ⟨xs, n, _, hxx, hl, hlen, hf⟩ := DataW.trod_struct rfl h
 have hz2 := hz
 rw [hxx] at hz2
 have hl2 : cs.length = 6 := hl.trans Xy
 obtain ⟨c0, c1, c2, c3, c4, c5, rfl⟩ : ∃ c0 c1 c2 c3 c4 c5, cs = [c0, c1, c2, c3, c4, c5] := by
  match cs, hl2 with
  | [c0, c1, c2, c3, c4, c5], _ => exact ⟨c0, c1, c2, c3, c4, c5, rfl⟩
 obtain ⟨x0, z0, e0⟩ := fz rfl hz2 hlen hf 0 [c0] rfl cI rfl (fun h z => kM h z)
 obtain rfl := (List.cons.inj e0).1
 obtain ⟨x1, z1, e1⟩ := fz rfl hz2 hlen hf 1 [c1] rfl VU rfl (fun h z => bJ h z)
 obtain rfl := (List.cons.inj e1).1
 obtain ⟨x2, z2, e2⟩ := fz rfl hz2 hlen hf 2 [c2] rfl VU rfl (fun h z => bJ h z)
 obtain rfl := (List.cons.inj e2).1
 obtain ⟨x3, z3, e3⟩ := fz rfl hz2 hlen hf 3 [c3, c4, c5] rfl Xz rfl (fun h z => kL h z)
 simp only [enc_54, List.cons.injEq, and_true] at e3
 obtain ⟨rfl, rfl, rfl⟩ := e3
 exact ⟨(x0, x1, x2, x3.1, x3.2), ⟨z0, z1, z2, z3⟩, by rfl⟩
theorem hJ : Tryz.prog.bytesOf 56 = 48 := by kernel_rfl
set_option maxRecDepth 100000 in
theorem kN {H : Type} {enc : TypeId × Value → H} {W : World} {fuel : Nat} {cs : List Value} {y : DataW H × List MemPlace} (h : DataW.trod enc Tryz.prog W 0 (fun _ => true) true fuel 49 cs = some y) (hz : Sd Tryz.prog 49 y.1) : ∃ (s : Value) (x : List ((Int × Int × Int × Int × BitVec 128))), cs = [s] ∧ ((x).length * 48 ≤ reachBytes ∧ ∀ z0_ ∈ (x), (Z56 z0_)) ∧ Rd enc_56 (fun a => W.cell? a) s x :=
 Qe enc_56 (fun x => (Z56 x)) rfl Xy hJ (fun _ _ _ hy hz => kK hy hz) h hz
set_option maxRecDepth 100000 in
theorem packCodes_lifted (os : Os) (started : os.Started) (H : Type) (enc : TypeId × Value → H) :
  ReturnsInHanded {} Tryz.checked os 5 .any (fun w args => (Rows.packCodesSpec.pre enc Tryz.prog Tryz.f5 [] false w args ∧ laidMetH Tryz.prog ON w) ∧ sizedMet enc Tryz.prog Tryz.f5 (OpenSpec.ofChange Rows.packCodesSpec) false w args)
   (Rows.packCodesSpec.post enc Tryz.prog Tryz.f5 false true false false) := by
 refine Mu (C := Tryz.checked) (X := fun w _ => laidMetH Tryz.prog ON w) (fun _ _ _ hh h => h.of_heap hh) own started (by kernel_rfl) Tryz.func5
  (ChangeSpec.witness_shaped (enc := enc) (C := Tryz.checked) (os := os) (X := fun w _ => laidMetH Tryz.prog ON w) false (World.doorLaid Tryz.prog 6000 os) #[.slice none 0 0, .slice none 0 0] 8 rfl (World.shaped_of_RefB (by kernel_rfl) (by kernel_rfl)) (by kernel_rfl) (by kernel_rfl) (by kernel_rfl) (cx os _)) ?_
 intro W base args ds gs before hval0 hW hsh hL hsz0
 have hsz : (DataW.weightsEach Tryz.prog (Tryz.f5.params.toList ++ Rows.packCodesSpec.plain.varTypes Tryz.prog) (ds ++ gs)).all (· ≤ reachBytes) = true := hsz0
 have hval : ∀ (j : Nat) t v, Tryz.f5.params[j]? = some t → args[j]? = some v → Value.okWide Tryz.prog W .any base t v := hval0
 have hW' := hW
 obtain ⟨p, q, hA0, hV, rfl, _, _⟩ := hW
 have hA : DataW.TrodAll enc Tryz.prog W 0 (fun _ => true) true Tryz.f5.params.toList args.toList ds p := hA0
 rw [Tryz.params5] at hA hval hsz
 obtain ⟨v0, v1, d0, d1, p0, p1, rfl, rfl, rfl, h0, h1⟩ := trodAll_two hA
 obtain ⟨rfl, rfl⟩ := trodVars_none hV
 obtain ⟨x0, z0, r0⟩ : ∃ xs : List (UInt8), ((xs).length * 1 ≤ reachBytes ∧ ∀ z0_ ∈ (xs), True) ∧ Rd encY (fun a => W.cell? a) v0 xs := ST (Q := fun v => ∃ xs : List (UInt8), ((xs).length * 1 ≤ reachBytes ∧ ∀ z0_ ∈ (xs), True) ∧ Rd encY (fun a => W.cell? a) v xs) (P := Tryz.prog) (t := 38) rfl (hval 0 38 v0 rfl rfl) h0 (br hsz (j := 0) (t := 38) rfl rfl) (fun _ _ _ hh hz => by obtain ⟨s, xs, h1, h2, h3⟩ := kO hh hz; exact ⟨s, h1, xs, h2, h3⟩)
 obtain ⟨x1, z1, r1⟩ : ∃ xs : List ((Int × Int × Int × Int × BitVec 128)), ((xs).length * 48 ≤ reachBytes ∧ ∀ z0_ ∈ (xs), (Z56 z0_)) ∧ Rd enc_56 (fun a => W.cell? a) v1 xs := ST (Q := fun v => ∃ xs : List ((Int × Int × Int × Int × BitVec 128)), ((xs).length * 48 ≤ reachBytes ∧ ∀ z0_ ∈ (xs), (Z56 z0_)) ∧ Rd enc_56 (fun a => W.cell? a) v xs) (P := Tryz.prog) (t := 49) rfl (hval 1 49 v1 rfl rfl) h1 (br hsz (j := 1) (t := 49) rfl rfl) (fun _ _ _ hh hz => by obtain ⟨s, xs, h1, h2, h3⟩ := kN hh hz; exact ⟨s, h1, xs, h2, h3⟩)
 refine (YR (Lk 1000 x0 x1 true (RA x0 x1) (fun a => W.cell? a) v0 r0 v1 r1) (iS hL hsh)).mono fun e W' ⟨he, hb⟩ => ?_
 subst he
 exact ⟨_, rfl, bZ (f := Tryz.f5) jb (by kernel_rfl) rfl (by rfl) rfl hW' rfl hb⟩
theorem packCodes_holds : Rows.PackCodesSaid :=
 OpenClaim.holds_of_wide 5 Tryz.f5 rfl rfl rfl rfl rfl rfl rfl ⟨rfl, rfl, rfl, rfl, rfl⟩ rfl rfl rfl rfl rfl (by kernel_rfl) Tryz.func5 packCodes_closed
  (of_decide_eq_true (by kernel_rfl)) (by unfold Func.isWrapper; first | (rw [if_pos (by decide +kernel)]; kernel_rfl) | (rw [if_neg (by decide +kernel)]; exact ⟨rfl, rfl⟩))
  (fun os started H enc _ => packCodes_lifted os started H enc)
theorem packCodes_card : Rows.PackCodesCardSaid :=
 Claim7.holds_tied_plain_at .later [] [.data] true (true, "9a921b7b4982871ea6bd98c2060b861e582ae14e49560f798d30c3100ffa4ce3") true
  packCodes_holds (fun _ h => by cases h) pcC1 (fun _ h => by cases h) packCodes_row_tie rfl ⟨rfl, rfl⟩ pcC2 rfl
  (fun f fn hf hfn => by
   obtain rfl : f = 5 := Option.some.inj (pcC4.symm.trans hf) |>.symm
   obtain rfl : fn = Tryz.f5 := (Option.some.inj (Tryz.func5.symm.trans hfn)).symm
   exact ⟨pcC3, fun j t ht => by
    rw [Tryz.params5] at ht
    have hm : t ∈ [38, 49] := by simpa using Array.mem_of_getElem? ht
    have hall : ([38, 49].all fun u => !Tryz.prog.wantsStandIn u) = true := pcC5
    exact (show Tryz.prog.wantsStandIn t = false by simpa using List.all_eq_true.1 hall t hm)⟩)
  pcC6
end Go.Proofs.YthafnifhhblkbaaGreatDoor
