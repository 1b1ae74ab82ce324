/- What is proved: the card of LexTexts: for every input the law returns true. Conditions: none but the card's own (package variables are laid as the program's text says). -/
import Derived.Test.YtmdjifehblijkaaDoorPj
import Derived.Test.YtmdjifehblijkaaDoorLt
import Derived.Test.YtmdjifehblijkaaDoorTie
import Derived.Test.YtmdjifehblijkaaDoorCards
import Derived.LaidMore
import Derived.OpenShut
import Derived.Stop.Joined
import Derived.SevenTiedAt
import Derived.ChangeMaps5
namespace Go.Proofs.YtmdjifehblijkaaDoor
open Go Go.RowKit Go.Eng Go.ChangeShapes Go.WideShapes Go.ChangeAt Go.Joins Go.Deep Go.WideMaps Go.WideElems
theorem own : ownKnob Tryd.prog.godebug = none := by kernel_rfl
theorem laidOut : laidOutB Tryd.prog = true := by kernel_rfl
/-- What the listed variables hold. -/
def laidHere : List (String × DataW Unit) := [("math/bits.deBruijn32tab", Rows.laid_math_bits_deBruijn32tab), ("math/bits.deBruijn64tab", Rows.laid_math_bits_deBruijn64tab), ("internal/strconv.uint64pow10", Rows.laid_internal_strconv_uint64pow10)]
theorem door_met (os : Os) (args : Array Value) : laidMetH Tryd.prog laidHere ((World.doorLaid Tryd.prog 6000 os).forCall (fun _ _ => 0) ⟨#[], args, []⟩).memory :=
  laidMetH_of_parts3 (fuel := 8) (laidMet_of_run' 8 (by kernel_rfl) (by kernel_rfl)) (by kernel_rfl) (by kernel_rfl)
theorem cells_44 : Tryd.prog.cellsOf 44 = 7 := by kernel_rfl
theorem cells_3 : Tryd.prog.cellsOf 3 = 1 := by kernel_rfl
set_option maxRecDepth 100000 in
theorem op_3 {H : Type} {enc : TypeId × Value → H} {W : World} {fuel : Nat} {cs : List Value} {y : DataW H × List MemPlace} (h : DataW.trod enc Tryd.prog W 0 (fun _ => true) true fuel 3 cs = some y) : ∃ x : Int, cs = [.int .i64 x] := by
  obtain ⟨n, rfl, _, _⟩ := DataW.trod_int (k := .i64) rfl h; exact ⟨n, rfl⟩
theorem cells_9 : Tryd.prog.cellsOf 9 = 1 := by kernel_rfl
set_option maxRecDepth 100000 in
theorem op_9 {H : Type} {enc : TypeId × Value → H} {W : World} {fuel : Nat} {cs : List Value} {y : DataW H × List MemPlace} (h : DataW.trod enc Tryd.prog W 0 (fun _ => true) true fuel 9 cs = some y) : ∃ x : List UInt8, cs = encS.f x := by
  obtain ⟨s, rfl, _, _⟩ := DataW.trod_string rfl h; exact ⟨s.data.toList, rfl⟩
theorem cells_42 : Tryd.prog.cellsOf 42 = 3 := by kernel_rfl
theorem cells_40 : Tryd.prog.cellsOf 40 = 1 := by kernel_rfl
set_option maxRecDepth 100000 in
theorem op_40 {H : Type} {enc : TypeId × Value → H} {W : World} {fuel : Nat} {cs : List Value} {y : DataW H × List MemPlace} (h : DataW.trod enc Tryd.prog W 0 (fun _ => true) true fuel 40 cs = some y) : ∃ x : BitVec 64, cs = [U x] := by
  obtain ⟨n, rfl, _, hw⟩ := DataW.trod_int (k := .u64) rfl h
  obtain ⟨x, rfl⟩ := u64_of_wf hw; exact ⟨x, rfl⟩
def enc_42 : Enc (Int × BitVec 128) := ⟨fun x => [Value.int .i64 (x.1), U (hi (x.2)), U (lo (x.2))], 3, by decide, fun _ => rfl, fun x v h => by simp only [List.mem_cons, List.not_mem_nil, or_false] at h; rcases h with rfl | rfl | rfl <;> rfl, True⟩
set_option maxRecDepth 100000 in
theorem op_42 {H : Type} {enc : TypeId × Value → H} {W : World} {fuel : Nat} {cs : List Value} {y : DataW H × List MemPlace} (h : DataW.trod enc Tryd.prog W 0 (fun _ => true) true fuel 42 cs = some y) : ∃ x : (Int × BitVec 128), cs = enc_42.f x := by
  obtain ⟨xs, n, _, _, hl, hlen, hf⟩ := DataW.trod_struct rfl h
  have hl2 : cs.length = 3 := hl.trans cells_42
  obtain ⟨c0, c1, c2, rfl⟩ : ∃ c0 c1 c2, cs = [c0, c1, c2] := by
    match cs, hl2 with
    | [c0, c1, c2], _ => exact ⟨c0, c1, c2, rfl⟩
  obtain ⟨y0, hy0⟩ : ∃ y, xs[0]? = some y := ⟨_, List.getElem?_eq_getElem (by rw [hlen]; decide)⟩
  have g0 : DataW.trod enc Tryd.prog W 0 (fun _ => true) true n 3 ((([c0, c1, c2] : List Value).drop 0).take (Tryd.prog.cellsOf 3)) = some y0 := (hf 0 _ rfl).trans hy0
  rw [cells_3] at g0
  have k0 : DataW.trod enc Tryd.prog W 0 (fun _ => true) true n 3 [c0] = some y0 := g0
  obtain ⟨y1, hy1⟩ : ∃ y, xs[1]? = some y := ⟨_, List.getElem?_eq_getElem (by rw [hlen]; decide)⟩
  have g1 : DataW.trod enc Tryd.prog W 0 (fun _ => true) true n 40 ((([c0, c1, c2] : List Value).drop 1).take (Tryd.prog.cellsOf 40)) = some y1 := (hf 1 _ rfl).trans hy1
  rw [cells_40] at g1
  have k1 : DataW.trod enc Tryd.prog W 0 (fun _ => true) true n 40 [c1] = some y1 := g1
  obtain ⟨y2, hy2⟩ : ∃ y, xs[2]? = some y := ⟨_, List.getElem?_eq_getElem (by rw [hlen]; decide)⟩
  have g2 : DataW.trod enc Tryd.prog W 0 (fun _ => true) true n 40 ((([c0, c1, c2] : List Value).drop 2).take (Tryd.prog.cellsOf 40)) = some y2 := (hf 2 _ rfl).trans hy2
  rw [cells_40] at g2
  have k2 : DataW.trod enc Tryd.prog W 0 (fun _ => true) true n 40 [c2] = some y2 := g2
  obtain ⟨x0, e0⟩ := op_3 k0
  obtain rfl := (List.cons.inj e0).1
  obtain ⟨x1, e1⟩ := op_40 k1
  obtain rfl := (List.cons.inj e1).1
  obtain ⟨x2, e2⟩ := op_40 k2
  obtain rfl := (List.cons.inj e2).1
  exact ⟨(x0, x1 ++ x2), by simp only [enc_42, hi_app, lo_app]⟩
set_option maxRecDepth 100000 in
theorem op_44 {H : Type} {enc : TypeId × Value → H} {W : World} {fuel : Nat} {cs : List Value} {y : DataW H × List MemPlace} (h : DataW.trod enc Tryd.prog W 0 (fun _ => true) true fuel 44 cs = some y) : ∃ x : (Int × List UInt8 × Int × Int × BitVec 128 × Int), cs = enc_44.f x := by
  obtain ⟨xs, n, _, _, hl, hlen, hf⟩ := DataW.trod_struct rfl h
  have hl2 : cs.length = 7 := hl.trans cells_44
  obtain ⟨c0, c1, c2, c3, c4, c5, c6, rfl⟩ : ∃ c0 c1 c2 c3 c4 c5 c6, cs = [c0, c1, c2, c3, c4, c5, c6] := by
    match cs, hl2 with
    | [c0, c1, c2, c3, c4, c5, c6], _ => exact ⟨c0, c1, c2, c3, c4, c5, c6, rfl⟩
  obtain ⟨y0, hy0⟩ : ∃ y, xs[0]? = some y := ⟨_, List.getElem?_eq_getElem (by rw [hlen]; decide)⟩
  have g0 : DataW.trod enc Tryd.prog W 0 (fun _ => true) true n 3 ((([c0, c1, c2, c3, c4, c5, c6] : List Value).drop 0).take (Tryd.prog.cellsOf 3)) = some y0 := (hf 0 _ rfl).trans hy0
  rw [cells_3] at g0
  have k0 : DataW.trod enc Tryd.prog W 0 (fun _ => true) true n 3 [c0] = some y0 := g0
  obtain ⟨y1, hy1⟩ : ∃ y, xs[1]? = some y := ⟨_, List.getElem?_eq_getElem (by rw [hlen]; decide)⟩
  have g1 : DataW.trod enc Tryd.prog W 0 (fun _ => true) true n 9 ((([c0, c1, c2, c3, c4, c5, c6] : List Value).drop 1).take (Tryd.prog.cellsOf 9)) = some y1 := (hf 1 _ rfl).trans hy1
  rw [cells_9] at g1
  have k1 : DataW.trod enc Tryd.prog W 0 (fun _ => true) true n 9 [c1] = some y1 := g1
  obtain ⟨y2, hy2⟩ : ∃ y, xs[2]? = some y := ⟨_, List.getElem?_eq_getElem (by rw [hlen]; decide)⟩
  have g2 : DataW.trod enc Tryd.prog W 0 (fun _ => true) true n 3 ((([c0, c1, c2, c3, c4, c5, c6] : List Value).drop 2).take (Tryd.prog.cellsOf 3)) = some y2 := (hf 2 _ rfl).trans hy2
  rw [cells_3] at g2
  have k2 : DataW.trod enc Tryd.prog W 0 (fun _ => true) true n 3 [c2] = some y2 := g2
  obtain ⟨y3, hy3⟩ : ∃ y, xs[3]? = some y := ⟨_, List.getElem?_eq_getElem (by rw [hlen]; decide)⟩
  have g3 : DataW.trod enc Tryd.prog W 0 (fun _ => true) true n 42 ((([c0, c1, c2, c3, c4, c5, c6] : List Value).drop 3).take (Tryd.prog.cellsOf 42)) = some y3 := (hf 3 _ rfl).trans hy3
  rw [cells_42] at g3
  have k3 : DataW.trod enc Tryd.prog W 0 (fun _ => true) true n 42 [c3, c4, c5] = some y3 := g3
  obtain ⟨y4, hy4⟩ : ∃ y, xs[4]? = some y := ⟨_, List.getElem?_eq_getElem (by rw [hlen]; decide)⟩
  have g4 : DataW.trod enc Tryd.prog W 0 (fun _ => true) true n 3 ((([c0, c1, c2, c3, c4, c5, c6] : List Value).drop 6).take (Tryd.prog.cellsOf 3)) = some y4 := (hf 4 _ rfl).trans hy4
  rw [cells_3] at g4
  have k4 : DataW.trod enc Tryd.prog W 0 (fun _ => true) true n 3 [c6] = some y4 := g4
  obtain ⟨x0, e0⟩ := op_3 k0
  obtain rfl := (List.cons.inj e0).1
  obtain ⟨x1, e1⟩ := op_9 k1
  obtain rfl := (List.cons.inj (show [c1] = [Value.string (⟨x1.toArray⟩)] from e1)).1
  obtain ⟨x2, e2⟩ := op_3 k2
  obtain rfl := (List.cons.inj e2).1
  obtain ⟨x3, e3⟩ := op_42 k3
  simp only [enc_42, List.cons.injEq, and_true] at e3
  obtain ⟨rfl, rfl, rfl⟩ := e3
  obtain ⟨x4, e4⟩ := op_3 k4
  obtain rfl := (List.cons.inj e4).1
  exact ⟨(x0, x1, x2, x3.1, x3.2, x4), by rfl⟩
set_option maxRecDepth 100000 in
theorem rng_44 {H : Type} {enc : TypeId × Value → H} {W : World} {fuel : Nat} {x : (Int × List UInt8 × Int × Int × BitVec 128 × Int)} {y : DataW H × List MemPlace} (h : DataW.trod enc Tryd.prog W 0 (fun _ => true) true fuel 44 (enc_44.f x) = some y) : I64 x.2.2.1 := by
  obtain ⟨xs, n, _, _, hl, hlen, hf⟩ := DataW.trod_struct rfl h
  obtain ⟨y2, hy2⟩ : ∃ y, xs[2]? = some y := ⟨_, List.getElem?_eq_getElem (by rw [hlen]; decide)⟩
  have g2 : DataW.trod enc Tryd.prog W 0 (fun _ => true) true n 3 (((enc_44.f x).drop 2).take (Tryd.prog.cellsOf 3)) = some y2 := (hf 2 _ rfl).trans hy2
  rw [cells_3] at g2
  have k2 : DataW.trod enc Tryd.prog W 0 (fun _ => true) true n 3 [Value.int .i64 x.2.2.1] = some y2 := g2
  obtain ⟨m, he, _, hw⟩ := DataW.trod_int (k := .i64) rfl k2
  have hm : x.2.2.1 = m := by injection he with h1 _; injection h1
  rw [hm]; exact i64_of_wf hw
set_option maxRecDepth 100000 in
theorem opP_39 {H : Type} {enc : TypeId × Value → H} {W : World} {fuel : Nat} {cs : List Value} {y : DataW H × List MemPlace} (h : DataW.trod enc Tryd.prog W 0 (fun _ => true) true fuel 39 cs = some y) : ∃ (s : Value) (xs : List ((Int × List UInt8 × Int × Int × BitVec 128 × Int))), cs = [s] ∧ (∀ x ∈ xs, I64 x.2.2.1) ∧ Rd enc_44 (fun a => W.cell? a) s xs :=
  rd_of_trodP enc_44 (fun x => I64 x.2.2.1) rfl cells_44 (fun _ _ _ hy => by obtain ⟨x, hx⟩ := op_44 hy; subst hx; exact ⟨x, rng_44 hy, rfl⟩) h
set_option maxRecDepth 100000 in
theorem lexTexts_lifted (os : Os) (started : os.Started) (H : Type) (enc : TypeId × Value → H) :
    ReturnsInHanded {} Tryd.checked os 4 .any (fun w args => (Rows.lexTextsSpec.pre enc Tryd.prog Tryd.f4 [] false w args ∧ laidMetH Tryd.prog laidHere w) ∧ sizedMet enc Tryd.prog Tryd.f4 (OpenSpec.ofChange Rows.lexTextsSpec) false w args)
      (Rows.lexTextsSpec.post enc Tryd.prog Tryd.f4 false true false false) := by
  refine returnsIn_and_shaped (C := Tryd.checked) (X := fun w _ => laidMetH Tryd.prog laidHere w) (fun _ _ _ hh h => h.of_heap hh) own started (by kernel_rfl) Tryd.func4
    (ChangeSpec.witness_shaped (enc := enc) (C := Tryd.checked) (os := os) (X := fun w _ => laidMetH Tryd.prog laidHere w) false (World.doorLaid Tryd.prog 6000 os) #[.slice none 0 0] 8 rfl (World.shaped_of_RefB (by kernel_rfl) (by kernel_rfl)) (by kernel_rfl) (by kernel_rfl) (by kernel_rfl) (door_met os _)) ?_
  intro W base args ds gs before hval0 hW hsh hL
  have hval : ∀ (j : Nat) t v, Tryd.f4.params[j]? = some t → args[j]? = some v → Value.okWide Tryd.prog W .any base t v := hval0
  have hW' := hW
  obtain ⟨p, q, hA0, hV, rfl, _, _⟩ := hW
  have hA : DataW.TrodAll enc Tryd.prog W 0 (fun _ => true) true Tryd.f4.params.toList args.toList ds p := hA0
  rw [Tryd.params4] at hA hval
  obtain ⟨v0, d0, rfl, rfl, h0⟩ := trodAll_one hA
  obtain ⟨rfl, rfl⟩ := trodVars_none hV
  obtain ⟨x0, hI, r0⟩ : ∃ xs : List ((Int × List UInt8 × Int × Int × BitVec 128 × Int)), (∀ x ∈ xs, I64 x.2.2.1) ∧ Rd enc_44 (fun a => W.cell? a) v0 xs := arg_slice (Q := fun v => ∃ xs : List ((Int × List UInt8 × Int × Int × BitVec 128 × Int)), (∀ x ∈ xs, I64 x.2.2.1) ∧ Rd enc_44 (fun a => W.cell? a) v xs) (P := Tryd.prog) (t := 39) rfl (hval 0 39 v0 rfl rfl) h0 (fun _ _ _ hh => by obtain ⟨s, xs, h1, h2, h3⟩ := opP_39 hh; exact ⟨s, h1, xs, h2, h3⟩)
  refine (doesI_runR (shunterlaw06_LexTexts_g 40000 x0 true (texts_s 40000 (by decide) x0 hI) (fun a => W.cell? a) v0 r0) (memI_of hL hsh)).mono fun e W' ⟨he, hb⟩ => ?_
  subst he
  exact ⟨_, rfl, law_post (f := Tryd.f4) laidOut (by kernel_rfl) rfl (by rfl) rfl hW' rfl hb⟩
theorem lexTexts_holds : Rows.LexTextsSaid :=
  OpenClaim.holds_of_wide 4 Tryd.f4 rfl rfl rfl rfl rfl rfl rfl ⟨rfl, rfl, rfl, rfl, rfl⟩ rfl rfl rfl rfl rfl (by kernel_rfl) Tryd.func4 (by kernel_rfl)
    (of_decide_eq_true (by kernel_rfl)) (by unfold Func.isWrapper; first | (rw [if_pos (by decide +kernel)]; kernel_rfl) | (rw [if_neg (by decide +kernel)]; exact ⟨rfl, rfl⟩))
    (fun os started H enc _ => lexTexts_lifted os started H enc)
theorem lexTexts_card : Rows.LexTextsCardSaid :=
  Claim7.holds_tied_plain_at .later [] [.data, .data, .data] true (true, "0bf53db70a4748044e668f49948756fb958d3867f4ca62b6e309f8b4e5d690f3") true
    lexTexts_holds (fun _ h => by cases h) (by kernel_rfl) (fun _ h => by cases h) lexTexts_row_tie rfl ⟨rfl, rfl⟩ (by kernel_rfl) rfl
    (fun f fn hf hfn => by
      obtain rfl : f = 4 := Option.some.inj ((show Tryd.prog.funcNamed "shunter/shunterlaw06.LexTexts" = some 4 by kernel_rfl).symm.trans hf) |>.symm
      obtain rfl : fn = Tryd.f4 := (Option.some.inj (Tryd.func4.symm.trans hfn)).symm
      exact ⟨by kernel_rfl, fun j t ht => by
        rw [Tryd.params4] at ht
        have hm : t ∈ [39] := by simpa using Array.mem_of_getElem? ht
        have hall : ([39].all fun u => !Tryd.prog.wantsStandIn u) = true := by kernel_rfl
        exact (show Tryd.prog.wantsStandIn t = false by simpa using List.all_eq_true.1 hall t hm)⟩)
    (by kernel_rfl)
end Go.Proofs.YtmdjifehblijkaaDoor
