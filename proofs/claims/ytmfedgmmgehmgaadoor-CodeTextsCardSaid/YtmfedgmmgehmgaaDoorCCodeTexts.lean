/- What is proved: the card of CodeTexts: for every input the law returns true. Conditions: none but the card's own (package variables are laid as the program's text says). -/
import Derived.Test.YtmfedgmmgehmgaaDoorCt
import Derived.Test.YtmfedgmmgehmgaaDoorCp
import Derived.Test.YtmfedgmmgehmgaaDoorLw
import Derived.Test.YtmfedgmmgehmgaaDoorTie
import Derived.Test.YtmfedgmmgehmgaaDoorCards
import Derived.LaidMore
import Derived.OpenShut
import Derived.Stop.Joined
import Derived.SevenTiedAt
import Derived.ChangeMaps5
namespace Go.Proofs.YtmfedgmmgehmgaaDoor
open Go Go.RowKit Go.Eng Go.ChangeShapes Go.WideShapes Go.ChangeAt Go.Joins Go.Deep Go.WideMaps Go.WideElems
theorem own : ownKnob Tryd.prog.godebug = none := by kernel_rfl
theorem laidOut : laidOutB Tryd.prog = true := by kernel_rfl
/-- What the listed variables hold. -/
def laidHere : List (String × DataW Unit) := [("math/bits.deBruijn32tab", Rows.laid_math_bits_deBruijn32tab), ("math/bits.deBruijn64tab", Rows.laid_math_bits_deBruijn64tab), ("internal/strconv.uint64pow10", Rows.laid_internal_strconv_uint64pow10), ("shunter/code.names", Rows.laid_shunter_code_names)]
theorem door_met (os : Os) (args : Array Value) : laidMetH Tryd.prog laidHere ((World.doorLaid Tryd.prog 6000 os).forCall (fun _ _ => 0) ⟨#[], args, []⟩).memory :=
  laidMetH_of_parts3 (fuel := 8) (laidMet_of_run' 8 (by kernel_rfl) (by kernel_rfl)) (by kernel_rfl) (by kernel_rfl)
theorem cells_27 : Tryd.prog.cellsOf 27 = 6 := by kernel_rfl
theorem cells_22 : Tryd.prog.cellsOf 22 = 1 := by kernel_rfl
set_option maxRecDepth 100000 in
theorem opz_22 {H : Type} {enc : TypeId × Value → H} {W : World} {fuel : Nat} {cs : List Value} {y : DataW H × List MemPlace} (h : DataW.trod enc Tryd.prog W 0 (fun _ => true) true fuel 22 cs = some y) (_ : Sd Tryd.prog 22 y.1) : ∃ x : Int, (-9223372036854775808 ≤ (x : Int) ∧ (x : Int) ≤ 9223372036854775807) ∧ cs = [.int .i64 x] := by
  obtain ⟨n, rfl, _, hw⟩ := DataW.trod_int (k := .i64) rfl h; exact ⟨n, i64_of_wf hw, rfl⟩
theorem cells_3 : Tryd.prog.cellsOf 3 = 1 := by kernel_rfl
set_option maxRecDepth 100000 in
theorem opz_3 {H : Type} {enc : TypeId × Value → H} {W : World} {fuel : Nat} {cs : List Value} {y : DataW H × List MemPlace} (h : DataW.trod enc Tryd.prog W 0 (fun _ => true) true fuel 3 cs = some y) (_ : Sd Tryd.prog 3 y.1) : ∃ x : Int, (-9223372036854775808 ≤ (x : Int) ∧ (x : Int) ≤ 9223372036854775807) ∧ cs = [.int .i64 x] := by
  obtain ⟨n, rfl, _, hw⟩ := DataW.trod_int (k := .i64) rfl h; exact ⟨n, i64_of_wf hw, rfl⟩
theorem cells_25 : Tryd.prog.cellsOf 25 = 3 := by kernel_rfl
theorem cells_23 : Tryd.prog.cellsOf 23 = 1 := by kernel_rfl
set_option maxRecDepth 100000 in
theorem opz_23 {H : Type} {enc : TypeId × Value → H} {W : World} {fuel : Nat} {cs : List Value} {y : DataW H × List MemPlace} (h : DataW.trod enc Tryd.prog W 0 (fun _ => true) true fuel 23 cs = some y) (_ : Sd Tryd.prog 23 y.1) : ∃ x : BitVec 64, True ∧ cs = [U x] := by
  obtain ⟨n, rfl, _, hw⟩ := DataW.trod_int (k := .u64) rfl h
  obtain ⟨x, rfl⟩ := u64_of_wf hw; exact ⟨x, trivial, rfl⟩
def enc_25 : Enc (Int × BitVec 128) := ⟨fun x => [Value.int .i64 (x.1), U (hi (x.2)), U (lo (x.2))], 3, by decide, fun _ => rfl, fun x v h => by simp only [List.mem_cons, List.not_mem_nil, or_false] at h; rcases h with rfl | rfl | rfl <;> rfl, True⟩
set_option maxRecDepth 100000 in
theorem opz_25 {H : Type} {enc : TypeId × Value → H} {W : World} {fuel : Nat} {cs : List Value} {y : DataW H × List MemPlace} (h : DataW.trod enc Tryd.prog W 0 (fun _ => true) true fuel 25 cs = some y) (hz : Sd Tryd.prog 25 y.1) : ∃ x : (Int × BitVec 128), ((-9223372036854775808 ≤ (x.1 : Int) ∧ (x.1 : Int) ≤ 9223372036854775807)) ∧ cs = enc_25.f x := by
  obtain ⟨xs, n, _, hxx, hl, hlen, hf⟩ := DataW.trod_struct rfl h
  have hz2 := hz
  rw [hxx] at hz2
  have hl2 : cs.length = 3 := hl.trans cells_25
  obtain ⟨c0, c1, c2, rfl⟩ : ∃ c0 c1 c2, cs = [c0, c1, c2] := by
    match cs, hl2 with
    | [c0, c1, c2], _ => exact ⟨c0, c1, c2, rfl⟩
  obtain ⟨y0, hy0⟩ : ∃ y, xs[0]? = some y := ⟨_, List.getElem?_eq_getElem (by rw [hlen]; decide)⟩
  have w0 := sd_field (d := y0.1) (i := 0) (ft := 3) rfl hz2 rfl (by rw [List.getElem?_map, hy0]; rfl)
  have g0 : DataW.trod enc Tryd.prog W 0 (fun _ => true) true n 3 ((([c0, c1, c2] : List Value).drop 0).take (Tryd.prog.cellsOf 3)) = some y0 := (hf 0 _ rfl).trans hy0
  rw [cells_3] at g0
  have k0 : DataW.trod enc Tryd.prog W 0 (fun _ => true) true n 3 [c0] = some y0 := g0
  obtain ⟨y1, hy1⟩ : ∃ y, xs[1]? = some y := ⟨_, List.getElem?_eq_getElem (by rw [hlen]; decide)⟩
  have w1 := sd_field (d := y1.1) (i := 1) (ft := 23) rfl hz2 rfl (by rw [List.getElem?_map, hy1]; rfl)
  have g1 : DataW.trod enc Tryd.prog W 0 (fun _ => true) true n 23 ((([c0, c1, c2] : List Value).drop 1).take (Tryd.prog.cellsOf 23)) = some y1 := (hf 1 _ rfl).trans hy1
  rw [cells_23] at g1
  have k1 : DataW.trod enc Tryd.prog W 0 (fun _ => true) true n 23 [c1] = some y1 := g1
  obtain ⟨y2, hy2⟩ : ∃ y, xs[2]? = some y := ⟨_, List.getElem?_eq_getElem (by rw [hlen]; decide)⟩
  have w2 := sd_field (d := y2.1) (i := 2) (ft := 23) rfl hz2 rfl (by rw [List.getElem?_map, hy2]; rfl)
  have g2 : DataW.trod enc Tryd.prog W 0 (fun _ => true) true n 23 ((([c0, c1, c2] : List Value).drop 2).take (Tryd.prog.cellsOf 23)) = some y2 := (hf 2 _ rfl).trans hy2
  rw [cells_23] at g2
  have k2 : DataW.trod enc Tryd.prog W 0 (fun _ => true) true n 23 [c2] = some y2 := g2
  obtain ⟨x0, z0, e0⟩ := opz_3 k0 w0
  obtain rfl := (List.cons.inj e0).1
  obtain ⟨x1, z1, e1⟩ := opz_23 k1 w1
  obtain rfl := (List.cons.inj e1).1
  obtain ⟨x2, z2, e2⟩ := opz_23 k2 w2
  obtain rfl := (List.cons.inj e2).1
  exact ⟨(x0, x1 ++ x2), z0, by simp only [enc_25, hi_app, lo_app]⟩
set_option maxRecDepth 100000 in
theorem opz_27 {H : Type} {enc : TypeId × Value → H} {W : World} {fuel : Nat} {cs : List Value} {y : DataW H × List MemPlace} (h : DataW.trod enc Tryd.prog W 0 (fun _ => true) true fuel 27 cs = some y) (hz : Sd Tryd.prog 27 y.1) : ∃ x : (Int × Int × Int × Int × BitVec 128), ((-9223372036854775808 ≤ (x.1 : Int) ∧ (x.1 : Int) ≤ 9223372036854775807) ∧ (-9223372036854775808 ≤ (x.2.1 : Int) ∧ (x.2.1 : Int) ≤ 9223372036854775807) ∧ (-9223372036854775808 ≤ (x.2.2.1 : Int) ∧ (x.2.2.1 : Int) ≤ 9223372036854775807) ∧ (-9223372036854775808 ≤ (x.2.2.2.1 : Int) ∧ (x.2.2.2.1 : Int) ≤ 9223372036854775807)) ∧ cs = enc_27.f x := by
  obtain ⟨xs, n, _, hxx, hl, hlen, hf⟩ := DataW.trod_struct rfl h
  have hz2 := hz
  rw [hxx] at hz2
  have hl2 : cs.length = 6 := hl.trans cells_27
  obtain ⟨c0, c1, c2, c3, c4, c5, rfl⟩ : ∃ c0 c1 c2 c3 c4 c5, cs = [c0, c1, c2, c3, c4, c5] := by
    match cs, hl2 with
    | [c0, c1, c2, c3, c4, c5], _ => exact ⟨c0, c1, c2, c3, c4, c5, rfl⟩
  obtain ⟨y0, hy0⟩ : ∃ y, xs[0]? = some y := ⟨_, List.getElem?_eq_getElem (by rw [hlen]; decide)⟩
  have w0 := sd_field (d := y0.1) (i := 0) (ft := 22) rfl hz2 rfl (by rw [List.getElem?_map, hy0]; rfl)
  have g0 : DataW.trod enc Tryd.prog W 0 (fun _ => true) true n 22 ((([c0, c1, c2, c3, c4, c5] : List Value).drop 0).take (Tryd.prog.cellsOf 22)) = some y0 := (hf 0 _ rfl).trans hy0
  rw [cells_22] at g0
  have k0 : DataW.trod enc Tryd.prog W 0 (fun _ => true) true n 22 [c0] = some y0 := g0
  obtain ⟨y1, hy1⟩ : ∃ y, xs[1]? = some y := ⟨_, List.getElem?_eq_getElem (by rw [hlen]; decide)⟩
  have w1 := sd_field (d := y1.1) (i := 1) (ft := 3) rfl hz2 rfl (by rw [List.getElem?_map, hy1]; rfl)
  have g1 : DataW.trod enc Tryd.prog W 0 (fun _ => true) true n 3 ((([c0, c1, c2, c3, c4, c5] : List Value).drop 1).take (Tryd.prog.cellsOf 3)) = some y1 := (hf 1 _ rfl).trans hy1
  rw [cells_3] at g1
  have k1 : DataW.trod enc Tryd.prog W 0 (fun _ => true) true n 3 [c1] = some y1 := g1
  obtain ⟨y2, hy2⟩ : ∃ y, xs[2]? = some y := ⟨_, List.getElem?_eq_getElem (by rw [hlen]; decide)⟩
  have w2 := sd_field (d := y2.1) (i := 2) (ft := 3) rfl hz2 rfl (by rw [List.getElem?_map, hy2]; rfl)
  have g2 : DataW.trod enc Tryd.prog W 0 (fun _ => true) true n 3 ((([c0, c1, c2, c3, c4, c5] : List Value).drop 2).take (Tryd.prog.cellsOf 3)) = some y2 := (hf 2 _ rfl).trans hy2
  rw [cells_3] at g2
  have k2 : DataW.trod enc Tryd.prog W 0 (fun _ => true) true n 3 [c2] = some y2 := g2
  obtain ⟨y3, hy3⟩ : ∃ y, xs[3]? = some y := ⟨_, List.getElem?_eq_getElem (by rw [hlen]; decide)⟩
  have w3 := sd_field (d := y3.1) (i := 3) (ft := 25) rfl hz2 rfl (by rw [List.getElem?_map, hy3]; rfl)
  have g3 : DataW.trod enc Tryd.prog W 0 (fun _ => true) true n 25 ((([c0, c1, c2, c3, c4, c5] : List Value).drop 3).take (Tryd.prog.cellsOf 25)) = some y3 := (hf 3 _ rfl).trans hy3
  rw [cells_25] at g3
  have k3 : DataW.trod enc Tryd.prog W 0 (fun _ => true) true n 25 [c3, c4, c5] = some y3 := g3
  obtain ⟨x0, z0, e0⟩ := opz_22 k0 w0
  obtain rfl := (List.cons.inj e0).1
  obtain ⟨x1, z1, e1⟩ := opz_3 k1 w1
  obtain rfl := (List.cons.inj e1).1
  obtain ⟨x2, z2, e2⟩ := opz_3 k2 w2
  obtain rfl := (List.cons.inj e2).1
  obtain ⟨x3, z3, e3⟩ := opz_25 k3 w3
  simp only [enc_25, List.cons.injEq, and_true] at e3
  obtain ⟨rfl, rfl, rfl⟩ := e3
  exact ⟨(x0, x1, x2, x3.1, x3.2), ⟨z0, z1, z2, z3⟩, by rfl⟩
set_option maxRecDepth 100000 in
theorem codeTexts_lifted (os : Os) (started : os.Started) (H : Type) (enc : TypeId × Value → H) :
    ReturnsInHanded {} Tryd.checked os 7 .any (fun w args => (Rows.codeTextsSpec.pre enc Tryd.prog Tryd.f7 [] false w args ∧ laidMetH Tryd.prog laidHere w) ∧ sizedMet enc Tryd.prog Tryd.f7 (OpenSpec.ofChange Rows.codeTextsSpec) false w args)
      (Rows.codeTextsSpec.post enc Tryd.prog Tryd.f7 false true false false) := by
  refine returnsIn_and_shapedZ (C := Tryd.checked) (X := fun w _ => laidMetH Tryd.prog laidHere w) (fun _ _ _ hh h => h.of_heap hh) own started (by kernel_rfl) Tryd.func7
    (ChangeSpec.witness_shaped (enc := enc) (C := Tryd.checked) (os := os) (X := fun w _ => laidMetH Tryd.prog laidHere w) false (World.doorLaid Tryd.prog 6000 os) #[.agg #[.int .i64 0, .int .i64 0, .int .i64 0, .int .i64 0, .int .u64 0, .int .u64 0], .string ⟨#[]⟩] 8 rfl (World.shaped_of_RefB (by kernel_rfl) (by kernel_rfl)) (by kernel_rfl) (by kernel_rfl) (by kernel_rfl) (door_met os _)) ?_
  intro W base args ds gs before hval0 hW hsh hL hsz0
  have hsz : (DataW.weightsEach Tryd.prog (Tryd.f7.params.toList ++ Rows.codeTextsSpec.plain.varTypes Tryd.prog) (ds ++ gs)).all (· ≤ reachBytes) = true := hsz0
  have hval : ∀ (j : Nat) t v, Tryd.f7.params[j]? = some t → args[j]? = some v → Value.okWide Tryd.prog W .any base t v := hval0
  have hW' := hW
  obtain ⟨p, q, hA0, hV, rfl, _, _⟩ := hW
  have hA : DataW.TrodAll enc Tryd.prog W 0 (fun _ => true) true Tryd.f7.params.toList args.toList ds p := hA0
  rw [Tryd.params7] at hA hval hsz
  obtain ⟨v0, v1, d0, d1, p0, p1, rfl, rfl, rfl, h0, h1⟩ := trodAll_two hA
  obtain ⟨rfl, rfl⟩ := trodVars_none hV
  obtain ⟨c0, rfl, x0, z0, rfl⟩ := arg_structZ (Q := fun cs => ∃ x : (Int × Int × Int × Int × BitVec 128), ((-9223372036854775808 ≤ (x.1 : Int) ∧ (x.1 : Int) ≤ 9223372036854775807) ∧ (-9223372036854775808 ≤ (x.2.1 : Int) ∧ (x.2.1 : Int) ≤ 9223372036854775807) ∧ (-9223372036854775808 ≤ (x.2.2.1 : Int) ∧ (x.2.2.1 : Int) ≤ 9223372036854775807) ∧ (-9223372036854775808 ≤ (x.2.2.2.1 : Int) ∧ (x.2.2.2.1 : Int) ≤ 9223372036854775807)) ∧ cs = enc_27.f x) (P := Tryd.prog) (t := 27) rfl (hval 0 27 v0 rfl rfl) h0 (sd_arg hsz (j := 0) (t := 27) rfl rfl) (fun _ _ _ hh hz => opz_27 hh hz)
  obtain ⟨x1, rfl, rfl, rfl, ws1⟩ := Go.ChangeMaps.open_string (P := Tryd.prog) (t := 9) rfl (hval 1 9 v1 rfl rfl) h1
  refine (doesI_run (fun ro => shunterlaw09_CodeTexts_g 400 x0.1 x0.2.1 x0.2.2.1 x0.2.2.2.1 x0.2.2.2.2 x1.data.toList true (codeTexts_true (by decide) (code9_s (N := 400) (by decide)) (name_s 400) (fun s => find_s9 (by decide) s) x0.1 x0.2.1 x0.2.2.1 x0.2.2.2.1 x0.2.2.2.2 z0.2.1 z0.2.2.1 x1.data.toList) ro) W (memI_of hL hsh)).mono fun e W' ⟨he, hb⟩ => ?_
  subst he
  exact ⟨_, rfl, law_post (f := Tryd.f7) laidOut (by kernel_rfl) rfl (by rfl) rfl hW' rfl hb⟩

theorem codeTexts_holds : Rows.CodeTextsSaid :=
  OpenClaim.holds_of_wide 7 Tryd.f7 rfl rfl rfl rfl rfl rfl rfl ⟨rfl, rfl, rfl, rfl, rfl⟩ rfl rfl rfl rfl rfl (by kernel_rfl) Tryd.func7 (by kernel_rfl)
    (of_decide_eq_true (by kernel_rfl)) (by unfold Func.isWrapper; first | (rw [if_pos (by decide +kernel)]; kernel_rfl) | (rw [if_neg (by decide +kernel)]; exact ⟨rfl, rfl⟩))
    (fun os started H enc _ => codeTexts_lifted os started H enc)

theorem codeTexts_card : Rows.CodeTextsCardSaid :=
  Claim7.holds_tied_plain_at .later [] [.data, .data, .data, .data] true (true, "a3e585fb2f0cbb421f1df039cfecbe85b04e6a992f47727b72fdbbaaa9542889") true
    codeTexts_holds (fun _ h => by cases h) (by kernel_rfl) (fun _ h => by cases h) codeTexts_row_tie rfl ⟨rfl, rfl⟩ (by kernel_rfl) rfl
    (fun f fn hf hfn => by
      obtain rfl : f = 7 := Option.some.inj ((show Tryd.prog.funcNamed "shunter/shunterlaw09.CodeTexts" = some 7 by kernel_rfl).symm.trans hf) |>.symm
      obtain rfl : fn = Tryd.f7 := (Option.some.inj (Tryd.func7.symm.trans hfn)).symm
      exact ⟨by kernel_rfl, fun j t ht => by
        rw [Tryd.params7] at ht
        have hm : t ∈ [27, 9] := by simpa using Array.mem_of_getElem? ht
        have hall : ([27, 9].all fun u => !Tryd.prog.wantsStandIn u) = true := by kernel_rfl
        exact (show Tryd.prog.wantsStandIn t = false by simpa using List.all_eq_true.1 hall t hm)⟩)
    (by kernel_rfl)

end Go.Proofs.YtmfedgmmgehmgaaDoor
