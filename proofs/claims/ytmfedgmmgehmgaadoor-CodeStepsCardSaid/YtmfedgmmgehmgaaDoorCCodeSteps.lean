/- What is proved: the card of CodeSteps: for every input the law returns true. Conditions: none but the card's own (package variables are laid as the program's text says). -/
import Derived.Test.YtmfedgmmgehmgaaDoorCs
import Derived.Test.YtmfedgmmgehmgaaDoorCp
import Derived.Test.YtmfedgmmgehmgaaDoorLw
import Derived.Test.YtmfedgmmgehmgaaDoorTie
import Derived.Test.YtmfedgmmgehmgaaDoorCards
import Derived.LaidMore
import Derived.OpenShut
import Derived.Stop.Joined
import Derived.SevenTiedAt
import Derived.ChangeMaps5
namespace Go.Proofs.YtmfedgmmgehmgaaDoor
open Go Go.RowKit Go.Eng Go.ChangeShapes Go.WideShapes Go.ChangeAt Go.Joins Go.Deep Go.WideMaps Go.WideElems
theorem own : ownKnob Tryd.prog.godebug = none := by kernel_rfl
theorem laidOut : laidOutB Tryd.prog = true := by kernel_rfl
/-- What the listed variables hold. -/
def laidHere : List (String × DataW Unit) := [("math/bits.deBruijn32tab", Rows.laid_math_bits_deBruijn32tab), ("math/bits.deBruijn64tab", Rows.laid_math_bits_deBruijn64tab), ("internal/strconv.uint64pow10", Rows.laid_internal_strconv_uint64pow10), ("shunter/code.names", Rows.laid_shunter_code_names)]
theorem door_met (os : Os) (args : Array Value) : laidMetH Tryd.prog laidHere ((World.doorLaid Tryd.prog 6000 os).forCall (fun _ _ => 0) ⟨#[], args, []⟩).memory :=
  laidMetH_of_parts3 (fuel := 8) (laidMet_of_run' 8 (by kernel_rfl) (by kernel_rfl)) (by kernel_rfl) (by kernel_rfl)
theorem cells_45 : Tryd.prog.cellsOf 45 = 4 := by kernel_rfl
theorem cells_3 : Tryd.prog.cellsOf 3 = 1 := by kernel_rfl
set_option maxRecDepth 100000 in
theorem opz_3 {H : Type} {enc : TypeId × Value → H} {W : World} {fuel : Nat} {cs : List Value} {y : DataW H × List MemPlace} (h : DataW.trod enc Tryd.prog W 0 (fun _ => true) true fuel 3 cs = some y) (_ : Sd Tryd.prog 3 y.1) : ∃ x : Int, (-9223372036854775808 ≤ (x : Int) ∧ (x : Int) ≤ 9223372036854775807) ∧ cs = [.int .i64 x] := by
  obtain ⟨n, rfl, _, hw⟩ := DataW.trod_int (k := .i64) rfl h; exact ⟨n, i64_of_wf hw, rfl⟩
set_option maxRecDepth 100000 in
theorem opz_45 {H : Type} {enc : TypeId × Value → H} {W : World} {fuel : Nat} {cs : List Value} {y : DataW H × List MemPlace} (h : DataW.trod enc Tryd.prog W 0 (fun _ => true) true fuel 45 cs = some y) (_ : Sd Tryd.prog 45 y.1) : ∃ n0 n1 n2 n3 : Int, ((-9223372036854775808 ≤ (n0 : Int) ∧ (n0 : Int) ≤ 9223372036854775807) ∧ (-9223372036854775808 ≤ (n1 : Int) ∧ (n1 : Int) ≤ 9223372036854775807) ∧ (-9223372036854775808 ≤ (n2 : Int) ∧ (n2 : Int) ≤ 9223372036854775807) ∧ (-9223372036854775808 ≤ (n3 : Int) ∧ (n3 : Int) ≤ 9223372036854775807)) ∧ cs = [.int .i64 n0, .int .i64 n1, .int .i64 n2, .int .i64 n3] := by
  obtain ⟨xs, m, _, _, hl, hlen, hel⟩ := DataW.trod_array rfl h
  have hl2 : cs.length = 4 := hl.trans cells_45
  obtain ⟨c0, c1, c2, c3, rfl⟩ : ∃ c0 c1 c2 c3, cs = [c0, c1, c2, c3] := by
    match cs, hl2 with
    | [c0, c1, c2, c3], _ => exact ⟨c0, c1, c2, c3, rfl⟩
  obtain ⟨y0, hy0⟩ : ∃ y, xs[0]? = some y := ⟨_, List.getElem?_eq_getElem (by rw [hlen]; decide)⟩
  have h0_ := (hel 0 (by decide)).trans hy0
  rw [cells_3] at h0_
  have g0 : DataW.trod enc Tryd.prog W 0 (fun _ => true) true m 3 [c0] = some y0 := h0_
  obtain ⟨n0, e0, _, w0⟩ := DataW.trod_int (k := .i64) rfl g0
  obtain rfl := (List.cons.inj e0).1
  obtain ⟨y1, hy1⟩ : ∃ y, xs[1]? = some y := ⟨_, List.getElem?_eq_getElem (by rw [hlen]; decide)⟩
  have h1_ := (hel 1 (by decide)).trans hy1
  rw [cells_3] at h1_
  have g1 : DataW.trod enc Tryd.prog W 0 (fun _ => true) true m 3 [c1] = some y1 := h1_
  obtain ⟨n1, e1, _, w1⟩ := DataW.trod_int (k := .i64) rfl g1
  obtain rfl := (List.cons.inj e1).1
  obtain ⟨y2, hy2⟩ : ∃ y, xs[2]? = some y := ⟨_, List.getElem?_eq_getElem (by rw [hlen]; decide)⟩
  have h2_ := (hel 2 (by decide)).trans hy2
  rw [cells_3] at h2_
  have g2 : DataW.trod enc Tryd.prog W 0 (fun _ => true) true m 3 [c2] = some y2 := h2_
  obtain ⟨n2, e2, _, w2⟩ := DataW.trod_int (k := .i64) rfl g2
  obtain rfl := (List.cons.inj e2).1
  obtain ⟨y3, hy3⟩ : ∃ y, xs[3]? = some y := ⟨_, List.getElem?_eq_getElem (by rw [hlen]; decide)⟩
  have h3_ := (hel 3 (by decide)).trans hy3
  rw [cells_3] at h3_
  have g3 : DataW.trod enc Tryd.prog W 0 (fun _ => true) true m 3 [c3] = some y3 := h3_
  obtain ⟨n3, e3, _, w3⟩ := DataW.trod_int (k := .i64) rfl g3
  obtain rfl := (List.cons.inj e3).1
  exact ⟨n0, n1, n2, n3, ⟨i64_of_wf w0, i64_of_wf w1, i64_of_wf w2, i64_of_wf w3⟩, rfl⟩
theorem cells_25 : Tryd.prog.cellsOf 25 = 3 := by kernel_rfl
theorem cells_23 : Tryd.prog.cellsOf 23 = 1 := by kernel_rfl
set_option maxRecDepth 100000 in
theorem opz_23 {H : Type} {enc : TypeId × Value → H} {W : World} {fuel : Nat} {cs : List Value} {y : DataW H × List MemPlace} (h : DataW.trod enc Tryd.prog W 0 (fun _ => true) true fuel 23 cs = some y) (_ : Sd Tryd.prog 23 y.1) : ∃ x : BitVec 64, True ∧ cs = [U x] := by
  obtain ⟨n, rfl, _, hw⟩ := DataW.trod_int (k := .u64) rfl h
  obtain ⟨x, rfl⟩ := u64_of_wf hw; exact ⟨x, trivial, rfl⟩
def enc_25 : Enc (Int × BitVec 128) := ⟨fun x => [Value.int .i64 (x.1), U (hi (x.2)), U (lo (x.2))], 3, by decide, fun _ => rfl, fun x v h => by simp only [List.mem_cons, List.not_mem_nil, or_false] at h; rcases h with rfl | rfl | rfl <;> rfl, True⟩
set_option maxRecDepth 100000 in
theorem opz_25 {H : Type} {enc : TypeId × Value → H} {W : World} {fuel : Nat} {cs : List Value} {y : DataW H × List MemPlace} (h : DataW.trod enc Tryd.prog W 0 (fun _ => true) true fuel 25 cs = some y) (hz : Sd Tryd.prog 25 y.1) : ∃ x : (Int × BitVec 128), ((-9223372036854775808 ≤ (x.1 : Int) ∧ (x.1 : Int) ≤ 9223372036854775807)) ∧ cs = enc_25.f x := by
  obtain ⟨xs, n, _, hxx, hl, hlen, hf⟩ := DataW.trod_struct rfl h
  have hz2 := hz
  rw [hxx] at hz2
  have hl2 : cs.length = 3 := hl.trans cells_25
  obtain ⟨c0, c1, c2, rfl⟩ : ∃ c0 c1 c2, cs = [c0, c1, c2] := by
    match cs, hl2 with
    | [c0, c1, c2], _ => exact ⟨c0, c1, c2, rfl⟩
  obtain ⟨y0, hy0⟩ : ∃ y, xs[0]? = some y := ⟨_, List.getElem?_eq_getElem (by rw [hlen]; decide)⟩
  have w0 := sd_field (d := y0.1) (i := 0) (ft := 3) rfl hz2 rfl (by rw [List.getElem?_map, hy0]; rfl)
  have g0 : DataW.trod enc Tryd.prog W 0 (fun _ => true) true n 3 ((([c0, c1, c2] : List Value).drop 0).take (Tryd.prog.cellsOf 3)) = some y0 := (hf 0 _ rfl).trans hy0
  rw [cells_3] at g0
  have k0 : DataW.trod enc Tryd.prog W 0 (fun _ => true) true n 3 [c0] = some y0 := g0
  obtain ⟨y1, hy1⟩ : ∃ y, xs[1]? = some y := ⟨_, List.getElem?_eq_getElem (by rw [hlen]; decide)⟩
  have w1 := sd_field (d := y1.1) (i := 1) (ft := 23) rfl hz2 rfl (by rw [List.getElem?_map, hy1]; rfl)
  have g1 : DataW.trod enc Tryd.prog W 0 (fun _ => true) true n 23 ((([c0, c1, c2] : List Value).drop 1).take (Tryd.prog.cellsOf 23)) = some y1 := (hf 1 _ rfl).trans hy1
  rw [cells_23] at g1
  have k1 : DataW.trod enc Tryd.prog W 0 (fun _ => true) true n 23 [c1] = some y1 := g1
  obtain ⟨y2, hy2⟩ : ∃ y, xs[2]? = some y := ⟨_, List.getElem?_eq_getElem (by rw [hlen]; decide)⟩
  have w2 := sd_field (d := y2.1) (i := 2) (ft := 23) rfl hz2 rfl (by rw [List.getElem?_map, hy2]; rfl)
  have g2 : DataW.trod enc Tryd.prog W 0 (fun _ => true) true n 23 ((([c0, c1, c2] : List Value).drop 2).take (Tryd.prog.cellsOf 23)) = some y2 := (hf 2 _ rfl).trans hy2
  rw [cells_23] at g2
  have k2 : DataW.trod enc Tryd.prog W 0 (fun _ => true) true n 23 [c2] = some y2 := g2
  obtain ⟨x0, z0, e0⟩ := opz_3 k0 w0
  obtain rfl := (List.cons.inj e0).1
  obtain ⟨x1, z1, e1⟩ := opz_23 k1 w1
  obtain rfl := (List.cons.inj e1).1
  obtain ⟨x2, z2, e2⟩ := opz_23 k2 w2
  obtain rfl := (List.cons.inj e2).1
  exact ⟨(x0, x1 ++ x2), z0, by simp only [enc_25, hi_app, lo_app]⟩
set_option maxRecDepth 100000 in
theorem codeSteps_lifted (os : Os) (started : os.Started) (H : Type) (enc : TypeId × Value → H) :
    ReturnsInHanded {} Tryd.checked os 5 .any (fun w args => (Rows.codeStepsSpec.pre enc Tryd.prog Tryd.f5 [] false w args ∧ laidMetH Tryd.prog laidHere w) ∧ sizedMet enc Tryd.prog Tryd.f5 (OpenSpec.ofChange Rows.codeStepsSpec) false w args)
      (Rows.codeStepsSpec.post enc Tryd.prog Tryd.f5 false true false false) := by
  refine returnsIn_and_shapedZ (C := Tryd.checked) (X := fun w _ => laidMetH Tryd.prog laidHere w) (fun _ _ _ hh h => h.of_heap hh) own started (by kernel_rfl) Tryd.func5
    (ChangeSpec.witness_shaped (enc := enc) (C := Tryd.checked) (os := os) (X := fun w _ => laidMetH Tryd.prog laidHere w) false (World.doorLaid Tryd.prog 6000 os) #[.agg #[.int .i64 0, .int .i64 0, .int .i64 0, .int .i64 0], .agg #[.int .i64 0, .int .u64 0, .int .u64 0]] 8 rfl (World.shaped_of_RefB (by kernel_rfl) (by kernel_rfl)) (by kernel_rfl) (by kernel_rfl) (by kernel_rfl) (door_met os _)) ?_
  intro W base args ds gs before hval0 hW hsh hL hsz0
  have hsz : (DataW.weightsEach Tryd.prog (Tryd.f5.params.toList ++ Rows.codeStepsSpec.plain.varTypes Tryd.prog) (ds ++ gs)).all (· ≤ reachBytes) = true := hsz0
  have hval : ∀ (j : Nat) t v, Tryd.f5.params[j]? = some t → args[j]? = some v → Value.okWide Tryd.prog W .any base t v := hval0
  have hW' := hW
  obtain ⟨p, q, hA0, hV, rfl, _, _⟩ := hW
  have hA : DataW.TrodAll enc Tryd.prog W 0 (fun _ => true) true Tryd.f5.params.toList args.toList ds p := hA0
  rw [Tryd.params5] at hA hval hsz
  obtain ⟨v0, v1, d0, d1, p0, p1, rfl, rfl, rfl, h0, h1⟩ := trodAll_two hA
  obtain ⟨rfl, rfl⟩ := trodVars_none hV
  obtain ⟨c0, rfl, x0_0, x0_1, x0_2, x0_3, z0, rfl⟩ := arg_arrayZ (Q := fun cs => ∃ n0 n1 n2 n3 : Int, ((-9223372036854775808 ≤ (n0 : Int) ∧ (n0 : Int) ≤ 9223372036854775807) ∧ (-9223372036854775808 ≤ (n1 : Int) ∧ (n1 : Int) ≤ 9223372036854775807) ∧ (-9223372036854775808 ≤ (n2 : Int) ∧ (n2 : Int) ≤ 9223372036854775807) ∧ (-9223372036854775808 ≤ (n3 : Int) ∧ (n3 : Int) ≤ 9223372036854775807)) ∧ cs = [.int .i64 n0, .int .i64 n1, .int .i64 n2, .int .i64 n3]) (P := Tryd.prog) (t := 45) rfl (hval 0 45 v0 rfl rfl) h0 (sd_arg hsz (j := 0) (t := 45) rfl rfl) (fun _ _ _ hh hz => opz_45 hh hz)
  obtain ⟨c1, rfl, x1, z1, rfl⟩ := arg_structZ (Q := fun cs => ∃ x : (Int × BitVec 128), ((-9223372036854775808 ≤ (x.1 : Int) ∧ (x.1 : Int) ≤ 9223372036854775807)) ∧ cs = enc_25.f x) (P := Tryd.prog) (t := 25) rfl (hval 1 25 v1 rfl rfl) h1 (sd_arg hsz (j := 1) (t := 25) rfl rfl) (fun _ _ _ hh hz => opz_25 hh hz)
  refine (doesI_run (fun ro => shunterlaw09_CodeSteps_g 400 x0_0 x0_1 x0_2 x0_3 x1.1 x1.2 true (codeSteps_true (code9_s (N := 400) (by decide)) x0_0 x0_1 x0_2 x0_3 x1.1 x1.2) ro) W (memI_of hL hsh)).mono fun e W' ⟨he, hb⟩ => ?_
  subst he
  exact ⟨_, rfl, law_post (f := Tryd.f5) laidOut (by kernel_rfl) rfl (by rfl) rfl hW' rfl hb⟩

theorem codeSteps_holds : Rows.CodeStepsSaid :=
  OpenClaim.holds_of_wide 5 Tryd.f5 rfl rfl rfl rfl rfl rfl rfl ⟨rfl, rfl, rfl, rfl, rfl⟩ rfl rfl rfl rfl rfl (by kernel_rfl) Tryd.func5 (by kernel_rfl)
    (of_decide_eq_true (by kernel_rfl)) (by unfold Func.isWrapper; first | (rw [if_pos (by decide +kernel)]; kernel_rfl) | (rw [if_neg (by decide +kernel)]; exact ⟨rfl, rfl⟩))
    (fun os started H enc _ => codeSteps_lifted os started H enc)

theorem codeSteps_card : Rows.CodeStepsCardSaid :=
  Claim7.holds_tied_plain_at .later [] [.data, .data, .data, .data] true (true, "a3e585fb2f0cbb421f1df039cfecbe85b04e6a992f47727b72fdbbaaa9542889") true
    codeSteps_holds (fun _ h => by cases h) (by kernel_rfl) (fun _ h => by cases h) codeSteps_row_tie rfl ⟨rfl, rfl⟩ (by kernel_rfl) rfl
    (fun f fn hf hfn => by
      obtain rfl : f = 5 := Option.some.inj ((show Tryd.prog.funcNamed "shunter/shunterlaw09.CodeSteps" = some 5 by kernel_rfl).symm.trans hf) |>.symm
      obtain rfl : fn = Tryd.f5 := (Option.some.inj (Tryd.func5.symm.trans hfn)).symm
      exact ⟨by kernel_rfl, fun j t ht => by
        rw [Tryd.params5] at ht
        have hm : t ∈ [45, 25] := by simpa using Array.mem_of_getElem? ht
        have hall : ([45, 25].all fun u => !Tryd.prog.wantsStandIn u) = true := by kernel_rfl
        exact (show Tryd.prog.wantsStandIn t = false by simpa using List.all_eq_true.1 hall t hm)⟩)
    (by kernel_rfl)

end Go.Proofs.YtmfedgmmgehmgaaDoor
