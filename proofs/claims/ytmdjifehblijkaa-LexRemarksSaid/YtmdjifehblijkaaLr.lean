/- From a walk that ends in true to the row of a law. Conditions: none. -/
import Derived.Test.YtmdjifehblijkaaWm
import Derived.ProofKit
import Derived.Carry
import Derived.Lib.SmallJoins
import Derived.Test.YtmdjifehblijkaaYt
import Derived.Test.YtmdjifehblijkaaMd
import Derived.OpenShut
import Derived.Deep.Slices
namespace Go.Eng
open Go Go.RowKit Go.ChangeShapes Go.WideShapes Go.ChangeAt Go.Joins Go.Deep Go.WideElems
section
variable {H : Type} {enc : TypeId × Value → H} {P : Program}
theorem trodAll_stays (hl : laidOutB P = true) {W W' : World} (hb : Below W.heap.size W W') : ∀ {ts : List TypeId} {vs : List Value} {ds : List (DataW H)} {ps : List MemPlace},
    ts.all (fun t => P.readableRec t && decide (t < P.types.size)) = true → DataW.TrodAll enc P W 0 (fun _ => true) true ts vs ds ps → DataW.TrodAll enc P W' 0 (fun b => decide (b < W.heap.size)) true ts vs ds ps
  | [], vs, ds, ps, _, h => by
    obtain ⟨rfl, rfl, rfl⟩ := trodAll_nil h
    rfl
  | t :: ts, vs, ds, ps, hr, h => by
    simp only [List.all_cons, Bool.and_eq_true, decide_eq_true_eq] at hr
    have hlt := DataW.TrodAll.lt h
    obtain ⟨v, vs', d, ds', p, q, rfl, rfl, rfl, h1, h2⟩ := trodAll_cons h
    exact ⟨p, q, Below.trod hl hr.1.1 hr.1.2 h1 hb (fun x hx => hlt x (by simp [hx])), trodAll_stays hl hb (by simpa only [List.all_eq_true, Bool.and_eq_true, decide_eq_true_eq] using hr.2) h2, rfl⟩
theorem law_post {f : Func} {s : ChangeSpec} {T : TypeId} {W W' : World} {args : Array Value} {ds gs : List (DataW H)} {before : List MemPlace} (hl : laidOutB P = true)
    (hr : f.params.toList.all (fun t => P.readableRec t && decide (t < P.types.size)) = true) (hT : P.underlying T = some .bool) (hres : f.resultTypes = #[T]) (hv : s.vars = [])
    (hW : DataW.Whole enc P f.params.toList s.vars false W args.toList ds gs before) (hs : s.fn H (ds ++ gs) = { results := [.lit (.bool true)], args := ds }) (hb : Below W.heap.size W W') :
    s.post enc P f false true false false W args (.bool true) W' := by
  have hW0 := hW
  obtain ⟨p, q, hA, hV, rfl, hz, _⟩ := hW
  rw [hv] at hV
  obtain ⟨rfl, rfl⟩ := trodVars_none hV
  refine ⟨ds, [], p ++ [], [], p, [], hW0, ?_, ?_, ?_, ?_, fun h => nomatch h⟩
  · rw [hs, hres]; exact trodAll_mk1 (shut_bool hT true)
  · rw [hs]; exact trodAll_stays hl hb hr hA
  · rw [hs, hv]; rfl
  · exact hb.frame _
end
end Go.Eng
/- Rows that came in, and calls of laws that read memory. Conditions: none. -/
namespace Go.Eng
open Go Go.RowKit Go.ChangeShapes Go.WideShapes Go.ChangeAt Go.Joins Go.Deep
theorem does_run {P : Program} {f : FuncId} {args : Array Value} {v : Value} {w : World} (h : Does P f args (fun a => w.cell? a) [] (pV v)) : Calls P f args w fun e w' => e = .returned v ∧ Below w.heap.size w w' :=
  (h w trivial (fun _ _ ha => ⟨ha, by simp⟩) (fun _ hx => (nomatch hx)) List.nodup_nil).mono fun e w' ⟨v', L, U, h1, h2, h3⟩ => by
    obtain ⟨rfl, rfl, rfl⟩ := h3
    exact ⟨h1, h2.os, h2.tape, h2.output, h2.size, fun k hk => h2.same k hk (fun _ hx => (nomatch hx))⟩
section
variable {H : Type} {enc : TypeId × Value → H} {P : Program} {W : World} {base : Nat} {held : Bool} {r : Reach} {b0 : Nat} {t e : TypeId} {v : Value} {d : DataW H} {p : List MemPlace}
end
end Go.Eng
