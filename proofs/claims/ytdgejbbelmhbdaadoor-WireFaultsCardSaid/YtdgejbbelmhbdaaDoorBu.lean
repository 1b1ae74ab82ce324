/- strings.Builder, texts laid over bytes, copy: operations on blocks that are there. Conditions: none. -/
import Derived.Test.YtdgejbbelmhbdaaDoorAs
import Derived.Lib.UnsafeStr
import Derived.Lib.MakeNoZero
import Derived.Lib.Builder
import Derived.Laws.Externs
import Derived.Laws.CopyRow
import Derived.Laws.IdiomCopy
import Derived.Scope
namespace Go.Eng
open Go Go.RowKit
theorem PutU.part {A S S' B : List Bl} (hn : ((A ++ (S ++ B)).map (·.1)).Nodup) (hs : S'.map (·.1) = S.map (·.1)) : PutU (A ++ (S ++ B)) S' (A ++ (S' ++ B)) := by
  have hlen : S'.length = S.length := by have := congrArg List.length hs; simpa using this
  rw [List.map_append, List.map_append, List.nodup_append] at hn
  obtain ⟨_, hn2, hA⟩ := hn
  rw [List.nodup_append] at hn2
  obtain ⟨_, _, hSB⟩ := hn2
  refine ⟨by simp [hs], fun i b x hi => ?_⟩
  rw [List.getElem?_append] at hi
  split at hi
  · rename_i hlt
    refine .inr ⟨fun y hy e => ?_, by rw [List.getElem?_append_left hlt]; exact hi⟩
    have h1 : y.1 ∈ S.map (·.1) := by rw [← hs]; exact List.mem_map.2 ⟨y, hy, rfl⟩
    exact hA b (List.mem_map.2 ⟨_, List.mem_of_getElem? hi, rfl⟩) y.1 (List.mem_append_left _ h1) e.symm
  · rename_i hge
    rw [List.getElem?_append] at hi
    split at hi
    · exact .inl (List.mem_of_getElem? hi)
    · rename_i hge2
      refine .inr ⟨fun y hy e => ?_, ?_⟩
      · have h1 : y.1 ∈ S.map (·.1) := by rw [← hs]; exact List.mem_map.2 ⟨y, hy, rfl⟩
        exact hSB y.1 h1 b (List.mem_map.2 ⟨_, List.mem_of_getElem? hi, rfl⟩) e
      · rw [List.getElem?_append_right (by omega), List.getElem?_append_right (by omega), ← hlen]
        exact hi
section
variable {E : Env} {g : Bool} {ops : Array Oper} {K : (Nat → Value) → List Bl → Prop} {r : List Oper} {T : Nat → Value} {m : Nat} {d : Tmp} {ty : TypeId} {pos : String} {af : Array Edge}
end
section
variable {P : Program} {c : Addr → Option Value} {ρ : Operand → Value} {d : Option Tmp} {t t' e : TypeId} {x x' y : Operand} {ty : TypeId} {pos : String} {af : Array Edge} {g : Option (Nat × Bool)} {i : TypeInfo} {b : Nat} {f : Bool}
end
section
variable {E : Env} {g : Bool} {ops : Array Oper} {K : (Nat → Value) → List Bl → Prop} {r : List Oper} {T : Nat → Value} {m : Nat} {d : Tmp} {ty : TypeId} {pos : String} {af : Array Edge}
end
section
variable {P : Program} {ρ : Operand → Value} {d : Option Tmp} {x : Operand} {ty : TypeId} {pos : String} {af : Array Edge} {g : Option (Nat × Bool)} {S : List Bl}
end
section
variable {E : Env} {g : Bool} {ops : Array Oper} {K : (Nat → Value) → List Bl → Prop} {r : List Oper} {T : Nat → Value} {m : Nat} {d : Tmp} {ty : TypeId} {pos : String} {af : Array Edge}
end
section
variable {E : Env} {g : Bool} {ops : Array Oper} {K : (Nat → Value) → List Bl → Prop} {r : List Oper} {T : Nat → Value} {m : Nat} {d : Tmp} {ty : TypeId} {pos : String} {af : Array Edge}
end
section
variable {E : Env} {g : Bool} {ops : Array Oper} {K : (Nat → Value) → List Bl → Prop} {r : List Oper} {T : Nat → Value} {m : Nat} {d : Tmp} {ty : TypeId} {pos : String} {af : Array Edge}
end
theorem Sl.strict {e : TypeId} {v : Value} {xs : List UInt8} {S : List Bl} (h : Sl e encY v xs S) (h0 : 0 < xs.length) : Sl e encYs v xs S := by
  rcases h with ⟨a, _, h1, _⟩ | ⟨b, cap, cs, h1, h2, h3, h4, h5⟩
  · rw [h1] at h0; exact absurd h0 (Nat.lt_irrefl 0)
  · exact .inr ⟨b, cap, cs, h1, h2, h3, h4, h5⟩
end Go.Eng
