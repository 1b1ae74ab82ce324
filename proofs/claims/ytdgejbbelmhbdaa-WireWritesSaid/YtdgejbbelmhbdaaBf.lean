/- models of functions and their walks -/
import Derived.Test.YtdgejbbelmhbdaaBa
namespace Go.Proofs.Ytdgejbbelmhbdaa
open Go Go.RowKit Go.Eng
inductive Sum46 where
  | nil
  | t80 (x0 : Int) (x1 : Int)
  deriving Inhabited
def Sum46.on {β : Type} (x : Sum46) (a : β) (f80 : Int → Int → β) : β := match x with | .nil => a | .t80 x0 x1 => f80 x0 x1
theorem Sum46.on_nil {β : Type} {x : Sum46} {a r : β} {f80 : Int → Int → β} (h : x = .nil) (e : Sum46.on x a f80 = r) : a = r := by subst h; exact e
def Sum46.onP (x : Sum46) (a : PO) (f80 : Int → Int → PO) : PO := match x with | .nil => a | .t80 x0 x1 => f80 x0 x1
theorem Sum46.onP_nil {x : Sum46} {a : PO} {f80 : Int → Int → PO} {v : Value} {O : List (List Bl)} (h : x = .nil) (e : Sum46.onP x a f80 v O) : a v O := by subst h; exact e
theorem Sum46.cases (x : Sum46) : x = .nil ∨ (∃ x0 x1, x = .t80 x0 x1) := by cases x <;> simp
end Go.Proofs.Ytdgejbbelmhbdaa
