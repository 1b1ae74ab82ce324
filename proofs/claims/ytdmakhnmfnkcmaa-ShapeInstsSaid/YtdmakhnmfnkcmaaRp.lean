/- Letters, names, by their runes. Conditions: none. -/
import Derived.Test.YtdmakhnmfnkcmaaRc
namespace Go.Proofs.Ytdmakhnmfnkcmaa
open Go Go.RowKit Go.Eng
def letR (c : Int) : Bool := decide (((65 ≤ c ∧ c ≤ 90) ∨ (97 ≤ c ∧ c ≤ 122) ∨ c = 95 ∨ (192 ≤ c ∧ c ≤ 591) ∨ (913 ≤ c ∧ c ≤ 969) ∨ (1024 ≤ c ∧ c ≤ 1279)) ∧ c ≠ 215 ∧ c ≠ 247 ∧ c ≠ 930)
def inR (c : Int) : Bool := letR c || decide ((48 ≤ c ∧ c ≤ 57) ∨ c = 45 ∨ c = 46)
def mayL (l : List Int) : Bool := decide (1 ≤ l.length ∧ l.length ≤ 24) && letR (l[0]!) && l.all inR
end Go.Proofs.Ytdmakhnmfnkcmaa
