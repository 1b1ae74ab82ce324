/- what the walks need of the program -/
import Derived.Test.YtolfjcihohjknaaRows
import Derived.Test.YtolfjcihohjknaaIt
namespace Go.Proofs.Ytolfjcihohjknaa
open Go Go.RowKit Go.Eng
theorem follows : Try.prog.follows .mixedOrders = true := by kernel_rfl
theorem call_3 : callB Try.prog 3 = true := by kernel_rfl
theorem call_4 : callB Try.prog 4 = true := by kernel_rfl
theorem call_5 : callB Try.prog 5 = true := by kernel_rfl
theorem call_6 : callB Try.prog 6 = true := by kernel_rfl
theorem call_7 : callB Try.prog 7 = true := by kernel_rfl
theorem call_8 : callB Try.prog 8 = true := by kernel_rfl
theorem call_9 : callB Try.prog 9 = true := by kernel_rfl
theorem call_10 : callB Try.prog 10 = true := by kernel_rfl
theorem call_11 : callB Try.prog 11 = true := by kernel_rfl
theorem call_12 : callB Try.prog 12 = true := by kernel_rfl
theorem call_13 : callB Try.prog 13 = true := by kernel_rfl
theorem call_14 : callB Try.prog 14 = true := by kernel_rfl
theorem call_15 : callB Try.prog 15 = true := by kernel_rfl
theorem call_16 : callB Try.prog 16 = true := by kernel_rfl
theorem call_17 : callB Try.prog 17 = true := by kernel_rfl
theorem call_18 : callB Try.prog 18 = true := by kernel_rfl
theorem call_19 : callB Try.prog 19 = true := by kernel_rfl
theorem call_20 : callB Try.prog 20 = true := by kernel_rfl
theorem call_21 : callB Try.prog 21 = true := by kernel_rfl
theorem call_22 : callB Try.prog 22 = true := by kernel_rfl
theorem call_23 : callB Try.prog 23 = true := by kernel_rfl
theorem call_24 : callB Try.prog 24 = true := by kernel_rfl
theorem call_25 : callB Try.prog 25 = true := by kernel_rfl
end Go.Proofs.Ytolfjcihohjknaa
