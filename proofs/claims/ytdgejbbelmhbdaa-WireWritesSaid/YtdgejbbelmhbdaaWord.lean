/- words -/
import Derived.Test.YtdgejbbelmhbdaaRows
import Derived.Test.YtdgejbbelmhbdaaTm
import Derived.Test.YtdgejbbelmhbdaaShelf
namespace Go.Proofs.Ytdgejbbelmhbdaa
open Go Go.RowKit Go.Eng
theorem follows : Try.prog.follows .mixedOrders = true := by kernel_rfl
theorem call_6 : callB Try.prog 6 = true := by kernel_rfl
theorem call_7 : callB Try.prog 7 = true := by kernel_rfl
theorem call_8 : callB Try.prog 8 = true := by kernel_rfl
theorem call_17 : callB Try.prog 17 = true := by kernel_rfl
theorem call_24 : callB Try.prog 24 = true := by kernel_rfl
theorem call_25 : callB Try.prog 25 = true := by kernel_rfl
theorem call_26 : callB Try.prog 26 = true := by kernel_rfl
theorem call_27 : callB Try.prog 27 = true := by kernel_rfl
theorem call_28 : callB Try.prog 28 = true := by kernel_rfl
theorem call_29 : callB Try.prog 29 = true := by kernel_rfl
theorem call_30 : callB Try.prog 30 = true := by kernel_rfl
theorem call_31 : callB Try.prog 31 = true := by kernel_rfl
theorem call_32 : callB Try.prog 32 = true := by kernel_rfl
theorem call_33 : callB Try.prog 33 = true := by kernel_rfl
theorem call_34 : callB Try.prog 34 = true := by kernel_rfl
theorem call_43 : callB Try.prog 43 = true := by kernel_rfl
theorem call_44 : callB Try.prog 44 = true := by kernel_rfl
theorem call_52 : callB Try.prog 52 = true := by kernel_rfl
theorem call_53 : callB Try.prog 53 = true := by kernel_rfl
theorem call_54 : callB Try.prog 54 = true := by kernel_rfl
theorem call_55 : callB Try.prog 55 = true := by kernel_rfl
theorem call_56 : callB Try.prog 56 = true := by kernel_rfl
theorem call_57 : callB Try.prog 57 = true := by kernel_rfl
theorem call_58 : callB Try.prog 58 = true := by kernel_rfl
theorem call_59 : callB Try.prog 59 = true := by kernel_rfl
theorem call_71 : callB Try.prog 71 = true := by kernel_rfl
theorem call_74 : callB Try.prog 74 = true := by kernel_rfl
theorem call_75 : callB Try.prog 75 = true := by kernel_rfl
theorem call_76 : callB Try.prog 76 = true := by kernel_rfl
theorem call_81 : callB Try.prog 81 = true := by kernel_rfl
theorem call_83 : callB Try.prog 83 = true := by kernel_rfl
theorem call_84 : callB Try.prog 84 = true := by kernel_rfl
theorem call_86 : callB Try.prog 86 = true := by kernel_rfl
theorem call_87 : callB Try.prog 87 = true := by kernel_rfl
theorem call_90 : callB Try.prog 90 = true := by kernel_rfl
end Go.Proofs.Ytdgejbbelmhbdaa
