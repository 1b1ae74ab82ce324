/- what the walks need of the program -/
import Derived.Test.YtdmakhnmfnkcmaaShelf
import Derived.Test.YtdmakhnmfnkcmaaRows
import Derived.Test.YtdmakhnmfnkcmaaIt
import Derived.Test.YtdmakhnmfnkcmaaNo
import Derived.Test.YtdmakhnmfnkcmaaAs
import Derived.Test.YtdmakhnmfnkcmaaBu
namespace Go.Proofs.Ytdmakhnmfnkcmaa
open Go Go.RowKit Go.Eng
theorem follows  : Try.prog.follows .mixedOrders = true := by kernel_rfl
theorem call_3  : callB Try.prog 3 = true := by kernel_rfl
theorem call_4  : callB Try.prog 4 = true := by kernel_rfl
theorem call_5  : callB Try.prog 5 = true := by kernel_rfl
theorem call_6  : callB Try.prog 6 = true := by kernel_rfl
theorem call_7  : callB Try.prog 7 = true := by kernel_rfl
theorem call_8  : callB Try.prog 8 = true := by kernel_rfl
theorem call_9  : callB Try.prog 9 = true := by kernel_rfl
theorem call_10  : callB Try.prog 10 = true := by kernel_rfl
theorem call_11  : callB Try.prog 11 = true := by kernel_rfl
theorem call_12  : callB Try.prog 12 = true := by kernel_rfl
theorem call_13  : callB Try.prog 13 = true := by kernel_rfl
theorem call_14  : callB Try.prog 14 = true := by kernel_rfl
theorem call_15  : callB Try.prog 15 = true := by kernel_rfl
theorem call_16  : callB Try.prog 16 = true := by kernel_rfl
theorem call_17  : callB Try.prog 17 = true := by kernel_rfl
theorem call_18  : callB Try.prog 18 = true := by kernel_rfl
theorem call_19  : callB Try.prog 19 = true := by kernel_rfl
theorem call_20  : callB Try.prog 20 = true := by kernel_rfl
theorem call_21  : callB Try.prog 21 = true := by kernel_rfl
theorem call_22  : callB Try.prog 22 = true := by kernel_rfl
theorem call_23  : callB Try.prog 23 = true := by kernel_rfl
theorem call_24  : callB Try.prog 24 = true := by kernel_rfl
theorem call_25  : callB Try.prog 25 = true := by kernel_rfl
theorem call_26  : callB Try.prog 26 = true := by kernel_rfl
theorem call_27  : callB Try.prog 27 = true := by kernel_rfl
theorem call_28  : callB Try.prog 28 = true := by kernel_rfl
theorem call_29  : callB Try.prog 29 = true := by kernel_rfl
theorem call_30  : callB Try.prog 30 = true := by kernel_rfl
theorem call_31  : callB Try.prog 31 = true := by kernel_rfl
theorem call_32  : callB Try.prog 32 = true := by kernel_rfl
theorem call_33  : callB Try.prog 33 = true := by kernel_rfl
theorem call_34  : callB Try.prog 34 = true := by kernel_rfl
theorem call_35  : callB Try.prog 35 = true := by kernel_rfl
theorem call_36  : callB Try.prog 36 = true := by kernel_rfl
theorem call_37  : callB Try.prog 37 = true := by kernel_rfl
theorem call_38  : callB Try.prog 38 = true := by kernel_rfl
theorem call_39  : callB Try.prog 39 = true := by kernel_rfl
theorem call_40  : callB Try.prog 40 = true := by kernel_rfl
theorem call_41  : callB Try.prog 41 = true := by kernel_rfl
theorem call_42  : callB Try.prog 42 = true := by kernel_rfl
theorem call_43  : callB Try.prog 43 = true := by kernel_rfl
theorem call_44  : callB Try.prog 44 = true := by kernel_rfl
theorem call_45  : callB Try.prog 45 = true := by kernel_rfl
theorem call_46  : callB Try.prog 46 = true := by kernel_rfl
theorem call_47  : callB Try.prog 47 = true := by kernel_rfl
theorem call_48  : callB Try.prog 48 = true := by kernel_rfl
theorem call_49  : callB Try.prog 49 = true := by kernel_rfl
theorem call_50  : callB Try.prog 50 = true := by kernel_rfl
theorem call_51  : callB Try.prog 51 = true := by kernel_rfl
theorem call_52  : callB Try.prog 52 = true := by kernel_rfl
theorem call_53  : callB Try.prog 53 = true := by kernel_rfl
theorem call_54  : callB Try.prog 54 = true := by kernel_rfl
theorem call_55  : callB Try.prog 55 = true := by kernel_rfl
theorem call_56  : callB Try.prog 56 = true := by kernel_rfl
theorem call_57  : callB Try.prog 57 = true := by kernel_rfl
theorem call_58  : callB Try.prog 58 = true := by kernel_rfl
theorem call_59  : callB Try.prog 59 = true := by kernel_rfl
theorem call_60  : callB Try.prog 60 = true := by kernel_rfl
theorem call_61  : callB Try.prog 61 = true := by kernel_rfl
theorem call_62  : callB Try.prog 62 = true := by kernel_rfl
theorem call_63  : callB Try.prog 63 = true := by kernel_rfl
theorem call_64  : callB Try.prog 64 = true := by kernel_rfl
theorem call_65  : callB Try.prog 65 = true := by kernel_rfl
theorem call_66  : callB Try.prog 66 = true := by kernel_rfl
theorem call_67  : callB Try.prog 67 = true := by kernel_rfl
theorem call_68  : callB Try.prog 68 = true := by kernel_rfl
theorem call_69  : callB Try.prog 69 = true := by kernel_rfl
theorem call_70  : callB Try.prog 70 = true := by kernel_rfl
theorem call_71  : callB Try.prog 71 = true := by kernel_rfl
theorem call_74  : callB Try.prog 74 = true := by kernel_rfl
theorem call_75  : callB Try.prog 75 = true := by kernel_rfl
theorem call_77  : callB Try.prog 77 = true := by kernel_rfl
theorem call_78  : callB Try.prog 78 = true := by kernel_rfl
theorem call_80  : callB Try.prog 80 = true := by kernel_rfl
end Go.Proofs.Ytdmakhnmfnkcmaa
