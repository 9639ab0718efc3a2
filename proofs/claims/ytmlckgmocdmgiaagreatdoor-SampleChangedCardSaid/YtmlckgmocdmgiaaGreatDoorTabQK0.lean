/- A part of the proof. -/
import Derived.Test.YtmlckgmocdmgiaaGreatDoorTabQT
import Derived.Test.YtmlckgmocdmgiaaGreatDoorPa1
import Derived.Test.YtmlckgmocdmgiaaGreatDoorProg
import Derived.KernelRfl
set_option linter.all false
namespace Go.Tidy
open Go Go.Proofs
namespace Tab
theorem k5 : FnOk Tryz.prog gl 5 f5 := fnOk_of (by kernel_rfl) (by kernel_rfl) (by kernel_rfl)
theorem k11 : FnOk Tryz.prog gl 11 f11 := fnOk_of (by kernel_rfl) (by kernel_rfl) (by kernel_rfl)
theorem k13 : FnOk Tryz.prog gl 13 f13 := fnOk_of (by kernel_rfl) (by kernel_rfl) (by kernel_rfl)
theorem k14 : FnOk Tryz.prog gl 14 f14 := fnOk_of (by kernel_rfl) (by kernel_rfl) (by kernel_rfl)
theorem k18 : FnOk Tryz.prog gl 18 f18 := fnOk_of (by kernel_rfl) (by kernel_rfl) (by kernel_rfl)
theorem k23 : FnOk Tryz.prog gl 23 f23 := fnOk_of (by kernel_rfl) (by kernel_rfl) (by kernel_rfl)
theorem k25 : FnOk Tryz.prog gl 25 f25 := fnOk_of (by kernel_rfl) (by kernel_rfl) (by kernel_rfl)
theorem k26 : FnOk Tryz.prog gl 26 f26 := fnOk_of (by kernel_rfl) (by kernel_rfl) (by kernel_rfl)
theorem k29 : FnOk Tryz.prog gl 29 f29 := fnOk_of (by kernel_rfl) (by kernel_rfl) (by kernel_rfl)
theorem k48 : FnOk Tryz.prog gl 48 f48 := fnOk_of (by kernel_rfl) (by kernel_rfl) (by kernel_rfl)
theorem k59 : FnOk Tryz.prog gl 59 f59 := fnOk_of (by kernel_rfl) (by kernel_rfl) (by kernel_rfl)
theorem k63 : FnOk Tryz.prog gl 63 f63 := fnOk_of (by kernel_rfl) (by kernel_rfl) (by kernel_rfl)
theorem k64 : FnOk Tryz.prog gl 64 f64 := fnOk_of (by kernel_rfl) (by kernel_rfl) (by kernel_rfl)
theorem k66 : FnOk Tryz.prog gl 66 f66 := fnOk_of (by kernel_rfl) (by kernel_rfl) (by kernel_rfl)
theorem k67 : FnOk Tryz.prog gl 67 f67 := fnOk_of (by kernel_rfl) (by kernel_rfl) (by kernel_rfl)
theorem k73 : FnOk Tryz.prog gl 73 f73 := fnOk_of (by kernel_rfl) (by kernel_rfl) (by kernel_rfl)
theorem k77 : FnOk Tryz.prog gl 77 f77 := fnOk_of (by kernel_rfl) (by kernel_rfl) (by kernel_rfl)
theorem k80 : FnOk Tryz.prog gl 80 f80 := fnOk_of (by kernel_rfl) (by kernel_rfl) (by kernel_rfl)
theorem k84 : FnOk Tryz.prog gl 84 f84 := fnOk_of (by kernel_rfl) (by kernel_rfl) (by kernel_rfl)
theorem k86 : FnOk Tryz.prog gl 86 f86 := fnOk_of (by kernel_rfl) (by kernel_rfl) (by kernel_rfl)
theorem k87 : FnOk Tryz.prog gl 87 f87 := fnOk_of (by kernel_rfl) (by kernel_rfl) (by kernel_rfl)
theorem k88 : FnOk Tryz.prog gl 88 f88 := fnOk_of (by kernel_rfl) (by kernel_rfl) (by kernel_rfl)
theorem k89 : FnOk Tryz.prog gl 89 f89 := fnOk_of (by kernel_rfl) (by kernel_rfl) (by kernel_rfl)
theorem k91 : FnOk Tryz.prog gl 91 f91 := fnOk_of (by kernel_rfl) (by kernel_rfl) (by kernel_rfl)
theorem k97 : FnOk Tryz.prog gl 97 f97 := fnOk_of (by kernel_rfl) (by kernel_rfl) (by kernel_rfl)
theorem k106 : FnOk Tryz.prog gl 106 f106 := fnOk_of (by kernel_rfl) (by kernel_rfl) (by kernel_rfl)
theorem k108 : FnOk Tryz.prog gl 108 f108 := fnOk_of (by kernel_rfl) (by kernel_rfl) (by kernel_rfl)
theorem k111 : FnOk Tryz.prog gl 111 f111 := fnOk_of (by kernel_rfl) (by kernel_rfl) (by kernel_rfl)
theorem k119 : FnOk Tryz.prog gl 119 f119 := fnOk_of (by kernel_rfl) (by kernel_rfl) (by kernel_rfl)
theorem k127 : FnOk Tryz.prog gl 127 f127 := fnOk_of (by kernel_rfl) (by kernel_rfl) (by kernel_rfl)
theorem k128 : FnOk Tryz.prog gl 128 f128 := fnOk_of (by kernel_rfl) (by kernel_rfl) (by kernel_rfl)
theorem k144 : FnOk Tryz.prog gl 144 f144 := fnOk_of (by kernel_rfl) (by kernel_rfl) (by kernel_rfl)
theorem k151 : FnOk Tryz.prog gl 151 f151 := fnOk_of (by kernel_rfl) (by kernel_rfl) (by kernel_rfl)
theorem k160 : FnOk Tryz.prog gl 160 f160 := fnOk_of (by kernel_rfl) (by kernel_rfl) (by kernel_rfl)
theorem k169 : FnOk Tryz.prog gl 169 f169 := fnOk_of (by kernel_rfl) (by kernel_rfl) (by kernel_rfl)
theorem k172 : FnOk Tryz.prog gl 172 f172 := fnOk_of (by kernel_rfl) (by kernel_rfl) (by kernel_rfl)
theorem k173 : FnOk Tryz.prog gl 173 f173 := fnOk_of (by kernel_rfl) (by kernel_rfl) (by kernel_rfl)
theorem k176 : FnOk Tryz.prog gl 176 f176 := fnOk_of (by kernel_rfl) (by kernel_rfl) (by kernel_rfl)
end Tab
end Go.Tidy
