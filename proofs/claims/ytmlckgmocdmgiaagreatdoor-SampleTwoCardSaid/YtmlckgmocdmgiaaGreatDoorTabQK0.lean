/- A part of the proof. -/
import Derived.Test.YtmlckgmocdmgiaaGreatDoorTabQT
import Derived.Test.YtmlckgmocdmgiaaGreatDoorPa1
import Derived.Test.YtmlckgmocdmgiaaGreatDoorProg
import Derived.KernelRfl
set_option linter.all false
namespace Go.Tidy
open Go Go.Proofs
namespace Tab
theorem k3 : FnOk Tryz.prog gl 3 f3 := fnOk_of (by kernel_rfl) (by kernel_rfl) (by kernel_rfl)
theorem k7 : FnOk Tryz.prog gl 7 f7 := fnOk_of (by kernel_rfl) (by kernel_rfl) (by kernel_rfl)
theorem k11 : FnOk Tryz.prog gl 11 f11 := fnOk_of (by kernel_rfl) (by kernel_rfl) (by kernel_rfl)
theorem k18 : FnOk Tryz.prog gl 18 f18 := fnOk_of (by kernel_rfl) (by kernel_rfl) (by kernel_rfl)
theorem k22 : FnOk Tryz.prog gl 22 f22 := fnOk_of (by kernel_rfl) (by kernel_rfl) (by kernel_rfl)
theorem k29 : FnOk Tryz.prog gl 29 f29 := fnOk_of (by kernel_rfl) (by kernel_rfl) (by kernel_rfl)
theorem k30 : FnOk Tryz.prog gl 30 f30 := fnOk_of (by kernel_rfl) (by kernel_rfl) (by kernel_rfl)
theorem k33 : FnOk Tryz.prog gl 33 f33 := fnOk_of (by kernel_rfl) (by kernel_rfl) (by kernel_rfl)
theorem k41 : FnOk Tryz.prog gl 41 f41 := fnOk_of (by kernel_rfl) (by kernel_rfl) (by kernel_rfl)
theorem k43 : FnOk Tryz.prog gl 43 f43 := fnOk_of (by kernel_rfl) (by kernel_rfl) (by kernel_rfl)
theorem k51 : FnOk Tryz.prog gl 51 f51 := fnOk_of (by kernel_rfl) (by kernel_rfl) (by kernel_rfl)
theorem k60 : FnOk Tryz.prog gl 60 f60 := fnOk_of (by kernel_rfl) (by kernel_rfl) (by kernel_rfl)
theorem k61 : FnOk Tryz.prog gl 61 f61 := fnOk_of (by kernel_rfl) (by kernel_rfl) (by kernel_rfl)
theorem k65 : FnOk Tryz.prog gl 65 f65 := fnOk_of (by kernel_rfl) (by kernel_rfl) (by kernel_rfl)
theorem k71 : FnOk Tryz.prog gl 71 f71 := fnOk_of (by kernel_rfl) (by kernel_rfl) (by kernel_rfl)
theorem k72 : FnOk Tryz.prog gl 72 f72 := fnOk_of (by kernel_rfl) (by kernel_rfl) (by kernel_rfl)
theorem k78 : FnOk Tryz.prog gl 78 f78 := fnOk_of (by kernel_rfl) (by kernel_rfl) (by kernel_rfl)
theorem k81 : FnOk Tryz.prog gl 81 f81 := fnOk_of (by kernel_rfl) (by kernel_rfl) (by kernel_rfl)
theorem k83 : FnOk Tryz.prog gl 83 f83 := fnOk_of (by kernel_rfl) (by kernel_rfl) (by kernel_rfl)
theorem k87 : FnOk Tryz.prog gl 87 f87 := fnOk_of (by kernel_rfl) (by kernel_rfl) (by kernel_rfl)
theorem k102 : FnOk Tryz.prog gl 102 f102 := fnOk_of (by kernel_rfl) (by kernel_rfl) (by kernel_rfl)
theorem k104 : FnOk Tryz.prog gl 104 f104 := fnOk_of (by kernel_rfl) (by kernel_rfl) (by kernel_rfl)
theorem k105 : FnOk Tryz.prog gl 105 f105 := fnOk_of (by kernel_rfl) (by kernel_rfl) (by kernel_rfl)
theorem k108 : FnOk Tryz.prog gl 108 f108 := fnOk_of (by kernel_rfl) (by kernel_rfl) (by kernel_rfl)
theorem k112 : FnOk Tryz.prog gl 112 f112 := fnOk_of (by kernel_rfl) (by kernel_rfl) (by kernel_rfl)
theorem k113 : FnOk Tryz.prog gl 113 f113 := fnOk_of (by kernel_rfl) (by kernel_rfl) (by kernel_rfl)
theorem k117 : FnOk Tryz.prog gl 117 f117 := fnOk_of (by kernel_rfl) (by kernel_rfl) (by kernel_rfl)
theorem k123 : FnOk Tryz.prog gl 123 f123 := fnOk_of (by kernel_rfl) (by kernel_rfl) (by kernel_rfl)
theorem k125 : FnOk Tryz.prog gl 125 f125 := fnOk_of (by kernel_rfl) (by kernel_rfl) (by kernel_rfl)
theorem k127 : FnOk Tryz.prog gl 127 f127 := fnOk_of (by kernel_rfl) (by kernel_rfl) (by kernel_rfl)
theorem k130 : FnOk Tryz.prog gl 130 f130 := fnOk_of (by kernel_rfl) (by kernel_rfl) (by kernel_rfl)
theorem k131 : FnOk Tryz.prog gl 131 f131 := fnOk_of (by kernel_rfl) (by kernel_rfl) (by kernel_rfl)
theorem k136 : FnOk Tryz.prog gl 136 f136 := fnOk_of (by kernel_rfl) (by kernel_rfl) (by kernel_rfl)
theorem k137 : FnOk Tryz.prog gl 137 f137 := fnOk_of (by kernel_rfl) (by kernel_rfl) (by kernel_rfl)
theorem k146 : FnOk Tryz.prog gl 146 f146 := fnOk_of (by kernel_rfl) (by kernel_rfl) (by kernel_rfl)
theorem k153 : FnOk Tryz.prog gl 153 f153 := fnOk_of (by kernel_rfl) (by kernel_rfl) (by kernel_rfl)
theorem k160 : FnOk Tryz.prog gl 160 f160 := fnOk_of (by kernel_rfl) (by kernel_rfl) (by kernel_rfl)
theorem k170 : FnOk Tryz.prog gl 170 f170 := fnOk_of (by kernel_rfl) (by kernel_rfl) (by kernel_rfl)
end Tab
end Go.Tidy
