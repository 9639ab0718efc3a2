/- A part of the proof. -/
import Derived.Test.YtmlckgmocdmgiaaGreatDoorTabQT
import Derived.Test.YtmlckgmocdmgiaaGreatDoorPa1
import Derived.Test.YtmlckgmocdmgiaaGreatDoorProg
import Derived.KernelRfl
set_option linter.all false
namespace Go.Tidy
open Go Go.Proofs
namespace Tab
theorem k7 : FnOk Tryz.prog gl 7 f7 := fnOk_of (by kernel_rfl) (by kernel_rfl) (by kernel_rfl)
theorem k9 : FnOk Tryz.prog gl 9 f9 := fnOk_of (by kernel_rfl) (by kernel_rfl) (by kernel_rfl)
theorem k27 : FnOk Tryz.prog gl 27 f27 := fnOk_of (by kernel_rfl) (by kernel_rfl) (by kernel_rfl)
theorem k39 : FnOk Tryz.prog gl 39 f39 := fnOk_of (by kernel_rfl) (by kernel_rfl) (by kernel_rfl)
theorem k49 : FnOk Tryz.prog gl 49 f49 := fnOk_of (by kernel_rfl) (by kernel_rfl) (by kernel_rfl)
theorem k57 : FnOk Tryz.prog gl 57 f57 := fnOk_of (by kernel_rfl) (by kernel_rfl) (by kernel_rfl)
theorem k60 : FnOk Tryz.prog gl 60 f60 := fnOk_of (by kernel_rfl) (by kernel_rfl) (by kernel_rfl)
theorem k62 : FnOk Tryz.prog gl 62 f62 := fnOk_of (by kernel_rfl) (by kernel_rfl) (by kernel_rfl)
theorem k65 : FnOk Tryz.prog gl 65 f65 := fnOk_of (by kernel_rfl) (by kernel_rfl) (by kernel_rfl)
theorem k69 : FnOk Tryz.prog gl 69 f69 := fnOk_of (by kernel_rfl) (by kernel_rfl) (by kernel_rfl)
theorem k76 : FnOk Tryz.prog gl 76 f76 := fnOk_of (by kernel_rfl) (by kernel_rfl) (by kernel_rfl)
theorem k82 : FnOk Tryz.prog gl 82 f82 := fnOk_of (by kernel_rfl) (by kernel_rfl) (by kernel_rfl)
theorem k90 : FnOk Tryz.prog gl 90 f90 := fnOk_of (by kernel_rfl) (by kernel_rfl) (by kernel_rfl)
theorem k93 : FnOk Tryz.prog gl 93 f93 := fnOk_of (by kernel_rfl) (by kernel_rfl) (by kernel_rfl)
theorem k94 : FnOk Tryz.prog gl 94 f94 := fnOk_of (by kernel_rfl) (by kernel_rfl) (by kernel_rfl)
theorem k95 : FnOk Tryz.prog gl 95 f95 := fnOk_of (by kernel_rfl) (by kernel_rfl) (by kernel_rfl)
theorem k105 : FnOk Tryz.prog gl 105 f105 := fnOk_of (by kernel_rfl) (by kernel_rfl) (by kernel_rfl)
theorem k107 : FnOk Tryz.prog gl 107 f107 := fnOk_of (by kernel_rfl) (by kernel_rfl) (by kernel_rfl)
theorem k117 : FnOk Tryz.prog gl 117 f117 := fnOk_of (by kernel_rfl) (by kernel_rfl) (by kernel_rfl)
theorem k120 : FnOk Tryz.prog gl 120 f120 := fnOk_of (by kernel_rfl) (by kernel_rfl) (by kernel_rfl)
theorem k121 : FnOk Tryz.prog gl 121 f121 := fnOk_of (by kernel_rfl) (by kernel_rfl) (by kernel_rfl)
theorem k122 : FnOk Tryz.prog gl 122 f122 := fnOk_of (by kernel_rfl) (by kernel_rfl) (by kernel_rfl)
theorem k123 : FnOk Tryz.prog gl 123 f123 := fnOk_of (by kernel_rfl) (by kernel_rfl) (by kernel_rfl)
theorem k124 : FnOk Tryz.prog gl 124 f124 := fnOk_of (by kernel_rfl) (by kernel_rfl) (by kernel_rfl)
theorem k131 : FnOk Tryz.prog gl 131 f131 := fnOk_of (by kernel_rfl) (by kernel_rfl) (by kernel_rfl)
theorem k136 : FnOk Tryz.prog gl 136 f136 := fnOk_of (by kernel_rfl) (by kernel_rfl) (by kernel_rfl)
theorem k140 : FnOk Tryz.prog gl 140 f140 := fnOk_of (by kernel_rfl) (by kernel_rfl) (by kernel_rfl)
theorem k143 : FnOk Tryz.prog gl 143 f143 := fnOk_of (by kernel_rfl) (by kernel_rfl) (by kernel_rfl)
theorem k145 : FnOk Tryz.prog gl 145 f145 := fnOk_of (by kernel_rfl) (by kernel_rfl) (by kernel_rfl)
theorem k153 : FnOk Tryz.prog gl 153 f153 := fnOk_of (by kernel_rfl) (by kernel_rfl) (by kernel_rfl)
theorem k165 : FnOk Tryz.prog gl 165 f165 := fnOk_of (by kernel_rfl) (by kernel_rfl) (by kernel_rfl)
theorem k166 : FnOk Tryz.prog gl 166 f166 := fnOk_of (by kernel_rfl) (by kernel_rfl) (by kernel_rfl)
theorem k167 : FnOk Tryz.prog gl 167 f167 := fnOk_of (by kernel_rfl) (by kernel_rfl) (by kernel_rfl)
theorem k168 : FnOk Tryz.prog gl 168 f168 := fnOk_of (by kernel_rfl) (by kernel_rfl) (by kernel_rfl)
theorem k174 : FnOk Tryz.prog gl 174 f174 := fnOk_of (by kernel_rfl) (by kernel_rfl) (by kernel_rfl)
theorem k182 : FnOk Tryz.prog gl 182 f182 := fnOk_of (by kernel_rfl) (by kernel_rfl) (by kernel_rfl)
theorem k186 : FnOk Tryz.prog gl 186 f186 := fnOk_of (by kernel_rfl) (by kernel_rfl) (by kernel_rfl)
theorem k188 : FnOk Tryz.prog gl 188 f188 := fnOk_of (by kernel_rfl) (by kernel_rfl) (by kernel_rfl)
theorem k198 : FnOk Tryz.prog gl 198 f198 := fnOk_of (by kernel_rfl) (by kernel_rfl) (by kernel_rfl)
end Tab
end Go.Tidy
