/- A part of the proof. -/
import Derived.Test.YtmjflkiiakmbiaaTabQT
import Derived.Test.YtmjflkiiakmbiaaPa1
import Derived.Test.YtmjflkiiakmbiaaProg
import Derived.KernelRfl
set_option linter.all false
namespace Go.Tidy
open Go Go.Proofs
namespace Tab
theorem k18:FnOk Try.prog gl 12 f18:=fnOk_of (by kernel_rfl) (by kernel_rfl) (by kernel_rfl)
theorem k24:FnOk Try.prog gl 9 f24:=fnOk_of (by kernel_rfl) (by kernel_rfl) (by kernel_rfl)
theorem k28:FnOk Try.prog gl 11 f28:=fnOk_of (by kernel_rfl) (by kernel_rfl) (by kernel_rfl)
theorem k31:FnOk Try.prog gl 16 f31:=fnOk_of (by kernel_rfl) (by kernel_rfl) (by kernel_rfl)
theorem k32:FnOk Try.prog gl 39 f32:=fnOk_of (by kernel_rfl) (by kernel_rfl) (by kernel_rfl)
theorem k59:FnOk Try.prog gl 14 f59:=fnOk_of (by kernel_rfl) (by kernel_rfl) (by kernel_rfl)
theorem k71:FnOk Try.prog gl 24 f71:=fnOk_of (by kernel_rfl) (by kernel_rfl) (by kernel_rfl)
theorem k73:FnOk Try.prog gl 71 f73:=fnOk_of (by kernel_rfl) (by kernel_rfl) (by kernel_rfl)
theorem k82:FnOk Try.prog gl 82 f82:=fnOk_of (by kernel_rfl) (by kernel_rfl) (by kernel_rfl)
theorem k84:FnOk Try.prog gl 28 f84:=fnOk_of (by kernel_rfl) (by kernel_rfl) (by kernel_rfl)
theorem k92:FnOk Try.prog gl 36 f92:=fnOk_of (by kernel_rfl) (by kernel_rfl) (by kernel_rfl)
theorem k93:FnOk Try.prog gl 38 f93:=fnOk_of (by kernel_rfl) (by kernel_rfl) (by kernel_rfl)
theorem k94:FnOk Try.prog gl 40 f94:=fnOk_of (by kernel_rfl) (by kernel_rfl) (by kernel_rfl)
theorem k99:FnOk Try.prog gl 43 f99:=fnOk_of (by kernel_rfl) (by kernel_rfl) (by kernel_rfl)
theorem k100:FnOk Try.prog gl 51 f100:=fnOk_of (by kernel_rfl) (by kernel_rfl) (by kernel_rfl)
theorem k121:FnOk Try.prog gl 22 f121:=fnOk_of (by kernel_rfl) (by kernel_rfl) (by kernel_rfl)
theorem k128:FnOk Try.prog gl 45 f128:=fnOk_of (by kernel_rfl) (by kernel_rfl) (by kernel_rfl)
theorem k136:FnOk Try.prog gl 55 f136:=fnOk_of (by kernel_rfl) (by kernel_rfl) (by kernel_rfl)
theorem k139:FnOk Try.prog gl 58 f139:=fnOk_of (by kernel_rfl) (by kernel_rfl) (by kernel_rfl)
theorem k140:FnOk Try.prog gl 59 f140:=fnOk_of (by kernel_rfl) (by kernel_rfl) (by kernel_rfl)
theorem k175:FnOk Try.prog gl 80 f175:=fnOk_of (by kernel_rfl) (by kernel_rfl) (by kernel_rfl)
theorem k1001:FnOk Try.prog gl 4 f1001:=fnOk_of (by kernel_rfl) (by kernel_rfl) (by kernel_rfl)
end Tab
end Go.Tidy
