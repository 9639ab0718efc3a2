/- A part of the proof. -/
import Derived.Test.YtmjflkiiakmbiaaTabQT
import Derived.Test.YtmjflkiiakmbiaaPa1
import Derived.Test.YtmjflkiiakmbiaaProg
import Derived.KernelRfl
set_option linter.all false
namespace Go.Tidy
open Go Go.Proofs
namespace Tab
theorem k13:FnOk Try.prog gl 35 f13:=fnOk_of (by kernel_rfl) (by kernel_rfl) (by kernel_rfl)
theorem k17:FnOk Try.prog gl 61 f17:=fnOk_of (by kernel_rfl) (by kernel_rfl) (by kernel_rfl)
theorem k22:FnOk Try.prog gl 76 f22:=fnOk_of (by kernel_rfl) (by kernel_rfl) (by kernel_rfl)
theorem k41:FnOk Try.prog gl 27 f41:=fnOk_of (by kernel_rfl) (by kernel_rfl) (by kernel_rfl)
theorem k66:FnOk Try.prog gl 8 f66:=fnOk_of (by kernel_rfl) (by kernel_rfl) (by kernel_rfl)
theorem k67:FnOk Try.prog gl 7 f67:=fnOk_of (by kernel_rfl) (by kernel_rfl) (by kernel_rfl)
theorem k74:FnOk Try.prog gl 72 f74:=fnOk_of (by kernel_rfl) (by kernel_rfl) (by kernel_rfl)
theorem k76:FnOk Try.prog gl 75 f76:=fnOk_of (by kernel_rfl) (by kernel_rfl) (by kernel_rfl)
theorem k86:FnOk Try.prog gl 30 f86:=fnOk_of (by kernel_rfl) (by kernel_rfl) (by kernel_rfl)
theorem k89:FnOk Try.prog gl 32 f89:=fnOk_of (by kernel_rfl) (by kernel_rfl) (by kernel_rfl)
theorem k117:FnOk Try.prog gl 20 f117:=fnOk_of (by kernel_rfl) (by kernel_rfl) (by kernel_rfl)
theorem k118:FnOk Try.prog gl 23 f118:=fnOk_of (by kernel_rfl) (by kernel_rfl) (by kernel_rfl)
theorem k119:FnOk Try.prog gl 26 f119:=fnOk_of (by kernel_rfl) (by kernel_rfl) (by kernel_rfl)
theorem k127:FnOk Try.prog gl 44 f127:=fnOk_of (by kernel_rfl) (by kernel_rfl) (by kernel_rfl)
theorem k131:FnOk Try.prog gl 84 f131:=fnOk_of (by kernel_rfl) (by kernel_rfl) (by kernel_rfl)
theorem k135:FnOk Try.prog gl 53 f135:=fnOk_of (by kernel_rfl) (by kernel_rfl) (by kernel_rfl)
theorem k142:FnOk Try.prog gl 63 f142:=fnOk_of (by kernel_rfl) (by kernel_rfl) (by kernel_rfl)
theorem k144:FnOk Try.prog gl 65 f144:=fnOk_of (by kernel_rfl) (by kernel_rfl) (by kernel_rfl)
theorem k149:FnOk Try.prog gl 60 f149:=fnOk_of (by kernel_rfl) (by kernel_rfl) (by kernel_rfl)
theorem k151:FnOk Try.prog gl 49 f151:=fnOk_of (by kernel_rfl) (by kernel_rfl) (by kernel_rfl)
theorem k170:FnOk Try.prog gl 69 f170:=fnOk_of (by kernel_rfl) (by kernel_rfl) (by kernel_rfl)
theorem k1099:FnOk Try.prog gl 6 f1099:=fnOk_of (by kernel_rfl) (by kernel_rfl) (by kernel_rfl)
end Tab
end Go.Tidy
