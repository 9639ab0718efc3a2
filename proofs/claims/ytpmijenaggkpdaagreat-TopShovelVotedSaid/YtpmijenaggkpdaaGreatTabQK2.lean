/- A part of the proof. -/
import Derived.Test.YtpmijenaggkpdaaGreatTabQT
import Derived.Test.YtpmijenaggkpdaaGreatPa1
import Derived.Test.YtpmijenaggkpdaaGreatProg
import Derived.KernelRfl
set_option linter.all false
namespace Go.Tidy
open Go Go.Proofs
namespace Tab
theorem k23:FnOk Tryz.prog gl 4 f23:=fnOk_of (by kernel_rfl) (by kernel_rfl) (by kernel_rfl)
theorem k27:FnOk Tryz.prog gl 18 f27:=fnOk_of (by kernel_rfl) (by kernel_rfl) (by kernel_rfl)
theorem k39:FnOk Tryz.prog gl 23 f39:=fnOk_of (by kernel_rfl) (by kernel_rfl) (by kernel_rfl)
theorem k43:FnOk Tryz.prog gl 19 f43:=fnOk_of (by kernel_rfl) (by kernel_rfl) (by kernel_rfl)
theorem k50:FnOk Tryz.prog gl 20 f50:=fnOk_of (by kernel_rfl) (by kernel_rfl) (by kernel_rfl)
theorem k57:FnOk Tryz.prog gl 14 f57:=fnOk_of (by kernel_rfl) (by kernel_rfl) (by kernel_rfl)
theorem k59:FnOk Tryz.prog gl 22 f59:=fnOk_of (by kernel_rfl) (by kernel_rfl) (by kernel_rfl)
theorem k73:FnOk Tryz.prog gl 78 f73:=fnOk_of (by kernel_rfl) (by kernel_rfl) (by kernel_rfl)
theorem k74:FnOk Tryz.prog gl 79 f74:=fnOk_of (by kernel_rfl) (by kernel_rfl) (by kernel_rfl)
theorem k76:FnOk Tryz.prog gl 89 f76:=fnOk_of (by kernel_rfl) (by kernel_rfl) (by kernel_rfl)
theorem k77:FnOk Tryz.prog gl 33 f77:=fnOk_of (by kernel_rfl) (by kernel_rfl) (by kernel_rfl)
theorem k89:FnOk Tryz.prog gl 40 f89:=fnOk_of (by kernel_rfl) (by kernel_rfl) (by kernel_rfl)
theorem k101:FnOk Tryz.prog gl 49 f101:=fnOk_of (by kernel_rfl) (by kernel_rfl) (by kernel_rfl)
theorem k102:FnOk Tryz.prog gl 50 f102:=fnOk_of (by kernel_rfl) (by kernel_rfl) (by kernel_rfl)
theorem k104:FnOk Tryz.prog gl 52 f104:=fnOk_of (by kernel_rfl) (by kernel_rfl) (by kernel_rfl)
theorem k110:FnOk Tryz.prog gl 29 f110:=fnOk_of (by kernel_rfl) (by kernel_rfl) (by kernel_rfl)
theorem k132:FnOk Tryz.prog gl 83 f132:=fnOk_of (by kernel_rfl) (by kernel_rfl) (by kernel_rfl)
theorem k135:FnOk Tryz.prog gl 63 f135:=fnOk_of (by kernel_rfl) (by kernel_rfl) (by kernel_rfl)
theorem k140:FnOk Tryz.prog gl 70 f140:=fnOk_of (by kernel_rfl) (by kernel_rfl) (by kernel_rfl)
theorem k167:FnOk Tryz.prog gl 91 f167:=fnOk_of (by kernel_rfl) (by kernel_rfl) (by kernel_rfl)
theorem k168:FnOk Tryz.prog gl 85 f168:=fnOk_of (by kernel_rfl) (by kernel_rfl) (by kernel_rfl)
theorem k187:FnOk Tryz.prog gl 106 f187:=fnOk_of (by kernel_rfl) (by kernel_rfl) (by kernel_rfl)
theorem k199:FnOk Tryz.prog gl 113 f199:=fnOk_of (by kernel_rfl) (by kernel_rfl) (by kernel_rfl)
theorem k1001:FnOk Tryz.prog gl 5 f1001:=fnOk_of (by kernel_rfl) (by kernel_rfl) (by kernel_rfl)
end Tab
end Go.Tidy
