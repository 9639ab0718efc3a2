/- A part of the proof. -/
import Derived.Test.YtpmijenaggkpdaaGreatTabQT
import Derived.Test.YtpmijenaggkpdaaGreatPa1
import Derived.Test.YtpmijenaggkpdaaGreatProg
import Derived.KernelRfl
set_option linter.all false
namespace Go.Tidy
open Go Go.Proofs
namespace Tab
theorem k2:FnOk Tryz.prog gl 2 f2:=fnOk_of (by kernel_rfl) (by kernel_rfl) (by kernel_rfl)
theorem k17:FnOk Tryz.prog gl 71 f17:=fnOk_of (by kernel_rfl) (by kernel_rfl) (by kernel_rfl)
theorem k21:FnOk Tryz.prog gl 35 f21:=fnOk_of (by kernel_rfl) (by kernel_rfl) (by kernel_rfl)
theorem k31:FnOk Tryz.prog gl 12 f31:=fnOk_of (by kernel_rfl) (by kernel_rfl) (by kernel_rfl)
theorem k41:FnOk Tryz.prog gl 32 f41:=fnOk_of (by kernel_rfl) (by kernel_rfl) (by kernel_rfl)
theorem k53:FnOk Tryz.prog gl 11 f53:=fnOk_of (by kernel_rfl) (by kernel_rfl) (by kernel_rfl)
theorem k55:FnOk Tryz.prog gl 7 f55:=fnOk_of (by kernel_rfl) (by kernel_rfl) (by kernel_rfl)
theorem k58:FnOk Tryz.prog gl 46 f58:=fnOk_of (by kernel_rfl) (by kernel_rfl) (by kernel_rfl)
theorem k81:FnOk Tryz.prog gl 61 f81:=fnOk_of (by kernel_rfl) (by kernel_rfl) (by kernel_rfl)
theorem k82:FnOk Tryz.prog gl 56 f82:=fnOk_of (by kernel_rfl) (by kernel_rfl) (by kernel_rfl)
theorem k86:FnOk Tryz.prog gl 67 f86:=fnOk_of (by kernel_rfl) (by kernel_rfl) (by kernel_rfl)
theorem k90:FnOk Tryz.prog gl 45 f90:=fnOk_of (by kernel_rfl) (by kernel_rfl) (by kernel_rfl)
theorem k94:FnOk Tryz.prog gl 44 f94:=fnOk_of (by kernel_rfl) (by kernel_rfl) (by kernel_rfl)
theorem k99:FnOk Tryz.prog gl 58 f99:=fnOk_of (by kernel_rfl) (by kernel_rfl) (by kernel_rfl)
theorem k103:FnOk Tryz.prog gl 51 f103:=fnOk_of (by kernel_rfl) (by kernel_rfl) (by kernel_rfl)
theorem k111:FnOk Tryz.prog gl 36 f111:=fnOk_of (by kernel_rfl) (by kernel_rfl) (by kernel_rfl)
theorem k112:FnOk Tryz.prog gl 38 f112:=fnOk_of (by kernel_rfl) (by kernel_rfl) (by kernel_rfl)
theorem k131:FnOk Tryz.prog gl 82 f131:=fnOk_of (by kernel_rfl) (by kernel_rfl) (by kernel_rfl)
theorem k134:FnOk Tryz.prog gl 62 f134:=fnOk_of (by kernel_rfl) (by kernel_rfl) (by kernel_rfl)
theorem k138:FnOk Tryz.prog gl 68 f138:=fnOk_of (by kernel_rfl) (by kernel_rfl) (by kernel_rfl)
theorem k142:FnOk Tryz.prog gl 73 f142:=fnOk_of (by kernel_rfl) (by kernel_rfl) (by kernel_rfl)
theorem k144:FnOk Tryz.prog gl 80 f144:=fnOk_of (by kernel_rfl) (by kernel_rfl) (by kernel_rfl)
theorem k146:FnOk Tryz.prog gl 75 f146:=fnOk_of (by kernel_rfl) (by kernel_rfl) (by kernel_rfl)
theorem k169:FnOk Tryz.prog gl 86 f169:=fnOk_of (by kernel_rfl) (by kernel_rfl) (by kernel_rfl)
theorem k1004:FnOk Tryz.prog gl 15 f1004:=fnOk_of (by kernel_rfl) (by kernel_rfl) (by kernel_rfl)
end Tab
end Go.Tidy
