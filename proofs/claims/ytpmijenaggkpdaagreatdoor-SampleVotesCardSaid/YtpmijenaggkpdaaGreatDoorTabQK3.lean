/- A part of the proof. -/
import Derived.Test.YtpmijenaggkpdaaGreatDoorTabQT
import Derived.Test.YtpmijenaggkpdaaGreatDoorPa1
import Derived.Test.YtpmijenaggkpdaaGreatDoorProg
import Derived.KernelRfl
set_option linter.all false
namespace Go.Tidy
open Go Go.Proofs
namespace Tab
theorem k3:FnOk Tryz.prog gl 3 f3:=fnOk_of (by kernel_rfl) (by kernel_rfl) (by kernel_rfl)
theorem k4:FnOk Tryz.prog gl 4 f4:=fnOk_of (by kernel_rfl) (by kernel_rfl) (by kernel_rfl)
theorem k8:FnOk Tryz.prog gl 8 f8:=fnOk_of (by kernel_rfl) (by kernel_rfl) (by kernel_rfl)
theorem k14:FnOk Tryz.prog gl 14 f14:=fnOk_of (by kernel_rfl) (by kernel_rfl) (by kernel_rfl)
theorem k16:FnOk Tryz.prog gl 16 f16:=fnOk_of (by kernel_rfl) (by kernel_rfl) (by kernel_rfl)
theorem k23:FnOk Tryz.prog gl 23 f23:=fnOk_of (by kernel_rfl) (by kernel_rfl) (by kernel_rfl)
theorem k28:FnOk Tryz.prog gl 28 f28:=fnOk_of (by kernel_rfl) (by kernel_rfl) (by kernel_rfl)
theorem k30:FnOk Tryz.prog gl 30 f30:=fnOk_of (by kernel_rfl) (by kernel_rfl) (by kernel_rfl)
theorem k31:FnOk Tryz.prog gl 31 f31:=fnOk_of (by kernel_rfl) (by kernel_rfl) (by kernel_rfl)
theorem k39:FnOk Tryz.prog gl 39 f39:=fnOk_of (by kernel_rfl) (by kernel_rfl) (by kernel_rfl)
theorem k42:FnOk Tryz.prog gl 42 f42:=fnOk_of (by kernel_rfl) (by kernel_rfl) (by kernel_rfl)
theorem k56:FnOk Tryz.prog gl 56 f56:=fnOk_of (by kernel_rfl) (by kernel_rfl) (by kernel_rfl)
theorem k58:FnOk Tryz.prog gl 58 f58:=fnOk_of (by kernel_rfl) (by kernel_rfl) (by kernel_rfl)
theorem k63:FnOk Tryz.prog gl 63 f63:=fnOk_of (by kernel_rfl) (by kernel_rfl) (by kernel_rfl)
theorem k64:FnOk Tryz.prog gl 64 f64:=fnOk_of (by kernel_rfl) (by kernel_rfl) (by kernel_rfl)
theorem k65:FnOk Tryz.prog gl 65 f65:=fnOk_of (by kernel_rfl) (by kernel_rfl) (by kernel_rfl)
theorem k66:FnOk Tryz.prog gl 66 f66:=fnOk_of (by kernel_rfl) (by kernel_rfl) (by kernel_rfl)
theorem k88:FnOk Tryz.prog gl 88 f88:=fnOk_of (by kernel_rfl) (by kernel_rfl) (by kernel_rfl)
theorem k93:FnOk Tryz.prog gl 93 f93:=fnOk_of (by kernel_rfl) (by kernel_rfl) (by kernel_rfl)
theorem k99:FnOk Tryz.prog gl 99 f99:=fnOk_of (by kernel_rfl) (by kernel_rfl) (by kernel_rfl)
theorem k101:FnOk Tryz.prog gl 101 f101:=fnOk_of (by kernel_rfl) (by kernel_rfl) (by kernel_rfl)
theorem k104:FnOk Tryz.prog gl 104 f104:=fnOk_of (by kernel_rfl) (by kernel_rfl) (by kernel_rfl)
theorem k113:FnOk Tryz.prog gl 113 f113:=fnOk_of (by kernel_rfl) (by kernel_rfl) (by kernel_rfl)
theorem k117:FnOk Tryz.prog gl 117 f117:=fnOk_of (by kernel_rfl) (by kernel_rfl) (by kernel_rfl)
theorem k119:FnOk Tryz.prog gl 119 f119:=fnOk_of (by kernel_rfl) (by kernel_rfl) (by kernel_rfl)
theorem k120:FnOk Tryz.prog gl 120 f120:=fnOk_of (by kernel_rfl) (by kernel_rfl) (by kernel_rfl)
theorem k121:FnOk Tryz.prog gl 121 f121:=fnOk_of (by kernel_rfl) (by kernel_rfl) (by kernel_rfl)
theorem k122:FnOk Tryz.prog gl 122 f122:=fnOk_of (by kernel_rfl) (by kernel_rfl) (by kernel_rfl)
theorem k123:FnOk Tryz.prog gl 123 f123:=fnOk_of (by kernel_rfl) (by kernel_rfl) (by kernel_rfl)
theorem k125:FnOk Tryz.prog gl 125 f125:=fnOk_of (by kernel_rfl) (by kernel_rfl) (by kernel_rfl)
theorem k140:FnOk Tryz.prog gl 140 f140:=fnOk_of (by kernel_rfl) (by kernel_rfl) (by kernel_rfl)
theorem k145:FnOk Tryz.prog gl 145 f145:=fnOk_of (by kernel_rfl) (by kernel_rfl) (by kernel_rfl)
theorem k146:FnOk Tryz.prog gl 146 f146:=fnOk_of (by kernel_rfl) (by kernel_rfl) (by kernel_rfl)
theorem k147:FnOk Tryz.prog gl 147 f147:=fnOk_of (by kernel_rfl) (by kernel_rfl) (by kernel_rfl)
theorem k148:FnOk Tryz.prog gl 148 f148:=fnOk_of (by kernel_rfl) (by kernel_rfl) (by kernel_rfl)
theorem k154:FnOk Tryz.prog gl 154 f154:=fnOk_of (by kernel_rfl) (by kernel_rfl) (by kernel_rfl)
theorem k171:FnOk Tryz.prog gl 171 f171:=fnOk_of (by kernel_rfl) (by kernel_rfl) (by kernel_rfl)
theorem k174:FnOk Tryz.prog gl 174 f174:=fnOk_of (by kernel_rfl) (by kernel_rfl) (by kernel_rfl)
theorem k183:FnOk Tryz.prog gl 183 f183:=fnOk_of (by kernel_rfl) (by kernel_rfl) (by kernel_rfl)
theorem k199:FnOk Tryz.prog gl 199 f199:=fnOk_of (by kernel_rfl) (by kernel_rfl) (by kernel_rfl)
end Tab
end Go.Tidy
