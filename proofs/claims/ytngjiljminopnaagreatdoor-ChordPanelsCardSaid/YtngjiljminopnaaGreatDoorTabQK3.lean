/- A part of the proof. -/
import Derived.Test.YtngjiljminopnaaGreatDoorTabQT
import Derived.Test.YtngjiljminopnaaGreatDoorPa1
import Derived.Test.YtngjiljminopnaaGreatDoorProg
import Derived.KernelRfl
set_option linter.all false
namespace Go.Tidy
open Go Go.Proofs
namespace Tab
theorem k18:FnOk Tryz.prog gl 42 f18:=fnOk_of (by kernel_rfl) (by kernel_rfl) (by kernel_rfl)
theorem k72:FnOk Tryz.prog gl 88 f72:=fnOk_of (by kernel_rfl) (by kernel_rfl) (by kernel_rfl)
theorem k140:FnOk Tryz.prog gl 147 f140:=fnOk_of (by kernel_rfl) (by kernel_rfl) (by kernel_rfl)
theorem k155:FnOk Tryz.prog gl 171 f155:=fnOk_of (by kernel_rfl) (by kernel_rfl) (by kernel_rfl)
theorem k156:FnOk Tryz.prog gl 172 f156:=fnOk_of (by kernel_rfl) (by kernel_rfl) (by kernel_rfl)
theorem k1071:FnOk Tryz.prog gl 141 f1071:=fnOk_of (by kernel_rfl) (by kernel_rfl) (by kernel_rfl)
theorem k1109:FnOk Tryz.prog gl 4 f1109:=fnOk_of (by kernel_rfl) (by kernel_rfl) (by kernel_rfl)
theorem k1152:FnOk Tryz.prog gl 37 f1152:=fnOk_of (by kernel_rfl) (by kernel_rfl) (by kernel_rfl)
theorem k1153:FnOk Tryz.prog gl 38 f1153:=fnOk_of (by kernel_rfl) (by kernel_rfl) (by kernel_rfl)
theorem k1154:FnOk Tryz.prog gl 39 f1154:=fnOk_of (by kernel_rfl) (by kernel_rfl) (by kernel_rfl)
theorem k1164:FnOk Tryz.prog gl 19 f1164:=fnOk_of (by kernel_rfl) (by kernel_rfl) (by kernel_rfl)
theorem k1169:FnOk Tryz.prog gl 59 f1169:=fnOk_of (by kernel_rfl) (by kernel_rfl) (by kernel_rfl)
theorem k1170:FnOk Tryz.prog gl 64 f1170:=fnOk_of (by kernel_rfl) (by kernel_rfl) (by kernel_rfl)
theorem k1172:FnOk Tryz.prog gl 12 f1172:=fnOk_of (by kernel_rfl) (by kernel_rfl) (by kernel_rfl)
theorem k1175:FnOk Tryz.prog gl 67 f1175:=fnOk_of (by kernel_rfl) (by kernel_rfl) (by kernel_rfl)
theorem k1178:FnOk Tryz.prog gl 100 f1178:=fnOk_of (by kernel_rfl) (by kernel_rfl) (by kernel_rfl)
theorem k1179:FnOk Tryz.prog gl 122 f1179:=fnOk_of (by kernel_rfl) (by kernel_rfl) (by kernel_rfl)
theorem k1196:FnOk Tryz.prog gl 130 f1196:=fnOk_of (by kernel_rfl) (by kernel_rfl) (by kernel_rfl)
theorem k1200:FnOk Tryz.prog gl 102 f1200:=fnOk_of (by kernel_rfl) (by kernel_rfl) (by kernel_rfl)
theorem k1203:FnOk Tryz.prog gl 133 f1203:=fnOk_of (by kernel_rfl) (by kernel_rfl) (by kernel_rfl)
theorem k1204:FnOk Tryz.prog gl 134 f1204:=fnOk_of (by kernel_rfl) (by kernel_rfl) (by kernel_rfl)
theorem k1209:FnOk Tryz.prog gl 74 f1209:=fnOk_of (by kernel_rfl) (by kernel_rfl) (by kernel_rfl)
theorem k1218:FnOk Tryz.prog gl 76 f1218:=fnOk_of (by kernel_rfl) (by kernel_rfl) (by kernel_rfl)
theorem k1219:FnOk Tryz.prog gl 77 f1219:=fnOk_of (by kernel_rfl) (by kernel_rfl) (by kernel_rfl)
theorem k1221:FnOk Tryz.prog gl 68 f1221:=fnOk_of (by kernel_rfl) (by kernel_rfl) (by kernel_rfl)
theorem k1222:FnOk Tryz.prog gl 69 f1222:=fnOk_of (by kernel_rfl) (by kernel_rfl) (by kernel_rfl)
theorem k1229:FnOk Tryz.prog gl 142 f1229:=fnOk_of (by kernel_rfl) (by kernel_rfl) (by kernel_rfl)
theorem k1231:FnOk Tryz.prog gl 140 f1231:=fnOk_of (by kernel_rfl) (by kernel_rfl) (by kernel_rfl)
end Tab
end Go.Tidy
