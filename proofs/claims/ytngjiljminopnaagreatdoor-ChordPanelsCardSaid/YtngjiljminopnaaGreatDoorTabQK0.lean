/- A part of the proof. -/
import Derived.Test.YtngjiljminopnaaGreatDoorTabQT
import Derived.Test.YtngjiljminopnaaGreatDoorPa1
import Derived.Test.YtngjiljminopnaaGreatDoorProg
import Derived.KernelRfl
set_option linter.all false
namespace Go.Tidy
open Go Go.Proofs
namespace Tab
theorem k59:FnOk Tryz.prog gl 55 f59:=fnOk_of (by kernel_rfl) (by kernel_rfl) (by kernel_rfl)
theorem k71:FnOk Tryz.prog gl 72 f71:=fnOk_of (by kernel_rfl) (by kernel_rfl) (by kernel_rfl)
theorem k123:FnOk Tryz.prog gl 136 f123:=fnOk_of (by kernel_rfl) (by kernel_rfl) (by kernel_rfl)
theorem k124:FnOk Tryz.prog gl 137 f124:=fnOk_of (by kernel_rfl) (by kernel_rfl) (by kernel_rfl)
theorem k190:FnOk Tryz.prog gl 198 f190:=fnOk_of (by kernel_rfl) (by kernel_rfl) (by kernel_rfl)
theorem k1113:FnOk Tryz.prog gl 9 f1113:=fnOk_of (by kernel_rfl) (by kernel_rfl) (by kernel_rfl)
theorem k1124:FnOk Tryz.prog gl 31 f1124:=fnOk_of (by kernel_rfl) (by kernel_rfl) (by kernel_rfl)
theorem k1125:FnOk Tryz.prog gl 33 f1125:=fnOk_of (by kernel_rfl) (by kernel_rfl) (by kernel_rfl)
theorem k1127:FnOk Tryz.prog gl 61 f1127:=fnOk_of (by kernel_rfl) (by kernel_rfl) (by kernel_rfl)
theorem k1131:FnOk Tryz.prog gl 62 f1131:=fnOk_of (by kernel_rfl) (by kernel_rfl) (by kernel_rfl)
theorem k1136:FnOk Tryz.prog gl 14 f1136:=fnOk_of (by kernel_rfl) (by kernel_rfl) (by kernel_rfl)
theorem k1141:FnOk Tryz.prog gl 65 f1141:=fnOk_of (by kernel_rfl) (by kernel_rfl) (by kernel_rfl)
theorem k1142:FnOk Tryz.prog gl 66 f1142:=fnOk_of (by kernel_rfl) (by kernel_rfl) (by kernel_rfl)
theorem k1161:FnOk Tryz.prog gl 27 f1161:=fnOk_of (by kernel_rfl) (by kernel_rfl) (by kernel_rfl)
theorem k1177:FnOk Tryz.prog gl 92 f1177:=fnOk_of (by kernel_rfl) (by kernel_rfl) (by kernel_rfl)
theorem k1180:FnOk Tryz.prog gl 123 f1180:=fnOk_of (by kernel_rfl) (by kernel_rfl) (by kernel_rfl)
theorem k1183:FnOk Tryz.prog gl 91 f1183:=fnOk_of (by kernel_rfl) (by kernel_rfl) (by kernel_rfl)
theorem k1191:FnOk Tryz.prog gl 99 f1191:=fnOk_of (by kernel_rfl) (by kernel_rfl) (by kernel_rfl)
theorem k1198:FnOk Tryz.prog gl 131 f1198:=fnOk_of (by kernel_rfl) (by kernel_rfl) (by kernel_rfl)
theorem k1202:FnOk Tryz.prog gl 132 f1202:=fnOk_of (by kernel_rfl) (by kernel_rfl) (by kernel_rfl)
theorem k1210:FnOk Tryz.prog gl 78 f1210:=fnOk_of (by kernel_rfl) (by kernel_rfl) (by kernel_rfl)
theorem k1213:FnOk Tryz.prog gl 96 f1213:=fnOk_of (by kernel_rfl) (by kernel_rfl) (by kernel_rfl)
theorem k1225:FnOk Tryz.prog gl 146 f1225:=fnOk_of (by kernel_rfl) (by kernel_rfl) (by kernel_rfl)
theorem k1226:FnOk Tryz.prog gl 143 f1226:=fnOk_of (by kernel_rfl) (by kernel_rfl) (by kernel_rfl)
theorem k1227:FnOk Tryz.prog gl 168 f1227:=fnOk_of (by kernel_rfl) (by kernel_rfl) (by kernel_rfl)
end Tab
end Go.Tidy
