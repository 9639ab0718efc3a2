/- A part of the proof. -/
import Derived.Test.YtcgodmeccmkcaaaGreatDoorTabQT
import Derived.Test.YtcgodmeccmkcaaaGreatDoorPa1
import Derived.Test.YtcgodmeccmkcaaaGreatDoorProg
import Derived.KernelRfl
set_option linter.all false
namespace Go.Tidy
open Go Go.Proofs
namespace Tab
theorem k2:FnOk Tryz.prog gl 2 f2:=fnOk_of (by kernel_rfl) (by kernel_rfl) (by kernel_rfl)
theorem k59:FnOk Tryz.prog gl 68 f59:=fnOk_of (by kernel_rfl) (by kernel_rfl) (by kernel_rfl)
theorem k71:FnOk Tryz.prog gl 69 f71:=fnOk_of (by kernel_rfl) (by kernel_rfl) (by kernel_rfl)
theorem k72:FnOk Tryz.prog gl 79 f72:=fnOk_of (by kernel_rfl) (by kernel_rfl) (by kernel_rfl)
theorem k77:FnOk Tryz.prog gl 70 f77:=fnOk_of (by kernel_rfl) (by kernel_rfl) (by kernel_rfl)
theorem k140:FnOk Tryz.prog gl 136 f140:=fnOk_of (by kernel_rfl) (by kernel_rfl) (by kernel_rfl)
theorem k154:FnOk Tryz.prog gl 150 f154:=fnOk_of (by kernel_rfl) (by kernel_rfl) (by kernel_rfl)
theorem k155:FnOk Tryz.prog gl 151 f155:=fnOk_of (by kernel_rfl) (by kernel_rfl) (by kernel_rfl)
theorem k1064:FnOk Tryz.prog gl 124 f1064:=fnOk_of (by kernel_rfl) (by kernel_rfl) (by kernel_rfl)
theorem k1131:FnOk Tryz.prog gl 31 f1131:=fnOk_of (by kernel_rfl) (by kernel_rfl) (by kernel_rfl)
theorem k1135:FnOk Tryz.prog gl 35 f1135:=fnOk_of (by kernel_rfl) (by kernel_rfl) (by kernel_rfl)
theorem k1141:FnOk Tryz.prog gl 41 f1141:=fnOk_of (by kernel_rfl) (by kernel_rfl) (by kernel_rfl)
theorem k1147:FnOk Tryz.prog gl 49 f1147:=fnOk_of (by kernel_rfl) (by kernel_rfl) (by kernel_rfl)
theorem k1155:FnOk Tryz.prog gl 56 f1155:=fnOk_of (by kernel_rfl) (by kernel_rfl) (by kernel_rfl)
theorem k1159:FnOk Tryz.prog gl 66 f1159:=fnOk_of (by kernel_rfl) (by kernel_rfl) (by kernel_rfl)
theorem k1172:FnOk Tryz.prog gl 63 f1172:=fnOk_of (by kernel_rfl) (by kernel_rfl) (by kernel_rfl)
theorem k1175:FnOk Tryz.prog gl 67 f1175:=fnOk_of (by kernel_rfl) (by kernel_rfl) (by kernel_rfl)
theorem k1179:FnOk Tryz.prog gl 74 f1179:=fnOk_of (by kernel_rfl) (by kernel_rfl) (by kernel_rfl)
theorem k1195:FnOk Tryz.prog gl 95 f1195:=fnOk_of (by kernel_rfl) (by kernel_rfl) (by kernel_rfl)
theorem k1200:FnOk Tryz.prog gl 100 f1200:=fnOk_of (by kernel_rfl) (by kernel_rfl) (by kernel_rfl)
theorem k1202:FnOk Tryz.prog gl 102 f1202:=fnOk_of (by kernel_rfl) (by kernel_rfl) (by kernel_rfl)
theorem k1204:FnOk Tryz.prog gl 104 f1204:=fnOk_of (by kernel_rfl) (by kernel_rfl) (by kernel_rfl)
theorem k1211:FnOk Tryz.prog gl 123 f1211:=fnOk_of (by kernel_rfl) (by kernel_rfl) (by kernel_rfl)
theorem k1216:FnOk Tryz.prog gl 118 f1216:=fnOk_of (by kernel_rfl) (by kernel_rfl) (by kernel_rfl)
theorem k1219:FnOk Tryz.prog gl 121 f1219:=fnOk_of (by kernel_rfl) (by kernel_rfl) (by kernel_rfl)
theorem k1222:FnOk Tryz.prog gl 127 f1222:=fnOk_of (by kernel_rfl) (by kernel_rfl) (by kernel_rfl)
theorem k1229:FnOk Tryz.prog gl 147 f1229:=fnOk_of (by kernel_rfl) (by kernel_rfl) (by kernel_rfl)
theorem k1231:FnOk Tryz.prog gl 149 f1231:=fnOk_of (by kernel_rfl) (by kernel_rfl) (by kernel_rfl)
theorem k1233:FnOk Tryz.prog gl 166 f1233:=fnOk_of (by kernel_rfl) (by kernel_rfl) (by kernel_rfl)
end Tab
end Go.Tidy
