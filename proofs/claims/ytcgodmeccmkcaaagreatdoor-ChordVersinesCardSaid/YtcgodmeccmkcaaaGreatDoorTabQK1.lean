/- A part of the proof. -/
import Derived.Test.YtcgodmeccmkcaaaGreatDoorTabQT
import Derived.Test.YtcgodmeccmkcaaaGreatDoorPa1
import Derived.Test.YtcgodmeccmkcaaaGreatDoorProg
import Derived.KernelRfl
set_option linter.all false
namespace Go.Tidy
open Go Go.Proofs
namespace Tab
theorem k14:FnOk Tryz.prog gl 18 f14:=fnOk_of (by kernel_rfl) (by kernel_rfl) (by kernel_rfl)
theorem k77:FnOk Tryz.prog gl 70 f77:=fnOk_of (by kernel_rfl) (by kernel_rfl) (by kernel_rfl)
theorem k122:FnOk Tryz.prog gl 129 f122:=fnOk_of (by kernel_rfl) (by kernel_rfl) (by kernel_rfl)
theorem k124:FnOk Tryz.prog gl 131 f124:=fnOk_of (by kernel_rfl) (by kernel_rfl) (by kernel_rfl)
theorem k126:FnOk Tryz.prog gl 132 f126:=fnOk_of (by kernel_rfl) (by kernel_rfl) (by kernel_rfl)
theorem k140:FnOk Tryz.prog gl 136 f140:=fnOk_of (by kernel_rfl) (by kernel_rfl) (by kernel_rfl)
theorem k165:FnOk Tryz.prog gl 154 f165:=fnOk_of (by kernel_rfl) (by kernel_rfl) (by kernel_rfl)
theorem k173:FnOk Tryz.prog gl 164 f173:=fnOk_of (by kernel_rfl) (by kernel_rfl) (by kernel_rfl)
theorem k1064:FnOk Tryz.prog gl 124 f1064:=fnOk_of (by kernel_rfl) (by kernel_rfl) (by kernel_rfl)
theorem k1115:FnOk Tryz.prog gl 14 f1115:=fnOk_of (by kernel_rfl) (by kernel_rfl) (by kernel_rfl)
theorem k1117:FnOk Tryz.prog gl 16 f1117:=fnOk_of (by kernel_rfl) (by kernel_rfl) (by kernel_rfl)
theorem k1142:FnOk Tryz.prog gl 42 f1142:=fnOk_of (by kernel_rfl) (by kernel_rfl) (by kernel_rfl)
theorem k1159:FnOk Tryz.prog gl 66 f1159:=fnOk_of (by kernel_rfl) (by kernel_rfl) (by kernel_rfl)
theorem k1170:FnOk Tryz.prog gl 60 f1170:=fnOk_of (by kernel_rfl) (by kernel_rfl) (by kernel_rfl)
theorem k1171:FnOk Tryz.prog gl 62 f1171:=fnOk_of (by kernel_rfl) (by kernel_rfl) (by kernel_rfl)
theorem k1172:FnOk Tryz.prog gl 63 f1172:=fnOk_of (by kernel_rfl) (by kernel_rfl) (by kernel_rfl)
theorem k1175:FnOk Tryz.prog gl 67 f1175:=fnOk_of (by kernel_rfl) (by kernel_rfl) (by kernel_rfl)
theorem k1181:FnOk Tryz.prog gl 76 f1181:=fnOk_of (by kernel_rfl) (by kernel_rfl) (by kernel_rfl)
theorem k1188:FnOk Tryz.prog gl 88 f1188:=fnOk_of (by kernel_rfl) (by kernel_rfl) (by kernel_rfl)
theorem k1194:FnOk Tryz.prog gl 94 f1194:=fnOk_of (by kernel_rfl) (by kernel_rfl) (by kernel_rfl)
theorem k1202:FnOk Tryz.prog gl 102 f1202:=fnOk_of (by kernel_rfl) (by kernel_rfl) (by kernel_rfl)
theorem k1212:FnOk Tryz.prog gl 128 f1212:=fnOk_of (by kernel_rfl) (by kernel_rfl) (by kernel_rfl)
theorem k1216:FnOk Tryz.prog gl 118 f1216:=fnOk_of (by kernel_rfl) (by kernel_rfl) (by kernel_rfl)
theorem k1219:FnOk Tryz.prog gl 121 f1219:=fnOk_of (by kernel_rfl) (by kernel_rfl) (by kernel_rfl)
theorem k1228:FnOk Tryz.prog gl 139 f1228:=fnOk_of (by kernel_rfl) (by kernel_rfl) (by kernel_rfl)
theorem k1233:FnOk Tryz.prog gl 166 f1233:=fnOk_of (by kernel_rfl) (by kernel_rfl) (by kernel_rfl)
theorem k1235:FnOk Tryz.prog gl 176 f1235:=fnOk_of (by kernel_rfl) (by kernel_rfl) (by kernel_rfl)
end Tab
end Go.Tidy
