/- A part of the proof. -/
import Derived.Test.YtcgodmeccmkcaaaGreatDoorTabQT
import Derived.Test.YtcgodmeccmkcaaaGreatDoorPa1
import Derived.Test.YtcgodmeccmkcaaaGreatDoorProg
import Derived.KernelRfl
set_option linter.all false
namespace Go.Tidy
open Go Go.Proofs
namespace Tab
theorem k2:FnOk Tryz.prog gl 2 f2:=fnOk_of (by kernel_rfl) (by kernel_rfl) (by kernel_rfl)
theorem k14:FnOk Tryz.prog gl 18 f14:=fnOk_of (by kernel_rfl) (by kernel_rfl) (by kernel_rfl)
theorem k77:FnOk Tryz.prog gl 70 f77:=fnOk_of (by kernel_rfl) (by kernel_rfl) (by kernel_rfl)
theorem k126:FnOk Tryz.prog gl 132 f126:=fnOk_of (by kernel_rfl) (by kernel_rfl) (by kernel_rfl)
theorem k155:FnOk Tryz.prog gl 151 f155:=fnOk_of (by kernel_rfl) (by kernel_rfl) (by kernel_rfl)
theorem k165:FnOk Tryz.prog gl 154 f165:=fnOk_of (by kernel_rfl) (by kernel_rfl) (by kernel_rfl)
theorem k173:FnOk Tryz.prog gl 164 f173:=fnOk_of (by kernel_rfl) (by kernel_rfl) (by kernel_rfl)
theorem k174:FnOk Tryz.prog gl 165 f174:=fnOk_of (by kernel_rfl) (by kernel_rfl) (by kernel_rfl)
theorem k1064:FnOk Tryz.prog gl 124 f1064:=fnOk_of (by kernel_rfl) (by kernel_rfl) (by kernel_rfl)
theorem k1115:FnOk Tryz.prog gl 14 f1115:=fnOk_of (by kernel_rfl) (by kernel_rfl) (by kernel_rfl)
theorem k1124:FnOk Tryz.prog gl 24 f1124:=fnOk_of (by kernel_rfl) (by kernel_rfl) (by kernel_rfl)
theorem k1129:FnOk Tryz.prog gl 29 f1129:=fnOk_of (by kernel_rfl) (by kernel_rfl) (by kernel_rfl)
theorem k1134:FnOk Tryz.prog gl 34 f1134:=fnOk_of (by kernel_rfl) (by kernel_rfl) (by kernel_rfl)
theorem k1152:FnOk Tryz.prog gl 55 f1152:=fnOk_of (by kernel_rfl) (by kernel_rfl) (by kernel_rfl)
theorem k1170:FnOk Tryz.prog gl 60 f1170:=fnOk_of (by kernel_rfl) (by kernel_rfl) (by kernel_rfl)
theorem k1171:FnOk Tryz.prog gl 62 f1171:=fnOk_of (by kernel_rfl) (by kernel_rfl) (by kernel_rfl)
theorem k1181:FnOk Tryz.prog gl 76 f1181:=fnOk_of (by kernel_rfl) (by kernel_rfl) (by kernel_rfl)
theorem k1189:FnOk Tryz.prog gl 89 f1189:=fnOk_of (by kernel_rfl) (by kernel_rfl) (by kernel_rfl)
theorem k1190:FnOk Tryz.prog gl 90 f1190:=fnOk_of (by kernel_rfl) (by kernel_rfl) (by kernel_rfl)
theorem k1191:FnOk Tryz.prog gl 91 f1191:=fnOk_of (by kernel_rfl) (by kernel_rfl) (by kernel_rfl)
theorem k1192:FnOk Tryz.prog gl 92 f1192:=fnOk_of (by kernel_rfl) (by kernel_rfl) (by kernel_rfl)
theorem k1200:FnOk Tryz.prog gl 100 f1200:=fnOk_of (by kernel_rfl) (by kernel_rfl) (by kernel_rfl)
theorem k1219:FnOk Tryz.prog gl 121 f1219:=fnOk_of (by kernel_rfl) (by kernel_rfl) (by kernel_rfl)
theorem k1220:FnOk Tryz.prog gl 125 f1220:=fnOk_of (by kernel_rfl) (by kernel_rfl) (by kernel_rfl)
theorem k1222:FnOk Tryz.prog gl 127 f1222:=fnOk_of (by kernel_rfl) (by kernel_rfl) (by kernel_rfl)
theorem k1227:FnOk Tryz.prog gl 138 f1227:=fnOk_of (by kernel_rfl) (by kernel_rfl) (by kernel_rfl)
theorem k1232:FnOk Tryz.prog gl 153 f1232:=fnOk_of (by kernel_rfl) (by kernel_rfl) (by kernel_rfl)
end Tab
end Go.Tidy
