/- A part of the proof. -/
import Derived.Test.YtcgodmeccmkcaaaGreatDoorTabQT
import Derived.Test.YtcgodmeccmkcaaaGreatDoorPa1
import Derived.Test.YtcgodmeccmkcaaaGreatDoorProg
import Derived.KernelRfl
set_option linter.all false
namespace Go.Tidy
open Go Go.Proofs
namespace Tab
theorem k16:FnOk Tryz.prog gl 140 f16:=fnOk_of (by kernel_rfl) (by kernel_rfl) (by kernel_rfl)
theorem k123:FnOk Tryz.prog gl 130 f123:=fnOk_of (by kernel_rfl) (by kernel_rfl) (by kernel_rfl)
theorem k156:FnOk Tryz.prog gl 152 f156:=fnOk_of (by kernel_rfl) (by kernel_rfl) (by kernel_rfl)
theorem k165:FnOk Tryz.prog gl 154 f165:=fnOk_of (by kernel_rfl) (by kernel_rfl) (by kernel_rfl)
theorem k190:FnOk Tryz.prog gl 171 f190:=fnOk_of (by kernel_rfl) (by kernel_rfl) (by kernel_rfl)
theorem k1113:FnOk Tryz.prog gl 12 f1113:=fnOk_of (by kernel_rfl) (by kernel_rfl) (by kernel_rfl)
theorem k1115:FnOk Tryz.prog gl 14 f1115:=fnOk_of (by kernel_rfl) (by kernel_rfl) (by kernel_rfl)
theorem k1126:FnOk Tryz.prog gl 26 f1126:=fnOk_of (by kernel_rfl) (by kernel_rfl) (by kernel_rfl)
theorem k1149:FnOk Tryz.prog gl 52 f1149:=fnOk_of (by kernel_rfl) (by kernel_rfl) (by kernel_rfl)
theorem k1156:FnOk Tryz.prog gl 57 f1156:=fnOk_of (by kernel_rfl) (by kernel_rfl) (by kernel_rfl)
theorem k1170:FnOk Tryz.prog gl 60 f1170:=fnOk_of (by kernel_rfl) (by kernel_rfl) (by kernel_rfl)
theorem k1171:FnOk Tryz.prog gl 62 f1171:=fnOk_of (by kernel_rfl) (by kernel_rfl) (by kernel_rfl)
theorem k1176:FnOk Tryz.prog gl 71 f1176:=fnOk_of (by kernel_rfl) (by kernel_rfl) (by kernel_rfl)
theorem k1178:FnOk Tryz.prog gl 73 f1178:=fnOk_of (by kernel_rfl) (by kernel_rfl) (by kernel_rfl)
theorem k1181:FnOk Tryz.prog gl 76 f1181:=fnOk_of (by kernel_rfl) (by kernel_rfl) (by kernel_rfl)
theorem k1184:FnOk Tryz.prog gl 81 f1184:=fnOk_of (by kernel_rfl) (by kernel_rfl) (by kernel_rfl)
theorem k1185:FnOk Tryz.prog gl 82 f1185:=fnOk_of (by kernel_rfl) (by kernel_rfl) (by kernel_rfl)
theorem k1186:FnOk Tryz.prog gl 83 f1186:=fnOk_of (by kernel_rfl) (by kernel_rfl) (by kernel_rfl)
theorem k1187:FnOk Tryz.prog gl 86 f1187:=fnOk_of (by kernel_rfl) (by kernel_rfl) (by kernel_rfl)
theorem k1190:FnOk Tryz.prog gl 90 f1190:=fnOk_of (by kernel_rfl) (by kernel_rfl) (by kernel_rfl)
theorem k1203:FnOk Tryz.prog gl 103 f1203:=fnOk_of (by kernel_rfl) (by kernel_rfl) (by kernel_rfl)
theorem k1208:FnOk Tryz.prog gl 111 f1208:=fnOk_of (by kernel_rfl) (by kernel_rfl) (by kernel_rfl)
theorem k1218:FnOk Tryz.prog gl 120 f1218:=fnOk_of (by kernel_rfl) (by kernel_rfl) (by kernel_rfl)
theorem k1227:FnOk Tryz.prog gl 138 f1227:=fnOk_of (by kernel_rfl) (by kernel_rfl) (by kernel_rfl)
theorem k1235:FnOk Tryz.prog gl 176 f1235:=fnOk_of (by kernel_rfl) (by kernel_rfl) (by kernel_rfl)
end Tab
end Go.Tidy
