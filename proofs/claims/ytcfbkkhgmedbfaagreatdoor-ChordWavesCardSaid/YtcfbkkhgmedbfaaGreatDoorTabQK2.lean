/- A part of the proof. -/
import Derived.Test.YtcfbkkhgmedbfaaGreatDoorTabQT
import Derived.Test.YtcfbkkhgmedbfaaGreatDoorPa1
import Derived.Test.YtcfbkkhgmedbfaaGreatDoorProg
import Derived.KernelRfl
set_option linter.all false
namespace Go.Tidy
open Go Go.Proofs
namespace Tab
theorem k13:FnOk Tryz.prog gl 71 f13:=fnOk_of (by kernel_rfl) (by kernel_rfl) (by kernel_rfl)
theorem k59:FnOk Tryz.prog gl 38 f59:=fnOk_of (by kernel_rfl) (by kernel_rfl) (by kernel_rfl)
theorem k71:FnOk Tryz.prog gl 58 f71:=fnOk_of (by kernel_rfl) (by kernel_rfl) (by kernel_rfl)
theorem k122:FnOk Tryz.prog gl 118 f122:=fnOk_of (by kernel_rfl) (by kernel_rfl) (by kernel_rfl)
theorem k124:FnOk Tryz.prog gl 120 f124:=fnOk_of (by kernel_rfl) (by kernel_rfl) (by kernel_rfl)
theorem k126:FnOk Tryz.prog gl 121 f126:=fnOk_of (by kernel_rfl) (by kernel_rfl) (by kernel_rfl)
theorem k190:FnOk Tryz.prog gl 181 f190:=fnOk_of (by kernel_rfl) (by kernel_rfl) (by kernel_rfl)
theorem k1126:FnOk Tryz.prog gl 45 f1126:=fnOk_of (by kernel_rfl) (by kernel_rfl) (by kernel_rfl)
theorem k1127:FnOk Tryz.prog gl 46 f1127:=fnOk_of (by kernel_rfl) (by kernel_rfl) (by kernel_rfl)
theorem k1130:FnOk Tryz.prog gl 19 f1130:=fnOk_of (by kernel_rfl) (by kernel_rfl) (by kernel_rfl)
theorem k1136:FnOk Tryz.prog gl 11 f1136:=fnOk_of (by kernel_rfl) (by kernel_rfl) (by kernel_rfl)
theorem k1169:FnOk Tryz.prog gl 44 f1169:=fnOk_of (by kernel_rfl) (by kernel_rfl) (by kernel_rfl)
theorem k1190:FnOk Tryz.prog gl 111 f1190:=fnOk_of (by kernel_rfl) (by kernel_rfl) (by kernel_rfl)
theorem k1193:FnOk Tryz.prog gl 65 f1193:=fnOk_of (by kernel_rfl) (by kernel_rfl) (by kernel_rfl)
theorem k1199:FnOk Tryz.prog gl 67 f1199:=fnOk_of (by kernel_rfl) (by kernel_rfl) (by kernel_rfl)
theorem k1200:FnOk Tryz.prog gl 113 f1200:=fnOk_of (by kernel_rfl) (by kernel_rfl) (by kernel_rfl)
theorem k1202:FnOk Tryz.prog gl 115 f1202:=fnOk_of (by kernel_rfl) (by kernel_rfl) (by kernel_rfl)
theorem k1203:FnOk Tryz.prog gl 116 f1203:=fnOk_of (by kernel_rfl) (by kernel_rfl) (by kernel_rfl)
theorem k1212:FnOk Tryz.prog gl 80 f1212:=fnOk_of (by kernel_rfl) (by kernel_rfl) (by kernel_rfl)
theorem k1227:FnOk Tryz.prog gl 151 f1227:=fnOk_of (by kernel_rfl) (by kernel_rfl) (by kernel_rfl)
theorem k1228:FnOk Tryz.prog gl 152 f1228:=fnOk_of (by kernel_rfl) (by kernel_rfl) (by kernel_rfl)
theorem k1231:FnOk Tryz.prog gl 123 f1231:=fnOk_of (by kernel_rfl) (by kernel_rfl) (by kernel_rfl)
theorem k1235:FnOk Tryz.prog gl 186 f1235:=fnOk_of (by kernel_rfl) (by kernel_rfl) (by kernel_rfl)
theorem k1237:FnOk Tryz.prog gl 3 f1237:=fnOk_of (by kernel_rfl) (by kernel_rfl) (by kernel_rfl)
theorem k1240:FnOk Tryz.prog gl 17 f1240:=fnOk_of (by kernel_rfl) (by kernel_rfl) (by kernel_rfl)
theorem k1241:FnOk Tryz.prog gl 18 f1241:=fnOk_of (by kernel_rfl) (by kernel_rfl) (by kernel_rfl)
end Tab
end Go.Tidy
