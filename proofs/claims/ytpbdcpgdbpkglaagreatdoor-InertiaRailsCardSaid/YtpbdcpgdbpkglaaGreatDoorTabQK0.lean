/- A part of the proof. -/
import Derived.Test.YtpbdcpgdbpkglaaGreatDoorTabQT
import Derived.Test.YtpbdcpgdbpkglaaGreatDoorPa1
import Derived.Test.YtpbdcpgdbpkglaaGreatDoorProg
import Derived.KernelRfl
set_option linter.all false
namespace Go.Tidy
open Go Go.Proofs
namespace Tab
theorem k2:FnOk Tryz.prog gl 2 f2:=fnOk_of (by kernel_rfl) (by kernel_rfl) (by kernel_rfl)
theorem k18:FnOk Tryz.prog gl 75 f18:=fnOk_of (by kernel_rfl) (by kernel_rfl) (by kernel_rfl)
theorem k19:FnOk Tryz.prog gl 122 f19:=fnOk_of (by kernel_rfl) (by kernel_rfl) (by kernel_rfl)
theorem k71:FnOk Tryz.prog gl 81 f71:=fnOk_of (by kernel_rfl) (by kernel_rfl) (by kernel_rfl)
theorem k95:FnOk Tryz.prog gl 77 f95:=fnOk_of (by kernel_rfl) (by kernel_rfl) (by kernel_rfl)
theorem k115:FnOk Tryz.prog gl 165 f115:=fnOk_of (by kernel_rfl) (by kernel_rfl) (by kernel_rfl)
theorem k126:FnOk Tryz.prog gl 144 f126:=fnOk_of (by kernel_rfl) (by kernel_rfl) (by kernel_rfl)
theorem k132:FnOk Tryz.prog gl 175 f132:=fnOk_of (by kernel_rfl) (by kernel_rfl) (by kernel_rfl)
theorem k133:FnOk Tryz.prog gl 176 f133:=fnOk_of (by kernel_rfl) (by kernel_rfl) (by kernel_rfl)
theorem k140:FnOk Tryz.prog gl 107 f140:=fnOk_of (by kernel_rfl) (by kernel_rfl) (by kernel_rfl)
theorem k150:FnOk Tryz.prog gl 157 f150:=fnOk_of (by kernel_rfl) (by kernel_rfl) (by kernel_rfl)
theorem k154:FnOk Tryz.prog gl 168 f154:=fnOk_of (by kernel_rfl) (by kernel_rfl) (by kernel_rfl)
theorem k165:FnOk Tryz.prog gl 158 f165:=fnOk_of (by kernel_rfl) (by kernel_rfl) (by kernel_rfl)
theorem k169:FnOk Tryz.prog gl 178 f169:=fnOk_of (by kernel_rfl) (by kernel_rfl) (by kernel_rfl)
theorem k190:FnOk Tryz.prog gl 201 f190:=fnOk_of (by kernel_rfl) (by kernel_rfl) (by kernel_rfl)
theorem k199:FnOk Tryz.prog gl 211 f199:=fnOk_of (by kernel_rfl) (by kernel_rfl) (by kernel_rfl)
theorem k1255:FnOk Tryz.prog gl 16 f1255:=fnOk_of (by kernel_rfl) (by kernel_rfl) (by kernel_rfl)
theorem k1267:FnOk Tryz.prog gl 30 f1267:=fnOk_of (by kernel_rfl) (by kernel_rfl) (by kernel_rfl)
theorem k1268:FnOk Tryz.prog gl 31 f1268:=fnOk_of (by kernel_rfl) (by kernel_rfl) (by kernel_rfl)
theorem k1303:FnOk Tryz.prog gl 71 f1303:=fnOk_of (by kernel_rfl) (by kernel_rfl) (by kernel_rfl)
theorem k1313:FnOk Tryz.prog gl 85 f1313:=fnOk_of (by kernel_rfl) (by kernel_rfl) (by kernel_rfl)
theorem k1315:FnOk Tryz.prog gl 88 f1315:=fnOk_of (by kernel_rfl) (by kernel_rfl) (by kernel_rfl)
theorem k1316:FnOk Tryz.prog gl 90 f1316:=fnOk_of (by kernel_rfl) (by kernel_rfl) (by kernel_rfl)
theorem k1323:FnOk Tryz.prog gl 106 f1323:=fnOk_of (by kernel_rfl) (by kernel_rfl) (by kernel_rfl)
theorem k1325:FnOk Tryz.prog gl 109 f1325:=fnOk_of (by kernel_rfl) (by kernel_rfl) (by kernel_rfl)
theorem k1332:FnOk Tryz.prog gl 116 f1332:=fnOk_of (by kernel_rfl) (by kernel_rfl) (by kernel_rfl)
theorem k1341:FnOk Tryz.prog gl 127 f1341:=fnOk_of (by kernel_rfl) (by kernel_rfl) (by kernel_rfl)
theorem k1349:FnOk Tryz.prog gl 137 f1349:=fnOk_of (by kernel_rfl) (by kernel_rfl) (by kernel_rfl)
theorem k1358:FnOk Tryz.prog gl 166 f1358:=fnOk_of (by kernel_rfl) (by kernel_rfl) (by kernel_rfl)
theorem k1360:FnOk Tryz.prog gl 179 f1360:=fnOk_of (by kernel_rfl) (by kernel_rfl) (by kernel_rfl)
end Tab
end Go.Tidy
