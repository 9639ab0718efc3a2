/- A part of the proof. -/
import Derived.Test.YtpbdcpgdbpkglaaGreatDoorTabQT
import Derived.Test.YtpbdcpgdbpkglaaGreatDoorPa1
import Derived.Test.YtpbdcpgdbpkglaaGreatDoorProg
import Derived.KernelRfl
set_option linter.all false
namespace Go.Tidy
open Go Go.Proofs
namespace Tab
theorem k18:FnOk Tryz.prog gl 75 f18:=fnOk_of (by kernel_rfl) (by kernel_rfl) (by kernel_rfl)
theorem k19:FnOk Tryz.prog gl 122 f19:=fnOk_of (by kernel_rfl) (by kernel_rfl) (by kernel_rfl)
theorem k71:FnOk Tryz.prog gl 81 f71:=fnOk_of (by kernel_rfl) (by kernel_rfl) (by kernel_rfl)
theorem k95:FnOk Tryz.prog gl 77 f95:=fnOk_of (by kernel_rfl) (by kernel_rfl) (by kernel_rfl)
theorem k99:FnOk Tryz.prog gl 164 f99:=fnOk_of (by kernel_rfl) (by kernel_rfl) (by kernel_rfl)
theorem k103:FnOk Tryz.prog gl 87 f103:=fnOk_of (by kernel_rfl) (by kernel_rfl) (by kernel_rfl)
theorem k124:FnOk Tryz.prog gl 143 f124:=fnOk_of (by kernel_rfl) (by kernel_rfl) (by kernel_rfl)
theorem k133:FnOk Tryz.prog gl 176 f133:=fnOk_of (by kernel_rfl) (by kernel_rfl) (by kernel_rfl)
theorem k140:FnOk Tryz.prog gl 107 f140:=fnOk_of (by kernel_rfl) (by kernel_rfl) (by kernel_rfl)
theorem k143:FnOk Tryz.prog gl 98 f143:=fnOk_of (by kernel_rfl) (by kernel_rfl) (by kernel_rfl)
theorem k150:FnOk Tryz.prog gl 157 f150:=fnOk_of (by kernel_rfl) (by kernel_rfl) (by kernel_rfl)
theorem k165:FnOk Tryz.prog gl 158 f165:=fnOk_of (by kernel_rfl) (by kernel_rfl) (by kernel_rfl)
theorem k168:FnOk Tryz.prog gl 177 f168:=fnOk_of (by kernel_rfl) (by kernel_rfl) (by kernel_rfl)
theorem k174:FnOk Tryz.prog gl 184 f174:=fnOk_of (by kernel_rfl) (by kernel_rfl) (by kernel_rfl)
theorem k190:FnOk Tryz.prog gl 201 f190:=fnOk_of (by kernel_rfl) (by kernel_rfl) (by kernel_rfl)
theorem k1206:FnOk Tryz.prog gl 148 f1206:=fnOk_of (by kernel_rfl) (by kernel_rfl) (by kernel_rfl)
theorem k1254:FnOk Tryz.prog gl 15 f1254:=fnOk_of (by kernel_rfl) (by kernel_rfl) (by kernel_rfl)
theorem k1260:FnOk Tryz.prog gl 21 f1260:=fnOk_of (by kernel_rfl) (by kernel_rfl) (by kernel_rfl)
theorem k1267:FnOk Tryz.prog gl 30 f1267:=fnOk_of (by kernel_rfl) (by kernel_rfl) (by kernel_rfl)
theorem k1268:FnOk Tryz.prog gl 31 f1268:=fnOk_of (by kernel_rfl) (by kernel_rfl) (by kernel_rfl)
theorem k1277:FnOk Tryz.prog gl 43 f1277:=fnOk_of (by kernel_rfl) (by kernel_rfl) (by kernel_rfl)
theorem k1293:FnOk Tryz.prog gl 60 f1293:=fnOk_of (by kernel_rfl) (by kernel_rfl) (by kernel_rfl)
theorem k1294:FnOk Tryz.prog gl 61 f1294:=fnOk_of (by kernel_rfl) (by kernel_rfl) (by kernel_rfl)
theorem k1297:FnOk Tryz.prog gl 65 f1297:=fnOk_of (by kernel_rfl) (by kernel_rfl) (by kernel_rfl)
theorem k1299:FnOk Tryz.prog gl 67 f1299:=fnOk_of (by kernel_rfl) (by kernel_rfl) (by kernel_rfl)
theorem k1303:FnOk Tryz.prog gl 71 f1303:=fnOk_of (by kernel_rfl) (by kernel_rfl) (by kernel_rfl)
theorem k1308:FnOk Tryz.prog gl 78 f1308:=fnOk_of (by kernel_rfl) (by kernel_rfl) (by kernel_rfl)
theorem k1310:FnOk Tryz.prog gl 80 f1310:=fnOk_of (by kernel_rfl) (by kernel_rfl) (by kernel_rfl)
theorem k1313:FnOk Tryz.prog gl 85 f1313:=fnOk_of (by kernel_rfl) (by kernel_rfl) (by kernel_rfl)
theorem k1329:FnOk Tryz.prog gl 113 f1329:=fnOk_of (by kernel_rfl) (by kernel_rfl) (by kernel_rfl)
theorem k1330:FnOk Tryz.prog gl 114 f1330:=fnOk_of (by kernel_rfl) (by kernel_rfl) (by kernel_rfl)
theorem k1332:FnOk Tryz.prog gl 116 f1332:=fnOk_of (by kernel_rfl) (by kernel_rfl) (by kernel_rfl)
theorem k1337:FnOk Tryz.prog gl 121 f1337:=fnOk_of (by kernel_rfl) (by kernel_rfl) (by kernel_rfl)
theorem k1347:FnOk Tryz.prog gl 135 f1347:=fnOk_of (by kernel_rfl) (by kernel_rfl) (by kernel_rfl)
theorem k1349:FnOk Tryz.prog gl 137 f1349:=fnOk_of (by kernel_rfl) (by kernel_rfl) (by kernel_rfl)
theorem k1361:FnOk Tryz.prog gl 180 f1361:=fnOk_of (by kernel_rfl) (by kernel_rfl) (by kernel_rfl)
end Tab
end Go.Tidy
