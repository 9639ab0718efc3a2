/- A part of the proof. -/
import Derived.Test.YtpbdcpgdbpkglaaGreatDoorTabQT
import Derived.Test.YtpbdcpgdbpkglaaGreatDoorPa1
import Derived.Test.YtpbdcpgdbpkglaaGreatDoorProg
import Derived.KernelRfl
set_option linter.all false
namespace Go.Tidy
open Go Go.Proofs
namespace Tab
theorem k14:FnOk Tryz.prog gl 37 f14:=fnOk_of (by kernel_rfl) (by kernel_rfl) (by kernel_rfl)
theorem k22:FnOk Tryz.prog gl 64 f22:=fnOk_of (by kernel_rfl) (by kernel_rfl) (by kernel_rfl)
theorem k64:FnOk Tryz.prog gl 139 f64:=fnOk_of (by kernel_rfl) (by kernel_rfl) (by kernel_rfl)
theorem k71:FnOk Tryz.prog gl 81 f71:=fnOk_of (by kernel_rfl) (by kernel_rfl) (by kernel_rfl)
theorem k81:FnOk Tryz.prog gl 155 f81:=fnOk_of (by kernel_rfl) (by kernel_rfl) (by kernel_rfl)
theorem k82:FnOk Tryz.prog gl 131 f82:=fnOk_of (by kernel_rfl) (by kernel_rfl) (by kernel_rfl)
theorem k111:FnOk Tryz.prog gl 82 f111:=fnOk_of (by kernel_rfl) (by kernel_rfl) (by kernel_rfl)
theorem k123:FnOk Tryz.prog gl 142 f123:=fnOk_of (by kernel_rfl) (by kernel_rfl) (by kernel_rfl)
theorem k130:FnOk Tryz.prog gl 173 f130:=fnOk_of (by kernel_rfl) (by kernel_rfl) (by kernel_rfl)
theorem k143:FnOk Tryz.prog gl 98 f143:=fnOk_of (by kernel_rfl) (by kernel_rfl) (by kernel_rfl)
theorem k147:FnOk Tryz.prog gl 146 f147:=fnOk_of (by kernel_rfl) (by kernel_rfl) (by kernel_rfl)
theorem k154:FnOk Tryz.prog gl 168 f154:=fnOk_of (by kernel_rfl) (by kernel_rfl) (by kernel_rfl)
theorem k165:FnOk Tryz.prog gl 158 f165:=fnOk_of (by kernel_rfl) (by kernel_rfl) (by kernel_rfl)
theorem k174:FnOk Tryz.prog gl 184 f174:=fnOk_of (by kernel_rfl) (by kernel_rfl) (by kernel_rfl)
theorem k1190:FnOk Tryz.prog gl 132 f1190:=fnOk_of (by kernel_rfl) (by kernel_rfl) (by kernel_rfl)
theorem k1242:FnOk Tryz.prog gl 3 f1242:=fnOk_of (by kernel_rfl) (by kernel_rfl) (by kernel_rfl)
theorem k1254:FnOk Tryz.prog gl 15 f1254:=fnOk_of (by kernel_rfl) (by kernel_rfl) (by kernel_rfl)
theorem k1256:FnOk Tryz.prog gl 17 f1256:=fnOk_of (by kernel_rfl) (by kernel_rfl) (by kernel_rfl)
theorem k1261:FnOk Tryz.prog gl 22 f1261:=fnOk_of (by kernel_rfl) (by kernel_rfl) (by kernel_rfl)
theorem k1264:FnOk Tryz.prog gl 27 f1264:=fnOk_of (by kernel_rfl) (by kernel_rfl) (by kernel_rfl)
theorem k1265:FnOk Tryz.prog gl 28 f1265:=fnOk_of (by kernel_rfl) (by kernel_rfl) (by kernel_rfl)
theorem k1268:FnOk Tryz.prog gl 31 f1268:=fnOk_of (by kernel_rfl) (by kernel_rfl) (by kernel_rfl)
theorem k1274:FnOk Tryz.prog gl 39 f1274:=fnOk_of (by kernel_rfl) (by kernel_rfl) (by kernel_rfl)
theorem k1310:FnOk Tryz.prog gl 80 f1310:=fnOk_of (by kernel_rfl) (by kernel_rfl) (by kernel_rfl)
theorem k1318:FnOk Tryz.prog gl 95 f1318:=fnOk_of (by kernel_rfl) (by kernel_rfl) (by kernel_rfl)
theorem k1329:FnOk Tryz.prog gl 113 f1329:=fnOk_of (by kernel_rfl) (by kernel_rfl) (by kernel_rfl)
theorem k1330:FnOk Tryz.prog gl 114 f1330:=fnOk_of (by kernel_rfl) (by kernel_rfl) (by kernel_rfl)
theorem k1336:FnOk Tryz.prog gl 120 f1336:=fnOk_of (by kernel_rfl) (by kernel_rfl) (by kernel_rfl)
theorem k1337:FnOk Tryz.prog gl 121 f1337:=fnOk_of (by kernel_rfl) (by kernel_rfl) (by kernel_rfl)
theorem k1341:FnOk Tryz.prog gl 127 f1341:=fnOk_of (by kernel_rfl) (by kernel_rfl) (by kernel_rfl)
theorem k1342:FnOk Tryz.prog gl 128 f1342:=fnOk_of (by kernel_rfl) (by kernel_rfl) (by kernel_rfl)
theorem k1345:FnOk Tryz.prog gl 133 f1345:=fnOk_of (by kernel_rfl) (by kernel_rfl) (by kernel_rfl)
theorem k1346:FnOk Tryz.prog gl 134 f1346:=fnOk_of (by kernel_rfl) (by kernel_rfl) (by kernel_rfl)
theorem k1353:FnOk Tryz.prog gl 147 f1353:=fnOk_of (by kernel_rfl) (by kernel_rfl) (by kernel_rfl)
theorem k1354:FnOk Tryz.prog gl 149 f1354:=fnOk_of (by kernel_rfl) (by kernel_rfl) (by kernel_rfl)
theorem k1356:FnOk Tryz.prog gl 159 f1356:=fnOk_of (by kernel_rfl) (by kernel_rfl) (by kernel_rfl)
theorem k1361:FnOk Tryz.prog gl 180 f1361:=fnOk_of (by kernel_rfl) (by kernel_rfl) (by kernel_rfl)
end Tab
end Go.Tidy
