/- A part of the proof. -/
import Derived.Test.YtpbdcpgdbpkglaaGreatDoorTabQT
import Derived.Test.YtpbdcpgdbpkglaaGreatDoorPa1
import Derived.Test.YtpbdcpgdbpkglaaGreatDoorProg
import Derived.KernelRfl
set_option linter.all false
namespace Go.Tidy
open Go Go.Proofs
namespace Tab
theorem k13:FnOk Tryz.prog gl 23 f13:=fnOk_of (by kernel_rfl) (by kernel_rfl) (by kernel_rfl)
theorem k19:FnOk Tryz.prog gl 122 f19:=fnOk_of (by kernel_rfl) (by kernel_rfl) (by kernel_rfl)
theorem k22:FnOk Tryz.prog gl 64 f22:=fnOk_of (by kernel_rfl) (by kernel_rfl) (by kernel_rfl)
theorem k58:FnOk Tryz.prog gl 32 f58:=fnOk_of (by kernel_rfl) (by kernel_rfl) (by kernel_rfl)
theorem k77:FnOk Tryz.prog gl 91 f77:=fnOk_of (by kernel_rfl) (by kernel_rfl) (by kernel_rfl)
theorem k78:FnOk Tryz.prog gl 161 f78:=fnOk_of (by kernel_rfl) (by kernel_rfl) (by kernel_rfl)
theorem k86:FnOk Tryz.prog gl 93 f86:=fnOk_of (by kernel_rfl) (by kernel_rfl) (by kernel_rfl)
theorem k130:FnOk Tryz.prog gl 173 f130:=fnOk_of (by kernel_rfl) (by kernel_rfl) (by kernel_rfl)
theorem k133:FnOk Tryz.prog gl 176 f133:=fnOk_of (by kernel_rfl) (by kernel_rfl) (by kernel_rfl)
theorem k140:FnOk Tryz.prog gl 107 f140:=fnOk_of (by kernel_rfl) (by kernel_rfl) (by kernel_rfl)
theorem k183:FnOk Tryz.prog gl 195 f183:=fnOk_of (by kernel_rfl) (by kernel_rfl) (by kernel_rfl)
theorem k1206:FnOk Tryz.prog gl 148 f1206:=fnOk_of (by kernel_rfl) (by kernel_rfl) (by kernel_rfl)
theorem k1249:FnOk Tryz.prog gl 10 f1249:=fnOk_of (by kernel_rfl) (by kernel_rfl) (by kernel_rfl)
theorem k1258:FnOk Tryz.prog gl 19 f1258:=fnOk_of (by kernel_rfl) (by kernel_rfl) (by kernel_rfl)
theorem k1259:FnOk Tryz.prog gl 20 f1259:=fnOk_of (by kernel_rfl) (by kernel_rfl) (by kernel_rfl)
theorem k1260:FnOk Tryz.prog gl 21 f1260:=fnOk_of (by kernel_rfl) (by kernel_rfl) (by kernel_rfl)
theorem k1274:FnOk Tryz.prog gl 39 f1274:=fnOk_of (by kernel_rfl) (by kernel_rfl) (by kernel_rfl)
theorem k1277:FnOk Tryz.prog gl 43 f1277:=fnOk_of (by kernel_rfl) (by kernel_rfl) (by kernel_rfl)
theorem k1279:FnOk Tryz.prog gl 45 f1279:=fnOk_of (by kernel_rfl) (by kernel_rfl) (by kernel_rfl)
theorem k1294:FnOk Tryz.prog gl 61 f1294:=fnOk_of (by kernel_rfl) (by kernel_rfl) (by kernel_rfl)
theorem k1302:FnOk Tryz.prog gl 70 f1302:=fnOk_of (by kernel_rfl) (by kernel_rfl) (by kernel_rfl)
theorem k1309:FnOk Tryz.prog gl 79 f1309:=fnOk_of (by kernel_rfl) (by kernel_rfl) (by kernel_rfl)
theorem k1313:FnOk Tryz.prog gl 85 f1313:=fnOk_of (by kernel_rfl) (by kernel_rfl) (by kernel_rfl)
theorem k1323:FnOk Tryz.prog gl 106 f1323:=fnOk_of (by kernel_rfl) (by kernel_rfl) (by kernel_rfl)
theorem k1331:FnOk Tryz.prog gl 115 f1331:=fnOk_of (by kernel_rfl) (by kernel_rfl) (by kernel_rfl)
theorem k1332:FnOk Tryz.prog gl 116 f1332:=fnOk_of (by kernel_rfl) (by kernel_rfl) (by kernel_rfl)
theorem k1337:FnOk Tryz.prog gl 121 f1337:=fnOk_of (by kernel_rfl) (by kernel_rfl) (by kernel_rfl)
theorem k1347:FnOk Tryz.prog gl 135 f1347:=fnOk_of (by kernel_rfl) (by kernel_rfl) (by kernel_rfl)
theorem k1348:FnOk Tryz.prog gl 136 f1348:=fnOk_of (by kernel_rfl) (by kernel_rfl) (by kernel_rfl)
theorem k1358:FnOk Tryz.prog gl 166 f1358:=fnOk_of (by kernel_rfl) (by kernel_rfl) (by kernel_rfl)
theorem k1359:FnOk Tryz.prog gl 167 f1359:=fnOk_of (by kernel_rfl) (by kernel_rfl) (by kernel_rfl)
theorem k1362:FnOk Tryz.prog gl 181 f1362:=fnOk_of (by kernel_rfl) (by kernel_rfl) (by kernel_rfl)
end Tab
end Go.Tidy
