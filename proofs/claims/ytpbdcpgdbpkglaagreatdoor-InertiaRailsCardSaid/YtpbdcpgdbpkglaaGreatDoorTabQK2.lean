/- A part of the proof. -/
import Derived.Test.YtpbdcpgdbpkglaaGreatDoorTabQT
import Derived.Test.YtpbdcpgdbpkglaaGreatDoorPa1
import Derived.Test.YtpbdcpgdbpkglaaGreatDoorProg
import Derived.KernelRfl
set_option linter.all false
namespace Go.Tidy
open Go Go.Proofs
namespace Tab
theorem k32:FnOk Tryz.prog gl 26 f32:=fnOk_of (by kernel_rfl) (by kernel_rfl) (by kernel_rfl)
theorem k73:FnOk Tryz.prog gl 152 f73:=fnOk_of (by kernel_rfl) (by kernel_rfl) (by kernel_rfl)
theorem k99:FnOk Tryz.prog gl 164 f99:=fnOk_of (by kernel_rfl) (by kernel_rfl) (by kernel_rfl)
theorem k111:FnOk Tryz.prog gl 82 f111:=fnOk_of (by kernel_rfl) (by kernel_rfl) (by kernel_rfl)
theorem k122:FnOk Tryz.prog gl 141 f122:=fnOk_of (by kernel_rfl) (by kernel_rfl) (by kernel_rfl)
theorem k124:FnOk Tryz.prog gl 143 f124:=fnOk_of (by kernel_rfl) (by kernel_rfl) (by kernel_rfl)
theorem k143:FnOk Tryz.prog gl 98 f143:=fnOk_of (by kernel_rfl) (by kernel_rfl) (by kernel_rfl)
theorem k168:FnOk Tryz.prog gl 177 f168:=fnOk_of (by kernel_rfl) (by kernel_rfl) (by kernel_rfl)
theorem k173:FnOk Tryz.prog gl 183 f173:=fnOk_of (by kernel_rfl) (by kernel_rfl) (by kernel_rfl)
theorem k177:FnOk Tryz.prog gl 189 f177:=fnOk_of (by kernel_rfl) (by kernel_rfl) (by kernel_rfl)
theorem k187:FnOk Tryz.prog gl 199 f187:=fnOk_of (by kernel_rfl) (by kernel_rfl) (by kernel_rfl)
theorem k189:FnOk Tryz.prog gl 200 f189:=fnOk_of (by kernel_rfl) (by kernel_rfl) (by kernel_rfl)
theorem k1190:FnOk Tryz.prog gl 132 f1190:=fnOk_of (by kernel_rfl) (by kernel_rfl) (by kernel_rfl)
theorem k1263:FnOk Tryz.prog gl 25 f1263:=fnOk_of (by kernel_rfl) (by kernel_rfl) (by kernel_rfl)
theorem k1270:FnOk Tryz.prog gl 34 f1270:=fnOk_of (by kernel_rfl) (by kernel_rfl) (by kernel_rfl)
theorem k1275:FnOk Tryz.prog gl 41 f1275:=fnOk_of (by kernel_rfl) (by kernel_rfl) (by kernel_rfl)
theorem k1300:FnOk Tryz.prog gl 68 f1300:=fnOk_of (by kernel_rfl) (by kernel_rfl) (by kernel_rfl)
theorem k1302:FnOk Tryz.prog gl 70 f1302:=fnOk_of (by kernel_rfl) (by kernel_rfl) (by kernel_rfl)
theorem k1304:FnOk Tryz.prog gl 72 f1304:=fnOk_of (by kernel_rfl) (by kernel_rfl) (by kernel_rfl)
theorem k1305:FnOk Tryz.prog gl 73 f1305:=fnOk_of (by kernel_rfl) (by kernel_rfl) (by kernel_rfl)
theorem k1311:FnOk Tryz.prog gl 83 f1311:=fnOk_of (by kernel_rfl) (by kernel_rfl) (by kernel_rfl)
theorem k1312:FnOk Tryz.prog gl 84 f1312:=fnOk_of (by kernel_rfl) (by kernel_rfl) (by kernel_rfl)
theorem k1314:FnOk Tryz.prog gl 86 f1314:=fnOk_of (by kernel_rfl) (by kernel_rfl) (by kernel_rfl)
theorem k1317:FnOk Tryz.prog gl 92 f1317:=fnOk_of (by kernel_rfl) (by kernel_rfl) (by kernel_rfl)
theorem k1322:FnOk Tryz.prog gl 105 f1322:=fnOk_of (by kernel_rfl) (by kernel_rfl) (by kernel_rfl)
theorem k1336:FnOk Tryz.prog gl 120 f1336:=fnOk_of (by kernel_rfl) (by kernel_rfl) (by kernel_rfl)
theorem k1338:FnOk Tryz.prog gl 123 f1338:=fnOk_of (by kernel_rfl) (by kernel_rfl) (by kernel_rfl)
theorem k1343:FnOk Tryz.prog gl 129 f1343:=fnOk_of (by kernel_rfl) (by kernel_rfl) (by kernel_rfl)
theorem k1347:FnOk Tryz.prog gl 135 f1347:=fnOk_of (by kernel_rfl) (by kernel_rfl) (by kernel_rfl)
theorem k1350:FnOk Tryz.prog gl 138 f1350:=fnOk_of (by kernel_rfl) (by kernel_rfl) (by kernel_rfl)
theorem k1351:FnOk Tryz.prog gl 140 f1351:=fnOk_of (by kernel_rfl) (by kernel_rfl) (by kernel_rfl)
theorem k1354:FnOk Tryz.prog gl 149 f1354:=fnOk_of (by kernel_rfl) (by kernel_rfl) (by kernel_rfl)
theorem k1356:FnOk Tryz.prog gl 159 f1356:=fnOk_of (by kernel_rfl) (by kernel_rfl) (by kernel_rfl)
theorem k1362:FnOk Tryz.prog gl 181 f1362:=fnOk_of (by kernel_rfl) (by kernel_rfl) (by kernel_rfl)
end Tab
end Go.Tidy
