/- A part of the proof. -/
import Derived.Test.YtpbdcpgdbpkglaaGreatDoorTabQT
import Derived.Test.YtpbdcpgdbpkglaaGreatDoorPa1
import Derived.Test.YtpbdcpgdbpkglaaGreatDoorProg
import Derived.KernelRfl
set_option linter.all false
namespace Go.Tidy
open Go Go.Proofs
namespace Tab
theorem k2:FnOk Tryz.prog gl 2 f2:=fnOk_of (by kernel_rfl) (by kernel_rfl) (by kernel_rfl)
theorem k21:FnOk Tryz.prog gl 100 f21:=fnOk_of (by kernel_rfl) (by kernel_rfl) (by kernel_rfl)
theorem k58:FnOk Tryz.prog gl 32 f58:=fnOk_of (by kernel_rfl) (by kernel_rfl) (by kernel_rfl)
theorem k72:FnOk Tryz.prog gl 101 f72:=fnOk_of (by kernel_rfl) (by kernel_rfl) (by kernel_rfl)
theorem k82:FnOk Tryz.prog gl 131 f82:=fnOk_of (by kernel_rfl) (by kernel_rfl) (by kernel_rfl)
theorem k91:FnOk Tryz.prog gl 160 f91:=fnOk_of (by kernel_rfl) (by kernel_rfl) (by kernel_rfl)
theorem k111:FnOk Tryz.prog gl 82 f111:=fnOk_of (by kernel_rfl) (by kernel_rfl) (by kernel_rfl)
theorem k115:FnOk Tryz.prog gl 165 f115:=fnOk_of (by kernel_rfl) (by kernel_rfl) (by kernel_rfl)
theorem k147:FnOk Tryz.prog gl 146 f147:=fnOk_of (by kernel_rfl) (by kernel_rfl) (by kernel_rfl)
theorem k154:FnOk Tryz.prog gl 168 f154:=fnOk_of (by kernel_rfl) (by kernel_rfl) (by kernel_rfl)
theorem k155:FnOk Tryz.prog gl 169 f155:=fnOk_of (by kernel_rfl) (by kernel_rfl) (by kernel_rfl)
theorem k156:FnOk Tryz.prog gl 170 f156:=fnOk_of (by kernel_rfl) (by kernel_rfl) (by kernel_rfl)
theorem k177:FnOk Tryz.prog gl 189 f177:=fnOk_of (by kernel_rfl) (by kernel_rfl) (by kernel_rfl)
theorem k183:FnOk Tryz.prog gl 195 f183:=fnOk_of (by kernel_rfl) (by kernel_rfl) (by kernel_rfl)
theorem k187:FnOk Tryz.prog gl 199 f187:=fnOk_of (by kernel_rfl) (by kernel_rfl) (by kernel_rfl)
theorem k1184:FnOk Tryz.prog gl 89 f1184:=fnOk_of (by kernel_rfl) (by kernel_rfl) (by kernel_rfl)
theorem k1270:FnOk Tryz.prog gl 34 f1270:=fnOk_of (by kernel_rfl) (by kernel_rfl) (by kernel_rfl)
theorem k1274:FnOk Tryz.prog gl 39 f1274:=fnOk_of (by kernel_rfl) (by kernel_rfl) (by kernel_rfl)
theorem k1287:FnOk Tryz.prog gl 54 f1287:=fnOk_of (by kernel_rfl) (by kernel_rfl) (by kernel_rfl)
theorem k1292:FnOk Tryz.prog gl 59 f1292:=fnOk_of (by kernel_rfl) (by kernel_rfl) (by kernel_rfl)
theorem k1295:FnOk Tryz.prog gl 62 f1295:=fnOk_of (by kernel_rfl) (by kernel_rfl) (by kernel_rfl)
theorem k1309:FnOk Tryz.prog gl 79 f1309:=fnOk_of (by kernel_rfl) (by kernel_rfl) (by kernel_rfl)
theorem k1311:FnOk Tryz.prog gl 83 f1311:=fnOk_of (by kernel_rfl) (by kernel_rfl) (by kernel_rfl)
theorem k1315:FnOk Tryz.prog gl 88 f1315:=fnOk_of (by kernel_rfl) (by kernel_rfl) (by kernel_rfl)
theorem k1320:FnOk Tryz.prog gl 103 f1320:=fnOk_of (by kernel_rfl) (by kernel_rfl) (by kernel_rfl)
theorem k1321:FnOk Tryz.prog gl 104 f1321:=fnOk_of (by kernel_rfl) (by kernel_rfl) (by kernel_rfl)
theorem k1325:FnOk Tryz.prog gl 109 f1325:=fnOk_of (by kernel_rfl) (by kernel_rfl) (by kernel_rfl)
theorem k1328:FnOk Tryz.prog gl 112 f1328:=fnOk_of (by kernel_rfl) (by kernel_rfl) (by kernel_rfl)
theorem k1331:FnOk Tryz.prog gl 115 f1331:=fnOk_of (by kernel_rfl) (by kernel_rfl) (by kernel_rfl)
theorem k1335:FnOk Tryz.prog gl 119 f1335:=fnOk_of (by kernel_rfl) (by kernel_rfl) (by kernel_rfl)
theorem k1341:FnOk Tryz.prog gl 127 f1341:=fnOk_of (by kernel_rfl) (by kernel_rfl) (by kernel_rfl)
theorem k1350:FnOk Tryz.prog gl 138 f1350:=fnOk_of (by kernel_rfl) (by kernel_rfl) (by kernel_rfl)
theorem k1351:FnOk Tryz.prog gl 140 f1351:=fnOk_of (by kernel_rfl) (by kernel_rfl) (by kernel_rfl)
theorem k1355:FnOk Tryz.prog gl 156 f1355:=fnOk_of (by kernel_rfl) (by kernel_rfl) (by kernel_rfl)
theorem k1356:FnOk Tryz.prog gl 159 f1356:=fnOk_of (by kernel_rfl) (by kernel_rfl) (by kernel_rfl)
theorem k1357:FnOk Tryz.prog gl 163 f1357:=fnOk_of (by kernel_rfl) (by kernel_rfl) (by kernel_rfl)
theorem k1360:FnOk Tryz.prog gl 179 f1360:=fnOk_of (by kernel_rfl) (by kernel_rfl) (by kernel_rfl)
end Tab
end Go.Tidy
