/- A part of the proof. -/
import Derived.Test.YtpbdcpgdbpkglaaGreatDoorTabQT
import Derived.Test.YtpbdcpgdbpkglaaGreatDoorPa1
import Derived.Test.YtpbdcpgdbpkglaaGreatDoorProg
import Derived.KernelRfl
set_option linter.all false
namespace Go.Tidy
open Go Go.Proofs
namespace Tab
theorem k13:FnOk Tryz.prog gl 23 f13:=fnOk_of (by kernel_rfl) (by kernel_rfl) (by kernel_rfl)
theorem k14:FnOk Tryz.prog gl 37 f14:=fnOk_of (by kernel_rfl) (by kernel_rfl) (by kernel_rfl)
theorem k21:FnOk Tryz.prog gl 100 f21:=fnOk_of (by kernel_rfl) (by kernel_rfl) (by kernel_rfl)
theorem k59:FnOk Tryz.prog gl 40 f59:=fnOk_of (by kernel_rfl) (by kernel_rfl) (by kernel_rfl)
theorem k81:FnOk Tryz.prog gl 155 f81:=fnOk_of (by kernel_rfl) (by kernel_rfl) (by kernel_rfl)
theorem k86:FnOk Tryz.prog gl 93 f86:=fnOk_of (by kernel_rfl) (by kernel_rfl) (by kernel_rfl)
theorem k103:FnOk Tryz.prog gl 87 f103:=fnOk_of (by kernel_rfl) (by kernel_rfl) (by kernel_rfl)
theorem k123:FnOk Tryz.prog gl 142 f123:=fnOk_of (by kernel_rfl) (by kernel_rfl) (by kernel_rfl)
theorem k131:FnOk Tryz.prog gl 174 f131:=fnOk_of (by kernel_rfl) (by kernel_rfl) (by kernel_rfl)
theorem k144:FnOk Tryz.prog gl 102 f144:=fnOk_of (by kernel_rfl) (by kernel_rfl) (by kernel_rfl)
theorem k155:FnOk Tryz.prog gl 169 f155:=fnOk_of (by kernel_rfl) (by kernel_rfl) (by kernel_rfl)
theorem k156:FnOk Tryz.prog gl 170 f156:=fnOk_of (by kernel_rfl) (by kernel_rfl) (by kernel_rfl)
theorem k1206:FnOk Tryz.prog gl 148 f1206:=fnOk_of (by kernel_rfl) (by kernel_rfl) (by kernel_rfl)
theorem k1254:FnOk Tryz.prog gl 15 f1254:=fnOk_of (by kernel_rfl) (by kernel_rfl) (by kernel_rfl)
theorem k1258:FnOk Tryz.prog gl 19 f1258:=fnOk_of (by kernel_rfl) (by kernel_rfl) (by kernel_rfl)
theorem k1260:FnOk Tryz.prog gl 21 f1260:=fnOk_of (by kernel_rfl) (by kernel_rfl) (by kernel_rfl)
theorem k1261:FnOk Tryz.prog gl 22 f1261:=fnOk_of (by kernel_rfl) (by kernel_rfl) (by kernel_rfl)
theorem k1274:FnOk Tryz.prog gl 39 f1274:=fnOk_of (by kernel_rfl) (by kernel_rfl) (by kernel_rfl)
theorem k1278:FnOk Tryz.prog gl 44 f1278:=fnOk_of (by kernel_rfl) (by kernel_rfl) (by kernel_rfl)
theorem k1285:FnOk Tryz.prog gl 52 f1285:=fnOk_of (by kernel_rfl) (by kernel_rfl) (by kernel_rfl)
theorem k1286:FnOk Tryz.prog gl 53 f1286:=fnOk_of (by kernel_rfl) (by kernel_rfl) (by kernel_rfl)
theorem k1295:FnOk Tryz.prog gl 62 f1295:=fnOk_of (by kernel_rfl) (by kernel_rfl) (by kernel_rfl)
theorem k1306:FnOk Tryz.prog gl 74 f1306:=fnOk_of (by kernel_rfl) (by kernel_rfl) (by kernel_rfl)
theorem k1309:FnOk Tryz.prog gl 79 f1309:=fnOk_of (by kernel_rfl) (by kernel_rfl) (by kernel_rfl)
theorem k1318:FnOk Tryz.prog gl 95 f1318:=fnOk_of (by kernel_rfl) (by kernel_rfl) (by kernel_rfl)
theorem k1319:FnOk Tryz.prog gl 97 f1319:=fnOk_of (by kernel_rfl) (by kernel_rfl) (by kernel_rfl)
theorem k1326:FnOk Tryz.prog gl 110 f1326:=fnOk_of (by kernel_rfl) (by kernel_rfl) (by kernel_rfl)
theorem k1328:FnOk Tryz.prog gl 112 f1328:=fnOk_of (by kernel_rfl) (by kernel_rfl) (by kernel_rfl)
theorem k1329:FnOk Tryz.prog gl 113 f1329:=fnOk_of (by kernel_rfl) (by kernel_rfl) (by kernel_rfl)
theorem k1337:FnOk Tryz.prog gl 121 f1337:=fnOk_of (by kernel_rfl) (by kernel_rfl) (by kernel_rfl)
theorem k1342:FnOk Tryz.prog gl 128 f1342:=fnOk_of (by kernel_rfl) (by kernel_rfl) (by kernel_rfl)
theorem k1345:FnOk Tryz.prog gl 133 f1345:=fnOk_of (by kernel_rfl) (by kernel_rfl) (by kernel_rfl)
theorem k1346:FnOk Tryz.prog gl 134 f1346:=fnOk_of (by kernel_rfl) (by kernel_rfl) (by kernel_rfl)
theorem k1361:FnOk Tryz.prog gl 180 f1361:=fnOk_of (by kernel_rfl) (by kernel_rfl) (by kernel_rfl)
end Tab
end Go.Tidy
