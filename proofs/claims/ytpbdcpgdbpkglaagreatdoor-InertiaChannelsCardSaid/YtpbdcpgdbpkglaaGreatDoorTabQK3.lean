/- A part of the proof. -/
import Derived.Test.YtpbdcpgdbpkglaaGreatDoorTabQT
import Derived.Test.YtpbdcpgdbpkglaaGreatDoorPa1
import Derived.Test.YtpbdcpgdbpkglaaGreatDoorProg
import Derived.KernelRfl
set_option linter.all false
namespace Go.Tidy
open Go Go.Proofs
namespace Tab
theorem k17:FnOk Tryz.prog gl 150 f17:=fnOk_of (by kernel_rfl) (by kernel_rfl) (by kernel_rfl)
theorem k18:FnOk Tryz.prog gl 75 f18:=fnOk_of (by kernel_rfl) (by kernel_rfl) (by kernel_rfl)
theorem k19:FnOk Tryz.prog gl 122 f19:=fnOk_of (by kernel_rfl) (by kernel_rfl) (by kernel_rfl)
theorem k21:FnOk Tryz.prog gl 100 f21:=fnOk_of (by kernel_rfl) (by kernel_rfl) (by kernel_rfl)
theorem k72:FnOk Tryz.prog gl 101 f72:=fnOk_of (by kernel_rfl) (by kernel_rfl) (by kernel_rfl)
theorem k73:FnOk Tryz.prog gl 152 f73:=fnOk_of (by kernel_rfl) (by kernel_rfl) (by kernel_rfl)
theorem k77:FnOk Tryz.prog gl 91 f77:=fnOk_of (by kernel_rfl) (by kernel_rfl) (by kernel_rfl)
theorem k86:FnOk Tryz.prog gl 93 f86:=fnOk_of (by kernel_rfl) (by kernel_rfl) (by kernel_rfl)
theorem k91:FnOk Tryz.prog gl 160 f91:=fnOk_of (by kernel_rfl) (by kernel_rfl) (by kernel_rfl)
theorem k95:FnOk Tryz.prog gl 77 f95:=fnOk_of (by kernel_rfl) (by kernel_rfl) (by kernel_rfl)
theorem k106:FnOk Tryz.prog gl 96 f106:=fnOk_of (by kernel_rfl) (by kernel_rfl) (by kernel_rfl)
theorem k115:FnOk Tryz.prog gl 165 f115:=fnOk_of (by kernel_rfl) (by kernel_rfl) (by kernel_rfl)
theorem k140:FnOk Tryz.prog gl 107 f140:=fnOk_of (by kernel_rfl) (by kernel_rfl) (by kernel_rfl)
theorem k155:FnOk Tryz.prog gl 169 f155:=fnOk_of (by kernel_rfl) (by kernel_rfl) (by kernel_rfl)
theorem k156:FnOk Tryz.prog gl 170 f156:=fnOk_of (by kernel_rfl) (by kernel_rfl) (by kernel_rfl)
theorem k183:FnOk Tryz.prog gl 195 f183:=fnOk_of (by kernel_rfl) (by kernel_rfl) (by kernel_rfl)
theorem k187:FnOk Tryz.prog gl 199 f187:=fnOk_of (by kernel_rfl) (by kernel_rfl) (by kernel_rfl)
theorem k190:FnOk Tryz.prog gl 201 f190:=fnOk_of (by kernel_rfl) (by kernel_rfl) (by kernel_rfl)
theorem k1206:FnOk Tryz.prog gl 148 f1206:=fnOk_of (by kernel_rfl) (by kernel_rfl) (by kernel_rfl)
theorem k1262:FnOk Tryz.prog gl 24 f1262:=fnOk_of (by kernel_rfl) (by kernel_rfl) (by kernel_rfl)
theorem k1267:FnOk Tryz.prog gl 30 f1267:=fnOk_of (by kernel_rfl) (by kernel_rfl) (by kernel_rfl)
theorem k1278:FnOk Tryz.prog gl 44 f1278:=fnOk_of (by kernel_rfl) (by kernel_rfl) (by kernel_rfl)
theorem k1287:FnOk Tryz.prog gl 54 f1287:=fnOk_of (by kernel_rfl) (by kernel_rfl) (by kernel_rfl)
theorem k1295:FnOk Tryz.prog gl 62 f1295:=fnOk_of (by kernel_rfl) (by kernel_rfl) (by kernel_rfl)
theorem k1303:FnOk Tryz.prog gl 71 f1303:=fnOk_of (by kernel_rfl) (by kernel_rfl) (by kernel_rfl)
theorem k1309:FnOk Tryz.prog gl 79 f1309:=fnOk_of (by kernel_rfl) (by kernel_rfl) (by kernel_rfl)
theorem k1311:FnOk Tryz.prog gl 83 f1311:=fnOk_of (by kernel_rfl) (by kernel_rfl) (by kernel_rfl)
theorem k1314:FnOk Tryz.prog gl 86 f1314:=fnOk_of (by kernel_rfl) (by kernel_rfl) (by kernel_rfl)
theorem k1315:FnOk Tryz.prog gl 88 f1315:=fnOk_of (by kernel_rfl) (by kernel_rfl) (by kernel_rfl)
theorem k1320:FnOk Tryz.prog gl 103 f1320:=fnOk_of (by kernel_rfl) (by kernel_rfl) (by kernel_rfl)
theorem k1322:FnOk Tryz.prog gl 105 f1322:=fnOk_of (by kernel_rfl) (by kernel_rfl) (by kernel_rfl)
theorem k1323:FnOk Tryz.prog gl 106 f1323:=fnOk_of (by kernel_rfl) (by kernel_rfl) (by kernel_rfl)
theorem k1326:FnOk Tryz.prog gl 110 f1326:=fnOk_of (by kernel_rfl) (by kernel_rfl) (by kernel_rfl)
theorem k1331:FnOk Tryz.prog gl 115 f1331:=fnOk_of (by kernel_rfl) (by kernel_rfl) (by kernel_rfl)
theorem k1348:FnOk Tryz.prog gl 136 f1348:=fnOk_of (by kernel_rfl) (by kernel_rfl) (by kernel_rfl)
theorem k1350:FnOk Tryz.prog gl 138 f1350:=fnOk_of (by kernel_rfl) (by kernel_rfl) (by kernel_rfl)
theorem k1351:FnOk Tryz.prog gl 140 f1351:=fnOk_of (by kernel_rfl) (by kernel_rfl) (by kernel_rfl)
end Tab
end Go.Tidy
