/- A part of the proof. -/
import Derived.Test.YtpbdcpgdbpkglaaGreatDoorTabQT
import Derived.Test.YtpbdcpgdbpkglaaGreatDoorPa1
import Derived.Test.YtpbdcpgdbpkglaaGreatDoorProg
import Derived.KernelRfl
set_option linter.all false
namespace Go.Tidy
open Go Go.Proofs
namespace Tab
theorem k2:FnOk Tryz.prog gl 2 f2:=fnOk_of (by kernel_rfl) (by kernel_rfl) (by kernel_rfl)
theorem k14:FnOk Tryz.prog gl 37 f14:=fnOk_of (by kernel_rfl) (by kernel_rfl) (by kernel_rfl)
theorem k32:FnOk Tryz.prog gl 26 f32:=fnOk_of (by kernel_rfl) (by kernel_rfl) (by kernel_rfl)
theorem k58:FnOk Tryz.prog gl 32 f58:=fnOk_of (by kernel_rfl) (by kernel_rfl) (by kernel_rfl)
theorem k78:FnOk Tryz.prog gl 161 f78:=fnOk_of (by kernel_rfl) (by kernel_rfl) (by kernel_rfl)
theorem k80:FnOk Tryz.prog gl 154 f80:=fnOk_of (by kernel_rfl) (by kernel_rfl) (by kernel_rfl)
theorem k81:FnOk Tryz.prog gl 155 f81:=fnOk_of (by kernel_rfl) (by kernel_rfl) (by kernel_rfl)
theorem k106:FnOk Tryz.prog gl 96 f106:=fnOk_of (by kernel_rfl) (by kernel_rfl) (by kernel_rfl)
theorem k111:FnOk Tryz.prog gl 82 f111:=fnOk_of (by kernel_rfl) (by kernel_rfl) (by kernel_rfl)
theorem k126:FnOk Tryz.prog gl 144 f126:=fnOk_of (by kernel_rfl) (by kernel_rfl) (by kernel_rfl)
theorem k133:FnOk Tryz.prog gl 176 f133:=fnOk_of (by kernel_rfl) (by kernel_rfl) (by kernel_rfl)
theorem k140:FnOk Tryz.prog gl 107 f140:=fnOk_of (by kernel_rfl) (by kernel_rfl) (by kernel_rfl)
theorem k156:FnOk Tryz.prog gl 170 f156:=fnOk_of (by kernel_rfl) (by kernel_rfl) (by kernel_rfl)
theorem k177:FnOk Tryz.prog gl 189 f177:=fnOk_of (by kernel_rfl) (by kernel_rfl) (by kernel_rfl)
theorem k1184:FnOk Tryz.prog gl 89 f1184:=fnOk_of (by kernel_rfl) (by kernel_rfl) (by kernel_rfl)
theorem k1255:FnOk Tryz.prog gl 16 f1255:=fnOk_of (by kernel_rfl) (by kernel_rfl) (by kernel_rfl)
theorem k1280:FnOk Tryz.prog gl 46 f1280:=fnOk_of (by kernel_rfl) (by kernel_rfl) (by kernel_rfl)
theorem k1282:FnOk Tryz.prog gl 49 f1282:=fnOk_of (by kernel_rfl) (by kernel_rfl) (by kernel_rfl)
theorem k1283:FnOk Tryz.prog gl 50 f1283:=fnOk_of (by kernel_rfl) (by kernel_rfl) (by kernel_rfl)
theorem k1287:FnOk Tryz.prog gl 54 f1287:=fnOk_of (by kernel_rfl) (by kernel_rfl) (by kernel_rfl)
theorem k1292:FnOk Tryz.prog gl 59 f1292:=fnOk_of (by kernel_rfl) (by kernel_rfl) (by kernel_rfl)
theorem k1321:FnOk Tryz.prog gl 104 f1321:=fnOk_of (by kernel_rfl) (by kernel_rfl) (by kernel_rfl)
theorem k1325:FnOk Tryz.prog gl 109 f1325:=fnOk_of (by kernel_rfl) (by kernel_rfl) (by kernel_rfl)
theorem k1334:FnOk Tryz.prog gl 118 f1334:=fnOk_of (by kernel_rfl) (by kernel_rfl) (by kernel_rfl)
theorem k1335:FnOk Tryz.prog gl 119 f1335:=fnOk_of (by kernel_rfl) (by kernel_rfl) (by kernel_rfl)
theorem k1338:FnOk Tryz.prog gl 123 f1338:=fnOk_of (by kernel_rfl) (by kernel_rfl) (by kernel_rfl)
theorem k1342:FnOk Tryz.prog gl 128 f1342:=fnOk_of (by kernel_rfl) (by kernel_rfl) (by kernel_rfl)
theorem k1345:FnOk Tryz.prog gl 133 f1345:=fnOk_of (by kernel_rfl) (by kernel_rfl) (by kernel_rfl)
theorem k1348:FnOk Tryz.prog gl 136 f1348:=fnOk_of (by kernel_rfl) (by kernel_rfl) (by kernel_rfl)
theorem k1356:FnOk Tryz.prog gl 159 f1356:=fnOk_of (by kernel_rfl) (by kernel_rfl) (by kernel_rfl)
theorem k1360:FnOk Tryz.prog gl 179 f1360:=fnOk_of (by kernel_rfl) (by kernel_rfl) (by kernel_rfl)
theorem k1362:FnOk Tryz.prog gl 181 f1362:=fnOk_of (by kernel_rfl) (by kernel_rfl) (by kernel_rfl)
end Tab
end Go.Tidy
