/- A part of the proof. -/
import Derived.Test.YtmafhkcdhpkliaaGreatDoorTabQT
import Derived.Test.YtmafhkcdhpkliaaGreatDoorPa1
import Derived.Test.YtmafhkcdhpkliaaGreatDoorProg
import Derived.KernelRfl
set_option linter.all false
namespace Go.Tidy
open Go Go.Proofs
namespace Tab
theorem k21:FnOk Tryz.prog gl 86 f21:=fnOk_of (by kernel_rfl) (by kernel_rfl) (by kernel_rfl)
theorem k77:FnOk Tryz.prog gl 87 f77:=fnOk_of (by kernel_rfl) (by kernel_rfl) (by kernel_rfl)
theorem k81:FnOk Tryz.prog gl 158 f81:=fnOk_of (by kernel_rfl) (by kernel_rfl) (by kernel_rfl)
theorem k95:FnOk Tryz.prog gl 54 f95:=fnOk_of (by kernel_rfl) (by kernel_rfl) (by kernel_rfl)
theorem k130:FnOk Tryz.prog gl 205 f130:=fnOk_of (by kernel_rfl) (by kernel_rfl) (by kernel_rfl)
theorem k133:FnOk Tryz.prog gl 208 f133:=fnOk_of (by kernel_rfl) (by kernel_rfl) (by kernel_rfl)
theorem k155:FnOk Tryz.prog gl 175 f155:=fnOk_of (by kernel_rfl) (by kernel_rfl) (by kernel_rfl)
theorem k165:FnOk Tryz.prog gl 155 f165:=fnOk_of (by kernel_rfl) (by kernel_rfl) (by kernel_rfl)
theorem k174:FnOk Tryz.prog gl 214 f174:=fnOk_of (by kernel_rfl) (by kernel_rfl) (by kernel_rfl)
theorem k177:FnOk Tryz.prog gl 235 f177:=fnOk_of (by kernel_rfl) (by kernel_rfl) (by kernel_rfl)
theorem k183:FnOk Tryz.prog gl 241 f183:=fnOk_of (by kernel_rfl) (by kernel_rfl) (by kernel_rfl)
theorem k190:FnOk Tryz.prog gl 251 f190:=fnOk_of (by kernel_rfl) (by kernel_rfl) (by kernel_rfl)
theorem k1184:FnOk Tryz.prog gl 134 f1184:=fnOk_of (by kernel_rfl) (by kernel_rfl) (by kernel_rfl)
theorem k1190:FnOk Tryz.prog gl 162 f1190:=fnOk_of (by kernel_rfl) (by kernel_rfl) (by kernel_rfl)
theorem k1256:FnOk Tryz.prog gl 70 f1256:=fnOk_of (by kernel_rfl) (by kernel_rfl) (by kernel_rfl)
theorem k1261:FnOk Tryz.prog gl 32 f1261:=fnOk_of (by kernel_rfl) (by kernel_rfl) (by kernel_rfl)
theorem k1270:FnOk Tryz.prog gl 15 f1270:=fnOk_of (by kernel_rfl) (by kernel_rfl) (by kernel_rfl)
theorem k1295:FnOk Tryz.prog gl 73 f1295:=fnOk_of (by kernel_rfl) (by kernel_rfl) (by kernel_rfl)
theorem k1301:FnOk Tryz.prog gl 51 f1301:=fnOk_of (by kernel_rfl) (by kernel_rfl) (by kernel_rfl)
theorem k1307:FnOk Tryz.prog gl 49 f1307:=fnOk_of (by kernel_rfl) (by kernel_rfl) (by kernel_rfl)
theorem k1308:FnOk Tryz.prog gl 36 f1308:=fnOk_of (by kernel_rfl) (by kernel_rfl) (by kernel_rfl)
theorem k1309:FnOk Tryz.prog gl 37 f1309:=fnOk_of (by kernel_rfl) (by kernel_rfl) (by kernel_rfl)
theorem k1310:FnOk Tryz.prog gl 41 f1310:=fnOk_of (by kernel_rfl) (by kernel_rfl) (by kernel_rfl)
theorem k1312:FnOk Tryz.prog gl 132 f1312:=fnOk_of (by kernel_rfl) (by kernel_rfl) (by kernel_rfl)
theorem k1315:FnOk Tryz.prog gl 133 f1315:=fnOk_of (by kernel_rfl) (by kernel_rfl) (by kernel_rfl)
theorem k1321:FnOk Tryz.prog gl 76 f1321:=fnOk_of (by kernel_rfl) (by kernel_rfl) (by kernel_rfl)
theorem k1328:FnOk Tryz.prog gl 92 f1328:=fnOk_of (by kernel_rfl) (by kernel_rfl) (by kernel_rfl)
theorem k1330:FnOk Tryz.prog gl 143 f1330:=fnOk_of (by kernel_rfl) (by kernel_rfl) (by kernel_rfl)
theorem k1342:FnOk Tryz.prog gl 127 f1342:=fnOk_of (by kernel_rfl) (by kernel_rfl) (by kernel_rfl)
theorem k1345:FnOk Tryz.prog gl 189 f1345:=fnOk_of (by kernel_rfl) (by kernel_rfl) (by kernel_rfl)
theorem k1354:FnOk Tryz.prog gl 202 f1354:=fnOk_of (by kernel_rfl) (by kernel_rfl) (by kernel_rfl)
theorem k1355:FnOk Tryz.prog gl 153 f1355:=fnOk_of (by kernel_rfl) (by kernel_rfl) (by kernel_rfl)
theorem k1358:FnOk Tryz.prog gl 172 f1358:=fnOk_of (by kernel_rfl) (by kernel_rfl) (by kernel_rfl)
theorem k1362:FnOk Tryz.prog gl 211 f1362:=fnOk_of (by kernel_rfl) (by kernel_rfl) (by kernel_rfl)
end Tab
end Go.Tidy
