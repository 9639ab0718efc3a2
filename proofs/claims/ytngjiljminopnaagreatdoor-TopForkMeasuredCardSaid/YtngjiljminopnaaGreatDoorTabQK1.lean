/- A part of the proof. -/
import Derived.Test.YtngjiljminopnaaGreatDoorTabQT
import Derived.Test.YtngjiljminopnaaGreatDoorPa1
import Derived.Test.YtngjiljminopnaaGreatDoorProg
import Derived.KernelRfl
set_option linter.all false
namespace Go.Tidy
open Go Go.Proofs
namespace Tab
theorem k2:qbq Tryz.prog gl 2 f2:=qag (by kernel_rfl) (by kernel_rfl) (by kernel_rfl)
theorem k13:qbq Tryz.prog gl 85 f13:=qag (by kernel_rfl) (by kernel_rfl) (by kernel_rfl)
theorem k16:qbq Tryz.prog gl 152 f16:=qag (by kernel_rfl) (by kernel_rfl) (by kernel_rfl)
theorem k18:qbq Tryz.prog gl 42 f18:=qag (by kernel_rfl) (by kernel_rfl) (by kernel_rfl)
theorem k50:qbq Tryz.prog gl 50 f50:=qag (by kernel_rfl) (by kernel_rfl) (by kernel_rfl)
theorem k64:qbq Tryz.prog gl 57 f64:=qag (by kernel_rfl) (by kernel_rfl) (by kernel_rfl)
theorem k77:qbq Tryz.prog gl 89 f77:=qag (by kernel_rfl) (by kernel_rfl) (by kernel_rfl)
theorem k81:qbq Tryz.prog gl 167 f81:=qag (by kernel_rfl) (by kernel_rfl) (by kernel_rfl)
theorem k83:qbq Tryz.prog gl 148 f83:=qag (by kernel_rfl) (by kernel_rfl) (by kernel_rfl)
theorem k93:qbq Tryz.prog gl 150 f93:=qag (by kernel_rfl) (by kernel_rfl) (by kernel_rfl)
theorem k130:qbq Tryz.prog gl 181 f130:=qag (by kernel_rfl) (by kernel_rfl) (by kernel_rfl)
theorem k137:qbq Tryz.prog gl 160 f137:=qag (by kernel_rfl) (by kernel_rfl) (by kernel_rfl)
theorem k138:qbq Tryz.prog gl 162 f138:=qag (by kernel_rfl) (by kernel_rfl) (by kernel_rfl)
theorem k142:qbq Tryz.prog gl 177 f142:=qag (by kernel_rfl) (by kernel_rfl) (by kernel_rfl)
theorem k144:qbq Tryz.prog gl 165 f144:=qag (by kernel_rfl) (by kernel_rfl) (by kernel_rfl)
theorem k146:qbq Tryz.prog gl 157 f146:=qag (by kernel_rfl) (by kernel_rfl) (by kernel_rfl)
theorem k147:qbq Tryz.prog gl 158 f147:=qag (by kernel_rfl) (by kernel_rfl) (by kernel_rfl)
theorem k165:qbq Tryz.prog gl 174 f165:=qag (by kernel_rfl) (by kernel_rfl) (by kernel_rfl)
theorem k1117:qbq Tryz.prog gl 28 f1117:=qag (by kernel_rfl) (by kernel_rfl) (by kernel_rfl)
theorem k1146:qbq Tryz.prog gl 46 f1146:=qag (by kernel_rfl) (by kernel_rfl) (by kernel_rfl)
theorem k1159:qbq Tryz.prog gl 25 f1159:=qag (by kernel_rfl) (by kernel_rfl) (by kernel_rfl)
theorem k1167:qbq Tryz.prog gl 47 f1167:=qag (by kernel_rfl) (by kernel_rfl) (by kernel_rfl)
theorem k1168:qbq Tryz.prog gl 48 f1168:=qag (by kernel_rfl) (by kernel_rfl) (by kernel_rfl)
theorem k1176:qbq Tryz.prog gl 104 f1176:=qag (by kernel_rfl) (by kernel_rfl) (by kernel_rfl)
theorem k1181:qbq Tryz.prog gl 101 f1181:=qag (by kernel_rfl) (by kernel_rfl) (by kernel_rfl)
theorem k1194:qbq Tryz.prog gl 82 f1194:=qag (by kernel_rfl) (by kernel_rfl) (by kernel_rfl)
theorem k1226:qbq Tryz.prog gl 143 f1226:=qag (by kernel_rfl) (by kernel_rfl) (by kernel_rfl)
theorem k1231:qbq Tryz.prog gl 140 f1231:=qag (by kernel_rfl) (by kernel_rfl) (by kernel_rfl)
theorem k1233:qbq Tryz.prog gl 188 f1233:=qag (by kernel_rfl) (by kernel_rfl) (by kernel_rfl)
theorem k1235:qbq Tryz.prog gl 203 f1235:=qag (by kernel_rfl) (by kernel_rfl) (by kernel_rfl)
end Tab
end Go.Tidy
