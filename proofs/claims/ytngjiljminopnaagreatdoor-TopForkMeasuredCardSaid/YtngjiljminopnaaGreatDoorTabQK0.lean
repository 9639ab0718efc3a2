/- A part of the proof. -/
import Derived.Test.YtngjiljminopnaaGreatDoorTabQT
import Derived.Test.YtngjiljminopnaaGreatDoorPa1
import Derived.Test.YtngjiljminopnaaGreatDoorProg
import Derived.KernelRfl
set_option linter.all false
namespace Go.Tidy
open Go Go.Proofs
namespace Tab
theorem k28:qbq Tryz.prog gl 51 f28:=qag (by kernel_rfl) (by kernel_rfl) (by kernel_rfl)
theorem k32:qbq Tryz.prog gl 94 f32:=qag (by kernel_rfl) (by kernel_rfl) (by kernel_rfl)
theorem k39:qbq Tryz.prog gl 49 f39:=qag (by kernel_rfl) (by kernel_rfl) (by kernel_rfl)
theorem k71:qbq Tryz.prog gl 72 f71:=qag (by kernel_rfl) (by kernel_rfl) (by kernel_rfl)
theorem k76:qbq Tryz.prog gl 190 f76:=qag (by kernel_rfl) (by kernel_rfl) (by kernel_rfl)
theorem k79:qbq Tryz.prog gl 40 f79:=qag (by kernel_rfl) (by kernel_rfl) (by kernel_rfl)
theorem k82:qbq Tryz.prog gl 204 f82:=qag (by kernel_rfl) (by kernel_rfl) (by kernel_rfl)
theorem k85:qbq Tryz.prog gl 115 f85:=qag (by kernel_rfl) (by kernel_rfl) (by kernel_rfl)
theorem k89:qbq Tryz.prog gl 117 f89:=qag (by kernel_rfl) (by kernel_rfl) (by kernel_rfl)
theorem k109:qbq Tryz.prog gl 114 f109:=qag (by kernel_rfl) (by kernel_rfl) (by kernel_rfl)
theorem k139:qbq Tryz.prog gl 163 f139:=qag (by kernel_rfl) (by kernel_rfl) (by kernel_rfl)
theorem k141:qbq Tryz.prog gl 176 f141:=qag (by kernel_rfl) (by kernel_rfl) (by kernel_rfl)
theorem k145:qbq Tryz.prog gl 156 f145:=qag (by kernel_rfl) (by kernel_rfl) (by kernel_rfl)
theorem k1110:qbq Tryz.prog gl 7 f1110:=qag (by kernel_rfl) (by kernel_rfl) (by kernel_rfl)
theorem k1121:qbq Tryz.prog gl 73 f1121:=qag (by kernel_rfl) (by kernel_rfl) (by kernel_rfl)
theorem k1178:qbq Tryz.prog gl 100 f1178:=qag (by kernel_rfl) (by kernel_rfl) (by kernel_rfl)
theorem k1180:qbq Tryz.prog gl 123 f1180:=qag (by kernel_rfl) (by kernel_rfl) (by kernel_rfl)
theorem k1182:qbq Tryz.prog gl 124 f1182:=qag (by kernel_rfl) (by kernel_rfl) (by kernel_rfl)
theorem k1187:qbq Tryz.prog gl 95 f1187:=qag (by kernel_rfl) (by kernel_rfl) (by kernel_rfl)
theorem k1190:qbq Tryz.prog gl 98 f1190:=qag (by kernel_rfl) (by kernel_rfl) (by kernel_rfl)
theorem k1199:qbq Tryz.prog gl 81 f1199:=qag (by kernel_rfl) (by kernel_rfl) (by kernel_rfl)
theorem k1206:qbq Tryz.prog gl 110 f1206:=qag (by kernel_rfl) (by kernel_rfl) (by kernel_rfl)
theorem k1225:qbq Tryz.prog gl 146 f1225:=qag (by kernel_rfl) (by kernel_rfl) (by kernel_rfl)
end Tab
end Go.Tidy
