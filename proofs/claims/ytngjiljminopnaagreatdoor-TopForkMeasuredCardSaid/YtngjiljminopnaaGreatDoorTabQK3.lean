/- A part of the proof. -/
import Derived.Test.YtngjiljminopnaaGreatDoorTabQT
import Derived.Test.YtngjiljminopnaaGreatDoorPa1
import Derived.Test.YtngjiljminopnaaGreatDoorProg
import Derived.KernelRfl
set_option linter.all false
namespace Go.Tidy
open Go Go.Proofs
namespace Tab
theorem k14:qbq Tryz.prog gl 86 f14:=qag (by kernel_rfl) (by kernel_rfl) (by kernel_rfl)
theorem k22:qbq Tryz.prog gl 191 f22:=qag (by kernel_rfl) (by kernel_rfl) (by kernel_rfl)
theorem k31:qbq Tryz.prog gl 108 f31:=qag (by kernel_rfl) (by kernel_rfl) (by kernel_rfl)
theorem k73:qbq Tryz.prog gl 178 f73:=qag (by kernel_rfl) (by kernel_rfl) (by kernel_rfl)
theorem k74:qbq Tryz.prog gl 179 f74:=qag (by kernel_rfl) (by kernel_rfl) (by kernel_rfl)
theorem k75:qbq Tryz.prog gl 189 f75:=qag (by kernel_rfl) (by kernel_rfl) (by kernel_rfl)
theorem k99:qbq Tryz.prog gl 126 f99:=qag (by kernel_rfl) (by kernel_rfl) (by kernel_rfl)
theorem k104:qbq Tryz.prog gl 116 f104:=qag (by kernel_rfl) (by kernel_rfl) (by kernel_rfl)
theorem k111:qbq Tryz.prog gl 111 f111:=qag (by kernel_rfl) (by kernel_rfl) (by kernel_rfl)
theorem k134:qbq Tryz.prog gl 154 f134:=qag (by kernel_rfl) (by kernel_rfl) (by kernel_rfl)
theorem k135:qbq Tryz.prog gl 155 f135:=qag (by kernel_rfl) (by kernel_rfl) (by kernel_rfl)
theorem k136:qbq Tryz.prog gl 159 f136:=qag (by kernel_rfl) (by kernel_rfl) (by kernel_rfl)
theorem k166:qbq Tryz.prog gl 192 f166:=qag (by kernel_rfl) (by kernel_rfl) (by kernel_rfl)
theorem k1071:qbq Tryz.prog gl 141 f1071:=qag (by kernel_rfl) (by kernel_rfl) (by kernel_rfl)
theorem k1122:qbq Tryz.prog gl 15 f1122:=qag (by kernel_rfl) (by kernel_rfl) (by kernel_rfl)
theorem k1123:qbq Tryz.prog gl 90 f1123:=qag (by kernel_rfl) (by kernel_rfl) (by kernel_rfl)
theorem k1125:qbq Tryz.prog gl 33 f1125:=qag (by kernel_rfl) (by kernel_rfl) (by kernel_rfl)
theorem k1137:qbq Tryz.prog gl 36 f1137:=qag (by kernel_rfl) (by kernel_rfl) (by kernel_rfl)
theorem k1152:qbq Tryz.prog gl 37 f1152:=qag (by kernel_rfl) (by kernel_rfl) (by kernel_rfl)
theorem k1165:qbq Tryz.prog gl 44 f1165:=qag (by kernel_rfl) (by kernel_rfl) (by kernel_rfl)
theorem k1166:qbq Tryz.prog gl 45 f1166:=qag (by kernel_rfl) (by kernel_rfl) (by kernel_rfl)
theorem k1179:qbq Tryz.prog gl 122 f1179:=qag (by kernel_rfl) (by kernel_rfl) (by kernel_rfl)
theorem k1183:qbq Tryz.prog gl 91 f1183:=qag (by kernel_rfl) (by kernel_rfl) (by kernel_rfl)
theorem k1186:qbq Tryz.prog gl 103 f1186:=qag (by kernel_rfl) (by kernel_rfl) (by kernel_rfl)
theorem k1192:qbq Tryz.prog gl 144 f1192:=qag (by kernel_rfl) (by kernel_rfl) (by kernel_rfl)
theorem k1193:qbq Tryz.prog gl 79 f1193:=qag (by kernel_rfl) (by kernel_rfl) (by kernel_rfl)
theorem k1201:qbq Tryz.prog gl 105 f1201:=qag (by kernel_rfl) (by kernel_rfl) (by kernel_rfl)
theorem k1207:qbq Tryz.prog gl 112 f1207:=qag (by kernel_rfl) (by kernel_rfl) (by kernel_rfl)
theorem k1212:qbq Tryz.prog gl 93 f1212:=qag (by kernel_rfl) (by kernel_rfl) (by kernel_rfl)
theorem k1224:qbq Tryz.prog gl 164 f1224:=qag (by kernel_rfl) (by kernel_rfl) (by kernel_rfl)
end Tab
end Go.Tidy
