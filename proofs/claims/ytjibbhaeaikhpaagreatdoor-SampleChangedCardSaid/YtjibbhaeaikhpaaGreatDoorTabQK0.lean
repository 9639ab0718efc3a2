/- A part of the proof. -/
import Derived.Test.YtjibbhaeaikhpaaGreatDoorTabQT
import Derived.Test.YtjibbhaeaikhpaaGreatDoorPa1
import Derived.Test.YtjibbhaeaikhpaaGreatDoorProg
import Derived.KernelRfl
set_option linter.all false
namespace Go.Tidy
open Go Go.Proofs
namespace Tab
theorem k6:FnOk Tryz.prog gl 6 f6:=fnOk_of (by kernel_rfl) (by kernel_rfl) (by kernel_rfl)
theorem k11:FnOk Tryz.prog gl 13 f11:=fnOk_of (by kernel_rfl) (by kernel_rfl) (by kernel_rfl)
theorem k14:FnOk Tryz.prog gl 16 f14:=fnOk_of (by kernel_rfl) (by kernel_rfl) (by kernel_rfl)
theorem k17:FnOk Tryz.prog gl 19 f17:=fnOk_of (by kernel_rfl) (by kernel_rfl) (by kernel_rfl)
theorem k23:FnOk Tryz.prog gl 25 f23:=fnOk_of (by kernel_rfl) (by kernel_rfl) (by kernel_rfl)
theorem k24:FnOk Tryz.prog gl 26 f24:=fnOk_of (by kernel_rfl) (by kernel_rfl) (by kernel_rfl)
theorem k27:FnOk Tryz.prog gl 29 f27:=fnOk_of (by kernel_rfl) (by kernel_rfl) (by kernel_rfl)
theorem k39:FnOk Tryz.prog gl 41 f39:=fnOk_of (by kernel_rfl) (by kernel_rfl) (by kernel_rfl)
theorem k42:FnOk Tryz.prog gl 44 f42:=fnOk_of (by kernel_rfl) (by kernel_rfl) (by kernel_rfl)
theorem k45:FnOk Tryz.prog gl 47 f45:=fnOk_of (by kernel_rfl) (by kernel_rfl) (by kernel_rfl)
theorem k49:FnOk Tryz.prog gl 51 f49:=fnOk_of (by kernel_rfl) (by kernel_rfl) (by kernel_rfl)
theorem k63:FnOk Tryz.prog gl 85 f63:=fnOk_of (by kernel_rfl) (by kernel_rfl) (by kernel_rfl)
theorem k70:FnOk Tryz.prog gl 86 f70:=fnOk_of (by kernel_rfl) (by kernel_rfl) (by kernel_rfl)
theorem k77:FnOk Tryz.prog gl 93 f77:=fnOk_of (by kernel_rfl) (by kernel_rfl) (by kernel_rfl)
theorem k82:FnOk Tryz.prog gl 98 f82:=fnOk_of (by kernel_rfl) (by kernel_rfl) (by kernel_rfl)
theorem k85:FnOk Tryz.prog gl 101 f85:=fnOk_of (by kernel_rfl) (by kernel_rfl) (by kernel_rfl)
theorem k92:FnOk Tryz.prog gl 108 f92:=fnOk_of (by kernel_rfl) (by kernel_rfl) (by kernel_rfl)
theorem k93:FnOk Tryz.prog gl 109 f93:=fnOk_of (by kernel_rfl) (by kernel_rfl) (by kernel_rfl)
theorem k107:FnOk Tryz.prog gl 123 f107:=fnOk_of (by kernel_rfl) (by kernel_rfl) (by kernel_rfl)
theorem k120:FnOk Tryz.prog gl 139 f120:=fnOk_of (by kernel_rfl) (by kernel_rfl) (by kernel_rfl)
theorem k121:FnOk Tryz.prog gl 140 f121:=fnOk_of (by kernel_rfl) (by kernel_rfl) (by kernel_rfl)
theorem k122:FnOk Tryz.prog gl 148 f122:=fnOk_of (by kernel_rfl) (by kernel_rfl) (by kernel_rfl)
theorem k124:FnOk Tryz.prog gl 150 f124:=fnOk_of (by kernel_rfl) (by kernel_rfl) (by kernel_rfl)
theorem k127:FnOk Tryz.prog gl 141 f127:=fnOk_of (by kernel_rfl) (by kernel_rfl) (by kernel_rfl)
theorem k132:FnOk Tryz.prog gl 167 f132:=fnOk_of (by kernel_rfl) (by kernel_rfl) (by kernel_rfl)
theorem k135:FnOk Tryz.prog gl 170 f135:=fnOk_of (by kernel_rfl) (by kernel_rfl) (by kernel_rfl)
theorem k136:FnOk Tryz.prog gl 171 f136:=fnOk_of (by kernel_rfl) (by kernel_rfl) (by kernel_rfl)
theorem k144:FnOk Tryz.prog gl 178 f144:=fnOk_of (by kernel_rfl) (by kernel_rfl) (by kernel_rfl)
theorem k148:FnOk Tryz.prog gl 182 f148:=fnOk_of (by kernel_rfl) (by kernel_rfl) (by kernel_rfl)
theorem k149:FnOk Tryz.prog gl 183 f149:=fnOk_of (by kernel_rfl) (by kernel_rfl) (by kernel_rfl)
theorem k154:FnOk Tryz.prog gl 190 f154:=fnOk_of (by kernel_rfl) (by kernel_rfl) (by kernel_rfl)
theorem k157:FnOk Tryz.prog gl 193 f157:=fnOk_of (by kernel_rfl) (by kernel_rfl) (by kernel_rfl)
theorem k170:FnOk Tryz.prog gl 129 f170:=fnOk_of (by kernel_rfl) (by kernel_rfl) (by kernel_rfl)
theorem k177:FnOk Tryz.prog gl 241 f177:=fnOk_of (by kernel_rfl) (by kernel_rfl) (by kernel_rfl)
theorem k183:FnOk Tryz.prog gl 247 f183:=fnOk_of (by kernel_rfl) (by kernel_rfl) (by kernel_rfl)
theorem k199:FnOk Tryz.prog gl 266 f199:=fnOk_of (by kernel_rfl) (by kernel_rfl) (by kernel_rfl)
theorem k201:FnOk Tryz.prog gl 253 f201:=fnOk_of (by kernel_rfl) (by kernel_rfl) (by kernel_rfl)
end Tab
end Go.Tidy
