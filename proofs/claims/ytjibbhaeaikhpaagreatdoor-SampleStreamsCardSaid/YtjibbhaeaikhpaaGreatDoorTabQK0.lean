/- A part of the proof. -/
import Derived.Test.YtjibbhaeaikhpaaGreatDoorTabQT
import Derived.Test.YtjibbhaeaikhpaaGreatDoorPa1
import Derived.Test.YtjibbhaeaikhpaaGreatDoorProg
import Derived.KernelRfl
set_option linter.all false
namespace Go.Tidy
open Go Go.Proofs
namespace Tab
theorem k11:FnOk Tryz.prog gl 13 f11:=fnOk_of (by kernel_rfl) (by kernel_rfl) (by kernel_rfl)
theorem k18:FnOk Tryz.prog gl 20 f18:=fnOk_of (by kernel_rfl) (by kernel_rfl) (by kernel_rfl)
theorem k23:FnOk Tryz.prog gl 25 f23:=fnOk_of (by kernel_rfl) (by kernel_rfl) (by kernel_rfl)
theorem k24:FnOk Tryz.prog gl 26 f24:=fnOk_of (by kernel_rfl) (by kernel_rfl) (by kernel_rfl)
theorem k25:FnOk Tryz.prog gl 27 f25:=fnOk_of (by kernel_rfl) (by kernel_rfl) (by kernel_rfl)
theorem k28:FnOk Tryz.prog gl 30 f28:=fnOk_of (by kernel_rfl) (by kernel_rfl) (by kernel_rfl)
theorem k43:FnOk Tryz.prog gl 45 f43:=fnOk_of (by kernel_rfl) (by kernel_rfl) (by kernel_rfl)
theorem k44:FnOk Tryz.prog gl 46 f44:=fnOk_of (by kernel_rfl) (by kernel_rfl) (by kernel_rfl)
theorem k49:FnOk Tryz.prog gl 51 f49:=fnOk_of (by kernel_rfl) (by kernel_rfl) (by kernel_rfl)
theorem k63:FnOk Tryz.prog gl 85 f63:=fnOk_of (by kernel_rfl) (by kernel_rfl) (by kernel_rfl)
theorem k68:FnOk Tryz.prog gl 73 f68:=fnOk_of (by kernel_rfl) (by kernel_rfl) (by kernel_rfl)
theorem k69:FnOk Tryz.prog gl 69 f69:=fnOk_of (by kernel_rfl) (by kernel_rfl) (by kernel_rfl)
theorem k74:FnOk Tryz.prog gl 90 f74:=fnOk_of (by kernel_rfl) (by kernel_rfl) (by kernel_rfl)
theorem k77:FnOk Tryz.prog gl 93 f77:=fnOk_of (by kernel_rfl) (by kernel_rfl) (by kernel_rfl)
theorem k81:FnOk Tryz.prog gl 97 f81:=fnOk_of (by kernel_rfl) (by kernel_rfl) (by kernel_rfl)
theorem k86:FnOk Tryz.prog gl 102 f86:=fnOk_of (by kernel_rfl) (by kernel_rfl) (by kernel_rfl)
theorem k87:FnOk Tryz.prog gl 103 f87:=fnOk_of (by kernel_rfl) (by kernel_rfl) (by kernel_rfl)
theorem k88:FnOk Tryz.prog gl 104 f88:=fnOk_of (by kernel_rfl) (by kernel_rfl) (by kernel_rfl)
theorem k104:FnOk Tryz.prog gl 120 f104:=fnOk_of (by kernel_rfl) (by kernel_rfl) (by kernel_rfl)
theorem k124:FnOk Tryz.prog gl 150 f124:=fnOk_of (by kernel_rfl) (by kernel_rfl) (by kernel_rfl)
theorem k128:FnOk Tryz.prog gl 142 f128:=fnOk_of (by kernel_rfl) (by kernel_rfl) (by kernel_rfl)
theorem k131:FnOk Tryz.prog gl 166 f131:=fnOk_of (by kernel_rfl) (by kernel_rfl) (by kernel_rfl)
theorem k133:FnOk Tryz.prog gl 168 f133:=fnOk_of (by kernel_rfl) (by kernel_rfl) (by kernel_rfl)
theorem k138:FnOk Tryz.prog gl 173 f138:=fnOk_of (by kernel_rfl) (by kernel_rfl) (by kernel_rfl)
theorem k142:FnOk Tryz.prog gl 176 f142:=fnOk_of (by kernel_rfl) (by kernel_rfl) (by kernel_rfl)
theorem k144:FnOk Tryz.prog gl 178 f144:=fnOk_of (by kernel_rfl) (by kernel_rfl) (by kernel_rfl)
theorem k151:FnOk Tryz.prog gl 185 f151:=fnOk_of (by kernel_rfl) (by kernel_rfl) (by kernel_rfl)
theorem k152:FnOk Tryz.prog gl 187 f152:=fnOk_of (by kernel_rfl) (by kernel_rfl) (by kernel_rfl)
theorem k153:FnOk Tryz.prog gl 57 f153:=fnOk_of (by kernel_rfl) (by kernel_rfl) (by kernel_rfl)
theorem k173:FnOk Tryz.prog gl 215 f173:=fnOk_of (by kernel_rfl) (by kernel_rfl) (by kernel_rfl)
theorem k175:FnOk Tryz.prog gl 213 f175:=fnOk_of (by kernel_rfl) (by kernel_rfl) (by kernel_rfl)
theorem k187:FnOk Tryz.prog gl 251 f187:=fnOk_of (by kernel_rfl) (by kernel_rfl) (by kernel_rfl)
theorem k191:FnOk Tryz.prog gl 232 f191:=fnOk_of (by kernel_rfl) (by kernel_rfl) (by kernel_rfl)
theorem k202:FnOk Tryz.prog gl 254 f202:=fnOk_of (by kernel_rfl) (by kernel_rfl) (by kernel_rfl)
theorem k1030:FnOk Tryz.prog gl 136 f1030:=fnOk_of (by kernel_rfl) (by kernel_rfl) (by kernel_rfl)
theorem k1031:FnOk Tryz.prog gl 137 f1031:=fnOk_of (by kernel_rfl) (by kernel_rfl) (by kernel_rfl)
theorem k1032:FnOk Tryz.prog gl 143 f1032:=fnOk_of (by kernel_rfl) (by kernel_rfl) (by kernel_rfl)
theorem k1035:FnOk Tryz.prog gl 146 f1035:=fnOk_of (by kernel_rfl) (by kernel_rfl) (by kernel_rfl)
end Tab
end Go.Tidy
