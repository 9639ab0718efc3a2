/- A part of the proof. -/
import Derived.Test.YtpmijenaggkpdaaGreatDoorTabQT
import Derived.Test.YtpmijenaggkpdaaGreatDoorPa1
import Derived.Test.YtpmijenaggkpdaaGreatDoorProg
import Derived.KernelRfl
set_option linter.all false
namespace Go.Tidy
open Go Go.Proofs
namespace Tab
theorem k6:FnOk Tryz.prog gl 6 f6:=fnOk_of (by kernel_rfl) (by kernel_rfl) (by kernel_rfl)
theorem k9:FnOk Tryz.prog gl 9 f9:=fnOk_of (by kernel_rfl) (by kernel_rfl) (by kernel_rfl)
theorem k12:FnOk Tryz.prog gl 12 f12:=fnOk_of (by kernel_rfl) (by kernel_rfl) (by kernel_rfl)
theorem k18:FnOk Tryz.prog gl 18 f18:=fnOk_of (by kernel_rfl) (by kernel_rfl) (by kernel_rfl)
theorem k21:FnOk Tryz.prog gl 21 f21:=fnOk_of (by kernel_rfl) (by kernel_rfl) (by kernel_rfl)
theorem k27:FnOk Tryz.prog gl 27 f27:=fnOk_of (by kernel_rfl) (by kernel_rfl) (by kernel_rfl)
theorem k43:FnOk Tryz.prog gl 43 f43:=fnOk_of (by kernel_rfl) (by kernel_rfl) (by kernel_rfl)
theorem k54:FnOk Tryz.prog gl 54 f54:=fnOk_of (by kernel_rfl) (by kernel_rfl) (by kernel_rfl)
theorem k67:FnOk Tryz.prog gl 67 f67:=fnOk_of (by kernel_rfl) (by kernel_rfl) (by kernel_rfl)
theorem k71:FnOk Tryz.prog gl 71 f71:=fnOk_of (by kernel_rfl) (by kernel_rfl) (by kernel_rfl)
theorem k73:FnOk Tryz.prog gl 73 f73:=fnOk_of (by kernel_rfl) (by kernel_rfl) (by kernel_rfl)
theorem k74:FnOk Tryz.prog gl 74 f74:=fnOk_of (by kernel_rfl) (by kernel_rfl) (by kernel_rfl)
theorem k75:FnOk Tryz.prog gl 75 f75:=fnOk_of (by kernel_rfl) (by kernel_rfl) (by kernel_rfl)
theorem k76:FnOk Tryz.prog gl 76 f76:=fnOk_of (by kernel_rfl) (by kernel_rfl) (by kernel_rfl)
theorem k77:FnOk Tryz.prog gl 77 f77:=fnOk_of (by kernel_rfl) (by kernel_rfl) (by kernel_rfl)
theorem k82:FnOk Tryz.prog gl 82 f82:=fnOk_of (by kernel_rfl) (by kernel_rfl) (by kernel_rfl)
theorem k83:FnOk Tryz.prog gl 83 f83:=fnOk_of (by kernel_rfl) (by kernel_rfl) (by kernel_rfl)
theorem k84:FnOk Tryz.prog gl 84 f84:=fnOk_of (by kernel_rfl) (by kernel_rfl) (by kernel_rfl)
theorem k86:FnOk Tryz.prog gl 86 f86:=fnOk_of (by kernel_rfl) (by kernel_rfl) (by kernel_rfl)
theorem k100:FnOk Tryz.prog gl 100 f100:=fnOk_of (by kernel_rfl) (by kernel_rfl) (by kernel_rfl)
theorem k103:FnOk Tryz.prog gl 103 f103:=fnOk_of (by kernel_rfl) (by kernel_rfl) (by kernel_rfl)
theorem k108:FnOk Tryz.prog gl 108 f108:=fnOk_of (by kernel_rfl) (by kernel_rfl) (by kernel_rfl)
theorem k110:FnOk Tryz.prog gl 110 f110:=fnOk_of (by kernel_rfl) (by kernel_rfl) (by kernel_rfl)
theorem k111:FnOk Tryz.prog gl 111 f111:=fnOk_of (by kernel_rfl) (by kernel_rfl) (by kernel_rfl)
theorem k116:FnOk Tryz.prog gl 116 f116:=fnOk_of (by kernel_rfl) (by kernel_rfl) (by kernel_rfl)
theorem k118:FnOk Tryz.prog gl 118 f118:=fnOk_of (by kernel_rfl) (by kernel_rfl) (by kernel_rfl)
theorem k124:FnOk Tryz.prog gl 124 f124:=fnOk_of (by kernel_rfl) (by kernel_rfl) (by kernel_rfl)
theorem k126:FnOk Tryz.prog gl 126 f126:=fnOk_of (by kernel_rfl) (by kernel_rfl) (by kernel_rfl)
theorem k128:FnOk Tryz.prog gl 128 f128:=fnOk_of (by kernel_rfl) (by kernel_rfl) (by kernel_rfl)
theorem k130:FnOk Tryz.prog gl 130 f130:=fnOk_of (by kernel_rfl) (by kernel_rfl) (by kernel_rfl)
theorem k132:FnOk Tryz.prog gl 132 f132:=fnOk_of (by kernel_rfl) (by kernel_rfl) (by kernel_rfl)
theorem k134:FnOk Tryz.prog gl 134 f134:=fnOk_of (by kernel_rfl) (by kernel_rfl) (by kernel_rfl)
theorem k139:FnOk Tryz.prog gl 139 f139:=fnOk_of (by kernel_rfl) (by kernel_rfl) (by kernel_rfl)
theorem k141:FnOk Tryz.prog gl 141 f141:=fnOk_of (by kernel_rfl) (by kernel_rfl) (by kernel_rfl)
theorem k151:FnOk Tryz.prog gl 151 f151:=fnOk_of (by kernel_rfl) (by kernel_rfl) (by kernel_rfl)
theorem k153:FnOk Tryz.prog gl 153 f153:=fnOk_of (by kernel_rfl) (by kernel_rfl) (by kernel_rfl)
theorem k157:FnOk Tryz.prog gl 157 f157:=fnOk_of (by kernel_rfl) (by kernel_rfl) (by kernel_rfl)
theorem k168:FnOk Tryz.prog gl 168 f168:=fnOk_of (by kernel_rfl) (by kernel_rfl) (by kernel_rfl)
theorem k189:FnOk Tryz.prog gl 189 f189:=fnOk_of (by kernel_rfl) (by kernel_rfl) (by kernel_rfl)
end Tab
end Go.Tidy
