/- A part of the proof. -/
import Derived.Test.YtjibbhaeaikhpaaGreatDoorTabQT
import Derived.Test.YtjibbhaeaikhpaaGreatDoorPa1
import Derived.Test.YtjibbhaeaikhpaaGreatDoorProg
import Derived.KernelRfl
set_option linter.all false
namespace Go.Tidy
open Go Go.Proofs
namespace Tab
theorem k14:FnOk Tryz.prog gl 16 f14:=fnOk_of (by kernel_rfl) (by kernel_rfl) (by kernel_rfl)
theorem k22:FnOk Tryz.prog gl 24 f22:=fnOk_of (by kernel_rfl) (by kernel_rfl) (by kernel_rfl)
theorem k25:FnOk Tryz.prog gl 27 f25:=fnOk_of (by kernel_rfl) (by kernel_rfl) (by kernel_rfl)
theorem k26:FnOk Tryz.prog gl 28 f26:=fnOk_of (by kernel_rfl) (by kernel_rfl) (by kernel_rfl)
theorem k29:FnOk Tryz.prog gl 31 f29:=fnOk_of (by kernel_rfl) (by kernel_rfl) (by kernel_rfl)
theorem k31:FnOk Tryz.prog gl 33 f31:=fnOk_of (by kernel_rfl) (by kernel_rfl) (by kernel_rfl)
theorem k41:FnOk Tryz.prog gl 43 f41:=fnOk_of (by kernel_rfl) (by kernel_rfl) (by kernel_rfl)
theorem k45:FnOk Tryz.prog gl 47 f45:=fnOk_of (by kernel_rfl) (by kernel_rfl) (by kernel_rfl)
theorem k51:FnOk Tryz.prog gl 53 f51:=fnOk_of (by kernel_rfl) (by kernel_rfl) (by kernel_rfl)
theorem k58:FnOk Tryz.prog gl 159 f58:=fnOk_of (by kernel_rfl) (by kernel_rfl) (by kernel_rfl)
theorem k62:FnOk Tryz.prog gl 84 f62:=fnOk_of (by kernel_rfl) (by kernel_rfl) (by kernel_rfl)
theorem k64:FnOk Tryz.prog gl 79 f64:=fnOk_of (by kernel_rfl) (by kernel_rfl) (by kernel_rfl)
theorem k77:FnOk Tryz.prog gl 93 f77:=fnOk_of (by kernel_rfl) (by kernel_rfl) (by kernel_rfl)
theorem k78:FnOk Tryz.prog gl 94 f78:=fnOk_of (by kernel_rfl) (by kernel_rfl) (by kernel_rfl)
theorem k81:FnOk Tryz.prog gl 97 f81:=fnOk_of (by kernel_rfl) (by kernel_rfl) (by kernel_rfl)
theorem k83:FnOk Tryz.prog gl 99 f83:=fnOk_of (by kernel_rfl) (by kernel_rfl) (by kernel_rfl)
theorem k101:FnOk Tryz.prog gl 117 f101:=fnOk_of (by kernel_rfl) (by kernel_rfl) (by kernel_rfl)
theorem k104:FnOk Tryz.prog gl 120 f104:=fnOk_of (by kernel_rfl) (by kernel_rfl) (by kernel_rfl)
theorem k107:FnOk Tryz.prog gl 123 f107:=fnOk_of (by kernel_rfl) (by kernel_rfl) (by kernel_rfl)
theorem k109:FnOk Tryz.prog gl 125 f109:=fnOk_of (by kernel_rfl) (by kernel_rfl) (by kernel_rfl)
theorem k113:FnOk Tryz.prog gl 164 f113:=fnOk_of (by kernel_rfl) (by kernel_rfl) (by kernel_rfl)
theorem k115:FnOk Tryz.prog gl 160 f115:=fnOk_of (by kernel_rfl) (by kernel_rfl) (by kernel_rfl)
theorem k118:FnOk Tryz.prog gl 132 f118:=fnOk_of (by kernel_rfl) (by kernel_rfl) (by kernel_rfl)
theorem k129:FnOk Tryz.prog gl 131 f129:=fnOk_of (by kernel_rfl) (by kernel_rfl) (by kernel_rfl)
theorem k135:FnOk Tryz.prog gl 170 f135:=fnOk_of (by kernel_rfl) (by kernel_rfl) (by kernel_rfl)
theorem k141:FnOk Tryz.prog gl 134 f141:=fnOk_of (by kernel_rfl) (by kernel_rfl) (by kernel_rfl)
theorem k165:FnOk Tryz.prog gl 210 f165:=fnOk_of (by kernel_rfl) (by kernel_rfl) (by kernel_rfl)
theorem k167:FnOk Tryz.prog gl 212 f167:=fnOk_of (by kernel_rfl) (by kernel_rfl) (by kernel_rfl)
theorem k173:FnOk Tryz.prog gl 215 f173:=fnOk_of (by kernel_rfl) (by kernel_rfl) (by kernel_rfl)
theorem k174:FnOk Tryz.prog gl 216 f174:=fnOk_of (by kernel_rfl) (by kernel_rfl) (by kernel_rfl)
theorem k177:FnOk Tryz.prog gl 241 f177:=fnOk_of (by kernel_rfl) (by kernel_rfl) (by kernel_rfl)
theorem k183:FnOk Tryz.prog gl 247 f183:=fnOk_of (by kernel_rfl) (by kernel_rfl) (by kernel_rfl)
theorem k187:FnOk Tryz.prog gl 251 f187:=fnOk_of (by kernel_rfl) (by kernel_rfl) (by kernel_rfl)
theorem k191:FnOk Tryz.prog gl 232 f191:=fnOk_of (by kernel_rfl) (by kernel_rfl) (by kernel_rfl)
theorem k192:FnOk Tryz.prog gl 233 f192:=fnOk_of (by kernel_rfl) (by kernel_rfl) (by kernel_rfl)
theorem k199:FnOk Tryz.prog gl 266 f199:=fnOk_of (by kernel_rfl) (by kernel_rfl) (by kernel_rfl)
theorem k201:FnOk Tryz.prog gl 253 f201:=fnOk_of (by kernel_rfl) (by kernel_rfl) (by kernel_rfl)
theorem k202:FnOk Tryz.prog gl 254 f202:=fnOk_of (by kernel_rfl) (by kernel_rfl) (by kernel_rfl)
end Tab
end Go.Tidy
