/- A part of the proof. -/
import Derived.Test.YtadfeepajmngiaaGreatDoorTabQT
import Derived.Test.YtadfeepajmngiaaGreatDoorPa1
import Derived.Test.YtadfeepajmngiaaGreatDoorProg
import Derived.KernelRfl
set_option linter.all false
namespace Go.Tidy
open Go Go.Proofs
set_option maxRecDepth 100000
namespace Tab
theorem k19:FnOk Tryz.prog gl 182 f19:=fnOk_of (by kernel_rfl) (by kernel_rfl) (by kernel_rfl)
theorem k22:FnOk Tryz.prog gl 195 f22:=fnOk_of (by kernel_rfl) (by kernel_rfl) (by kernel_rfl)
theorem k41:FnOk Tryz.prog gl 70 f41:=fnOk_of (by kernel_rfl) (by kernel_rfl) (by kernel_rfl)
theorem k59:FnOk Tryz.prog gl 32 f59:=fnOk_of (by kernel_rfl) (by kernel_rfl) (by kernel_rfl)
theorem k73:FnOk Tryz.prog gl 167 f73:=fnOk_of (by kernel_rfl) (by kernel_rfl) (by kernel_rfl)
theorem k79:FnOk Tryz.prog gl 152 f79:=fnOk_of (by kernel_rfl) (by kernel_rfl) (by kernel_rfl)
theorem k103:FnOk Tryz.prog gl 96 f103:=fnOk_of (by kernel_rfl) (by kernel_rfl) (by kernel_rfl)
theorem k126:FnOk Tryz.prog gl 142 f126:=fnOk_of (by kernel_rfl) (by kernel_rfl) (by kernel_rfl)
theorem k133:FnOk Tryz.prog gl 225 f133:=fnOk_of (by kernel_rfl) (by kernel_rfl) (by kernel_rfl)
theorem k155:FnOk Tryz.prog gl 188 f155:=fnOk_of (by kernel_rfl) (by kernel_rfl) (by kernel_rfl)
theorem k174:FnOk Tryz.prog gl 211 f174:=fnOk_of (by kernel_rfl) (by kernel_rfl) (by kernel_rfl)
theorem k187:FnOk Tryz.prog gl 231 f187:=fnOk_of (by kernel_rfl) (by kernel_rfl) (by kernel_rfl)
theorem k191:FnOk Tryz.prog gl 219 f191:=fnOk_of (by kernel_rfl) (by kernel_rfl) (by kernel_rfl)
theorem k199:FnOk Tryz.prog gl 208 f199:=fnOk_of (by kernel_rfl) (by kernel_rfl) (by kernel_rfl)
theorem k202:FnOk Tryz.prog gl 232 f202:=fnOk_of (by kernel_rfl) (by kernel_rfl) (by kernel_rfl)
theorem k1064:FnOk Tryz.prog gl 180 f1064:=fnOk_of (by kernel_rfl) (by kernel_rfl) (by kernel_rfl)
theorem k1223:FnOk Tryz.prog gl 147 f1223:=fnOk_of (by kernel_rfl) (by kernel_rfl) (by kernel_rfl)
theorem k1233:FnOk Tryz.prog gl 214 f1233:=fnOk_of (by kernel_rfl) (by kernel_rfl) (by kernel_rfl)
theorem k1590:FnOk Tryz.prog gl 22 f1590:=fnOk_of (by kernel_rfl) (by kernel_rfl) (by kernel_rfl)
theorem k1619:FnOk Tryz.prog gl 56 f1619:=fnOk_of (by kernel_rfl) (by kernel_rfl) (by kernel_rfl)
theorem k1629:FnOk Tryz.prog gl 57 f1629:=fnOk_of (by kernel_rfl) (by kernel_rfl) (by kernel_rfl)
theorem k1637:FnOk Tryz.prog gl 59 f1637:=fnOk_of (by kernel_rfl) (by kernel_rfl) (by kernel_rfl)
theorem k1638:FnOk Tryz.prog gl 80 f1638:=fnOk_of (by kernel_rfl) (by kernel_rfl) (by kernel_rfl)
theorem k1650:FnOk Tryz.prog gl 73 f1650:=fnOk_of (by kernel_rfl) (by kernel_rfl) (by kernel_rfl)
theorem k1653:FnOk Tryz.prog gl 88 f1653:=fnOk_of (by kernel_rfl) (by kernel_rfl) (by kernel_rfl)
theorem k1658:FnOk Tryz.prog gl 103 f1658:=fnOk_of (by kernel_rfl) (by kernel_rfl) (by kernel_rfl)
theorem k1662:FnOk Tryz.prog gl 107 f1662:=fnOk_of (by kernel_rfl) (by kernel_rfl) (by kernel_rfl)
theorem k1664:FnOk Tryz.prog gl 109 f1664:=fnOk_of (by kernel_rfl) (by kernel_rfl) (by kernel_rfl)
theorem k1667:FnOk Tryz.prog gl 115 f1667:=fnOk_of (by kernel_rfl) (by kernel_rfl) (by kernel_rfl)
theorem k1676:FnOk Tryz.prog gl 129 f1676:=fnOk_of (by kernel_rfl) (by kernel_rfl) (by kernel_rfl)
theorem k1683:FnOk Tryz.prog gl 122 f1683:=fnOk_of (by kernel_rfl) (by kernel_rfl) (by kernel_rfl)
theorem k1684:FnOk Tryz.prog gl 123 f1684:=fnOk_of (by kernel_rfl) (by kernel_rfl) (by kernel_rfl)
theorem k1685:FnOk Tryz.prog gl 124 f1685:=fnOk_of (by kernel_rfl) (by kernel_rfl) (by kernel_rfl)
theorem k1688:FnOk Tryz.prog gl 127 f1688:=fnOk_of (by kernel_rfl) (by kernel_rfl) (by kernel_rfl)
theorem k1689:FnOk Tryz.prog gl 128 f1689:=fnOk_of (by kernel_rfl) (by kernel_rfl) (by kernel_rfl)
theorem k1691:FnOk Tryz.prog gl 134 f1691:=fnOk_of (by kernel_rfl) (by kernel_rfl) (by kernel_rfl)
theorem k1705:FnOk Tryz.prog gl 174 f1705:=fnOk_of (by kernel_rfl) (by kernel_rfl) (by kernel_rfl)
theorem k1711:FnOk Tryz.prog gl 184 f1711:=fnOk_of (by kernel_rfl) (by kernel_rfl) (by kernel_rfl)
theorem k1712:FnOk Tryz.prog gl 185 f1712:=fnOk_of (by kernel_rfl) (by kernel_rfl) (by kernel_rfl)
theorem k1713:FnOk Tryz.prog gl 197 f1713:=fnOk_of (by kernel_rfl) (by kernel_rfl) (by kernel_rfl)
end Tab
end Go.Tidy
