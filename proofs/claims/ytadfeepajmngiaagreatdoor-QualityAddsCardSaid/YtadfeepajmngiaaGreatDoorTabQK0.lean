/- A part of the proof. -/
import Derived.Test.YtadfeepajmngiaaGreatDoorTabQT
import Derived.Test.YtadfeepajmngiaaGreatDoorPa1
import Derived.Test.YtadfeepajmngiaaGreatDoorProg
import Derived.KernelRfl
set_option linter.all false
namespace Go.Tidy
open Go Go.Proofs
set_option maxRecDepth 100000
namespace Tab
theorem k14:FnOk Tryz.prog gl 27 f14:=fnOk_of (by kernel_rfl) (by kernel_rfl) (by kernel_rfl)
theorem k19:FnOk Tryz.prog gl 182 f19:=fnOk_of (by kernel_rfl) (by kernel_rfl) (by kernel_rfl)
theorem k59:FnOk Tryz.prog gl 32 f59:=fnOk_of (by kernel_rfl) (by kernel_rfl) (by kernel_rfl)
theorem k73:FnOk Tryz.prog gl 167 f73:=fnOk_of (by kernel_rfl) (by kernel_rfl) (by kernel_rfl)
theorem k78:FnOk Tryz.prog gl 151 f78:=fnOk_of (by kernel_rfl) (by kernel_rfl) (by kernel_rfl)
theorem k103:FnOk Tryz.prog gl 96 f103:=fnOk_of (by kernel_rfl) (by kernel_rfl) (by kernel_rfl)
theorem k111:FnOk Tryz.prog gl 146 f111:=fnOk_of (by kernel_rfl) (by kernel_rfl) (by kernel_rfl)
theorem k187:FnOk Tryz.prog gl 231 f187:=fnOk_of (by kernel_rfl) (by kernel_rfl) (by kernel_rfl)
theorem k190:FnOk Tryz.prog gl 218 f190:=fnOk_of (by kernel_rfl) (by kernel_rfl) (by kernel_rfl)
theorem k192:FnOk Tryz.prog gl 220 f192:=fnOk_of (by kernel_rfl) (by kernel_rfl) (by kernel_rfl)
theorem k199:FnOk Tryz.prog gl 208 f199:=fnOk_of (by kernel_rfl) (by kernel_rfl) (by kernel_rfl)
theorem k202:FnOk Tryz.prog gl 232 f202:=fnOk_of (by kernel_rfl) (by kernel_rfl) (by kernel_rfl)
theorem k1232:FnOk Tryz.prog gl 192 f1232:=fnOk_of (by kernel_rfl) (by kernel_rfl) (by kernel_rfl)
theorem k1233:FnOk Tryz.prog gl 214 f1233:=fnOk_of (by kernel_rfl) (by kernel_rfl) (by kernel_rfl)
theorem k1362:FnOk Tryz.prog gl 205 f1362:=fnOk_of (by kernel_rfl) (by kernel_rfl) (by kernel_rfl)
theorem k1606:FnOk Tryz.prog gl 41 f1606:=fnOk_of (by kernel_rfl) (by kernel_rfl) (by kernel_rfl)
theorem k1610:FnOk Tryz.prog gl 45 f1610:=fnOk_of (by kernel_rfl) (by kernel_rfl) (by kernel_rfl)
theorem k1612:FnOk Tryz.prog gl 47 f1612:=fnOk_of (by kernel_rfl) (by kernel_rfl) (by kernel_rfl)
theorem k1614:FnOk Tryz.prog gl 49 f1614:=fnOk_of (by kernel_rfl) (by kernel_rfl) (by kernel_rfl)
theorem k1618:FnOk Tryz.prog gl 55 f1618:=fnOk_of (by kernel_rfl) (by kernel_rfl) (by kernel_rfl)
theorem k1619:FnOk Tryz.prog gl 56 f1619:=fnOk_of (by kernel_rfl) (by kernel_rfl) (by kernel_rfl)
theorem k1630:FnOk Tryz.prog gl 65 f1630:=fnOk_of (by kernel_rfl) (by kernel_rfl) (by kernel_rfl)
theorem k1638:FnOk Tryz.prog gl 80 f1638:=fnOk_of (by kernel_rfl) (by kernel_rfl) (by kernel_rfl)
theorem k1651:FnOk Tryz.prog gl 85 f1651:=fnOk_of (by kernel_rfl) (by kernel_rfl) (by kernel_rfl)
theorem k1653:FnOk Tryz.prog gl 88 f1653:=fnOk_of (by kernel_rfl) (by kernel_rfl) (by kernel_rfl)
theorem k1661:FnOk Tryz.prog gl 106 f1661:=fnOk_of (by kernel_rfl) (by kernel_rfl) (by kernel_rfl)
theorem k1668:FnOk Tryz.prog gl 116 f1668:=fnOk_of (by kernel_rfl) (by kernel_rfl) (by kernel_rfl)
theorem k1676:FnOk Tryz.prog gl 129 f1676:=fnOk_of (by kernel_rfl) (by kernel_rfl) (by kernel_rfl)
theorem k1683:FnOk Tryz.prog gl 122 f1683:=fnOk_of (by kernel_rfl) (by kernel_rfl) (by kernel_rfl)
theorem k1685:FnOk Tryz.prog gl 124 f1685:=fnOk_of (by kernel_rfl) (by kernel_rfl) (by kernel_rfl)
theorem k1687:FnOk Tryz.prog gl 126 f1687:=fnOk_of (by kernel_rfl) (by kernel_rfl) (by kernel_rfl)
theorem k1688:FnOk Tryz.prog gl 127 f1688:=fnOk_of (by kernel_rfl) (by kernel_rfl) (by kernel_rfl)
theorem k1689:FnOk Tryz.prog gl 128 f1689:=fnOk_of (by kernel_rfl) (by kernel_rfl) (by kernel_rfl)
theorem k1690:FnOk Tryz.prog gl 133 f1690:=fnOk_of (by kernel_rfl) (by kernel_rfl) (by kernel_rfl)
theorem k1691:FnOk Tryz.prog gl 134 f1691:=fnOk_of (by kernel_rfl) (by kernel_rfl) (by kernel_rfl)
theorem k1692:FnOk Tryz.prog gl 135 f1692:=fnOk_of (by kernel_rfl) (by kernel_rfl) (by kernel_rfl)
theorem k1698:FnOk Tryz.prog gl 169 f1698:=fnOk_of (by kernel_rfl) (by kernel_rfl) (by kernel_rfl)
theorem k1700:FnOk Tryz.prog gl 171 f1700:=fnOk_of (by kernel_rfl) (by kernel_rfl) (by kernel_rfl)
theorem k1710:FnOk Tryz.prog gl 183 f1710:=fnOk_of (by kernel_rfl) (by kernel_rfl) (by kernel_rfl)
theorem k1722:FnOk Tryz.prog gl 257 f1722:=fnOk_of (by kernel_rfl) (by kernel_rfl) (by kernel_rfl)
end Tab
end Go.Tidy
