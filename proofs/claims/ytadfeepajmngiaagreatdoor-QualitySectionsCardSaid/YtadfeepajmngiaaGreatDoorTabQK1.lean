/- A part of the proof. -/
import Derived.Test.YtadfeepajmngiaaGreatDoorTabQT
import Derived.Test.YtadfeepajmngiaaGreatDoorPa1
import Derived.Test.YtadfeepajmngiaaGreatDoorProg
import Derived.KernelRfl
set_option linter.all false
namespace Go.Tidy
open Go Go.Proofs
set_option maxRecDepth 100000
namespace Tab
theorem k14:FnOk Tryz.prog gl 27 f14:=fnOk_of (by kernel_rfl) (by kernel_rfl) (by kernel_rfl)
theorem k18:FnOk Tryz.prog gl 60 f18:=fnOk_of (by kernel_rfl) (by kernel_rfl) (by kernel_rfl)
theorem k74:FnOk Tryz.prog gl 168 f74:=fnOk_of (by kernel_rfl) (by kernel_rfl) (by kernel_rfl)
theorem k75:FnOk Tryz.prog gl 193 f75:=fnOk_of (by kernel_rfl) (by kernel_rfl) (by kernel_rfl)
theorem k77:FnOk Tryz.prog gl 79 f77:=fnOk_of (by kernel_rfl) (by kernel_rfl) (by kernel_rfl)
theorem k103:FnOk Tryz.prog gl 96 f103:=fnOk_of (by kernel_rfl) (by kernel_rfl) (by kernel_rfl)
theorem k122:FnOk Tryz.prog gl 139 f122:=fnOk_of (by kernel_rfl) (by kernel_rfl) (by kernel_rfl)
theorem k124:FnOk Tryz.prog gl 141 f124:=fnOk_of (by kernel_rfl) (by kernel_rfl) (by kernel_rfl)
theorem k154:FnOk Tryz.prog gl 187 f154:=fnOk_of (by kernel_rfl) (by kernel_rfl) (by kernel_rfl)
theorem k187:FnOk Tryz.prog gl 231 f187:=fnOk_of (by kernel_rfl) (by kernel_rfl) (by kernel_rfl)
theorem k189:FnOk Tryz.prog gl 217 f189:=fnOk_of (by kernel_rfl) (by kernel_rfl) (by kernel_rfl)
theorem k1064:FnOk Tryz.prog gl 180 f1064:=fnOk_of (by kernel_rfl) (by kernel_rfl) (by kernel_rfl)
theorem k1071:FnOk Tryz.prog gl 202 f1071:=fnOk_of (by kernel_rfl) (by kernel_rfl) (by kernel_rfl)
theorem k1362:FnOk Tryz.prog gl 205 f1362:=fnOk_of (by kernel_rfl) (by kernel_rfl) (by kernel_rfl)
theorem k1592:FnOk Tryz.prog gl 9 f1592:=fnOk_of (by kernel_rfl) (by kernel_rfl) (by kernel_rfl)
theorem k1597:FnOk Tryz.prog gl 24 f1597:=fnOk_of (by kernel_rfl) (by kernel_rfl) (by kernel_rfl)
theorem k1604:FnOk Tryz.prog gl 39 f1604:=fnOk_of (by kernel_rfl) (by kernel_rfl) (by kernel_rfl)
theorem k1612:FnOk Tryz.prog gl 47 f1612:=fnOk_of (by kernel_rfl) (by kernel_rfl) (by kernel_rfl)
theorem k1618:FnOk Tryz.prog gl 55 f1618:=fnOk_of (by kernel_rfl) (by kernel_rfl) (by kernel_rfl)
theorem k1624:FnOk Tryz.prog gl 111 f1624:=fnOk_of (by kernel_rfl) (by kernel_rfl) (by kernel_rfl)
theorem k1646:FnOk Tryz.prog gl 66 f1646:=fnOk_of (by kernel_rfl) (by kernel_rfl) (by kernel_rfl)
theorem k1649:FnOk Tryz.prog gl 72 f1649:=fnOk_of (by kernel_rfl) (by kernel_rfl) (by kernel_rfl)
theorem k1650:FnOk Tryz.prog gl 73 f1650:=fnOk_of (by kernel_rfl) (by kernel_rfl) (by kernel_rfl)
theorem k1655:FnOk Tryz.prog gl 99 f1655:=fnOk_of (by kernel_rfl) (by kernel_rfl) (by kernel_rfl)
theorem k1656:FnOk Tryz.prog gl 100 f1656:=fnOk_of (by kernel_rfl) (by kernel_rfl) (by kernel_rfl)
theorem k1676:FnOk Tryz.prog gl 129 f1676:=fnOk_of (by kernel_rfl) (by kernel_rfl) (by kernel_rfl)
theorem k1677:FnOk Tryz.prog gl 130 f1677:=fnOk_of (by kernel_rfl) (by kernel_rfl) (by kernel_rfl)
theorem k1679:FnOk Tryz.prog gl 132 f1679:=fnOk_of (by kernel_rfl) (by kernel_rfl) (by kernel_rfl)
theorem k1685:FnOk Tryz.prog gl 124 f1685:=fnOk_of (by kernel_rfl) (by kernel_rfl) (by kernel_rfl)
theorem k1690:FnOk Tryz.prog gl 133 f1690:=fnOk_of (by kernel_rfl) (by kernel_rfl) (by kernel_rfl)
theorem k1692:FnOk Tryz.prog gl 135 f1692:=fnOk_of (by kernel_rfl) (by kernel_rfl) (by kernel_rfl)
theorem k1693:FnOk Tryz.prog gl 136 f1693:=fnOk_of (by kernel_rfl) (by kernel_rfl) (by kernel_rfl)
theorem k1694:FnOk Tryz.prog gl 137 f1694:=fnOk_of (by kernel_rfl) (by kernel_rfl) (by kernel_rfl)
theorem k1695:FnOk Tryz.prog gl 138 f1695:=fnOk_of (by kernel_rfl) (by kernel_rfl) (by kernel_rfl)
theorem k1704:FnOk Tryz.prog gl 176 f1704:=fnOk_of (by kernel_rfl) (by kernel_rfl) (by kernel_rfl)
theorem k1711:FnOk Tryz.prog gl 184 f1711:=fnOk_of (by kernel_rfl) (by kernel_rfl) (by kernel_rfl)
theorem k1712:FnOk Tryz.prog gl 185 f1712:=fnOk_of (by kernel_rfl) (by kernel_rfl) (by kernel_rfl)
theorem k1716:FnOk Tryz.prog gl 203 f1716:=fnOk_of (by kernel_rfl) (by kernel_rfl) (by kernel_rfl)
theorem k1717:FnOk Tryz.prog gl 204 f1717:=fnOk_of (by kernel_rfl) (by kernel_rfl) (by kernel_rfl)
end Tab
end Go.Tidy
