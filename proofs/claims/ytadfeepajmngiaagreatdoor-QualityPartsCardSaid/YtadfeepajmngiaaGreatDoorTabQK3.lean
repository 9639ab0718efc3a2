/- A part of the proof. -/
import Derived.Test.YtadfeepajmngiaaGreatDoorTabQT
import Derived.Test.YtadfeepajmngiaaGreatDoorPa1
import Derived.Test.YtadfeepajmngiaaGreatDoorProg
import Derived.KernelRfl
set_option linter.all false
namespace Go.Tidy
open Go Go.Proofs
set_option maxRecDepth 100000
namespace Tab
theorem k2:FnOk Tryz.prog gl 2 f2:=fnOk_of (by kernel_rfl) (by kernel_rfl) (by kernel_rfl)
theorem k19:FnOk Tryz.prog gl 182 f19:=fnOk_of (by kernel_rfl) (by kernel_rfl) (by kernel_rfl)
theorem k31:FnOk Tryz.prog gl 13 f31:=fnOk_of (by kernel_rfl) (by kernel_rfl) (by kernel_rfl)
theorem k72:FnOk Tryz.prog gl 84 f72:=fnOk_of (by kernel_rfl) (by kernel_rfl) (by kernel_rfl)
theorem k76:FnOk Tryz.prog gl 194 f76:=fnOk_of (by kernel_rfl) (by kernel_rfl) (by kernel_rfl)
theorem k77:FnOk Tryz.prog gl 79 f77:=fnOk_of (by kernel_rfl) (by kernel_rfl) (by kernel_rfl)
theorem k80:FnOk Tryz.prog gl 212 f80:=fnOk_of (by kernel_rfl) (by kernel_rfl) (by kernel_rfl)
theorem k93:FnOk Tryz.prog gl 76 f93:=fnOk_of (by kernel_rfl) (by kernel_rfl) (by kernel_rfl)
theorem k95:FnOk Tryz.prog gl 78 f95:=fnOk_of (by kernel_rfl) (by kernel_rfl) (by kernel_rfl)
theorem k100:FnOk Tryz.prog gl 144 f100:=fnOk_of (by kernel_rfl) (by kernel_rfl) (by kernel_rfl)
theorem k124:FnOk Tryz.prog gl 141 f124:=fnOk_of (by kernel_rfl) (by kernel_rfl) (by kernel_rfl)
theorem k126:FnOk Tryz.prog gl 142 f126:=fnOk_of (by kernel_rfl) (by kernel_rfl) (by kernel_rfl)
theorem k131:FnOk Tryz.prog gl 223 f131:=fnOk_of (by kernel_rfl) (by kernel_rfl) (by kernel_rfl)
theorem k154:FnOk Tryz.prog gl 187 f154:=fnOk_of (by kernel_rfl) (by kernel_rfl) (by kernel_rfl)
theorem k174:FnOk Tryz.prog gl 211 f174:=fnOk_of (by kernel_rfl) (by kernel_rfl) (by kernel_rfl)
theorem k191:FnOk Tryz.prog gl 219 f191:=fnOk_of (by kernel_rfl) (by kernel_rfl) (by kernel_rfl)
theorem k1223:FnOk Tryz.prog gl 147 f1223:=fnOk_of (by kernel_rfl) (by kernel_rfl) (by kernel_rfl)
theorem k1232:FnOk Tryz.prog gl 192 f1232:=fnOk_of (by kernel_rfl) (by kernel_rfl) (by kernel_rfl)
theorem k1233:FnOk Tryz.prog gl 214 f1233:=fnOk_of (by kernel_rfl) (by kernel_rfl) (by kernel_rfl)
theorem k1596:FnOk Tryz.prog gl 15 f1596:=fnOk_of (by kernel_rfl) (by kernel_rfl) (by kernel_rfl)
theorem k1599:FnOk Tryz.prog gl 26 f1599:=fnOk_of (by kernel_rfl) (by kernel_rfl) (by kernel_rfl)
theorem k1620:FnOk Tryz.prog gl 58 f1620:=fnOk_of (by kernel_rfl) (by kernel_rfl) (by kernel_rfl)
theorem k1638:FnOk Tryz.prog gl 80 f1638:=fnOk_of (by kernel_rfl) (by kernel_rfl) (by kernel_rfl)
theorem k1644:FnOk Tryz.prog gl 63 f1644:=fnOk_of (by kernel_rfl) (by kernel_rfl) (by kernel_rfl)
theorem k1649:FnOk Tryz.prog gl 72 f1649:=fnOk_of (by kernel_rfl) (by kernel_rfl) (by kernel_rfl)
theorem k1650:FnOk Tryz.prog gl 73 f1650:=fnOk_of (by kernel_rfl) (by kernel_rfl) (by kernel_rfl)
theorem k1651:FnOk Tryz.prog gl 85 f1651:=fnOk_of (by kernel_rfl) (by kernel_rfl) (by kernel_rfl)
theorem k1655:FnOk Tryz.prog gl 99 f1655:=fnOk_of (by kernel_rfl) (by kernel_rfl) (by kernel_rfl)
theorem k1658:FnOk Tryz.prog gl 103 f1658:=fnOk_of (by kernel_rfl) (by kernel_rfl) (by kernel_rfl)
theorem k1666:FnOk Tryz.prog gl 114 f1666:=fnOk_of (by kernel_rfl) (by kernel_rfl) (by kernel_rfl)
theorem k1676:FnOk Tryz.prog gl 129 f1676:=fnOk_of (by kernel_rfl) (by kernel_rfl) (by kernel_rfl)
theorem k1677:FnOk Tryz.prog gl 130 f1677:=fnOk_of (by kernel_rfl) (by kernel_rfl) (by kernel_rfl)
theorem k1682:FnOk Tryz.prog gl 121 f1682:=fnOk_of (by kernel_rfl) (by kernel_rfl) (by kernel_rfl)
theorem k1689:FnOk Tryz.prog gl 128 f1689:=fnOk_of (by kernel_rfl) (by kernel_rfl) (by kernel_rfl)
theorem k1690:FnOk Tryz.prog gl 133 f1690:=fnOk_of (by kernel_rfl) (by kernel_rfl) (by kernel_rfl)
theorem k1691:FnOk Tryz.prog gl 134 f1691:=fnOk_of (by kernel_rfl) (by kernel_rfl) (by kernel_rfl)
theorem k1694:FnOk Tryz.prog gl 137 f1694:=fnOk_of (by kernel_rfl) (by kernel_rfl) (by kernel_rfl)
theorem k1703:FnOk Tryz.prog gl 181 f1703:=fnOk_of (by kernel_rfl) (by kernel_rfl) (by kernel_rfl)
theorem k1705:FnOk Tryz.prog gl 174 f1705:=fnOk_of (by kernel_rfl) (by kernel_rfl) (by kernel_rfl)
theorem k1708:FnOk Tryz.prog gl 178 f1708:=fnOk_of (by kernel_rfl) (by kernel_rfl) (by kernel_rfl)
theorem k1710:FnOk Tryz.prog gl 183 f1710:=fnOk_of (by kernel_rfl) (by kernel_rfl) (by kernel_rfl)
theorem k1713:FnOk Tryz.prog gl 197 f1713:=fnOk_of (by kernel_rfl) (by kernel_rfl) (by kernel_rfl)
theorem k1718:FnOk Tryz.prog gl 206 f1718:=fnOk_of (by kernel_rfl) (by kernel_rfl) (by kernel_rfl)
theorem k1722:FnOk Tryz.prog gl 257 f1722:=fnOk_of (by kernel_rfl) (by kernel_rfl) (by kernel_rfl)
end Tab
end Go.Tidy
