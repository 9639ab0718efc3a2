/- A part of the proof. -/
import Derived.Test.YtadfeepajmngiaaGreatDoorTabQT
import Derived.Test.YtadfeepajmngiaaGreatDoorPa1
import Derived.Test.YtadfeepajmngiaaGreatDoorProg
import Derived.KernelRfl
set_option linter.all false
namespace Go.Tidy
open Go Go.Proofs
set_option maxRecDepth 100000
namespace Tab
theorem k2:FnOk Tryz.prog gl 2 f2:=fnOk_of (by kernel_rfl) (by kernel_rfl) (by kernel_rfl)
theorem k41:FnOk Tryz.prog gl 70 f41:=fnOk_of (by kernel_rfl) (by kernel_rfl) (by kernel_rfl)
theorem k74:FnOk Tryz.prog gl 168 f74:=fnOk_of (by kernel_rfl) (by kernel_rfl) (by kernel_rfl)
theorem k77:FnOk Tryz.prog gl 79 f77:=fnOk_of (by kernel_rfl) (by kernel_rfl) (by kernel_rfl)
theorem k81:FnOk Tryz.prog gl 213 f81:=fnOk_of (by kernel_rfl) (by kernel_rfl) (by kernel_rfl)
theorem k92:FnOk Tryz.prog gl 75 f92:=fnOk_of (by kernel_rfl) (by kernel_rfl) (by kernel_rfl)
theorem k99:FnOk Tryz.prog gl 143 f99:=fnOk_of (by kernel_rfl) (by kernel_rfl) (by kernel_rfl)
theorem k100:FnOk Tryz.prog gl 144 f100:=fnOk_of (by kernel_rfl) (by kernel_rfl) (by kernel_rfl)
theorem k133:FnOk Tryz.prog gl 225 f133:=fnOk_of (by kernel_rfl) (by kernel_rfl) (by kernel_rfl)
theorem k173:FnOk Tryz.prog gl 210 f173:=fnOk_of (by kernel_rfl) (by kernel_rfl) (by kernel_rfl)
theorem k189:FnOk Tryz.prog gl 217 f189:=fnOk_of (by kernel_rfl) (by kernel_rfl) (by kernel_rfl)
theorem k1593:FnOk Tryz.prog gl 11 f1593:=fnOk_of (by kernel_rfl) (by kernel_rfl) (by kernel_rfl)
theorem k1599:FnOk Tryz.prog gl 26 f1599:=fnOk_of (by kernel_rfl) (by kernel_rfl) (by kernel_rfl)
theorem k1607:FnOk Tryz.prog gl 42 f1607:=fnOk_of (by kernel_rfl) (by kernel_rfl) (by kernel_rfl)
theorem k1611:FnOk Tryz.prog gl 46 f1611:=fnOk_of (by kernel_rfl) (by kernel_rfl) (by kernel_rfl)
theorem k1613:FnOk Tryz.prog gl 48 f1613:=fnOk_of (by kernel_rfl) (by kernel_rfl) (by kernel_rfl)
theorem k1615:FnOk Tryz.prog gl 50 f1615:=fnOk_of (by kernel_rfl) (by kernel_rfl) (by kernel_rfl)
theorem k1623:FnOk Tryz.prog gl 110 f1623:=fnOk_of (by kernel_rfl) (by kernel_rfl) (by kernel_rfl)
theorem k1637:FnOk Tryz.prog gl 59 f1637:=fnOk_of (by kernel_rfl) (by kernel_rfl) (by kernel_rfl)
theorem k1643:FnOk Tryz.prog gl 62 f1643:=fnOk_of (by kernel_rfl) (by kernel_rfl) (by kernel_rfl)
theorem k1644:FnOk Tryz.prog gl 63 f1644:=fnOk_of (by kernel_rfl) (by kernel_rfl) (by kernel_rfl)
theorem k1645:FnOk Tryz.prog gl 64 f1645:=fnOk_of (by kernel_rfl) (by kernel_rfl) (by kernel_rfl)
theorem k1648:FnOk Tryz.prog gl 71 f1648:=fnOk_of (by kernel_rfl) (by kernel_rfl) (by kernel_rfl)
theorem k1649:FnOk Tryz.prog gl 72 f1649:=fnOk_of (by kernel_rfl) (by kernel_rfl) (by kernel_rfl)
theorem k1650:FnOk Tryz.prog gl 73 f1650:=fnOk_of (by kernel_rfl) (by kernel_rfl) (by kernel_rfl)
theorem k1658:FnOk Tryz.prog gl 103 f1658:=fnOk_of (by kernel_rfl) (by kernel_rfl) (by kernel_rfl)
theorem k1659:FnOk Tryz.prog gl 104 f1659:=fnOk_of (by kernel_rfl) (by kernel_rfl) (by kernel_rfl)
theorem k1663:FnOk Tryz.prog gl 108 f1663:=fnOk_of (by kernel_rfl) (by kernel_rfl) (by kernel_rfl)
theorem k1664:FnOk Tryz.prog gl 109 f1664:=fnOk_of (by kernel_rfl) (by kernel_rfl) (by kernel_rfl)
theorem k1666:FnOk Tryz.prog gl 114 f1666:=fnOk_of (by kernel_rfl) (by kernel_rfl) (by kernel_rfl)
theorem k1667:FnOk Tryz.prog gl 115 f1667:=fnOk_of (by kernel_rfl) (by kernel_rfl) (by kernel_rfl)
theorem k1677:FnOk Tryz.prog gl 130 f1677:=fnOk_of (by kernel_rfl) (by kernel_rfl) (by kernel_rfl)
theorem k1679:FnOk Tryz.prog gl 132 f1679:=fnOk_of (by kernel_rfl) (by kernel_rfl) (by kernel_rfl)
theorem k1696:FnOk Tryz.prog gl 153 f1696:=fnOk_of (by kernel_rfl) (by kernel_rfl) (by kernel_rfl)
theorem k1697:FnOk Tryz.prog gl 166 f1697:=fnOk_of (by kernel_rfl) (by kernel_rfl) (by kernel_rfl)
theorem k1701:FnOk Tryz.prog gl 172 f1701:=fnOk_of (by kernel_rfl) (by kernel_rfl) (by kernel_rfl)
theorem k1702:FnOk Tryz.prog gl 173 f1702:=fnOk_of (by kernel_rfl) (by kernel_rfl) (by kernel_rfl)
theorem k1703:FnOk Tryz.prog gl 181 f1703:=fnOk_of (by kernel_rfl) (by kernel_rfl) (by kernel_rfl)
theorem k1705:FnOk Tryz.prog gl 174 f1705:=fnOk_of (by kernel_rfl) (by kernel_rfl) (by kernel_rfl)
theorem k1706:FnOk Tryz.prog gl 175 f1706:=fnOk_of (by kernel_rfl) (by kernel_rfl) (by kernel_rfl)
theorem k1708:FnOk Tryz.prog gl 178 f1708:=fnOk_of (by kernel_rfl) (by kernel_rfl) (by kernel_rfl)
theorem k1713:FnOk Tryz.prog gl 197 f1713:=fnOk_of (by kernel_rfl) (by kernel_rfl) (by kernel_rfl)
theorem k1717:FnOk Tryz.prog gl 204 f1717:=fnOk_of (by kernel_rfl) (by kernel_rfl) (by kernel_rfl)
theorem k1718:FnOk Tryz.prog gl 206 f1718:=fnOk_of (by kernel_rfl) (by kernel_rfl) (by kernel_rfl)
end Tab
end Go.Tidy
