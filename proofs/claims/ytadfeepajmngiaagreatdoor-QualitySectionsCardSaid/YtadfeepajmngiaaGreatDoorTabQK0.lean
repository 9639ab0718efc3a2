/- A part of the proof. -/
import Derived.Test.YtadfeepajmngiaaGreatDoorTabQT
import Derived.Test.YtadfeepajmngiaaGreatDoorPa1
import Derived.Test.YtadfeepajmngiaaGreatDoorProg
import Derived.KernelRfl
set_option linter.all false
namespace Go.Tidy
open Go Go.Proofs
set_option maxRecDepth 100000
namespace Tab
theorem k19:FnOk Tryz.prog gl 182 f19:=fnOk_of (by kernel_rfl) (by kernel_rfl) (by kernel_rfl)
theorem k21:FnOk Tryz.prog gl 191 f21:=fnOk_of (by kernel_rfl) (by kernel_rfl) (by kernel_rfl)
theorem k22:FnOk Tryz.prog gl 195 f22:=fnOk_of (by kernel_rfl) (by kernel_rfl) (by kernel_rfl)
theorem k32:FnOk Tryz.prog gl 20 f32:=fnOk_of (by kernel_rfl) (by kernel_rfl) (by kernel_rfl)
theorem k41:FnOk Tryz.prog gl 70 f41:=fnOk_of (by kernel_rfl) (by kernel_rfl) (by kernel_rfl)
theorem k71:FnOk Tryz.prog gl 69 f71:=fnOk_of (by kernel_rfl) (by kernel_rfl) (by kernel_rfl)
theorem k78:FnOk Tryz.prog gl 151 f78:=fnOk_of (by kernel_rfl) (by kernel_rfl) (by kernel_rfl)
theorem k80:FnOk Tryz.prog gl 212 f80:=fnOk_of (by kernel_rfl) (by kernel_rfl) (by kernel_rfl)
theorem k81:FnOk Tryz.prog gl 213 f81:=fnOk_of (by kernel_rfl) (by kernel_rfl) (by kernel_rfl)
theorem k92:FnOk Tryz.prog gl 75 f92:=fnOk_of (by kernel_rfl) (by kernel_rfl) (by kernel_rfl)
theorem k99:FnOk Tryz.prog gl 143 f99:=fnOk_of (by kernel_rfl) (by kernel_rfl) (by kernel_rfl)
theorem k133:FnOk Tryz.prog gl 225 f133:=fnOk_of (by kernel_rfl) (by kernel_rfl) (by kernel_rfl)
theorem k173:FnOk Tryz.prog gl 210 f173:=fnOk_of (by kernel_rfl) (by kernel_rfl) (by kernel_rfl)
theorem k192:FnOk Tryz.prog gl 220 f192:=fnOk_of (by kernel_rfl) (by kernel_rfl) (by kernel_rfl)
theorem k1223:FnOk Tryz.prog gl 147 f1223:=fnOk_of (by kernel_rfl) (by kernel_rfl) (by kernel_rfl)
theorem k1579:FnOk Tryz.prog gl 7 f1579:=fnOk_of (by kernel_rfl) (by kernel_rfl) (by kernel_rfl)
theorem k1591:FnOk Tryz.prog gl 23 f1591:=fnOk_of (by kernel_rfl) (by kernel_rfl) (by kernel_rfl)
theorem k1598:FnOk Tryz.prog gl 25 f1598:=fnOk_of (by kernel_rfl) (by kernel_rfl) (by kernel_rfl)
theorem k1623:FnOk Tryz.prog gl 110 f1623:=fnOk_of (by kernel_rfl) (by kernel_rfl) (by kernel_rfl)
theorem k1630:FnOk Tryz.prog gl 65 f1630:=fnOk_of (by kernel_rfl) (by kernel_rfl) (by kernel_rfl)
theorem k1639:FnOk Tryz.prog gl 82 f1639:=fnOk_of (by kernel_rfl) (by kernel_rfl) (by kernel_rfl)
theorem k1640:FnOk Tryz.prog gl 53 f1640:=fnOk_of (by kernel_rfl) (by kernel_rfl) (by kernel_rfl)
theorem k1641:FnOk Tryz.prog gl 54 f1641:=fnOk_of (by kernel_rfl) (by kernel_rfl) (by kernel_rfl)
theorem k1642:FnOk Tryz.prog gl 61 f1642:=fnOk_of (by kernel_rfl) (by kernel_rfl) (by kernel_rfl)
theorem k1644:FnOk Tryz.prog gl 63 f1644:=fnOk_of (by kernel_rfl) (by kernel_rfl) (by kernel_rfl)
theorem k1645:FnOk Tryz.prog gl 64 f1645:=fnOk_of (by kernel_rfl) (by kernel_rfl) (by kernel_rfl)
theorem k1652:FnOk Tryz.prog gl 86 f1652:=fnOk_of (by kernel_rfl) (by kernel_rfl) (by kernel_rfl)
theorem k1660:FnOk Tryz.prog gl 105 f1660:=fnOk_of (by kernel_rfl) (by kernel_rfl) (by kernel_rfl)
theorem k1670:FnOk Tryz.prog gl 118 f1670:=fnOk_of (by kernel_rfl) (by kernel_rfl) (by kernel_rfl)
theorem k1682:FnOk Tryz.prog gl 121 f1682:=fnOk_of (by kernel_rfl) (by kernel_rfl) (by kernel_rfl)
theorem k1684:FnOk Tryz.prog gl 123 f1684:=fnOk_of (by kernel_rfl) (by kernel_rfl) (by kernel_rfl)
theorem k1687:FnOk Tryz.prog gl 126 f1687:=fnOk_of (by kernel_rfl) (by kernel_rfl) (by kernel_rfl)
theorem k1689:FnOk Tryz.prog gl 128 f1689:=fnOk_of (by kernel_rfl) (by kernel_rfl) (by kernel_rfl)
theorem k1697:FnOk Tryz.prog gl 166 f1697:=fnOk_of (by kernel_rfl) (by kernel_rfl) (by kernel_rfl)
theorem k1700:FnOk Tryz.prog gl 171 f1700:=fnOk_of (by kernel_rfl) (by kernel_rfl) (by kernel_rfl)
theorem k1703:FnOk Tryz.prog gl 181 f1703:=fnOk_of (by kernel_rfl) (by kernel_rfl) (by kernel_rfl)
theorem k1706:FnOk Tryz.prog gl 175 f1706:=fnOk_of (by kernel_rfl) (by kernel_rfl) (by kernel_rfl)
theorem k1722:FnOk Tryz.prog gl 257 f1722:=fnOk_of (by kernel_rfl) (by kernel_rfl) (by kernel_rfl)
end Tab
end Go.Tidy
