/- A part of the proof. -/
import Derived.Test.YtadfeepajmngiaaGreatDoorTabQT
import Derived.Test.YtadfeepajmngiaaGreatDoorPa1
import Derived.Test.YtadfeepajmngiaaGreatDoorProg
import Derived.KernelRfl
set_option linter.all false
namespace Go.Tidy
open Go Go.Proofs
set_option maxRecDepth 100000
namespace Tab
theorem k13:FnOk Tryz.prog gl 19 f13:=fnOk_of (by kernel_rfl) (by kernel_rfl) (by kernel_rfl)
theorem k59:FnOk Tryz.prog gl 32 f59:=fnOk_of (by kernel_rfl) (by kernel_rfl) (by kernel_rfl)
theorem k73:FnOk Tryz.prog gl 167 f73:=fnOk_of (by kernel_rfl) (by kernel_rfl) (by kernel_rfl)
theorem k82:FnOk Tryz.prog gl 215 f82:=fnOk_of (by kernel_rfl) (by kernel_rfl) (by kernel_rfl)
theorem k94:FnOk Tryz.prog gl 77 f94:=fnOk_of (by kernel_rfl) (by kernel_rfl) (by kernel_rfl)
theorem k99:FnOk Tryz.prog gl 143 f99:=fnOk_of (by kernel_rfl) (by kernel_rfl) (by kernel_rfl)
theorem k103:FnOk Tryz.prog gl 96 f103:=fnOk_of (by kernel_rfl) (by kernel_rfl) (by kernel_rfl)
theorem k111:FnOk Tryz.prog gl 146 f111:=fnOk_of (by kernel_rfl) (by kernel_rfl) (by kernel_rfl)
theorem k165:FnOk Tryz.prog gl 87 f165:=fnOk_of (by kernel_rfl) (by kernel_rfl) (by kernel_rfl)
theorem k202:FnOk Tryz.prog gl 232 f202:=fnOk_of (by kernel_rfl) (by kernel_rfl) (by kernel_rfl)
theorem k1362:FnOk Tryz.prog gl 205 f1362:=fnOk_of (by kernel_rfl) (by kernel_rfl) (by kernel_rfl)
theorem k1592:FnOk Tryz.prog gl 9 f1592:=fnOk_of (by kernel_rfl) (by kernel_rfl) (by kernel_rfl)
theorem k1593:FnOk Tryz.prog gl 11 f1593:=fnOk_of (by kernel_rfl) (by kernel_rfl) (by kernel_rfl)
theorem k1594:FnOk Tryz.prog gl 12 f1594:=fnOk_of (by kernel_rfl) (by kernel_rfl) (by kernel_rfl)
theorem k1595:FnOk Tryz.prog gl 14 f1595:=fnOk_of (by kernel_rfl) (by kernel_rfl) (by kernel_rfl)
theorem k1598:FnOk Tryz.prog gl 25 f1598:=fnOk_of (by kernel_rfl) (by kernel_rfl) (by kernel_rfl)
theorem k1609:FnOk Tryz.prog gl 44 f1609:=fnOk_of (by kernel_rfl) (by kernel_rfl) (by kernel_rfl)
theorem k1639:FnOk Tryz.prog gl 82 f1639:=fnOk_of (by kernel_rfl) (by kernel_rfl) (by kernel_rfl)
theorem k1641:FnOk Tryz.prog gl 54 f1641:=fnOk_of (by kernel_rfl) (by kernel_rfl) (by kernel_rfl)
theorem k1643:FnOk Tryz.prog gl 62 f1643:=fnOk_of (by kernel_rfl) (by kernel_rfl) (by kernel_rfl)
theorem k1648:FnOk Tryz.prog gl 71 f1648:=fnOk_of (by kernel_rfl) (by kernel_rfl) (by kernel_rfl)
theorem k1659:FnOk Tryz.prog gl 104 f1659:=fnOk_of (by kernel_rfl) (by kernel_rfl) (by kernel_rfl)
theorem k1660:FnOk Tryz.prog gl 105 f1660:=fnOk_of (by kernel_rfl) (by kernel_rfl) (by kernel_rfl)
theorem k1662:FnOk Tryz.prog gl 107 f1662:=fnOk_of (by kernel_rfl) (by kernel_rfl) (by kernel_rfl)
theorem k1665:FnOk Tryz.prog gl 113 f1665:=fnOk_of (by kernel_rfl) (by kernel_rfl) (by kernel_rfl)
theorem k1667:FnOk Tryz.prog gl 115 f1667:=fnOk_of (by kernel_rfl) (by kernel_rfl) (by kernel_rfl)
theorem k1678:FnOk Tryz.prog gl 131 f1678:=fnOk_of (by kernel_rfl) (by kernel_rfl) (by kernel_rfl)
theorem k1681:FnOk Tryz.prog gl 120 f1681:=fnOk_of (by kernel_rfl) (by kernel_rfl) (by kernel_rfl)
theorem k1684:FnOk Tryz.prog gl 123 f1684:=fnOk_of (by kernel_rfl) (by kernel_rfl) (by kernel_rfl)
theorem k1685:FnOk Tryz.prog gl 124 f1685:=fnOk_of (by kernel_rfl) (by kernel_rfl) (by kernel_rfl)
theorem k1687:FnOk Tryz.prog gl 126 f1687:=fnOk_of (by kernel_rfl) (by kernel_rfl) (by kernel_rfl)
theorem k1688:FnOk Tryz.prog gl 127 f1688:=fnOk_of (by kernel_rfl) (by kernel_rfl) (by kernel_rfl)
theorem k1692:FnOk Tryz.prog gl 135 f1692:=fnOk_of (by kernel_rfl) (by kernel_rfl) (by kernel_rfl)
theorem k1693:FnOk Tryz.prog gl 136 f1693:=fnOk_of (by kernel_rfl) (by kernel_rfl) (by kernel_rfl)
theorem k1696:FnOk Tryz.prog gl 153 f1696:=fnOk_of (by kernel_rfl) (by kernel_rfl) (by kernel_rfl)
theorem k1697:FnOk Tryz.prog gl 166 f1697:=fnOk_of (by kernel_rfl) (by kernel_rfl) (by kernel_rfl)
theorem k1700:FnOk Tryz.prog gl 171 f1700:=fnOk_of (by kernel_rfl) (by kernel_rfl) (by kernel_rfl)
theorem k1709:FnOk Tryz.prog gl 179 f1709:=fnOk_of (by kernel_rfl) (by kernel_rfl) (by kernel_rfl)
theorem k1715:FnOk Tryz.prog gl 201 f1715:=fnOk_of (by kernel_rfl) (by kernel_rfl) (by kernel_rfl)
theorem k1716:FnOk Tryz.prog gl 203 f1716:=fnOk_of (by kernel_rfl) (by kernel_rfl) (by kernel_rfl)
theorem k1723:FnOk Tryz.prog gl 258 f1723:=fnOk_of (by kernel_rfl) (by kernel_rfl) (by kernel_rfl)
end Tab
end Go.Tidy
