/- A part of the proof. -/
import Derived.Test.YtejopkplhplpgaaGreatDoorTabQT
import Derived.Test.YtejopkplhplpgaaGreatDoorPa1
import Derived.Test.YtejopkplhplpgaaGreatDoorProg
import Derived.KernelRfl
set_option linter.all false
namespace Go.Tidy
open Go Go.Proofs
set_option maxRecDepth 100000
namespace Tab
theorem k14:FnOk Tryz.prog gl 72 f14:=fnOk_of (by kernel_rfl) (by kernel_rfl) (by kernel_rfl)
theorem k20:FnOk Tryz.prog gl 86 f20:=fnOk_of (by kernel_rfl) (by kernel_rfl) (by kernel_rfl)
theorem k21:FnOk Tryz.prog gl 178 f21:=fnOk_of (by kernel_rfl) (by kernel_rfl) (by kernel_rfl)
theorem k74:FnOk Tryz.prog gl 163 f74:=fnOk_of (by kernel_rfl) (by kernel_rfl) (by kernel_rfl)
theorem k79:FnOk Tryz.prog gl 102 f79:=fnOk_of (by kernel_rfl) (by kernel_rfl) (by kernel_rfl)
theorem k98:FnOk Tryz.prog gl 41 f98:=fnOk_of (by kernel_rfl) (by kernel_rfl) (by kernel_rfl)
theorem k99:FnOk Tryz.prog gl 150 f99:=fnOk_of (by kernel_rfl) (by kernel_rfl) (by kernel_rfl)
theorem k123:FnOk Tryz.prog gl 123 f123:=fnOk_of (by kernel_rfl) (by kernel_rfl) (by kernel_rfl)
theorem k124:FnOk Tryz.prog gl 124 f124:=fnOk_of (by kernel_rfl) (by kernel_rfl) (by kernel_rfl)
theorem k144:FnOk Tryz.prog gl 177 f144:=fnOk_of (by kernel_rfl) (by kernel_rfl) (by kernel_rfl)
theorem k148:FnOk Tryz.prog gl 130 f148:=fnOk_of (by kernel_rfl) (by kernel_rfl) (by kernel_rfl)
theorem k154:FnOk Tryz.prog gl 158 f154:=fnOk_of (by kernel_rfl) (by kernel_rfl) (by kernel_rfl)
theorem k155:FnOk Tryz.prog gl 159 f155:=fnOk_of (by kernel_rfl) (by kernel_rfl) (by kernel_rfl)
theorem k202:FnOk Tryz.prog gl 204 f202:=fnOk_of (by kernel_rfl) (by kernel_rfl) (by kernel_rfl)
theorem k1497:FnOk Tryz.prog gl 161 f1497:=fnOk_of (by kernel_rfl) (by kernel_rfl) (by kernel_rfl)
theorem k1593:FnOk Tryz.prog gl 51 f1593:=fnOk_of (by kernel_rfl) (by kernel_rfl) (by kernel_rfl)
theorem k1598:FnOk Tryz.prog gl 55 f1598:=fnOk_of (by kernel_rfl) (by kernel_rfl) (by kernel_rfl)
theorem k1605:FnOk Tryz.prog gl 39 f1605:=fnOk_of (by kernel_rfl) (by kernel_rfl) (by kernel_rfl)
theorem k1607:FnOk Tryz.prog gl 25 f1607:=fnOk_of (by kernel_rfl) (by kernel_rfl) (by kernel_rfl)
theorem k1620:FnOk Tryz.prog gl 14 f1620:=fnOk_of (by kernel_rfl) (by kernel_rfl) (by kernel_rfl)
theorem k1621:FnOk Tryz.prog gl 15 f1621:=fnOk_of (by kernel_rfl) (by kernel_rfl) (by kernel_rfl)
theorem k1624:FnOk Tryz.prog gl 19 f1624:=fnOk_of (by kernel_rfl) (by kernel_rfl) (by kernel_rfl)
theorem k1626:FnOk Tryz.prog gl 21 f1626:=fnOk_of (by kernel_rfl) (by kernel_rfl) (by kernel_rfl)
theorem k1629:FnOk Tryz.prog gl 24 f1629:=fnOk_of (by kernel_rfl) (by kernel_rfl) (by kernel_rfl)
theorem k1640:FnOk Tryz.prog gl 52 f1640:=fnOk_of (by kernel_rfl) (by kernel_rfl) (by kernel_rfl)
theorem k1643:FnOk Tryz.prog gl 31 f1643:=fnOk_of (by kernel_rfl) (by kernel_rfl) (by kernel_rfl)
theorem k1644:FnOk Tryz.prog gl 32 f1644:=fnOk_of (by kernel_rfl) (by kernel_rfl) (by kernel_rfl)
theorem k1650:FnOk Tryz.prog gl 113 f1650:=fnOk_of (by kernel_rfl) (by kernel_rfl) (by kernel_rfl)
theorem k1653:FnOk Tryz.prog gl 120 f1653:=fnOk_of (by kernel_rfl) (by kernel_rfl) (by kernel_rfl)
theorem k1655:FnOk Tryz.prog gl 101 f1655:=fnOk_of (by kernel_rfl) (by kernel_rfl) (by kernel_rfl)
theorem k1658:FnOk Tryz.prog gl 133 f1658:=fnOk_of (by kernel_rfl) (by kernel_rfl) (by kernel_rfl)
theorem k1671:FnOk Tryz.prog gl 70 f1671:=fnOk_of (by kernel_rfl) (by kernel_rfl) (by kernel_rfl)
theorem k1677:FnOk Tryz.prog gl 82 f1677:=fnOk_of (by kernel_rfl) (by kernel_rfl) (by kernel_rfl)
theorem k1684:FnOk Tryz.prog gl 91 f1684:=fnOk_of (by kernel_rfl) (by kernel_rfl) (by kernel_rfl)
theorem k1686:FnOk Tryz.prog gl 93 f1686:=fnOk_of (by kernel_rfl) (by kernel_rfl) (by kernel_rfl)
theorem k1690:FnOk Tryz.prog gl 103 f1690:=fnOk_of (by kernel_rfl) (by kernel_rfl) (by kernel_rfl)
theorem k1695:FnOk Tryz.prog gl 108 f1695:=fnOk_of (by kernel_rfl) (by kernel_rfl) (by kernel_rfl)
theorem k1704:FnOk Tryz.prog gl 138 f1704:=fnOk_of (by kernel_rfl) (by kernel_rfl) (by kernel_rfl)
theorem k1705:FnOk Tryz.prog gl 140 f1705:=fnOk_of (by kernel_rfl) (by kernel_rfl) (by kernel_rfl)
theorem k1706:FnOk Tryz.prog gl 141 f1706:=fnOk_of (by kernel_rfl) (by kernel_rfl) (by kernel_rfl)
theorem k1707:FnOk Tryz.prog gl 142 f1707:=fnOk_of (by kernel_rfl) (by kernel_rfl) (by kernel_rfl)
theorem k1708:FnOk Tryz.prog gl 143 f1708:=fnOk_of (by kernel_rfl) (by kernel_rfl) (by kernel_rfl)
theorem k1712:FnOk Tryz.prog gl 148 f1712:=fnOk_of (by kernel_rfl) (by kernel_rfl) (by kernel_rfl)
theorem k1714:FnOk Tryz.prog gl 169 f1714:=fnOk_of (by kernel_rfl) (by kernel_rfl) (by kernel_rfl)
theorem k1716:FnOk Tryz.prog gl 171 f1716:=fnOk_of (by kernel_rfl) (by kernel_rfl) (by kernel_rfl)
end Tab
end Go.Tidy
