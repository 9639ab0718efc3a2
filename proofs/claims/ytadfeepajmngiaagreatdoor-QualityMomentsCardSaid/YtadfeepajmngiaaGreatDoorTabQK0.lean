/- A part of the proof. -/
import Derived.Test.YtadfeepajmngiaaGreatDoorTabQT
import Derived.Test.YtadfeepajmngiaaGreatDoorPa1
import Derived.Test.YtadfeepajmngiaaGreatDoorProg
import Derived.KernelRfl
set_option linter.all false
namespace Go.Tidy
open Go Go.Proofs
set_option maxRecDepth 100000
namespace Tab
theorem k16:FnOk Tryz.prog gl 101 f16:=fnOk_of (by kernel_rfl) (by kernel_rfl) (by kernel_rfl)
theorem k78:FnOk Tryz.prog gl 151 f78:=fnOk_of (by kernel_rfl) (by kernel_rfl) (by kernel_rfl)
theorem k81:FnOk Tryz.prog gl 213 f81:=fnOk_of (by kernel_rfl) (by kernel_rfl) (by kernel_rfl)
theorem k98:FnOk Tryz.prog gl 83 f98:=fnOk_of (by kernel_rfl) (by kernel_rfl) (by kernel_rfl)
theorem k99:FnOk Tryz.prog gl 143 f99:=fnOk_of (by kernel_rfl) (by kernel_rfl) (by kernel_rfl)
theorem k123:FnOk Tryz.prog gl 140 f123:=fnOk_of (by kernel_rfl) (by kernel_rfl) (by kernel_rfl)
theorem k189:FnOk Tryz.prog gl 217 f189:=fnOk_of (by kernel_rfl) (by kernel_rfl) (by kernel_rfl)
theorem k192:FnOk Tryz.prog gl 220 f192:=fnOk_of (by kernel_rfl) (by kernel_rfl) (by kernel_rfl)
theorem k201:FnOk Tryz.prog gl 230 f201:=fnOk_of (by kernel_rfl) (by kernel_rfl) (by kernel_rfl)
theorem k1206:FnOk Tryz.prog gl 145 f1206:=fnOk_of (by kernel_rfl) (by kernel_rfl) (by kernel_rfl)
theorem k1362:FnOk Tryz.prog gl 205 f1362:=fnOk_of (by kernel_rfl) (by kernel_rfl) (by kernel_rfl)
theorem k1497:FnOk Tryz.prog gl 199 f1497:=fnOk_of (by kernel_rfl) (by kernel_rfl) (by kernel_rfl)
theorem k1587:FnOk Tryz.prog gl 17 f1587:=fnOk_of (by kernel_rfl) (by kernel_rfl) (by kernel_rfl)
theorem k1588:FnOk Tryz.prog gl 18 f1588:=fnOk_of (by kernel_rfl) (by kernel_rfl) (by kernel_rfl)
theorem k1591:FnOk Tryz.prog gl 23 f1591:=fnOk_of (by kernel_rfl) (by kernel_rfl) (by kernel_rfl)
theorem k1597:FnOk Tryz.prog gl 24 f1597:=fnOk_of (by kernel_rfl) (by kernel_rfl) (by kernel_rfl)
theorem k1599:FnOk Tryz.prog gl 26 f1599:=fnOk_of (by kernel_rfl) (by kernel_rfl) (by kernel_rfl)
theorem k1605:FnOk Tryz.prog gl 40 f1605:=fnOk_of (by kernel_rfl) (by kernel_rfl) (by kernel_rfl)
theorem k1620:FnOk Tryz.prog gl 58 f1620:=fnOk_of (by kernel_rfl) (by kernel_rfl) (by kernel_rfl)
theorem k1640:FnOk Tryz.prog gl 53 f1640:=fnOk_of (by kernel_rfl) (by kernel_rfl) (by kernel_rfl)
theorem k1644:FnOk Tryz.prog gl 63 f1644:=fnOk_of (by kernel_rfl) (by kernel_rfl) (by kernel_rfl)
theorem k1651:FnOk Tryz.prog gl 85 f1651:=fnOk_of (by kernel_rfl) (by kernel_rfl) (by kernel_rfl)
theorem k1652:FnOk Tryz.prog gl 86 f1652:=fnOk_of (by kernel_rfl) (by kernel_rfl) (by kernel_rfl)
theorem k1677:FnOk Tryz.prog gl 130 f1677:=fnOk_of (by kernel_rfl) (by kernel_rfl) (by kernel_rfl)
theorem k1682:FnOk Tryz.prog gl 121 f1682:=fnOk_of (by kernel_rfl) (by kernel_rfl) (by kernel_rfl)
theorem k1690:FnOk Tryz.prog gl 133 f1690:=fnOk_of (by kernel_rfl) (by kernel_rfl) (by kernel_rfl)
theorem k1693:FnOk Tryz.prog gl 136 f1693:=fnOk_of (by kernel_rfl) (by kernel_rfl) (by kernel_rfl)
theorem k1702:FnOk Tryz.prog gl 173 f1702:=fnOk_of (by kernel_rfl) (by kernel_rfl) (by kernel_rfl)
theorem k1704:FnOk Tryz.prog gl 176 f1704:=fnOk_of (by kernel_rfl) (by kernel_rfl) (by kernel_rfl)
theorem k1706:FnOk Tryz.prog gl 175 f1706:=fnOk_of (by kernel_rfl) (by kernel_rfl) (by kernel_rfl)
theorem k1707:FnOk Tryz.prog gl 177 f1707:=fnOk_of (by kernel_rfl) (by kernel_rfl) (by kernel_rfl)
theorem k1714:FnOk Tryz.prog gl 200 f1714:=fnOk_of (by kernel_rfl) (by kernel_rfl) (by kernel_rfl)
theorem k1715:FnOk Tryz.prog gl 201 f1715:=fnOk_of (by kernel_rfl) (by kernel_rfl) (by kernel_rfl)
theorem k1717:FnOk Tryz.prog gl 204 f1717:=fnOk_of (by kernel_rfl) (by kernel_rfl) (by kernel_rfl)
theorem k1722:FnOk Tryz.prog gl 257 f1722:=fnOk_of (by kernel_rfl) (by kernel_rfl) (by kernel_rfl)
end Tab
end Go.Tidy
