/- A part of the proof. -/
import Derived.Test.YtadfeepajmngiaaGreatDoorTabQT
import Derived.Test.YtadfeepajmngiaaGreatDoorPa1
import Derived.Test.YtadfeepajmngiaaGreatDoorProg
import Derived.KernelRfl
set_option linter.all false
namespace Go.Tidy
open Go Go.Proofs
set_option maxRecDepth 100000
namespace Tab
theorem k2:FnOk Tryz.prog gl 2 f2:=fnOk_of (by kernel_rfl) (by kernel_rfl) (by kernel_rfl)
theorem k13:FnOk Tryz.prog gl 19 f13:=fnOk_of (by kernel_rfl) (by kernel_rfl) (by kernel_rfl)
theorem k18:FnOk Tryz.prog gl 60 f18:=fnOk_of (by kernel_rfl) (by kernel_rfl) (by kernel_rfl)
theorem k41:FnOk Tryz.prog gl 70 f41:=fnOk_of (by kernel_rfl) (by kernel_rfl) (by kernel_rfl)
theorem k71:FnOk Tryz.prog gl 69 f71:=fnOk_of (by kernel_rfl) (by kernel_rfl) (by kernel_rfl)
theorem k73:FnOk Tryz.prog gl 167 f73:=fnOk_of (by kernel_rfl) (by kernel_rfl) (by kernel_rfl)
theorem k74:FnOk Tryz.prog gl 168 f74:=fnOk_of (by kernel_rfl) (by kernel_rfl) (by kernel_rfl)
theorem k80:FnOk Tryz.prog gl 212 f80:=fnOk_of (by kernel_rfl) (by kernel_rfl) (by kernel_rfl)
theorem k93:FnOk Tryz.prog gl 76 f93:=fnOk_of (by kernel_rfl) (by kernel_rfl) (by kernel_rfl)
theorem k95:FnOk Tryz.prog gl 78 f95:=fnOk_of (by kernel_rfl) (by kernel_rfl) (by kernel_rfl)
theorem k99:FnOk Tryz.prog gl 143 f99:=fnOk_of (by kernel_rfl) (by kernel_rfl) (by kernel_rfl)
theorem k122:FnOk Tryz.prog gl 139 f122:=fnOk_of (by kernel_rfl) (by kernel_rfl) (by kernel_rfl)
theorem k126:FnOk Tryz.prog gl 142 f126:=fnOk_of (by kernel_rfl) (by kernel_rfl) (by kernel_rfl)
theorem k132:FnOk Tryz.prog gl 224 f132:=fnOk_of (by kernel_rfl) (by kernel_rfl) (by kernel_rfl)
theorem k156:FnOk Tryz.prog gl 189 f156:=fnOk_of (by kernel_rfl) (by kernel_rfl) (by kernel_rfl)
theorem k165:FnOk Tryz.prog gl 87 f165:=fnOk_of (by kernel_rfl) (by kernel_rfl) (by kernel_rfl)
theorem k190:FnOk Tryz.prog gl 218 f190:=fnOk_of (by kernel_rfl) (by kernel_rfl) (by kernel_rfl)
theorem k202:FnOk Tryz.prog gl 232 f202:=fnOk_of (by kernel_rfl) (by kernel_rfl) (by kernel_rfl)
theorem k1064:FnOk Tryz.prog gl 180 f1064:=fnOk_of (by kernel_rfl) (by kernel_rfl) (by kernel_rfl)
theorem k1232:FnOk Tryz.prog gl 192 f1232:=fnOk_of (by kernel_rfl) (by kernel_rfl) (by kernel_rfl)
theorem k1233:FnOk Tryz.prog gl 214 f1233:=fnOk_of (by kernel_rfl) (by kernel_rfl) (by kernel_rfl)
theorem k1578:FnOk Tryz.prog gl 5 f1578:=fnOk_of (by kernel_rfl) (by kernel_rfl) (by kernel_rfl)
theorem k1593:FnOk Tryz.prog gl 11 f1593:=fnOk_of (by kernel_rfl) (by kernel_rfl) (by kernel_rfl)
theorem k1598:FnOk Tryz.prog gl 25 f1598:=fnOk_of (by kernel_rfl) (by kernel_rfl) (by kernel_rfl)
theorem k1602:FnOk Tryz.prog gl 30 f1602:=fnOk_of (by kernel_rfl) (by kernel_rfl) (by kernel_rfl)
theorem k1618:FnOk Tryz.prog gl 55 f1618:=fnOk_of (by kernel_rfl) (by kernel_rfl) (by kernel_rfl)
theorem k1638:FnOk Tryz.prog gl 80 f1638:=fnOk_of (by kernel_rfl) (by kernel_rfl) (by kernel_rfl)
theorem k1640:FnOk Tryz.prog gl 53 f1640:=fnOk_of (by kernel_rfl) (by kernel_rfl) (by kernel_rfl)
theorem k1641:FnOk Tryz.prog gl 54 f1641:=fnOk_of (by kernel_rfl) (by kernel_rfl) (by kernel_rfl)
theorem k1642:FnOk Tryz.prog gl 61 f1642:=fnOk_of (by kernel_rfl) (by kernel_rfl) (by kernel_rfl)
theorem k1647:FnOk Tryz.prog gl 67 f1647:=fnOk_of (by kernel_rfl) (by kernel_rfl) (by kernel_rfl)
theorem k1664:FnOk Tryz.prog gl 109 f1664:=fnOk_of (by kernel_rfl) (by kernel_rfl) (by kernel_rfl)
theorem k1681:FnOk Tryz.prog gl 120 f1681:=fnOk_of (by kernel_rfl) (by kernel_rfl) (by kernel_rfl)
theorem k1684:FnOk Tryz.prog gl 123 f1684:=fnOk_of (by kernel_rfl) (by kernel_rfl) (by kernel_rfl)
theorem k1686:FnOk Tryz.prog gl 125 f1686:=fnOk_of (by kernel_rfl) (by kernel_rfl) (by kernel_rfl)
theorem k1688:FnOk Tryz.prog gl 127 f1688:=fnOk_of (by kernel_rfl) (by kernel_rfl) (by kernel_rfl)
theorem k1691:FnOk Tryz.prog gl 134 f1691:=fnOk_of (by kernel_rfl) (by kernel_rfl) (by kernel_rfl)
theorem k1694:FnOk Tryz.prog gl 137 f1694:=fnOk_of (by kernel_rfl) (by kernel_rfl) (by kernel_rfl)
theorem k1696:FnOk Tryz.prog gl 153 f1696:=fnOk_of (by kernel_rfl) (by kernel_rfl) (by kernel_rfl)
theorem k1701:FnOk Tryz.prog gl 172 f1701:=fnOk_of (by kernel_rfl) (by kernel_rfl) (by kernel_rfl)
theorem k1705:FnOk Tryz.prog gl 174 f1705:=fnOk_of (by kernel_rfl) (by kernel_rfl) (by kernel_rfl)
theorem k1714:FnOk Tryz.prog gl 200 f1714:=fnOk_of (by kernel_rfl) (by kernel_rfl) (by kernel_rfl)
theorem k1716:FnOk Tryz.prog gl 203 f1716:=fnOk_of (by kernel_rfl) (by kernel_rfl) (by kernel_rfl)
theorem k1717:FnOk Tryz.prog gl 204 f1717:=fnOk_of (by kernel_rfl) (by kernel_rfl) (by kernel_rfl)
theorem k1722:FnOk Tryz.prog gl 257 f1722:=fnOk_of (by kernel_rfl) (by kernel_rfl) (by kernel_rfl)
end Tab
end Go.Tidy
