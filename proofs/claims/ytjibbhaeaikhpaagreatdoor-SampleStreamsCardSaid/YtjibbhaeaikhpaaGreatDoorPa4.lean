/- A part of the proof. -/
import Derived.Test.YtjibbhaeaikhpaaGreatDoorAzP0
import Derived.Test.YtjibbhaeaikhpaaGreatDoorAzP1
import Derived.Test.YtjibbhaeaikhpaaGreatDoorPa1
set_option linter.all false
namespace Go.Tidy
open Go Go.Proofs
namespace A11
theorem q0:Tab.c11 = seqs (part Tab.c11 0 14) (tailC Tab.c11 14):=by kernel_rfl
theorem q2:tailC Tab.c11 14 = chain (part Tab.c11 14 27):=by kernel_rfl
theorem fn11:tpQ.fn 13 = some Tab.f11:=by kernel_rfl
theorem run (e1 e2:TypeId):∃ g,callT Tryz.prog tpQ (ev Tryz.prog tpQ 100000) (.func (.func 13) #[] #[]) #[] (h0 e1 e2) = some (.bool true,g):=by
  obtain ⟨a,g,h1,h2⟩:=outOf_some (p1 e1 e2)
  have body:ev Tryz.prog tpQ 100000 false Tab.c11 a0 (h0 e1 e2) = some (.ret,a,g):=by
    rw [q0]
    refine ev_seqs _ _ _ _ _ _ _ _ (p0 e1 e2) ?_
    rw [q2,show 100000 - (part Tab.c11 0 14).length = 99986 by kernel_rfl]
    exact ev_evF _ _ _ _ _ h1
  exact ⟨g,callT_of (vs:=[.bool true]) fn11 body h2⟩
end A11
end Go.Tidy
