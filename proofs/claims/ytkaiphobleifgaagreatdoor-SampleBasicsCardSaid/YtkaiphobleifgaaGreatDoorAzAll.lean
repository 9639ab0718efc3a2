/- The document's examples, all of them, are computed: awake. -/
import Derived.Test.YtkaiphobleifgaaGreatDoorAzP0
import Derived.Test.YtkaiphobleifgaaGreatDoorAzP1
import Derived.Test.YtkaiphobleifgaaGreatDoorAzP2
import Derived.Test.YtkaiphobleifgaaGreatDoorTd5
set_option linter.all false
namespace Go.Tidy
open Go Go.Proofs
namespace A14
theorem q0 : Tab.c14 = seqs (part Tab.c14 0 12) (tailC Tab.c14 12) := by kernel_rfl
theorem q1 : tailC Tab.c14 12 = seqs (part Tab.c14 12 21) (tailC Tab.c14 21) := by kernel_rfl
theorem q2 : tailC Tab.c14 21 = chain (part Tab.c14 21 32) := by kernel_rfl
theorem fn14 : tpQ.fn 14 = some Tab.f14 := by kernel_rfl
theorem run (e1 e2 : TypeId) : ∃ g, callT Tryz.prog tpQ (ev Tryz.prog tpQ 100000) (.func (.func 14) #[] #[]) #[] (h0 e1 e2) = some (.bool true, g) := by
  obtain ⟨a, g, h1, h2⟩ := outOf_some (p2 e1 e2)
  have body : ev Tryz.prog tpQ 100000 false Tab.c14 a0 (h0 e1 e2) = some (.ret, a, g) := by
    rw [q0]
    refine ev_seqs _ _ _ _ _ _ _ _ (p0 e1 e2) ?_
    rw [q1, show 100000 - (part Tab.c14 0 12).length = 99988 by kernel_rfl]
    refine ev_seqs _ _ _ _ _ _ _ _ (p1 e1 e2) ?_
    rw [q2, show 99988 - (part Tab.c14 12 21).length = 99979 by kernel_rfl]
    exact ev_evF _ _ _ _ _ h1
  exact ⟨g, callT_of (vs := [.bool true]) fn14 body h2⟩
end A14
end Go.Tidy
