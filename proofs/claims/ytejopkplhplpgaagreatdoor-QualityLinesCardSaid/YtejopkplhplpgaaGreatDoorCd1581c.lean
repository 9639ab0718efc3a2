/- A part of the proof. -/
import Derived.Test.YtejopkplhplpgaaGreatDoorCd1581a
import Derived.Test.YtejopkplhplpgaaGreatDoorCd1581b
set_option linter.all false
namespace Go.Proofs.YtejopkplhplpgaaGreatDoor.qualityLines
open Go
set_option maxRecDepth 100000 in
theorem facts:joinedFacts Tryz.prog 3 Tryz.f3 (OpenSpec.ofChange Rows.qualityLinesSpec).bare Rows.qualityLinesRow=true:=by
 unfold joinedFacts
 simp only [Bool.and_eq_true]
 repeat' apply And.intro
 all_goals first
  | with_reducible exact zB
  | with_reducible exact zC
  | with_reducible exact zD
  | with_reducible exact zE
  | with_reducible exact zF
  | with_reducible exact zG
  | with_reducible exact zH
  | kernel_rfl
end Go.Proofs.YtejopkplhplpgaaGreatDoor.qualityLines
