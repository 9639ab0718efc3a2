/- A part of the proof. -/
import Derived.Test.YtejopkplhplpgaaGreatDoorCd1582a
import Derived.Test.YtejopkplhplpgaaGreatDoorCd1582b
set_option linter.all false
namespace Go.Proofs.YtejopkplhplpgaaGreatDoor.qualityLeft
open Go
set_option maxRecDepth 100000 in
theorem facts:joinedFacts Tryz.prog 4 Tryz.f4 (OpenSpec.ofChange Rows.qualityLeftSpec).bare Rows.qualityLeftRow=true:=by
 unfold joinedFacts
 simp only [Bool.and_eq_true]
 repeat' apply And.intro
 all_goals first
  | with_reducible exact zB
  | with_reducible exact zC
  | with_reducible exact zD
  | with_reducible exact zE
  | with_reducible exact zF
  | with_reducible exact zG
  | with_reducible exact zH
  | kernel_rfl
end Go.Proofs.YtejopkplhplpgaaGreatDoor.qualityLeft
