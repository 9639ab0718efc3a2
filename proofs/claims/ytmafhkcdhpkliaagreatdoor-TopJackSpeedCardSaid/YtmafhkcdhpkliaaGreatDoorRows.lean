/-
  NARROWER THAN 'FOR EVERY INPUT', by the rows' own cells (each row's printed sentence says how): InertiaVotes: laid · InertiaSteps: laid · InertiaTrends: laid · InertiaPanels: laid · InertiaTexts: laid · InertiaAgreed: laid · InertiaTwists: laid · InertiaWaves: laid · InertiaPrinted: laid · TopJackSpeed: laid.
  DERIVED. THE GIVEN ROWS OF THIS SEAT. 10 by the template 'for every input the law returns true; each argument reads behind the call as it read before'; 0 by the template 'total and deterministic' (their statements: YtmafhkcdhpkliaaGreatDoorTotals.lean).
  GIVEN WITH THE SEED: the statements are not yours to turn. If you find one false, say at which input.
  Laid BY PROGRAM, IN A SANDBOX (cutbox-rows.mjs): the forced cells as the released guide's own fill.sh prints them over the translation 0ab62d6a70524d1c… (all of the seat's roots in one cut). By AI agents, Wed Nov 11 2026. No macro, syntax, notation, axiom, sorry.
-/
import Derived.Test.YtmafhkcdhpkliaaGreatDoorChecked
import GoSem.Claim
import GoSem.ClaimJoined
import GoSem.ClaimMapViews
import Derived.JoinedTies
import Derived.KernelRfl
namespace Go.Proofs.YtmafhkcdhpkliaaGreatDoor
/- THE CELL 'sum', in the pinned program and in every row, IS THE sha256 OF THE DUMP (.gsa) THAT YtmafhkcdhpkliaaGreatDoorProg.lean LOADS. Nothing in Lean hashes anything: it is a label: what it is worth is what the hold of that sum in a sandbox is worth. -/
noncomputable def Tryz.pinned : Pinned := { name := "ytmafhkcdhpkliaagreatdoor", sum := "0ab62d6a70524d1cde9c51f016471922dcf3e8fd4a8da28628e7224a6f109916", checked := Tryz.checked }
namespace Rows
def none {H : Type} : Left H := { results := [], args := [] }

/- WHAT THE LISTED PACKAGE-LEVEL VARIABLES READ AS WHEN THE CALL BEGINS. Each datum BY PROGRAM (the guide's laid-datum.mjs) off the statement by which the dump's own 'gosem.cut.vars' lays the variable. In a bare row this is a premise. The card (YtmafhkcdhpkliaaGreatDoorCards.lean) ties it to the program's text. -/
def laid_math_bits_deBruijn32tab {H : Type} : DataW H := .agg [.lit (.int .u8 0), .lit (.int .u8 1), .lit (.int .u8 28), .lit (.int .u8 2), .lit (.int .u8 29), .lit (.int .u8 14), .lit (.int .u8 24), .lit (.int .u8 3), .lit (.int .u8 30), .lit (.int .u8 22), .lit (.int .u8 20), .lit (.int .u8 15), .lit (.int .u8 25), .lit (.int .u8 17), .lit (.int .u8 4), .lit (.int .u8 8), .lit (.int .u8 31), .lit (.int .u8 27), .lit (.int .u8 13), .lit (.int .u8 23), .lit (.int .u8 21), .lit (.int .u8 19), .lit (.int .u8 16), .lit (.int .u8 7), .lit (.int .u8 26), .lit (.int .u8 12), .lit (.int .u8 18), .lit (.int .u8 6), .lit (.int .u8 11), .lit (.int .u8 5), .lit (.int .u8 10), .lit (.int .u8 9)]
def laid_math_bits_deBruijn64tab {H : Type} : DataW H := .agg [.lit (.int .u8 0), .lit (.int .u8 1), .lit (.int .u8 56), .lit (.int .u8 2), .lit (.int .u8 57), .lit (.int .u8 49), .lit (.int .u8 28), .lit (.int .u8 3), .lit (.int .u8 61), .lit (.int .u8 58), .lit (.int .u8 42), .lit (.int .u8 50), .lit (.int .u8 38), .lit (.int .u8 29), .lit (.int .u8 17), .lit (.int .u8 4), .lit (.int .u8 62), .lit (.int .u8 47), .lit (.int .u8 59), .lit (.int .u8 36), .lit (.int .u8 45), .lit (.int .u8 43), .lit (.int .u8 51), .lit (.int .u8 22), .lit (.int .u8 53), .lit (.int .u8 39), .lit (.int .u8 33), .lit (.int .u8 30), .lit (.int .u8 24), .lit (.int .u8 18), .lit (.int .u8 12), .lit (.int .u8 5), .lit (.int .u8 63), .lit (.int .u8 55), .lit (.int .u8 48), .lit (.int .u8 27), .lit (.int .u8 60), .lit (.int .u8 41), .lit (.int .u8 37), .lit (.int .u8 16), .lit (.int .u8 46), .lit (.int .u8 35), .lit (.int .u8 44), .lit (.int .u8 21), .lit (.int .u8 52), .lit (.int .u8 32), .lit (.int .u8 23), .lit (.int .u8 11), .lit (.int .u8 54), .lit (.int .u8 26), .lit (.int .u8 40), .lit (.int .u8 15), .lit (.int .u8 34), .lit (.int .u8 20), .lit (.int .u8 31), .lit (.int .u8 10), .lit (.int .u8 25), .lit (.int .u8 14), .lit (.int .u8 19), .lit (.int .u8 9), .lit (.int .u8 13), .lit (.int .u8 8), .lit (.int .u8 7), .lit (.int .u8 6)]
def laid_internal_strconv_uint64pow10 {H : Type} : DataW H := .agg [.lit (.int .u64 1), .lit (.int .u64 10), .lit (.int .u64 100), .lit (.int .u64 1000), .lit (.int .u64 10000), .lit (.int .u64 100000), .lit (.int .u64 1000000), .lit (.int .u64 10000000), .lit (.int .u64 100000000), .lit (.int .u64 1000000000), .lit (.int .u64 10000000000), .lit (.int .u64 100000000000), .lit (.int .u64 1000000000000), .lit (.int .u64 10000000000000), .lit (.int .u64 100000000000000), .lit (.int .u64 1000000000000000), .lit (.int .u64 10000000000000000), .lit (.int .u64 100000000000000000), .lit (.int .u64 1000000000000000000), .lit (.int .u64 10000000000000000000)]
def laid_versine_sample_turns {H : Type} : DataW H := .agg [.agg [.lit (.int .i64 1), .lit (.int .i64 0)], .agg [.lit (.int .i64 0), .lit (.int .i64 (-1))], .agg [.lit (.int .i64 (-1)), .lit (.int .i64 0)], .agg [.lit (.int .i64 0), .lit (.int .i64 1)]]
def laid_versine_inertia_weights {H : Type} : DataW H := .agg [.lit (.int .i64 1), .lit (.int .i64 (-2)), .lit (.int .i64 1)]
def laid_versine_inertia_flat {H : Type} : DataW H := .agg [.agg [.lit (.int .i64 0), .lit (.int .i64 1)], .agg [.lit (.int .i64 0), .lit (.int .i64 1)]]
def laid_strconv_ErrRange {H : Type} : DataW H := .iface "*errors.errorString" (.ptr (.agg [.lit (.string [118, 97, 108, 117, 101, 32, 111, 117, 116, 32, 111, 102, 32, 114, 97, 110, 103, 101])]))
def laid_strconv_ErrSyntax {H : Type} : DataW H := .iface "*errors.errorString" (.ptr (.agg [.lit (.string [105, 110, 118, 97, 108, 105, 100, 32, 115, 121, 110, 116, 97, 120])]))

/-- 'versinelaw04.InertiaVotes': WHATEVER THE INPUT: true; the input reads as it did. -/
def inertiaVotesSpec : ChangeSpec := { name := "inertiaVotes", fn := fun _ => fun
  | [d1, d2] => { results := [.lit (.bool true)], args := [d1, d2] }
  | _ => none }
def inertiaVotesRow : OpenClaim := { program := "ytmafhkcdhpkliaagreatdoor", sum := "0ab62d6a70524d1cde9c51f016471922dcf3e8fd4a8da28628e7224a6f109916", func := "versine/versinelaw04.InertiaVotes", spec := "inertiaVotes", inPlace := ["math.Float64bits", "math.Float64frombits", "math.archTrunc", "internal/abi.NoEscape", "internal/bytealg.MakeNoZero"], unfollowed := true, recurses := true, named := ["versine/inertia.weights", "versine/inertia.flat", "versine/sample.turns", "internal/strconv.uint64pow10", "math/bits.deBruijn32tab", "math/bits.deBruijn64tab"], apart := false, laid := [("math/bits.deBruijn32tab", laid_math_bits_deBruijn32tab), ("math/bits.deBruijn64tab", laid_math_bits_deBruijn64tab), ("internal/strconv.uint64pow10", laid_internal_strconv_uint64pow10), ("versine/sample.turns", laid_versine_sample_turns), ("versine/inertia.weights", laid_versine_inertia_weights), ("versine/inertia.flat", laid_versine_inertia_flat)] }
def InertiaVotesSaid : Prop := inertiaVotesRow.holds Tryz.pinned (OpenSpec.ofChange inertiaVotesSpec)

/-- ITS FALSE NEIGHBOUR: 'it returns false'. Refute it at one input. -/
def inertiaVotesWrong : ChangeSpec := { name := "inertiaVotes", fn := fun _ => fun
  | [d1, d2] => { results := [.lit (.bool false)], args := [d1, d2] }
  | _ => none }
def InertiaVotesWrongFalsely : Prop := inertiaVotesRow.holds Tryz.pinned (OpenSpec.ofChange inertiaVotesWrong)

/-- 'versinelaw04.InertiaSteps': WHATEVER THE INPUT: true; the input reads as it did. -/
def inertiaStepsSpec : ChangeSpec := { name := "inertiaSteps", fn := fun _ => fun
  | [d1, d2, d3] => { results := [.lit (.bool true)], args := [d1, d2, d3] }
  | _ => none }
def inertiaStepsRow : OpenClaim := { program := "ytmafhkcdhpkliaagreatdoor", sum := "0ab62d6a70524d1cde9c51f016471922dcf3e8fd4a8da28628e7224a6f109916", func := "versine/versinelaw04.InertiaSteps", spec := "inertiaSteps", inPlace := ["math.Float64bits", "math.Float64frombits", "math.archTrunc", "internal/abi.NoEscape", "internal/bytealg.MakeNoZero"], unfollowed := true, recurses := true, named := ["versine/inertia.weights", "versine/inertia.flat", "versine/sample.turns", "internal/strconv.uint64pow10", "math/bits.deBruijn32tab", "math/bits.deBruijn64tab"], apart := false, laid := [("math/bits.deBruijn32tab", laid_math_bits_deBruijn32tab), ("math/bits.deBruijn64tab", laid_math_bits_deBruijn64tab), ("internal/strconv.uint64pow10", laid_internal_strconv_uint64pow10), ("versine/sample.turns", laid_versine_sample_turns), ("versine/inertia.weights", laid_versine_inertia_weights), ("versine/inertia.flat", laid_versine_inertia_flat)] }
def InertiaStepsSaid : Prop := inertiaStepsRow.holds Tryz.pinned (OpenSpec.ofChange inertiaStepsSpec)

/-- ITS FALSE NEIGHBOUR: 'it returns false'. Refute it at one input. -/
def inertiaStepsWrong : ChangeSpec := { name := "inertiaSteps", fn := fun _ => fun
  | [d1, d2, d3] => { results := [.lit (.bool false)], args := [d1, d2, d3] }
  | _ => none }
def InertiaStepsWrongFalsely : Prop := inertiaStepsRow.holds Tryz.pinned (OpenSpec.ofChange inertiaStepsWrong)

/-- 'versinelaw04.InertiaTrends': WHATEVER THE INPUT: true; the input reads as it did. -/
def inertiaTrendsSpec : ChangeSpec := { name := "inertiaTrends", fn := fun _ => fun
  | [d] => { results := [.lit (.bool true)], args := [d] }
  | _ => none }
def inertiaTrendsRow : OpenClaim := { program := "ytmafhkcdhpkliaagreatdoor", sum := "0ab62d6a70524d1cde9c51f016471922dcf3e8fd4a8da28628e7224a6f109916", func := "versine/versinelaw04.InertiaTrends", spec := "inertiaTrends", inPlace := ["math.Float64bits", "math.Float64frombits", "math.archTrunc", "internal/abi.NoEscape", "internal/bytealg.MakeNoZero"], unfollowed := true, recurses := true, named := ["versine/inertia.weights", "versine/inertia.flat", "versine/sample.turns", "internal/strconv.uint64pow10", "math/bits.deBruijn32tab", "math/bits.deBruijn64tab"], apart := false, laid := [("math/bits.deBruijn32tab", laid_math_bits_deBruijn32tab), ("math/bits.deBruijn64tab", laid_math_bits_deBruijn64tab), ("internal/strconv.uint64pow10", laid_internal_strconv_uint64pow10), ("versine/sample.turns", laid_versine_sample_turns), ("versine/inertia.weights", laid_versine_inertia_weights), ("versine/inertia.flat", laid_versine_inertia_flat)] }
def InertiaTrendsSaid : Prop := inertiaTrendsRow.holds Tryz.pinned (OpenSpec.ofChange inertiaTrendsSpec)

/-- ITS FALSE NEIGHBOUR: 'it returns false'. Refute it at one input. -/
def inertiaTrendsWrong : ChangeSpec := { name := "inertiaTrends", fn := fun _ => fun
  | [d] => { results := [.lit (.bool false)], args := [d] }
  | _ => none }
def InertiaTrendsWrongFalsely : Prop := inertiaTrendsRow.holds Tryz.pinned (OpenSpec.ofChange inertiaTrendsWrong)

/-- 'versinelaw04.InertiaPanels': WHATEVER THE INPUT: true; the input reads as it did. -/
def inertiaPanelsSpec : ChangeSpec := { name := "inertiaPanels", fn := fun _ => fun
  | [d] => { results := [.lit (.bool true)], args := [d] }
  | _ => none }
def inertiaPanelsRow : OpenClaim := { program := "ytmafhkcdhpkliaagreatdoor", sum := "0ab62d6a70524d1cde9c51f016471922dcf3e8fd4a8da28628e7224a6f109916", func := "versine/versinelaw04.InertiaPanels", spec := "inertiaPanels", inPlace := ["math.Float64bits", "math.Float64frombits", "math.archTrunc", "internal/abi.NoEscape", "internal/bytealg.MakeNoZero"], unfollowed := true, recurses := true, named := ["versine/inertia.weights", "versine/inertia.flat", "versine/sample.turns", "internal/strconv.uint64pow10", "math/bits.deBruijn32tab", "math/bits.deBruijn64tab"], apart := false, laid := [("math/bits.deBruijn32tab", laid_math_bits_deBruijn32tab), ("math/bits.deBruijn64tab", laid_math_bits_deBruijn64tab), ("internal/strconv.uint64pow10", laid_internal_strconv_uint64pow10), ("versine/sample.turns", laid_versine_sample_turns), ("versine/inertia.weights", laid_versine_inertia_weights), ("versine/inertia.flat", laid_versine_inertia_flat)] }
def InertiaPanelsSaid : Prop := inertiaPanelsRow.holds Tryz.pinned (OpenSpec.ofChange inertiaPanelsSpec)

/-- ITS FALSE NEIGHBOUR: 'it returns false'. Refute it at one input. -/
def inertiaPanelsWrong : ChangeSpec := { name := "inertiaPanels", fn := fun _ => fun
  | [d] => { results := [.lit (.bool false)], args := [d] }
  | _ => none }
def InertiaPanelsWrongFalsely : Prop := inertiaPanelsRow.holds Tryz.pinned (OpenSpec.ofChange inertiaPanelsWrong)

/-- 'versinelaw04.InertiaTexts': WHATEVER THE INPUT: true; the input reads as it did. -/
def inertiaTextsSpec : ChangeSpec := { name := "inertiaTexts", fn := fun _ => fun
  | [d1, d2] => { results := [.lit (.bool true)], args := [d1, d2] }
  | _ => none }
def inertiaTextsRow : OpenClaim := { program := "ytmafhkcdhpkliaagreatdoor", sum := "0ab62d6a70524d1cde9c51f016471922dcf3e8fd4a8da28628e7224a6f109916", func := "versine/versinelaw04.InertiaTexts", spec := "inertiaTexts", inPlace := ["math.Float64bits", "math.Float64frombits", "math.archTrunc", "internal/abi.NoEscape", "internal/bytealg.MakeNoZero", "internal/bytealg.IndexByteString", "internal/bytealg.IndexString"], unfollowed := true, recurses := true, named := ["versine/inertia.weights", "versine/inertia.flat", "versine/sample.turns", "internal/strconv.uint64pow10", "math/bits.deBruijn32tab", "math/bits.deBruijn64tab", "strconv.ErrSyntax", "strconv.ErrRange", "internal/bytealg.MaxLen"], apart := false, laid := [("math/bits.deBruijn32tab", laid_math_bits_deBruijn32tab), ("math/bits.deBruijn64tab", laid_math_bits_deBruijn64tab), ("internal/strconv.uint64pow10", laid_internal_strconv_uint64pow10), ("strconv.ErrRange", laid_strconv_ErrRange), ("strconv.ErrSyntax", laid_strconv_ErrSyntax), ("versine/sample.turns", laid_versine_sample_turns), ("versine/inertia.weights", laid_versine_inertia_weights), ("versine/inertia.flat", laid_versine_inertia_flat)] }
def InertiaTextsSaid : Prop := inertiaTextsRow.holds Tryz.pinned (OpenSpec.ofChange inertiaTextsSpec)

/-- ITS FALSE NEIGHBOUR: 'it returns false'. Refute it at one input. -/
def inertiaTextsWrong : ChangeSpec := { name := "inertiaTexts", fn := fun _ => fun
  | [d1, d2] => { results := [.lit (.bool false)], args := [d1, d2] }
  | _ => none }
def InertiaTextsWrongFalsely : Prop := inertiaTextsRow.holds Tryz.pinned (OpenSpec.ofChange inertiaTextsWrong)

/-- 'versinelaw04.InertiaAgreed': WHATEVER THE INPUT: true; the input reads as it did. -/
def inertiaAgreedSpec : ChangeSpec := { name := "inertiaAgreed", fn := fun _ => fun
  | [d1, d2, d3] => { results := [.lit (.bool true)], args := [d1, d2, d3] }
  | _ => none }
def inertiaAgreedRow : OpenClaim := { program := "ytmafhkcdhpkliaagreatdoor", sum := "0ab62d6a70524d1cde9c51f016471922dcf3e8fd4a8da28628e7224a6f109916", func := "versine/versinelaw04.InertiaAgreed", spec := "inertiaAgreed", inPlace := ["math.Float64bits", "math.Float64frombits", "math.archTrunc", "internal/abi.NoEscape", "internal/bytealg.MakeNoZero"], unfollowed := true, recurses := true, named := ["versine/inertia.weights", "versine/inertia.flat", "versine/sample.turns", "internal/strconv.uint64pow10", "math/bits.deBruijn32tab", "math/bits.deBruijn64tab"], apart := false, laid := [("math/bits.deBruijn32tab", laid_math_bits_deBruijn32tab), ("math/bits.deBruijn64tab", laid_math_bits_deBruijn64tab), ("internal/strconv.uint64pow10", laid_internal_strconv_uint64pow10), ("versine/sample.turns", laid_versine_sample_turns), ("versine/inertia.weights", laid_versine_inertia_weights), ("versine/inertia.flat", laid_versine_inertia_flat)] }
def InertiaAgreedSaid : Prop := inertiaAgreedRow.holds Tryz.pinned (OpenSpec.ofChange inertiaAgreedSpec)

/-- ITS FALSE NEIGHBOUR: 'it returns false'. Refute it at one input. -/
def inertiaAgreedWrong : ChangeSpec := { name := "inertiaAgreed", fn := fun _ => fun
  | [d1, d2, d3] => { results := [.lit (.bool false)], args := [d1, d2, d3] }
  | _ => none }
def InertiaAgreedWrongFalsely : Prop := inertiaAgreedRow.holds Tryz.pinned (OpenSpec.ofChange inertiaAgreedWrong)

/-- 'versinelaw04.InertiaTwists': WHATEVER THE INPUT: true; the input reads as it did. -/
def inertiaTwistsSpec : ChangeSpec := { name := "inertiaTwists", fn := fun _ => fun
  | [d1, d2, d3] => { results := [.lit (.bool true)], args := [d1, d2, d3] }
  | _ => none }
def inertiaTwistsRow : OpenClaim := { program := "ytmafhkcdhpkliaagreatdoor", sum := "0ab62d6a70524d1cde9c51f016471922dcf3e8fd4a8da28628e7224a6f109916", func := "versine/versinelaw04.InertiaTwists", spec := "inertiaTwists", inPlace := ["math.Float64bits", "math.Float64frombits", "math.archTrunc", "internal/abi.NoEscape", "internal/bytealg.MakeNoZero"], unfollowed := true, recurses := true, named := ["versine/inertia.weights", "versine/inertia.flat", "versine/sample.turns", "internal/strconv.uint64pow10", "math/bits.deBruijn32tab", "math/bits.deBruijn64tab"], apart := false, laid := [("math/bits.deBruijn32tab", laid_math_bits_deBruijn32tab), ("math/bits.deBruijn64tab", laid_math_bits_deBruijn64tab), ("internal/strconv.uint64pow10", laid_internal_strconv_uint64pow10), ("versine/sample.turns", laid_versine_sample_turns), ("versine/inertia.weights", laid_versine_inertia_weights), ("versine/inertia.flat", laid_versine_inertia_flat)] }
def InertiaTwistsSaid : Prop := inertiaTwistsRow.holds Tryz.pinned (OpenSpec.ofChange inertiaTwistsSpec)

/-- ITS FALSE NEIGHBOUR: 'it returns false'. Refute it at one input. -/
def inertiaTwistsWrong : ChangeSpec := { name := "inertiaTwists", fn := fun _ => fun
  | [d1, d2, d3] => { results := [.lit (.bool false)], args := [d1, d2, d3] }
  | _ => none }
def InertiaTwistsWrongFalsely : Prop := inertiaTwistsRow.holds Tryz.pinned (OpenSpec.ofChange inertiaTwistsWrong)

/-- 'versinelaw04.InertiaWaves': WHATEVER THE INPUT: true; the input reads as it did. -/
def inertiaWavesSpec : ChangeSpec := { name := "inertiaWaves", fn := fun _ => fun
  | [d] => { results := [.lit (.bool true)], args := [d] }
  | _ => none }
def inertiaWavesRow : OpenClaim := { program := "ytmafhkcdhpkliaagreatdoor", sum := "0ab62d6a70524d1cde9c51f016471922dcf3e8fd4a8da28628e7224a6f109916", func := "versine/versinelaw04.InertiaWaves", spec := "inertiaWaves", inPlace := ["math.Float64bits", "math.Float64frombits", "math.archTrunc", "internal/abi.NoEscape", "internal/bytealg.MakeNoZero"], unfollowed := true, recurses := true, named := ["versine/inertia.weights", "versine/sample.turns", "versine/inertia.flat", "internal/strconv.uint64pow10", "math/bits.deBruijn32tab", "math/bits.deBruijn64tab"], apart := false, laid := [("math/bits.deBruijn32tab", laid_math_bits_deBruijn32tab), ("math/bits.deBruijn64tab", laid_math_bits_deBruijn64tab), ("internal/strconv.uint64pow10", laid_internal_strconv_uint64pow10), ("versine/sample.turns", laid_versine_sample_turns), ("versine/inertia.weights", laid_versine_inertia_weights), ("versine/inertia.flat", laid_versine_inertia_flat)] }
def InertiaWavesSaid : Prop := inertiaWavesRow.holds Tryz.pinned (OpenSpec.ofChange inertiaWavesSpec)

/-- ITS FALSE NEIGHBOUR: 'it returns false'. Refute it at one input. -/
def inertiaWavesWrong : ChangeSpec := { name := "inertiaWaves", fn := fun _ => fun
  | [d] => { results := [.lit (.bool false)], args := [d] }
  | _ => none }
def InertiaWavesWrongFalsely : Prop := inertiaWavesRow.holds Tryz.pinned (OpenSpec.ofChange inertiaWavesWrong)

/-- 'versinelaw04.InertiaPrinted': WHATEVER THE INPUT: true; the input reads as it did. -/
def inertiaPrintedSpec : ChangeSpec := { name := "inertiaPrinted", fn := fun _ => fun
  | [d1, d2] => { results := [.lit (.bool true)], args := [d1, d2] }
  | _ => none }
def inertiaPrintedRow : OpenClaim := { program := "ytmafhkcdhpkliaagreatdoor", sum := "0ab62d6a70524d1cde9c51f016471922dcf3e8fd4a8da28628e7224a6f109916", func := "versine/versinelaw04.InertiaPrinted", spec := "inertiaPrinted", inPlace := ["math.Float64bits", "math.Float64frombits", "math.archTrunc", "internal/abi.NoEscape", "internal/bytealg.MakeNoZero", "internal/bytealg.IndexByteString", "internal/bytealg.IndexString"], unfollowed := true, recurses := true, named := ["versine/inertia.weights", "versine/inertia.flat", "versine/sample.turns", "internal/strconv.uint64pow10", "math/bits.deBruijn32tab", "math/bits.deBruijn64tab", "strconv.ErrSyntax", "strconv.ErrRange", "internal/bytealg.MaxLen"], apart := false, laid := [("math/bits.deBruijn32tab", laid_math_bits_deBruijn32tab), ("math/bits.deBruijn64tab", laid_math_bits_deBruijn64tab), ("internal/strconv.uint64pow10", laid_internal_strconv_uint64pow10), ("strconv.ErrRange", laid_strconv_ErrRange), ("strconv.ErrSyntax", laid_strconv_ErrSyntax), ("versine/sample.turns", laid_versine_sample_turns), ("versine/inertia.weights", laid_versine_inertia_weights), ("versine/inertia.flat", laid_versine_inertia_flat)] }
def InertiaPrintedSaid : Prop := inertiaPrintedRow.holds Tryz.pinned (OpenSpec.ofChange inertiaPrintedSpec)

/-- ITS FALSE NEIGHBOUR: 'it returns false'. Refute it at one input. -/
def inertiaPrintedWrong : ChangeSpec := { name := "inertiaPrinted", fn := fun _ => fun
  | [d1, d2] => { results := [.lit (.bool false)], args := [d1, d2] }
  | _ => none }
def InertiaPrintedWrongFalsely : Prop := inertiaPrintedRow.holds Tryz.pinned (OpenSpec.ofChange inertiaPrintedWrong)

/-- 'versinetop.TopJackSpeed': WHATEVER THE INPUT: true; the input reads as it did. -/
def topJackSpeedSpec : ChangeSpec := { name := "topJackSpeed", fn := fun _ => fun
  | [d1, d2, d3] => { results := [.lit (.bool true)], args := [d1, d2, d3] }
  | _ => none }
def topJackSpeedRow : OpenClaim := { program := "ytmafhkcdhpkliaagreatdoor", sum := "0ab62d6a70524d1cde9c51f016471922dcf3e8fd4a8da28628e7224a6f109916", func := "versine/versinetop.TopJackSpeed", spec := "topJackSpeed", inPlace := ["math.Float64bits", "math.Float64frombits", "math.archTrunc"], unfollowed := true, recurses := true, named := ["versine/inertia.weights"], apart := false, laid := [("versine/inertia.weights", laid_versine_inertia_weights)] }
def TopJackSpeedSaid : Prop := topJackSpeedRow.holds Tryz.pinned (OpenSpec.ofChange topJackSpeedSpec)

/-- ITS FALSE NEIGHBOUR: 'it returns false'. Refute it at one input. -/
def topJackSpeedWrong : ChangeSpec := { name := "topJackSpeed", fn := fun _ => fun
  | [d1, d2, d3] => { results := [.lit (.bool false)], args := [d1, d2, d3] }
  | _ => none }
def TopJackSpeedWrongFalsely : Prop := topJackSpeedRow.holds Tryz.pinned (OpenSpec.ofChange topJackSpeedWrong)

/- THE SECOND FORM. 'bulk': how many values and letters a reading holds, each counted each time it is reached (what is shared counts as often as it is met; a slice's spare places count too). A statement '..UptoSaid' is the law's where the arguments, and the package variables that the reading takes, are together of bulk at most 1048576: NARROWER than '..Said'. Prove '..Said' where nothing that the law and all that it calls make is longer than what came in: it says more and counts as full. Else prove '..UptoSaid'. A law counts once. -/
mutual
def uptoBulk {H : Type} : DataW H → Nat
  | .lit (.string bytes) => bytes.length + 1
  | .lit _ => 1
  | .nil => 1
  | .ptr d => uptoBulk d + 1
  | .slice elems spare => uptoBulkAll elems + uptoBulkAll spare + 1
  | .agg parts => uptoBulkAll parts + 1
  | .iface _ d => uptoBulk d + 1
  | .map entries => uptoBulkEntries entries + 1
  | .held _ => 1
def uptoBulkAll {H : Type} : List (DataW H) → Nat
  | [] => 0
  | d :: r => uptoBulk d + uptoBulkAll r
def uptoBulkEntries {H : Type} : List (Lit × DataW H) → Nat
  | [] => 0
  | x :: r => uptoBulkEntry x + uptoBulkEntries r
def uptoBulkEntry {H : Type} : Lit × DataW H → Nat
  | (.string bytes, d) => bytes.length + uptoBulk d + 1
  | (_, d) => uptoBulk d + 1
 end
def uptoSmall : (H : Type) → List (DataW H) → Bool := fun _ ds => decide (uptoBulkAll ds ≤ 1048576)
def OpenSpec.upto (s : _root_.Go.ChangeSpec) : _root_.Go.OpenSpec := { _root_.Go.OpenSpec.ofChange s with cond := some uptoSmall }

/-- 'versinelaw04.InertiaVotes', WHERE WHAT IT READS IS OF BULK AT MOST 1048576: true; the input reads as it did. -/
def inertiaVotesUptoRow : OpenClaim := { program := "ytmafhkcdhpkliaagreatdoor", sum := "0ab62d6a70524d1cde9c51f016471922dcf3e8fd4a8da28628e7224a6f109916", func := "versine/versinelaw04.InertiaVotes", spec := "inertiaVotes", inPlace := ["math.Float64bits", "math.Float64frombits", "math.archTrunc", "internal/abi.NoEscape", "internal/bytealg.MakeNoZero"], unfollowed := true, recurses := true, named := ["versine/inertia.weights", "versine/inertia.flat", "versine/sample.turns", "internal/strconv.uint64pow10", "math/bits.deBruijn32tab", "math/bits.deBruijn64tab"], apart := false, laid := [("math/bits.deBruijn32tab", laid_math_bits_deBruijn32tab), ("math/bits.deBruijn64tab", laid_math_bits_deBruijn64tab), ("internal/strconv.uint64pow10", laid_internal_strconv_uint64pow10), ("versine/sample.turns", laid_versine_sample_turns), ("versine/inertia.weights", laid_versine_inertia_weights), ("versine/inertia.flat", laid_versine_inertia_flat)], narrowed := true }
def InertiaVotesUptoSaid : Prop := inertiaVotesUptoRow.holds Tryz.pinned (OpenSpec.upto inertiaVotesSpec)

/-- 'versinelaw04.InertiaSteps', WHERE WHAT IT READS IS OF BULK AT MOST 1048576: true; the input reads as it did. -/
def inertiaStepsUptoRow : OpenClaim := { program := "ytmafhkcdhpkliaagreatdoor", sum := "0ab62d6a70524d1cde9c51f016471922dcf3e8fd4a8da28628e7224a6f109916", func := "versine/versinelaw04.InertiaSteps", spec := "inertiaSteps", inPlace := ["math.Float64bits", "math.Float64frombits", "math.archTrunc", "internal/abi.NoEscape", "internal/bytealg.MakeNoZero"], unfollowed := true, recurses := true, named := ["versine/inertia.weights", "versine/inertia.flat", "versine/sample.turns", "internal/strconv.uint64pow10", "math/bits.deBruijn32tab", "math/bits.deBruijn64tab"], apart := false, laid := [("math/bits.deBruijn32tab", laid_math_bits_deBruijn32tab), ("math/bits.deBruijn64tab", laid_math_bits_deBruijn64tab), ("internal/strconv.uint64pow10", laid_internal_strconv_uint64pow10), ("versine/sample.turns", laid_versine_sample_turns), ("versine/inertia.weights", laid_versine_inertia_weights), ("versine/inertia.flat", laid_versine_inertia_flat)], narrowed := true }
def InertiaStepsUptoSaid : Prop := inertiaStepsUptoRow.holds Tryz.pinned (OpenSpec.upto inertiaStepsSpec)

/-- 'versinelaw04.InertiaTrends', WHERE WHAT IT READS IS OF BULK AT MOST 1048576: true; the input reads as it did. -/
def inertiaTrendsUptoRow : OpenClaim := { program := "ytmafhkcdhpkliaagreatdoor", sum := "0ab62d6a70524d1cde9c51f016471922dcf3e8fd4a8da28628e7224a6f109916", func := "versine/versinelaw04.InertiaTrends", spec := "inertiaTrends", inPlace := ["math.Float64bits", "math.Float64frombits", "math.archTrunc", "internal/abi.NoEscape", "internal/bytealg.MakeNoZero"], unfollowed := true, recurses := true, named := ["versine/inertia.weights", "versine/inertia.flat", "versine/sample.turns", "internal/strconv.uint64pow10", "math/bits.deBruijn32tab", "math/bits.deBruijn64tab"], apart := false, laid := [("math/bits.deBruijn32tab", laid_math_bits_deBruijn32tab), ("math/bits.deBruijn64tab", laid_math_bits_deBruijn64tab), ("internal/strconv.uint64pow10", laid_internal_strconv_uint64pow10), ("versine/sample.turns", laid_versine_sample_turns), ("versine/inertia.weights", laid_versine_inertia_weights), ("versine/inertia.flat", laid_versine_inertia_flat)], narrowed := true }
def InertiaTrendsUptoSaid : Prop := inertiaTrendsUptoRow.holds Tryz.pinned (OpenSpec.upto inertiaTrendsSpec)

/-- 'versinelaw04.InertiaPanels', WHERE WHAT IT READS IS OF BULK AT MOST 1048576: true; the input reads as it did. -/
def inertiaPanelsUptoRow : OpenClaim := { program := "ytmafhkcdhpkliaagreatdoor", sum := "0ab62d6a70524d1cde9c51f016471922dcf3e8fd4a8da28628e7224a6f109916", func := "versine/versinelaw04.InertiaPanels", spec := "inertiaPanels", inPlace := ["math.Float64bits", "math.Float64frombits", "math.archTrunc", "internal/abi.NoEscape", "internal/bytealg.MakeNoZero"], unfollowed := true, recurses := true, named := ["versine/inertia.weights", "versine/inertia.flat", "versine/sample.turns", "internal/strconv.uint64pow10", "math/bits.deBruijn32tab", "math/bits.deBruijn64tab"], apart := false, laid := [("math/bits.deBruijn32tab", laid_math_bits_deBruijn32tab), ("math/bits.deBruijn64tab", laid_math_bits_deBruijn64tab), ("internal/strconv.uint64pow10", laid_internal_strconv_uint64pow10), ("versine/sample.turns", laid_versine_sample_turns), ("versine/inertia.weights", laid_versine_inertia_weights), ("versine/inertia.flat", laid_versine_inertia_flat)], narrowed := true }
def InertiaPanelsUptoSaid : Prop := inertiaPanelsUptoRow.holds Tryz.pinned (OpenSpec.upto inertiaPanelsSpec)

/-- 'versinelaw04.InertiaTexts', WHERE WHAT IT READS IS OF BULK AT MOST 1048576: true; the input reads as it did. -/
def inertiaTextsUptoRow : OpenClaim := { program := "ytmafhkcdhpkliaagreatdoor", sum := "0ab62d6a70524d1cde9c51f016471922dcf3e8fd4a8da28628e7224a6f109916", func := "versine/versinelaw04.InertiaTexts", spec := "inertiaTexts", inPlace := ["math.Float64bits", "math.Float64frombits", "math.archTrunc", "internal/abi.NoEscape", "internal/bytealg.MakeNoZero", "internal/bytealg.IndexByteString", "internal/bytealg.IndexString"], unfollowed := true, recurses := true, named := ["versine/inertia.weights", "versine/inertia.flat", "versine/sample.turns", "internal/strconv.uint64pow10", "math/bits.deBruijn32tab", "math/bits.deBruijn64tab", "strconv.ErrSyntax", "strconv.ErrRange", "internal/bytealg.MaxLen"], apart := false, laid := [("math/bits.deBruijn32tab", laid_math_bits_deBruijn32tab), ("math/bits.deBruijn64tab", laid_math_bits_deBruijn64tab), ("internal/strconv.uint64pow10", laid_internal_strconv_uint64pow10), ("strconv.ErrRange", laid_strconv_ErrRange), ("strconv.ErrSyntax", laid_strconv_ErrSyntax), ("versine/sample.turns", laid_versine_sample_turns), ("versine/inertia.weights", laid_versine_inertia_weights), ("versine/inertia.flat", laid_versine_inertia_flat)], narrowed := true }
def InertiaTextsUptoSaid : Prop := inertiaTextsUptoRow.holds Tryz.pinned (OpenSpec.upto inertiaTextsSpec)

/-- 'versinelaw04.InertiaAgreed', WHERE WHAT IT READS IS OF BULK AT MOST 1048576: true; the input reads as it did. -/
def inertiaAgreedUptoRow : OpenClaim := { program := "ytmafhkcdhpkliaagreatdoor", sum := "0ab62d6a70524d1cde9c51f016471922dcf3e8fd4a8da28628e7224a6f109916", func := "versine/versinelaw04.InertiaAgreed", spec := "inertiaAgreed", inPlace := ["math.Float64bits", "math.Float64frombits", "math.archTrunc", "internal/abi.NoEscape", "internal/bytealg.MakeNoZero"], unfollowed := true, recurses := true, named := ["versine/inertia.weights", "versine/inertia.flat", "versine/sample.turns", "internal/strconv.uint64pow10", "math/bits.deBruijn32tab", "math/bits.deBruijn64tab"], apart := false, laid := [("math/bits.deBruijn32tab", laid_math_bits_deBruijn32tab), ("math/bits.deBruijn64tab", laid_math_bits_deBruijn64tab), ("internal/strconv.uint64pow10", laid_internal_strconv_uint64pow10), ("versine/sample.turns", laid_versine_sample_turns), ("versine/inertia.weights", laid_versine_inertia_weights), ("versine/inertia.flat", laid_versine_inertia_flat)], narrowed := true }
def InertiaAgreedUptoSaid : Prop := inertiaAgreedUptoRow.holds Tryz.pinned (OpenSpec.upto inertiaAgreedSpec)

/-- 'versinelaw04.InertiaTwists', WHERE WHAT IT READS IS OF BULK AT MOST 1048576: true; the input reads as it did. -/
def inertiaTwistsUptoRow : OpenClaim := { program := "ytmafhkcdhpkliaagreatdoor", sum := "0ab62d6a70524d1cde9c51f016471922dcf3e8fd4a8da28628e7224a6f109916", func := "versine/versinelaw04.InertiaTwists", spec := "inertiaTwists", inPlace := ["math.Float64bits", "math.Float64frombits", "math.archTrunc", "internal/abi.NoEscape", "internal/bytealg.MakeNoZero"], unfollowed := true, recurses := true, named := ["versine/inertia.weights", "versine/inertia.flat", "versine/sample.turns", "internal/strconv.uint64pow10", "math/bits.deBruijn32tab", "math/bits.deBruijn64tab"], apart := false, laid := [("math/bits.deBruijn32tab", laid_math_bits_deBruijn32tab), ("math/bits.deBruijn64tab", laid_math_bits_deBruijn64tab), ("internal/strconv.uint64pow10", laid_internal_strconv_uint64pow10), ("versine/sample.turns", laid_versine_sample_turns), ("versine/inertia.weights", laid_versine_inertia_weights), ("versine/inertia.flat", laid_versine_inertia_flat)], narrowed := true }
def InertiaTwistsUptoSaid : Prop := inertiaTwistsUptoRow.holds Tryz.pinned (OpenSpec.upto inertiaTwistsSpec)

/-- 'versinelaw04.InertiaWaves', WHERE WHAT IT READS IS OF BULK AT MOST 1048576: true; the input reads as it did. -/
def inertiaWavesUptoRow : OpenClaim := { program := "ytmafhkcdhpkliaagreatdoor", sum := "0ab62d6a70524d1cde9c51f016471922dcf3e8fd4a8da28628e7224a6f109916", func := "versine/versinelaw04.InertiaWaves", spec := "inertiaWaves", inPlace := ["math.Float64bits", "math.Float64frombits", "math.archTrunc", "internal/abi.NoEscape", "internal/bytealg.MakeNoZero"], unfollowed := true, recurses := true, named := ["versine/inertia.weights", "versine/sample.turns", "versine/inertia.flat", "internal/strconv.uint64pow10", "math/bits.deBruijn32tab", "math/bits.deBruijn64tab"], apart := false, laid := [("math/bits.deBruijn32tab", laid_math_bits_deBruijn32tab), ("math/bits.deBruijn64tab", laid_math_bits_deBruijn64tab), ("internal/strconv.uint64pow10", laid_internal_strconv_uint64pow10), ("versine/sample.turns", laid_versine_sample_turns), ("versine/inertia.weights", laid_versine_inertia_weights), ("versine/inertia.flat", laid_versine_inertia_flat)], narrowed := true }
def InertiaWavesUptoSaid : Prop := inertiaWavesUptoRow.holds Tryz.pinned (OpenSpec.upto inertiaWavesSpec)

/-- 'versinelaw04.InertiaPrinted', WHERE WHAT IT READS IS OF BULK AT MOST 1048576: true; the input reads as it did. -/
def inertiaPrintedUptoRow : OpenClaim := { program := "ytmafhkcdhpkliaagreatdoor", sum := "0ab62d6a70524d1cde9c51f016471922dcf3e8fd4a8da28628e7224a6f109916", func := "versine/versinelaw04.InertiaPrinted", spec := "inertiaPrinted", inPlace := ["math.Float64bits", "math.Float64frombits", "math.archTrunc", "internal/abi.NoEscape", "internal/bytealg.MakeNoZero", "internal/bytealg.IndexByteString", "internal/bytealg.IndexString"], unfollowed := true, recurses := true, named := ["versine/inertia.weights", "versine/inertia.flat", "versine/sample.turns", "internal/strconv.uint64pow10", "math/bits.deBruijn32tab", "math/bits.deBruijn64tab", "strconv.ErrSyntax", "strconv.ErrRange", "internal/bytealg.MaxLen"], apart := false, laid := [("math/bits.deBruijn32tab", laid_math_bits_deBruijn32tab), ("math/bits.deBruijn64tab", laid_math_bits_deBruijn64tab), ("internal/strconv.uint64pow10", laid_internal_strconv_uint64pow10), ("strconv.ErrRange", laid_strconv_ErrRange), ("strconv.ErrSyntax", laid_strconv_ErrSyntax), ("versine/sample.turns", laid_versine_sample_turns), ("versine/inertia.weights", laid_versine_inertia_weights), ("versine/inertia.flat", laid_versine_inertia_flat)], narrowed := true }
def InertiaPrintedUptoSaid : Prop := inertiaPrintedUptoRow.holds Tryz.pinned (OpenSpec.upto inertiaPrintedSpec)

/-- 'versinetop.TopJackSpeed', WHERE WHAT IT READS IS OF BULK AT MOST 1048576: true; the input reads as it did. -/
def topJackSpeedUptoRow : OpenClaim := { program := "ytmafhkcdhpkliaagreatdoor", sum := "0ab62d6a70524d1cde9c51f016471922dcf3e8fd4a8da28628e7224a6f109916", func := "versine/versinetop.TopJackSpeed", spec := "topJackSpeed", inPlace := ["math.Float64bits", "math.Float64frombits", "math.archTrunc"], unfollowed := true, recurses := true, named := ["versine/inertia.weights"], apart := false, laid := [("versine/inertia.weights", laid_versine_inertia_weights)], narrowed := true }
def TopJackSpeedUptoSaid : Prop := topJackSpeedUptoRow.holds Tryz.pinned (OpenSpec.upto topJackSpeedSpec)

end Rows
end Go.Proofs.YtmafhkcdhpkliaaGreatDoor
