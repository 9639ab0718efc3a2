/-
  NARROWER THAN 'FOR EVERY INPUT', by the rows' own cells (each row's printed sentence says how): SampleBasics: laid · SampleRuns: laid · SampleChanged: laid · SampleTwo: laid · SampleVotes: laid · SampleTurned: laid · SampleParts: laid · SampleAgreed: laid.
  DERIVED. THE GIVEN ROWS OF THIS SEAT. 8 by the template 'for every input the law returns true; each argument reads behind the call as it read before'; 0 by the template 'total and deterministic' (their statements: YtpmijenaggkpdaaGreatDoorTotals.lean).
  GIVEN WITH THE SEED: the statements are not yours to turn. If you find one false, say at which input.
  Laid BY PROGRAM, IN A SANDBOX (cutbox-rows.mjs): the forced cells as the released guide's own fill.sh prints them over the translation 499fb71a0d5c24d8… (all of the seat's roots in one cut). By AI agents, Wed Nov 11 2026. No macro, syntax, notation, axiom, sorry.
-/
import Derived.Test.YtpmijenaggkpdaaGreatDoorChecked
import GoSem.Claim
import GoSem.ClaimJoined
import GoSem.ClaimMapViews
import Derived.JoinedTies
import Derived.KernelRfl
namespace Go.Proofs.YtpmijenaggkpdaaGreatDoor
/- THE CELL 'sum', in the pinned program and in every row, IS THE sha256 OF THE DUMP (.gsa) THAT YtpmijenaggkpdaaGreatDoorProg.lean LOADS. Nothing in Lean hashes anything: it is a label: what it is worth is what the hold of that sum in a sandbox is worth. -/
noncomputable def Tryz.pinned : Pinned := { name := "ytpmijenaggkpdaagreatdoor", sum := "499fb71a0d5c24d81109cd6150d85a9983460f3e8d28d0b2ce08912b2473a865", checked := Tryz.checked }
namespace Rows
def none {H : Type} : Left H := { results := [], args := [] }

/- WHAT THE LISTED PACKAGE-LEVEL VARIABLES READ AS WHEN THE CALL BEGINS. Each datum BY PROGRAM (the guide's laid-datum.mjs) off the statement by which the dump's own 'gosem.cut.vars' lays the variable. In a bare row this is a premise. The card (YtpmijenaggkpdaaGreatDoorCards.lean) ties it to the program's text. -/
def laid_math_bits_deBruijn32tab {H : Type} : DataW H := .agg [.lit (.int .u8 0), .lit (.int .u8 1), .lit (.int .u8 28), .lit (.int .u8 2), .lit (.int .u8 29), .lit (.int .u8 14), .lit (.int .u8 24), .lit (.int .u8 3), .lit (.int .u8 30), .lit (.int .u8 22), .lit (.int .u8 20), .lit (.int .u8 15), .lit (.int .u8 25), .lit (.int .u8 17), .lit (.int .u8 4), .lit (.int .u8 8), .lit (.int .u8 31), .lit (.int .u8 27), .lit (.int .u8 13), .lit (.int .u8 23), .lit (.int .u8 21), .lit (.int .u8 19), .lit (.int .u8 16), .lit (.int .u8 7), .lit (.int .u8 26), .lit (.int .u8 12), .lit (.int .u8 18), .lit (.int .u8 6), .lit (.int .u8 11), .lit (.int .u8 5), .lit (.int .u8 10), .lit (.int .u8 9)]
def laid_math_bits_deBruijn64tab {H : Type} : DataW H := .agg [.lit (.int .u8 0), .lit (.int .u8 1), .lit (.int .u8 56), .lit (.int .u8 2), .lit (.int .u8 57), .lit (.int .u8 49), .lit (.int .u8 28), .lit (.int .u8 3), .lit (.int .u8 61), .lit (.int .u8 58), .lit (.int .u8 42), .lit (.int .u8 50), .lit (.int .u8 38), .lit (.int .u8 29), .lit (.int .u8 17), .lit (.int .u8 4), .lit (.int .u8 62), .lit (.int .u8 47), .lit (.int .u8 59), .lit (.int .u8 36), .lit (.int .u8 45), .lit (.int .u8 43), .lit (.int .u8 51), .lit (.int .u8 22), .lit (.int .u8 53), .lit (.int .u8 39), .lit (.int .u8 33), .lit (.int .u8 30), .lit (.int .u8 24), .lit (.int .u8 18), .lit (.int .u8 12), .lit (.int .u8 5), .lit (.int .u8 63), .lit (.int .u8 55), .lit (.int .u8 48), .lit (.int .u8 27), .lit (.int .u8 60), .lit (.int .u8 41), .lit (.int .u8 37), .lit (.int .u8 16), .lit (.int .u8 46), .lit (.int .u8 35), .lit (.int .u8 44), .lit (.int .u8 21), .lit (.int .u8 52), .lit (.int .u8 32), .lit (.int .u8 23), .lit (.int .u8 11), .lit (.int .u8 54), .lit (.int .u8 26), .lit (.int .u8 40), .lit (.int .u8 15), .lit (.int .u8 34), .lit (.int .u8 20), .lit (.int .u8 31), .lit (.int .u8 10), .lit (.int .u8 25), .lit (.int .u8 14), .lit (.int .u8 19), .lit (.int .u8 9), .lit (.int .u8 13), .lit (.int .u8 8), .lit (.int .u8 7), .lit (.int .u8 6)]
def laid_internal_strconv_uint64pow10 {H : Type} : DataW H := .agg [.lit (.int .u64 1), .lit (.int .u64 10), .lit (.int .u64 100), .lit (.int .u64 1000), .lit (.int .u64 10000), .lit (.int .u64 100000), .lit (.int .u64 1000000), .lit (.int .u64 10000000), .lit (.int .u64 100000000), .lit (.int .u64 1000000000), .lit (.int .u64 10000000000), .lit (.int .u64 100000000000), .lit (.int .u64 1000000000000), .lit (.int .u64 10000000000000), .lit (.int .u64 100000000000000), .lit (.int .u64 1000000000000000), .lit (.int .u64 10000000000000000), .lit (.int .u64 100000000000000000), .lit (.int .u64 1000000000000000000), .lit (.int .u64 10000000000000000000)]
def laid_versine_sample_turns {H : Type} : DataW H := .agg [.agg [.lit (.int .i64 1), .lit (.int .i64 0)], .agg [.lit (.int .i64 0), .lit (.int .i64 (-1))], .agg [.lit (.int .i64 (-1)), .lit (.int .i64 0)], .agg [.lit (.int .i64 0), .lit (.int .i64 1)]]

/-- 'versinelaw01.SampleBasics': WHATEVER THE INPUT: true; the input reads as it did. -/
def sampleBasicsSpec : ChangeSpec := { name := "sampleBasics", fn := fun _ => fun
  | [d1, d2, d3] => { results := [.lit (.bool true)], args := [d1, d2, d3] }
  | _ => none }
def sampleBasicsRow : OpenClaim := { program := "ytpmijenaggkpdaagreatdoor", sum := "499fb71a0d5c24d81109cd6150d85a9983460f3e8d28d0b2ce08912b2473a865", func := "versine/versinelaw01.SampleBasics", spec := "sampleBasics", inPlace := ["math.Float64bits", "math.Float64frombits", "math.archTrunc", "math.Float32bits", "math.Float32frombits", "internal/abi.NoEscape", "internal/bytealg.MakeNoZero"], unfollowed := true, recurses := true, named := ["versine/sample.turns", "internal/strconv.uint64pow10", "math/bits.deBruijn32tab", "math/bits.deBruijn64tab"], apart := false, laid := [("math/bits.deBruijn32tab", laid_math_bits_deBruijn32tab), ("math/bits.deBruijn64tab", laid_math_bits_deBruijn64tab), ("internal/strconv.uint64pow10", laid_internal_strconv_uint64pow10), ("versine/sample.turns", laid_versine_sample_turns)] }
def SampleBasicsSaid : Prop := sampleBasicsRow.holds Tryz.pinned (OpenSpec.ofChange sampleBasicsSpec)

/-- ITS FALSE NEIGHBOUR: 'it returns false'. Refute it at one input. -/
def sampleBasicsWrong : ChangeSpec := { name := "sampleBasics", fn := fun _ => fun
  | [d1, d2, d3] => { results := [.lit (.bool false)], args := [d1, d2, d3] }
  | _ => none }
def SampleBasicsWrongFalsely : Prop := sampleBasicsRow.holds Tryz.pinned (OpenSpec.ofChange sampleBasicsWrong)

/-- 'versinelaw01.SampleRuns': WHATEVER THE INPUT: true; the input reads as it did. -/
def sampleRunsSpec : ChangeSpec := { name := "sampleRuns", fn := fun _ => fun
  | [d1, d2, d3] => { results := [.lit (.bool true)], args := [d1, d2, d3] }
  | _ => none }
def sampleRunsRow : OpenClaim := { program := "ytpmijenaggkpdaagreatdoor", sum := "499fb71a0d5c24d81109cd6150d85a9983460f3e8d28d0b2ce08912b2473a865", func := "versine/versinelaw01.SampleRuns", spec := "sampleRuns", inPlace := ["math.Float64bits", "math.Float64frombits", "math.archTrunc", "math.Float32bits", "math.Float32frombits", "internal/abi.NoEscape", "internal/bytealg.MakeNoZero"], unfollowed := true, recurses := true, named := ["versine/sample.turns", "internal/strconv.uint64pow10", "math/bits.deBruijn32tab", "math/bits.deBruijn64tab"], apart := false, laid := [("math/bits.deBruijn32tab", laid_math_bits_deBruijn32tab), ("math/bits.deBruijn64tab", laid_math_bits_deBruijn64tab), ("internal/strconv.uint64pow10", laid_internal_strconv_uint64pow10), ("versine/sample.turns", laid_versine_sample_turns)] }
def SampleRunsSaid : Prop := sampleRunsRow.holds Tryz.pinned (OpenSpec.ofChange sampleRunsSpec)

/-- ITS FALSE NEIGHBOUR: 'it returns false'. Refute it at one input. -/
def sampleRunsWrong : ChangeSpec := { name := "sampleRuns", fn := fun _ => fun
  | [d1, d2, d3] => { results := [.lit (.bool false)], args := [d1, d2, d3] }
  | _ => none }
def SampleRunsWrongFalsely : Prop := sampleRunsRow.holds Tryz.pinned (OpenSpec.ofChange sampleRunsWrong)

/-- 'versinelaw01.SampleChanged': WHATEVER THE INPUT: true; the input reads as it did. -/
def sampleChangedSpec : ChangeSpec := { name := "sampleChanged", fn := fun _ => fun
  | [d1, d2, d3] => { results := [.lit (.bool true)], args := [d1, d2, d3] }
  | _ => none }
def sampleChangedRow : OpenClaim := { program := "ytpmijenaggkpdaagreatdoor", sum := "499fb71a0d5c24d81109cd6150d85a9983460f3e8d28d0b2ce08912b2473a865", func := "versine/versinelaw01.SampleChanged", spec := "sampleChanged", inPlace := ["math.Float64bits", "math.Float64frombits", "math.archTrunc", "math.Float32bits", "math.Float32frombits", "internal/abi.NoEscape", "internal/bytealg.MakeNoZero"], unfollowed := true, recurses := true, named := ["versine/sample.turns", "internal/strconv.uint64pow10", "math/bits.deBruijn32tab", "math/bits.deBruijn64tab"], apart := false, laid := [("math/bits.deBruijn32tab", laid_math_bits_deBruijn32tab), ("math/bits.deBruijn64tab", laid_math_bits_deBruijn64tab), ("internal/strconv.uint64pow10", laid_internal_strconv_uint64pow10), ("versine/sample.turns", laid_versine_sample_turns)] }
def SampleChangedSaid : Prop := sampleChangedRow.holds Tryz.pinned (OpenSpec.ofChange sampleChangedSpec)

/-- ITS FALSE NEIGHBOUR: 'it returns false'. Refute it at one input. -/
def sampleChangedWrong : ChangeSpec := { name := "sampleChanged", fn := fun _ => fun
  | [d1, d2, d3] => { results := [.lit (.bool false)], args := [d1, d2, d3] }
  | _ => none }
def SampleChangedWrongFalsely : Prop := sampleChangedRow.holds Tryz.pinned (OpenSpec.ofChange sampleChangedWrong)

/-- 'versinelaw01.SampleTwo': WHATEVER THE INPUT: true; the input reads as it did. -/
def sampleTwoSpec : ChangeSpec := { name := "sampleTwo", fn := fun _ => fun
  | [d1, d2] => { results := [.lit (.bool true)], args := [d1, d2] }
  | _ => none }
def sampleTwoRow : OpenClaim := { program := "ytpmijenaggkpdaagreatdoor", sum := "499fb71a0d5c24d81109cd6150d85a9983460f3e8d28d0b2ce08912b2473a865", func := "versine/versinelaw01.SampleTwo", spec := "sampleTwo", inPlace := ["math.Float64bits", "math.Float64frombits", "math.archTrunc", "math.Float32bits", "math.Float32frombits", "internal/abi.NoEscape", "internal/bytealg.MakeNoZero"], unfollowed := true, recurses := true, named := ["versine/sample.turns", "internal/strconv.uint64pow10", "math/bits.deBruijn32tab", "math/bits.deBruijn64tab"], apart := false, laid := [("math/bits.deBruijn32tab", laid_math_bits_deBruijn32tab), ("math/bits.deBruijn64tab", laid_math_bits_deBruijn64tab), ("internal/strconv.uint64pow10", laid_internal_strconv_uint64pow10), ("versine/sample.turns", laid_versine_sample_turns)] }
def SampleTwoSaid : Prop := sampleTwoRow.holds Tryz.pinned (OpenSpec.ofChange sampleTwoSpec)

/-- ITS FALSE NEIGHBOUR: 'it returns false'. Refute it at one input. -/
def sampleTwoWrong : ChangeSpec := { name := "sampleTwo", fn := fun _ => fun
  | [d1, d2] => { results := [.lit (.bool false)], args := [d1, d2] }
  | _ => none }
def SampleTwoWrongFalsely : Prop := sampleTwoRow.holds Tryz.pinned (OpenSpec.ofChange sampleTwoWrong)

/-- 'versinelaw01.SampleVotes': WHATEVER THE INPUT: true; the input reads as it did. -/
def sampleVotesSpec : ChangeSpec := { name := "sampleVotes", fn := fun _ => fun
  | [d1, d2] => { results := [.lit (.bool true)], args := [d1, d2] }
  | _ => none }
def sampleVotesRow : OpenClaim := { program := "ytpmijenaggkpdaagreatdoor", sum := "499fb71a0d5c24d81109cd6150d85a9983460f3e8d28d0b2ce08912b2473a865", func := "versine/versinelaw01.SampleVotes", spec := "sampleVotes", inPlace := ["math.Float64bits", "math.Float64frombits", "math.archTrunc", "math.Float32bits", "math.Float32frombits", "internal/abi.NoEscape", "internal/bytealg.MakeNoZero"], unfollowed := true, recurses := true, named := ["versine/sample.turns", "internal/strconv.uint64pow10", "math/bits.deBruijn32tab", "math/bits.deBruijn64tab"], apart := false, laid := [("math/bits.deBruijn32tab", laid_math_bits_deBruijn32tab), ("math/bits.deBruijn64tab", laid_math_bits_deBruijn64tab), ("internal/strconv.uint64pow10", laid_internal_strconv_uint64pow10), ("versine/sample.turns", laid_versine_sample_turns)] }
def SampleVotesSaid : Prop := sampleVotesRow.holds Tryz.pinned (OpenSpec.ofChange sampleVotesSpec)

/-- ITS FALSE NEIGHBOUR: 'it returns false'. Refute it at one input. -/
def sampleVotesWrong : ChangeSpec := { name := "sampleVotes", fn := fun _ => fun
  | [d1, d2] => { results := [.lit (.bool false)], args := [d1, d2] }
  | _ => none }
def SampleVotesWrongFalsely : Prop := sampleVotesRow.holds Tryz.pinned (OpenSpec.ofChange sampleVotesWrong)

/-- 'versinelaw01.SampleTurned': WHATEVER THE INPUT: true; the input reads as it did. -/
def sampleTurnedSpec : ChangeSpec := { name := "sampleTurned", fn := fun _ => fun
  | [d1, d2] => { results := [.lit (.bool true)], args := [d1, d2] }
  | _ => none }
def sampleTurnedRow : OpenClaim := { program := "ytpmijenaggkpdaagreatdoor", sum := "499fb71a0d5c24d81109cd6150d85a9983460f3e8d28d0b2ce08912b2473a865", func := "versine/versinelaw01.SampleTurned", spec := "sampleTurned", inPlace := ["math.Float64bits", "math.Float64frombits", "math.archTrunc", "math.Float32bits", "math.Float32frombits", "internal/abi.NoEscape", "internal/bytealg.MakeNoZero"], unfollowed := true, recurses := true, named := ["versine/sample.turns", "internal/strconv.uint64pow10", "math/bits.deBruijn32tab", "math/bits.deBruijn64tab"], apart := false, laid := [("math/bits.deBruijn32tab", laid_math_bits_deBruijn32tab), ("math/bits.deBruijn64tab", laid_math_bits_deBruijn64tab), ("internal/strconv.uint64pow10", laid_internal_strconv_uint64pow10), ("versine/sample.turns", laid_versine_sample_turns)] }
def SampleTurnedSaid : Prop := sampleTurnedRow.holds Tryz.pinned (OpenSpec.ofChange sampleTurnedSpec)

/-- ITS FALSE NEIGHBOUR: 'it returns false'. Refute it at one input. -/
def sampleTurnedWrong : ChangeSpec := { name := "sampleTurned", fn := fun _ => fun
  | [d1, d2] => { results := [.lit (.bool false)], args := [d1, d2] }
  | _ => none }
def SampleTurnedWrongFalsely : Prop := sampleTurnedRow.holds Tryz.pinned (OpenSpec.ofChange sampleTurnedWrong)

/-- 'versinelaw01.SampleParts': WHATEVER THE INPUT: true; the input reads as it did. -/
def samplePartsSpec : ChangeSpec := { name := "sampleParts", fn := fun _ => fun
  | [d1, d2] => { results := [.lit (.bool true)], args := [d1, d2] }
  | _ => none }
def samplePartsRow : OpenClaim := { program := "ytpmijenaggkpdaagreatdoor", sum := "499fb71a0d5c24d81109cd6150d85a9983460f3e8d28d0b2ce08912b2473a865", func := "versine/versinelaw01.SampleParts", spec := "sampleParts", inPlace := ["math.Float64bits", "math.Float64frombits", "math.archTrunc", "math.Float32bits", "math.Float32frombits", "internal/abi.NoEscape", "internal/bytealg.MakeNoZero"], unfollowed := true, recurses := true, named := ["versine/sample.turns", "internal/strconv.uint64pow10", "math/bits.deBruijn32tab", "math/bits.deBruijn64tab"], apart := false, laid := [("math/bits.deBruijn32tab", laid_math_bits_deBruijn32tab), ("math/bits.deBruijn64tab", laid_math_bits_deBruijn64tab), ("internal/strconv.uint64pow10", laid_internal_strconv_uint64pow10), ("versine/sample.turns", laid_versine_sample_turns)] }
def SamplePartsSaid : Prop := samplePartsRow.holds Tryz.pinned (OpenSpec.ofChange samplePartsSpec)

/-- ITS FALSE NEIGHBOUR: 'it returns false'. Refute it at one input. -/
def samplePartsWrong : ChangeSpec := { name := "sampleParts", fn := fun _ => fun
  | [d1, d2] => { results := [.lit (.bool false)], args := [d1, d2] }
  | _ => none }
def SamplePartsWrongFalsely : Prop := samplePartsRow.holds Tryz.pinned (OpenSpec.ofChange samplePartsWrong)

/-- 'versinelaw01.SampleAgreed': WHATEVER THE INPUT: true; the input reads as it did. -/
def sampleAgreedSpec : ChangeSpec := { name := "sampleAgreed", fn := fun _ => fun
  | [d1, d2] => { results := [.lit (.bool true)], args := [d1, d2] }
  | _ => none }
def sampleAgreedRow : OpenClaim := { program := "ytpmijenaggkpdaagreatdoor", sum := "499fb71a0d5c24d81109cd6150d85a9983460f3e8d28d0b2ce08912b2473a865", func := "versine/versinelaw01.SampleAgreed", spec := "sampleAgreed", inPlace := ["math.Float64bits", "math.Float64frombits", "math.archTrunc", "math.Float32bits", "math.Float32frombits", "internal/abi.NoEscape", "internal/bytealg.MakeNoZero"], unfollowed := true, recurses := true, named := ["versine/sample.turns", "internal/strconv.uint64pow10", "math/bits.deBruijn32tab", "math/bits.deBruijn64tab"], apart := false, laid := [("math/bits.deBruijn32tab", laid_math_bits_deBruijn32tab), ("math/bits.deBruijn64tab", laid_math_bits_deBruijn64tab), ("internal/strconv.uint64pow10", laid_internal_strconv_uint64pow10), ("versine/sample.turns", laid_versine_sample_turns)] }
def SampleAgreedSaid : Prop := sampleAgreedRow.holds Tryz.pinned (OpenSpec.ofChange sampleAgreedSpec)

/-- ITS FALSE NEIGHBOUR: 'it returns false'. Refute it at one input. -/
def sampleAgreedWrong : ChangeSpec := { name := "sampleAgreed", fn := fun _ => fun
  | [d1, d2] => { results := [.lit (.bool false)], args := [d1, d2] }
  | _ => none }
def SampleAgreedWrongFalsely : Prop := sampleAgreedRow.holds Tryz.pinned (OpenSpec.ofChange sampleAgreedWrong)

/- THE SECOND FORM. 'bulk': how many values and letters a reading holds, each counted each time it is reached (what is shared counts as often as it is met; a slice's spare places count too). A statement '..UptoSaid' is the law's where the arguments, and the package variables that the reading takes, are together of bulk at most 1048576: NARROWER than '..Said'. Prove '..Said' where nothing that the law and all that it calls make is longer than what came in: it says more and counts as full. Else prove '..UptoSaid'. A law counts once. -/
mutual
def uptoBulk {H : Type} : DataW H → Nat
  | .lit (.string bytes) => bytes.length + 1
  | .lit _ => 1
  | .nil => 1
  | .ptr d => uptoBulk d + 1
  | .slice elems spare => uptoBulkAll elems + uptoBulkAll spare + 1
  | .agg parts => uptoBulkAll parts + 1
  | .iface _ d => uptoBulk d + 1
  | .map entries => uptoBulkEntries entries + 1
  | .held _ => 1
def uptoBulkAll {H : Type} : List (DataW H) → Nat
  | [] => 0
  | d :: r => uptoBulk d + uptoBulkAll r
def uptoBulkEntries {H : Type} : List (Lit × DataW H) → Nat
  | [] => 0
  | x :: r => uptoBulkEntry x + uptoBulkEntries r
def uptoBulkEntry {H : Type} : Lit × DataW H → Nat
  | (.string bytes, d) => bytes.length + uptoBulk d + 1
  | (_, d) => uptoBulk d + 1
 end
def uptoSmall : (H : Type) → List (DataW H) → Bool := fun _ ds => decide (uptoBulkAll ds ≤ 1048576)
def OpenSpec.upto (s : _root_.Go.ChangeSpec) : _root_.Go.OpenSpec := { _root_.Go.OpenSpec.ofChange s with cond := some uptoSmall }

/-- 'versinelaw01.SampleBasics', WHERE WHAT IT READS IS OF BULK AT MOST 1048576: true; the input reads as it did. -/
def sampleBasicsUptoRow : OpenClaim := { program := "ytpmijenaggkpdaagreatdoor", sum := "499fb71a0d5c24d81109cd6150d85a9983460f3e8d28d0b2ce08912b2473a865", func := "versine/versinelaw01.SampleBasics", spec := "sampleBasics", inPlace := ["math.Float64bits", "math.Float64frombits", "math.archTrunc", "math.Float32bits", "math.Float32frombits", "internal/abi.NoEscape", "internal/bytealg.MakeNoZero"], unfollowed := true, recurses := true, named := ["versine/sample.turns", "internal/strconv.uint64pow10", "math/bits.deBruijn32tab", "math/bits.deBruijn64tab"], apart := false, laid := [("math/bits.deBruijn32tab", laid_math_bits_deBruijn32tab), ("math/bits.deBruijn64tab", laid_math_bits_deBruijn64tab), ("internal/strconv.uint64pow10", laid_internal_strconv_uint64pow10), ("versine/sample.turns", laid_versine_sample_turns)], narrowed := true }
def SampleBasicsUptoSaid : Prop := sampleBasicsUptoRow.holds Tryz.pinned (OpenSpec.upto sampleBasicsSpec)

/-- 'versinelaw01.SampleRuns', WHERE WHAT IT READS IS OF BULK AT MOST 1048576: true; the input reads as it did. -/
def sampleRunsUptoRow : OpenClaim := { program := "ytpmijenaggkpdaagreatdoor", sum := "499fb71a0d5c24d81109cd6150d85a9983460f3e8d28d0b2ce08912b2473a865", func := "versine/versinelaw01.SampleRuns", spec := "sampleRuns", inPlace := ["math.Float64bits", "math.Float64frombits", "math.archTrunc", "math.Float32bits", "math.Float32frombits", "internal/abi.NoEscape", "internal/bytealg.MakeNoZero"], unfollowed := true, recurses := true, named := ["versine/sample.turns", "internal/strconv.uint64pow10", "math/bits.deBruijn32tab", "math/bits.deBruijn64tab"], apart := false, laid := [("math/bits.deBruijn32tab", laid_math_bits_deBruijn32tab), ("math/bits.deBruijn64tab", laid_math_bits_deBruijn64tab), ("internal/strconv.uint64pow10", laid_internal_strconv_uint64pow10), ("versine/sample.turns", laid_versine_sample_turns)], narrowed := true }
def SampleRunsUptoSaid : Prop := sampleRunsUptoRow.holds Tryz.pinned (OpenSpec.upto sampleRunsSpec)

/-- 'versinelaw01.SampleChanged', WHERE WHAT IT READS IS OF BULK AT MOST 1048576: true; the input reads as it did. -/
def sampleChangedUptoRow : OpenClaim := { program := "ytpmijenaggkpdaagreatdoor", sum := "499fb71a0d5c24d81109cd6150d85a9983460f3e8d28d0b2ce08912b2473a865", func := "versine/versinelaw01.SampleChanged", spec := "sampleChanged", inPlace := ["math.Float64bits", "math.Float64frombits", "math.archTrunc", "math.Float32bits", "math.Float32frombits", "internal/abi.NoEscape", "internal/bytealg.MakeNoZero"], unfollowed := true, recurses := true, named := ["versine/sample.turns", "internal/strconv.uint64pow10", "math/bits.deBruijn32tab", "math/bits.deBruijn64tab"], apart := false, laid := [("math/bits.deBruijn32tab", laid_math_bits_deBruijn32tab), ("math/bits.deBruijn64tab", laid_math_bits_deBruijn64tab), ("internal/strconv.uint64pow10", laid_internal_strconv_uint64pow10), ("versine/sample.turns", laid_versine_sample_turns)], narrowed := true }
def SampleChangedUptoSaid : Prop := sampleChangedUptoRow.holds Tryz.pinned (OpenSpec.upto sampleChangedSpec)

/-- 'versinelaw01.SampleTwo', WHERE WHAT IT READS IS OF BULK AT MOST 1048576: true; the input reads as it did. -/
def sampleTwoUptoRow : OpenClaim := { program := "ytpmijenaggkpdaagreatdoor", sum := "499fb71a0d5c24d81109cd6150d85a9983460f3e8d28d0b2ce08912b2473a865", func := "versine/versinelaw01.SampleTwo", spec := "sampleTwo", inPlace := ["math.Float64bits", "math.Float64frombits", "math.archTrunc", "math.Float32bits", "math.Float32frombits", "internal/abi.NoEscape", "internal/bytealg.MakeNoZero"], unfollowed := true, recurses := true, named := ["versine/sample.turns", "internal/strconv.uint64pow10", "math/bits.deBruijn32tab", "math/bits.deBruijn64tab"], apart := false, laid := [("math/bits.deBruijn32tab", laid_math_bits_deBruijn32tab), ("math/bits.deBruijn64tab", laid_math_bits_deBruijn64tab), ("internal/strconv.uint64pow10", laid_internal_strconv_uint64pow10), ("versine/sample.turns", laid_versine_sample_turns)], narrowed := true }
def SampleTwoUptoSaid : Prop := sampleTwoUptoRow.holds Tryz.pinned (OpenSpec.upto sampleTwoSpec)

/-- 'versinelaw01.SampleVotes', WHERE WHAT IT READS IS OF BULK AT MOST 1048576: true; the input reads as it did. -/
def sampleVotesUptoRow : OpenClaim := { program := "ytpmijenaggkpdaagreatdoor", sum := "499fb71a0d5c24d81109cd6150d85a9983460f3e8d28d0b2ce08912b2473a865", func := "versine/versinelaw01.SampleVotes", spec := "sampleVotes", inPlace := ["math.Float64bits", "math.Float64frombits", "math.archTrunc", "math.Float32bits", "math.Float32frombits", "internal/abi.NoEscape", "internal/bytealg.MakeNoZero"], unfollowed := true, recurses := true, named := ["versine/sample.turns", "internal/strconv.uint64pow10", "math/bits.deBruijn32tab", "math/bits.deBruijn64tab"], apart := false, laid := [("math/bits.deBruijn32tab", laid_math_bits_deBruijn32tab), ("math/bits.deBruijn64tab", laid_math_bits_deBruijn64tab), ("internal/strconv.uint64pow10", laid_internal_strconv_uint64pow10), ("versine/sample.turns", laid_versine_sample_turns)], narrowed := true }
def SampleVotesUptoSaid : Prop := sampleVotesUptoRow.holds Tryz.pinned (OpenSpec.upto sampleVotesSpec)

/-- 'versinelaw01.SampleTurned', WHERE WHAT IT READS IS OF BULK AT MOST 1048576: true; the input reads as it did. -/
def sampleTurnedUptoRow : OpenClaim := { program := "ytpmijenaggkpdaagreatdoor", sum := "499fb71a0d5c24d81109cd6150d85a9983460f3e8d28d0b2ce08912b2473a865", func := "versine/versinelaw01.SampleTurned", spec := "sampleTurned", inPlace := ["math.Float64bits", "math.Float64frombits", "math.archTrunc", "math.Float32bits", "math.Float32frombits", "internal/abi.NoEscape", "internal/bytealg.MakeNoZero"], unfollowed := true, recurses := true, named := ["versine/sample.turns", "internal/strconv.uint64pow10", "math/bits.deBruijn32tab", "math/bits.deBruijn64tab"], apart := false, laid := [("math/bits.deBruijn32tab", laid_math_bits_deBruijn32tab), ("math/bits.deBruijn64tab", laid_math_bits_deBruijn64tab), ("internal/strconv.uint64pow10", laid_internal_strconv_uint64pow10), ("versine/sample.turns", laid_versine_sample_turns)], narrowed := true }
def SampleTurnedUptoSaid : Prop := sampleTurnedUptoRow.holds Tryz.pinned (OpenSpec.upto sampleTurnedSpec)

/-- 'versinelaw01.SampleParts', WHERE WHAT IT READS IS OF BULK AT MOST 1048576: true; the input reads as it did. -/
def samplePartsUptoRow : OpenClaim := { program := "ytpmijenaggkpdaagreatdoor", sum := "499fb71a0d5c24d81109cd6150d85a9983460f3e8d28d0b2ce08912b2473a865", func := "versine/versinelaw01.SampleParts", spec := "sampleParts", inPlace := ["math.Float64bits", "math.Float64frombits", "math.archTrunc", "math.Float32bits", "math.Float32frombits", "internal/abi.NoEscape", "internal/bytealg.MakeNoZero"], unfollowed := true, recurses := true, named := ["versine/sample.turns", "internal/strconv.uint64pow10", "math/bits.deBruijn32tab", "math/bits.deBruijn64tab"], apart := false, laid := [("math/bits.deBruijn32tab", laid_math_bits_deBruijn32tab), ("math/bits.deBruijn64tab", laid_math_bits_deBruijn64tab), ("internal/strconv.uint64pow10", laid_internal_strconv_uint64pow10), ("versine/sample.turns", laid_versine_sample_turns)], narrowed := true }
def SamplePartsUptoSaid : Prop := samplePartsUptoRow.holds Tryz.pinned (OpenSpec.upto samplePartsSpec)

/-- 'versinelaw01.SampleAgreed', WHERE WHAT IT READS IS OF BULK AT MOST 1048576: true; the input reads as it did. -/
def sampleAgreedUptoRow : OpenClaim := { program := "ytpmijenaggkpdaagreatdoor", sum := "499fb71a0d5c24d81109cd6150d85a9983460f3e8d28d0b2ce08912b2473a865", func := "versine/versinelaw01.SampleAgreed", spec := "sampleAgreed", inPlace := ["math.Float64bits", "math.Float64frombits", "math.archTrunc", "math.Float32bits", "math.Float32frombits", "internal/abi.NoEscape", "internal/bytealg.MakeNoZero"], unfollowed := true, recurses := true, named := ["versine/sample.turns", "internal/strconv.uint64pow10", "math/bits.deBruijn32tab", "math/bits.deBruijn64tab"], apart := false, laid := [("math/bits.deBruijn32tab", laid_math_bits_deBruijn32tab), ("math/bits.deBruijn64tab", laid_math_bits_deBruijn64tab), ("internal/strconv.uint64pow10", laid_internal_strconv_uint64pow10), ("versine/sample.turns", laid_versine_sample_turns)], narrowed := true }
def SampleAgreedUptoSaid : Prop := sampleAgreedUptoRow.holds Tryz.pinned (OpenSpec.upto sampleAgreedSpec)

end Rows
end Go.Proofs.YtpmijenaggkpdaaGreatDoor
