/-
  NARROWER THAN 'FOR EVERY INPUT', by the rows' own cells (each row's printed sentence says how): SampleBasics: laid · SampleRuns: laid · SampleChanged: laid · SampleTwo: laid · SamplePackets: laid · SampleReceived: laid · SampleStreams: laid · SampleTexts: laid · SampleFound: laid · SampleBack: laid.
  DERIVED. THE GIVEN ROWS OF THIS SEAT. 10 by the template 'for every input the law returns true; each argument reads behind the call as it read before'; 0 by the template 'total and deterministic' (their statements: YtjibbhaeaikhpaaGreatDoorTotals.lean).
  GIVEN WITH THE SEED: the statements are not yours to turn. If you find one false, say at which input.
  Laid BY PROGRAM, IN A SANDBOX (cutbox-rows.mjs): the forced cells as the released guide's own fill.sh prints them over the translation 32e83b123c11ea70… (all of the seat's roots in one cut). By AI agents, Wed Nov 11 2026. No macro, syntax, notation, axiom, sorry.
-/
import Derived.Test.YtjibbhaeaikhpaaGreatDoorChecked
import GoSem.Claim
import GoSem.ClaimJoined
import GoSem.ClaimMapViews
import Derived.JoinedTies
import Derived.KernelRfl
namespace Go.Proofs.YtjibbhaeaikhpaaGreatDoor
/- THE CELL 'sum', in the pinned program and in every row, IS THE sha256 OF THE DUMP (.gsa) THAT YtjibbhaeaikhpaaGreatDoorProg.lean LOADS. Nothing in Lean hashes anything: it is a label: what it is worth is what the hold of that sum in a sandbox is worth. -/
noncomputable def Tryz.pinned : Pinned := { name := "ytjibbhaeaikhpaagreatdoor", sum := "32e83b123c11ea70506e26cf6504b0b31730c2dc3f54cbc6367a1a7b67780a75", checked := Tryz.checked }
namespace Rows
def none {H : Type} : Left H := { results := [], args := [] }

/- WHAT THE LISTED PACKAGE-LEVEL VARIABLES READ AS WHEN THE CALL BEGINS. Each datum BY PROGRAM (the guide's laid-datum.mjs) off the statement by which the dump's own 'gosem.cut.vars' lays the variable. In a bare row this is a premise. The card (YtjibbhaeaikhpaaGreatDoorCards.lean) ties it to the program's text. -/
def laid_math_bits_deBruijn32tab {H : Type} : DataW H := .agg [.lit (.int .u8 0), .lit (.int .u8 1), .lit (.int .u8 28), .lit (.int .u8 2), .lit (.int .u8 29), .lit (.int .u8 14), .lit (.int .u8 24), .lit (.int .u8 3), .lit (.int .u8 30), .lit (.int .u8 22), .lit (.int .u8 20), .lit (.int .u8 15), .lit (.int .u8 25), .lit (.int .u8 17), .lit (.int .u8 4), .lit (.int .u8 8), .lit (.int .u8 31), .lit (.int .u8 27), .lit (.int .u8 13), .lit (.int .u8 23), .lit (.int .u8 21), .lit (.int .u8 19), .lit (.int .u8 16), .lit (.int .u8 7), .lit (.int .u8 26), .lit (.int .u8 12), .lit (.int .u8 18), .lit (.int .u8 6), .lit (.int .u8 11), .lit (.int .u8 5), .lit (.int .u8 10), .lit (.int .u8 9)]
def laid_math_bits_deBruijn64tab {H : Type} : DataW H := .agg [.lit (.int .u8 0), .lit (.int .u8 1), .lit (.int .u8 56), .lit (.int .u8 2), .lit (.int .u8 57), .lit (.int .u8 49), .lit (.int .u8 28), .lit (.int .u8 3), .lit (.int .u8 61), .lit (.int .u8 58), .lit (.int .u8 42), .lit (.int .u8 50), .lit (.int .u8 38), .lit (.int .u8 29), .lit (.int .u8 17), .lit (.int .u8 4), .lit (.int .u8 62), .lit (.int .u8 47), .lit (.int .u8 59), .lit (.int .u8 36), .lit (.int .u8 45), .lit (.int .u8 43), .lit (.int .u8 51), .lit (.int .u8 22), .lit (.int .u8 53), .lit (.int .u8 39), .lit (.int .u8 33), .lit (.int .u8 30), .lit (.int .u8 24), .lit (.int .u8 18), .lit (.int .u8 12), .lit (.int .u8 5), .lit (.int .u8 63), .lit (.int .u8 55), .lit (.int .u8 48), .lit (.int .u8 27), .lit (.int .u8 60), .lit (.int .u8 41), .lit (.int .u8 37), .lit (.int .u8 16), .lit (.int .u8 46), .lit (.int .u8 35), .lit (.int .u8 44), .lit (.int .u8 21), .lit (.int .u8 52), .lit (.int .u8 32), .lit (.int .u8 23), .lit (.int .u8 11), .lit (.int .u8 54), .lit (.int .u8 26), .lit (.int .u8 40), .lit (.int .u8 15), .lit (.int .u8 34), .lit (.int .u8 20), .lit (.int .u8 31), .lit (.int .u8 10), .lit (.int .u8 25), .lit (.int .u8 14), .lit (.int .u8 19), .lit (.int .u8 9), .lit (.int .u8 13), .lit (.int .u8 8), .lit (.int .u8 7), .lit (.int .u8 6)]
def laid_internal_strconv_uint64pow10 {H : Type} : DataW H := .agg [.lit (.int .u64 1), .lit (.int .u64 10), .lit (.int .u64 100), .lit (.int .u64 1000), .lit (.int .u64 10000), .lit (.int .u64 100000), .lit (.int .u64 1000000), .lit (.int .u64 10000000), .lit (.int .u64 100000000), .lit (.int .u64 1000000000), .lit (.int .u64 10000000000), .lit (.int .u64 100000000000), .lit (.int .u64 1000000000000), .lit (.int .u64 10000000000000), .lit (.int .u64 100000000000000), .lit (.int .u64 1000000000000000), .lit (.int .u64 10000000000000000), .lit (.int .u64 100000000000000000), .lit (.int .u64 1000000000000000000), .lit (.int .u64 10000000000000000000)]
def laid_versine_sample_turns {H : Type} : DataW H := .agg [.agg [.lit (.int .i64 1), .lit (.int .i64 0)], .agg [.lit (.int .i64 0), .lit (.int .i64 (-1))], .agg [.lit (.int .i64 (-1)), .lit (.int .i64 0)], .agg [.lit (.int .i64 0), .lit (.int .i64 1)]]
def laid_strconv_ErrRange {H : Type} : DataW H := .iface "*errors.errorString" (.ptr (.agg [.lit (.string [118, 97, 108, 117, 101, 32, 111, 117, 116, 32, 111, 102, 32, 114, 97, 110, 103, 101])]))
def laid_strconv_ErrSyntax {H : Type} : DataW H := .iface "*errors.errorString" (.ptr (.agg [.lit (.string [105, 110, 118, 97, 108, 105, 100, 32, 115, 121, 110, 116, 97, 120])]))

/-- 'versinelaw01.SampleBasics': WHATEVER THE INPUT: true; the input reads as it did. -/
def sampleBasicsSpec : ChangeSpec := { name := "sampleBasics", fn := fun _ => fun
  | [d1, d2, d3] => { results := [.lit (.bool true)], args := [d1, d2, d3] }
  | _ => none }
def sampleBasicsRow : OpenClaim := { program := "ytjibbhaeaikhpaagreatdoor", sum := "32e83b123c11ea70506e26cf6504b0b31730c2dc3f54cbc6367a1a7b67780a75", func := "versine/versinelaw01.SampleBasics", spec := "sampleBasics", inPlace := ["math.Float64bits", "math.Float64frombits", "math.archTrunc", "math.Float32bits", "math.Float32frombits", "internal/abi.NoEscape", "internal/bytealg.MakeNoZero"], unfollowed := true, recurses := true, named := ["versine/sample.turns", "internal/strconv.uint64pow10", "math/bits.deBruijn32tab", "math/bits.deBruijn64tab"], apart := false, laid := [("math/bits.deBruijn32tab", laid_math_bits_deBruijn32tab), ("math/bits.deBruijn64tab", laid_math_bits_deBruijn64tab), ("internal/strconv.uint64pow10", laid_internal_strconv_uint64pow10), ("versine/sample.turns", laid_versine_sample_turns)] }
def SampleBasicsSaid : Prop := sampleBasicsRow.holds Tryz.pinned (OpenSpec.ofChange sampleBasicsSpec)

/-- ITS FALSE NEIGHBOUR: 'it returns false'. Refute it at one input. -/
def sampleBasicsWrong : ChangeSpec := { name := "sampleBasics", fn := fun _ => fun
  | [d1, d2, d3] => { results := [.lit (.bool false)], args := [d1, d2, d3] }
  | _ => none }
def SampleBasicsWrongFalsely : Prop := sampleBasicsRow.holds Tryz.pinned (OpenSpec.ofChange sampleBasicsWrong)

/-- 'versinelaw01.SampleRuns': WHATEVER THE INPUT: true; the input reads as it did. -/
def sampleRunsSpec : ChangeSpec := { name := "sampleRuns", fn := fun _ => fun
  | [d1, d2, d3] => { results := [.lit (.bool true)], args := [d1, d2, d3] }
  | _ => none }
def sampleRunsRow : OpenClaim := { program := "ytjibbhaeaikhpaagreatdoor", sum := "32e83b123c11ea70506e26cf6504b0b31730c2dc3f54cbc6367a1a7b67780a75", func := "versine/versinelaw01.SampleRuns", spec := "sampleRuns", inPlace := ["math.Float64bits", "math.Float64frombits", "math.archTrunc", "math.Float32bits", "math.Float32frombits", "internal/abi.NoEscape", "internal/bytealg.MakeNoZero"], unfollowed := true, recurses := true, named := ["versine/sample.turns", "internal/strconv.uint64pow10", "math/bits.deBruijn32tab", "math/bits.deBruijn64tab"], apart := false, laid := [("math/bits.deBruijn32tab", laid_math_bits_deBruijn32tab), ("math/bits.deBruijn64tab", laid_math_bits_deBruijn64tab), ("internal/strconv.uint64pow10", laid_internal_strconv_uint64pow10), ("versine/sample.turns", laid_versine_sample_turns)] }
def SampleRunsSaid : Prop := sampleRunsRow.holds Tryz.pinned (OpenSpec.ofChange sampleRunsSpec)

/-- ITS FALSE NEIGHBOUR: 'it returns false'. Refute it at one input. -/
def sampleRunsWrong : ChangeSpec := { name := "sampleRuns", fn := fun _ => fun
  | [d1, d2, d3] => { results := [.lit (.bool false)], args := [d1, d2, d3] }
  | _ => none }
def SampleRunsWrongFalsely : Prop := sampleRunsRow.holds Tryz.pinned (OpenSpec.ofChange sampleRunsWrong)

/-- 'versinelaw01.SampleChanged': WHATEVER THE INPUT: true; the input reads as it did. -/
def sampleChangedSpec : ChangeSpec := { name := "sampleChanged", fn := fun _ => fun
  | [d1, d2, d3] => { results := [.lit (.bool true)], args := [d1, d2, d3] }
  | _ => none }
def sampleChangedRow : OpenClaim := { program := "ytjibbhaeaikhpaagreatdoor", sum := "32e83b123c11ea70506e26cf6504b0b31730c2dc3f54cbc6367a1a7b67780a75", func := "versine/versinelaw01.SampleChanged", spec := "sampleChanged", inPlace := ["math.Float64bits", "math.Float64frombits", "math.archTrunc", "math.Float32bits", "math.Float32frombits", "internal/abi.NoEscape", "internal/bytealg.MakeNoZero"], unfollowed := true, recurses := true, named := ["versine/sample.turns", "internal/strconv.uint64pow10", "math/bits.deBruijn32tab", "math/bits.deBruijn64tab"], apart := false, laid := [("math/bits.deBruijn32tab", laid_math_bits_deBruijn32tab), ("math/bits.deBruijn64tab", laid_math_bits_deBruijn64tab), ("internal/strconv.uint64pow10", laid_internal_strconv_uint64pow10), ("versine/sample.turns", laid_versine_sample_turns)] }
def SampleChangedSaid : Prop := sampleChangedRow.holds Tryz.pinned (OpenSpec.ofChange sampleChangedSpec)

/-- ITS FALSE NEIGHBOUR: 'it returns false'. Refute it at one input. -/
def sampleChangedWrong : ChangeSpec := { name := "sampleChanged", fn := fun _ => fun
  | [d1, d2, d3] => { results := [.lit (.bool false)], args := [d1, d2, d3] }
  | _ => none }
def SampleChangedWrongFalsely : Prop := sampleChangedRow.holds Tryz.pinned (OpenSpec.ofChange sampleChangedWrong)

/-- 'versinelaw01.SampleTwo': WHATEVER THE INPUT: true; the input reads as it did. -/
def sampleTwoSpec : ChangeSpec := { name := "sampleTwo", fn := fun _ => fun
  | [d1, d2] => { results := [.lit (.bool true)], args := [d1, d2] }
  | _ => none }
def sampleTwoRow : OpenClaim := { program := "ytjibbhaeaikhpaagreatdoor", sum := "32e83b123c11ea70506e26cf6504b0b31730c2dc3f54cbc6367a1a7b67780a75", func := "versine/versinelaw01.SampleTwo", spec := "sampleTwo", inPlace := ["math.Float64bits", "math.Float64frombits", "math.archTrunc", "math.Float32bits", "math.Float32frombits", "internal/abi.NoEscape", "internal/bytealg.MakeNoZero"], unfollowed := true, recurses := true, named := ["versine/sample.turns", "internal/strconv.uint64pow10", "math/bits.deBruijn32tab", "math/bits.deBruijn64tab"], apart := false, laid := [("math/bits.deBruijn32tab", laid_math_bits_deBruijn32tab), ("math/bits.deBruijn64tab", laid_math_bits_deBruijn64tab), ("internal/strconv.uint64pow10", laid_internal_strconv_uint64pow10), ("versine/sample.turns", laid_versine_sample_turns)] }
def SampleTwoSaid : Prop := sampleTwoRow.holds Tryz.pinned (OpenSpec.ofChange sampleTwoSpec)

/-- ITS FALSE NEIGHBOUR: 'it returns false'. Refute it at one input. -/
def sampleTwoWrong : ChangeSpec := { name := "sampleTwo", fn := fun _ => fun
  | [d1, d2] => { results := [.lit (.bool false)], args := [d1, d2] }
  | _ => none }
def SampleTwoWrongFalsely : Prop := sampleTwoRow.holds Tryz.pinned (OpenSpec.ofChange sampleTwoWrong)

/-- 'versinelaw01.SamplePackets': WHATEVER THE INPUT: true; the input reads as it did. -/
def samplePacketsSpec : ChangeSpec := { name := "samplePackets", fn := fun _ => fun
  | [d1, d2, d3] => { results := [.lit (.bool true)], args := [d1, d2, d3] }
  | _ => none }
def samplePacketsRow : OpenClaim := { program := "ytjibbhaeaikhpaagreatdoor", sum := "32e83b123c11ea70506e26cf6504b0b31730c2dc3f54cbc6367a1a7b67780a75", func := "versine/versinelaw01.SamplePackets", spec := "samplePackets", inPlace := ["math.Float64bits", "math.Float64frombits", "math.archTrunc", "math.Float32bits", "math.Float32frombits", "internal/abi.NoEscape", "internal/bytealg.MakeNoZero"], unfollowed := true, recurses := true, named := ["versine/sample.turns", "internal/strconv.uint64pow10", "math/bits.deBruijn32tab", "math/bits.deBruijn64tab"], apart := false, laid := [("math/bits.deBruijn32tab", laid_math_bits_deBruijn32tab), ("math/bits.deBruijn64tab", laid_math_bits_deBruijn64tab), ("internal/strconv.uint64pow10", laid_internal_strconv_uint64pow10), ("versine/sample.turns", laid_versine_sample_turns)] }
def SamplePacketsSaid : Prop := samplePacketsRow.holds Tryz.pinned (OpenSpec.ofChange samplePacketsSpec)

/-- ITS FALSE NEIGHBOUR: 'it returns false'. Refute it at one input. -/
def samplePacketsWrong : ChangeSpec := { name := "samplePackets", fn := fun _ => fun
  | [d1, d2, d3] => { results := [.lit (.bool false)], args := [d1, d2, d3] }
  | _ => none }
def SamplePacketsWrongFalsely : Prop := samplePacketsRow.holds Tryz.pinned (OpenSpec.ofChange samplePacketsWrong)

/-- 'versinelaw01.SampleReceived': WHATEVER THE INPUT: true; the input reads as it did. -/
def sampleReceivedSpec : ChangeSpec := { name := "sampleReceived", fn := fun _ => fun
  | [d] => { results := [.lit (.bool true)], args := [d] }
  | _ => none }
def sampleReceivedRow : OpenClaim := { program := "ytjibbhaeaikhpaagreatdoor", sum := "32e83b123c11ea70506e26cf6504b0b31730c2dc3f54cbc6367a1a7b67780a75", func := "versine/versinelaw01.SampleReceived", spec := "sampleReceived", inPlace := ["math.Float64bits", "math.Float64frombits", "math.archTrunc", "math.Float32bits", "math.Float32frombits", "internal/abi.NoEscape", "internal/bytealg.MakeNoZero"], unfollowed := true, recurses := true, named := ["versine/sample.turns", "internal/strconv.uint64pow10", "math/bits.deBruijn32tab", "math/bits.deBruijn64tab"], apart := false, laid := [("math/bits.deBruijn32tab", laid_math_bits_deBruijn32tab), ("math/bits.deBruijn64tab", laid_math_bits_deBruijn64tab), ("internal/strconv.uint64pow10", laid_internal_strconv_uint64pow10), ("versine/sample.turns", laid_versine_sample_turns)] }
def SampleReceivedSaid : Prop := sampleReceivedRow.holds Tryz.pinned (OpenSpec.ofChange sampleReceivedSpec)

/-- ITS FALSE NEIGHBOUR: 'it returns false'. Refute it at one input. -/
def sampleReceivedWrong : ChangeSpec := { name := "sampleReceived", fn := fun _ => fun
  | [d] => { results := [.lit (.bool false)], args := [d] }
  | _ => none }
def SampleReceivedWrongFalsely : Prop := sampleReceivedRow.holds Tryz.pinned (OpenSpec.ofChange sampleReceivedWrong)

/-- 'versinelaw01.SampleStreams': WHATEVER THE INPUT: true; the input reads as it did. -/
def sampleStreamsSpec : ChangeSpec := { name := "sampleStreams", fn := fun _ => fun
  | [d1, d2] => { results := [.lit (.bool true)], args := [d1, d2] }
  | _ => none }
def sampleStreamsRow : OpenClaim := { program := "ytjibbhaeaikhpaagreatdoor", sum := "32e83b123c11ea70506e26cf6504b0b31730c2dc3f54cbc6367a1a7b67780a75", func := "versine/versinelaw01.SampleStreams", spec := "sampleStreams", inPlace := ["math.Float64bits", "math.Float64frombits", "math.archTrunc", "math.Float32bits", "math.Float32frombits", "internal/abi.NoEscape", "internal/bytealg.MakeNoZero"], unfollowed := true, recurses := true, named := ["versine/sample.turns", "internal/strconv.uint64pow10", "math/bits.deBruijn32tab", "math/bits.deBruijn64tab"], apart := false, laid := [("math/bits.deBruijn32tab", laid_math_bits_deBruijn32tab), ("math/bits.deBruijn64tab", laid_math_bits_deBruijn64tab), ("internal/strconv.uint64pow10", laid_internal_strconv_uint64pow10), ("versine/sample.turns", laid_versine_sample_turns)] }
def SampleStreamsSaid : Prop := sampleStreamsRow.holds Tryz.pinned (OpenSpec.ofChange sampleStreamsSpec)

/-- ITS FALSE NEIGHBOUR: 'it returns false'. Refute it at one input. -/
def sampleStreamsWrong : ChangeSpec := { name := "sampleStreams", fn := fun _ => fun
  | [d1, d2] => { results := [.lit (.bool false)], args := [d1, d2] }
  | _ => none }
def SampleStreamsWrongFalsely : Prop := sampleStreamsRow.holds Tryz.pinned (OpenSpec.ofChange sampleStreamsWrong)

/-- 'versinelaw01.SampleTexts': WHATEVER THE INPUT: true; the input reads as it did. -/
def sampleTextsSpec : ChangeSpec := { name := "sampleTexts", fn := fun _ => fun
  | [d1, d2] => { results := [.lit (.bool true)], args := [d1, d2] }
  | _ => none }
def sampleTextsRow : OpenClaim := { program := "ytjibbhaeaikhpaagreatdoor", sum := "32e83b123c11ea70506e26cf6504b0b31730c2dc3f54cbc6367a1a7b67780a75", func := "versine/versinelaw01.SampleTexts", spec := "sampleTexts", inPlace := ["math.Float64bits", "math.Float64frombits", "math.archTrunc", "math.Float32bits", "math.Float32frombits", "internal/abi.NoEscape", "internal/bytealg.MakeNoZero", "internal/bytealg.IndexByteString", "internal/bytealg.IndexString"], unfollowed := true, recurses := true, named := ["versine/sample.turns", "internal/strconv.uint64pow10", "math/bits.deBruijn32tab", "math/bits.deBruijn64tab", "strconv.ErrSyntax", "strconv.ErrRange", "internal/bytealg.MaxLen"], apart := false, laid := [("math/bits.deBruijn32tab", laid_math_bits_deBruijn32tab), ("math/bits.deBruijn64tab", laid_math_bits_deBruijn64tab), ("internal/strconv.uint64pow10", laid_internal_strconv_uint64pow10), ("strconv.ErrRange", laid_strconv_ErrRange), ("strconv.ErrSyntax", laid_strconv_ErrSyntax), ("versine/sample.turns", laid_versine_sample_turns)] }
def SampleTextsSaid : Prop := sampleTextsRow.holds Tryz.pinned (OpenSpec.ofChange sampleTextsSpec)

/-- ITS FALSE NEIGHBOUR: 'it returns false'. Refute it at one input. -/
def sampleTextsWrong : ChangeSpec := { name := "sampleTexts", fn := fun _ => fun
  | [d1, d2] => { results := [.lit (.bool false)], args := [d1, d2] }
  | _ => none }
def SampleTextsWrongFalsely : Prop := sampleTextsRow.holds Tryz.pinned (OpenSpec.ofChange sampleTextsWrong)

/-- 'versinelaw01.SampleFound': WHATEVER THE INPUT: true; the input reads as it did. -/
def sampleFoundSpec : ChangeSpec := { name := "sampleFound", fn := fun _ => fun
  | [d1, d2] => { results := [.lit (.bool true)], args := [d1, d2] }
  | _ => none }
def sampleFoundRow : OpenClaim := { program := "ytjibbhaeaikhpaagreatdoor", sum := "32e83b123c11ea70506e26cf6504b0b31730c2dc3f54cbc6367a1a7b67780a75", func := "versine/versinelaw01.SampleFound", spec := "sampleFound", inPlace := ["math.Float64bits", "math.Float64frombits", "math.archTrunc", "math.Float32bits", "math.Float32frombits", "internal/abi.NoEscape", "internal/bytealg.MakeNoZero"], unfollowed := true, recurses := true, named := ["versine/sample.turns", "internal/strconv.uint64pow10", "math/bits.deBruijn32tab", "math/bits.deBruijn64tab"], apart := false, laid := [("math/bits.deBruijn32tab", laid_math_bits_deBruijn32tab), ("math/bits.deBruijn64tab", laid_math_bits_deBruijn64tab), ("internal/strconv.uint64pow10", laid_internal_strconv_uint64pow10), ("versine/sample.turns", laid_versine_sample_turns)] }
def SampleFoundSaid : Prop := sampleFoundRow.holds Tryz.pinned (OpenSpec.ofChange sampleFoundSpec)

/-- ITS FALSE NEIGHBOUR: 'it returns false'. Refute it at one input. -/
def sampleFoundWrong : ChangeSpec := { name := "sampleFound", fn := fun _ => fun
  | [d1, d2] => { results := [.lit (.bool false)], args := [d1, d2] }
  | _ => none }
def SampleFoundWrongFalsely : Prop := sampleFoundRow.holds Tryz.pinned (OpenSpec.ofChange sampleFoundWrong)

/-- 'versinelaw01.SampleBack': WHATEVER THE INPUT: true; the input reads as it did. -/
def sampleBackSpec : ChangeSpec := { name := "sampleBack", fn := fun _ => fun
  | [d1, d2, d3] => { results := [.lit (.bool true)], args := [d1, d2, d3] }
  | _ => none }
def sampleBackRow : OpenClaim := { program := "ytjibbhaeaikhpaagreatdoor", sum := "32e83b123c11ea70506e26cf6504b0b31730c2dc3f54cbc6367a1a7b67780a75", func := "versine/versinelaw01.SampleBack", spec := "sampleBack", inPlace := ["math.Float64bits", "math.Float64frombits", "math.archTrunc", "math.Float32bits", "math.Float32frombits", "internal/abi.NoEscape", "internal/bytealg.MakeNoZero", "internal/bytealg.IndexByteString", "internal/bytealg.IndexString"], unfollowed := true, recurses := true, named := ["versine/sample.turns", "internal/strconv.uint64pow10", "math/bits.deBruijn32tab", "math/bits.deBruijn64tab", "strconv.ErrSyntax", "strconv.ErrRange", "internal/bytealg.MaxLen"], apart := false, laid := [("math/bits.deBruijn32tab", laid_math_bits_deBruijn32tab), ("math/bits.deBruijn64tab", laid_math_bits_deBruijn64tab), ("internal/strconv.uint64pow10", laid_internal_strconv_uint64pow10), ("strconv.ErrRange", laid_strconv_ErrRange), ("strconv.ErrSyntax", laid_strconv_ErrSyntax), ("versine/sample.turns", laid_versine_sample_turns)] }
def SampleBackSaid : Prop := sampleBackRow.holds Tryz.pinned (OpenSpec.ofChange sampleBackSpec)

/-- ITS FALSE NEIGHBOUR: 'it returns false'. Refute it at one input. -/
def sampleBackWrong : ChangeSpec := { name := "sampleBack", fn := fun _ => fun
  | [d1, d2, d3] => { results := [.lit (.bool false)], args := [d1, d2, d3] }
  | _ => none }
def SampleBackWrongFalsely : Prop := sampleBackRow.holds Tryz.pinned (OpenSpec.ofChange sampleBackWrong)

/- THE SECOND FORM. 'bulk': how many values and letters a reading holds, each counted each time it is reached (what is shared counts as often as it is met; a slice's spare places count too). A statement '..UptoSaid' is the law's where the arguments, and the package variables that the reading takes, are together of bulk at most 1048576: NARROWER than '..Said'. Prove '..Said' where nothing that the law and all that it calls make is longer than what came in: it says more and counts as full. Else prove '..UptoSaid'. A law counts once. -/
mutual
def uptoBulk {H : Type} : DataW H → Nat
  | .lit (.string bytes) => bytes.length + 1
  | .lit _ => 1
  | .nil => 1
  | .ptr d => uptoBulk d + 1
  | .slice elems spare => uptoBulkAll elems + uptoBulkAll spare + 1
  | .agg parts => uptoBulkAll parts + 1
  | .iface _ d => uptoBulk d + 1
  | .map entries => uptoBulkEntries entries + 1
  | .held _ => 1
def uptoBulkAll {H : Type} : List (DataW H) → Nat
  | [] => 0
  | d :: r => uptoBulk d + uptoBulkAll r
def uptoBulkEntries {H : Type} : List (Lit × DataW H) → Nat
  | [] => 0
  | x :: r => uptoBulkEntry x + uptoBulkEntries r
def uptoBulkEntry {H : Type} : Lit × DataW H → Nat
  | (.string bytes, d) => bytes.length + uptoBulk d + 1
  | (_, d) => uptoBulk d + 1
 end
def uptoSmall : (H : Type) → List (DataW H) → Bool := fun _ ds => decide (uptoBulkAll ds ≤ 1048576)
def OpenSpec.upto (s : _root_.Go.ChangeSpec) : _root_.Go.OpenSpec := { _root_.Go.OpenSpec.ofChange s with cond := some uptoSmall }

/-- 'versinelaw01.SampleBasics', WHERE WHAT IT READS IS OF BULK AT MOST 1048576: true; the input reads as it did. -/
def sampleBasicsUptoRow : OpenClaim := { program := "ytjibbhaeaikhpaagreatdoor", sum := "32e83b123c11ea70506e26cf6504b0b31730c2dc3f54cbc6367a1a7b67780a75", func := "versine/versinelaw01.SampleBasics", spec := "sampleBasics", inPlace := ["math.Float64bits", "math.Float64frombits", "math.archTrunc", "math.Float32bits", "math.Float32frombits", "internal/abi.NoEscape", "internal/bytealg.MakeNoZero"], unfollowed := true, recurses := true, named := ["versine/sample.turns", "internal/strconv.uint64pow10", "math/bits.deBruijn32tab", "math/bits.deBruijn64tab"], apart := false, laid := [("math/bits.deBruijn32tab", laid_math_bits_deBruijn32tab), ("math/bits.deBruijn64tab", laid_math_bits_deBruijn64tab), ("internal/strconv.uint64pow10", laid_internal_strconv_uint64pow10), ("versine/sample.turns", laid_versine_sample_turns)], narrowed := true }
def SampleBasicsUptoSaid : Prop := sampleBasicsUptoRow.holds Tryz.pinned (OpenSpec.upto sampleBasicsSpec)

/-- 'versinelaw01.SampleRuns', WHERE WHAT IT READS IS OF BULK AT MOST 1048576: true; the input reads as it did. -/
def sampleRunsUptoRow : OpenClaim := { program := "ytjibbhaeaikhpaagreatdoor", sum := "32e83b123c11ea70506e26cf6504b0b31730c2dc3f54cbc6367a1a7b67780a75", func := "versine/versinelaw01.SampleRuns", spec := "sampleRuns", inPlace := ["math.Float64bits", "math.Float64frombits", "math.archTrunc", "math.Float32bits", "math.Float32frombits", "internal/abi.NoEscape", "internal/bytealg.MakeNoZero"], unfollowed := true, recurses := true, named := ["versine/sample.turns", "internal/strconv.uint64pow10", "math/bits.deBruijn32tab", "math/bits.deBruijn64tab"], apart := false, laid := [("math/bits.deBruijn32tab", laid_math_bits_deBruijn32tab), ("math/bits.deBruijn64tab", laid_math_bits_deBruijn64tab), ("internal/strconv.uint64pow10", laid_internal_strconv_uint64pow10), ("versine/sample.turns", laid_versine_sample_turns)], narrowed := true }
def SampleRunsUptoSaid : Prop := sampleRunsUptoRow.holds Tryz.pinned (OpenSpec.upto sampleRunsSpec)

/-- 'versinelaw01.SampleChanged', WHERE WHAT IT READS IS OF BULK AT MOST 1048576: true; the input reads as it did. -/
def sampleChangedUptoRow : OpenClaim := { program := "ytjibbhaeaikhpaagreatdoor", sum := "32e83b123c11ea70506e26cf6504b0b31730c2dc3f54cbc6367a1a7b67780a75", func := "versine/versinelaw01.SampleChanged", spec := "sampleChanged", inPlace := ["math.Float64bits", "math.Float64frombits", "math.archTrunc", "math.Float32bits", "math.Float32frombits", "internal/abi.NoEscape", "internal/bytealg.MakeNoZero"], unfollowed := true, recurses := true, named := ["versine/sample.turns", "internal/strconv.uint64pow10", "math/bits.deBruijn32tab", "math/bits.deBruijn64tab"], apart := false, laid := [("math/bits.deBruijn32tab", laid_math_bits_deBruijn32tab), ("math/bits.deBruijn64tab", laid_math_bits_deBruijn64tab), ("internal/strconv.uint64pow10", laid_internal_strconv_uint64pow10), ("versine/sample.turns", laid_versine_sample_turns)], narrowed := true }
def SampleChangedUptoSaid : Prop := sampleChangedUptoRow.holds Tryz.pinned (OpenSpec.upto sampleChangedSpec)

/-- 'versinelaw01.SampleTwo', WHERE WHAT IT READS IS OF BULK AT MOST 1048576: true; the input reads as it did. -/
def sampleTwoUptoRow : OpenClaim := { program := "ytjibbhaeaikhpaagreatdoor", sum := "32e83b123c11ea70506e26cf6504b0b31730c2dc3f54cbc6367a1a7b67780a75", func := "versine/versinelaw01.SampleTwo", spec := "sampleTwo", inPlace := ["math.Float64bits", "math.Float64frombits", "math.archTrunc", "math.Float32bits", "math.Float32frombits", "internal/abi.NoEscape", "internal/bytealg.MakeNoZero"], unfollowed := true, recurses := true, named := ["versine/sample.turns", "internal/strconv.uint64pow10", "math/bits.deBruijn32tab", "math/bits.deBruijn64tab"], apart := false, laid := [("math/bits.deBruijn32tab", laid_math_bits_deBruijn32tab), ("math/bits.deBruijn64tab", laid_math_bits_deBruijn64tab), ("internal/strconv.uint64pow10", laid_internal_strconv_uint64pow10), ("versine/sample.turns", laid_versine_sample_turns)], narrowed := true }
def SampleTwoUptoSaid : Prop := sampleTwoUptoRow.holds Tryz.pinned (OpenSpec.upto sampleTwoSpec)

/-- 'versinelaw01.SamplePackets', WHERE WHAT IT READS IS OF BULK AT MOST 1048576: true; the input reads as it did. -/
def samplePacketsUptoRow : OpenClaim := { program := "ytjibbhaeaikhpaagreatdoor", sum := "32e83b123c11ea70506e26cf6504b0b31730c2dc3f54cbc6367a1a7b67780a75", func := "versine/versinelaw01.SamplePackets", spec := "samplePackets", inPlace := ["math.Float64bits", "math.Float64frombits", "math.archTrunc", "math.Float32bits", "math.Float32frombits", "internal/abi.NoEscape", "internal/bytealg.MakeNoZero"], unfollowed := true, recurses := true, named := ["versine/sample.turns", "internal/strconv.uint64pow10", "math/bits.deBruijn32tab", "math/bits.deBruijn64tab"], apart := false, laid := [("math/bits.deBruijn32tab", laid_math_bits_deBruijn32tab), ("math/bits.deBruijn64tab", laid_math_bits_deBruijn64tab), ("internal/strconv.uint64pow10", laid_internal_strconv_uint64pow10), ("versine/sample.turns", laid_versine_sample_turns)], narrowed := true }
def SamplePacketsUptoSaid : Prop := samplePacketsUptoRow.holds Tryz.pinned (OpenSpec.upto samplePacketsSpec)

/-- 'versinelaw01.SampleReceived', WHERE WHAT IT READS IS OF BULK AT MOST 1048576: true; the input reads as it did. -/
def sampleReceivedUptoRow : OpenClaim := { program := "ytjibbhaeaikhpaagreatdoor", sum := "32e83b123c11ea70506e26cf6504b0b31730c2dc3f54cbc6367a1a7b67780a75", func := "versine/versinelaw01.SampleReceived", spec := "sampleReceived", inPlace := ["math.Float64bits", "math.Float64frombits", "math.archTrunc", "math.Float32bits", "math.Float32frombits", "internal/abi.NoEscape", "internal/bytealg.MakeNoZero"], unfollowed := true, recurses := true, named := ["versine/sample.turns", "internal/strconv.uint64pow10", "math/bits.deBruijn32tab", "math/bits.deBruijn64tab"], apart := false, laid := [("math/bits.deBruijn32tab", laid_math_bits_deBruijn32tab), ("math/bits.deBruijn64tab", laid_math_bits_deBruijn64tab), ("internal/strconv.uint64pow10", laid_internal_strconv_uint64pow10), ("versine/sample.turns", laid_versine_sample_turns)], narrowed := true }
def SampleReceivedUptoSaid : Prop := sampleReceivedUptoRow.holds Tryz.pinned (OpenSpec.upto sampleReceivedSpec)

/-- 'versinelaw01.SampleStreams', WHERE WHAT IT READS IS OF BULK AT MOST 1048576: true; the input reads as it did. -/
def sampleStreamsUptoRow : OpenClaim := { program := "ytjibbhaeaikhpaagreatdoor", sum := "32e83b123c11ea70506e26cf6504b0b31730c2dc3f54cbc6367a1a7b67780a75", func := "versine/versinelaw01.SampleStreams", spec := "sampleStreams", inPlace := ["math.Float64bits", "math.Float64frombits", "math.archTrunc", "math.Float32bits", "math.Float32frombits", "internal/abi.NoEscape", "internal/bytealg.MakeNoZero"], unfollowed := true, recurses := true, named := ["versine/sample.turns", "internal/strconv.uint64pow10", "math/bits.deBruijn32tab", "math/bits.deBruijn64tab"], apart := false, laid := [("math/bits.deBruijn32tab", laid_math_bits_deBruijn32tab), ("math/bits.deBruijn64tab", laid_math_bits_deBruijn64tab), ("internal/strconv.uint64pow10", laid_internal_strconv_uint64pow10), ("versine/sample.turns", laid_versine_sample_turns)], narrowed := true }
def SampleStreamsUptoSaid : Prop := sampleStreamsUptoRow.holds Tryz.pinned (OpenSpec.upto sampleStreamsSpec)

/-- 'versinelaw01.SampleTexts', WHERE WHAT IT READS IS OF BULK AT MOST 1048576: true; the input reads as it did. -/
def sampleTextsUptoRow : OpenClaim := { program := "ytjibbhaeaikhpaagreatdoor", sum := "32e83b123c11ea70506e26cf6504b0b31730c2dc3f54cbc6367a1a7b67780a75", func := "versine/versinelaw01.SampleTexts", spec := "sampleTexts", inPlace := ["math.Float64bits", "math.Float64frombits", "math.archTrunc", "math.Float32bits", "math.Float32frombits", "internal/abi.NoEscape", "internal/bytealg.MakeNoZero", "internal/bytealg.IndexByteString", "internal/bytealg.IndexString"], unfollowed := true, recurses := true, named := ["versine/sample.turns", "internal/strconv.uint64pow10", "math/bits.deBruijn32tab", "math/bits.deBruijn64tab", "strconv.ErrSyntax", "strconv.ErrRange", "internal/bytealg.MaxLen"], apart := false, laid := [("math/bits.deBruijn32tab", laid_math_bits_deBruijn32tab), ("math/bits.deBruijn64tab", laid_math_bits_deBruijn64tab), ("internal/strconv.uint64pow10", laid_internal_strconv_uint64pow10), ("strconv.ErrRange", laid_strconv_ErrRange), ("strconv.ErrSyntax", laid_strconv_ErrSyntax), ("versine/sample.turns", laid_versine_sample_turns)], narrowed := true }
def SampleTextsUptoSaid : Prop := sampleTextsUptoRow.holds Tryz.pinned (OpenSpec.upto sampleTextsSpec)

/-- 'versinelaw01.SampleFound', WHERE WHAT IT READS IS OF BULK AT MOST 1048576: true; the input reads as it did. -/
def sampleFoundUptoRow : OpenClaim := { program := "ytjibbhaeaikhpaagreatdoor", sum := "32e83b123c11ea70506e26cf6504b0b31730c2dc3f54cbc6367a1a7b67780a75", func := "versine/versinelaw01.SampleFound", spec := "sampleFound", inPlace := ["math.Float64bits", "math.Float64frombits", "math.archTrunc", "math.Float32bits", "math.Float32frombits", "internal/abi.NoEscape", "internal/bytealg.MakeNoZero"], unfollowed := true, recurses := true, named := ["versine/sample.turns", "internal/strconv.uint64pow10", "math/bits.deBruijn32tab", "math/bits.deBruijn64tab"], apart := false, laid := [("math/bits.deBruijn32tab", laid_math_bits_deBruijn32tab), ("math/bits.deBruijn64tab", laid_math_bits_deBruijn64tab), ("internal/strconv.uint64pow10", laid_internal_strconv_uint64pow10), ("versine/sample.turns", laid_versine_sample_turns)], narrowed := true }
def SampleFoundUptoSaid : Prop := sampleFoundUptoRow.holds Tryz.pinned (OpenSpec.upto sampleFoundSpec)

/-- 'versinelaw01.SampleBack', WHERE WHAT IT READS IS OF BULK AT MOST 1048576: true; the input reads as it did. -/
def sampleBackUptoRow : OpenClaim := { program := "ytjibbhaeaikhpaagreatdoor", sum := "32e83b123c11ea70506e26cf6504b0b31730c2dc3f54cbc6367a1a7b67780a75", func := "versine/versinelaw01.SampleBack", spec := "sampleBack", inPlace := ["math.Float64bits", "math.Float64frombits", "math.archTrunc", "math.Float32bits", "math.Float32frombits", "internal/abi.NoEscape", "internal/bytealg.MakeNoZero", "internal/bytealg.IndexByteString", "internal/bytealg.IndexString"], unfollowed := true, recurses := true, named := ["versine/sample.turns", "internal/strconv.uint64pow10", "math/bits.deBruijn32tab", "math/bits.deBruijn64tab", "strconv.ErrSyntax", "strconv.ErrRange", "internal/bytealg.MaxLen"], apart := false, laid := [("math/bits.deBruijn32tab", laid_math_bits_deBruijn32tab), ("math/bits.deBruijn64tab", laid_math_bits_deBruijn64tab), ("internal/strconv.uint64pow10", laid_internal_strconv_uint64pow10), ("strconv.ErrRange", laid_strconv_ErrRange), ("strconv.ErrSyntax", laid_strconv_ErrSyntax), ("versine/sample.turns", laid_versine_sample_turns)], narrowed := true }
def SampleBackUptoSaid : Prop := sampleBackUptoRow.holds Tryz.pinned (OpenSpec.upto sampleBackSpec)

end Rows
end Go.Proofs.YtjibbhaeaikhpaaGreatDoor
