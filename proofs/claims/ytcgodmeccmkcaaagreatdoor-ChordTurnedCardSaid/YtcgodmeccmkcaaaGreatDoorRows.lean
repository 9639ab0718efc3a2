/-
  NARROWER THAN 'FOR EVERY INPUT', by the rows' own cells (each row's printed sentence says how): ChordTraces: laid · ChordVersines: laid · ChordWeighted: laid · ChordRestored: laid · ChordBands: laid · ChordRuns: laid · ChordLong: laid · ChordTurned: laid.
  DERIVED. THE GIVEN ROWS OF THIS SEAT. 8 by the template 'for every input the law returns true; each argument reads behind the call as it read before'; 0 by the template 'total and deterministic' (their statements: YtcgodmeccmkcaaaGreatDoorTotals.lean).
  GIVEN WITH THE SEED: the statements are not yours to turn. If you find one false, say at which input.
  Laid BY PROGRAM, IN A SANDBOX (cutbox-rows.mjs): the forced cells as the released guide's own fill.sh prints them over the translation 8d3065e10c86e3af… (all of the seat's roots in one cut). By AI agents, Wed Nov 11 2026. No macro, syntax, notation, axiom, sorry.
-/
import Derived.Test.YtcgodmeccmkcaaaGreatDoorChecked
import GoSem.Claim
import GoSem.ClaimJoined
import GoSem.ClaimMapViews
import Derived.JoinedTies
import Derived.KernelRfl
namespace Go.Proofs.YtcgodmeccmkcaaaGreatDoor
/- THE CELL 'sum', in the pinned program and in every row, IS THE sha256 OF THE DUMP (.gsa) THAT YtcgodmeccmkcaaaGreatDoorProg.lean LOADS. Nothing in Lean hashes anything: it is a label: what it is worth is what the hold of that sum in a sandbox is worth. -/
noncomputable def Tryz.pinned : Pinned := { name := "ytcgodmeccmkcaaagreatdoor", sum := "8d3065e10c86e3af7b9fa5bc5f92b0451e28a3eab494e316b1b6254e3a04a2e5", checked := Tryz.checked }
namespace Rows
def none {H : Type} : Left H := { results := [], args := [] }

/- WHAT THE LISTED PACKAGE-LEVEL VARIABLES READ AS WHEN THE CALL BEGINS. Each datum BY PROGRAM (the guide's laid-datum.mjs) off the statement by which the dump's own 'gosem.cut.vars' lays the variable. In a bare row this is a premise. The card (YtcgodmeccmkcaaaGreatDoorCards.lean) ties it to the program's text. -/
def laid_math_bits_deBruijn32tab {H : Type} : DataW H := .agg [.lit (.int .u8 0), .lit (.int .u8 1), .lit (.int .u8 28), .lit (.int .u8 2), .lit (.int .u8 29), .lit (.int .u8 14), .lit (.int .u8 24), .lit (.int .u8 3), .lit (.int .u8 30), .lit (.int .u8 22), .lit (.int .u8 20), .lit (.int .u8 15), .lit (.int .u8 25), .lit (.int .u8 17), .lit (.int .u8 4), .lit (.int .u8 8), .lit (.int .u8 31), .lit (.int .u8 27), .lit (.int .u8 13), .lit (.int .u8 23), .lit (.int .u8 21), .lit (.int .u8 19), .lit (.int .u8 16), .lit (.int .u8 7), .lit (.int .u8 26), .lit (.int .u8 12), .lit (.int .u8 18), .lit (.int .u8 6), .lit (.int .u8 11), .lit (.int .u8 5), .lit (.int .u8 10), .lit (.int .u8 9)]
def laid_math_bits_deBruijn64tab {H : Type} : DataW H := .agg [.lit (.int .u8 0), .lit (.int .u8 1), .lit (.int .u8 56), .lit (.int .u8 2), .lit (.int .u8 57), .lit (.int .u8 49), .lit (.int .u8 28), .lit (.int .u8 3), .lit (.int .u8 61), .lit (.int .u8 58), .lit (.int .u8 42), .lit (.int .u8 50), .lit (.int .u8 38), .lit (.int .u8 29), .lit (.int .u8 17), .lit (.int .u8 4), .lit (.int .u8 62), .lit (.int .u8 47), .lit (.int .u8 59), .lit (.int .u8 36), .lit (.int .u8 45), .lit (.int .u8 43), .lit (.int .u8 51), .lit (.int .u8 22), .lit (.int .u8 53), .lit (.int .u8 39), .lit (.int .u8 33), .lit (.int .u8 30), .lit (.int .u8 24), .lit (.int .u8 18), .lit (.int .u8 12), .lit (.int .u8 5), .lit (.int .u8 63), .lit (.int .u8 55), .lit (.int .u8 48), .lit (.int .u8 27), .lit (.int .u8 60), .lit (.int .u8 41), .lit (.int .u8 37), .lit (.int .u8 16), .lit (.int .u8 46), .lit (.int .u8 35), .lit (.int .u8 44), .lit (.int .u8 21), .lit (.int .u8 52), .lit (.int .u8 32), .lit (.int .u8 23), .lit (.int .u8 11), .lit (.int .u8 54), .lit (.int .u8 26), .lit (.int .u8 40), .lit (.int .u8 15), .lit (.int .u8 34), .lit (.int .u8 20), .lit (.int .u8 31), .lit (.int .u8 10), .lit (.int .u8 25), .lit (.int .u8 14), .lit (.int .u8 19), .lit (.int .u8 9), .lit (.int .u8 13), .lit (.int .u8 8), .lit (.int .u8 7), .lit (.int .u8 6)]
def laid_internal_strconv_uint64pow10 {H : Type} : DataW H := .agg [.lit (.int .u64 1), .lit (.int .u64 10), .lit (.int .u64 100), .lit (.int .u64 1000), .lit (.int .u64 10000), .lit (.int .u64 100000), .lit (.int .u64 1000000), .lit (.int .u64 10000000), .lit (.int .u64 100000000), .lit (.int .u64 1000000000), .lit (.int .u64 10000000000), .lit (.int .u64 100000000000), .lit (.int .u64 1000000000000), .lit (.int .u64 10000000000000), .lit (.int .u64 100000000000000), .lit (.int .u64 1000000000000000), .lit (.int .u64 10000000000000000), .lit (.int .u64 100000000000000000), .lit (.int .u64 1000000000000000000), .lit (.int .u64 10000000000000000000)]
def laid_versine_chord_turns {H : Type} : DataW H := .agg [.agg [.lit (.int .i64 1), .lit (.int .i64 0)], .agg [.lit (.int .i64 0), .lit (.int .i64 1)], .agg [.lit (.int .i64 (-1)), .lit (.int .i64 0)], .agg [.lit (.int .i64 0), .lit (.int .i64 (-1))]]
def laid_versine_chord_allKnown {H : Type} : DataW H := .agg [.lit (.bool true), .lit (.bool true), .lit (.bool true), .lit (.bool true)]

/-- 'versinelaw03.ChordTraces': WHATEVER THE INPUT: true; the input reads as it did. -/
def chordTracesSpec : ChangeSpec := { name := "chordTraces", fn := fun _ => fun
  | [d1, d2, d3] => { results := [.lit (.bool true)], args := [d1, d2, d3] }
  | _ => none }
def chordTracesRow : OpenClaim := { program := "ytcgodmeccmkcaaagreatdoor", sum := "8d3065e10c86e3af7b9fa5bc5f92b0451e28a3eab494e316b1b6254e3a04a2e5", func := "versine/versinelaw03.ChordTraces", spec := "chordTraces", inPlace := ["internal/abi.NoEscape", "internal/bytealg.MakeNoZero"], unfollowed := true, recurses := true, named := ["versine/chord.turns", "versine/chord.allKnown", "internal/strconv.uint64pow10", "math/bits.deBruijn32tab", "math/bits.deBruijn64tab"], apart := false, laid := [("math/bits.deBruijn32tab", laid_math_bits_deBruijn32tab), ("math/bits.deBruijn64tab", laid_math_bits_deBruijn64tab), ("internal/strconv.uint64pow10", laid_internal_strconv_uint64pow10), ("versine/chord.turns", laid_versine_chord_turns), ("versine/chord.allKnown", laid_versine_chord_allKnown)] }
def ChordTracesSaid : Prop := chordTracesRow.holds Tryz.pinned (OpenSpec.ofChange chordTracesSpec)

/-- ITS FALSE NEIGHBOUR: 'it returns false'. Refute it at one input. -/
def chordTracesWrong : ChangeSpec := { name := "chordTraces", fn := fun _ => fun
  | [d1, d2, d3] => { results := [.lit (.bool false)], args := [d1, d2, d3] }
  | _ => none }
def ChordTracesWrongFalsely : Prop := chordTracesRow.holds Tryz.pinned (OpenSpec.ofChange chordTracesWrong)

/-- 'versinelaw03.ChordVersines': WHATEVER THE INPUT: true; the input reads as it did. -/
def chordVersinesSpec : ChangeSpec := { name := "chordVersines", fn := fun _ => fun
  | [d1, d2] => { results := [.lit (.bool true)], args := [d1, d2] }
  | _ => none }
def chordVersinesRow : OpenClaim := { program := "ytcgodmeccmkcaaagreatdoor", sum := "8d3065e10c86e3af7b9fa5bc5f92b0451e28a3eab494e316b1b6254e3a04a2e5", func := "versine/versinelaw03.ChordVersines", spec := "chordVersines", inPlace := ["internal/abi.NoEscape", "internal/bytealg.MakeNoZero"], unfollowed := true, recurses := true, named := ["versine/chord.turns", "versine/chord.allKnown", "internal/strconv.uint64pow10", "math/bits.deBruijn32tab", "math/bits.deBruijn64tab"], apart := false, laid := [("math/bits.deBruijn32tab", laid_math_bits_deBruijn32tab), ("math/bits.deBruijn64tab", laid_math_bits_deBruijn64tab), ("internal/strconv.uint64pow10", laid_internal_strconv_uint64pow10), ("versine/chord.turns", laid_versine_chord_turns), ("versine/chord.allKnown", laid_versine_chord_allKnown)] }
def ChordVersinesSaid : Prop := chordVersinesRow.holds Tryz.pinned (OpenSpec.ofChange chordVersinesSpec)

/-- ITS FALSE NEIGHBOUR: 'it returns false'. Refute it at one input. -/
def chordVersinesWrong : ChangeSpec := { name := "chordVersines", fn := fun _ => fun
  | [d1, d2] => { results := [.lit (.bool false)], args := [d1, d2] }
  | _ => none }
def ChordVersinesWrongFalsely : Prop := chordVersinesRow.holds Tryz.pinned (OpenSpec.ofChange chordVersinesWrong)

/-- 'versinelaw03.ChordWeighted': WHATEVER THE INPUT: true; the input reads as it did. -/
def chordWeightedSpec : ChangeSpec := { name := "chordWeighted", fn := fun _ => fun
  | [d1, d2, d3] => { results := [.lit (.bool true)], args := [d1, d2, d3] }
  | _ => none }
def chordWeightedRow : OpenClaim := { program := "ytcgodmeccmkcaaagreatdoor", sum := "8d3065e10c86e3af7b9fa5bc5f92b0451e28a3eab494e316b1b6254e3a04a2e5", func := "versine/versinelaw03.ChordWeighted", spec := "chordWeighted", inPlace := ["internal/abi.NoEscape", "internal/bytealg.MakeNoZero"], unfollowed := true, recurses := true, named := ["versine/chord.turns", "versine/chord.allKnown", "internal/strconv.uint64pow10", "math/bits.deBruijn32tab", "math/bits.deBruijn64tab"], apart := false, laid := [("math/bits.deBruijn32tab", laid_math_bits_deBruijn32tab), ("math/bits.deBruijn64tab", laid_math_bits_deBruijn64tab), ("internal/strconv.uint64pow10", laid_internal_strconv_uint64pow10), ("versine/chord.turns", laid_versine_chord_turns), ("versine/chord.allKnown", laid_versine_chord_allKnown)] }
def ChordWeightedSaid : Prop := chordWeightedRow.holds Tryz.pinned (OpenSpec.ofChange chordWeightedSpec)

/-- ITS FALSE NEIGHBOUR: 'it returns false'. Refute it at one input. -/
def chordWeightedWrong : ChangeSpec := { name := "chordWeighted", fn := fun _ => fun
  | [d1, d2, d3] => { results := [.lit (.bool false)], args := [d1, d2, d3] }
  | _ => none }
def ChordWeightedWrongFalsely : Prop := chordWeightedRow.holds Tryz.pinned (OpenSpec.ofChange chordWeightedWrong)

/-- 'versinelaw03.ChordRestored': WHATEVER THE INPUT: true; the input reads as it did. -/
def chordRestoredSpec : ChangeSpec := { name := "chordRestored", fn := fun _ => fun
  | [d1, d2, d3] => { results := [.lit (.bool true)], args := [d1, d2, d3] }
  | _ => none }
def chordRestoredRow : OpenClaim := { program := "ytcgodmeccmkcaaagreatdoor", sum := "8d3065e10c86e3af7b9fa5bc5f92b0451e28a3eab494e316b1b6254e3a04a2e5", func := "versine/versinelaw03.ChordRestored", spec := "chordRestored", inPlace := ["internal/abi.NoEscape", "internal/bytealg.MakeNoZero"], unfollowed := true, recurses := true, named := ["versine/chord.turns", "versine/chord.allKnown", "internal/strconv.uint64pow10", "math/bits.deBruijn32tab", "math/bits.deBruijn64tab"], apart := false, laid := [("math/bits.deBruijn32tab", laid_math_bits_deBruijn32tab), ("math/bits.deBruijn64tab", laid_math_bits_deBruijn64tab), ("internal/strconv.uint64pow10", laid_internal_strconv_uint64pow10), ("versine/chord.turns", laid_versine_chord_turns), ("versine/chord.allKnown", laid_versine_chord_allKnown)] }
def ChordRestoredSaid : Prop := chordRestoredRow.holds Tryz.pinned (OpenSpec.ofChange chordRestoredSpec)

/-- ITS FALSE NEIGHBOUR: 'it returns false'. Refute it at one input. -/
def chordRestoredWrong : ChangeSpec := { name := "chordRestored", fn := fun _ => fun
  | [d1, d2, d3] => { results := [.lit (.bool false)], args := [d1, d2, d3] }
  | _ => none }
def ChordRestoredWrongFalsely : Prop := chordRestoredRow.holds Tryz.pinned (OpenSpec.ofChange chordRestoredWrong)

/-- 'versinelaw03.ChordBands': WHATEVER THE INPUT: true; the input reads as it did. -/
def chordBandsSpec : ChangeSpec := { name := "chordBands", fn := fun _ => fun
  | [d1, d2] => { results := [.lit (.bool true)], args := [d1, d2] }
  | _ => none }
def chordBandsRow : OpenClaim := { program := "ytcgodmeccmkcaaagreatdoor", sum := "8d3065e10c86e3af7b9fa5bc5f92b0451e28a3eab494e316b1b6254e3a04a2e5", func := "versine/versinelaw03.ChordBands", spec := "chordBands", inPlace := ["internal/abi.NoEscape", "internal/bytealg.MakeNoZero"], unfollowed := true, recurses := true, named := ["versine/chord.turns", "versine/chord.allKnown", "internal/strconv.uint64pow10", "math/bits.deBruijn32tab", "math/bits.deBruijn64tab"], apart := false, laid := [("math/bits.deBruijn32tab", laid_math_bits_deBruijn32tab), ("math/bits.deBruijn64tab", laid_math_bits_deBruijn64tab), ("internal/strconv.uint64pow10", laid_internal_strconv_uint64pow10), ("versine/chord.turns", laid_versine_chord_turns), ("versine/chord.allKnown", laid_versine_chord_allKnown)] }
def ChordBandsSaid : Prop := chordBandsRow.holds Tryz.pinned (OpenSpec.ofChange chordBandsSpec)

/-- ITS FALSE NEIGHBOUR: 'it returns false'. Refute it at one input. -/
def chordBandsWrong : ChangeSpec := { name := "chordBands", fn := fun _ => fun
  | [d1, d2] => { results := [.lit (.bool false)], args := [d1, d2] }
  | _ => none }
def ChordBandsWrongFalsely : Prop := chordBandsRow.holds Tryz.pinned (OpenSpec.ofChange chordBandsWrong)

/-- 'versinelaw03.ChordRuns': WHATEVER THE INPUT: true; the input reads as it did. -/
def chordRunsSpec : ChangeSpec := { name := "chordRuns", fn := fun _ => fun
  | [d1, d2] => { results := [.lit (.bool true)], args := [d1, d2] }
  | _ => none }
def chordRunsRow : OpenClaim := { program := "ytcgodmeccmkcaaagreatdoor", sum := "8d3065e10c86e3af7b9fa5bc5f92b0451e28a3eab494e316b1b6254e3a04a2e5", func := "versine/versinelaw03.ChordRuns", spec := "chordRuns", inPlace := ["internal/abi.NoEscape", "internal/bytealg.MakeNoZero", "math.Float64bits", "math.Float64frombits", "math.archTrunc"], unfollowed := true, recurses := true, named := ["versine/chord.turns", "versine/chord.allKnown", "internal/strconv.uint64pow10", "math/bits.deBruijn32tab", "math/bits.deBruijn64tab"], apart := false, laid := [("math/bits.deBruijn32tab", laid_math_bits_deBruijn32tab), ("math/bits.deBruijn64tab", laid_math_bits_deBruijn64tab), ("internal/strconv.uint64pow10", laid_internal_strconv_uint64pow10), ("versine/chord.turns", laid_versine_chord_turns), ("versine/chord.allKnown", laid_versine_chord_allKnown)] }
def ChordRunsSaid : Prop := chordRunsRow.holds Tryz.pinned (OpenSpec.ofChange chordRunsSpec)

/-- ITS FALSE NEIGHBOUR: 'it returns false'. Refute it at one input. -/
def chordRunsWrong : ChangeSpec := { name := "chordRuns", fn := fun _ => fun
  | [d1, d2] => { results := [.lit (.bool false)], args := [d1, d2] }
  | _ => none }
def ChordRunsWrongFalsely : Prop := chordRunsRow.holds Tryz.pinned (OpenSpec.ofChange chordRunsWrong)

/-- 'versinelaw03.ChordLong': WHATEVER THE INPUT: true; the input reads as it did. -/
def chordLongSpec : ChangeSpec := { name := "chordLong", fn := fun _ => fun
  | [d1, d2, d3] => { results := [.lit (.bool true)], args := [d1, d2, d3] }
  | _ => none }
def chordLongRow : OpenClaim := { program := "ytcgodmeccmkcaaagreatdoor", sum := "8d3065e10c86e3af7b9fa5bc5f92b0451e28a3eab494e316b1b6254e3a04a2e5", func := "versine/versinelaw03.ChordLong", spec := "chordLong", inPlace := ["internal/abi.NoEscape", "internal/bytealg.MakeNoZero"], unfollowed := true, recurses := true, named := ["versine/chord.turns", "versine/chord.allKnown", "internal/strconv.uint64pow10", "math/bits.deBruijn32tab", "math/bits.deBruijn64tab"], apart := false, laid := [("math/bits.deBruijn32tab", laid_math_bits_deBruijn32tab), ("math/bits.deBruijn64tab", laid_math_bits_deBruijn64tab), ("internal/strconv.uint64pow10", laid_internal_strconv_uint64pow10), ("versine/chord.turns", laid_versine_chord_turns), ("versine/chord.allKnown", laid_versine_chord_allKnown)] }
def ChordLongSaid : Prop := chordLongRow.holds Tryz.pinned (OpenSpec.ofChange chordLongSpec)

/-- ITS FALSE NEIGHBOUR: 'it returns false'. Refute it at one input. -/
def chordLongWrong : ChangeSpec := { name := "chordLong", fn := fun _ => fun
  | [d1, d2, d3] => { results := [.lit (.bool false)], args := [d1, d2, d3] }
  | _ => none }
def ChordLongWrongFalsely : Prop := chordLongRow.holds Tryz.pinned (OpenSpec.ofChange chordLongWrong)

/-- 'versinelaw03.ChordTurned': WHATEVER THE INPUT: true; the input reads as it did. -/
def chordTurnedSpec : ChangeSpec := { name := "chordTurned", fn := fun _ => fun
  | [d1, d2, d3] => { results := [.lit (.bool true)], args := [d1, d2, d3] }
  | _ => none }
def chordTurnedRow : OpenClaim := { program := "ytcgodmeccmkcaaagreatdoor", sum := "8d3065e10c86e3af7b9fa5bc5f92b0451e28a3eab494e316b1b6254e3a04a2e5", func := "versine/versinelaw03.ChordTurned", spec := "chordTurned", inPlace := ["internal/abi.NoEscape", "internal/bytealg.MakeNoZero"], unfollowed := true, recurses := true, named := ["versine/chord.turns", "versine/chord.allKnown", "internal/strconv.uint64pow10", "math/bits.deBruijn32tab", "math/bits.deBruijn64tab"], apart := false, laid := [("math/bits.deBruijn32tab", laid_math_bits_deBruijn32tab), ("math/bits.deBruijn64tab", laid_math_bits_deBruijn64tab), ("internal/strconv.uint64pow10", laid_internal_strconv_uint64pow10), ("versine/chord.turns", laid_versine_chord_turns), ("versine/chord.allKnown", laid_versine_chord_allKnown)] }
def ChordTurnedSaid : Prop := chordTurnedRow.holds Tryz.pinned (OpenSpec.ofChange chordTurnedSpec)

/-- ITS FALSE NEIGHBOUR: 'it returns false'. Refute it at one input. -/
def chordTurnedWrong : ChangeSpec := { name := "chordTurned", fn := fun _ => fun
  | [d1, d2, d3] => { results := [.lit (.bool false)], args := [d1, d2, d3] }
  | _ => none }
def ChordTurnedWrongFalsely : Prop := chordTurnedRow.holds Tryz.pinned (OpenSpec.ofChange chordTurnedWrong)

/- THE SECOND FORM. 'bulk': how many values and letters a reading holds, each counted each time it is reached (what is shared counts as often as it is met; a slice's spare places count too). A statement '..UptoSaid' is the law's where the arguments, and the package variables that the reading takes, are together of bulk at most 1048576: NARROWER than '..Said'. Prove '..Said' where nothing that the law and all that it calls make is longer than what came in: it says more and counts as full. Else prove '..UptoSaid'. A law counts once. -/
mutual
def uptoBulk {H : Type} : DataW H → Nat
  | .lit (.string bytes) => bytes.length + 1
  | .lit _ => 1
  | .nil => 1
  | .ptr d => uptoBulk d + 1
  | .slice elems spare => uptoBulkAll elems + uptoBulkAll spare + 1
  | .agg parts => uptoBulkAll parts + 1
  | .iface _ d => uptoBulk d + 1
  | .map entries => uptoBulkEntries entries + 1
  | .held _ => 1
def uptoBulkAll {H : Type} : List (DataW H) → Nat
  | [] => 0
  | d :: r => uptoBulk d + uptoBulkAll r
def uptoBulkEntries {H : Type} : List (Lit × DataW H) → Nat
  | [] => 0
  | x :: r => uptoBulkEntry x + uptoBulkEntries r
def uptoBulkEntry {H : Type} : Lit × DataW H → Nat
  | (.string bytes, d) => bytes.length + uptoBulk d + 1
  | (_, d) => uptoBulk d + 1
 end
def uptoSmall : (H : Type) → List (DataW H) → Bool := fun _ ds => decide (uptoBulkAll ds ≤ 1048576)
def OpenSpec.upto (s : _root_.Go.ChangeSpec) : _root_.Go.OpenSpec := { _root_.Go.OpenSpec.ofChange s with cond := some uptoSmall }

/-- 'versinelaw03.ChordTraces', WHERE WHAT IT READS IS OF BULK AT MOST 1048576: true; the input reads as it did. -/
def chordTracesUptoRow : OpenClaim := { program := "ytcgodmeccmkcaaagreatdoor", sum := "8d3065e10c86e3af7b9fa5bc5f92b0451e28a3eab494e316b1b6254e3a04a2e5", func := "versine/versinelaw03.ChordTraces", spec := "chordTraces", inPlace := ["internal/abi.NoEscape", "internal/bytealg.MakeNoZero"], unfollowed := true, recurses := true, named := ["versine/chord.turns", "versine/chord.allKnown", "internal/strconv.uint64pow10", "math/bits.deBruijn32tab", "math/bits.deBruijn64tab"], apart := false, laid := [("math/bits.deBruijn32tab", laid_math_bits_deBruijn32tab), ("math/bits.deBruijn64tab", laid_math_bits_deBruijn64tab), ("internal/strconv.uint64pow10", laid_internal_strconv_uint64pow10), ("versine/chord.turns", laid_versine_chord_turns), ("versine/chord.allKnown", laid_versine_chord_allKnown)], narrowed := true }
def ChordTracesUptoSaid : Prop := chordTracesUptoRow.holds Tryz.pinned (OpenSpec.upto chordTracesSpec)

/-- 'versinelaw03.ChordVersines', WHERE WHAT IT READS IS OF BULK AT MOST 1048576: true; the input reads as it did. -/
def chordVersinesUptoRow : OpenClaim := { program := "ytcgodmeccmkcaaagreatdoor", sum := "8d3065e10c86e3af7b9fa5bc5f92b0451e28a3eab494e316b1b6254e3a04a2e5", func := "versine/versinelaw03.ChordVersines", spec := "chordVersines", inPlace := ["internal/abi.NoEscape", "internal/bytealg.MakeNoZero"], unfollowed := true, recurses := true, named := ["versine/chord.turns", "versine/chord.allKnown", "internal/strconv.uint64pow10", "math/bits.deBruijn32tab", "math/bits.deBruijn64tab"], apart := false, laid := [("math/bits.deBruijn32tab", laid_math_bits_deBruijn32tab), ("math/bits.deBruijn64tab", laid_math_bits_deBruijn64tab), ("internal/strconv.uint64pow10", laid_internal_strconv_uint64pow10), ("versine/chord.turns", laid_versine_chord_turns), ("versine/chord.allKnown", laid_versine_chord_allKnown)], narrowed := true }
def ChordVersinesUptoSaid : Prop := chordVersinesUptoRow.holds Tryz.pinned (OpenSpec.upto chordVersinesSpec)

/-- 'versinelaw03.ChordWeighted', WHERE WHAT IT READS IS OF BULK AT MOST 1048576: true; the input reads as it did. -/
def chordWeightedUptoRow : OpenClaim := { program := "ytcgodmeccmkcaaagreatdoor", sum := "8d3065e10c86e3af7b9fa5bc5f92b0451e28a3eab494e316b1b6254e3a04a2e5", func := "versine/versinelaw03.ChordWeighted", spec := "chordWeighted", inPlace := ["internal/abi.NoEscape", "internal/bytealg.MakeNoZero"], unfollowed := true, recurses := true, named := ["versine/chord.turns", "versine/chord.allKnown", "internal/strconv.uint64pow10", "math/bits.deBruijn32tab", "math/bits.deBruijn64tab"], apart := false, laid := [("math/bits.deBruijn32tab", laid_math_bits_deBruijn32tab), ("math/bits.deBruijn64tab", laid_math_bits_deBruijn64tab), ("internal/strconv.uint64pow10", laid_internal_strconv_uint64pow10), ("versine/chord.turns", laid_versine_chord_turns), ("versine/chord.allKnown", laid_versine_chord_allKnown)], narrowed := true }
def ChordWeightedUptoSaid : Prop := chordWeightedUptoRow.holds Tryz.pinned (OpenSpec.upto chordWeightedSpec)

/-- 'versinelaw03.ChordRestored', WHERE WHAT IT READS IS OF BULK AT MOST 1048576: true; the input reads as it did. -/
def chordRestoredUptoRow : OpenClaim := { program := "ytcgodmeccmkcaaagreatdoor", sum := "8d3065e10c86e3af7b9fa5bc5f92b0451e28a3eab494e316b1b6254e3a04a2e5", func := "versine/versinelaw03.ChordRestored", spec := "chordRestored", inPlace := ["internal/abi.NoEscape", "internal/bytealg.MakeNoZero"], unfollowed := true, recurses := true, named := ["versine/chord.turns", "versine/chord.allKnown", "internal/strconv.uint64pow10", "math/bits.deBruijn32tab", "math/bits.deBruijn64tab"], apart := false, laid := [("math/bits.deBruijn32tab", laid_math_bits_deBruijn32tab), ("math/bits.deBruijn64tab", laid_math_bits_deBruijn64tab), ("internal/strconv.uint64pow10", laid_internal_strconv_uint64pow10), ("versine/chord.turns", laid_versine_chord_turns), ("versine/chord.allKnown", laid_versine_chord_allKnown)], narrowed := true }
def ChordRestoredUptoSaid : Prop := chordRestoredUptoRow.holds Tryz.pinned (OpenSpec.upto chordRestoredSpec)

/-- 'versinelaw03.ChordBands', WHERE WHAT IT READS IS OF BULK AT MOST 1048576: true; the input reads as it did. -/
def chordBandsUptoRow : OpenClaim := { program := "ytcgodmeccmkcaaagreatdoor", sum := "8d3065e10c86e3af7b9fa5bc5f92b0451e28a3eab494e316b1b6254e3a04a2e5", func := "versine/versinelaw03.ChordBands", spec := "chordBands", inPlace := ["internal/abi.NoEscape", "internal/bytealg.MakeNoZero"], unfollowed := true, recurses := true, named := ["versine/chord.turns", "versine/chord.allKnown", "internal/strconv.uint64pow10", "math/bits.deBruijn32tab", "math/bits.deBruijn64tab"], apart := false, laid := [("math/bits.deBruijn32tab", laid_math_bits_deBruijn32tab), ("math/bits.deBruijn64tab", laid_math_bits_deBruijn64tab), ("internal/strconv.uint64pow10", laid_internal_strconv_uint64pow10), ("versine/chord.turns", laid_versine_chord_turns), ("versine/chord.allKnown", laid_versine_chord_allKnown)], narrowed := true }
def ChordBandsUptoSaid : Prop := chordBandsUptoRow.holds Tryz.pinned (OpenSpec.upto chordBandsSpec)

/-- 'versinelaw03.ChordRuns', WHERE WHAT IT READS IS OF BULK AT MOST 1048576: true; the input reads as it did. -/
def chordRunsUptoRow : OpenClaim := { program := "ytcgodmeccmkcaaagreatdoor", sum := "8d3065e10c86e3af7b9fa5bc5f92b0451e28a3eab494e316b1b6254e3a04a2e5", func := "versine/versinelaw03.ChordRuns", spec := "chordRuns", inPlace := ["internal/abi.NoEscape", "internal/bytealg.MakeNoZero", "math.Float64bits", "math.Float64frombits", "math.archTrunc"], unfollowed := true, recurses := true, named := ["versine/chord.turns", "versine/chord.allKnown", "internal/strconv.uint64pow10", "math/bits.deBruijn32tab", "math/bits.deBruijn64tab"], apart := false, laid := [("math/bits.deBruijn32tab", laid_math_bits_deBruijn32tab), ("math/bits.deBruijn64tab", laid_math_bits_deBruijn64tab), ("internal/strconv.uint64pow10", laid_internal_strconv_uint64pow10), ("versine/chord.turns", laid_versine_chord_turns), ("versine/chord.allKnown", laid_versine_chord_allKnown)], narrowed := true }
def ChordRunsUptoSaid : Prop := chordRunsUptoRow.holds Tryz.pinned (OpenSpec.upto chordRunsSpec)

/-- 'versinelaw03.ChordLong', WHERE WHAT IT READS IS OF BULK AT MOST 1048576: true; the input reads as it did. -/
def chordLongUptoRow : OpenClaim := { program := "ytcgodmeccmkcaaagreatdoor", sum := "8d3065e10c86e3af7b9fa5bc5f92b0451e28a3eab494e316b1b6254e3a04a2e5", func := "versine/versinelaw03.ChordLong", spec := "chordLong", inPlace := ["internal/abi.NoEscape", "internal/bytealg.MakeNoZero"], unfollowed := true, recurses := true, named := ["versine/chord.turns", "versine/chord.allKnown", "internal/strconv.uint64pow10", "math/bits.deBruijn32tab", "math/bits.deBruijn64tab"], apart := false, laid := [("math/bits.deBruijn32tab", laid_math_bits_deBruijn32tab), ("math/bits.deBruijn64tab", laid_math_bits_deBruijn64tab), ("internal/strconv.uint64pow10", laid_internal_strconv_uint64pow10), ("versine/chord.turns", laid_versine_chord_turns), ("versine/chord.allKnown", laid_versine_chord_allKnown)], narrowed := true }
def ChordLongUptoSaid : Prop := chordLongUptoRow.holds Tryz.pinned (OpenSpec.upto chordLongSpec)

/-- 'versinelaw03.ChordTurned', WHERE WHAT IT READS IS OF BULK AT MOST 1048576: true; the input reads as it did. -/
def chordTurnedUptoRow : OpenClaim := { program := "ytcgodmeccmkcaaagreatdoor", sum := "8d3065e10c86e3af7b9fa5bc5f92b0451e28a3eab494e316b1b6254e3a04a2e5", func := "versine/versinelaw03.ChordTurned", spec := "chordTurned", inPlace := ["internal/abi.NoEscape", "internal/bytealg.MakeNoZero"], unfollowed := true, recurses := true, named := ["versine/chord.turns", "versine/chord.allKnown", "internal/strconv.uint64pow10", "math/bits.deBruijn32tab", "math/bits.deBruijn64tab"], apart := false, laid := [("math/bits.deBruijn32tab", laid_math_bits_deBruijn32tab), ("math/bits.deBruijn64tab", laid_math_bits_deBruijn64tab), ("internal/strconv.uint64pow10", laid_internal_strconv_uint64pow10), ("versine/chord.turns", laid_versine_chord_turns), ("versine/chord.allKnown", laid_versine_chord_allKnown)], narrowed := true }
def ChordTurnedUptoSaid : Prop := chordTurnedUptoRow.holds Tryz.pinned (OpenSpec.upto chordTurnedSpec)

end Rows
end Go.Proofs.YtcgodmeccmkcaaaGreatDoor
