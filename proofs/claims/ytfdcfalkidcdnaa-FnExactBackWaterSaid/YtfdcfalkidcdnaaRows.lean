/-
  No cell of these rows narrows 'for every input' (looked for: loops, veiled, ifaces, maps, wideKeys, modest, calm, conditions, laid).
  DERIVED. THE GIVEN ROWS OF THIS SEAT. 12 by the template 'for every input the law returns true; each argument reads behind the call as it read before'; 0 by the template 'total and deterministic' (their statements: YtfdcfalkidcdnaaTotals.lean).
  GIVEN WITH THE SEED: the statements are not yours to turn. If you find one false, say at which input.
  Laid BY PROGRAM, IN A SANDBOX (cutbox-rows.mjs): the forced cells as the released guide's own fill.sh prints them over the translation 801111e915bc8b63… (all of the seat's roots in one cut). By AI agents, Wed Nov 11 2026. No macro, syntax, notation, axiom, sorry.
-/
import Derived.Test.YtfdcfalkidcdnaaChecked
import GoSem.Claim
import GoSem.ClaimJoined
import GoSem.ClaimMapViews
import Derived.JoinedTies
import Derived.KernelRfl
namespace Go.Proofs.Ytfdcfalkidcdnaa
/- THE CELL 'sum', in the pinned program and in every row, IS THE sha256 OF THE DUMP (.gsa) THAT YtfdcfalkidcdnaaProg.lean LOADS. Nothing in Lean hashes anything: it is a label: what it is worth is what the hold of that sum in a sandbox is worth. -/
noncomputable def Try.pinned : Pinned := { name := "ytfdcfalkidcdnaa", sum := "801111e915bc8b63576b553a593a284ead6718500527957a58957b883425d78b", checked := Try.checked }
namespace Rows
def none {H : Type} : Left H := { results := [], args := [] }

/-- 'laws.FnExactCriticalDepth': WHATEVER THE INPUT: true; the input reads as it did. -/
def fnExactCriticalDepthSpec : ChangeSpec := { name := "fnExactCriticalDepth", fn := fun _ => fun
  | [d1, d2] => { results := [.lit (.bool true)], args := [d1, d2] }
  | _ => none }
def fnExactCriticalDepthRow : OpenClaim := { program := "ytfdcfalkidcdnaa", sum := "801111e915bc8b63576b553a593a284ead6718500527957a58957b883425d78b", func := "loop.example/g01302/laws.FnExactCriticalDepth", spec := "fnExactCriticalDepth", inPlace := ["math.Float32bits"], unfollowed := true, recurses := true, apart := false }
def FnExactCriticalDepthSaid : Prop := fnExactCriticalDepthRow.holds Try.pinned (OpenSpec.ofChange fnExactCriticalDepthSpec)

/-- ITS FALSE NEIGHBOUR: 'it returns false'. Refute it at one input. -/
def fnExactCriticalDepthWrong : ChangeSpec := { name := "fnExactCriticalDepth", fn := fun _ => fun
  | [d1, d2] => { results := [.lit (.bool false)], args := [d1, d2] }
  | _ => none }
def FnExactCriticalDepthWrongFalsely : Prop := fnExactCriticalDepthRow.holds Try.pinned (OpenSpec.ofChange fnExactCriticalDepthWrong)

/-- 'laws.FnExactIsMild': WHATEVER THE INPUT: true; the input reads as it did. -/
def fnExactIsMildSpec : ChangeSpec := { name := "fnExactIsMild", fn := fun _ => fun
  | [d1, d2] => { results := [.lit (.bool true)], args := [d1, d2] }
  | _ => none }
def fnExactIsMildRow : OpenClaim := { program := "ytfdcfalkidcdnaa", sum := "801111e915bc8b63576b553a593a284ead6718500527957a58957b883425d78b", func := "loop.example/g01302/laws.FnExactIsMild", spec := "fnExactIsMild", inPlace := ["math.sqrt", "math.Float64frombits", "math.Float64bits", "math.Float32bits"], unfollowed := true, recurses := true, apart := false }
def FnExactIsMildSaid : Prop := fnExactIsMildRow.holds Try.pinned (OpenSpec.ofChange fnExactIsMildSpec)

/-- ITS FALSE NEIGHBOUR: 'it returns false'. Refute it at one input. -/
def fnExactIsMildWrong : ChangeSpec := { name := "fnExactIsMild", fn := fun _ => fun
  | [d1, d2] => { results := [.lit (.bool false)], args := [d1, d2] }
  | _ => none }
def FnExactIsMildWrongFalsely : Prop := fnExactIsMildRow.holds Try.pinned (OpenSpec.ofChange fnExactIsMildWrong)

/-- 'laws.FnExactOtherDepth': WHATEVER THE INPUT: true; the input reads as it did. -/
def fnExactOtherDepthSpec : ChangeSpec := { name := "fnExactOtherDepth", fn := fun _ => fun
  | [d1, d2, d3] => { results := [.lit (.bool true)], args := [d1, d2, d3] }
  | _ => none }
def fnExactOtherDepthRow : OpenClaim := { program := "ytfdcfalkidcdnaa", sum := "801111e915bc8b63576b553a593a284ead6718500527957a58957b883425d78b", func := "loop.example/g01302/laws.FnExactOtherDepth", spec := "fnExactOtherDepth", inPlace := ["math.Float32bits"], unfollowed := true, recurses := true, apart := false }
def FnExactOtherDepthSaid : Prop := fnExactOtherDepthRow.holds Try.pinned (OpenSpec.ofChange fnExactOtherDepthSpec)

/-- ITS FALSE NEIGHBOUR: 'it returns false'. Refute it at one input. -/
def fnExactOtherDepthWrong : ChangeSpec := { name := "fnExactOtherDepth", fn := fun _ => fun
  | [d1, d2, d3] => { results := [.lit (.bool false)], args := [d1, d2, d3] }
  | _ => none }
def FnExactOtherDepthWrongFalsely : Prop := fnExactOtherDepthRow.holds Try.pinned (OpenSpec.ofChange fnExactOtherDepthWrong)

/-- 'laws.FnExactJumpDepth': WHATEVER THE INPUT: true; the input reads as it did. -/
def fnExactJumpDepthSpec : ChangeSpec := { name := "fnExactJumpDepth", fn := fun _ => fun
  | [d1, d2, d3] => { results := [.lit (.bool true)], args := [d1, d2, d3] }
  | _ => none }
def fnExactJumpDepthRow : OpenClaim := { program := "ytfdcfalkidcdnaa", sum := "801111e915bc8b63576b553a593a284ead6718500527957a58957b883425d78b", func := "loop.example/g01302/laws.FnExactJumpDepth", spec := "fnExactJumpDepth", inPlace := ["math.Float32bits"], unfollowed := true, recurses := true, apart := false }
def FnExactJumpDepthSaid : Prop := fnExactJumpDepthRow.holds Try.pinned (OpenSpec.ofChange fnExactJumpDepthSpec)

/-- ITS FALSE NEIGHBOUR: 'it returns false'. Refute it at one input. -/
def fnExactJumpDepthWrong : ChangeSpec := { name := "fnExactJumpDepth", fn := fun _ => fun
  | [d1, d2, d3] => { results := [.lit (.bool false)], args := [d1, d2, d3] }
  | _ => none }
def FnExactJumpDepthWrongFalsely : Prop := fnExactJumpDepthRow.holds Try.pinned (OpenSpec.ofChange fnExactJumpDepthWrong)

/-- 'laws.FnExactJumpLoss': WHATEVER THE INPUT: true; the input reads as it did. -/
def fnExactJumpLossSpec : ChangeSpec := { name := "fnExactJumpLoss", fn := fun _ => fun
  | [d1, d2, d3] => { results := [.lit (.bool true)], args := [d1, d2, d3] }
  | _ => none }
def fnExactJumpLossRow : OpenClaim := { program := "ytfdcfalkidcdnaa", sum := "801111e915bc8b63576b553a593a284ead6718500527957a58957b883425d78b", func := "loop.example/g01302/laws.FnExactJumpLoss", spec := "fnExactJumpLoss", inPlace := ["math.Float32bits"], unfollowed := true, recurses := true, apart := false }
def FnExactJumpLossSaid : Prop := fnExactJumpLossRow.holds Try.pinned (OpenSpec.ofChange fnExactJumpLossSpec)

/-- ITS FALSE NEIGHBOUR: 'it returns false'. Refute it at one input. -/
def fnExactJumpLossWrong : ChangeSpec := { name := "fnExactJumpLoss", fn := fun _ => fun
  | [d1, d2, d3] => { results := [.lit (.bool false)], args := [d1, d2, d3] }
  | _ => none }
def FnExactJumpLossWrongFalsely : Prop := fnExactJumpLossRow.holds Try.pinned (OpenSpec.ofChange fnExactJumpLossWrong)

/-- 'laws.FnExactBackStep': WHATEVER THE INPUT: true; the input reads as it did. -/
def fnExactBackStepSpec : ChangeSpec := { name := "fnExactBackStep", fn := fun _ => fun
  | [d1, d2, d3, d4] => { results := [.lit (.bool true)], args := [d1, d2, d3, d4] }
  | _ => none }
def fnExactBackStepRow : OpenClaim := { program := "ytfdcfalkidcdnaa", sum := "801111e915bc8b63576b553a593a284ead6718500527957a58957b883425d78b", func := "loop.example/g01302/laws.FnExactBackStep", spec := "fnExactBackStep", inPlace := ["math.sqrt", "math.Float64frombits", "math.Float64bits", "math.Float32bits"], unfollowed := true, recurses := true, apart := false }
def FnExactBackStepSaid : Prop := fnExactBackStepRow.holds Try.pinned (OpenSpec.ofChange fnExactBackStepSpec)

/-- ITS FALSE NEIGHBOUR: 'it returns false'. Refute it at one input. -/
def fnExactBackStepWrong : ChangeSpec := { name := "fnExactBackStep", fn := fun _ => fun
  | [d1, d2, d3, d4] => { results := [.lit (.bool false)], args := [d1, d2, d3, d4] }
  | _ => none }
def FnExactBackStepWrongFalsely : Prop := fnExactBackStepRow.holds Try.pinned (OpenSpec.ofChange fnExactBackStepWrong)

/-- 'laws.FnExactBackWater': WHATEVER THE INPUT: true; the input reads as it did. -/
def fnExactBackWaterSpec : ChangeSpec := { name := "fnExactBackWater", fn := fun _ => fun
  | [d1, d2, d3, d4, d5] => { results := [.lit (.bool true)], args := [d1, d2, d3, d4, d5] }
  | _ => none }
def fnExactBackWaterRow : OpenClaim := { program := "ytfdcfalkidcdnaa", sum := "801111e915bc8b63576b553a593a284ead6718500527957a58957b883425d78b", func := "loop.example/g01302/laws.FnExactBackWater", spec := "fnExactBackWater", inPlace := ["math.sqrt", "math.Float64frombits", "math.Float64bits", "math.Float32bits"], unfollowed := true, recurses := true, apart := false }
def FnExactBackWaterSaid : Prop := fnExactBackWaterRow.holds Try.pinned (OpenSpec.ofChange fnExactBackWaterSpec)

/-- ITS FALSE NEIGHBOUR: 'it returns false'. Refute it at one input. -/
def fnExactBackWaterWrong : ChangeSpec := { name := "fnExactBackWater", fn := fun _ => fun
  | [d1, d2, d3, d4, d5] => { results := [.lit (.bool false)], args := [d1, d2, d3, d4, d5] }
  | _ => none }
def FnExactBackWaterWrongFalsely : Prop := fnExactBackWaterRow.holds Try.pinned (OpenSpec.ofChange fnExactBackWaterWrong)

/-- 'laws.FnExactSteepnessAt': WHATEVER THE INPUT: true; the input reads as it did. -/
def fnExactSteepnessAtSpec : ChangeSpec := { name := "fnExactSteepnessAt", fn := fun _ => fun
  | [d1, d2, d3] => { results := [.lit (.bool true)], args := [d1, d2, d3] }
  | _ => none }
def fnExactSteepnessAtRow : OpenClaim := { program := "ytfdcfalkidcdnaa", sum := "801111e915bc8b63576b553a593a284ead6718500527957a58957b883425d78b", func := "loop.example/g01302/laws.FnExactSteepnessAt", spec := "fnExactSteepnessAt", inPlace := ["math.sqrt", "math.Float64frombits", "math.Float64bits", "math.Float32bits"], apart := false }
def FnExactSteepnessAtSaid : Prop := fnExactSteepnessAtRow.holds Try.pinned (OpenSpec.ofChange fnExactSteepnessAtSpec)

/-- ITS FALSE NEIGHBOUR: 'it returns false'. Refute it at one input. -/
def fnExactSteepnessAtWrong : ChangeSpec := { name := "fnExactSteepnessAt", fn := fun _ => fun
  | [d1, d2, d3] => { results := [.lit (.bool false)], args := [d1, d2, d3] }
  | _ => none }
def FnExactSteepnessAtWrongFalsely : Prop := fnExactSteepnessAtRow.holds Try.pinned (OpenSpec.ofChange fnExactSteepnessAtWrong)

/-- 'laws.FnDepths': WHATEVER THE INPUT: true; the input reads as it did. -/
def fnDepthsSpec : ChangeSpec := { name := "fnDepths", fn := fun _ => fun
  | [d1, d2] => { results := [.lit (.bool true)], args := [d1, d2] }
  | _ => none }
def fnDepthsRow : OpenClaim := { program := "ytfdcfalkidcdnaa", sum := "801111e915bc8b63576b553a593a284ead6718500527957a58957b883425d78b", func := "loop.example/g01302/laws.FnDepths", spec := "fnDepths", inPlace := ["math.Float32bits", "math.sqrt", "math.Float64frombits", "math.Float64bits"], unfollowed := true, recurses := true, apart := false }
def FnDepthsSaid : Prop := fnDepthsRow.holds Try.pinned (OpenSpec.ofChange fnDepthsSpec)

/-- ITS FALSE NEIGHBOUR: 'it returns false'. Refute it at one input. -/
def fnDepthsWrong : ChangeSpec := { name := "fnDepths", fn := fun _ => fun
  | [d1, d2] => { results := [.lit (.bool false)], args := [d1, d2] }
  | _ => none }
def FnDepthsWrongFalsely : Prop := fnDepthsRow.holds Try.pinned (OpenSpec.ofChange fnDepthsWrong)

/-- 'laws.FnBacked': WHATEVER THE INPUT: true; the input reads as it did. -/
def fnBackedSpec : ChangeSpec := { name := "fnBacked", fn := fun _ => fun
  | [d1, d2] => { results := [.lit (.bool true)], args := [d1, d2] }
  | _ => none }
def fnBackedRow : OpenClaim := { program := "ytfdcfalkidcdnaa", sum := "801111e915bc8b63576b553a593a284ead6718500527957a58957b883425d78b", func := "loop.example/g01302/laws.FnBacked", spec := "fnBacked", inPlace := ["math.Float32bits", "math.sqrt", "math.Float64frombits", "math.Float64bits"], unfollowed := true, recurses := true, apart := false }
def FnBackedSaid : Prop := fnBackedRow.holds Try.pinned (OpenSpec.ofChange fnBackedSpec)

/-- ITS FALSE NEIGHBOUR: 'it returns false'. Refute it at one input. -/
def fnBackedWrong : ChangeSpec := { name := "fnBacked", fn := fun _ => fun
  | [d1, d2] => { results := [.lit (.bool false)], args := [d1, d2] }
  | _ => none }
def FnBackedWrongFalsely : Prop := fnBackedRow.holds Try.pinned (OpenSpec.ofChange fnBackedWrong)

/-- 'laws.FnExactNormalDepth': WHATEVER THE INPUT: true; the input reads as it did. -/
def fnExactNormalDepthSpec : ChangeSpec := { name := "fnExactNormalDepth", fn := fun _ => fun
  | [d1, d2] => { results := [.lit (.bool true)], args := [d1, d2] }
  | _ => none }
def fnExactNormalDepthRow : OpenClaim := { program := "ytfdcfalkidcdnaa", sum := "801111e915bc8b63576b553a593a284ead6718500527957a58957b883425d78b", func := "loop.example/g01302/laws.FnExactNormalDepth", spec := "fnExactNormalDepth", inPlace := ["math.sqrt", "math.Float64frombits", "math.Float64bits", "math.Float32bits"], unfollowed := true, recurses := true, apart := false }
def FnExactNormalDepthSaid : Prop := fnExactNormalDepthRow.holds Try.pinned (OpenSpec.ofChange fnExactNormalDepthSpec)

/-- ITS FALSE NEIGHBOUR: 'it returns false'. Refute it at one input. -/
def fnExactNormalDepthWrong : ChangeSpec := { name := "fnExactNormalDepth", fn := fun _ => fun
  | [d1, d2] => { results := [.lit (.bool false)], args := [d1, d2] }
  | _ => none }
def FnExactNormalDepthWrongFalsely : Prop := fnExactNormalDepthRow.holds Try.pinned (OpenSpec.ofChange fnExactNormalDepthWrong)

/-- 'laws.FnExactPushAt': WHATEVER THE INPUT: true; the input reads as it did. -/
def fnExactPushAtSpec : ChangeSpec := { name := "fnExactPushAt", fn := fun _ => fun
  | [d1, d2, d3] => { results := [.lit (.bool true)], args := [d1, d2, d3] }
  | _ => none }
def fnExactPushAtRow : OpenClaim := { program := "ytfdcfalkidcdnaa", sum := "801111e915bc8b63576b553a593a284ead6718500527957a58957b883425d78b", func := "loop.example/g01302/laws.FnExactPushAt", spec := "fnExactPushAt", inPlace := ["math.Float32bits"], apart := false }
def FnExactPushAtSaid : Prop := fnExactPushAtRow.holds Try.pinned (OpenSpec.ofChange fnExactPushAtSpec)

/-- ITS FALSE NEIGHBOUR: 'it returns false'. Refute it at one input. -/
def fnExactPushAtWrong : ChangeSpec := { name := "fnExactPushAt", fn := fun _ => fun
  | [d1, d2, d3] => { results := [.lit (.bool false)], args := [d1, d2, d3] }
  | _ => none }
def FnExactPushAtWrongFalsely : Prop := fnExactPushAtRow.holds Try.pinned (OpenSpec.ofChange fnExactPushAtWrong)

/- THE SECOND FORM. 'bulk': how many values and letters a reading holds, each counted each time it is reached (what is shared counts as often as it is met; a slice's spare places count too). A statement '..UptoSaid' is the law's where the arguments, and the package variables that the reading takes, are together of bulk at most 1048576: NARROWER than '..Said'. Prove '..Said' where nothing that the law and all that it calls make is longer than what came in: it says more and counts as full. Else prove '..UptoSaid'. A law counts once. -/
mutual
def uptoBulk {H : Type} : DataW H → Nat
  | .lit (.string bytes) => bytes.length + 1
  | .lit _ => 1
  | .nil => 1
  | .ptr d => uptoBulk d + 1
  | .slice elems spare => uptoBulkAll elems + uptoBulkAll spare + 1
  | .agg parts => uptoBulkAll parts + 1
  | .iface _ d => uptoBulk d + 1
  | .map entries => uptoBulkEntries entries + 1
  | .held _ => 1
def uptoBulkAll {H : Type} : List (DataW H) → Nat
  | [] => 0
  | d :: r => uptoBulk d + uptoBulkAll r
def uptoBulkEntries {H : Type} : List (Lit × DataW H) → Nat
  | [] => 0
  | x :: r => uptoBulkEntry x + uptoBulkEntries r
def uptoBulkEntry {H : Type} : Lit × DataW H → Nat
  | (.string bytes, d) => bytes.length + uptoBulk d + 1
  | (_, d) => uptoBulk d + 1
 end
def uptoSmall : (H : Type) → List (DataW H) → Bool := fun _ ds => decide (uptoBulkAll ds ≤ 1048576)
def OpenSpec.upto (s : _root_.Go.ChangeSpec) : _root_.Go.OpenSpec := { _root_.Go.OpenSpec.ofChange s with cond := some uptoSmall }

/-- 'laws.FnExactCriticalDepth', WHERE WHAT IT READS IS OF BULK AT MOST 1048576: true; the input reads as it did. -/
def fnExactCriticalDepthUptoRow : OpenClaim := { program := "ytfdcfalkidcdnaa", sum := "801111e915bc8b63576b553a593a284ead6718500527957a58957b883425d78b", func := "loop.example/g01302/laws.FnExactCriticalDepth", spec := "fnExactCriticalDepth", inPlace := ["math.Float32bits"], unfollowed := true, recurses := true, apart := false, narrowed := true }
def FnExactCriticalDepthUptoSaid : Prop := fnExactCriticalDepthUptoRow.holds Try.pinned (OpenSpec.upto fnExactCriticalDepthSpec)

/-- 'laws.FnExactIsMild', WHERE WHAT IT READS IS OF BULK AT MOST 1048576: true; the input reads as it did. -/
def fnExactIsMildUptoRow : OpenClaim := { program := "ytfdcfalkidcdnaa", sum := "801111e915bc8b63576b553a593a284ead6718500527957a58957b883425d78b", func := "loop.example/g01302/laws.FnExactIsMild", spec := "fnExactIsMild", inPlace := ["math.sqrt", "math.Float64frombits", "math.Float64bits", "math.Float32bits"], unfollowed := true, recurses := true, apart := false, narrowed := true }
def FnExactIsMildUptoSaid : Prop := fnExactIsMildUptoRow.holds Try.pinned (OpenSpec.upto fnExactIsMildSpec)

/-- 'laws.FnExactOtherDepth', WHERE WHAT IT READS IS OF BULK AT MOST 1048576: true; the input reads as it did. -/
def fnExactOtherDepthUptoRow : OpenClaim := { program := "ytfdcfalkidcdnaa", sum := "801111e915bc8b63576b553a593a284ead6718500527957a58957b883425d78b", func := "loop.example/g01302/laws.FnExactOtherDepth", spec := "fnExactOtherDepth", inPlace := ["math.Float32bits"], unfollowed := true, recurses := true, apart := false, narrowed := true }
def FnExactOtherDepthUptoSaid : Prop := fnExactOtherDepthUptoRow.holds Try.pinned (OpenSpec.upto fnExactOtherDepthSpec)

/-- 'laws.FnExactJumpDepth', WHERE WHAT IT READS IS OF BULK AT MOST 1048576: true; the input reads as it did. -/
def fnExactJumpDepthUptoRow : OpenClaim := { program := "ytfdcfalkidcdnaa", sum := "801111e915bc8b63576b553a593a284ead6718500527957a58957b883425d78b", func := "loop.example/g01302/laws.FnExactJumpDepth", spec := "fnExactJumpDepth", inPlace := ["math.Float32bits"], unfollowed := true, recurses := true, apart := false, narrowed := true }
def FnExactJumpDepthUptoSaid : Prop := fnExactJumpDepthUptoRow.holds Try.pinned (OpenSpec.upto fnExactJumpDepthSpec)

/-- 'laws.FnExactJumpLoss', WHERE WHAT IT READS IS OF BULK AT MOST 1048576: true; the input reads as it did. -/
def fnExactJumpLossUptoRow : OpenClaim := { program := "ytfdcfalkidcdnaa", sum := "801111e915bc8b63576b553a593a284ead6718500527957a58957b883425d78b", func := "loop.example/g01302/laws.FnExactJumpLoss", spec := "fnExactJumpLoss", inPlace := ["math.Float32bits"], unfollowed := true, recurses := true, apart := false, narrowed := true }
def FnExactJumpLossUptoSaid : Prop := fnExactJumpLossUptoRow.holds Try.pinned (OpenSpec.upto fnExactJumpLossSpec)

/-- 'laws.FnExactBackStep', WHERE WHAT IT READS IS OF BULK AT MOST 1048576: true; the input reads as it did. -/
def fnExactBackStepUptoRow : OpenClaim := { program := "ytfdcfalkidcdnaa", sum := "801111e915bc8b63576b553a593a284ead6718500527957a58957b883425d78b", func := "loop.example/g01302/laws.FnExactBackStep", spec := "fnExactBackStep", inPlace := ["math.sqrt", "math.Float64frombits", "math.Float64bits", "math.Float32bits"], unfollowed := true, recurses := true, apart := false, narrowed := true }
def FnExactBackStepUptoSaid : Prop := fnExactBackStepUptoRow.holds Try.pinned (OpenSpec.upto fnExactBackStepSpec)

/-- 'laws.FnExactBackWater', WHERE WHAT IT READS IS OF BULK AT MOST 1048576: true; the input reads as it did. -/
def fnExactBackWaterUptoRow : OpenClaim := { program := "ytfdcfalkidcdnaa", sum := "801111e915bc8b63576b553a593a284ead6718500527957a58957b883425d78b", func := "loop.example/g01302/laws.FnExactBackWater", spec := "fnExactBackWater", inPlace := ["math.sqrt", "math.Float64frombits", "math.Float64bits", "math.Float32bits"], unfollowed := true, recurses := true, apart := false, narrowed := true }
def FnExactBackWaterUptoSaid : Prop := fnExactBackWaterUptoRow.holds Try.pinned (OpenSpec.upto fnExactBackWaterSpec)

/-- 'laws.FnExactSteepnessAt', WHERE WHAT IT READS IS OF BULK AT MOST 1048576: true; the input reads as it did. -/
def fnExactSteepnessAtUptoRow : OpenClaim := { program := "ytfdcfalkidcdnaa", sum := "801111e915bc8b63576b553a593a284ead6718500527957a58957b883425d78b", func := "loop.example/g01302/laws.FnExactSteepnessAt", spec := "fnExactSteepnessAt", inPlace := ["math.sqrt", "math.Float64frombits", "math.Float64bits", "math.Float32bits"], apart := false, narrowed := true }
def FnExactSteepnessAtUptoSaid : Prop := fnExactSteepnessAtUptoRow.holds Try.pinned (OpenSpec.upto fnExactSteepnessAtSpec)

/-- 'laws.FnDepths', WHERE WHAT IT READS IS OF BULK AT MOST 1048576: true; the input reads as it did. -/
def fnDepthsUptoRow : OpenClaim := { program := "ytfdcfalkidcdnaa", sum := "801111e915bc8b63576b553a593a284ead6718500527957a58957b883425d78b", func := "loop.example/g01302/laws.FnDepths", spec := "fnDepths", inPlace := ["math.Float32bits", "math.sqrt", "math.Float64frombits", "math.Float64bits"], unfollowed := true, recurses := true, apart := false, narrowed := true }
def FnDepthsUptoSaid : Prop := fnDepthsUptoRow.holds Try.pinned (OpenSpec.upto fnDepthsSpec)

/-- 'laws.FnBacked', WHERE WHAT IT READS IS OF BULK AT MOST 1048576: true; the input reads as it did. -/
def fnBackedUptoRow : OpenClaim := { program := "ytfdcfalkidcdnaa", sum := "801111e915bc8b63576b553a593a284ead6718500527957a58957b883425d78b", func := "loop.example/g01302/laws.FnBacked", spec := "fnBacked", inPlace := ["math.Float32bits", "math.sqrt", "math.Float64frombits", "math.Float64bits"], unfollowed := true, recurses := true, apart := false, narrowed := true }
def FnBackedUptoSaid : Prop := fnBackedUptoRow.holds Try.pinned (OpenSpec.upto fnBackedSpec)

/-- 'laws.FnExactNormalDepth', WHERE WHAT IT READS IS OF BULK AT MOST 1048576: true; the input reads as it did. -/
def fnExactNormalDepthUptoRow : OpenClaim := { program := "ytfdcfalkidcdnaa", sum := "801111e915bc8b63576b553a593a284ead6718500527957a58957b883425d78b", func := "loop.example/g01302/laws.FnExactNormalDepth", spec := "fnExactNormalDepth", inPlace := ["math.sqrt", "math.Float64frombits", "math.Float64bits", "math.Float32bits"], unfollowed := true, recurses := true, apart := false, narrowed := true }
def FnExactNormalDepthUptoSaid : Prop := fnExactNormalDepthUptoRow.holds Try.pinned (OpenSpec.upto fnExactNormalDepthSpec)

/-- 'laws.FnExactPushAt', WHERE WHAT IT READS IS OF BULK AT MOST 1048576: true; the input reads as it did. -/
def fnExactPushAtUptoRow : OpenClaim := { program := "ytfdcfalkidcdnaa", sum := "801111e915bc8b63576b553a593a284ead6718500527957a58957b883425d78b", func := "loop.example/g01302/laws.FnExactPushAt", spec := "fnExactPushAt", inPlace := ["math.Float32bits"], apart := false, narrowed := true }
def FnExactPushAtUptoSaid : Prop := fnExactPushAtUptoRow.holds Try.pinned (OpenSpec.upto fnExactPushAtSpec)

end Rows
end Go.Proofs.Ytfdcfalkidcdnaa
