/-
  No cell of these rows narrows 'for every input' (looked for: loops, veiled, ifaces, maps, wideKeys, modest, calm, conditions, laid).
  DERIVED. THE GIVEN ROWS OF THIS SEAT. 12 by the template 'for every input the law returns true; each argument reads behind the call as it read before'; 0 by the template 'total and deterministic' (their statements: YtgjgggclcmcpgacTotals.lean).
  GIVEN WITH THE SEED: the statements are not yours to turn. If you find one false, say at which input.
  Laid BY PROGRAM, IN A SANDBOX (cutbox-rows.mjs): the forced cells as the released guide's own fill.sh prints them over the translation 14739873b56bceb0… (all of the seat's roots in one cut). By AI agents, Wed Nov 11 2026. No macro, syntax, notation, axiom, sorry.
-/
import Derived.Test.YtgjgggclcmcpgacChecked
import GoSem.Claim
import GoSem.ClaimJoined
import GoSem.ClaimMapViews
import Derived.JoinedTies
import Derived.KernelRfl
namespace Go.Proofs.Ytgjgggclcmcpgac
/- THE CELL 'sum', in the pinned program and in every row, IS THE sha256 OF THE DUMP (.gsa) THAT YtgjgggclcmcpgacProg.lean LOADS. Nothing in Lean hashes anything: it is a label: what it is worth is what the hold of that sum in a sandbox is worth. -/
noncomputable def Try.pinned : Pinned := { name := "ytgjgggclcmcpgac", sum := "14739873b56bceb06e7a5c5963f18473586b0eac6e87382423218d9677efd630", checked := Try.checked }
namespace Rows
def none {H : Type} : Left H := { results := [], args := [] }

/-- 'laws.FnExactWeirOver': WHATEVER THE INPUT: true; the input reads as it did. -/
def fnExactWeirOverSpec : ChangeSpec := { name := "fnExactWeirOver", fn := fun _ => fun
  | [d1, d2, d3, d4] => { results := [.lit (.bool true)], args := [d1, d2, d3, d4] }
  | _ => none }
def fnExactWeirOverRow : OpenClaim := { program := "ytgjgggclcmcpgac", sum := "14739873b56bceb06e7a5c5963f18473586b0eac6e87382423218d9677efd630", func := "loop.example/g01302/laws.FnExactWeirOver", spec := "fnExactWeirOver", inPlace := ["math.sqrt", "math.Float32bits"], apart := false }
def FnExactWeirOverSaid : Prop := fnExactWeirOverRow.holds Try.pinned (OpenSpec.ofChange fnExactWeirOverSpec)

/-- ITS FALSE NEIGHBOUR: 'it returns false'. Refute it at one input. -/
def fnExactWeirOverWrong : ChangeSpec := { name := "fnExactWeirOver", fn := fun _ => fun
  | [d1, d2, d3, d4] => { results := [.lit (.bool false)], args := [d1, d2, d3, d4] }
  | _ => none }
def FnExactWeirOverWrongFalsely : Prop := fnExactWeirOverRow.holds Try.pinned (OpenSpec.ofChange fnExactWeirOverWrong)

/-- 'laws.FnExactLevelFor': WHATEVER THE INPUT: true; the input reads as it did. -/
def fnExactLevelForSpec : ChangeSpec := { name := "fnExactLevelFor", fn := fun _ => fun
  | [d1, d2, d3] => { results := [.lit (.bool true)], args := [d1, d2, d3] }
  | _ => none }
def fnExactLevelForRow : OpenClaim := { program := "ytgjgggclcmcpgac", sum := "14739873b56bceb06e7a5c5963f18473586b0eac6e87382423218d9677efd630", func := "loop.example/g01302/laws.FnExactLevelFor", spec := "fnExactLevelFor", inPlace := ["math.Float64frombits", "math.Float64bits", "math.Float32bits"], apart := false }
def FnExactLevelForSaid : Prop := fnExactLevelForRow.holds Try.pinned (OpenSpec.ofChange fnExactLevelForSpec)

/-- ITS FALSE NEIGHBOUR: 'it returns false'. Refute it at one input. -/
def fnExactLevelForWrong : ChangeSpec := { name := "fnExactLevelFor", fn := fun _ => fun
  | [d1, d2, d3] => { results := [.lit (.bool false)], args := [d1, d2, d3] }
  | _ => none }
def FnExactLevelForWrongFalsely : Prop := fnExactLevelForRow.holds Try.pinned (OpenSpec.ofChange fnExactLevelForWrong)

/-- 'laws.FnExactGateUnder': WHATEVER THE INPUT: true; the input reads as it did. -/
def fnExactGateUnderSpec : ChangeSpec := { name := "fnExactGateUnder", fn := fun _ => fun
  | [d1, d2, d3, d4] => { results := [.lit (.bool true)], args := [d1, d2, d3, d4] }
  | _ => none }
def fnExactGateUnderRow : OpenClaim := { program := "ytgjgggclcmcpgac", sum := "14739873b56bceb06e7a5c5963f18473586b0eac6e87382423218d9677efd630", func := "loop.example/g01302/laws.FnExactGateUnder", spec := "fnExactGateUnder", inPlace := ["math.sqrt", "math.Float32bits"], apart := false }
def FnExactGateUnderSaid : Prop := fnExactGateUnderRow.holds Try.pinned (OpenSpec.ofChange fnExactGateUnderSpec)

/-- ITS FALSE NEIGHBOUR: 'it returns false'. Refute it at one input. -/
def fnExactGateUnderWrong : ChangeSpec := { name := "fnExactGateUnder", fn := fun _ => fun
  | [d1, d2, d3, d4] => { results := [.lit (.bool false)], args := [d1, d2, d3, d4] }
  | _ => none }
def FnExactGateUnderWrongFalsely : Prop := fnExactGateUnderRow.holds Try.pinned (OpenSpec.ofChange fnExactGateUnderWrong)

/-- 'laws.FnExactPipeLoss': WHATEVER THE INPUT: true; the input reads as it did. -/
def fnExactPipeLossSpec : ChangeSpec := { name := "fnExactPipeLoss", fn := fun _ => fun
  | [d1, d2, d3, d4] => { results := [.lit (.bool true)], args := [d1, d2, d3, d4] }
  | _ => none }
def fnExactPipeLossRow : OpenClaim := { program := "ytgjgggclcmcpgac", sum := "14739873b56bceb06e7a5c5963f18473586b0eac6e87382423218d9677efd630", func := "loop.example/g01302/laws.FnExactPipeLoss", spec := "fnExactPipeLoss", inPlace := ["math.Float32bits", "math.Float64bits", "math.Float64frombits"], apart := false }
def FnExactPipeLossSaid : Prop := fnExactPipeLossRow.holds Try.pinned (OpenSpec.ofChange fnExactPipeLossSpec)

/-- ITS FALSE NEIGHBOUR: 'it returns false'. Refute it at one input. -/
def fnExactPipeLossWrong : ChangeSpec := { name := "fnExactPipeLoss", fn := fun _ => fun
  | [d1, d2, d3, d4] => { results := [.lit (.bool false)], args := [d1, d2, d3, d4] }
  | _ => none }
def FnExactPipeLossWrongFalsely : Prop := fnExactPipeLossRow.holds Try.pinned (OpenSpec.ofChange fnExactPipeLossWrong)

/-- 'laws.FnExactPipeFlow': WHATEVER THE INPUT: true; the input reads as it did. -/
def fnExactPipeFlowSpec : ChangeSpec := { name := "fnExactPipeFlow", fn := fun _ => fun
  | [d1, d2, d3, d4] => { results := [.lit (.bool true)], args := [d1, d2, d3, d4] }
  | _ => none }
def fnExactPipeFlowRow : OpenClaim := { program := "ytgjgggclcmcpgac", sum := "14739873b56bceb06e7a5c5963f18473586b0eac6e87382423218d9677efd630", func := "loop.example/g01302/laws.FnExactPipeFlow", spec := "fnExactPipeFlow", inPlace := ["math.sqrt", "math.Float32bits"], apart := false }
def FnExactPipeFlowSaid : Prop := fnExactPipeFlowRow.holds Try.pinned (OpenSpec.ofChange fnExactPipeFlowSpec)

/-- ITS FALSE NEIGHBOUR: 'it returns false'. Refute it at one input. -/
def fnExactPipeFlowWrong : ChangeSpec := { name := "fnExactPipeFlow", fn := fun _ => fun
  | [d1, d2, d3, d4] => { results := [.lit (.bool false)], args := [d1, d2, d3, d4] }
  | _ => none }
def FnExactPipeFlowWrongFalsely : Prop := fnExactPipeFlowRow.holds Try.pinned (OpenSpec.ofChange fnExactPipeFlowWrong)

/-- 'laws.FnExactCulvertFlow': WHATEVER THE INPUT: true; the input reads as it did. -/
def fnExactCulvertFlowSpec : ChangeSpec := { name := "fnExactCulvertFlow", fn := fun _ => fun
  | [d1, d2, d3, d4, d5] => { results := [.lit (.bool true)], args := [d1, d2, d3, d4, d5] }
  | _ => none }
def fnExactCulvertFlowRow : OpenClaim := { program := "ytgjgggclcmcpgac", sum := "14739873b56bceb06e7a5c5963f18473586b0eac6e87382423218d9677efd630", func := "loop.example/g01302/laws.FnExactCulvertFlow", spec := "fnExactCulvertFlow", inPlace := ["math.sqrt", "math.Float32bits"], apart := false }
def FnExactCulvertFlowSaid : Prop := fnExactCulvertFlowRow.holds Try.pinned (OpenSpec.ofChange fnExactCulvertFlowSpec)

/-- ITS FALSE NEIGHBOUR: 'it returns false'. Refute it at one input. -/
def fnExactCulvertFlowWrong : ChangeSpec := { name := "fnExactCulvertFlow", fn := fun _ => fun
  | [d1, d2, d3, d4, d5] => { results := [.lit (.bool false)], args := [d1, d2, d3, d4, d5] }
  | _ => none }
def FnExactCulvertFlowWrongFalsely : Prop := fnExactCulvertFlowRow.holds Try.pinned (OpenSpec.ofChange fnExactCulvertFlowWrong)

/-- 'laws.FnExactNormalDepth': WHATEVER THE INPUT: true; the input reads as it did. -/
def fnExactNormalDepthSpec : ChangeSpec := { name := "fnExactNormalDepth", fn := fun _ => fun
  | [d1, d2] => { results := [.lit (.bool true)], args := [d1, d2] }
  | _ => none }
def fnExactNormalDepthRow : OpenClaim := { program := "ytgjgggclcmcpgac", sum := "14739873b56bceb06e7a5c5963f18473586b0eac6e87382423218d9677efd630", func := "loop.example/g01302/laws.FnExactNormalDepth", spec := "fnExactNormalDepth", inPlace := ["math.sqrt", "math.Float64frombits", "math.Float64bits", "math.Float32bits"], unfollowed := true, recurses := true, leaving := true, apart := false }
def FnExactNormalDepthSaid : Prop := fnExactNormalDepthRow.holds Try.pinned (OpenSpec.ofChange fnExactNormalDepthSpec)

/-- ITS FALSE NEIGHBOUR: 'it returns false'. Refute it at one input. -/
def fnExactNormalDepthWrong : ChangeSpec := { name := "fnExactNormalDepth", fn := fun _ => fun
  | [d1, d2] => { results := [.lit (.bool false)], args := [d1, d2] }
  | _ => none }
def FnExactNormalDepthWrongFalsely : Prop := fnExactNormalDepthRow.holds Try.pinned (OpenSpec.ofChange fnExactNormalDepthWrong)

/-- 'laws.FnSoils': WHATEVER THE INPUT: true; the input reads as it did. -/
def fnSoilsSpec : ChangeSpec := { name := "fnSoils", fn := fun _ => fun
  | [d1, d2] => { results := [.lit (.bool true)], args := [d1, d2] }
  | _ => none }
def fnSoilsRow : OpenClaim := { program := "ytgjgggclcmcpgac", sum := "14739873b56bceb06e7a5c5963f18473586b0eac6e87382423218d9677efd630", func := "loop.example/g01302/laws.FnSoils", spec := "fnSoils", inPlace := ["math.Float32bits"], unfollowed := true, recurses := true, leaving := true, apart := false }
def FnSoilsSaid : Prop := fnSoilsRow.holds Try.pinned (OpenSpec.ofChange fnSoilsSpec)

/-- ITS FALSE NEIGHBOUR: 'it returns false'. Refute it at one input. -/
def fnSoilsWrong : ChangeSpec := { name := "fnSoils", fn := fun _ => fun
  | [d1, d2] => { results := [.lit (.bool false)], args := [d1, d2] }
  | _ => none }
def FnSoilsWrongFalsely : Prop := fnSoilsRow.holds Try.pinned (OpenSpec.ofChange fnSoilsWrong)

/-- 'laws.FnSnows': WHATEVER THE INPUT: true; the input reads as it did. -/
def fnSnowsSpec : ChangeSpec := { name := "fnSnows", fn := fun _ => fun
  | [d1, d2] => { results := [.lit (.bool true)], args := [d1, d2] }
  | _ => none }
def fnSnowsRow : OpenClaim := { program := "ytgjgggclcmcpgac", sum := "14739873b56bceb06e7a5c5963f18473586b0eac6e87382423218d9677efd630", func := "loop.example/g01302/laws.FnSnows", spec := "fnSnows", inPlace := ["math.Float32bits"], unfollowed := true, recurses := true, leaving := true, apart := false }
def FnSnowsSaid : Prop := fnSnowsRow.holds Try.pinned (OpenSpec.ofChange fnSnowsSpec)

/-- ITS FALSE NEIGHBOUR: 'it returns false'. Refute it at one input. -/
def fnSnowsWrong : ChangeSpec := { name := "fnSnows", fn := fun _ => fun
  | [d1, d2] => { results := [.lit (.bool false)], args := [d1, d2] }
  | _ => none }
def FnSnowsWrongFalsely : Prop := fnSnowsRow.holds Try.pinned (OpenSpec.ofChange fnSnowsWrong)

/-- 'laws.FnBuckets': WHATEVER THE INPUT: true; the input reads as it did. -/
def fnBucketsSpec : ChangeSpec := { name := "fnBuckets", fn := fun _ => fun
  | [d1, d2] => { results := [.lit (.bool true)], args := [d1, d2] }
  | _ => none }
def fnBucketsRow : OpenClaim := { program := "ytgjgggclcmcpgac", sum := "14739873b56bceb06e7a5c5963f18473586b0eac6e87382423218d9677efd630", func := "loop.example/g01302/laws.FnBuckets", spec := "fnBuckets", inPlace := ["math.Float32bits", "math.Float64frombits"], unfollowed := true, recurses := true, leaving := true, apart := false }
def FnBucketsSaid : Prop := fnBucketsRow.holds Try.pinned (OpenSpec.ofChange fnBucketsSpec)

/-- ITS FALSE NEIGHBOUR: 'it returns false'. Refute it at one input. -/
def fnBucketsWrong : ChangeSpec := { name := "fnBuckets", fn := fun _ => fun
  | [d1, d2] => { results := [.lit (.bool false)], args := [d1, d2] }
  | _ => none }
def FnBucketsWrongFalsely : Prop := fnBucketsRow.holds Try.pinned (OpenSpec.ofChange fnBucketsWrong)

/-- 'laws.FnStorms': WHATEVER THE INPUT: true; the input reads as it did. -/
def fnStormsSpec : ChangeSpec := { name := "fnStorms", fn := fun _ => fun
  | [d1, d2] => { results := [.lit (.bool true)], args := [d1, d2] }
  | _ => none }
def fnStormsRow : OpenClaim := { program := "ytgjgggclcmcpgac", sum := "14739873b56bceb06e7a5c5963f18473586b0eac6e87382423218d9677efd630", func := "loop.example/g01302/laws.FnStorms", spec := "fnStorms", inPlace := ["math.Float32bits", "(*sync.WaitGroup).Add", "internal/race.ReleaseMerge", "internal/race.Disable", "internal/race.Enable", "internal/synctest.IsInBubble", "internal/synctest.Associate[sync.WaitGroup]", "sync.fatal", "sync/atomic.OrUint64", "sync/atomic.AddUint64", "internal/race.Read", "sync/atomic.LoadUint64", "sync/atomic.StoreUint64", "internal/synctest.Disassociate[sync.WaitGroup]", "sync.runtime_Semrelease", "(*sync.WaitGroup).Done", "(*sync.WaitGroup).Wait", "internal/race.Acquire", "internal/synctest.IsAssociated[sync.WaitGroup]", "sync/atomic.CompareAndSwapUint64", "internal/race.Write", "sync.runtime_SemacquireWaitGroup"], unfollowed := true, recurses := true, leaving := true, apart := false }
def FnStormsSaid : Prop := fnStormsRow.holds Try.pinned (OpenSpec.ofChange fnStormsSpec)

/-- ITS FALSE NEIGHBOUR: 'it returns false'. Refute it at one input. -/
def fnStormsWrong : ChangeSpec := { name := "fnStorms", fn := fun _ => fun
  | [d1, d2] => { results := [.lit (.bool false)], args := [d1, d2] }
  | _ => none }
def FnStormsWrongFalsely : Prop := fnStormsRow.holds Try.pinned (OpenSpec.ofChange fnStormsWrong)

/-- 'laws.FnNearRains': WHATEVER THE INPUT: true; the input reads as it did. -/
def fnNearRainsSpec : ChangeSpec := { name := "fnNearRains", fn := fun _ => fun
  | [d1, d2] => { results := [.lit (.bool true)], args := [d1, d2] }
  | _ => none }
def fnNearRainsRow : OpenClaim := { program := "ytgjgggclcmcpgac", sum := "14739873b56bceb06e7a5c5963f18473586b0eac6e87382423218d9677efd630", func := "loop.example/g01302/laws.FnNearRains", spec := "fnNearRains", inPlace := ["math.Float32bits", "math.sqrt"], unfollowed := true, recurses := true, leaving := true, apart := false }
def FnNearRainsSaid : Prop := fnNearRainsRow.holds Try.pinned (OpenSpec.ofChange fnNearRainsSpec)

/-- ITS FALSE NEIGHBOUR: 'it returns false'. Refute it at one input. -/
def fnNearRainsWrong : ChangeSpec := { name := "fnNearRains", fn := fun _ => fun
  | [d1, d2] => { results := [.lit (.bool false)], args := [d1, d2] }
  | _ => none }
def FnNearRainsWrongFalsely : Prop := fnNearRainsRow.holds Try.pinned (OpenSpec.ofChange fnNearRainsWrong)

/- THE SECOND FORM. 'bulk': how many values and letters a reading holds, each counted each time it is reached (what is shared counts as often as it is met; a slice's spare places count too). A statement '..UptoSaid' is the law's where the arguments, and the package variables that the reading takes, are together of bulk at most 1048576: NARROWER than '..Said'. Prove '..Said' where nothing that the law and all that it calls make is longer than what came in: it says more and counts as full. Else prove '..UptoSaid'. A law counts once. -/
mutual
def uptoBulk {H : Type} : DataW H → Nat
  | .lit (.string bytes) => bytes.length + 1
  | .lit _ => 1
  | .nil => 1
  | .ptr d => uptoBulk d + 1
  | .slice elems spare => uptoBulkAll elems + uptoBulkAll spare + 1
  | .agg parts => uptoBulkAll parts + 1
  | .iface _ d => uptoBulk d + 1
  | .map entries => uptoBulkEntries entries + 1
  | .held _ => 1
def uptoBulkAll {H : Type} : List (DataW H) → Nat
  | [] => 0
  | d :: r => uptoBulk d + uptoBulkAll r
def uptoBulkEntries {H : Type} : List (Lit × DataW H) → Nat
  | [] => 0
  | x :: r => uptoBulkEntry x + uptoBulkEntries r
def uptoBulkEntry {H : Type} : Lit × DataW H → Nat
  | (.string bytes, d) => bytes.length + uptoBulk d + 1
  | (_, d) => uptoBulk d + 1
 end
def uptoSmall : (H : Type) → List (DataW H) → Bool := fun _ ds => decide (uptoBulkAll ds ≤ 1048576)
def OpenSpec.upto (s : _root_.Go.ChangeSpec) : _root_.Go.OpenSpec := { _root_.Go.OpenSpec.ofChange s with cond := some uptoSmall }

/-- 'laws.FnExactWeirOver', WHERE WHAT IT READS IS OF BULK AT MOST 1048576: true; the input reads as it did. -/
def fnExactWeirOverUptoRow : OpenClaim := { program := "ytgjgggclcmcpgac", sum := "14739873b56bceb06e7a5c5963f18473586b0eac6e87382423218d9677efd630", func := "loop.example/g01302/laws.FnExactWeirOver", spec := "fnExactWeirOver", inPlace := ["math.sqrt", "math.Float32bits"], apart := false, narrowed := true }
def FnExactWeirOverUptoSaid : Prop := fnExactWeirOverUptoRow.holds Try.pinned (OpenSpec.upto fnExactWeirOverSpec)

/-- 'laws.FnExactLevelFor', WHERE WHAT IT READS IS OF BULK AT MOST 1048576: true; the input reads as it did. -/
def fnExactLevelForUptoRow : OpenClaim := { program := "ytgjgggclcmcpgac", sum := "14739873b56bceb06e7a5c5963f18473586b0eac6e87382423218d9677efd630", func := "loop.example/g01302/laws.FnExactLevelFor", spec := "fnExactLevelFor", inPlace := ["math.Float64frombits", "math.Float64bits", "math.Float32bits"], apart := false, narrowed := true }
def FnExactLevelForUptoSaid : Prop := fnExactLevelForUptoRow.holds Try.pinned (OpenSpec.upto fnExactLevelForSpec)

/-- 'laws.FnExactGateUnder', WHERE WHAT IT READS IS OF BULK AT MOST 1048576: true; the input reads as it did. -/
def fnExactGateUnderUptoRow : OpenClaim := { program := "ytgjgggclcmcpgac", sum := "14739873b56bceb06e7a5c5963f18473586b0eac6e87382423218d9677efd630", func := "loop.example/g01302/laws.FnExactGateUnder", spec := "fnExactGateUnder", inPlace := ["math.sqrt", "math.Float32bits"], apart := false, narrowed := true }
def FnExactGateUnderUptoSaid : Prop := fnExactGateUnderUptoRow.holds Try.pinned (OpenSpec.upto fnExactGateUnderSpec)

/-- 'laws.FnExactPipeLoss', WHERE WHAT IT READS IS OF BULK AT MOST 1048576: true; the input reads as it did. -/
def fnExactPipeLossUptoRow : OpenClaim := { program := "ytgjgggclcmcpgac", sum := "14739873b56bceb06e7a5c5963f18473586b0eac6e87382423218d9677efd630", func := "loop.example/g01302/laws.FnExactPipeLoss", spec := "fnExactPipeLoss", inPlace := ["math.Float32bits", "math.Float64bits", "math.Float64frombits"], apart := false, narrowed := true }
def FnExactPipeLossUptoSaid : Prop := fnExactPipeLossUptoRow.holds Try.pinned (OpenSpec.upto fnExactPipeLossSpec)

/-- 'laws.FnExactPipeFlow', WHERE WHAT IT READS IS OF BULK AT MOST 1048576: true; the input reads as it did. -/
def fnExactPipeFlowUptoRow : OpenClaim := { program := "ytgjgggclcmcpgac", sum := "14739873b56bceb06e7a5c5963f18473586b0eac6e87382423218d9677efd630", func := "loop.example/g01302/laws.FnExactPipeFlow", spec := "fnExactPipeFlow", inPlace := ["math.sqrt", "math.Float32bits"], apart := false, narrowed := true }
def FnExactPipeFlowUptoSaid : Prop := fnExactPipeFlowUptoRow.holds Try.pinned (OpenSpec.upto fnExactPipeFlowSpec)

/-- 'laws.FnExactCulvertFlow', WHERE WHAT IT READS IS OF BULK AT MOST 1048576: true; the input reads as it did. -/
def fnExactCulvertFlowUptoRow : OpenClaim := { program := "ytgjgggclcmcpgac", sum := "14739873b56bceb06e7a5c5963f18473586b0eac6e87382423218d9677efd630", func := "loop.example/g01302/laws.FnExactCulvertFlow", spec := "fnExactCulvertFlow", inPlace := ["math.sqrt", "math.Float32bits"], apart := false, narrowed := true }
def FnExactCulvertFlowUptoSaid : Prop := fnExactCulvertFlowUptoRow.holds Try.pinned (OpenSpec.upto fnExactCulvertFlowSpec)

/-- 'laws.FnExactNormalDepth', WHERE WHAT IT READS IS OF BULK AT MOST 1048576: true; the input reads as it did. -/
def fnExactNormalDepthUptoRow : OpenClaim := { program := "ytgjgggclcmcpgac", sum := "14739873b56bceb06e7a5c5963f18473586b0eac6e87382423218d9677efd630", func := "loop.example/g01302/laws.FnExactNormalDepth", spec := "fnExactNormalDepth", inPlace := ["math.sqrt", "math.Float64frombits", "math.Float64bits", "math.Float32bits"], unfollowed := true, recurses := true, leaving := true, apart := false, narrowed := true }
def FnExactNormalDepthUptoSaid : Prop := fnExactNormalDepthUptoRow.holds Try.pinned (OpenSpec.upto fnExactNormalDepthSpec)

/-- 'laws.FnSoils', WHERE WHAT IT READS IS OF BULK AT MOST 1048576: true; the input reads as it did. -/
def fnSoilsUptoRow : OpenClaim := { program := "ytgjgggclcmcpgac", sum := "14739873b56bceb06e7a5c5963f18473586b0eac6e87382423218d9677efd630", func := "loop.example/g01302/laws.FnSoils", spec := "fnSoils", inPlace := ["math.Float32bits"], unfollowed := true, recurses := true, leaving := true, apart := false, narrowed := true }
def FnSoilsUptoSaid : Prop := fnSoilsUptoRow.holds Try.pinned (OpenSpec.upto fnSoilsSpec)

/-- 'laws.FnSnows', WHERE WHAT IT READS IS OF BULK AT MOST 1048576: true; the input reads as it did. -/
def fnSnowsUptoRow : OpenClaim := { program := "ytgjgggclcmcpgac", sum := "14739873b56bceb06e7a5c5963f18473586b0eac6e87382423218d9677efd630", func := "loop.example/g01302/laws.FnSnows", spec := "fnSnows", inPlace := ["math.Float32bits"], unfollowed := true, recurses := true, leaving := true, apart := false, narrowed := true }
def FnSnowsUptoSaid : Prop := fnSnowsUptoRow.holds Try.pinned (OpenSpec.upto fnSnowsSpec)

/-- 'laws.FnBuckets', WHERE WHAT IT READS IS OF BULK AT MOST 1048576: true; the input reads as it did. -/
def fnBucketsUptoRow : OpenClaim := { program := "ytgjgggclcmcpgac", sum := "14739873b56bceb06e7a5c5963f18473586b0eac6e87382423218d9677efd630", func := "loop.example/g01302/laws.FnBuckets", spec := "fnBuckets", inPlace := ["math.Float32bits", "math.Float64frombits"], unfollowed := true, recurses := true, leaving := true, apart := false, narrowed := true }
def FnBucketsUptoSaid : Prop := fnBucketsUptoRow.holds Try.pinned (OpenSpec.upto fnBucketsSpec)

/-- 'laws.FnStorms', WHERE WHAT IT READS IS OF BULK AT MOST 1048576: true; the input reads as it did. -/
def fnStormsUptoRow : OpenClaim := { program := "ytgjgggclcmcpgac", sum := "14739873b56bceb06e7a5c5963f18473586b0eac6e87382423218d9677efd630", func := "loop.example/g01302/laws.FnStorms", spec := "fnStorms", inPlace := ["math.Float32bits", "(*sync.WaitGroup).Add", "internal/race.ReleaseMerge", "internal/race.Disable", "internal/race.Enable", "internal/synctest.IsInBubble", "internal/synctest.Associate[sync.WaitGroup]", "sync.fatal", "sync/atomic.OrUint64", "sync/atomic.AddUint64", "internal/race.Read", "sync/atomic.LoadUint64", "sync/atomic.StoreUint64", "internal/synctest.Disassociate[sync.WaitGroup]", "sync.runtime_Semrelease", "(*sync.WaitGroup).Done", "(*sync.WaitGroup).Wait", "internal/race.Acquire", "internal/synctest.IsAssociated[sync.WaitGroup]", "sync/atomic.CompareAndSwapUint64", "internal/race.Write", "sync.runtime_SemacquireWaitGroup"], unfollowed := true, recurses := true, leaving := true, apart := false, narrowed := true }
def FnStormsUptoSaid : Prop := fnStormsUptoRow.holds Try.pinned (OpenSpec.upto fnStormsSpec)

/-- 'laws.FnNearRains', WHERE WHAT IT READS IS OF BULK AT MOST 1048576: true; the input reads as it did. -/
def fnNearRainsUptoRow : OpenClaim := { program := "ytgjgggclcmcpgac", sum := "14739873b56bceb06e7a5c5963f18473586b0eac6e87382423218d9677efd630", func := "loop.example/g01302/laws.FnNearRains", spec := "fnNearRains", inPlace := ["math.Float32bits", "math.sqrt"], unfollowed := true, recurses := true, leaving := true, apart := false, narrowed := true }
def FnNearRainsUptoSaid : Prop := fnNearRainsUptoRow.holds Try.pinned (OpenSpec.upto fnNearRainsSpec)

end Rows
end Go.Proofs.Ytgjgggclcmcpgac
