/-
  No cell of these rows narrows 'for every input' (looked for: loops, veiled, ifaces, maps, wideKeys, modest, calm, conditions, laid).
  DERIVED. THE GIVEN ROWS OF THIS SEAT. 12 by the template 'for every input the law returns true; each argument reads behind the call as it read before'; 0 by the template 'total and deterministic' (their statements: YtdoecpghlfjhiaaTotals.lean).
  GIVEN WITH THE SEED: the statements are not yours to turn. If you find one false, say at which input.
  Laid BY PROGRAM, IN A SANDBOX (cutbox-rows.mjs): the forced cells as the released guide's own fill.sh prints them over the translation 5fd83356c980ccf1… (all of the seat's roots in one cut). By AI agents, Wed Nov 11 2026. No macro, syntax, notation, axiom, sorry.
-/
import Derived.Test.YtdoecpghlfjhiaaChecked
import GoSem.Claim
import GoSem.ClaimJoined
import GoSem.ClaimMapViews
import Derived.JoinedTies
import Derived.KernelRfl
namespace Go.Proofs.Ytdoecpghlfjhiaa
/- THE CELL 'sum', in the pinned program and in every row, IS THE sha256 OF THE DUMP (.gsa) THAT YtdoecpghlfjhiaaProg.lean LOADS. Nothing in Lean hashes anything: it is a label: what it is worth is what the hold of that sum in a sandbox is worth. -/
noncomputable def Try.pinned : Pinned := { name := "ytdoecpghlfjhiaa", sum := "5fd83356c980ccf1afa761859c4562901638d07c83f9344a359a9f3324385dfb", checked := Try.checked }
namespace Rows
def none {H : Type} : Left H := { results := [], args := [] }

/-- 'laws.FnExactValidReach': WHATEVER THE INPUT: true; the input reads as it did. -/
def fnExactValidReachSpec : ChangeSpec := { name := "fnExactValidReach", fn := fun _ => fun
  | [d] => { results := [.lit (.bool true)], args := [d] }
  | _ => none }
def fnExactValidReachRow : OpenClaim := { program := "ytdoecpghlfjhiaa", sum := "5fd83356c980ccf1afa761859c4562901638d07c83f9344a359a9f3324385dfb", func := "loop.example/g01302/laws.FnExactValidReach", spec := "fnExactValidReach", inPlace := ["math.Float32bits"], apart := false }
def FnExactValidReachSaid : Prop := fnExactValidReachRow.holds Try.pinned (OpenSpec.ofChange fnExactValidReachSpec)

/-- ITS FALSE NEIGHBOUR: 'it returns false'. Refute it at one input. -/
def fnExactValidReachWrong : ChangeSpec := { name := "fnExactValidReach", fn := fun _ => fun
  | [d] => { results := [.lit (.bool false)], args := [d] }
  | _ => none }
def FnExactValidReachWrongFalsely : Prop := fnExactValidReachRow.holds Try.pinned (OpenSpec.ofChange fnExactValidReachWrong)

/-- 'laws.FnExactReachShares': WHATEVER THE INPUT: true; the input reads as it did. -/
def fnExactReachSharesSpec : ChangeSpec := { name := "fnExactReachShares", fn := fun _ => fun
  | [d1, d2] => { results := [.lit (.bool true)], args := [d1, d2] }
  | _ => none }
def fnExactReachSharesRow : OpenClaim := { program := "ytdoecpghlfjhiaa", sum := "5fd83356c980ccf1afa761859c4562901638d07c83f9344a359a9f3324385dfb", func := "loop.example/g01302/laws.FnExactReachShares", spec := "fnExactReachShares", inPlace := ["math.Float32bits"], apart := false }
def FnExactReachSharesSaid : Prop := fnExactReachSharesRow.holds Try.pinned (OpenSpec.ofChange fnExactReachSharesSpec)

/-- ITS FALSE NEIGHBOUR: 'it returns false'. Refute it at one input. -/
def fnExactReachSharesWrong : ChangeSpec := { name := "fnExactReachShares", fn := fun _ => fun
  | [d1, d2] => { results := [.lit (.bool false)], args := [d1, d2] }
  | _ => none }
def FnExactReachSharesWrongFalsely : Prop := fnExactReachSharesRow.holds Try.pinned (OpenSpec.ofChange fnExactReachSharesWrong)

/-- 'laws.FnExactHeldInReach': WHATEVER THE INPUT: true; the input reads as it did. -/
def fnExactHeldInReachSpec : ChangeSpec := { name := "fnExactHeldInReach", fn := fun _ => fun
  | [d1, d2, d3] => { results := [.lit (.bool true)], args := [d1, d2, d3] }
  | _ => none }
def fnExactHeldInReachRow : OpenClaim := { program := "ytdoecpghlfjhiaa", sum := "5fd83356c980ccf1afa761859c4562901638d07c83f9344a359a9f3324385dfb", func := "loop.example/g01302/laws.FnExactHeldInReach", spec := "fnExactHeldInReach", inPlace := ["math.Float32bits"], apart := false }
def FnExactHeldInReachSaid : Prop := fnExactHeldInReachRow.holds Try.pinned (OpenSpec.ofChange fnExactHeldInReachSpec)

/-- ITS FALSE NEIGHBOUR: 'it returns false'. Refute it at one input. -/
def fnExactHeldInReachWrong : ChangeSpec := { name := "fnExactHeldInReach", fn := fun _ => fun
  | [d1, d2, d3] => { results := [.lit (.bool false)], args := [d1, d2, d3] }
  | _ => none }
def FnExactHeldInReachWrongFalsely : Prop := fnExactHeldInReachRow.holds Try.pinned (OpenSpec.ofChange fnExactHeldInReachWrong)

/-- 'laws.FnExactWaveFlow': WHATEVER THE INPUT: true; the input reads as it did. -/
def fnExactWaveFlowSpec : ChangeSpec := { name := "fnExactWaveFlow", fn := fun _ => fun
  | [d1, d2] => { results := [.lit (.bool true)], args := [d1, d2] }
  | _ => none }
def fnExactWaveFlowRow : OpenClaim := { program := "ytdoecpghlfjhiaa", sum := "5fd83356c980ccf1afa761859c4562901638d07c83f9344a359a9f3324385dfb", func := "loop.example/g01302/laws.FnExactWaveFlow", spec := "fnExactWaveFlow", inPlace := ["math.sqrt", "math.Float32bits"], apart := false }
def FnExactWaveFlowSaid : Prop := fnExactWaveFlowRow.holds Try.pinned (OpenSpec.ofChange fnExactWaveFlowSpec)

/-- ITS FALSE NEIGHBOUR: 'it returns false'. Refute it at one input. -/
def fnExactWaveFlowWrong : ChangeSpec := { name := "fnExactWaveFlow", fn := fun _ => fun
  | [d1, d2] => { results := [.lit (.bool false)], args := [d1, d2] }
  | _ => none }
def FnExactWaveFlowWrongFalsely : Prop := fnExactWaveFlowRow.holds Try.pinned (OpenSpec.ofChange fnExactWaveFlowWrong)

/-- 'laws.FnExactBreakDepth': WHATEVER THE INPUT: true; the input reads as it did. -/
def fnExactBreakDepthSpec : ChangeSpec := { name := "fnExactBreakDepth", fn := fun _ => fun
  | [d1, d2, d3] => { results := [.lit (.bool true)], args := [d1, d2, d3] }
  | _ => none }
def fnExactBreakDepthRow : OpenClaim := { program := "ytdoecpghlfjhiaa", sum := "5fd83356c980ccf1afa761859c4562901638d07c83f9344a359a9f3324385dfb", func := "loop.example/g01302/laws.FnExactBreakDepth", spec := "fnExactBreakDepth", inPlace := ["math.sqrt", "math.Float32bits"], apart := false }
def FnExactBreakDepthSaid : Prop := fnExactBreakDepthRow.holds Try.pinned (OpenSpec.ofChange fnExactBreakDepthSpec)

/-- ITS FALSE NEIGHBOUR: 'it returns false'. Refute it at one input. -/
def fnExactBreakDepthWrong : ChangeSpec := { name := "fnExactBreakDepth", fn := fun _ => fun
  | [d1, d2, d3] => { results := [.lit (.bool false)], args := [d1, d2, d3] }
  | _ => none }
def FnExactBreakDepthWrongFalsely : Prop := fnExactBreakDepthRow.holds Try.pinned (OpenSpec.ofChange fnExactBreakDepthWrong)

/-- 'laws.FnExactBreakFlow': WHATEVER THE INPUT: true; the input reads as it did. -/
def fnExactBreakFlowSpec : ChangeSpec := { name := "fnExactBreakFlow", fn := fun _ => fun
  | [d1, d2, d3] => { results := [.lit (.bool true)], args := [d1, d2, d3] }
  | _ => none }
def fnExactBreakFlowRow : OpenClaim := { program := "ytdoecpghlfjhiaa", sum := "5fd83356c980ccf1afa761859c4562901638d07c83f9344a359a9f3324385dfb", func := "loop.example/g01302/laws.FnExactBreakFlow", spec := "fnExactBreakFlow", inPlace := ["math.sqrt", "math.Float32bits"], apart := false }
def FnExactBreakFlowSaid : Prop := fnExactBreakFlowRow.holds Try.pinned (OpenSpec.ofChange fnExactBreakFlowSpec)

/-- ITS FALSE NEIGHBOUR: 'it returns false'. Refute it at one input. -/
def fnExactBreakFlowWrong : ChangeSpec := { name := "fnExactBreakFlow", fn := fun _ => fun
  | [d1, d2, d3] => { results := [.lit (.bool false)], args := [d1, d2, d3] }
  | _ => none }
def FnExactBreakFlowWrongFalsely : Prop := fnExactBreakFlowRow.holds Try.pinned (OpenSpec.ofChange fnExactBreakFlowWrong)

/-- 'laws.FnExactRouteReach': WHATEVER THE INPUT: true; the input reads as it did. -/
def fnExactRouteReachSpec : ChangeSpec := { name := "fnExactRouteReach", fn := fun _ => fun
  | [d1, d2, d3, d4] => { results := [.lit (.bool true)], args := [d1, d2, d3, d4] }
  | _ => none }
def fnExactRouteReachRow : OpenClaim := { program := "ytdoecpghlfjhiaa", sum := "5fd83356c980ccf1afa761859c4562901638d07c83f9344a359a9f3324385dfb", func := "loop.example/g01302/laws.FnExactRouteReach", spec := "fnExactRouteReach", inPlace := ["math.Float32bits"], unfollowed := true, recurses := true, apart := false }
def FnExactRouteReachSaid : Prop := fnExactRouteReachRow.holds Try.pinned (OpenSpec.ofChange fnExactRouteReachSpec)

/-- ITS FALSE NEIGHBOUR: 'it returns false'. Refute it at one input. -/
def fnExactRouteReachWrong : ChangeSpec := { name := "fnExactRouteReach", fn := fun _ => fun
  | [d1, d2, d3, d4] => { results := [.lit (.bool false)], args := [d1, d2, d3, d4] }
  | _ => none }
def FnExactRouteReachWrongFalsely : Prop := fnExactRouteReachRow.holds Try.pinned (OpenSpec.ofChange fnExactRouteReachWrong)

/-- 'laws.FnExactEnergyOfCanal': WHATEVER THE INPUT: true; the input reads as it did. -/
def fnExactEnergyOfCanalSpec : ChangeSpec := { name := "fnExactEnergyOfCanal", fn := fun _ => fun
  | [d] => { results := [.lit (.bool true)], args := [d] }
  | _ => none }
def fnExactEnergyOfCanalRow : OpenClaim := { program := "ytdoecpghlfjhiaa", sum := "5fd83356c980ccf1afa761859c4562901638d07c83f9344a359a9f3324385dfb", func := "loop.example/g01302/laws.FnExactEnergyOfCanal", spec := "fnExactEnergyOfCanal", inPlace := ["math.Float32bits"], unfollowed := true, recurses := true, apart := false }
def FnExactEnergyOfCanalSaid : Prop := fnExactEnergyOfCanalRow.holds Try.pinned (OpenSpec.ofChange fnExactEnergyOfCanalSpec)

/-- ITS FALSE NEIGHBOUR: 'it returns false'. Refute it at one input. -/
def fnExactEnergyOfCanalWrong : ChangeSpec := { name := "fnExactEnergyOfCanal", fn := fun _ => fun
  | [d] => { results := [.lit (.bool false)], args := [d] }
  | _ => none }
def FnExactEnergyOfCanalWrongFalsely : Prop := fnExactEnergyOfCanalRow.holds Try.pinned (OpenSpec.ofChange fnExactEnergyOfCanalWrong)

/-- 'laws.FnExactValidLake': WHATEVER THE INPUT: true; the input reads as it did. -/
def fnExactValidLakeSpec : ChangeSpec := { name := "fnExactValidLake", fn := fun _ => fun
  | [d] => { results := [.lit (.bool true)], args := [d] }
  | _ => none }
def fnExactValidLakeRow : OpenClaim := { program := "ytdoecpghlfjhiaa", sum := "5fd83356c980ccf1afa761859c4562901638d07c83f9344a359a9f3324385dfb", func := "loop.example/g01302/laws.FnExactValidLake", spec := "fnExactValidLake", inPlace := ["math.Float32bits"], unfollowed := true, recurses := true, apart := false }
def FnExactValidLakeSaid : Prop := fnExactValidLakeRow.holds Try.pinned (OpenSpec.ofChange fnExactValidLakeSpec)

/-- ITS FALSE NEIGHBOUR: 'it returns false'. Refute it at one input. -/
def fnExactValidLakeWrong : ChangeSpec := { name := "fnExactValidLake", fn := fun _ => fun
  | [d] => { results := [.lit (.bool false)], args := [d] }
  | _ => none }
def FnExactValidLakeWrongFalsely : Prop := fnExactValidLakeRow.holds Try.pinned (OpenSpec.ofChange fnExactValidLakeWrong)

/-- 'laws.FnExactLakeOut': WHATEVER THE INPUT: true; the input reads as it did. -/
def fnExactLakeOutSpec : ChangeSpec := { name := "fnExactLakeOut", fn := fun _ => fun
  | [d1, d2] => { results := [.lit (.bool true)], args := [d1, d2] }
  | _ => none }
def fnExactLakeOutRow : OpenClaim := { program := "ytdoecpghlfjhiaa", sum := "5fd83356c980ccf1afa761859c4562901638d07c83f9344a359a9f3324385dfb", func := "loop.example/g01302/laws.FnExactLakeOut", spec := "fnExactLakeOut", inPlace := ["math.Float32bits"], unfollowed := true, recurses := true, apart := false }
def FnExactLakeOutSaid : Prop := fnExactLakeOutRow.holds Try.pinned (OpenSpec.ofChange fnExactLakeOutSpec)

/-- ITS FALSE NEIGHBOUR: 'it returns false'. Refute it at one input. -/
def fnExactLakeOutWrong : ChangeSpec := { name := "fnExactLakeOut", fn := fun _ => fun
  | [d1, d2] => { results := [.lit (.bool false)], args := [d1, d2] }
  | _ => none }
def FnExactLakeOutWrongFalsely : Prop := fnExactLakeOutRow.holds Try.pinned (OpenSpec.ofChange fnExactLakeOutWrong)

/-- 'laws.FnExactStepLake': WHATEVER THE INPUT: true; the input reads as it did. -/
def fnExactStepLakeSpec : ChangeSpec := { name := "fnExactStepLake", fn := fun _ => fun
  | [d1, d2, d3, d4, d5] => { results := [.lit (.bool true)], args := [d1, d2, d3, d4, d5] }
  | _ => none }
def fnExactStepLakeRow : OpenClaim := { program := "ytdoecpghlfjhiaa", sum := "5fd83356c980ccf1afa761859c4562901638d07c83f9344a359a9f3324385dfb", func := "loop.example/g01302/laws.FnExactStepLake", spec := "fnExactStepLake", inPlace := ["math.Float32bits"], unfollowed := true, recurses := true, apart := false }
def FnExactStepLakeSaid : Prop := fnExactStepLakeRow.holds Try.pinned (OpenSpec.ofChange fnExactStepLakeSpec)

/-- ITS FALSE NEIGHBOUR: 'it returns false'. Refute it at one input. -/
def fnExactStepLakeWrong : ChangeSpec := { name := "fnExactStepLake", fn := fun _ => fun
  | [d1, d2, d3, d4, d5] => { results := [.lit (.bool false)], args := [d1, d2, d3, d4, d5] }
  | _ => none }
def FnExactStepLakeWrongFalsely : Prop := fnExactStepLakeRow.holds Try.pinned (OpenSpec.ofChange fnExactStepLakeWrong)

/-- 'laws.FnExactValidCanal': WHATEVER THE INPUT: true; the input reads as it did. -/
def fnExactValidCanalSpec : ChangeSpec := { name := "fnExactValidCanal", fn := fun _ => fun
  | [d] => { results := [.lit (.bool true)], args := [d] }
  | _ => none }
def fnExactValidCanalRow : OpenClaim := { program := "ytdoecpghlfjhiaa", sum := "5fd83356c980ccf1afa761859c4562901638d07c83f9344a359a9f3324385dfb", func := "loop.example/g01302/laws.FnExactValidCanal", spec := "fnExactValidCanal", inPlace := ["math.Float32bits"], unfollowed := true, recurses := true, apart := false }
def FnExactValidCanalSaid : Prop := fnExactValidCanalRow.holds Try.pinned (OpenSpec.ofChange fnExactValidCanalSpec)

/-- ITS FALSE NEIGHBOUR: 'it returns false'. Refute it at one input. -/
def fnExactValidCanalWrong : ChangeSpec := { name := "fnExactValidCanal", fn := fun _ => fun
  | [d] => { results := [.lit (.bool false)], args := [d] }
  | _ => none }
def FnExactValidCanalWrongFalsely : Prop := fnExactValidCanalRow.holds Try.pinned (OpenSpec.ofChange fnExactValidCanalWrong)

/- THE SECOND FORM. 'bulk': how many values and letters a reading holds, each counted each time it is reached (what is shared counts as often as it is met; a slice's spare places count too). A statement '..UptoSaid' is the law's where the arguments, and the package variables that the reading takes, are together of bulk at most 1048576: NARROWER than '..Said'. Prove '..Said' where nothing that the law and all that it calls make is longer than what came in: it says more and counts as full. Else prove '..UptoSaid'. A law counts once. -/
mutual
def uptoBulk {H : Type} : DataW H → Nat
  | .lit (.string bytes) => bytes.length + 1
  | .lit _ => 1
  | .nil => 1
  | .ptr d => uptoBulk d + 1
  | .slice elems spare => uptoBulkAll elems + uptoBulkAll spare + 1
  | .agg parts => uptoBulkAll parts + 1
  | .iface _ d => uptoBulk d + 1
  | .map entries => uptoBulkEntries entries + 1
  | .held _ => 1
def uptoBulkAll {H : Type} : List (DataW H) → Nat
  | [] => 0
  | d :: r => uptoBulk d + uptoBulkAll r
def uptoBulkEntries {H : Type} : List (Lit × DataW H) → Nat
  | [] => 0
  | x :: r => uptoBulkEntry x + uptoBulkEntries r
def uptoBulkEntry {H : Type} : Lit × DataW H → Nat
  | (.string bytes, d) => bytes.length + uptoBulk d + 1
  | (_, d) => uptoBulk d + 1
 end
def uptoSmall : (H : Type) → List (DataW H) → Bool := fun _ ds => decide (uptoBulkAll ds ≤ 1048576)
def OpenSpec.upto (s : _root_.Go.ChangeSpec) : _root_.Go.OpenSpec := { _root_.Go.OpenSpec.ofChange s with cond := some uptoSmall }

/-- 'laws.FnExactValidReach', WHERE WHAT IT READS IS OF BULK AT MOST 1048576: true; the input reads as it did. -/
def fnExactValidReachUptoRow : OpenClaim := { program := "ytdoecpghlfjhiaa", sum := "5fd83356c980ccf1afa761859c4562901638d07c83f9344a359a9f3324385dfb", func := "loop.example/g01302/laws.FnExactValidReach", spec := "fnExactValidReach", inPlace := ["math.Float32bits"], apart := false, narrowed := true }
def FnExactValidReachUptoSaid : Prop := fnExactValidReachUptoRow.holds Try.pinned (OpenSpec.upto fnExactValidReachSpec)

/-- 'laws.FnExactReachShares', WHERE WHAT IT READS IS OF BULK AT MOST 1048576: true; the input reads as it did. -/
def fnExactReachSharesUptoRow : OpenClaim := { program := "ytdoecpghlfjhiaa", sum := "5fd83356c980ccf1afa761859c4562901638d07c83f9344a359a9f3324385dfb", func := "loop.example/g01302/laws.FnExactReachShares", spec := "fnExactReachShares", inPlace := ["math.Float32bits"], apart := false, narrowed := true }
def FnExactReachSharesUptoSaid : Prop := fnExactReachSharesUptoRow.holds Try.pinned (OpenSpec.upto fnExactReachSharesSpec)

/-- 'laws.FnExactHeldInReach', WHERE WHAT IT READS IS OF BULK AT MOST 1048576: true; the input reads as it did. -/
def fnExactHeldInReachUptoRow : OpenClaim := { program := "ytdoecpghlfjhiaa", sum := "5fd83356c980ccf1afa761859c4562901638d07c83f9344a359a9f3324385dfb", func := "loop.example/g01302/laws.FnExactHeldInReach", spec := "fnExactHeldInReach", inPlace := ["math.Float32bits"], apart := false, narrowed := true }
def FnExactHeldInReachUptoSaid : Prop := fnExactHeldInReachUptoRow.holds Try.pinned (OpenSpec.upto fnExactHeldInReachSpec)

/-- 'laws.FnExactWaveFlow', WHERE WHAT IT READS IS OF BULK AT MOST 1048576: true; the input reads as it did. -/
def fnExactWaveFlowUptoRow : OpenClaim := { program := "ytdoecpghlfjhiaa", sum := "5fd83356c980ccf1afa761859c4562901638d07c83f9344a359a9f3324385dfb", func := "loop.example/g01302/laws.FnExactWaveFlow", spec := "fnExactWaveFlow", inPlace := ["math.sqrt", "math.Float32bits"], apart := false, narrowed := true }
def FnExactWaveFlowUptoSaid : Prop := fnExactWaveFlowUptoRow.holds Try.pinned (OpenSpec.upto fnExactWaveFlowSpec)

/-- 'laws.FnExactBreakDepth', WHERE WHAT IT READS IS OF BULK AT MOST 1048576: true; the input reads as it did. -/
def fnExactBreakDepthUptoRow : OpenClaim := { program := "ytdoecpghlfjhiaa", sum := "5fd83356c980ccf1afa761859c4562901638d07c83f9344a359a9f3324385dfb", func := "loop.example/g01302/laws.FnExactBreakDepth", spec := "fnExactBreakDepth", inPlace := ["math.sqrt", "math.Float32bits"], apart := false, narrowed := true }
def FnExactBreakDepthUptoSaid : Prop := fnExactBreakDepthUptoRow.holds Try.pinned (OpenSpec.upto fnExactBreakDepthSpec)

/-- 'laws.FnExactBreakFlow', WHERE WHAT IT READS IS OF BULK AT MOST 1048576: true; the input reads as it did. -/
def fnExactBreakFlowUptoRow : OpenClaim := { program := "ytdoecpghlfjhiaa", sum := "5fd83356c980ccf1afa761859c4562901638d07c83f9344a359a9f3324385dfb", func := "loop.example/g01302/laws.FnExactBreakFlow", spec := "fnExactBreakFlow", inPlace := ["math.sqrt", "math.Float32bits"], apart := false, narrowed := true }
def FnExactBreakFlowUptoSaid : Prop := fnExactBreakFlowUptoRow.holds Try.pinned (OpenSpec.upto fnExactBreakFlowSpec)

/-- 'laws.FnExactRouteReach', WHERE WHAT IT READS IS OF BULK AT MOST 1048576: true; the input reads as it did. -/
def fnExactRouteReachUptoRow : OpenClaim := { program := "ytdoecpghlfjhiaa", sum := "5fd83356c980ccf1afa761859c4562901638d07c83f9344a359a9f3324385dfb", func := "loop.example/g01302/laws.FnExactRouteReach", spec := "fnExactRouteReach", inPlace := ["math.Float32bits"], unfollowed := true, recurses := true, apart := false, narrowed := true }
def FnExactRouteReachUptoSaid : Prop := fnExactRouteReachUptoRow.holds Try.pinned (OpenSpec.upto fnExactRouteReachSpec)

/-- 'laws.FnExactEnergyOfCanal', WHERE WHAT IT READS IS OF BULK AT MOST 1048576: true; the input reads as it did. -/
def fnExactEnergyOfCanalUptoRow : OpenClaim := { program := "ytdoecpghlfjhiaa", sum := "5fd83356c980ccf1afa761859c4562901638d07c83f9344a359a9f3324385dfb", func := "loop.example/g01302/laws.FnExactEnergyOfCanal", spec := "fnExactEnergyOfCanal", inPlace := ["math.Float32bits"], unfollowed := true, recurses := true, apart := false, narrowed := true }
def FnExactEnergyOfCanalUptoSaid : Prop := fnExactEnergyOfCanalUptoRow.holds Try.pinned (OpenSpec.upto fnExactEnergyOfCanalSpec)

/-- 'laws.FnExactValidLake', WHERE WHAT IT READS IS OF BULK AT MOST 1048576: true; the input reads as it did. -/
def fnExactValidLakeUptoRow : OpenClaim := { program := "ytdoecpghlfjhiaa", sum := "5fd83356c980ccf1afa761859c4562901638d07c83f9344a359a9f3324385dfb", func := "loop.example/g01302/laws.FnExactValidLake", spec := "fnExactValidLake", inPlace := ["math.Float32bits"], unfollowed := true, recurses := true, apart := false, narrowed := true }
def FnExactValidLakeUptoSaid : Prop := fnExactValidLakeUptoRow.holds Try.pinned (OpenSpec.upto fnExactValidLakeSpec)

/-- 'laws.FnExactLakeOut', WHERE WHAT IT READS IS OF BULK AT MOST 1048576: true; the input reads as it did. -/
def fnExactLakeOutUptoRow : OpenClaim := { program := "ytdoecpghlfjhiaa", sum := "5fd83356c980ccf1afa761859c4562901638d07c83f9344a359a9f3324385dfb", func := "loop.example/g01302/laws.FnExactLakeOut", spec := "fnExactLakeOut", inPlace := ["math.Float32bits"], unfollowed := true, recurses := true, apart := false, narrowed := true }
def FnExactLakeOutUptoSaid : Prop := fnExactLakeOutUptoRow.holds Try.pinned (OpenSpec.upto fnExactLakeOutSpec)

/-- 'laws.FnExactStepLake', WHERE WHAT IT READS IS OF BULK AT MOST 1048576: true; the input reads as it did. -/
def fnExactStepLakeUptoRow : OpenClaim := { program := "ytdoecpghlfjhiaa", sum := "5fd83356c980ccf1afa761859c4562901638d07c83f9344a359a9f3324385dfb", func := "loop.example/g01302/laws.FnExactStepLake", spec := "fnExactStepLake", inPlace := ["math.Float32bits"], unfollowed := true, recurses := true, apart := false, narrowed := true }
def FnExactStepLakeUptoSaid : Prop := fnExactStepLakeUptoRow.holds Try.pinned (OpenSpec.upto fnExactStepLakeSpec)

/-- 'laws.FnExactValidCanal', WHERE WHAT IT READS IS OF BULK AT MOST 1048576: true; the input reads as it did. -/
def fnExactValidCanalUptoRow : OpenClaim := { program := "ytdoecpghlfjhiaa", sum := "5fd83356c980ccf1afa761859c4562901638d07c83f9344a359a9f3324385dfb", func := "loop.example/g01302/laws.FnExactValidCanal", spec := "fnExactValidCanal", inPlace := ["math.Float32bits"], unfollowed := true, recurses := true, apart := false, narrowed := true }
def FnExactValidCanalUptoSaid : Prop := fnExactValidCanalUptoRow.holds Try.pinned (OpenSpec.upto fnExactValidCanalSpec)

end Rows
end Go.Proofs.Ytdoecpghlfjhiaa
