/-
  No cell of these rows narrows 'for every input' (looked for: loops, veiled, ifaces, maps, wideKeys, modest, calm, conditions, laid).
  DERIVED. THE GIVEN ROWS OF THIS SEAT. 12 by the template 'for every input the law returns true; each argument reads behind the call as it read before'; 0 by the template 'total and deterministic' (their statements: YtdoecpghlfjhiacTotals.lean).
  GIVEN WITH THE SEED: the statements are not yours to turn. If you find one false, say at which input.
  Laid BY PROGRAM, IN A SANDBOX (cutbox-rows.mjs): the forced cells as the released guide's own fill.sh prints them over the translation 3b2baf63e7c5f409… (all of the seat's roots in one cut). By AI agents, Wed Nov 11 2026. No macro, syntax, notation, axiom, sorry.
-/
import Derived.Test.YtdoecpghlfjhiacChecked
import GoSem.Claim
import GoSem.ClaimJoined
import GoSem.ClaimMapViews
import Derived.JoinedTies
import Derived.KernelRfl
namespace Go.Proofs.Ytdoecpghlfjhiac
/- THE CELL 'sum', in the pinned program and in every row, IS THE sha256 OF THE DUMP (.gsa) THAT YtdoecpghlfjhiacProg.lean LOADS. Nothing in Lean hashes anything: it is a label: what it is worth is what the hold of that sum in a sandbox is worth. -/
noncomputable def Try.pinned : Pinned := { name := "ytdoecpghlfjhiac", sum := "3b2baf63e7c5f409593730968616633bc82b795e081976c852c96f2af6763f3a", checked := Try.checked }
namespace Rows
def none {H : Type} : Left H := { results := [], args := [] }

/-- 'laws.FnSlopes': WHATEVER THE INPUT: true; the input reads as it did. -/
def fnSlopesSpec : ChangeSpec := { name := "fnSlopes", fn := fun _ => fun
  | [d1, d2] => { results := [.lit (.bool true)], args := [d1, d2] }
  | _ => none }
def fnSlopesRow : OpenClaim := { program := "ytdoecpghlfjhiac", sum := "3b2baf63e7c5f409593730968616633bc82b795e081976c852c96f2af6763f3a", func := "loop.example/g01302/laws.FnSlopes", spec := "fnSlopes", inPlace := ["math.sqrt", "math.Float32bits"], unfollowed := true, recurses := true, leaving := true, apart := false }
def FnSlopesSaid : Prop := fnSlopesRow.holds Try.pinned (OpenSpec.ofChange fnSlopesSpec)

/-- ITS FALSE NEIGHBOUR: 'it returns false'. Refute it at one input. -/
def fnSlopesWrong : ChangeSpec := { name := "fnSlopes", fn := fun _ => fun
  | [d1, d2] => { results := [.lit (.bool false)], args := [d1, d2] }
  | _ => none }
def FnSlopesWrongFalsely : Prop := fnSlopesRow.holds Try.pinned (OpenSpec.ofChange fnSlopesWrong)

/-- 'laws.FnCanals': WHATEVER THE INPUT: true; the input reads as it did. -/
def fnCanalsSpec : ChangeSpec := { name := "fnCanals", fn := fun _ => fun
  | [d1, d2] => { results := [.lit (.bool true)], args := [d1, d2] }
  | _ => none }
def fnCanalsRow : OpenClaim := { program := "ytdoecpghlfjhiac", sum := "3b2baf63e7c5f409593730968616633bc82b795e081976c852c96f2af6763f3a", func := "loop.example/g01302/laws.FnCanals", spec := "fnCanals", inPlace := ["math.Float32bits", "math.sqrt"], unfollowed := true, recurses := true, leaving := true, apart := false }
def FnCanalsSaid : Prop := fnCanalsRow.holds Try.pinned (OpenSpec.ofChange fnCanalsSpec)

/-- ITS FALSE NEIGHBOUR: 'it returns false'. Refute it at one input. -/
def fnCanalsWrong : ChangeSpec := { name := "fnCanals", fn := fun _ => fun
  | [d1, d2] => { results := [.lit (.bool false)], args := [d1, d2] }
  | _ => none }
def FnCanalsWrongFalsely : Prop := fnCanalsRow.holds Try.pinned (OpenSpec.ofChange fnCanalsWrong)

/-- 'laws.FnReaches': WHATEVER THE INPUT: true; the input reads as it did. -/
def fnReachesSpec : ChangeSpec := { name := "fnReaches", fn := fun _ => fun
  | [d1, d2] => { results := [.lit (.bool true)], args := [d1, d2] }
  | _ => none }
def fnReachesRow : OpenClaim := { program := "ytdoecpghlfjhiac", sum := "3b2baf63e7c5f409593730968616633bc82b795e081976c852c96f2af6763f3a", func := "loop.example/g01302/laws.FnReaches", spec := "fnReaches", inPlace := ["math.Float32bits", "(*sync.WaitGroup).Add", "internal/race.ReleaseMerge", "internal/race.Disable", "internal/race.Enable", "internal/synctest.IsInBubble", "internal/synctest.Associate[sync.WaitGroup]", "sync.fatal", "sync/atomic.OrUint64", "sync/atomic.AddUint64", "internal/race.Read", "sync/atomic.LoadUint64", "sync/atomic.StoreUint64", "internal/synctest.Disassociate[sync.WaitGroup]", "sync.runtime_Semrelease", "(*sync.WaitGroup).Done", "(*sync.WaitGroup).Wait", "internal/race.Acquire", "internal/synctest.IsAssociated[sync.WaitGroup]", "sync/atomic.CompareAndSwapUint64", "internal/race.Write", "sync.runtime_SemacquireWaitGroup"], unfollowed := true, recurses := true, leaving := true, apart := false }
def FnReachesSaid : Prop := fnReachesRow.holds Try.pinned (OpenSpec.ofChange fnReachesSpec)

/-- ITS FALSE NEIGHBOUR: 'it returns false'. Refute it at one input. -/
def fnReachesWrong : ChangeSpec := { name := "fnReaches", fn := fun _ => fun
  | [d1, d2] => { results := [.lit (.bool false)], args := [d1, d2] }
  | _ => none }
def FnReachesWrongFalsely : Prop := fnReachesRow.holds Try.pinned (OpenSpec.ofChange fnReachesWrong)

/-- 'laws.FnExactRouteShared': WHATEVER THE INPUT: true; the input reads as it did. -/
def fnExactRouteSharedSpec : ChangeSpec := { name := "fnExactRouteShared", fn := fun _ => fun
  | [d1, d2, d3, d4] => { results := [.lit (.bool true)], args := [d1, d2, d3, d4] }
  | _ => none }
def fnExactRouteSharedRow : OpenClaim := { program := "ytdoecpghlfjhiac", sum := "3b2baf63e7c5f409593730968616633bc82b795e081976c852c96f2af6763f3a", func := "loop.example/g01302/laws.FnExactRouteShared", spec := "fnExactRouteShared", inPlace := ["math.Float32bits", "(*sync.WaitGroup).Add", "internal/race.ReleaseMerge", "internal/race.Disable", "internal/race.Enable", "internal/synctest.IsInBubble", "internal/synctest.Associate[sync.WaitGroup]", "sync.fatal", "sync/atomic.OrUint64", "sync/atomic.AddUint64", "internal/race.Read", "sync/atomic.LoadUint64", "sync/atomic.StoreUint64", "internal/synctest.Disassociate[sync.WaitGroup]", "sync.runtime_Semrelease", "(*sync.WaitGroup).Done", "(*sync.WaitGroup).Wait", "internal/race.Acquire", "internal/synctest.IsAssociated[sync.WaitGroup]", "sync/atomic.CompareAndSwapUint64", "internal/race.Write", "sync.runtime_SemacquireWaitGroup"], unfollowed := true, recurses := true, leaving := true, apart := false }
def FnExactRouteSharedSaid : Prop := fnExactRouteSharedRow.holds Try.pinned (OpenSpec.ofChange fnExactRouteSharedSpec)

/-- ITS FALSE NEIGHBOUR: 'it returns false'. Refute it at one input. -/
def fnExactRouteSharedWrong : ChangeSpec := { name := "fnExactRouteShared", fn := fun _ => fun
  | [d1, d2, d3, d4] => { results := [.lit (.bool false)], args := [d1, d2, d3, d4] }
  | _ => none }
def FnExactRouteSharedWrongFalsely : Prop := fnExactRouteSharedRow.holds Try.pinned (OpenSpec.ofChange fnExactRouteSharedWrong)

/-- 'laws.FnExactRunSoil': WHATEVER THE INPUT: true; the input reads as it did. -/
def fnExactRunSoilSpec : ChangeSpec := { name := "fnExactRunSoil", fn := fun _ => fun
  | [d1, d2, d3] => { results := [.lit (.bool true)], args := [d1, d2, d3] }
  | _ => none }
def fnExactRunSoilRow : OpenClaim := { program := "ytdoecpghlfjhiac", sum := "3b2baf63e7c5f409593730968616633bc82b795e081976c852c96f2af6763f3a", func := "loop.example/g01302/laws.FnExactRunSoil", spec := "fnExactRunSoil", inPlace := ["math.Float32bits"], unfollowed := true, recurses := true, leaving := true, apart := false }
def FnExactRunSoilSaid : Prop := fnExactRunSoilRow.holds Try.pinned (OpenSpec.ofChange fnExactRunSoilSpec)

/-- ITS FALSE NEIGHBOUR: 'it returns false'. Refute it at one input. -/
def fnExactRunSoilWrong : ChangeSpec := { name := "fnExactRunSoil", fn := fun _ => fun
  | [d1, d2, d3] => { results := [.lit (.bool false)], args := [d1, d2, d3] }
  | _ => none }
def FnExactRunSoilWrongFalsely : Prop := fnExactRunSoilRow.holds Try.pinned (OpenSpec.ofChange fnExactRunSoilWrong)

/-- 'laws.FnExactSameStorms': WHATEVER THE INPUT: true; the input reads as it did. -/
def fnExactSameStormsSpec : ChangeSpec := { name := "fnExactSameStorms", fn := fun _ => fun
  | [d1, d2] => { results := [.lit (.bool true)], args := [d1, d2] }
  | _ => none }
def fnExactSameStormsRow : OpenClaim := { program := "ytdoecpghlfjhiac", sum := "3b2baf63e7c5f409593730968616633bc82b795e081976c852c96f2af6763f3a", func := "loop.example/g01302/laws.FnExactSameStorms", spec := "fnExactSameStorms", inPlace := ["math.Float32bits"], unfollowed := true, recurses := true, leaving := true, apart := false }
def FnExactSameStormsSaid : Prop := fnExactSameStormsRow.holds Try.pinned (OpenSpec.ofChange fnExactSameStormsSpec)

/-- ITS FALSE NEIGHBOUR: 'it returns false'. Refute it at one input. -/
def fnExactSameStormsWrong : ChangeSpec := { name := "fnExactSameStorms", fn := fun _ => fun
  | [d1, d2] => { results := [.lit (.bool false)], args := [d1, d2] }
  | _ => none }
def FnExactSameStormsWrongFalsely : Prop := fnExactSameStormsRow.holds Try.pinned (OpenSpec.ofChange fnExactSameStormsWrong)

/-- 'laws.FnExactStormsOf': WHATEVER THE INPUT: true; the input reads as it did. -/
def fnExactStormsOfSpec : ChangeSpec := { name := "fnExactStormsOf", fn := fun _ => fun
  | [d1, d2, d3, d4] => { results := [.lit (.bool true)], args := [d1, d2, d3, d4] }
  | _ => none }
def fnExactStormsOfRow : OpenClaim := { program := "ytdoecpghlfjhiac", sum := "3b2baf63e7c5f409593730968616633bc82b795e081976c852c96f2af6763f3a", func := "loop.example/g01302/laws.FnExactStormsOf", spec := "fnExactStormsOf", inPlace := ["math.Float32bits"], unfollowed := true, recurses := true, leaving := true, apart := false }
def FnExactStormsOfSaid : Prop := fnExactStormsOfRow.holds Try.pinned (OpenSpec.ofChange fnExactStormsOfSpec)

/-- ITS FALSE NEIGHBOUR: 'it returns false'. Refute it at one input. -/
def fnExactStormsOfWrong : ChangeSpec := { name := "fnExactStormsOf", fn := fun _ => fun
  | [d1, d2, d3, d4] => { results := [.lit (.bool false)], args := [d1, d2, d3, d4] }
  | _ => none }
def FnExactStormsOfWrongFalsely : Prop := fnExactStormsOfRow.holds Try.pinned (OpenSpec.ofChange fnExactStormsOfWrong)

/-- 'laws.FnExactRainList': WHATEVER THE INPUT: true; the input reads as it did. -/
def fnExactRainListSpec : ChangeSpec := { name := "fnExactRainList", fn := fun _ => fun
  | [d1, d2, d3] => { results := [.lit (.bool true)], args := [d1, d2, d3] }
  | _ => none }
def fnExactRainListRow : OpenClaim := { program := "ytdoecpghlfjhiac", sum := "3b2baf63e7c5f409593730968616633bc82b795e081976c852c96f2af6763f3a", func := "loop.example/g01302/laws.FnExactRainList", spec := "fnExactRainList", inPlace := ["math.Float32bits"], unfollowed := true, recurses := true, leaving := true, apart := false }
def FnExactRainListSaid : Prop := fnExactRainListRow.holds Try.pinned (OpenSpec.ofChange fnExactRainListSpec)

/-- ITS FALSE NEIGHBOUR: 'it returns false'. Refute it at one input. -/
def fnExactRainListWrong : ChangeSpec := { name := "fnExactRainList", fn := fun _ => fun
  | [d1, d2, d3] => { results := [.lit (.bool false)], args := [d1, d2, d3] }
  | _ => none }
def FnExactRainListWrongFalsely : Prop := fnExactRainListRow.holds Try.pinned (OpenSpec.ofChange fnExactRainListWrong)

/-- 'laws.FnSoils': WHATEVER THE INPUT: true; the input reads as it did. -/
def fnSoilsSpec : ChangeSpec := { name := "fnSoils", fn := fun _ => fun
  | [d1, d2] => { results := [.lit (.bool true)], args := [d1, d2] }
  | _ => none }
def fnSoilsRow : OpenClaim := { program := "ytdoecpghlfjhiac", sum := "3b2baf63e7c5f409593730968616633bc82b795e081976c852c96f2af6763f3a", func := "loop.example/g01302/laws.FnSoils", spec := "fnSoils", inPlace := ["math.Float32bits"], unfollowed := true, recurses := true, leaving := true, apart := false }
def FnSoilsSaid : Prop := fnSoilsRow.holds Try.pinned (OpenSpec.ofChange fnSoilsSpec)

/-- ITS FALSE NEIGHBOUR: 'it returns false'. Refute it at one input. -/
def fnSoilsWrong : ChangeSpec := { name := "fnSoils", fn := fun _ => fun
  | [d1, d2] => { results := [.lit (.bool false)], args := [d1, d2] }
  | _ => none }
def FnSoilsWrongFalsely : Prop := fnSoilsRow.holds Try.pinned (OpenSpec.ofChange fnSoilsWrong)

/-- 'laws.FnSnows': WHATEVER THE INPUT: true; the input reads as it did. -/
def fnSnowsSpec : ChangeSpec := { name := "fnSnows", fn := fun _ => fun
  | [d1, d2] => { results := [.lit (.bool true)], args := [d1, d2] }
  | _ => none }
def fnSnowsRow : OpenClaim := { program := "ytdoecpghlfjhiac", sum := "3b2baf63e7c5f409593730968616633bc82b795e081976c852c96f2af6763f3a", func := "loop.example/g01302/laws.FnSnows", spec := "fnSnows", inPlace := ["math.Float32bits"], unfollowed := true, recurses := true, leaving := true, apart := false }
def FnSnowsSaid : Prop := fnSnowsRow.holds Try.pinned (OpenSpec.ofChange fnSnowsSpec)

/-- ITS FALSE NEIGHBOUR: 'it returns false'. Refute it at one input. -/
def fnSnowsWrong : ChangeSpec := { name := "fnSnows", fn := fun _ => fun
  | [d1, d2] => { results := [.lit (.bool false)], args := [d1, d2] }
  | _ => none }
def FnSnowsWrongFalsely : Prop := fnSnowsRow.holds Try.pinned (OpenSpec.ofChange fnSnowsWrong)

/-- 'laws.FnBuckets': WHATEVER THE INPUT: true; the input reads as it did. -/
def fnBucketsSpec : ChangeSpec := { name := "fnBuckets", fn := fun _ => fun
  | [d1, d2] => { results := [.lit (.bool true)], args := [d1, d2] }
  | _ => none }
def fnBucketsRow : OpenClaim := { program := "ytdoecpghlfjhiac", sum := "3b2baf63e7c5f409593730968616633bc82b795e081976c852c96f2af6763f3a", func := "loop.example/g01302/laws.FnBuckets", spec := "fnBuckets", inPlace := ["math.Float32bits", "math.Float64frombits"], unfollowed := true, recurses := true, leaving := true, apart := false }
def FnBucketsSaid : Prop := fnBucketsRow.holds Try.pinned (OpenSpec.ofChange fnBucketsSpec)

/-- ITS FALSE NEIGHBOUR: 'it returns false'. Refute it at one input. -/
def fnBucketsWrong : ChangeSpec := { name := "fnBuckets", fn := fun _ => fun
  | [d1, d2] => { results := [.lit (.bool false)], args := [d1, d2] }
  | _ => none }
def FnBucketsWrongFalsely : Prop := fnBucketsRow.holds Try.pinned (OpenSpec.ofChange fnBucketsWrong)

/-- 'laws.FnExactRainShared': WHATEVER THE INPUT: true; the input reads as it did. -/
def fnExactRainSharedSpec : ChangeSpec := { name := "fnExactRainShared", fn := fun _ => fun
  | [d1, d2, d3, d4] => { results := [.lit (.bool true)], args := [d1, d2, d3, d4] }
  | _ => none }
def fnExactRainSharedRow : OpenClaim := { program := "ytdoecpghlfjhiac", sum := "3b2baf63e7c5f409593730968616633bc82b795e081976c852c96f2af6763f3a", func := "loop.example/g01302/laws.FnExactRainShared", spec := "fnExactRainShared", inPlace := ["math.Float32bits", "(*sync.WaitGroup).Add", "internal/race.ReleaseMerge", "internal/race.Disable", "internal/race.Enable", "internal/synctest.IsInBubble", "internal/synctest.Associate[sync.WaitGroup]", "sync.fatal", "sync/atomic.OrUint64", "sync/atomic.AddUint64", "internal/race.Read", "sync/atomic.LoadUint64", "sync/atomic.StoreUint64", "internal/synctest.Disassociate[sync.WaitGroup]", "sync.runtime_Semrelease", "(*sync.WaitGroup).Done", "(*sync.WaitGroup).Wait", "internal/race.Acquire", "internal/synctest.IsAssociated[sync.WaitGroup]", "sync/atomic.CompareAndSwapUint64", "internal/race.Write", "sync.runtime_SemacquireWaitGroup"], unfollowed := true, recurses := true, leaving := true, apart := false }
def FnExactRainSharedSaid : Prop := fnExactRainSharedRow.holds Try.pinned (OpenSpec.ofChange fnExactRainSharedSpec)

/-- ITS FALSE NEIGHBOUR: 'it returns false'. Refute it at one input. -/
def fnExactRainSharedWrong : ChangeSpec := { name := "fnExactRainShared", fn := fun _ => fun
  | [d1, d2, d3, d4] => { results := [.lit (.bool false)], args := [d1, d2, d3, d4] }
  | _ => none }
def FnExactRainSharedWrongFalsely : Prop := fnExactRainSharedRow.holds Try.pinned (OpenSpec.ofChange fnExactRainSharedWrong)

/- THE SECOND FORM. 'bulk': how many values and letters a reading holds, each counted each time it is reached (what is shared counts as often as it is met; a slice's spare places count too). A statement '..UptoSaid' is the law's where the arguments, and the package variables that the reading takes, are together of bulk at most 1048576: NARROWER than '..Said'. Prove '..Said' where nothing that the law and all that it calls make is longer than what came in: it says more and counts as full. Else prove '..UptoSaid'. A law counts once. -/
mutual
def uptoBulk {H : Type} : DataW H → Nat
  | .lit (.string bytes) => bytes.length + 1
  | .lit _ => 1
  | .nil => 1
  | .ptr d => uptoBulk d + 1
  | .slice elems spare => uptoBulkAll elems + uptoBulkAll spare + 1
  | .agg parts => uptoBulkAll parts + 1
  | .iface _ d => uptoBulk d + 1
  | .map entries => uptoBulkEntries entries + 1
  | .held _ => 1
def uptoBulkAll {H : Type} : List (DataW H) → Nat
  | [] => 0
  | d :: r => uptoBulk d + uptoBulkAll r
def uptoBulkEntries {H : Type} : List (Lit × DataW H) → Nat
  | [] => 0
  | x :: r => uptoBulkEntry x + uptoBulkEntries r
def uptoBulkEntry {H : Type} : Lit × DataW H → Nat
  | (.string bytes, d) => bytes.length + uptoBulk d + 1
  | (_, d) => uptoBulk d + 1
 end
def uptoSmall : (H : Type) → List (DataW H) → Bool := fun _ ds => decide (uptoBulkAll ds ≤ 1048576)
def OpenSpec.upto (s : _root_.Go.ChangeSpec) : _root_.Go.OpenSpec := { _root_.Go.OpenSpec.ofChange s with cond := some uptoSmall }

/-- 'laws.FnSlopes', WHERE WHAT IT READS IS OF BULK AT MOST 1048576: true; the input reads as it did. -/
def fnSlopesUptoRow : OpenClaim := { program := "ytdoecpghlfjhiac", sum := "3b2baf63e7c5f409593730968616633bc82b795e081976c852c96f2af6763f3a", func := "loop.example/g01302/laws.FnSlopes", spec := "fnSlopes", inPlace := ["math.sqrt", "math.Float32bits"], unfollowed := true, recurses := true, leaving := true, apart := false, narrowed := true }
def FnSlopesUptoSaid : Prop := fnSlopesUptoRow.holds Try.pinned (OpenSpec.upto fnSlopesSpec)

/-- 'laws.FnCanals', WHERE WHAT IT READS IS OF BULK AT MOST 1048576: true; the input reads as it did. -/
def fnCanalsUptoRow : OpenClaim := { program := "ytdoecpghlfjhiac", sum := "3b2baf63e7c5f409593730968616633bc82b795e081976c852c96f2af6763f3a", func := "loop.example/g01302/laws.FnCanals", spec := "fnCanals", inPlace := ["math.Float32bits", "math.sqrt"], unfollowed := true, recurses := true, leaving := true, apart := false, narrowed := true }
def FnCanalsUptoSaid : Prop := fnCanalsUptoRow.holds Try.pinned (OpenSpec.upto fnCanalsSpec)

/-- 'laws.FnReaches', WHERE WHAT IT READS IS OF BULK AT MOST 1048576: true; the input reads as it did. -/
def fnReachesUptoRow : OpenClaim := { program := "ytdoecpghlfjhiac", sum := "3b2baf63e7c5f409593730968616633bc82b795e081976c852c96f2af6763f3a", func := "loop.example/g01302/laws.FnReaches", spec := "fnReaches", inPlace := ["math.Float32bits", "(*sync.WaitGroup).Add", "internal/race.ReleaseMerge", "internal/race.Disable", "internal/race.Enable", "internal/synctest.IsInBubble", "internal/synctest.Associate[sync.WaitGroup]", "sync.fatal", "sync/atomic.OrUint64", "sync/atomic.AddUint64", "internal/race.Read", "sync/atomic.LoadUint64", "sync/atomic.StoreUint64", "internal/synctest.Disassociate[sync.WaitGroup]", "sync.runtime_Semrelease", "(*sync.WaitGroup).Done", "(*sync.WaitGroup).Wait", "internal/race.Acquire", "internal/synctest.IsAssociated[sync.WaitGroup]", "sync/atomic.CompareAndSwapUint64", "internal/race.Write", "sync.runtime_SemacquireWaitGroup"], unfollowed := true, recurses := true, leaving := true, apart := false, narrowed := true }
def FnReachesUptoSaid : Prop := fnReachesUptoRow.holds Try.pinned (OpenSpec.upto fnReachesSpec)

/-- 'laws.FnExactRouteShared', WHERE WHAT IT READS IS OF BULK AT MOST 1048576: true; the input reads as it did. -/
def fnExactRouteSharedUptoRow : OpenClaim := { program := "ytdoecpghlfjhiac", sum := "3b2baf63e7c5f409593730968616633bc82b795e081976c852c96f2af6763f3a", func := "loop.example/g01302/laws.FnExactRouteShared", spec := "fnExactRouteShared", inPlace := ["math.Float32bits", "(*sync.WaitGroup).Add", "internal/race.ReleaseMerge", "internal/race.Disable", "internal/race.Enable", "internal/synctest.IsInBubble", "internal/synctest.Associate[sync.WaitGroup]", "sync.fatal", "sync/atomic.OrUint64", "sync/atomic.AddUint64", "internal/race.Read", "sync/atomic.LoadUint64", "sync/atomic.StoreUint64", "internal/synctest.Disassociate[sync.WaitGroup]", "sync.runtime_Semrelease", "(*sync.WaitGroup).Done", "(*sync.WaitGroup).Wait", "internal/race.Acquire", "internal/synctest.IsAssociated[sync.WaitGroup]", "sync/atomic.CompareAndSwapUint64", "internal/race.Write", "sync.runtime_SemacquireWaitGroup"], unfollowed := true, recurses := true, leaving := true, apart := false, narrowed := true }
def FnExactRouteSharedUptoSaid : Prop := fnExactRouteSharedUptoRow.holds Try.pinned (OpenSpec.upto fnExactRouteSharedSpec)

/-- 'laws.FnExactRunSoil', WHERE WHAT IT READS IS OF BULK AT MOST 1048576: true; the input reads as it did. -/
def fnExactRunSoilUptoRow : OpenClaim := { program := "ytdoecpghlfjhiac", sum := "3b2baf63e7c5f409593730968616633bc82b795e081976c852c96f2af6763f3a", func := "loop.example/g01302/laws.FnExactRunSoil", spec := "fnExactRunSoil", inPlace := ["math.Float32bits"], unfollowed := true, recurses := true, leaving := true, apart := false, narrowed := true }
def FnExactRunSoilUptoSaid : Prop := fnExactRunSoilUptoRow.holds Try.pinned (OpenSpec.upto fnExactRunSoilSpec)

/-- 'laws.FnExactSameStorms', WHERE WHAT IT READS IS OF BULK AT MOST 1048576: true; the input reads as it did. -/
def fnExactSameStormsUptoRow : OpenClaim := { program := "ytdoecpghlfjhiac", sum := "3b2baf63e7c5f409593730968616633bc82b795e081976c852c96f2af6763f3a", func := "loop.example/g01302/laws.FnExactSameStorms", spec := "fnExactSameStorms", inPlace := ["math.Float32bits"], unfollowed := true, recurses := true, leaving := true, apart := false, narrowed := true }
def FnExactSameStormsUptoSaid : Prop := fnExactSameStormsUptoRow.holds Try.pinned (OpenSpec.upto fnExactSameStormsSpec)

/-- 'laws.FnExactStormsOf', WHERE WHAT IT READS IS OF BULK AT MOST 1048576: true; the input reads as it did. -/
def fnExactStormsOfUptoRow : OpenClaim := { program := "ytdoecpghlfjhiac", sum := "3b2baf63e7c5f409593730968616633bc82b795e081976c852c96f2af6763f3a", func := "loop.example/g01302/laws.FnExactStormsOf", spec := "fnExactStormsOf", inPlace := ["math.Float32bits"], unfollowed := true, recurses := true, leaving := true, apart := false, narrowed := true }
def FnExactStormsOfUptoSaid : Prop := fnExactStormsOfUptoRow.holds Try.pinned (OpenSpec.upto fnExactStormsOfSpec)

/-- 'laws.FnExactRainList', WHERE WHAT IT READS IS OF BULK AT MOST 1048576: true; the input reads as it did. -/
def fnExactRainListUptoRow : OpenClaim := { program := "ytdoecpghlfjhiac", sum := "3b2baf63e7c5f409593730968616633bc82b795e081976c852c96f2af6763f3a", func := "loop.example/g01302/laws.FnExactRainList", spec := "fnExactRainList", inPlace := ["math.Float32bits"], unfollowed := true, recurses := true, leaving := true, apart := false, narrowed := true }
def FnExactRainListUptoSaid : Prop := fnExactRainListUptoRow.holds Try.pinned (OpenSpec.upto fnExactRainListSpec)

/-- 'laws.FnSoils', WHERE WHAT IT READS IS OF BULK AT MOST 1048576: true; the input reads as it did. -/
def fnSoilsUptoRow : OpenClaim := { program := "ytdoecpghlfjhiac", sum := "3b2baf63e7c5f409593730968616633bc82b795e081976c852c96f2af6763f3a", func := "loop.example/g01302/laws.FnSoils", spec := "fnSoils", inPlace := ["math.Float32bits"], unfollowed := true, recurses := true, leaving := true, apart := false, narrowed := true }
def FnSoilsUptoSaid : Prop := fnSoilsUptoRow.holds Try.pinned (OpenSpec.upto fnSoilsSpec)

/-- 'laws.FnSnows', WHERE WHAT IT READS IS OF BULK AT MOST 1048576: true; the input reads as it did. -/
def fnSnowsUptoRow : OpenClaim := { program := "ytdoecpghlfjhiac", sum := "3b2baf63e7c5f409593730968616633bc82b795e081976c852c96f2af6763f3a", func := "loop.example/g01302/laws.FnSnows", spec := "fnSnows", inPlace := ["math.Float32bits"], unfollowed := true, recurses := true, leaving := true, apart := false, narrowed := true }
def FnSnowsUptoSaid : Prop := fnSnowsUptoRow.holds Try.pinned (OpenSpec.upto fnSnowsSpec)

/-- 'laws.FnBuckets', WHERE WHAT IT READS IS OF BULK AT MOST 1048576: true; the input reads as it did. -/
def fnBucketsUptoRow : OpenClaim := { program := "ytdoecpghlfjhiac", sum := "3b2baf63e7c5f409593730968616633bc82b795e081976c852c96f2af6763f3a", func := "loop.example/g01302/laws.FnBuckets", spec := "fnBuckets", inPlace := ["math.Float32bits", "math.Float64frombits"], unfollowed := true, recurses := true, leaving := true, apart := false, narrowed := true }
def FnBucketsUptoSaid : Prop := fnBucketsUptoRow.holds Try.pinned (OpenSpec.upto fnBucketsSpec)

/-- 'laws.FnExactRainShared', WHERE WHAT IT READS IS OF BULK AT MOST 1048576: true; the input reads as it did. -/
def fnExactRainSharedUptoRow : OpenClaim := { program := "ytdoecpghlfjhiac", sum := "3b2baf63e7c5f409593730968616633bc82b795e081976c852c96f2af6763f3a", func := "loop.example/g01302/laws.FnExactRainShared", spec := "fnExactRainShared", inPlace := ["math.Float32bits", "(*sync.WaitGroup).Add", "internal/race.ReleaseMerge", "internal/race.Disable", "internal/race.Enable", "internal/synctest.IsInBubble", "internal/synctest.Associate[sync.WaitGroup]", "sync.fatal", "sync/atomic.OrUint64", "sync/atomic.AddUint64", "internal/race.Read", "sync/atomic.LoadUint64", "sync/atomic.StoreUint64", "internal/synctest.Disassociate[sync.WaitGroup]", "sync.runtime_Semrelease", "(*sync.WaitGroup).Done", "(*sync.WaitGroup).Wait", "internal/race.Acquire", "internal/synctest.IsAssociated[sync.WaitGroup]", "sync/atomic.CompareAndSwapUint64", "internal/race.Write", "sync.runtime_SemacquireWaitGroup"], unfollowed := true, recurses := true, leaving := true, apart := false, narrowed := true }
def FnExactRainSharedUptoSaid : Prop := fnExactRainSharedUptoRow.holds Try.pinned (OpenSpec.upto fnExactRainSharedSpec)

end Rows
end Go.Proofs.Ytdoecpghlfjhiac
