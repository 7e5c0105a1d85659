/-
  No cell of these rows narrows 'for every input' (looked for: loops, veiled, ifaces, maps, wideKeys, modest, calm, conditions, laid).
  DERIVED. THE GIVEN ROWS OF THIS SEAT. 9 by the template 'for every input the law returns true; each argument reads behind the call as it read before'; 0 by the template 'total and deterministic' (their statements: YtckmacnmmloemaaTotals.lean).
  GIVEN WITH THE SEED: the statements are not yours to turn. If you find one false, say at which input.
  Laid BY PROGRAM, IN A SANDBOX (cutbox-rows.mjs): the forced cells as the released guide's own fill.sh prints them over the translation 8f85c3a9f20d72de… (all of the seat's roots in one cut). By AI agents, Wed Nov 11 2026. No macro, syntax, notation, axiom, sorry.
-/
import Derived.Test.YtckmacnmmloemaaChecked
import GoSem.Claim
import GoSem.ClaimJoined
import GoSem.ClaimMapViews
import Derived.JoinedTies
import Derived.KernelRfl
namespace Go.Proofs.Ytckmacnmmloemaa
/- THE CELL 'sum', in the pinned program and in every row, IS THE sha256 OF THE DUMP (.gsa) THAT YtckmacnmmloemaaProg.lean LOADS. Nothing in Lean hashes anything: it is a label: what it is worth is what the hold of that sum in a sandbox is worth. -/
noncomputable def Try.pinned : Pinned := { name := "ytckmacnmmloemaa", sum := "8f85c3a9f20d72dee1f7778de1c365e35c4a4435fe7f7745c58694c3d52dbd8b", checked := Try.checked }
namespace Rows
def none {H : Type} : Left H := { results := [], args := [] }

/-- 'laws.FnExactDayOf': WHATEVER THE INPUT: true; the input reads as it did. -/
def fnExactDayOfSpec : ChangeSpec := { name := "fnExactDayOf", fn := fun _ => fun
  | [d1, d2] => { results := [.lit (.bool true)], args := [d1, d2] }
  | _ => none }
def fnExactDayOfRow : OpenClaim := { program := "ytckmacnmmloemaa", sum := "8f85c3a9f20d72dee1f7778de1c365e35c4a4435fe7f7745c58694c3d52dbd8b", func := "loop.example/g01302/laws.FnExactDayOf", spec := "fnExactDayOf", unfollowed := true, recurses := true, leaving := true, apart := false }
def FnExactDayOfSaid : Prop := fnExactDayOfRow.holds Try.pinned (OpenSpec.ofChange fnExactDayOfSpec)

/-- ITS FALSE NEIGHBOUR: 'it returns false'. Refute it at one input. -/
def fnExactDayOfWrong : ChangeSpec := { name := "fnExactDayOf", fn := fun _ => fun
  | [d1, d2] => { results := [.lit (.bool false)], args := [d1, d2] }
  | _ => none }
def FnExactDayOfWrongFalsely : Prop := fnExactDayOfRow.holds Try.pinned (OpenSpec.ofChange fnExactDayOfWrong)

/-- 'laws.FnExactRunDays': WHATEVER THE INPUT: true; the input reads as it did. -/
def fnExactRunDaysSpec : ChangeSpec := { name := "fnExactRunDays", fn := fun _ => fun
  | [d1, d2] => { results := [.lit (.bool true)], args := [d1, d2] }
  | _ => none }
def fnExactRunDaysRow : OpenClaim := { program := "ytckmacnmmloemaa", sum := "8f85c3a9f20d72dee1f7778de1c365e35c4a4435fe7f7745c58694c3d52dbd8b", func := "loop.example/g01302/laws.FnExactRunDays", spec := "fnExactRunDays", unfollowed := true, recurses := true, leaving := true, apart := false }
def FnExactRunDaysSaid : Prop := fnExactRunDaysRow.holds Try.pinned (OpenSpec.ofChange fnExactRunDaysSpec)

/-- ITS FALSE NEIGHBOUR: 'it returns false'. Refute it at one input. -/
def fnExactRunDaysWrong : ChangeSpec := { name := "fnExactRunDays", fn := fun _ => fun
  | [d1, d2] => { results := [.lit (.bool false)], args := [d1, d2] }
  | _ => none }
def FnExactRunDaysWrongFalsely : Prop := fnExactRunDaysRow.holds Try.pinned (OpenSpec.ofChange fnExactRunDaysWrong)

/-- 'laws.FnExactLedgerOf': WHATEVER THE INPUT: true; the input reads as it did. -/
def fnExactLedgerOfSpec : ChangeSpec := { name := "fnExactLedgerOf", fn := fun _ => fun
  | [d1, d2] => { results := [.lit (.bool true)], args := [d1, d2] }
  | _ => none }
def fnExactLedgerOfRow : OpenClaim := { program := "ytckmacnmmloemaa", sum := "8f85c3a9f20d72dee1f7778de1c365e35c4a4435fe7f7745c58694c3d52dbd8b", func := "loop.example/g01302/laws.FnExactLedgerOf", spec := "fnExactLedgerOf", unfollowed := true, recurses := true, leaving := true, apart := false }
def FnExactLedgerOfSaid : Prop := fnExactLedgerOfRow.holds Try.pinned (OpenSpec.ofChange fnExactLedgerOfSpec)

/-- ITS FALSE NEIGHBOUR: 'it returns false'. Refute it at one input. -/
def fnExactLedgerOfWrong : ChangeSpec := { name := "fnExactLedgerOf", fn := fun _ => fun
  | [d1, d2] => { results := [.lit (.bool false)], args := [d1, d2] }
  | _ => none }
def FnExactLedgerOfWrongFalsely : Prop := fnExactLedgerOfRow.holds Try.pinned (OpenSpec.ofChange fnExactLedgerOfWrong)

/-- 'laws.FnExactShortDays': WHATEVER THE INPUT: true; the input reads as it did. -/
def fnExactShortDaysSpec : ChangeSpec := { name := "fnExactShortDays", fn := fun _ => fun
  | [d1, d2] => { results := [.lit (.bool true)], args := [d1, d2] }
  | _ => none }
def fnExactShortDaysRow : OpenClaim := { program := "ytckmacnmmloemaa", sum := "8f85c3a9f20d72dee1f7778de1c365e35c4a4435fe7f7745c58694c3d52dbd8b", func := "loop.example/g01302/laws.FnExactShortDays", spec := "fnExactShortDays", unfollowed := true, recurses := true, leaving := true, apart := false }
def FnExactShortDaysSaid : Prop := fnExactShortDaysRow.holds Try.pinned (OpenSpec.ofChange fnExactShortDaysSpec)

/-- ITS FALSE NEIGHBOUR: 'it returns false'. Refute it at one input. -/
def fnExactShortDaysWrong : ChangeSpec := { name := "fnExactShortDays", fn := fun _ => fun
  | [d1, d2] => { results := [.lit (.bool false)], args := [d1, d2] }
  | _ => none }
def FnExactShortDaysWrongFalsely : Prop := fnExactShortDaysRow.holds Try.pinned (OpenSpec.ofChange fnExactShortDaysWrong)

/-- 'laws.FnExactLeastSize': WHATEVER THE INPUT: true; the input reads as it did. -/
def fnExactLeastSizeSpec : ChangeSpec := { name := "fnExactLeastSize", fn := fun _ => fun
  | [d1, d2, d3, d4] => { results := [.lit (.bool true)], args := [d1, d2, d3, d4] }
  | _ => none }
def fnExactLeastSizeRow : OpenClaim := { program := "ytckmacnmmloemaa", sum := "8f85c3a9f20d72dee1f7778de1c365e35c4a4435fe7f7745c58694c3d52dbd8b", func := "loop.example/g01302/laws.FnExactLeastSize", spec := "fnExactLeastSize", unfollowed := true, recurses := true, leaving := true, apart := false }
def FnExactLeastSizeSaid : Prop := fnExactLeastSizeRow.holds Try.pinned (OpenSpec.ofChange fnExactLeastSizeSpec)

/-- ITS FALSE NEIGHBOUR: 'it returns false'. Refute it at one input. -/
def fnExactLeastSizeWrong : ChangeSpec := { name := "fnExactLeastSize", fn := fun _ => fun
  | [d1, d2, d3, d4] => { results := [.lit (.bool false)], args := [d1, d2, d3, d4] }
  | _ => none }
def FnExactLeastSizeWrongFalsely : Prop := fnExactLeastSizeRow.holds Try.pinned (OpenSpec.ofChange fnExactLeastSizeWrong)

/-- 'laws.FnExactSplitExact': WHATEVER THE INPUT: true; the input reads as it did. -/
def fnExactSplitExactSpec : ChangeSpec := { name := "fnExactSplitExact", fn := fun _ => fun
  | [d1, d2] => { results := [.lit (.bool true)], args := [d1, d2] }
  | _ => none }
def fnExactSplitExactRow : OpenClaim := { program := "ytckmacnmmloemaa", sum := "8f85c3a9f20d72dee1f7778de1c365e35c4a4435fe7f7745c58694c3d52dbd8b", func := "loop.example/g01302/laws.FnExactSplitExact", spec := "fnExactSplitExact", unfollowed := true, recurses := true, leaving := true, apart := false }
def FnExactSplitExactSaid : Prop := fnExactSplitExactRow.holds Try.pinned (OpenSpec.ofChange fnExactSplitExactSpec)

/-- ITS FALSE NEIGHBOUR: 'it returns false'. Refute it at one input. -/
def fnExactSplitExactWrong : ChangeSpec := { name := "fnExactSplitExact", fn := fun _ => fun
  | [d1, d2] => { results := [.lit (.bool false)], args := [d1, d2] }
  | _ => none }
def FnExactSplitExactWrongFalsely : Prop := fnExactSplitExactRow.holds Try.pinned (OpenSpec.ofChange fnExactSplitExactWrong)

/-- 'laws.FnExactByRights': WHATEVER THE INPUT: true; the input reads as it did. -/
def fnExactByRightsSpec : ChangeSpec := { name := "fnExactByRights", fn := fun _ => fun
  | [d1, d2, d3] => { results := [.lit (.bool true)], args := [d1, d2, d3] }
  | _ => none }
def fnExactByRightsRow : OpenClaim := { program := "ytckmacnmmloemaa", sum := "8f85c3a9f20d72dee1f7778de1c365e35c4a4435fe7f7745c58694c3d52dbd8b", func := "loop.example/g01302/laws.FnExactByRights", spec := "fnExactByRights", unfollowed := true, recurses := true, leaving := true, apart := false }
def FnExactByRightsSaid : Prop := fnExactByRightsRow.holds Try.pinned (OpenSpec.ofChange fnExactByRightsSpec)

/-- ITS FALSE NEIGHBOUR: 'it returns false'. Refute it at one input. -/
def fnExactByRightsWrong : ChangeSpec := { name := "fnExactByRights", fn := fun _ => fun
  | [d1, d2, d3] => { results := [.lit (.bool false)], args := [d1, d2, d3] }
  | _ => none }
def FnExactByRightsWrongFalsely : Prop := fnExactByRightsRow.holds Try.pinned (OpenSpec.ofChange fnExactByRightsWrong)

/-- 'laws.FnExactHalfWay': WHATEVER THE INPUT: true; the input reads as it did. -/
def fnExactHalfWaySpec : ChangeSpec := { name := "fnExactHalfWay", fn := fun _ => fun
  | [d] => { results := [.lit (.bool true)], args := [d] }
  | _ => none }
def fnExactHalfWayRow : OpenClaim := { program := "ytckmacnmmloemaa", sum := "8f85c3a9f20d72dee1f7778de1c365e35c4a4435fe7f7745c58694c3d52dbd8b", func := "loop.example/g01302/laws.FnExactHalfWay", spec := "fnExactHalfWay", unfollowed := true, recurses := true, leaving := true, apart := false }
def FnExactHalfWaySaid : Prop := fnExactHalfWayRow.holds Try.pinned (OpenSpec.ofChange fnExactHalfWaySpec)

/-- ITS FALSE NEIGHBOUR: 'it returns false'. Refute it at one input. -/
def fnExactHalfWayWrong : ChangeSpec := { name := "fnExactHalfWay", fn := fun _ => fun
  | [d] => { results := [.lit (.bool false)], args := [d] }
  | _ => none }
def FnExactHalfWayWrongFalsely : Prop := fnExactHalfWayRow.holds Try.pinned (OpenSpec.ofChange fnExactHalfWayWrong)

/-- 'laws.FnExactRunManyDays': WHATEVER THE INPUT: true; the input reads as it did. -/
def fnExactRunManyDaysSpec : ChangeSpec := { name := "fnExactRunManyDays", fn := fun _ => fun
  | [d1, d2, d3] => { results := [.lit (.bool true)], args := [d1, d2, d3] }
  | _ => none }
def fnExactRunManyDaysRow : OpenClaim := { program := "ytckmacnmmloemaa", sum := "8f85c3a9f20d72dee1f7778de1c365e35c4a4435fe7f7745c58694c3d52dbd8b", func := "loop.example/g01302/laws.FnExactRunManyDays", spec := "fnExactRunManyDays", inPlace := ["(*sync.WaitGroup).Add", "internal/race.ReleaseMerge", "internal/race.Disable", "internal/race.Enable", "internal/synctest.IsInBubble", "internal/synctest.Associate[sync.WaitGroup]", "sync.fatal", "sync/atomic.OrUint64", "sync/atomic.AddUint64", "internal/race.Read", "sync/atomic.LoadUint64", "sync/atomic.StoreUint64", "internal/synctest.Disassociate[sync.WaitGroup]", "sync.runtime_Semrelease", "(*sync.WaitGroup).Done", "(*sync.WaitGroup).Wait", "internal/race.Acquire", "internal/synctest.IsAssociated[sync.WaitGroup]", "sync/atomic.CompareAndSwapUint64", "internal/race.Write", "sync.runtime_SemacquireWaitGroup"], unfollowed := true, recurses := true, leaving := true, apart := false }
def FnExactRunManyDaysSaid : Prop := fnExactRunManyDaysRow.holds Try.pinned (OpenSpec.ofChange fnExactRunManyDaysSpec)

/-- ITS FALSE NEIGHBOUR: 'it returns false'. Refute it at one input. -/
def fnExactRunManyDaysWrong : ChangeSpec := { name := "fnExactRunManyDays", fn := fun _ => fun
  | [d1, d2, d3] => { results := [.lit (.bool false)], args := [d1, d2, d3] }
  | _ => none }
def FnExactRunManyDaysWrongFalsely : Prop := fnExactRunManyDaysRow.holds Try.pinned (OpenSpec.ofChange fnExactRunManyDaysWrong)

/- THE SECOND FORM. 'bulk': how many values and letters a reading holds, each counted each time it is reached (what is shared counts as often as it is met; a slice's spare places count too). A statement '..UptoSaid' is the law's where the arguments, and the package variables that the reading takes, are together of bulk at most 1048576: NARROWER than '..Said'. Prove '..Said' where nothing that the law and all that it calls make is longer than what came in: it says more and counts as full. Else prove '..UptoSaid'. A law counts once. -/
mutual
def uptoBulk {H : Type} : DataW H → Nat
  | .lit (.string bytes) => bytes.length + 1
  | .lit _ => 1
  | .nil => 1
  | .ptr d => uptoBulk d + 1
  | .slice elems spare => uptoBulkAll elems + uptoBulkAll spare + 1
  | .agg parts => uptoBulkAll parts + 1
  | .iface _ d => uptoBulk d + 1
  | .map entries => uptoBulkEntries entries + 1
  | .held _ => 1
def uptoBulkAll {H : Type} : List (DataW H) → Nat
  | [] => 0
  | d :: r => uptoBulk d + uptoBulkAll r
def uptoBulkEntries {H : Type} : List (Lit × DataW H) → Nat
  | [] => 0
  | x :: r => uptoBulkEntry x + uptoBulkEntries r
def uptoBulkEntry {H : Type} : Lit × DataW H → Nat
  | (.string bytes, d) => bytes.length + uptoBulk d + 1
  | (_, d) => uptoBulk d + 1
 end
def uptoSmall : (H : Type) → List (DataW H) → Bool := fun _ ds => decide (uptoBulkAll ds ≤ 1048576)
def OpenSpec.upto (s : _root_.Go.ChangeSpec) : _root_.Go.OpenSpec := { _root_.Go.OpenSpec.ofChange s with cond := some uptoSmall }

/-- 'laws.FnExactDayOf', WHERE WHAT IT READS IS OF BULK AT MOST 1048576: true; the input reads as it did. -/
def fnExactDayOfUptoRow : OpenClaim := { program := "ytckmacnmmloemaa", sum := "8f85c3a9f20d72dee1f7778de1c365e35c4a4435fe7f7745c58694c3d52dbd8b", func := "loop.example/g01302/laws.FnExactDayOf", spec := "fnExactDayOf", unfollowed := true, recurses := true, leaving := true, apart := false, narrowed := true }
def FnExactDayOfUptoSaid : Prop := fnExactDayOfUptoRow.holds Try.pinned (OpenSpec.upto fnExactDayOfSpec)

/-- 'laws.FnExactRunDays', WHERE WHAT IT READS IS OF BULK AT MOST 1048576: true; the input reads as it did. -/
def fnExactRunDaysUptoRow : OpenClaim := { program := "ytckmacnmmloemaa", sum := "8f85c3a9f20d72dee1f7778de1c365e35c4a4435fe7f7745c58694c3d52dbd8b", func := "loop.example/g01302/laws.FnExactRunDays", spec := "fnExactRunDays", unfollowed := true, recurses := true, leaving := true, apart := false, narrowed := true }
def FnExactRunDaysUptoSaid : Prop := fnExactRunDaysUptoRow.holds Try.pinned (OpenSpec.upto fnExactRunDaysSpec)

/-- 'laws.FnExactLedgerOf', WHERE WHAT IT READS IS OF BULK AT MOST 1048576: true; the input reads as it did. -/
def fnExactLedgerOfUptoRow : OpenClaim := { program := "ytckmacnmmloemaa", sum := "8f85c3a9f20d72dee1f7778de1c365e35c4a4435fe7f7745c58694c3d52dbd8b", func := "loop.example/g01302/laws.FnExactLedgerOf", spec := "fnExactLedgerOf", unfollowed := true, recurses := true, leaving := true, apart := false, narrowed := true }
def FnExactLedgerOfUptoSaid : Prop := fnExactLedgerOfUptoRow.holds Try.pinned (OpenSpec.upto fnExactLedgerOfSpec)

/-- 'laws.FnExactShortDays', WHERE WHAT IT READS IS OF BULK AT MOST 1048576: true; the input reads as it did. -/
def fnExactShortDaysUptoRow : OpenClaim := { program := "ytckmacnmmloemaa", sum := "8f85c3a9f20d72dee1f7778de1c365e35c4a4435fe7f7745c58694c3d52dbd8b", func := "loop.example/g01302/laws.FnExactShortDays", spec := "fnExactShortDays", unfollowed := true, recurses := true, leaving := true, apart := false, narrowed := true }
def FnExactShortDaysUptoSaid : Prop := fnExactShortDaysUptoRow.holds Try.pinned (OpenSpec.upto fnExactShortDaysSpec)

/-- 'laws.FnExactLeastSize', WHERE WHAT IT READS IS OF BULK AT MOST 1048576: true; the input reads as it did. -/
def fnExactLeastSizeUptoRow : OpenClaim := { program := "ytckmacnmmloemaa", sum := "8f85c3a9f20d72dee1f7778de1c365e35c4a4435fe7f7745c58694c3d52dbd8b", func := "loop.example/g01302/laws.FnExactLeastSize", spec := "fnExactLeastSize", unfollowed := true, recurses := true, leaving := true, apart := false, narrowed := true }
def FnExactLeastSizeUptoSaid : Prop := fnExactLeastSizeUptoRow.holds Try.pinned (OpenSpec.upto fnExactLeastSizeSpec)

/-- 'laws.FnExactSplitExact', WHERE WHAT IT READS IS OF BULK AT MOST 1048576: true; the input reads as it did. -/
def fnExactSplitExactUptoRow : OpenClaim := { program := "ytckmacnmmloemaa", sum := "8f85c3a9f20d72dee1f7778de1c365e35c4a4435fe7f7745c58694c3d52dbd8b", func := "loop.example/g01302/laws.FnExactSplitExact", spec := "fnExactSplitExact", unfollowed := true, recurses := true, leaving := true, apart := false, narrowed := true }
def FnExactSplitExactUptoSaid : Prop := fnExactSplitExactUptoRow.holds Try.pinned (OpenSpec.upto fnExactSplitExactSpec)

/-- 'laws.FnExactByRights', WHERE WHAT IT READS IS OF BULK AT MOST 1048576: true; the input reads as it did. -/
def fnExactByRightsUptoRow : OpenClaim := { program := "ytckmacnmmloemaa", sum := "8f85c3a9f20d72dee1f7778de1c365e35c4a4435fe7f7745c58694c3d52dbd8b", func := "loop.example/g01302/laws.FnExactByRights", spec := "fnExactByRights", unfollowed := true, recurses := true, leaving := true, apart := false, narrowed := true }
def FnExactByRightsUptoSaid : Prop := fnExactByRightsUptoRow.holds Try.pinned (OpenSpec.upto fnExactByRightsSpec)

/-- 'laws.FnExactHalfWay', WHERE WHAT IT READS IS OF BULK AT MOST 1048576: true; the input reads as it did. -/
def fnExactHalfWayUptoRow : OpenClaim := { program := "ytckmacnmmloemaa", sum := "8f85c3a9f20d72dee1f7778de1c365e35c4a4435fe7f7745c58694c3d52dbd8b", func := "loop.example/g01302/laws.FnExactHalfWay", spec := "fnExactHalfWay", unfollowed := true, recurses := true, leaving := true, apart := false, narrowed := true }
def FnExactHalfWayUptoSaid : Prop := fnExactHalfWayUptoRow.holds Try.pinned (OpenSpec.upto fnExactHalfWaySpec)

/-- 'laws.FnExactRunManyDays', WHERE WHAT IT READS IS OF BULK AT MOST 1048576: true; the input reads as it did. -/
def fnExactRunManyDaysUptoRow : OpenClaim := { program := "ytckmacnmmloemaa", sum := "8f85c3a9f20d72dee1f7778de1c365e35c4a4435fe7f7745c58694c3d52dbd8b", func := "loop.example/g01302/laws.FnExactRunManyDays", spec := "fnExactRunManyDays", inPlace := ["(*sync.WaitGroup).Add", "internal/race.ReleaseMerge", "internal/race.Disable", "internal/race.Enable", "internal/synctest.IsInBubble", "internal/synctest.Associate[sync.WaitGroup]", "sync.fatal", "sync/atomic.OrUint64", "sync/atomic.AddUint64", "internal/race.Read", "sync/atomic.LoadUint64", "sync/atomic.StoreUint64", "internal/synctest.Disassociate[sync.WaitGroup]", "sync.runtime_Semrelease", "(*sync.WaitGroup).Done", "(*sync.WaitGroup).Wait", "internal/race.Acquire", "internal/synctest.IsAssociated[sync.WaitGroup]", "sync/atomic.CompareAndSwapUint64", "internal/race.Write", "sync.runtime_SemacquireWaitGroup"], unfollowed := true, recurses := true, leaving := true, apart := false, narrowed := true }
def FnExactRunManyDaysUptoSaid : Prop := fnExactRunManyDaysUptoRow.holds Try.pinned (OpenSpec.upto fnExactRunManyDaysSpec)

end Rows
end Go.Proofs.Ytckmacnmmloemaa
