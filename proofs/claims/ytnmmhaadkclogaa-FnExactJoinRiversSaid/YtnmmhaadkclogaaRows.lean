/-
  No cell of these rows narrows 'for every input' (looked for: loops, veiled, ifaces, maps, wideKeys, modest, calm, conditions, laid).
  DERIVED. THE GIVEN ROWS OF THIS SEAT. 12 by the template 'for every input the law returns true; each argument reads behind the call as it read before'; 0 by the template 'total and deterministic' (their statements: YtnmmhaadkclogaaTotals.lean).
  GIVEN WITH THE SEED: the statements are not yours to turn. If you find one false, say at which input.
  Laid BY PROGRAM, IN A SANDBOX (cutbox-rows.mjs): the forced cells as the released guide's own fill.sh prints them over the translation a9fe8173e08de2b7… (all of the seat's roots in one cut). By AI agents, Wed Nov 11 2026. No macro, syntax, notation, axiom, sorry.
-/
import Derived.Test.YtnmmhaadkclogaaChecked
import GoSem.Claim
import GoSem.ClaimJoined
import GoSem.ClaimMapViews
import Derived.JoinedTies
import Derived.KernelRfl
namespace Go.Proofs.Ytnmmhaadkclogaa
/- THE CELL 'sum', in the pinned program and in every row, IS THE sha256 OF THE DUMP (.gsa) THAT YtnmmhaadkclogaaProg.lean LOADS. Nothing in Lean hashes anything: it is a label: what it is worth is what the hold of that sum in a sandbox is worth. -/
noncomputable def Try.pinned : Pinned := { name := "ytnmmhaadkclogaa", sum := "a9fe8173e08de2b787671cd1431c4c9ddcd14e7196c1c6546ee46f634feb7fb2", checked := Try.checked }
namespace Rows
def none {H : Type} : Left H := { results := [], args := [] }

/-- 'laws.FnExactValidRiver': WHATEVER THE INPUT: true; the input reads as it did. -/
def fnExactValidRiverSpec : ChangeSpec := { name := "fnExactValidRiver", fn := fun _ => fun
  | [d] => { results := [.lit (.bool true)], args := [d] }
  | _ => none }
def fnExactValidRiverRow : OpenClaim := { program := "ytnmmhaadkclogaa", sum := "a9fe8173e08de2b787671cd1431c4c9ddcd14e7196c1c6546ee46f634feb7fb2", func := "loop.example/g01302/laws.FnExactValidRiver", spec := "fnExactValidRiver", unfollowed := true, recurses := true, apart := false }
def FnExactValidRiverSaid : Prop := fnExactValidRiverRow.holds Try.pinned (OpenSpec.ofChange fnExactValidRiverSpec)

/-- ITS FALSE NEIGHBOUR: 'it returns false'. Refute it at one input. -/
def fnExactValidRiverWrong : ChangeSpec := { name := "fnExactValidRiver", fn := fun _ => fun
  | [d] => { results := [.lit (.bool false)], args := [d] }
  | _ => none }
def FnExactValidRiverWrongFalsely : Prop := fnExactValidRiverRow.holds Try.pinned (OpenSpec.ofChange fnExactValidRiverWrong)

/-- 'laws.FnExactSetDam': WHATEVER THE INPUT: true; the input reads as it did. -/
def fnExactSetDamSpec : ChangeSpec := { name := "fnExactSetDam", fn := fun _ => fun
  | [d1, d2, d3] => { results := [.lit (.bool true)], args := [d1, d2, d3] }
  | _ => none }
def fnExactSetDamRow : OpenClaim := { program := "ytnmmhaadkclogaa", sum := "a9fe8173e08de2b787671cd1431c4c9ddcd14e7196c1c6546ee46f634feb7fb2", func := "loop.example/g01302/laws.FnExactSetDam", spec := "fnExactSetDam", unfollowed := true, recurses := true, apart := false }
def FnExactSetDamSaid : Prop := fnExactSetDamRow.holds Try.pinned (OpenSpec.ofChange fnExactSetDamSpec)

/-- ITS FALSE NEIGHBOUR: 'it returns false'. Refute it at one input. -/
def fnExactSetDamWrong : ChangeSpec := { name := "fnExactSetDam", fn := fun _ => fun
  | [d1, d2, d3] => { results := [.lit (.bool false)], args := [d1, d2, d3] }
  | _ => none }
def FnExactSetDamWrongFalsely : Prop := fnExactSetDamRow.holds Try.pinned (OpenSpec.ofChange fnExactSetDamWrong)

/-- 'laws.FnExactSetWant': WHATEVER THE INPUT: true; the input reads as it did. -/
def fnExactSetWantSpec : ChangeSpec := { name := "fnExactSetWant", fn := fun _ => fun
  | [d1, d2, d3] => { results := [.lit (.bool true)], args := [d1, d2, d3] }
  | _ => none }
def fnExactSetWantRow : OpenClaim := { program := "ytnmmhaadkclogaa", sum := "a9fe8173e08de2b787671cd1431c4c9ddcd14e7196c1c6546ee46f634feb7fb2", func := "loop.example/g01302/laws.FnExactSetWant", spec := "fnExactSetWant", unfollowed := true, recurses := true, apart := false }
def FnExactSetWantSaid : Prop := fnExactSetWantRow.holds Try.pinned (OpenSpec.ofChange fnExactSetWantSpec)

/-- ITS FALSE NEIGHBOUR: 'it returns false'. Refute it at one input. -/
def fnExactSetWantWrong : ChangeSpec := { name := "fnExactSetWant", fn := fun _ => fun
  | [d1, d2, d3] => { results := [.lit (.bool false)], args := [d1, d2, d3] }
  | _ => none }
def FnExactSetWantWrongFalsely : Prop := fnExactSetWantRow.holds Try.pinned (OpenSpec.ofChange fnExactSetWantWrong)

/-- 'laws.FnExactJoinRivers': WHATEVER THE INPUT: true; the input reads as it did. -/
def fnExactJoinRiversSpec : ChangeSpec := { name := "fnExactJoinRivers", fn := fun _ => fun
  | [d1, d2, d3] => { results := [.lit (.bool true)], args := [d1, d2, d3] }
  | _ => none }
def fnExactJoinRiversRow : OpenClaim := { program := "ytnmmhaadkclogaa", sum := "a9fe8173e08de2b787671cd1431c4c9ddcd14e7196c1c6546ee46f634feb7fb2", func := "loop.example/g01302/laws.FnExactJoinRivers", spec := "fnExactJoinRivers", unfollowed := true, recurses := true, apart := false }
def FnExactJoinRiversSaid : Prop := fnExactJoinRiversRow.holds Try.pinned (OpenSpec.ofChange fnExactJoinRiversSpec)

/-- ITS FALSE NEIGHBOUR: 'it returns false'. Refute it at one input. -/
def fnExactJoinRiversWrong : ChangeSpec := { name := "fnExactJoinRivers", fn := fun _ => fun
  | [d1, d2, d3] => { results := [.lit (.bool false)], args := [d1, d2, d3] }
  | _ => none }
def FnExactJoinRiversWrongFalsely : Prop := fnExactJoinRiversRow.holds Try.pinned (OpenSpec.ofChange fnExactJoinRiversWrong)

/-- 'laws.FnExactFlowOrder': WHATEVER THE INPUT: true; the input reads as it did. -/
def fnExactFlowOrderSpec : ChangeSpec := { name := "fnExactFlowOrder", fn := fun _ => fun
  | [d] => { results := [.lit (.bool true)], args := [d] }
  | _ => none }
def fnExactFlowOrderRow : OpenClaim := { program := "ytnmmhaadkclogaa", sum := "a9fe8173e08de2b787671cd1431c4c9ddcd14e7196c1c6546ee46f634feb7fb2", func := "loop.example/g01302/laws.FnExactFlowOrder", spec := "fnExactFlowOrder", unfollowed := true, recurses := true, apart := false }
def FnExactFlowOrderSaid : Prop := fnExactFlowOrderRow.holds Try.pinned (OpenSpec.ofChange fnExactFlowOrderSpec)

/-- ITS FALSE NEIGHBOUR: 'it returns false'. Refute it at one input. -/
def fnExactFlowOrderWrong : ChangeSpec := { name := "fnExactFlowOrder", fn := fun _ => fun
  | [d] => { results := [.lit (.bool false)], args := [d] }
  | _ => none }
def FnExactFlowOrderWrongFalsely : Prop := fnExactFlowOrderRow.holds Try.pinned (OpenSpec.ofChange fnExactFlowOrderWrong)

/-- 'laws.FnExactUpFrom': WHATEVER THE INPUT: true; the input reads as it did. -/
def fnExactUpFromSpec : ChangeSpec := { name := "fnExactUpFrom", fn := fun _ => fun
  | [d1, d2] => { results := [.lit (.bool true)], args := [d1, d2] }
  | _ => none }
def fnExactUpFromRow : OpenClaim := { program := "ytnmmhaadkclogaa", sum := "a9fe8173e08de2b787671cd1431c4c9ddcd14e7196c1c6546ee46f634feb7fb2", func := "loop.example/g01302/laws.FnExactUpFrom", spec := "fnExactUpFrom", unfollowed := true, recurses := true, apart := false }
def FnExactUpFromSaid : Prop := fnExactUpFromRow.holds Try.pinned (OpenSpec.ofChange fnExactUpFromSpec)

/-- ITS FALSE NEIGHBOUR: 'it returns false'. Refute it at one input. -/
def fnExactUpFromWrong : ChangeSpec := { name := "fnExactUpFrom", fn := fun _ => fun
  | [d1, d2] => { results := [.lit (.bool false)], args := [d1, d2] }
  | _ => none }
def FnExactUpFromWrongFalsely : Prop := fnExactUpFromRow.holds Try.pinned (OpenSpec.ofChange fnExactUpFromWrong)

/-- 'laws.FnExactOutletsOf': WHATEVER THE INPUT: true; the input reads as it did. -/
def fnExactOutletsOfSpec : ChangeSpec := { name := "fnExactOutletsOf", fn := fun _ => fun
  | [d] => { results := [.lit (.bool true)], args := [d] }
  | _ => none }
def fnExactOutletsOfRow : OpenClaim := { program := "ytnmmhaadkclogaa", sum := "a9fe8173e08de2b787671cd1431c4c9ddcd14e7196c1c6546ee46f634feb7fb2", func := "loop.example/g01302/laws.FnExactOutletsOf", spec := "fnExactOutletsOf", unfollowed := true, recurses := true, apart := false }
def FnExactOutletsOfSaid : Prop := fnExactOutletsOfRow.holds Try.pinned (OpenSpec.ofChange fnExactOutletsOfSpec)

/-- ITS FALSE NEIGHBOUR: 'it returns false'. Refute it at one input. -/
def fnExactOutletsOfWrong : ChangeSpec := { name := "fnExactOutletsOf", fn := fun _ => fun
  | [d] => { results := [.lit (.bool false)], args := [d] }
  | _ => none }
def FnExactOutletsOfWrongFalsely : Prop := fnExactOutletsOfRow.holds Try.pinned (OpenSpec.ofChange fnExactOutletsOfWrong)

/-- 'laws.FnExactDepthsIn': WHATEVER THE INPUT: true; the input reads as it did. -/
def fnExactDepthsInSpec : ChangeSpec := { name := "fnExactDepthsIn", fn := fun _ => fun
  | [d] => { results := [.lit (.bool true)], args := [d] }
  | _ => none }
def fnExactDepthsInRow : OpenClaim := { program := "ytnmmhaadkclogaa", sum := "a9fe8173e08de2b787671cd1431c4c9ddcd14e7196c1c6546ee46f634feb7fb2", func := "loop.example/g01302/laws.FnExactDepthsIn", spec := "fnExactDepthsIn", unfollowed := true, recurses := true, apart := false }
def FnExactDepthsInSaid : Prop := fnExactDepthsInRow.holds Try.pinned (OpenSpec.ofChange fnExactDepthsInSpec)

/-- ITS FALSE NEIGHBOUR: 'it returns false'. Refute it at one input. -/
def fnExactDepthsInWrong : ChangeSpec := { name := "fnExactDepthsIn", fn := fun _ => fun
  | [d] => { results := [.lit (.bool false)], args := [d] }
  | _ => none }
def FnExactDepthsInWrongFalsely : Prop := fnExactDepthsInRow.holds Try.pinned (OpenSpec.ofChange fnExactDepthsInWrong)

/-- 'laws.FnExactMeetingOf': WHATEVER THE INPUT: true; the input reads as it did. -/
def fnExactMeetingOfSpec : ChangeSpec := { name := "fnExactMeetingOf", fn := fun _ => fun
  | [d1, d2, d3] => { results := [.lit (.bool true)], args := [d1, d2, d3] }
  | _ => none }
def fnExactMeetingOfRow : OpenClaim := { program := "ytnmmhaadkclogaa", sum := "a9fe8173e08de2b787671cd1431c4c9ddcd14e7196c1c6546ee46f634feb7fb2", func := "loop.example/g01302/laws.FnExactMeetingOf", spec := "fnExactMeetingOf", unfollowed := true, recurses := true, apart := false }
def FnExactMeetingOfSaid : Prop := fnExactMeetingOfRow.holds Try.pinned (OpenSpec.ofChange fnExactMeetingOfSpec)

/-- ITS FALSE NEIGHBOUR: 'it returns false'. Refute it at one input. -/
def fnExactMeetingOfWrong : ChangeSpec := { name := "fnExactMeetingOf", fn := fun _ => fun
  | [d1, d2, d3] => { results := [.lit (.bool false)], args := [d1, d2, d3] }
  | _ => none }
def FnExactMeetingOfWrongFalsely : Prop := fnExactMeetingOfRow.holds Try.pinned (OpenSpec.ofChange fnExactMeetingOfWrong)

/-- 'laws.FnExactStoredIn': WHATEVER THE INPUT: true; the input reads as it did. -/
def fnExactStoredInSpec : ChangeSpec := { name := "fnExactStoredIn", fn := fun _ => fun
  | [d] => { results := [.lit (.bool true)], args := [d] }
  | _ => none }
def fnExactStoredInRow : OpenClaim := { program := "ytnmmhaadkclogaa", sum := "a9fe8173e08de2b787671cd1431c4c9ddcd14e7196c1c6546ee46f634feb7fb2", func := "loop.example/g01302/laws.FnExactStoredIn", spec := "fnExactStoredIn", unfollowed := true, recurses := true, apart := false }
def FnExactStoredInSaid : Prop := fnExactStoredInRow.holds Try.pinned (OpenSpec.ofChange fnExactStoredInSpec)

/-- ITS FALSE NEIGHBOUR: 'it returns false'. Refute it at one input. -/
def fnExactStoredInWrong : ChangeSpec := { name := "fnExactStoredIn", fn := fun _ => fun
  | [d] => { results := [.lit (.bool false)], args := [d] }
  | _ => none }
def FnExactStoredInWrongFalsely : Prop := fnExactStoredInRow.holds Try.pinned (OpenSpec.ofChange fnExactStoredInWrong)

/-- 'laws.FnExactCutWants': WHATEVER THE INPUT: true; the input reads as it did. -/
def fnExactCutWantsSpec : ChangeSpec := { name := "fnExactCutWants", fn := fun _ => fun
  | [d1, d2, d3] => { results := [.lit (.bool true)], args := [d1, d2, d3] }
  | _ => none }
def fnExactCutWantsRow : OpenClaim := { program := "ytnmmhaadkclogaa", sum := "a9fe8173e08de2b787671cd1431c4c9ddcd14e7196c1c6546ee46f634feb7fb2", func := "loop.example/g01302/laws.FnExactCutWants", spec := "fnExactCutWants", unfollowed := true, recurses := true, apart := false }
def FnExactCutWantsSaid : Prop := fnExactCutWantsRow.holds Try.pinned (OpenSpec.ofChange fnExactCutWantsSpec)

/-- ITS FALSE NEIGHBOUR: 'it returns false'. Refute it at one input. -/
def fnExactCutWantsWrong : ChangeSpec := { name := "fnExactCutWants", fn := fun _ => fun
  | [d1, d2, d3] => { results := [.lit (.bool false)], args := [d1, d2, d3] }
  | _ => none }
def FnExactCutWantsWrongFalsely : Prop := fnExactCutWantsRow.holds Try.pinned (OpenSpec.ofChange fnExactCutWantsWrong)

/-- 'laws.FnExactDayOf': WHATEVER THE INPUT: true; the input reads as it did. -/
def fnExactDayOfSpec : ChangeSpec := { name := "fnExactDayOf", fn := fun _ => fun
  | [d1, d2] => { results := [.lit (.bool true)], args := [d1, d2] }
  | _ => none }
def fnExactDayOfRow : OpenClaim := { program := "ytnmmhaadkclogaa", sum := "a9fe8173e08de2b787671cd1431c4c9ddcd14e7196c1c6546ee46f634feb7fb2", func := "loop.example/g01302/laws.FnExactDayOf", spec := "fnExactDayOf", unfollowed := true, recurses := true, apart := false }
def FnExactDayOfSaid : Prop := fnExactDayOfRow.holds Try.pinned (OpenSpec.ofChange fnExactDayOfSpec)

/-- ITS FALSE NEIGHBOUR: 'it returns false'. Refute it at one input. -/
def fnExactDayOfWrong : ChangeSpec := { name := "fnExactDayOf", fn := fun _ => fun
  | [d1, d2] => { results := [.lit (.bool false)], args := [d1, d2] }
  | _ => none }
def FnExactDayOfWrongFalsely : Prop := fnExactDayOfRow.holds Try.pinned (OpenSpec.ofChange fnExactDayOfWrong)

/- THE SECOND FORM. 'bulk': how many values and letters a reading holds, each counted each time it is reached (what is shared counts as often as it is met; a slice's spare places count too). A statement '..UptoSaid' is the law's where the arguments, and the package variables that the reading takes, are together of bulk at most 1048576: NARROWER than '..Said'. Prove '..Said' where nothing that the law and all that it calls make is longer than what came in: it says more and counts as full. Else prove '..UptoSaid'. A law counts once. -/
mutual
def uptoBulk {H : Type} : DataW H → Nat
  | .lit (.string bytes) => bytes.length + 1
  | .lit _ => 1
  | .nil => 1
  | .ptr d => uptoBulk d + 1
  | .slice elems spare => uptoBulkAll elems + uptoBulkAll spare + 1
  | .agg parts => uptoBulkAll parts + 1
  | .iface _ d => uptoBulk d + 1
  | .map entries => uptoBulkEntries entries + 1
  | .held _ => 1
def uptoBulkAll {H : Type} : List (DataW H) → Nat
  | [] => 0
  | d :: r => uptoBulk d + uptoBulkAll r
def uptoBulkEntries {H : Type} : List (Lit × DataW H) → Nat
  | [] => 0
  | x :: r => uptoBulkEntry x + uptoBulkEntries r
def uptoBulkEntry {H : Type} : Lit × DataW H → Nat
  | (.string bytes, d) => bytes.length + uptoBulk d + 1
  | (_, d) => uptoBulk d + 1
 end
def uptoSmall : (H : Type) → List (DataW H) → Bool := fun _ ds => decide (uptoBulkAll ds ≤ 1048576)
def OpenSpec.upto (s : _root_.Go.ChangeSpec) : _root_.Go.OpenSpec := { _root_.Go.OpenSpec.ofChange s with cond := some uptoSmall }

/-- 'laws.FnExactValidRiver', WHERE WHAT IT READS IS OF BULK AT MOST 1048576: true; the input reads as it did. -/
def fnExactValidRiverUptoRow : OpenClaim := { program := "ytnmmhaadkclogaa", sum := "a9fe8173e08de2b787671cd1431c4c9ddcd14e7196c1c6546ee46f634feb7fb2", func := "loop.example/g01302/laws.FnExactValidRiver", spec := "fnExactValidRiver", unfollowed := true, recurses := true, apart := false, narrowed := true }
def FnExactValidRiverUptoSaid : Prop := fnExactValidRiverUptoRow.holds Try.pinned (OpenSpec.upto fnExactValidRiverSpec)

/-- 'laws.FnExactSetDam', WHERE WHAT IT READS IS OF BULK AT MOST 1048576: true; the input reads as it did. -/
def fnExactSetDamUptoRow : OpenClaim := { program := "ytnmmhaadkclogaa", sum := "a9fe8173e08de2b787671cd1431c4c9ddcd14e7196c1c6546ee46f634feb7fb2", func := "loop.example/g01302/laws.FnExactSetDam", spec := "fnExactSetDam", unfollowed := true, recurses := true, apart := false, narrowed := true }
def FnExactSetDamUptoSaid : Prop := fnExactSetDamUptoRow.holds Try.pinned (OpenSpec.upto fnExactSetDamSpec)

/-- 'laws.FnExactSetWant', WHERE WHAT IT READS IS OF BULK AT MOST 1048576: true; the input reads as it did. -/
def fnExactSetWantUptoRow : OpenClaim := { program := "ytnmmhaadkclogaa", sum := "a9fe8173e08de2b787671cd1431c4c9ddcd14e7196c1c6546ee46f634feb7fb2", func := "loop.example/g01302/laws.FnExactSetWant", spec := "fnExactSetWant", unfollowed := true, recurses := true, apart := false, narrowed := true }
def FnExactSetWantUptoSaid : Prop := fnExactSetWantUptoRow.holds Try.pinned (OpenSpec.upto fnExactSetWantSpec)

/-- 'laws.FnExactJoinRivers', WHERE WHAT IT READS IS OF BULK AT MOST 1048576: true; the input reads as it did. -/
def fnExactJoinRiversUptoRow : OpenClaim := { program := "ytnmmhaadkclogaa", sum := "a9fe8173e08de2b787671cd1431c4c9ddcd14e7196c1c6546ee46f634feb7fb2", func := "loop.example/g01302/laws.FnExactJoinRivers", spec := "fnExactJoinRivers", unfollowed := true, recurses := true, apart := false, narrowed := true }
def FnExactJoinRiversUptoSaid : Prop := fnExactJoinRiversUptoRow.holds Try.pinned (OpenSpec.upto fnExactJoinRiversSpec)

/-- 'laws.FnExactFlowOrder', WHERE WHAT IT READS IS OF BULK AT MOST 1048576: true; the input reads as it did. -/
def fnExactFlowOrderUptoRow : OpenClaim := { program := "ytnmmhaadkclogaa", sum := "a9fe8173e08de2b787671cd1431c4c9ddcd14e7196c1c6546ee46f634feb7fb2", func := "loop.example/g01302/laws.FnExactFlowOrder", spec := "fnExactFlowOrder", unfollowed := true, recurses := true, apart := false, narrowed := true }
def FnExactFlowOrderUptoSaid : Prop := fnExactFlowOrderUptoRow.holds Try.pinned (OpenSpec.upto fnExactFlowOrderSpec)

/-- 'laws.FnExactUpFrom', WHERE WHAT IT READS IS OF BULK AT MOST 1048576: true; the input reads as it did. -/
def fnExactUpFromUptoRow : OpenClaim := { program := "ytnmmhaadkclogaa", sum := "a9fe8173e08de2b787671cd1431c4c9ddcd14e7196c1c6546ee46f634feb7fb2", func := "loop.example/g01302/laws.FnExactUpFrom", spec := "fnExactUpFrom", unfollowed := true, recurses := true, apart := false, narrowed := true }
def FnExactUpFromUptoSaid : Prop := fnExactUpFromUptoRow.holds Try.pinned (OpenSpec.upto fnExactUpFromSpec)

/-- 'laws.FnExactOutletsOf', WHERE WHAT IT READS IS OF BULK AT MOST 1048576: true; the input reads as it did. -/
def fnExactOutletsOfUptoRow : OpenClaim := { program := "ytnmmhaadkclogaa", sum := "a9fe8173e08de2b787671cd1431c4c9ddcd14e7196c1c6546ee46f634feb7fb2", func := "loop.example/g01302/laws.FnExactOutletsOf", spec := "fnExactOutletsOf", unfollowed := true, recurses := true, apart := false, narrowed := true }
def FnExactOutletsOfUptoSaid : Prop := fnExactOutletsOfUptoRow.holds Try.pinned (OpenSpec.upto fnExactOutletsOfSpec)

/-- 'laws.FnExactDepthsIn', WHERE WHAT IT READS IS OF BULK AT MOST 1048576: true; the input reads as it did. -/
def fnExactDepthsInUptoRow : OpenClaim := { program := "ytnmmhaadkclogaa", sum := "a9fe8173e08de2b787671cd1431c4c9ddcd14e7196c1c6546ee46f634feb7fb2", func := "loop.example/g01302/laws.FnExactDepthsIn", spec := "fnExactDepthsIn", unfollowed := true, recurses := true, apart := false, narrowed := true }
def FnExactDepthsInUptoSaid : Prop := fnExactDepthsInUptoRow.holds Try.pinned (OpenSpec.upto fnExactDepthsInSpec)

/-- 'laws.FnExactMeetingOf', WHERE WHAT IT READS IS OF BULK AT MOST 1048576: true; the input reads as it did. -/
def fnExactMeetingOfUptoRow : OpenClaim := { program := "ytnmmhaadkclogaa", sum := "a9fe8173e08de2b787671cd1431c4c9ddcd14e7196c1c6546ee46f634feb7fb2", func := "loop.example/g01302/laws.FnExactMeetingOf", spec := "fnExactMeetingOf", unfollowed := true, recurses := true, apart := false, narrowed := true }
def FnExactMeetingOfUptoSaid : Prop := fnExactMeetingOfUptoRow.holds Try.pinned (OpenSpec.upto fnExactMeetingOfSpec)

/-- 'laws.FnExactStoredIn', WHERE WHAT IT READS IS OF BULK AT MOST 1048576: true; the input reads as it did. -/
def fnExactStoredInUptoRow : OpenClaim := { program := "ytnmmhaadkclogaa", sum := "a9fe8173e08de2b787671cd1431c4c9ddcd14e7196c1c6546ee46f634feb7fb2", func := "loop.example/g01302/laws.FnExactStoredIn", spec := "fnExactStoredIn", unfollowed := true, recurses := true, apart := false, narrowed := true }
def FnExactStoredInUptoSaid : Prop := fnExactStoredInUptoRow.holds Try.pinned (OpenSpec.upto fnExactStoredInSpec)

/-- 'laws.FnExactCutWants', WHERE WHAT IT READS IS OF BULK AT MOST 1048576: true; the input reads as it did. -/
def fnExactCutWantsUptoRow : OpenClaim := { program := "ytnmmhaadkclogaa", sum := "a9fe8173e08de2b787671cd1431c4c9ddcd14e7196c1c6546ee46f634feb7fb2", func := "loop.example/g01302/laws.FnExactCutWants", spec := "fnExactCutWants", unfollowed := true, recurses := true, apart := false, narrowed := true }
def FnExactCutWantsUptoSaid : Prop := fnExactCutWantsUptoRow.holds Try.pinned (OpenSpec.upto fnExactCutWantsSpec)

/-- 'laws.FnExactDayOf', WHERE WHAT IT READS IS OF BULK AT MOST 1048576: true; the input reads as it did. -/
def fnExactDayOfUptoRow : OpenClaim := { program := "ytnmmhaadkclogaa", sum := "a9fe8173e08de2b787671cd1431c4c9ddcd14e7196c1c6546ee46f634feb7fb2", func := "loop.example/g01302/laws.FnExactDayOf", spec := "fnExactDayOf", unfollowed := true, recurses := true, apart := false, narrowed := true }
def FnExactDayOfUptoSaid : Prop := fnExactDayOfUptoRow.holds Try.pinned (OpenSpec.upto fnExactDayOfSpec)

end Rows
end Go.Proofs.Ytnmmhaadkclogaa
