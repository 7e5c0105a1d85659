/-
  No cell of these rows narrows 'for every input' (looked for: loops, veiled, ifaces, maps, wideKeys, modest, calm, conditions, laid).
  DERIVED. THE GIVEN ROWS OF THIS SEAT. 12 by the template 'for every input the law returns true; each argument reads behind the call as it read before'; 0 by the template 'total and deterministic' (their statements: YtgnkpppbhibfoaaTotals.lean).
  GIVEN WITH THE SEED: the statements are not yours to turn. If you find one false, say at which input.
  Laid BY PROGRAM, IN A SANDBOX (cutbox-rows.mjs): the forced cells as the released guide's own fill.sh prints them over the translation 71fdca6dd3513747… (all of the seat's roots in one cut). By AI agents, Wed Nov 11 2026. No macro, syntax, notation, axiom, sorry.
-/
import Derived.Test.YtgnkpppbhibfoaaChecked
import GoSem.Claim
import GoSem.ClaimJoined
import GoSem.ClaimMapViews
import Derived.JoinedTies
import Derived.KernelRfl
namespace Go.Proofs.Ytgnkpppbhibfoaa
/- THE CELL 'sum', in the pinned program and in every row, IS THE sha256 OF THE DUMP (.gsa) THAT YtgnkpppbhibfoaaProg.lean LOADS. Nothing in Lean hashes anything: it is a label: what it is worth is what the hold of that sum in a sandbox is worth. -/
noncomputable def Try.pinned : Pinned := { name := "ytgnkpppbhibfoaa", sum := "71fdca6dd351374785c545d55ab9ef9b8cd7e84873d957462ed778a4d8937060", checked := Try.checked }
namespace Rows
def none {H : Type} : Left H := { results := [], args := [] }

/-- 'laws.FnExactStepWave': WHATEVER THE INPUT: true; the input reads as it did. -/
def fnExactStepWaveSpec : ChangeSpec := { name := "fnExactStepWave", fn := fun _ => fun
  | [d1, d2, d3, d4, d5] => { results := [.lit (.bool true)], args := [d1, d2, d3, d4, d5] }
  | _ => none }
def fnExactStepWaveRow : OpenClaim := { program := "ytgnkpppbhibfoaa", sum := "71fdca6dd351374785c545d55ab9ef9b8cd7e84873d957462ed778a4d8937060", func := "loop.example/g01302/laws.FnExactStepWave", spec := "fnExactStepWave", inPlace := ["math.sqrt", "math.Float32bits"], unfollowed := true, recurses := true, apart := false }
def FnExactStepWaveSaid : Prop := fnExactStepWaveRow.holds Try.pinned (OpenSpec.ofChange fnExactStepWaveSpec)

/-- ITS FALSE NEIGHBOUR: 'it returns false'. Refute it at one input. -/
def fnExactStepWaveWrong : ChangeSpec := { name := "fnExactStepWave", fn := fun _ => fun
  | [d1, d2, d3, d4, d5] => { results := [.lit (.bool false)], args := [d1, d2, d3, d4, d5] }
  | _ => none }
def FnExactStepWaveWrongFalsely : Prop := fnExactStepWaveRow.holds Try.pinned (OpenSpec.ofChange fnExactStepWaveWrong)

/-- 'laws.FnExactRunWave': WHATEVER THE INPUT: true; the input reads as it did. -/
def fnExactRunWaveSpec : ChangeSpec := { name := "fnExactRunWave", fn := fun _ => fun
  | [d1, d2, d3, d4, d5] => { results := [.lit (.bool true)], args := [d1, d2, d3, d4, d5] }
  | _ => none }
def fnExactRunWaveRow : OpenClaim := { program := "ytgnkpppbhibfoaa", sum := "71fdca6dd351374785c545d55ab9ef9b8cd7e84873d957462ed778a4d8937060", func := "loop.example/g01302/laws.FnExactRunWave", spec := "fnExactRunWave", inPlace := ["math.sqrt", "math.Float32bits"], unfollowed := true, recurses := true, apart := false }
def FnExactRunWaveSaid : Prop := fnExactRunWaveRow.holds Try.pinned (OpenSpec.ofChange fnExactRunWaveSpec)

/-- ITS FALSE NEIGHBOUR: 'it returns false'. Refute it at one input. -/
def fnExactRunWaveWrong : ChangeSpec := { name := "fnExactRunWave", fn := fun _ => fun
  | [d1, d2, d3, d4, d5] => { results := [.lit (.bool false)], args := [d1, d2, d3, d4, d5] }
  | _ => none }
def FnExactRunWaveWrongFalsely : Prop := fnExactRunWaveRow.holds Try.pinned (OpenSpec.ofChange fnExactRunWaveWrong)

/-- 'laws.FnExactStillCanal': WHATEVER THE INPUT: true; the input reads as it did. -/
def fnExactStillCanalSpec : ChangeSpec := { name := "fnExactStillCanal", fn := fun _ => fun
  | [d1, d2, d3, d4] => { results := [.lit (.bool true)], args := [d1, d2, d3, d4] }
  | _ => none }
def fnExactStillCanalRow : OpenClaim := { program := "ytgnkpppbhibfoaa", sum := "71fdca6dd351374785c545d55ab9ef9b8cd7e84873d957462ed778a4d8937060", func := "loop.example/g01302/laws.FnExactStillCanal", spec := "fnExactStillCanal", inPlace := ["math.Float32bits"], unfollowed := true, recurses := true, apart := false }
def FnExactStillCanalSaid : Prop := fnExactStillCanalRow.holds Try.pinned (OpenSpec.ofChange fnExactStillCanalSpec)

/-- ITS FALSE NEIGHBOUR: 'it returns false'. Refute it at one input. -/
def fnExactStillCanalWrong : ChangeSpec := { name := "fnExactStillCanal", fn := fun _ => fun
  | [d1, d2, d3, d4] => { results := [.lit (.bool false)], args := [d1, d2, d3, d4] }
  | _ => none }
def FnExactStillCanalWrongFalsely : Prop := fnExactStillCanalRow.holds Try.pinned (OpenSpec.ofChange fnExactStillCanalWrong)

/-- 'laws.FnExactStepCanal': WHATEVER THE INPUT: true; the input reads as it did. -/
def fnExactStepCanalSpec : ChangeSpec := { name := "fnExactStepCanal", fn := fun _ => fun
  | [d1, d2, d3] => { results := [.lit (.bool true)], args := [d1, d2, d3] }
  | _ => none }
def fnExactStepCanalRow : OpenClaim := { program := "ytgnkpppbhibfoaa", sum := "71fdca6dd351374785c545d55ab9ef9b8cd7e84873d957462ed778a4d8937060", func := "loop.example/g01302/laws.FnExactStepCanal", spec := "fnExactStepCanal", inPlace := ["math.Float32bits"], unfollowed := true, recurses := true, apart := false }
def FnExactStepCanalSaid : Prop := fnExactStepCanalRow.holds Try.pinned (OpenSpec.ofChange fnExactStepCanalSpec)

/-- ITS FALSE NEIGHBOUR: 'it returns false'. Refute it at one input. -/
def fnExactStepCanalWrong : ChangeSpec := { name := "fnExactStepCanal", fn := fun _ => fun
  | [d1, d2, d3] => { results := [.lit (.bool false)], args := [d1, d2, d3] }
  | _ => none }
def FnExactStepCanalWrongFalsely : Prop := fnExactStepCanalRow.holds Try.pinned (OpenSpec.ofChange fnExactStepCanalWrong)

/-- 'laws.FnExactRunCanal': WHATEVER THE INPUT: true; the input reads as it did. -/
def fnExactRunCanalSpec : ChangeSpec := { name := "fnExactRunCanal", fn := fun _ => fun
  | [d1, d2, d3] => { results := [.lit (.bool true)], args := [d1, d2, d3] }
  | _ => none }
def fnExactRunCanalRow : OpenClaim := { program := "ytgnkpppbhibfoaa", sum := "71fdca6dd351374785c545d55ab9ef9b8cd7e84873d957462ed778a4d8937060", func := "loop.example/g01302/laws.FnExactRunCanal", spec := "fnExactRunCanal", inPlace := ["math.Float32bits"], unfollowed := true, recurses := true, apart := false }
def FnExactRunCanalSaid : Prop := fnExactRunCanalRow.holds Try.pinned (OpenSpec.ofChange fnExactRunCanalSpec)

/-- ITS FALSE NEIGHBOUR: 'it returns false'. Refute it at one input. -/
def fnExactRunCanalWrong : ChangeSpec := { name := "fnExactRunCanal", fn := fun _ => fun
  | [d1, d2, d3] => { results := [.lit (.bool false)], args := [d1, d2, d3] }
  | _ => none }
def FnExactRunCanalWrongFalsely : Prop := fnExactRunCanalRow.holds Try.pinned (OpenSpec.ofChange fnExactRunCanalWrong)

/-- 'laws.FnExactSameReaches': WHATEVER THE INPUT: true; the input reads as it did. -/
def fnExactSameReachesSpec : ChangeSpec := { name := "fnExactSameReaches", fn := fun _ => fun
  | [d1, d2] => { results := [.lit (.bool true)], args := [d1, d2] }
  | _ => none }
def fnExactSameReachesRow : OpenClaim := { program := "ytgnkpppbhibfoaa", sum := "71fdca6dd351374785c545d55ab9ef9b8cd7e84873d957462ed778a4d8937060", func := "loop.example/g01302/laws.FnExactSameReaches", spec := "fnExactSameReaches", inPlace := ["math.Float32bits"], unfollowed := true, recurses := true, apart := false }
def FnExactSameReachesSaid : Prop := fnExactSameReachesRow.holds Try.pinned (OpenSpec.ofChange fnExactSameReachesSpec)

/-- ITS FALSE NEIGHBOUR: 'it returns false'. Refute it at one input. -/
def fnExactSameReachesWrong : ChangeSpec := { name := "fnExactSameReaches", fn := fun _ => fun
  | [d1, d2] => { results := [.lit (.bool false)], args := [d1, d2] }
  | _ => none }
def FnExactSameReachesWrongFalsely : Prop := fnExactSameReachesRow.holds Try.pinned (OpenSpec.ofChange fnExactSameReachesWrong)

/-- 'laws.FnExactSameLake': WHATEVER THE INPUT: true; the input reads as it did. -/
def fnExactSameLakeSpec : ChangeSpec := { name := "fnExactSameLake", fn := fun _ => fun
  | [d1, d2] => { results := [.lit (.bool true)], args := [d1, d2] }
  | _ => none }
def fnExactSameLakeRow : OpenClaim := { program := "ytgnkpppbhibfoaa", sum := "71fdca6dd351374785c545d55ab9ef9b8cd7e84873d957462ed778a4d8937060", func := "loop.example/g01302/laws.FnExactSameLake", spec := "fnExactSameLake", inPlace := ["math.Float32bits"], unfollowed := true, recurses := true, apart := false }
def FnExactSameLakeSaid : Prop := fnExactSameLakeRow.holds Try.pinned (OpenSpec.ofChange fnExactSameLakeSpec)

/-- ITS FALSE NEIGHBOUR: 'it returns false'. Refute it at one input. -/
def fnExactSameLakeWrong : ChangeSpec := { name := "fnExactSameLake", fn := fun _ => fun
  | [d1, d2] => { results := [.lit (.bool false)], args := [d1, d2] }
  | _ => none }
def FnExactSameLakeWrongFalsely : Prop := fnExactSameLakeRow.holds Try.pinned (OpenSpec.ofChange fnExactSameLakeWrong)

/-- 'laws.FnExactSameCanal': WHATEVER THE INPUT: true; the input reads as it did. -/
def fnExactSameCanalSpec : ChangeSpec := { name := "fnExactSameCanal", fn := fun _ => fun
  | [d1, d2] => { results := [.lit (.bool true)], args := [d1, d2] }
  | _ => none }
def fnExactSameCanalRow : OpenClaim := { program := "ytgnkpppbhibfoaa", sum := "71fdca6dd351374785c545d55ab9ef9b8cd7e84873d957462ed778a4d8937060", func := "loop.example/g01302/laws.FnExactSameCanal", spec := "fnExactSameCanal", inPlace := ["math.Float32bits"], unfollowed := true, recurses := true, apart := false }
def FnExactSameCanalSaid : Prop := fnExactSameCanalRow.holds Try.pinned (OpenSpec.ofChange fnExactSameCanalSpec)

/-- ITS FALSE NEIGHBOUR: 'it returns false'. Refute it at one input. -/
def fnExactSameCanalWrong : ChangeSpec := { name := "fnExactSameCanal", fn := fun _ => fun
  | [d1, d2] => { results := [.lit (.bool false)], args := [d1, d2] }
  | _ => none }
def FnExactSameCanalWrongFalsely : Prop := fnExactSameCanalRow.holds Try.pinned (OpenSpec.ofChange fnExactSameCanalWrong)

/-- 'laws.FnExactRouteReaches': WHATEVER THE INPUT: true; the input reads as it did. -/
def fnExactRouteReachesSpec : ChangeSpec := { name := "fnExactRouteReaches", fn := fun _ => fun
  | [d1, d2, d3] => { results := [.lit (.bool true)], args := [d1, d2, d3] }
  | _ => none }
def fnExactRouteReachesRow : OpenClaim := { program := "ytgnkpppbhibfoaa", sum := "71fdca6dd351374785c545d55ab9ef9b8cd7e84873d957462ed778a4d8937060", func := "loop.example/g01302/laws.FnExactRouteReaches", spec := "fnExactRouteReaches", inPlace := ["math.Float32bits"], unfollowed := true, recurses := true, apart := false }
def FnExactRouteReachesSaid : Prop := fnExactRouteReachesRow.holds Try.pinned (OpenSpec.ofChange fnExactRouteReachesSpec)

/-- ITS FALSE NEIGHBOUR: 'it returns false'. Refute it at one input. -/
def fnExactRouteReachesWrong : ChangeSpec := { name := "fnExactRouteReaches", fn := fun _ => fun
  | [d1, d2, d3] => { results := [.lit (.bool false)], args := [d1, d2, d3] }
  | _ => none }
def FnExactRouteReachesWrongFalsely : Prop := fnExactRouteReachesRow.holds Try.pinned (OpenSpec.ofChange fnExactRouteReachesWrong)

/-- 'laws.FnExactTidesOf': WHATEVER THE INPUT: true; the input reads as it did. -/
def fnExactTidesOfSpec : ChangeSpec := { name := "fnExactTidesOf", fn := fun _ => fun
  | [d1, d2] => { results := [.lit (.bool true)], args := [d1, d2] }
  | _ => none }
def fnExactTidesOfRow : OpenClaim := { program := "ytgnkpppbhibfoaa", sum := "71fdca6dd351374785c545d55ab9ef9b8cd7e84873d957462ed778a4d8937060", func := "loop.example/g01302/laws.FnExactTidesOf", spec := "fnExactTidesOf", inPlace := ["math.Float32bits"], unfollowed := true, recurses := true, apart := false }
def FnExactTidesOfSaid : Prop := fnExactTidesOfRow.holds Try.pinned (OpenSpec.ofChange fnExactTidesOfSpec)

/-- ITS FALSE NEIGHBOUR: 'it returns false'. Refute it at one input. -/
def fnExactTidesOfWrong : ChangeSpec := { name := "fnExactTidesOf", fn := fun _ => fun
  | [d1, d2] => { results := [.lit (.bool false)], args := [d1, d2] }
  | _ => none }
def FnExactTidesOfWrongFalsely : Prop := fnExactTidesOfRow.holds Try.pinned (OpenSpec.ofChange fnExactTidesOfWrong)

/-- 'laws.FnBreaks': WHATEVER THE INPUT: true; the input reads as it did. -/
def fnBreaksSpec : ChangeSpec := { name := "fnBreaks", fn := fun _ => fun
  | [d1, d2] => { results := [.lit (.bool true)], args := [d1, d2] }
  | _ => none }
def fnBreaksRow : OpenClaim := { program := "ytgnkpppbhibfoaa", sum := "71fdca6dd351374785c545d55ab9ef9b8cd7e84873d957462ed778a4d8937060", func := "loop.example/g01302/laws.FnBreaks", spec := "fnBreaks", inPlace := ["math.Float32bits", "math.sqrt"], apart := false }
def FnBreaksSaid : Prop := fnBreaksRow.holds Try.pinned (OpenSpec.ofChange fnBreaksSpec)

/-- ITS FALSE NEIGHBOUR: 'it returns false'. Refute it at one input. -/
def fnBreaksWrong : ChangeSpec := { name := "fnBreaks", fn := fun _ => fun
  | [d1, d2] => { results := [.lit (.bool false)], args := [d1, d2] }
  | _ => none }
def FnBreaksWrongFalsely : Prop := fnBreaksRow.holds Try.pinned (OpenSpec.ofChange fnBreaksWrong)

/-- 'laws.FnLakes': WHATEVER THE INPUT: true; the input reads as it did. -/
def fnLakesSpec : ChangeSpec := { name := "fnLakes", fn := fun _ => fun
  | [d1, d2] => { results := [.lit (.bool true)], args := [d1, d2] }
  | _ => none }
def fnLakesRow : OpenClaim := { program := "ytgnkpppbhibfoaa", sum := "71fdca6dd351374785c545d55ab9ef9b8cd7e84873d957462ed778a4d8937060", func := "loop.example/g01302/laws.FnLakes", spec := "fnLakes", inPlace := ["math.Float32bits"], unfollowed := true, recurses := true, apart := false }
def FnLakesSaid : Prop := fnLakesRow.holds Try.pinned (OpenSpec.ofChange fnLakesSpec)

/-- ITS FALSE NEIGHBOUR: 'it returns false'. Refute it at one input. -/
def fnLakesWrong : ChangeSpec := { name := "fnLakes", fn := fun _ => fun
  | [d1, d2] => { results := [.lit (.bool false)], args := [d1, d2] }
  | _ => none }
def FnLakesWrongFalsely : Prop := fnLakesRow.holds Try.pinned (OpenSpec.ofChange fnLakesWrong)

/- THE SECOND FORM. 'bulk': how many values and letters a reading holds, each counted each time it is reached (what is shared counts as often as it is met; a slice's spare places count too). A statement '..UptoSaid' is the law's where the arguments, and the package variables that the reading takes, are together of bulk at most 1048576: NARROWER than '..Said'. Prove '..Said' where nothing that the law and all that it calls make is longer than what came in: it says more and counts as full. Else prove '..UptoSaid'. A law counts once. -/
mutual
def uptoBulk {H : Type} : DataW H → Nat
  | .lit (.string bytes) => bytes.length + 1
  | .lit _ => 1
  | .nil => 1
  | .ptr d => uptoBulk d + 1
  | .slice elems spare => uptoBulkAll elems + uptoBulkAll spare + 1
  | .agg parts => uptoBulkAll parts + 1
  | .iface _ d => uptoBulk d + 1
  | .map entries => uptoBulkEntries entries + 1
  | .held _ => 1
def uptoBulkAll {H : Type} : List (DataW H) → Nat
  | [] => 0
  | d :: r => uptoBulk d + uptoBulkAll r
def uptoBulkEntries {H : Type} : List (Lit × DataW H) → Nat
  | [] => 0
  | x :: r => uptoBulkEntry x + uptoBulkEntries r
def uptoBulkEntry {H : Type} : Lit × DataW H → Nat
  | (.string bytes, d) => bytes.length + uptoBulk d + 1
  | (_, d) => uptoBulk d + 1
 end
def uptoSmall : (H : Type) → List (DataW H) → Bool := fun _ ds => decide (uptoBulkAll ds ≤ 1048576)
def OpenSpec.upto (s : _root_.Go.ChangeSpec) : _root_.Go.OpenSpec := { _root_.Go.OpenSpec.ofChange s with cond := some uptoSmall }

/-- 'laws.FnExactStepWave', WHERE WHAT IT READS IS OF BULK AT MOST 1048576: true; the input reads as it did. -/
def fnExactStepWaveUptoRow : OpenClaim := { program := "ytgnkpppbhibfoaa", sum := "71fdca6dd351374785c545d55ab9ef9b8cd7e84873d957462ed778a4d8937060", func := "loop.example/g01302/laws.FnExactStepWave", spec := "fnExactStepWave", inPlace := ["math.sqrt", "math.Float32bits"], unfollowed := true, recurses := true, apart := false, narrowed := true }
def FnExactStepWaveUptoSaid : Prop := fnExactStepWaveUptoRow.holds Try.pinned (OpenSpec.upto fnExactStepWaveSpec)

/-- 'laws.FnExactRunWave', WHERE WHAT IT READS IS OF BULK AT MOST 1048576: true; the input reads as it did. -/
def fnExactRunWaveUptoRow : OpenClaim := { program := "ytgnkpppbhibfoaa", sum := "71fdca6dd351374785c545d55ab9ef9b8cd7e84873d957462ed778a4d8937060", func := "loop.example/g01302/laws.FnExactRunWave", spec := "fnExactRunWave", inPlace := ["math.sqrt", "math.Float32bits"], unfollowed := true, recurses := true, apart := false, narrowed := true }
def FnExactRunWaveUptoSaid : Prop := fnExactRunWaveUptoRow.holds Try.pinned (OpenSpec.upto fnExactRunWaveSpec)

/-- 'laws.FnExactStillCanal', WHERE WHAT IT READS IS OF BULK AT MOST 1048576: true; the input reads as it did. -/
def fnExactStillCanalUptoRow : OpenClaim := { program := "ytgnkpppbhibfoaa", sum := "71fdca6dd351374785c545d55ab9ef9b8cd7e84873d957462ed778a4d8937060", func := "loop.example/g01302/laws.FnExactStillCanal", spec := "fnExactStillCanal", inPlace := ["math.Float32bits"], unfollowed := true, recurses := true, apart := false, narrowed := true }
def FnExactStillCanalUptoSaid : Prop := fnExactStillCanalUptoRow.holds Try.pinned (OpenSpec.upto fnExactStillCanalSpec)

/-- 'laws.FnExactStepCanal', WHERE WHAT IT READS IS OF BULK AT MOST 1048576: true; the input reads as it did. -/
def fnExactStepCanalUptoRow : OpenClaim := { program := "ytgnkpppbhibfoaa", sum := "71fdca6dd351374785c545d55ab9ef9b8cd7e84873d957462ed778a4d8937060", func := "loop.example/g01302/laws.FnExactStepCanal", spec := "fnExactStepCanal", inPlace := ["math.Float32bits"], unfollowed := true, recurses := true, apart := false, narrowed := true }
def FnExactStepCanalUptoSaid : Prop := fnExactStepCanalUptoRow.holds Try.pinned (OpenSpec.upto fnExactStepCanalSpec)

/-- 'laws.FnExactRunCanal', WHERE WHAT IT READS IS OF BULK AT MOST 1048576: true; the input reads as it did. -/
def fnExactRunCanalUptoRow : OpenClaim := { program := "ytgnkpppbhibfoaa", sum := "71fdca6dd351374785c545d55ab9ef9b8cd7e84873d957462ed778a4d8937060", func := "loop.example/g01302/laws.FnExactRunCanal", spec := "fnExactRunCanal", inPlace := ["math.Float32bits"], unfollowed := true, recurses := true, apart := false, narrowed := true }
def FnExactRunCanalUptoSaid : Prop := fnExactRunCanalUptoRow.holds Try.pinned (OpenSpec.upto fnExactRunCanalSpec)

/-- 'laws.FnExactSameReaches', WHERE WHAT IT READS IS OF BULK AT MOST 1048576: true; the input reads as it did. -/
def fnExactSameReachesUptoRow : OpenClaim := { program := "ytgnkpppbhibfoaa", sum := "71fdca6dd351374785c545d55ab9ef9b8cd7e84873d957462ed778a4d8937060", func := "loop.example/g01302/laws.FnExactSameReaches", spec := "fnExactSameReaches", inPlace := ["math.Float32bits"], unfollowed := true, recurses := true, apart := false, narrowed := true }
def FnExactSameReachesUptoSaid : Prop := fnExactSameReachesUptoRow.holds Try.pinned (OpenSpec.upto fnExactSameReachesSpec)

/-- 'laws.FnExactSameLake', WHERE WHAT IT READS IS OF BULK AT MOST 1048576: true; the input reads as it did. -/
def fnExactSameLakeUptoRow : OpenClaim := { program := "ytgnkpppbhibfoaa", sum := "71fdca6dd351374785c545d55ab9ef9b8cd7e84873d957462ed778a4d8937060", func := "loop.example/g01302/laws.FnExactSameLake", spec := "fnExactSameLake", inPlace := ["math.Float32bits"], unfollowed := true, recurses := true, apart := false, narrowed := true }
def FnExactSameLakeUptoSaid : Prop := fnExactSameLakeUptoRow.holds Try.pinned (OpenSpec.upto fnExactSameLakeSpec)

/-- 'laws.FnExactSameCanal', WHERE WHAT IT READS IS OF BULK AT MOST 1048576: true; the input reads as it did. -/
def fnExactSameCanalUptoRow : OpenClaim := { program := "ytgnkpppbhibfoaa", sum := "71fdca6dd351374785c545d55ab9ef9b8cd7e84873d957462ed778a4d8937060", func := "loop.example/g01302/laws.FnExactSameCanal", spec := "fnExactSameCanal", inPlace := ["math.Float32bits"], unfollowed := true, recurses := true, apart := false, narrowed := true }
def FnExactSameCanalUptoSaid : Prop := fnExactSameCanalUptoRow.holds Try.pinned (OpenSpec.upto fnExactSameCanalSpec)

/-- 'laws.FnExactRouteReaches', WHERE WHAT IT READS IS OF BULK AT MOST 1048576: true; the input reads as it did. -/
def fnExactRouteReachesUptoRow : OpenClaim := { program := "ytgnkpppbhibfoaa", sum := "71fdca6dd351374785c545d55ab9ef9b8cd7e84873d957462ed778a4d8937060", func := "loop.example/g01302/laws.FnExactRouteReaches", spec := "fnExactRouteReaches", inPlace := ["math.Float32bits"], unfollowed := true, recurses := true, apart := false, narrowed := true }
def FnExactRouteReachesUptoSaid : Prop := fnExactRouteReachesUptoRow.holds Try.pinned (OpenSpec.upto fnExactRouteReachesSpec)

/-- 'laws.FnExactTidesOf', WHERE WHAT IT READS IS OF BULK AT MOST 1048576: true; the input reads as it did. -/
def fnExactTidesOfUptoRow : OpenClaim := { program := "ytgnkpppbhibfoaa", sum := "71fdca6dd351374785c545d55ab9ef9b8cd7e84873d957462ed778a4d8937060", func := "loop.example/g01302/laws.FnExactTidesOf", spec := "fnExactTidesOf", inPlace := ["math.Float32bits"], unfollowed := true, recurses := true, apart := false, narrowed := true }
def FnExactTidesOfUptoSaid : Prop := fnExactTidesOfUptoRow.holds Try.pinned (OpenSpec.upto fnExactTidesOfSpec)

/-- 'laws.FnBreaks', WHERE WHAT IT READS IS OF BULK AT MOST 1048576: true; the input reads as it did. -/
def fnBreaksUptoRow : OpenClaim := { program := "ytgnkpppbhibfoaa", sum := "71fdca6dd351374785c545d55ab9ef9b8cd7e84873d957462ed778a4d8937060", func := "loop.example/g01302/laws.FnBreaks", spec := "fnBreaks", inPlace := ["math.Float32bits", "math.sqrt"], apart := false, narrowed := true }
def FnBreaksUptoSaid : Prop := fnBreaksUptoRow.holds Try.pinned (OpenSpec.upto fnBreaksSpec)

/-- 'laws.FnLakes', WHERE WHAT IT READS IS OF BULK AT MOST 1048576: true; the input reads as it did. -/
def fnLakesUptoRow : OpenClaim := { program := "ytgnkpppbhibfoaa", sum := "71fdca6dd351374785c545d55ab9ef9b8cd7e84873d957462ed778a4d8937060", func := "loop.example/g01302/laws.FnLakes", spec := "fnLakes", inPlace := ["math.Float32bits"], unfollowed := true, recurses := true, apart := false, narrowed := true }
def FnLakesUptoSaid : Prop := fnLakesUptoRow.holds Try.pinned (OpenSpec.upto fnLakesSpec)

end Rows
end Go.Proofs.Ytgnkpppbhibfoaa
