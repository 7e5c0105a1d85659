/-
  No cell of these rows narrows 'for every input' (looked for: loops, veiled, ifaces, maps, wideKeys, modest, calm, conditions, laid).
  DERIVED. THE GIVEN ROWS OF THIS SEAT. 12 by the template 'for every input the law returns true; each argument reads behind the call as it read before'; 0 by the template 'total and deterministic' (their statements: YtljehplkdofhpacTotals.lean).
  GIVEN WITH THE SEED: the statements are not yours to turn. If you find one false, say at which input.
  Laid BY PROGRAM, IN A SANDBOX (cutbox-rows.mjs): the forced cells as the released guide's own fill.sh prints them over the translation 0c2a65c803b3d494… (all of the seat's roots in one cut). By AI agents, Wed Nov 11 2026. No macro, syntax, notation, axiom, sorry.
-/
import Derived.Test.YtljehplkdofhpacChecked
import GoSem.Claim
import GoSem.ClaimJoined
import GoSem.ClaimMapViews
import Derived.JoinedTies
import Derived.KernelRfl
namespace Go.Proofs.Ytljehplkdofhpac
/- THE CELL 'sum', in the pinned program and in every row, IS THE sha256 OF THE DUMP (.gsa) THAT YtljehplkdofhpacProg.lean LOADS. Nothing in Lean hashes anything: it is a label: what it is worth is what the hold of that sum in a sandbox is worth. -/
noncomputable def Try.pinned : Pinned := { name := "ytljehplkdofhpac", sum := "0c2a65c803b3d494d328d929b7cdf054b4a05dde0b4478374dcde603b539a255", checked := Try.checked }
namespace Rows
def none {H : Type} : Left H := { results := [], args := [] }

/-- 'laws.FnExactDigHill': WHATEVER THE INPUT: true; the input reads as it did. -/
def fnExactDigHillSpec : ChangeSpec := { name := "fnExactDigHill", fn := fun _ => fun
  | [d1, d2, d3] => { results := [.lit (.bool true)], args := [d1, d2, d3] }
  | _ => none }
def fnExactDigHillRow : OpenClaim := { program := "ytljehplkdofhpac", sum := "0c2a65c803b3d494d328d929b7cdf054b4a05dde0b4478374dcde603b539a255", func := "loop.example/g01302/laws.FnExactDigHill", spec := "fnExactDigHill", inPlace := ["math.Float32bits"], unfollowed := true, recurses := true, apart := false }
def FnExactDigHillSaid : Prop := fnExactDigHillRow.holds Try.pinned (OpenSpec.ofChange fnExactDigHillSpec)

/-- ITS FALSE NEIGHBOUR: 'it returns false'. Refute it at one input. -/
def fnExactDigHillWrong : ChangeSpec := { name := "fnExactDigHill", fn := fun _ => fun
  | [d1, d2, d3] => { results := [.lit (.bool false)], args := [d1, d2, d3] }
  | _ => none }
def FnExactDigHillWrongFalsely : Prop := fnExactDigHillRow.holds Try.pinned (OpenSpec.ofChange fnExactDigHillWrong)

/-- 'laws.FnExactTiltAt': WHATEVER THE INPUT: true; the input reads as it did. -/
def fnExactTiltAtSpec : ChangeSpec := { name := "fnExactTiltAt", fn := fun _ => fun
  | [d1, d2] => { results := [.lit (.bool true)], args := [d1, d2] }
  | _ => none }
def fnExactTiltAtRow : OpenClaim := { program := "ytljehplkdofhpac", sum := "0c2a65c803b3d494d328d929b7cdf054b4a05dde0b4478374dcde603b539a255", func := "loop.example/g01302/laws.FnExactTiltAt", spec := "fnExactTiltAt", inPlace := ["math.Float32bits"], unfollowed := true, recurses := true, apart := false }
def FnExactTiltAtSaid : Prop := fnExactTiltAtRow.holds Try.pinned (OpenSpec.ofChange fnExactTiltAtSpec)

/-- ITS FALSE NEIGHBOUR: 'it returns false'. Refute it at one input. -/
def fnExactTiltAtWrong : ChangeSpec := { name := "fnExactTiltAt", fn := fun _ => fun
  | [d1, d2] => { results := [.lit (.bool false)], args := [d1, d2] }
  | _ => none }
def FnExactTiltAtWrongFalsely : Prop := fnExactTiltAtRow.holds Try.pinned (OpenSpec.ofChange fnExactTiltAtWrong)

/-- 'laws.FnExactSeesOver': WHATEVER THE INPUT: true; the input reads as it did. -/
def fnExactSeesOverSpec : ChangeSpec := { name := "fnExactSeesOver", fn := fun _ => fun
  | [d1, d2, d3, d4] => { results := [.lit (.bool true)], args := [d1, d2, d3, d4] }
  | _ => none }
def fnExactSeesOverRow : OpenClaim := { program := "ytljehplkdofhpac", sum := "0c2a65c803b3d494d328d929b7cdf054b4a05dde0b4478374dcde603b539a255", func := "loop.example/g01302/laws.FnExactSeesOver", spec := "fnExactSeesOver", inPlace := ["math.Float32bits"], unfollowed := true, recurses := true, apart := false }
def FnExactSeesOverSaid : Prop := fnExactSeesOverRow.holds Try.pinned (OpenSpec.ofChange fnExactSeesOverSpec)

/-- ITS FALSE NEIGHBOUR: 'it returns false'. Refute it at one input. -/
def fnExactSeesOverWrong : ChangeSpec := { name := "fnExactSeesOver", fn := fun _ => fun
  | [d1, d2, d3, d4] => { results := [.lit (.bool false)], args := [d1, d2, d3, d4] }
  | _ => none }
def FnExactSeesOverWrongFalsely : Prop := fnExactSeesOverRow.holds Try.pinned (OpenSpec.ofChange fnExactSeesOverWrong)

/-- 'laws.FnExactShadeOf': WHATEVER THE INPUT: true; the input reads as it did. -/
def fnExactShadeOfSpec : ChangeSpec := { name := "fnExactShadeOf", fn := fun _ => fun
  | [d1, d2, d3] => { results := [.lit (.bool true)], args := [d1, d2, d3] }
  | _ => none }
def fnExactShadeOfRow : OpenClaim := { program := "ytljehplkdofhpac", sum := "0c2a65c803b3d494d328d929b7cdf054b4a05dde0b4478374dcde603b539a255", func := "loop.example/g01302/laws.FnExactShadeOf", spec := "fnExactShadeOf", inPlace := ["math.Float32frombits", "math.Float64frombits", "math.sqrt", "math.Float32bits", "math.Float64bits"], unfollowed := true, recurses := true, apart := false }
def FnExactShadeOfSaid : Prop := fnExactShadeOfRow.holds Try.pinned (OpenSpec.ofChange fnExactShadeOfSpec)

/-- ITS FALSE NEIGHBOUR: 'it returns false'. Refute it at one input. -/
def fnExactShadeOfWrong : ChangeSpec := { name := "fnExactShadeOf", fn := fun _ => fun
  | [d1, d2, d3] => { results := [.lit (.bool false)], args := [d1, d2, d3] }
  | _ => none }
def FnExactShadeOfWrongFalsely : Prop := fnExactShadeOfRow.holds Try.pinned (OpenSpec.ofChange fnExactShadeOfWrong)

/-- 'laws.FnExactValidHill': WHATEVER THE INPUT: true; the input reads as it did. -/
def fnExactValidHillSpec : ChangeSpec := { name := "fnExactValidHill", fn := fun _ => fun
  | [d] => { results := [.lit (.bool true)], args := [d] }
  | _ => none }
def fnExactValidHillRow : OpenClaim := { program := "ytljehplkdofhpac", sum := "0c2a65c803b3d494d328d929b7cdf054b4a05dde0b4478374dcde603b539a255", func := "loop.example/g01302/laws.FnExactValidHill", spec := "fnExactValidHill", inPlace := ["math.Float32bits"], unfollowed := true, recurses := true, apart := false }
def FnExactValidHillSaid : Prop := fnExactValidHillRow.holds Try.pinned (OpenSpec.ofChange fnExactValidHillSpec)

/-- ITS FALSE NEIGHBOUR: 'it returns false'. Refute it at one input. -/
def fnExactValidHillWrong : ChangeSpec := { name := "fnExactValidHill", fn := fun _ => fun
  | [d] => { results := [.lit (.bool false)], args := [d] }
  | _ => none }
def FnExactValidHillWrongFalsely : Prop := fnExactValidHillRow.holds Try.pinned (OpenSpec.ofChange fnExactValidHillWrong)

/-- 'laws.FnExactSameHill': WHATEVER THE INPUT: true; the input reads as it did. -/
def fnExactSameHillSpec : ChangeSpec := { name := "fnExactSameHill", fn := fun _ => fun
  | [d1, d2] => { results := [.lit (.bool true)], args := [d1, d2] }
  | _ => none }
def fnExactSameHillRow : OpenClaim := { program := "ytljehplkdofhpac", sum := "0c2a65c803b3d494d328d929b7cdf054b4a05dde0b4478374dcde603b539a255", func := "loop.example/g01302/laws.FnExactSameHill", spec := "fnExactSameHill", inPlace := ["math.Float32bits"], unfollowed := true, recurses := true, apart := false }
def FnExactSameHillSaid : Prop := fnExactSameHillRow.holds Try.pinned (OpenSpec.ofChange fnExactSameHillSpec)

/-- ITS FALSE NEIGHBOUR: 'it returns false'. Refute it at one input. -/
def fnExactSameHillWrong : ChangeSpec := { name := "fnExactSameHill", fn := fun _ => fun
  | [d1, d2] => { results := [.lit (.bool false)], args := [d1, d2] }
  | _ => none }
def FnExactSameHillWrongFalsely : Prop := fnExactSameHillRow.holds Try.pinned (OpenSpec.ofChange fnExactSameHillWrong)

/-- 'laws.FnExactScaleHill': WHATEVER THE INPUT: true; the input reads as it did. -/
def fnExactScaleHillSpec : ChangeSpec := { name := "fnExactScaleHill", fn := fun _ => fun
  | [d1, d2] => { results := [.lit (.bool true)], args := [d1, d2] }
  | _ => none }
def fnExactScaleHillRow : OpenClaim := { program := "ytljehplkdofhpac", sum := "0c2a65c803b3d494d328d929b7cdf054b4a05dde0b4478374dcde603b539a255", func := "loop.example/g01302/laws.FnExactScaleHill", spec := "fnExactScaleHill", inPlace := ["math.Float32bits"], unfollowed := true, recurses := true, apart := false }
def FnExactScaleHillSaid : Prop := fnExactScaleHillRow.holds Try.pinned (OpenSpec.ofChange fnExactScaleHillSpec)

/-- ITS FALSE NEIGHBOUR: 'it returns false'. Refute it at one input. -/
def fnExactScaleHillWrong : ChangeSpec := { name := "fnExactScaleHill", fn := fun _ => fun
  | [d1, d2] => { results := [.lit (.bool false)], args := [d1, d2] }
  | _ => none }
def FnExactScaleHillWrongFalsely : Prop := fnExactScaleHillRow.holds Try.pinned (OpenSpec.ofChange fnExactScaleHillWrong)

/-- 'laws.FnExactSameReaches': WHATEVER THE INPUT: true; the input reads as it did. -/
def fnExactSameReachesSpec : ChangeSpec := { name := "fnExactSameReaches", fn := fun _ => fun
  | [d1, d2] => { results := [.lit (.bool true)], args := [d1, d2] }
  | _ => none }
def fnExactSameReachesRow : OpenClaim := { program := "ytljehplkdofhpac", sum := "0c2a65c803b3d494d328d929b7cdf054b4a05dde0b4478374dcde603b539a255", func := "loop.example/g01302/laws.FnExactSameReaches", spec := "fnExactSameReaches", inPlace := ["math.Float32bits"], unfollowed := true, recurses := true, apart := false }
def FnExactSameReachesSaid : Prop := fnExactSameReachesRow.holds Try.pinned (OpenSpec.ofChange fnExactSameReachesSpec)

/-- ITS FALSE NEIGHBOUR: 'it returns false'. Refute it at one input. -/
def fnExactSameReachesWrong : ChangeSpec := { name := "fnExactSameReaches", fn := fun _ => fun
  | [d1, d2] => { results := [.lit (.bool false)], args := [d1, d2] }
  | _ => none }
def FnExactSameReachesWrongFalsely : Prop := fnExactSameReachesRow.holds Try.pinned (OpenSpec.ofChange fnExactSameReachesWrong)

/-- 'laws.FnExactSameStorms': WHATEVER THE INPUT: true; the input reads as it did. -/
def fnExactSameStormsSpec : ChangeSpec := { name := "fnExactSameStorms", fn := fun _ => fun
  | [d1, d2] => { results := [.lit (.bool true)], args := [d1, d2] }
  | _ => none }
def fnExactSameStormsRow : OpenClaim := { program := "ytljehplkdofhpac", sum := "0c2a65c803b3d494d328d929b7cdf054b4a05dde0b4478374dcde603b539a255", func := "loop.example/g01302/laws.FnExactSameStorms", spec := "fnExactSameStorms", inPlace := ["math.Float32bits"], unfollowed := true, recurses := true, apart := false }
def FnExactSameStormsSaid : Prop := fnExactSameStormsRow.holds Try.pinned (OpenSpec.ofChange fnExactSameStormsSpec)

/-- ITS FALSE NEIGHBOUR: 'it returns false'. Refute it at one input. -/
def fnExactSameStormsWrong : ChangeSpec := { name := "fnExactSameStorms", fn := fun _ => fun
  | [d1, d2] => { results := [.lit (.bool false)], args := [d1, d2] }
  | _ => none }
def FnExactSameStormsWrongFalsely : Prop := fnExactSameStormsRow.holds Try.pinned (OpenSpec.ofChange fnExactSameStormsWrong)

/-- 'laws.FnExactTidesOf': WHATEVER THE INPUT: true; the input reads as it did. -/
def fnExactTidesOfSpec : ChangeSpec := { name := "fnExactTidesOf", fn := fun _ => fun
  | [d1, d2] => { results := [.lit (.bool true)], args := [d1, d2] }
  | _ => none }
def fnExactTidesOfRow : OpenClaim := { program := "ytljehplkdofhpac", sum := "0c2a65c803b3d494d328d929b7cdf054b4a05dde0b4478374dcde603b539a255", func := "loop.example/g01302/laws.FnExactTidesOf", spec := "fnExactTidesOf", inPlace := ["math.Float32bits"], unfollowed := true, recurses := true, apart := false }
def FnExactTidesOfSaid : Prop := fnExactTidesOfRow.holds Try.pinned (OpenSpec.ofChange fnExactTidesOfSpec)

/-- ITS FALSE NEIGHBOUR: 'it returns false'. Refute it at one input. -/
def fnExactTidesOfWrong : ChangeSpec := { name := "fnExactTidesOf", fn := fun _ => fun
  | [d1, d2] => { results := [.lit (.bool false)], args := [d1, d2] }
  | _ => none }
def FnExactTidesOfWrongFalsely : Prop := fnExactTidesOfRow.holds Try.pinned (OpenSpec.ofChange fnExactTidesOfWrong)

/-- 'laws.FnExactStormsOf': WHATEVER THE INPUT: true; the input reads as it did. -/
def fnExactStormsOfSpec : ChangeSpec := { name := "fnExactStormsOf", fn := fun _ => fun
  | [d1, d2, d3, d4] => { results := [.lit (.bool true)], args := [d1, d2, d3, d4] }
  | _ => none }
def fnExactStormsOfRow : OpenClaim := { program := "ytljehplkdofhpac", sum := "0c2a65c803b3d494d328d929b7cdf054b4a05dde0b4478374dcde603b539a255", func := "loop.example/g01302/laws.FnExactStormsOf", spec := "fnExactStormsOf", inPlace := ["math.Float32bits"], unfollowed := true, recurses := true, apart := false }
def FnExactStormsOfSaid : Prop := fnExactStormsOfRow.holds Try.pinned (OpenSpec.ofChange fnExactStormsOfSpec)

/-- ITS FALSE NEIGHBOUR: 'it returns false'. Refute it at one input. -/
def fnExactStormsOfWrong : ChangeSpec := { name := "fnExactStormsOf", fn := fun _ => fun
  | [d1, d2, d3, d4] => { results := [.lit (.bool false)], args := [d1, d2, d3, d4] }
  | _ => none }
def FnExactStormsOfWrongFalsely : Prop := fnExactStormsOfRow.holds Try.pinned (OpenSpec.ofChange fnExactStormsOfWrong)

/-- 'laws.FnExactRainList': WHATEVER THE INPUT: true; the input reads as it did. -/
def fnExactRainListSpec : ChangeSpec := { name := "fnExactRainList", fn := fun _ => fun
  | [d1, d2, d3] => { results := [.lit (.bool true)], args := [d1, d2, d3] }
  | _ => none }
def fnExactRainListRow : OpenClaim := { program := "ytljehplkdofhpac", sum := "0c2a65c803b3d494d328d929b7cdf054b4a05dde0b4478374dcde603b539a255", func := "loop.example/g01302/laws.FnExactRainList", spec := "fnExactRainList", inPlace := ["math.Float32bits"], unfollowed := true, recurses := true, apart := false }
def FnExactRainListSaid : Prop := fnExactRainListRow.holds Try.pinned (OpenSpec.ofChange fnExactRainListSpec)

/-- ITS FALSE NEIGHBOUR: 'it returns false'. Refute it at one input. -/
def fnExactRainListWrong : ChangeSpec := { name := "fnExactRainList", fn := fun _ => fun
  | [d1, d2, d3] => { results := [.lit (.bool false)], args := [d1, d2, d3] }
  | _ => none }
def FnExactRainListWrongFalsely : Prop := fnExactRainListRow.holds Try.pinned (OpenSpec.ofChange fnExactRainListWrong)

/- THE SECOND FORM. 'bulk': how many values and letters a reading holds, each counted each time it is reached (what is shared counts as often as it is met; a slice's spare places count too). A statement '..UptoSaid' is the law's where the arguments, and the package variables that the reading takes, are together of bulk at most 1048576: NARROWER than '..Said'. Prove '..Said' where nothing that the law and all that it calls make is longer than what came in: it says more and counts as full. Else prove '..UptoSaid'. A law counts once. -/
mutual
def uptoBulk {H : Type} : DataW H → Nat
  | .lit (.string bytes) => bytes.length + 1
  | .lit _ => 1
  | .nil => 1
  | .ptr d => uptoBulk d + 1
  | .slice elems spare => uptoBulkAll elems + uptoBulkAll spare + 1
  | .agg parts => uptoBulkAll parts + 1
  | .iface _ d => uptoBulk d + 1
  | .map entries => uptoBulkEntries entries + 1
  | .held _ => 1
def uptoBulkAll {H : Type} : List (DataW H) → Nat
  | [] => 0
  | d :: r => uptoBulk d + uptoBulkAll r
def uptoBulkEntries {H : Type} : List (Lit × DataW H) → Nat
  | [] => 0
  | x :: r => uptoBulkEntry x + uptoBulkEntries r
def uptoBulkEntry {H : Type} : Lit × DataW H → Nat
  | (.string bytes, d) => bytes.length + uptoBulk d + 1
  | (_, d) => uptoBulk d + 1
 end
def uptoSmall : (H : Type) → List (DataW H) → Bool := fun _ ds => decide (uptoBulkAll ds ≤ 1048576)
def OpenSpec.upto (s : _root_.Go.ChangeSpec) : _root_.Go.OpenSpec := { _root_.Go.OpenSpec.ofChange s with cond := some uptoSmall }

/-- 'laws.FnExactDigHill', WHERE WHAT IT READS IS OF BULK AT MOST 1048576: true; the input reads as it did. -/
def fnExactDigHillUptoRow : OpenClaim := { program := "ytljehplkdofhpac", sum := "0c2a65c803b3d494d328d929b7cdf054b4a05dde0b4478374dcde603b539a255", func := "loop.example/g01302/laws.FnExactDigHill", spec := "fnExactDigHill", inPlace := ["math.Float32bits"], unfollowed := true, recurses := true, apart := false, narrowed := true }
def FnExactDigHillUptoSaid : Prop := fnExactDigHillUptoRow.holds Try.pinned (OpenSpec.upto fnExactDigHillSpec)

/-- 'laws.FnExactTiltAt', WHERE WHAT IT READS IS OF BULK AT MOST 1048576: true; the input reads as it did. -/
def fnExactTiltAtUptoRow : OpenClaim := { program := "ytljehplkdofhpac", sum := "0c2a65c803b3d494d328d929b7cdf054b4a05dde0b4478374dcde603b539a255", func := "loop.example/g01302/laws.FnExactTiltAt", spec := "fnExactTiltAt", inPlace := ["math.Float32bits"], unfollowed := true, recurses := true, apart := false, narrowed := true }
def FnExactTiltAtUptoSaid : Prop := fnExactTiltAtUptoRow.holds Try.pinned (OpenSpec.upto fnExactTiltAtSpec)

/-- 'laws.FnExactSeesOver', WHERE WHAT IT READS IS OF BULK AT MOST 1048576: true; the input reads as it did. -/
def fnExactSeesOverUptoRow : OpenClaim := { program := "ytljehplkdofhpac", sum := "0c2a65c803b3d494d328d929b7cdf054b4a05dde0b4478374dcde603b539a255", func := "loop.example/g01302/laws.FnExactSeesOver", spec := "fnExactSeesOver", inPlace := ["math.Float32bits"], unfollowed := true, recurses := true, apart := false, narrowed := true }
def FnExactSeesOverUptoSaid : Prop := fnExactSeesOverUptoRow.holds Try.pinned (OpenSpec.upto fnExactSeesOverSpec)

/-- 'laws.FnExactShadeOf', WHERE WHAT IT READS IS OF BULK AT MOST 1048576: true; the input reads as it did. -/
def fnExactShadeOfUptoRow : OpenClaim := { program := "ytljehplkdofhpac", sum := "0c2a65c803b3d494d328d929b7cdf054b4a05dde0b4478374dcde603b539a255", func := "loop.example/g01302/laws.FnExactShadeOf", spec := "fnExactShadeOf", inPlace := ["math.Float32frombits", "math.Float64frombits", "math.sqrt", "math.Float32bits", "math.Float64bits"], unfollowed := true, recurses := true, apart := false, narrowed := true }
def FnExactShadeOfUptoSaid : Prop := fnExactShadeOfUptoRow.holds Try.pinned (OpenSpec.upto fnExactShadeOfSpec)

/-- 'laws.FnExactValidHill', WHERE WHAT IT READS IS OF BULK AT MOST 1048576: true; the input reads as it did. -/
def fnExactValidHillUptoRow : OpenClaim := { program := "ytljehplkdofhpac", sum := "0c2a65c803b3d494d328d929b7cdf054b4a05dde0b4478374dcde603b539a255", func := "loop.example/g01302/laws.FnExactValidHill", spec := "fnExactValidHill", inPlace := ["math.Float32bits"], unfollowed := true, recurses := true, apart := false, narrowed := true }
def FnExactValidHillUptoSaid : Prop := fnExactValidHillUptoRow.holds Try.pinned (OpenSpec.upto fnExactValidHillSpec)

/-- 'laws.FnExactSameHill', WHERE WHAT IT READS IS OF BULK AT MOST 1048576: true; the input reads as it did. -/
def fnExactSameHillUptoRow : OpenClaim := { program := "ytljehplkdofhpac", sum := "0c2a65c803b3d494d328d929b7cdf054b4a05dde0b4478374dcde603b539a255", func := "loop.example/g01302/laws.FnExactSameHill", spec := "fnExactSameHill", inPlace := ["math.Float32bits"], unfollowed := true, recurses := true, apart := false, narrowed := true }
def FnExactSameHillUptoSaid : Prop := fnExactSameHillUptoRow.holds Try.pinned (OpenSpec.upto fnExactSameHillSpec)

/-- 'laws.FnExactScaleHill', WHERE WHAT IT READS IS OF BULK AT MOST 1048576: true; the input reads as it did. -/
def fnExactScaleHillUptoRow : OpenClaim := { program := "ytljehplkdofhpac", sum := "0c2a65c803b3d494d328d929b7cdf054b4a05dde0b4478374dcde603b539a255", func := "loop.example/g01302/laws.FnExactScaleHill", spec := "fnExactScaleHill", inPlace := ["math.Float32bits"], unfollowed := true, recurses := true, apart := false, narrowed := true }
def FnExactScaleHillUptoSaid : Prop := fnExactScaleHillUptoRow.holds Try.pinned (OpenSpec.upto fnExactScaleHillSpec)

/-- 'laws.FnExactSameReaches', WHERE WHAT IT READS IS OF BULK AT MOST 1048576: true; the input reads as it did. -/
def fnExactSameReachesUptoRow : OpenClaim := { program := "ytljehplkdofhpac", sum := "0c2a65c803b3d494d328d929b7cdf054b4a05dde0b4478374dcde603b539a255", func := "loop.example/g01302/laws.FnExactSameReaches", spec := "fnExactSameReaches", inPlace := ["math.Float32bits"], unfollowed := true, recurses := true, apart := false, narrowed := true }
def FnExactSameReachesUptoSaid : Prop := fnExactSameReachesUptoRow.holds Try.pinned (OpenSpec.upto fnExactSameReachesSpec)

/-- 'laws.FnExactSameStorms', WHERE WHAT IT READS IS OF BULK AT MOST 1048576: true; the input reads as it did. -/
def fnExactSameStormsUptoRow : OpenClaim := { program := "ytljehplkdofhpac", sum := "0c2a65c803b3d494d328d929b7cdf054b4a05dde0b4478374dcde603b539a255", func := "loop.example/g01302/laws.FnExactSameStorms", spec := "fnExactSameStorms", inPlace := ["math.Float32bits"], unfollowed := true, recurses := true, apart := false, narrowed := true }
def FnExactSameStormsUptoSaid : Prop := fnExactSameStormsUptoRow.holds Try.pinned (OpenSpec.upto fnExactSameStormsSpec)

/-- 'laws.FnExactTidesOf', WHERE WHAT IT READS IS OF BULK AT MOST 1048576: true; the input reads as it did. -/
def fnExactTidesOfUptoRow : OpenClaim := { program := "ytljehplkdofhpac", sum := "0c2a65c803b3d494d328d929b7cdf054b4a05dde0b4478374dcde603b539a255", func := "loop.example/g01302/laws.FnExactTidesOf", spec := "fnExactTidesOf", inPlace := ["math.Float32bits"], unfollowed := true, recurses := true, apart := false, narrowed := true }
def FnExactTidesOfUptoSaid : Prop := fnExactTidesOfUptoRow.holds Try.pinned (OpenSpec.upto fnExactTidesOfSpec)

/-- 'laws.FnExactStormsOf', WHERE WHAT IT READS IS OF BULK AT MOST 1048576: true; the input reads as it did. -/
def fnExactStormsOfUptoRow : OpenClaim := { program := "ytljehplkdofhpac", sum := "0c2a65c803b3d494d328d929b7cdf054b4a05dde0b4478374dcde603b539a255", func := "loop.example/g01302/laws.FnExactStormsOf", spec := "fnExactStormsOf", inPlace := ["math.Float32bits"], unfollowed := true, recurses := true, apart := false, narrowed := true }
def FnExactStormsOfUptoSaid : Prop := fnExactStormsOfUptoRow.holds Try.pinned (OpenSpec.upto fnExactStormsOfSpec)

/-- 'laws.FnExactRainList', WHERE WHAT IT READS IS OF BULK AT MOST 1048576: true; the input reads as it did. -/
def fnExactRainListUptoRow : OpenClaim := { program := "ytljehplkdofhpac", sum := "0c2a65c803b3d494d328d929b7cdf054b4a05dde0b4478374dcde603b539a255", func := "loop.example/g01302/laws.FnExactRainList", spec := "fnExactRainList", inPlace := ["math.Float32bits"], unfollowed := true, recurses := true, apart := false, narrowed := true }
def FnExactRainListUptoSaid : Prop := fnExactRainListUptoRow.holds Try.pinned (OpenSpec.upto fnExactRainListSpec)

end Rows
end Go.Proofs.Ytljehplkdofhpac
