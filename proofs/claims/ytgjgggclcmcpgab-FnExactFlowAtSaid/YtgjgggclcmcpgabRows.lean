/-
  No cell of these rows narrows 'for every input' (looked for: loops, veiled, ifaces, maps, wideKeys, modest, calm, conditions, laid).
  DERIVED. THE GIVEN ROWS OF THIS SEAT. 12 by the template 'for every input the law returns true; each argument reads behind the call as it read before'; 0 by the template 'total and deterministic' (their statements: YtgjgggclcmcpgabTotals.lean).
  GIVEN WITH THE SEED: the statements are not yours to turn. If you find one false, say at which input.
  Laid BY PROGRAM, IN A SANDBOX (cutbox-rows.mjs): the forced cells as the released guide's own fill.sh prints them over the translation 3e599c8c335063ee… (all of the seat's roots in one cut). By AI agents, Wed Nov 11 2026. No macro, syntax, notation, axiom, sorry.
-/
import Derived.Test.YtgjgggclcmcpgabChecked
import GoSem.Claim
import GoSem.ClaimJoined
import GoSem.ClaimMapViews
import Derived.JoinedTies
import Derived.KernelRfl
namespace Go.Proofs.Ytgjgggclcmcpgab
/- THE CELL 'sum', in the pinned program and in every row, IS THE sha256 OF THE DUMP (.gsa) THAT YtgjgggclcmcpgabProg.lean LOADS. Nothing in Lean hashes anything: it is a label: what it is worth is what the hold of that sum in a sandbox is worth. -/
noncomputable def Try.pinned : Pinned := { name := "ytgjgggclcmcpgab", sum := "3e599c8c335063eede077bde72792c1c12817d78fa2b81912b1b8c33803e3ae5", checked := Try.checked }
namespace Rows
def none {H : Type} : Left H := { results := [], args := [] }

/-- 'laws.FnExactValidSection': WHATEVER THE INPUT: true; the input reads as it did. -/
def fnExactValidSectionSpec : ChangeSpec := { name := "fnExactValidSection", fn := fun _ => fun
  | [d] => { results := [.lit (.bool true)], args := [d] }
  | _ => none }
def fnExactValidSectionRow : OpenClaim := { program := "ytgjgggclcmcpgab", sum := "3e599c8c335063eede077bde72792c1c12817d78fa2b81912b1b8c33803e3ae5", func := "loop.example/g01302/laws.FnExactValidSection", spec := "fnExactValidSection", inPlace := ["math.Float32bits"], apart := false }
def FnExactValidSectionSaid : Prop := fnExactValidSectionRow.holds Try.pinned (OpenSpec.ofChange fnExactValidSectionSpec)

/-- ITS FALSE NEIGHBOUR: 'it returns false'. Refute it at one input. -/
def fnExactValidSectionWrong : ChangeSpec := { name := "fnExactValidSection", fn := fun _ => fun
  | [d] => { results := [.lit (.bool false)], args := [d] }
  | _ => none }
def FnExactValidSectionWrongFalsely : Prop := fnExactValidSectionRow.holds Try.pinned (OpenSpec.ofChange fnExactValidSectionWrong)

/-- 'laws.FnExactSameSection': WHATEVER THE INPUT: true; the input reads as it did. -/
def fnExactSameSectionSpec : ChangeSpec := { name := "fnExactSameSection", fn := fun _ => fun
  | [d1, d2] => { results := [.lit (.bool true)], args := [d1, d2] }
  | _ => none }
def fnExactSameSectionRow : OpenClaim := { program := "ytgjgggclcmcpgab", sum := "3e599c8c335063eede077bde72792c1c12817d78fa2b81912b1b8c33803e3ae5", func := "loop.example/g01302/laws.FnExactSameSection", spec := "fnExactSameSection", inPlace := ["math.Float32bits"], apart := false }
def FnExactSameSectionSaid : Prop := fnExactSameSectionRow.holds Try.pinned (OpenSpec.ofChange fnExactSameSectionSpec)

/-- ITS FALSE NEIGHBOUR: 'it returns false'. Refute it at one input. -/
def fnExactSameSectionWrong : ChangeSpec := { name := "fnExactSameSection", fn := fun _ => fun
  | [d1, d2] => { results := [.lit (.bool false)], args := [d1, d2] }
  | _ => none }
def FnExactSameSectionWrongFalsely : Prop := fnExactSameSectionRow.holds Try.pinned (OpenSpec.ofChange fnExactSameSectionWrong)

/-- 'laws.FnExactAreaAt': WHATEVER THE INPUT: true; the input reads as it did. -/
def fnExactAreaAtSpec : ChangeSpec := { name := "fnExactAreaAt", fn := fun _ => fun
  | [d1, d2] => { results := [.lit (.bool true)], args := [d1, d2] }
  | _ => none }
def fnExactAreaAtRow : OpenClaim := { program := "ytgjgggclcmcpgab", sum := "3e599c8c335063eede077bde72792c1c12817d78fa2b81912b1b8c33803e3ae5", func := "loop.example/g01302/laws.FnExactAreaAt", spec := "fnExactAreaAt", inPlace := ["math.Float32bits"], apart := false }
def FnExactAreaAtSaid : Prop := fnExactAreaAtRow.holds Try.pinned (OpenSpec.ofChange fnExactAreaAtSpec)

/-- ITS FALSE NEIGHBOUR: 'it returns false'. Refute it at one input. -/
def fnExactAreaAtWrong : ChangeSpec := { name := "fnExactAreaAt", fn := fun _ => fun
  | [d1, d2] => { results := [.lit (.bool false)], args := [d1, d2] }
  | _ => none }
def FnExactAreaAtWrongFalsely : Prop := fnExactAreaAtRow.holds Try.pinned (OpenSpec.ofChange fnExactAreaAtWrong)

/-- 'laws.FnExactWetAt': WHATEVER THE INPUT: true; the input reads as it did. -/
def fnExactWetAtSpec : ChangeSpec := { name := "fnExactWetAt", fn := fun _ => fun
  | [d1, d2] => { results := [.lit (.bool true)], args := [d1, d2] }
  | _ => none }
def fnExactWetAtRow : OpenClaim := { program := "ytgjgggclcmcpgab", sum := "3e599c8c335063eede077bde72792c1c12817d78fa2b81912b1b8c33803e3ae5", func := "loop.example/g01302/laws.FnExactWetAt", spec := "fnExactWetAt", inPlace := ["math.sqrt", "math.Float32bits"], apart := false }
def FnExactWetAtSaid : Prop := fnExactWetAtRow.holds Try.pinned (OpenSpec.ofChange fnExactWetAtSpec)

/-- ITS FALSE NEIGHBOUR: 'it returns false'. Refute it at one input. -/
def fnExactWetAtWrong : ChangeSpec := { name := "fnExactWetAt", fn := fun _ => fun
  | [d1, d2] => { results := [.lit (.bool false)], args := [d1, d2] }
  | _ => none }
def FnExactWetAtWrongFalsely : Prop := fnExactWetAtRow.holds Try.pinned (OpenSpec.ofChange fnExactWetAtWrong)

/-- 'laws.FnExactTopAt': WHATEVER THE INPUT: true; the input reads as it did. -/
def fnExactTopAtSpec : ChangeSpec := { name := "fnExactTopAt", fn := fun _ => fun
  | [d1, d2] => { results := [.lit (.bool true)], args := [d1, d2] }
  | _ => none }
def fnExactTopAtRow : OpenClaim := { program := "ytgjgggclcmcpgab", sum := "3e599c8c335063eede077bde72792c1c12817d78fa2b81912b1b8c33803e3ae5", func := "loop.example/g01302/laws.FnExactTopAt", spec := "fnExactTopAt", inPlace := ["math.Float32bits"], apart := false }
def FnExactTopAtSaid : Prop := fnExactTopAtRow.holds Try.pinned (OpenSpec.ofChange fnExactTopAtSpec)

/-- ITS FALSE NEIGHBOUR: 'it returns false'. Refute it at one input. -/
def fnExactTopAtWrong : ChangeSpec := { name := "fnExactTopAt", fn := fun _ => fun
  | [d1, d2] => { results := [.lit (.bool false)], args := [d1, d2] }
  | _ => none }
def FnExactTopAtWrongFalsely : Prop := fnExactTopAtRow.holds Try.pinned (OpenSpec.ofChange fnExactTopAtWrong)

/-- 'laws.FnExactMiddleAt': WHATEVER THE INPUT: true; the input reads as it did. -/
def fnExactMiddleAtSpec : ChangeSpec := { name := "fnExactMiddleAt", fn := fun _ => fun
  | [d1, d2] => { results := [.lit (.bool true)], args := [d1, d2] }
  | _ => none }
def fnExactMiddleAtRow : OpenClaim := { program := "ytgjgggclcmcpgab", sum := "3e599c8c335063eede077bde72792c1c12817d78fa2b81912b1b8c33803e3ae5", func := "loop.example/g01302/laws.FnExactMiddleAt", spec := "fnExactMiddleAt", inPlace := ["math.sqrt", "math.Float32bits"], apart := false }
def FnExactMiddleAtSaid : Prop := fnExactMiddleAtRow.holds Try.pinned (OpenSpec.ofChange fnExactMiddleAtSpec)

/-- ITS FALSE NEIGHBOUR: 'it returns false'. Refute it at one input. -/
def fnExactMiddleAtWrong : ChangeSpec := { name := "fnExactMiddleAt", fn := fun _ => fun
  | [d1, d2] => { results := [.lit (.bool false)], args := [d1, d2] }
  | _ => none }
def FnExactMiddleAtWrongFalsely : Prop := fnExactMiddleAtRow.holds Try.pinned (OpenSpec.ofChange fnExactMiddleAtWrong)

/-- 'laws.FnExactFlowAt': WHATEVER THE INPUT: true; the input reads as it did. -/
def fnExactFlowAtSpec : ChangeSpec := { name := "fnExactFlowAt", fn := fun _ => fun
  | [d1, d2] => { results := [.lit (.bool true)], args := [d1, d2] }
  | _ => none }
def fnExactFlowAtRow : OpenClaim := { program := "ytgjgggclcmcpgab", sum := "3e599c8c335063eede077bde72792c1c12817d78fa2b81912b1b8c33803e3ae5", func := "loop.example/g01302/laws.FnExactFlowAt", spec := "fnExactFlowAt", inPlace := ["math.sqrt", "math.Float64frombits", "math.Float64bits", "math.Float32bits"], apart := false }
def FnExactFlowAtSaid : Prop := fnExactFlowAtRow.holds Try.pinned (OpenSpec.ofChange fnExactFlowAtSpec)

/-- ITS FALSE NEIGHBOUR: 'it returns false'. Refute it at one input. -/
def fnExactFlowAtWrong : ChangeSpec := { name := "fnExactFlowAt", fn := fun _ => fun
  | [d1, d2] => { results := [.lit (.bool false)], args := [d1, d2] }
  | _ => none }
def FnExactFlowAtWrongFalsely : Prop := fnExactFlowAtRow.holds Try.pinned (OpenSpec.ofChange fnExactFlowAtWrong)

/-- 'laws.FnExactSpeedAt': WHATEVER THE INPUT: true; the input reads as it did. -/
def fnExactSpeedAtSpec : ChangeSpec := { name := "fnExactSpeedAt", fn := fun _ => fun
  | [d1, d2, d3] => { results := [.lit (.bool true)], args := [d1, d2, d3] }
  | _ => none }
def fnExactSpeedAtRow : OpenClaim := { program := "ytgjgggclcmcpgab", sum := "3e599c8c335063eede077bde72792c1c12817d78fa2b81912b1b8c33803e3ae5", func := "loop.example/g01302/laws.FnExactSpeedAt", spec := "fnExactSpeedAt", inPlace := ["math.Float32bits"], apart := false }
def FnExactSpeedAtSaid : Prop := fnExactSpeedAtRow.holds Try.pinned (OpenSpec.ofChange fnExactSpeedAtSpec)

/-- ITS FALSE NEIGHBOUR: 'it returns false'. Refute it at one input. -/
def fnExactSpeedAtWrong : ChangeSpec := { name := "fnExactSpeedAt", fn := fun _ => fun
  | [d1, d2, d3] => { results := [.lit (.bool false)], args := [d1, d2, d3] }
  | _ => none }
def FnExactSpeedAtWrongFalsely : Prop := fnExactSpeedAtRow.holds Try.pinned (OpenSpec.ofChange fnExactSpeedAtWrong)

/-- 'laws.FnExactSwiftnessAt': WHATEVER THE INPUT: true; the input reads as it did. -/
def fnExactSwiftnessAtSpec : ChangeSpec := { name := "fnExactSwiftnessAt", fn := fun _ => fun
  | [d1, d2, d3] => { results := [.lit (.bool true)], args := [d1, d2, d3] }
  | _ => none }
def fnExactSwiftnessAtRow : OpenClaim := { program := "ytgjgggclcmcpgab", sum := "3e599c8c335063eede077bde72792c1c12817d78fa2b81912b1b8c33803e3ae5", func := "loop.example/g01302/laws.FnExactSwiftnessAt", spec := "fnExactSwiftnessAt", inPlace := ["math.sqrt", "math.Float32bits"], apart := false }
def FnExactSwiftnessAtSaid : Prop := fnExactSwiftnessAtRow.holds Try.pinned (OpenSpec.ofChange fnExactSwiftnessAtSpec)

/-- ITS FALSE NEIGHBOUR: 'it returns false'. Refute it at one input. -/
def fnExactSwiftnessAtWrong : ChangeSpec := { name := "fnExactSwiftnessAt", fn := fun _ => fun
  | [d1, d2, d3] => { results := [.lit (.bool false)], args := [d1, d2, d3] }
  | _ => none }
def FnExactSwiftnessAtWrongFalsely : Prop := fnExactSwiftnessAtRow.holds Try.pinned (OpenSpec.ofChange fnExactSwiftnessAtWrong)

/-- 'laws.FnExactHeadAt': WHATEVER THE INPUT: true; the input reads as it did. -/
def fnExactHeadAtSpec : ChangeSpec := { name := "fnExactHeadAt", fn := fun _ => fun
  | [d1, d2, d3] => { results := [.lit (.bool true)], args := [d1, d2, d3] }
  | _ => none }
def fnExactHeadAtRow : OpenClaim := { program := "ytgjgggclcmcpgab", sum := "3e599c8c335063eede077bde72792c1c12817d78fa2b81912b1b8c33803e3ae5", func := "loop.example/g01302/laws.FnExactHeadAt", spec := "fnExactHeadAt", inPlace := ["math.Float32bits"], apart := false }
def FnExactHeadAtSaid : Prop := fnExactHeadAtRow.holds Try.pinned (OpenSpec.ofChange fnExactHeadAtSpec)

/-- ITS FALSE NEIGHBOUR: 'it returns false'. Refute it at one input. -/
def fnExactHeadAtWrong : ChangeSpec := { name := "fnExactHeadAt", fn := fun _ => fun
  | [d1, d2, d3] => { results := [.lit (.bool false)], args := [d1, d2, d3] }
  | _ => none }
def FnExactHeadAtWrongFalsely : Prop := fnExactHeadAtRow.holds Try.pinned (OpenSpec.ofChange fnExactHeadAtWrong)

/-- 'laws.FnExactPushAt': WHATEVER THE INPUT: true; the input reads as it did. -/
def fnExactPushAtSpec : ChangeSpec := { name := "fnExactPushAt", fn := fun _ => fun
  | [d1, d2, d3] => { results := [.lit (.bool true)], args := [d1, d2, d3] }
  | _ => none }
def fnExactPushAtRow : OpenClaim := { program := "ytgjgggclcmcpgab", sum := "3e599c8c335063eede077bde72792c1c12817d78fa2b81912b1b8c33803e3ae5", func := "loop.example/g01302/laws.FnExactPushAt", spec := "fnExactPushAt", inPlace := ["math.Float32bits"], apart := false }
def FnExactPushAtSaid : Prop := fnExactPushAtRow.holds Try.pinned (OpenSpec.ofChange fnExactPushAtSpec)

/-- ITS FALSE NEIGHBOUR: 'it returns false'. Refute it at one input. -/
def fnExactPushAtWrong : ChangeSpec := { name := "fnExactPushAt", fn := fun _ => fun
  | [d1, d2, d3] => { results := [.lit (.bool false)], args := [d1, d2, d3] }
  | _ => none }
def FnExactPushAtWrongFalsely : Prop := fnExactPushAtRow.holds Try.pinned (OpenSpec.ofChange fnExactPushAtWrong)

/-- 'laws.FnExactSteepnessAt': WHATEVER THE INPUT: true; the input reads as it did. -/
def fnExactSteepnessAtSpec : ChangeSpec := { name := "fnExactSteepnessAt", fn := fun _ => fun
  | [d1, d2, d3] => { results := [.lit (.bool true)], args := [d1, d2, d3] }
  | _ => none }
def fnExactSteepnessAtRow : OpenClaim := { program := "ytgjgggclcmcpgab", sum := "3e599c8c335063eede077bde72792c1c12817d78fa2b81912b1b8c33803e3ae5", func := "loop.example/g01302/laws.FnExactSteepnessAt", spec := "fnExactSteepnessAt", inPlace := ["math.sqrt", "math.Float64frombits", "math.Float64bits", "math.Float32bits"], apart := false }
def FnExactSteepnessAtSaid : Prop := fnExactSteepnessAtRow.holds Try.pinned (OpenSpec.ofChange fnExactSteepnessAtSpec)

/-- ITS FALSE NEIGHBOUR: 'it returns false'. Refute it at one input. -/
def fnExactSteepnessAtWrong : ChangeSpec := { name := "fnExactSteepnessAt", fn := fun _ => fun
  | [d1, d2, d3] => { results := [.lit (.bool false)], args := [d1, d2, d3] }
  | _ => none }
def FnExactSteepnessAtWrongFalsely : Prop := fnExactSteepnessAtRow.holds Try.pinned (OpenSpec.ofChange fnExactSteepnessAtWrong)

/- THE SECOND FORM. 'bulk': how many values and letters a reading holds, each counted each time it is reached (what is shared counts as often as it is met; a slice's spare places count too). A statement '..UptoSaid' is the law's where the arguments, and the package variables that the reading takes, are together of bulk at most 1048576: NARROWER than '..Said'. Prove '..Said' where nothing that the law and all that it calls make is longer than what came in: it says more and counts as full. Else prove '..UptoSaid'. A law counts once. -/
mutual
def uptoBulk {H : Type} : DataW H → Nat
  | .lit (.string bytes) => bytes.length + 1
  | .lit _ => 1
  | .nil => 1
  | .ptr d => uptoBulk d + 1
  | .slice elems spare => uptoBulkAll elems + uptoBulkAll spare + 1
  | .agg parts => uptoBulkAll parts + 1
  | .iface _ d => uptoBulk d + 1
  | .map entries => uptoBulkEntries entries + 1
  | .held _ => 1
def uptoBulkAll {H : Type} : List (DataW H) → Nat
  | [] => 0
  | d :: r => uptoBulk d + uptoBulkAll r
def uptoBulkEntries {H : Type} : List (Lit × DataW H) → Nat
  | [] => 0
  | x :: r => uptoBulkEntry x + uptoBulkEntries r
def uptoBulkEntry {H : Type} : Lit × DataW H → Nat
  | (.string bytes, d) => bytes.length + uptoBulk d + 1
  | (_, d) => uptoBulk d + 1
 end
def uptoSmall : (H : Type) → List (DataW H) → Bool := fun _ ds => decide (uptoBulkAll ds ≤ 1048576)
def OpenSpec.upto (s : _root_.Go.ChangeSpec) : _root_.Go.OpenSpec := { _root_.Go.OpenSpec.ofChange s with cond := some uptoSmall }

/-- 'laws.FnExactValidSection', WHERE WHAT IT READS IS OF BULK AT MOST 1048576: true; the input reads as it did. -/
def fnExactValidSectionUptoRow : OpenClaim := { program := "ytgjgggclcmcpgab", sum := "3e599c8c335063eede077bde72792c1c12817d78fa2b81912b1b8c33803e3ae5", func := "loop.example/g01302/laws.FnExactValidSection", spec := "fnExactValidSection", inPlace := ["math.Float32bits"], apart := false, narrowed := true }
def FnExactValidSectionUptoSaid : Prop := fnExactValidSectionUptoRow.holds Try.pinned (OpenSpec.upto fnExactValidSectionSpec)

/-- 'laws.FnExactSameSection', WHERE WHAT IT READS IS OF BULK AT MOST 1048576: true; the input reads as it did. -/
def fnExactSameSectionUptoRow : OpenClaim := { program := "ytgjgggclcmcpgab", sum := "3e599c8c335063eede077bde72792c1c12817d78fa2b81912b1b8c33803e3ae5", func := "loop.example/g01302/laws.FnExactSameSection", spec := "fnExactSameSection", inPlace := ["math.Float32bits"], apart := false, narrowed := true }
def FnExactSameSectionUptoSaid : Prop := fnExactSameSectionUptoRow.holds Try.pinned (OpenSpec.upto fnExactSameSectionSpec)

/-- 'laws.FnExactAreaAt', WHERE WHAT IT READS IS OF BULK AT MOST 1048576: true; the input reads as it did. -/
def fnExactAreaAtUptoRow : OpenClaim := { program := "ytgjgggclcmcpgab", sum := "3e599c8c335063eede077bde72792c1c12817d78fa2b81912b1b8c33803e3ae5", func := "loop.example/g01302/laws.FnExactAreaAt", spec := "fnExactAreaAt", inPlace := ["math.Float32bits"], apart := false, narrowed := true }
def FnExactAreaAtUptoSaid : Prop := fnExactAreaAtUptoRow.holds Try.pinned (OpenSpec.upto fnExactAreaAtSpec)

/-- 'laws.FnExactWetAt', WHERE WHAT IT READS IS OF BULK AT MOST 1048576: true; the input reads as it did. -/
def fnExactWetAtUptoRow : OpenClaim := { program := "ytgjgggclcmcpgab", sum := "3e599c8c335063eede077bde72792c1c12817d78fa2b81912b1b8c33803e3ae5", func := "loop.example/g01302/laws.FnExactWetAt", spec := "fnExactWetAt", inPlace := ["math.sqrt", "math.Float32bits"], apart := false, narrowed := true }
def FnExactWetAtUptoSaid : Prop := fnExactWetAtUptoRow.holds Try.pinned (OpenSpec.upto fnExactWetAtSpec)

/-- 'laws.FnExactTopAt', WHERE WHAT IT READS IS OF BULK AT MOST 1048576: true; the input reads as it did. -/
def fnExactTopAtUptoRow : OpenClaim := { program := "ytgjgggclcmcpgab", sum := "3e599c8c335063eede077bde72792c1c12817d78fa2b81912b1b8c33803e3ae5", func := "loop.example/g01302/laws.FnExactTopAt", spec := "fnExactTopAt", inPlace := ["math.Float32bits"], apart := false, narrowed := true }
def FnExactTopAtUptoSaid : Prop := fnExactTopAtUptoRow.holds Try.pinned (OpenSpec.upto fnExactTopAtSpec)

/-- 'laws.FnExactMiddleAt', WHERE WHAT IT READS IS OF BULK AT MOST 1048576: true; the input reads as it did. -/
def fnExactMiddleAtUptoRow : OpenClaim := { program := "ytgjgggclcmcpgab", sum := "3e599c8c335063eede077bde72792c1c12817d78fa2b81912b1b8c33803e3ae5", func := "loop.example/g01302/laws.FnExactMiddleAt", spec := "fnExactMiddleAt", inPlace := ["math.sqrt", "math.Float32bits"], apart := false, narrowed := true }
def FnExactMiddleAtUptoSaid : Prop := fnExactMiddleAtUptoRow.holds Try.pinned (OpenSpec.upto fnExactMiddleAtSpec)

/-- 'laws.FnExactFlowAt', WHERE WHAT IT READS IS OF BULK AT MOST 1048576: true; the input reads as it did. -/
def fnExactFlowAtUptoRow : OpenClaim := { program := "ytgjgggclcmcpgab", sum := "3e599c8c335063eede077bde72792c1c12817d78fa2b81912b1b8c33803e3ae5", func := "loop.example/g01302/laws.FnExactFlowAt", spec := "fnExactFlowAt", inPlace := ["math.sqrt", "math.Float64frombits", "math.Float64bits", "math.Float32bits"], apart := false, narrowed := true }
def FnExactFlowAtUptoSaid : Prop := fnExactFlowAtUptoRow.holds Try.pinned (OpenSpec.upto fnExactFlowAtSpec)

/-- 'laws.FnExactSpeedAt', WHERE WHAT IT READS IS OF BULK AT MOST 1048576: true; the input reads as it did. -/
def fnExactSpeedAtUptoRow : OpenClaim := { program := "ytgjgggclcmcpgab", sum := "3e599c8c335063eede077bde72792c1c12817d78fa2b81912b1b8c33803e3ae5", func := "loop.example/g01302/laws.FnExactSpeedAt", spec := "fnExactSpeedAt", inPlace := ["math.Float32bits"], apart := false, narrowed := true }
def FnExactSpeedAtUptoSaid : Prop := fnExactSpeedAtUptoRow.holds Try.pinned (OpenSpec.upto fnExactSpeedAtSpec)

/-- 'laws.FnExactSwiftnessAt', WHERE WHAT IT READS IS OF BULK AT MOST 1048576: true; the input reads as it did. -/
def fnExactSwiftnessAtUptoRow : OpenClaim := { program := "ytgjgggclcmcpgab", sum := "3e599c8c335063eede077bde72792c1c12817d78fa2b81912b1b8c33803e3ae5", func := "loop.example/g01302/laws.FnExactSwiftnessAt", spec := "fnExactSwiftnessAt", inPlace := ["math.sqrt", "math.Float32bits"], apart := false, narrowed := true }
def FnExactSwiftnessAtUptoSaid : Prop := fnExactSwiftnessAtUptoRow.holds Try.pinned (OpenSpec.upto fnExactSwiftnessAtSpec)

/-- 'laws.FnExactHeadAt', WHERE WHAT IT READS IS OF BULK AT MOST 1048576: true; the input reads as it did. -/
def fnExactHeadAtUptoRow : OpenClaim := { program := "ytgjgggclcmcpgab", sum := "3e599c8c335063eede077bde72792c1c12817d78fa2b81912b1b8c33803e3ae5", func := "loop.example/g01302/laws.FnExactHeadAt", spec := "fnExactHeadAt", inPlace := ["math.Float32bits"], apart := false, narrowed := true }
def FnExactHeadAtUptoSaid : Prop := fnExactHeadAtUptoRow.holds Try.pinned (OpenSpec.upto fnExactHeadAtSpec)

/-- 'laws.FnExactPushAt', WHERE WHAT IT READS IS OF BULK AT MOST 1048576: true; the input reads as it did. -/
def fnExactPushAtUptoRow : OpenClaim := { program := "ytgjgggclcmcpgab", sum := "3e599c8c335063eede077bde72792c1c12817d78fa2b81912b1b8c33803e3ae5", func := "loop.example/g01302/laws.FnExactPushAt", spec := "fnExactPushAt", inPlace := ["math.Float32bits"], apart := false, narrowed := true }
def FnExactPushAtUptoSaid : Prop := fnExactPushAtUptoRow.holds Try.pinned (OpenSpec.upto fnExactPushAtSpec)

/-- 'laws.FnExactSteepnessAt', WHERE WHAT IT READS IS OF BULK AT MOST 1048576: true; the input reads as it did. -/
def fnExactSteepnessAtUptoRow : OpenClaim := { program := "ytgjgggclcmcpgab", sum := "3e599c8c335063eede077bde72792c1c12817d78fa2b81912b1b8c33803e3ae5", func := "loop.example/g01302/laws.FnExactSteepnessAt", spec := "fnExactSteepnessAt", inPlace := ["math.sqrt", "math.Float64frombits", "math.Float64bits", "math.Float32bits"], apart := false, narrowed := true }
def FnExactSteepnessAtUptoSaid : Prop := fnExactSteepnessAtUptoRow.holds Try.pinned (OpenSpec.upto fnExactSteepnessAtSpec)

end Rows
end Go.Proofs.Ytgjgggclcmcpgab
