/-
  No cell of these rows narrows 'for every input' (looked for: loops, veiled, ifaces, maps, wideKeys, modest, calm, conditions, laid).
  DERIVED. THE GIVEN ROWS OF THIS SEAT. 12 by the template 'for every input the law returns true; each argument reads behind the call as it read before'; 0 by the template 'total and deterministic' (their statements: YtgnkpppbhibfoabTotals.lean).
  GIVEN WITH THE SEED: the statements are not yours to turn. If you find one false, say at which input.
  Laid BY PROGRAM, IN A SANDBOX (cutbox-rows.mjs): the forced cells as the released guide's own fill.sh prints them over the translation 802b1d3043106a2f… (all of the seat's roots in one cut). By AI agents, Wed Nov 11 2026. No macro, syntax, notation, axiom, sorry.
-/
import Derived.Test.YtgnkpppbhibfoabChecked
import GoSem.Claim
import GoSem.ClaimJoined
import GoSem.ClaimMapViews
import Derived.JoinedTies
import Derived.KernelRfl
namespace Go.Proofs.Ytgnkpppbhibfoab
/- THE CELL 'sum', in the pinned program and in every row, IS THE sha256 OF THE DUMP (.gsa) THAT YtgnkpppbhibfoabProg.lean LOADS. Nothing in Lean hashes anything: it is a label: what it is worth is what the hold of that sum in a sandbox is worth. -/
noncomputable def Try.pinned : Pinned := { name := "ytgnkpppbhibfoab", sum := "802b1d3043106a2f6a3fe57ec6da57844b31b17dc310ca37d7f01b7227f10bae", checked := Try.checked }
namespace Rows
def none {H : Type} : Left H := { results := [], args := [] }

/-- 'laws.FnExactSlopeHill': WHATEVER THE INPUT: true; the input reads as it did. -/
def fnExactSlopeHillSpec : ChangeSpec := { name := "fnExactSlopeHill", fn := fun _ => fun
  | [d1, d2, d3, d4, d5] => { results := [.lit (.bool true)], args := [d1, d2, d3, d4, d5] }
  | _ => none }
def fnExactSlopeHillRow : OpenClaim := { program := "ytgnkpppbhibfoab", sum := "802b1d3043106a2f6a3fe57ec6da57844b31b17dc310ca37d7f01b7227f10bae", func := "loop.example/g01302/laws.FnExactSlopeHill", spec := "fnExactSlopeHill", inPlace := ["math.Float32bits"], unfollowed := true, recurses := true, apart := false }
def FnExactSlopeHillSaid : Prop := fnExactSlopeHillRow.holds Try.pinned (OpenSpec.ofChange fnExactSlopeHillSpec)

/-- ITS FALSE NEIGHBOUR: 'it returns false'. Refute it at one input. -/
def fnExactSlopeHillWrong : ChangeSpec := { name := "fnExactSlopeHill", fn := fun _ => fun
  | [d1, d2, d3, d4, d5] => { results := [.lit (.bool false)], args := [d1, d2, d3, d4, d5] }
  | _ => none }
def FnExactSlopeHillWrongFalsely : Prop := fnExactSlopeHillRow.holds Try.pinned (OpenSpec.ofChange fnExactSlopeHillWrong)

/-- 'laws.FnExactConeHill': WHATEVER THE INPUT: true; the input reads as it did. -/
def fnExactConeHillSpec : ChangeSpec := { name := "fnExactConeHill", fn := fun _ => fun
  | [d1, d2, d3, d4] => { results := [.lit (.bool true)], args := [d1, d2, d3, d4] }
  | _ => none }
def fnExactConeHillRow : OpenClaim := { program := "ytgnkpppbhibfoab", sum := "802b1d3043106a2f6a3fe57ec6da57844b31b17dc310ca37d7f01b7227f10bae", func := "loop.example/g01302/laws.FnExactConeHill", spec := "fnExactConeHill", inPlace := ["math.sqrt", "math.Float32bits"], unfollowed := true, recurses := true, apart := false }
def FnExactConeHillSaid : Prop := fnExactConeHillRow.holds Try.pinned (OpenSpec.ofChange fnExactConeHillSpec)

/-- ITS FALSE NEIGHBOUR: 'it returns false'. Refute it at one input. -/
def fnExactConeHillWrong : ChangeSpec := { name := "fnExactConeHill", fn := fun _ => fun
  | [d1, d2, d3, d4] => { results := [.lit (.bool false)], args := [d1, d2, d3, d4] }
  | _ => none }
def FnExactConeHillWrongFalsely : Prop := fnExactConeHillRow.holds Try.pinned (OpenSpec.ofChange fnExactConeHillWrong)

/-- 'laws.FnExactRoughHill': WHATEVER THE INPUT: true; the input reads as it did. -/
def fnExactRoughHillSpec : ChangeSpec := { name := "fnExactRoughHill", fn := fun _ => fun
  | [d1, d2, d3] => { results := [.lit (.bool true)], args := [d1, d2, d3] }
  | _ => none }
def fnExactRoughHillRow : OpenClaim := { program := "ytgnkpppbhibfoab", sum := "802b1d3043106a2f6a3fe57ec6da57844b31b17dc310ca37d7f01b7227f10bae", func := "loop.example/g01302/laws.FnExactRoughHill", spec := "fnExactRoughHill", inPlace := ["math.Float32bits"], unfollowed := true, recurses := true, apart := false }
def FnExactRoughHillSaid : Prop := fnExactRoughHillRow.holds Try.pinned (OpenSpec.ofChange fnExactRoughHillSpec)

/-- ITS FALSE NEIGHBOUR: 'it returns false'. Refute it at one input. -/
def fnExactRoughHillWrong : ChangeSpec := { name := "fnExactRoughHill", fn := fun _ => fun
  | [d1, d2, d3] => { results := [.lit (.bool false)], args := [d1, d2, d3] }
  | _ => none }
def FnExactRoughHillWrongFalsely : Prop := fnExactRoughHillRow.holds Try.pinned (OpenSpec.ofChange fnExactRoughHillWrong)

/-- 'laws.FnExactDigHill': WHATEVER THE INPUT: true; the input reads as it did. -/
def fnExactDigHillSpec : ChangeSpec := { name := "fnExactDigHill", fn := fun _ => fun
  | [d1, d2, d3] => { results := [.lit (.bool true)], args := [d1, d2, d3] }
  | _ => none }
def fnExactDigHillRow : OpenClaim := { program := "ytgnkpppbhibfoab", sum := "802b1d3043106a2f6a3fe57ec6da57844b31b17dc310ca37d7f01b7227f10bae", func := "loop.example/g01302/laws.FnExactDigHill", spec := "fnExactDigHill", inPlace := ["math.Float32bits"], unfollowed := true, recurses := true, apart := false }
def FnExactDigHillSaid : Prop := fnExactDigHillRow.holds Try.pinned (OpenSpec.ofChange fnExactDigHillSpec)

/-- ITS FALSE NEIGHBOUR: 'it returns false'. Refute it at one input. -/
def fnExactDigHillWrong : ChangeSpec := { name := "fnExactDigHill", fn := fun _ => fun
  | [d1, d2, d3] => { results := [.lit (.bool false)], args := [d1, d2, d3] }
  | _ => none }
def FnExactDigHillWrongFalsely : Prop := fnExactDigHillRow.holds Try.pinned (OpenSpec.ofChange fnExactDigHillWrong)

/-- 'laws.FnExactTiltAt': WHATEVER THE INPUT: true; the input reads as it did. -/
def fnExactTiltAtSpec : ChangeSpec := { name := "fnExactTiltAt", fn := fun _ => fun
  | [d1, d2] => { results := [.lit (.bool true)], args := [d1, d2] }
  | _ => none }
def fnExactTiltAtRow : OpenClaim := { program := "ytgnkpppbhibfoab", sum := "802b1d3043106a2f6a3fe57ec6da57844b31b17dc310ca37d7f01b7227f10bae", func := "loop.example/g01302/laws.FnExactTiltAt", spec := "fnExactTiltAt", inPlace := ["math.Float32bits"], unfollowed := true, recurses := true, apart := false }
def FnExactTiltAtSaid : Prop := fnExactTiltAtRow.holds Try.pinned (OpenSpec.ofChange fnExactTiltAtSpec)

/-- ITS FALSE NEIGHBOUR: 'it returns false'. Refute it at one input. -/
def fnExactTiltAtWrong : ChangeSpec := { name := "fnExactTiltAt", fn := fun _ => fun
  | [d1, d2] => { results := [.lit (.bool false)], args := [d1, d2] }
  | _ => none }
def FnExactTiltAtWrongFalsely : Prop := fnExactTiltAtRow.holds Try.pinned (OpenSpec.ofChange fnExactTiltAtWrong)

/-- 'laws.FnExactSeesOver': WHATEVER THE INPUT: true; the input reads as it did. -/
def fnExactSeesOverSpec : ChangeSpec := { name := "fnExactSeesOver", fn := fun _ => fun
  | [d1, d2, d3, d4] => { results := [.lit (.bool true)], args := [d1, d2, d3, d4] }
  | _ => none }
def fnExactSeesOverRow : OpenClaim := { program := "ytgnkpppbhibfoab", sum := "802b1d3043106a2f6a3fe57ec6da57844b31b17dc310ca37d7f01b7227f10bae", func := "loop.example/g01302/laws.FnExactSeesOver", spec := "fnExactSeesOver", inPlace := ["math.Float32bits"], unfollowed := true, recurses := true, apart := false }
def FnExactSeesOverSaid : Prop := fnExactSeesOverRow.holds Try.pinned (OpenSpec.ofChange fnExactSeesOverSpec)

/-- ITS FALSE NEIGHBOUR: 'it returns false'. Refute it at one input. -/
def fnExactSeesOverWrong : ChangeSpec := { name := "fnExactSeesOver", fn := fun _ => fun
  | [d1, d2, d3, d4] => { results := [.lit (.bool false)], args := [d1, d2, d3, d4] }
  | _ => none }
def FnExactSeesOverWrongFalsely : Prop := fnExactSeesOverRow.holds Try.pinned (OpenSpec.ofChange fnExactSeesOverWrong)

/-- 'laws.FnExactShadeOf': WHATEVER THE INPUT: true; the input reads as it did. -/
def fnExactShadeOfSpec : ChangeSpec := { name := "fnExactShadeOf", fn := fun _ => fun
  | [d1, d2, d3] => { results := [.lit (.bool true)], args := [d1, d2, d3] }
  | _ => none }
def fnExactShadeOfRow : OpenClaim := { program := "ytgnkpppbhibfoab", sum := "802b1d3043106a2f6a3fe57ec6da57844b31b17dc310ca37d7f01b7227f10bae", func := "loop.example/g01302/laws.FnExactShadeOf", spec := "fnExactShadeOf", inPlace := ["math.Float32frombits", "math.Float64frombits", "math.sqrt", "math.Float32bits", "math.Float64bits"], unfollowed := true, recurses := true, apart := false }
def FnExactShadeOfSaid : Prop := fnExactShadeOfRow.holds Try.pinned (OpenSpec.ofChange fnExactShadeOfSpec)

/-- ITS FALSE NEIGHBOUR: 'it returns false'. Refute it at one input. -/
def fnExactShadeOfWrong : ChangeSpec := { name := "fnExactShadeOf", fn := fun _ => fun
  | [d1, d2, d3] => { results := [.lit (.bool false)], args := [d1, d2, d3] }
  | _ => none }
def FnExactShadeOfWrongFalsely : Prop := fnExactShadeOfRow.holds Try.pinned (OpenSpec.ofChange fnExactShadeOfWrong)

/-- 'laws.FnExactValidHill': WHATEVER THE INPUT: true; the input reads as it did. -/
def fnExactValidHillSpec : ChangeSpec := { name := "fnExactValidHill", fn := fun _ => fun
  | [d] => { results := [.lit (.bool true)], args := [d] }
  | _ => none }
def fnExactValidHillRow : OpenClaim := { program := "ytgnkpppbhibfoab", sum := "802b1d3043106a2f6a3fe57ec6da57844b31b17dc310ca37d7f01b7227f10bae", func := "loop.example/g01302/laws.FnExactValidHill", spec := "fnExactValidHill", inPlace := ["math.Float32bits"], unfollowed := true, recurses := true, apart := false }
def FnExactValidHillSaid : Prop := fnExactValidHillRow.holds Try.pinned (OpenSpec.ofChange fnExactValidHillSpec)

/-- ITS FALSE NEIGHBOUR: 'it returns false'. Refute it at one input. -/
def fnExactValidHillWrong : ChangeSpec := { name := "fnExactValidHill", fn := fun _ => fun
  | [d] => { results := [.lit (.bool false)], args := [d] }
  | _ => none }
def FnExactValidHillWrongFalsely : Prop := fnExactValidHillRow.holds Try.pinned (OpenSpec.ofChange fnExactValidHillWrong)

/-- 'laws.FnExactSameHill': WHATEVER THE INPUT: true; the input reads as it did. -/
def fnExactSameHillSpec : ChangeSpec := { name := "fnExactSameHill", fn := fun _ => fun
  | [d1, d2] => { results := [.lit (.bool true)], args := [d1, d2] }
  | _ => none }
def fnExactSameHillRow : OpenClaim := { program := "ytgnkpppbhibfoab", sum := "802b1d3043106a2f6a3fe57ec6da57844b31b17dc310ca37d7f01b7227f10bae", func := "loop.example/g01302/laws.FnExactSameHill", spec := "fnExactSameHill", inPlace := ["math.Float32bits"], unfollowed := true, recurses := true, apart := false }
def FnExactSameHillSaid : Prop := fnExactSameHillRow.holds Try.pinned (OpenSpec.ofChange fnExactSameHillSpec)

/-- ITS FALSE NEIGHBOUR: 'it returns false'. Refute it at one input. -/
def fnExactSameHillWrong : ChangeSpec := { name := "fnExactSameHill", fn := fun _ => fun
  | [d1, d2] => { results := [.lit (.bool false)], args := [d1, d2] }
  | _ => none }
def FnExactSameHillWrongFalsely : Prop := fnExactSameHillRow.holds Try.pinned (OpenSpec.ofChange fnExactSameHillWrong)

/-- 'laws.FnExactScaleHill': WHATEVER THE INPUT: true; the input reads as it did. -/
def fnExactScaleHillSpec : ChangeSpec := { name := "fnExactScaleHill", fn := fun _ => fun
  | [d1, d2] => { results := [.lit (.bool true)], args := [d1, d2] }
  | _ => none }
def fnExactScaleHillRow : OpenClaim := { program := "ytgnkpppbhibfoab", sum := "802b1d3043106a2f6a3fe57ec6da57844b31b17dc310ca37d7f01b7227f10bae", func := "loop.example/g01302/laws.FnExactScaleHill", spec := "fnExactScaleHill", inPlace := ["math.Float32bits"], unfollowed := true, recurses := true, apart := false }
def FnExactScaleHillSaid : Prop := fnExactScaleHillRow.holds Try.pinned (OpenSpec.ofChange fnExactScaleHillSpec)

/-- ITS FALSE NEIGHBOUR: 'it returns false'. Refute it at one input. -/
def fnExactScaleHillWrong : ChangeSpec := { name := "fnExactScaleHill", fn := fun _ => fun
  | [d1, d2] => { results := [.lit (.bool false)], args := [d1, d2] }
  | _ => none }
def FnExactScaleHillWrongFalsely : Prop := fnExactScaleHillRow.holds Try.pinned (OpenSpec.ofChange fnExactScaleHillWrong)

/-- 'laws.FnExactSameStorms': WHATEVER THE INPUT: true; the input reads as it did. -/
def fnExactSameStormsSpec : ChangeSpec := { name := "fnExactSameStorms", fn := fun _ => fun
  | [d1, d2] => { results := [.lit (.bool true)], args := [d1, d2] }
  | _ => none }
def fnExactSameStormsRow : OpenClaim := { program := "ytgnkpppbhibfoab", sum := "802b1d3043106a2f6a3fe57ec6da57844b31b17dc310ca37d7f01b7227f10bae", func := "loop.example/g01302/laws.FnExactSameStorms", spec := "fnExactSameStorms", inPlace := ["math.Float32bits"], unfollowed := true, recurses := true, apart := false }
def FnExactSameStormsSaid : Prop := fnExactSameStormsRow.holds Try.pinned (OpenSpec.ofChange fnExactSameStormsSpec)

/-- ITS FALSE NEIGHBOUR: 'it returns false'. Refute it at one input. -/
def fnExactSameStormsWrong : ChangeSpec := { name := "fnExactSameStorms", fn := fun _ => fun
  | [d1, d2] => { results := [.lit (.bool false)], args := [d1, d2] }
  | _ => none }
def FnExactSameStormsWrongFalsely : Prop := fnExactSameStormsRow.holds Try.pinned (OpenSpec.ofChange fnExactSameStormsWrong)

/-- 'laws.FnExactStormsOf': WHATEVER THE INPUT: true; the input reads as it did. -/
def fnExactStormsOfSpec : ChangeSpec := { name := "fnExactStormsOf", fn := fun _ => fun
  | [d1, d2, d3, d4] => { results := [.lit (.bool true)], args := [d1, d2, d3, d4] }
  | _ => none }
def fnExactStormsOfRow : OpenClaim := { program := "ytgnkpppbhibfoab", sum := "802b1d3043106a2f6a3fe57ec6da57844b31b17dc310ca37d7f01b7227f10bae", func := "loop.example/g01302/laws.FnExactStormsOf", spec := "fnExactStormsOf", inPlace := ["math.Float32bits"], unfollowed := true, recurses := true, apart := false }
def FnExactStormsOfSaid : Prop := fnExactStormsOfRow.holds Try.pinned (OpenSpec.ofChange fnExactStormsOfSpec)

/-- ITS FALSE NEIGHBOUR: 'it returns false'. Refute it at one input. -/
def fnExactStormsOfWrong : ChangeSpec := { name := "fnExactStormsOf", fn := fun _ => fun
  | [d1, d2, d3, d4] => { results := [.lit (.bool false)], args := [d1, d2, d3, d4] }
  | _ => none }
def FnExactStormsOfWrongFalsely : Prop := fnExactStormsOfRow.holds Try.pinned (OpenSpec.ofChange fnExactStormsOfWrong)

/- THE SECOND FORM. 'bulk': how many values and letters a reading holds, each counted each time it is reached (what is shared counts as often as it is met; a slice's spare places count too). A statement '..UptoSaid' is the law's where the arguments, and the package variables that the reading takes, are together of bulk at most 1048576: NARROWER than '..Said'. Prove '..Said' where nothing that the law and all that it calls make is longer than what came in: it says more and counts as full. Else prove '..UptoSaid'. A law counts once. -/
mutual
def uptoBulk {H : Type} : DataW H → Nat
  | .lit (.string bytes) => bytes.length + 1
  | .lit _ => 1
  | .nil => 1
  | .ptr d => uptoBulk d + 1
  | .slice elems spare => uptoBulkAll elems + uptoBulkAll spare + 1
  | .agg parts => uptoBulkAll parts + 1
  | .iface _ d => uptoBulk d + 1
  | .map entries => uptoBulkEntries entries + 1
  | .held _ => 1
def uptoBulkAll {H : Type} : List (DataW H) → Nat
  | [] => 0
  | d :: r => uptoBulk d + uptoBulkAll r
def uptoBulkEntries {H : Type} : List (Lit × DataW H) → Nat
  | [] => 0
  | x :: r => uptoBulkEntry x + uptoBulkEntries r
def uptoBulkEntry {H : Type} : Lit × DataW H → Nat
  | (.string bytes, d) => bytes.length + uptoBulk d + 1
  | (_, d) => uptoBulk d + 1
 end
def uptoSmall : (H : Type) → List (DataW H) → Bool := fun _ ds => decide (uptoBulkAll ds ≤ 1048576)
def OpenSpec.upto (s : _root_.Go.ChangeSpec) : _root_.Go.OpenSpec := { _root_.Go.OpenSpec.ofChange s with cond := some uptoSmall }

/-- 'laws.FnExactSlopeHill', WHERE WHAT IT READS IS OF BULK AT MOST 1048576: true; the input reads as it did. -/
def fnExactSlopeHillUptoRow : OpenClaim := { program := "ytgnkpppbhibfoab", sum := "802b1d3043106a2f6a3fe57ec6da57844b31b17dc310ca37d7f01b7227f10bae", func := "loop.example/g01302/laws.FnExactSlopeHill", spec := "fnExactSlopeHill", inPlace := ["math.Float32bits"], unfollowed := true, recurses := true, apart := false, narrowed := true }
def FnExactSlopeHillUptoSaid : Prop := fnExactSlopeHillUptoRow.holds Try.pinned (OpenSpec.upto fnExactSlopeHillSpec)

/-- 'laws.FnExactConeHill', WHERE WHAT IT READS IS OF BULK AT MOST 1048576: true; the input reads as it did. -/
def fnExactConeHillUptoRow : OpenClaim := { program := "ytgnkpppbhibfoab", sum := "802b1d3043106a2f6a3fe57ec6da57844b31b17dc310ca37d7f01b7227f10bae", func := "loop.example/g01302/laws.FnExactConeHill", spec := "fnExactConeHill", inPlace := ["math.sqrt", "math.Float32bits"], unfollowed := true, recurses := true, apart := false, narrowed := true }
def FnExactConeHillUptoSaid : Prop := fnExactConeHillUptoRow.holds Try.pinned (OpenSpec.upto fnExactConeHillSpec)

/-- 'laws.FnExactRoughHill', WHERE WHAT IT READS IS OF BULK AT MOST 1048576: true; the input reads as it did. -/
def fnExactRoughHillUptoRow : OpenClaim := { program := "ytgnkpppbhibfoab", sum := "802b1d3043106a2f6a3fe57ec6da57844b31b17dc310ca37d7f01b7227f10bae", func := "loop.example/g01302/laws.FnExactRoughHill", spec := "fnExactRoughHill", inPlace := ["math.Float32bits"], unfollowed := true, recurses := true, apart := false, narrowed := true }
def FnExactRoughHillUptoSaid : Prop := fnExactRoughHillUptoRow.holds Try.pinned (OpenSpec.upto fnExactRoughHillSpec)

/-- 'laws.FnExactDigHill', WHERE WHAT IT READS IS OF BULK AT MOST 1048576: true; the input reads as it did. -/
def fnExactDigHillUptoRow : OpenClaim := { program := "ytgnkpppbhibfoab", sum := "802b1d3043106a2f6a3fe57ec6da57844b31b17dc310ca37d7f01b7227f10bae", func := "loop.example/g01302/laws.FnExactDigHill", spec := "fnExactDigHill", inPlace := ["math.Float32bits"], unfollowed := true, recurses := true, apart := false, narrowed := true }
def FnExactDigHillUptoSaid : Prop := fnExactDigHillUptoRow.holds Try.pinned (OpenSpec.upto fnExactDigHillSpec)

/-- 'laws.FnExactTiltAt', WHERE WHAT IT READS IS OF BULK AT MOST 1048576: true; the input reads as it did. -/
def fnExactTiltAtUptoRow : OpenClaim := { program := "ytgnkpppbhibfoab", sum := "802b1d3043106a2f6a3fe57ec6da57844b31b17dc310ca37d7f01b7227f10bae", func := "loop.example/g01302/laws.FnExactTiltAt", spec := "fnExactTiltAt", inPlace := ["math.Float32bits"], unfollowed := true, recurses := true, apart := false, narrowed := true }
def FnExactTiltAtUptoSaid : Prop := fnExactTiltAtUptoRow.holds Try.pinned (OpenSpec.upto fnExactTiltAtSpec)

/-- 'laws.FnExactSeesOver', WHERE WHAT IT READS IS OF BULK AT MOST 1048576: true; the input reads as it did. -/
def fnExactSeesOverUptoRow : OpenClaim := { program := "ytgnkpppbhibfoab", sum := "802b1d3043106a2f6a3fe57ec6da57844b31b17dc310ca37d7f01b7227f10bae", func := "loop.example/g01302/laws.FnExactSeesOver", spec := "fnExactSeesOver", inPlace := ["math.Float32bits"], unfollowed := true, recurses := true, apart := false, narrowed := true }
def FnExactSeesOverUptoSaid : Prop := fnExactSeesOverUptoRow.holds Try.pinned (OpenSpec.upto fnExactSeesOverSpec)

/-- 'laws.FnExactShadeOf', WHERE WHAT IT READS IS OF BULK AT MOST 1048576: true; the input reads as it did. -/
def fnExactShadeOfUptoRow : OpenClaim := { program := "ytgnkpppbhibfoab", sum := "802b1d3043106a2f6a3fe57ec6da57844b31b17dc310ca37d7f01b7227f10bae", func := "loop.example/g01302/laws.FnExactShadeOf", spec := "fnExactShadeOf", inPlace := ["math.Float32frombits", "math.Float64frombits", "math.sqrt", "math.Float32bits", "math.Float64bits"], unfollowed := true, recurses := true, apart := false, narrowed := true }
def FnExactShadeOfUptoSaid : Prop := fnExactShadeOfUptoRow.holds Try.pinned (OpenSpec.upto fnExactShadeOfSpec)

/-- 'laws.FnExactValidHill', WHERE WHAT IT READS IS OF BULK AT MOST 1048576: true; the input reads as it did. -/
def fnExactValidHillUptoRow : OpenClaim := { program := "ytgnkpppbhibfoab", sum := "802b1d3043106a2f6a3fe57ec6da57844b31b17dc310ca37d7f01b7227f10bae", func := "loop.example/g01302/laws.FnExactValidHill", spec := "fnExactValidHill", inPlace := ["math.Float32bits"], unfollowed := true, recurses := true, apart := false, narrowed := true }
def FnExactValidHillUptoSaid : Prop := fnExactValidHillUptoRow.holds Try.pinned (OpenSpec.upto fnExactValidHillSpec)

/-- 'laws.FnExactSameHill', WHERE WHAT IT READS IS OF BULK AT MOST 1048576: true; the input reads as it did. -/
def fnExactSameHillUptoRow : OpenClaim := { program := "ytgnkpppbhibfoab", sum := "802b1d3043106a2f6a3fe57ec6da57844b31b17dc310ca37d7f01b7227f10bae", func := "loop.example/g01302/laws.FnExactSameHill", spec := "fnExactSameHill", inPlace := ["math.Float32bits"], unfollowed := true, recurses := true, apart := false, narrowed := true }
def FnExactSameHillUptoSaid : Prop := fnExactSameHillUptoRow.holds Try.pinned (OpenSpec.upto fnExactSameHillSpec)

/-- 'laws.FnExactScaleHill', WHERE WHAT IT READS IS OF BULK AT MOST 1048576: true; the input reads as it did. -/
def fnExactScaleHillUptoRow : OpenClaim := { program := "ytgnkpppbhibfoab", sum := "802b1d3043106a2f6a3fe57ec6da57844b31b17dc310ca37d7f01b7227f10bae", func := "loop.example/g01302/laws.FnExactScaleHill", spec := "fnExactScaleHill", inPlace := ["math.Float32bits"], unfollowed := true, recurses := true, apart := false, narrowed := true }
def FnExactScaleHillUptoSaid : Prop := fnExactScaleHillUptoRow.holds Try.pinned (OpenSpec.upto fnExactScaleHillSpec)

/-- 'laws.FnExactSameStorms', WHERE WHAT IT READS IS OF BULK AT MOST 1048576: true; the input reads as it did. -/
def fnExactSameStormsUptoRow : OpenClaim := { program := "ytgnkpppbhibfoab", sum := "802b1d3043106a2f6a3fe57ec6da57844b31b17dc310ca37d7f01b7227f10bae", func := "loop.example/g01302/laws.FnExactSameStorms", spec := "fnExactSameStorms", inPlace := ["math.Float32bits"], unfollowed := true, recurses := true, apart := false, narrowed := true }
def FnExactSameStormsUptoSaid : Prop := fnExactSameStormsUptoRow.holds Try.pinned (OpenSpec.upto fnExactSameStormsSpec)

/-- 'laws.FnExactStormsOf', WHERE WHAT IT READS IS OF BULK AT MOST 1048576: true; the input reads as it did. -/
def fnExactStormsOfUptoRow : OpenClaim := { program := "ytgnkpppbhibfoab", sum := "802b1d3043106a2f6a3fe57ec6da57844b31b17dc310ca37d7f01b7227f10bae", func := "loop.example/g01302/laws.FnExactStormsOf", spec := "fnExactStormsOf", inPlace := ["math.Float32bits"], unfollowed := true, recurses := true, apart := false, narrowed := true }
def FnExactStormsOfUptoSaid : Prop := fnExactStormsOfUptoRow.holds Try.pinned (OpenSpec.upto fnExactStormsOfSpec)

end Rows
end Go.Proofs.Ytgnkpppbhibfoab
