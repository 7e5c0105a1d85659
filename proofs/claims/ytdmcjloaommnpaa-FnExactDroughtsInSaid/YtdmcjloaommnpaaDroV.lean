/- Droughts: runs of numbers below a level: the program and its model alike. -/
import Derived.Test.YtdmcjloaommnpaaGau
import Derived.Test.YtdmcjloaommnpaaMaxO
import Derived.Lib.MinMax
namespace Go.Proofs.Ytdmcjloaommnpaa
open Go.RowKit Go.Proofs
set_option linter.unusedVariables false
set_option linter.unusedSimpArgs false

theorem order_both {x y : Nat} (hx : FloatKind.f32.format.order x x ≠ none) (hy : FloatKind.f32.format.order y y ≠ none) : FloatKind.f32.format.order x y ≠ none := by
  have h1 : FloatKind.f32.format.order x x = (FloatKind.f32.decode x).order (FloatKind.f32.decode x) := rfl
  have h2 : FloatKind.f32.format.order y y = (FloatKind.f32.decode y).order (FloatKind.f32.decode y) := rfl
  have h3 : FloatKind.f32.format.order x y = (FloatKind.f32.decode x).order (FloatKind.f32.decode y) := rfl
  rw [h1] at hx; rw [h2] at hy; rw [h3]
  revert hx hy
  generalize FloatKind.f32.decode x = a
  generalize FloatKind.f32.decode y = b
  intro hx hy
  cases a <;> cases b <;> simp_all [Ieee.Datum.order]
theorem amt_self {x : Nat} (h : amtO (some x) = true) : FloatKind.f32.format.order x x ≠ none := by
  intro hn
  have : FloatKind.f32.format.order x 0 = none := by
    have h1 : FloatKind.f32.format.order x x = (FloatKind.f32.decode x).order (FloatKind.f32.decode x) := rfl
    have h3 : FloatKind.f32.format.order x 0 = (FloatKind.f32.decode x).order (FloatKind.f32.decode 0) := rfl
    rw [h1] at hn; rw [h3]
    revert hn
    generalize FloatKind.f32.decode x = a
    generalize FloatKind.f32.decode 0 = b
    intro hn
    cases a <;> cases b <;> simp_all [Ieee.Datum.order]
  unfold amtO at h
  rw [Bool.and_eq_true] at h
  have h1 : (FloatKind.f32.format.order x 0 == some .gt || FloatKind.f32.format.order x 0 == some .eq) = true := h.1
  rw [this] at h1
  exact absurd h1 (by decide)
theorem geq_not_lss {x : Nat} {L : Option Nat} (hx : amtO (some x) = true) (hL : fcmp .neq .f32 L L = false) : fcmp .geq .f32 (some x) L = !fcmp .lss .f32 (some x) L := by
  cases L with
  | none => exact absurd hL (by decide)
  | some b =>
    have hb : FloatKind.f32.format.order b b ≠ none := by
      intro hn
      have h1 : (FloatKind.f32.format.order b b != some .eq) = false := hL
      rw [hn] at h1
      exact absurd h1 (by decide)
    have h := order_both (amt_self hx) hb
    show (FloatKind.f32.format.order x b == some .gt || FloatKind.f32.format.order x b == some .eq) = !(FloatKind.f32.format.order x b == some .lt)
    cases ho : FloatKind.f32.format.order x b with
    | none => exact absurd ho h
    | some o => cases o <;> rfl

/-- How many droughts there have been, how long the last one is and the longest one, its sum and the worst one. -/
structure DroSt where
  runs : Int
  now : Int
  most : Int
  sum : Option Nat
  worst : Option Nat
def droStep (lt : Bool) (d : Option Nat) (s : DroSt) : DroSt :=
  if lt then ⟨if s.now = 0 then s.runs + 1 else s.runs, s.now + 1, max s.most (s.now + 1), fop .add .f32 s.sum d, maxO s.worst (fop .add .f32 s.sum d)⟩ else ⟨s.runs, 0, s.most, some 0, s.worst⟩
def droUp (L : Option Nat) (zs : List Nat) : Nat → DroSt
  | 0 => ⟨0, 0, 0, some 0, some 0⟩
  | k + 1 => droStep (fcmp .lss .f32 (some (zs.getD k 0)) L) (fop .sub .f32 L (some (zs.getD k 0))) (droUp L zs k)
theorem droUp_bd (L : Option Nat) (zs : List Nat) : ∀ k, 0 ≤ (droUp L zs k).runs ∧ (droUp L zs k).runs ≤ k ∧ 0 ≤ (droUp L zs k).now ∧ (droUp L zs k).now ≤ k ∧ 0 ≤ (droUp L zs k).most ∧ (droUp L zs k).most ≤ k
  | 0 => by simp [droUp]
  | k + 1 => by
    have := droUp_bd L zs k
    simp only [droUp, droStep]
    generalize droUp L zs k = s at *
    obtain ⟨q1, q2, q3, q4, q5, q6⟩ := this
    split
    · simp only
      refine ⟨?_, ?_, by omega, by omega, by omega, by omega⟩
      · split <;> omega
      · split <;> omega
    · simp only; omega
structure DroR where
  runs : Int
  most : Int
  worst : Option Nat
  ok : Bool
def droO (zs : List Nat) (L : Option Nat) : DroR :=
  if gauB zs && !fcmp .neq .f32 L L then (if fin32o (droUp L zs zs.length).worst then ⟨(droUp L zs zs.length).runs, (droUp L zs zs.length).most, (droUp L zs zs.length).worst, true⟩ else ⟨0, 0, some 0, false⟩) else ⟨0, 0, some 0, false⟩
def DroB (r : DroR) (w : World) (e : Ending) (w' : World) : Prop := ∃ b x, e = .returned (.tuple #[.int .i64 r.runs, .int .i64 r.most, .float .f32 x, .bool b]) ∧ r.ok = b ∧ Is32 r.worst x ∧ Below w.heap.size w w'
theorem droO_bad {zs : List Nat} {L : Option Nat} (h : gauB zs = false) : droO zs L = ⟨0, 0, some 0, false⟩ := by unfold droO; rw [h]; rfl
theorem droO_nan {zs : List Nat} {L : Option Nat} (h : fcmp .neq .f32 L L = true) : droO zs L = ⟨0, 0, some 0, false⟩ := by unfold droO; rw [h, Bool.not_true, Bool.and_false]; rfl
theorem droO_go {zs : List Nat} {L : Option Nat} (h : gauB zs = true) (h2 : fcmp .neq .f32 L L = false) : droO zs L = (if fin32o (droUp L zs zs.length).worst then ⟨(droUp L zs zs.length).runs, (droUp L zs zs.length).most, (droUp L zs zs.length).worst, true⟩ else ⟨0, 0, some 0, false⟩) := by unfold droO; rw [h, h2]; rfl

set_option maxHeartbeats 400000 in
theorem l00Max_q (x y : Int) (w : World) : Calls Try.prog 74 #[.int .i64 x, .int .i64 y] w fun e w' => e = .returned (.int .i64 (max x y)) ∧ w' = w := by
  by_cases h : x > y
  all_goals
    go_enter Try.func74, Try.ntmps74
    go_wp2_with fail
    go_ret
  · exact ⟨by rw [Int.max_eq_left (by omega)]; rfl, rfl⟩
  · exact ⟨by rw [Int.max_eq_right (by omega)]; rfl, rfl⟩
end Go.Proofs.Ytdmcjloaommnpaa
