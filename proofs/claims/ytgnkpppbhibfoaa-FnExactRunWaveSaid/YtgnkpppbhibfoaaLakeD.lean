/- Lakes: when one is valid, what flows out: plain facts. -/
import Derived.Test.YtgnkpppbhibfoaaRainA
import Derived.Test.YtgnkpppbhibfoaaIsRain
import Derived.Test.YtgnkpppbhibfoaaIs32
import Derived.Test.YtgnkpppbhibfoaaSwap
namespace Go.Proofs.Ytgnkpppbhibfoaa
open Go.RowKit
set_option linter.unusedVariables false
set_option linter.unusedSimpArgs false
set_option maxRecDepth 100000
attribute [local irreducible] wpV wpList Code.wp

def upB (S O : List Nat) (i : Nat) : Bool := !fcmp .leq .f32 (some (S.getD (i + 1) 0)) (some (S.getD i 0)) && !fcmp .lss .f32 (some (O.getD (i + 1) 0)) (some (O.getD i 0))
def upO (S O : List Nat) (k : Nat) : Bool := (List.range k).all (upB S O)
def lakeB (S O : List Nat) : Bool := decide (2 ≤ S.length) && decide (S.length ≤ 16) && decide (O.length = S.length) && S.all amtB && O.all amtB && upO S O (S.length - 1)
theorem upO_succ {S O : List Nat} {k : Nat} (h : upO S O k = true) (h2 : upB S O k = true) : upO S O (k + 1) = true := by unfold upO at *; rw [List.range_succ, List.all_append, h]; simp [h2]
theorem upO_no {S O : List Nat} {k n : Nat} (hk : k < n) (h2 : upB S O k = false) : upO S O n = false := by
  unfold upO
  rw [Bool.eq_false_iff]
  intro h
  have := List.all_eq_true.1 h k (List.mem_range.2 hk)
  rw [h2] at this; cases this
def seek (S : List Nat) (X : Option Nat) : Nat → Nat → Nat
  | 0, i => i
  | f + 1, i => if fcmp .lss .f32 (some (S.getD i 0)) X then seek S X f (i + 1) else i
def seekO (S : List Nat) (X : Option Nat) : Nat := seek S X S.length 1
def partU (S : List Nat) (X : Option Nat) (i : Nat) : Option Nat := fop .quo .f32 (fop .sub .f32 X (some (S.getD (i - 1) 0))) (fop .sub .f32 (some (S.getD i 0)) (some (S.getD (i - 1) 0)))
def outU (S O : List Nat) (X : Option Nat) (i : Nat) : Option Nat := fop .add .f32 (some (O.getD (i - 1) 0)) (fop .mul .f32 (partU S X i) (fop .sub .f32 (some (O.getD i 0)) (some (O.getD (i - 1) 0))))
def lakeU (S O : List Nat) (X : Option Nat) : Option Nat :=
  if fcmp .leq .f32 X (some (S.getD 0 0)) then some (O.getD 0 0) else if fcmp .geq .f32 X (some (S.getD (S.length - 1) 0)) then some (O.getD (S.length - 1) 0) else outU S O X (seekO S X)
def lakeOutO (S O : List Nat) (X : Option Nat) : Option Nat × Bool := if lakeB S O && fin32o X then onlyO (lakeU S O X) else (some 0, false)
theorem getD_lt {X : List Nat} (hz : ∀ z ∈ X, z < 4294967296) (k : Nat) : X.getD k 0 < 4294967296 := by
  rcases Nat.lt_or_ge k X.length with h | h
  · rw [List.getD_eq_getElem?_getD, List.getElem?_eq_getElem h]; exact hz _ (List.getElem_mem h)
  · rw [List.getD_eq_getElem?_getD, List.getElem?_eq_none h]; decide
theorem rows_at {w : World} {a : Option Addr} {X : List Nat} (h : RowF .f32 w a X) (h0 : 0 < X.length) : ∃ b off, a = some ⟨b, off, none⟩ ∧ b < w.heap.size ∧ ∀ i, i < X.length → w.cell? ⟨b, off + i, none⟩ = some (.float .f32 (X.getD i 0)) := by
  rcases h with rfl | ⟨b, off, h1, hb, hc⟩
  · simp at h0
  · exact ⟨b, off, h1, hb, hc⟩
theorem geq_lss {X Y : Option Nat} (h : fcmp .geq .f32 X Y = false) : fcmp .lss .f32 Y X = false := by
  cases X with
  | none => cases Y <;> rfl
  | some x =>
    cases Y with
    | none => rfl
    | some y =>
      have h1 := order_swap x y
      show (FloatKind.f32.format.order y x == some .lt) = false
      rw [← h1]
      have h2 : (FloatKind.f32.format.order x y == some .gt || FloatKind.f32.format.order x y == some .eq) = false := h
      rw [Bool.or_eq_false_iff] at h2
      exact h2.1
theorem fin_getD {O : List Nat} (h : O.all amtB = true) {i : Nat} (hi : i < O.length) : fin32o (some (O.getD i 0)) = true := by
  have h9 := List.all_eq_true.1 h O[i] (List.getElem_mem hi)
  rw [List.getD_eq_getElem?_getD, List.getElem?_eq_getElem hi]
  have : amtO (some O[i]) = true := h9
  unfold amtO at this
  rw [Bool.and_eq_true] at this
  exact this.2
theorem onlyO_fin {X : Option Nat} (h : fin32o X = true) : onlyO X = (X, true) := by unfold onlyO; rw [h]; rfl

end Go.Proofs.Ytgnkpppbhibfoaa
