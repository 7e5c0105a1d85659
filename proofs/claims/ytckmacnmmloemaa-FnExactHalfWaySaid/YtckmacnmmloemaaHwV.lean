/- When half of all inflows have come: values. -/
import Derived.Test.YtckmacnmmloemaaDysS
namespace Go.Proofs.Ytckmacnmmloemaa
open Go.RowKit
set_option linter.unusedVariables false
set_option linter.unusedSimpArgs false
set_option maxRecDepth 100000
attribute [local irreducible] wpV wpList Code.wp

/-- What has come to node i in the first k days. -/
def colS (Zs : List (List Int)) (i : Nat) : Nat → Int
  | 0 => 0
  | k + 1 => colS Zs i k + (zr Zs k).getD i 0
/-- The first place below n of which p holds, or -1. -/
def fstB (p : Nat → Bool) : Nat → Int
  | 0 => -1
  | k + 1 => if 0 ≤ fstB p k then fstB p k else if p k then (k : Int) else -1
theorem fstB_ge (p : Nat → Bool) : ∀ k, -1 ≤ fstB p k ∧ fstB p k < (k : Int)
  | 0 => by unfold fstB; omega
  | k + 1 => by
    have h := fstB_ge p k
    unfold fstB
    split
    · omega
    · split <;> omega
theorem fstB_hit {p : Nat → Bool} {k : Nat} (h : fstB p k < 0) (hp : p k = true) : ∀ n, k < n → fstB p n = (k : Int)
  | 0, hn => by omega
  | n + 1, hn => by
    unfold fstB
    by_cases e : n = k
    · subst e; rw [if_neg (by omega), if_pos hp]
    · have h1 := fstB_hit h hp n (by omega)
      rw [h1, if_pos (by omega)]
theorem fstB_miss {p : Nat → Bool} {k : Nat} (h : fstB p k < 0) (hp : p k = false) : fstB p (k + 1) = -1 := by
  unfold fstB
  rw [if_neg (by omega), if_neg (by rw [hp]; decide)]
def halfP (Zs : List (List Int)) (i k : Nat) : Bool := decide (colS Zs i Zs.length ≤ 2 * colS Zs i (k + 1))
def halfV (Zs : List (List Int)) (i : Nat) : Int := fstB (halfP Zs i) Zs.length
def halfR (Zs : List (List Int)) : List Int × Bool := if decide (1 ≤ Zs.length) && decide (Zs.length ≤ 64) && decide (1 ≤ (zr Zs 0).length) && decide ((zr Zs 0).length ≤ 12) && daysB Zs (zr Zs 0).length then ((List.range (zr Zs 0).length).map (halfV Zs), true) else ([], false)
theorem halfR_len (Zs : List (List Int)) : (halfR Zs).1.length ≤ 1048576 := by
  unfold halfR
  split
  · rename_i h
    simp only [Bool.and_eq_true, decide_eq_true_eq] at h
    simp only [List.length_map, List.length_range]; omega
  · exact Nat.zero_le _
theorem colS_range {Zs : List (List Int)} {n i : Nat} (h : daysB Zs n = true) (hi : i < n) : ∀ k, k ≤ Zs.length → 0 ≤ colS Zs i k ∧ colS Zs i k ≤ 1000000000 * (k : Int)
  | 0, _ => by unfold colS; omega
  | k + 1, hk => by
    have h1 := colS_range h hi k (by omega)
    have h2 := (daysB_at h (show k < Zs.length by omega)).2 i hi
    show 0 ≤ colS Zs i k + (zr Zs k).getD i 0 ∧ colS Zs i k + (zr Zs k).getD i 0 ≤ _
    omega
theorem colS_mono {Zs : List (List Int)} {n i : Nat} (h : daysB Zs n = true) (hi : i < n) {k : Nat} (hk : k ≤ Zs.length) : colS Zs i k ≤ colS Zs i Zs.length := by
  have hs : ∀ m, k ≤ m → m ≤ Zs.length → colS Zs i k ≤ colS Zs i m := by
    intro m
    induction m with
    | zero => intro h1 _; have : k = 0 := by omega
              subst this; exact Int.le_refl _
    | succ m ih =>
      intro h1 h2
      by_cases e : k ≤ m
      · have h3 := ih e (by omega)
        have h4 := (daysB_at h (show m < Zs.length by omega)).2 i hi
        show colS Zs i k ≤ colS Zs i m + (zr Zs m).getD i 0
        omega
      · have : k = m + 1 := by omega
        subst this; exact Int.le_refl _
  exact hs _ hk (Nat.le_refl _)
/-- The program's row: the first i are told. -/
def someH (Zs : List (List Int)) (n i : Nat) : List Int := (List.range n).map fun j => if j < i then halfV Zs j else 0
theorem someH_length (Zs : List (List Int)) (n i : Nat) : (someH Zs n i).length = n := by simp [someH]
theorem someH_zero (Zs : List (List Int)) (n : Nat) : someH Zs n 0 = List.replicate n 0 := by
  unfold someH
  apply List.ext_getElem?
  intro j
  by_cases h : j < n
  · rw [List.getElem?_map, List.getElem?_range h, List.getElem?_replicate, if_pos h]; simp
  · rw [List.getElem?_eq_none (by simp; omega), List.getElem?_eq_none (by simp; omega)]
theorem someH_all (Zs : List (List Int)) (n : Nat) : someH Zs n n = (List.range n).map (halfV Zs) := by
  unfold someH
  refine List.map_congr_left fun j hj => ?_
  rw [if_pos (List.mem_range.1 hj)]
theorem someH_set {Zs : List (List Int)} {n i : Nat} (h : i < n) : (someH Zs n i).set i (halfV Zs i) = someH Zs n (i + 1) := by
  apply List.ext_getElem?
  intro j
  by_cases hj : j < n
  · by_cases e : j = i
    · subst e
      rw [List.getElem?_set_self (by rw [someH_length]; exact h)]
      unfold someH
      rw [List.getElem?_map, List.getElem?_range hj]
      simp
    · rw [List.getElem?_set_ne (fun e2 => e e2.symm)]
      unfold someH
      rw [List.getElem?_map, List.getElem?_map, List.getElem?_range hj]
      simp only [Option.map_some, Option.some.injEq]
      by_cases h2 : j < i
      · rw [if_pos h2, if_pos (by omega)]
      · rw [if_neg h2, if_neg (by omega)]
  · rw [List.getElem?_eq_none (by rw [List.length_set, someH_length]; omega), List.getElem?_eq_none (by rw [someH_length]; omega)]
end Go.Proofs.Ytckmacnmmloemaa
