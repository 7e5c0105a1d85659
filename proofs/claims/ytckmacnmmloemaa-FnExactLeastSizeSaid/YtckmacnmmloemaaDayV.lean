/- A day of a river: values. -/
import Derived.Test.YtckmacnmmloemaaRvQ
import Derived.Test.YtckmacnmmloemaaOrdW
namespace Go.Proofs.Ytckmacnmmloemaa
open Go.RowKit
set_option linter.unusedVariables false
set_option linter.unusedSimpArgs false
set_option maxRecDepth 100000
attribute [local irreducible] wpV wpList Code.wp
abbrev W64 (z : Int) : Int := wrap64 z
/-- What a dam has, gives, lets, holds behind a day, and what leaves it: its Size s, Dead d, Least l, Now q, the want v, what comes c. -/
def dayW (q c : Int) : Int := W64 (c + q)
def dayG (d q v c : Int) : Int := min v (max (W64 (dayW q c - d)) 0)
def dayX (d q v c : Int) : Int := W64 (dayW q c - dayG d q v c)
def dayE (d l q v c : Int) : Int := min l (max (W64 (dayX d q v c - d)) 0)
def dayF (d l q v c : Int) : Int := W64 (dayX d q v c - dayE d l q v c)
def dayN (s d l q v c : Int) : Int := min (dayF d l q v c) s
def dayL (s d l q v c : Int) : Int := W64 (dayX d q v c - dayN s d l q v c)
theorem wrap_eq (z : Int) : ∃ k : Int, W64 z = z + k * 18446744073709551616 := by
  refine ⟨(W64 z - z) / 18446744073709551616, ?_⟩
  have h : W64 z = (z + 9223372036854775808) % 18446744073709551616 - 9223372036854775808 := by show wrap64 z = _; unfold wrap64; omega
  rw [h]; omega
theorem wrap_add (z k : Int) : W64 (z + k * 18446744073709551616) = W64 z := by
  have h : ∀ y : Int, W64 y = (y + 9223372036854775808) % 18446744073709551616 - 9223372036854775808 := fun y => by show wrap64 y = _; unfold wrap64; omega
  rw [h, h]; omega
/-- The program's sum is the model's difference. -/
theorem leaves_eq (x e n : Int) : W64 (W64 (e + W64 (x - e)) - n) = W64 (x - n) := by
  obtain ⟨k, hk⟩ := wrap_eq (x - e)
  obtain ⟨k2, hk2⟩ := wrap_eq (e + (x - e + k * 18446744073709551616))
  rw [hk, hk2, show e + (x - e + k * 18446744073709551616) + k2 * 18446744073709551616 - n = x - n + (k + k2) * 18446744073709551616 by rw [Int.add_mul]; omega, wrap_add]
structure DaySt where
  M : List Int
  C : List Int
  G : List Int
  L : List Int
def dayStep (D V : List Int) (S : DaySt) (i : Nat) : DaySt :=
  let s := S.M.getD (i * 4) 0
  let d := S.M.getD (i * 4 + 1) 0
  let l := S.M.getD (i * 4 + 2) 0
  let q := S.M.getD (i * 4 + 3) 0
  let v := V.getD i 0
  let c := S.C.getD i 0
  { M := S.M.set (i * 4 + 3) (dayN s d l q v c), G := S.G.set i (dayG d q v c), L := S.L.set i (dayL s d l q v c), C := if D.getD i 0 < 0 then S.C else S.C.set (D.getD i 0).toNat (W64 (S.C.getD (D.getD i 0).toNat 0 + dayL s d l q v c)) }
def dayTo (D M V I : List Int) (n : Nat) (O : List Nat) : Nat → DaySt
  | 0 => ⟨M, I, List.replicate n 0, List.replicate n 0⟩
  | k + 1 => dayStep D V (dayTo D M V I n O k) (O.getD k 0)
theorem dayTo_len {D M V I : List Int} {n : Nat} {O : List Nat} (hM : M.length = n * 4) (hI : I.length = n) : ∀ k, (dayTo D M V I n O k).M.length = n * 4 ∧ (dayTo D M V I n O k).C.length = n ∧ (dayTo D M V I n O k).G.length = n ∧ (dayTo D M V I n O k).L.length = n
  | 0 => ⟨hM, hI, List.length_replicate, List.length_replicate⟩
  | k + 1 => by
    obtain ⟨h1, h2, h3, h4⟩ := dayTo_len (D := D) (V := V) (O := O) hM hI k
    show (dayStep D V (dayTo D M V I n O k) (O.getD k 0)).M.length = _ ∧ (dayStep D V (dayTo D M V I n O k) (O.getD k 0)).C.length = _ ∧ (dayStep D V (dayTo D M V I n O k) (O.getD k 0)).G.length = _ ∧ (dayStep D V (dayTo D M V I n O k) (O.getD k 0)).L.length = _
    unfold dayStep
    refine ⟨by simp only [List.length_set]; exact h1, ?_, by simp only [List.length_set]; exact h3, by simp only [List.length_set]; exact h4⟩
    show (if D.getD (O.getD k 0) 0 < 0 then (dayTo D M V I n O k).C else _).length = n
    split
    · exact h2
    · rw [List.length_set]; exact h2
theorem l00Min_any (a b : Int) (w : World) : Calls Try.prog 97 #[.int .i64 a, .int .i64 b] w fun e w' => e = .returned (.int .i64 (min a b)) ∧ w' = w := by
  by_cases h : a < b
  · have hm : min a b = a := by omega
    rw [hm]
    go_enter Try.func97, Try.ntmps97
    go_wp2_with fail
    go_ret
    exact ⟨rfl, rfl⟩
  · have hm : min a b = b := by omega
    rw [hm]
    go_enter Try.func97, Try.ntmps97
    go_wp2_with fail
    go_ret
    exact ⟨rfl, rfl⟩
theorem l00Max_any (a b : Int) (w : World) : Calls Try.prog 98 #[.int .i64 a, .int .i64 b] w fun e w' => e = .returned (.int .i64 (max a b)) ∧ w' = w := by
  by_cases h : b < a
  · have hm : max a b = a := by omega
    rw [hm]
    go_enter Try.func98, Try.ntmps98
    go_wp2_with fail
    go_ret
    exact ⟨rfl, rfl⟩
  · have hm : max a b = b := by omega
    rw [hm]
    go_enter Try.func98, Try.ntmps98
    go_wp2_with fail
    go_ret
    exact ⟨rfl, rfl⟩
end Go.Proofs.Ytckmacnmmloemaa
