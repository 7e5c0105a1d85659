/- A day of a river: what it answers. -/
import Derived.Test.YtckmacnmmloemaaDayI
import Derived.Test.YtckmacnmmloemaaDayD
import Derived.Test.YtckmacnmmloemaaRivH
namespace Go.Proofs.Ytckmacnmmloemaa
open Go.RowKit
set_option linter.unusedVariables false
set_option linter.unusedSimpArgs false
set_option maxRecDepth 100000
attribute [local irreducible] wpV wpList Code.wp

structure DayR where
  n : Nat
  D : List Int
  M : List Int
  V : List Int
  G : List Int
  L : List Int
  ok : Bool
def failD : DayR := ⟨0, [], [], [], [], [], false⟩
def dayR (D M V : List Int) (n : Nat) (I : List Int) : DayR := if rivB D M V n && inflB I I.length n then ⟨n, D, (dayTo D M V I n (kahn D n) n).M, V, (dayTo D M V I n (kahn D n) n).G, (dayTo D M V I n (kahn D n) n).L, true⟩ else failD
def DayP (R : DayR) (w : World) (e : Ending) (w' : World) : Prop :=
  ∃ lo hi L a0 c0 a1 c1 a2 c2 l1 u1 b1 k1 l2 u2 b2 k2, e = .returned (.tuple #[.agg #[.slice a0 R.D.length c0, .slice a1 R.n c1, .slice a2 R.V.length c2], .slice b1 R.G.length k1, .slice b2 R.L.length k2, .bool R.ok]) ∧ Below w.heap.size w w' ∧ RivAt w' lo hi L a0 a1 a2 c0 c1 c2 R.n R.D R.M R.V ∧ w.heap.size ≤ lo ∧ HRow w' 2 1 l1 u1 (.slice b1 R.G.length k1) R.G.length (ic R.G) ∧ HRow w' 2 1 l2 u2 (.slice b2 R.L.length k2) R.L.length (ic R.L) ∧ hi ≤ l1 ∧ hi ≤ l2 ∧ (u1 ≤ l2 ∨ u2 ≤ l1) ∧ lo ≤ hi
theorem DayP.no {w w' : World} (hb : Below w.heap.size w w') : DayP failD w (.returned (.tuple #[.agg #[.slice none 0 0, .slice none 0 0, .slice none 0 0], .slice none 0 0, .slice none 0 0, .bool false])) w' := by
  obtain ⟨lo, hi, L, a0, c0, a1, c1, a2, c2, he, h1, h2, h3⟩ := RivP.no hb
  exact ⟨w'.heap.size, w'.heap.size, ⟨w'.heap.size, w'.heap.size, w'.heap.size, w'.heap.size, w'.heap.size, w'.heap.size⟩, none, 0, none, 0, none, 0, w'.heap.size, w'.heap.size, none, 0, w'.heap.size, w'.heap.size, none, 0, rfl, hb, ⟨HRow.nil _ _ _ _, HRow.nil _ _ _ _, HRow.nil _ _ _ _, ⟨.inl (Nat.le_refl _), .inl (Nat.le_refl _), .inl (Nat.le_refl _), ⟨Nat.le_refl _, Nat.le_refl _⟩, ⟨Nat.le_refl _, Nat.le_refl _⟩, ⟨Nat.le_refl _, Nat.le_refl _⟩⟩, Nat.le_refl _⟩, hb.size, HRow.nil _ _ _ _, HRow.nil _ _ _ _, Nat.le_refl _, Nat.le_refl _, .inl (Nat.le_refl _), Nat.le_refl _⟩
theorem DayP.yes {w w' : World} {lo t g0 g1 g2 h1 h2 c0 c1 c2 k1 k2 n : Nat} {D M V G L : List Int} (r0 : w'.ownsRow lo 2 1 (.slice (some ⟨g0, 0, none⟩) n c0) n (ic D)) (r1 : w'.ownsRow lo 98 4 (.slice (some ⟨g1, 0, none⟩) n c1) n (ic M)) (r2 : w'.ownsRow lo 2 1 (.slice (some ⟨g2, 0, none⟩) n c2) n (ic V)) (r3 : w'.ownsRow lo 2 1 (.slice (some ⟨h1, 0, none⟩) n k1) n (ic G)) (r4 : w'.ownsRow lo 2 1 (.slice (some ⟨h2, 0, none⟩) n k2) n (ic L))
    (n01 : g0 ≠ g1) (n02 : g0 ≠ g2) (n12 : g1 ≠ g2) (nh : h1 ≠ h2) (ht : g0 < t ∧ g1 < t ∧ g2 < t ∧ t ≤ h1 ∧ t ≤ h2) (hlo : w.heap.size ≤ lo) (hb : Below w.heap.size w w') :
    DayP ⟨n, D, M, V, G, L, true⟩ w (.returned (.tuple #[.agg #[.slice (some ⟨g0, 0, none⟩) n c0, .slice (some ⟨g1, 0, none⟩) n c1, .slice (some ⟨g2, 0, none⟩) n c2], .slice (some ⟨h1, 0, none⟩) n k1, .slice (some ⟨h2, 0, none⟩) n k2, .bool true])) w' := by
  have e0 : n = D.length := by have := r0.1; rw [ic_length] at this; omega
  have e2 : n = V.length := by have := r2.1; rw [ic_length] at this; omega
  have e3 : n = G.length := by have := r3.1; rw [ic_length] at this; omega
  have e4 : n = L.length := by have := r4.1; rw [ic_length] at this; omega
  have q0 := r0.lt g0 rfl
  have q1 := r1.lt g1 rfl
  have q2 := r2.lt g2 rfl
  have q3 := r3.lt h1 rfl
  have s0 := HRow.one r0
  have s2 := HRow.one r2
  have s3 := HRow.one r3
  have s4 := HRow.one r4
  refine ⟨lo, t, ⟨g0, g0 + 1, g1, g1 + 1, g2, g2 + 1⟩, some ⟨g0, 0, none⟩, c0, some ⟨g1, 0, none⟩, c1, some ⟨g2, 0, none⟩, c2, h1, h1 + 1, some ⟨h1, 0, none⟩, k1, h2, h2 + 1, some ⟨h2, 0, none⟩, k2, ?_, hb, ⟨?_, HRow.one r1, ?_, ⟨by show g0 + 1 ≤ g1 ∨ g1 + 1 ≤ g0; omega, by show g0 + 1 ≤ g2 ∨ g2 + 1 ≤ g0; omega, by show g1 + 1 ≤ g2 ∨ g2 + 1 ≤ g1; omega, ⟨q0.1, ht.1⟩, ⟨q1.1, ht.2.1⟩, ⟨q2.1, ht.2.2.1⟩⟩, by omega⟩, hlo, ?_, ?_, ht.2.2.2.1, ht.2.2.2.2, by omega, by omega⟩
  · simp only [← e0, ← e2, ← e3, ← e4]
  · simp only [← e0]; exact s0
  · simp only [← e2]; exact s2
  · simp only [← e3]; exact s3
  · simp only [← e4]; exact s4

end Go.Proofs.Ytckmacnmmloemaa
