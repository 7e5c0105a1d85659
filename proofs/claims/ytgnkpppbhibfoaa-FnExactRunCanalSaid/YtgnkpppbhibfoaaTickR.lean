/- A canal a tick later: one result. -/
import Derived.Test.YtgnkpppbhibfoaaStepCS
import Derived.Test.YtgnkpppbhibfoaaTickE
namespace Go.Proofs.Ytgnkpppbhibfoaa
open Go.RowKit
set_option linter.unusedVariables false
set_option linter.unusedSimpArgs false
set_option maxRecDepth 100000
attribute [local irreducible] wpV wpList Code.wp

def tickR (N0 N1 N2 : Option Nat) (S O : List Nat) (X T : Option Nat) : CanR :=
  if stepB N0 N1 N2 S O X T && (allO (newH N0 N1 N2 S O X T) S.length && allO (newF N0 N1 N2 S O X T) S.length) then ⟨N0, N1, N2, wordsO (newH N0 N1 N2 S O X T) S.length, wordsO (newF N0 N1 N2 S O X T) S.length, true⟩ else failCan
theorem stepB_canal {N0 N1 N2 : Option Nat} {S O : List Nat} {X T : Option Nat} (h : stepB N0 N1 N2 S O X T = true) : canalB N0 N1 N2 S O = true := by
  unfold stepB at h
  simp only [Bool.and_eq_true] at h
  exact h.1.1
theorem canal_next {N0 N1 N2 : Option Nat} {S O Y Z : List Nat} {f h : Nat → Option Nat} (hc : canalB N0 N1 N2 S O = true) (hy : Upto h S.length S Y) (hz : Upto f S.length O Z) : canalB N0 N1 N2 Y Z = (allO h S.length && allO f S.length) ∧ O.length = S.length ∧ 1 ≤ S.length := by
  unfold canalB at hc ⊢
  simp only [Bool.and_eq_true, decide_eq_true_eq] at hc
  obtain ⟨⟨⟨⟨⟨⟨c0, c1⟩, c2⟩, c3, c4⟩, c5⟩, c6⟩, c7⟩ := hc
  have hl : Y.length = S.length := hy.1
  have hl2 : Z.length = S.length := hz.1.trans c5
  refine ⟨?_, c5, by omega⟩
  rw [hy.all rfl, hz.all c5.symm, c0, c1, c2, hl, hl2, decide_eq_true c3, decide_eq_true c4]
  simp
theorem StepP.canS {N0 N1 N2 X T : Option Nat} {n0 n1 n2 : Nat} {S O : List Nat} {w w' : World} {e : Ending} (g0 : Is32 N0 n0) (g1 : Is32 N1 n1) (g2 : Is32 N2 n2) (hl : S.length ≤ 1048576) (h : StepP N0 N1 N2 n0 n1 n2 S O X T w e w') : CanS (tickR N0 N1 N2 S O X T) w e w' := by
  rcases h with ⟨hs, rfl, hb⟩ | ⟨hs, Y, Z, x0, k0, x1, k1, hy, hz, rfl, hr0, hr1, hne, hb⟩
  · have hv : tickR N0 N1 N2 S O X T = failCan := by unfold tickR; rw [hs]; rfl
    rw [hv]
    exact CanS.no hb
  · obtain ⟨hc, ho, h1⟩ := canal_next (stepB_canal hs) hy hz
    rw [hc]
    cases ha : allO (newH N0 N1 N2 S O X T) S.length && allO (newF N0 N1 N2 S O X T) S.length
    · have hv : tickR N0 N1 N2 S O X T = failCan := by unfold tickR; rw [hs, ha]; rfl
      rw [hv]
      exact CanS.no hb
    · have hv : tickR N0 N1 N2 S O X T = ⟨N0, N1, N2, wordsO (newH N0 N1 N2 S O X T) S.length, wordsO (newF N0 N1 N2 S O X T) S.length, true⟩ := by unfold tickR; rw [hs, ha]; rfl
      rw [hv]
      rw [Bool.and_eq_true] at ha
      have ey := hy.words rfl ha.1
      have ez := hz.words ho.symm ha.2
      have ly : Y.length = S.length := hy.1
      have lz : Z.length = S.length := hz.1.trans ho
      rw [← ey, ← ez]
      refine ⟨n0, n1, n2, some ⟨x0, 0, none⟩, k0, some ⟨x1, 0, none⟩, k1, by simp only [ly, lz]; rfl, ⟨g0, g1, g2⟩, ?_, ?_, by show Y.length ≤ _; omega, by show Z.length ≤ _; omega, hb⟩
      · rw [← ly] at hr0; exact (FRow.mk hr0).row
      · rw [← lz] at hr1; exact (FRow.mk hr1).row

end Go.Proofs.Ytgnkpppbhibfoaa
