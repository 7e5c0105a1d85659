/- When a canal is valid: the model. -/
import Derived.Test.YtgnkpppbhibfoaaCanalA
namespace Go.Proofs.Ytgnkpppbhibfoaa
open Go.RowKit
set_option linter.unusedVariables false
set_option linter.unusedSimpArgs false
set_option maxRecDepth 100000
attribute [local irreducible] wpV wpList Code.wp

set_option maxHeartbeats 4000000 in
theorem l05Canal_o {N0 N1 N2 : Option Nat} {n0 n1 n2 : Nat} (a0 a1 : Option Addr) (c0 c1 : Nat) (S O : List Nat) (w : World) (b : Nat) (hB : Bx w b [.float .f32 n0, .float .f32 n1, .float .f32 n2, .slice a0 S.length c0, .slice a1 O.length c1]) (g0 : Is32 N0 n0) (g1 : Is32 N1 n1) (g2 : Is32 N2 n2) (h0 : RowF .f32 w a0 S) (hl0 : S.length ≤ 1048576) (hz0 : ∀ z ∈ S, z < 4294967296) (h1 : RowF .f32 w a1 O) (hl1 : O.length ≤ 1048576) (hz1 : ∀ z ∈ O, z < 4294967296) :
    Calls Try.prog 78 #[.pointer (some ⟨b, 0, none⟩)] w (SayQ (canalB N0 N1 N2 S O) w) := by
  obtain ⟨Q, hQ⟩ : ∃ Q, canalB N0 N1 N2 S O = Q := ⟨_, rfl⟩
  rw [hQ]
  have HQ := Lib.hid hQ
  clear hQ
  have H0 := Lib.hid h0
  have H1 := Lib.hid h1
  have HZ0 := Lib.hid hz0
  have HZ1 := Lib.hid hz1
  clear h0 h1 hz0 hz1
  have hk0 := hB.c 0 rfl
  have hk1 := hB.c 1 rfl
  have hk2 := hB.c 2 rfl
  have hk3 := hB.c 3 rfl
  have hk4 := hB.c 4 rfl
  go_enter Try.func78, Try.ntmps78
  go_wp2_with fail
  refine (l02Above_o _ g0).mono ?_
  rintro e w' ⟨bb, hbb, rfl, qP0, rfl⟩
  have P0 := Lib.hid hbb
  clear hbb
  cases bb
  · have hv : Q = false := by rw [← HQ.out]; unfold canalB; rw [P0.out]; simp only [Bool.false_and, Bool.and_false]
    have HV := Lib.hid hv
    clear hv
    go_wp2_with fail
    go_ret
    exact ⟨_, HV.out, rfl, (by first | exact ⟨_, rfl⟩ | exact ⟨0, rfl⟩ | exact drewC _ _ _ ⟨_, rfl⟩ | exact drewC _ _ _ (drewC _ _ _ ⟨_, rfl⟩) | exact drewC _ _ _ (drewC _ _ _ (drewC _ _ _ ⟨_, rfl⟩)))⟩
  go_wp2_with fail
  refine (l02Above_o _ g1).mono ?_
  rintro e w' ⟨bb, hbb, rfl, qP1, rfl⟩
  have P1 := Lib.hid hbb
  clear hbb
  cases bb
  · have hv : Q = false := by rw [← HQ.out]; unfold canalB; rw [P1.out]; simp only [Bool.false_and, Bool.and_false]
    have HV := Lib.hid hv
    clear hv
    go_wp2_with fail
    go_ret
    exact ⟨_, HV.out, rfl, (by first | exact ⟨_, rfl⟩ | exact ⟨0, rfl⟩ | exact drewC _ _ _ ⟨_, rfl⟩ | exact drewC _ _ _ (drewC _ _ _ ⟨_, rfl⟩) | exact drewC _ _ _ (drewC _ _ _ (drewC _ _ _ ⟨_, rfl⟩)))⟩
  go_wp2_with fail
  refine (l02Least_o _ g2).mono ?_
  rintro e w' ⟨bb, hbb, rfl, qP2, rfl⟩
  have P2 := Lib.hid hbb
  clear hbb
  cases bb
  · have hv : Q = false := by rw [← HQ.out]; unfold canalB; rw [P2.out]; simp only [Bool.false_and, Bool.and_false]
    have HV := Lib.hid hv
    clear hv
    go_wp2_with fail
    go_ret
    exact ⟨_, HV.out, rfl, (by first | exact ⟨_, rfl⟩ | exact ⟨0, rfl⟩ | exact drewC _ _ _ ⟨_, rfl⟩ | exact drewC _ _ _ (drewC _ _ _ ⟨_, rfl⟩) | exact drewC _ _ _ (drewC _ _ _ (drewC _ _ _ ⟨_, rfl⟩)))⟩
  by_cases q1 : (1 : Int) ≤ (S.length : Int)
  rotate_left
  · have hv : Q = false := by rw [← HQ.out]; unfold canalB; rw [decide_eq_false q1]; simp only [Bool.false_and, Bool.and_false]
    have HV := Lib.hid hv
    clear hv
    go_wp2_with fail
    go_ret
    exact ⟨_, HV.out, rfl, (by first | exact ⟨_, rfl⟩ | exact ⟨0, rfl⟩ | exact drewC _ _ _ ⟨_, rfl⟩ | exact drewC _ _ _ (drewC _ _ _ ⟨_, rfl⟩) | exact drewC _ _ _ (drewC _ _ _ (drewC _ _ _ ⟨_, rfl⟩)))⟩
  by_cases q2 : (S.length : Int) ≤ 48
  rotate_left
  · have hv : Q = false := by rw [← HQ.out]; unfold canalB; rw [decide_eq_false q2]; simp only [Bool.false_and, Bool.and_false]
    have HV := Lib.hid hv
    clear hv
    go_wp2_with fail
    go_ret
    exact ⟨_, HV.out, rfl, (by first | exact ⟨_, rfl⟩ | exact ⟨0, rfl⟩ | exact drewC _ _ _ ⟨_, rfl⟩ | exact drewC _ _ _ (drewC _ _ _ ⟨_, rfl⟩) | exact drewC _ _ _ (drewC _ _ _ (drewC _ _ _ ⟨_, rfl⟩)))⟩
  by_cases q3 : O.length = S.length
  rotate_left
  · have i3 : ¬ (O.length : Int) = (S.length : Int) := by omega
    have hv : Q = false := by rw [← HQ.out]; unfold canalB; rw [decide_eq_false q3]; simp only [Bool.false_and, Bool.and_false]
    have HV := Lib.hid hv
    clear hv
    go_wp2_with fail
    go_ret
    exact ⟨_, HV.out, rfl, (by first | exact ⟨_, rfl⟩ | exact ⟨0, rfl⟩ | exact drewC _ _ _ ⟨_, rfl⟩ | exact drewC _ _ _ (drewC _ _ _ ⟨_, rfl⟩) | exact drewC _ _ _ (drewC _ _ _ (drewC _ _ _ ⟨_, rfl⟩)))⟩
  have i3 : ((O.length : Int) = (S.length : Int)) = True := by simp [q3]
  have Q3 := Lib.hid q3
  have Q1 := Lib.hid q1
  have Q2 := Lib.hid q2
  clear q3
  go_wp2_with fail
  refine (l02Fin_g a0 c0 S _ (by exact H0.out) hl0).mono ?_
  rintro e w' ⟨bb, hbb, rfl, q5, rfl⟩
  have P5 := Lib.hid hbb
  clear hbb
  cases bb
  · have hv : Q = false := by rw [← HQ.out]; unfold canalB; rw [P5.out]; simp only [Bool.false_and, Bool.and_false]
    have HV := Lib.hid hv
    clear hv
    go_wp2_with fail
    go_ret
    exact ⟨_, HV.out, rfl, (by first | exact ⟨_, rfl⟩ | exact ⟨0, rfl⟩ | exact drewC _ _ _ ⟨_, rfl⟩ | exact drewC _ _ _ (drewC _ _ _ ⟨_, rfl⟩) | exact drewC _ _ _ (drewC _ _ _ (drewC _ _ _ ⟨_, rfl⟩)))⟩
  go_wp2_with fail
  refine (l02Fin_g a1 c1 O _ (by exact H1.out) hl1).mono ?_
  rintro e w' ⟨bb, hbb, rfl, q6, rfl⟩
  have P6 := Lib.hid hbb
  clear hbb
  go_wp2_with fail
  go_ret
  exact ⟨_, by rw [← HQ.out]; unfold canalB; rw [P0.out, P1.out, P2.out, decide_eq_true Q1.out, decide_eq_true Q2.out, P5.out, P6.out, decide_eq_true Q3.out]; first | rfl | (simp [Q3.out]; done) | (cases bb <;> simp [Q3.out]), rfl, (by first | exact drewC _ _ _ (drewC _ _ _ (drewC _ _ _ (drewC _ _ _ ⟨_, rfl⟩))) | exact ⟨_, rfl⟩ | exact ⟨0, rfl⟩ | exact drewC _ _ _ ⟨_, rfl⟩ | exact drewC _ _ _ (drewC _ _ _ ⟨_, rfl⟩) | exact drewC _ _ _ (drewC _ _ _ (drewC _ _ _ ⟨_, rfl⟩)))⟩

end Go.Proofs.Ytgnkpppbhibfoaa
