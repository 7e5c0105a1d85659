/- When a canal is valid: the program. -/
import Derived.Test.YtgnkpppbhibfoaaLakeD
namespace Go.Proofs.Ytgnkpppbhibfoaa
open Go.RowKit
set_option linter.unusedVariables false
set_option linter.unusedSimpArgs false
set_option maxRecDepth 100000
attribute [local irreducible] wpV wpList Code.wp

def canalB (N0 N1 N2 : Option Nat) (S O : List Nat) : Bool := posO N0 && posO N1 && amtO N2 && (decide ((1 : Int) ≤ (S.length : Int)) && decide ((S.length : Int) ≤ 48)) && decide (O.length = S.length) && S.all fin32 && O.all fin32
set_option maxHeartbeats 1000000 in
theorem cellCount_o (n : Int) (w : World) : Calls Try.prog 79 #[.int .i64 n] w (SayS (decide (1 ≤ n) && decide (n ≤ 48)) w) := by
  by_cases h1 : 1 ≤ n
  · by_cases h2 : n ≤ 48
    · go_enter Try.func79, Try.ntmps79
      go_wp2
      go_ret
      exact ⟨_, by simp [h1, h2], rfl, rfl⟩
    · have h3 : ¬ n ≤ 48 := h2
      go_enter Try.func79, Try.ntmps79
      go_wp2
      go_ret
      exact ⟨_, by simp [h1, h2], rfl, rfl⟩
  · go_enter Try.func79, Try.ntmps79
    go_wp2
    go_ret
    exact ⟨_, by rw [decide_eq_false (by omega), Bool.false_and], rfl, rfl⟩

set_option maxHeartbeats 4000000 in
theorem validCanal_i {N0 N1 N2 : Option Nat} {n0 n1 n2 : Nat} (a0 a1 : Option Addr) (c0 c1 : Nat) (S O : List Nat) (w : World) (g0 : Is32 N0 n0) (g1 : Is32 N1 n1) (g2 : Is32 N2 n2) (h0 : RowF .f32 w a0 S) (hl0 : S.length ≤ 1048576) (hz0 : ∀ z ∈ S, z < 4294967296) (h1 : RowF .f32 w a1 O) (hl1 : O.length ≤ 1048576) (hz1 : ∀ z ∈ O, z < 4294967296) :
    Calls Try.prog 86 #[.agg #[.float .f32 n0, .float .f32 n1, .float .f32 n2, .slice a0 S.length c0, .slice a1 O.length c1]] w (SayB (canalB N0 N1 N2 S O) w) := by
  obtain ⟨Q, hQ⟩ : ∃ Q, canalB N0 N1 N2 S O = Q := ⟨_, rfl⟩
  rw [hQ]
  have HQ := Lib.hid hQ
  clear hQ
  have H0 := Lib.hid h0
  have H1 := Lib.hid h1
  have HZ0 := Lib.hid hz0
  have HZ1 := Lib.hid hz1
  clear h0 h1 hz0 hz1
  go_enter Try.func86, Try.ntmps86
  go_wp2_with fail
  refine (isPositive_o _ g0).mono ?_
  rintro e w' ⟨bb, hbb, rfl, rfl⟩
  have P0 := Lib.hid hbb
  clear hbb
  cases bb
  · have hv : Q = false := by rw [← HQ.out]; unfold canalB; rw [P0.out]; simp only [Bool.false_and, Bool.and_false]
    have HV := Lib.hid hv
    clear hv
    go_wp2_with fail
    go_ret
    exact ⟨_, HV.out, rfl, (bel1 _ _)⟩
  go_wp2_with fail
  refine (isPositive_o _ g1).mono ?_
  rintro e w' ⟨bb, hbb, rfl, rfl⟩
  have P1 := Lib.hid hbb
  clear hbb
  cases bb
  · have hv : Q = false := by rw [← HQ.out]; unfold canalB; rw [P1.out]; simp only [Bool.false_and, Bool.and_false]
    have HV := Lib.hid hv
    clear hv
    go_wp2_with fail
    go_ret
    exact ⟨_, HV.out, rfl, (bel1 _ _)⟩
  go_wp2_with fail
  refine (isAmount_o _ g2).mono ?_
  rintro e w' ⟨bb, hbb, rfl, rfl⟩
  have P2 := Lib.hid hbb
  clear hbb
  cases bb
  · have hv : Q = false := by rw [← HQ.out]; unfold canalB; rw [P2.out]; simp only [Bool.false_and, Bool.and_false]
    have HV := Lib.hid hv
    clear hv
    go_wp2_with fail
    go_ret
    exact ⟨_, HV.out, rfl, (bel1 _ _)⟩
  go_wp2_with fail
  refine (cellCount_o _ _).mono ?_
  rintro e w' ⟨bb, hbb, rfl, rfl⟩
  have P3 := Lib.hid hbb
  clear hbb
  cases bb
  · have hv : Q = false := by rw [← HQ.out]; unfold canalB; rw [P3.out]; simp only [Bool.false_and, Bool.and_false]
    have HV := Lib.hid hv
    clear hv
    go_wp2_with fail
    go_ret
    exact ⟨_, HV.out, rfl, (bel1 _ _)⟩
  by_cases q3 : O.length = S.length
  rotate_left
  · have i3 : ¬ (O.length : Int) = (S.length : Int) := by omega
    have hv : Q = false := by rw [← HQ.out]; unfold canalB; rw [decide_eq_false q3]; simp only [Bool.false_and, Bool.and_false]
    have HV := Lib.hid hv
    clear hv
    go_wp2_with fail
    go_ret
    exact ⟨_, HV.out, rfl, (bel1 _ _)⟩
  have i3 : ((O.length : Int) = (S.length : Int)) = True := by simp [q3]
  have Q3 := Lib.hid q3
  clear q3
  go_wp2_with fail
  refine (allOf_f 87 fin32 (enters_of Try.func87 (by kernel_rfl) rfl) a0 c0 S _ (fun z hz W => isFin_o W (Is32.c hz)) (H0.out.below (bel1 _ _) (Nat.le_refl _)) hl0 HZ0.out).mono ?_
  rintro e w1 ⟨bb, hbb, rfl, hb⟩
  have HB1 : Hid (Below w.heap.size w w1) := Lib.hid (Below.trans (bel1 _ _) (hb.mono (by simp)))
  have HX1 : Hid (Bx w1 w.heap.size [.float .f32 n0, .float .f32 n1, .float .f32 n2, .slice a0 S.length c0, .slice a1 O.length c1]) := Lib.hid (Bx.below (Bx.new w [.float .f32 n0, .float .f32 n1, .float .f32 n2, .slice a0 S.length c0, .slice a1 O.length c1] _) hb (by simp))
  have hk0 := HX1.out.c 0 rfl
  have hk1 := HX1.out.c 1 rfl
  have hk2 := HX1.out.c 2 rfl
  have hk3 := HX1.out.c 3 rfl
  have hk4 := HX1.out.c 4 rfl
  have P5 := Lib.hid hbb
  clear hbb hb
  cases bb
  · have hv : Q = false := by rw [← HQ.out]; unfold canalB; rw [P5.out]; simp only [Bool.false_and, Bool.and_false]
    have HV := Lib.hid hv
    clear hv
    go_wp2_with fail
    go_ret
    exact ⟨_, HV.out, rfl, HB1.out⟩
  go_wp2_with fail
  refine (allOf_f 87 fin32 (enters_of Try.func87 (by kernel_rfl) rfl) a1 c1 O w1 (fun z hz W => isFin_o W (Is32.c hz)) (H1.out.below HB1.out (Nat.le_refl _)) hl1 HZ1.out).mono ?_
  rintro e w2 ⟨bb, hbb, rfl, hb⟩
  have HB2 : Hid (Below w.heap.size w w2) := Lib.hid (HB1.out.trans (hb.mono HB1.out.size))
  have P6 := Lib.hid hbb
  clear hbb hb
  go_wp2_with fail
  go_ret
  exact ⟨_, by rw [← HQ.out]; unfold canalB; rw [P0.out, P1.out, P2.out, P3.out, P5.out, P6.out, decide_eq_true Q3.out]; first | rfl | (simp [Q3.out]; done) | (cases bb <;> simp [Q3.out]), rfl, HB2.out⟩

end Go.Proofs.Ytgnkpppbhibfoaa
