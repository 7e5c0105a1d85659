/- Whether structs with two lists are the same (Lake): the program and its model. -/
import Derived.Test.YtdoecpghlfjhiabSameL
import Derived.Test.YtdoecpghlfjhiabBw
namespace Go.Proofs.Ytdoecpghlfjhiab
open Go.RowKit
set_option linter.unusedVariables false
set_option linter.unusedSimpArgs false
set_option maxRecDepth 100000
attribute [local irreducible] wpV wpList Code.wp

set_option maxHeartbeats 4000000 in
theorem sameLake_i (a0 a1 b0 b1 : Option Addr) (c0 c1 d0 d1 : Nat) (zs0 zs1 ys0 ys1 : List Nat) (w : World)  (ra0 : RowF .f32 w a0 zs0) (la0 : zs0.length ≤ 1048576) (za0 : ∀ z ∈ zs0, z < 4294967296) (ra1 : RowF .f32 w a1 zs1) (la1 : zs1.length ≤ 1048576) (za1 : ∀ z ∈ zs1, z < 4294967296) (rb0 : RowF .f32 w b0 ys0) (lb0 : ys0.length ≤ 1048576) (zb0 : ∀ z ∈ ys0, z < 4294967296) (rb1 : RowF .f32 w b1 ys1) (lb1 : ys1.length ≤ 1048576) (zb1 : ∀ z ∈ ys1, z < 4294967296) :
    Calls Try.prog 43 #[.agg #[.slice a0 zs0.length c0, .slice a1 zs1.length c1], .agg #[.slice b0 ys0.length d0, .slice b1 ys1.length d1]] w fun e w' => e = .returned (.bool (sameL zs0 ys0 && sameL zs1 ys1)) ∧ Below w.heap.size w w' := by
  skip
  have Ra0 := Lib.hid ra0
  have Ra1 := Lib.hid ra1
  have Rb0 := Lib.hid rb0
  have Rb1 := Lib.hid rb1
  have Za0 := Lib.hid za0
  have Za1 := Lib.hid za1
  have Zb0 := Lib.hid zb0
  have Zb1 := Lib.hid zb1
  clear ra0 ra1 rb0 rb1 za0 za1 zb0 zb1
  go_enter Try.func43, Try.ntmps43
  obtain ⟨s0, hs0⟩ : ∃ b, sameL zs0 ys0 = b := ⟨_, rfl⟩
  have U0 := Lib.hid hs0
  clear hs0
  go_wp2_with fail
  refine (equalFunc_any a0 b0 c0 d0 zs0 ys0 _ (Ra0.out.below (by repeat (first | with_reducible exact Below.refl _ _ | with_reducible refine beld ?_ _ | (with_reducible refine Below.alloc ?_ ?_ _; rotate_left; exact (by first | (simp; done) | (simp; omega) | omega)) | (with_reducible refine Below.setCell ?_ ?_ _; rotate_left; exact (by first | (simp; done) | (simp; omega) | omega)))) (Nat.le_refl _)) (Rb0.out.below (by repeat (first | with_reducible exact Below.refl _ _ | with_reducible refine beld ?_ _ | (with_reducible refine Below.alloc ?_ ?_ _; rotate_left; exact (by first | (simp; done) | (simp; omega) | omega)) | (with_reducible refine Below.setCell ?_ ?_ _; rotate_left; exact (by first | (simp; done) | (simp; omega) | omega)))) (Nat.le_refl _)) la0 lb0 Za0.out Zb0.out).mono ?_
  rintro e w1 ⟨rfl, rfl⟩
  rw [U0.out]
  cases s0
  · go_wp2_with fail
    go_ret
    exact ⟨by rw [U0.out]; first | rfl | (simp only [Bool.false_and, Bool.true_and, Bool.and_false]; rfl), (by repeat (first | with_reducible exact Below.refl _ _ | with_reducible refine beld ?_ _ | (with_reducible refine Below.alloc ?_ ?_ _; rotate_left; exact (by first | (simp; done) | (simp; omega) | omega)) | (with_reducible refine Below.setCell ?_ ?_ _; rotate_left; exact (by first | (simp; done) | (simp; omega) | omega))))⟩
  obtain ⟨s1, hs1⟩ : ∃ b, sameL zs1 ys1 = b := ⟨_, rfl⟩
  have U1 := Lib.hid hs1
  clear hs1
  go_wp2_with fail
  refine (equalFunc_any a1 b1 c1 d1 zs1 ys1 _ (Ra1.out.below (by repeat (first | with_reducible exact Below.refl _ _ | with_reducible refine beld ?_ _ | (with_reducible refine Below.alloc ?_ ?_ _; rotate_left; exact (by first | (simp; done) | (simp; omega) | omega)) | (with_reducible refine Below.setCell ?_ ?_ _; rotate_left; exact (by first | (simp; done) | (simp; omega) | omega)))) (Nat.le_refl _)) (Rb1.out.below (by repeat (first | with_reducible exact Below.refl _ _ | with_reducible refine beld ?_ _ | (with_reducible refine Below.alloc ?_ ?_ _; rotate_left; exact (by first | (simp; done) | (simp; omega) | omega)) | (with_reducible refine Below.setCell ?_ ?_ _; rotate_left; exact (by first | (simp; done) | (simp; omega) | omega)))) (Nat.le_refl _)) la1 lb1 Za1.out Zb1.out).mono ?_
  rintro e w2 ⟨rfl, rfl⟩
  rw [U1.out]
  go_wp2_with fail
  go_ret
  exact ⟨by rw [U0.out, U1.out]; first | rfl | simp only [Bool.true_and], (by repeat (first | with_reducible exact Below.refl _ _ | with_reducible refine beld ?_ _ | (with_reducible refine Below.alloc ?_ ?_ _; rotate_left; exact (by first | (simp; done) | (simp; omega) | omega)) | (with_reducible refine Below.setCell ?_ ?_ _; rotate_left; exact (by first | (simp; done) | (simp; omega) | omega))))⟩

set_option maxHeartbeats 4000000 in
theorem sameLake_s (a0 a1 b0 b1 : Option Addr) (c0 c1 d0 d1 : Nat) (zs0 zs1 ys0 ys1 : List Nat) (w : World)  (ra0 : RowF .f32 w a0 zs0) (la0 : zs0.length ≤ 1048576) (za0 : ∀ z ∈ zs0, z < 4294967296) (ra1 : RowF .f32 w a1 zs1) (la1 : zs1.length ≤ 1048576) (za1 : ∀ z ∈ zs1, z < 4294967296) (rb0 : RowF .f32 w b0 ys0) (lb0 : ys0.length ≤ 1048576) (zb0 : ∀ z ∈ ys0, z < 4294967296) (rb1 : RowF .f32 w b1 ys1) (lb1 : ys1.length ≤ 1048576) (zb1 : ∀ z ∈ ys1, z < 4294967296) :
    Calls Try.prog 41 #[.agg #[.slice a0 zs0.length c0, .slice a1 zs1.length c1], .agg #[.slice b0 ys0.length d0, .slice b1 ys1.length d1]] w fun e w' => e = .returned (.bool (sameL zs0 ys0 && sameL zs1 ys1)) ∧ Below w.heap.size w w' := by
  skip
  have Ra0 := Lib.hid ra0
  have Ra1 := Lib.hid ra1
  have Rb0 := Lib.hid rb0
  have Rb1 := Lib.hid rb1
  have Za0 := Lib.hid za0
  have Za1 := Lib.hid za1
  have Zb0 := Lib.hid zb0
  have Zb1 := Lib.hid zb1
  clear ra0 ra1 rb0 rb1 za0 za1 zb0 zb1
  go_enter Try.func41, Try.ntmps41
  obtain ⟨s0, hs0⟩ : ∃ b, sameL zs0 ys0 = b := ⟨_, rfl⟩
  have U0 := Lib.hid hs0
  clear hs0
  go_wp2_with fail
  refine (l01SameAll_any a0 b0 c0 d0 zs0 ys0 _ (Ra0.out.below (by repeat (first | with_reducible exact Below.refl _ _ | with_reducible refine beld ?_ _ | (with_reducible refine Below.alloc ?_ ?_ _; rotate_left; exact (by first | (simp; done) | (simp; omega) | omega)) | (with_reducible refine Below.setCell ?_ ?_ _; rotate_left; exact (by first | (simp; done) | (simp; omega) | omega)))) (Nat.le_refl _)) (Rb0.out.below (by repeat (first | with_reducible exact Below.refl _ _ | with_reducible refine beld ?_ _ | (with_reducible refine Below.alloc ?_ ?_ _; rotate_left; exact (by first | (simp; done) | (simp; omega) | omega)) | (with_reducible refine Below.setCell ?_ ?_ _; rotate_left; exact (by first | (simp; done) | (simp; omega) | omega)))) (Nat.le_refl _)) la0 lb0 Za0.out Zb0.out).mono ?_
  rintro e w1 ⟨rfl, q0, rfl⟩
  rw [U0.out]
  cases s0
  · go_wp2_with fail
    go_ret
    exact ⟨by rw [U0.out]; first | rfl | (simp only [Bool.false_and, Bool.true_and, Bool.and_false]; rfl), (by repeat (first | with_reducible exact Below.refl _ _ | with_reducible refine beld ?_ _ | (with_reducible refine Below.alloc ?_ ?_ _; rotate_left; exact (by first | (simp; done) | (simp; omega) | omega)) | (with_reducible refine Below.setCell ?_ ?_ _; rotate_left; exact (by first | (simp; done) | (simp; omega) | omega))))⟩
  obtain ⟨s1, hs1⟩ : ∃ b, sameL zs1 ys1 = b := ⟨_, rfl⟩
  have U1 := Lib.hid hs1
  clear hs1
  go_wp2_with fail
  refine (l01SameAll_any a1 b1 c1 d1 zs1 ys1 _ (Ra1.out.below (by repeat (first | with_reducible exact Below.refl _ _ | with_reducible refine beld ?_ _ | (with_reducible refine Below.alloc ?_ ?_ _; rotate_left; exact (by first | (simp; done) | (simp; omega) | omega)) | (with_reducible refine Below.setCell ?_ ?_ _; rotate_left; exact (by first | (simp; done) | (simp; omega) | omega)))) (Nat.le_refl _)) (Rb1.out.below (by repeat (first | with_reducible exact Below.refl _ _ | with_reducible refine beld ?_ _ | (with_reducible refine Below.alloc ?_ ?_ _; rotate_left; exact (by first | (simp; done) | (simp; omega) | omega)) | (with_reducible refine Below.setCell ?_ ?_ _; rotate_left; exact (by first | (simp; done) | (simp; omega) | omega)))) (Nat.le_refl _)) la1 lb1 Za1.out Zb1.out).mono ?_
  rintro e w2 ⟨rfl, q1, rfl⟩
  rw [U1.out]
  go_wp2_with fail
  go_ret
  exact ⟨by rw [U0.out, U1.out]; first | rfl | simp only [Bool.true_and], (by repeat (first | with_reducible exact Below.refl _ _ | with_reducible refine beld ?_ _ | (with_reducible refine Below.alloc ?_ ?_ _; rotate_left; exact (by first | (simp; done) | (simp; omega) | omega)) | (with_reducible refine Below.setCell ?_ ?_ _; rotate_left; exact (by first | (simp; done) | (simp; omega) | omega))))⟩

end Go.Proofs.Ytdoecpghlfjhiab
