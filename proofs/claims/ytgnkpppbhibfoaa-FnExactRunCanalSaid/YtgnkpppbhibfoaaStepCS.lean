/- A canal a tick later: the model. -/
import Derived.Test.YtgnkpppbhibfoaaTickS
namespace Go.Proofs.Ytgnkpppbhibfoaa
open Go.RowKit
set_option linter.unusedVariables false
set_option linter.unusedSimpArgs false
set_option maxRecDepth 100000
attribute [local irreducible] wpV wpList Code.wp

def stepB (N0 N1 N2 : Option Nat) (S O : List Nat) (X T : Option Nat) : Bool := canalB N0 N1 N2 S O && fin32o X && posO T
/-- StepCanal: fails, or the words of the rows and whether they are valid. -/
def StepP (N0 N1 N2 : Option Nat) (n0 n1 n2 : Nat) (S O : List Nat) (X T : Option Nat) (w : World) (e : Ending) (w' : World) : Prop :=
  (stepB N0 N1 N2 S O X T = false ∧ e = .returned (.tuple #[.agg #[.float .f32 0, .float .f32 0, .float .f32 0, .slice none 0 0, .slice none 0 0], .bool false]) ∧ Below w.heap.size w w') ∨ (stepB N0 N1 N2 S O X T = true ∧
  ∃ Y Z x0 k0 x1 k1, Upto (newH N0 N1 N2 S O X T) S.length S Y ∧ Upto (newF N0 N1 N2 S O X T) S.length O Z ∧
    e = .returned (.tuple #[if canalB N0 N1 N2 Y Z then .agg #[.float .f32 n0, .float .f32 n1, .float .f32 n2, .slice (some ⟨x0, 0, none⟩) S.length k0, .slice (some ⟨x1, 0, none⟩) S.length k1] else .agg #[.float .f32 0, .float .f32 0, .float .f32 0, .slice none 0 0, .slice none 0 0], .bool (canalB N0 N1 N2 Y Z)]) ∧
    RowO w' w.heap.size (.slice (some ⟨x0, 0, none⟩) S.length k0) Y ∧ RowO w' w.heap.size (.slice (some ⟨x1, 0, none⟩) S.length k1) Z ∧ x0 ≠ x1 ∧ Below w.heap.size w w')

set_option maxHeartbeats 4000000 in
theorem stepCanal_s {N0 N1 N2 X T : Option Nat} {n0 n1 n2 x t : Nat} (a0 a1 : Option Addr) (c0 c1 : Nat) (S O : List Nat) (w : World) (gx : Is32 X x) (gt : Is32 T t) (g0 : Is32 N0 n0) (g1 : Is32 N1 n1) (g2 : Is32 N2 n2) (h0 : RowF .f32 w a0 S) (hl0 : S.length ≤ 1048576) (hz0 : ∀ z ∈ S, z < 4294967296) (h1 : RowF .f32 w a1 O) (hl1 : O.length ≤ 1048576) (hz1 : ∀ z ∈ O, z < 4294967296) :
    Calls Try.prog 30 #[.agg #[.float .f32 n0, .float .f32 n1, .float .f32 n2, .slice a0 S.length c0, .slice a1 O.length c1], .float .f32 x, .float .f32 t] w (StepP N0 N1 N2 n0 n1 n2 S O X T w) := by
  have H0 := Lib.hid h0
  have H1 := Lib.hid h1
  have HZ0 := Lib.hid hz0
  have HZ1 := Lib.hid hz1
  clear h0 h1 hz0 hz1
  go_enter Try.func30, Try.ntmps30
  go_wp2_with fail
  refine (l05Canal_o a0 a1 c0 c1 S O _ w.heap.size (Bx.alloc (Bx.new w [.float .f32 n0, .float .f32 n1, .float .f32 n2, .slice a0 S.length c0, .slice a1 O.length c1] _) _) g0 g1 g2 (H0.out.below (bel2 _ _ _) (Nat.le_refl _)) hl0 HZ0.out (H1.out.below (bel2 _ _ _) (Nat.le_refl _)) hl1 HZ1.out).mono ?_
  rintro e w1 ⟨bb, hbb, rfl, q, hw1⟩
  have HB1 : Hid (Below w.heap.size w w1) := Lib.hid (by rw [hw1]; exact beld (bel2 _ _ _) _)
  have HX1 : Hid (Bx w1 w.heap.size [.float .f32 n0, .float .f32 n1, .float .f32 n2, .slice a0 S.length c0, .slice a1 O.length c1]) := Lib.hid (by rw [hw1]; exact Bx.drewN (Bx.alloc (Bx.new w [.float .f32 n0, .float .f32 n1, .float .f32 n2, .slice a0 S.length c0, .slice a1 O.length c1] _) _) _)
  have bw : Bw w1 (w.heap.size + 1) [.float .f32 0, .float .f32 0, .float .f32 0, .slice none 0 0, .slice none 0 0] := by rw [hw1]; refine Bw.drewN ?_ _; have h9 := Bw.new (w.alloc (.cells #[.float .f32 n0, .float .f32 n1, .float .f32 n2, .slice a0 S.length c0, .slice a1 O.length c1] 36)) [.float .f32 0, .float .f32 0, .float .f32 0, .slice none 0 0, .slice none 0 0] 36; rw [show (w.alloc (.cells #[.float .f32 n0, .float .f32 n1, .float .f32 n2, .slice a0 S.length c0, .slice a1 O.length c1] 36)).heap.size = w.heap.size + 1 by simp] at h9; exact h9
  have hs1 : w1.heap.size = w.heap.size + 1 + 1 := by rw [hw1]; simp
  have P0 := Lib.hid hbb
  have q0 := bw.c 0 rfl
  have q1 := bw.c 1 rfl
  have q2 := bw.c 2 rfl
  have q3 := bw.c 3 rfl
  have q4 := bw.c 4 rfl
  have f0 := bw.f 0 (by simp)
  have f1 := bw.f 1 (by simp)
  have f2 := bw.f 2 (by simp)
  have f3 := bw.f 3 (by simp)
  have f4 := bw.f 4 (by simp)
  have BR := Lib.hid bw
  have HS1 := Lib.hid hs1
  clear hbb hw1 bw hs1
  cases bb
  · have hv : stepB N0 N1 N2 S O X T = false := by unfold stepB; rw [P0.out]; simp only [Bool.false_and, Bool.and_false, Bool.true_and, Bool.and_true]
    have HV := Lib.hid hv
    clear hv
    go_wp2_with fail
    refine bodyPost_ret (v := .tuple #[.agg #[.float .f32 0, .float .f32 0, .float .f32 0, .slice none 0 0, .slice none 0 0], .bool false]) (by first | (simp [results, Try.results30, go_sem, q0, q1, q2, q3, q4, f0, f1, f2, f3, f4]; done) | (simp (maxDischargeDepth := 12) [results, Try.results30, go_sem, q0, q1, q2, q3, q4, f0, f1, f2, f3, f4]; done) | (simp (maxDischargeDepth := 12) [results, Try.results30, go_sem, q0, q1, q2, q3, q4, f0, f1, f2, f3, f4]; rfl)) rfl ?_
    exact .inl ⟨HV.out, rfl, (by repeat (first | with_reducible exact HB1.out | with_reducible refine beld ?_ _ | (with_reducible refine Below.alloc ?_ ?_ _; rotate_left; exact (by first | (simp; done) | (simp; omega) | omega)) | (with_reducible refine Below.setCell ?_ ?_ _; rotate_left; exact (by first | (simp; done) | (simp; omega) | omega))))⟩
  go_wp2_with fail
  refine (l01Fin_o _ gx).mono ?_
  rintro e w' ⟨bb, hbb, rfl, qa, rfl⟩
  have P1 := Lib.hid hbb
  clear hbb
  cases bb
  · have hv : stepB N0 N1 N2 S O X T = false := by unfold stepB; rw [P0.out, P1.out]; simp only [Bool.false_and, Bool.and_false, Bool.true_and, Bool.and_true]
    have HV := Lib.hid hv
    clear hv
    go_wp2_with fail
    refine bodyPost_ret (v := .tuple #[.agg #[.float .f32 0, .float .f32 0, .float .f32 0, .slice none 0 0, .slice none 0 0], .bool false]) (by first | (simp [results, Try.results30, go_sem, q0, q1, q2, q3, q4, f0, f1, f2, f3, f4]; done) | (simp (maxDischargeDepth := 12) [results, Try.results30, go_sem, q0, q1, q2, q3, q4, f0, f1, f2, f3, f4]; done) | (simp (maxDischargeDepth := 12) [results, Try.results30, go_sem, q0, q1, q2, q3, q4, f0, f1, f2, f3, f4]; rfl)) rfl ?_
    exact .inl ⟨HV.out, rfl, (by repeat (first | with_reducible exact HB1.out | with_reducible refine beld ?_ _ | (with_reducible refine Below.alloc ?_ ?_ _; rotate_left; exact (by first | (simp; done) | (simp; omega) | omega)) | (with_reducible refine Below.setCell ?_ ?_ _; rotate_left; exact (by first | (simp; done) | (simp; omega) | omega))))⟩
  go_wp2_with fail
  refine (l02Above_o _ gt).mono ?_
  rintro e w' ⟨bb, hbb, rfl, qb, rfl⟩
  have P2 := Lib.hid hbb
  clear hbb
  cases bb
  · have hv : stepB N0 N1 N2 S O X T = false := by unfold stepB; rw [P0.out, P1.out, P2.out]; simp only [Bool.false_and, Bool.and_false, Bool.true_and, Bool.and_true]
    have HV := Lib.hid hv
    clear hv
    go_wp2_with fail
    refine bodyPost_ret (v := .tuple #[.agg #[.float .f32 0, .float .f32 0, .float .f32 0, .slice none 0 0, .slice none 0 0], .bool false]) (by first | (simp [results, Try.results30, go_sem, q0, q1, q2, q3, q4, f0, f1, f2, f3, f4]; done) | (simp (maxDischargeDepth := 12) [results, Try.results30, go_sem, q0, q1, q2, q3, q4, f0, f1, f2, f3, f4]; done) | (simp (maxDischargeDepth := 12) [results, Try.results30, go_sem, q0, q1, q2, q3, q4, f0, f1, f2, f3, f4]; rfl)) rfl ?_
    exact .inl ⟨HV.out, rfl, (by repeat (first | with_reducible exact HB1.out | with_reducible refine beld ?_ _ | (with_reducible refine Below.alloc ?_ ?_ _; rotate_left; exact (by first | (simp; done) | (simp; omega) | omega)) | (with_reducible refine Below.setCell ?_ ?_ _; rotate_left; exact (by first | (simp; done) | (simp; omega) | omega))))⟩
  have hv : stepB N0 N1 N2 S O X T = true := by unfold stepB; rw [P0.out, P1.out, P2.out]; rfl
  have HV := Lib.hid hv
  have hq := P0.out
  unfold canalB at hq
  simp only [Bool.and_eq_true, decide_eq_true_eq] at hq
  have hp0 : 0 < S.length := by have := hq.1.1.1.2.1; omega
  have hp1 : O.length = S.length := hq.1.1.2
  clear hq hv q0 q1 q2 q3 q4 f0 f1 f2 f3 f4
  have r0 := H0.out.below HB1.out (Nat.le_refl _)
  have r1 := H1.out.below HB1.out (Nat.le_refl _)
  have HT := Lib.hid (fun n => l05Tick_o a0 a1 c0 c1 S O (w1.drewN n) w.heap.size (HX1.out.drewN n) gx gt g0 g1 g2 (show RowF .f32 (w1.drewN n) a0 S from r0) hl0 HZ0.out (show RowF .f32 (w1.drewN n) a1 O from r1) hl1 HZ1.out hp0 hp1)
  clear r0 r1
  go_wp2_with fail
  refine (HT.out _).mono ?_
  rintro e w3 ⟨Y, Z, x0, k0, x1, k1, hY, hZ, rfl, hr0, hr1, hne, hb⟩
  have hsz : ∀ n, (w1.drewN n).heap.size = w.heap.size + 1 + 1 := fun n => HS1.out
  rw [hsz] at hr0 hr1 hb
  clear hsz
  have bw := (BR.out.drewN _).below hb (by omega)
  have HB3 : Hid (Below w.heap.size w w3) := Lib.hid ((beld HB1.out _).trans (hb.mono (by omega)))
  have q0 := bw.c 0 rfl
  have q1 := bw.c 1 rfl
  have q2 := bw.c 2 rfl
  have q3 := bw.c 3 rfl
  have q4 := bw.c 4 rfl
  have f0 := bw.f 0 (by simp)
  have f1 := bw.f 1 (by simp)
  have f2 := bw.f 2 (by simp)
  have f3 := bw.f 3 (by simp)
  have f4 := bw.f 4 (by simp)
  have hx0 := hr0.lo x0 rfl
  have hx1 := hr1.lo x1 rfl
  have LOW : ∀ (W : World) (lo : Nat) (v : Value) (zs : List Nat), w.heap.size ≤ lo → RowO W lo v zs → RowO W w.heap.size v zs := fun W lo v zs hl h => (h.frow.mono hl (Nat.le_refl _) (Nat.le_refl _)).1
  have HR0 := Lib.hid (LOW _ _ _ _ (by omega) hr0)
  have HR1 := Lib.hid (LOW _ _ _ _ (by omega) hr1)
  have HY := Lib.hid hY
  have HZ := Lib.hid hZ
  have Hne := Lib.hid hne
  clear LOW hr0 hr1 hY hZ hne hb bw
  obtain ⟨cv, hcv⟩ : ∃ B, canalB N0 N1 N2 Y Z = B := ⟨_, rfl⟩
  rw [hcv]
  have HCV := Lib.hid hcv
  clear hcv
  cases cv
  · go_wp2_with fail
    refine bodyPost_ret (v := .tuple #[.agg #[.float .f32 0, .float .f32 0, .float .f32 0, .slice none 0 0, .slice none 0 0], .bool false]) (by first | (simp [results, Try.results30, go_sem, q0, q1, q2, q3, q4, f0, f1, f2, f3, f4]; done) | (simp (maxDischargeDepth := 12) [results, Try.results30, go_sem, q0, q1, q2, q3, q4, f0, f1, f2, f3, f4]; done) | (simp (maxDischargeDepth := 12) [results, Try.results30, go_sem, q0, q1, q2, q3, q4, f0, f1, f2, f3, f4]; rfl)) rfl ?_
    exact .inr ⟨HV.out, Y, Z, x0, k0, x1, k1, HY.out, HZ.out, by rw [HCV.out]; rfl, (by repeat (first | with_reducible exact HR0.out | with_reducible refine RowO.setFar ?_ (by simp [Value.ownBlock]; omega) _)), (by repeat (first | with_reducible exact HR1.out | with_reducible refine RowO.setFar ?_ (by simp [Value.ownBlock]; omega) _)), Hne.out, (by repeat (first | with_reducible exact HB3.out | with_reducible refine beld ?_ _ | (with_reducible refine Below.alloc ?_ ?_ _; rotate_left; exact (by first | (simp; done) | (simp; omega) | omega)) | (with_reducible refine Below.setCell ?_ ?_ _; rotate_left; exact (by first | (simp; done) | (simp; omega) | omega))))⟩
  · go_wp2_with fail
    refine bodyPost_ret (v := .tuple #[.agg #[.float .f32 n0, .float .f32 n1, .float .f32 n2, .slice (some ⟨x0, 0, none⟩) S.length k0, .slice (some ⟨x1, 0, none⟩) S.length k1], .bool true]) (by first | (simp [results, Try.results30, go_sem, q0, q1, q2, q3, q4, f0, f1, f2, f3, f4]; done) | (simp (maxDischargeDepth := 12) [results, Try.results30, go_sem, q0, q1, q2, q3, q4, f0, f1, f2, f3, f4]; done) | (simp (maxDischargeDepth := 12) [results, Try.results30, go_sem, q0, q1, q2, q3, q4, f0, f1, f2, f3, f4]; rfl)) rfl ?_
    exact .inr ⟨HV.out, Y, Z, x0, k0, x1, k1, HY.out, HZ.out, by rw [HCV.out]; rfl, (by repeat (first | with_reducible exact HR0.out | with_reducible refine RowO.setFar ?_ (by simp [Value.ownBlock]; omega) _)), (by repeat (first | with_reducible exact HR1.out | with_reducible refine RowO.setFar ?_ (by simp [Value.ownBlock]; omega) _)), Hne.out, (by repeat (first | with_reducible exact HB3.out | with_reducible refine beld ?_ _ | (with_reducible refine Below.alloc ?_ ?_ _; rotate_left; exact (by first | (simp; done) | (simp; omega) | omega)) | (with_reducible refine Below.setCell ?_ ?_ _; rotate_left; exact (by first | (simp; done) | (simp; omega) | omega))))⟩

end Go.Proofs.Ytgnkpppbhibfoaa
