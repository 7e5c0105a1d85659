/- The energy of a canal: the model. -/
import Derived.Test.YtdoecpghlfjhiaaCanalE
import Derived.Test.YtdoecpghlfjhiaaCanalB
namespace Go.Proofs.Ytdoecpghlfjhiaa
open Go.RowKit
set_option linter.unusedVariables false
set_option linter.unusedSimpArgs false
set_option maxRecDepth 100000
attribute [local irreducible] wpV wpList Code.wp

set_option maxHeartbeats 8000000 in
theorem energyOfCanal_s {N0 N1 N2 : Option Nat} {n0 n1 n2 : Nat} (a0 a1 : Option Addr) (c0 c1 : Nat) (S O : List Nat) (w : World) (g0 : Is32 N0 n0) (g1 : Is32 N1 n1) (g2 : Is32 N2 n2) (h0 : RowF .f32 w a0 S) (hl0 : S.length ≤ 1048576) (hz0 : ∀ z ∈ S, z < 4294967296) (h1 : RowF .f32 w a1 O) (hl1 : O.length ≤ 1048576) (hz1 : ∀ z ∈ O, z < 4294967296) :
    Calls Try.prog 36 #[.agg #[.float .f32 n0, .float .f32 n1, .float .f32 n2, .slice a0 S.length c0, .slice a1 O.length c1]] w (OnlyB (energyO N0 N1 N2 S O) w) := by
  have H0 := Lib.hid h0
  have H1 := Lib.hid h1
  have HZ0 := Lib.hid hz0
  have HZ1 := Lib.hid hz1
  clear h0 h1 hz0 hz1
  go_enter Try.func36, Try.ntmps36
  go_wp2_with fail
  refine (l05Canal_o a0 a1 c0 c1 S O _ w.heap.size (Bx.new w [.float .f32 n0, .float .f32 n1, .float .f32 n2, .slice a0 S.length c0, .slice a1 O.length c1] _) g0 g1 g2 (H0.out.below (bel1 _ _) (Nat.le_refl _)) hl0 HZ0.out (H1.out.below (bel1 _ _) (Nat.le_refl _)) hl1 HZ1.out).mono ?_
  rintro e w1 ⟨bb, hbb, rfl, q, hw1⟩
  have HB1 : Hid (Below w.heap.size w w1) := Lib.hid (by rw [hw1]; exact beld (bel1 _ _) _)
  have HX1 : Hid (Bx w1 w.heap.size [.float .f32 n0, .float .f32 n1, .float .f32 n2, .slice a0 S.length c0, .slice a1 O.length c1]) := Lib.hid (by rw [hw1]; exact Bx.drewN (Bx.new w [.float .f32 n0, .float .f32 n1, .float .f32 n2, .slice a0 S.length c0, .slice a1 O.length c1] _) _)
  have Hbb := Lib.hid hbb
  clear hbb hw1
  cases bb
  · have hv : energyO N0 N1 N2 S O = (some 0, false) := by unfold energyO; rw [Hbb.out]; rfl
    have HV := Lib.hid hv
    clear hv
    go_wp2_with fail
    go_ret2
    exact ⟨_, _, rfl, by rw [HV.out], by rw [HV.out]; exact Is32.c (by decide), HB1.out⟩
  have hq := Hbb.out
  unfold canalB at hq
  simp only [Bool.and_eq_true, decide_eq_true_eq] at hq
  have hS1 : 1 ≤ S.length := by have := hq.1.1.1.2.1; omega
  have q3 : O.length = S.length := hq.1.1.2
  clear hq
  have hv : energyO N0 N1 N2 S O = onlyO (enIt N0 N1 S O S.length) := by unfold energyO; rw [Hbb.out]; rfl
  have HV := Lib.hid hv
  clear hv
  have hk0 := HX1.out.c 0 rfl
  have hk1 := HX1.out.c 1 rfl
  have hk2 := HX1.out.c 2 rfl
  have hk3 := HX1.out.c 3 rfl
  have hk4 := HX1.out.c 4 rfl
  rw [q3] at hk4
  have h0 := H0.out.below HB1.out (Nat.le_refl _)
  have h1 := H1.out.below HB1.out (Nat.le_refl _)
  clear H0 H1 HX1
  have H0 := Lib.hid h0
  have H1 := Lib.hid h1
  clear h0 h1
  obtain ⟨bS, oS, rfl, hbS, hcx⟩ := rows_at H0.out (by omega)
  have HCS := Lib.hid hcx
  clear hcx
  obtain ⟨bO, oO, rfl, hbO, hcx⟩ := rows_at H1.out (by omega)
  have HCO := Lib.hid hcx
  clear hcx
  have Q3 := Lib.hid q3
  clear q3
  go_wp2_with fail
  go_loopw [4, 13] (fun s i wr => ∃ (k y : Nat), k ≤ S.length ∧ i = .int .i64 k ∧ s = .float .f32 y ∧ Hid (Is32 (enIt N0 N1 S O k) y) ∧ ∃ n, wr = w1.drewN n) (fun _ i _ => S.length - (intOf i).toNat)
  case atStart => exact ⟨0, 0, Nat.zero_le _, rfl, rfl, Lib.hid (Is32.c (by decide)), 0, rfl⟩
  case round =>
    obtain ⟨k, y, hk, rfl, rfl, HY, n, rfl⟩ := hrel
    by_cases hlt : k < S.length
    · obtain ⟨h1, hh1⟩ : ∃ x, S.getD k 0 = x := ⟨_, rfl⟩
      have hch1 : w1.cell? ⟨bS, oS + k, none⟩ = some (.float .f32 h1) := by have h9 := HCS.out k hlt; rw [hh1] at h9; exact h9
      have hih1 : Is32 (some h1) h1 := Is32.c (by rw [← hh1]; exact getD_lt HZ0.out _)
      have HWh1 := Lib.hid hh1
      clear hh1
      obtain ⟨f1, hf1⟩ : ∃ x, O.getD k 0 = x := ⟨_, rfl⟩
      have hcf1 : w1.cell? ⟨bO, oO + k, none⟩ = some (.float .f32 f1) := by have h9 := HCO.out k (by have := Q3.out; omega); rw [hf1] at h9; exact h9
      have hif1 : Is32 (some f1) f1 := Is32.c (by rw [← hf1]; exact getD_lt HZ1.out _)
      have HWf1 := Lib.hid hf1
      clear hf1
      have hkv : (k : Int) < (S.length : Int) := by omega
      have hy := HY.out
      go_wp2_with (first | ((with_reducible refine wpList_bin ?_); refine wpList_f32 rfl _ _ _ _ _ rfl rfl rfl (by decide) (by first | assumption | exact Is32.c (by decide)) (by first | assumption | exact Is32.c (by decide)) ?_; intro z n hz) | ((with_reducible refine wpList_bin ?_); refine wpList_c32 rfl _ _ _ _ _ rfl rfl rfl (by decide) (by first | assumption | exact Is32.c (by decide)) (by first | assumption | exact Is32.c (by decide)) ?_; intro bb hbb; cases bb))
      any_goals apply wp_region_V (id := 7) (vmap [(10, V32k _), (11, V32k _)]) (by kernel_rfl) (by kernel_rfl)
      any_goals (refine wpV_go 1 rfl (fun K hK => ?_); go_simp; refine hK.out _ ?_; clear hK K)
      any_goals (refine wpV_go 2 rfl (fun K hK => ?_); go_simp; refine hK.out _ ?_; clear hK K)
      any_goals (refine wpV_go 3 rfl (fun K hK => ?_); go_simp; refine hK.out _ ?_; clear hK K)
      any_goals (refine wpV_go 4 rfl (fun K hK => ?_); go_simp; refine hK.out _ ?_; clear hK K)
      any_goals (refine wpV_go 5 rfl (fun K hK => ?_); go_simp; refine hK.out _ ?_; clear hK K)
      any_goals (refine wpV_go 6 rfl (fun K hK => ?_); go_simp; refine hK.out _ ?_; clear hK K)
      any_goals (refine wpV_go 7 rfl (fun K hK => ?_); go_simp; refine hK.out _ ?_; clear hK K)
      any_goals (refine wpV_go 8 rfl (fun K hK => ?_); go_simp; refine hK.out _ ?_; clear hK K)
      any_goals (refine wpV_go 9 rfl (fun K hK => ?_); go_simp; refine hK.out _ ?_; clear hK K)
      any_goals (refine wpV_go 10 rfl (fun K hK => ?_); go_simp; refine hK.out _ ?_; clear hK K)
      any_goals (first | (refine wpV_f32 11 rfl (drewC _) _ _ _ _ _ rfl rfl rfl rfl (by decide) (by first | assumption | exact Is32.c (by decide)) (by first | assumption | exact Is32.c (by decide)) rfl ?_; intro z hz) | (refine wpV_go 11 rfl (fun K hK => ?_); go_simp; refine hK.out _ ?_; clear hK K))
      any_goals (first | (refine wpV_f32 12 rfl (drewC _) _ _ _ _ _ rfl rfl rfl rfl (by decide) (by first | assumption | exact Is32.c (by decide)) (by first | assumption | exact Is32.c (by decide)) rfl ?_; intro z hz) | (refine wpV_go 12 rfl (fun K hK => ?_); go_simp; refine hK.out _ ?_; clear hK K))
      any_goals (refine wpV_go 13 rfl (fun K hK => ?_); go_simp; refine hK.out _ ?_; clear hK K)
      any_goals (refine wpV_nil ?_; intro q)
      any_goals go_wp2_with (first | ((with_reducible refine wpList_bin ?_); refine wpList_f32 rfl _ _ _ _ _ rfl rfl rfl (by decide) (by first | assumption | exact Is32.c (by decide)) (by first | assumption | exact Is32.c (by decide)) ?_; intro z n hz) | ((with_reducible refine wpList_bin ?_); refine wpList_c32 rfl _ _ _ _ _ rfl rfl rfl (by decide) (by first | assumption | exact Is32.c (by decide)) (by first | assumption | exact Is32.c (by decide)) ?_; intro bb hbb; cases bb))
      any_goals apply wp_region_V (id := 8) (vmap [(10, V32k _), (11, V32k _), (14, V32k _)]) (by kernel_rfl) (by kernel_rfl)
      any_goals (refine wpV_go 1 rfl (fun K hK => ?_); go_simp; refine hK.out _ ?_; clear hK K)
      any_goals (refine wpV_go 2 rfl (fun K hK => ?_); go_simp; refine hK.out _ ?_; clear hK K)
      any_goals (refine wpV_go 3 rfl (fun K hK => ?_); go_simp; refine hK.out _ ?_; clear hK K)
      any_goals (refine wpV_go 4 rfl (fun K hK => ?_); go_simp; refine hK.out _ ?_; clear hK K)
      any_goals (refine wpV_go 5 rfl (fun K hK => ?_); go_simp; refine hK.out _ ?_; clear hK K)
      any_goals (refine wpV_go 6 rfl (fun K hK => ?_); go_simp; refine hK.out _ ?_; clear hK K)
      any_goals (refine wpV_go 7 rfl (fun K hK => ?_); go_simp; refine hK.out _ ?_; clear hK K)
      any_goals (refine wpV_go 8 rfl (fun K hK => ?_); go_simp; refine hK.out _ ?_; clear hK K)
      any_goals (refine wpV_go 9 rfl (fun K hK => ?_); go_simp; refine hK.out _ ?_; clear hK K)
      any_goals (refine wpV_go 10 rfl (fun K hK => ?_); go_simp; refine hK.out _ ?_; clear hK K)
      any_goals (first | (refine wpV_f32 11 rfl (drewC _) _ _ _ _ _ rfl rfl rfl rfl (by decide) (by first | assumption | exact Is32.c (by decide)) (by first | assumption | exact Is32.c (by decide)) rfl ?_; intro z hz) | (refine wpV_go 11 rfl (fun K hK => ?_); go_simp; refine hK.out _ ?_; clear hK K))
      any_goals (first | (refine wpV_f32 12 rfl (drewC _) _ _ _ _ _ rfl rfl rfl rfl (by decide) (by first | assumption | exact Is32.c (by decide)) (by first | assumption | exact Is32.c (by decide)) rfl ?_; intro z hz) | (refine wpV_go 12 rfl (fun K hK => ?_); go_simp; refine hK.out _ ?_; clear hK K))
      any_goals (refine wpV_go 13 rfl (fun K hK => ?_); go_simp; refine hK.out _ ?_; clear hK K)
      any_goals (refine wpV_go 14 rfl (fun K hK => ?_); go_simp; refine hK.out _ ?_; clear hK K)
      any_goals (first | (refine wpV_f32 15 rfl (drewC _) _ _ _ _ _ rfl rfl rfl rfl (by decide) (by first | assumption | exact Is32.c (by decide)) (by first | assumption | exact Is32.c (by decide)) rfl ?_; intro z hz) | (refine wpV_go 15 rfl (fun K hK => ?_); go_simp; refine hK.out _ ?_; clear hK K))
      any_goals (refine wpV_go 16 rfl (fun K hK => ?_); go_simp; refine hK.out _ ?_; clear hK K)
      any_goals (refine wpV_nil ?_; intro q)
      any_goals go_wp2_with (first | ((with_reducible refine wpList_bin ?_); refine wpList_f32 rfl _ _ _ _ _ rfl rfl rfl (by decide) (by first | assumption | exact Is32.c (by decide)) (by first | assumption | exact Is32.c (by decide)) ?_; intro z n hz) | ((with_reducible refine wpList_bin ?_); refine wpList_c32 rfl _ _ _ _ _ rfl rfl rfl (by decide) (by first | assumption | exact Is32.c (by decide)) (by first | assumption | exact Is32.c (by decide)) ?_; intro bb hbb; cases bb))
      go_roundw
      case rel => exact ⟨k + 1, _, by omega, by go_num, rfl, Lib.hid (by unfold enIt enT; rw [HWh1.out, HWf1.out]; assumption), (by repeat (first | with_reducible exact ⟨_, rfl⟩ | refine drewC _ _ _ ?_))⟩
      case measure => simp [intOf]; omega
    · have hkS : k = S.length := by omega
      subst hkS
      go_wp2_with fail
      refine (l02Number_o _ HY.out).mono ?_
      rintro e w2 ⟨z2, bb, rfl, hbb, hz2, q4, rfl⟩
      have Hz2 := Lib.hid hz2
      have Hb2 := Lib.hid hbb
      clear hz2 hbb
      go_wp2_with fail
      go_ret2
      exact ⟨_, _, rfl, by rw [HV.out]; exact Hb2.out, by rw [HV.out]; exact Hz2.out, (by repeat (first | with_reducible exact HB1.out | with_reducible refine beld ?_ _ | (with_reducible refine Below.alloc ?_ ?_ _; rotate_left; exact (by first | (simp; done) | (simp; omega) | omega)) | (with_reducible refine Below.setCell ?_ ?_ _; rotate_left; exact (by first | (simp; done) | (simp; omega) | omega))))⟩

end Go.Proofs.Ytdoecpghlfjhiaa
