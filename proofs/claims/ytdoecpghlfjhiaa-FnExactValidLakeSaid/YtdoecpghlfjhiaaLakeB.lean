/- When a lake is valid: the model. -/
import Derived.Test.YtdoecpghlfjhiaaLakeD
namespace Go.Proofs.Ytdoecpghlfjhiaa
open Go.RowKit
set_option linter.unusedVariables false
set_option linter.unusedSimpArgs false
set_option maxRecDepth 100000
attribute [local irreducible] wpV wpList Code.wp

set_option maxHeartbeats 8000000 in
theorem l05Lake_o (a0 a1 : Option Addr) (c0 c1 : Nat) (S O : List Nat) (w : World) (b : Nat) (hB : Bx w b [.slice a0 S.length c0, .slice a1 O.length c1]) (h0 : RowF .f32 w a0 S) (hl0 : S.length ≤ 1048576) (hz0 : ∀ z ∈ S, z < 4294967296) (h1 : RowF .f32 w a1 O) (hl1 : O.length ≤ 1048576) (hz1 : ∀ z ∈ O, z < 4294967296) :
    Calls Try.prog 72 #[.pointer (some ⟨b, 0, none⟩)] w (SayQ (lakeB S O) w) := by
  obtain ⟨Q, hQ⟩ : ∃ Q, lakeB S O = Q := ⟨_, rfl⟩
  rw [hQ]
  have HQ := Lib.hid hQ
  clear hQ
  have H0 := Lib.hid h0
  have H1 := Lib.hid h1
  have HZ0 := Lib.hid hz0
  have HZ1 := Lib.hid hz1
  clear h0 h1 hz0 hz1
  have hk0 := hB.c 0 rfl
  have hk1 := hB.c 1 rfl
  by_cases q1 : 2 ≤ S.length
  rotate_left
  · have i1 : (S.length : Int) < 2 := by omega
    go_enter Try.func72, Try.ntmps72
    have hv : Q = false := by rw [← HQ.out]; unfold lakeB; rw [decide_eq_false q1]; simp only [Bool.false_and, Bool.and_false]
    have HV := Lib.hid hv
    clear hv
    go_wp2_with fail
    go_ret
    exact ⟨_, HV.out, rfl, 0, rfl⟩
  have i1 : ¬ (S.length : Int) < 2 := by omega
  by_cases q2 : S.length ≤ 16
  rotate_left
  · have i2 : (16 : Int) < (S.length : Int) := by omega
    go_enter Try.func72, Try.ntmps72
    have hv : Q = false := by rw [← HQ.out]; unfold lakeB; rw [decide_eq_false q2]; simp only [Bool.false_and, Bool.and_false]
    have HV := Lib.hid hv
    clear hv
    go_wp2_with fail
    go_ret
    exact ⟨_, HV.out, rfl, 0, rfl⟩
  have i2 : ¬ (16 : Int) < (S.length : Int) := by omega
  by_cases q3 : O.length = S.length
  rotate_left
  · have i3 : ¬ (O.length : Int) = (S.length : Int) := by omega
    go_enter Try.func72, Try.ntmps72
    have hv : Q = false := by rw [← HQ.out]; unfold lakeB; rw [decide_eq_false q3]; simp only [Bool.false_and, Bool.and_false]
    have HV := Lib.hid hv
    clear hv
    go_wp2_with fail
    go_ret
    exact ⟨_, HV.out, rfl, 0, rfl⟩
  rw [q3] at hk1
  obtain ⟨bS, oS, rfl, hbS, hcx⟩ := rows_at H0.out (by omega)
  have HCS := Lib.hid hcx
  clear hcx
  obtain ⟨bO, oO, rfl, hbO, hcx⟩ := rows_at H1.out (by omega)
  have HCO := Lib.hid hcx
  clear hcx
  go_enter Try.func72, Try.ntmps72
  go_wp2_with fail
  go_loopw [30] (fun i wr => ∃ k n : Nat, k ≤ S.length ∧ i = .int .i64 k ∧ Hid ((S.take k).all amtB = true ∧ (O.take k).all amtB = true ∧ upO S O (k - 1) = true) ∧ wr = w.drewN n) (fun i _ => S.length - (intOf i).toNat)
  case atStart => exact ⟨0, 0, Nat.zero_le _, rfl, Lib.hid ⟨rfl, rfl, rfl⟩, rfl⟩
  case round =>
    obtain ⟨k, n, hk, rfl, HA, rfl⟩ := hrel
    by_cases hlt : k < S.length
    · by_cases hk0' : k = 0
      · subst hk0'
        obtain ⟨s1, hs1⟩ : ∃ x, S.getD 0 0 = x := ⟨_, rfl⟩
        have hcs1 : w.cell? ⟨bS, oS, none⟩ = some (.float .f32 s1) := by have h9 := HCS.out 0 (by omega); rw [hs1] at h9; exact h9
        have his1 : Is32 (some s1) s1 := Is32.c (by rw [← hs1]; exact getD_lt HZ0.out _)
        have HWs1 := Lib.hid hs1
        clear hs1
        obtain ⟨t1, ht1⟩ : ∃ x, O.getD 0 0 = x := ⟨_, rfl⟩
        have hct1 : w.cell? ⟨bO, oO, none⟩ = some (.float .f32 t1) := by have h9 := HCO.out 0 (by omega); rw [ht1] at h9; exact h9
        have hit1 : Is32 (some t1) t1 := Is32.c (by rw [← ht1]; exact getD_lt HZ1.out _)
        have HWt1 := Lib.hid ht1
        clear ht1
        have hS0 : (0 : Int) < (S.length : Int) := by omega
        go_wp2_with fail
        any_goals apply wp_region_V (id := 7) (vmap [(7, VB _), (17, VB _)]) (by kernel_rfl) (by kernel_rfl)
        any_goals (refine wpV_go 1 rfl (fun K hK => ?_); go_simp; refine hK.out _ ?_; clear hK K)
        any_goals (refine wpV_go 2 rfl (fun K hK => ?_); go_simp; refine hK.out _ ?_; clear hK K)
        any_goals (refine wpV_go 3 rfl (fun K hK => ?_); go_simp; refine hK.out _ ?_; clear hK K)
        any_goals (refine wpV_go 4 rfl (fun K hK => ?_); go_simp; refine hK.out _ ?_; clear hK K)
        any_goals (refine wpV_go 5 rfl (fun K hK => ?_); go_simp; refine hK.out _ ?_; clear hK K)
        any_goals (refine wpV_go 6 rfl (fun K hK => ?_); go_simp; refine hK.out _ ?_; clear hK K)
        any_goals (refine wpV_go 7 rfl (fun K hK => ?_); go_simp; refine hK.out _ ?_; clear hK K)
        any_goals (first | (refine wpV_say1 8 rfl (u := .float .f32 _) (drewC _) rfl (enters_of Try.func59 (by kernel_rfl) rfl) rfl rfl (fun _ => (l02Least_o _ (by first | assumption | exact Is32.c (by decide)))) rfl ?_; intro bb hbb; cases bb) | (refine wpV_go 8 rfl (fun K hK => ?_); go_simp; refine hK.out _ ?_; clear hK K))
        any_goals (refine wpV_go 9 rfl (fun K hK => ?_); go_simp; refine hK.out _ ?_; clear hK K)
        any_goals (refine wpV_go 10 rfl (fun K hK => ?_); go_simp; refine hK.out _ ?_; clear hK K)
        any_goals (refine wpV_go 11 rfl (fun K hK => ?_); go_simp; refine hK.out _ ?_; clear hK K)
        any_goals (refine wpV_go 12 rfl (fun K hK => ?_); go_simp; refine hK.out _ ?_; clear hK K)
        any_goals (refine wpV_go 13 rfl (fun K hK => ?_); go_simp; refine hK.out _ ?_; clear hK K)
        any_goals (refine wpV_go 14 rfl (fun K hK => ?_); go_simp; refine hK.out _ ?_; clear hK K)
        any_goals (refine wpV_go 15 rfl (fun K hK => ?_); go_simp; refine hK.out _ ?_; clear hK K)
        any_goals (refine wpV_go 16 rfl (fun K hK => ?_); go_simp; refine hK.out _ ?_; clear hK K)
        any_goals (refine wpV_go 17 rfl (fun K hK => ?_); go_simp; refine hK.out _ ?_; clear hK K)
        any_goals (first | ((refine wpV_yes rfl ?_); refine wpV_say1 18 rfl (u := .float .f32 _) (drewC _) rfl (enters_of Try.func59 (by kernel_rfl) rfl) rfl rfl (fun _ => (l02Least_o _ (by first | assumption | exact Is32.c (by decide)))) rfl ?_; intro bb hbb; cases bb) | (refine wpV_go 18 rfl (fun K hK => ?_); go_simp; refine hK.out _ ?_; clear hK K))
        any_goals (refine wpV_go 19 rfl (fun K hK => ?_); go_simp; refine hK.out _ ?_; clear hK K)
        any_goals (refine wpV_go 20 rfl (fun K hK => ?_); go_simp; refine hK.out _ ?_; clear hK K)
        any_goals (refine wpV_go 21 rfl (fun K hK => ?_); go_simp; refine hK.out _ ?_; clear hK K)
        any_goals (refine wpV_go 22 rfl (fun K hK => ?_); go_simp; refine hK.out _ ?_; clear hK K)
        any_goals (first | ((refine wpV_yes rfl ?_); refine wpV_c32 23 rfl _ _ _ _ _ rfl rfl rfl rfl (by decide) (by first | assumption | exact Is32.c (by decide)) (by first | assumption | exact Is32.c (by decide)) rfl ?_; intro bb hbb; cases bb) | (refine wpV_go 23 rfl (fun K hK => ?_); go_simp; refine hK.out _ ?_; clear hK K))
        any_goals (refine wpV_go 24 rfl (fun K hK => ?_); go_simp; refine hK.out _ ?_; clear hK K)
        any_goals (refine wpV_go 25 rfl (fun K hK => ?_); go_simp; refine hK.out _ ?_; clear hK K)
        any_goals (refine wpV_go 26 rfl (fun K hK => ?_); go_simp; refine hK.out _ ?_; clear hK K)
        any_goals (refine wpV_go 27 rfl (fun K hK => ?_); go_simp; refine hK.out _ ?_; clear hK K)
        any_goals (refine wpV_go 28 rfl (fun K hK => ?_); go_simp; refine hK.out _ ?_; clear hK K)
        any_goals (refine wpV_go 29 rfl (fun K hK => ?_); go_simp; refine hK.out _ ?_; clear hK K)
        any_goals (refine wpV_go 30 rfl (fun K hK => ?_); go_simp; refine hK.out _ ?_; clear hK K)
        any_goals (refine wpV_go 31 rfl (fun K hK => ?_); go_simp; refine hK.out _ ?_; clear hK K)
        any_goals (refine wpV_go 32 rfl (fun K hK => ?_); go_simp; refine hK.out _ ?_; clear hK K)
        any_goals (refine wpV_go 33 rfl (fun K hK => ?_); go_simp; refine hK.out _ ?_; clear hK K)
        any_goals (refine wpV_go 34 rfl (fun K hK => ?_); go_simp; refine hK.out _ ?_; clear hK K)
        any_goals (refine wpV_go 35 rfl (fun K hK => ?_); go_simp; refine hK.out _ ?_; clear hK K)
        any_goals (refine wpV_go 36 rfl (fun K hK => ?_); go_simp; refine hK.out _ ?_; clear hK K)
        any_goals (first | ((refine wpV_yes rfl ?_); refine wpV_f32 37 rfl (drewC _) _ _ _ _ _ rfl rfl rfl rfl (by decide) (by first | assumption | exact Is32.c (by decide)) (by first | assumption | exact Is32.c (by decide)) rfl ?_; intro z hz) | (refine wpV_go 37 rfl (fun K hK => ?_); go_simp; refine hK.out _ ?_; clear hK K))
        any_goals (refine wpV_go 38 rfl (fun K hK => ?_); go_simp; refine hK.out _ ?_; clear hK K)
        any_goals (refine wpV_go 39 rfl (fun K hK => ?_); go_simp; refine hK.out _ ?_; clear hK K)
        any_goals (first | ((refine wpV_yes rfl ?_); refine wpV_c32 40 rfl _ _ _ _ _ rfl rfl rfl rfl (by decide) (by first | assumption | exact Is32.c (by decide)) (by first | assumption | exact Is32.c (by decide)) rfl ?_; intro bb hbb; cases bb) | (refine wpV_go 40 rfl (fun K hK => ?_); go_simp; refine hK.out _ ?_; clear hK K))
        any_goals (refine wpV_go 41 rfl (fun K hK => ?_); go_simp; refine hK.out _ ?_; clear hK K)
        any_goals (refine wpV_go 42 rfl (fun K hK => ?_); go_simp; refine hK.out _ ?_; clear hK K)
        any_goals (refine wpV_go 43 rfl (fun K hK => ?_); go_simp; refine hK.out _ ?_; clear hK K)
        any_goals (refine wpV_go 44 rfl (fun K hK => ?_); go_simp; refine hK.out _ ?_; clear hK K)
        any_goals (refine wpV_go 45 rfl (fun K hK => ?_); go_simp; refine hK.out _ ?_; clear hK K)
        any_goals (refine wpV_go 46 rfl (fun K hK => ?_); go_simp; refine hK.out _ ?_; clear hK K)
        any_goals (refine wpV_go 47 rfl (fun K hK => ?_); go_simp; refine hK.out _ ?_; clear hK K)
        any_goals (refine wpV_go 48 rfl (fun K hK => ?_); go_simp; refine hK.out _ ?_; clear hK K)
        any_goals (refine wpV_go 49 rfl (fun K hK => ?_); go_simp; refine hK.out _ ?_; clear hK K)
        any_goals (refine wpV_go 50 rfl (fun K hK => ?_); go_simp; refine hK.out _ ?_; clear hK K)
        any_goals (refine wpV_go 51 rfl (fun K hK => ?_); go_simp; refine hK.out _ ?_; clear hK K)
        any_goals (refine wpV_go 52 rfl (fun K hK => ?_); go_simp; refine hK.out _ ?_; clear hK K)
        any_goals (refine wpV_go 53 rfl (fun K hK => ?_); go_simp; refine hK.out _ ?_; clear hK K)
        any_goals (first | ((refine wpV_yes rfl ?_); refine wpV_f32 54 rfl (drewC _) _ _ _ _ _ rfl rfl rfl rfl (by decide) (by first | assumption | exact Is32.c (by decide)) (by first | assumption | exact Is32.c (by decide)) rfl ?_; intro z hz) | (refine wpV_go 54 rfl (fun K hK => ?_); go_simp; refine hK.out _ ?_; clear hK K))
        any_goals (refine wpV_go 55 rfl (fun K hK => ?_); go_simp; refine hK.out _ ?_; clear hK K)
        any_goals (refine wpV_go 56 rfl (fun K hK => ?_); go_simp; refine hK.out _ ?_; clear hK K)
        any_goals (first | ((refine wpV_yes rfl ?_); refine wpV_c32 57 rfl _ _ _ _ _ rfl rfl rfl rfl (by decide) (by first | assumption | exact Is32.c (by decide)) (by first | assumption | exact Is32.c (by decide)) rfl ?_; intro bb hbb; cases bb) | (refine wpV_go 57 rfl (fun K hK => ?_); go_simp; refine hK.out _ ?_; clear hK K))
        any_goals (refine wpV_go 58 rfl (fun K hK => ?_); go_simp; refine hK.out _ ?_; clear hK K)
        any_goals (refine wpV_go 59 rfl (fun K hK => ?_); go_simp; refine hK.out _ ?_; clear hK K)
        any_goals (refine wpV_go 60 rfl (fun K hK => ?_); go_simp; refine hK.out _ ?_; clear hK K)
        any_goals (refine wpV_nil ?_; intro q)
        any_goals go_wp2_with fail
        all_goals first
          | (go_roundw; (case rel => exact ⟨1, _, by omega, by go_num, Lib.hid ⟨all_take_b S amtB 0 (by omega) HA.out.1 (by rw [HWs1.out]; show amtO (some s1) = true; assumption), all_take_b O amtB 0 (by omega) HA.out.2.1 (by rw [HWt1.out]; show amtO (some t1) = true; assumption), rfl⟩, by first | rfl | rw [World.drewN_drewN]⟩); (case measure => simp [intOf]; omega))
          | (go_ret; exact ⟨_, by first | (rw [← HQ.out]; unfold lakeB; rw [all_no S amtB 0 (by omega) (by rw [HWs1.out]; show amtO (some s1) = false; assumption)]; simp only [Bool.false_and, Bool.and_false]) | (rw [← HQ.out]; unfold lakeB; rw [all_no O amtB 0 (by omega) (by rw [HWt1.out]; show amtO (some t1) = false; assumption)]; simp only [Bool.false_and, Bool.and_false]), rfl, (by first | exact ⟨_, rfl⟩ | exact ⟨0, rfl⟩ | exact drewC _ _ _ ⟨_, rfl⟩ | exact drewC _ _ _ (drewC _ _ _ ⟨_, rfl⟩) | exact drewC _ _ _ (drewC _ _ _ (drewC _ _ _ ⟨_, rfl⟩)))⟩)
      · obtain ⟨m, rfl⟩ : ∃ m, k = m + 1 := ⟨k - 1, by omega⟩
        obtain ⟨s1, hs1⟩ : ∃ x, S.getD (m + 1) 0 = x := ⟨_, rfl⟩
        have hcs1 : w.cell? ⟨bS, oS + (m + 1), none⟩ = some (.float .f32 s1) := by have h9 := HCS.out (m + 1) hlt; rw [hs1] at h9; exact h9
        have his1 : Is32 (some s1) s1 := Is32.c (by rw [← hs1]; exact getD_lt HZ0.out _)
        have HWs1 := Lib.hid hs1
        clear hs1
        obtain ⟨s0, hs0⟩ : ∃ x, S.getD m 0 = x := ⟨_, rfl⟩
        have hcs0 : w.cell? ⟨bS, oS + m, none⟩ = some (.float .f32 s0) := by have h9 := HCS.out m (by omega); rw [hs0] at h9; exact h9
        have his0 : Is32 (some s0) s0 := Is32.c (by rw [← hs0]; exact getD_lt HZ0.out _)
        have HWs0 := Lib.hid hs0
        clear hs0
        obtain ⟨t1, ht1⟩ : ∃ x, O.getD (m + 1) 0 = x := ⟨_, rfl⟩
        have hct1 : w.cell? ⟨bO, oO + (m + 1), none⟩ = some (.float .f32 t1) := by have h9 := HCO.out (m + 1) (by omega); rw [ht1] at h9; exact h9
        have hit1 : Is32 (some t1) t1 := Is32.c (by rw [← ht1]; exact getD_lt HZ1.out _)
        have HWt1 := Lib.hid ht1
        clear ht1
        obtain ⟨t0, ht0⟩ : ∃ x, O.getD m 0 = x := ⟨_, rfl⟩
        have hct0 : w.cell? ⟨bO, oO + m, none⟩ = some (.float .f32 t0) := by have h9 := HCO.out m (by omega); rw [ht0] at h9; exact h9
        have hit0 : Is32 (some t0) t0 := Is32.c (by rw [← ht0]; exact getD_lt HZ1.out _)
        have HWt0 := Lib.hid ht0
        clear ht0
        have hm0 : (0 : Int) ≤ (m : Int) := by omega
        have hm1 : (m : Int) < (S.length : Int) := by omega
        have hm2 : (m : Int) + 1 < (S.length : Int) := by omega
        have hm3 : (0 : Int) ≤ (m : Int) + 1 := by omega
        have hm6 : (0 : Int) < (m : Int) + 1 := by omega
        have hiw : IntKind.i64.wrap (m : Int) = (m : Int) := by rw [IntWalk.i64_in _ (by omega)]
        have hcast : ((m + 1 : Nat) : Int) = (m : Int) + 1 := by omega
        go_wp2_with fail
        any_goals apply wp_region_V (id := 7) (vmap [(7, VB _), (17, VB _)]) (by kernel_rfl) (by kernel_rfl)
        any_goals (refine wpV_go 1 rfl (fun K hK => ?_); go_simp; refine hK.out _ ?_; clear hK K)
        any_goals (refine wpV_go 2 rfl (fun K hK => ?_); go_simp; refine hK.out _ ?_; clear hK K)
        any_goals (refine wpV_go 3 rfl (fun K hK => ?_); go_simp; refine hK.out _ ?_; clear hK K)
        any_goals (refine wpV_go 4 rfl (fun K hK => ?_); go_simp; refine hK.out _ ?_; clear hK K)
        any_goals (refine wpV_go 5 rfl (fun K hK => ?_); go_simp; refine hK.out _ ?_; clear hK K)
        any_goals (refine wpV_go 6 rfl (fun K hK => ?_); go_simp; refine hK.out _ ?_; clear hK K)
        any_goals (refine wpV_go 7 rfl (fun K hK => ?_); go_simp; refine hK.out _ ?_; clear hK K)
        any_goals (first | (refine wpV_say1 8 rfl (u := .float .f32 _) (drewC _) rfl (enters_of Try.func59 (by kernel_rfl) rfl) rfl rfl (fun _ => (l02Least_o _ (by first | assumption | exact Is32.c (by decide)))) rfl ?_; intro bb hbb; cases bb) | (refine wpV_go 8 rfl (fun K hK => ?_); go_simp; refine hK.out _ ?_; clear hK K))
        any_goals (refine wpV_go 9 rfl (fun K hK => ?_); go_simp; refine hK.out _ ?_; clear hK K)
        any_goals (refine wpV_go 10 rfl (fun K hK => ?_); go_simp; refine hK.out _ ?_; clear hK K)
        any_goals (refine wpV_go 11 rfl (fun K hK => ?_); go_simp; refine hK.out _ ?_; clear hK K)
        any_goals (refine wpV_go 12 rfl (fun K hK => ?_); go_simp; refine hK.out _ ?_; clear hK K)
        any_goals (refine wpV_go 13 rfl (fun K hK => ?_); go_simp; refine hK.out _ ?_; clear hK K)
        any_goals (refine wpV_go 14 rfl (fun K hK => ?_); go_simp; refine hK.out _ ?_; clear hK K)
        any_goals (refine wpV_go 15 rfl (fun K hK => ?_); go_simp; refine hK.out _ ?_; clear hK K)
        any_goals (refine wpV_go 16 rfl (fun K hK => ?_); go_simp; refine hK.out _ ?_; clear hK K)
        any_goals (refine wpV_go 17 rfl (fun K hK => ?_); go_simp; refine hK.out _ ?_; clear hK K)
        any_goals (first | ((refine wpV_yes rfl ?_); refine wpV_say1 18 rfl (u := .float .f32 _) (drewC _) rfl (enters_of Try.func59 (by kernel_rfl) rfl) rfl rfl (fun _ => (l02Least_o _ (by first | assumption | exact Is32.c (by decide)))) rfl ?_; intro bb hbb; cases bb) | (refine wpV_go 18 rfl (fun K hK => ?_); go_simp; refine hK.out _ ?_; clear hK K))
        any_goals (refine wpV_go 19 rfl (fun K hK => ?_); go_simp; refine hK.out _ ?_; clear hK K)
        any_goals (refine wpV_go 20 rfl (fun K hK => ?_); go_simp; refine hK.out _ ?_; clear hK K)
        any_goals (refine wpV_go 21 rfl (fun K hK => ?_); go_simp; refine hK.out _ ?_; clear hK K)
        any_goals (refine wpV_go 22 rfl (fun K hK => ?_); go_simp; refine hK.out _ ?_; clear hK K)
        any_goals (first | ((refine wpV_yes rfl ?_); refine wpV_c32 23 rfl _ _ _ _ _ rfl rfl rfl rfl (by decide) (by first | assumption | exact Is32.c (by decide)) (by first | assumption | exact Is32.c (by decide)) rfl ?_; intro bb hbb; cases bb) | (refine wpV_go 23 rfl (fun K hK => ?_); go_simp; refine hK.out _ ?_; clear hK K))
        any_goals (refine wpV_go 24 rfl (fun K hK => ?_); go_simp; refine hK.out _ ?_; clear hK K)
        any_goals (refine wpV_go 25 rfl (fun K hK => ?_); go_simp; refine hK.out _ ?_; clear hK K)
        any_goals (refine wpV_go 26 rfl (fun K hK => ?_); go_simp; refine hK.out _ ?_; clear hK K)
        any_goals (refine wpV_go 27 rfl (fun K hK => ?_); go_simp; refine hK.out _ ?_; clear hK K)
        any_goals (refine wpV_go 28 rfl (fun K hK => ?_); go_simp; refine hK.out _ ?_; clear hK K)
        any_goals (refine wpV_go 29 rfl (fun K hK => ?_); go_simp; refine hK.out _ ?_; clear hK K)
        any_goals (refine wpV_go 30 rfl (fun K hK => ?_); go_simp; refine hK.out _ ?_; clear hK K)
        any_goals (refine wpV_go 31 rfl (fun K hK => ?_); go_simp; refine hK.out _ ?_; clear hK K)
        any_goals (refine wpV_go 32 rfl (fun K hK => ?_); go_simp; refine hK.out _ ?_; clear hK K)
        any_goals (refine wpV_go 33 rfl (fun K hK => ?_); go_simp; refine hK.out _ ?_; clear hK K)
        any_goals (refine wpV_go 34 rfl (fun K hK => ?_); go_simp; refine hK.out _ ?_; clear hK K)
        any_goals (refine wpV_go 35 rfl (fun K hK => ?_); go_simp; refine hK.out _ ?_; clear hK K)
        any_goals (refine wpV_go 36 rfl (fun K hK => ?_); go_simp; refine hK.out _ ?_; clear hK K)
        any_goals (first | ((refine wpV_yes rfl ?_); refine wpV_f32 37 rfl (drewC _) _ _ _ _ _ rfl rfl rfl rfl (by decide) (by first | assumption | exact Is32.c (by decide)) (by first | assumption | exact Is32.c (by decide)) rfl ?_; intro z hz) | (refine wpV_go 37 rfl (fun K hK => ?_); go_simp; refine hK.out _ ?_; clear hK K))
        any_goals (refine wpV_go 38 rfl (fun K hK => ?_); go_simp; refine hK.out _ ?_; clear hK K)
        any_goals (refine wpV_go 39 rfl (fun K hK => ?_); go_simp; refine hK.out _ ?_; clear hK K)
        any_goals (first | ((refine wpV_yes rfl ?_); refine wpV_c32 40 rfl _ _ _ _ _ rfl rfl rfl rfl (by decide) (by first | assumption | exact Is32.c (by decide)) (by first | assumption | exact Is32.c (by decide)) rfl ?_; intro bb hbb; cases bb) | (refine wpV_go 40 rfl (fun K hK => ?_); go_simp; refine hK.out _ ?_; clear hK K))
        any_goals (refine wpV_go 41 rfl (fun K hK => ?_); go_simp; refine hK.out _ ?_; clear hK K)
        any_goals (refine wpV_go 42 rfl (fun K hK => ?_); go_simp; refine hK.out _ ?_; clear hK K)
        any_goals (refine wpV_go 43 rfl (fun K hK => ?_); go_simp; refine hK.out _ ?_; clear hK K)
        any_goals (refine wpV_go 44 rfl (fun K hK => ?_); go_simp; refine hK.out _ ?_; clear hK K)
        any_goals (refine wpV_go 45 rfl (fun K hK => ?_); go_simp; refine hK.out _ ?_; clear hK K)
        any_goals (refine wpV_go 46 rfl (fun K hK => ?_); go_simp; refine hK.out _ ?_; clear hK K)
        any_goals (refine wpV_go 47 rfl (fun K hK => ?_); go_simp; refine hK.out _ ?_; clear hK K)
        any_goals (refine wpV_go 48 rfl (fun K hK => ?_); go_simp; refine hK.out _ ?_; clear hK K)
        any_goals (refine wpV_go 49 rfl (fun K hK => ?_); go_simp; refine hK.out _ ?_; clear hK K)
        any_goals (refine wpV_go 50 rfl (fun K hK => ?_); go_simp; refine hK.out _ ?_; clear hK K)
        any_goals (refine wpV_go 51 rfl (fun K hK => ?_); go_simp; refine hK.out _ ?_; clear hK K)
        any_goals (refine wpV_go 52 rfl (fun K hK => ?_); go_simp; refine hK.out _ ?_; clear hK K)
        any_goals (refine wpV_go 53 rfl (fun K hK => ?_); go_simp; refine hK.out _ ?_; clear hK K)
        any_goals (first | ((refine wpV_yes rfl ?_); refine wpV_f32 54 rfl (drewC _) _ _ _ _ _ rfl rfl rfl rfl (by decide) (by first | assumption | exact Is32.c (by decide)) (by first | assumption | exact Is32.c (by decide)) rfl ?_; intro z hz) | (refine wpV_go 54 rfl (fun K hK => ?_); go_simp; refine hK.out _ ?_; clear hK K))
        any_goals (refine wpV_go 55 rfl (fun K hK => ?_); go_simp; refine hK.out _ ?_; clear hK K)
        any_goals (refine wpV_go 56 rfl (fun K hK => ?_); go_simp; refine hK.out _ ?_; clear hK K)
        any_goals (first | ((refine wpV_yes rfl ?_); refine wpV_c32 57 rfl _ _ _ _ _ rfl rfl rfl rfl (by decide) (by first | assumption | exact Is32.c (by decide)) (by first | assumption | exact Is32.c (by decide)) rfl ?_; intro bb hbb; cases bb) | (refine wpV_go 57 rfl (fun K hK => ?_); go_simp; refine hK.out _ ?_; clear hK K))
        any_goals (refine wpV_go 58 rfl (fun K hK => ?_); go_simp; refine hK.out _ ?_; clear hK K)
        any_goals (refine wpV_go 59 rfl (fun K hK => ?_); go_simp; refine hK.out _ ?_; clear hK K)
        any_goals (refine wpV_go 60 rfl (fun K hK => ?_); go_simp; refine hK.out _ ?_; clear hK K)
        any_goals (refine wpV_nil ?_; intro q)
        any_goals go_wp2_with fail
        all_goals first
          | (go_roundw; (case rel => exact ⟨m + 2, _, by omega, by go_num, Lib.hid ⟨all_take_b S amtB (m + 1) (by omega) HA.out.1 (by rw [HWs1.out]; show amtO (some s1) = true; assumption), all_take_b O amtB (m + 1) (by omega) HA.out.2.1 (by rw [HWt1.out]; show amtO (some t1) = true; assumption), upO_succ HA.out.2.2 (by unfold upB; rw [HWs1.out, HWs0.out, HWt1.out, HWt0.out]; simp [*])⟩, by first | rfl | rw [World.drewN_drewN]⟩); (case measure => simp [intOf]; omega))
          | (go_ret; exact ⟨_, by first | (rw [← HQ.out]; unfold lakeB; rw [all_no S amtB (m + 1) (by omega) (by rw [HWs1.out]; show amtO (some s1) = false; assumption)]; simp only [Bool.false_and, Bool.and_false]) | (rw [← HQ.out]; unfold lakeB; rw [all_no O amtB (m + 1) (by omega) (by rw [HWt1.out]; show amtO (some t1) = false; assumption)]; simp only [Bool.false_and, Bool.and_false]) | (rw [← HQ.out]; unfold lakeB; rw [upO_no (S := S) (O := O) (k := m) (n := S.length - 1) (by omega) (by unfold upB; rw [HWs1.out, HWs0.out, HWt1.out, HWt0.out]; simp [*])]; simp only [Bool.false_and, Bool.and_false]), rfl, (by first | exact ⟨_, rfl⟩ | exact ⟨0, rfl⟩ | exact drewC _ _ _ ⟨_, rfl⟩ | exact drewC _ _ _ (drewC _ _ _ ⟨_, rfl⟩) | exact drewC _ _ _ (drewC _ _ _ (drewC _ _ _ ⟨_, rfl⟩)))⟩)
    · have hkS : k = S.length := by omega
      subst hkS
      have ha := HA.out
      rw [List.take_length, List.take_of_length_le (by omega)] at ha
      have HAA := Lib.hid ha
      clear ha
      go_wp2_with fail
      go_ret
      exact ⟨_, by rw [← HQ.out]; unfold lakeB; rw [decide_eq_true q1, decide_eq_true q2, decide_eq_true q3, HAA.out.1, HAA.out.2.1, HAA.out.2.2]; rfl, rfl, _, rfl⟩

set_option maxHeartbeats 400000 in
theorem validLake_s (a0 a1 : Option Addr) (c0 c1 : Nat) (S O : List Nat) (w : World) (h0 : RowF .f32 w a0 S) (hl0 : S.length ≤ 1048576) (hz0 : ∀ z ∈ S, z < 4294967296) (h1 : RowF .f32 w a1 O) (hl1 : O.length ≤ 1048576) (hz1 : ∀ z ∈ O, z < 4294967296) :
    Calls Try.prog 41 #[.agg #[.slice a0 S.length c0, .slice a1 O.length c1]] w (SayB (lakeB S O) w) := by
  have H0 := Lib.hid h0
  have H1 := Lib.hid h1
  clear h0 h1
  go_enter Try.func41, Try.ntmps41
  go_wp2_with fail
  refine (l05Lake_o a0 a1 c0 c1 S O _ w.heap.size (Bx.new w [.slice a0 S.length c0, .slice a1 O.length c1] _) (H0.out.below (bel1 _ _) (Nat.le_refl _)) hl0 hz0 (H1.out.below (bel1 _ _) (Nat.le_refl _)) hl1 hz1).mono ?_
  rintro e w1 ⟨bb, hbb, rfl, q, rfl⟩
  have Hbb := Lib.hid hbb
  clear hbb
  go_wp2_with fail
  go_ret
  exact ⟨_, Hbb.out, rfl, beld (bel1 _ _) _⟩

end Go.Proofs.Ytdoecpghlfjhiaa
