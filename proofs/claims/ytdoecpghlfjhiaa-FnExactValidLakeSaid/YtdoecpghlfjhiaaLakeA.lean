/- When a lake is valid: the program. -/
import Derived.Test.YtdoecpghlfjhiaaLakeD
namespace Go.Proofs.Ytdoecpghlfjhiaa
open Go.RowKit
set_option linter.unusedVariables false
set_option linter.unusedSimpArgs false
set_option maxRecDepth 100000
attribute [local irreducible] wpV wpList Code.wp

set_option maxHeartbeats 4000000 in
theorem validLake_i (a0 a1 : Option Addr) (c0 c1 : Nat) (S O : List Nat) (w : World) (h0 : RowF .f32 w a0 S) (hl0 : S.length ≤ 1048576) (hz0 : ∀ z ∈ S, z < 4294967296) (h1 : RowF .f32 w a1 O) (hl1 : O.length ≤ 1048576) (hz1 : ∀ z ∈ O, z < 4294967296) :
    Calls Try.prog 43 #[.agg #[.slice a0 S.length c0, .slice a1 O.length c1]] w (SayB (lakeB S O) w) := by
  obtain ⟨Q, hQ⟩ : ∃ Q, lakeB S O = Q := ⟨_, rfl⟩
  rw [hQ]
  have HQ := Lib.hid hQ
  clear hQ
  have H0 := Lib.hid h0
  have H1 := Lib.hid h1
  have HZ0 := Lib.hid hz0
  have HZ1 := Lib.hid hz1
  clear h0 h1 hz0 hz1
  by_cases q1 : 2 ≤ S.length
  rotate_left
  · have i1 : (S.length : Int) < 2 := by omega
    go_enter Try.func43, Try.ntmps43
    have hv : Q = false := by rw [← HQ.out]; unfold lakeB; rw [decide_eq_false q1]; simp only [Bool.false_and, Bool.and_false]
    have HV := Lib.hid hv
    clear hv
    go_wp2_with fail
    go_ret
    exact ⟨_, HV.out, rfl, (by repeat (first | with_reducible exact Below.refl _ _ | with_reducible refine beld ?_ _ | (with_reducible refine Below.alloc ?_ ?_ _; rotate_left; exact (by first | (simp; done) | (simp; omega) | omega)) | (with_reducible refine Below.setCell ?_ ?_ _; rotate_left; exact (by first | (simp; done) | (simp; omega) | omega))))⟩
  have i1 : ¬ (S.length : Int) < 2 := by omega
  by_cases q2 : S.length ≤ 16
  rotate_left
  · have i2 : (16 : Int) < (S.length : Int) := by omega
    go_enter Try.func43, Try.ntmps43
    have hv : Q = false := by rw [← HQ.out]; unfold lakeB; rw [decide_eq_false q2]; simp only [Bool.false_and, Bool.and_false]
    have HV := Lib.hid hv
    clear hv
    go_wp2_with fail
    go_ret
    exact ⟨_, HV.out, rfl, (by repeat (first | with_reducible exact Below.refl _ _ | with_reducible refine beld ?_ _ | (with_reducible refine Below.alloc ?_ ?_ _; rotate_left; exact (by first | (simp; done) | (simp; omega) | omega)) | (with_reducible refine Below.setCell ?_ ?_ _; rotate_left; exact (by first | (simp; done) | (simp; omega) | omega))))⟩
  have i2 : ¬ (16 : Int) < (S.length : Int) := by omega
  by_cases q3 : O.length = S.length
  rotate_left
  · have i3 : ¬ (O.length : Int) = (S.length : Int) := by omega
    go_enter Try.func43, Try.ntmps43
    have hv : Q = false := by rw [← HQ.out]; unfold lakeB; rw [decide_eq_false q3]; simp only [Bool.false_and, Bool.and_false]
    have HV := Lib.hid hv
    clear hv
    go_wp2_with fail
    go_ret
    exact ⟨_, HV.out, rfl, (by repeat (first | with_reducible exact Below.refl _ _ | with_reducible refine beld ?_ _ | (with_reducible refine Below.alloc ?_ ?_ _; rotate_left; exact (by first | (simp; done) | (simp; omega) | omega)) | (with_reducible refine Below.setCell ?_ ?_ _; rotate_left; exact (by first | (simp; done) | (simp; omega) | omega))))⟩
  rw [q3]
  go_enter Try.func43, Try.ntmps43
  go_wp2_with fail
  refine (allOf_f 61 amtB (enters_of Try.func61 (by kernel_rfl) rfl) a0 c0 S _ (fun z hz W => isAmount_o W (Is32.c hz)) (H0.out.below (by repeat (first | with_reducible exact Below.refl _ _ | with_reducible refine beld ?_ _ | (with_reducible refine Below.alloc ?_ ?_ _; rotate_left; exact (by first | (simp; done) | (simp; omega) | omega)) | (with_reducible refine Below.setCell ?_ ?_ _; rotate_left; exact (by first | (simp; done) | (simp; omega) | omega)))) (Nat.le_refl _)) hl0 HZ0.out).mono ?_
  rintro e w1 ⟨bb, hbb, rfl, hb⟩
  have HB1 : Hid (Below w.heap.size w w1) := Lib.hid (Below.trans (bel1 _ _) (hb.mono (by simp)))
  have bx : Bx w1 (w.heap.size) [.slice a0 S.length c0, .slice a1 S.length c1] := Bx.below (Bx.new w [.slice a0 S.length c0, .slice a1 S.length c1] _) hb (by simp)
  have hk0 := bx.c 0 rfl
  have hk1 := bx.c 1 rfl
  have BXw1 := Lib.hid bx
  clear bx
  have Hs := Lib.hid hbb
  clear hbb hb
  cases bb
  · have hv : Q = false := by rw [← HQ.out]; unfold lakeB; rw [Hs.out]; simp only [Bool.false_and, Bool.and_false]
    have HV := Lib.hid hv
    clear hv
    go_wp2_with fail
    go_ret
    exact ⟨_, HV.out, rfl, HB1.out⟩
  go_wp2_with fail
  refine (by have h9 := (allOf_f 61 amtB (enters_of Try.func61 (by kernel_rfl) rfl) a1 c1 O w1 (fun z hz W => isAmount_o W (Is32.c hz)) (H1.out.below HB1.out (Nat.le_refl _)) hl1 HZ1.out); rw [q3] at h9; exact h9 : Calls Try.prog 73 #[.slice a1 S.length c1, .func (.func 61) #[] #[]] w1 (SayB (O.all amtB) w1)).mono ?_
  rintro e w2 ⟨bb, hbb, rfl, hb⟩
  have HB2 : Hid (Below w.heap.size w w2) := Lib.hid (HB1.out.trans (hb.mono HB1.out.size))
  clear hk0 hk1
  have bx : Bx w2 (w.heap.size) [.slice a0 S.length c0, .slice a1 S.length c1] := Bx.below BXw1.out hb BXw1.out.1
  have hk0 := bx.c 0 rfl
  have hk1 := bx.c 1 rfl
  have BXw2 := Lib.hid bx
  clear bx
  have Ho := Lib.hid hbb
  clear hbb hb
  cases bb
  · have hv : Q = false := by rw [← HQ.out]; unfold lakeB; rw [Ho.out]; simp only [Bool.false_and, Bool.and_false]
    have HV := Lib.hid hv
    clear hv
    go_wp2_with fail
    go_ret
    exact ⟨_, HV.out, rfl, HB2.out⟩
  have hv : Q = upO S O (S.length - 1) := by rw [← HQ.out]; unfold lakeB; rw [decide_eq_true q1, decide_eq_true q2, decide_eq_true q3, Hs.out, Ho.out]; rfl
  have HV := Lib.hid hv
  clear hv
  obtain ⟨bS, oS, rfl, hbS, hcx⟩ := rows_at H0.out (by omega)
  have HCS := Lib.hid hcx
  clear hcx
  obtain ⟨bO, oO, rfl, hbO, hcx⟩ := rows_at H1.out (by omega)
  have HCO := Lib.hid hcx
  clear hcx
  clear hk0 hk1
  have hk0 := BXw2.out.c 0 rfl
  have hk1 := BXw2.out.c 1 rfl
  go_wp2_with fail
  clear hk0 hk1
  go_loopw [4] (fun i wr => ∃ m : Nat, m + 1 ≤ S.length ∧ i = .int .i64 ((m : Int) + 1) ∧ Hid (upO S O m = true) ∧ Hid (Bx wr w.heap.size [.slice (some ⟨bS, oS, none⟩) S.length c0, .slice (some ⟨bO, oO, none⟩) S.length c1]) ∧ Hid (Below w.heap.size w wr)) (fun i _ => S.length - (intOf i).toNat)
  case atStart => exact ⟨0, by omega, by first | rfl | simp, Lib.hid rfl, BXw2, HB2⟩
  case round =>
    obtain ⟨m, hm, rfl, HU, HX, HBk⟩ := hrel
    have hk0 := HX.out.c 0 rfl
    have hk1 := HX.out.c 1 rfl
    by_cases hlt : m + 1 < S.length
    · obtain ⟨s1, hs1⟩ : ∃ x, S.getD (m + 1) 0 = x := ⟨_, rfl⟩
      have hcs1 : wr.cell? ⟨bS, oS + (m + 1), none⟩ = some (.float .f32 s1) := by rw [HBk.out.cell (p := ⟨bS, oS + (m + 1), none⟩) hbS, HCS.out (m + 1) hlt, hs1]
      have his1 : Is32 (some s1) s1 := Is32.c (by rw [← hs1]; exact getD_lt HZ0.out _)
      have HWs1 := Lib.hid hs1
      clear hs1
      obtain ⟨s0, hs0⟩ : ∃ x, S.getD m 0 = x := ⟨_, rfl⟩
      have hcs0 : wr.cell? ⟨bS, oS + m, none⟩ = some (.float .f32 s0) := by rw [HBk.out.cell (p := ⟨bS, oS + m, none⟩) hbS, HCS.out m (by omega), hs0]
      have his0 : Is32 (some s0) s0 := Is32.c (by rw [← hs0]; exact getD_lt HZ0.out _)
      have HWs0 := Lib.hid hs0
      clear hs0
      obtain ⟨t1, ht1⟩ : ∃ x, O.getD (m + 1) 0 = x := ⟨_, rfl⟩
      have hct1 : wr.cell? ⟨bO, oO + (m + 1), none⟩ = some (.float .f32 t1) := by rw [HBk.out.cell (p := ⟨bO, oO + (m + 1), none⟩) hbO, HCO.out (m + 1) (by omega), ht1]
      have hit1 : Is32 (some t1) t1 := Is32.c (by rw [← ht1]; exact getD_lt HZ1.out _)
      have HWt1 := Lib.hid ht1
      clear ht1
      obtain ⟨t0, ht0⟩ : ∃ x, O.getD m 0 = x := ⟨_, rfl⟩
      have hct0 : wr.cell? ⟨bO, oO + m, none⟩ = some (.float .f32 t0) := by rw [HBk.out.cell (p := ⟨bO, oO + m, none⟩) hbO, HCO.out m (by omega), ht0]
      have hit0 : Is32 (some t0) t0 := Is32.c (by rw [← ht0]; exact getD_lt HZ1.out _)
      have HWt0 := Lib.hid ht0
      clear ht0
      have hm0 : (0 : Int) ≤ (m : Int) := by omega
      have hm1 : (m : Int) < (S.length : Int) := by omega
      have hm2 : (m : Int) + 1 < (S.length : Int) := by omega
      have hm3 : (0 : Int) ≤ (m : Int) + 1 := by omega
      have hm4 : (m : Int) < (O.length : Int) := by omega
      have hm5 : (m : Int) + 1 < (O.length : Int) := by omega
      have hiw : IntKind.i64.wrap (m : Int) = (m : Int) := by rw [IntWalk.i64_in _ (by omega)]
      go_wp2_with fail
      any_goals apply wp_region_V (id := 7) (vmap []) (by kernel_rfl) (by kernel_rfl)
      any_goals (refine wpV_go 1 rfl (fun K hK => ?_); go_simp; refine hK.out _ ?_; clear hK K)
      any_goals (refine wpV_go 2 rfl (fun K hK => ?_); go_simp; refine hK.out _ ?_; clear hK K)
      any_goals (refine wpV_go 3 rfl (fun K hK => ?_); go_simp; refine hK.out _ ?_; clear hK K)
      any_goals (refine wpV_go 4 rfl (fun K hK => ?_); go_simp; refine hK.out _ ?_; clear hK K)
      any_goals (refine wpV_go 5 rfl (fun K hK => ?_); go_simp; refine hK.out _ ?_; clear hK K)
      any_goals (refine wpV_go 6 rfl (fun K hK => ?_); go_simp; refine hK.out _ ?_; clear hK K)
      any_goals (refine wpV_go 7 rfl (fun K hK => ?_); go_simp; refine hK.out _ ?_; clear hK K)
      any_goals (refine wpV_go 8 rfl (fun K hK => ?_); go_simp; refine hK.out _ ?_; clear hK K)
      any_goals (first | (refine wpV_f32 9 rfl (drewC _) _ _ _ _ _ rfl rfl rfl rfl (by decide) (by first | assumption | exact Is32.c (by decide)) (by first | assumption | exact Is32.c (by decide)) rfl ?_; intro z hz) | (refine wpV_go 9 rfl (fun K hK => ?_); go_simp; refine hK.out _ ?_; clear hK K))
      any_goals (refine wpV_go 10 rfl (fun K hK => ?_); go_simp; refine hK.out _ ?_; clear hK K)
      any_goals (refine wpV_go 11 rfl (fun K hK => ?_); go_simp; refine hK.out _ ?_; clear hK K)
      any_goals (first | (refine wpV_c32 12 rfl _ _ _ _ _ rfl rfl rfl rfl (by decide) (by first | assumption | exact Is32.c (by decide)) (by first | assumption | exact Is32.c (by decide)) rfl ?_; intro bb hbb; cases bb) | (refine wpV_go 12 rfl (fun K hK => ?_); go_simp; refine hK.out _ ?_; clear hK K))
      any_goals (refine wpV_go 13 rfl (fun K hK => ?_); go_simp; refine hK.out _ ?_; clear hK K)
      any_goals (refine wpV_go 14 rfl (fun K hK => ?_); go_simp; refine hK.out _ ?_; clear hK K)
      any_goals (refine wpV_go 15 rfl (fun K hK => ?_); go_simp; refine hK.out _ ?_; clear hK K)
      any_goals (refine wpV_go 16 rfl (fun K hK => ?_); go_simp; refine hK.out _ ?_; clear hK K)
      any_goals (refine wpV_go 17 rfl (fun K hK => ?_); go_simp; refine hK.out _ ?_; clear hK K)
      any_goals (refine wpV_go 18 rfl (fun K hK => ?_); go_simp; refine hK.out _ ?_; clear hK K)
      any_goals (refine wpV_go 19 rfl (fun K hK => ?_); go_simp; refine hK.out _ ?_; clear hK K)
      any_goals (refine wpV_go 20 rfl (fun K hK => ?_); go_simp; refine hK.out _ ?_; clear hK K)
      any_goals (refine wpV_go 21 rfl (fun K hK => ?_); go_simp; refine hK.out _ ?_; clear hK K)
      any_goals (first | ((refine wpV_yes rfl ?_); refine wpV_f32 22 rfl (drewC _) _ _ _ _ _ rfl rfl rfl rfl (by decide) (by first | assumption | exact Is32.c (by decide)) (by first | assumption | exact Is32.c (by decide)) rfl ?_; intro z hz) | (refine wpV_go 22 rfl (fun K hK => ?_); go_simp; refine hK.out _ ?_; clear hK K))
      any_goals (refine wpV_go 23 rfl (fun K hK => ?_); go_simp; refine hK.out _ ?_; clear hK K)
      any_goals (refine wpV_go 24 rfl (fun K hK => ?_); go_simp; refine hK.out _ ?_; clear hK K)
      any_goals (first | ((refine wpV_yes rfl ?_); refine wpV_c32 25 rfl _ _ _ _ _ rfl rfl rfl rfl (by decide) (by first | assumption | exact Is32.c (by decide)) (by first | assumption | exact Is32.c (by decide)) rfl ?_; intro bb hbb; cases bb) | (refine wpV_go 25 rfl (fun K hK => ?_); go_simp; refine hK.out _ ?_; clear hK K))
      any_goals (refine wpV_go 26 rfl (fun K hK => ?_); go_simp; refine hK.out _ ?_; clear hK K)
      any_goals (refine wpV_nil ?_; intro q)
      any_goals go_wp2_with fail
      all_goals first
        | (go_roundw; (case rel => exact ⟨m + 1, by omega, by go_num, Lib.hid (upO_succ HU.out (by unfold upB; rw [HWs1.out, HWs0.out, HWt1.out, HWt0.out]; simp [*])), Lib.hid (HX.out.drewN _), Lib.hid (beld HBk.out _)⟩); (case measure => simp [intOf]; omega))
        | (go_ret; exact ⟨_, by rw [HV.out]; exact upO_no (k := m) (by omega) (by unfold upB; rw [HWs1.out, HWs0.out, HWt1.out, HWt0.out]; simp [*]), rfl, beld HBk.out _⟩)
    · have hmS : S.length - 1 = m := by omega
      have hnl : ¬ ((m : Int) + 1 < (S.length : Int)) := by omega
      have HmS := Lib.hid hmS
      clear hmS
      go_wp2_with fail
      go_ret
      exact ⟨_, by rw [HV.out, HmS.out]; exact HU.out, rfl, HBk.out⟩

end Go.Proofs.Ytdoecpghlfjhiaa
