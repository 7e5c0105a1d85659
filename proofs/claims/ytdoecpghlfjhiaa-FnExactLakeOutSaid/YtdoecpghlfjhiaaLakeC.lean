/- What flows out of a lake: the model. -/
import Derived.Test.YtdoecpghlfjhiaaLakeB
namespace Go.Proofs.Ytdoecpghlfjhiaa
open Go.RowKit
set_option linter.unusedVariables false
set_option linter.unusedSimpArgs false
set_option maxRecDepth 100000
attribute [local irreducible] wpV wpList Code.wp

set_option maxHeartbeats 8000000 in
theorem l05Out_o (a0 a1 : Option Addr) (c0 c1 : Nat) (S O : List Nat) (w : World) (b : Nat) (hB : Bx w b [.slice a0 S.length c0, .slice a1 O.length c1]) (h0 : RowF .f32 w a0 S) (hl0 : S.length ≤ 1048576) (hz0 : ∀ z ∈ S, z < 4294967296) (h1 : RowF .f32 w a1 O) (hl1 : O.length ≤ 1048576) (hz1 : ∀ z ∈ O, z < 4294967296) (q1 : 2 ≤ S.length) (q3 : O.length = S.length) {X : Option Nat} {x : Nat} (hx : Is32 X x) :
    Calls Try.prog 74 #[.pointer (some ⟨b, 0, none⟩), .float .f32 x] w (NumQ (lakeU S O X) w) := by
  have H0 := Lib.hid h0
  have H1 := Lib.hid h1
  have HZ0 := Lib.hid hz0
  have HZ1 := Lib.hid hz1
  clear h0 h1 hz0 hz1
  have hk0 := hB.c 0 rfl
  have hk1 := hB.c 1 rfl
  rw [q3] at hk1
  obtain ⟨bS, oS, rfl, hbS, hcx⟩ := rows_at H0.out (by omega)
  have HCS := Lib.hid hcx
  clear hcx
  obtain ⟨bO, oO, rfl, hbO, hcx⟩ := rows_at H1.out (by omega)
  have HCO := Lib.hid hcx
  clear hcx
  obtain ⟨lst, hlst⟩ : ∃ l, S.length - 1 = l := ⟨_, rfl⟩
  have hwl : IntKind.i64.wrap ((S.length : Int) - 1) = (lst : Int) := by rw [IntWalk.i64_in _ (by omega)]; omega
  have hl0' : (0 : Int) ≤ (lst : Int) := by omega
  have hl1' : (lst : Int) < (S.length : Int) := by omega
  have hS0 : (0 : Int) < (S.length : Int) := by omega
  have HLst := Lib.hid hlst
  obtain ⟨p0, hp0⟩ : ∃ x, S.getD 0 0 = x := ⟨_, rfl⟩
  have hcp0 : w.cell? ⟨bS, oS, none⟩ = some (.float .f32 p0) := by have h9 := HCS.out 0 (by omega); rw [hp0] at h9; exact h9
  have hip0 : Is32 (some p0) p0 := Is32.c (by rw [← hp0]; exact getD_lt HZ0.out _)
  have HWp0 := Lib.hid hp0
  clear hp0
  obtain ⟨r0, hr0⟩ : ∃ x, O.getD 0 0 = x := ⟨_, rfl⟩
  have hcr0 : w.cell? ⟨bO, oO, none⟩ = some (.float .f32 r0) := by have h9 := HCO.out 0 (by omega); rw [hr0] at h9; exact h9
  have hir0 : Is32 (some r0) r0 := Is32.c (by rw [← hr0]; exact getD_lt HZ1.out _)
  have HWr0 := Lib.hid hr0
  clear hr0
  obtain ⟨p1, hp1⟩ : ∃ x, S.getD lst 0 = x := ⟨_, rfl⟩
  have hcp1 : w.cell? ⟨bS, oS + lst, none⟩ = some (.float .f32 p1) := by have h9 := HCS.out lst (by omega); rw [hp1] at h9; exact h9
  have hip1 : Is32 (some p1) p1 := Is32.c (by rw [← hp1]; exact getD_lt HZ0.out _)
  have HWp1 := Lib.hid hp1
  clear hp1
  obtain ⟨r1, hr1⟩ : ∃ x, O.getD lst 0 = x := ⟨_, rfl⟩
  have hcr1 : w.cell? ⟨bO, oO + lst, none⟩ = some (.float .f32 r1) := by have h9 := HCO.out lst (by omega); rw [hr1] at h9; exact h9
  have hir1 : Is32 (some r1) r1 := Is32.c (by rw [← hr1]; exact getD_lt HZ1.out _)
  have HWr1 := Lib.hid hr1
  clear hr1
  clear hlst
  go_enter Try.func74, Try.ntmps74
  go_wp2_with (first | ((with_reducible refine wpList_bin ?_); refine wpList_c32 rfl _ _ _ _ _ rfl rfl rfl (by decide) (by first | assumption | exact Is32.c (by decide)) (by first | assumption | exact Is32.c (by decide)) ?_; intro bb hbb; cases bb))
  rotate_left
  · have hle : fcmp .leq .f32 X (some p0) = false := by assumption
    have hv : lakeU S O X = some r1 := by unfold lakeU; rw [HWp0.out, hle, HLst.out, HWp1.out, hbb, HWr1.out]; rfl
    have HV := Lib.hid hv
    clear hv hbb hle
    go_ret
    exact ⟨_, rfl, by rw [HV.out]; exact hir1, 0, rfl⟩
  · have hv : lakeU S O X = some r0 := by unfold lakeU; rw [HWp0.out, hbb, HWr0.out]; rfl
    have HV := Lib.hid hv
    clear hv hbb
    go_ret
    exact ⟨_, rfl, by rw [HV.out]; exact hir0, 0, rfl⟩
  have hle : fcmp .leq .f32 X (some p0) = false := by assumption
  have hge : fcmp .geq .f32 X (some (S.getD (S.length - 1) 0)) = false := by rw [HLst.out, HWp1.out]; exact hbb
  have Hge := Lib.hid hge
  have hv : lakeU S O X = outU S O X (seekO S X) := by unfold lakeU; rw [HWp0.out, hle, hge]; rfl
  have HV := Lib.hid hv
  clear hge hv hbb hle
  go_loopw [6] (fun i wr => ∃ (m f n : Nat), m + 1 < S.length ∧ i = .int .i64 ((m : Int) + 1) ∧ S.length ≤ f + (m + 1) ∧ Hid (seek S X f (m + 1) = seekO S X) ∧ wr = w.drewN n) (fun i _ => S.length - (intOf i).toNat)
  case atStart => exact ⟨0, S.length, 0, by omega, by first | rfl | simp, by omega, Lib.hid rfl, by first | rfl | exact rfl⟩
  case round =>
    obtain ⟨m, f, n, hlt, rfl, hf, HSk, rfl⟩ := hrel
    obtain ⟨s1, hs1⟩ : ∃ x, S.getD (m + 1) 0 = x := ⟨_, rfl⟩
    have hcs1 : w.cell? ⟨bS, oS + (m + 1), none⟩ = some (.float .f32 s1) := by have h9 := HCS.out (m + 1) hlt; rw [hs1] at h9; exact h9
    have his1 : Is32 (some s1) s1 := Is32.c (by rw [← hs1]; exact getD_lt HZ0.out _)
    have HWs1 := Lib.hid hs1
    clear hs1
    obtain ⟨s0, hs0⟩ : ∃ x, S.getD m 0 = x := ⟨_, rfl⟩
    have hcs0 : w.cell? ⟨bS, oS + m, none⟩ = some (.float .f32 s0) := by have h9 := HCS.out m (by omega); rw [hs0] at h9; exact h9
    have his0 : Is32 (some s0) s0 := Is32.c (by rw [← hs0]; exact getD_lt HZ0.out _)
    have HWs0 := Lib.hid hs0
    clear hs0
    obtain ⟨t1, ht1⟩ : ∃ x, O.getD (m + 1) 0 = x := ⟨_, rfl⟩
    have hct1 : w.cell? ⟨bO, oO + (m + 1), none⟩ = some (.float .f32 t1) := by have h9 := HCO.out (m + 1) (by omega); rw [ht1] at h9; exact h9
    have hit1 : Is32 (some t1) t1 := Is32.c (by rw [← ht1]; exact getD_lt HZ1.out _)
    have HWt1 := Lib.hid ht1
    clear ht1
    obtain ⟨t0, ht0⟩ : ∃ x, O.getD m 0 = x := ⟨_, rfl⟩
    have hct0 : w.cell? ⟨bO, oO + m, none⟩ = some (.float .f32 t0) := by have h9 := HCO.out m (by omega); rw [ht0] at h9; exact h9
    have hit0 : Is32 (some t0) t0 := Is32.c (by rw [← ht0]; exact getD_lt HZ1.out _)
    have HWt0 := Lib.hid ht0
    clear ht0
    have hm0 : (0 : Int) ≤ (m : Int) := by omega
    have hm1 : (m : Int) < (S.length : Int) := by omega
    have hm2 : (m : Int) + 1 < (S.length : Int) := by omega
    have hm3 : (0 : Int) ≤ (m : Int) + 1 := by omega
    have hm6 : (0 : Int) < (m : Int) + 1 := by omega
    have hiw : IntKind.i64.wrap (m : Int) = (m : Int) := by rw [IntWalk.i64_in _ (by omega)]
    go_wp2_with (first | ((with_reducible refine wpList_bin ?_); refine wpList_c32 rfl _ _ _ _ _ rfl rfl rfl (by decide) (by first | assumption | exact Is32.c (by decide)) (by first | assumption | exact Is32.c (by decide)) ?_; intro bb hbb; cases bb))
    · have hse : seekO S X = m + 1 := by rw [← HSk.out]; cases f with | zero => omega | succ f => unfold seek; rw [HWs1.out, if_neg (by rw [hbb]; decide)]
      have HSe := Lib.hid hse
      have hbb9 := hbb
      clear hse hbb
      go_wp2_with fail
      any_goals apply wp_region_V (id := 9) (vmap [(9, V32k _), (25, V32k _), (26, V32k _)]) (by kernel_rfl) (by kernel_rfl)
      any_goals (refine wpV_go 1 rfl (fun K hK => ?_); go_simp; refine hK.out _ ?_; clear hK K)
      any_goals (refine wpV_go 2 rfl (fun K hK => ?_); go_simp; refine hK.out _ ?_; clear hK K)
      any_goals (refine wpV_go 3 rfl (fun K hK => ?_); go_simp; refine hK.out _ ?_; clear hK K)
      any_goals (refine wpV_go 4 rfl (fun K hK => ?_); go_simp; refine hK.out _ ?_; clear hK K)
      any_goals (refine wpV_go 5 rfl (fun K hK => ?_); go_simp; refine hK.out _ ?_; clear hK K)
      any_goals (refine wpV_go 6 rfl (fun K hK => ?_); go_simp; refine hK.out _ ?_; clear hK K)
      any_goals (first | (refine wpV_f32 7 rfl (drewC _) _ _ _ _ _ rfl rfl rfl rfl (by decide) (by first | assumption | exact Is32.c (by decide)) (by first | assumption | exact Is32.c (by decide)) rfl ?_; intro z hz) | (refine wpV_go 7 rfl (fun K hK => ?_); go_simp; refine hK.out _ ?_; clear hK K))
      any_goals (refine wpV_go 8 rfl (fun K hK => ?_); go_simp; refine hK.out _ ?_; clear hK K)
      any_goals (refine wpV_go 9 rfl (fun K hK => ?_); go_simp; refine hK.out _ ?_; clear hK K)
      any_goals (first | (refine wpV_f32 10 rfl (drewC _) _ _ _ _ _ rfl rfl rfl rfl (by decide) (by first | assumption | exact Is32.c (by decide)) (by first | assumption | exact Is32.c (by decide)) rfl ?_; intro z hz) | (refine wpV_go 10 rfl (fun K hK => ?_); go_simp; refine hK.out _ ?_; clear hK K))
      any_goals (refine wpV_go 11 rfl (fun K hK => ?_); go_simp; refine hK.out _ ?_; clear hK K)
      any_goals (refine wpV_go 12 rfl (fun K hK => ?_); go_simp; refine hK.out _ ?_; clear hK K)
      any_goals (refine wpV_go 13 rfl (fun K hK => ?_); go_simp; refine hK.out _ ?_; clear hK K)
      any_goals (refine wpV_go 14 rfl (fun K hK => ?_); go_simp; refine hK.out _ ?_; clear hK K)
      any_goals (refine wpV_go 15 rfl (fun K hK => ?_); go_simp; refine hK.out _ ?_; clear hK K)
      any_goals (refine wpV_go 16 rfl (fun K hK => ?_); go_simp; refine hK.out _ ?_; clear hK K)
      any_goals (refine wpV_go 17 rfl (fun K hK => ?_); go_simp; refine hK.out _ ?_; clear hK K)
      any_goals (refine wpV_go 18 rfl (fun K hK => ?_); go_simp; refine hK.out _ ?_; clear hK K)
      any_goals (refine wpV_go 19 rfl (fun K hK => ?_); go_simp; refine hK.out _ ?_; clear hK K)
      any_goals (refine wpV_go 20 rfl (fun K hK => ?_); go_simp; refine hK.out _ ?_; clear hK K)
      any_goals (refine wpV_go 21 rfl (fun K hK => ?_); go_simp; refine hK.out _ ?_; clear hK K)
      any_goals (refine wpV_go 22 rfl (fun K hK => ?_); go_simp; refine hK.out _ ?_; clear hK K)
      any_goals (first | (refine wpV_f32 23 rfl (drewC _) _ _ _ _ _ rfl rfl rfl rfl (by decide) (by first | assumption | exact Is32.c (by decide)) (by first | assumption | exact Is32.c (by decide)) rfl ?_; intro z hz) | (refine wpV_go 23 rfl (fun K hK => ?_); go_simp; refine hK.out _ ?_; clear hK K))
      any_goals (refine wpV_go 24 rfl (fun K hK => ?_); go_simp; refine hK.out _ ?_; clear hK K)
      any_goals (refine wpV_go 25 rfl (fun K hK => ?_); go_simp; refine hK.out _ ?_; clear hK K)
      any_goals (first | (refine wpV_f32 26 rfl (drewC _) _ _ _ _ _ rfl rfl rfl rfl (by decide) (by first | assumption | exact Is32.c (by decide)) (by first | assumption | exact Is32.c (by decide)) rfl ?_; intro z hz) | (refine wpV_go 26 rfl (fun K hK => ?_); go_simp; refine hK.out _ ?_; clear hK K))
      any_goals (first | (refine wpV_f32 27 rfl (drewC _) _ _ _ _ _ rfl rfl rfl rfl (by decide) (by first | assumption | exact Is32.c (by decide)) (by first | assumption | exact Is32.c (by decide)) rfl ?_; intro z hz) | (refine wpV_go 27 rfl (fun K hK => ?_); go_simp; refine hK.out _ ?_; clear hK K))
      any_goals (refine wpV_go 28 rfl (fun K hK => ?_); go_simp; refine hK.out _ ?_; clear hK K)
      any_goals (refine wpV_nil ?_; intro q)
      any_goals go_wp2_with fail
      any_goals apply wp_region_V (id := 10) (vmap [(24, V32k _), (25, V32k _), (26, V32k _)]) (by kernel_rfl) (by kernel_rfl)
      any_goals (refine wpV_go 1 rfl (fun K hK => ?_); go_simp; refine hK.out _ ?_; clear hK K)
      any_goals (refine wpV_go 2 rfl (fun K hK => ?_); go_simp; refine hK.out _ ?_; clear hK K)
      any_goals (refine wpV_go 3 rfl (fun K hK => ?_); go_simp; refine hK.out _ ?_; clear hK K)
      any_goals (refine wpV_go 4 rfl (fun K hK => ?_); go_simp; refine hK.out _ ?_; clear hK K)
      any_goals (refine wpV_go 5 rfl (fun K hK => ?_); go_simp; refine hK.out _ ?_; clear hK K)
      any_goals (first | (refine wpV_f32 6 rfl (drewC _) _ _ _ _ _ rfl rfl rfl rfl (by decide) (by first | assumption | exact Is32.c (by decide)) (by first | assumption | exact Is32.c (by decide)) rfl ?_; intro z hz) | (refine wpV_go 6 rfl (fun K hK => ?_); go_simp; refine hK.out _ ?_; clear hK K))
      any_goals (refine wpV_go 7 rfl (fun K hK => ?_); go_simp; refine hK.out _ ?_; clear hK K)
      any_goals (refine wpV_go 8 rfl (fun K hK => ?_); go_simp; refine hK.out _ ?_; clear hK K)
      any_goals (refine wpV_go 9 rfl (fun K hK => ?_); go_simp; refine hK.out _ ?_; clear hK K)
      any_goals (refine wpV_go 10 rfl (fun K hK => ?_); go_simp; refine hK.out _ ?_; clear hK K)
      any_goals (refine wpV_go 11 rfl (fun K hK => ?_); go_simp; refine hK.out _ ?_; clear hK K)
      any_goals (refine wpV_go 12 rfl (fun K hK => ?_); go_simp; refine hK.out _ ?_; clear hK K)
      any_goals (refine wpV_go 13 rfl (fun K hK => ?_); go_simp; refine hK.out _ ?_; clear hK K)
      any_goals (refine wpV_go 14 rfl (fun K hK => ?_); go_simp; refine hK.out _ ?_; clear hK K)
      any_goals (refine wpV_go 15 rfl (fun K hK => ?_); go_simp; refine hK.out _ ?_; clear hK K)
      any_goals (refine wpV_go 16 rfl (fun K hK => ?_); go_simp; refine hK.out _ ?_; clear hK K)
      any_goals (refine wpV_go 17 rfl (fun K hK => ?_); go_simp; refine hK.out _ ?_; clear hK K)
      any_goals (refine wpV_go 18 rfl (fun K hK => ?_); go_simp; refine hK.out _ ?_; clear hK K)
      any_goals (refine wpV_go 19 rfl (fun K hK => ?_); go_simp; refine hK.out _ ?_; clear hK K)
      any_goals (refine wpV_go 20 rfl (fun K hK => ?_); go_simp; refine hK.out _ ?_; clear hK K)
      any_goals (refine wpV_go 21 rfl (fun K hK => ?_); go_simp; refine hK.out _ ?_; clear hK K)
      any_goals (first | (refine wpV_f32 22 rfl (drewC _) _ _ _ _ _ rfl rfl rfl rfl (by decide) (by first | assumption | exact Is32.c (by decide)) (by first | assumption | exact Is32.c (by decide)) rfl ?_; intro z hz) | (refine wpV_go 22 rfl (fun K hK => ?_); go_simp; refine hK.out _ ?_; clear hK K))
      any_goals (refine wpV_go 23 rfl (fun K hK => ?_); go_simp; refine hK.out _ ?_; clear hK K)
      any_goals (refine wpV_go 24 rfl (fun K hK => ?_); go_simp; refine hK.out _ ?_; clear hK K)
      any_goals (first | (refine wpV_f32 25 rfl (drewC _) _ _ _ _ _ rfl rfl rfl rfl (by decide) (by first | assumption | exact Is32.c (by decide)) (by first | assumption | exact Is32.c (by decide)) rfl ?_; intro z hz) | (refine wpV_go 25 rfl (fun K hK => ?_); go_simp; refine hK.out _ ?_; clear hK K))
      any_goals (first | (refine wpV_f32 26 rfl (drewC _) _ _ _ _ _ rfl rfl rfl rfl (by decide) (by first | assumption | exact Is32.c (by decide)) (by first | assumption | exact Is32.c (by decide)) rfl ?_; intro z hz) | (refine wpV_go 26 rfl (fun K hK => ?_); go_simp; refine hK.out _ ?_; clear hK K))
      any_goals (first | (refine wpV_f32 27 rfl (drewC _) _ _ _ _ _ rfl rfl rfl rfl (by decide) (by first | assumption | exact Is32.c (by decide)) (by first | assumption | exact Is32.c (by decide)) rfl ?_; intro z hz) | (refine wpV_go 27 rfl (fun K hK => ?_); go_simp; refine hK.out _ ?_; clear hK K))
      any_goals (refine wpV_go 28 rfl (fun K hK => ?_); go_simp; refine hK.out _ ?_; clear hK K)
      any_goals (refine wpV_nil ?_; intro q)
      any_goals go_wp2_with fail
      all_goals (go_ret; exact ⟨_, rfl, by rw [HV.out, HSe.out]; unfold outU partU; rw [Nat.add_sub_cancel, HWs1.out, HWs0.out, HWt1.out, HWt0.out]; assumption, (by first | exact ⟨_, rfl⟩ | exact ⟨0, rfl⟩ | exact drewC _ _ _ ⟨_, rfl⟩ | exact drewC _ _ _ (drewC _ _ _ ⟨_, rfl⟩) | exact drewC _ _ _ (drewC _ _ _ (drewC _ _ _ ⟨_, rfl⟩)))⟩)
    · obtain ⟨f, rfl⟩ : ∃ f9, f = f9 + 1 := ⟨f - 1, by omega⟩
      have hm9 : m + 1 + 1 < S.length := by
        refine Nat.lt_of_le_of_ne (by omega) (fun he => ?_)
        have h9 := Hge.out
        rw [show S.getD (S.length - 1) 0 = s1 by rw [← he, Nat.add_sub_cancel]; exact HWs1.out] at h9
        have h8 := geq_lss h9
        rw [hbb] at h8
        cases h8
      have hsk : seek S X f (m + 1 + 1) = seekO S X := by rw [← HSk.out]; show _ = (if fcmp .lss .f32 (some (S.getD (m + 1) 0)) X then seek S X f (m + 1 + 1) else m + 1); rw [HWs1.out, if_pos hbb]
      have HSk2 := Lib.hid hsk
      clear hsk
      go_wp2_with fail
      go_roundw
      case rel => exact ⟨m + 1, f, n, hm9, by go_num, by omega, HSk2, by first | rfl | exact rfl⟩
      case measure => simp [intOf]; omega

set_option maxHeartbeats 4000000 in
theorem lakeOut_s (a0 a1 : Option Addr) (c0 c1 : Nat) (S O : List Nat) (w : World) (h0 : RowF .f32 w a0 S) (hl0 : S.length ≤ 1048576) (hz0 : ∀ z ∈ S, z < 4294967296) (h1 : RowF .f32 w a1 O) (hl1 : O.length ≤ 1048576) (hz1 : ∀ z ∈ O, z < 4294967296) {X : Option Nat} {x : Nat} (hx : Is32 X x) :
    Calls Try.prog 45 #[.agg #[.slice a0 S.length c0, .slice a1 O.length c1], .float .f32 x] w (OnlyB (lakeOutO S O X) w) := by
  obtain ⟨B, hB⟩ : ∃ B, lakeB S O = B := ⟨_, rfl⟩
  have HBv := Lib.hid hB
  have H0 := Lib.hid h0
  have H1 := Lib.hid h1
  have HZ0 := Lib.hid hz0
  have HZ1 := Lib.hid hz1
  clear h0 h1 hz0 hz1
  go_enter Try.func45, Try.ntmps45
  go_wp2_with fail
  refine (l05Lake_o a0 a1 c0 c1 S O _ w.heap.size (Bx.new w [.slice a0 S.length c0, .slice a1 O.length c1] _) (H0.out.below (bel1 _ _) (Nat.le_refl _)) hl0 HZ0.out (H1.out.below (bel1 _ _) (Nat.le_refl _)) hl1 HZ1.out).mono ?_
  rintro e w1 ⟨bb, hbb, rfl, q, hw1⟩
  have HB1 : Hid (Below w.heap.size w w1) := Lib.hid (by rw [hw1]; exact beld (bel1 _ _) _)
  have HX1 : Hid (Bx w1 w.heap.size [.slice a0 S.length c0, .slice a1 O.length c1]) := Lib.hid (by rw [hw1]; exact Bx.drewN (Bx.new w [.slice a0 S.length c0, .slice a1 O.length c1] _) _)
  have Hbb := Lib.hid hbb
  clear hbb hw1 hB
  cases bb
  · have hv : lakeOutO S O X = (some 0, false) := by unfold lakeOutO; rw [Hbb.out]; rfl
    have HV := Lib.hid hv
    clear hv
    go_wp2_with fail
    go_ret2
    exact ⟨_, _, rfl, by rw [HV.out], by rw [HV.out]; exact Is32.c (by decide), HB1.out⟩
  go_wp2_with fail
  refine (l01Fin_o _ hx).mono ?_
  rintro e w2 ⟨bb, hbb, rfl, q2, hw2⟩
  have HB2 : Hid (Below w.heap.size w w2) := Lib.hid (by rw [hw2]; exact beld HB1.out _)
  have HX2 : Hid (Bx w2 w.heap.size [.slice a0 S.length c0, .slice a1 O.length c1]) := Lib.hid (by rw [hw2]; exact HX1.out.drewN _)
  have Hf := Lib.hid hbb
  clear hbb hw2
  cases bb
  · have hv : lakeOutO S O X = (some 0, false) := by unfold lakeOutO; rw [Hf.out, Bool.and_false]; rfl
    have HV := Lib.hid hv
    clear hv
    go_wp2_with fail
    go_ret2
    exact ⟨_, _, rfl, by rw [HV.out], by rw [HV.out]; exact Is32.c (by decide), HB2.out⟩
  have hq := Hbb.out
  unfold lakeB at hq
  simp only [Bool.and_eq_true, decide_eq_true_eq] at hq
  obtain ⟨⟨⟨⟨⟨q1, _⟩, q3⟩, _⟩, _⟩, _⟩ := hq
  have hv : lakeOutO S O X = onlyO (lakeU S O X) := by unfold lakeOutO; rw [Hbb.out, Hf.out]; rfl
  have HV := Lib.hid hv
  have Q1 := Lib.hid q1
  have Q3 := Lib.hid q3
  clear hv q1 q3
  go_wp2_with fail
  refine (l05Out_o a0 a1 c0 c1 S O _ w.heap.size HX2.out (H0.out.below HB2.out (Nat.le_refl _)) hl0 HZ0.out (H1.out.below HB2.out (Nat.le_refl _)) hl1 HZ1.out Q1.out Q3.out hx).mono ?_
  rintro e w3 ⟨z, rfl, hzz, q3', hw3⟩
  have HB3 : Hid (Below w.heap.size w w3) := Lib.hid (by rw [hw3]; exact beld HB2.out _)
  clear hw3
  go_wp2_with fail
  refine (l02Number_o _ hzz).mono ?_
  rintro e w4 ⟨z2, bb, rfl, hbb, hz2, q4, hw4⟩
  have HB4 : Hid (Below w.heap.size w w4) := Lib.hid (by rw [hw4]; exact beld HB3.out _)
  clear hw4
  have Hz2 := Lib.hid hz2
  have Hb2 := Lib.hid hbb
  clear hz2 hbb
  go_wp2_with fail
  go_ret2
  exact ⟨_, _, rfl, by rw [HV.out]; exact Hb2.out, by rw [HV.out]; exact Hz2.out, HB4.out⟩

end Go.Proofs.Ytdoecpghlfjhiaa
