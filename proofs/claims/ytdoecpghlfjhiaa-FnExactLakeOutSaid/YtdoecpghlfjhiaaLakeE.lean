/- What flows out of a lake: the program. -/
import Derived.Test.YtdoecpghlfjhiaaLakeA
import Derived.Test.YtdoecpghlfjhiaaOnlyV
import Derived.Test.YtdoecpghlfjhiaaRootO
namespace Go.Proofs.Ytdoecpghlfjhiaa
open Go.RowKit
set_option linter.unusedVariables false
set_option linter.unusedSimpArgs false
set_option maxRecDepth 100000
attribute [local irreducible] wpV wpList Code.wp

set_option maxHeartbeats 8000000 in
theorem lakeOut_i (a0 a1 : Option Addr) (c0 c1 : Nat) (S O : List Nat) (w : World) (h0 : RowF .f32 w a0 S) (hl0 : S.length ≤ 1048576) (hz0 : ∀ z ∈ S, z < 4294967296) (h1 : RowF .f32 w a1 O) (hl1 : O.length ≤ 1048576) (hz1 : ∀ z ∈ O, z < 4294967296) {X : Option Nat} {x : Nat} (hx : Is32 X x) :
    Calls Try.prog 46 #[.agg #[.slice a0 S.length c0, .slice a1 O.length c1], .float .f32 x] w (OnlyB (lakeOutO S O X) w) := by
  have H0 := Lib.hid h0
  have H1 := Lib.hid h1
  have HZ0 := Lib.hid hz0
  have HZ1 := Lib.hid hz1
  clear h0 h1 hz0 hz1
  go_enter Try.func46, Try.ntmps46
  go_wp2_with fail
  refine (validLake_i a0 a1 c0 c1 S O _ (H0.out.below (bel1 _ _) (Nat.le_refl _)) hl0 HZ0.out (H1.out.below (bel1 _ _) (Nat.le_refl _)) hl1 HZ1.out).mono ?_
  rintro e w1 ⟨bb, hbb, rfl, hb⟩
  have HB1 : Hid (Below w.heap.size w w1) := Lib.hid (Below.trans (bel1 _ _) (hb.mono (by simp)))
  have HX1 : Hid (Bx w1 w.heap.size [.slice a0 S.length c0, .slice a1 O.length c1]) := Lib.hid (Bx.below (Bx.new w [.slice a0 S.length c0, .slice a1 O.length c1] _) hb (by simp))
  have Hbb := Lib.hid hbb
  clear hbb hb
  cases bb
  · have hv : lakeOutO S O X = (some 0, false) := by unfold lakeOutO; rw [Hbb.out]; rfl
    have HV := Lib.hid hv
    clear hv
    go_wp2_with fail
    go_ret2
    exact ⟨_, _, rfl, by rw [HV.out], by rw [HV.out]; exact Is32.c (by decide), HB1.out⟩
  go_wp2_with fail
  refine (isFin_o _ hx).mono ?_
  rintro e w' ⟨bb, hbb, rfl, rfl⟩
  have Hf := Lib.hid hbb
  clear hbb
  cases bb
  · have hv : lakeOutO S O X = (some 0, false) := by unfold lakeOutO; rw [Hf.out, Bool.and_false]; rfl
    have HV := Lib.hid hv
    clear hv
    go_wp2_with fail
    go_ret2
    exact ⟨_, _, rfl, by rw [HV.out], by rw [HV.out]; exact Is32.c (by decide), HB1.out⟩
  have hq := Hbb.out
  unfold lakeB at hq
  simp only [Bool.and_eq_true, decide_eq_true_eq] at hq
  obtain ⟨⟨⟨⟨⟨q1, _⟩, q3⟩, _⟩, q5⟩, _⟩ := hq
  have HO := Lib.hid q5
  have hv : lakeOutO S O X = onlyO (lakeU S O X) := by unfold lakeOutO; rw [Hbb.out, Hf.out]; rfl
  have HV0 := Lib.hid hv
  clear hv q5
  have hk0 := HX1.out.c 0 rfl
  have hk1 := HX1.out.c 1 rfl
  rw [q3] at hk1
  have h0 := H0.out.below HB1.out (Nat.le_refl _)
  have h1 := H1.out.below HB1.out (Nat.le_refl _)
  clear H0 H1 HX1
  have H0 := Lib.hid h0
  have H1 := Lib.hid h1
  clear h0 h1
  obtain ⟨bS, oS, rfl, hbS, hcx⟩ := rows_at H0.out (by omega)
  have HCS := Lib.hid hcx
  clear hcx
  obtain ⟨bO, oO, rfl, hbO, hcx⟩ := rows_at H1.out (by omega)
  have HCO := Lib.hid hcx
  clear hcx
  obtain ⟨lst, hlst⟩ : ∃ l, S.length - 1 = l := ⟨_, rfl⟩
  have hwl : IntKind.i64.wrap ((S.length : Int) - 1) = (lst : Int) := by rw [IntWalk.i64_in _ (by omega)]; omega
  have hl0' : (0 : Int) ≤ (lst : Int) := by omega
  have hl1' : (lst : Int) < (S.length : Int) := by omega
  have hS0 : (0 : Int) < (S.length : Int) := by omega
  have HLst := Lib.hid hlst
  obtain ⟨p0, hp0⟩ : ∃ x, S.getD 0 0 = x := ⟨_, rfl⟩
  have hcp0 : w1.cell? ⟨bS, oS, none⟩ = some (.float .f32 p0) := by have h9 := HCS.out 0 (by omega); rw [hp0] at h9; exact h9
  have hip0 : Is32 (some p0) p0 := Is32.c (by rw [← hp0]; exact getD_lt HZ0.out _)
  have HWp0 := Lib.hid hp0
  clear hp0
  obtain ⟨r0, hr0⟩ : ∃ x, O.getD 0 0 = x := ⟨_, rfl⟩
  have hcr0 : w1.cell? ⟨bO, oO, none⟩ = some (.float .f32 r0) := by have h9 := HCO.out 0 (by omega); rw [hr0] at h9; exact h9
  have hir0 : Is32 (some r0) r0 := Is32.c (by rw [← hr0]; exact getD_lt HZ1.out _)
  have HWr0 := Lib.hid hr0
  clear hr0
  obtain ⟨p1, hp1⟩ : ∃ x, S.getD lst 0 = x := ⟨_, rfl⟩
  have hcp1 : w1.cell? ⟨bS, oS + lst, none⟩ = some (.float .f32 p1) := by have h9 := HCS.out lst (by omega); rw [hp1] at h9; exact h9
  have hip1 : Is32 (some p1) p1 := Is32.c (by rw [← hp1]; exact getD_lt HZ0.out _)
  have HWp1 := Lib.hid hp1
  clear hp1
  obtain ⟨r1, hr1⟩ : ∃ x, O.getD lst 0 = x := ⟨_, rfl⟩
  have hcr1 : w1.cell? ⟨bO, oO + lst, none⟩ = some (.float .f32 r1) := by have h9 := HCO.out lst (by omega); rw [hr1] at h9; exact h9
  have hir1 : Is32 (some r1) r1 := Is32.c (by rw [← hr1]; exact getD_lt HZ1.out _)
  have HWr1 := Lib.hid hr1
  clear hr1
  have hfr0 : fin32o (some r0) = true := by rw [← HWr0.out]; exact fin_getD HO.out (by omega)
  have hfr1 : fin32o (some r1) = true := by rw [← HWr1.out]; exact fin_getD HO.out (by omega)
  clear hlst
  go_wp2_with (first | ((with_reducible refine wpList_bin ?_); refine wpList_c32 rfl _ _ _ _ _ rfl rfl rfl (by decide) (by first | assumption | exact Is32.c (by decide)) (by first | assumption | exact Is32.c (by decide)) ?_; intro bb hbb; cases bb))
  rotate_left
  · have hle : fcmp .leq .f32 X (some p0) = false := by assumption
    have hv : lakeOutO S O X = (some r1, true) := by rw [HV0.out]; unfold lakeU; rw [HWp0.out, hle, HLst.out, HWp1.out, hbb, HWr1.out]; exact onlyO_fin hfr1
    have HV := Lib.hid hv
    clear hv hbb hle
    go_ret2
    exact ⟨_, _, rfl, by rw [HV.out], by rw [HV.out]; exact hir1, HB1.out⟩
  · have hv : lakeOutO S O X = (some r0, true) := by rw [HV0.out]; unfold lakeU; rw [HWp0.out, hbb, HWr0.out]; exact onlyO_fin hfr0
    have HV := Lib.hid hv
    clear hv hbb
    go_ret2
    exact ⟨_, _, rfl, by rw [HV.out], by rw [HV.out]; exact hir0, HB1.out⟩
  have hle : fcmp .leq .f32 X (some p0) = false := by assumption
  have hge : fcmp .geq .f32 X (some (S.getD (S.length - 1) 0)) = false := by rw [HLst.out, HWp1.out]; exact hbb
  have Hge := Lib.hid hge
  have hv : lakeOutO S O X = onlyO (outU S O X (seekO S X)) := by rw [HV0.out]; unfold lakeU; rw [HWp0.out, hle, hge]; rfl
  have HV := Lib.hid hv
  clear hge hv hbb hle hfr0 hfr1
  go_loopw [7] (fun i wr => ∃ (m f n : Nat), m + 1 < S.length ∧ i = .int .i64 ((m : Int) + 1) ∧ S.length ≤ f + (m + 1) ∧ Hid (seek S X f (m + 1) = seekO S X) ∧ wr = w1.drewN n) (fun i _ => S.length - (intOf i).toNat)
  case atStart => exact ⟨0, S.length, 0, by omega, by first | rfl | simp, by omega, Lib.hid rfl, by first | rfl | exact rfl⟩
  case round =>
    obtain ⟨m, f, n, hlt, rfl, hf, HSk, rfl⟩ := hrel
    obtain ⟨s1, hs1⟩ : ∃ x, S.getD (m + 1) 0 = x := ⟨_, rfl⟩
    have hcs1 : w1.cell? ⟨bS, oS + (m + 1), none⟩ = some (.float .f32 s1) := by have h9 := HCS.out (m + 1) hlt; rw [hs1] at h9; exact h9
    have his1 : Is32 (some s1) s1 := Is32.c (by rw [← hs1]; exact getD_lt HZ0.out _)
    have HWs1 := Lib.hid hs1
    clear hs1
    obtain ⟨s0, hs0⟩ : ∃ x, S.getD m 0 = x := ⟨_, rfl⟩
    have hcs0 : w1.cell? ⟨bS, oS + m, none⟩ = some (.float .f32 s0) := by have h9 := HCS.out m (by omega); rw [hs0] at h9; exact h9
    have his0 : Is32 (some s0) s0 := Is32.c (by rw [← hs0]; exact getD_lt HZ0.out _)
    have HWs0 := Lib.hid hs0
    clear hs0
    obtain ⟨t1, ht1⟩ : ∃ x, O.getD (m + 1) 0 = x := ⟨_, rfl⟩
    have hct1 : w1.cell? ⟨bO, oO + (m + 1), none⟩ = some (.float .f32 t1) := by have h9 := HCO.out (m + 1) (by omega); rw [ht1] at h9; exact h9
    have hit1 : Is32 (some t1) t1 := Is32.c (by rw [← ht1]; exact getD_lt HZ1.out _)
    have HWt1 := Lib.hid ht1
    clear ht1
    obtain ⟨t0, ht0⟩ : ∃ x, O.getD m 0 = x := ⟨_, rfl⟩
    have hct0 : w1.cell? ⟨bO, oO + m, none⟩ = some (.float .f32 t0) := by have h9 := HCO.out m (by omega); rw [ht0] at h9; exact h9
    have hit0 : Is32 (some t0) t0 := Is32.c (by rw [← ht0]; exact getD_lt HZ1.out _)
    have HWt0 := Lib.hid ht0
    clear ht0
    have hm0 : (0 : Int) ≤ (m : Int) := by omega
    have hm1 : (m : Int) < (S.length : Int) := by omega
    have hm2 : (m : Int) + 1 < (S.length : Int) := by omega
    have hm3 : (0 : Int) ≤ (m : Int) + 1 := by omega
    have hm6 : (0 : Int) < (m : Int) + 1 := by omega
    have hiw : IntKind.i64.wrap (m : Int) = (m : Int) := by rw [IntWalk.i64_in _ (by omega)]
    go_wp2_with (first | ((with_reducible refine wpList_bin ?_); refine wpList_c32 rfl _ _ _ _ _ rfl rfl rfl (by decide) (by first | assumption | exact Is32.c (by decide)) (by first | assumption | exact Is32.c (by decide)) ?_; intro bb hbb; cases bb))
    · have hse : seekO S X = m + 1 := by rw [← HSk.out]; cases f with | zero => omega | succ f => unfold seek; rw [HWs1.out, if_neg (by rw [hbb]; decide)]
      have HSe := Lib.hid hse
      have hbb9 := hbb
      clear hse hbb
      go_wp2_with fail
      any_goals apply wp_region_V (id := 11) (vmap [(7, V32k _), (19, V32k _), (20, V32k _)]) (by kernel_rfl) (by kernel_rfl)
      any_goals (refine wpV_go 1 rfl (fun K hK => ?_); go_simp; refine hK.out _ ?_; clear hK K)
      any_goals (refine wpV_go 2 rfl (fun K hK => ?_); go_simp; refine hK.out _ ?_; clear hK K)
      any_goals (refine wpV_go 3 rfl (fun K hK => ?_); go_simp; refine hK.out _ ?_; clear hK K)
      any_goals (refine wpV_go 4 rfl (fun K hK => ?_); go_simp; refine hK.out _ ?_; clear hK K)
      any_goals (first | (refine wpV_f32 5 rfl (drewC _) _ _ _ _ _ rfl rfl rfl rfl (by decide) (by first | assumption | exact Is32.c (by decide)) (by first | assumption | exact Is32.c (by decide)) rfl ?_; intro z hz) | (refine wpV_go 5 rfl (fun K hK => ?_); go_simp; refine hK.out _ ?_; clear hK K))
      any_goals (refine wpV_go 6 rfl (fun K hK => ?_); go_simp; refine hK.out _ ?_; clear hK K)
      any_goals (refine wpV_go 7 rfl (fun K hK => ?_); go_simp; refine hK.out _ ?_; clear hK K)
      any_goals (first | (refine wpV_f32 8 rfl (drewC _) _ _ _ _ _ rfl rfl rfl rfl (by decide) (by first | assumption | exact Is32.c (by decide)) (by first | assumption | exact Is32.c (by decide)) rfl ?_; intro z hz) | (refine wpV_go 8 rfl (fun K hK => ?_); go_simp; refine hK.out _ ?_; clear hK K))
      any_goals (refine wpV_go 9 rfl (fun K hK => ?_); go_simp; refine hK.out _ ?_; clear hK K)
      any_goals (refine wpV_go 10 rfl (fun K hK => ?_); go_simp; refine hK.out _ ?_; clear hK K)
      any_goals (refine wpV_go 11 rfl (fun K hK => ?_); go_simp; refine hK.out _ ?_; clear hK K)
      any_goals (refine wpV_go 12 rfl (fun K hK => ?_); go_simp; refine hK.out _ ?_; clear hK K)
      any_goals (refine wpV_go 13 rfl (fun K hK => ?_); go_simp; refine hK.out _ ?_; clear hK K)
      any_goals (refine wpV_go 14 rfl (fun K hK => ?_); go_simp; refine hK.out _ ?_; clear hK K)
      any_goals (refine wpV_go 15 rfl (fun K hK => ?_); go_simp; refine hK.out _ ?_; clear hK K)
      any_goals (refine wpV_go 16 rfl (fun K hK => ?_); go_simp; refine hK.out _ ?_; clear hK K)
      any_goals (first | (refine wpV_f32 17 rfl (drewC _) _ _ _ _ _ rfl rfl rfl rfl (by decide) (by first | assumption | exact Is32.c (by decide)) (by first | assumption | exact Is32.c (by decide)) rfl ?_; intro z hz) | (refine wpV_go 17 rfl (fun K hK => ?_); go_simp; refine hK.out _ ?_; clear hK K))
      any_goals (refine wpV_go 18 rfl (fun K hK => ?_); go_simp; refine hK.out _ ?_; clear hK K)
      any_goals (refine wpV_go 19 rfl (fun K hK => ?_); go_simp; refine hK.out _ ?_; clear hK K)
      any_goals (first | (refine wpV_f32 20 rfl (drewC _) _ _ _ _ _ rfl rfl rfl rfl (by decide) (by first | assumption | exact Is32.c (by decide)) (by first | assumption | exact Is32.c (by decide)) rfl ?_; intro z hz) | (refine wpV_go 20 rfl (fun K hK => ?_); go_simp; refine hK.out _ ?_; clear hK K))
      any_goals (first | (refine wpV_f32 21 rfl (drewC _) _ _ _ _ _ rfl rfl rfl rfl (by decide) (by first | assumption | exact Is32.c (by decide)) (by first | assumption | exact Is32.c (by decide)) rfl ?_; intro z hz) | (refine wpV_go 21 rfl (fun K hK => ?_); go_simp; refine hK.out _ ?_; clear hK K))
      any_goals (refine wpV_go 22 rfl (fun K hK => ?_); go_simp; refine hK.out _ ?_; clear hK K)
      any_goals (refine wpV_nil ?_; intro q)
      any_goals go_wp2_with fail
      any_goals apply wp_region_V (id := 12) (vmap [(18, V32k _), (19, V32k _), (20, V32k _), (21, V32o _)]) (by kernel_rfl) (by kernel_rfl)
      any_goals (refine wpV_go 1 rfl (fun K hK => ?_); go_simp; refine hK.out _ ?_; clear hK K)
      any_goals (refine wpV_go 2 rfl (fun K hK => ?_); go_simp; refine hK.out _ ?_; clear hK K)
      any_goals (refine wpV_go 3 rfl (fun K hK => ?_); go_simp; refine hK.out _ ?_; clear hK K)
      any_goals (first | (refine wpV_f32 4 rfl (drewC _) _ _ _ _ _ rfl rfl rfl rfl (by decide) (by first | assumption | exact Is32.c (by decide)) (by first | assumption | exact Is32.c (by decide)) rfl ?_; intro z hz) | (refine wpV_go 4 rfl (fun K hK => ?_); go_simp; refine hK.out _ ?_; clear hK K))
      any_goals (refine wpV_go 5 rfl (fun K hK => ?_); go_simp; refine hK.out _ ?_; clear hK K)
      any_goals (refine wpV_go 6 rfl (fun K hK => ?_); go_simp; refine hK.out _ ?_; clear hK K)
      any_goals (refine wpV_go 7 rfl (fun K hK => ?_); go_simp; refine hK.out _ ?_; clear hK K)
      any_goals (refine wpV_go 8 rfl (fun K hK => ?_); go_simp; refine hK.out _ ?_; clear hK K)
      any_goals (refine wpV_go 9 rfl (fun K hK => ?_); go_simp; refine hK.out _ ?_; clear hK K)
      any_goals (refine wpV_go 10 rfl (fun K hK => ?_); go_simp; refine hK.out _ ?_; clear hK K)
      any_goals (refine wpV_go 11 rfl (fun K hK => ?_); go_simp; refine hK.out _ ?_; clear hK K)
      any_goals (refine wpV_go 12 rfl (fun K hK => ?_); go_simp; refine hK.out _ ?_; clear hK K)
      any_goals (refine wpV_go 13 rfl (fun K hK => ?_); go_simp; refine hK.out _ ?_; clear hK K)
      any_goals (refine wpV_go 14 rfl (fun K hK => ?_); go_simp; refine hK.out _ ?_; clear hK K)
      any_goals (refine wpV_go 15 rfl (fun K hK => ?_); go_simp; refine hK.out _ ?_; clear hK K)
      any_goals (first | (refine wpV_f32 16 rfl (drewC _) _ _ _ _ _ rfl rfl rfl rfl (by decide) (by first | assumption | exact Is32.c (by decide)) (by first | assumption | exact Is32.c (by decide)) rfl ?_; intro z hz) | (refine wpV_go 16 rfl (fun K hK => ?_); go_simp; refine hK.out _ ?_; clear hK K))
      any_goals (refine wpV_go 17 rfl (fun K hK => ?_); go_simp; refine hK.out _ ?_; clear hK K)
      any_goals (refine wpV_go 18 rfl (fun K hK => ?_); go_simp; refine hK.out _ ?_; clear hK K)
      any_goals (first | (refine wpV_f32 19 rfl (drewC _) _ _ _ _ _ rfl rfl rfl rfl (by decide) (by first | assumption | exact Is32.c (by decide)) (by first | assumption | exact Is32.c (by decide)) rfl ?_; intro z hz) | (refine wpV_go 19 rfl (fun K hK => ?_); go_simp; refine hK.out _ ?_; clear hK K))
      any_goals (first | (refine wpV_f32 20 rfl (drewC _) _ _ _ _ _ rfl rfl rfl rfl (by decide) (by first | assumption | exact Is32.c (by decide)) (by first | assumption | exact Is32.c (by decide)) rfl ?_; intro z hz) | (refine wpV_go 20 rfl (fun K hK => ?_); go_simp; refine hK.out _ ?_; clear hK K))
      any_goals (first | (refine wpV_f32 21 rfl (drewC _) _ _ _ _ _ rfl rfl rfl rfl (by decide) (by first | assumption | exact Is32.c (by decide)) (by first | assumption | exact Is32.c (by decide)) rfl ?_; intro z hz) | (refine wpV_go 21 rfl (fun K hK => ?_); go_simp; refine hK.out _ ?_; clear hK K))
      any_goals (first | (refine wpV_only1 22 rfl (u := .float .f32 _) (drewC _) rfl (enters_of Try.func58 (by kernel_rfl) rfl) rfl rfl (fun _ => (finiteOnly_o _ (by first | assumption | exact Is32.c (by decide))).mono fun _ _ h => h.q) (onlyO_ne _ (by first | exact Is32.nef (by decide) _ _ | exact rootO_ne _)) rfl ?_; intro z bb hbb hz; cases bb) | (refine wpV_go 22 rfl (fun K hK => ?_); go_simp; refine hK.out _ ?_; clear hK K))
      any_goals (refine wpV_go 23 rfl (fun K hK => ?_); go_simp; refine hK.out _ ?_; clear hK K)
      any_goals (refine wpV_go 24 rfl (fun K hK => ?_); go_simp; refine hK.out _ ?_; clear hK K)
      any_goals (refine wpV_go 25 rfl (fun K hK => ?_); go_simp; refine hK.out _ ?_; clear hK K)
      any_goals (refine wpV_go 26 rfl (fun K hK => ?_); go_simp; refine hK.out _ ?_; clear hK K)
      any_goals (refine wpV_nil ?_; intro q)
      any_goals go_wp2_with fail
      all_goals (go_ret2; refine ⟨_, _, rfl, ?_, ?_, (by repeat (first | with_reducible exact HB1.out | with_reducible refine beld ?_ _ | (with_reducible refine Below.alloc ?_ ?_ _; rotate_left; exact (by first | (simp; done) | (simp; omega) | omega)) | (with_reducible refine Below.setCell ?_ ?_ _; rotate_left; exact (by first | (simp; done) | (simp; omega) | omega))))⟩ <;> (rw [HV.out, HSe.out]; unfold outU partU; rw [Nat.add_sub_cancel, HWs1.out, HWs0.out, HWt1.out, HWt0.out]; assumption))
    · obtain ⟨f, rfl⟩ : ∃ f9, f = f9 + 1 := ⟨f - 1, by omega⟩
      have hm9 : m + 1 + 1 < S.length := by
        refine Nat.lt_of_le_of_ne (by omega) (fun he => ?_)
        have h9 := Hge.out
        rw [show S.getD (S.length - 1) 0 = s1 by rw [← he, Nat.add_sub_cancel]; exact HWs1.out] at h9
        have h8 := geq_lss h9
        rw [hbb] at h8
        cases h8
      have hsk : seek S X f (m + 1 + 1) = seekO S X := by rw [← HSk.out]; show _ = (if fcmp .lss .f32 (some (S.getD (m + 1) 0)) X then seek S X f (m + 1 + 1) else m + 1); rw [HWs1.out, if_pos hbb]
      have HSk2 := Lib.hid hsk
      clear hsk
      go_wp2_with fail
      go_roundw
      case rel => exact ⟨m + 1, f, n, hm9, by go_num, by omega, HSk2, by first | rfl | exact rfl⟩
      case measure => simp [intOf]; omega

end Go.Proofs.Ytdoecpghlfjhiaa
