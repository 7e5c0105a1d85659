/- The best lag: the model. -/
import Derived.Test.YtdmcjloaommnpaaLagI
namespace Go.Proofs.Ytdmcjloaommnpaa
open Go.RowKit
set_option linter.unusedVariables false
set_option linter.unusedSimpArgs false
set_option maxRecDepth 100000
attribute [local irreducible] wpV wpList Code.wp

set_option maxHeartbeats 8000000 in
theorem bestLag_s (a0 : Option Addr) (cap0 : Nat) (A : List Nat) (a1 : Option Addr) (cap1 : Nat) (B : List Nat) (most : Int) (w : World) (h0 : RowF .f32 w a0 A) (hl0 : A.length ≤ 1048576) (hz0 : ∀ z ∈ A, z < 4294967296) (hc0 : A.length ≤ cap0) (h1 : RowF .f32 w a1 B) (hl1 : B.length ≤ 1048576) (hz1 : ∀ z ∈ B, z < 4294967296) (hc1 : B.length ≤ cap1) (hmb : -9223372036854775808 ≤ most ∧ most ≤ 9223372036854775807) : Calls Try.prog 30 #[.slice a0 A.length cap0, .slice a1 B.length cap1, .int .i64 most] w (LagB (lagO A B most) w) := by
  have H0 := Lib.hid h0
  have H1 := Lib.hid h1
  have HZ0 := Lib.hid hz0
  have HZ1 := Lib.hid hz1
  clear h0 h1 hz0 hz1
  have Sno := Lib.hid (@lag_no A B most)
  have Sout := Lib.hid (@lag_out A B most)
  have Sgo := Lib.hid (@lag_go A B most)
  have HBp := Lib.hid (@bothB_parts A B)
  generalize lagO A B most = R at *
  go_enter Try.func30, Try.ntmps30
  go_wp2_with fail
  refine (l07Gauge_o a0 cap0 A _ H0.out hl0 HZ0.out).mono ?_
  rintro e w1 ⟨bb, hbb, rfl, n1, rfl⟩
  have Hx := Lib.hid hbb
  clear hbb
  cases bb
  · have HNo := Lib.hid (bothB_1 (S := B) Hx.out)
    go_wp2_with fail
    go_ret3
    rw [Sno.out HNo.out]
    exact ⟨_, _, rfl, rfl, Is32.c (by decide), (by first | exact HB1.out | exact beld (Below.refl _ _) _ | exact beld (beld (Below.refl _ _) _) _)⟩
  go_wp2_with fail
  refine (l07Gauge_o a1 cap1 B _ (H1.out.drewN n1) hl1 HZ1.out).mono ?_
  rintro e w2 ⟨bb, hbb, rfl, n2, rfl⟩
  have Hu := Lib.hid hbb
  clear hbb
  have HB1 : Hid (Below w.heap.size w ((w.drewN n1).drewN n2)) := Lib.hid (beld (beld (Below.refl _ _) _) _)
  have H0' := Lib.hid (H0.out.below HB1.out (Nat.le_refl _))
  have H1' := Lib.hid (H1.out.below HB1.out (Nat.le_refl _))
  generalize (w.drewN n1).drewN n2 = w1 at *
  cases bb
  · have HNo := Lib.hid (bothB_2 (T := A) Hu.out)
    go_wp2_with fail
    go_ret3
    rw [Sno.out HNo.out]
    exact ⟨_, _, rfl, rfl, Is32.c (by decide), (by first | exact HB1.out | exact beld (Below.refl _ _) _ | exact beld (beld (Below.refl _ _) _) _)⟩
  by_cases h3 : (A.length : Int) = (B.length : Int)
  rotate_left
  · have HNo := Lib.hid (bothB_3 h3)
    have h4 : ((A.length : Int) == (B.length : Int)) = false := beq_eq_false_iff_ne.2 h3
    have h5 : ((A.length : Int) != (B.length : Int)) = true := by simp [bne, h4]
    go_wp2_with fail
    go_ret3
    rw [Sno.out HNo.out]
    exact ⟨_, _, rfl, rfl, Is32.c (by decide), (by first | exact HB1.out | exact beld (Below.refl _ _) _ | exact beld (beld (Below.refl _ _) _) _)⟩
  have hbb := bothB_y Hx.out Hu.out h3
  have Hbb := Lib.hid hbb
  clear hbb
  have Hin9 : Hid (∀ v, (decide (0 ≤ most) && decide (most ≤ (A.length : Int) - 1)) = v → ∀ W, Calls Try.prog 75 #[.int .i64 most, .int .i64 0, .int .i64 ((A.length : Int) - 1)] W (SayS v W)) := Lib.hid fun v hv W => hv ▸ l00In_any _ _ _ W
  have hab : A.length = B.length := by omega
  have hw9 : IntKind.i64.wrap ((A.length : Int) - 1) = (A.length : Int) - 1 := IntWalk.i64_in _ (by omega)
  by_cases hin : 0 ≤ most ∧ most < (A.length : Int)
  rotate_left
  · have HO := Lib.hid (Sout.out hin)
    have hv : (decide (0 ≤ most) && decide (most ≤ (A.length : Int) - 1)) = false := by by_cases h7 : 0 ≤ most <;> simp [h7] <;> omega
    have HI := Lib.hid (Hin9.out _ hv)
    clear hv
    have HAB := Lib.hid hab
    have h4 : ((A.length : Int) == (B.length : Int)) = true := beq_iff_eq.2 h3
    have h5 : ((A.length : Int) != (B.length : Int)) = false := by simp [bne, h4]
    clear hab h3
    go_wp2_with fail
    refine (HI.out _).mono ?_
    rintro e w3 ⟨bb, hbb, rfl, rfl⟩
    subst hbb
    go_wp2_with fail
    go_ret3
    rw [HO.out]
    exact ⟨_, _, rfl, rfl, Is32.c (by decide), (by first | exact HB1.out | exact beld (Below.refl _ _) _ | exact beld (beld (Below.refl _ _) _) _)⟩
  have hv : (decide (0 ≤ most) && decide (most ≤ (A.length : Int) - 1)) = true := by simp; omega
  have HI := Lib.hid (Hin9.out _ hv)
  clear hv Hin9 hw9 h3 hab
  obtain ⟨hg0, hg1, hlen⟩ := HBp.out Hbb.out
  have h128 := gauB_len hg1
  have hp1 := gauB_pos hg1
  clear hg0 hg1 HBp
  have hR := Sgo.out Hbb.out hin
  obtain ⟨M, hM⟩ : ∃ M : Nat, most = (M : Int) := ⟨most.toNat, by omega⟩
  subst hM
  obtain ⟨b0, o0, ha0⟩ := RowF.some9 H0'.out (by omega)
  obtain ⟨b1, o1, ha1⟩ := RowF.some9 H1'.out (by omega)
  subst ha0 ha1
  obtain ⟨n, hn⟩ : ∃ n, B.length = n := ⟨_, rfl⟩
  rw [hn] at hlen h128 hp1 hl1 hc1 ⊢
  rw [hlen] at hin hR hl0 hc0 ⊢
  have HA := Lib.hid hlen
  have HBn := Lib.hid hn
  clear hlen hn
  have hMn : M < n := by omega
  clear hin
  rw [Int.toNat_natCast] at hR
  have HR : Hid (R = lagF (lagSp A B n (M + 1))) := Lib.hid hR
  clear hR
  have HI2 : Hid (∀ W, Calls Try.prog 75 #[.int .i64 (M : Int), .int .i64 0, .int .i64 ((n : Int) - 1)] W (SayS true W)) := Lib.hid (by have h9 := HI.out; rw [HA.out] at h9; exact h9)
  clear HI
  have hw9 : IntKind.i64.wrap ((n : Int) - 1) = (n : Int) - 1 := IntWalk.i64_in _ (by omega)
  have h5 : ((n : Int) != (n : Int)) = false := by simp [bne]
  have h10 : (0 : Int) ≤ (M : Int) := by omega
  go_wp2_with fail
  refine (HI2.out _).mono ?_
  rintro e w3 ⟨bb, hbb, rfl, rfl⟩
  subst hbb
  clear hw9 h5
  go_wp2_with fail
  go_loopw [9, 10, 11] (fun bv xv kv wr => ∃ k q x : Nat, k ≤ M + 1 ∧ kv = .int .i64 (k : Int) ∧ bv = .int .i64 (lagSp A B n k).b ∧ xv = .float .f32 x ∧ Hid (Is32 (lagSp A B n k).x x) ∧ wr = w1.drewN q) (fun _ _ kv _ => M + 1 - (intOf kv).toNat)
  case atStart => exact ⟨0, 0, 0, Nat.zero_le _, rfl, rfl, rfl, Lib.hid (Is32.c (by decide)), rfl⟩
  case round =>
    obtain ⟨k, q, x, hk, rfl, rfl, rfl, HXk, rfl⟩ := hrel
    by_cases hlt : k ≤ M
    · have hle : (k : Int) ≤ (M : Int) := by omega
      obtain ⟨m, hm⟩ : ∃ m : Nat, n - k = m := ⟨_, rfl⟩
      have hmi : IntKind.i64.wrap ((n : Int) - (k : Int)) = (m : Int) := by rw [IntWalk.i64_in _ (by omega)]; omega
      have Hf1 := Lib.hid (@lagSp_first A B n k)
      have Hf2 := Lib.hid (@lagSp_next A B n k)
      have hbd := lagSp_bd A B n k
      have hlm : lagM A B n k = fop .quo .f32 (lagS A B k m) (some (iF m)) := by unfold lagM; rw [hm]
      have HLM := Lib.hid hlm
      have Hm := Lib.hid hm
      clear hlm hm
      generalize lagSp A B n k = t at *
      obtain ⟨tb, tx⟩ := t
      simp only at HXk hbd Hf1 Hf2 ⊢
      go_wp2_with fail
      go_loopw [12, 14] (fun sv iv wr => ∃ i r s : Nat, i ≤ m ∧ iv = .int .i64 (i : Int) ∧ sv = .float .f32 s ∧ Hid (Is32 (lagS A B k i) s) ∧ wr = w1.drewN r) (fun _ iv _ => m - (intOf iv).toNat)
      case atStart => exact ⟨0, q, 0, Nat.zero_le _, rfl, rfl, Lib.hid (Is32.c (by decide)), rfl⟩
      case round =>
        obtain ⟨i, r, s, hi, rfl, rfl, HS, rfl⟩ := hrel
        by_cases him : i < m
        · have hiA : i < A.length := by rw [HA.out, ]; have := Hm.out; omega
          have hiB : i + k < B.length := by rw [HBn.out]; have := Hm.out; omega
          have hib2 : i + k < n := by rw [← HBn.out]; exact hiB
          have hiw : IntKind.i64.wrap ((i : Int) + (k : Int)) = ((i + k : Nat) : Int) := by rw [IntWalk.i64_in _ (by omega)]; omega
          have hx0 : Is32 (some (A.getD i 0)) (A.getD i 0) := Is32.c (getD_lt HZ0.out i hiA)
          have hy0 : Is32 (some (B.getD (i + k) 0)) (B.getD (i + k) 0) := Is32.c (getD_lt HZ1.out (i + k) hiB)
          obtain ⟨b8, o8, h8, hcA⟩ := H0'.out.cells i hiA
          cases h8
          obtain ⟨b8, o8, h8, hcB⟩ := H1'.out.cells (i + k) hiB
          cases h8
          have hst : Hid (lagS A B k (i + 1) = fop .add .f32 (lagS A B k i) (fop .mul .f32 (some (A.getD i 0)) (some (B.getD (i + k) 0)))) := Lib.hid rfl
          generalize lagS A B k i = S at *
          generalize A.getD i 0 = p at *
          generalize B.getD (i + k) 0 = y at *
          obtain ⟨ik, hik⟩ : ∃ ik, i + k = ik := ⟨_, rfl⟩
          rw [hik] at hiw hcB hiB
          have hs9 := HS.out
          have h20 : (0 : Int) ≤ (i : Int) := by omega
          have h21 : (i : Int) < (n : Int) := by rw [← HA.out]; omega
          have h22 : (0 : Int) ≤ (ik : Int) := by omega
          have h23 : (ik : Int) < (n : Int) := by rw [← HBn.out]; omega
          clear hik HS
          have him2 : (i : Int) < (m : Int) := by omega
          go_wp2_with fail
          apply wp_region_V (id := 13) (vmap [(11, V32k (fop .mul .f32 (some p) (some y))), (12, V32k (fop .add .f32 S (fop .mul .f32 (some p) (some y))))]) (by kernel_rfl) (by kernel_rfl)
          (refine wpV_go 1 rfl (fun K hK => ?_); go_simp; refine hK.out _ ?_; clear hK K)
          (refine wpV_go 2 rfl (fun K hK => ?_); go_simp; refine hK.out _ ?_; clear hK K)
          (refine wpV_go 3 rfl (fun K hK => ?_); go_simp; refine hK.out _ ?_; clear hK K)
          (refine wpV_go 4 rfl (fun K hK => ?_); go_simp; refine hK.out _ ?_; clear hK K)
          (refine wpV_go 5 rfl (fun K hK => ?_); go_simp; refine hK.out _ ?_; clear hK K)
          (refine wpV_go 6 rfl (fun K hK => ?_); go_simp; refine hK.out _ ?_; clear hK K)
          (refine wpV_go 7 rfl (fun K hK => ?_); go_simp; refine hK.out _ ?_; clear hK K)
          (refine wpV_go 8 rfl (fun K hK => ?_); go_simp; refine hK.out _ ?_; clear hK K)
          (refine wpV_go 9 rfl (fun K hK => ?_); go_simp; refine hK.out _ ?_; clear hK K)
          (refine wpV_go 10 rfl (fun K hK => ?_); go_simp; refine hK.out _ ?_; clear hK K)
          (refine wpV_go 11 rfl (fun K hK => ?_); go_simp; refine hK.out _ ?_; clear hK K)
          (refine wpV_f32 12 rfl (drewC _) _ _ _ _ _ rfl rfl rfl rfl (by decide) (by first | assumption | exact Is32.c (by decide)) (by first | assumption | exact Is32.c (by decide)) rfl ?_; intro z hz)
          (refine wpV_f32 13 rfl (drewC _) _ _ _ _ _ rfl rfl rfl rfl (by decide) (by first | assumption | exact Is32.c (by decide)) (by first | assumption | exact Is32.c (by decide)) rfl ?_; intro z hz)
          (refine wpV_go 14 rfl (fun K hK => ?_); go_simp; refine hK.out _ ?_; clear hK K)
          (refine wpV_nil ?_; intro q9)
          have HZ := Lib.hid hz
          clear hcA hcB hx0 hy0
          go_wp2_with fail
          go_roundw
          case rel => exact ⟨i + 1, _, _, by omega, by go_num, rfl, Lib.hid (by rw [hst.out]; exact HZ.out), by first | rfl | exact World.drewN_drewN _ _ _⟩
          case measure => simp [intOf]; omega
        · obtain rfl : i = m := by omega
          have hs9 := HS.out
          have hf1 : Is32 (some (iF i)) (floatOfInt .f32 i) := iF_is _
          have hx9 := HXk.out
          have him2 : ¬ (i : Int) < (i : Int) := by omega
          by_cases htb : tb < 0
          · have ht2 := Hf1.out (by omega)
            have Ht2 := Lib.hid ht2
            clear ht2
            go_wp2_with (first | ((with_reducible refine wpList_bin ?_); refine wpList_f32 rfl _ _ _ _ _ rfl rfl rfl (by decide) (by first | assumption | exact Is32.c (by decide)) (by first | assumption | exact Is32.c (by decide)) ?_; intro z n9 hz))
            have hz9 : Is32 (lagM A B n k) z := by rw [HLM.out]; assumption
            go_roundw
            case rel => exact ⟨k + 1, _, _, by omega, by go_num, by rw [Ht2.out], rfl, Lib.hid (by rw [Ht2.out]; exact hz9), by first | rfl | exact World.drewN_drewN _ _ _⟩
            case measure => simp [intOf]; omega
          · have ht2 := Hf2.out (by omega)
            rw [HLM.out] at ht2
            have Ht2 := Lib.hid ht2
            clear ht2
            go_wp2_with (first | ((with_reducible refine wpList_bin ?_); refine wpList_f32 rfl _ _ _ _ _ rfl rfl rfl (by decide) (by first | assumption | exact Is32.c (by decide)) (by first | assumption | exact Is32.c (by decide)) ?_; intro z n9 hz) | ((with_reducible refine wpList_bin ?_); refine wpList_c32 rfl _ _ _ _ _ rfl rfl rfl (by decide) (by first | assumption | exact Is32.c (by decide)) (by first | assumption | exact Is32.c (by decide)) ?_; intro bb hbb; cases bb))
            all_goals
              go_roundw
              case rel => exact ⟨k + 1, _, _, by omega, by go_num, by (rw [Ht2.out, hbb]; rfl), rfl, Lib.hid (by (rw [Ht2.out, hbb]; first | exact hz | exact hx9)), by first | rfl | exact World.drewN_drewN _ _ _⟩
              case measure => simp [intOf]; omega
    · obtain rfl : k = M + 1 := by omega
      have hle : ¬ ((M + 1 : Nat) : Int) ≤ (M : Int) := by omega
      generalize lagSp A B n (M + 1) = t at *
      obtain ⟨tb, tx⟩ := t
      simp only at HXk ⊢
      have hx9 := HXk.out
      go_wp2_with fail
      refine (l01Fin_o _ hx9).mono ?_
      rintro e w' ⟨bb, hbb, rfl, m9, rfl⟩
      have Hf := Lib.hid hbb
      clear hbb
      cases bb
      · go_wp2_with fail
        go_ret3
        rw [HR.out]
        unfold lagF
        rw [Hf.out]
        exact ⟨_, _, rfl, rfl, Is32.c (by decide), (by first | exact beld HB1.out _ | exact beld (beld HB1.out _) _)⟩
      · go_wp2_with fail
        go_ret3
        rw [HR.out]
        unfold lagF
        rw [Hf.out]
        exact ⟨_, _, rfl, rfl, hx9, (by first | exact beld HB1.out _ | exact beld (beld HB1.out _) _)⟩

end Go.Proofs.Ytdmcjloaommnpaa
