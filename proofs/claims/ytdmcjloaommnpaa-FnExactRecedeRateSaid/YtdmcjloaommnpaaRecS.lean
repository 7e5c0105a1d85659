/- How fast gauges recede: the model. -/
import Derived.Test.YtdmcjloaommnpaaRecI
namespace Go.Proofs.Ytdmcjloaommnpaa
open Go.RowKit
set_option linter.unusedVariables false
set_option linter.unusedSimpArgs false
set_option maxRecDepth 100000
attribute [local irreducible] wpV wpList Code.wp

set_option maxHeartbeats 16000000 in
theorem recedeRate_s (a : Option Addr) (cap : Nat) (zs : List Nat) (w : World) (h : RowF .f32 w a zs) (hl : zs.length ≤ 1048576) (hz : ∀ z ∈ zs, z < 4294967296) : Calls Try.prog 26 #[.slice a zs.length cap] w (OnlyB (recO zs) w) := by
  have Hr := Lib.hid (l07Gauge_o a cap zs w h hl hz)
  have H := Lib.hid h
  have Hz := Lib.hid hz
  clear h hz
  have Rno := Lib.hid (@rec_no zs)
  have Rfew := Lib.hid (@rec_few zs)
  have Rneg := Lib.hid (@rec_neg zs)
  have Rgo := Lib.hid (@rec_go zs)
  have Glen := Lib.hid (@gauB_len zs)
  have Ga := Lib.hid (@gauB_amt zs)
  generalize recO zs = R at *
  go_enter Try.func26, Try.ntmps26
  go_wp2_with fail
  refine Hr.out.mono ?_
  rintro e w1 ⟨bb, hbb, rfl, n1, rfl⟩
  have HB1 : Hid (Below w.heap.size w (w.drewN n1)) := Lib.hid (beld (Below.refl _ _) _)
  have H1 := Lib.hid (H.out.below HB1.out (Nat.le_refl _))
  generalize w.drewN n1 = w1 at *
  have Hbb := Lib.hid hbb
  clear hbb Hr
  cases bb
  · go_wp2_with fail
    go_ret2
    rw [Rno.out Hbb.out]
    exact ⟨_, _, rfl, rfl, Is32.c (by decide), (by first | exact HB1.out | exact beld HB1.out _ | exact beld (beld HB1.out _) _ | exact beld (beld (beld HB1.out _) _) _)⟩
  have h128 := Glen.out Hbb.out
  by_cases h2 : ((zs.length : Nat) : Int) < 2
  · go_wp2_with fail
    go_ret2
    rw [Rfew.out (by omega)]
    exact ⟨_, _, rfl, rfl, Is32.c (by decide), (by first | exact HB1.out | exact beld HB1.out _ | exact beld (beld HB1.out _) _ | exact beld (beld (beld HB1.out _) _) _)⟩
  obtain ⟨b, off, ha⟩ : ∃ b off, a = some ⟨b, off, none⟩ := by rcases H.out with h9 | ⟨b', o', h1, _, _⟩; exact absurd h9 (by intro h8; rw [h8] at h2; simp at h2); exact ⟨b', o', h1⟩
  subst ha
  have Rgo2 := Lib.hid (fun h9 => Rgo.out Hbb.out (by omega) h9)
  obtain ⟨n, hn⟩ : ∃ n, zs.length = n := ⟨_, rfl⟩
  rw [hn] at hl h128 h2 Rgo2 ⊢
  have Hn := Lib.hid hn
  clear hn
  go_wp2_with fail
  go_loopw [4, 5, 17] (fun sv nv iv wr => ∃ k q x : Nat, k ≤ n ∧ iv = .int .i64 (k : Int) ∧ sv = .float .f32 x ∧ Hid (Is32 (slO (recL zs k)) x) ∧ nv = .int .i64 ((recL zs k).length : Int) ∧ Hid ((zs.take k).all posG = true) ∧ wr = w1.drewN q) (fun _ _ iv _ => n - (intOf iv).toNat)
  case atStart => exact ⟨0, 0, 0, Nat.zero_le _, rfl, rfl, Lib.hid (Is32.c (by decide)), rfl, Lib.hid rfl, rfl⟩
  case round =>
    obtain ⟨k, q, x, hk, rfl, rfl, HX, rfl, HT, rfl⟩ := hrel
    by_cases hlt : k < n
    · obtain rfl | ⟨j, rfl⟩ : k = 0 ∨ ∃ j, k = j + 1 := by cases k with | zero => exact .inl rfl | succ j => exact .inr ⟨j, rfl⟩
      · have hk1 : (0 : Int) < (n : Int) := by omega
        obtain ⟨b8, o8, h8, hc1⟩ := (H1.out.cells) (0) (by rw [Hn.out]; omega)
        cases h8
        have hz1 : Is32 (some (zs.getD (0) 0)) (zs.getD (0) 0) := Is32.c (getD_lt Hz.out _ (by rw [Hn.out]; omega))
        have Hgp := Lib.hid (gtr_pos (Ga.out Hbb.out (0) (by rw [Hn.out]; omega)))
        have Hta := Lib.hid (gall_take zs posG (0) (by rw [Hn.out]; omega) HT.out)
        have Hno := Lib.hid (gall_no zs posG (0) (by rw [Hn.out]; omega))
        rw [Nat.add_zero] at hc1
        generalize zs.getD 0 0 = p at *
        go_wp2_with (first | ((with_reducible refine wpList_bin ?_); refine wpList_c32 rfl _ _ _ _ _ rfl rfl rfl (by decide) (by first | assumption | exact Is32.c (by decide)) (by first | assumption | exact Is32.c (by decide)) ?_; intro bb hbb; cases bb))
        all_goals have Hx := Lib.hid hbb
        all_goals clear hbb
        · go_wp2_with fail
          go_ret2
          rw [Rneg.out (Hno.out (by rw [Hgp.out]; exact Hx.out))]
          exact ⟨_, _, rfl, rfl, Is32.c (by decide), (by first | exact HB1.out | exact beld HB1.out _ | exact beld (beld HB1.out _) _ | exact beld (beld (beld HB1.out _) _) _)⟩
        apply wp_region_V (id := 10) (vmap []) (by kernel_rfl) (by kernel_rfl)
        (refine wpV_go 1 rfl (fun K hK => ?_); go_simp; refine hK.out _ ?_; clear hK K)
        (refine wpV_go 2 rfl (fun K hK => ?_); go_simp; refine hK.out _ ?_; clear hK K)
        (refine wpV_go 3 rfl (fun K hK => ?_); go_simp; refine hK.out _ ?_; clear hK K)
        (refine wpV_go 4 rfl (fun K hK => ?_); go_simp; refine hK.out _ ?_; clear hK K)
        (refine wpV_go 5 rfl (fun K hK => ?_); go_simp; refine hK.out _ ?_; clear hK K)
        (refine wpV_go 6 rfl (fun K hK => ?_); go_simp; refine hK.out _ ?_; clear hK K)
        (refine wpV_go 7 rfl (fun K hK => ?_); go_simp; refine hK.out _ ?_; clear hK K)
        (refine wpV_go 8 rfl (fun K hK => ?_); go_simp; refine hK.out _ ?_; clear hK K)
        (refine wpV_go 9 rfl (fun K hK => ?_); go_simp; refine hK.out _ ?_; clear hK K)
        (refine wpV_go 10 rfl (fun K hK => ?_); go_simp; refine hK.out _ ?_; clear hK K)
        (refine wpV_go 11 rfl (fun K hK => ?_); go_simp; refine hK.out _ ?_; clear hK K)
        (refine wpV_go 12 rfl (fun K hK => ?_); go_simp; refine hK.out _ ?_; clear hK K)
        (refine wpV_go 13 rfl (fun K hK => ?_); go_simp; refine hK.out _ ?_; clear hK K)
        (refine wpV_go 14 rfl (fun K hK => ?_); go_simp; refine hK.out _ ?_; clear hK K)
        (refine wpV_nil ?_; intro q9)
        go_wp2_with fail
        go_roundw
        case rel => exact ⟨1, _, _, by omega, by go_num, rfl, HX, rfl, Lib.hid (Hta.out (by rw [Hgp.out]; exact Hx.out)), by first | rfl | exact World.drewN_drewN _ _ _⟩
        case measure => simp [intOf]; omega
      · have hk1 : (j : Int) + 1 < (n : Int) := by omega
        have hk0 : (0 : Int) ≤ (j : Int) + 1 := by omega
        have hj0 : (0 : Int) ≤ (j : Int) := by omega
        have hj1 : (j : Int) < (n : Int) := by omega
        have hkp : (0 : Int) < (j : Int) + 1 := by omega
        have hw9 : IntKind.i64.wrap (j : Int) = (j : Int) := IntWalk.i64_in _ (by omega)
        have htn : ((j : Int) + 1).toNat = j + 1 := by omega
        rw [show ((j + 1 : Nat) : Int) = (j : Int) + 1 from rfl]
        obtain ⟨b8, o8, h8, hc1⟩ := (H1.out.cells) (j + 1) (by rw [Hn.out]; omega)
        cases h8
        have hz1 : Is32 (some (zs.getD (j + 1) 0)) (zs.getD (j + 1) 0) := Is32.c (getD_lt Hz.out _ (by rw [Hn.out]; omega))
        have Hgp := Lib.hid (gtr_pos (Ga.out Hbb.out (j + 1) (by rw [Hn.out]; omega)))
        have Hta := Lib.hid (gall_take zs posG (j + 1) (by rw [Hn.out]; omega) HT.out)
        have Hno := Lib.hid (gall_no zs posG (j + 1) (by rw [Hn.out]; omega))
        obtain ⟨b8, o8, h8, hc0⟩ := (H1.out.cells) j (by rw [Hn.out]; omega)
        cases h8
        have hz0 : Is32 (some (zs.getD j 0)) (zs.getD j 0) := Is32.c (getD_lt Hz.out _ (by rw [Hn.out]; omega))
        have HSt : Hid (recL zs (j + 2) = if fcmp .lss .f32 (some (zs.getD (j + 1) 0)) (some (zs.getD j 0)) then recL zs (j + 1) ++ [fop .quo .f32 (some (zs.getD (j + 1) 0)) (some (zs.getD j 0))] else recL zs (j + 1)) := Lib.hid rfl
        have hrl := recL_len zs (j + 1)
        have hxx := HX.out
        clear HX
        generalize recL zs (j + 1) = Xs at *
        have HSn := Lib.hid (slO_snoc Xs)
        obtain ⟨S, hSX⟩ : ∃ S, slO Xs = S := ⟨_, rfl⟩
        rw [hSX] at hxx HSn
        have HSX := Lib.hid hSX
        clear hSX
        obtain ⟨xl, hxl⟩ : ∃ xl, Xs.length = xl := ⟨_, rfl⟩
        rw [hxl] at hrl ⊢
        have HXl := Lib.hid hxl
        clear hxl
        generalize zs.getD (j + 1) 0 = p at *
        generalize zs.getD j 0 = p0 at *
        go_wp2_with (first | ((with_reducible refine wpList_bin ?_); refine wpList_c32 rfl _ _ _ _ _ rfl rfl rfl (by decide) (by first | assumption | exact Is32.c (by decide)) (by first | assumption | exact Is32.c (by decide)) ?_; intro bb hbb; cases bb))
        all_goals have Hx := Lib.hid hbb
        all_goals clear hbb
        · go_wp2_with fail
          go_ret2
          rw [Rneg.out (Hno.out (by rw [Hgp.out]; exact Hx.out))]
          exact ⟨_, _, rfl, rfl, Is32.c (by decide), (by first | exact HB1.out | exact beld HB1.out _ | exact beld (beld HB1.out _) _ | exact beld (beld (beld HB1.out _) _) _)⟩
        apply wp_region_V (id := 10) (vmap []) (by kernel_rfl) (by kernel_rfl)
        (refine wpV_go 1 rfl (fun K hK => ?_); go_simp; refine hK.out _ ?_; clear hK K)
        (refine wpV_go 2 rfl (fun K hK => ?_); go_simp; refine hK.out _ ?_; clear hK K)
        (refine wpV_go 3 rfl (fun K hK => ?_); go_simp; refine hK.out _ ?_; clear hK K)
        (refine wpV_go 4 rfl (fun K hK => ?_); go_simp; refine hK.out _ ?_; clear hK K)
        (refine wpV_go 5 rfl (fun K hK => ?_); go_simp; refine hK.out _ ?_; clear hK K)
        (refine wpV_go 6 rfl (fun K hK => ?_); go_simp; refine hK.out _ ?_; clear hK K)
        (refine wpV_go 7 rfl (fun K hK => ?_); go_simp; refine hK.out _ ?_; clear hK K)
        (refine wpV_go 8 rfl (fun K hK => ?_); go_simp; refine hK.out _ ?_; clear hK K)
        (refine wpV_go 9 rfl (fun K hK => ?_); go_simp; refine hK.out _ ?_; clear hK K)
        (refine wpV_go 10 rfl (fun K hK => ?_); go_simp; refine hK.out _ ?_; clear hK K)
        (refine wpV_go 11 rfl (fun K hK => ?_); go_simp; refine hK.out _ ?_; clear hK K)
        (refine wpV_go 12 rfl (fun K hK => ?_); go_simp; refine hK.out _ ?_; clear hK K)
        ((refine wpV_yes rfl ?_); refine wpV_c32 13 rfl _ _ _ _ _ rfl rfl rfl rfl (by decide) (by first | assumption | exact Is32.c (by decide)) (by first | assumption | exact Is32.c (by decide)) rfl ?_; intro bb hbb; cases bb)
        all_goals (refine wpV_go 14 rfl (fun K hK => ?_); go_simp; refine hK.out _ ?_; clear hK K)
        all_goals (refine wpV_nil ?_; intro q9)
        all_goals have Hlt := Lib.hid hbb
        all_goals clear hbb
        · go_wp2_with fail
          go_roundw
          case rel => exact ⟨j + 2, _, _, by omega, by go_num, rfl, Lib.hid (by rw [HSt.out, Hlt.out, if_neg (by decide), HSX.out]; exact hxx), (by rw [HSt.out, Hlt.out, if_neg (by decide), HXl.out]), Lib.hid (Hta.out (by rw [Hgp.out]; exact Hx.out)), by first | rfl | exact World.drewN_drewN _ _ _⟩
          case measure => simp [intOf]; omega
        · go_wp2_with fail
          apply wp_region_V (id := 11) (vmap [(10, V32k (fop .quo .f32 (some p) (some p0))), (11, V32k (logO (fop .quo .f32 (some p) (some p0)))), (12, V32k (fop .add .f32 S (logO (fop .quo .f32 (some p) (some p0)))))]) (by kernel_rfl) (by kernel_rfl)
          (refine wpV_go 1 rfl (fun K hK => ?_); go_simp; refine hK.out _ ?_; clear hK K)
          (refine wpV_go 2 rfl (fun K hK => ?_); go_simp; refine hK.out _ ?_; clear hK K)
          (refine wpV_go 3 rfl (fun K hK => ?_); go_simp; refine hK.out _ ?_; clear hK K)
          (refine wpV_go 4 rfl (fun K hK => ?_); go_simp; refine hK.out _ ?_; clear hK K)
          (refine wpV_go 5 rfl (fun K hK => ?_); go_simp; refine hK.out _ ?_; clear hK K)
          (refine wpV_go 6 rfl (fun K hK => ?_); go_simp; refine hK.out _ ?_; clear hK K)
          (refine wpV_go 7 rfl (fun K hK => ?_); go_simp; refine hK.out _ ?_; clear hK K)
          (refine wpV_go 8 rfl (fun K hK => ?_); go_simp; refine hK.out _ ?_; clear hK K)
          (refine wpV_go 9 rfl (fun K hK => ?_); go_simp; refine hK.out _ ?_; clear hK K)
          (refine wpV_go 10 rfl (fun K hK => ?_); go_simp; refine hK.out _ ?_; clear hK K)
          (refine wpV_f32 11 rfl (drewC _) _ _ _ _ _ rfl rfl rfl rfl (by decide) (by first | assumption | exact Is32.c (by decide)) (by first | assumption | exact Is32.c (by decide)) rfl ?_; intro z hz)
          (refine wpV_num1 12 rfl (u := .float .f32 _) (drewC _) rfl (enters_of Try.func58 (by kernel_rfl) rfl) rfl rfl (fun _ => (l01Log_o _ (by assumption))) (logO_ne _) rfl ?_; intro z hz)
          (refine wpV_f32 13 rfl (drewC _) _ _ _ _ _ rfl rfl rfl rfl (by decide) (by first | assumption | exact Is32.c (by decide)) (by first | assumption | exact Is32.c (by decide)) rfl ?_; intro z hz)
          (refine wpV_go 14 rfl (fun K hK => ?_); go_simp; refine hK.out _ ?_; clear hK K)
          (refine wpV_nil ?_; intro q10)
          have Hz9 := Lib.hid hz
          go_wp2_with fail
          go_roundw
          case rel => exact ⟨j + 2, _, _, by omega, by go_num, rfl, Lib.hid (by rw [HSt.out, Hlt.out, if_pos rfl, HSn.out]; exact Hz9.out), (by rw [HSt.out, Hlt.out, if_pos rfl, List.length_append, List.length_singleton, HXl.out]; go_num), Lib.hid (Hta.out (by rw [Hgp.out]; exact Hx.out)), by first | rfl | (rw [World.drewN_drewN, World.drewN_drewN]) | exact World.drewN_drewN _ _ _⟩
          case measure => simp [intOf]; omega
    · obtain rfl : k = n := by omega
      have hT := HT.out
      rw [List.take_of_length_le (by rw [Hn.out]; exact Nat.le_refl _)] at hT
      have HR := Lib.hid (Rgo2.out hT)
      clear hT
      have hrl := recL_len zs k
      have hxx := HX.out
      clear HX
      generalize recL zs k = Xs at *
      have hk1 : ¬ (k : Int) < (k : Int) := by omega
      by_cases h0 : Xs.length = 0
      · have h00 : ((Xs.length : Int) == 0) = true := by simp [h0]
        have HQ : Hid (R = (some 0, false)) := Lib.hid (by rw [HR.out]; exact recF_none h0)
        clear h0
        generalize Xs.length = xl at *
        go_wp2_with fail
        go_ret2
        rw [HQ.out]
        exact ⟨_, _, rfl, rfl, Is32.c (by decide), (by first | exact HB1.out | exact beld HB1.out _ | exact beld (beld HB1.out _) _ | exact beld (beld (beld HB1.out _) _) _)⟩
      · have h00 : ((Xs.length : Int) == 0) = false := by simp [h0]
        have HQ : Hid (R = onlyO (negO (meanO (slO Xs) Xs.length))) := Lib.hid (by rw [HR.out]; exact recF_some h0)
        clear h0
        generalize slO Xs = S at *
        generalize Xs.length = xl at *
        have hf1 : Is32 (some (iF xl)) (floatOfInt .f32 xl) := iF_is _
        go_wp2_with (first | ((with_reducible refine wpList_bin ?_); refine wpList_f32 rfl _ _ _ _ _ rfl rfl rfl (by decide) (by first | assumption | exact Is32.c (by decide)) (by first | assumption | exact Is32.c (by decide)) ?_; intro z n hz) | (go_at_call 59; refine (l02Number_o _ (by first | assumption | exact Is32.c (by decide) | exact Is32.neg (by assumption))).mono ?_; rintro e w' ⟨z, bb, rfl, hbb, hz, n9, rfl⟩))
        go_ret2
        rw [HQ.out]
        exact ⟨_, _, rfl, hbb, hz, (by first | exact HB1.out | exact beld HB1.out _ | exact beld (beld HB1.out _) _ | exact beld (beld (beld HB1.out _) _) _)⟩

end Go.Proofs.Ytdmcjloaommnpaa
