/- Droughts: the program and its model alike. -/
import Derived.Test.YtdmcjloaommnpaaDroV
import Derived.Test.YtdmcjloaommnpaaTri
namespace Go.Proofs.Ytdmcjloaommnpaa
open Go.RowKit Go.Proofs
set_option linter.unusedVariables false
set_option linter.unusedSimpArgs false
set_option maxRecDepth 100000
attribute [local irreducible] wpV wpList Code.wp

set_option maxHeartbeats 8000000 in
theorem droughtsIn_i {L : Option Nat} {lv : Nat} (a : Option Addr) (cap : Nat) (zs : List Nat) (w : World) (h : RowF .f32 w a zs) (hl : zs.length ≤ 1048576) (hz : ∀ z ∈ zs, z < 4294967296) (hlv : Is32 L lv) :
    Calls Try.prog 29 #[.slice a zs.length cap, .float .f32 lv] w (DroB (droO zs L) w) := by
  have Hr := Lib.hid (isGauge_i a cap zs w h hl hz)
  have H := Lib.hid h
  have Hz := Lib.hid hz
  clear h hz
  have Hbad := Lib.hid (@droO_bad zs L)
  have Hnan := Lib.hid (@droO_nan zs L)
  have Hgo := Lib.hid (@droO_go zs L)
  have Hgl := Lib.hid (@gauB_len zs)
  have Hga := Lib.hid (@gauB_amt zs)
  generalize droO zs L = R at *
  obtain ⟨len, hlen⟩ : ∃ len, zs.length = len := ⟨_, rfl⟩
  rw [hlen] at hl Hgo Hgl Hr ⊢
  have Hlen := Lib.hid hlen
  clear hlen
  go_enter Try.func29, Try.ntmps29
  go_wp2_with fail
  refine Hr.out.mono ?_
  rintro e w1 ⟨bb, hbb, rfl, hb⟩
  have Hb := Lib.hid hb
  have Hc := Lib.hid (H.out.below hb (Nat.le_refl _)).cells
  clear hb
  have Hbb := Lib.hid hbb
  clear hbb
  cases bb
  · go_wp2_with fail
    ((try simp only [Exit.inBlock, Exit.then]); refine bodyPost_ret (results_tmp4 rfl _ _ _) rfl ?_)
    rw [Hbad.out Hbb.out]
    exact ⟨_, 0, rfl, rfl, Is32.c (by decide), Hb.out⟩
  go_wp2_with (first | ((with_reducible refine wpList_bin ?_); refine wpList_c32 rfl _ _ _ _ _ rfl rfl rfl (by decide) (by first | assumption | exact Is32.c (by decide)) (by first | assumption | exact Is32.c (by decide)) ?_; intro bb hbb; cases bb))
  all_goals have Hn := Lib.hid hbb
  all_goals clear hbb
  rotate_left
  · go_wp2_with fail
    ((try simp only [Exit.inBlock, Exit.then]); refine bodyPost_ret (results_tmp4 rfl _ _ _) rfl ?_)
    rw [Hnan.out Hn.out]
    exact ⟨_, 0, rfl, rfl, Is32.c (by decide), Hb.out⟩
  have hR := Hgo.out Hbb.out Hn.out
  have HR := Lib.hid hR
  have h128 := Hgl.out Hbb.out
  clear hR
  go_loopw [8, 9, 10, 11, 12, 25] (fun r l m s o i wr => ∃ k n x y : Nat, k ≤ len ∧ i = .int .i64 k ∧ r = .int .i64 (droUp L zs k).runs ∧ l = .int .i64 (droUp L zs k).now ∧ m = .int .i64 (droUp L zs k).most ∧ s = .float .f32 x ∧ Hid (Is32 (droUp L zs k).sum x) ∧ o = .float .f32 y ∧ Hid (Is32 (droUp L zs k).worst y) ∧ wr = w1.drewN n) (fun _ _ _ _ _ i _ => len - (intOf i).toNat)
  case atStart => exact ⟨0, 0, 0, 0, Nat.zero_le _, rfl, rfl, rfl, rfl, rfl, Lib.hid (Is32.c (by decide)), rfl, Lib.hid (Is32.c (by decide)), rfl⟩
  case round =>
    obtain ⟨k, n, x, y, hk, rfl, rfl, rfl, rfl, rfl, hx, rfl, hy, rfl⟩ := hrel
    have hbd := droUp_bd L zs k
    by_cases hlt : k < len
    · obtain ⟨b, off, rfl, hc1⟩ := Hc.out k (by rw [Hlen.out]; exact hlt)
      have hzk : Is32 (some (zs.getD k 0)) (zs.getD k 0) := Is32.c (getD_lt Hz.out k (by rw [Hlen.out]; exact hlt))
      have Hcmp := Lib.hid (geq_not_lss (L := L) (Hga.out Hbb.out k (by rw [Hlen.out]; exact hlt)) Hn.out)
      have hst : Hid (droUp L zs (k + 1) = droStep (fcmp .lss .f32 (some (zs.getD k 0)) L) (fop .sub .f32 L (some (zs.getD k 0))) (droUp L zs k)) := Lib.hid rfl
      generalize droUp L zs k = s at *
      obtain ⟨s0, s1, s2, S, O⟩ := s
      simp only at hbd hx hy ⊢
      generalize zs.getD k 0 = z at *
      obtain ⟨q1, q2, q3, q4, q5, q6⟩ := hbd
      have hx9 := hx.out
      have hy9 := hy.out
      clear hx hy
      have hk0 : (0 : Int) ≤ (k : Int) := by omega
      have hk1 : (k : Int) < (len : Int) := by omega
      by_cases hs1 : s1 = 0
      all_goals
        go_wp2_with (first | ((with_reducible refine wpList_bin ?_); refine wpList_f32 rfl _ _ _ _ _ rfl rfl rfl (by decide) (by first | assumption | exact Is32.c (by decide)) (by first | assumption | exact Is32.c (by decide)) ?_; intro z n hz) | ((with_reducible refine wpList_bin ?_); refine wpList_c32 rfl _ _ _ _ _ rfl rfl rfl (by decide) (by first | assumption | exact Is32.c (by decide)) (by first | assumption | exact Is32.c (by decide)) ?_; intro bb hbb; cases bb) | ((with_reducible refine wpList_mx ?_); refine wpList_max rfl _ _ _ rfl rfl rfl (by first | assumption | exact Is32.c (by decide)) (by first | assumption | exact Is32.c (by decide)) ?_; intro z n hz))
      all_goals
        go_roundw
        case rel => exact ⟨k + 1, _, _, _, by omega, by go_num, (by (rw [hst.out]; unfold droStep; (first | rw [if_pos (by first | exact hbb | (rw [Hcmp.out] at hbb; simpa using hbb))] | rw [if_neg (by first | (rw [hbb]; decide) | (rw [Hcmp.out] at hbb; simpa using hbb))]);  all_goals (first | rfl | (simp only []; first | rw [if_pos hs1] | rw [if_neg hs1]; done) | (simp [hs1]; done) | (simp [hs1]; go_num) | go_num | (congr 1; omega)))), (by (rw [hst.out]; unfold droStep; (first | rw [if_pos (by first | exact hbb | (rw [Hcmp.out] at hbb; simpa using hbb))] | rw [if_neg (by first | (rw [hbb]; decide) | (rw [Hcmp.out] at hbb; simpa using hbb))]);  all_goals (first | rfl | (simp only []; first | rw [if_pos hs1] | rw [if_neg hs1]; done) | (simp [hs1]; done) | (simp [hs1]; go_num) | go_num | (congr 1; omega)))), (by (rw [hst.out]; unfold droStep; (first | rw [if_pos (by first | exact hbb | (rw [Hcmp.out] at hbb; simpa using hbb))] | rw [if_neg (by first | (rw [hbb]; decide) | (rw [Hcmp.out] at hbb; simpa using hbb))]);  all_goals (first | rfl | (simp only []; first | rw [if_pos hs1] | rw [if_neg hs1]; done) | (simp [hs1]; done) | (simp [hs1]; go_num) | go_num | (congr 1; omega)))), rfl, Lib.hid (by (rw [hst.out]; unfold droStep; (first | rw [if_pos (by first | exact hbb | (rw [Hcmp.out] at hbb; simpa using hbb))] | rw [if_neg (by first | (rw [hbb]; decide) | (rw [Hcmp.out] at hbb; simpa using hbb))]);  all_goals (first | assumption | exact Is32.c (by decide)))), rfl, Lib.hid (by (rw [hst.out]; unfold droStep; (first | rw [if_pos (by first | exact hbb | (rw [Hcmp.out] at hbb; simpa using hbb))] | rw [if_neg (by first | (rw [hbb]; decide) | (rw [Hcmp.out] at hbb; simpa using hbb))]);  all_goals (first | assumption | exact Is32.c (by decide)))), rfl⟩
        case measure => simp [intOf]; omega
    · obtain rfl : k = len := by omega
      generalize droUp L zs k = s at *
      obtain ⟨s0, s1, s2, S, O⟩ := s
      simp only at HR hy ⊢
      have hy9 := hy.out
      clear hy hx
      go_wp2_with fail
      refine (isFin_o _ hy9).mono ?_
      rintro e w' ⟨bb, hbb, rfl, rfl⟩
      have Hf := Lib.hid hbb
      clear hbb
      cases bb
      · go_wp2_with fail
        ((try simp only [Exit.inBlock, Exit.then]); refine bodyPost_ret (results_tmp4 rfl _ _ _) rfl ?_)
        rw [HR.out, Hf.out]
        exact ⟨_, 0, rfl, rfl, Is32.c (by decide), (by first | exact Hb.out | exact beld Hb.out _ | exact beld (beld Hb.out _) _)⟩
      · go_wp2_with fail
        ((try simp only [Exit.inBlock, Exit.then]); refine bodyPost_ret (results_tmp4 rfl _ _ _) rfl ?_)
        rw [HR.out, Hf.out]
        exact ⟨_, y, rfl, rfl, hy9, (by first | exact Hb.out | exact beld Hb.out _ | exact beld (beld Hb.out _) _)⟩

set_option maxHeartbeats 8000000 in
theorem droughtsIn_s {L : Option Nat} {lv : Nat} (a : Option Addr) (cap : Nat) (zs : List Nat) (w : World) (h : RowF .f32 w a zs) (hl : zs.length ≤ 1048576) (hz : ∀ z ∈ zs, z < 4294967296) (hlv : Is32 L lv) :
    Calls Try.prog 28 #[.slice a zs.length cap, .float .f32 lv] w (DroB (droO zs L) w) := by
  have Hr := Lib.hid (l07Gauge_o a cap zs w h hl hz)
  have H := Lib.hid h
  have Hz := Lib.hid hz
  clear h hz
  have Hbad := Lib.hid (@droO_bad zs L)
  have Hnan := Lib.hid (@droO_nan zs L)
  have Hgo := Lib.hid (@droO_go zs L)
  have Hgl := Lib.hid (@gauB_len zs)
  have Hga := Lib.hid (@gauB_amt zs)
  generalize droO zs L = R at *
  obtain ⟨len, hlen⟩ : ∃ len, zs.length = len := ⟨_, rfl⟩
  rw [hlen] at hl Hgo Hgl Hr ⊢
  have Hlen := Lib.hid hlen
  clear hlen
  go_enter Try.func28, Try.ntmps28
  go_wp2_with fail
  refine Hr.out.mono ?_
  rintro e w1 ⟨bb, hbb, rfl, n1, rfl⟩
  have Hb : Hid (Below w.heap.size w (w.drewN n1)) := Lib.hid (beld (Below.refl _ _) _)
  have Hc := Lib.hid (H.out.below Hb.out (Nat.le_refl _)).cells
  generalize w.drewN n1 = w1 at *
  have Hbb := Lib.hid hbb
  clear hbb
  cases bb
  · go_wp2_with fail
    ((try simp only [Exit.inBlock, Exit.then]); refine bodyPost_ret (results_tmp4 rfl _ _ _) rfl ?_)
    rw [Hbad.out Hbb.out]
    exact ⟨_, 0, rfl, rfl, Is32.c (by decide), Hb.out⟩
  go_wp2_with (first | ((with_reducible refine wpList_bin ?_); refine wpList_c32 rfl _ _ _ _ _ rfl rfl rfl (by decide) (by first | assumption | exact Is32.c (by decide)) (by first | assumption | exact Is32.c (by decide)) ?_; intro bb hbb; cases bb))
  all_goals have Hn := Lib.hid hbb
  all_goals clear hbb
  rotate_left
  · go_wp2_with fail
    ((try simp only [Exit.inBlock, Exit.then]); refine bodyPost_ret (results_tmp4 rfl _ _ _) rfl ?_)
    rw [Hnan.out Hn.out]
    exact ⟨_, 0, rfl, rfl, Is32.c (by decide), Hb.out⟩
  have hR := Hgo.out Hbb.out Hn.out
  have HR := Lib.hid hR
  have h128 := Hgl.out Hbb.out
  clear hR
  go_loopw [8, 10, 9, 12, 11, 24] (fun r l m s o i wr => ∃ k n x y : Nat, k ≤ len ∧ i = .int .i64 k ∧ r = .int .i64 (droUp L zs k).runs ∧ l = .int .i64 (droUp L zs k).now ∧ m = .int .i64 (droUp L zs k).most ∧ s = .float .f32 x ∧ Hid (Is32 (droUp L zs k).sum x) ∧ o = .float .f32 y ∧ Hid (Is32 (droUp L zs k).worst y) ∧ wr = w1.drewN n) (fun _ _ _ _ _ i _ => len - (intOf i).toNat)
  case atStart => exact ⟨0, 0, 0, 0, Nat.zero_le _, rfl, rfl, rfl, rfl, rfl, Lib.hid (Is32.c (by decide)), rfl, Lib.hid (Is32.c (by decide)), rfl⟩
  case round =>
    obtain ⟨k, n, x, y, hk, rfl, rfl, rfl, rfl, rfl, hx, rfl, hy, rfl⟩ := hrel
    have hbd := droUp_bd L zs k
    by_cases hlt : k < len
    · obtain ⟨b, off, rfl, hc1⟩ := Hc.out k (by rw [Hlen.out]; exact hlt)
      have hzk : Is32 (some (zs.getD k 0)) (zs.getD k 0) := Is32.c (getD_lt Hz.out k (by rw [Hlen.out]; exact hlt))
      have Hcmp := Lib.hid (geq_not_lss (L := L) (Hga.out Hbb.out k (by rw [Hlen.out]; exact hlt)) Hn.out)
      have hst : Hid (droUp L zs (k + 1) = droStep (fcmp .lss .f32 (some (zs.getD k 0)) L) (fop .sub .f32 L (some (zs.getD k 0))) (droUp L zs k)) := Lib.hid rfl
      generalize droUp L zs k = s at *
      obtain ⟨s0, s1, s2, S, O⟩ := s
      simp only at hbd hx hy ⊢
      generalize zs.getD k 0 = z at *
      obtain ⟨q1, q2, q3, q4, q5, q6⟩ := hbd
      have hx9 := hx.out
      have hy9 := hy.out
      clear hx hy
      have hk0 : (0 : Int) ≤ (k : Int) := by omega
      have hk1 : (k : Int) < (len : Int) := by omega
      by_cases hs1 : s1 = 0
      all_goals
        go_wp2_with (first | ((with_reducible refine wpList_bin ?_); refine wpList_f32 rfl _ _ _ _ _ rfl rfl rfl (by decide) (by first | assumption | exact Is32.c (by decide)) (by first | assumption | exact Is32.c (by decide)) ?_; intro z n hz) | ((with_reducible refine wpList_bin ?_); refine wpList_c32 rfl _ _ _ _ _ rfl rfl rfl (by decide) (by first | assumption | exact Is32.c (by decide)) (by first | assumption | exact Is32.c (by decide)) ?_; intro bb hbb; cases bb) | ((with_reducible refine wpList_mx ?_); refine wpList_max rfl _ _ _ rfl rfl rfl (by first | assumption | exact Is32.c (by decide)) (by first | assumption | exact Is32.c (by decide)) ?_; intro z n hz) | (go_at_call 74; refine (l00Max_q _ _ _).mono ?_; rintro e w' ⟨rfl, rfl⟩))
      all_goals
        go_roundw
        case rel => exact ⟨k + 1, _, _, _, by omega, by go_num, (by (rw [hst.out]; unfold droStep; (first | rw [if_pos (by first | exact hbb | (rw [Hcmp.out] at hbb; simpa using hbb))] | rw [if_neg (by first | (rw [hbb]; decide) | (rw [Hcmp.out] at hbb; simpa using hbb))]);  all_goals (first | rfl | (simp only []; first | rw [if_pos hs1] | rw [if_neg hs1]; done) | (simp [hs1]; done) | (simp [hs1]; go_num) | go_num | (congr 1; omega)))), (by (rw [hst.out]; unfold droStep; (first | rw [if_pos (by first | exact hbb | (rw [Hcmp.out] at hbb; simpa using hbb))] | rw [if_neg (by first | (rw [hbb]; decide) | (rw [Hcmp.out] at hbb; simpa using hbb))]);  all_goals (first | rfl | (simp only []; first | rw [if_pos hs1] | rw [if_neg hs1]; done) | (simp [hs1]; done) | (simp [hs1]; go_num) | go_num | (congr 1; omega)))), (by (rw [hst.out]; unfold droStep; (first | rw [if_pos (by first | exact hbb | (rw [Hcmp.out] at hbb; simpa using hbb))] | rw [if_neg (by first | (rw [hbb]; decide) | (rw [Hcmp.out] at hbb; simpa using hbb))]);  all_goals (first | rfl | (simp only []; first | rw [if_pos hs1] | rw [if_neg hs1]; done) | (simp [hs1]; done) | (simp [hs1]; go_num) | go_num | (congr 1; omega)))), rfl, Lib.hid (by (rw [hst.out]; unfold droStep; (first | rw [if_pos (by first | exact hbb | (rw [Hcmp.out] at hbb; simpa using hbb))] | rw [if_neg (by first | (rw [hbb]; decide) | (rw [Hcmp.out] at hbb; simpa using hbb))]);  all_goals (first | assumption | exact Is32.c (by decide)))), rfl, Lib.hid (by (rw [hst.out]; unfold droStep; (first | rw [if_pos (by first | exact hbb | (rw [Hcmp.out] at hbb; simpa using hbb))] | rw [if_neg (by first | (rw [hbb]; decide) | (rw [Hcmp.out] at hbb; simpa using hbb))]);  all_goals (first | assumption | exact Is32.c (by decide)))), rfl⟩
        case measure => simp [intOf]; omega
    · obtain rfl : k = len := by omega
      generalize droUp L zs k = s at *
      obtain ⟨s0, s1, s2, S, O⟩ := s
      simp only at HR hy ⊢
      have hy9 := hy.out
      clear hy hx
      go_wp2_with fail
      refine (l01Fin_o _ hy9).mono ?_
      rintro e w' ⟨bb, hbb, rfl, m, rfl⟩
      have Hf := Lib.hid hbb
      clear hbb
      cases bb
      · go_wp2_with fail
        ((try simp only [Exit.inBlock, Exit.then]); refine bodyPost_ret (results_tmp4 rfl _ _ _) rfl ?_)
        rw [HR.out, Hf.out]
        exact ⟨_, 0, rfl, rfl, Is32.c (by decide), (by first | exact Hb.out | exact beld Hb.out _ | exact beld (beld Hb.out _) _)⟩
      · go_wp2_with fail
        ((try simp only [Exit.inBlock, Exit.then]); refine bodyPost_ret (results_tmp4 rfl _ _ _) rfl ?_)
        rw [HR.out, Hf.out]
        exact ⟨_, y, rfl, rfl, hy9, (by first | exact Hb.out | exact beld Hb.out _ | exact beld (beld Hb.out _) _)⟩

end Go.Proofs.Ytdmcjloaommnpaa
