/- Rain that is spread: the model. -/
import Derived.Test.YtfdcfalkidcdnabSprI
namespace Go.Proofs.Ytfdcfalkidcdnab
open Go.RowKit
set_option linter.unusedVariables false
set_option linter.unusedSimpArgs false
set_option maxRecDepth 100000
attribute [local irreducible] wpV wpList Code.wp

set_option maxHeartbeats 8000000 in
theorem spreadRain_s (a0 : Option Addr) (cap0 : Nat) (X : List Nat) (a1 : Option Addr) (cap1 : Nat) (U : List Nat) (w : World) (h0 : RowF .f32 w a0 X) (hl0 : X.length ≤ 1048576) (hz0 : ∀ z ∈ X, z < 4294967296) (h1 : RowF .f32 w a1 U) (hl1 : U.length ≤ 1048576) (hz1 : ∀ z ∈ U, z < 4294967296) : Calls Try.prog 31 #[.slice a0 X.length cap0, .slice a1 U.length cap1] w (ListB (spreadO X U) w) := by
  obtain ⟨Q, hQ⟩ : ∃ Q, spreadO X U = Q := ⟨_, rfl⟩
  rw [hQ]
  have HQ := Lib.hid hQ
  have H0 := Lib.hid h0
  have H1 := Lib.hid h1
  have HZ0 := Lib.hid hz0
  have HZ1 := Lib.hid hz1
  clear hQ h0 h1 hz0 hz1
  go_enter Try.func31, Try.ntmps31
  go_wp2_with fail
  refine (l03IsRain_o a0 cap0 X _ H0.out hl0 HZ0.out).mono ?_
  rintro e w1 ⟨bb, hbb, rfl, q1, hw1⟩
  have HB1 : Hid (Below w.heap.size w w1) := Lib.hid (by rw [hw1]; exact beld (Below.refl _ _) _)
  have Hx := Lib.hid hbb
  clear hbb hw1
  cases bb
  · have hv : Q = ([], false) := by rw [← HQ.out]; unfold spreadO; simp only [Hx.out, Bool.false_and, Bool.and_false]; rfl
    have HV := Lib.hid hv
    clear hv
    go_wp2_with fail
    go_ret2
    rw [HV.out]
    exact ListB.no HB1.out
  go_wp2_with fail
  refine (l03IsRain_o a1 cap1 U _ (H1.out.below HB1.out (Nat.le_refl _)) hl1 HZ1.out).mono ?_
  rintro e w2 ⟨bb, hbb, rfl, q2, hw2⟩
  have HB2 : Hid (Below w.heap.size w w2) := Lib.hid (by rw [hw2]; exact beld HB1.out _)
  have Hu := Lib.hid hbb
  clear hbb hw2
  cases bb
  · have hv : Q = ([], false) := by rw [← HQ.out]; unfold spreadO; simp only [Hu.out, Bool.false_and, Bool.and_false]; rfl
    have HV := Lib.hid hv
    clear hv
    go_wp2_with fail
    go_ret2
    rw [HV.out]
    exact ListB.no HB2.out
  have hq := HQ.out
  unfold spreadO at hq
  rw [Hx.out, Hu.out] at hq
  have HQ2 : Hid ((if (cL X U X.length).all fin32o then ((cL X U X.length).map (fun Y => Y.getD 0), true) else ([], false)) = Q) := Lib.hid hq
  obtain ⟨hX128, hXf⟩ := rain_fn HZ0.out Hx.out
  obtain ⟨hU128, hUf⟩ := rain_fn HZ1.out Hu.out
  have HXf := Lib.hid hXf
  have HUf := Lib.hid hUf
  clear hq hXf hUf
  have hs2 : w.heap.size ≤ w2.heap.size := HB2.out.size
  have HE0 : Hid (RowO (w2.alloc (.cells #[] 22)) w.heap.size (.slice (some ⟨w2.heap.size, 0, none⟩) 0 0) []) := Lib.hid (World.ownsRow_lit (base := w.heap.size) (e := 22) (size := 1) w2 #[] 0 hs2 (by simp [maxLen]) rfl)
  have HB3 := Lib.hid (HB2.out.alloc hs2 (.cells #[] 22))
  go_wp2_with fail
  go_loopw [6, 21] (fun v i wr => ∃ vv : Value, vv = v ∧ (∃ (k : Nat) (ls : List Nat), k ≤ X.length ∧ i = .int .i64 k ∧ Hid (ls.length = k) ∧ Hid (Is32s (cL X U k) ls) ∧ Hid (RowO wr w.heap.size vv ls) ∧ Hid (Below w.heap.size w wr))) (fun _ i _ => X.length - (intOf i).toNat)
  case atStart => exact ⟨_, rfl, 0, [], Nat.zero_le _, rfl, Lib.hid rfl, Lib.hid Is32s.nil, Lib.hid (by exact HE0.out), HB3⟩
  case round =>
    obtain ⟨vv, rfl, k, ls, hk, rfl, HLk, HIl, HRow, HBk⟩ := hrel
    by_cases hlt : k < X.length
    · go_wp2_with fail
      go_loopw [8, 9] (fun xv iv wr => ∃ (i : Nat) (x : Nat), i ≤ k + 1 ∧ xv = .float .f32 x ∧ iv = .int .i64 i ∧ Hid (Is32 (cIt X U k i) x) ∧ Hid (RowO wr w.heap.size vv ls) ∧ Hid (Below w.heap.size w wr)) (fun _ iv _ => k + 1 - (intOf iv).toNat)
      case atStart => exact ⟨0, 0, Nat.zero_le _, rfl, rfl, Lib.hid (Is32.c (by decide)), HRow, HBk⟩
      case round =>
        obtain ⟨i, x, hi1, rfl, rfl, HX, HR, HBi⟩ := hrel
        by_cases hik : i ≤ k
        · have hix : i < X.length := by omega
          by_cases hju0 : k - i < U.length
          · obtain ⟨j, hj⟩ : ∃ j, k - i = j := ⟨_, rfl⟩
            have hju : j < U.length := by rw [← hj]; exact hju0
            clear hju0
            obtain ⟨bp, op, rfl, hcp⟩ := ((H0.out.below HBi.out (Nat.le_refl _)).cells) i hix
            obtain ⟨xp, hxp⟩ : ∃ x, X.getD i 0 = x := ⟨_, rfl⟩
            have hip : Is32 (some xp) xp := Is32.c (by rw [← hxp]; exact getD_lt HZ0.out _)
            rw [hxp] at hcp
            have Hxp := Lib.hid hxp
            clear hxp
            obtain ⟨bq, oq, rfl, hcq⟩ := ((H1.out.below HBi.out (Nat.le_refl _)).cells) j hju
            obtain ⟨xq, hxq⟩ : ∃ x, U.getD j 0 = x := ⟨_, rfl⟩
            have hiq : Is32 (some xq) xq := Is32.c (by rw [← hxq]; exact getD_lt HZ1.out _)
            rw [hxq] at hcq
            have Hxq := Lib.hid hxq
            clear hxq
            have hx9 := HX.out
            have hiw : IntKind.i64.wrap ((k : Int) - (i : Int)) = (j : Int) := by rw [IntWalk.i64_in _ (by omega)]; omega
            have hjd : (k : Int) - (i : Int) < (U.length : Int) := by omega
            have Hj := Lib.hid hj
            have hki : (i : Int) ≤ (k : Int) := by omega
            clear hj
            go_wp2_with fail
            refine wp_region_V (id := 12) (vmap [(11, V32k (fop .mul .f32 (some xp) (some xq))), (12, V32k (fop .add .f32 (cIt X U k i) (fop .mul .f32 (some xp) (some xq))))]) (by kernel_rfl) (by kernel_rfl) ?_
            (refine wpV_go 1 rfl (fun K hK => ?_); go_simp; refine hK.out _ ?_; clear hK K)
            (refine wpV_go 2 rfl (fun K hK => ?_); go_simp; refine hK.out _ ?_; clear hK K)
            (refine wpV_go 3 rfl (fun K hK => ?_); go_simp; refine hK.out _ ?_; clear hK K)
            (refine wpV_go 4 rfl (fun K hK => ?_); go_simp; refine hK.out _ ?_; clear hK K)
            (refine wpV_go 5 rfl (fun K hK => ?_); go_simp; refine hK.out _ ?_; clear hK K)
            (refine wpV_go 6 rfl (fun K hK => ?_); go_simp; refine hK.out _ ?_; clear hK K)
            (refine wpV_go 7 rfl (fun K hK => ?_); go_simp; refine hK.out _ ?_; clear hK K)
            (refine wpV_go 8 rfl (fun K hK => ?_); go_simp; refine hK.out _ ?_; clear hK K)
            (refine wpV_go 9 rfl (fun K hK => ?_); go_simp; refine hK.out _ ?_; clear hK K)
            (refine wpV_go 10 rfl (fun K hK => ?_); go_simp; refine hK.out _ ?_; clear hK K)
            (refine wpV_go 11 rfl (fun K hK => ?_); go_simp; refine hK.out _ ?_; clear hK K)
            (refine wpV_f32 12 rfl (drewC _) _ _ _ _ _ rfl rfl rfl rfl (by decide) hip hiq rfl ?_; intro z1 hz1)
            (refine wpV_f32 13 rfl (drewC _) _ _ _ _ _ rfl rfl rfl rfl (by decide) hx9 hz1 rfl ?_; intro z2 hz2)
            (refine wpV_go 14 rfl (fun K hK => ?_); go_simp; refine hK.out _ ?_; clear hK K)
            refine wpV_nil ?_
            intro q9
            go_wp2_with fail
            go_roundw
            case rel => exact ⟨i + 1, z2, by omega, rfl, by go_num, Lib.hid (by rw [cIt_yes (by rw [Hj.out]; exact hju)]; unfold cStep; rw [Hxp.out, Hj.out, Hxq.out]; exact hz2), Lib.hid (HR.out.drewN q9), Lib.hid (beld HBi.out q9)⟩
            case measure => simp [intOf]; omega
          · have hjd : ¬ (k : Int) - (i : Int) < (U.length : Int) := by omega
            have HJ := Lib.hid hju0
            have hki : (i : Int) ≤ (k : Int) := by omega
            clear hju0
            go_wp2_with fail
            go_roundw
            case rel => exact ⟨i + 1, x, by omega, rfl, by go_num, Lib.hid (by rw [cIt_no HJ.out]; exact HX.out), HR, HBi⟩
            case measure => simp [intOf]; omega
        · have hie : i = k + 1 := by omega
          subst hie
          have hnle : ¬ ((k : Int) + 1 ≤ (k : Int)) := by omega
          have hs9 : w.heap.size ≤ wr.heap.size := HBi.out.size
          have hcell9 := (Bx.new wr [.float .f32 x] 22).c 0 rfl
          have HCell9 := Lib.hid hcell9
          have hl9 : ls.length ≤ 1048576 := by rw [HLk.out]; omega
          have Hl9 := Lib.hid hl9
          clear hcell9 hl9
          go_wp2_with (at_builtin; refine push_any rfl rfl _ _ rfl rfl (HR.out.alloc _) wr.heap.size _ x rfl HCell9.out Hl9.out (by simp; omega) ?_)
          intro g9 cap9 w9 hrow9 hp9
          have HBn := Lib.hid (Below.pushed (HBi.out.alloc hs9 _) hp9 (HR.out.alloc _) (Nat.le_refl _) (by simp; omega))
          have Hrow9 := Lib.hid hrow9
          clear hrow9 hp9
          go_wp2_with fail
          go_roundw
          case rel => exact ⟨_, rfl, k + 1, ls ++ [x], by omega, by go_num, Lib.hid (by rw [List.length_append, List.length_singleton, HLk.out]), Lib.hid (by rw [cL_succ]; exact HIl.out.snoc HX.out), Hrow9, HBn⟩
          case measure => simp [intOf]; omega
    · have hkX : k = X.length := by omega
      subst hkX
      obtain ⟨av, cv, hv9⟩ := HRow.out.len
      have hrl9 : RowF .f32 wr av ls := (FRow.mk (hv9 ▸ HRow.out)).row
      subst hv9
      have HRl9 := Lib.hid hrl9
      have hls : ls.length ≤ 1048576 := by rw [HLk.out]; exact hl0
      have Hls := Lib.hid hls
      clear hrl9 hls
      go_wp2_with fail
      refine (l02Fin_f av cv ls _ HRl9.out Hls.out).mono ?_
      rintro e w9 ⟨bb, hbb, rfl, q9, hw9⟩
      have HB9 : Hid (Below w.heap.size w w9) := Lib.hid (by rw [hw9]; exact beld HBk.out _)
      have HR9 : Hid (RowO w9 w.heap.size (.slice av ls.length cv) ls) := Lib.hid (by rw [hw9]; exact HRow.out.drewN _)
      rw [HIl.out.fin] at hbb
      have Hbb := Lib.hid hbb
      clear hbb hw9
      cases bb
      · have hv : Q = ([], false) := by rw [← HQ2.out, if_neg]; rw [Hbb.out]; decide
        have HV := Lib.hid hv
        clear hv
        go_wp2_with fail
        go_ret2
        rw [HV.out]
        exact ListB.no HB9.out
      · have hv : Q = (ls, true) := by rw [← HQ2.out, if_pos Hbb.out, ← HIl.out.exact Hbb.out]
        have HV := Lib.hid hv
        clear hv
        go_wp2_with fail
        go_ret2
        rw [HV.out]
        exact ListB.yes HR9.out (Nat.le_refl _) Hls.out HB9.out

end Go.Proofs.Ytfdcfalkidcdnab
