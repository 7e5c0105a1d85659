/- The walk of the law on PhasorOf. -/
import Derived.Test.YtpaldmhlcgdmkabPhasor
namespace Go.Proofs.Ytpaldmhlcgdmkab
open Go.RowKit

set_option maxHeartbeats 2000000 in
theorem phLaw_small (y : Nat) (hy : y < 18446744073709551616) (h : y % 9223372036854775808 < 4841369599423283200) (w : World) :
    Calls Try.prog 3 #[.float .f64 y] w fun e w' => e = .returned (.bool true) ∧ Grown w w' := by
  have H1 := Lib.hid (l01Phasor_any y h)
  have H2 := Lib.hid (implPhasor_any y hy h)
  clear hy h
  go_enter Try.func3, Try.ntmps3
  go_wp2_with (go_at_call 6; go_in)
  refine (H1.out _).mono ?_
  rintro e w' ⟨j, f, a1, a2, n1, hp, hg, rfl, rfl, ha1, ha2⟩
  have Hp := Lib.hid hp; have Hg := Lib.hid hg; have Ha1 := Lib.hid ha1; have Ha2 := Lib.hid ha2; clear hp hg ha1 ha2
  go_wp2_with go_back
  refine (H2.out _).mono ?_
  rintro e w' ⟨j', f', b1, b2, n2, hp, hg, rfl, rfl, hb1, hb2⟩
  obtain ⟨rfl, rfl⟩ := PI.unique Hp.out Hg.out hp hg
  have Hb1 := Lib.hid hb1; have Hb2 := Lib.hid hb2; clear hp hg hb1 hb2
  go_wp2_with (refine wpList_cvtc rfl _ _ _ rfl .f32 .f64 _ _ rfl (by kernel_rfl) Try.underlying26 (widen_ok _) (widen_ok _) ?_; intro r1 r2 n h1 h2)
  refine (sameComplex_true (cvtF .f32 .f64 (cvtF .f64 .f32 (pRe f j))) (cvtF .f32 .f64 (cvtF .f64 .f32 (pIm f j))) _ _ _ _ (Rp.cvtF (by decide) Hb1.out (by assumption)) (Rp.cvtF (by decide) Ha1.out (by assumption)) (Rp.cvtF (by decide) Hb2.out (by assumption)) (Rp.cvtF (by decide) Ha2.out (by assumption)) _).mono ?_
  rintro e w' ⟨rfl, n3, rfl⟩
  go_wp2_with fail
  go_ret
  exact ⟨rfl, Grown.refl _⟩

set_option maxHeartbeats 2000000 in
theorem phLaw_great (y : Nat) (hy : y < 18446744073709551616) (h1 : 4841369599423283200 ≤ y % 9223372036854775808) (h2 : y % 9223372036854775808 < 9218868437227405312) (w : World) :
    Calls Try.prog 3 #[.float .f64 y] w fun e w' => e = .returned (.bool true) ∧ Grown w w' := by
  have hself : FloatKind.f64.format.order y y = some .eq := by rw [order_self_64, if_neg (by omega)]
  have hinf : (FloatKind.f64.format.order (y % 9223372036854775808) 9218868437227405311 == some .gt) = false := by
    by_cases he : y % 9223372036854775808 = 9218868437227405311
    · rw [he]; decide +kernel
    · exact order_not_gt (by omega) (by decide) (by decide)
  have ha : (FloatKind.f64.format.order (y % 9223372036854775808) 4841369599423283200 == some .gt || FloatKind.f64.format.order (y % 9223372036854775808) 4841369599423283200 == some .eq) = true := by
    rcases great_order h1 h2 with h | h <;> rw [h] <;> rfl
  have HA := Lib.hid (mathAbs_any y hy)
  have r0 := fl_run (P := Try.prog) (sub_self_64 (y := y) h2) 22
  have h00 : FloatKind.f64.format.order 0 0 = some .eq := by decide +kernel
  have ho := great_any hy h1 h2
  clear hy h1 h2
  rcases ho with ho | ⟨ho, ho2⟩
  all_goals
    go_enter Try.func3, Try.ntmps3
    go_wp2_with (first | (refine wpList_cvtc rfl _ _ _ rfl .f32 .f64 1065353216 0 rfl (by kernel_rfl) Try.underlying26 (widen_ok _) (widen_ok _) ?_; intro r1 r2 n h1 h2) | (go_at_call 6; go_in) | (go_at_call 14; go_in) | (go_at_call 7; go_in) | (go_at_call 15; go_in) | (go_at_call 16; go_in) | (go_at_call 19; refine (HA.out _).mono ?_; rintro e w' ⟨rfl, rfl⟩) | go_back)
    refine (sameComplex_true (cvt .f32 1065353216 .f64) (cvt .f32 0 .f64) _ _ _ _ (by assumption) (by assumption) (by assumption) (by assumption) _).mono ?_
    rintro e w' ⟨rfl, n3, rfl⟩
    go_wp2_with fail
    go_ret
    exact ⟨rfl, Grown.refl _⟩

theorem nan_some : cvtF .f64 .f32 (some 9221120237041090561) = none := by decide +kernel
theorem nan_32 : Rp .f32 none 2143289344 := ⟨by decide +kernel, by decide⟩

set_option maxHeartbeats 2000000 in
theorem phLaw_not (y : Nat) (hy : y < 18446744073709551616) (hsub : floatBits .sub .f64 y y = none) (hcase : FloatKind.f64.format.order y y = none ∨ (FloatKind.f64.format.order y y = some .eq ∧ (FloatKind.f64.format.order (y % 9223372036854775808) 9218868437227405311 == some .gt) = true)) (w : World) :
    Calls Try.prog 3 #[.float .f64 y] w fun e w' => e = .returned (.bool true) ∧ Grown w w' := by
  have hb := fb64_run
  have hb32 := fb32_run
  have Hsub := Lib.hid hsub
  have HA := Lib.hid (mathAbs_any y hy)
  have HN := Lib.hid (narrowC_any (some 9221120237041090561) (some 9221120237041090561) _ _ rfl rfl (by decide +kernel) (by decide +kernel))
  clear hy hsub
  rcases hcase with hself | ⟨hself, hinf⟩
  all_goals
    go_enter Try.func3, Try.ntmps3
    go_wp2_with (first | (refine wpList_fl rfl _ _ _ _ _ rfl .f64 _ _ rfl rfl (by decide) ?_; intro d q hd; rw [Hsub.out] at hd; have o1 := order_nan_left (y := 0) hd.1; clear hd) | (go_at_call 6; go_in) | (go_at_call 14; go_in) | (go_at_call 30; go_in) | (go_at_call 7; go_in) | (go_at_call 15; go_in) | (go_at_call 16; go_in) | (go_at_call 18; go_in) | (go_at_call 19; refine (HA.out _).mono ?_; rintro e w' ⟨rfl, rfl⟩) | go_back)
    refine (HN.out _).mono ?_
    rintro e w' ⟨b1, b2, n2, rfl, rfl, hb1, hb2⟩
    rw [nan_some] at hb1 hb2
    have Hb1 := Lib.hid hb1; have Hb2 := Lib.hid hb2; clear hb1 hb2
    go_wp2_with (first | go_back | (refine wpList_cvtc rfl _ _ _ rfl .f32 .f64 _ _ rfl (by kernel_rfl) Try.underlying26 (widen_ok _) (widen_ok _) ?_; intro r1 r2 n h1 h2))
    refine (sameComplex_true (cvtF .f32 .f64 none) (cvtF .f32 .f64 none) _ _ _ _ (Rp.cvtF (by decide) Hb1.out (by assumption)) (Rp.cvtF (by decide) nan_32 (by assumption)) (Rp.cvtF (by decide) Hb2.out (by assumption)) (Rp.cvtF (by decide) nan_32 (by assumption)) _).mono ?_
    rintro e w' ⟨rfl, n3, rfl⟩
    go_wp2_with fail
    go_ret
    exact ⟨rfl, Grown.refl _⟩

theorem walk_FnExactPhasorOf (y : Nat) (hy : y < 18446744073709551616) (w : World) :
    Calls Try.prog 3 #[.float .f64 y] w fun e w' => e = .returned (.bool true) ∧ Grown w w' := by
  by_cases h2 : y % 9223372036854775808 < 9218868437227405312
  · by_cases hs : y % 9223372036854775808 < 4841369599423283200
    · exact phLaw_small y hy hs w
    · exact phLaw_great y hy (by omega) h2 w
  · by_cases hi : y % 9223372036854775808 = 9218868437227405312
    · refine phLaw_not y hy ?_ (.inr ⟨by rw [order_self_64, if_neg (by omega)], by rw [hi]; decide +kernel⟩) w
      have : y = 9218868437227405312 ∨ y = 18442240474082181120 := by omega
      rcases this with rfl | rfl
      · decide +kernel
      · decide +kernel
    · have hn : (FloatKind.f64.decode y).isNaN = true := by rw [nan64_iff, decide_eq_true_eq]; omega
      exact phLaw_not y hy (floatBits_nan_left hn) (.inl (by rw [order_self_64, if_pos (by omega)])) w
end Go.Proofs.Ytpaldmhlcgdmkab
