/- The walk of the law on SineTurns. -/
import Derived.Test.YtpaldmhlcgdmkadSine
import Derived.Test.YtpaldmhlcgdmkadFinTF
namespace Go.Proofs.Ytpaldmhlcgdmkad
open Go.RowKit

set_option maxHeartbeats 2000000 in
theorem sineLaw_not (x : Nat) (hx : x < 4294967296) (hf : fin32 x = false) (hsub : ∀ z, Rp .f64 (cvt .f32 x .f64) z → floatBits .sub .f64 z z = none) (w : World) :
    Calls Try.prog 4 #[.float .f32 x] w fun e w' => e = .returned (.bool true) ∧ Grown w w' := by
  have hb := fb64_run
  have Hsub := Lib.hid hsub
  have H2 := Lib.hid (ifinF_any x hx hf)
  clear hx hf hsub
  go_enter Try.func4, Try.ntmps4
  go_wp2_with (first | (refine wpList_cvt rfl _ _ _ rfl .f32 .f64 x rfl (by kernel_rfl) Try.underlying25 (widen_ok _) ?_; intro z n hz) | (refine wpList_fl rfl _ _ _ _ _ rfl .f64 _ _ rfl rfl (by decide) ?_; intro d q hd; rw [Hsub.out _ (by assumption)] at hd; have o1 := order_nan_left (y := 0) hd.1; clear hd) | (go_at_call 13; go_in) | (go_at_call 31; go_in) | (go_at_call 51; go_in) | (go_at_call 50; go_in) | (go_at_call 14; go_in) | (go_at_call 33; go_in) | (go_at_call 34; go_in) | (go_at_call 32; refine (H2.out _).mono ?_; rintro e w' ⟨rfl, rfl⟩) | go_back | (refine wpList_cvt rfl _ _ _ rfl .f64 .f32 9221120237041090561 rfl (by kernel_rfl) Try.underlying22 (by decide +kernel) ?_; intro y p hy) | (refine wpList_cvt rfl _ _ _ rfl .f32 .f64 _ rfl (by kernel_rfl) Try.underlying25 (widen_ok _) ?_; intro z n hz))
  refine (sameFloat_true (cvtF .f32 .f64 (cvt .f64 9221120237041090561 .f32)) _ _ (rp_cvtF (by decide) (by assumption) (by assumption)) (rp_cvtF (by decide) (by assumption) (by assumption)) _).mono ?_
  rintro e w' ⟨rfl, n3, rfl⟩
  go_wp2_with fail
  go_ret
  exact ⟨rfl, Grown.refl _⟩

set_option maxHeartbeats 2000000 in
theorem sineLaw_great (x r : Nat) (hx : x < 4294967296) (hf : fin32 x = true) (hc : cvt .f32 x .f64 = some r) (hr : r < 18446744073709551616) (h1 : 4841369599423283200 ≤ r % 9223372036854775808) (h2 : r % 9223372036854775808 < 9218868437227405312) (w : World) :
    Calls Try.prog 4 #[.float .f32 x] w fun e w' => e = .returned (.bool true) ∧ Grown w w' := by
  have hb := fb64_run
  have H2 := Lib.hid (ifinT_any x hx hf)
  have H3 := Lib.hid (mathAbs_any r hr)
  have hrun := run_cvt_some (P := Try.prog) (by decide) hc (widen_ok x) 22 25 (by kernel_rfl) Try.underlying25
  have hrun0 := run_cvt_some (P := Try.prog) (s := .f64) (k := .f32) (b := 0) (r := 0) (by decide) (by decide +kernel) (by decide +kernel) 25 22 (by kernel_rfl) Try.underlying22
  have r0 := fl_run (P := Try.prog) (sub_self_64 (y := r) h2) 25
  have h00 : FloatKind.f64.format.order 0 0 = some .eq := by decide +kernel
  have ha : (FloatKind.f64.format.order (r % 9223372036854775808) 4841369599423283200 == some .gt || FloatKind.f64.format.order (r % 9223372036854775808) 4841369599423283200 == some .eq) = true := by
    rcases great_order h1 h2 with h | h <;> rw [h] <;> rfl
  have ho := great_any hr h1 h2
  clear hx hf hc hr h1 h2
  rcases ho with ho | ⟨ho, ho2⟩
  · go_enter Try.func4, Try.ntmps4
    go_wp2_with (first | (refine wpList_cvt_eq rfl _ _ _ rfl rfl hrun ?_) | (refine wpList_cvt_eq rfl _ _ _ rfl rfl hrun0 ?_) | (refine wpList_fl_eq rfl _ _ _ _ _ rfl .f64 _ _ _ rfl rfl (by decide) r0 ?_) | (go_at_call 13; go_in) | (go_at_call 31; go_in) | (go_at_call 51; go_in) | (go_at_call 50; go_in) | (go_at_call 14; go_in) | (go_at_call 33; go_in) | (go_at_call 35; refine (H3.out _).mono ?_; rintro e w' ⟨rfl, rfl⟩) | (go_at_call 32; refine (H2.out _).mono ?_; rintro e w' ⟨rfl, rfl⟩) | go_back | (refine wpList_cvt rfl _ _ _ rfl .f32 .f64 0 rfl (by kernel_rfl) Try.underlying25 (widen_ok _) ?_; intro z n hz))
    refine (sameFloat_true (cvt .f32 0 .f64) _ _ (by assumption) (by assumption) _).mono ?_
    rintro e w' ⟨rfl, n3, rfl⟩
    go_wp2_with fail
    go_ret
    exact ⟨rfl, Grown.refl _⟩
  · go_enter Try.func4, Try.ntmps4
    go_wp2_with (first | (refine wpList_cvt_eq rfl _ _ _ rfl rfl hrun ?_) | (refine wpList_cvt_eq rfl _ _ _ rfl rfl hrun0 ?_) | (refine wpList_fl_eq rfl _ _ _ _ _ rfl .f64 _ _ _ rfl rfl (by decide) r0 ?_) | (go_at_call 13; go_in) | (go_at_call 31; go_in) | (go_at_call 51; go_in) | (go_at_call 50; go_in) | (go_at_call 14; go_in) | (go_at_call 33; go_in) | (go_at_call 35; refine (H3.out _).mono ?_; rintro e w' ⟨rfl, rfl⟩) | (go_at_call 32; refine (H2.out _).mono ?_; rintro e w' ⟨rfl, rfl⟩) | go_back | (refine wpList_cvt rfl _ _ _ rfl .f32 .f64 0 rfl (by kernel_rfl) Try.underlying25 (widen_ok _) ?_; intro z n hz))
    refine (sameFloat_true (cvt .f32 0 .f64) _ _ (by assumption) (by assumption) _).mono ?_
    rintro e w' ⟨rfl, n3, rfl⟩
    go_wp2_with fail
    go_ret
    exact ⟨rfl, Grown.refl _⟩

set_option maxHeartbeats 2000000 in
theorem sineLaw_small (x r : Nat) (hx : x < 4294967296) (hf : fin32 x = true) (hc : cvt .f32 x .f64 = some r) (hr : r < 18446744073709551616) (h1 : r % 9223372036854775808 < 4841369599423283200) (w : World) :
    Calls Try.prog 4 #[.float .f32 x] w fun e w' => e = .returned (.bool true) ∧ Grown w w' := by
  have H2 := Lib.hid (ifinT_any x hx hf)
  have H3 := Lib.hid (mathAbs_any r hr)
  have hrun := run_cvt_some (P := Try.prog) (by decide) hc (widen_ok x) 22 25 (by kernel_rfl) Try.underlying25
  have ha := (small_order (y := r % 9223372036854775808) (by omega)).1
  have H1 := Lib.hid h1
  have Hn := Lib.hid (fun z hz => narrow_smo (z := z) (sV_sm h1) (by decide) hz)
  clear hx hf hc hr h1
  go_enter Try.func4, Try.ntmps4
  go_wp2_with (first | (refine wpList_cvt_eq rfl _ _ _ rfl rfl hrun ?_) | (go_at_call 13; go_in) | (go_at_call 31; go_in) | go_back)
  refine (l01SineWide_any r H1.out _).mono ?_
  rintro e w' ⟨v1, n1, rfl, rfl, hv1⟩
  have Hv1 := Lib.hid hv1; clear hv1
  go_wp2_with (first | (refine wpList_cvt_eq rfl _ _ _ rfl rfl hrun ?_) | (go_at_call 50; go_in) | go_back | (go_at_call 14; go_in) | (go_at_call 35; refine (H3.out _).mono ?_; rintro e w' ⟨rfl, rfl⟩) | (go_at_call 32; refine (H2.out _).mono ?_; rintro e w' ⟨rfl, rfl⟩) | (refine wpList_cvt rfl _ _ _ rfl .f64 .f32 _ rfl (by kernel_rfl) Try.underlying22 (Hn.out _ Hv1.out) ?_; intro z n hz; have Hz := Lib.hid hz; clear hz))
  refine (wideSine_any r H1.out _).mono ?_
  rintro e w' ⟨v2, n2, rfl, rfl, hv2⟩
  have Hv2 := Lib.hid hv2; clear hv2
  go_wp2_with (first | (go_at_call 33; go_in) | go_back | (refine wpList_cvt rfl _ _ _ rfl .f64 .f32 _ rfl (by kernel_rfl) Try.underlying22 (Hn.out _ Hv2.out) ?_; intro z2 q2 hz2; have Hz2 := Lib.hid hz2; clear hz2) | (refine wpList_cvt rfl _ _ _ rfl .f32 .f64 _ rfl (by kernel_rfl) Try.underlying25 (widen_ok _) ?_; intro z n hz))
  refine (sameFloat_true (cvtF .f32 .f64 (cvtF .f64 .f32 (sV r))) _ _ (Rp.cvtF (by decide) (Rp.cvtF (by decide) Hv2.out Hz2.out) (by assumption)) (Rp.cvtF (by decide) (Rp.cvtF (by decide) Hv1.out Hz.out) (by assumption)) _).mono ?_
  rintro e w' ⟨rfl, n3, rfl⟩
  go_wp2_with fail
  go_ret
  exact ⟨rfl, Grown.refl _⟩

theorem walk_FnExactSineTurns (x : Nat) (hx : x < 4294967296) (w : World) :
    Calls Try.prog 4 #[.float .f32 x] w fun e w' => e = .returned (.bool true) ∧ Grown w w' := by
  by_cases hf : x % 2147483648 < 2139095040
  · have hft : fin32 x = true := decide_eq_true hf
    obtain ⟨r, hc, hr, h2⟩ := widen_fin hx hf
    by_cases hs : r % 9223372036854775808 < 4841369599423283200
    · exact sineLaw_small x r hx hft hc hr hs w
    · exact sineLaw_great x r hx hft hc hr (by omega) h2 w
  · exact sineLaw_not x hx (decide_eq_false hf) (notfin_sub hx hf) w
end Go.Proofs.Ytpaldmhlcgdmkad
