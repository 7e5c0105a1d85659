/- The walk of the law on AngleTurns. -/
import Derived.Test.YtpaldmhlcgdmkadAngle
namespace Go.Proofs.Ytpaldmhlcgdmkad
open Go.RowKit

/-- An operation whose guard is decided: the walk stands at its run. -/
theorem at_fl {P : Program} {w : World} (G : Result Value → Prop) (op : BinOp) (t : TypeId) (k : FloatKind) (x y : Nat) (h4 : op = .add ∨ op = .sub ∨ op = .mul ∨ op = .quo)
    (h : ∀ z n, Rp k (floatBits op k x y) z → G (.ok (.float k z) (w.drewN n))) : G ((binOp op t (.float k x) (.float k y)).run P w) := by
  obtain ⟨r, n, hr, hz⟩ := run_fl (P := P) w op h4 t k x y
  rw [hr]
  exact h r n hz

theorem sign_same {x : Nat} (hx : x < 4294967296) (hf : x % 2147483648 < 2139095040) : ∃ X, cvt .f32 x .f64 = some X ∧ X < 18446744073709551616 ∧ X % 9223372036854775808 < 9218868437227405312 ∧ FloatKind.f32.format.order x 0 = FloatKind.f64.format.order X 0 ∧
    ((FloatKind.f64.format.order X 0 = some .eq ∧ X % 9223372036854775808 = 0) ∨ ((FloatKind.f64.format.order X 0 == some .eq) = false ∧ X % 9223372036854775808 ≠ 0)) := by
  have ho := order32_zero hx hf
  by_cases h0 : x % 2147483648 = 0
  · rw [if_pos h0] at ho
    have : x = 0 ∨ x = 2147483648 := by omega
    rcases this with rfl | rfl
    · exact ⟨0, by decide +kernel, by decide, by decide, by rw [ho]; decide +kernel, .inl ⟨by decide +kernel, by decide⟩⟩
    · exact ⟨9223372036854775808, by decide +kernel, by decide, by decide, by rw [ho]; decide +kernel, .inl ⟨by decide +kernel, by decide⟩⟩
  · rw [if_neg h0] at ho
    by_cases hs : x < 2147483648
    · rw [if_neg (by omega)] at ho
      obtain ⟨r, hc, r1, r2⟩ := widen_pos (x := x) (by omega) (by omega)
      have := ord_zero_pos r1 r2
      exact ⟨r, hc, by omega, by omega, by rw [ho, this], .inr ⟨by rw [this]; rfl, by omega⟩⟩
    · rw [if_pos (by omega)] at ho
      obtain ⟨q, hc, q1, q2⟩ := widen_neg hx (by omega) hf
      have := ord_zero_neg q1 q2
      exact ⟨_, hc, by omega, by omega, by rw [ho, this], .inr ⟨by rw [this]; rfl, by omega⟩⟩

set_option maxHeartbeats 2000000 in
theorem angleLaw_y (y x : Nat) (hy : y < 4294967296) (hf : fin32 y = false) (hsub : ∀ z, Rp .f64 (cvt .f32 y .f64) z → floatBits .sub .f64 z z = none) (w : World) :
    Calls Try.prog 5 #[.float .f32 y, .float .f32 x] w fun e w' => e = .returned (.bool true) ∧ Grown w w' := by
  have hb := fb64_run
  have Hsub := Lib.hid hsub
  have H2 := Lib.hid (ifinF_any y hy hf)
  clear hy hf hsub
  go_enter Try.func5, Try.ntmps5
  go_wp2_with (first | (refine wpList_fl rfl _ _ _ _ _ rfl .f64 _ _ rfl rfl (by decide) ?_; intro d q hd; rw [Hsub.out _ (by assumption)] at hd; have o1 := order_nan_left (y := 0) hd.1; clear hd) | (go_at_call 15; go_in) | (go_at_call 37; go_in) | (go_at_call 55; go_in) | (go_at_call 50; go_in) | (go_at_call 16; go_in) | (go_at_call 33; go_in) | (go_at_call 34; go_in) | (go_at_call 32; refine (H2.out _).mono ?_; rintro e w' ⟨rfl, rfl⟩) | go_back | (refine wpList_cvt rfl _ _ _ rfl .f64 .f32 9221120237041090561 rfl (by kernel_rfl) Try.underlying22 (by decide +kernel) ?_; intro v p hv) | (refine wpList_cvt rfl _ _ _ rfl .f32 .f64 _ rfl (by kernel_rfl) Try.underlying25 (widen_ok _) ?_; intro z n hz))
  refine (sameFloat_true (cvtF .f32 .f64 (cvt .f64 9221120237041090561 .f32)) _ _ (rp_cvtF (by decide) (by assumption) (by assumption)) (rp_cvtF (by decide) (by assumption) (by assumption)) _).mono ?_
  rintro e w' ⟨rfl, n3, rfl⟩
  go_wp2_with fail
  go_ret
  exact ⟨rfl, Grown.refl _⟩

set_option maxHeartbeats 2000000 in
theorem angleLaw_x (y x Y : Nat) (hy : y < 4294967296) (hx : x < 4294967296) (hfy : fin32 y = true) (hf : fin32 x = false) (hcy : cvt .f32 y .f64 = some Y) (hY2 : Y % 9223372036854775808 < 9218868437227405312) (hsub : ∀ z, Rp .f64 (cvt .f32 x .f64) z → floatBits .sub .f64 z z = none) (w : World) :
    Calls Try.prog 5 #[.float .f32 y, .float .f32 x] w fun e w' => e = .returned (.bool true) ∧ Grown w w' := by
  have hb := fb64_run
  have Hsub := Lib.hid hsub
  have H1 := Lib.hid (ifinT_any y hy hfy)
  have H2 := Lib.hid (ifinF_any x hx hf)
  have hry := run_cvt_some (P := Try.prog) (by decide) hcy (widen_ok y) 22 25 (by kernel_rfl) Try.underlying25
  have r0 := fl_run (P := Try.prog) (sub_self_64 (y := Y) hY2) 25
  have h00 : FloatKind.f64.format.order 0 0 = some .eq := by decide +kernel
  clear hy hx hf hfy hcy hY2 hsub
  go_enter Try.func5, Try.ntmps5
  go_wp2_with (first | (refine wpList_cvt_eq rfl _ _ _ rfl rfl hry ?_) | (refine wpList_fl_eq rfl _ _ _ _ _ rfl .f64 _ _ _ rfl rfl (by decide) r0 ?_) | (go_at_call 15; go_in) | (go_at_call 37; go_in) | (go_at_call 55; go_in) | (go_at_call 50; go_in) | (go_at_call 16; go_in) | (go_at_call 33; go_in) | (go_at_call 34; go_in) | go_back | (refine wpList_cvt rfl _ _ _ rfl .f64 .f32 9221120237041090561 rfl (by kernel_rfl) Try.underlying22 (by decide +kernel) ?_; intro v p hv) | (refine wpList_cvt rfl _ _ _ rfl .f32 .f64 _ rfl (by kernel_rfl) Try.underlying25 (widen_ok _) ?_; intro z n hz))
  refine at_fl (fun R => Oper.upon _ _ _ _ _ (Result.andThen R _)) .sub _ .f64 _ _ (by decide) ?_
  intro d q hd
  rw [Hsub.out _ (by assumption)] at hd
  have o1 := order_nan_left (y := 0) hd.1
  clear hd
  go_wp2_with (first | (refine wpList_cvt_eq rfl _ _ _ rfl rfl hry ?_) | (refine wpList_fl_eq rfl _ _ _ _ _ rfl .f64 _ _ _ rfl rfl (by decide) r0 ?_) | (go_at_call 15; go_in) | (go_at_call 37; go_in) | (go_at_call 55; go_in) | (go_at_call 50; go_in) | (go_at_call 16; go_in) | (go_at_call 33; go_in) | (go_at_call 34; go_in) | go_back | (refine wpList_cvt rfl _ _ _ rfl .f64 .f32 9221120237041090561 rfl (by kernel_rfl) Try.underlying22 (by decide +kernel) ?_; intro v p hv) | (refine wpList_cvt rfl _ _ _ rfl .f32 .f64 _ rfl (by kernel_rfl) Try.underlying25 (widen_ok _) ?_; intro z n hz))
  refine (H1.out _).mono ?_
  rintro e w' ⟨rfl, rfl⟩
  go_wp2_with fail
  refine (H2.out _).mono ?_
  rintro e w' ⟨rfl, rfl⟩
  go_wp2_with (first | (go_at_call 33; go_in) | (go_at_call 34; go_in) | go_back | (refine wpList_cvt rfl _ _ _ rfl .f64 .f32 9221120237041090561 rfl (by kernel_rfl) Try.underlying22 (by decide +kernel) ?_; intro v p hv) | (refine wpList_cvt rfl _ _ _ rfl .f32 .f64 _ rfl (by kernel_rfl) Try.underlying25 (widen_ok _) ?_; intro z n hz))
  refine (sameFloat_true (cvtF .f32 .f64 (cvt .f64 9221120237041090561 .f32)) _ _ (rp_cvtF (by decide) (by assumption) (by assumption)) (rp_cvtF (by decide) (by assumption) (by assumption)) _).mono ?_
  rintro e w' ⟨rfl, n3, rfl⟩
  go_wp2_with fail
  go_ret
  exact ⟨rfl, Grown.refl _⟩

set_option maxHeartbeats 2000000 in
theorem angleLaw_zero (y x Y X : Nat) (hy : y < 4294967296) (hx : x < 4294967296) (hfy : fin32 y = true) (hfx : fin32 x = true) (hcy : cvt .f32 y .f64 = some Y) (hcx : cvt .f32 x .f64 = some X) (hY2 : Y % 9223372036854775808 < 9218868437227405312) (hX2 : X % 9223372036854775808 < 9218868437227405312)
    (oy : FloatKind.f32.format.order y 0 = some .eq) (ox : FloatKind.f32.format.order x 0 = some .eq) (oY : FloatKind.f64.format.order Y 0 = some .eq) (oX : FloatKind.f64.format.order X 0 = some .eq) (w : World) :
    Calls Try.prog 5 #[.float .f32 y, .float .f32 x] w fun e w' => e = .returned (.bool true) ∧ Grown w w' := by
  have H1 := Lib.hid (ifinT_any y hy hfy)
  have H2 := Lib.hid (ifinT_any x hx hfx)
  have hry := run_cvt_some (P := Try.prog) (by decide) hcy (widen_ok y) 22 25 (by kernel_rfl) Try.underlying25
  have hrx := run_cvt_some (P := Try.prog) (by decide) hcx (widen_ok x) 22 25 (by kernel_rfl) Try.underlying25
  have hrun0 := run_cvt_some (P := Try.prog) (s := .f64) (k := .f32) (b := 0) (r := 0) (by decide) (by decide +kernel) (by decide +kernel) 25 22 (by kernel_rfl) Try.underlying22
  have r0 := fl_run (P := Try.prog) (sub_self_64 (y := Y) hY2) 25
  have r1 := fl_run (P := Try.prog) (sub_self_64 (y := X) hX2) 25
  have h00 : FloatKind.f64.format.order 0 0 = some .eq := by decide +kernel
  clear hy hx hfx hfy hcy hcx hY2 hX2
  go_enter Try.func5, Try.ntmps5
  go_wp2_with (first | (refine wpList_cvt_eq rfl _ _ _ rfl rfl hry ?_) | (refine wpList_cvt_eq rfl _ _ _ rfl rfl hrx ?_) | (refine wpList_cvt_eq rfl _ _ _ rfl rfl hrun0 ?_) | (refine wpList_fl_eq rfl _ _ _ _ _ rfl .f64 _ _ _ rfl rfl (by decide) r0 ?_) | (refine wpList_fl_eq rfl _ _ _ _ _ rfl .f64 _ _ _ rfl rfl (by decide) r1 ?_) | (go_at_call 15; go_in) | (go_at_call 37; go_in) | (go_at_call 55; go_in) | (go_at_call 50; go_in) | (go_at_call 16; go_in) | go_back)
  refine (H1.out _).mono ?_
  rintro e w' ⟨rfl, rfl⟩
  go_wp2_with fail
  refine (H2.out _).mono ?_
  rintro e w' ⟨rfl, rfl⟩
  go_wp2_with (first | go_back | (refine wpList_cvt rfl _ _ _ rfl .f32 .f64 0 rfl (by kernel_rfl) Try.underlying25 (widen_ok _) ?_; intro z n hz))
  refine (sameFloat_true (cvt .f32 0 .f64) _ _ (by assumption) (by assumption) _).mono ?_
  rintro e w' ⟨rfl, n3, rfl⟩
  go_wp2_with fail
  go_ret
  exact ⟨rfl, Grown.refl _⟩

set_option maxHeartbeats 2000000 in
theorem angleLaw_main (y x Y X : Nat) (hy : y < 4294967296) (hx : x < 4294967296) (hfy : fin32 y = true) (hfx : fin32 x = true) (hcy : cvt .f32 y .f64 = some Y) (hcx : cvt .f32 x .f64 = some X) (hY : Y < 18446744073709551616) (hX : X < 18446744073709551616) (hY2 : Y % 9223372036854775808 < 9218868437227405312) (hX2 : X % 9223372036854775808 < 9218868437227405312)
    (oy : FloatKind.f32.format.order y 0 = FloatKind.f64.format.order Y 0) (ox : FloatKind.f32.format.order x 0 = FloatKind.f64.format.order X 0) (hne : Y % 9223372036854775808 ≠ 0 ∨ X % 9223372036854775808 ≠ 0)
    (hz : (FloatKind.f64.format.order X 0 == some .eq) = false ∨ (FloatKind.f64.format.order X 0 == some .eq) = true ∧ (FloatKind.f64.format.order Y 0 == some .eq) = false)
    (hz' : (FloatKind.f64.format.order Y 0 == some .eq) = false ∨ (FloatKind.f64.format.order Y 0 == some .eq) = true ∧ (FloatKind.f64.format.order X 0 == some .eq) = false) (w : World) :
    Calls Try.prog 5 #[.float .f32 y, .float .f32 x] w fun e w' => e = .returned (.bool true) ∧ Grown w w' := by
  have hry := run_cvt_some (P := Try.prog) (by decide) hcy (widen_ok y) 22 25 (by kernel_rfl) Try.underlying25
  have hrx := run_cvt_some (P := Try.prog) (by decide) hcx (widen_ok x) 22 25 (by kernel_rfl) Try.underlying25
  have Hn := Lib.hid (fun g h z hz => narrow_smo (z := z) (aD_sm hY2 hX2 hne g h) (by decide) hz)
  have H1 := Lib.hid (l01AngleWide_any Y X hY hX hY2 hX2 hz)
  have H2 := implAngle_any y x Y X hy hx hfy hfx hcy hcx hY hX hY2 hX2 hne (by rw [oy, ox]; exact hz')
  rw [oy, ox] at H2
  have H2' := Lib.hid H2
  clear hy hx hfx hfy hcy hcx hY hX hY2 hX2 oy ox hne hz hz' H2
  go_enter Try.func5, Try.ntmps5
  go_wp2_with (first | (refine wpList_cvt_eq rfl _ _ _ rfl rfl hry ?_) | (refine wpList_cvt_eq rfl _ _ _ rfl rfl hrx ?_) | (go_at_call 15; go_in) | (go_at_call 37; go_in) | go_back)
  refine (H1.out _).mono ?_
  rintro e w' ⟨v1, n1, rfl, rfl, hv1⟩
  have Hv1 := Lib.hid hv1; clear hv1
  go_wp2_with (first | (go_at_call 50; go_in) | go_back | (refine wpList_cvt rfl _ _ _ rfl .f64 .f32 _ rfl (by kernel_rfl) Try.underlying22 (Hn.out _ _ _ Hv1.out) ?_; intro z n hz; have Hz := Lib.hid hz; clear hz))
  refine (H2'.out _).mono ?_
  rintro e w' ⟨v2, n2, rfl, rfl, hv2⟩
  have Hv2 := Lib.hid hv2; clear hv2
  go_wp2_with (first | go_back | (refine wpList_cvt rfl _ _ _ rfl .f32 .f64 _ rfl (by kernel_rfl) Try.underlying25 (widen_ok _) ?_; intro z n hz))
  refine (sameFloat_true _ _ _ (Rp.cvtF (by decide) Hv2.out (by assumption)) (Rp.cvtF (by decide) (Rp.cvtF (by decide) Hv1.out Hz.out) (by assumption)) _).mono ?_
  rintro e w' ⟨rfl, n3, rfl⟩
  go_wp2_with fail
  go_ret
  exact ⟨rfl, Grown.refl _⟩

theorem walk_FnExactAngleTurns (y x : Nat) (hy : y < 4294967296) (hx : x < 4294967296) (w : World) :
    Calls Try.prog 5 #[.float .f32 y, .float .f32 x] w fun e w' => e = .returned (.bool true) ∧ Grown w w' := by
  by_cases hfy : y % 2147483648 < 2139095040
  · obtain ⟨Y, hcy, hY, hY2, oy, hYz⟩ := sign_same hy hfy
    by_cases hfx : x % 2147483648 < 2139095040
    · obtain ⟨X, hcx, hX, hX2, ox, hXz⟩ := sign_same hx hfx
      have ty : fin32 y = true := decide_eq_true hfy
      have tx : fin32 x = true := decide_eq_true hfx
      rcases hYz with ⟨hY0, hYm⟩ | ⟨hY0, hYm⟩
      · rcases hXz with ⟨hX0, hXm⟩ | ⟨hX0, hXm⟩
        · exact angleLaw_zero y x Y X hy hx ty tx hcy hcx hY2 hX2 (oy.trans hY0) (ox.trans hX0) hY0 hX0 w
        · exact angleLaw_main y x Y X hy hx ty tx hcy hcx hY hX hY2 hX2 oy ox (.inr hXm) (.inl hX0) (.inr ⟨by rw [hY0]; rfl, hX0⟩) w
      · rcases hXz with ⟨hX0, hXm⟩ | ⟨hX0, hXm⟩
        · exact angleLaw_main y x Y X hy hx ty tx hcy hcx hY hX hY2 hX2 oy ox (.inl hYm) (.inr ⟨by rw [hX0]; rfl, hY0⟩) (.inl hY0) w
        · exact angleLaw_main y x Y X hy hx ty tx hcy hcx hY hX hY2 hX2 oy ox (.inl hYm) (.inl hX0) (.inl hY0) w
    · exact angleLaw_x y x Y hy hx (decide_eq_true hfy) (decide_eq_false hfx) hcy hY2 (notfin_sub hx hfx) w
  · exact angleLaw_y y x hy (decide_eq_false hfy) (notfin_sub hy hfy) w
end Go.Proofs.Ytpaldmhlcgdmkad
