/- The angle of a point: the walks of the program's text and of its model's. -/
import Derived.Test.YtpaldmhlcgdmkadAngleV
import Derived.Test.YtpaldmhlcgdmkadSine
import Derived.Test.YtpaldmhlcgdmkadFinTF
namespace Go.Proofs.Ytpaldmhlcgdmkad
open Go.RowKit

theorem aB_over {a b r v : Nat} (ho : aOver a b = true) (hr : Rp .f64 (rA (aR a b)) r) (hv : Rp .f64 (floatBits .sub .f64 qtW r) v) : Rp .f64 (aB a b) v := by
  unfold aB
  rw [if_pos ho]; exact Rp.fop (Rp.refl _ _) hr hv
theorem aB_not {a b r : Nat} (ho : aOver a b = false) (hr : Rp .f64 (rA (aR a b)) r) : Rp .f64 (aB a b) r := by
  unfold aB
  rw [ho, if_neg Bool.false_ne_true]; exact hr
theorem aR_over {a b v : Nat} (ho : aOver a b = true) (hv : Rp .f64 (floatBits .quo .f64 b a) v) : Rp .f64 (aR a b) v := by
  unfold aR
  rw [if_pos ho]; exact hv
theorem aR_not {a b v : Nat} (ho : aOver a b = false) (hv : Rp .f64 (floatBits .quo .f64 a b) v) : Rp .f64 (aR a b) v := by
  unfold aR
  rw [ho, if_neg Bool.false_ne_true]; exact hv
theorem aD_tt {a b v c : Nat} {g h : Bool} (hv : Rp .f64 (aB a b) v) (hg : g = true) (hh : h = true) (hc : Rp .f64 (floatBits .sub .f64 hfW v) c) : Rp .f64 (aD a b g h) (Op.negFloat .f64 c) := by
  subst hg; subst hh
  exact (Rp.fop (Rp.refl _ _) hv hc : Rp .f64 (aC a b true) c).neg
theorem aD_tf {a b v c : Nat} {g h : Bool} (hv : Rp .f64 (aB a b) v) (hg : g = true) (hh : h = false) (hc : Rp .f64 (floatBits .sub .f64 hfW v) c) : Rp .f64 (aD a b g h) c := by
  subst hg; subst hh
  exact (Rp.fop (Rp.refl _ _) hv hc : Rp .f64 (aC a b true) c)
theorem aD_ft {a b v : Nat} {g h : Bool} (hv : Rp .f64 (aB a b) v) (hg : g = false) (hh : h = true) : Rp .f64 (aD a b g h) (Op.negFloat .f64 v) := by
  subst hg; subst hh
  exact (show Rp .f64 (aC a b false) v from hv).neg
theorem aD_ff {a b v : Nat} {g h : Bool} (hv : Rp .f64 (aB a b) v) (hg : g = false) (hh : h = false) : Rp .f64 (aD a b g h) v := by
  subst hg; subst hh
  exact hv

set_option maxHeartbeats 1000000 in
theorem angleOfRatio_any (t : Option Nat) (z0 : Nat) (h0 : Rp .f64 t z0) (w : World) : Calls Try.prog 38 #[.float .f64 z0] w (RetF .f64 (rA t) w) := by
  have H0 := Lib.hid h0
  clear h0
  go_enter Try.func38, Try.ntmps38
  go_wp2_with fail
  go_loopw [0, 6] (fun t' k wr => ∃ (j m x : Nat), j ≤ 3 ∧ k = .int .i64 (j : Int) ∧ t' = .float .f64 x ∧ Hid (Rp .f64 (rT t j) x) ∧ wr = w.drewN m) (fun _ k _ => (3 - intOf k).toNat)
  case atStart => exact ⟨0, 0, _, by omega, rfl, rfl, H0, rfl⟩
  case round =>
    obtain ⟨j, m, x, hj, rfl, rfl, HX, rfl⟩ := hrel
    by_cases hlt : j < 3
    · go_wp2_with (first | (refine wpList_fl rfl _ _ _ _ _ rfl .f64 _ _ rfl rfl (by decide) ?_; intro z n hz) | (go_at_call 56; refine (mathSqrt_any _ _).mono ?_; rintro e w' ⟨r, q, rfl, rfl, hr⟩))
      exact ⟨⟨j + 1, _, _, by omega, by go_num, rfl, Lib.hid (rT_next HX.out (by assumption) (by assumption) (by assumption) (by assumption) (by assumption)), rfl⟩, by simp [intOf]; omega⟩
    · obtain rfl : j = 3 := by omega
      go_wp2_with (refine wpList_fl rfl _ _ _ _ _ rfl .f64 _ _ rfl rfl (by decide) ?_; intro z n hz)
      have HU := Lib.hid (show Rp .f64 (rU t) z from Rp.fop HX.out HX.out hz)
      clear hz hlt hj
      go_loopw [4, 5] (fun p k wr => ∃ (j m x : Nat), j ≤ 8 ∧ k = .int .i64 (15 - 2 * (j : Int)) ∧ p = .float .f64 x ∧ Hid (Rp .f64 (rP t j) x) ∧ wr = w.drewN m) (fun _ k _ => (intOf k + 1).toNat)
      case atStart => exact ⟨0, _, _, by omega, rfl, rfl, Lib.hid rfl, rfl⟩
      case round =>
        obtain ⟨j, m, p, hj, rfl, rfl, HP, rfl⟩ := hrel
        by_cases hlt : j < 8
        · go_wp2_with (refine wpList_fl rfl _ _ _ _ _ rfl .f64 _ _ rfl rfl (by decide) ?_; intro z n hz)
          exact ⟨⟨j + 1, _, z, by omega, int_congr (by omega), rfl, Lib.hid (rP_next HU.out HP.out (by assumption) (by assumption) (by assumption)), rfl⟩, by simp [intOf]; omega⟩
        · obtain rfl : j = 8 := by omega
          go_wp2_with (refine wpList_fl rfl _ _ _ _ _ rfl .f64 _ _ rfl rfl (by decide) ?_; intro z n hz)
          go_ret
          exact ⟨_, _, rfl, rfl, Rp.fop (Rp.fop (Rp.refl _ _) (Rp.fop HX.out HP.out (by assumption)) (by assumption)) (Rp.refl _ _) (by assumption)⟩

set_option maxHeartbeats 1000000 in
theorem narrow_any (o : Option Nat) (v : Nat) (hv : Rp .f64 o v) (hs : tooGreat .f64 v .f32 = false) (w : World) : Calls Try.prog 33 #[.float .f64 v] w (RetF .f32 (cvtF .f64 .f32 o) w) := by
  have Hv := Lib.hid hv
  have Hs := Lib.hid hs
  clear hv hs
  go_enter Try.func33, Try.ntmps33
  go_wp2_with (refine wpList_cvt rfl _ _ _ rfl .f64 .f32 _ rfl (by kernel_rfl) Try.underlying22 Hs.out ?_; intro z n hz)
  go_ret
  exact ⟨_, _, rfl, rfl, Rp.cvtF (by decide) Hv.out (by assumption)⟩

set_option maxHeartbeats 2000000 in
theorem implAngle_any (y x Y X : Nat) (hy : y < 4294967296) (hx : x < 4294967296) (hfy : fin32 y = true) (hfx : fin32 x = true) (hcy : cvt .f32 y .f64 = some Y) (hcx : cvt .f32 x .f64 = some X) (hY : Y < 18446744073709551616) (hX : X < 18446744073709551616)
    (hY2 : Y % 9223372036854775808 < 9218868437227405312) (hX2 : X % 9223372036854775808 < 9218868437227405312) (hne : Y % 9223372036854775808 ≠ 0 ∨ X % 9223372036854775808 ≠ 0)
    (hz : (FloatKind.f32.format.order y 0 == some .eq) = false ∨ (FloatKind.f32.format.order y 0 == some .eq) = true ∧ (FloatKind.f32.format.order x 0 == some .eq) = false) (w : World) :
    Calls Try.prog 16 #[.float .f32 y, .float .f32 x] w (RetF .f32 (cvtF .f64 .f32 (aD (Y % 9223372036854775808) (X % 9223372036854775808) (FloatKind.f32.format.order x 0 == some .lt) (FloatKind.f32.format.order y 0 == some .lt))) w) := by
  have Hn := Lib.hid (fun g h z hz => narrow_smo (z := z) (aD_sm hY2 hX2 hne g h) (by decide) hz)
  have Hfy := Lib.hid (ifinT_any y hy hfy)
  have Hfx := Lib.hid (ifinT_any x hx hfx)
  have hry := run_cvt_some (P := Try.prog) (by decide) hcy (widen_ok y) 22 25 (by kernel_rfl) Try.underlying25
  have hrx := run_cvt_some (P := Try.prog) (by decide) hcx (widen_ok x) 22 25 (by kernel_rfl) Try.underlying25
  have HY := Lib.hid hY
  have HX := Lib.hid hX
  clear hy hx hfy hfx hcy hcx hY hX hY2 hX2 hne
  cases hov : aOver (Y % 9223372036854775808) (X % 9223372036854775808)
  all_goals
    have hq : (FloatKind.f64.format.order (Y % 9223372036854775808) (X % 9223372036854775808) == some .gt) = _ := hov
    have Ho := Lib.hid hov
    clear hov
    rcases hz with hz | ⟨hz, hz2⟩
    all_goals
      go_enter Try.func16, Try.ntmps16
      go_wp2_with fail
      refine (Hfy.out _).mono ?_
      rintro e w' ⟨rfl, rfl⟩
      go_wp2_with fail
      refine (Hfx.out _).mono ?_
      rintro e w' ⟨rfl, rfl⟩
      go_wp2_with (first | (refine wpList_cvt_eq rfl _ _ _ rfl rfl hry ?_) | (refine wpList_cvt_eq rfl _ _ _ rfl rfl hrx ?_))
      refine (mathAbs_any Y HY.out _).mono ?_
      rintro e w' ⟨rfl, rfl⟩
      go_wp2_with (first | (refine wpList_cvt_eq rfl _ _ _ rfl rfl hry ?_) | (refine wpList_cvt_eq rfl _ _ _ rfl rfl hrx ?_))
      refine (mathAbs_any X HX.out _).mono ?_
      rintro e w' ⟨rfl, rfl⟩
      go_wp2_with (refine wpList_fl rfl _ _ _ _ _ rfl .f64 _ _ rfl rfl (by decide) ?_; intro z n hz)
      refine (angleOfRatio_any (aR (Y % 9223372036854775808) (X % 9223372036854775808)) _ (by first | exact aR_over Ho.out (by assumption) | exact aR_not Ho.out (by assumption)) _).mono ?_
      rintro e w' ⟨r, q, rfl, rfl, hr⟩
      have Hr := Lib.hid hr
      clear hr
      go_wp2_with (refine wpList_fl rfl _ _ _ _ _ rfl .f64 _ _ rfl rfl (by decide) ?_; intro z n hz)
      all_goals
        refine (narrow_any (aD (Y % 9223372036854775808) (X % 9223372036854775808) (FloatKind.f32.format.order x 0 == some .lt) (FloatKind.f32.format.order y 0 == some .lt)) _ ?hv (Hn.out _ _ _ ?hv) _).mono ?_
        case hv => first | exact aD_tt (aB_over Ho.out Hr.out (by assumption)) (by assumption) (by assumption) (by assumption) | exact aD_tf (aB_over Ho.out Hr.out (by assumption)) (by assumption) (by assumption) (by assumption) | exact aD_ft (aB_over Ho.out Hr.out (by assumption)) (by assumption) (by assumption) | exact aD_ff (aB_over Ho.out Hr.out (by assumption)) (by assumption) (by assumption) | exact aD_tt (aB_not Ho.out Hr.out) (by assumption) (by assumption) (by assumption) | exact aD_tf (aB_not Ho.out Hr.out) (by assumption) (by assumption) (by assumption) | exact aD_ft (aB_not Ho.out Hr.out) (by assumption) (by assumption) | exact aD_ff (aB_not Ho.out Hr.out) (by assumption) (by assumption)
        rintro e w' ⟨r2, q2, rfl, rfl, hr2⟩
        have Hr2 := Lib.hid hr2
        clear hr2
        go_wp2_with fail
        go_ret
        exact ⟨_, _, rfl, rfl, Hr2.out⟩

set_option maxHeartbeats 4000000 in
theorem l01AngleWide_any (Y X : Nat) (hY : Y < 18446744073709551616) (hX : X < 18446744073709551616)
    (hY2 : Y % 9223372036854775808 < 9218868437227405312) (hX2 : X % 9223372036854775808 < 9218868437227405312)
    (hz : (FloatKind.f64.format.order X 0 == some .eq) = false ∨ (FloatKind.f64.format.order X 0 == some .eq) = true ∧ (FloatKind.f64.format.order Y 0 == some .eq) = false) (w : World) :
    Calls Try.prog 55 #[.float .f64 Y, .float .f64 X] w (RetF .f64 (aD (Y % 9223372036854775808) (X % 9223372036854775808) (FloatKind.f64.format.order X 0 == some .lt) (FloatKind.f64.format.order Y 0 == some .lt)) w) := by
  have r0 := fl_run (P := Try.prog) (sub_self_64 (y := Y) hY2) 25
  have r1 := fl_run (P := Try.prog) (sub_self_64 (y := X) hX2) 25
  have h00 : FloatKind.f64.format.order 0 0 = some .eq := by decide +kernel
  have HY := Lib.hid hY
  have HX := Lib.hid hX
  clear hY hX hY2 hX2
  cases hov : aOver (Y % 9223372036854775808) (X % 9223372036854775808)
  all_goals
    have hq : (FloatKind.f64.format.order (Y % 9223372036854775808) (X % 9223372036854775808) == some .gt) = _ := hov
    have Ho := Lib.hid hov
    clear hov
    rcases hz with hz | ⟨hz, hz2⟩
    all_goals
      go_enter Try.func55, Try.ntmps55
      go_wp2_with (first | (refine wpList_fl_eq rfl _ _ _ _ _ rfl .f64 _ _ _ rfl rfl (by decide) r0 ?_) | (refine wpList_fl_eq rfl _ _ _ _ _ rfl .f64 _ _ _ rfl rfl (by decide) r1 ?_))
      refine (mathAbs_any Y HY.out _).mono ?_
      rintro e w' ⟨rfl, rfl⟩
      go_wp2_with fail
      refine (mathAbs_any X HX.out _).mono ?_
      rintro e w' ⟨rfl, rfl⟩
      go_wp2_with (refine wpList_fl rfl _ _ _ _ _ rfl .f64 _ _ rfl rfl (by decide) ?_; intro z n hz)
      have HT : Hid (Rp .f64 (aR (Y % 9223372036854775808) (X % 9223372036854775808)) z) := by first | exact Lib.hid (aR_over Ho.out hz) | exact Lib.hid (aR_not Ho.out hz)
      clear hz r0 r1 h00 hq
      go_loopw [8, 9] (fun t' k wr => ∃ (j m x : Nat), j ≤ 3 ∧ k = .int .i64 (j : Int) ∧ t' = .float .f64 x ∧ Hid (Rp .f64 (rT (aR (Y % 9223372036854775808) (X % 9223372036854775808)) j) x) ∧ wr = w.drewN m) (fun _ k _ => (3 - intOf k).toNat)
      case atStart => exact ⟨0, _, _, by omega, rfl, rfl, HT, rfl⟩
      case round =>
        obtain ⟨j, m, x, hj, rfl, rfl, HX1, rfl⟩ := hrel
        by_cases hlt : j < 3
        · go_wp2_with (first | (refine wpList_fl rfl _ _ _ _ _ rfl .f64 _ _ rfl rfl (by decide) ?_; intro z n hz) | (go_at_call 56; refine (mathSqrt_any _ _).mono ?_; rintro e w' ⟨r, q, rfl, rfl, hr⟩))
          exact ⟨⟨j + 1, _, _, by omega, by go_num, rfl, Lib.hid (rT_next HX1.out (by assumption) (by assumption) (by assumption) (by assumption) (by assumption)), rfl⟩, by simp [intOf]; omega⟩
        · obtain rfl : j = 3 := by omega
          go_wp2_with (refine wpList_fl rfl _ _ _ _ _ rfl .f64 _ _ rfl rfl (by decide) ?_; intro z n hz)
          have HU := Lib.hid (show Rp .f64 (rU (aR (Y % 9223372036854775808) (X % 9223372036854775808))) z from Rp.fop HX1.out HX1.out hz)
          clear hz hlt hj
          go_loopw [11, 12] (fun p k wr => ∃ (j m x : Nat), j ≤ 8 ∧ k = .int .i64 (15 - 2 * (j : Int)) ∧ p = .float .f64 x ∧ Hid (Rp .f64 (rP (aR (Y % 9223372036854775808) (X % 9223372036854775808)) j) x) ∧ wr = w.drewN m) (fun _ k _ => (intOf k + 1).toNat)
          case atStart => exact ⟨0, _, _, by omega, rfl, rfl, Lib.hid rfl, rfl⟩
          case round =>
            obtain ⟨j, m, p, hj, rfl, rfl, HP, rfl⟩ := hrel
            by_cases hlt : j < 8
            · go_wp2_with (refine wpList_fl rfl _ _ _ _ _ rfl .f64 _ _ rfl rfl (by decide) ?_; intro z n hz)
              exact ⟨⟨j + 1, _, z, by omega, int_congr (by omega), rfl, Lib.hid (rP_next HU.out HP.out (by assumption) (by assumption) (by assumption)), rfl⟩, by simp [intOf]; omega⟩
            · obtain rfl : j = 8 := by omega
              go_wp2_with (refine wpList_fl rfl _ _ _ _ _ rfl .f64 _ _ rfl rfl (by decide) ?_; intro z n hz)
              all_goals
                go_ret
                refine ⟨_, _, rfl, rfl, ?_⟩
                first | exact aD_tt (aB_over Ho.out (Rp.fop (Rp.fop (Rp.refl _ _) (Rp.fop HX1.out HP.out (by assumption)) (by assumption)) (Rp.refl _ _) (by assumption)) (by assumption)) (by assumption) (by assumption) (by assumption) | exact aD_tf (aB_over Ho.out (Rp.fop (Rp.fop (Rp.refl _ _) (Rp.fop HX1.out HP.out (by assumption)) (by assumption)) (Rp.refl _ _) (by assumption)) (by assumption)) (by assumption) (by assumption) (by assumption) | exact aD_ft (aB_over Ho.out (Rp.fop (Rp.fop (Rp.refl _ _) (Rp.fop HX1.out HP.out (by assumption)) (by assumption)) (Rp.refl _ _) (by assumption)) (by assumption)) (by assumption) (by assumption) | exact aD_ff (aB_over Ho.out (Rp.fop (Rp.fop (Rp.refl _ _) (Rp.fop HX1.out HP.out (by assumption)) (by assumption)) (Rp.refl _ _) (by assumption)) (by assumption)) (by assumption) (by assumption) | exact aD_tt (aB_not Ho.out (Rp.fop (Rp.fop (Rp.refl _ _) (Rp.fop HX1.out HP.out (by assumption)) (by assumption)) (Rp.refl _ _) (by assumption))) (by assumption) (by assumption) (by assumption) | exact aD_tf (aB_not Ho.out (Rp.fop (Rp.fop (Rp.refl _ _) (Rp.fop HX1.out HP.out (by assumption)) (by assumption)) (Rp.refl _ _) (by assumption))) (by assumption) (by assumption) (by assumption) | exact aD_ft (aB_not Ho.out (Rp.fop (Rp.fop (Rp.refl _ _) (Rp.fop HX1.out HP.out (by assumption)) (by assumption)) (Rp.refl _ _) (by assumption))) (by assumption) (by assumption) | exact aD_ff (aB_not Ho.out (Rp.fop (Rp.fop (Rp.refl _ _) (Rp.fop HX1.out HP.out (by assumption)) (by assumption)) (Rp.refl _ _) (by assumption))) (by assumption) (by assumption)
end Go.Proofs.Ytpaldmhlcgdmkad
