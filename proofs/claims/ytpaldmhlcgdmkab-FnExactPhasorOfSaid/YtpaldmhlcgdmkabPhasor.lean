/- The phasor of some turns: the walks of the program's text and of its model's. -/
import Derived.Test.YtpaldmhlcgdmkabPhasorV
import Derived.Test.YtpaldmhlcgdmkabNarrow
import Derived.Test.YtpaldmhlcgdmkabSine
namespace Go.Proofs.Ytpaldmhlcgdmkab
open Go.RowKit

def PhR (y : Nat) (w : World) (e : Ending) (w' : World) : Prop := ∃ j f r1 r2 n, PI y j f ∧ ge025 f = false ∧ e = .returned (.complex .f32 r1 r2) ∧ w' = w.drewN n ∧ Rp .f32 (cvtF .f64 .f32 (pRe f j)) r1 ∧ Rp .f32 (cvtF .f64 .f32 (pIm f j)) r2

theorem order_not_gt {a b : Nat} (h : a < b) (hb1 : 4503599627370496 ≤ b) (hb2 : b < 9218868437227405312) : (FloatKind.f64.format.order a b == some .gt) = false := by
  by_cases hn : 4503599627370496 ≤ a
  · rw [order_pos hn (by omega) hb1 hb2, if_pos h]; rfl
  · have hd : FloatKind.f64.decode a = .number false a (-1074) := by
      have hm : a % 9223372036854775808 = a := by omega
      have hs2 : (a / 9223372036854775808 % 2 == 1) = false := by rw [show a / 9223372036854775808 = 0 by omega]; rfl
      rw [read_double, hm, if_pos (by omega), hs2]
    have hmb := Nat.mod_lt b (show 4503599627370496 > 0 by decide)
    have ho : FloatKind.f64.format.order a b = (FloatKind.f64.decode a).order (FloatKind.f64.decode b) := rfl
    obtain ⟨d, hde⟩ : ∃ d : Nat, b / 4503599627370496 = d + 1 := ⟨b / 4503599627370496 - 1, by omega⟩
    rw [ho, hd, pos_decode hb1 hb2, hde]
    have e3 : (-1074 + ((d + 1 - 1 : Nat) : Int)) = -1074 + (d : Int) := by omega
    have e0 : min (-1074 : Int) (-1074 + (d : Int)) = -1074 := by omega
    have e1 : (-1074 - -1074 : Int).toNat = 0 := by decide
    have e2 : (-1074 + (d : Int) - -1074).toNat = d := by omega
    rw [e3]
    simp only [Ieee.Datum.order, e0, e1, e2, Ieee.signed, Bool.false_eq_true, if_false, Nat.shiftLeft_eq, Nat.pow_zero, Nat.mul_one]
    have hp := Nat.two_pow_pos d
    have hge := Nat.mul_le_mul (show 4503599627370496 ≤ 4503599627370496 + b % 4503599627370496 by omega) hp
    generalize (4503599627370496 + b % 4503599627370496) * 2 ^ d = c at *
    show (some (compareOfLessAndEq _ _) == some Ordering.gt) = false
    unfold compareOfLessAndEq
    rw [if_pos (by omega)]; rfl

set_option maxHeartbeats 2000000 in
theorem implPhasor_any (y : Nat) (hy : y < 18446744073709551616) (h : y % 9223372036854775808 < 4841369599423283200) (w : World) : Calls Try.prog 7 #[.float .f64 y] w (PhR y w) := by
  have hself : FloatKind.f64.format.order y y = some .eq := by rw [order_self_64, if_neg (by omega)]
  have hinf := order_not_gt (a := y % 9223372036854775808) (b := 9218868437227405311) (by omega) (by decide) (by decide)
  have ha := (small_order (y := y % 9223372036854775808) (by omega)).1
  have HA := Lib.hid (mathAbs_any y hy)
  have H := Lib.hid h
  clear hy h
  go_enter Try.func7, Try.ntmps7
  go_wp2_with (first | (go_at_call 15; go_in) | (go_at_call 16; go_in) | go_back | (go_at_call 19; refine (HA.out _).mono ?_; rintro e w' ⟨rfl, rfl⟩))
  refine (partOfTurn_any y H.out _).mono ?_
  rintro e w' ⟨f0, n1, rfl, rfl, hf⟩
  have HP0 := Lib.hid (PI.start H.out hf)
  clear hf hself hinf ha
  go_wp2_with fail
  go_loop [3, 4] (fun v q => ∃ f j : Nat, v = .float .f64 f ∧ q = .int .i64 (j : Int) ∧ Hid (PI y j f)) (fun v _ => match v with | .float _ b => b + 1 - 4598175219545276416 | _ => 0)
  case atStart => exact ⟨f0, 0, rfl, rfl, HP0⟩
  case round =>
    obtain ⟨f, j, rfl, rfl, HP⟩ := hrel
    cases hg : ge025 f with
    | true =>
      obtain ⟨g, hd, hpi, hlt, hj⟩ := HP.out.next hg
      have hq : (FloatKind.f64.format.order f 4598175219545276416 == some .gt || FloatKind.f64.format.order f 4598175219545276416 == some .eq) = true := hg
      have Hn := Lib.hid hpi
      have Hlt := Lib.hid hlt
      have hrun := fl_run (P := Try.prog) hd 22
      clear hd hpi hlt hg
      go_wp2_with fail
      go_round
      case rel => exact ⟨g, j + 1, rfl, by go_num, Hn⟩
      case measure => exact Hlt.out
    | false =>
      have hq : (FloatKind.f64.format.order f 4598175219545276416 == some .gt || FloatKind.f64.format.order f 4598175219545276416 == some .eq) = false := hg
      have Hg := Lib.hid hg
      have hrun := fl_run (P := Try.prog) (pA_some HP.out.2.2.1).1 22
      have HA1 := Lib.hid (pA_some HP.out.2.2.1).2
      have HA2 := Lib.hid (show f % 9223372036854775808 < 4841369599423283200 by have := HP.out.2.2.1; unfold Sm at this; omega)
      have H1 := Lib.hid (fun z hz => narrow_smo (z := z) (pRe_sm HP.out.2.2.1 j) (by decide) hz)
      have H2 := Lib.hid (fun z hz => narrow_smo (z := z) (pIm_sm HP.out.2.2.1 j) (by decide) hz)
      have hj := HP.out.2.2.2.1
      clear hg
      go_wp2_with fail
      refine (wideSine_any _ HA1.out _).mono ?_
      rintro e w' ⟨c, n2, rfl, rfl, hc⟩
      have Hc := Lib.hid hc; clear hc
      go_wp2_with fail
      refine (wideSine_any _ HA2.out _).mono ?_
      rintro e w' ⟨s, n3, rfl, rfl, hs⟩
      have Hs := Lib.hid hs; clear hs hrun hq
      have hcase : j = 1 ∨ j = 2 ∨ j = 3 ∨ (((j : Int) == 1) = false ∧ ((j : Int) == 2) = false ∧ ((j : Int) == 3) = false) := by
        simp only [beq_eq_false_iff_ne]; omega
      rcases hcase with rfl | rfl | rfl | ⟨k1, k2, k3⟩
      · go_wp2_with (refine wpList_fl rfl _ _ _ _ _ rfl .f64 _ _ rfl rfl (by decide) ?_; intro z n hz)
        have h1 : Rp .f64 (pRe f 1) z := Rp.fop (Rp.refl _ _) Hs.out hz
        have h2 : Rp .f64 (pIm f 1) c := Hc.out
        refine (narrowC_any _ _ _ _ h1 h2 (H1.out _ h1) (H2.out _ h2) _).mono ?_
        rintro e w' ⟨r1, r2, n4, rfl, rfl, hr1, hr2⟩
        have Hr1 := Lib.hid hr1; have Hr2 := Lib.hid hr2; clear hr1 hr2 h1 h2 hz
        go_wp2_with fail
        go_ret
        exact ⟨1, f, _, _, _, HP.out, Hg.out, rfl, rfl, Hr1.out, Hr2.out⟩
      · go_wp2_with (refine wpList_fl rfl _ _ _ _ _ rfl .f64 _ _ rfl rfl (by decide) ?_; intro z n hz)
        rename_i z1 n5 hz1 _ _
        have h1 : Rp .f64 (pRe f 2) z1 := Rp.fop (Rp.refl _ _) Hc.out hz1
        have h2 : Rp .f64 (pIm f 2) z := Rp.fop (Rp.refl _ _) Hs.out hz
        refine (narrowC_any _ _ _ _ h1 h2 (H1.out _ h1) (H2.out _ h2) _).mono ?_
        rintro e w' ⟨r1, r2, n4, rfl, rfl, hr1, hr2⟩
        have Hr1 := Lib.hid hr1; have Hr2 := Lib.hid hr2; clear hr1 hr2 h1 h2 hz hz1
        go_wp2_with fail
        go_ret
        exact ⟨2, f, _, _, _, HP.out, Hg.out, rfl, rfl, Hr1.out, Hr2.out⟩
      · go_wp2_with (refine wpList_fl rfl _ _ _ _ _ rfl .f64 _ _ rfl rfl (by decide) ?_; intro z n hz)
        have h1 : Rp .f64 (pRe f 3) s := Hs.out
        have h2 : Rp .f64 (pIm f 3) z := Rp.fop (Rp.refl _ _) Hc.out hz
        refine (narrowC_any _ _ _ _ h1 h2 (H1.out _ h1) (H2.out _ h2) _).mono ?_
        rintro e w' ⟨r1, r2, n4, rfl, rfl, hr1, hr2⟩
        have Hr1 := Lib.hid hr1; have Hr2 := Lib.hid hr2; clear hr1 hr2 h1 h2 hz
        go_wp2_with fail
        go_ret
        exact ⟨3, f, _, _, _, HP.out, Hg.out, rfl, rfl, Hr1.out, Hr2.out⟩
      · go_wp2_with fail
        have n1' : ¬ j = 1 := by simp only [beq_eq_false_iff_ne] at k1; omega
        have n2' : ¬ j = 2 := by simp only [beq_eq_false_iff_ne] at k2; omega
        have n3' : ¬ j = 3 := by simp only [beq_eq_false_iff_ne] at k3; omega
        have h1 : Rp .f64 (pRe f j) c := by unfold pRe; rw [if_neg n1', if_neg n2', if_neg n3']; exact Hc.out
        have h2 : Rp .f64 (pIm f j) s := by unfold pIm; rw [if_neg n1', if_neg n2', if_neg n3']; exact Hs.out
        refine (narrowC_any _ _ _ _ h1 h2 (H1.out _ h1) (H2.out _ h2) _).mono ?_
        rintro e w' ⟨r1, r2, n4, rfl, rfl, hr1, hr2⟩
        have Hr1 := Lib.hid hr1; have Hr2 := Lib.hid hr2; clear hr1 hr2 h1 h2
        go_wp2_with fail
        go_ret
        exact ⟨j, f, _, _, _, HP.out, Hg.out, rfl, rfl, Hr1.out, Hr2.out⟩

set_option maxHeartbeats 2000000 in
theorem l01Phasor_any (y : Nat) (h : y % 9223372036854775808 < 4841369599423283200) (w : World) : Calls Try.prog 14 #[.float .f64 y] w (PhR y w) := by
  have hcv : ∀ W : World, (convert 22 2 (.float .f64 y)).run Try.prog W = .ok (.int .i64 (cutI y)) W := fun W => run_convert_float_int W _ _ .f64 .i64 _ _ (by kernel_rfl) Try.underlying2 (part_sm h).1
  obtain ⟨o1, o2⟩ := small_order h
  have r0 := fl_run (P := Try.prog) (sub_self_64 (y := y) (by omega)) 22
  have h00 : FloatKind.f64.format.order 0 0 = some .eq := by decide +kernel
  obtain ⟨p, f0, hp, hf, hcase⟩ := sF1_cases y h
  have r1 := fl_run (P := Try.prog) hp 22
  have HP0 := Lib.hid (PI.start h hf)
  clear h hp hf
  rcases hcase with ⟨h0, hadd⟩ | ⟨h0, rfl⟩
  · have r2 := fl_run (P := Try.prog) hadd 22
    clear hadd
    go_enter Try.func14, Try.ntmps14
    go_wp2_with fail
    clear r0 r1 r2 h0 h00 o1 o2 hcv
    go_loop [3, 4] (fun v q => ∃ f j : Nat, v = .float .f64 f ∧ q = .int .i64 (j : Int) ∧ Hid (PI y j f)) (fun v _ => match v with | .float _ b => b + 1 - 4598175219545276416 | _ => 0)
    case atStart => exact ⟨f0, 0, rfl, rfl, HP0⟩
    case round =>
      obtain ⟨f, j, rfl, rfl, HP⟩ := hrel
      cases hg : ge025 f with
      | true =>
        obtain ⟨g, hd, hpi, hlt, hj⟩ := HP.out.next hg
        have hq : (FloatKind.f64.format.order f 4598175219545276416 == some .gt || FloatKind.f64.format.order f 4598175219545276416 == some .eq) = true := hg
        have Hn := Lib.hid hpi
        have Hlt := Lib.hid hlt
        have hrun := fl_run (P := Try.prog) hd 22
        clear hd hpi hlt hg
        go_wp2_with fail
        go_round
        case rel => exact ⟨g, j + 1, rfl, by go_num, Hn⟩
        case measure => exact Hlt.out
      | false =>
        have hq : (FloatKind.f64.format.order f 4598175219545276416 == some .gt || FloatKind.f64.format.order f 4598175219545276416 == some .eq) = false := hg
        have Hg := Lib.hid hg
        have hrun := fl_run (P := Try.prog) (pA_some HP.out.2.2.1).1 22
        have HA1 := Lib.hid (pA_some HP.out.2.2.1).2
        have HA2 := Lib.hid (show f % 9223372036854775808 < 4841369599423283200 by have := HP.out.2.2.1; unfold Sm at this; omega)
        have H1 := Lib.hid (fun z hz => narrow_smo (z := z) (pRe_sm HP.out.2.2.1 j) (by decide) hz)
        have H2 := Lib.hid (fun z hz => narrow_smo (z := z) (pIm_sm HP.out.2.2.1 j) (by decide) hz)
        have hj := HP.out.2.2.2.1
        clear hg
        go_wp2_with fail
        refine (l01SineWide_any _ HA1.out _).mono ?_
        rintro e w' ⟨c, n2, rfl, rfl, hc⟩
        have Hc := Lib.hid hc; clear hc
        go_wp2_with fail
        refine (l01SineWide_any _ HA2.out _).mono ?_
        rintro e w' ⟨s, n3, rfl, rfl, hs⟩
        have Hs := Lib.hid hs; clear hs hrun hq
        have hcase : j = 1 ∨ j = 2 ∨ j = 3 ∨ (((j : Int) == 1) = false ∧ ((j : Int) == 2) = false ∧ ((j : Int) == 3) = false) := by
          simp only [beq_eq_false_iff_ne]; omega
        rcases hcase with rfl | rfl | rfl | ⟨k1, k2, k3⟩
        · go_wp2_with (refine wpList_fl rfl _ _ _ _ _ rfl .f64 _ _ rfl rfl (by decide) ?_; intro z n hz)
          have h1 : Rp .f64 (pRe f 1) _ := Rp.fop (Rp.refl _ _) Hs.out hz
          have G1 := Lib.hid h1
          clear h1
          refine (snarrow_any _ _ G1.out (H1.out _ G1.out) _).mono ?_
          rintro e w' ⟨r1, n4, rfl, rfl, hr1⟩
          have Hr1 := Lib.hid hr1; clear hr1
          go_wp2_with fail
          have h2 : Rp .f64 (pIm f 1) _ := Hc.out
          have G2 := Lib.hid h2
          clear h2
          refine (snarrow_any _ _ G2.out (H2.out _ G2.out) _).mono ?_
          rintro e w' ⟨r2, n5, rfl, rfl, hr2⟩
          have Hr2 := Lib.hid hr2; clear hr2
          go_wp2_with fail
          go_ret
          exact ⟨1, f, _, _, _, HP.out, Hg.out, rfl, rfl, Hr1.out, Hr2.out⟩
        · go_wp2_with (refine wpList_fl rfl _ _ _ _ _ rfl .f64 _ _ rfl rfl (by decide) ?_; intro z n hz)
          have h1 : Rp .f64 (pRe f 2) _ := Rp.fop (Rp.refl _ _) Hc.out hz
          have G1 := Lib.hid h1
          clear h1
          refine (snarrow_any _ _ G1.out (H1.out _ G1.out) _).mono ?_
          rintro e w' ⟨r1, n4, rfl, rfl, hr1⟩
          have Hr1 := Lib.hid hr1; clear hr1
          go_wp2_with (refine wpList_fl rfl _ _ _ _ _ rfl .f64 _ _ rfl rfl (by decide) ?_; intro z' n' hz')
          have h2 : Rp .f64 (pIm f 2) _ := Rp.fop (Rp.refl _ _) Hs.out hz'
          have G2 := Lib.hid h2
          clear h2
          refine (snarrow_any _ _ G2.out (H2.out _ G2.out) _).mono ?_
          rintro e w' ⟨r2, n5, rfl, rfl, hr2⟩
          have Hr2 := Lib.hid hr2; clear hr2
          go_wp2_with fail
          go_ret
          exact ⟨2, f, _, _, _, HP.out, Hg.out, rfl, rfl, Hr1.out, Hr2.out⟩
        · go_wp2_with fail
          have h1 : Rp .f64 (pRe f 3) _ := Hs.out
          have G1 := Lib.hid h1
          clear h1
          refine (snarrow_any _ _ G1.out (H1.out _ G1.out) _).mono ?_
          rintro e w' ⟨r1, n4, rfl, rfl, hr1⟩
          have Hr1 := Lib.hid hr1; clear hr1
          go_wp2_with (refine wpList_fl rfl _ _ _ _ _ rfl .f64 _ _ rfl rfl (by decide) ?_; intro z' n' hz')
          have h2 : Rp .f64 (pIm f 3) _ := Rp.fop (Rp.refl _ _) Hc.out hz'
          have G2 := Lib.hid h2
          clear h2
          refine (snarrow_any _ _ G2.out (H2.out _ G2.out) _).mono ?_
          rintro e w' ⟨r2, n5, rfl, rfl, hr2⟩
          have Hr2 := Lib.hid hr2; clear hr2
          go_wp2_with fail
          go_ret
          exact ⟨3, f, _, _, _, HP.out, Hg.out, rfl, rfl, Hr1.out, Hr2.out⟩
        · go_wp2_with fail
          have n1' : ¬ j = 1 := by simp only [beq_eq_false_iff_ne] at k1; omega
          have n2' : ¬ j = 2 := by simp only [beq_eq_false_iff_ne] at k2; omega
          have n3' : ¬ j = 3 := by simp only [beq_eq_false_iff_ne] at k3; omega
          have h1 : Rp .f64 (pRe f j) c := by unfold pRe; rw [if_neg n1', if_neg n2', if_neg n3']; exact Hc.out
          have G1 := Lib.hid h1
          clear h1
          refine (snarrow_any _ _ G1.out (H1.out _ G1.out) _).mono ?_
          rintro e w' ⟨r1, n4, rfl, rfl, hr1⟩
          have Hr1 := Lib.hid hr1; clear hr1
          go_wp2_with fail
          have h2 : Rp .f64 (pIm f j) s := by unfold pIm; rw [if_neg n1', if_neg n2', if_neg n3']; exact Hs.out
          have G2 := Lib.hid h2
          clear h2
          refine (snarrow_any _ _ G2.out (H2.out _ G2.out) _).mono ?_
          rintro e w' ⟨r2, n5, rfl, rfl, hr2⟩
          have Hr2 := Lib.hid hr2; clear hr2
          go_wp2_with fail
          go_ret
          exact ⟨j, f, _, _, _, HP.out, Hg.out, rfl, rfl, Hr1.out, Hr2.out⟩
  · go_enter Try.func14, Try.ntmps14
    go_wp2_with fail
    clear r0 r1 h0 h00 o1 o2 hcv
    go_loop [3, 4] (fun v q => ∃ f j : Nat, v = .float .f64 f ∧ q = .int .i64 (j : Int) ∧ Hid (PI y j f)) (fun v _ => match v with | .float _ b => b + 1 - 4598175219545276416 | _ => 0)
    case atStart => exact ⟨f0, 0, rfl, rfl, HP0⟩
    case round =>
      obtain ⟨f, j, rfl, rfl, HP⟩ := hrel
      cases hg : ge025 f with
      | true =>
        obtain ⟨g, hd, hpi, hlt, hj⟩ := HP.out.next hg
        have hq : (FloatKind.f64.format.order f 4598175219545276416 == some .gt || FloatKind.f64.format.order f 4598175219545276416 == some .eq) = true := hg
        have Hn := Lib.hid hpi
        have Hlt := Lib.hid hlt
        have hrun := fl_run (P := Try.prog) hd 22
        clear hd hpi hlt hg
        go_wp2_with fail
        go_round
        case rel => exact ⟨g, j + 1, rfl, by go_num, Hn⟩
        case measure => exact Hlt.out
      | false =>
        have hq : (FloatKind.f64.format.order f 4598175219545276416 == some .gt || FloatKind.f64.format.order f 4598175219545276416 == some .eq) = false := hg
        have Hg := Lib.hid hg
        have hrun := fl_run (P := Try.prog) (pA_some HP.out.2.2.1).1 22
        have HA1 := Lib.hid (pA_some HP.out.2.2.1).2
        have HA2 := Lib.hid (show f % 9223372036854775808 < 4841369599423283200 by have := HP.out.2.2.1; unfold Sm at this; omega)
        have H1 := Lib.hid (fun z hz => narrow_smo (z := z) (pRe_sm HP.out.2.2.1 j) (by decide) hz)
        have H2 := Lib.hid (fun z hz => narrow_smo (z := z) (pIm_sm HP.out.2.2.1 j) (by decide) hz)
        have hj := HP.out.2.2.2.1
        clear hg
        go_wp2_with fail
        refine (l01SineWide_any _ HA1.out _).mono ?_
        rintro e w' ⟨c, n2, rfl, rfl, hc⟩
        have Hc := Lib.hid hc; clear hc
        go_wp2_with fail
        refine (l01SineWide_any _ HA2.out _).mono ?_
        rintro e w' ⟨s, n3, rfl, rfl, hs⟩
        have Hs := Lib.hid hs; clear hs hrun hq
        have hcase : j = 1 ∨ j = 2 ∨ j = 3 ∨ (((j : Int) == 1) = false ∧ ((j : Int) == 2) = false ∧ ((j : Int) == 3) = false) := by
          simp only [beq_eq_false_iff_ne]; omega
        rcases hcase with rfl | rfl | rfl | ⟨k1, k2, k3⟩
        · go_wp2_with (refine wpList_fl rfl _ _ _ _ _ rfl .f64 _ _ rfl rfl (by decide) ?_; intro z n hz)
          have h1 : Rp .f64 (pRe f 1) _ := Rp.fop (Rp.refl _ _) Hs.out hz
          have G1 := Lib.hid h1
          clear h1
          refine (snarrow_any _ _ G1.out (H1.out _ G1.out) _).mono ?_
          rintro e w' ⟨r1, n4, rfl, rfl, hr1⟩
          have Hr1 := Lib.hid hr1; clear hr1
          go_wp2_with fail
          have h2 : Rp .f64 (pIm f 1) _ := Hc.out
          have G2 := Lib.hid h2
          clear h2
          refine (snarrow_any _ _ G2.out (H2.out _ G2.out) _).mono ?_
          rintro e w' ⟨r2, n5, rfl, rfl, hr2⟩
          have Hr2 := Lib.hid hr2; clear hr2
          go_wp2_with fail
          go_ret
          exact ⟨1, f, _, _, _, HP.out, Hg.out, rfl, rfl, Hr1.out, Hr2.out⟩
        · go_wp2_with (refine wpList_fl rfl _ _ _ _ _ rfl .f64 _ _ rfl rfl (by decide) ?_; intro z n hz)
          have h1 : Rp .f64 (pRe f 2) _ := Rp.fop (Rp.refl _ _) Hc.out hz
          have G1 := Lib.hid h1
          clear h1
          refine (snarrow_any _ _ G1.out (H1.out _ G1.out) _).mono ?_
          rintro e w' ⟨r1, n4, rfl, rfl, hr1⟩
          have Hr1 := Lib.hid hr1; clear hr1
          go_wp2_with (refine wpList_fl rfl _ _ _ _ _ rfl .f64 _ _ rfl rfl (by decide) ?_; intro z' n' hz')
          have h2 : Rp .f64 (pIm f 2) _ := Rp.fop (Rp.refl _ _) Hs.out hz'
          have G2 := Lib.hid h2
          clear h2
          refine (snarrow_any _ _ G2.out (H2.out _ G2.out) _).mono ?_
          rintro e w' ⟨r2, n5, rfl, rfl, hr2⟩
          have Hr2 := Lib.hid hr2; clear hr2
          go_wp2_with fail
          go_ret
          exact ⟨2, f, _, _, _, HP.out, Hg.out, rfl, rfl, Hr1.out, Hr2.out⟩
        · go_wp2_with fail
          have h1 : Rp .f64 (pRe f 3) _ := Hs.out
          have G1 := Lib.hid h1
          clear h1
          refine (snarrow_any _ _ G1.out (H1.out _ G1.out) _).mono ?_
          rintro e w' ⟨r1, n4, rfl, rfl, hr1⟩
          have Hr1 := Lib.hid hr1; clear hr1
          go_wp2_with (refine wpList_fl rfl _ _ _ _ _ rfl .f64 _ _ rfl rfl (by decide) ?_; intro z' n' hz')
          have h2 : Rp .f64 (pIm f 3) _ := Rp.fop (Rp.refl _ _) Hc.out hz'
          have G2 := Lib.hid h2
          clear h2
          refine (snarrow_any _ _ G2.out (H2.out _ G2.out) _).mono ?_
          rintro e w' ⟨r2, n5, rfl, rfl, hr2⟩
          have Hr2 := Lib.hid hr2; clear hr2
          go_wp2_with fail
          go_ret
          exact ⟨3, f, _, _, _, HP.out, Hg.out, rfl, rfl, Hr1.out, Hr2.out⟩
        · go_wp2_with fail
          have n1' : ¬ j = 1 := by simp only [beq_eq_false_iff_ne] at k1; omega
          have n2' : ¬ j = 2 := by simp only [beq_eq_false_iff_ne] at k2; omega
          have n3' : ¬ j = 3 := by simp only [beq_eq_false_iff_ne] at k3; omega
          have h1 : Rp .f64 (pRe f j) c := by unfold pRe; rw [if_neg n1', if_neg n2', if_neg n3']; exact Hc.out
          have G1 := Lib.hid h1
          clear h1
          refine (snarrow_any _ _ G1.out (H1.out _ G1.out) _).mono ?_
          rintro e w' ⟨r1, n4, rfl, rfl, hr1⟩
          have Hr1 := Lib.hid hr1; clear hr1
          go_wp2_with fail
          have h2 : Rp .f64 (pIm f j) s := by unfold pIm; rw [if_neg n1', if_neg n2', if_neg n3']; exact Hs.out
          have G2 := Lib.hid h2
          clear h2
          refine (snarrow_any _ _ G2.out (H2.out _ G2.out) _).mono ?_
          rintro e w' ⟨r2, n5, rfl, rfl, hr2⟩
          have Hr2 := Lib.hid hr2; clear hr2
          go_wp2_with fail
          go_ret
          exact ⟨j, f, _, _, _, HP.out, Hg.out, rfl, rfl, Hr1.out, Hr2.out⟩
end Go.Proofs.Ytpaldmhlcgdmkab
