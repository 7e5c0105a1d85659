/- The sine of some turns: the walk of the program's text and of its model's. -/
import Derived.Test.YtpaldmhlcgdmkabWid
import Derived.Test.YtpaldmhlcgdmkabSineV
import Derived.Test.YtpaldmhlcgdmkabFinite
namespace Go.Proofs.Ytpaldmhlcgdmkab
open Go.RowKit

theorem b64_run (x : Nat) (w : World) : (callFunc 34 #[.float .f64 x]).run Try.prog w = .ok (.value (.int .u64 x)) w := by
  rw [run_callFunc_extern Try.func34 (by kernel_rfl) (by kernel_rfl) (by kernel_rfl) (show Extern.find Try.f34 = some Extern.MathFloatBits.float64bits by kernel_rfl)]
  rfl

theorem flo_congr {k : FloatKind} {a b : Nat} (h : a = b) : Ending.returned (Value.float k a) = .returned (.float k b) := by rw [h]

set_option maxHeartbeats 400000 in
theorem mathAbs_any (x : Nat) (hx : x < 18446744073709551616) (w : World) : Calls Try.prog 19 #[.float .f64 x] w fun e w' => e = .returned (.float .f64 (x % 9223372036854775808)) ∧ w = w' := by
  have h1 := b64_run x
  have h2 := fb64_run
  have H3 := Lib.hid (u64_andNot63 x hx)
  clear hx
  go_enter Try.func19, Try.ntmps19
  go_wp2_with fail
  go_ret
  exact ⟨flo_congr (by rw [H3.out]; exact Int.toNat_natCast _), rfl⟩

set_option maxHeartbeats 1000000 in
theorem partOfTurn_any (y : Nat) (h : y % 9223372036854775808 < 4841369599423283200) (w : World) : Calls Try.prog 20 #[.float .f64 y] w (RetF .f64 (sF1 y) w) := by
  have hcv : ∀ W : World, (convert 22 2 (.float .f64 y)).run Try.prog W = .ok (.int .i64 (cutI y)) W := fun W => run_convert_float_int W _ _ .f64 .i64 _ _ (by kernel_rfl) Try.underlying2 (part_sm h).1
  clear h
  go_enter Try.func20, Try.ntmps20
  go_wp2_with (refine wpList_fl rfl _ _ _ _ _ rfl .f64 _ _ rfl rfl (by decide) ?_; intro z n hz)
  all_goals go_ret
  all_goals first | exact ⟨_, _, rfl, rfl, sF1_lt (Rp.fop (Rp.refl _ _) (Rp.refl _ _) (by assumption)) (by assumption) (by assumption)⟩ | exact ⟨_, _, rfl, rfl, sF1_ge (Rp.fop (Rp.refl _ _) (Rp.refl _ _) (by assumption)) (by assumption)⟩

@[go_sem] theorem unary_neg_float (k : FloatKind) (b : Nat) : Op.unary .neg (.float k b) = pure (.float k (Op.negFloat k b)) := rfl

set_option maxHeartbeats 1000000 in
theorem wideSine_any (y : Nat) (h : y % 9223372036854775808 < 4841369599423283200) (w : World) : Calls Try.prog 21 #[.float .f64 y] w (RetF .f64 (sV y) w) := by
  have H := Lib.hid h
  clear h
  go_enter Try.func21, Try.ntmps21
  go_wp2_with fail
  refine (partOfTurn_any y H.out _).mono ?_
  rintro e w' ⟨f, n1, rfl, rfl, hf⟩
  have Hf := Lib.hid hf
  clear hf
  cases hb : sBelow y with
  | true =>
    have hq : (FloatKind.f64.format.order f 4602678819172646912 == some .gt || FloatKind.f64.format.order f 4602678819172646912 == some .eq) = true := by rw [← hb]; exact (sBelow_eq Hf.out).symm
    have Hb := Lib.hid hb
    clear hb
    go_wp2_with (refine wpList_fl rfl _ _ _ _ _ rfl .f64 _ _ rfl rfl (by decide) ?_; intro z n hz)
    all_goals first
      | (rename_i z1 n2 hz1 h3 z2 n3 hz2 K hK; have hZ : Rp .f64 (sZ y) z2 := Rp.fop (sF3_le (sF2_pos Hf.out Hb.out hz1) h3) (Rp.refl _ _) hz2; have hU : Rp .f64 (sU y) z := Rp.fop hZ hZ hz; have HZ := Lib.hid hZ; have HU := Lib.hid hU; clear hZ hU hz hz2 h3 hz1 hq)
      | (rename_i z1 n2 hz1 h3 z2 n3 hz2 z3 n4 hz3 K hK; have hZ : Rp .f64 (sZ y) z3 := Rp.fop (sF3_gt (sF2_pos Hf.out Hb.out hz1) h3 hz2) (Rp.refl _ _) hz3; have hU : Rp .f64 (sU y) z := Rp.fop hZ hZ hz; have HZ := Lib.hid hZ; have HU := Lib.hid hU; clear hZ hU hz hz3 hz2 h3 hz1 hq)
    all_goals
      go_loopw [7, 8] (fun p k wr => ∃ (j m x : Nat), j ≤ 8 ∧ k = .int .i64 (8 - (j : Int)) ∧ p = .float .f64 x ∧ Hid (Rp .f64 (sP y j) x) ∧ wr = w.drewN m) (fun _ k _ => (intOf k).toNat)
      case atStart => exact ⟨0, _, _, by omega, rfl, rfl, Lib.hid rfl, rfl⟩
      case round =>
        obtain ⟨j, m, p, hj, rfl, rfl, HP, rfl⟩ := hrel
        by_cases hlt : j < 8
        · go_wp2_with (refine wpList_fl rfl _ _ _ _ _ rfl .f64 _ _ rfl rfl (by decide) ?_; intro z n hz)
          exact ⟨⟨j + 1, _, z, by omega, int_congr (by omega), rfl, Lib.hid (sP_step hlt HU.out HP.out (by assumption) (by assumption) (by assumption)), rfl⟩, by simp [intOf]; omega⟩
        · obtain rfl : j = 8 := by omega
          go_wp2_with (refine wpList_fl rfl _ _ _ _ _ rfl .f64 _ _ rfl rfl (by decide) ?_; intro z n hz)
          go_ret
          exact ⟨_, _, rfl, rfl, sV_below Hb.out (Rp.fop HZ.out HP.out (by assumption))⟩
  | false =>
    have hq : (FloatKind.f64.format.order f 4602678819172646912 == some .gt || FloatKind.f64.format.order f 4602678819172646912 == some .eq) = false := by rw [← hb]; exact (sBelow_eq Hf.out).symm
    have Hb := Lib.hid hb
    clear hb
    go_wp2_with (refine wpList_fl rfl _ _ _ _ _ rfl .f64 _ _ rfl rfl (by decide) ?_; intro z n hz)
    all_goals first
      | (rename_i h3 z2 n3 hz2 K hK; have hZ : Rp .f64 (sZ y) z2 := Rp.fop (sF3_le (sF2_neg Hf.out Hb.out) h3) (Rp.refl _ _) hz2; have hU : Rp .f64 (sU y) z := Rp.fop hZ hZ hz; have HZ := Lib.hid hZ; have HU := Lib.hid hU; clear hZ hU hz hz2 h3 hq)
      | (rename_i h3 z2 n3 hz2 z3 n4 hz3 K hK; have hZ : Rp .f64 (sZ y) z3 := Rp.fop (sF3_gt (sF2_neg Hf.out Hb.out) h3 hz2) (Rp.refl _ _) hz3; have hU : Rp .f64 (sU y) z := Rp.fop hZ hZ hz; have HZ := Lib.hid hZ; have HU := Lib.hid hU; clear hZ hU hz hz3 hz2 h3 hq)
    all_goals
      go_loopw [7, 8] (fun p k wr => ∃ (j m x : Nat), j ≤ 8 ∧ k = .int .i64 (8 - (j : Int)) ∧ p = .float .f64 x ∧ Hid (Rp .f64 (sP y j) x) ∧ wr = w.drewN m) (fun _ k _ => (intOf k).toNat)
      case atStart => exact ⟨0, _, _, by omega, rfl, rfl, Lib.hid rfl, rfl⟩
      case round =>
        obtain ⟨j, m, p, hj, rfl, rfl, HP, rfl⟩ := hrel
        by_cases hlt : j < 8
        · go_wp2_with (refine wpList_fl rfl _ _ _ _ _ rfl .f64 _ _ rfl rfl (by decide) ?_; intro z n hz)
          exact ⟨⟨j + 1, _, z, by omega, int_congr (by omega), rfl, Lib.hid (sP_step hlt HU.out HP.out (by assumption) (by assumption) (by assumption)), rfl⟩, by simp [intOf]; omega⟩
        · obtain rfl : j = 8 := by omega
          go_wp2_with (refine wpList_fl rfl _ _ _ _ _ rfl .f64 _ _ rfl rfl (by decide) ?_; intro z n hz)
          go_ret
          exact ⟨_, _, rfl, rfl, sV_above Hb.out (Rp.fop HZ.out HP.out (by assumption))⟩

theorem sF1_cases (y : Nat) (h : y % 9223372036854775808 < 4841369599423283200) : ∃ p f, floatBits .sub .f64 y (floatOfInt .f64 (cutI y)) = some p ∧ Rp .f64 (sF1 y) f ∧ (((FloatKind.f64.format.order p 0 == some .lt) = true ∧ floatBits .add .f64 p 4607182418800017408 = some f) ∨ ((FloatKind.f64.format.order p 0 == some .lt) = false ∧ f = p)) := by
  obtain ⟨_, p, hp, _⟩ := part_sm h
  obtain ⟨f, hf, _⟩ := sF1_sm h
  have hfr : Rp .f64 (sF1 y) f := by rw [hf]; rfl
  refine ⟨p, f, hp, hfr, ?_⟩
  unfold sF1 at hf
  rw [hp] at hf
  cases ht : (FloatKind.f64.format.order p 0 == some .lt) with
  | true =>
    left
    have e : ford .f64 (some p) (some 0) = FloatKind.f64.format.order p 0 := rfl
    rw [e, ht, if_pos rfl] at hf
    exact ⟨rfl, hf⟩
  | false =>
    right
    have e : ford .f64 (some p) (some 0) = FloatKind.f64.format.order p 0 := rfl
    rw [e, ht, if_neg Bool.false_ne_true] at hf
    exact ⟨rfl, by injection hf with hf; exact hf.symm⟩

set_option maxHeartbeats 2000000 in
theorem l01SineWide_any (y : Nat) (h : y % 9223372036854775808 < 4841369599423283200) (w : World) : Calls Try.prog 31 #[.float .f64 y] w (RetF .f64 (sV y) w) := by
  have hcv : ∀ W : World, (convert 22 2 (.float .f64 y)).run Try.prog W = .ok (.int .i64 (cutI y)) W := fun W => run_convert_float_int W _ _ .f64 .i64 _ _ (by kernel_rfl) Try.underlying2 (part_sm h).1
  obtain ⟨o1, o2⟩ := small_order h
  have r0 := fl_run (P := Try.prog) (sub_self_64 (y := y) (by omega)) 22
  have h00 : FloatKind.f64.format.order 0 0 = some .eq := by decide +kernel
  obtain ⟨p, f, hp, hf, hcase⟩ := sF1_cases y h
  have r1 := fl_run (P := Try.prog) hp 22
  have Hf := Lib.hid hf
  clear h hp hf
  rcases hcase with ⟨h0, hadd⟩ | ⟨h0, rfl⟩
  · have r2 := fl_run (P := Try.prog) hadd 22
    clear hadd
    cases hb : sBelow y with
    | true =>
      have hq : (FloatKind.f64.format.order f 4602678819172646912 == some .gt || FloatKind.f64.format.order f 4602678819172646912 == some .eq) = true := by rw [← hb]; exact (sBelow_eq Hf.out).symm
      have Hb := Lib.hid hb
      clear hb
      go_enter Try.func31, Try.ntmps31
      go_wp2_with (first | (refine wpList_fl_eq rfl _ _ _ _ _ rfl .f64 _ _ _ rfl rfl (by decide) r0 ?_) | (refine wpList_fl_eq rfl _ _ _ _ _ rfl .f64 _ _ _ rfl rfl (by decide) r1 ?_) | (refine wpList_fl_eq rfl _ _ _ _ _ rfl .f64 _ _ _ rfl rfl (by decide) r2 ?_) | (refine wpList_fl rfl _ _ _ _ _ rfl .f64 _ _ rfl rfl (by decide) ?_; intro z n hz))
      all_goals first
        | (rename_i z1 n2 hz1 h3 z2 n3 hz2 K hK; have hZ : Rp .f64 (sZ y) z2 := Rp.fop (sF3_le (sF2_pos Hf.out Hb.out hz1) h3) (Rp.refl _ _) hz2; have hU : Rp .f64 (sU y) z := Rp.fop hZ hZ hz; have HZ := Lib.hid hZ; have HU := Lib.hid hU; clear hZ hU hz hz2 h3 hz1 hq o1 o2 h00 r0 r1 r2 h0 hcv)
        | (rename_i z1 n2 hz1 h3 z2 n3 hz2 z3 n4 hz3 K hK; have hZ : Rp .f64 (sZ y) z3 := Rp.fop (sF3_gt (sF2_pos Hf.out Hb.out hz1) h3 hz2) (Rp.refl _ _) hz3; have hU : Rp .f64 (sU y) z := Rp.fop hZ hZ hz; have HZ := Lib.hid hZ; have HU := Lib.hid hU; clear hZ hU hz hz3 hz2 h3 hz1 hq o1 o2 h00 r0 r1 r2 h0 hcv)
      all_goals
        go_loopw [7, 8] (fun p k wr => ∃ (j m x : Nat), j ≤ 8 ∧ k = .int .i64 (8 - (j : Int)) ∧ p = .float .f64 x ∧ Hid (Rp .f64 (sP y j) x) ∧ wr = w.drewN m) (fun _ k _ => (intOf k).toNat)
        case atStart => exact ⟨0, _, _, by omega, rfl, rfl, Lib.hid rfl, rfl⟩
        case round =>
          obtain ⟨j, m, p, hj, rfl, rfl, HP, rfl⟩ := hrel
          by_cases hlt : j < 8
          · go_wp2_with (refine wpList_fl rfl _ _ _ _ _ rfl .f64 _ _ rfl rfl (by decide) ?_; intro z n hz)
            exact ⟨⟨j + 1, _, z, by omega, int_congr (by omega), rfl, Lib.hid (sP_step hlt HU.out HP.out (by assumption) (by assumption) (by assumption)), rfl⟩, by simp [intOf]; omega⟩
          · obtain rfl : j = 8 := by omega
            go_wp2_with (refine wpList_fl rfl _ _ _ _ _ rfl .f64 _ _ rfl rfl (by decide) ?_; intro z n hz)
            go_ret
            exact ⟨_, _, rfl, rfl, sV_below Hb.out (Rp.fop HZ.out HP.out (by assumption))⟩
    | false =>
      have hq : (FloatKind.f64.format.order f 4602678819172646912 == some .gt || FloatKind.f64.format.order f 4602678819172646912 == some .eq) = false := by rw [← hb]; exact (sBelow_eq Hf.out).symm
      have Hb := Lib.hid hb
      clear hb
      go_enter Try.func31, Try.ntmps31
      go_wp2_with (first | (refine wpList_fl_eq rfl _ _ _ _ _ rfl .f64 _ _ _ rfl rfl (by decide) r0 ?_) | (refine wpList_fl_eq rfl _ _ _ _ _ rfl .f64 _ _ _ rfl rfl (by decide) r1 ?_) | (refine wpList_fl_eq rfl _ _ _ _ _ rfl .f64 _ _ _ rfl rfl (by decide) r2 ?_) | (refine wpList_fl rfl _ _ _ _ _ rfl .f64 _ _ rfl rfl (by decide) ?_; intro z n hz))
      all_goals first
        | (rename_i h3 z2 n3 hz2 K hK; have hZ : Rp .f64 (sZ y) z2 := Rp.fop (sF3_le (sF2_neg Hf.out Hb.out) h3) (Rp.refl _ _) hz2; have hU : Rp .f64 (sU y) z := Rp.fop hZ hZ hz; have HZ := Lib.hid hZ; have HU := Lib.hid hU; clear hZ hU hz hz2 h3 hq o1 o2 h00 r0 r1 r2 h0 hcv)
        | (rename_i h3 z2 n3 hz2 z3 n4 hz3 K hK; have hZ : Rp .f64 (sZ y) z3 := Rp.fop (sF3_gt (sF2_neg Hf.out Hb.out) h3 hz2) (Rp.refl _ _) hz3; have hU : Rp .f64 (sU y) z := Rp.fop hZ hZ hz; have HZ := Lib.hid hZ; have HU := Lib.hid hU; clear hZ hU hz hz3 hz2 h3 hq o1 o2 h00 r0 r1 r2 h0 hcv)
      all_goals
        go_loopw [7, 8] (fun p k wr => ∃ (j m x : Nat), j ≤ 8 ∧ k = .int .i64 (8 - (j : Int)) ∧ p = .float .f64 x ∧ Hid (Rp .f64 (sP y j) x) ∧ wr = w.drewN m) (fun _ k _ => (intOf k).toNat)
        case atStart => exact ⟨0, _, _, by omega, rfl, rfl, Lib.hid rfl, rfl⟩
        case round =>
          obtain ⟨j, m, p, hj, rfl, rfl, HP, rfl⟩ := hrel
          by_cases hlt : j < 8
          · go_wp2_with (refine wpList_fl rfl _ _ _ _ _ rfl .f64 _ _ rfl rfl (by decide) ?_; intro z n hz)
            exact ⟨⟨j + 1, _, z, by omega, int_congr (by omega), rfl, Lib.hid (sP_step hlt HU.out HP.out (by assumption) (by assumption) (by assumption)), rfl⟩, by simp [intOf]; omega⟩
          · obtain rfl : j = 8 := by omega
            go_wp2_with (refine wpList_fl rfl _ _ _ _ _ rfl .f64 _ _ rfl rfl (by decide) ?_; intro z n hz)
            go_ret
            exact ⟨_, _, rfl, rfl, sV_above Hb.out (Rp.fop HZ.out HP.out (by assumption))⟩
  · cases hb : sBelow y with
    | true =>
      have hq : (FloatKind.f64.format.order f 4602678819172646912 == some .gt || FloatKind.f64.format.order f 4602678819172646912 == some .eq) = true := by rw [← hb]; exact (sBelow_eq Hf.out).symm
      have Hb := Lib.hid hb
      clear hb
      go_enter Try.func31, Try.ntmps31
      go_wp2_with (first | (refine wpList_fl_eq rfl _ _ _ _ _ rfl .f64 _ _ _ rfl rfl (by decide) r0 ?_) | (refine wpList_fl_eq rfl _ _ _ _ _ rfl .f64 _ _ _ rfl rfl (by decide) r1 ?_) | (refine wpList_fl rfl _ _ _ _ _ rfl .f64 _ _ rfl rfl (by decide) ?_; intro z n hz))
      all_goals first
        | (rename_i z1 n2 hz1 h3 z2 n3 hz2 K hK; have hZ : Rp .f64 (sZ y) z2 := Rp.fop (sF3_le (sF2_pos Hf.out Hb.out hz1) h3) (Rp.refl _ _) hz2; have hU : Rp .f64 (sU y) z := Rp.fop hZ hZ hz; have HZ := Lib.hid hZ; have HU := Lib.hid hU; clear hZ hU hz hz2 h3 hz1 hq o1 o2 h00 r0 r1 h0 hcv)
        | (rename_i z1 n2 hz1 h3 z2 n3 hz2 z3 n4 hz3 K hK; have hZ : Rp .f64 (sZ y) z3 := Rp.fop (sF3_gt (sF2_pos Hf.out Hb.out hz1) h3 hz2) (Rp.refl _ _) hz3; have hU : Rp .f64 (sU y) z := Rp.fop hZ hZ hz; have HZ := Lib.hid hZ; have HU := Lib.hid hU; clear hZ hU hz hz3 hz2 h3 hz1 hq o1 o2 h00 r0 r1 h0 hcv)
      all_goals
        go_loopw [7, 8] (fun p k wr => ∃ (j m x : Nat), j ≤ 8 ∧ k = .int .i64 (8 - (j : Int)) ∧ p = .float .f64 x ∧ Hid (Rp .f64 (sP y j) x) ∧ wr = w.drewN m) (fun _ k _ => (intOf k).toNat)
        case atStart => exact ⟨0, _, _, by omega, rfl, rfl, Lib.hid rfl, rfl⟩
        case round =>
          obtain ⟨j, m, p, hj, rfl, rfl, HP, rfl⟩ := hrel
          by_cases hlt : j < 8
          · go_wp2_with (refine wpList_fl rfl _ _ _ _ _ rfl .f64 _ _ rfl rfl (by decide) ?_; intro z n hz)
            exact ⟨⟨j + 1, _, z, by omega, int_congr (by omega), rfl, Lib.hid (sP_step hlt HU.out HP.out (by assumption) (by assumption) (by assumption)), rfl⟩, by simp [intOf]; omega⟩
          · obtain rfl : j = 8 := by omega
            go_wp2_with (refine wpList_fl rfl _ _ _ _ _ rfl .f64 _ _ rfl rfl (by decide) ?_; intro z n hz)
            go_ret
            exact ⟨_, _, rfl, rfl, sV_below Hb.out (Rp.fop HZ.out HP.out (by assumption))⟩
    | false =>
      have hq : (FloatKind.f64.format.order f 4602678819172646912 == some .gt || FloatKind.f64.format.order f 4602678819172646912 == some .eq) = false := by rw [← hb]; exact (sBelow_eq Hf.out).symm
      have Hb := Lib.hid hb
      clear hb
      go_enter Try.func31, Try.ntmps31
      go_wp2_with (first | (refine wpList_fl_eq rfl _ _ _ _ _ rfl .f64 _ _ _ rfl rfl (by decide) r0 ?_) | (refine wpList_fl_eq rfl _ _ _ _ _ rfl .f64 _ _ _ rfl rfl (by decide) r1 ?_) | (refine wpList_fl rfl _ _ _ _ _ rfl .f64 _ _ rfl rfl (by decide) ?_; intro z n hz))
      all_goals first
        | (rename_i h3 z2 n3 hz2 K hK; have hZ : Rp .f64 (sZ y) z2 := Rp.fop (sF3_le (sF2_neg Hf.out Hb.out) h3) (Rp.refl _ _) hz2; have hU : Rp .f64 (sU y) z := Rp.fop hZ hZ hz; have HZ := Lib.hid hZ; have HU := Lib.hid hU; clear hZ hU hz hz2 h3 hq o1 o2 h00 r0 r1 h0 hcv)
        | (rename_i h3 z2 n3 hz2 z3 n4 hz3 K hK; have hZ : Rp .f64 (sZ y) z3 := Rp.fop (sF3_gt (sF2_neg Hf.out Hb.out) h3 hz2) (Rp.refl _ _) hz3; have hU : Rp .f64 (sU y) z := Rp.fop hZ hZ hz; have HZ := Lib.hid hZ; have HU := Lib.hid hU; clear hZ hU hz hz3 hz2 h3 hq o1 o2 h00 r0 r1 h0 hcv)
      all_goals
        go_loopw [7, 8] (fun p k wr => ∃ (j m x : Nat), j ≤ 8 ∧ k = .int .i64 (8 - (j : Int)) ∧ p = .float .f64 x ∧ Hid (Rp .f64 (sP y j) x) ∧ wr = w.drewN m) (fun _ k _ => (intOf k).toNat)
        case atStart => exact ⟨0, _, _, by omega, rfl, rfl, Lib.hid rfl, rfl⟩
        case round =>
          obtain ⟨j, m, p, hj, rfl, rfl, HP, rfl⟩ := hrel
          by_cases hlt : j < 8
          · go_wp2_with (refine wpList_fl rfl _ _ _ _ _ rfl .f64 _ _ rfl rfl (by decide) ?_; intro z n hz)
            exact ⟨⟨j + 1, _, z, by omega, int_congr (by omega), rfl, Lib.hid (sP_step hlt HU.out HP.out (by assumption) (by assumption) (by assumption)), rfl⟩, by simp [intOf]; omega⟩
          · obtain rfl : j = 8 := by omega
            go_wp2_with (refine wpList_fl rfl _ _ _ _ _ rfl .f64 _ _ rfl rfl (by decide) ?_; intro z n hz)
            go_ret
            exact ⟨_, _, rfl, rfl, sV_above Hb.out (Rp.fop HZ.out HP.out (by assumption))⟩
end Go.Proofs.Ytpaldmhlcgdmkab
