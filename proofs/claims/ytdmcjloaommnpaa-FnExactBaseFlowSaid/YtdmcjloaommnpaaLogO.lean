/- The logarithm of any number: the program and its model alike. -/
import Derived.Test.YtdmcjloaommnpaaExpO
namespace Go.Proofs.Ytdmcjloaommnpaa
open Go.RowKit
set_option linter.unusedVariables false
set_option linter.unusedSimpArgs false
set_option maxRecDepth 100000

set_option maxHeartbeats 2000000 in
theorem log_pos (x r : Nat) (hc : cvt .f32 x .f64 = some r) (hr1 : 4503599627370496 ≤ r) (hr2 : r < 9218868437227405312) (w : World) :
    Calls Try.prog 62 #[.float .f32 x] w (NumQ (cvtF .f64 .f32 (logV (xOf r) (eOf r))) w) := by
  have hrun := run_cvt_some (P := Try.prog) (by decide) hc (widen_ok x) 26 30 (by kernel_rfl) Try.underlying30
  have hself := ord_self_pos hr1 hr2
  have hzero := ord_zero_pos hr1 hr2
  have hmax := ord_max_pos hr1 hr2
  have Hn := Lib.hid (fun z hz => narrow_smo (z := z) (logV_sm (xOf_range r).1 (xOf_range r).2 (eOf r) (eOf_range r hr2)) (by decide) hz)
  have Hr1 := Lib.hid hr1
  have Hr2 := Lib.hid hr2
  clear hc hr1 hr2
  go_enter Try.func62, Try.ntmps62
  go_wp2_with (first | (refine wpList_cvt_eq rfl _ _ _ rfl rfl hrun ?_) | (go_at_call 95; go_in) | go_back)
  refine (wideLog_any r Hr1.out Hr2.out _).mono ?_
  rintro e w' ⟨v2, n2, rfl, rfl, hv2⟩
  go_wp2_with (first | (go_at_call 93; go_in) | (go_at_call 90; go_in) | go_back | (refine wpList_cvt rfl _ _ _ rfl .f64 .f32 _ rfl (by kernel_rfl) Try.underlying26 (Hn.out _ (by assumption)) ?_; intro zz qq hzz))
  go_ret
  exact ⟨_, rfl, Is32.cvtF (Rp.cvtF (by decide) (by assumption) (by assumption)), _, rfl⟩

set_option maxHeartbeats 2000000 in
theorem log_zero (x r : Nat) (hc : cvt .f32 x .f64 = some r) (hself : FloatKind.f64.format.order r r = some .eq) (hzero : FloatKind.f64.format.order r 0 = some .eq) (w : World) :
    Calls Try.prog 62 #[.float .f32 x] w (NumQ (some 4286578688) w) := by
  have hb := fb64_run
  have hrun := run_cvt_some (P := Try.prog) (by decide) hc (widen_ok x) 26 30 (by kernel_rfl) Try.underlying30
  clear hc
  go_enter Try.func62, Try.ntmps62
  go_wp2_with (first | (refine wpList_cvt_eq rfl _ _ _ rfl rfl hrun ?_) | (go_at_call 90; go_in) | (go_at_call 93; go_in) | (go_at_call 95; go_in) | (go_at_call 97; go_in) | (go_at_call 94; go_in) | (go_at_call 91; go_in) | go_back | (refine wpList_cvt rfl _ _ _ rfl .f64 .f32 18442240474082181120 rfl (by kernel_rfl) Try.underlying26 (by decide +kernel) ?_; intro zz qq hzz))
  go_ret
  rw [show cvt .f64 18442240474082181120 .f32 = some 4286578688 by decide +kernel] at hzz
  exact ⟨_, rfl, ⟨hzz, by obtain rfl : zz = 4286578688 := hzz; decide⟩, _, rfl⟩

set_option maxHeartbeats 2000000 in
theorem log_neg (x r : Nat) (hc : cvt .f32 x .f64 = some r) (hself : FloatKind.f64.format.order r r = some .eq) (hzero : FloatKind.f64.format.order r 0 = some .lt) (hmax : FloatKind.f64.format.order r 9218868437227405311 = some .lt) (w : World) :
    Calls Try.prog 62 #[.float .f32 x] w (NumQ (none) w) := by
  have hb := fb64_run
  have hrun := run_cvt_some (P := Try.prog) (by decide) hc (widen_ok x) 26 30 (by kernel_rfl) Try.underlying30
  clear hc
  go_enter Try.func62, Try.ntmps62
  go_wp2_with (first | (refine wpList_cvt_eq rfl _ _ _ rfl rfl hrun ?_) | (go_at_call 90; go_in) | (go_at_call 93; go_in) | (go_at_call 95; go_in) | (go_at_call 97; go_in) | (go_at_call 94; go_in) | (go_at_call 91; go_in) | go_back | (refine wpList_cvt rfl _ _ _ rfl .f64 .f32 9221120237041090561 rfl (by kernel_rfl) Try.underlying26 (by decide +kernel) ?_; intro zz qq hzz))
  go_ret
  rw [show cvt .f64 9221120237041090561 .f32 = none by decide +kernel] at hzz
  exact ⟨_, rfl, ⟨hzz, hzz.2⟩, _, rfl⟩

set_option maxHeartbeats 2000000 in
theorem log_inf (x r : Nat) (hx : x < 4294967296) (hc : cvt .f32 x .f64 = some r) (hself : FloatKind.f64.format.order r r = some .eq) (hzero : FloatKind.f64.format.order r 0 = some .gt) (hmax : FloatKind.f64.format.order r 9218868437227405311 = some .gt) (hn : cvt .f64 r .f32 = some x) (hg : tooGreat .f64 r .f32 = false) (w : World) :
    Calls Try.prog 62 #[.float .f32 x] w (NumQ (some x) w) := by
  have hb := fb64_run
  have hrun := run_cvt_some (P := Try.prog) (by decide) hc (widen_ok x) 26 30 (by kernel_rfl) Try.underlying30
  have hrun2 := run_cvt_some (P := Try.prog) (by decide) hn hg 30 26 (by kernel_rfl) Try.underlying26
  have Hx := Lib.hid hx
  clear hc hn hg hx
  go_enter Try.func62, Try.ntmps62
  go_wp2_with (first | (refine wpList_cvt_eq rfl _ _ _ rfl rfl hrun ?_) | (refine wpList_cvt_eq rfl _ _ _ rfl rfl hrun2 ?_) | (go_at_call 90; go_in) | (go_at_call 93; go_in) | (go_at_call 95; go_in) | (go_at_call 97; go_in) | (go_at_call 94; go_in) | (go_at_call 91; go_in) | go_back)
  go_ret
  exact ⟨_, rfl, Is32.c Hx.out, 0, rfl⟩

set_option maxHeartbeats 2000000 in
theorem log_nan (x : Nat) (hc : cvt .f32 x .f64 = none) (w : World) :
    Calls Try.prog 62 #[.float .f32 x] w (NumQ (none) w) := by
  have hb := fb64_run
  have Hc := Lib.hid hc
  clear hc
  go_enter Try.func62, Try.ntmps62
  go_wp2_with (first | (refine wpList_cvt rfl _ _ _ rfl .f32 .f64 x rfl (by kernel_rfl) Try.underlying30 (widen_ok _) ?_; intro z n hz; rw [Hc.out] at hz; have o1 := order_nan_left (y := z) hz.1; have o2 := order_nan_left (y := 0) hz.1; have o3 := order_nan_left (y := 9218868437227405311) hz.1; clear hz) | (go_at_call 90; go_in) | (go_at_call 93; go_in) | (go_at_call 95; go_in) | (go_at_call 97; go_in) | (go_at_call 94; go_in) | (go_at_call 91; go_in) | go_back | (refine wpList_cvt rfl _ _ _ rfl .f64 .f32 9221120237041090561 rfl (by kernel_rfl) Try.underlying26 (by decide +kernel) ?_; intro zz qq hzz))
  go_ret
  rw [show cvt .f64 9221120237041090561 .f32 = none by decide +kernel] at hzz
  exact ⟨_, rfl, ⟨hzz, hzz.2⟩, _, rfl⟩

set_option maxHeartbeats 2000000 in
theorem l01Log_pos (x r : Nat) (hc : cvt .f32 x .f64 = some r) (hr1 : 4503599627370496 ≤ r) (hr2 : r < 9218868437227405312) (w : World) :
    Calls Try.prog 58 #[.float .f32 x] w (NumQ (cvtF .f64 .f32 (logV (xOf r) (eOf r))) w) := by
  have hrun := run_cvt_some (P := Try.prog) (by decide) hc (widen_ok x) 26 30 (by kernel_rfl) Try.underlying30
  have hself := ord_self_pos hr1 hr2
  have hzero := ord_zero_pos hr1 hr2
  have hmax := ord_max_pos hr1 hr2
  have Hn := Lib.hid (fun z hz => narrow_smo (z := z) (logV_sm (xOf_range r).1 (xOf_range r).2 (eOf r) (eOf_range r hr2)) (by decide) hz)
  have Hr1 := Lib.hid hr1
  have Hr2 := Lib.hid hr2
  clear hc hr1 hr2
  go_enter Try.func58, Try.ntmps58
  go_wp2_with (first | (refine wpList_cvt_eq rfl _ _ _ rfl rfl hrun ?_) | (go_at_call 95; go_in) | go_back)
  refine (l01LogWide_any r Hr1.out Hr2.out _).mono ?_
  rintro e w' ⟨v2, n2, rfl, rfl, hv2⟩
  go_wp2_with (first | (go_at_call 93; go_in) | (go_at_call 90; go_in) | go_back | (refine wpList_cvt rfl _ _ _ rfl .f64 .f32 _ rfl (by kernel_rfl) Try.underlying26 (Hn.out _ (by assumption)) ?_; intro zz qq hzz))
  go_ret
  exact ⟨_, rfl, Is32.cvtF (Rp.cvtF (by decide) (by assumption) (by assumption)), _, rfl⟩

set_option maxHeartbeats 2000000 in
theorem l01Log_zero (x r : Nat) (hc : cvt .f32 x .f64 = some r) (hself : FloatKind.f64.format.order r r = some .eq) (hzero : FloatKind.f64.format.order r 0 = some .eq) (w : World) :
    Calls Try.prog 58 #[.float .f32 x] w (NumQ (some 4286578688) w) := by
  have hb := fb64_run
  have hrun := run_cvt_some (P := Try.prog) (by decide) hc (widen_ok x) 26 30 (by kernel_rfl) Try.underlying30
  clear hc
  go_enter Try.func58, Try.ntmps58
  go_wp2_with (first | (refine wpList_cvt_eq rfl _ _ _ rfl rfl hrun ?_) | (go_at_call 90; go_in) | (go_at_call 93; go_in) | (go_at_call 95; go_in) | (go_at_call 97; go_in) | (go_at_call 94; go_in) | (go_at_call 91; go_in) | go_back | (refine wpList_cvt rfl _ _ _ rfl .f64 .f32 18442240474082181120 rfl (by kernel_rfl) Try.underlying26 (by decide +kernel) ?_; intro zz qq hzz))
  go_ret
  rw [show cvt .f64 18442240474082181120 .f32 = some 4286578688 by decide +kernel] at hzz
  exact ⟨_, rfl, ⟨hzz, by obtain rfl : zz = 4286578688 := hzz; decide⟩, _, rfl⟩

set_option maxHeartbeats 2000000 in
theorem l01Log_neg (x r : Nat) (hc : cvt .f32 x .f64 = some r) (hself : FloatKind.f64.format.order r r = some .eq) (hzero : FloatKind.f64.format.order r 0 = some .lt) (hmax : FloatKind.f64.format.order r 9218868437227405311 = some .lt) (w : World) :
    Calls Try.prog 58 #[.float .f32 x] w (NumQ (none) w) := by
  have hb := fb64_run
  have hrun := run_cvt_some (P := Try.prog) (by decide) hc (widen_ok x) 26 30 (by kernel_rfl) Try.underlying30
  clear hc
  go_enter Try.func58, Try.ntmps58
  go_wp2_with (first | (refine wpList_cvt_eq rfl _ _ _ rfl rfl hrun ?_) | (go_at_call 90; go_in) | (go_at_call 93; go_in) | (go_at_call 95; go_in) | (go_at_call 97; go_in) | (go_at_call 94; go_in) | (go_at_call 91; go_in) | go_back | (refine wpList_cvt rfl _ _ _ rfl .f64 .f32 9221120237041090561 rfl (by kernel_rfl) Try.underlying26 (by decide +kernel) ?_; intro zz qq hzz))
  go_ret
  rw [show cvt .f64 9221120237041090561 .f32 = none by decide +kernel] at hzz
  exact ⟨_, rfl, ⟨hzz, hzz.2⟩, _, rfl⟩

set_option maxHeartbeats 2000000 in
theorem l01Log_inf (x r : Nat) (hx : x < 4294967296) (hc : cvt .f32 x .f64 = some r) (hself : FloatKind.f64.format.order r r = some .eq) (hzero : FloatKind.f64.format.order r 0 = some .gt) (hmax : FloatKind.f64.format.order r 9218868437227405311 = some .gt) (hn : cvt .f64 r .f32 = some x) (hg : tooGreat .f64 r .f32 = false) (w : World) :
    Calls Try.prog 58 #[.float .f32 x] w (NumQ (some x) w) := by
  have hb := fb64_run
  have hrun := run_cvt_some (P := Try.prog) (by decide) hc (widen_ok x) 26 30 (by kernel_rfl) Try.underlying30
  have hrun2 := run_cvt_some (P := Try.prog) (by decide) hn hg 30 26 (by kernel_rfl) Try.underlying26
  have Hx := Lib.hid hx
  clear hc hn hg hx
  go_enter Try.func58, Try.ntmps58
  go_wp2_with (first | (refine wpList_cvt_eq rfl _ _ _ rfl rfl hrun ?_) | (refine wpList_cvt_eq rfl _ _ _ rfl rfl hrun2 ?_) | (go_at_call 90; go_in) | (go_at_call 93; go_in) | (go_at_call 95; go_in) | (go_at_call 97; go_in) | (go_at_call 94; go_in) | (go_at_call 91; go_in) | go_back)
  go_ret
  exact ⟨_, rfl, Is32.c Hx.out, 0, rfl⟩

set_option maxHeartbeats 2000000 in
theorem l01Log_nan (x : Nat) (hc : cvt .f32 x .f64 = none) (w : World) :
    Calls Try.prog 58 #[.float .f32 x] w (NumQ (none) w) := by
  have hb := fb64_run
  have Hc := Lib.hid hc
  clear hc
  go_enter Try.func58, Try.ntmps58
  go_wp2_with (first | (refine wpList_cvt rfl _ _ _ rfl .f32 .f64 x rfl (by kernel_rfl) Try.underlying30 (widen_ok _) ?_; intro z n hz; rw [Hc.out] at hz; have o1 := order_nan_left (y := z) hz.1; have o2 := order_nan_left (y := 0) hz.1; have o3 := order_nan_left (y := 9218868437227405311) hz.1; clear hz) | (go_at_call 90; go_in) | (go_at_call 93; go_in) | (go_at_call 95; go_in) | (go_at_call 97; go_in) | (go_at_call 94; go_in) | (go_at_call 91; go_in) | go_back | (refine wpList_cvt rfl _ _ _ rfl .f64 .f32 9221120237041090561 rfl (by kernel_rfl) Try.underlying26 (by decide +kernel) ?_; intro zz qq hzz))
  go_ret
  rw [show cvt .f64 9221120237041090561 .f32 = none by decide +kernel] at hzz
  exact ⟨_, rfl, ⟨hzz, hzz.2⟩, _, rfl⟩

/-- The logarithm of a number that may be no number. -/
def logO (X : Option Nat) : Option Nat := X.bind fun x =>
  if 2139095040 < rg x then none else if rg x = 0 then some 4286578688 else if x = 2139095040 then some 2139095040 else if 2147483648 < x then none else cvtF .f64 .f32 (logV (xOf (widr x)) (eOf (widr x)))

theorem logNumber_o {X : Option Nat} {x : Nat} (w : World) (hx : Is32 X x) : Calls Try.prog 62 #[.float .f32 x] w (NumQ (logO X) w) := by
  cases X with
  | none => exact log_nan x (widen_nan hx.1.1) w
  | some b =>
    obtain rfl := hx.eq
    have hxx := hx.2
    unfold logO
    simp only [Option.bind_some]
    split
    · rename_i h
      exact log_nan x (widen_nan (by rw [nan32_iff]; exact decide_eq_true h)) w
    · rename_i h
      split
      · rename_i h0
        have : x = 0 ∨ x = 2147483648 := by unfold rg at h0; omega
        rcases this with rfl | rfl
        · exact log_zero 0 0 (by decide +kernel) (by decide +kernel) (by decide +kernel) w
        · exact log_zero 2147483648 9223372036854775808 (by decide +kernel) (by decide +kernel) (by decide +kernel) w
      · rename_i h0
        split
        · rename_i hi
          subst hi
          exact log_inf 2139095040 9218868437227405312 hxx (by decide +kernel) (by decide +kernel) (by decide +kernel) (by decide +kernel) (by decide +kernel) (by decide +kernel) w
        · rename_i hi
          split
          · rename_i hs
            by_cases hm : x = 4286578688
            · subst hm
              exact log_neg 4286578688 18442240474082181120 (by decide +kernel) (by decide +kernel) (by decide +kernel) (by decide +kernel) w
            · obtain ⟨q, hc, q1, q2⟩ := widen_neg hxx hs (by unfold rg at h; omega)
              exact log_neg x _ hc (ord_self_neg q1 q2) (ord_zero_neg q1 q2) (ord_max_neg q1 q2) w
          · rename_i hs
            have hlt : x < 2139095040 := by unfold rg at h h0; omega
            have hpos : 0 < x := by unfold rg at h0; omega
            obtain ⟨r, hc, r1, r2⟩ := widen_pos hpos hlt
            have hw := widen_word (x := x) (by unfold rg; omega)
            have hsg : (x / 2147483648 % 2 == 1) = false := by rw [beq_eq_false_iff_ne]; omega
            rw [hsg, hc, D64.word_pos32] at hw
            have hrr : r = widr x := Option.some.inj hw
            rw [← hrr]
            exact log_pos x r hc r1 r2 w

theorem l01Log_o {X : Option Nat} {x : Nat} (w : World) (hx : Is32 X x) : Calls Try.prog 58 #[.float .f32 x] w (NumQ (logO X) w) := by
  cases X with
  | none => exact l01Log_nan x (widen_nan hx.1.1) w
  | some b =>
    obtain rfl := hx.eq
    have hxx := hx.2
    unfold logO
    simp only [Option.bind_some]
    split
    · rename_i h
      exact l01Log_nan x (widen_nan (by rw [nan32_iff]; exact decide_eq_true h)) w
    · rename_i h
      split
      · rename_i h0
        have : x = 0 ∨ x = 2147483648 := by unfold rg at h0; omega
        rcases this with rfl | rfl
        · exact l01Log_zero 0 0 (by decide +kernel) (by decide +kernel) (by decide +kernel) w
        · exact l01Log_zero 2147483648 9223372036854775808 (by decide +kernel) (by decide +kernel) (by decide +kernel) w
      · rename_i h0
        split
        · rename_i hi
          subst hi
          exact l01Log_inf 2139095040 9218868437227405312 hxx (by decide +kernel) (by decide +kernel) (by decide +kernel) (by decide +kernel) (by decide +kernel) (by decide +kernel) w
        · rename_i hi
          split
          · rename_i hs
            by_cases hm : x = 4286578688
            · subst hm
              exact l01Log_neg 4286578688 18442240474082181120 (by decide +kernel) (by decide +kernel) (by decide +kernel) (by decide +kernel) w
            · obtain ⟨q, hc, q1, q2⟩ := widen_neg hxx hs (by unfold rg at h; omega)
              exact l01Log_neg x _ hc (ord_self_neg q1 q2) (ord_zero_neg q1 q2) (ord_max_neg q1 q2) w
          · rename_i hs
            have hlt : x < 2139095040 := by unfold rg at h h0; omega
            have hpos : 0 < x := by unfold rg at h0; omega
            obtain ⟨r, hc, r1, r2⟩ := widen_pos hpos hlt
            have hw := widen_word (x := x) (by unfold rg; omega)
            have hsg : (x / 2147483648 % 2 == 1) = false := by rw [beq_eq_false_iff_ne]; omega
            rw [hsg, hc, D64.word_pos32] at hw
            have hrr : r = widr x := Option.some.inj hw
            rw [← hrr]
            exact l01Log_pos x r hc r1 r2 w

theorem logO_ne (X : Option Nat) : ∃ z, Is32 (logO X) z := Is32.ne _ fun b hb => by
  cases X with
  | none => cases hb
  | some x =>
    unfold logO at hb
    simp only [Option.bind_some] at hb
    split at hb
    · cases hb
    · split at hb
      · simp only [Option.some.injEq] at hb; omega
      · split at hb
        · simp only [Option.some.injEq] at hb; omega
        · split at hb
          · cases hb
          · exact cvtF32_lt hb
end Go.Proofs.Ytdmcjloaommnpaa
