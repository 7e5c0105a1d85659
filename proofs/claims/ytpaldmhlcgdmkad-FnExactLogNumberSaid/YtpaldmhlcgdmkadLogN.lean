/- The walk of the law on LogNumber. -/
import Derived.Test.YtpaldmhlcgdmkadLogW
import Derived.Test.YtpaldmhlcgdmkadSame
namespace Go.Proofs.Ytpaldmhlcgdmkad
open Go.RowKit

theorem fb64_run (n : Int) (w : World) : (callFunc 52 #[.int .u64 n]).run Try.prog w = .ok (.value (.float .f64 n.toNat)) w := by
  rw [run_callFunc_extern Try.func52 (by kernel_rfl) (by kernel_rfl) (by kernel_rfl) (show Extern.find Try.f52 = some Extern.MathFloatBits.float64frombits by kernel_rfl)]
  rfl

theorem run_cvt_some {P : Program} {s k : FloatKind} {b r : Nat} (hk : s ≠ k) (h : cvt s b k = some r) (hg : tooGreat s b k = false) (src dst : TypeId) (hs : (P.underlying src).isSome = true) (hd : P.underlying dst = some (.float k)) :
    ∀ W : World, (convert src dst (.float s b)).run P W = .ok (.float k r) W := by
  intro W
  refine run_convert_float_float W src dst s k b r hs hd ?_
  unfold cvt at h
  unfold tooGreat at hg
  unfold floatToFloatBits
  rw [if_neg hk] at h hg ⊢
  cases hd : s.decode b with
  | nan g f => rw [hd] at h; cases h
  | infinity g => rw [hd] at h; exact h
  | number g m e => rw [hd] at h hg; simp only at h hg ⊢; rw [if_neg (by rw [hg]; exact Bool.false_ne_true)]; exact h

theorem cut_zero (neg : Bool) (n : Nat) : Ieee.Toward.even.cut neg n 0 = n := by
  unfold Ieee.Toward.cut
  simp [Nat.mod_one]

/-- A 32-bit number greater than 0, widened, is a normal number. -/
theorem widen_parts (g : Bool) (m : Nat) (e : Int) (h0 : 1 ≤ m) (h1 : m < 16777216) (h2 : -149 ≤ e) (h3 : e ≤ 104) :
    ∃ q, 4503599627370496 ≤ q ∧ q < 9218868437227405312 ∧ Ieee.double.nearest g m e = Ieee.double.word g q := by
  have hl : m.log2 < 24 := (Nat.log2_lt (by omega)).2 (by simpa using h1)
  have hlo := Nat.log2_self_le (show m ≠ 0 by omega)
  have hhi : m < 2 ^ (m.log2 + 1) := Nat.lt_log2_self
  unfold Ieee.Format.nearest
  rw [if_neg (by omega)]
  have hf : (Ieee.double.fractionBits : Int) = 52 := rfl
  have hlp : Ieee.double.leastPlace = -1074 := by decide
  rw [hf, hlp]
  have hlast : max (e + (m.log2 : Int) - 52) (-1074) = e + m.log2 - 52 := by omega
  simp only [hlast, hB]
  have a1 : (e - (e + (m.log2 : Int) - 52)).toNat = 52 - m.log2 := by omega
  have a2 : (e + (m.log2 : Int) - 52 - e).toNat = 0 := by omega
  rw [a1, a2, cut_zero, Nat.shiftLeft_eq]
  have b1 : 4503599627370496 ≤ m * 2 ^ (52 - m.log2) := by
    rw [← pow52 m.log2 (by omega)]; exact Nat.mul_le_mul_right _ hlo
  have b2 : m * 2 ^ (52 - m.log2) < 9007199254740992 := by
    have := Nat.mul_lt_mul_of_pos_right hhi (Nat.two_pow_pos (52 - m.log2))
    rw [Nat.pow_succ, Nat.mul_right_comm, pow52 m.log2 (by omega)] at this
    exact this
  obtain ⟨t, ht⟩ : ∃ t : Nat, (e + (m.log2 : Int) - 52 - -1074).toNat = t ∧ t ≤ 1149 := ⟨_, rfl, by omega⟩
  rw [ht.1]
  have ht2 := ht.2
  generalize m * 2 ^ (52 - m.log2) = q at *
  have b3 := Nat.mul_le_mul_right 4503599627370496 ht2
  have b4 : t * 4503599627370496 + q < 9218868437227405312 := Nat.lt_of_le_of_lt (Nat.add_le_add b3 (Nat.le_of_lt b2)) (by decide)
  refine ⟨t * 4503599627370496 + q, Nat.le_trans b1 (Nat.le_add_left _ _), b4, ?_⟩
  rw [hI, Nat.min_eq_left (Nat.le_of_lt b4)]

theorem decode_pos32 {x : Nat} (h0 : 0 < x % 2147483648) (h : x % 2147483648 < 2139095040) : ∃ m e, FloatKind.f32.decode x = .number (x / 2147483648 % 2 == 1) m e ∧ 1 ≤ m ∧ m < 16777216 ∧ -149 ≤ e ∧ e ≤ 104 := by
  rw [read_single]
  have hm := Nat.mod_lt (x % 2147483648) (show 8388608 > 0 by decide)
  by_cases hc : x % 2147483648 < 8388608
  · rw [if_pos hc]
    exact ⟨_, _, rfl, by omega, by omega, by omega, by omega⟩
  · rw [if_neg hc, if_pos h]
    exact ⟨_, _, rfl, by omega, by omega, by omega, by omega⟩

theorem widen_pos {x : Nat} (h0 : 0 < x) (h : x < 2139095040) : ∃ r, cvt .f32 x .f64 = some r ∧ 4503599627370496 ≤ r ∧ r < 9218868437227405312 := by
  have hm : x % 2147483648 = x := by omega
  obtain ⟨m, e, hd, h1, h2, h3, h4⟩ := decode_pos32 (x := x) (by omega) (by omega)
  obtain ⟨q, q1, q2, hq⟩ := widen_parts (x / 2147483648 % 2 == 1) m e h1 h2 h3 h4
  refine ⟨q, ?_, q1, q2⟩
  unfold cvt
  rw [if_neg (by decide), hd]
  show some (Ieee.double.nearest _ m e) = some q
  rw [hq, show (x / 2147483648 % 2 == 1) = false by rw [show x / 2147483648 = 0 by omega]; rfl]
  unfold Ieee.Format.word
  rw [if_neg Bool.false_ne_true]

theorem widen_neg {x : Nat} (hx : x < 4294967296) (hs : 2147483648 < x) (h : x % 2147483648 < 2139095040) : ∃ q, cvt .f32 x .f64 = some (9223372036854775808 + q) ∧ 4503599627370496 ≤ q ∧ q < 9218868437227405312 := by
  obtain ⟨m, e, hd, h1, h2, h3, h4⟩ := decode_pos32 (x := x) (by omega) (by omega)
  obtain ⟨q, q1, q2, hq⟩ := widen_parts (x / 2147483648 % 2 == 1) m e h1 h2 h3 h4
  refine ⟨q, ?_, q1, q2⟩
  unfold cvt
  rw [if_neg (by decide), hd]
  show some (Ieee.double.nearest _ m e) = _
  rw [hq, show (x / 2147483648 % 2 == 1) = true by rw [show x / 2147483648 = 1 by omega]; rfl]
  unfold Ieee.Format.word
  rw [if_pos rfl, hS]

theorem neg_decode {q : Nat} (h1 : 4503599627370496 ≤ q) (h2 : q < 9218868437227405312) : ∃ m e, FloatKind.f64.decode (9223372036854775808 + q) = .number true m e ∧ 1 ≤ m ∧ -1074 ≤ e := by
  have hm : (9223372036854775808 + q) % 9223372036854775808 = q := by omega
  have hs : ((9223372036854775808 + q) / 9223372036854775808 % 2 == 1) = true := by rw [show (9223372036854775808 + q) / 9223372036854775808 = 1 by omega]; rfl
  rw [read_double, hm, if_neg (by omega), if_pos h2, hs]
  exact ⟨_, _, rfl, by omega, by omega⟩

theorem ord_zero_neg {q : Nat} (h1 : 4503599627370496 ≤ q) (h2 : q < 9218868437227405312) : FloatKind.f64.format.order (9223372036854775808 + q) 0 = some .lt := by
  obtain ⟨m, e, hd, hm, he⟩ := neg_decode h1 h2
  have h0 : FloatKind.f64.format.order (9223372036854775808 + q) 0 = (FloatKind.f64.decode (9223372036854775808 + q)).order (.number false 0 (-1074)) := rfl
  rw [h0, hd]
  simp only [Ieee.Datum.order, Ieee.signed, if_true, Bool.false_eq_true, if_false, Nat.shiftLeft_eq, Nat.zero_mul, Option.some.injEq]
  show compareOfLessAndEq _ _ = _
  unfold compareOfLessAndEq
  have hp := Nat.two_pow_pos (e - min e (-1074)).toNat
  generalize 2 ^ (e - min e (-1074)).toNat = t at *
  have : 0 < m * t := Nat.mul_pos (by omega) hp
  rw [if_pos (by omega)]
theorem ord_max_neg {q : Nat} (h1 : 4503599627370496 ≤ q) (h2 : q < 9218868437227405312) : FloatKind.f64.format.order (9223372036854775808 + q) 9218868437227405311 = some .lt := by
  obtain ⟨m, e, hd, hm, he⟩ := neg_decode h1 h2
  have h0 : FloatKind.f64.format.order (9223372036854775808 + q) 9218868437227405311 = (FloatKind.f64.decode (9223372036854775808 + q)).order (FloatKind.f64.decode 9218868437227405311) := rfl
  have hdm : FloatKind.f64.decode 9218868437227405311 = .number false 9007199254740991 971 := by decide +kernel
  rw [h0, hd, hdm]
  simp only [Ieee.Datum.order, Ieee.signed, if_true, Bool.false_eq_true, if_false, Nat.shiftLeft_eq, Option.some.injEq]
  show compareOfLessAndEq _ _ = _
  unfold compareOfLessAndEq
  have hp := Nat.two_pow_pos (e - min e 971).toNat
  have hp2 := Nat.two_pow_pos (971 - min e 971).toNat
  generalize 2 ^ (e - min e 971).toNat = t at *
  generalize 2 ^ (971 - min e 971).toNat = u at *
  have : 0 < m * t := Nat.mul_pos (by omega) hp
  have : 0 < 9007199254740991 * u := Nat.mul_pos (by decide) hp2
  rw [if_pos (by omega)]
theorem ord_self_neg {q : Nat} (h1 : 4503599627370496 ≤ q) (h2 : q < 9218868437227405312) : FloatKind.f64.format.order (9223372036854775808 + q) (9223372036854775808 + q) = some .eq := by
  rw [order_self_64, if_neg (by omega)]

theorem rp_cvtF {s k : FloatKind} (hk : s ≠ k) {X : Option Nat} {x z : Nat} (hz : Rp k (cvt s x k) z) (hx : Rp s X x) : Rp k (cvtF s k X) z := Rp.cvtF hk hx hz

theorem wpList_cvt_eq {P : Program} {ops : Array Oper} {Q : Exit → Act → World → Prop} {a : Act} {w : World} {rest : List Oper} {o : Oper} (hg : o.guard = none) (src dst : TypeId) (l : Operand) (hop : o.op = Op.convert src dst l) {v u : Value} (hl : a.eval l = v)
    (hrun : ∀ W : World, (convert src dst v).run P W = .ok u W) (hK : wpList P ops Q rest (a.put o.dst u) w) : wpList P ops Q (o :: rest) a w := by
  refine wpList_plain hg fun K hK' => ?_
  unfold Oper.wp
  simp [execOp, hop, hl, hrun, Result.andThen, Oper.upon]
  exact hK' _ _ hK

theorem narrow_smo {o : Option Nat} {E z : Nat} (h : SmO E o) (hE : E ≤ 1147) (hz : Rp .f64 o z) : tooGreat .f64 z .f32 = false := by
  obtain ⟨b, rfl, hb⟩ := h
  obtain rfl : z = b := hz
  exact narrow_ok hb hE

set_option maxHeartbeats 1000000 in
theorem logLaw_pos (x : Nat) (h0 : 0 < x) (h1 : x < 2139095040) (w : World) :
    Calls Try.prog 9 #[.float .f32 x] w fun e w' => e = .returned (.bool true) ∧ Grown w w' := by
  obtain ⟨r, hc, hr1, hr2⟩ := widen_pos h0 h1
  have hrun := run_cvt_some (P := Try.prog) (by decide) hc (widen_ok x) 22 25 (by kernel_rfl) Try.underlying25
  have hzero := ord_zero_pos hr1 hr2
  have hmax := ord_max_pos hr1 hr2
  have Hn := Lib.hid (fun z hz => narrow_smo (z := z) (logV_sm (xOf_range r).1 (xOf_range r).2 (eOf r) (eOf_range r hr2)) (by decide) hz)
  have Hr1 := Lib.hid hr1
  have Hr2 := Lib.hid hr2
  clear hc hr1 hr2 h0 h1
  go_enter Try.func9, Try.ntmps9
  go_wp2_with (first | (go_at_call 25; go_in) | (go_at_call 44; go_in) | go_back)
  refine (l01LogWide_any r Hr1.out Hr2.out _).mono ?_
  rintro e w' ⟨v1, n1, rfl, rfl, hv1⟩
  have Hv1 := Lib.hid hv1; clear hv1
  go_wp2_with (first | (go_at_call 50; go_in) | go_back | (go_at_call 26; go_in) | (go_at_call 45; go_in) | (refine wpList_cvt rfl _ _ _ rfl .f64 .f32 _ rfl (by kernel_rfl) Try.underlying22 (Hn.out _ Hv1.out) ?_; intro z n hz; have Hz := Lib.hid hz; clear hz))
  refine (wideLog_any r Hr1.out Hr2.out _).mono ?_
  rintro e w' ⟨v2, n2, rfl, rfl, hv2⟩
  have Hv2 := Lib.hid hv2; clear hv2
  go_wp2_with (first | (go_at_call 33; go_in) | go_back | (refine wpList_cvt rfl _ _ _ rfl .f64 .f32 _ rfl (by kernel_rfl) Try.underlying22 (Hn.out _ Hv2.out) ?_; intro z2 q2 hz2; have Hz2 := Lib.hid hz2; clear hz2) | (refine wpList_cvt rfl _ _ _ rfl .f32 .f64 _ rfl (by kernel_rfl) Try.underlying25 (widen_ok _) ?_; intro z n hz))
  refine (sameFloat_true (cvtF .f32 .f64 (cvtF .f64 .f32 (logV (xOf r) (eOf r)))) _ _ (Rp.cvtF (by decide) (Rp.cvtF (by decide) Hv2.out Hz2.out) (by assumption)) (Rp.cvtF (by decide) (Rp.cvtF (by decide) Hv1.out Hz.out) (by assumption)) _).mono ?_
  rintro e w' ⟨rfl, n3, rfl⟩
  go_wp2_with fail
  go_ret
  exact ⟨rfl, Grown.refl _⟩

set_option maxHeartbeats 2000000 in
theorem logLaw_zero (x : Nat) (r : Nat) (hc : cvt .f32 x .f64 = some r) (hself : FloatKind.f64.format.order r r = some .eq) (hzero : FloatKind.f64.format.order r 0 = some .eq) (w : World) :
    Calls Try.prog 9 #[.float .f32 x] w fun e w' => e = .returned (.bool true) ∧ Grown w w' := by
  have hb := fb64_run
  have hrun := run_cvt_some (P := Try.prog) (by decide) hc (widen_ok x) 22 25 (by kernel_rfl) Try.underlying25
  clear hc
  go_enter Try.func9, Try.ntmps9
  go_wp2_with (first | (refine wpList_cvt_eq rfl _ _ _ rfl rfl hrun ?_) | (go_at_call 25; go_in) | (go_at_call 44; go_in) | (go_at_call 50; go_in) | (go_at_call 26; go_in) | (go_at_call 33; go_in) | (go_at_call 45; go_in) | (go_at_call 34; go_in) | (go_at_call 43; go_in) | (go_at_call 58; go_in) | go_back | (refine wpList_cvt rfl _ _ _ rfl .f64 .f32 18442240474082181120 rfl (by kernel_rfl) Try.underlying22 (by decide +kernel) ?_; intro y p hy) | (refine wpList_cvt rfl _ _ _ rfl .f32 .f64 _ rfl (by kernel_rfl) Try.underlying25 (widen_ok _) ?_; intro z n hz))
  refine (sameFloat_true (cvtF .f32 .f64 (cvt .f64 18442240474082181120 .f32)) _ _ (rp_cvtF (by decide) (by assumption) (by assumption)) (rp_cvtF (by decide) (by assumption) (by assumption)) _).mono ?_
  rintro e w' ⟨rfl, n3, rfl⟩
  go_wp2_with fail
  go_ret
  exact ⟨rfl, Grown.refl _⟩

set_option maxHeartbeats 2000000 in
theorem logLaw_neg (x : Nat) (r : Nat) (hc : cvt .f32 x .f64 = some r) (hself : FloatKind.f64.format.order r r = some .eq) (hzero : FloatKind.f64.format.order r 0 = some .lt) (hmax : FloatKind.f64.format.order r 9218868437227405311 = some .lt) (w : World) :
    Calls Try.prog 9 #[.float .f32 x] w fun e w' => e = .returned (.bool true) ∧ Grown w w' := by
  have hb := fb64_run
  have hrun := run_cvt_some (P := Try.prog) (by decide) hc (widen_ok x) 22 25 (by kernel_rfl) Try.underlying25
  clear hc
  go_enter Try.func9, Try.ntmps9
  go_wp2_with (first | (refine wpList_cvt_eq rfl _ _ _ rfl rfl hrun ?_) | (go_at_call 25; go_in) | (go_at_call 44; go_in) | (go_at_call 50; go_in) | (go_at_call 26; go_in) | (go_at_call 33; go_in) | (go_at_call 45; go_in) | (go_at_call 34; go_in) | (go_at_call 43; go_in) | (go_at_call 58; go_in) | go_back | (refine wpList_cvt rfl _ _ _ rfl .f64 .f32 9221120237041090561 rfl (by kernel_rfl) Try.underlying22 (by decide +kernel) ?_; intro y p hy) | (refine wpList_cvt rfl _ _ _ rfl .f32 .f64 _ rfl (by kernel_rfl) Try.underlying25 (widen_ok _) ?_; intro z n hz))
  refine (sameFloat_true (cvtF .f32 .f64 (cvt .f64 9221120237041090561 .f32)) _ _ (rp_cvtF (by decide) (by assumption) (by assumption)) (rp_cvtF (by decide) (by assumption) (by assumption)) _).mono ?_
  rintro e w' ⟨rfl, n3, rfl⟩
  go_wp2_with fail
  go_ret
  exact ⟨rfl, Grown.refl _⟩

set_option maxHeartbeats 2000000 in
theorem logLaw_inf (x : Nat) (r : Nat) (hc : cvt .f32 x .f64 = some r) (hself : FloatKind.f64.format.order r r = some .eq) (hzero : FloatKind.f64.format.order r 0 = some .gt) (hmax : FloatKind.f64.format.order r 9218868437227405311 = some .gt) (hn : cvt .f64 r .f32 = some x) (hg : tooGreat .f64 r .f32 = false) (w : World) :
    Calls Try.prog 9 #[.float .f32 x] w fun e w' => e = .returned (.bool true) ∧ Grown w w' := by
  have hb := fb64_run
  have hrun := run_cvt_some (P := Try.prog) (by decide) hc (widen_ok x) 22 25 (by kernel_rfl) Try.underlying25
  clear hc
  have hrun2 := run_cvt_some (P := Try.prog) (by decide) hn hg 25 22 (by kernel_rfl) Try.underlying22
  clear hn hg
  go_enter Try.func9, Try.ntmps9
  go_wp2_with (first | (refine wpList_cvt_eq rfl _ _ _ rfl rfl hrun ?_) | (refine wpList_cvt_eq rfl _ _ _ rfl rfl hrun2 ?_) | (go_at_call 25; go_in) | (go_at_call 44; go_in) | (go_at_call 50; go_in) | (go_at_call 26; go_in) | (go_at_call 33; go_in) | (go_at_call 45; go_in) | (go_at_call 34; go_in) | (go_at_call 43; go_in) | (go_at_call 58; go_in) | go_back | fail | (refine wpList_cvt rfl _ _ _ rfl .f32 .f64 _ rfl (by kernel_rfl) Try.underlying25 (widen_ok _) ?_; intro z n hz))
  refine (sameFloat_true (some r) _ _ (Rp.refl _ _) (Rp.refl _ _) _).mono ?_
  rintro e w' ⟨rfl, n3, rfl⟩
  go_wp2_with fail
  go_ret
  exact ⟨rfl, Grown.refl _⟩

set_option maxHeartbeats 2000000 in
theorem logLaw_nan (x : Nat) (hc : cvt .f32 x .f64 = none) (w : World) :
    Calls Try.prog 9 #[.float .f32 x] w fun e w' => e = .returned (.bool true) ∧ Grown w w' := by
  have hb := fb64_run
  have Hc := Lib.hid hc
  clear hc
  go_enter Try.func9, Try.ntmps9
  go_wp2_with (first | (refine wpList_cvt rfl _ _ _ rfl .f32 .f64 x rfl (by kernel_rfl) Try.underlying25 (widen_ok _) ?_; intro z n hz; rw [Hc.out] at hz; have o1 := order_nan_left (y := z) hz.1; have o2 := order_nan_left (y := 0) hz.1; have o3 := order_nan_left (y := 9218868437227405311) hz.1; clear hz) | (go_at_call 25; go_in) | (go_at_call 44; go_in) | (go_at_call 50; go_in) | (go_at_call 26; go_in) | (go_at_call 33; go_in) | (go_at_call 45; go_in) | (go_at_call 34; go_in) | (go_at_call 43; go_in) | (go_at_call 58; go_in) | go_back | (refine wpList_cvt rfl _ _ _ rfl .f64 .f32 9221120237041090561 rfl (by kernel_rfl) Try.underlying22 (by decide +kernel) ?_; intro y p hy) | (refine wpList_cvt rfl _ _ _ rfl .f32 .f64 _ rfl (by kernel_rfl) Try.underlying25 (widen_ok _) ?_; intro z n hz))
  refine (sameFloat_true (cvtF .f32 .f64 (cvt .f64 9221120237041090561 .f32)) _ _ (rp_cvtF (by decide) (by assumption) (by assumption)) (rp_cvtF (by decide) (by assumption) (by assumption)) _).mono ?_
  rintro e w' ⟨rfl, n3, rfl⟩
  go_wp2_with fail
  go_ret
  exact ⟨rfl, Grown.refl _⟩

theorem walk_FnExactLogNumber (x : Nat) (hx : x < 4294967296) (w : World) :
    Calls Try.prog 9 #[.float .f32 x] w fun e w' => e = .returned (.bool true) ∧ Grown w w' := by
  by_cases hn : 2139095040 < x % 2147483648
  · refine logLaw_nan x ?_ w
    have := nan32_iff x
    rw [decide_eq_true hn] at this
    obtain ⟨s, f, hd⟩ := decode_nan this
    have hd' : FloatKind.f32.decode x = .nan s f := hd
    unfold cvt
    rw [if_neg (by decide), hd']
  · by_cases h0 : x % 2147483648 = 0
    · have : x = 0 ∨ x = 2147483648 := by omega
      rcases this with rfl | rfl
      · exact logLaw_zero 0 0 (by decide +kernel) (by decide +kernel) (by decide +kernel) w
      · exact logLaw_zero 2147483648 9223372036854775808 (by decide +kernel) (by decide +kernel) (by decide +kernel) w
    · by_cases hi : x % 2147483648 = 2139095040
      · have : x = 2139095040 ∨ x = 4286578688 := by omega
        rcases this with rfl | rfl
        · exact logLaw_inf 2139095040 9218868437227405312 (by decide +kernel) (by decide +kernel) (by decide +kernel) (by decide +kernel) (by decide +kernel) (by decide +kernel) w
        · exact logLaw_neg 4286578688 18442240474082181120 (by decide +kernel) (by decide +kernel) (by decide +kernel) (by decide +kernel) w
      · by_cases hs : x < 2147483648
        · exact logLaw_pos x (by omega) (by omega) w
        · obtain ⟨q, hc, q1, q2⟩ := widen_neg hx (by omega) (by omega)
          exact logLaw_neg x _ hc (ord_self_neg q1 q2) (ord_zero_neg q1 q2) (ord_max_neg q1 q2) w
end Go.Proofs.Ytpaldmhlcgdmkad
