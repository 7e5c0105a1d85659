/- The exponential function of numbers that are not too great: the program and its model alike. -/
import Derived.Test.YtfdcfalkidcdnabExpB
import Derived.Test.YtfdcfalkidcdnabWid
import Derived.ProofKit
import Derived.OpenShut
import Derived.Below
namespace Go.Proofs.Ytfdcfalkidcdnab
open Go.RowKit
set_option linter.unusedVariables false
set_option linter.unusedSimpArgs false
set_option maxRecDepth 100000

theorem xP_next {Y : Option Nat} {j t p a b z : Nat} (ht : Rp .f64 (xT Y) t) (hp : Rp .f64 (xP Y j) p) (ha : Rp .f64 (floatBits .mul .f64 t p) a) (hb : Rp .f64 (floatBits .quo .f64 a (floatOfInt .f64 (12 - (j : Int)))) b) (hz : Rp .f64 (floatBits .add .f64 4607182418800017408 b) z) : Rp .f64 (xP Y (j + 1)) z :=
  Rp.fop (Rp.refl _ _) (Rp.fop (ht.fop hp ha) (Rp.refl _ _) hb) hz
theorem xS_next {Y : Option Nat} {j p z : Nat} (hp : Rp .f64 (xS Y j) p) (hz : Rp .f64 (floatBits .mul .f64 p p) z) : Rp .f64 (xS Y (j + 1)) z := hp.fop hp hz

set_option maxHeartbeats 2000000 in
theorem exp_gen (x : Nat) (hg : (FloatKind.f32.format.order x 1128792064 == some .gt) = false) (hl : (FloatKind.f32.format.order x 3276275712 == some .lt) = false)
    (hn : ∀ p, Rp .f64 (xS (cvt .f32 x .f64) 8) p → tooGreat .f64 p .f32 = false) (w : World) :
    Calls Try.prog 77 #[.float .f32 x] w (NumQ (cvtF .f64 .f32 (xS (cvt .f32 x .f64) 8)) w) := by
  have Hn := Lib.hid hn
  clear hn
  go_enter Try.func77, Try.ntmps77
  go_wp2_with (first | (refine wpList_cvt rfl _ _ _ rfl .f32 .f64 x rfl (by kernel_rfl) Try.underlying69 (widen_ok _) ?_; intro y q hy) | (refine wpList_fl rfl _ _ _ _ _ rfl .f64 _ _ rfl rfl (by decide) ?_; intro z n hz))
  have HT := Lib.hid (show Rp .f64 (xT (cvt .f32 x .f64)) z from Rp.fop hy (Rp.refl _ _) hz)
  clear hz hg hl hy
  go_loopw [4, 5] (fun p k wr => ∃ (j m v : Nat), j ≤ 12 ∧ k = .int .i64 (12 - (j : Int)) ∧ p = .float .f64 v ∧ Hid (Rp .f64 (xP (cvt .f32 x .f64) j) v) ∧ wr = w.drewN m) (fun _ k _ => (intOf k).toNat)
  case atStart => exact ⟨0, _, _, by omega, rfl, rfl, Lib.hid rfl, rfl⟩
  case round =>
    obtain ⟨j, m, p, hj, rfl, rfl, HP, rfl⟩ := hrel
    by_cases hlt : j < 12
    · go_wp2_with (refine wpList_fl rfl _ _ _ _ _ rfl .f64 _ _ rfl rfl (by decide) ?_; intro z n hz)
      exact ⟨⟨j + 1, _, z, by omega, int_congr (by omega), rfl, Lib.hid (xP_next HT.out HP.out (by assumption) (by assumption) (by assumption)), rfl⟩, by simp [intOf]; omega⟩
    · obtain rfl : j = 12 := by omega
      rw [show (12 : Int) - ((12 : Nat) : Int) = 0 from rfl]
      go_wp2_with fail
      have HS0 := Lib.hid (show Rp .f64 (xS (cvt .f32 x .f64) 0) p from HP.out)
      clear HP hlt hj
      go_loopw [4, 26] (fun p k wr => ∃ (j m v : Nat), j ≤ 8 ∧ k = .int .i64 (j : Int) ∧ p = .float .f64 v ∧ Hid (Rp .f64 (xS (cvt .f32 x .f64) j) v) ∧ wr = w.drewN m) (fun _ k _ => (8 - intOf k).toNat)
      case atStart => exact ⟨0, _, _, by omega, rfl, rfl, HS0, rfl⟩
      case round =>
        obtain ⟨j, m, p, hj, rfl, rfl, HP, rfl⟩ := hrel
        by_cases hlt : j < 8
        · go_wp2_with (refine wpList_fl rfl _ _ _ _ _ rfl .f64 _ _ rfl rfl (by decide) ?_; intro z n hz)
          exact ⟨⟨j + 1, _, z, by omega, by go_num, rfl, Lib.hid (xS_next HP.out (by assumption)), rfl⟩, by simp [intOf]; omega⟩
        · obtain rfl : j = 8 := by omega
          have hp := HP.out
          clear HP hlt hj HS0 HT
          go_wp2_with (first | (go_at_call 116; go_in) | go_back | (refine wpList_cvt rfl _ _ _ rfl .f64 .f32 _ rfl (by kernel_rfl) Try.underlying22 (Hn.out _ (by assumption)) ?_; intro zz qq hzz))
          go_ret
          exact ⟨_, rfl, Is32.cvtF (Rp.cvtF (by decide) (by assumption) (by assumption)), _, rfl⟩

set_option maxHeartbeats 2000000 in
theorem l01ExpWide_main (r : Nat) (hs : FloatKind.f64.format.order r r = some .eq) (hg : (FloatKind.f64.format.order r 4641240890982006784 == some .gt) = false) (hl : (FloatKind.f64.format.order r 13864612927836782592 == some .lt) = false) (w : World) :
    Calls Try.prog 147 #[.float .f64 r] w (RetF .f64 (xS (some r) 8) w) := by
  go_enter Try.func147, Try.ntmps147
  go_wp2_with (refine wpList_fl rfl _ _ _ _ _ rfl .f64 _ _ rfl rfl (by decide) ?_; intro z n hz)
  have HT := Lib.hid (show Rp .f64 (xT (some r)) z from Rp.fop (Rp.refl _ _) (Rp.refl _ _) hz)
  clear hz hg hl hs
  go_loopw [4, 5] (fun p k wr => ∃ (j m v : Nat), j ≤ 12 ∧ k = .int .i64 (12 - (j : Int)) ∧ p = .float .f64 v ∧ Hid (Rp .f64 (xP (some r) j) v) ∧ wr = w.drewN m) (fun _ k _ => (intOf k).toNat)
  case atStart => exact ⟨0, _, _, by omega, rfl, rfl, Lib.hid rfl, rfl⟩
  case round =>
    obtain ⟨j, m, p, hj, rfl, rfl, HP, rfl⟩ := hrel
    by_cases hlt : j < 12
    · go_wp2_with (refine wpList_fl rfl _ _ _ _ _ rfl .f64 _ _ rfl rfl (by decide) ?_; intro z n hz)
      exact ⟨⟨j + 1, _, z, by omega, int_congr (by omega), rfl, Lib.hid (xP_next HT.out HP.out (by assumption) (by assumption) (by assumption)), rfl⟩, by simp [intOf]; omega⟩
    · obtain rfl : j = 12 := by omega
      rw [show (12 : Int) - ((12 : Nat) : Int) = 0 from rfl]
      go_wp2_with fail
      have HS0 := Lib.hid (show Rp .f64 (xS (some r) 0) p from HP.out)
      clear HP hlt hj
      go_loopw [4, 6] (fun p k wr => ∃ (j m v : Nat), j ≤ 8 ∧ k = .int .i64 (j : Int) ∧ p = .float .f64 v ∧ Hid (Rp .f64 (xS (some r) j) v) ∧ wr = w.drewN m) (fun _ k _ => (8 - intOf k).toNat)
      case atStart => exact ⟨0, _, _, by omega, rfl, rfl, HS0, rfl⟩
      case round =>
        obtain ⟨j, m, p, hj, rfl, rfl, HP, rfl⟩ := hrel
        by_cases hlt : j < 8
        · go_wp2_with (refine wpList_fl rfl _ _ _ _ _ rfl .f64 _ _ rfl rfl (by decide) ?_; intro z n hz)
          exact ⟨⟨j + 1, _, z, by omega, by go_num, rfl, Lib.hid (xS_next HP.out (by assumption)), rfl⟩, by simp [intOf]; omega⟩
        · obtain rfl : j = 8 := by omega
          have hp := HP.out
          clear HP hlt hj HS0 HT
          go_wp2_with fail
          go_ret
          exact ⟨_, _, rfl, rfl, hp⟩

set_option maxHeartbeats 1000000 in
theorem l01ExpWide_nan (r : Nat) (hr : Rp .f64 none r) (w : World) : Calls Try.prog 147 #[.float .f64 r] w (RetF .f64 none w) := by
  have o1 := order_nan_left (y := r) hr.1
  have Hr := Lib.hid hr
  clear hr
  go_enter Try.func147, Try.ntmps147
  go_wp2_with fail
  go_ret
  exact ⟨_, 0, rfl, rfl, Hr.out⟩

set_option maxHeartbeats 1000000 in
theorem l01ExpWide_low (r : Nat) (hs : FloatKind.f64.format.order r r = some .eq) (hg : (FloatKind.f64.format.order r 4641240890982006784 == some .gt) = false) (hl : (FloatKind.f64.format.order r 13864612927836782592 == some .lt) = true) (w : World) :
    Calls Try.prog 147 #[.float .f64 r] w (RetF .f64 (some 0) w) := by
  go_enter Try.func147, Try.ntmps147
  go_wp2_with fail
  go_ret
  exact ⟨_, 0, rfl, rfl, rfl⟩

set_option maxHeartbeats 1000000 in
theorem l01ExpWide_inf (w : World) :
    Calls Try.prog 147 #[.float .f64 9218868437227405312] w (RetF .f64 (some 9218868437227405312) w) := by
  have hb := fb64_run
  have hs : FloatKind.f64.format.order 9218868437227405312 9218868437227405312 = some .eq := by decide +kernel
  have hg : (FloatKind.f64.format.order 9218868437227405312 4641240890982006784 == some .gt) = true := by decide +kernel
  go_enter Try.func147, Try.ntmps147
  go_wp2_with (first | (go_at_call 117; go_in) | go_back)
  go_ret
  exact ⟨_, 0, rfl, rfl, rfl⟩

set_option maxHeartbeats 1000000 in
theorem l01Exp_of (x : Nat) (O : Option Nat) (hw : ∀ y W, Rp .f64 (cvt .f32 x .f64) y → Calls Try.prog 147 #[.float .f64 y] W (RetF .f64 O W)) (hn : ∀ p, Rp .f64 O p → tooGreat .f64 p .f32 = false) (w : World) :
    Calls Try.prog 113 #[.float .f32 x] w (NumQ (cvtF .f64 .f32 O) w) := by
  have Hn := Lib.hid hn
  have Hw := Lib.hid hw
  clear hn hw
  go_enter Try.func113, Try.ntmps113
  go_wp2_with (first | (refine wpList_cvt rfl _ _ _ rfl .f32 .f64 x rfl (by kernel_rfl) Try.underlying69 (widen_ok _) ?_; intro y q hy))
  refine (Hw.out _ _ hy).mono ?_
  rintro e w' ⟨v1, n1, rfl, rfl, hv1⟩
  clear hy Hw
  go_wp2_with (first | (go_at_call 146; go_in) | go_back | (refine wpList_cvt rfl _ _ _ rfl .f64 .f32 _ rfl (by kernel_rfl) Try.underlying22 (Hn.out _ (by assumption)) ?_; intro zz qq hzz))
  go_ret
  exact ⟨_, rfl, Is32.cvtF (Rp.cvtF (by decide) (by assumption) (by assumption)), _, rfl⟩

set_option maxHeartbeats 1000000 in
theorem exp_low (x : Nat) (hg : (FloatKind.f32.format.order x 1128792064 == some .gt) = false) (hl : (FloatKind.f32.format.order x 3276275712 == some .lt) = true) (w : World) :
    Calls Try.prog 77 #[.float .f32 x] w (NumQ (some 0) w) := by
  go_enter Try.func77, Try.ntmps77
  go_wp2_with fail
  go_ret
  exact ⟨_, rfl, Is32.c (by decide), 0, rfl⟩

set_option maxHeartbeats 1000000 in
theorem exp_inf (w : World) :
    Calls Try.prog 77 #[.float .f32 2139095040] w (NumQ (some 2139095040) w) := by
  have hb := fb64_run
  have hg : (FloatKind.f32.format.order 2139095040 1128792064 == some .gt) = true := by decide +kernel
  have hcv : cvt .f64 9218868437227405312 .f32 = some 2139095040 := by decide +kernel
  have hrun := run_cvt_some (P := Try.prog) (by decide) hcv (by decide +kernel) 69 22 (by kernel_rfl) Try.underlying22
  clear hcv
  go_enter Try.func77, Try.ntmps77
  go_wp2_with (first | (go_at_call 117; go_in) | (go_at_call 116; go_in) | go_back | (refine wpList_cvt_eq rfl _ _ _ rfl rfl hrun ?_))
  go_ret
  exact ⟨_, rfl, Is32.c (by decide), 0, rfl⟩

/-- The exponential function of a number that may be no number. -/
def expO (X : Option Nat) : Option Nat := X.bind fun x =>
  if (x / 2147483648 % 2 == 1) = true ∧ 1128792064 < rg x ∧ rg x ≤ 2139095040 then some 0 else if x = 2139095040 then some 2139095040 else cvtF .f64 .f32 (xS (cvt .f32 x .f64) 8)
/-- Not too great. -/
def ExpR (X : Option Nat) : Prop := ∀ x, X = some x → x < 2139095040 → x ≤ 1116864512

theorem f32_facts {x : Nat} (hx : x < 4294967296) (h : Rng x) : (FloatKind.f32.format.order x 1128792064 == some .gt) = false ∧ (FloatKind.f32.format.order x 3276275712 == some .lt) = false := by
  obtain ⟨hf, h1⟩ := h
  rcases h1 with ⟨h1, h2⟩ | ⟨h1, h2⟩
  · rw [order_mix (y := 1128792064) hf (by decide) h1 (by decide) (by decide), order_neg (y := 3276275712) hf (by decide) h1 (by decide)]
    exact ⟨rfl, decide_eq_false (by show ¬ 1128792064 < rg x; omega)⟩
  · have hn : NN x := by
      rw [beq_eq_false_iff_ne] at h1
      unfold rg at hf
      exact .inl (by omega)
    rw [nn_gt hn (.inl (by decide)), order_mix2 (y := 3276275712) hn (by decide) (by decide) (by decide)]
    exact ⟨decide_eq_false (by show ¬ 1128792064 < rg x; omega), rfl⟩
theorem f64_facts {x : Nat} (h : Rng x) {r : Nat} (hr : cvt .f32 x .f64 = some r) :
    FloatKind.f64.format.order r r = some .eq ∧ (FloatKind.f64.format.order r 4641240890982006784 == some .gt) = false ∧ (FloatKind.f64.format.order r 13864612927836782592 == some .lt) = false := by
  obtain ⟨hf, h1⟩ := h
  obtain ⟨hw, hmg⟩ := widr_fin hf
  rw [widen_word hf] at hr
  simp only [Option.some.injEq] at hr
  obtain ⟨v1, v2, _⟩ := D64.word_rg (x / 2147483648 % 2 == 1) (widr x) (Nat.le_of_lt hw)
  rw [hr] at v1 v2
  have hle : ∀ c, rg x ≤ rg c → rg c < 2139095040 → widr x ≤ widr c := fun c a b => widr_mono a b
  have h200 : widr 1128792064 = 4641240890982006784 := by decide +kernel
  have h73 : widr 1116864512 ≤ 4641240890982006784 := by decide +kernel
  have hself : FloatKind.f64.format.order r r = some .eq := by
    rw [order_self_64, if_neg (by unfold D64.rg at v1; omega)]
  refine ⟨hself, ?_⟩
  rcases h1 with ⟨h1, h2⟩ | ⟨h1, h2⟩
  · rw [h1] at v2
    have h3 := hle 1128792064 h2 (by decide)
    rw [D64.order_mix (y := 4641240890982006784) (by rw [v1]; exact hw) (by decide) v2 (by decide) (by decide), D64.order_neg (y := 13864612927836782592) (by rw [v1]; exact hw) (by decide) v2 (by decide), v1]
    exact ⟨rfl, decide_eq_false (by show ¬ 4641240890982006784 < widr x; omega)⟩
  · have h3 := hle 1116864512 h2 (by decide)
    rw [h1] at v2
    have hn : D64.NN r := by
      have hb : r < 18446744073709551616 := by rw [← hr]; exact (D64.word_rg _ _ (Nat.le_of_lt hw)).2.2
      rw [beq_eq_false_iff_ne] at v2
      unfold D64.rg at v1
      exact .inl (by omega)
    rw [D64.nn_gt hn (.inl (by decide)), D64.order_mix2 (y := 13864612927836782592) hn (by decide) (by decide) (by decide), v1]
    exact ⟨decide_eq_false (by show ¬ 4641240890982006784 < widr x; omega), rfl⟩
theorem of_scaled {a b c : Nat} (h : a * 2 ^ c ≤ b * 2 ^ c) : a ≤ b := Nat.le_of_mul_le_mul_right h (Nat.two_pow_pos c)
theorem widr_strict {x y : Nat} (h : rg x < rg y) (hy : rg y < 2139095040) : widr x < widr y := by
  rcases Nat.lt_or_ge (widr x) (widr y) with h1 | h1
  · exact h1
  · exfalso
    have a := D64.mag_mono h1 (widr_fin (x := x) (by omega)).1
    rw [(widr_fin hy).2, (widr_fin (x := x) (by omega)).2] at a
    have b := mag_strict h hy
    have c := of_scaled (c := 925) a
    omega
theorem f32_low {x : Nat} (hx : x < 4294967296) (h1 : (x / 2147483648 % 2 == 1) = true) (h2 : 1128792064 < rg x) (h3 : rg x ≤ 2139095040) : (FloatKind.f32.format.order x 1128792064 == some .gt) = false ∧ (FloatKind.f32.format.order x 3276275712 == some .lt) = true := by
  by_cases hf : rg x < 2139095040
  · rw [order_mix (y := 1128792064) hf (by decide) h1 (by decide) (by decide), order_neg (y := 3276275712) hf (by decide) h1 (by decide)]
    exact ⟨rfl, decide_eq_true h2⟩
  · have : x = 4286578688 := by rw [beq_iff_eq] at h1; unfold rg at *; omega
    subst this
    decide +kernel
theorem f64_low {x : Nat} (hx : x < 4294967296) (h1 : (x / 2147483648 % 2 == 1) = true) (h2 : 1128792064 < rg x) (h3 : rg x ≤ 2139095040) {r : Nat} (hr : cvt .f32 x .f64 = some r) :
    FloatKind.f64.format.order r r = some .eq ∧ (FloatKind.f64.format.order r 4641240890982006784 == some .gt) = false ∧ (FloatKind.f64.format.order r 13864612927836782592 == some .lt) = true := by
  by_cases hf : rg x < 2139095040
  · obtain ⟨hw, hmg⟩ := widr_fin hf
    rw [widen_word hf] at hr
    simp only [Option.some.injEq] at hr
    obtain ⟨v1, v2, _⟩ := D64.word_rg (x / 2147483648 % 2 == 1) (widr x) (Nat.le_of_lt hw)
    rw [hr] at v1 v2
    rw [h1] at v2
    have h200 : widr 1128792064 = 4641240890982006784 := by decide +kernel
    have hlt : 4641240890982006784 < widr x := by
      rw [← h200]
      exact widr_strict (x := 1128792064) h2 hf
    have hself : FloatKind.f64.format.order r r = some .eq := by
      rw [order_self_64, if_neg (by unfold D64.rg at v1; omega)]
    refine ⟨hself, ?_⟩
    rw [D64.order_mix (y := 4641240890982006784) (by rw [v1]; exact hw) (by decide) v2 (by decide) (by decide), D64.order_neg (y := 13864612927836782592) (by rw [v1]; exact hw) (by decide) v2 (by decide), v1]
    exact ⟨rfl, decide_eq_true (by show 4641240890982006784 < widr x; exact hlt)⟩
  · have : x = 4286578688 := by rw [beq_iff_eq] at h1; unfold rg at *; omega
    subst this
    have : cvt .f32 4286578688 .f64 = some 18442240474082181120 := by decide +kernel
    rw [this] at hr
    obtain rfl : 18442240474082181120 = r := by simpa using hr
    decide +kernel
theorem xS_none : xS none 8 = none := rfl

theorem expNumber_o {X : Option Nat} {x : Nat} (w : World) (hx : Is32 X x) (hr : ExpR X) : Calls Try.prog 77 #[.float .f32 x] w (NumQ (expO X) w) := by
  have hnan : (FloatKind.f32.decode x).isNaN = true → Calls Try.prog 77 #[.float .f32 x] w (NumQ none w) := by
    intro hn
    have hc := widen_nan hn
    have hnone : Rp .f32 none x := ⟨hn, hx.2⟩
    have hh := exp_gen x (by rw [order_nan_left hn]; rfl) (by rw [order_nan_left hn]; rfl) (fun p hp => by rw [hc, xS_none] at hp; exact nan_narrow hp) w
    rw [hc, xS_none] at hh
    exact hh
  cases X with
  | none => exact hnan hx.1.1
  | some b =>
    obtain rfl := hx.eq
    have hxx := hx.2
    unfold expO
    simp only [Option.bind_some]
    split
    · rename_i h
      obtain ⟨a, b⟩ := f32_low hxx h.1 h.2.1 h.2.2
      exact exp_low x a b w
    · rename_i h
      split
      · rename_i h2
        subst h2
        exact exp_inf w
      · rename_i h2
        by_cases hn : (FloatKind.f32.decode x).isNaN = true
        · have := hnan hn
          rw [widen_nan hn, xS_none]
          exact this
        · have hfin : rg x < 2139095040 := by
            rw [nan32_iff, decide_eq_true_eq] at hn
            unfold rg at *
            rw [beq_iff_eq] at h
            omega
          have hR : Rng x := by
            refine ⟨hfin, ?_⟩
            cases hs : (x / 2147483648 % 2 == 1) with
            | true => exact .inl ⟨rfl, by rcases Nat.lt_or_ge 1128792064 (rg x) with a | a; exact absurd ⟨hs, a, by omega⟩ h; exact a⟩
            | false =>
              refine .inr ⟨rfl, ?_⟩
              have := hr x rfl
              rw [beq_eq_false_iff_ne] at hs
              unfold rg at *
              omega
          obtain ⟨a, b⟩ := f32_facts hxx hR
          exact exp_gen x a b (fun p hp => exp_ok hR hp) w

theorem l01Exp_o {X : Option Nat} {x : Nat} (w : World) (hx : Is32 X x) (hr : ExpR X) : Calls Try.prog 113 #[.float .f32 x] w (NumQ (expO X) w) := by
  have hnan : (FloatKind.f32.decode x).isNaN = true → Calls Try.prog 113 #[.float .f32 x] w (NumQ none w) := by
    intro hn
    have hc := widen_nan hn
    have hh := l01Exp_of x none (fun y W hy => l01ExpWide_nan y (by rw [hc] at hy; exact hy) W) (fun p hp => nan_narrow hp) w
    exact hh
  cases X with
  | none => exact hnan hx.1.1
  | some b =>
    obtain rfl := hx.eq
    have hxx := hx.2
    unfold expO
    simp only [Option.bind_some]
    split
    · rename_i h
      have hsome : ∃ r, cvt .f32 x .f64 = some r := by
        by_cases hf : rg x < 2139095040
        · exact ⟨_, widen_word hf⟩
        · have : x = 4286578688 := by have h1 := h.1; have h3 := h.2.2; rw [beq_iff_eq] at h1; unfold rg at *; omega
          subst this
          exact ⟨18442240474082181120, by decide +kernel⟩
      obtain ⟨r, hc⟩ := hsome
      obtain ⟨a, b, c⟩ := f64_low hxx h.1 h.2.1 h.2.2 hc
      have hh := l01Exp_of x (some 0) (fun y W hy => by rw [hc] at hy; obtain rfl : y = r := hy; exact l01ExpWide_low y a b c W) (fun p hp => by obtain rfl : p = 0 := hp; decide +kernel) w
      have he : cvtF .f64 .f32 (some 0) = some 0 := by decide +kernel
      rw [he] at hh
      exact hh
    · rename_i h
      split
      · rename_i h2
        subst h2
        have hc : cvt .f32 2139095040 .f64 = some 9218868437227405312 := by decide +kernel
        have hh := l01Exp_of 2139095040 (some 9218868437227405312) (fun y W hy => by rw [hc] at hy; obtain rfl : y = 9218868437227405312 := hy; exact l01ExpWide_inf W) (fun p hp => by obtain rfl : p = 9218868437227405312 := hp; decide +kernel) w
        have he : cvtF .f64 .f32 (some 9218868437227405312) = some 2139095040 := by decide +kernel
        rw [he] at hh
        exact hh
      · rename_i h2
        by_cases hn : (FloatKind.f32.decode x).isNaN = true
        · have := hnan hn
          rw [widen_nan hn, xS_none]
          exact this
        · have hfin : rg x < 2139095040 := by
            rw [nan32_iff, decide_eq_true_eq] at hn
            unfold rg at *
            rw [beq_iff_eq] at h
            omega
          have hR : Rng x := by
            refine ⟨hfin, ?_⟩
            cases hs : (x / 2147483648 % 2 == 1) with
            | true => exact .inl ⟨rfl, by rcases Nat.lt_or_ge 1128792064 (rg x) with a | a; exact absurd ⟨hs, a, by omega⟩ h; exact a⟩
            | false =>
              refine .inr ⟨rfl, ?_⟩
              have := hr x rfl
              rw [beq_eq_false_iff_ne] at hs
              unfold rg at *
              omega
          have hc := widen_word hfin
          obtain ⟨a, b, c⟩ := f64_facts hR hc
          rw [hc]
          refine l01Exp_of x _ (fun y W hy => ?_) (fun p hp => exp_ok hR (by rw [hc]; exact hp)) w
          rw [hc] at hy
          obtain rfl : y = _ := hy
          exact l01ExpWide_main _ a b c W

theorem expO_ne (X : Option Nat) : ∃ z, Is32 (expO X) z := Is32.ne _ fun b hb => by
  cases X with
  | none => cases hb
  | some x =>
    unfold expO at hb
    simp only [Option.bind_some] at hb
    split at hb
    · simp only [Option.some.injEq] at hb; omega
    · split at hb
      · simp only [Option.some.injEq] at hb; omega
      · exact cvtF32_lt hb
end Go.Proofs.Ytfdcfalkidcdnab
