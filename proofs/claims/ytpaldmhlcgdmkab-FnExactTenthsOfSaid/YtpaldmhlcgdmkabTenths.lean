/- The walk of the law on TenthsOf. -/
import Derived.Test.YtpaldmhlcgdmkabWid
import Derived.Test.YtpaldmhlcgdmkabPart
import Derived.Test.YtpaldmhlcgdmkabFinite
namespace Go.Proofs.Ytpaldmhlcgdmkab
open Go.RowKit

theorem floor_ext (x : Nat) (w : World) : (callFunc 37 #[.float .f64 x]).run Try.prog w = ((Extern.MathFloor.toIntegral "math.archFloor" .down #[.float .f64 x]).run Try.prog w).andThen fun v w' => .ok (.value v) w' :=
  run_callFunc_extern Try.func37 (by kernel_rfl) (by kernel_rfl) (by kernel_rfl) (show Extern.find Try.f37 = some (Extern.MathFloor.toIntegral "math.archFloor" .down) by kernel_rfl) _ _

theorem floor_num {x : Nat} {s : Bool} {m : Nat} {i : Int} (hd : FloatKind.f64.decode x = .number s m i) : Extern.MathFloor.toIntegral "math.archFloor" .down #[.float .f64 x] = pure (.float .f64 (floorV x)) := by
  unfold floorV
  show Extern.MathFloor.toIntegral.match_1 (fun _ => Sem Value) (FloatKind.f64.decode x) _ _ = _
  rw [hd]

theorem floor_run {x E : Nat} (h : Sm E x) (hE : E ≤ 2045) (w : World) : (callFunc 37 #[.float .f64 x]).run Try.prog w = .ok (.value (.float .f64 (floorV x))) w := by
  obtain ⟨s, m, i, hd⟩ := sm_number h hE
  rw [floor_ext, floor_num hd]
  rfl

set_option maxHeartbeats 400000 in
theorem mathFloor_any (z x E : Nat) (hz : z = x) (h : Sm E x) (hE : E ≤ 2045) (w : World) : Calls Try.prog 26 #[.float .f64 z] w fun e w' => e = .returned (.float .f64 (floorV x)) ∧ w = w' := by
  have hs := floor_run h hE
  subst hz
  clear h hE
  go_enter Try.func26, Try.ntmps26
  go_wp2_with fail
  go_ret
  exact ⟨rfl, rfl⟩

def tenC : Nat := 4631308968768463603
def halfW : Nat := 4602678819172646912
/-- The tenths, ahead of the cut. -/
def tenO (r : Nat) : Option Nat := fop .add .f64 (fop .mul .f64 (logV (xOf r) (eOf r)) (some tenC)) (some halfW)
def tenB (r : Nat) : Nat := (tenO r).getD 0
def tenI (r : Nat) : Int := floorI (tenB r)

theorem tenO_some (r : Nat) (h : r < 9218868437227405312) : tenO r = some (tenB r) ∧ Sm 1041 (tenB r) := by
  have hs : SmO 1041 (tenO r) := ((logV_sm (xOf_range r).1 (xOf_range r).2 (eOf r) (eOf_range r h)).mul (F := 1028) (G := 1040) (sm_const (by decide)) (by decide) (by decide) (by decide) (by decide) (by decide)).add (F := 1022) (sm_const (by decide)) (by decide) (by decide) (by decide) (by decide) (by decide)
  obtain ⟨b, hb, hm⟩ := hs
  have : tenB r = b := by unfold tenB; rw [hb]; rfl
  rw [this]; exact ⟨hb, hm⟩

theorem ten_key (r : Nat) (h : r < 9218868437227405312) (l t z : Nat) (hl : Rp .f64 (logV (xOf r) (eOf r)) l) (ht : Rp .f64 (floatBits .mul .f64 l tenC) t) (hz : Rp .f64 (floatBits .add .f64 t halfW) z) : z = tenB r := by
  have : Rp .f64 (tenO r) z := Rp.fop (Rp.fop hl (Rp.refl _ _) ht) (Rp.refl _ _) hz
  rw [(tenO_some r h).1] at this
  exact this

theorem ten_int (r : Nat) (h : r < 9218868437227405312) (S D : TypeId) (hs : (Try.prog.underlying S).isSome = true) (hd : Try.prog.underlying D = some (.int .i64)) : ∀ W : World, (convert S D (.float .f64 (floorV (tenB r)))).run Try.prog W = .ok (.int .i64 (tenI r)) W := by
  intro W
  exact run_convert_float_int W S D .f64 .i64 _ _ hs hd (floor_int (tenO_some r h).2 (by decide))

theorem order32_zero {x : Nat} (hx : x < 4294967296) (h : x % 2147483648 < 2139095040) : FloatKind.f32.format.order x 0 = some (if x % 2147483648 = 0 then .eq else if 2147483648 ≤ x then .lt else .gt) := by
  by_cases h0 : x % 2147483648 = 0
  · rw [if_pos h0]
    have : x = 0 ∨ x = 2147483648 := by omega
    rcases this with rfl | rfl
    · decide +kernel
    · decide +kernel
  · rw [if_neg h0]
    obtain ⟨m, e, hd, h1, h2, h3, h4⟩ := decode_pos32 (x := x) (by omega) h
    have hz : FloatKind.f32.format.order x 0 = (FloatKind.f32.decode x).order (.number false 0 (-149)) := rfl
    have hp := Nat.two_pow_pos (e - min e (-149)).toNat
    rw [hz, hd]
    simp only [Ieee.Datum.order, Ieee.signed, Bool.false_eq_true, if_false, Nat.shiftLeft_eq, Nat.zero_mul, Option.some.injEq]
    show compareOfLessAndEq _ _ = _
    unfold compareOfLessAndEq
    generalize 2 ^ (e - min e (-149)).toNat = t at *
    have : 0 < m * t := Nat.mul_pos (by omega) hp
    by_cases hs : 2147483648 ≤ x
    · rw [if_pos hs, show (x / 2147483648 % 2 == 1) = true by rw [show x / 2147483648 = 1 by omega]; rfl, if_pos rfl, if_pos (by omega)]
    · rw [if_neg hs, show (x / 2147483648 % 2 == 1) = false by rw [show x / 2147483648 = 0 by omega]; rfl, if_neg Bool.false_ne_true, if_neg (by omega), if_neg (by omega)]

theorem finT_any (x : Nat) (h : fin32 x = true) (w : World) :
    Calls Try.prog 22 #[.float .f32 x] w fun e w' => e = .returned (.bool true) ∧ ∃ n, w' = w.drewN n := (l01Finite_any x w).mono fun e w' ⟨h1, h2⟩ => ⟨by rw [h1, h], h2⟩
theorem finF_any (x : Nat) (h : fin32 x = false) (w : World) :
    Calls Try.prog 22 #[.float .f32 x] w fun e w' => e = .returned (.bool false) ∧ ∃ n, w' = w.drewN n := (l01Finite_any x w).mono fun e w' ⟨h1, h2⟩ => ⟨by rw [h1, h], h2⟩
theorem ifinT_any (x : Nat) (hx : x < 4294967296) (h : fin32 x = true) (w : World) :
    Calls Try.prog 24 #[.float .f32 x] w fun e w' => e = .returned (.bool true) ∧ w = w' := (isFinite_any x hx w).mono fun e w' ⟨h1, h2⟩ => ⟨by rw [h1, h], h2⟩
theorem ifinF_any (x : Nat) (hx : x < 4294967296) (h : fin32 x = false) (w : World) :
    Calls Try.prog 24 #[.float .f32 x] w fun e w' => e = .returned (.bool false) ∧ w = w' := (isFinite_any x hx w).mono fun e w' ⟨h1, h2⟩ => ⟨by rw [h1, h], h2⟩

set_option maxHeartbeats 1000000 in
theorem l01Tenths_any (x r : Nat) (hc : cvt .f32 x .f64 = some r) (hr1 : 4503599627370496 ≤ r) (hr2 : r < 9218868437227405312) (w : World) :
    Calls Try.prog 23 #[.float .f32 x] w fun e w' => e = .returned (.int .i64 (tenI r)) ∧ ∃ n, w' = w.drewN n := by
  have hrun := run_cvt_some (P := Try.prog) (by decide) hc (widen_ok x) 28 22 (by kernel_rfl) Try.underlying22
  have hint := ten_int r hr2 22 2 (by kernel_rfl) Try.underlying2
  have Key := Lib.hid (ten_key r hr2)
  have Hs := Lib.hid (tenO_some r hr2).2
  have Hr1 := Lib.hid hr1
  have Hr2 := Lib.hid hr2
  clear hc hr1 hr2
  go_enter Try.func23, Try.ntmps23
  go_wp2_with fail
  refine (l01LogWide_any r Hr1.out Hr2.out _).mono ?_
  rintro e w' ⟨v1, n1, rfl, rfl, hv1⟩
  have Hv1 := Lib.hid hv1; clear hv1
  go_wp2_with (first | (refine wpList_fl rfl _ _ _ _ _ rfl .f64 _ _ rfl rfl (by decide) ?_; intro z n hz) | (go_at_call 26; refine (mathFloor_any _ _ _ (Key.out _ _ _ Hv1.out (by assumption) (by assumption)) Hs.out (by decide) _).mono ?_; rintro e w' ⟨rfl, rfl⟩))
  go_ret
  exact ⟨rfl, _, rfl⟩

set_option maxHeartbeats 1000000 in
theorem specTenths_pos (x r : Nat) (hf : fin32 x = true) (ho : FloatKind.f32.format.order x 0 = some .gt) (hc : cvt .f32 x .f64 = some r) (hr1 : 4503599627370496 ≤ r) (hr2 : r < 9218868437227405312) (w : World) :
    Calls Try.prog 9 #[.float .f32 x] w fun e w' => e = .returned (.tuple #[.int .i64 (tenI r), .bool true]) ∧ ∃ n, w' = w.drewN n := by
  have Hf := Lib.hid hf
  have Hc := Lib.hid hc
  have Hr1 := Lib.hid hr1
  have Hr2 := Lib.hid hr2
  clear hf hc hr1 hr2
  go_enter Try.func9, Try.ntmps9
  go_wp2_with (first | (go_at_call 22; refine (finT_any x Hf.out _).mono ?_; rintro e w' ⟨rfl, n, rfl⟩) | (go_at_call 23; refine (l01Tenths_any x r Hc.out Hr1.out Hr2.out _).mono ?_; rintro e w' ⟨rfl, n2, rfl⟩))
  go_ret2
  exact ⟨rfl, _, rfl⟩

set_option maxHeartbeats 1000000 in
theorem implTenths_pos (x r : Nat) (hx : x < 4294967296) (hf : fin32 x = true) (ho : FloatKind.f32.format.order x 0 = some .gt) (hc : cvt .f32 x .f64 = some r) (hr1 : 4503599627370496 ≤ r) (hr2 : r < 9218868437227405312) (w : World) :
    Calls Try.prog 10 #[.float .f32 x] w fun e w' => e = .returned (.tuple #[.int .i64 (tenI r), .bool true]) ∧ ∃ n, w' = w.drewN n := by
  have hrun := run_cvt_some (P := Try.prog) (by decide) hc (widen_ok x) 28 22 (by kernel_rfl) Try.underlying22
  have hint := ten_int r hr2 22 2 (by kernel_rfl) Try.underlying2
  have Key := Lib.hid (ten_key r hr2)
  have Hs := Lib.hid (tenO_some r hr2).2
  have Hf := Lib.hid hf
  have Hx := Lib.hid hx
  have Hr1 := Lib.hid hr1
  have Hr2 := Lib.hid hr2
  clear hf hc hr1 hr2 hx
  go_enter Try.func10, Try.ntmps10
  go_wp2_with (go_at_call 24; refine (ifinT_any x Hx.out Hf.out _).mono ?_; rintro e w' ⟨rfl, rfl⟩)
  refine (wideLog_any r Hr1.out Hr2.out _).mono ?_
  rintro e w' ⟨v1, n1, rfl, rfl, hv1⟩
  have Hv1 := Lib.hid hv1; clear hv1
  go_wp2_with (first | (refine wpList_fl rfl _ _ _ _ _ rfl .f64 _ _ rfl rfl (by decide) ?_; intro z n hz) | (go_at_call 26; refine (mathFloor_any _ _ _ (Key.out _ _ _ Hv1.out (by assumption) (by assumption)) Hs.out (by decide) _).mono ?_; rintro e w' ⟨rfl, rfl⟩))
  go_ret2
  exact ⟨rfl, _, rfl⟩

set_option maxHeartbeats 1000000 in
theorem tenLaw_pos (x r : Nat) (hx : x < 4294967296) (hf : fin32 x = true) (ho : FloatKind.f32.format.order x 0 = some .gt) (hc : cvt .f32 x .f64 = some r) (hr1 : 4503599627370496 ≤ r) (hr2 : r < 9218868437227405312) (w : World) :
    Calls Try.prog 4 #[.float .f32 x] w fun e w' => e = .returned (.bool true) ∧ Grown w w' := by
  have H1 := Lib.hid (specTenths_pos x r hf ho hc hr1 hr2)
  have H2 := Lib.hid (implTenths_pos x r hx hf ho hc hr1 hr2)
  clear hx hf ho hc hr1 hr2
  go_enter Try.func4, Try.ntmps4
  go_wp2_with (first | (go_at_call 9; refine (H1.out _).mono ?_; rintro e w' ⟨rfl, n, rfl⟩) | (go_at_call 10; refine (H2.out _).mono ?_; rintro e w' ⟨rfl, n, rfl⟩))
  go_ret
  exact ⟨rfl, Grown.refl _⟩

set_option maxHeartbeats 1000000 in
theorem tenLaw_inf (x : Nat) (hx : x < 4294967296) (hf : fin32 x = false) (w : World) :
    Calls Try.prog 4 #[.float .f32 x] w fun e w' => e = .returned (.bool true) ∧ Grown w w' := by
  have H1 := Lib.hid (finF_any x hf)
  have H2 := Lib.hid (ifinF_any x hx hf)
  clear hx hf
  go_enter Try.func4, Try.ntmps4
  go_wp2_with (first | (go_at_call 9; go_in) | (go_at_call 10; go_in) | go_back | (go_at_call 22; refine (H1.out _).mono ?_; rintro e w' ⟨rfl, n, rfl⟩) | (go_at_call 24; refine (H2.out _).mono ?_; rintro e w' ⟨rfl, rfl⟩))
  go_ret
  exact ⟨rfl, Grown.refl _⟩

set_option maxHeartbeats 1000000 in
theorem tenLaw_low (x : Nat) (hx : x < 4294967296) (hf : fin32 x = true) (ho : FloatKind.f32.format.order x 0 = some .lt ∨ FloatKind.f32.format.order x 0 = some .eq) (w : World) :
    Calls Try.prog 4 #[.float .f32 x] w fun e w' => e = .returned (.bool true) ∧ Grown w w' := by
  have H1 := Lib.hid (finT_any x hf)
  have H2 := Lib.hid (ifinT_any x hx hf)
  clear hx hf
  rcases ho with ho | ho
  all_goals
    go_enter Try.func4, Try.ntmps4
    go_wp2_with (first | (go_at_call 9; go_in) | (go_at_call 10; go_in) | go_back | (go_at_call 22; refine (H1.out _).mono ?_; rintro e w' ⟨rfl, n, rfl⟩) | (go_at_call 24; refine (H2.out _).mono ?_; rintro e w' ⟨rfl, rfl⟩))
    go_ret
    exact ⟨rfl, Grown.refl _⟩

theorem walk_FnExactTenthsOf (x : Nat) (hx : x < 4294967296) (w : World) :
    Calls Try.prog 4 #[.float .f32 x] w fun e w' => e = .returned (.bool true) ∧ Grown w w' := by
  by_cases hf : x % 2147483648 < 2139095040
  · have hft : fin32 x = true := decide_eq_true hf
    have ho := order32_zero hx hf
    by_cases h0 : x % 2147483648 = 0
    · rw [if_pos h0] at ho; exact tenLaw_low x hx hft (.inr ho) w
    · rw [if_neg h0] at ho
      by_cases hs : 2147483648 ≤ x
      · rw [if_pos hs] at ho; exact tenLaw_low x hx hft (.inl ho) w
      · rw [if_neg hs] at ho
        obtain ⟨r, hc, r1, r2⟩ := widen_pos (x := x) (by omega) (by omega)
        exact tenLaw_pos x r hx hft ho hc r1 r2 w
  · exact tenLaw_inf x hx (decide_eq_false hf) w
end Go.Proofs.Ytpaldmhlcgdmkab
