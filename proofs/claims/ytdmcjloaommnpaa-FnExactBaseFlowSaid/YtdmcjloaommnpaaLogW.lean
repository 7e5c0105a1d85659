/- The logarithm of a positive number: the walk of the program's text. -/
import Derived.Test.YtdmcjloaommnpaaRows
import Derived.Test.YtdmcjloaommnpaaLogQ
import Derived.Test.YtdmcjloaommnpaaRet
import Derived.Lib.Hide
namespace Go.Proofs.Ytdmcjloaommnpaa
open Go.RowKit

def L1 (w0 x h : Nat) : Prop := x + h * 4503599627370496 = w0 ∧ 4503599627370496 ≤ x ∧ (h = 0 ∨ 4604930618986332160 ≤ x)
def L2 (w0 x : Nat) (e : Int) : Prop := (x : Int) = w0 - e * 4503599627370496 ∧ 4503599627370496 ≤ x ∧ x < 4609434218613702656 ∧ -2048 ≤ e ∧ e ≤ 2048

theorem fl_run {P : Program} {op : BinOp} {k : FloatKind} {x y r : Nat} (h : floatBits op k x y = some r) (t : TypeId) : ∀ W : World, (binOp op t (.float k x) (.float k y)).run P W = .ok (.float k r) W := fun W => run_float_arith W op t k x y r h

theorem ord15_lt {x : Nat} (h0 : 4503599627370496 ≤ x) (h : x < 4609434218613702656) : FloatKind.f64.format.order x 4609434218613702656 = some .lt := by
  rw [order_pos h0 (by omega) (by omega) (by omega), if_pos h]
theorem ord15_eq : FloatKind.f64.format.order 4609434218613702656 4609434218613702656 = some .eq := by decide +kernel
theorem ord15_gt {x : Nat} (h1 : x < 9218868437227405312) (h : 4609434218613702656 < x) : FloatKind.f64.format.order x 4609434218613702656 = some .gt := by
  rw [order_pos (by omega) h1 (by omega) (by omega), if_neg (by omega), if_neg (by omega)]
theorem ord15_ge {x : Nat} (h1 : x < 9218868437227405312) (h : 4609434218613702656 ≤ x) : FloatKind.f64.format.order x 4609434218613702656 = some .gt ∨ FloatKind.f64.format.order x 4609434218613702656 = some .eq := by
  by_cases he : x = 4609434218613702656
  · right; rw [he]; exact ord15_eq
  · left; exact ord15_gt h1 (by omega)
theorem ord075_lt {x : Nat} (h0 : 4503599627370496 ≤ x) (h : x < 4604930618986332160) : FloatKind.f64.format.order x 4604930618986332160 = some .lt := by
  rw [order_pos h0 (by omega) (by omega) (by omega), if_pos h]
theorem ord075_ge {x : Nat} (h1 : x < 9218868437227405312) (h : 4604930618986332160 ≤ x) : FloatKind.f64.format.order x 4604930618986332160 = some .gt ∨ FloatKind.f64.format.order x 4604930618986332160 = some .eq := by
  rw [order_pos (by omega) h1 (by omega) (by omega), if_neg (by omega)]
  split
  · right; rfl
  · left; rfl

theorem L1.next {w0 x h : Nat} (hl : L1 w0 x h) (h2 : w0 < 9218868437227405312) (hx : 4609434218613702656 ≤ x) : L1 w0 (x - 4503599627370496) (h + 1) ∧ floatBits .quo .f64 x 4611686018427387904 = some (x - 4503599627370496) ∧ x - 4503599627370496 < x ∧ h < 2048 ∧ x < 9218868437227405312 := by
  obtain ⟨h3, h4, h5⟩ := hl
  exact ⟨⟨by omega, by omega, .inr (by omega)⟩, half_word (by omega) (by omega), by omega, by omega, by omega⟩
theorem L1.last {w0 x h : Nat} (hl : L1 w0 x h) (h2 : w0 < 9218868437227405312) (hx : x < 4609434218613702656) : L2 w0 x (h : Int) ∧ 4503599627370496 ≤ x ∧ h < 2048 := by
  obtain ⟨h3, h4, h5⟩ := hl
  exact ⟨⟨by omega, by omega, by omega, by omega, by omega⟩, h4, by omega⟩
theorem L2.next {w0 x : Nat} {e : Int} (hl : L2 w0 x e) (h2 : w0 < 9218868437227405312) (h1 : 4503599627370496 ≤ w0) (hx : x < 4604930618986332160) : L2 w0 (x + 4503599627370496) (e - 1) ∧ floatBits .mul .f64 x 4611686018427387904 = some (x + 4503599627370496) ∧ -2048 ≤ e ∧ e ≤ 2048 := by
  obtain ⟨h3, h4, h5, h6, h7⟩ := hl
  exact ⟨⟨by omega, by omega, by omega, by omega, by omega⟩, dbl_word h4 (by omega), h6, h7⟩

theorem logQ_next {x j : Nat} {q u a b z : Nat} (hu : Rp .f64 (logU x) u) (hq : Rp .f64 (logQ x j) q) (ha : Rp .f64 (floatBits .quo .f64 4607182418800017408 (floatOfInt .f64 (25 - 2 * (j : Int)))) a) (hb : Rp .f64 (floatBits .mul .f64 u q) b) (hz : Rp .f64 (floatBits .add .f64 a b) z) : Rp .f64 (logQ x (j + 1)) z :=
  Rp.fop (Rp.fop (Rp.refl _ _) (Rp.refl _ _) ha) (hu.fop hq hb) hz

theorem int_congr {k : IntKind} {a b : Int} (h : a = b) : Value.int k a = .int k b := by rw [h]

set_option maxHeartbeats 2000000 in
theorem wideLog_any (w0 : Nat) (h1 : 4503599627370496 ≤ w0) (h2 : w0 < 9218868437227405312) (w : World) :
    Calls Try.prog 96 #[.float .f64 w0] w (RetF .f64 (logV (xOf w0) (eOf w0)) w) := by
  have H1 := Lib.hid h1
  have H2 := Lib.hid h2
  clear h1 h2
  go_enter Try.func96, Try.ntmps96
  go_wp2_with fail
  go_loop [0, 3] (fun v e => ∃ x h : Nat, v = .float .f64 x ∧ e = .int .i64 (h : Int) ∧ Hid (L1 w0 x h)) (fun v _ => match v with | .float _ b => b | _ => 0)
  case atStart => exact ⟨w0, 0, rfl, rfl, Lib.hid ⟨by omega, H1.out, .inl rfl⟩⟩
  case round =>
    obtain ⟨x, h, rfl, rfl, HL⟩ := hrel
    by_cases hx : 4609434218613702656 ≤ x
    · obtain ⟨hn, hd, hlt, hh, hx2⟩ := HL.out.next H2.out hx
      have Hn := Lib.hid hn
      have Hlt := Lib.hid hlt
      have hrun := fl_run (P := Try.prog) hd 30
      clear hn hd hlt
      rcases ord15_ge hx2 hx with ho | ho
      · clear hx hx2
        go_wp2_with fail
        go_round
        case rel => exact ⟨_, h + 1, rfl, by go_num, Hn⟩
        case measure => exact Hlt.out
      · clear hx hx2
        go_wp2_with fail
        go_round
        case rel => exact ⟨_, h + 1, rfl, by go_num, Hn⟩
        case measure => exact Hlt.out
    · obtain ⟨hl2, hx0, hh⟩ := HL.out.last H2.out (by omega)
      have HL2 := Lib.hid hl2
      have ho := ord15_lt hx0 (by omega)
      clear hl2 hx hx0 HL
      go_wp2_with fail
      clear ho
      go_loop [0, 3] (fun v e => ∃ (x : Nat) (d : Int), v = .float .f64 x ∧ e = .int .i64 d ∧ Hid (L2 w0 x d)) (fun v _ => match v with | .float _ b => 4609434218613702656 - b | _ => 0)
      case atStart => exact ⟨x, h, rfl, rfl, HL2⟩
      case round =>
        clear HL2 hh
        obtain ⟨x, d, rfl, rfl, HL⟩ := hrel
        by_cases hx : x < 4604930618986332160
        · obtain ⟨hn, hd, hd1, hd2⟩ := HL.out.next H2.out H1.out hx
          have ho := ord075_lt HL.out.2.1 hx
          have Hn := Lib.hid hn
          have hrun := fl_run (P := Try.prog) hd 30
          clear hn hd hx
          go_wp2_with fail
          go_round
          case rel => exact ⟨_, d - 1, rfl, rfl, Hn⟩
          case measure =>
            have := HL.out.2.2.1
            show 4609434218613702656 - (x + 4503599627370496) < 4609434218613702656 - x
            omega
        · obtain ⟨hq1, hq2, hq3, hd1, hd2⟩ := HL.out
          obtain ⟨hxe, hde⟩ := mid_unique (by omega) hq3 hq1
          have Hx := Lib.hid hxe
          have Hd := Lib.hid hde
          have hor := ord075_ge (x := x) (by omega) (by omega)
          clear hq1 hq2 hq3 HL hx hxe hde
          have ho : (FloatKind.f64.format.order x 4604930618986332160 == some Ordering.lt) = false := by rcases hor with h | h <;> rw [h] <;> rfl
          clear hor
          go_wp2_with (refine wpList_fl rfl _ _ _ _ _ rfl .f64 _ _ rfl rfl (by decide) ?_; intro z n hz)
          have hs : Rp .f64 (logS x) _ := Rp.fop (Rp.fop (Rp.refl _ _) (Rp.refl _ _) (by assumption)) (Rp.fop (Rp.refl _ _) (Rp.refl _ _) (by assumption)) (by assumption)
          have hu : Rp .f64 (logU x) z := Rp.fop hs hs (by assumption)
          have Hs := Lib.hid hs
          have Hu := Lib.hid hu
          clear hs hu hz ho
          go_loopw [6, 7] (fun q k wr => ∃ (j m y : Nat), j ≤ 13 ∧ k = .int .i64 (25 - 2 * (j : Int)) ∧ q = .float .f64 y ∧ Hid (Rp .f64 (logQ x j) y) ∧ wr = w.drewN m) (fun _ k _ => (intOf k + 1).toNat)
          case atStart => exact ⟨0, _, 0, by omega, rfl, rfl, Lib.hid rfl, rfl⟩
          case round =>
            obtain ⟨j, m, y, hj, rfl, rfl, HQ, rfl⟩ := hrel
            by_cases hlt : j < 13
            · go_wp2_with (refine wpList_fl rfl _ _ _ _ _ rfl .f64 _ _ rfl rfl (by decide) ?_; intro z n hz)
              exact ⟨⟨j + 1, _, z, by omega, int_congr (by omega), rfl, Lib.hid (logQ_next Hu.out HQ.out (by assumption) (by assumption) (by assumption)), rfl⟩, by simp [intOf]; omega⟩
            · obtain rfl : j = 13 := by omega
              go_wp2_with (refine wpList_fl rfl _ _ _ _ _ rfl .f64 _ _ rfl rfl (by decide) ?_; intro z n hz)
              go_ret
              refine ⟨_, _, rfl, rfl, ?_⟩
              rw [← Hx.out, ← Hd.out]
              exact Rp.fop (Rp.fop (Rp.refl _ _) (Rp.fop Hs.out HQ.out (by assumption)) (by assumption)) (Rp.fop (Rp.refl _ _) (Rp.refl _ _) (by assumption)) (by assumption)
theorem ord_self_pos {x : Nat} (_ : 4503599627370496 ≤ x) (h2 : x < 9218868437227405312) : FloatKind.f64.format.order x x = some .eq := by
  have hd : FloatKind.f64.format.order x x = (FloatKind.f64.decode x).order (FloatKind.f64.decode x) := rfl
  rw [hd, pos_decode (by assumption) h2]
  simp [Ieee.Datum.order]
theorem ord_zero_pos {x : Nat} (h1 : 4503599627370496 ≤ x) (h2 : x < 9218868437227405312) : FloatKind.f64.format.order x 0 = some .gt := by
  have hd : FloatKind.f64.format.order x 0 = (FloatKind.f64.decode x).order (.number false 0 (-1074)) := rfl
  rw [hd, pos_decode h1 h2]
  simp only [Ieee.Datum.order, Ieee.signed, Bool.false_eq_true, if_false, Nat.shiftLeft_eq, Nat.zero_mul, Option.some.injEq]
  show compareOfLessAndEq _ _ = _
  unfold compareOfLessAndEq
  have hp := Nat.two_pow_pos (-1074 + ((x / 4503599627370496 - 1 : Nat) : Int) - min (-1074 + ((x / 4503599627370496 - 1 : Nat) : Int)) (-1074)).toNat
  generalize 2 ^ (-1074 + ((x / 4503599627370496 - 1 : Nat) : Int) - min (-1074 + ((x / 4503599627370496 - 1 : Nat) : Int)) (-1074)).toNat = q at *
  have : 0 < (4503599627370496 + x % 4503599627370496) * q := Nat.mul_pos (by omega) hp
  rw [if_neg (by omega), if_neg (by omega)]
theorem ord_max_pos {x : Nat} (h1 : 4503599627370496 ≤ x) (h2 : x < 9218868437227405312) : (FloatKind.f64.format.order x 9218868437227405311 == some .gt) = false := by
  rw [order_pos h1 h2 (by omega) (by omega)]
  by_cases h : x < 9218868437227405311
  · rw [if_pos h]; rfl
  · rw [if_neg h, if_pos (by omega)]; rfl

set_option maxHeartbeats 2000000 in
theorem l01LogWide_any (w0 : Nat) (h1 : 4503599627370496 ≤ w0) (h2 : w0 < 9218868437227405312) (w : World) :
    Calls Try.prog 91 #[.float .f64 w0] w (RetF .f64 (logV (xOf w0) (eOf w0)) w) := by
  have H1 := Lib.hid h1
  have H2 := Lib.hid h2
  have hself := ord_self_pos h1 h2
  have hzero := ord_zero_pos h1 h2
  have hmax := ord_max_pos h1 h2
  clear h1 h2
  go_enter Try.func91, Try.ntmps91
  go_wp2_with (first | (go_at_call 95; go_in) | go_back)
  clear hself hzero hmax
  go_loop [0, 3] (fun v e => ∃ x h : Nat, v = .float .f64 x ∧ e = .int .i64 (h : Int) ∧ Hid (L1 w0 x h)) (fun v _ => match v with | .float _ b => b | _ => 0)
  case atStart => exact ⟨w0, 0, rfl, rfl, Lib.hid ⟨by omega, H1.out, .inl rfl⟩⟩
  case round =>
    obtain ⟨x, h, rfl, rfl, HL⟩ := hrel
    by_cases hx : 4609434218613702656 ≤ x
    · obtain ⟨hn, hd, hlt, hh, hx2⟩ := HL.out.next H2.out hx
      have Hn := Lib.hid hn
      have Hlt := Lib.hid hlt
      have hrun := fl_run (P := Try.prog) hd 30
      clear hn hd hlt
      rcases ord15_ge hx2 hx with ho | ho
      · clear hx hx2
        go_wp2_with fail
        go_round
        case rel => exact ⟨_, h + 1, rfl, by go_num, Hn⟩
        case measure => exact Hlt.out
      · clear hx hx2
        go_wp2_with fail
        go_round
        case rel => exact ⟨_, h + 1, rfl, by go_num, Hn⟩
        case measure => exact Hlt.out
    · obtain ⟨hl2, hx0, hh⟩ := HL.out.last H2.out (by omega)
      have HL2 := Lib.hid hl2
      have ho := ord15_lt hx0 (by omega)
      clear hl2 hx hx0 HL
      go_wp2_with fail
      clear ho
      go_loop [0, 3] (fun v e => ∃ (x : Nat) (d : Int), v = .float .f64 x ∧ e = .int .i64 d ∧ Hid (L2 w0 x d)) (fun v _ => match v with | .float _ b => 4609434218613702656 - b | _ => 0)
      case atStart => exact ⟨x, h, rfl, rfl, HL2⟩
      case round =>
        clear HL2 hh
        obtain ⟨x, d, rfl, rfl, HL⟩ := hrel
        by_cases hx : x < 4604930618986332160
        · obtain ⟨hn, hd, hd1, hd2⟩ := HL.out.next H2.out H1.out hx
          have ho := ord075_lt HL.out.2.1 hx
          have Hn := Lib.hid hn
          have hrun := fl_run (P := Try.prog) hd 30
          clear hn hd hx
          go_wp2_with fail
          go_round
          case rel => exact ⟨_, d - 1, rfl, rfl, Hn⟩
          case measure =>
            have := HL.out.2.2.1
            show 4609434218613702656 - (x + 4503599627370496) < 4609434218613702656 - x
            omega
        · obtain ⟨hq1, hq2, hq3, hd1, hd2⟩ := HL.out
          obtain ⟨hxe, hde⟩ := mid_unique (by omega) hq3 hq1
          have Hx := Lib.hid hxe
          have Hd := Lib.hid hde
          have hor := ord075_ge (x := x) (by omega) (by omega)
          clear hq1 hq2 hq3 HL hx hxe hde
          have ho : (FloatKind.f64.format.order x 4604930618986332160 == some Ordering.lt) = false := by rcases hor with h | h <;> rw [h] <;> rfl
          clear hor
          go_wp2_with (refine wpList_fl rfl _ _ _ _ _ rfl .f64 _ _ rfl rfl (by decide) ?_; intro z n hz)
          have hs : Rp .f64 (logS x) _ := Rp.fop (Rp.fop (Rp.refl _ _) (Rp.refl _ _) (by assumption)) (Rp.fop (Rp.refl _ _) (Rp.refl _ _) (by assumption)) (by assumption)
          have hu : Rp .f64 (logU x) z := Rp.fop hs hs (by assumption)
          have Hs := Lib.hid hs
          have Hu := Lib.hid hu
          clear hs hu hz ho
          go_loopw [6, 7] (fun q k wr => ∃ (j m y : Nat), j ≤ 13 ∧ k = .int .i64 (25 - 2 * (j : Int)) ∧ q = .float .f64 y ∧ Hid (Rp .f64 (logQ x j) y) ∧ wr = w.drewN m) (fun _ k _ => (intOf k + 1).toNat)
          case atStart => exact ⟨0, _, 0, by omega, rfl, rfl, Lib.hid rfl, rfl⟩
          case round =>
            obtain ⟨j, m, y, hj, rfl, rfl, HQ, rfl⟩ := hrel
            by_cases hlt : j < 13
            · go_wp2_with (refine wpList_fl rfl _ _ _ _ _ rfl .f64 _ _ rfl rfl (by decide) ?_; intro z n hz)
              exact ⟨⟨j + 1, _, z, by omega, int_congr (by omega), rfl, Lib.hid (logQ_next Hu.out HQ.out (by assumption) (by assumption) (by assumption)), rfl⟩, by simp [intOf]; omega⟩
            · obtain rfl : j = 13 := by omega
              go_wp2_with (refine wpList_fl rfl _ _ _ _ _ rfl .f64 _ _ rfl rfl (by decide) ?_; intro z n hz)
              go_ret
              refine ⟨_, _, rfl, rfl, ?_⟩
              rw [← Hx.out, ← Hd.out]
              exact Rp.fop (Rp.fop (Rp.refl _ _) (Rp.fop Hs.out HQ.out (by assumption)) (by assumption)) (Rp.fop (Rp.refl _ _) (Rp.refl _ _) (by assumption)) (by assumption)
end Go.Proofs.Ytdmcjloaommnpaa
