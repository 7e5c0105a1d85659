/- The logarithm of a positive number: the walk of the program's text. -/
import Derived.Test.YtdpnkpgfepckdaaRows
import Derived.Test.YtdpnkpgfepckdaaLogQ
import Derived.Test.YtdpnkpgfepckdaaRet
import Derived.Lib.Hide
namespace Go.Proofs.Ytdpnkpgfepckdaa
open Go.RowKit

def L1 (w0 x h : Nat) : Prop := x + h * 4503599627370496 = w0 ∧ 4503599627370496 ≤ x ∧ (h = 0 ∨ 4604930618986332160 ≤ x)
def L2 (w0 x : Nat) (e : Int) : Prop := (x : Int) = w0 - e * 4503599627370496 ∧ 4503599627370496 ≤ x ∧ x < 4609434218613702656 ∧ -2048 ≤ e ∧ e ≤ 2048

theorem fl_run {P : Program} {op : BinOp} {k : FloatKind} {x y r : Nat} (h : floatBits op k x y = some r) (t : TypeId) : ∀ W : World, (binOp op t (.float k x) (.float k y)).run P W = .ok (.float k r) W := fun W => run_float_arith W op t k x y r h

theorem ord15_lt {x : Nat} (h0 : 4503599627370496 ≤ x) (h : x < 4609434218613702656) : FloatKind.f64.format.order x 4609434218613702656 = some .lt := by
  rw [order_pos h0 (by omega) (by omega) (by omega), if_pos h]
theorem ord15_eq : FloatKind.f64.format.order 4609434218613702656 4609434218613702656 = some .eq := by decide +kernel
theorem ord15_gt {x : Nat} (h1 : x < 9218868437227405312) (h : 4609434218613702656 < x) : FloatKind.f64.format.order x 4609434218613702656 = some .gt := by
  rw [order_pos (by omega) h1 (by omega) (by omega), if_neg (by omega), if_neg (by omega)]
theorem ord15_ge {x : Nat} (h1 : x < 9218868437227405312) (h : 4609434218613702656 ≤ x) : FloatKind.f64.format.order x 4609434218613702656 = some .gt ∨ FloatKind.f64.format.order x 4609434218613702656 = some .eq := by
  by_cases he : x = 4609434218613702656
  · right; rw [he]; exact ord15_eq
  · left; exact ord15_gt h1 (by omega)
theorem ord075_lt {x : Nat} (h0 : 4503599627370496 ≤ x) (h : x < 4604930618986332160) : FloatKind.f64.format.order x 4604930618986332160 = some .lt := by
  rw [order_pos h0 (by omega) (by omega) (by omega), if_pos h]
theorem ord075_ge {x : Nat} (h1 : x < 9218868437227405312) (h : 4604930618986332160 ≤ x) : FloatKind.f64.format.order x 4604930618986332160 = some .gt ∨ FloatKind.f64.format.order x 4604930618986332160 = some .eq := by
  rw [order_pos (by omega) h1 (by omega) (by omega), if_neg (by omega)]
  split
  · right; rfl
  · left; rfl

theorem L1.next {w0 x h : Nat} (hl : L1 w0 x h) (h2 : w0 < 9218868437227405312) (hx : 4609434218613702656 ≤ x) : L1 w0 (x - 4503599627370496) (h + 1) ∧ floatBits .quo .f64 x 4611686018427387904 = some (x - 4503599627370496) ∧ x - 4503599627370496 < x ∧ h < 2048 ∧ x < 9218868437227405312 := by
  obtain ⟨h3, h4, h5⟩ := hl
  exact ⟨⟨by omega, by omega, .inr (by omega)⟩, half_word (by omega) (by omega), by omega, by omega, by omega⟩
theorem L1.last {w0 x h : Nat} (hl : L1 w0 x h) (h2 : w0 < 9218868437227405312) (hx : x < 4609434218613702656) : L2 w0 x (h : Int) ∧ 4503599627370496 ≤ x ∧ h < 2048 := by
  obtain ⟨h3, h4, h5⟩ := hl
  exact ⟨⟨by omega, by omega, by omega, by omega, by omega⟩, h4, by omega⟩
theorem L2.next {w0 x : Nat} {e : Int} (hl : L2 w0 x e) (h2 : w0 < 9218868437227405312) (h1 : 4503599627370496 ≤ w0) (hx : x < 4604930618986332160) : L2 w0 (x + 4503599627370496) (e - 1) ∧ floatBits .mul .f64 x 4611686018427387904 = some (x + 4503599627370496) ∧ -2048 ≤ e ∧ e ≤ 2048 := by
  obtain ⟨h3, h4, h5, h6, h7⟩ := hl
  exact ⟨⟨by omega, by omega, by omega, by omega, by omega⟩, dbl_word h4 (by omega), h6, h7⟩

theorem logQ_next {x j : Nat} {q u a b z : Nat} (hu : Rp .f64 (logU x) u) (hq : Rp .f64 (logQ x j) q) (ha : Rp .f64 (floatBits .quo .f64 4607182418800017408 (floatOfInt .f64 (25 - 2 * (j : Int)))) a) (hb : Rp .f64 (floatBits .mul .f64 u q) b) (hz : Rp .f64 (floatBits .add .f64 a b) z) : Rp .f64 (logQ x (j + 1)) z :=
  Rp.fop (Rp.fop (Rp.refl _ _) (Rp.refl _ _) ha) (hu.fop hq hb) hz

theorem int_congr {k : IntKind} {a b : Int} (h : a = b) : Value.int k a = .int k b := by rw [h]

theorem ord_self_pos {x : Nat} (_ : 4503599627370496 ≤ x) (h2 : x < 9218868437227405312) : FloatKind.f64.format.order x x = some .eq := by
  have hd : FloatKind.f64.format.order x x = (FloatKind.f64.decode x).order (FloatKind.f64.decode x) := rfl
  rw [hd, pos_decode (by assumption) h2]
  simp [Ieee.Datum.order]
theorem ord_zero_pos {x : Nat} (h1 : 4503599627370496 ≤ x) (h2 : x < 9218868437227405312) : FloatKind.f64.format.order x 0 = some .gt := by
  have hd : FloatKind.f64.format.order x 0 = (FloatKind.f64.decode x).order (.number false 0 (-1074)) := rfl
  rw [hd, pos_decode h1 h2]
  simp only [Ieee.Datum.order, Ieee.signed, Bool.false_eq_true, if_false, Nat.shiftLeft_eq, Nat.zero_mul, Option.some.injEq]
  show compareOfLessAndEq _ _ = _
  unfold compareOfLessAndEq
  have hp := Nat.two_pow_pos (-1074 + ((x / 4503599627370496 - 1 : Nat) : Int) - min (-1074 + ((x / 4503599627370496 - 1 : Nat) : Int)) (-1074)).toNat
  generalize 2 ^ (-1074 + ((x / 4503599627370496 - 1 : Nat) : Int) - min (-1074 + ((x / 4503599627370496 - 1 : Nat) : Int)) (-1074)).toNat = q at *
  have : 0 < (4503599627370496 + x % 4503599627370496) * q := Nat.mul_pos (by omega) hp
  rw [if_neg (by omega), if_neg (by omega)]

end Go.Proofs.Ytdpnkpgfepckdaa
