/- 32-bit numbers, widened: positive, negative; conversions whose outcome is known. -/
import Derived.Test.YtdmcjloaommnpaaLogW
import Derived.Test.YtdmcjloaommnpaaSame
namespace Go.Proofs.Ytdmcjloaommnpaa
open Go.RowKit

theorem fb64_run (n : Int) (w : World) : (callFunc 106 #[.int .u64 n]).run Try.prog w = .ok (.value (.float .f64 n.toNat)) w := by
  rw [run_callFunc_extern Try.func106 (by kernel_rfl) (by kernel_rfl) (by kernel_rfl) (show Extern.find Try.f106 = some Extern.MathFloatBits.float64frombits by kernel_rfl)]
  rfl

theorem run_cvt_some {P : Program} {s k : FloatKind} {b r : Nat} (hk : s ≠ k) (h : cvt s b k = some r) (hg : tooGreat s b k = false) (src dst : TypeId) (hs : (P.underlying src).isSome = true) (hd : P.underlying dst = some (.float k)) :
    ∀ W : World, (convert src dst (.float s b)).run P W = .ok (.float k r) W := by
  intro W
  refine run_convert_float_float W src dst s k b r hs hd ?_
  unfold cvt at h
  unfold tooGreat at hg
  unfold floatToFloatBits
  rw [if_neg hk] at h hg ⊢
  cases hd : s.decode b with
  | nan g f => rw [hd] at h; cases h
  | infinity g => rw [hd] at h; exact h
  | number g m e => rw [hd] at h hg; simp only at h hg ⊢; rw [if_neg (by rw [hg]; exact Bool.false_ne_true)]; exact h

theorem cut_zero (neg : Bool) (n : Nat) : Ieee.Toward.even.cut neg n 0 = n := by
  unfold Ieee.Toward.cut
  simp [Nat.mod_one]

/-- A 32-bit number greater than 0, widened, is a normal number. -/
theorem widen_parts (g : Bool) (m : Nat) (e : Int) (h0 : 1 ≤ m) (h1 : m < 16777216) (h2 : -149 ≤ e) (h3 : e ≤ 104) :
    ∃ q, 4503599627370496 ≤ q ∧ q < 9218868437227405312 ∧ Ieee.double.nearest g m e = Ieee.double.word g q := by
  have hl : m.log2 < 24 := (Nat.log2_lt (by omega)).2 (by simpa using h1)
  have hlo := Nat.log2_self_le (show m ≠ 0 by omega)
  have hhi : m < 2 ^ (m.log2 + 1) := Nat.lt_log2_self
  unfold Ieee.Format.nearest
  rw [if_neg (by omega)]
  have hf : (Ieee.double.fractionBits : Int) = 52 := rfl
  have hlp : Ieee.double.leastPlace = -1074 := by decide
  rw [hf, hlp]
  have hlast : max (e + (m.log2 : Int) - 52) (-1074) = e + m.log2 - 52 := by omega
  simp only [hlast, hB]
  have a1 : (e - (e + (m.log2 : Int) - 52)).toNat = 52 - m.log2 := by omega
  have a2 : (e + (m.log2 : Int) - 52 - e).toNat = 0 := by omega
  rw [a1, a2, cut_zero, Nat.shiftLeft_eq]
  have b1 : 4503599627370496 ≤ m * 2 ^ (52 - m.log2) := by
    rw [← pow52 m.log2 (by omega)]; exact Nat.mul_le_mul_right _ hlo
  have b2 : m * 2 ^ (52 - m.log2) < 9007199254740992 := by
    have := Nat.mul_lt_mul_of_pos_right hhi (Nat.two_pow_pos (52 - m.log2))
    rw [Nat.pow_succ, Nat.mul_right_comm, pow52 m.log2 (by omega)] at this
    exact this
  obtain ⟨t, ht⟩ : ∃ t : Nat, (e + (m.log2 : Int) - 52 - -1074).toNat = t ∧ t ≤ 1149 := ⟨_, rfl, by omega⟩
  rw [ht.1]
  have ht2 := ht.2
  generalize m * 2 ^ (52 - m.log2) = q at *
  have b3 := Nat.mul_le_mul_right 4503599627370496 ht2
  have b4 : t * 4503599627370496 + q < 9218868437227405312 := Nat.lt_of_le_of_lt (Nat.add_le_add b3 (Nat.le_of_lt b2)) (by decide)
  refine ⟨t * 4503599627370496 + q, Nat.le_trans b1 (Nat.le_add_left _ _), b4, ?_⟩
  rw [hI, Nat.min_eq_left (Nat.le_of_lt b4)]

theorem decode_pos32 {x : Nat} (h0 : 0 < x % 2147483648) (h : x % 2147483648 < 2139095040) : ∃ m e, FloatKind.f32.decode x = .number (x / 2147483648 % 2 == 1) m e ∧ 1 ≤ m ∧ m < 16777216 ∧ -149 ≤ e ∧ e ≤ 104 := by
  rw [read_single]
  have hm := Nat.mod_lt (x % 2147483648) (show 8388608 > 0 by decide)
  by_cases hc : x % 2147483648 < 8388608
  · rw [if_pos hc]
    exact ⟨_, _, rfl, by omega, by omega, by omega, by omega⟩
  · rw [if_neg hc, if_pos h]
    exact ⟨_, _, rfl, by omega, by omega, by omega, by omega⟩

theorem widen_pos {x : Nat} (h0 : 0 < x) (h : x < 2139095040) : ∃ r, cvt .f32 x .f64 = some r ∧ 4503599627370496 ≤ r ∧ r < 9218868437227405312 := by
  have hm : x % 2147483648 = x := by omega
  obtain ⟨m, e, hd, h1, h2, h3, h4⟩ := decode_pos32 (x := x) (by omega) (by omega)
  obtain ⟨q, q1, q2, hq⟩ := widen_parts (x / 2147483648 % 2 == 1) m e h1 h2 h3 h4
  refine ⟨q, ?_, q1, q2⟩
  unfold cvt
  rw [if_neg (by decide), hd]
  show some (Ieee.double.nearest _ m e) = some q
  rw [hq, show (x / 2147483648 % 2 == 1) = false by rw [show x / 2147483648 = 0 by omega]; rfl]
  unfold Ieee.Format.word
  rw [if_neg Bool.false_ne_true]

theorem widen_neg {x : Nat} (hx : x < 4294967296) (hs : 2147483648 < x) (h : x % 2147483648 < 2139095040) : ∃ q, cvt .f32 x .f64 = some (9223372036854775808 + q) ∧ 4503599627370496 ≤ q ∧ q < 9218868437227405312 := by
  obtain ⟨m, e, hd, h1, h2, h3, h4⟩ := decode_pos32 (x := x) (by omega) (by omega)
  obtain ⟨q, q1, q2, hq⟩ := widen_parts (x / 2147483648 % 2 == 1) m e h1 h2 h3 h4
  refine ⟨q, ?_, q1, q2⟩
  unfold cvt
  rw [if_neg (by decide), hd]
  show some (Ieee.double.nearest _ m e) = _
  rw [hq, show (x / 2147483648 % 2 == 1) = true by rw [show x / 2147483648 = 1 by omega]; rfl]
  unfold Ieee.Format.word
  rw [if_pos rfl, hS]

theorem neg_decode {q : Nat} (h1 : 4503599627370496 ≤ q) (h2 : q < 9218868437227405312) : ∃ m e, FloatKind.f64.decode (9223372036854775808 + q) = .number true m e ∧ 1 ≤ m ∧ -1074 ≤ e := by
  have hm : (9223372036854775808 + q) % 9223372036854775808 = q := by omega
  have hs : ((9223372036854775808 + q) / 9223372036854775808 % 2 == 1) = true := by rw [show (9223372036854775808 + q) / 9223372036854775808 = 1 by omega]; rfl
  rw [read_double, hm, if_neg (by omega), if_pos h2, hs]
  exact ⟨_, _, rfl, by omega, by omega⟩

theorem ord_zero_neg {q : Nat} (h1 : 4503599627370496 ≤ q) (h2 : q < 9218868437227405312) : FloatKind.f64.format.order (9223372036854775808 + q) 0 = some .lt := by
  obtain ⟨m, e, hd, hm, he⟩ := neg_decode h1 h2
  have h0 : FloatKind.f64.format.order (9223372036854775808 + q) 0 = (FloatKind.f64.decode (9223372036854775808 + q)).order (.number false 0 (-1074)) := rfl
  rw [h0, hd]
  simp only [Ieee.Datum.order, Ieee.signed, if_true, Bool.false_eq_true, if_false, Nat.shiftLeft_eq, Nat.zero_mul, Option.some.injEq]
  show compareOfLessAndEq _ _ = _
  unfold compareOfLessAndEq
  have hp := Nat.two_pow_pos (e - min e (-1074)).toNat
  generalize 2 ^ (e - min e (-1074)).toNat = t at *
  have : 0 < m * t := Nat.mul_pos (by omega) hp
  rw [if_pos (by omega)]
theorem ord_max_neg {q : Nat} (h1 : 4503599627370496 ≤ q) (h2 : q < 9218868437227405312) : FloatKind.f64.format.order (9223372036854775808 + q) 9218868437227405311 = some .lt := by
  obtain ⟨m, e, hd, hm, he⟩ := neg_decode h1 h2
  have h0 : FloatKind.f64.format.order (9223372036854775808 + q) 9218868437227405311 = (FloatKind.f64.decode (9223372036854775808 + q)).order (FloatKind.f64.decode 9218868437227405311) := rfl
  have hdm : FloatKind.f64.decode 9218868437227405311 = .number false 9007199254740991 971 := by decide +kernel
  rw [h0, hd, hdm]
  simp only [Ieee.Datum.order, Ieee.signed, if_true, Bool.false_eq_true, if_false, Nat.shiftLeft_eq, Option.some.injEq]
  show compareOfLessAndEq _ _ = _
  unfold compareOfLessAndEq
  have hp := Nat.two_pow_pos (e - min e 971).toNat
  have hp2 := Nat.two_pow_pos (971 - min e 971).toNat
  generalize 2 ^ (e - min e 971).toNat = t at *
  generalize 2 ^ (971 - min e 971).toNat = u at *
  have : 0 < m * t := Nat.mul_pos (by omega) hp
  have : 0 < 9007199254740991 * u := Nat.mul_pos (by decide) hp2
  rw [if_pos (by omega)]
theorem ord_self_neg {q : Nat} (h1 : 4503599627370496 ≤ q) (h2 : q < 9218868437227405312) : FloatKind.f64.format.order (9223372036854775808 + q) (9223372036854775808 + q) = some .eq := by
  rw [order_self_64, if_neg (by omega)]

theorem rp_cvtF {s k : FloatKind} (hk : s ≠ k) {X : Option Nat} {x z : Nat} (hz : Rp k (cvt s x k) z) (hx : Rp s X x) : Rp k (cvtF s k X) z := Rp.cvtF hk hx hz

theorem wpList_cvt_eq {P : Program} {ops : Array Oper} {Q : Exit → Act → World → Prop} {a : Act} {w : World} {rest : List Oper} {o : Oper} (hg : o.guard = none) (src dst : TypeId) (l : Operand) (hop : o.op = Op.convert src dst l) {v u : Value} (hl : a.eval l = v)
    (hrun : ∀ W : World, (convert src dst v).run P W = .ok u W) (hK : wpList P ops Q rest (a.put o.dst u) w) : wpList P ops Q (o :: rest) a w := by
  refine wpList_plain hg fun K hK' => ?_
  unfold Oper.wp
  simp [execOp, hop, hl, hrun, Result.andThen, Oper.upon]
  exact hK' _ _ hK

theorem narrow_smo {o : Option Nat} {E z : Nat} (h : SmO E o) (hE : E ≤ 1147) (hz : Rp .f64 o z) : tooGreat .f64 z .f32 = false := by
  obtain ⟨b, rfl, hb⟩ := h
  obtain rfl : z = b := hz
  exact narrow_ok hb hE

end Go.Proofs.Ytdmcjloaommnpaa
