/- What 'math.Abs' gives: a 64-bit number without its sign. -/
import Derived.Test.YtgjgggclcmcpgacAbsO
import Derived.Laws.DeepBits32
import Derived.Laws.Externs
import Derived.Lib.Hide
namespace Go.Proofs.Ytgjgggclcmcpgac
open Go.RowKit
set_option linter.unusedVariables false
set_option maxRecDepth 100000

theorem andNot63 (x : Nat) (hx : x < 2 ^ 64) : x &&& (2 ^ 64 - (2 ^ 63 + 1)) = x % 2 ^ 63 := by
  apply Nat.eq_of_testBit_eq
  intro i
  rw [Nat.testBit_and, Nat.testBit_two_pow_sub_succ (by decide), Nat.testBit_two_pow, Nat.testBit_mod_two_pow]
  by_cases h : i < 63
  · have h1 : i < 64 := by omega
    have h2 : ¬ 63 = i := by omega
    simp [h, h1, h2]
  · by_cases h1 : i = 63
    · subst h1; simp
    · have : x.testBit i = false := Nat.testBit_lt_two_pow (Nat.lt_of_lt_of_le hx (Nat.pow_le_pow_right (by omega) (by omega)))
      simp [this]
theorem u64_andNot63 (x : Nat) (hx : x < 18446744073709551616) : bits .andNot .u64 (x : Int) 9223372036854775808 = ((x % 9223372036854775808 : Nat) : Int) := by
  show IntKind.u64.wrap ((BitVec.ofInt 64 (x : Int) &&& ~~~BitVec.ofInt 64 9223372036854775808).toNat : Int) = _
  have h1 : (BitVec.ofInt 64 9223372036854775808).toNat = 2 ^ 63 := by decide
  have h2 : (BitVec.ofInt 64 (x : Int)).toNat = x := by
    rw [BitVec.toNat_ofInt]
    have : ((x : Int) % ((2 ^ 64 : Nat) : Int)) = (x : Int) := Int.emod_eq_of_lt (by omega) (by simpa using (by omega : (x : Int) < 18446744073709551616))
    rw [this]; exact Int.toNat_natCast x
  rw [BitVec.toNat_and, BitVec.toNat_not, h2, h1, show 2 ^ 64 - 1 - 2 ^ 63 = 2 ^ 64 - (2 ^ 63 + 1) by decide, andNot63 x (by simpa using hx)]
  simp [IntKind.wrap, IntKind.bits, IntKind.signed]
  omega
theorem fb64_run (n : Int) (w : World) : (callFunc 134 #[.int .u64 n]).run Try.prog w = .ok (.value (.float .f64 n.toNat)) w := by
  rw [run_callFunc_extern Try.func134 (by kernel_rfl) (by kernel_rfl) (by kernel_rfl) (show Extern.find Try.f134 = some Extern.MathFloatBits.float64frombits by kernel_rfl)]
  rfl

theorem b64_run (x : Nat) (w : World) : (callFunc 135 #[.float .f64 x]).run Try.prog w = .ok (.value (.int .u64 x)) w := by
  rw [run_callFunc_extern Try.func135 (by kernel_rfl) (by kernel_rfl) (by kernel_rfl) (show Extern.find Try.f135 = some Extern.MathFloatBits.float64bits by kernel_rfl)]
  rfl

theorem flo_congr {k : FloatKind} {a b : Nat} (h : a = b) : Ending.returned (Value.float k a) = .returned (.float k b) := by rw [h]

set_option maxRecDepth 100000 in
set_option maxHeartbeats 400000 in
theorem mathAbs_any (x : Nat) (hx : x < 18446744073709551616) (w : World) : Calls Try.prog 84 #[.float .f64 x] w fun e w' => e = .returned (.float .f64 (x % 9223372036854775808)) ∧ w = w' := by
  have h1 := b64_run x
  have h2 := fb64_run
  have H3 := Lib.hid (u64_andNot63 x hx)
  clear hx
  go_enter Try.func84, Try.ntmps84
  go_wp2_with fail
  go_ret
  exact ⟨flo_congr (by rw [H3.out]; exact Int.toNat_natCast _), rfl⟩

/-- A number without its sign, widened on the way: 'float32(math.Abs(float64(v)))' of a number that is told. -/
def NumA (X : Option Nat) : Prop := ∀ b, X = some b → b % 2147483648 ≤ 2139095040
section
variable {P : Program} {ops : Array Oper} {Q : Exit → Act → World → Prop} {a : Act} {w : World} {rest : List Oper} {o : Oper}
theorem wpList_narrow (hw : Region.wanted o (yielded ops a.tmps) = true) (src dst : TypeId) (l : Operand) (hop : o.op = Op.convert src dst l) {X : Option Nat} {y : Nat} (hl : a.eval l = .float .f64 (y % 9223372036854775808))
    (hs : (P.underlying src).isSome = true) (hd : P.underlying dst = some (.float .f32)) (h : y < 18446744073709551616 ∧ tooGreat .f64 (y % 9223372036854775808) .f32 = false ∧ ∀ z, Rp .f32 (cvt .f64 (y % 9223372036854775808) .f32) z → Is32 (absO X) z)
    (hK : ∀ z n, Is32 (absO X) z → wpList P ops Q rest (a.put o.dst (.float .f32 z)) (w.drewN n)) : wpList P ops Q (o :: rest) a w := by
  refine wpList_want hw fun K hK' => ?_
  obtain ⟨z, n, hrun, hz⟩ := run_cvt (P := P) w src dst .f64 .f32 (y % 9223372036854775808) hs hd h.2.1
  unfold Oper.wp
  simp [execOp, hop, hl, hrun, Result.andThen, Oper.upon]
  exact hK' _ _ (hK z n (h.2.2 z hz))
end
end Go.Proofs.Ytgjgggclcmcpgac
