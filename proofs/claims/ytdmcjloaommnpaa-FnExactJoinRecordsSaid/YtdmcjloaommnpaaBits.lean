/- The bits of 32-bit numbers, as the program and its model read and write them; when two 64-bit numbers are the same. -/
import Derived.Test.YtdmcjloaommnpaaRows
import Derived.Test.YtdmcjloaommnpaaFlo
import Derived.Laws.Externs
import Derived.Lib.Hide
namespace Go.Proofs.Ytdmcjloaommnpaa

theorem b32_run (x : Nat) (w : World) : (callFunc 109 #[.float .f32 x]).run Try.prog w = .ok (.value (.int .u32 x)) w := by
  rw [run_callFunc_extern Try.func109 (by kernel_rfl) (by kernel_rfl) (by kernel_rfl) (show Extern.find Try.f109 = some Extern.MathFloatBits.float32bits by kernel_rfl)]
  rfl


theorem order_self_32 (x : Nat) : FloatKind.f32.format.order x x = if 2139095040 < x % 2147483648 then none else some .eq := by
  have h : FloatKind.f32.format.order x x = (FloatKind.f32.decode x).order (FloatKind.f32.decode x) := rfl
  rw [h]
  have h2 := nan32_iff x
  cases hd : FloatKind.f32.decode x with
  | nan s f => rw [hd] at h2; simp [Ieee.Datum.isNaN] at h2; simp [Ieee.Datum.order, h2]
  | infinity s => rw [hd] at h2; simp [Ieee.Datum.isNaN] at h2; rw [if_neg (by omega)]; simp [Ieee.Datum.order]
  | number s m e => rw [hd] at h2; simp [Ieee.Datum.isNaN] at h2; rw [if_neg (by omega)]; simp [Ieee.Datum.order]

theorem order_self_64 (x : Nat) : FloatKind.f64.format.order x x = if 9218868437227405312 < x % 9223372036854775808 then none else some .eq := by
  have h : FloatKind.f64.format.order x x = (FloatKind.f64.decode x).order (FloatKind.f64.decode x) := rfl
  rw [h]
  have h2 := nan64_iff x
  cases hd : FloatKind.f64.decode x with
  | nan s f => rw [hd] at h2; simp [Ieee.Datum.isNaN] at h2; simp [Ieee.Datum.order, h2]
  | infinity s => rw [hd] at h2; simp [Ieee.Datum.isNaN] at h2; rw [if_neg (by omega)]; simp [Ieee.Datum.order]
  | number s m e => rw [hd] at h2; simp [Ieee.Datum.isNaN] at h2; rw [if_neg (by omega)]; simp [Ieee.Datum.order]

/-- The bits of a number as an integer: one value for all that are no numbers. -/
def bitsI (x : Nat) : Int := if 2139095040 < x % 2147483648 then 2143289344 else (x : Int)

theorem bitsI_range (x : Nat) (h : x < 4294967296) : 0 ≤ bitsI x ∧ bitsI x ≤ 4294967295 := by
  unfold bitsI; split <;> omega

set_option maxHeartbeats 400000 in
theorem ibits_any (x : Nat) (w : World) (hx : x < 4294967296) :
    Calls Try.prog 105 #[.float .f32 x] w fun e w' => e = .returned (.int .i64 (bitsI x)) ∧ w = w' := by
  have hb := b32_run x
  have hs := order_self_32 x
  by_cases hn : 2139095040 < x % 2147483648
  · rw [if_pos hn] at hs
    have hv : bitsI x = 2143289344 := by unfold bitsI; rw [if_pos hn]
    have Hv := Lib.hid hv
    clear hv hn
    go_enter Try.func105, Try.ntmps105
    go_wp2
    go_ret
    exact ⟨by rw [Hv.out]; rfl, rfl⟩
  · rw [if_neg hn] at hs
    have hv : bitsI x = (x : Int) := by unfold bitsI; rw [if_neg hn]
    have Hv := Lib.hid hv
    clear hv hn
    go_enter Try.func105, Try.ntmps105
    go_wp2
    go_ret
    exact ⟨by rw [Hv.out]; rfl, rfl⟩
end Go.Proofs.Ytdmcjloaommnpaa
