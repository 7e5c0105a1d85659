/- 'sameFloat' of two numbers that are told alike (or are both no numbers) is true. -/
import Derived.Test.YtdmcjloaommnpaaBits
import Derived.Test.YtdmcjloaommnpaaFloOps
import Derived.RowKit3
namespace Go.Proofs.Ytdmcjloaommnpaa
open Go.RowKit

theorem ford_const {k : FloatKind} {X : Option Nat} {x y c : Nat} (hx : Rp k X x) (hy : Rp k X y) : k.format.order x c = k.format.order y c := by
  rw [hx.ford (Rp.refl k c), hy.ford (Rp.refl k c)]

theorem quo_same {o : Option Nat} {z1 z2 : Nat} (h1 : Rp .f64 o z1) (h2 : Rp .f64 o z2) :
    Ending.returned (Value.bool ((FloatKind.f64.format.order z1 0 == some .gt) == (FloatKind.f64.format.order z2 0 == some .gt))) = .returned (.bool true) := by
  rw [ford_const (c := 0) h1 h2]
  simp

set_option maxHeartbeats 400000 in
theorem sameFloat_true (o : Option Nat) (x y : Nat) (hx : Rp .f64 o x) (hy : Rp .f64 o y) (w : World) :
    Calls Try.prog 21 #[.float .f64 x, .float .f64 y] w fun e w' => e = .returned (.bool true) ∧ ∃ n, w' = w.drewN n := by
  by_cases hn : 9218868437227405312 < x % 9223372036854775808
  · have h1 : FloatKind.f64.format.order x x = none := by rw [order_self_64, if_pos hn]
    have h2 : FloatKind.f64.format.order y y = none := by
      cases o with
      | none => exact order_nan_left hy.1
      | some c => obtain rfl : x = c := hx; obtain rfl : y = x := hy; exact h1
    clear hn hx hy
    go_enter Try.func21, Try.ntmps21
    go_wp2
    go_ret
    exact ⟨rfl, 0, rfl⟩
  · have hc : ∃ c, o = some c := by
      cases o with
      | none => have := hx.1; rw [nan64_iff, decide_eq_true_eq] at this; exact absurd this hn
      | some c => exact ⟨c, rfl⟩
    obtain ⟨c, rfl⟩ := hc
    obtain rfl : x = c := hx
    obtain rfl : y = x := hy
    have h1 : FloatKind.f64.format.order y y = some .eq := by rw [order_self_64, if_neg hn]
    clear hn
    by_cases hz : (FloatKind.f64.format.order y 0 == some .eq) = true
    · go_enter Try.func21, Try.ntmps21
      go_wp2_with (refine wpList_fl rfl _ _ _ _ _ rfl .f64 _ _ rfl rfl (by decide) ?_; intro z n hz)
      go_ret
      exact ⟨quo_same (by assumption) (by assumption), _, rfl⟩
    · have hz' : (FloatKind.f64.format.order y 0 == some .eq) = false := by simpa using hz
      clear hz
      go_enter Try.func21, Try.ntmps21
      go_wp2
      go_ret
      exact ⟨rfl, 0, rfl⟩
end Go.Proofs.Ytdmcjloaommnpaa
