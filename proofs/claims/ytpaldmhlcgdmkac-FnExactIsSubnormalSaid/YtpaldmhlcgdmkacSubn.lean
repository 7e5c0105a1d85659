/- Subnormal numbers: the program and its model alike; the walk of the law. -/
import Derived.Test.YtpaldmhlcgdmkacBitOps
import Derived.RowKit3
namespace Go.Proofs.Ytpaldmhlcgdmkac
open Go.RowKit

theorem compare_zero (a : Int) : (some (compare a 0) == some Ordering.eq) = decide (a = 0) := by
  show (some (compareOfLessAndEq a 0) == some Ordering.eq) = _
  unfold compareOfLessAndEq
  split
  · rw [decide_eq_false (by omega)]; rfl
  · split
    · rename_i h; rw [decide_eq_true h]; rfl
    · rename_i h; rw [decide_eq_false h]; rfl

theorem signed_zero (s : Bool) (m u : Nat) : (Ieee.signed s m u = 0) ↔ m = 0 := by
  unfold Ieee.signed
  have : m <<< u = m * 2 ^ u := Nat.shiftLeft_eq ..
  have h2 := Nat.two_pow_pos u
  constructor
  · intro h
    have : m * 2 ^ u = 0 := by split at h <;> omega
    rcases Nat.mul_eq_zero.1 this with h | h <;> omega
  · rintro rfl
    split <;> simp

theorem order_zero_32 (x : Nat) : (FloatKind.f32.format.order x 0 == some .eq) = decide (x % 2147483648 = 0) := by
  have h : FloatKind.f32.format.order x 0 = (FloatKind.f32.decode x).order (.number false 0 (-149)) := rfl
  rw [h, read_single]
  split
  · simp only [Ieee.Datum.order]
    rw [show Ieee.signed false 0 _ = 0 from (signed_zero ..).2 rfl, compare_zero, Bool.eq_iff_iff, decide_eq_true_eq, decide_eq_true_eq, signed_zero]
  · rename_i h1
    split
    · simp only [Ieee.Datum.order]
      rw [show Ieee.signed false 0 _ = 0 from (signed_zero ..).2 rfl, compare_zero, Bool.eq_iff_iff, decide_eq_true_eq, decide_eq_true_eq, signed_zero]
      omega
    · rw [decide_eq_false (by omega)]
      split
      · simp only [Ieee.Datum.order]; split <;> rfl
      · rfl

def subn (x : Nat) : Bool := decide (0 < x % 2147483648 ∧ x % 2147483648 < 8388608)
theorem subn_ubits (x : Nat) : (if 0 < ubitsI x then decide (ubitsI x < 8388608) else false) = subn x := by
  unfold subn ubitsI
  split <;> split <;> rw [Bool.eq_iff_iff] <;> simp <;> omega

theorem andExp_bitsI (x : Nat) (hx : x < 4294967296) : (bits .and .i64 (bitsI x) 2139095040 == 0) = decide (x % 2147483648 < 8388608) := by
  unfold bitsI
  split
  · rw [decide_eq_false (by omega)]
    exact i64_andExp 2143289344 (by decide)
  · exact i64_andExp x hx

set_option maxHeartbeats 400000 in
theorem isSubnormal_any (x : Nat) (hx : x < 4294967296) (w : World) :
    Calls Try.prog 15 #[.float .f32 x] w fun e w' => e = .returned (.bool (subn x)) ∧ w = w' := by
  have H := Lib.hid (subn_ubits x)
  by_cases h : 0 < ubitsI x
  · have e1 := H.out
    rw [if_pos h] at e1
    have H1 := Lib.hid e1
    clear e1 H
    go_enter Try.func15, Try.ntmps15
    go_wp2_with (first | (go_at_call 20; refine (ubits_any x hx _).mono ?_; rintro e w' ⟨rfl, rfl⟩) | go_in | go_back)
    all_goals go_ret
    all_goals exact ⟨by rw [← H1.out]; rfl, rfl⟩
  · have e1 := H.out
    rw [if_neg h] at e1
    have H1 := Lib.hid e1
    clear e1 H
    go_enter Try.func15, Try.ntmps15
    go_wp2_with (first | (go_at_call 20; refine (ubits_any x hx _).mono ?_; rintro e w' ⟨rfl, rfl⟩) | go_in | go_back)
    all_goals go_ret
    all_goals exact ⟨by rw [← H1.out]; rfl, rfl⟩

set_option maxHeartbeats 400000 in
theorem specSubnormal_any (x : Nat) (hx : x < 4294967296) (w : World) :
    Calls Try.prog 14 #[.float .f32 x] w fun e w' => e = .returned (.bool (subn x)) ∧ w = w' := by
  have hz := order_zero_32 x
  have he := andExp_bitsI x hx
  by_cases h : x % 2147483648 = 0
  · have H := Lib.hid (show subn x = false from decide_eq_false (by omega))
    rw [decide_eq_true h] at hz
    have hz' : (FloatKind.f32.format.order x 0 != some .eq) = false := by simp only [bne, hz]; rfl
    clear he h
    go_enter Try.func14, Try.ntmps14
    go_wp2_with (first | go_in | go_back)
    all_goals go_ret
    all_goals exact ⟨by rw [H.out]; rfl, rfl⟩
  · have H := Lib.hid (show subn x = decide (x % 2147483648 < 8388608) by unfold subn; rw [Bool.eq_iff_iff]; simp; omega)
    rw [decide_eq_false h] at hz
    have hz' : (FloatKind.f32.format.order x 0 != some .eq) = true := by simp only [bne, hz]; rfl
    have He := Lib.hid he
    clear he h
    go_enter Try.func14, Try.ntmps14
    go_wp2_with (first | (go_at_call 19; refine (bits_no x _ hx _ (.inl rfl)).mono ?_; rintro e w' ⟨rfl, rfl⟩) | go_in | go_back)
    all_goals go_ret
    all_goals exact ⟨by rw [H.out, ← He.out]; rfl, rfl⟩

set_option maxHeartbeats 400000 in
theorem walk_FnExactIsSubnormal (x : Nat) (hx : x < 4294967296) (w : World) :
    Calls Try.prog 6 #[.float .f32 x] w fun e w' => e = .returned (.bool true) ∧ Grown w w' := by
  go_enter Try.func6, Try.ntmps6
  go_wp2_with (first | (go_at_call 14; refine (specSubnormal_any x hx _).mono ?_; rintro e w' ⟨rfl, rfl⟩) | (go_at_call 15; refine (isSubnormal_any x hx _).mono ?_; rintro e w' ⟨rfl, rfl⟩) | go_in | go_back)
  all_goals go_ret
  all_goals exact ⟨rfl, Grown.refl _⟩
end Go.Proofs.Ytpaldmhlcgdmkac
