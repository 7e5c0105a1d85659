/- Flushed numbers: the program and its model alike; the walk of the law. -/
import Derived.Test.YtpaldmhlcgdmkadBitOps
import Derived.Test.YtpaldmhlcgdmkadSame
namespace Go.Proofs.Ytpaldmhlcgdmkad
open Go.RowKit

def flushV (x : Nat) : Nat := if x % 2147483648 < 8388608 then x / 2147483648 * 2147483648 else x

theorem bitsI_small {x : Nat} (h : x % 2147483648 < 8388608) : bitsI x = (x : Int) := by unfold bitsI; rw [if_neg (by omega)]

theorem andExp_bitsI (x : Nat) (hx : x < 4294967296) : (bits .and .i64 (bitsI x) 2139095040 == 0) = decide (x % 2147483648 < 8388608) := by
  unfold bitsI
  split
  · rw [decide_eq_false (by omega)]
    exact i64_andExp 2143289344 (by decide)
  · exact i64_andExp x hx

set_option maxHeartbeats 400000 in
theorem l01Flush_any (x : Nat) (hx : x < 4294967296) (w : World) :
    Calls Try.prog 27 #[.float .f32 x] w fun e w' => e = .returned (.float .f32 (flushV x)) ∧ w = w' := by
  have hb := fb32_run
  have he := andExp_bitsI x hx
  by_cases h : x % 2147483648 < 8388608
  · have hf : flushV x = x / 2147483648 * 2147483648 := by unfold flushV; rw [if_pos h]
    have Hf := Lib.hid hf
    have Hb := Lib.hid (bitsI_small h)
    have ha := i64_and31 x hx
    rw [decide_eq_true h, bitsI_small h] at he
    have hr : x / 2147483648 * 2147483648 ≤ 4294967295 := by omega
    clear hf h
    go_enter Try.func27, Try.ntmps27
    go_wp2_with (first | (go_at_call 47; refine (bits_no x _ hx _ (.inl rfl)).mono ?_; rintro e w' ⟨rfl, rfl⟩; rw [Hb.out]) | go_in | go_back)
    all_goals go_ret
    all_goals exact ⟨by rw [Hf.out]; rfl, rfl⟩
  · have hf : flushV x = x := by unfold flushV; rw [if_neg h]
    have Hf := Lib.hid hf
    rw [decide_eq_false h] at he
    clear hf h
    go_enter Try.func27, Try.ntmps27
    go_wp2_with (first | (go_at_call 47; refine (bits_no x _ hx _ (.inl rfl)).mono ?_; rintro e w' ⟨rfl, rfl⟩) | go_in | go_back)
    all_goals go_ret
    all_goals exact ⟨by rw [Hf.out]; rfl, rfl⟩

def subn (x : Nat) : Bool := decide (0 < x % 2147483648 ∧ x % 2147483648 < 8388608)
theorem subn_ubits (x : Nat) : (if 0 < ubitsI x then decide (ubitsI x < 8388608) else false) = subn x := by
  unfold subn ubitsI
  split <;> split <;> rw [Bool.eq_iff_iff] <;> simp <;> omega

set_option maxHeartbeats 400000 in
theorem isSubnormal_any (x : Nat) (hx : x < 4294967296) (w : World) :
    Calls Try.prog 28 #[.float .f32 x] w fun e w' => e = .returned (.bool (subn x)) ∧ w = w' := by
  have H := Lib.hid (subn_ubits x)
  by_cases h : 0 < ubitsI x
  · have e1 := H.out
    rw [if_pos h] at e1
    have H1 := Lib.hid e1
    clear e1 H
    go_enter Try.func28, Try.ntmps28
    go_wp2_with (first | (go_at_call 49; refine (ubits_any x hx _).mono ?_; rintro e w' ⟨rfl, rfl⟩) | go_in | go_back)
    all_goals go_ret
    all_goals exact ⟨by rw [← H1.out]; rfl, rfl⟩
  · have e1 := H.out
    rw [if_neg h] at e1
    have H1 := Lib.hid e1
    clear e1 H
    go_enter Try.func28, Try.ntmps28
    go_wp2_with (first | (go_at_call 49; refine (ubits_any x hx _).mono ?_; rintro e w' ⟨rfl, rfl⟩) | go_in | go_back)
    all_goals go_ret
    all_goals exact ⟨by rw [← H1.out]; rfl, rfl⟩

set_option maxHeartbeats 400000 in
theorem flush_any (x : Nat) (hx : x < 4294967296) (w : World) :
    Calls Try.prog 11 #[.float .f32 x] w fun e w' => e = .returned (.float .f32 (flushV x)) ∧ w = w' := by
  have hb := fb32_run
  have hc := b32_run x
  by_cases h : subn x = true
  · have hd : 0 < x % 2147483648 ∧ x % 2147483648 < 8388608 := of_decide_eq_true h
    have hf : flushV x = x / 2147483648 * 2147483648 := by unfold flushV; rw [if_pos hd.2]
    have Hf := Lib.hid hf
    have ha := u32_and31 x hx
    have hr : x / 2147483648 * 2147483648 ≤ 4294967295 := by omega
    clear hf hd
    go_enter Try.func11, Try.ntmps11
    go_wp2_with (first | (go_at_call 28; refine (isSubnormal_any x hx _).mono ?_; rintro e w' ⟨rfl, rfl⟩) | go_in | go_back)
    all_goals go_ret
    all_goals exact ⟨by rw [Hf.out]; rfl, rfl⟩
  · have hd : subn x = false := by simpa using h
    have hd' : ¬ (0 < x % 2147483648 ∧ x % 2147483648 < 8388608) := of_decide_eq_false hd
    have hf : flushV x = x := by unfold flushV; split <;> omega
    have Hf := Lib.hid hf
    clear hf hd' h
    go_enter Try.func11, Try.ntmps11
    go_wp2_with (first | (go_at_call 28; refine (isSubnormal_any x hx _).mono ?_; rintro e w' ⟨rfl, rfl⟩) | go_in | go_back)
    all_goals go_ret
    all_goals exact ⟨by rw [Hf.out]; rfl, rfl⟩

set_option maxHeartbeats 400000 in
theorem walk_FnExactFlushNumber (x : Nat) (hx : x < 4294967296) (w : World) :
    Calls Try.prog 3 #[.float .f32 x] w fun e w' => e = .returned (.bool true) ∧ Grown w w' := by
  go_enter Try.func3, Try.ntmps3
  go_wp2_with (first | (go_at_call 27; refine (l01Flush_any x hx _).mono ?_; rintro e w' ⟨rfl, rfl⟩) | (go_at_call 11; refine (flush_any x hx _).mono ?_; rintro e w' ⟨rfl, rfl⟩) | (refine wpList_cvt rfl _ _ _ rfl .f32 .f64 _ rfl (by kernel_rfl) Try.underlying25 (widen_ok _) ?_; intro z n hz) | (go_at_call 12; refine (sameFloat_true _ _ _ (by assumption) (by assumption) _).mono ?_; rintro e w' ⟨rfl, m, rfl⟩) | go_in | go_back)
  all_goals go_ret
  all_goals exact ⟨rfl, Grown.refl _⟩
end Go.Proofs.Ytpaldmhlcgdmkad
