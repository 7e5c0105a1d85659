/- A number less itself is nought just where it is finite. -/
import Derived.Test.YtdmcjloaommnpaaBitOps
namespace Go.Proofs.Ytdmcjloaommnpaa

theorem sub_self_32 (x z : Nat) (h : Rp .f32 (floatBits .sub .f32 x x) z) : (FloatKind.f32.format.order z 0 == some .eq) = decide (x % 2147483648 < 2139095040) := by
  have hd : floatBits .sub .f32 x x = ((FloatKind.f32.decode x).sum (FloatKind.f32.decode x).opposite).map FloatKind.f32.format.write := rfl
  rw [hd] at h
  have h2 := read_single x
  by_cases hf : x % 2147483648 < 2139095040
  · have hn : ∃ g m e, FloatKind.f32.decode x = .number g m e := by
      rw [h2]; split
      · exact ⟨_, _, _, rfl⟩
      · exact ⟨_, _, _, rfl⟩
    obtain ⟨g, m, e, hn⟩ := hn
    have ht : Ieee.signed g m 0 + Ieee.signed (!g) m 0 = 0 := by
      cases g <;> simp [Ieee.signed] <;> omega
    have hz : ((FloatKind.f32.decode x).sum (FloatKind.f32.decode x).opposite).map FloatKind.f32.format.write = some 0 := by
      rw [hn]
      simp only [Ieee.Datum.opposite, Ieee.Datum.sum, Int.min_self, Int.sub_self, Int.toNat_zero, ht, Option.map_some, Ieee.Format.write, Ieee.Format.nearest, Int.natAbs_zero, if_true, Bool.and_not_self, Ieee.Format.word]
      rfl
    rw [hz] at h
    obtain rfl : z = 0 := h
    rw [decide_eq_true hf]
    rfl
  · have hn : ((FloatKind.f32.decode x).sum (FloatKind.f32.decode x).opposite).map FloatKind.f32.format.write = none := by
      rw [h2, if_neg (by omega), if_neg hf]
      split
      · cases (x / 2147483648 % 2 == 1) <;> rfl
      · rfl
    rw [hn] at h
    rw [order_nan_left h.1, decide_eq_false hf]
    rfl

theorem finite_eq (x : Nat) : decide (ubitsI x < 2139095040) = decide (x % 2147483648 < 2139095040) := by
  unfold ubitsI
  split
  · rw [decide_eq_false (by omega), decide_eq_false (by omega)]
  · rw [Bool.eq_iff_iff, decide_eq_true_eq, decide_eq_true_eq]; omega

def fin32 (x : Nat) : Bool := decide (x % 2147483648 < 2139095040)

set_option maxHeartbeats 400000 in
theorem l01Finite_any (x : Nat) (w : World) :
    Calls Try.prog 56 #[.float .f32 x] w fun e w' => e = .returned (.bool (fin32 x)) ∧ ∃ n, w' = w.drewN n := by
  have key : ∀ z, Rp .f32 (floatBits .sub .f32 x x) z → Ending.returned (Value.bool (FloatKind.f32.format.order z 0 == some .eq)) = .returned (.bool (fin32 x)) := fun z h => by rw [sub_self_32 x z h]; rfl
  have Key := Lib.hid key
  clear key
  go_enter Try.func56, Try.ntmps56
  go_wp2_with (refine wpList_fl rfl _ _ _ _ _ rfl .f32 _ _ rfl rfl (by decide) ?_; intro z n hz)
  go_ret
  exact ⟨Key.out _ (by assumption), _, rfl⟩

set_option maxHeartbeats 400000 in
theorem isFinite_any (x : Nat) (hx : x < 4294967296) (w : World) :
    Calls Try.prog 60 #[.float .f32 x] w fun e w' => e = .returned (.bool (fin32 x)) ∧ w = w' := by
  have H := Lib.hid (finite_eq x)
  go_enter Try.func60, Try.ntmps60
  go_wp2_with (first | (go_at_call 92; refine (ubits_any x hx _).mono ?_; rintro e w' ⟨rfl, rfl⟩))
  go_ret
  exact ⟨by show Ending.returned (Value.bool (decide (ubitsI x < 2139095040))) = _; rw [H.out]; rfl, rfl⟩

end Go.Proofs.Ytdmcjloaommnpaa
