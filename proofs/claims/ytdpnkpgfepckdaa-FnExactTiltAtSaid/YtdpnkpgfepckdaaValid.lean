/- When a hill is valid: the program and its model alike. -/
import Derived.Test.YtdpnkpgfepckdaaHillH
import Derived.Test.YtdpnkpgfepckdaaFinite
import Derived.Test.YtdpnkpgfepckdaaAllOf
import Derived.IntWalk
namespace Go.Proofs.Ytdpnkpgfepckdaa
open Go.RowKit

def sidesB (wide high : Int) : Bool := decide (1 ≤ wide) && decide (wide ≤ 16) && decide (1 ≤ high) && decide (high ≤ 16)
theorem sidesB_true {wide high : Int} (h : sidesB wide high = true) : 1 ≤ wide ∧ wide ≤ 16 ∧ 1 ≤ high ∧ high ≤ 16 := by
  simp [sidesB] at h; omega
def validB (wide high : Int) (zs : List Nat) : Bool := sidesB wide high && decide ((zs.length : Int) = wide * high) && zs.all fin32
theorem mul_bound {wide high : Int} (h : sidesB wide high = true) : 1 ≤ wide * high ∧ wide * high ≤ 256 := by
  obtain ⟨a, b, c, d⟩ := sidesB_true h
  have h1 : wide * high ≤ 16 * 16 := Int.mul_le_mul b d (by omega) (by omega)
  have h2 : 1 * 1 ≤ wide * high := Int.mul_le_mul a c (by omega) (by omega)
  omega

theorem all_take_succ (zs : List Nat) (k : Nat) (h : k < zs.length) (hk : (zs.take k).all fin32 = true) (hf : fin32 (zs.getD k 0) = true) : (zs.take (k + 1)).all fin32 = true := by
  rw [List.take_succ_eq_append_getElem h, List.all_append, hk]
  rw [List.getD_eq_getElem?_getD, List.getElem?_eq_getElem h] at hf
  simpa using hf
theorem all_not (zs : List Nat) (k : Nat) (h : k < zs.length) (hf : fin32 (zs.getD k 0) = false) : zs.all fin32 = false := by
  rw [List.all_eq_false]
  refine ⟨zs[k], List.getElem_mem h, ?_⟩
  rw [List.getD_eq_getElem?_getD, List.getElem?_eq_getElem h] at hf
  simpa using hf

set_option maxHeartbeats 1000000 in
theorem areSides_any (wide high : Int) (w : World) :
    Calls Try.prog 85 #[.int .i64 wide, .int .i64 high] w fun e w' => e = .returned (.bool (sidesB wide high)) ∧ w = w' := by
  unfold sidesB
  by_cases h1 : 1 ≤ wide <;> by_cases h2 : wide ≤ 16 <;> by_cases h3 : 1 ≤ high <;> by_cases h4 : high ≤ 16
  all_goals
    first | rw [decide_eq_true h1] | rw [decide_eq_false h1]
    first | rw [decide_eq_true h2] | rw [decide_eq_false h2]
    first | rw [decide_eq_true h3] | rw [decide_eq_false h3]
    first | rw [decide_eq_true h4] | rw [decide_eq_false h4]
    go_enter Try.func85, Try.ntmps85
    go_wp2
    go_ret
    exact ⟨rfl, rfl⟩

set_option maxHeartbeats 1000000 in
theorem l02Sides_any (wide high : Int) (w : World) :
    Calls Try.prog 87 #[.int .i64 wide, .int .i64 high] w fun e w' => e = .returned (.bool (sidesB wide high)) ∧ w = w' := by
  unfold sidesB
  by_cases h1 : 1 ≤ wide <;> by_cases h2 : wide ≤ 16 <;> by_cases h3 : 1 ≤ high <;> by_cases h4 : high ≤ 16
  all_goals
    first | rw [decide_eq_true h1] | rw [decide_eq_false h1]
    first | rw [decide_eq_true h2] | rw [decide_eq_false h2]
    first | rw [decide_eq_true h3] | rw [decide_eq_false h3]
    first | rw [decide_eq_true h4] | rw [decide_eq_false h4]
    go_enter Try.func87, Try.ntmps87
    go_wp2
    go_ret
    exact ⟨rfl, rfl⟩

theorem l01Finite_b (x : Nat) (b : Bool) (h : fin32 x = b) (w : World) :
    Calls Try.prog 61 #[.float .f32 x] w fun e w' => e = .returned (.bool b) ∧ ∃ n, w' = w.drewN n := h ▸ l01Finite_any x w
theorem isFinite_b (x : Nat) (hx : x < 4294967296) (b : Bool) (h : fin32 x = b) (w : World) :
    Calls Try.prog 66 #[.float .f32 x] w fun e w' => e = .returned (.bool b) ∧ w = w' := h ▸ isFinite_any x hx w

set_option maxHeartbeats 1000000 in
theorem l02Finite_any (a : Option Addr) (cap : Nat) (zs : List Nat) (w : World) (h : RowF .f32 w a zs) (hl : zs.length ≤ 1048576) :
    Calls Try.prog 75 #[.slice a zs.length cap] w fun e w' => e = .returned (.bool (zs.all fin32)) ∧ ∃ n, w' = w.drewN n := by
  have Hc := Lib.hid h.cells
  clear h
  obtain ⟨len, hlen⟩ : ∃ len, zs.length = len := ⟨_, rfl⟩
  rw [hlen] at hl ⊢
  have Hlen := Lib.hid hlen
  clear hlen
  go_enter Try.func75, Try.ntmps75
  go_wp2_with fail
  go_loopw [3] (fun i wr => ∃ k n : Nat, k ≤ len ∧ i = .int .i64 k ∧ (zs.take k).all fin32 = true ∧ wr = w.drewN n) (fun i _ => len - (intOf i).toNat)
  case atStart => exact ⟨0, 0, Nat.zero_le _, rfl, rfl, rfl⟩
  case round =>
    obtain ⟨k, n, hk, rfl, hall, rfl⟩ := hrel
    have Hall := Lib.hid hall
    clear hall
    by_cases hlt : k < len
    · obtain ⟨b, off, rfl, h1⟩ := Hc.out k (by rw [Hlen.out]; exact hlt)
      obtain ⟨z, hz⟩ : ∃ z, zs.getD k 0 = z := ⟨_, rfl⟩
      rw [hz] at h1
      have Hz := Lib.hid hz
      clear hz
      cases hf : fin32 z
      · have Hf := Lib.hid hf
        clear hf
        go_wp2_with (go_at_call 61; refine (l01Finite_b z false Hf.out _).mono ?_; rintro e w' ⟨rfl, m, rfl⟩)
        go_ret
        exact ⟨by rw [all_not zs k (by rw [Hlen.out]; exact hlt) (by rw [Hz.out]; exact Hf.out)]; rfl, _, rfl⟩
      · have Hf := Lib.hid hf
        clear hf
        go_wp2_with (go_at_call 61; refine (l01Finite_b z true Hf.out _).mono ?_; rintro e w' ⟨rfl, m, rfl⟩)
        go_roundw
        case rel => exact ⟨k + 1, _, by omega, by go_num, all_take_succ zs k (by rw [Hlen.out]; exact hlt) Hall.out (by rw [Hz.out]; exact Hf.out), rfl⟩
        case measure => simp [intOf]; omega
    · obtain rfl : k = len := by omega
      go_wp2_with fail
      go_ret
      have h2 := Hall.out
      rw [← Hlen.out, List.take_length] at h2
      exact ⟨by rw [h2]; rfl, _, rfl⟩

set_option maxHeartbeats 1000000 in
theorem areNumbersOf_any (wide high : Int) (a0 : Option Addr) (len0 cap0 : Nat) (a : Option Addr) (cap : Nat) (zs : List Nat) (w : World) (hs : sidesB wide high = true) (h : RowF .f32 w a zs) (hl : zs.length ≤ 1048576) (hz : ∀ z ∈ zs, z < 4294967296) :
    Calls Try.prog 86 #[.agg #[.int .i64 wide, .int .i64 high, .slice a0 len0 cap0], .slice a zs.length cap] w
      fun e w' => e = .returned (.bool (decide ((zs.length : Int) = wide * high) && zs.all fin32)) ∧ Below w.heap.size w w' := by
  have H := Lib.hid h
  have hm := mul_bound hs
  have Hz := Lib.hid hz
  obtain ⟨s1, s2, s3, s4⟩ := sidesB_true hs
  clear h hs hz
  have hmul : IntKind.i64.wrap (wide * high) = wide * high := IntWalk.i64_in _ (by omega)
  by_cases he : (zs.length : Int) = wide * high
  · have he2 : ((zs.length : Int) == wide * high) = true := by simpa using he
    rw [decide_eq_true he, Bool.true_and]
    have He := Lib.hid he
    clear he
    go_enter Try.func86, Try.ntmps86
    go_wp2_with fail
    refine (allOf_f 66 fin32 (enters_of Try.func66 (by kernel_rfl) rfl) a cap zs _ (fun z hz W => (isFinite_any z hz W).mono fun _ _ h9 => ⟨_, rfl, h9.1, h9.2⟩) (H.out.below (below1 _ _) (Nat.le_refl _)) hl Hz.out).mono ?_
    rintro e w1 ⟨bb, rfl, rfl, hb⟩
    have Hb := Lib.hid ((below1 _ _).trans (hb.mono (by simp)))
    clear hb
    go_wp2_with fail
    go_ret
    exact ⟨rfl, Hb.out⟩
  · have he2 : ((zs.length : Int) == wide * high) = false := by simpa using he
    rw [decide_eq_false he, Bool.false_and]
    have He := Lib.hid he
    clear he
    go_enter Try.func86, Try.ntmps86
    go_wp2_with fail
    go_ret
    exact ⟨rfl, below1 _ _⟩

/-- What came of asking whether a hill is valid. -/
def Says (b : Bool) (w : World) (e : Ending) (w' : World) : Prop := e = .returned (.bool b) ∧ Below w.heap.size w w'

set_option maxHeartbeats 1000000 in
theorem validHill_any (wide high : Int) (a : Option Addr) (cap : Nat) (zs : List Nat) (w : World) (h : RowF .f32 w a zs) (hl : zs.length ≤ 1048576) (hz : ∀ z ∈ zs, z < 4294967296) :
    Calls Try.prog 54 #[.agg #[.int .i64 wide, .int .i64 high, .slice a zs.length cap]] w (Says (validB wide high zs) w) := by
  unfold validB
  have H := Lib.hid h
  have Hz := Lib.hid hz
  clear h hz
  cases hs : sidesB wide high
  · have Hs := Lib.hid hs
    clear hs
    go_enter Try.func54, Try.ntmps54
    go_wp2_with (go_at_call 85; refine ((Hs.out ▸ areSides_any wide high _ : Calls _ _ _ _ (fun e w' => e = .returned (.bool false) ∧ _ = w'))).mono ?_; rintro e w' ⟨rfl, rfl⟩)
    go_ret
    exact ⟨rfl, below1 _ _⟩
  · have Hs := Lib.hid hs
    clear hs
    go_enter Try.func54, Try.ntmps54
    go_wp2_with (go_at_call 85; refine ((Hs.out ▸ areSides_any wide high _ : Calls _ _ _ _ (fun e w' => e = .returned (.bool true) ∧ _ = w'))).mono ?_; rintro e w' ⟨rfl, rfl⟩)
    refine (areNumbersOf_any wide high a zs.length cap a cap zs _ Hs.out (H.out.below (below1 _ _) (Nat.le_refl _)) hl Hz.out).mono ?_
    rintro e w1 ⟨rfl, hb⟩
    have Hb := Lib.hid ((below1 _ _).trans (hb.mono (by simp)))
    clear hb
    go_wp2_with fail
    go_ret
    exact ⟨rfl, Hb.out⟩
end Go.Proofs.Ytdpnkpgfepckdaa
