/- Check numbers of texts: the program and its model alike; the walk of the law. -/
import Derived.Test.YtpaldmhlcgdmkacRows
import Derived.WalkKit
import Derived.RowKit3
import Derived.Lib.Hide
namespace Go.Proofs.Ytpaldmhlcgdmkac
open Go.RowKit

def chk (n : Int) (l : List UInt8) : Int := l.foldl (fun n c => (827 * n + (c.toNat : Int) + 127) % 65003) n
theorem chk_range (n : Int) (l : List UInt8) (h0 : 0 ≤ n) (h1 : n < 65003) : 0 ≤ chk n l ∧ chk n l < 65003 := by
  induction l generalizing n with
  | nil => exact ⟨h0, h1⟩
  | cons c l ih => exact ih _ (Int.emod_nonneg _ (by decide)) (Int.emod_lt_of_pos _ (by decide))
theorem chk_snoc (n : Int) (l : List UInt8) (c : UInt8) : chk n (l ++ [c]) = (827 * chk n l + (c.toNat : Int) + 127) % 65003 := by
  unfold chk; rw [List.foldl_append]; rfl
theorem take_snoc (s : ByteArray) (k : Nat) (h : k < s.size) : s.data.toList.take (k + 1) = s.data.toList.take k ++ [s[k]] := by
  rw [List.take_succ_eq_append_getElem (by simpa using h)]; rfl
theorem byte_lt (c : UInt8) : c.toNat < 256 := c.toNat_lt
theorem ret_int {k : IntKind} {a b : Int} (h : a = b) : Ending.returned (.int k a) = .returned (.int k b) := by rw [h]

set_option maxHeartbeats 400000 in
theorem l01Check_any (n : Int) (s : ByteArray) (h0 : 0 ≤ n) (h1 : n < 65003) (hs : s.size ≤ 1048576) (w : World) :
    Calls Try.prog 17 #[.int .i64 n, .string s] w fun e w' => e = .returned (.int .i64 (chk n s.data.toList)) ∧ w = w' := by
  go_enter Try.func17, Try.ntmps17
  go_wp2
  go_loop [0, 5] (fun c i => ∃ k : Nat, k ≤ s.size ∧ i = .int .i64 k ∧ c = .int .i64 (chk n (s.data.toList.take k))) (fun _ i => s.size - (intOf i).toNat)
  case atStart => exact ⟨0, Nat.zero_le _, rfl, rfl⟩
  case round =>
    obtain ⟨k, hk, rfl, rfl⟩ := hrel
    obtain ⟨hr0, hr1⟩ := chk_range n (s.data.toList.take k) h0 h1
    by_cases hlt : k < s.size
    · have hb := byte_lt s[k]
      have HS : Hid (chk n (s.data.toList.take (k + 1)) = (827 * chk n (s.data.toList.take k) + (s[k].toNat : Int) + 127) % 65003) := by rw [take_snoc s k hlt]; exact chk_snoc ..
      generalize chk n (s.data.toList.take k) = c at *
      go_wp2
      all_goals
        go_round
        case rel => exact ⟨k + 1, by omega, by go_num, by rw [HS.out]⟩
        case measure => simp [intOf]; omega
    · go_wp2
      go_ret
      exact ⟨ret_int (by rw [List.take_of_length_le (by simp; omega)]), rfl⟩

set_option maxHeartbeats 400000 in
theorem checkOf_any (n : Int) (s : ByteArray) (h0 : 0 ≤ n) (h1 : n < 65003) (hs : s.size ≤ 1048576) (w : World) :
    Calls Try.prog 10 #[.int .i64 n, .string s] w fun e w' => e = .returned (.tuple #[.int .i64 (chk n s.data.toList), .bool true]) ∧ w = w' := by
  go_enter Try.func10, Try.ntmps10
  go_wp2
  go_loop [6, 17] (fun c i => ∃ k : Nat, k ≤ s.size ∧ i = .int .i64 k ∧ c = .int .i64 (chk n (s.data.toList.take k))) (fun _ i => s.size - (intOf i).toNat)
  case atStart => exact ⟨0, Nat.zero_le _, rfl, rfl⟩
  case round =>
    obtain ⟨k, hk, rfl, rfl⟩ := hrel
    obtain ⟨hr0, hr1⟩ := chk_range n (s.data.toList.take k) h0 h1
    by_cases hlt : k < s.size
    · have hb := byte_lt s[k]
      have HS : Hid (chk n (s.data.toList.take (k + 1)) = (827 * chk n (s.data.toList.take k) + (s[k].toNat : Int) + 127) % 65003) := by rw [take_snoc s k hlt]; exact chk_snoc ..
      generalize chk n (s.data.toList.take k) = c at *
      go_wp2
      all_goals
        go_round
        case rel => exact ⟨k + 1, by omega, by go_num, by rw [HS.out]⟩
        case measure => simp [intOf]; omega
    · have HE := Lib.hid (show chk n (s.data.toList.take k) = chk n s.data.toList by rw [List.take_of_length_le (by simp; omega)])
      go_wp2
      go_ret2
      exact ⟨by rw [← HE.out]; rfl, rfl⟩

set_option maxHeartbeats 1000000 in
theorem walk_FnExactCheckOf (n : Int) (s : ByteArray) (_ : (Lit.int .i64 n).wf = true) (hs : s.size ≤ maxLen) (w : World) :
    Calls Try.prog 4 #[.int .i64 n, .string s] w fun e w' => e = .returned (.bool true) ∧ Grown w w' := by
  unfold maxLen at hs
  by_cases hl : s.size ≤ 1048576
  · by_cases h : 0 ≤ n ∧ n < 65003
    · obtain ⟨h0, h1⟩ := h
      have hd : decide (n ≤ 65002) = true := by simp; omega
      go_enter Try.func4, Try.ntmps4
      go_wp2_with (first | (go_at_call 17; refine (l01Check_any n s h0 h1 hl _).mono ?_; rintro e w' ⟨rfl, rfl⟩) | (go_at_call 10; refine (checkOf_any n s h0 h1 hl _).mono ?_; rintro e w' ⟨rfl, rfl⟩) | go_in | go_back)
      all_goals go_ret
      all_goals exact ⟨rfl, Grown.refl _⟩
    · have h' : n < 0 ∨ 65003 ≤ n := by omega
      clear h
      rcases h' with h' | h'
      · go_enter Try.func4, Try.ntmps4
        go_wp2_with (first | go_in | go_back)
        all_goals go_ret
        all_goals exact ⟨rfl, Grown.refl _⟩
      · have hd : decide (n ≤ 65002) = false := by simp; omega
        have hd2 : decide (65003 ≤ n) = true := by simp; omega
        go_enter Try.func4, Try.ntmps4
        go_wp2_with (first | go_in | go_back)
        all_goals go_ret
        all_goals exact ⟨rfl, Grown.refl _⟩
  · go_enter Try.func4, Try.ntmps4
    go_wp2_with (first | go_in | go_back)
    all_goals go_ret
    all_goals exact ⟨rfl, Grown.refl _⟩
end Go.Proofs.Ytpaldmhlcgdmkac
