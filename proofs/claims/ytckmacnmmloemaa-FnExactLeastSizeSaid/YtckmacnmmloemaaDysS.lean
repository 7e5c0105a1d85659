/- Days: the model. -/
import Derived.Test.YtckmacnmmloemaaDayD
import Derived.Test.YtckmacnmmloemaaSs
namespace Go.Proofs.Ytckmacnmmloemaa
open Go.RowKit
set_option linter.unusedVariables false
set_option linter.unusedSimpArgs false
set_option maxRecDepth 100000
attribute [local irreducible] wpV wpList Code.wp

/-- Days of n inflows each. -/
def daysB (Zs : List (List Int)) (n : Nat) : Bool := (List.range Zs.length).all fun k => inflB (zr Zs k) (zr Zs k).length n
theorem allr_succ {p : Nat → Bool} {k : Nat} (hk : (List.range k).all p = true) (h : p k = true) : (List.range (k + 1)).all p = true := by rw [List.range_succ, List.all_append, hk]; simp [h]
theorem allr_no {p : Nat → Bool} {k n : Nat} (h : k < n) (hf : p k = false) : (List.range n).all p = false := by rw [List.all_eq_false]; exact ⟨k, List.mem_range.2 h, by rw [hf]; simp⟩
theorem daysB_at {Zs : List (List Int)} {n k : Nat} (h : daysB Zs n = true) (hk : k < Zs.length) : (zr Zs k).length = n ∧ ∀ i, i < n → 0 ≤ (zr Zs k).getD i 0 ∧ (zr Zs k).getD i 0 ≤ 1000000000 := by
  unfold daysB at h
  rw [List.all_eq_true] at h
  have h1 := h k (List.mem_range.2 hk)
  unfold inflB at h1
  rw [Bool.and_eq_true, decide_eq_true_eq] at h1
  refine ⟨h1.1, fun i hi => ?_⟩
  have h2 := h1.2
  unfold allWn at h2
  rw [List.all_eq_true] at h2
  have h3 := h2 i (List.mem_range.2 (by omega))
  unfold unitB at h3
  rw [Bool.and_eq_true, decide_eq_true_eq, decide_eq_true_eq] at h3
  exact h3
set_option maxHeartbeats 4000000 in
theorem l06Days_any (a : Option Addr) (len cap n : Nat) (Zs : List (List Int)) (w : World) (h : RowSS w a Zs) (hlen : Zs.length = len) (hrl : ∀ k, k < len → (zr Zs k).length ≤ 1048576) (hl : len ≤ 1048576) (hn : n ≤ 1048576) :
    Calls Try.prog 63 #[.slice a len cap, .int .i64 (n : Int)] w fun e w' => e = .returned (.bool (decide (len ≤ 64) && daysB Zs n)) ∧ w' = w := by
  have H := Lib.hid h
  have Hlen := Lib.hid hlen
  have Hrl := Lib.hid hrl
  clear h hlen hrl
  by_cases h64 : len ≤ 64
  · have h64i : (len : Int) ≤ 64 := by omega
    have hdv : decide (len ≤ 64) = true := decide_eq_true h64
    rw [hdv, Bool.true_and]
    clear hdv
    obtain ⟨bb, hbb⟩ : ∃ b, daysB Zs n = b := ⟨_, rfl⟩
    rw [hbb]
    have HV : Hid ((List.range len).all (fun k => inflB (zr Zs k) (zr Zs k).length n) = bb) := Lib.hid (by rw [← hbb, ← Hlen.out]; rfl)
    clear hbb
    go_enter Try.func63, Try.ntmps63
    go_wp2_with fail
    go_loopw [5] (fun iv wr => ∃ k : Nat, k ≤ len ∧ iv = .int .i64 (k : Int) ∧ Hid ((List.range k).all (fun k => inflB (zr Zs k) (zr Zs k).length n) = true) ∧ wr = w) (fun iv _ => len - (intOf iv).toNat)
    case atStart => exact ⟨0, Nat.zero_le _, rfl, Lib.hid rfl, rfl⟩
    case round =>
    obtain ⟨k, hk, rfl, HA, rfl⟩ := hrel
    have hk0 : (0 : Int) ≤ (k : Int) := by omega
    by_cases hlt : k < len
    · have hk1 : (k : Int) < (len : Int) := by omega
      obtain ⟨b, off, rfl, hb, hc⟩ : ∃ b off, a = some ⟨b, off, none⟩ ∧ b < wr.heap.size ∧ ∀ k, k < Zs.length → ∃ ak ck, wr.cell? ⟨b, off + k, none⟩ = some (.slice ak (zr Zs k).length ck) ∧ RowC wr ak (ic (zr Zs k)) := by
        rcases H.out with h9 | h9
        · have h8 := Hlen.out; rw [h9, List.length_nil] at h8; omega
        · exact h9
      obtain ⟨ak, ck, hcell, hrow⟩ := hc k (by rw [Hlen.out]; exact hlt)
      have hlk := Hrl.out k hlt
      obtain ⟨bk, hbk⟩ : ∃ b, inflB (zr Zs k) (zr Zs k).length n = b := ⟨_, rfl⟩
      have HC := Lib.hid (l06Inflows_any ak (zr Zs k).length ck n (zr Zs k) wr hrow rfl hlk hn)
      rw [hbk] at HC
      obtain ⟨lk, hll⟩ : ∃ l, (zr Zs k).length = l := ⟨_, rfl⟩
      have Hbk := Lib.hid hbk
      rw [hll] at hcell HC
      clear hc hrow hlk hll hbk
      go_wp2_with fail
      refine HC.out.mono ?_
      rintro e w' ⟨rfl, rfl⟩
      clear HC hcell
      cases bk
      · have hf : bb = false := by rw [← HV.out]; exact allr_no hlt Hbk.out
        go_wp2_with fail
        go_ret
        exact ⟨by rw [hf]; first | done | rfl, rfl⟩
      · have HA1 := Lib.hid (allr_succ HA.out Hbk.out)
        go_wp2_with fail
        go_roundw
        case rel => exact ⟨k + 1, by omega, by go_num, HA1, by first | trivial | rfl⟩
        case measure => simp [intOf]; omega
    · obtain rfl : k = len := by omega
      have ht : bb = true := by rw [← HV.out]; exact HA.out
      go_wp2_with fail
      go_ret
      exact ⟨by rw [ht]; first | done | rfl | (simp; done) | (simp; omega), rfl⟩
  · have h64i : ¬ (len : Int) ≤ 64 := by omega
    have hdv : decide (len ≤ 64) = false := decide_eq_false h64
    rw [hdv, Bool.false_and]
    clear hdv
    go_enter Try.func63, Try.ntmps63
    go_wp2_with fail
    go_loopw [5] (fun iv wr => iv = .int .i64 0 ∧ wr = w) (fun iv _ => 0)
    case atStart => exact ⟨rfl, rfl⟩
    case round =>
    obtain ⟨rfl, rfl⟩ := hrel
    have h0l : (0 : Int) < (len : Int) := by omega
    go_wp2_with fail
    go_ret
    exact ⟨by first | rfl | (simp; done) | (simp; omega), rfl⟩

end Go.Proofs.Ytckmacnmmloemaa
