/- What can come to a river in a day. -/
import Derived.Test.YtckmacnmmloemaaValRP
import Derived.Test.YtckmacnmmloemaaRivS
import Derived.Test.YtckmacnmmloemaaAllZ
import Derived.Test.YtckmacnmmloemaaValRI
import Derived.Test.YtckmacnmmloemaaRegMk
namespace Go.Proofs.Ytckmacnmmloemaa
open Go.RowKit
set_option linter.unusedVariables false
set_option linter.unusedSimpArgs false
set_option maxRecDepth 100000
attribute [local irreducible] wpV wpList Code.wp

def inflB (I : List Int) (len n : Nat) : Bool := decide (len = n) && allWn I len
theorem allWn_succ (I : List Int) (k : Nat) : allWn I (k + 1) = (allWn I k && unitB (I.getD k 0)) := by unfold allWn; rw [List.range_succ, List.all_append]; simp
theorem allWn_no {I : List Int} {k n : Nat} (hk : k < n) (h : unitB (I.getD k 0) = false) : allWn I n = false := by
  unfold allWn; rw [List.all_eq_false]; exact ⟨k, List.mem_range.2 hk, by rw [h]; simp⟩
set_option maxHeartbeats 4000000 in
theorem l06Inflows_any (a : Option Addr) (len cap n : Nat) (I : List Int) (w : World) (h : RowC w a (ic I)) (hlen : I.length = len) (hl : len ≤ 1048576) (hn : n ≤ 1048576) :
    Calls Try.prog 52 #[.slice a len cap, .int .i64 (n : Int)] w fun e w' => e = .returned (.bool (inflB I len n)) ∧ w' = w := by
  have H := Lib.hid h
  have HLn := Lib.hid hlen
  clear h hlen
  by_cases hnn : len = n
  · subst hnn
    obtain ⟨bb, hbb⟩ : ∃ b, inflB I len len = b := ⟨_, rfl⟩
    rw [hbb]
    have HV : Hid (allWn I len = bb) := Lib.hid (by rw [← hbb]; unfold inflB; simp)
    clear hbb
    go_enter Try.func52, Try.ntmps52
    go_wp2_with fail
    go_loopw [5] (fun iv wr => ∃ k : Nat, k ≤ len ∧ iv = .int .i64 (k : Int) ∧ Hid (allWn I k = true) ∧ wr = w) (fun iv _ => len - (intOf iv).toNat)
    case atStart => exact ⟨0, Nat.zero_le _, rfl, Lib.hid rfl, rfl⟩
    case round =>
    obtain ⟨k, hk, rfl, HA, rfl⟩ := hrel
    have hk0 : (0 : Int) ≤ (k : Int) := by omega
    by_cases hlt : k < len
    · have hk1 : (k : Int) < (len : Int) := by omega
      obtain ⟨b, off, rfl, hb, hc⟩ : ∃ b off, a = some ⟨b, off, none⟩ ∧ b < wr.heap.size ∧ ∀ i, i < I.length → wr.cell? ⟨b, off + i, none⟩ = some (.int .i64 (I.getD i 0)) := by
          rcases H.out.ints with h9 | h9
          · have h8 := HLn.out; rw [h9, List.length_nil] at h8; omega
          · exact h9
      obtain ⟨z, hz⟩ : ∃ z, I.getD k 0 = z := ⟨_, rfl⟩
      have cz := hc k (by rw [HLn.out]; exact hlt)
      rw [hz] at cz
      have HZ := Lib.hid hz
      clear hc hz
      go_wp2_with fail
      refine (l06Unit_any z _).mono ?_
      rintro e w' ⟨u, hu, rfl, rfl⟩
      have HU := Lib.hid hu
      clear hu
      cases u
      · have hf : bb = false := by rw [← HV.out]; exact allWn_no hlt (by rw [HZ.out]; exact HU.out)
        go_wp2_with fail
        go_ret
        exact ⟨by rw [hf]; first | done | rfl, rfl⟩
      · have HA1 : Hid (allWn I (k + 1) = true) := Lib.hid (by rw [allWn_succ, HA.out, HZ.out, HU.out]; rfl)
        go_wp2_with fail
        go_roundw
        case rel => exact ⟨k + 1, by omega, by go_num, HA1, by first | trivial | rfl⟩
        case measure => simp [intOf]; omega
    · obtain rfl : k = len := by omega
      have ht : bb = true := by rw [← HV.out]; exact HA.out
      go_wp2_with fail
      go_ret
      exact ⟨by rw [ht]; first | done | rfl | simp, rfl⟩
  · have hf : inflB I len n = false := by unfold inflB; rw [decide_eq_false hnn]; rfl
    rw [hf]
    have hne : ¬ (len : Int) = (n : Int) := by omega
    go_enter Try.func52, Try.ntmps52
    go_wp2_with fail
    go_loopw [5] (fun iv wr => iv = .int .i64 0 ∧ wr = w) (fun iv _ => 0)
    case atStart => exact ⟨rfl, rfl⟩
    case round =>
    obtain ⟨rfl, rfl⟩ := hrel
    by_cases hlt : (0 : Int) < (len : Int)
    · go_wp2_with fail
      go_ret
      exact ⟨by first | rfl | (simp [hne]; done), rfl⟩
    · go_wp2_with fail
      go_ret
      exact ⟨by first | rfl | (simp [hne]; done), rfl⟩

set_option maxHeartbeats 4000000 in
theorem isDayOf_any (a0 a1 a2 a : Option Addr) (l0 l1 l2 c0 c1 c2 len cap : Nat) (I : List Int) (w : World) (h : RowC w a (ic I)) (hlen : I.length = len) (hl : len ≤ 1048576) (hl0 : l0 ≤ 1048576) :
    Calls Try.prog 56 #[.agg #[.slice a0 l0 c0, .slice a1 l1 c1, .slice a2 l2 c2], .slice a len cap] w fun e w' => e = .returned (.bool (inflB I len l0)) ∧ Below w.heap.size w w' := by
  by_cases hnn : len = l0
  · subst hnn
    obtain ⟨bb, hbb⟩ : ∃ b, allWn I len = b := ⟨_, rfl⟩
    have hv : inflB I len len = bb := by rw [← hbb]; unfold inflB; simp
    rw [hv]
    have HC : Hid (Calls Try.prog 86 #[.slice a len cap, .func (.func 75) #[] #[]] (w.alloc (.cells #[.slice a0 len c0, .slice a1 l1 c1, .slice a2 l2 c2] 29)) fun e w' => e = .returned (.bool bb) ∧ Below (w.heap.size + 1) (w.alloc (.cells #[.slice a0 len c0, .slice a1 l1 c1, .slice a2 l2 c2] 29)) w') := Lib.hid ((allOfZ 75 #[] (fun k => unitB (I.getD k 0)) (enters_of Try.func75 (by kernel_rfl) rfl) a len cap I (w.alloc (.cells #[.slice a0 len c0, .slice a1 l1 c1, .slice a2 l2 c2] 29)) (fun k hk W' hW' => (isUnits_any _ W').mono (fun e w' ⟨b', h1, h2, h3⟩ => ⟨b', h1, h2, h3 ▸ Below.refl _ _⟩)) (h.below (bel1 w _) (Nat.le_refl _)) hlen hl).mono (by rintro e w' ⟨b, h1, rfl, h3⟩; exact ⟨by rw [← h1]; exact congrArg (fun x => Ending.returned (.bool x)) hbb, h3.mono (by simp)⟩))
    clear h hbb hv
    go_enter Try.func56, Try.ntmps56
    go_wp2_with fail
    refine HC.out.mono ?_
    rintro e w' ⟨rfl, hb⟩
    have HB := Lib.hid hb
    clear hb
    cases bb <;> (go_wp2_with fail; go_ret; exact ⟨rfl, (bel1 w _).trans (HB.out.mono (Nat.le_succ _))⟩)
  · have hf : inflB I len l0 = false := by unfold inflB; rw [decide_eq_false hnn]; rfl
    rw [hf]
    have hne : ¬ (len : Int) = (l0 : Int) := by omega
    go_enter Try.func56, Try.ntmps56
    go_wp2_with fail
    go_ret
    exact ⟨rfl, bel1 w _⟩

end Go.Proofs.Ytckmacnmmloemaa
