/- The model's line over a hill. -/
import Derived.Test.YtljehplkdofhpacSeeC
import Derived.Test.YtljehplkdofhpacIn
import Derived.Deep.QuietTactic
namespace Go.Proofs.Ytljehplkdofhpac
open Go.RowKit
set_option linter.unusedVariables false
set_option linter.unusedSimpArgs false
set_option maxRecDepth 100000
attribute [local irreducible] wpV wpList Code.wp

def lineV (wn i k : Nat) : Int × Int × Bool :=
  if i = k then (0, 0, false) else if i / wn = k / wn then (if i < k then (1, ((k - i : Nat) : Int), true) else (-1, ((i - k : Nat) : Int), true))
  else if ¬ i % wn = k % wn then (0, 0, false) else if i < k then ((wn : Int), (((k - i) / wn : Nat) : Int), true) else (-(wn : Int), (((i - k) / wn : Nat) : Int), true)

set_option maxHeartbeats 4000000 in
theorem l02Line_any (b wn hn i k : Nat) (v : Value) (w : World) (hB : BoxH w b (wn : Int) (hn : Int) v) (hw0 : 0 < wn) (hw : wn ≤ 16) (hi : i < 256) (hk : k < 256) :
    Calls Try.prog 85 #[.pointer (some ⟨b, 0, none⟩), .int .i64 (i : Int), .int .i64 (k : Int)] w fun e w' => e = .returned (.tuple #[.int .i64 (lineV wn i k).1, .int .i64 (lineV wn i k).2.1, .bool (lineV wn i k).2.2]) ∧ ∃ n, w' = w.drewN n := by
  obtain ⟨r0, r1, r2, _⟩ := hB
  have hw0' : ((wn : Int) == 0) = false := by simp; omega
  have hwz : ¬ (wn : Int) = 0 := by omega
  have hwm : ¬ (wn : Int) = -1 := by omega
  obtain ⟨q1, hq1⟩ : ∃ q, i / wn = q := ⟨_, rfl⟩
  obtain ⟨q2, hq2⟩ : ∃ q, k / wn = q := ⟨_, rfl⟩
  obtain ⟨m1, hm1⟩ : ∃ q, i % wn = q := ⟨_, rfl⟩
  obtain ⟨m2, hm2⟩ : ∃ q, k % wn = q := ⟨_, rfl⟩
  have hd1 : (i : Int) / (wn : Int) = (q1 : Int) := by rw [← hq1]; exact (Int.natCast_ediv _ _).symm
  have hd2 : (k : Int) / (wn : Int) = (q2 : Int) := by rw [← hq2]; exact (Int.natCast_ediv _ _).symm
  have ht1 : Int.tmod (i : Int) (wn : Int) = (m1 : Int) := by rw [← hm1, Int.tmod_eq_emod_of_nonneg (by omega)]; exact (Int.natCast_emod _ _).symm
  have ht2 : Int.tmod (k : Int) (wn : Int) = (m2 : Int) := by rw [← hm2, Int.tmod_eq_emod_of_nonneg (by omega)]; exact (Int.natCast_emod _ _).symm
  have hp1 : Int.emod (i : Int) (wn : Int) = (m1 : Int) := by rw [← hm1]; exact (Int.natCast_emod _ _).symm
  have hp2 : Int.emod (k : Int) (wn : Int) = (m2 : Int) := by rw [← hm2]; exact (Int.natCast_emod _ _).symm
  have hql1 : q1 ≤ i := by rw [← hq1]; exact Nat.div_le_self _ _
  have hql2 : q2 ≤ k := by rw [← hq2]; exact Nat.div_le_self _ _
  have hml1 : m1 ≤ i := by rw [← hm1]; exact Nat.mod_le _ _
  have hml2 : m2 ≤ k := by rw [← hm2]; exact Nat.mod_le _ _
  have hi1 : IntKind.i64.wrap (q1 : Int) = (q1 : Int) := IntWalk.i64_in _ (by omega)
  have hi2 : IntKind.i64.wrap (q2 : Int) = (q2 : Int) := IntWalk.i64_in _ (by omega)
  have hi3 : IntKind.i64.wrap (m1 : Int) = (m1 : Int) := IntWalk.i64_in _ (by omega)
  have hi4 : IntKind.i64.wrap (m2 : Int) = (m2 : Int) := IntWalk.i64_in _ (by omega)
  have hi5 : IntKind.i64.wrap (wn : Int) = (wn : Int) := IntWalk.i64_in _ (by omega)
  have hi6 : IntKind.i64.wrap (-(wn : Int)) = -(wn : Int) := IntWalk.i64_in _ (by omega)
  unfold lineV
  rw [hq1, hq2, hm1, hm2]
  by_cases h1 : i = k
  · rw [if_pos h1]
    have h1' : (i : Int) = (k : Int) := by omega
    go_enter Try.func85, Try.ntmps85
    go_wp2_with fail
    refine bodyPost_ret (v := .tuple #[.int .i64 0, .int .i64 0, .bool false]) (by simp [results, Try.results85, go_sem]) rfl ⟨rfl, by first | exact ⟨_, rfl⟩ | (rw [World.drewN_drewN, World.drewN_drewN]; exact ⟨_, rfl⟩) | (rw [World.drewN_drewN]; exact ⟨_, rfl⟩) | exact ⟨0, rfl⟩⟩
  rw [if_neg h1]
  have h1' : ¬ (i : Int) = (k : Int) := by omega
  by_cases h2 : q1 = q2
  · rw [if_pos h2]
    have h2' : (q1 : Int) = (q2 : Int) := by omega
    by_cases h3 : i < k
    · rw [if_pos h3]
      obtain ⟨d, hd⟩ : ∃ d, k - i = d := ⟨_, rfl⟩
      rw [hd]
      have hdi : (k : Int) - (i : Int) = (d : Int) := by omega
      have hi7 : IntKind.i64.wrap (d : Int) = (d : Int) := IntWalk.i64_in _ (by omega)
      have hlt : (i : Int) < (k : Int) := by omega
      go_enter Try.func85, Try.ntmps85
      go_wp2_with fail
      go_quiet (fail)
      go_wp2_with fail
      refine bodyPost_ret (v := .tuple #[.int .i64 1, .int .i64 d, .bool true]) (by simp [results, Try.results85, go_sem]) rfl ⟨rfl, by first | exact ⟨_, rfl⟩ | (rw [World.drewN_drewN, World.drewN_drewN]; exact ⟨_, rfl⟩) | (rw [World.drewN_drewN]; exact ⟨_, rfl⟩) | exact ⟨0, rfl⟩⟩
    · rw [if_neg h3]
      obtain ⟨d, hd⟩ : ∃ d, i - k = d := ⟨_, rfl⟩
      rw [hd]
      have hdi : (i : Int) - (k : Int) = (d : Int) := by omega
      have hi7 : IntKind.i64.wrap (d : Int) = (d : Int) := IntWalk.i64_in _ (by omega)
      have hlt : ¬ (i : Int) < (k : Int) := by omega
      have hle : (k : Int) ≤ (i : Int) := by omega
      have hgt9 : ¬ (k : Int) > (i : Int) := by omega
      go_enter Try.func85, Try.ntmps85
      go_wp2_with fail
      go_quiet (fail)
      go_wp2_with fail
      refine bodyPost_ret (v := .tuple #[.int .i64 (-1), .int .i64 d, .bool true]) (by simp [results, Try.results85, go_sem]) rfl ⟨rfl, by first | exact ⟨_, rfl⟩ | (rw [World.drewN_drewN, World.drewN_drewN]; exact ⟨_, rfl⟩) | (rw [World.drewN_drewN]; exact ⟨_, rfl⟩) | exact ⟨0, rfl⟩⟩
  rw [if_neg h2]
  have h2' : ¬ (q1 : Int) = (q2 : Int) := by omega
  by_cases h4 : m1 = m2
  · rw [if_neg (fun h => h h4)]
    have h4' : (m1 : Int) = (m2 : Int) := by omega
    by_cases h3 : i < k
    · rw [if_pos h3]
      obtain ⟨d, hd⟩ : ∃ d, k - i = d := ⟨_, rfl⟩
      rw [hd]
      have hdi : (k : Int) - (i : Int) = (d : Int) := by omega
      have hi7 : IntKind.i64.wrap (d : Int) = (d : Int) := IntWalk.i64_in _ (by omega)
      have hlt : (i : Int) < (k : Int) := by omega
      obtain ⟨qd, hqd⟩ : ∃ q, d / wn = q := ⟨_, rfl⟩
      rw [hqd]
      have hdq : (d : Int) / (wn : Int) = (qd : Int) := by rw [← hqd]; exact (Int.natCast_ediv _ _).symm
      have hqdl : qd ≤ d := by rw [← hqd]; exact Nat.div_le_self _ _
      have hi8 : IntKind.i64.wrap (qd : Int) = (qd : Int) := IntWalk.i64_in _ (by omega)
      have hdl : d ≤ 256 := by omega
      go_enter Try.func85, Try.ntmps85
      go_wp2_with fail
      go_quiet (fail)
      go_wp2_with fail
      go_quiet (fail)
      go_wp2_with fail
      go_quiet (fail)
      go_wp2_with fail
      refine bodyPost_ret (v := .tuple #[.int .i64 (wn : Int), .int .i64 qd, .bool true]) (by simp [results, Try.results85, go_sem]) rfl ⟨rfl, by first | exact ⟨_, rfl⟩ | (rw [World.drewN_drewN, World.drewN_drewN]; exact ⟨_, rfl⟩) | (rw [World.drewN_drewN]; exact ⟨_, rfl⟩) | exact ⟨0, rfl⟩⟩
    · rw [if_neg h3]
      obtain ⟨d, hd⟩ : ∃ d, i - k = d := ⟨_, rfl⟩
      rw [hd]
      have hdi : (i : Int) - (k : Int) = (d : Int) := by omega
      have hi7 : IntKind.i64.wrap (d : Int) = (d : Int) := IntWalk.i64_in _ (by omega)
      have hlt : ¬ (i : Int) < (k : Int) := by omega
      have hle : (k : Int) ≤ (i : Int) := by omega
      have hgt9 : ¬ (k : Int) > (i : Int) := by omega
      obtain ⟨qd, hqd⟩ : ∃ q, d / wn = q := ⟨_, rfl⟩
      rw [hqd]
      have hdq : (d : Int) / (wn : Int) = (qd : Int) := by rw [← hqd]; exact (Int.natCast_ediv _ _).symm
      have hqdl : qd ≤ d := by rw [← hqd]; exact Nat.div_le_self _ _
      have hi8 : IntKind.i64.wrap (qd : Int) = (qd : Int) := IntWalk.i64_in _ (by omega)
      have hdl : d ≤ 256 := by omega
      go_enter Try.func85, Try.ntmps85
      go_wp2_with fail
      go_quiet (fail)
      go_wp2_with fail
      go_quiet (fail)
      go_wp2_with fail
      go_quiet (fail)
      go_wp2_with fail
      refine bodyPost_ret (v := .tuple #[.int .i64 (-(wn : Int)), .int .i64 qd, .bool true]) (by simp [results, Try.results85, go_sem]) rfl ⟨rfl, by first | exact ⟨_, rfl⟩ | (rw [World.drewN_drewN, World.drewN_drewN]; exact ⟨_, rfl⟩) | (rw [World.drewN_drewN]; exact ⟨_, rfl⟩) | exact ⟨0, rfl⟩⟩
  rw [if_pos h4]
  have h4' : ¬ (m1 : Int) = (m2 : Int) := by omega
  go_enter Try.func85, Try.ntmps85
  go_wp2_with fail
  go_quiet (fail)
  go_wp2_with fail
  go_quiet (fail)
  go_wp2_with fail
  refine bodyPost_ret (v := .tuple #[.int .i64 0, .int .i64 0, .bool false]) (by simp [results, Try.results85, go_sem]) rfl ⟨rfl, by first | exact ⟨_, rfl⟩ | (rw [World.drewN_drewN, World.drewN_drewN]; exact ⟨_, rfl⟩) | (rw [World.drewN_drewN]; exact ⟨_, rfl⟩) | exact ⟨0, rfl⟩⟩

end Go.Proofs.Ytljehplkdofhpac
