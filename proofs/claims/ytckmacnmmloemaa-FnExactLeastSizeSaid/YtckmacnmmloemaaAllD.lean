/- All of a row, by place. -/
import Derived.Test.YtckmacnmmloemaaAllZ
import Derived.Test.YtckmacnmmloemaaRegMk
import Derived.ProofKit
namespace Go.Proofs.Ytckmacnmmloemaa
open Go.RowKit
set_option linter.unusedVariables false
set_option linter.unusedSimpArgs false
set_option maxRecDepth 100000
attribute [local irreducible] wpV wpList Code.wp

set_option maxHeartbeats 2000000 in
theorem indexFuncD (g : FuncId) (lb : Array Value) (q : Nat → Bool) (eg : ∀ args w, (callFunc g args).run Try.prog w = .ok (.enter g args) w) (a : Option Addr) (len cap : Nat) (zs : List Int) (w : World) (hq : ∀ k, k < len → ∀ W, Below w.heap.size w W → Calls Try.prog g (#[.agg #[.int .i64 (zs.getD (k * 4) 0), .int .i64 (zs.getD (k * 4 + 1) 0), .int .i64 (zs.getD (k * 4 + 2) 0), .int .i64 (zs.getD (k * 4 + 3) 0)]] ++ lb) W (SayB (q k) W)) (h : RowC w a (ic zs)) (hlen : zs.length = len * 4) (hl : len ≤ 1048576) :
    Calls Try.prog 143 #[.slice a len cap, .func (.func g) #[] lb] w (IdxB ((List.range len).any q) w) := by
  have Hrow := Lib.hid h
  have Hq := Lib.hid hq
  have Hlen := Lib.hid hlen
  clear h hq hlen
  go_enter Try.func143, Try.ntmps143
  go_wp2_with fail
  go_loopw [8] (fun iv wr => ∃ k : Nat, k ≤ len ∧ iv = .int .i64 k ∧ Hid ((List.range k).any q = false) ∧ Hid (Below w.heap.size w wr)) (fun iv _ => len - (intOf iv).toNat)
  case atStart => exact ⟨0, Nat.zero_le _, rfl, Lib.hid rfl, Lib.hid (Below.refl _ _)⟩
  case round =>
    obtain ⟨k, hk, rfl, HA, HW⟩ := hrel
    have hk0 : (0 : Int) ≤ (k : Int) := by omega
    by_cases hlt : k < len
    · have hk1 : (k : Int) < (len : Int) := by omega
      obtain ⟨b, off, rfl, hb, hc⟩ : ∃ b off, a = some ⟨b, off, none⟩ ∧ b < w.heap.size ∧ ∀ i, i < zs.length → w.cell? ⟨b, off + i, none⟩ = some (.int .i64 (zs.getD i 0)) := by
        rcases Hrow.out.ints with h9 | h9
        · have h8 := Hlen.out; rw [h9, List.length_nil] at h8; omega
        · exact h9
      have HC := Lib.hid hc
      have HQ := Lib.hid (Hq.out k hlt wr HW.out)
      have cz0 : wr.cell? ⟨b, off + (k * 4), none⟩ = some (.int .i64 (zs.getD (k * 4) 0)) := by rw [HW.out.cell (p := ⟨b, off + (k * 4), none⟩) hb]; exact HC.out (k * 4) (by rw [Hlen.out]; omega)
      have cz1 : wr.cell? ⟨b, off + (k * 4 + 1), none⟩ = some (.int .i64 (zs.getD (k * 4 + 1) 0)) := by rw [HW.out.cell (p := ⟨b, off + (k * 4 + 1), none⟩) hb]; exact HC.out (k * 4 + 1) (by rw [Hlen.out]; omega)
      have cz2 : wr.cell? ⟨b, off + (k * 4 + 2), none⟩ = some (.int .i64 (zs.getD (k * 4 + 2) 0)) := by rw [HW.out.cell (p := ⟨b, off + (k * 4 + 2), none⟩) hb]; exact HC.out (k * 4 + 2) (by rw [Hlen.out]; omega)
      have cz3 : wr.cell? ⟨b, off + (k * 4 + 3), none⟩ = some (.int .i64 (zs.getD (k * 4 + 3) 0)) := by rw [HW.out.cell (p := ⟨b, off + (k * 4 + 3), none⟩) hb]; exact HC.out (k * 4 + 3) (by rw [Hlen.out]; omega)
      clear hc HC
      obtain ⟨z0, hz0⟩ : ∃ z, zs.getD (k * 4) 0 = z := ⟨_, rfl⟩
      rw [hz0] at cz0 HQ
      clear hz0
      obtain ⟨z1, hz1⟩ : ∃ z, zs.getD (k * 4 + 1) 0 = z := ⟨_, rfl⟩
      rw [hz1] at cz1 HQ
      clear hz1
      obtain ⟨z2, hz2⟩ : ∃ z, zs.getD (k * 4 + 2) 0 = z := ⟨_, rfl⟩
      rw [hz2] at cz2 HQ
      clear hz2
      obtain ⟨z3, hz3⟩ : ∃ z, zs.getD (k * 4 + 3) 0 = z := ⟨_, rfl⟩
      rw [hz3] at cz3 HQ
      clear hz3
      simp only [← Nat.add_assoc] at cz0 cz1 cz2 cz3
      go_wp2_with fail
      refine HQ.out.mono ?_
      rintro e w' ⟨bb, hbb, rfl, hw⟩
      have HW' : Hid (Below w.heap.size w w') := Lib.hid (HW.out.trans (hw.mono HW.out.size))
      clear hw HQ cz0 cz1 cz2 cz3
      cases bb
      · have HA1 := Lib.hid (anyr_succ HA.out hbb)
        clear hbb HA
        go_wp2_with fail
        go_roundw
        case rel => exact ⟨k + 1, by omega, by go_num, HA1, HW'⟩
        case measure => simp [intOf]; omega
      · have Hyes := Lib.hid (anyr_yes hlt hbb)
        clear hbb
        go_wp2_with fail
        go_ret
        exact ⟨(k : Int), rfl, by rw [Hyes.out]; exact decide_eq_true hk0, HW'.out⟩
    · obtain rfl : len = k := by omega
      go_wp2_with fail
      go_ret
      exact ⟨-1, rfl, by rw [HA.out]; rfl, HW.out⟩

set_option maxHeartbeats 400000 in
theorem containsFuncD (g : FuncId) (lb : Array Value) (q : Nat → Bool) (eg : ∀ args w, (callFunc g args).run Try.prog w = .ok (.enter g args) w) (a : Option Addr) (len cap : Nat) (zs : List Int) (w : World) (hq : ∀ k, k < len → ∀ W, Below w.heap.size w W → Calls Try.prog g (#[.agg #[.int .i64 (zs.getD (k * 4) 0), .int .i64 (zs.getD (k * 4 + 1) 0), .int .i64 (zs.getD (k * 4 + 2) 0), .int .i64 (zs.getD (k * 4 + 3) 0)]] ++ lb) W (SayB (q k) W)) (h : RowC w a (ic zs)) (hlen : zs.length = len * 4) (hl : len ≤ 1048576) :
    Calls Try.prog 132 #[.slice a len cap, .func (.func g) #[] lb] w (SayB ((List.range len).any q) w) := by
  have H := Lib.hid (indexFuncD g lb q eg a len cap zs w hq h hlen hl)
  clear hq h eg
  go_enter Try.func132, Try.ntmps132
  go_wp2_with fail
  refine H.out.mono ?_
  rintro e w' ⟨i, rfl, hi, hw⟩
  have Hi := Lib.hid hi
  have HW := Lib.hid hw
  clear hi hw
  go_wp2_with fail
  go_ret
  exact ⟨_, Hi.out.symm, rfl, HW.out⟩

set_option maxHeartbeats 400000 in
theorem allCloD (g : FuncId) (lb : Array Value) (v : Bool) (eg : ∀ args w, (callFunc g args).run Try.prog w = .ok (.enter g args) w) (z0 z1 z2 z3 : Int) (bx : Nat) (w : World) (hp : ∀ W, Below w.heap.size w W → Calls Try.prog g (#[.agg #[.int .i64 z0, .int .i64 z1, .int .i64 z2, .int .i64 z3]] ++ lb) W (SayB v W)) (hc : w.cell? ⟨bx, 0, none⟩ = some (.func (.func g) #[] lb)) :
    Calls Try.prog 133 #[.agg #[.int .i64 z0, .int .i64 z1, .int .i64 z2, .int .i64 z3], .pointer (some ⟨bx, 0, none⟩)] w (SayB (!v) w) := by
  have H := Lib.hid (hp (w.alloc (.cells #[.int .i64 z0, .int .i64 z1, .int .i64 z2, .int .i64 z3] 98)) (bel1 _ _))
  have hc1 : (w.alloc (.cells #[.int .i64 z0, .int .i64 z1, .int .i64 z2, .int .i64 z3] 98)).cell? ⟨bx, 0, none⟩ = some (.func (.func g) #[] lb) := by rw [(bel1 w _).cell (p := ⟨bx, 0, none⟩) (cell_lt hc)]; exact hc
  clear hp hc
  go_enter Try.func133, Try.ntmps133
  go_wp2_with fail
  refine H.out.mono ?_
  rintro e w' ⟨bb, hbb, rfl, hw⟩
  have HW : Hid (Below w.heap.size w w') := Lib.hid ((bel1 _ _).trans (hw.mono (by simp)))
  clear hw
  go_wp2_with fail
  go_ret
  exact ⟨!bb, by rw [hbb], rfl, HW.out⟩

set_option maxHeartbeats 1000000 in
theorem allOfD (g : FuncId) (lb : Array Value) (p : Nat → Bool) (eg : ∀ args w, (callFunc g args).run Try.prog w = .ok (.enter g args) w) (a : Option Addr) (len cap : Nat) (zs : List Int) (w : World) (hp : ∀ k, k < len → ∀ W, Below w.heap.size w W → Calls Try.prog g (#[.agg #[.int .i64 (zs.getD (k * 4) 0), .int .i64 (zs.getD (k * 4 + 1) 0), .int .i64 (zs.getD (k * 4 + 2) 0), .int .i64 (zs.getD (k * 4 + 3) 0)]] ++ lb) W (SayB (p k) W)) (h : RowC w a (ic zs)) (hlen : zs.length = len * 4) (hl : len ≤ 1048576) :
    Calls Try.prog 101 #[.slice a len cap, .func (.func g) #[] lb] w (SayB ((List.range len).all p) w) := by
  have hmf : ∀ (fn : Fn) (first cap : Array Value) (w : World), (Instr.makeFunc fn first cap).run Try.prog w = .ok (.func fn first cap) w := fun _ _ _ _ => rfl
  have Hp := Lib.hid hp
  have H := Lib.hid h
  have Eg := Lib.hid eg
  have Hlen := Lib.hid hlen
  clear hp h eg hlen
  have hall := range_all_any len p
  go_enter Try.func101, Try.ntmps101
  go_wp2_with fail
  refine (containsFuncD 133 #[.pointer (some ⟨w.heap.size, 0, none⟩)] (fun k => !p k) (enters_of Try.func133 (by kernel_rfl) rfl) a len cap zs _ (fun k hk W hW => allCloD g lb (p k) Eg.out _ _ _ _ w.heap.size _ (fun W' hW' => Hp.out k hk W' ((bel1 _ _).trans ((hW.mono (by simp)).trans (hW'.mono (by have := hW.size; simp at this; omega))))) (by rw [hW.cell (p := ⟨w.heap.size, 0, none⟩) (by simp)]; simp [go_sem])) (H.out.below (bel1 _ _) (Nat.le_refl _)) Hlen.out hl).mono ?_
  rintro e w' ⟨bb, hbb, rfl, hw⟩
  rw [hbb] at hall
  have Hall := Lib.hid hall
  have HW : Hid (Below w.heap.size w w') := Lib.hid ((bel1 _ _).trans (hw.mono (by simp)))
  clear hall hbb hw
  go_wp2_with fail
  go_ret
  exact ⟨_, Hall.out, rfl, HW.out⟩

end Go.Proofs.Ytckmacnmmloemaa
