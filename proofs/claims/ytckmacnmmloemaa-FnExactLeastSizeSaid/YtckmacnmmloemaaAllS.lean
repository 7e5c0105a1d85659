/- All of a slice of slices, by place. -/
import Derived.Test.YtckmacnmmloemaaAllZ
import Derived.Test.YtckmacnmmloemaaSsD
namespace Go.Proofs.Ytckmacnmmloemaa
open Go.RowKit
set_option linter.unusedVariables false
set_option linter.unusedSimpArgs false
set_option maxRecDepth 100000
attribute [local irreducible] wpV wpList Code.wp

set_option maxHeartbeats 2000000 in
theorem indexFuncS (g : FuncId) (lb : Array Value) (q : Nat → Bool) (eg : ∀ args w, (callFunc g args).run Try.prog w = .ok (.enter g args) w) (a : Option Addr) (len cap : Nat) (Zs : List (List Int)) (w : World) (hq : ∀ k, k < len → ∀ W, Below w.heap.size w W → ∀ (ak : Option Addr) (ck : Nat), RowC W ak (ic (zr Zs k)) → Calls Try.prog g (#[.slice ak (zr Zs k).length ck] ++ lb) W (SayB (q k) W)) (h : RowSS w a Zs) (hlen : Zs.length = len) (hl : len ≤ 1048576) :
    Calls Try.prog 137 #[.slice a len cap, .func (.func g) #[] lb] w (IdxB ((List.range len).any q) w) := by
  have Hrow := Lib.hid h
  have Hq := Lib.hid hq
  have Hlen := Lib.hid hlen
  clear h hq hlen
  go_enter Try.func137, Try.ntmps137
  go_wp2_with fail
  go_loopw [8] (fun iv wr => ∃ k : Nat, k ≤ len ∧ iv = .int .i64 k ∧ Hid ((List.range k).any q = false) ∧ Hid (Below w.heap.size w wr)) (fun iv _ => len - (intOf iv).toNat)
  case atStart => exact ⟨0, Nat.zero_le _, rfl, Lib.hid rfl, Lib.hid (Below.refl _ _)⟩
  case round =>
    obtain ⟨k, hk, rfl, HA, HW⟩ := hrel
    have hk0 : (0 : Int) ≤ (k : Int) := by omega
    by_cases hlt : k < len
    · have hk1 : (k : Int) < (len : Int) := by omega
      obtain ⟨b, off, rfl, hb, hc⟩ : ∃ b off, a = some ⟨b, off, none⟩ ∧ b < wr.heap.size ∧ ∀ k, k < Zs.length → ∃ ak ck, wr.cell? ⟨b, off + k, none⟩ = some (.slice ak (zr Zs k).length ck) ∧ RowC wr ak (ic (zr Zs k)) := by
        rcases Hrow.out.below HW.out (Nat.le_refl _) with h9 | h9
        · have h8 := Hlen.out; rw [h9, List.length_nil] at h8; omega
        · exact h9
      obtain ⟨ak, ck, hcell, hrow⟩ := hc k (by rw [Hlen.out]; exact hlt)
      have HQ := Lib.hid (Hq.out k hlt wr HW.out ak ck hrow)
      obtain ⟨lk, hlk⟩ : ∃ l, (zr Zs k).length = l := ⟨_, rfl⟩
      rw [hlk] at hcell HQ
      clear hc hrow hlk
      go_wp2_with fail
      refine HQ.out.mono ?_
      rintro e w' ⟨bb, hbb, rfl, hw⟩
      have HW' : Hid (Below w.heap.size w w') := Lib.hid (HW.out.trans (hw.mono HW.out.size))
      clear hw HQ hcell
      cases bb
      · have HA1 := Lib.hid (anyr_succ HA.out hbb)
        clear hbb HA
        go_wp2_with fail
        go_roundw
        case rel => exact ⟨k + 1, by omega, by go_num, HA1, HW'⟩
        case measure => simp [intOf]; omega
      · have Hyes := Lib.hid (anyr_yes hlt hbb)
        clear hbb
        go_wp2_with fail
        go_ret
        exact ⟨(k : Int), rfl, by rw [Hyes.out]; exact decide_eq_true hk0, HW'.out⟩
    · obtain rfl : len = k := by omega
      go_wp2_with fail
      go_ret
      exact ⟨-1, rfl, by rw [HA.out]; rfl, HW.out⟩

set_option maxHeartbeats 400000 in
theorem containsFuncS (g : FuncId) (lb : Array Value) (q : Nat → Bool) (eg : ∀ args w, (callFunc g args).run Try.prog w = .ok (.enter g args) w) (a : Option Addr) (len cap : Nat) (Zs : List (List Int)) (w : World) (hq : ∀ k, k < len → ∀ W, Below w.heap.size w W → ∀ (ak : Option Addr) (ck : Nat), RowC W ak (ic (zr Zs k)) → Calls Try.prog g (#[.slice ak (zr Zs k).length ck] ++ lb) W (SayB (q k) W)) (h : RowSS w a Zs) (hlen : Zs.length = len) (hl : len ≤ 1048576) :
    Calls Try.prog 112 #[.slice a len cap, .func (.func g) #[] lb] w (SayB ((List.range len).any q) w) := by
  have H := Lib.hid (indexFuncS g lb q eg a len cap Zs w hq h hlen hl)
  clear hq h eg
  go_enter Try.func112, Try.ntmps112
  go_wp2_with fail
  refine H.out.mono ?_
  rintro e w' ⟨i, rfl, hi, hw⟩
  have Hi := Lib.hid hi
  have HW := Lib.hid hw
  clear hi hw
  go_wp2_with fail
  go_ret
  exact ⟨_, Hi.out.symm, rfl, HW.out⟩

set_option maxHeartbeats 400000 in
theorem allCloS (g : FuncId) (lb : Array Value) (v : Bool) (eg : ∀ args w, (callFunc g args).run Try.prog w = .ok (.enter g args) w) (ak : Option Addr) (lk ck : Nat) (bx : Nat) (w : World) (hp : Calls Try.prog g (#[.slice ak lk ck] ++ lb) w (SayB v w)) (hc : w.cell? ⟨bx, 0, none⟩ = some (.func (.func g) #[] lb)) :
    Calls Try.prog 113 #[.slice ak lk ck, .pointer (some ⟨bx, 0, none⟩)] w (SayB (!v) w) := by
  have H := Lib.hid hp
  clear hp
  go_enter Try.func113, Try.ntmps113
  go_wp2_with fail
  refine H.out.mono ?_
  rintro e w' ⟨bb, hbb, rfl, hw⟩
  have HW := Lib.hid hw
  clear hw
  go_wp2_with fail
  go_ret
  exact ⟨!bb, by rw [hbb], rfl, HW.out⟩

set_option maxHeartbeats 1000000 in
theorem allOfS (g : FuncId) (lb : Array Value) (p : Nat → Bool) (eg : ∀ args w, (callFunc g args).run Try.prog w = .ok (.enter g args) w) (a : Option Addr) (len cap : Nat) (Zs : List (List Int)) (w : World) (hp : ∀ k, k < len → ∀ W, Below w.heap.size w W → ∀ (ak : Option Addr) (ck : Nat), RowC W ak (ic (zr Zs k)) → Calls Try.prog g (#[.slice ak (zr Zs k).length ck] ++ lb) W (SayB (p k) W)) (h : RowSS w a Zs) (hlen : Zs.length = len) (hl : len ≤ 1048576) :
    Calls Try.prog 89 #[.slice a len cap, .func (.func g) #[] lb] w (SayB ((List.range len).all p) w) := by
  have hmf : ∀ (fn : Fn) (first cap : Array Value) (w : World), (Instr.makeFunc fn first cap).run Try.prog w = .ok (.func fn first cap) w := fun _ _ _ _ => rfl
  have Hp := Lib.hid hp
  have H := Lib.hid h
  have Eg := Lib.hid eg
  have Hlen := Lib.hid hlen
  clear hp h eg hlen
  have hall := range_all_any len p
  go_enter Try.func89, Try.ntmps89
  go_wp2_with fail
  refine (containsFuncS 113 #[.pointer (some ⟨w.heap.size, 0, none⟩)] (fun k => !p k) (enters_of Try.func113 (by kernel_rfl) rfl) a len cap Zs _ (fun k hk W hW ak ck hr => allCloS g lb (p k) Eg.out _ _ _ w.heap.size _ (Hp.out k hk W ((bel1 _ _).trans (hW.mono (by simp))) ak ck hr) (by rw [hW.cell (p := ⟨w.heap.size, 0, none⟩) (by simp)]; simp [go_sem])) (H.out.below (bel1 _ _) (Nat.le_refl _)) Hlen.out hl).mono ?_
  rintro e w' ⟨bb, hbb, rfl, hw⟩
  rw [hbb] at hall
  have Hall := Lib.hid hall
  have HW : Hid (Below w.heap.size w w') := Lib.hid ((bel1 _ _).trans (hw.mono (by simp)))
  clear hall hbb hw
  go_wp2_with fail
  go_ret
  exact ⟨_, Hall.out, rfl, HW.out⟩

end Go.Proofs.Ytckmacnmmloemaa
