/- Lists of numbers all of which are as asked. -/
import Derived.Test.YtdmcjloaommnpaaRainA
import Derived.Test.YtdmcjloaommnpaaRowF
import Derived.IntWalk
namespace Go.Proofs.Ytdmcjloaommnpaa
open Go.RowKit Go.Proofs
set_option linter.unusedVariables false

theorem any_take_succ (zs : List Nat) (q : Nat → Bool) (k : Nat) (h : k < zs.length) (hk : (zs.take k).any q = false) (hf : q (zs.getD k 0) = false) : (zs.take (k + 1)).any q = false := by
  rw [List.take_succ_eq_append_getElem h, List.any_append, hk]
  rw [List.getD_eq_getElem?_getD, List.getElem?_eq_getElem h] at hf
  simpa using hf
theorem any_yes (zs : List Nat) (q : Nat → Bool) (k : Nat) (h : k < zs.length) (hf : q (zs.getD k 0) = true) : zs.any q = true := by
  rw [List.any_eq_true]
  refine ⟨zs[k], List.getElem_mem h, ?_⟩
  rw [List.getD_eq_getElem?_getD, List.getElem?_eq_getElem h] at hf
  simpa using hf
def Idx (v : Bool) (w : World) (e : Ending) (w' : World) : Prop := ∃ i : Int, e = .returned (.int .i64 i) ∧ decide (0 ≤ i) = v ∧ w = w'

set_option maxHeartbeats 2000000 in
theorem indexFunc_f (g : FuncId) (lb : Array Value) (q : Nat → Bool) (eg : ∀ args w, (callFunc g args).run Try.prog w = .ok (.enter g args) w) (a : Option Addr) (cap : Nat) (zs : List Nat) (w : World)
    (hq : ∀ z, z < 4294967296 → Calls Try.prog g (#[.float .f32 z] ++ lb) w (SayS (q z) w)) (h : RowF .f32 w a zs) (hl : zs.length ≤ 1048576) (hz : ∀ z ∈ zs, z < 4294967296) :
    Calls Try.prog 104 #[.slice a zs.length cap, .func (.func g) #[] lb] w (Idx (zs.any q) w) := by
  have Hc := Lib.hid h.cells
  have Hq := Lib.hid hq
  have Hz := Lib.hid hz
  clear h hq hz
  obtain ⟨len, hlen⟩ : ∃ len, zs.length = len := ⟨_, rfl⟩
  rw [hlen] at hl ⊢
  have Hlen := Lib.hid hlen
  clear hlen
  go_enter Try.func104, Try.ntmps104
  go_wp2_with fail
  go_loop [8] (fun i => ∃ k : Nat, k ≤ len ∧ i = .int .i64 k ∧ (zs.take k).any q = false) (fun i => len - (intOf i).toNat)
  case atStart => exact ⟨0, Nat.zero_le _, rfl, rfl⟩
  case round =>
    obtain ⟨k, hk, rfl, hall⟩ := hrel
    have Hall := Lib.hid hall
    clear hall
    by_cases hlt : k < len
    · obtain ⟨b, off, rfl, h1⟩ := Hc.out k (by rw [Hlen.out]; exact hlt)
      have hzk : zs.getD k 0 < 4294967296 := by
        rw [List.getD_eq_getElem?_getD, List.getElem?_eq_getElem (by rw [Hlen.out]; exact hlt)]
        exact Hz.out _ (List.getElem_mem _)
      obtain ⟨z, hzz⟩ : ∃ z, zs.getD k 0 = z := ⟨_, rfl⟩
      rw [hzz] at h1 hzk
      have Hzz := Lib.hid hzz
      have Hzk := Lib.hid hzk
      clear hzz hzk
      have hk0 : (0 : Int) ≤ (k : Int) := by omega
      have hk1 : (k : Int) < (len : Int) := by omega
      go_wp2_with fail
      refine (Hq.out z Hzk.out).mono ?_
      rintro e w' ⟨bb, hbb, rfl, rfl⟩
      cases bb
      · have Hno := Lib.hid (any_take_succ zs q k (by rw [Hlen.out]; exact hlt) Hall.out (by rw [Hzz.out]; exact hbb))
        clear hbb
        go_wp2_with fail
        go_round
        case rel => exact ⟨k + 1, by omega, by go_num, Hno.out⟩
        case measure => simp [intOf]; omega
      · have Hyes := Lib.hid (any_yes zs q k (by rw [Hlen.out]; exact hlt) (by rw [Hzz.out]; exact hbb))
        clear hbb
        go_wp2_with fail
        go_ret
        exact ⟨(k : Int), rfl, by rw [Hyes.out]; exact decide_eq_true hk0, rfl⟩
    · obtain rfl : k = len := by omega
      go_wp2_with fail
      go_ret
      have h2 := Hall.out
      rw [← Hlen.out, List.take_length] at h2
      exact ⟨-1, rfl, by rw [h2]; rfl, rfl⟩

set_option maxHeartbeats 400000 in
theorem containsFunc_f (g : FuncId) (lb : Array Value) (q : Nat → Bool) (eg : ∀ args w, (callFunc g args).run Try.prog w = .ok (.enter g args) w) (a : Option Addr) (cap : Nat) (zs : List Nat) (w : World)
    (hq : ∀ z, z < 4294967296 → Calls Try.prog g (#[.float .f32 z] ++ lb) w (SayS (q z) w)) (h : RowF .f32 w a zs) (hl : zs.length ≤ 1048576) (hz : ∀ z ∈ zs, z < 4294967296) :
    Calls Try.prog 88 #[.slice a zs.length cap, .func (.func g) #[] lb] w (SayS (zs.any q) w) := by
  have H := Lib.hid (indexFunc_f g lb q eg a cap zs w hq h hl hz)
  clear hq h hz eg
  go_enter Try.func88, Try.ntmps88
  go_wp2_with fail
  refine H.out.mono ?_
  rintro e w' ⟨i, rfl, hi, rfl⟩
  go_wp2_with fail
  go_ret
  exact ⟨_, rfl, rfl, rfl⟩

set_option maxHeartbeats 400000 in
theorem allClo_f (g : FuncId) (p : Nat → Bool) (eg : ∀ args w, (callFunc g args).run Try.prog w = .ok (.enter g args) w) (z b : Nat) (w : World) (hp : Calls Try.prog g #[.float .f32 z] w (SayS (p z) w))
    (hc : w.cell? ⟨b, 0, none⟩ = some (.func (.func g) #[] #[])) :
    Calls Try.prog 89 #[.float .f32 z, .pointer (some ⟨b, 0, none⟩)] w (SayS (!p z) w) := by
  have H := Lib.hid hp
  clear hp
  go_enter Try.func89, Try.ntmps89
  go_wp2_with fail
  refine H.out.mono ?_
  rintro e w' ⟨bb, hbb, rfl, rfl⟩
  go_wp2_with fail
  go_ret
  exact ⟨!bb, by rw [hbb], rfl, rfl⟩

set_option maxHeartbeats 1000000 in
theorem allOf_f (g : FuncId) (p : Nat → Bool) (eg : ∀ args w, (callFunc g args).run Try.prog w = .ok (.enter g args) w) (a : Option Addr) (cap : Nat) (zs : List Nat) (w : World)
    (hp : ∀ z, z < 4294967296 → ∀ W, Calls Try.prog g #[.float .f32 z] W (SayS (p z) W)) (h : RowF .f32 w a zs) (hl : zs.length ≤ 1048576) (hz : ∀ z ∈ zs, z < 4294967296) :
    Calls Try.prog 54 #[.slice a zs.length cap, .func (.func g) #[] #[]] w (SayB (zs.all p) w) := by
  have hmf : ∀ (fn : Fn) (first cap : Array Value) (w : World), (Instr.makeFunc fn first cap).run Try.prog w = .ok (.func fn first cap) w := fun _ _ _ _ => rfl
  have Hp := Lib.hid hp
  have H := Lib.hid h
  have Hz := Lib.hid hz
  have Eg := Lib.hid eg
  clear hp h hz eg
  have hall : zs.all p = !zs.any fun z => !p z := by rw [List.all_eq_not_any_not]
  go_enter Try.func54, Try.ntmps54
  go_wp2_with fail
  refine (containsFunc_f 89 #[.pointer (some ⟨w.heap.size, 0, none⟩)] (fun z => !p z) (enters_of Try.func89 (by kernel_rfl) rfl) a cap zs _ (fun z hz => allClo_f g p Eg.out z w.heap.size _ (Hp.out z hz _) (by simp [go_sem])) (H.out.below (bel1 _ _) (Nat.le_refl _)) hl Hz.out).mono ?_
  rintro e w' ⟨bb, hbb, rfl, rfl⟩
  rw [hbb] at hall
  have Hall := Lib.hid hall
  clear hall hbb
  go_wp2_with fail
  go_ret
  exact ⟨_, Hall.out, rfl, bel1 _ _⟩
end Go.Proofs.Ytdmcjloaommnpaa
