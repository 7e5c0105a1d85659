/- When a list is rain: the program and its model alike. -/
import Derived.Test.YtdoecpghlfjhiacAllOf
namespace Go.Proofs.Ytdoecpghlfjhiac
open Go.RowKit Go.Proofs
set_option linter.unusedVariables false

def amtB (z : Nat) : Bool := amtO (some z)
def rainB (zs : List Nat) : Bool := decide (zs.length ≤ 128) && zs.all amtB
theorem all_take_b (zs : List Nat) (q : Nat → Bool) (k : Nat) (h : k < zs.length) (hk : (zs.take k).all q = true) (hf : q (zs.getD k 0) = true) : (zs.take (k + 1)).all q = true := by
  rw [List.take_succ_eq_append_getElem h, List.all_append, hk]
  rw [List.getD_eq_getElem?_getD, List.getElem?_eq_getElem h] at hf
  simpa using hf
theorem all_no (zs : List Nat) (q : Nat → Bool) (k : Nat) (h : k < zs.length) (hf : q (zs.getD k 0) = false) : zs.all q = false := by
  rw [List.all_eq_false]
  refine ⟨zs[k], List.getElem_mem h, ?_⟩
  rw [List.getD_eq_getElem?_getD, List.getElem?_eq_getElem h] at hf
  simpa using hf

set_option maxHeartbeats 1000000 in
theorem isRain_i (a : Option Addr) (cap : Nat) (zs : List Nat) (w : World) (h : RowF .f32 w a zs) (hl : zs.length ≤ 1048576) (hz : ∀ z ∈ zs, z < 4294967296) :
    Calls Try.prog 139 #[.slice a zs.length cap] w (SayB (rainB zs) w) := by
  have H := Lib.hid h
  have Hz := Lib.hid hz
  clear h hz
  by_cases h1 : zs.length ≤ 128
  · have h2 : (zs.length : Int) ≤ 128 := by omega
    have hd : rainB zs = zs.all amtB := by unfold rainB; rw [decide_eq_true h1, Bool.true_and]
    have Hd := Lib.hid hd
    clear hd h1
    go_enter Try.func139, Try.ntmps139
    go_wp2_with fail
    refine (allOf_f 95 amtB (enters_of Try.func95 (by kernel_rfl) rfl) a cap zs _ (fun z hz W => isAmount_o W (Is32.c hz)) H.out hl Hz.out).mono ?_
    rintro e w' ⟨bb, hbb, rfl, hb⟩
    have Hb := Lib.hid hb
    have Hbb := Lib.hid hbb
    clear hb hbb
    go_wp2_with fail
    go_ret
    exact ⟨_, by rw [Hd.out, Hbb.out], rfl, Hb.out⟩
  · have h2 : ¬ (zs.length : Int) ≤ 128 := by omega
    have hd : rainB zs = false := by unfold rainB; rw [decide_eq_false h1, Bool.false_and]
    have Hd := Lib.hid hd
    clear hd h1
    go_enter Try.func139, Try.ntmps139
    go_wp2_with fail
    go_ret
    exact ⟨_, Hd.out, rfl, Below.refl _ _⟩

set_option maxHeartbeats 1000000 in
theorem l03IsRain_o (a : Option Addr) (cap : Nat) (zs : List Nat) (w : World) (h : RowF .f32 w a zs) (hl : zs.length ≤ 1048576) (hz : ∀ z ∈ zs, z < 4294967296) :
    Calls Try.prog 137 #[.slice a zs.length cap] w (SayQ (rainB zs) w) := by
  have Hc := Lib.hid h.cells
  have Hz := Lib.hid hz
  clear h hz
  obtain ⟨len, hlen⟩ : ∃ len, zs.length = len := ⟨_, rfl⟩
  rw [hlen] at hl ⊢
  by_cases h1 : len ≤ 128
  · have h2 : (len : Int) ≤ 128 := by omega
    have hd : rainB zs = zs.all amtB := by unfold rainB; rw [hlen, decide_eq_true h1, Bool.true_and]
    have Hd := Lib.hid hd
    have Hlen := Lib.hid hlen
    clear hd hlen
    go_enter Try.func137, Try.ntmps137
    go_wp2_with fail
    go_loopw [3] (fun i wr => ∃ k n : Nat, k ≤ len ∧ i = .int .i64 k ∧ (zs.take k).all amtB = true ∧ wr = w.drewN n) (fun i _ => len - (intOf i).toNat)
    case atStart => exact ⟨0, 0, Nat.zero_le _, rfl, rfl, rfl⟩
    case round =>
      obtain ⟨k, n, hk, rfl, hall, rfl⟩ := hrel
      have Hall := Lib.hid hall
      clear hall
      by_cases hlt : k < len
      · obtain ⟨b, off, rfl, hc1⟩ := Hc.out k (by rw [Hlen.out]; exact hlt)
        have hzk : zs.getD k 0 < 4294967296 := by
          rw [List.getD_eq_getElem?_getD, List.getElem?_eq_getElem (by rw [Hlen.out]; exact hlt)]
          exact Hz.out _ (List.getElem_mem _)
        obtain ⟨z, hzz⟩ : ∃ z, zs.getD k 0 = z := ⟨_, rfl⟩
        rw [hzz] at hc1 hzk
        have Hzz := Lib.hid hzz
        have Hzk := Lib.hid hzk
        clear hzz hzk
        have hk0 : (0 : Int) ≤ (k : Int) := by omega
        have hk1 : (k : Int) < (len : Int) := by omega
        go_wp2_with fail
        refine (l02Least_o _ (Is32.c Hzk.out)).mono ?_
        rintro e w' ⟨bb, hbb, rfl, m, rfl⟩
        have Hbb := Lib.hid hbb
        clear hbb
        cases bb
        · go_wp2_with fail
          go_ret
          exact ⟨_, by rw [Hd.out]; exact all_no zs amtB k (by rw [Hlen.out]; exact hlt) (by rw [Hzz.out]; exact Hbb.out), rfl, (by first | exact ⟨_, rfl⟩ | exact drewC _ _ _ ⟨_, rfl⟩)⟩
        · go_wp2_with fail
          go_roundw
          case rel => exact ⟨k + 1, n + m, by omega, by go_num, all_take_b zs amtB k (by rw [Hlen.out]; exact hlt) Hall.out (by rw [Hzz.out]; exact Hbb.out), rfl⟩
          case measure => simp [intOf]; omega
      · obtain rfl : k = len := by omega
        go_wp2_with fail
        go_ret
        have h3 := Hall.out
        rw [← Hlen.out, List.take_length] at h3
        exact ⟨_, by rw [Hd.out, h3], rfl, _, rfl⟩
  · have h2 : ¬ (len : Int) ≤ 128 := by omega
    have hd : rainB zs = false := by unfold rainB; rw [hlen, decide_eq_false h1, Bool.false_and]
    have Hd := Lib.hid hd
    clear hd hlen
    have h3 : decide ((len : Int) ≤ 128) = false := decide_eq_false h2
    by_cases h0 : (0 : Int) < (len : Int)
    · go_enter Try.func137, Try.ntmps137
      go_wp2_with fail
      go_loopw [3] (fun i wr => i = .int .i64 0 ∧ wr = w) (fun i _ => 0)
      case atStart => exact ⟨rfl, rfl⟩
      case round =>
        obtain ⟨rfl, rfl⟩ := hrel
        go_wp2_with fail
        go_ret
        exact ⟨_, Hd.out, rfl, 0, rfl⟩
    · omega

end Go.Proofs.Ytdoecpghlfjhiac
