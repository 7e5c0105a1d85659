/- When a list is a gauge: the program and its model alike. -/
import Derived.Test.YtdmcjloaommnpaaAllOf
namespace Go.Proofs.Ytdmcjloaommnpaa
open Go.RowKit Go.Proofs
set_option linter.unusedVariables false
set_option linter.unusedSimpArgs false

def amtG (z : Nat) : Bool := amtO (some z)
def cntB (n : Nat) : Bool := decide (1 ≤ n) && decide (n ≤ 128)
def gauB (zs : List Nat) : Bool := cntB zs.length && zs.all amtG
theorem gauB_pos {zs : List Nat} (h : gauB zs = true) : 1 ≤ zs.length := by
  simp only [gauB, cntB, Bool.and_eq_true, decide_eq_true_eq] at h; exact h.1.1
theorem gauB_len {zs : List Nat} (h : gauB zs = true) : zs.length ≤ 128 := by
  simp only [gauB, cntB, Bool.and_eq_true, decide_eq_true_eq] at h; exact h.1.2
theorem gauB_amt {zs : List Nat} (h : gauB zs = true) (k : Nat) (hk : k < zs.length) : amtO (some (zs.getD k 0)) = true := by
  simp only [gauB, Bool.and_eq_true, List.all_eq_true] at h
  have := h.2 (zs.getD k 0) (by rw [List.getD_eq_getElem?_getD, List.getElem?_eq_getElem hk]; exact List.getElem_mem hk)
  exact this
theorem getD_lt {zs : List Nat} (hz : ∀ z ∈ zs, z < 4294967296) (k : Nat) (hk : k < zs.length) : zs.getD k 0 < 4294967296 := by
  rw [List.getD_eq_getElem?_getD, List.getElem?_eq_getElem hk]; exact hz _ (List.getElem_mem hk)
theorem gall_take (zs : List Nat) (q : Nat → Bool) (k : Nat) (h : k < zs.length) (hk : (zs.take k).all q = true) (hf : q (zs.getD k 0) = true) : (zs.take (k + 1)).all q = true := by
  rw [List.take_succ_eq_append_getElem h, List.all_append, hk]
  rw [List.getD_eq_getElem?_getD, List.getElem?_eq_getElem h] at hf
  simpa using hf
theorem gall_no (zs : List Nat) (q : Nat → Bool) (k : Nat) (h : k < zs.length) (hf : q (zs.getD k 0) = false) : zs.all q = false := by
  rw [List.all_eq_false]
  refine ⟨zs[k], List.getElem_mem h, ?_⟩
  rw [List.getD_eq_getElem?_getD, List.getElem?_eq_getElem h] at hf
  simpa using hf
theorem gauB_of {zs : List Nat} (h0 : 1 ≤ zs.length) (h1 : zs.length ≤ 128) : gauB zs = zs.all amtG := by
  unfold gauB cntB; rw [decide_eq_true h0, decide_eq_true h1]; rfl
theorem gauB_none {zs : List Nat} (h0 : ¬ 1 ≤ zs.length) : gauB zs = false := by
  unfold gauB cntB; rw [decide_eq_false h0]; rfl
theorem gauB_long {zs : List Nat} (h0 : ¬ zs.length ≤ 128) : gauB zs = false := by
  unfold gauB cntB; rw [decide_eq_false h0, Bool.and_false]; rfl

set_option maxHeartbeats 400000 in
theorem isGaugeCount_o (n : Nat) (w : World) : Calls Try.prog 53 #[.int .i64 n] w (SayS (cntB n) w) := by
  by_cases h0 : (n : Int) ≥ 1 <;> by_cases h1 : (n : Int) ≤ 128
  all_goals
    go_enter Try.func53, Try.ntmps53
    go_wp2_with fail
    go_ret
    refine ⟨_, ?_, rfl, rfl⟩
    unfold cntB
    first
      | (rw [decide_eq_true (by omega), decide_eq_true (by omega)]; rfl)
      | (rw [decide_eq_true (by omega), decide_eq_false (by omega)]; rfl)
      | (rw [decide_eq_false (by omega)]; rfl)

set_option maxHeartbeats 1000000 in
theorem isGauge_i (a : Option Addr) (cap : Nat) (zs : List Nat) (w : World) (h : RowF .f32 w a zs) (hl : zs.length ≤ 1048576) (hz : ∀ z ∈ zs, z < 4294967296) :
    Calls Try.prog 17 #[.slice a zs.length cap] w (SayB (gauB zs) w) := by
  have H := Lib.hid h
  have Hz := Lib.hid hz
  clear h hz
  have Hd : Hid (gauB zs = (cntB zs.length && zs.all amtG)) := Lib.hid rfl
  go_enter Try.func17, Try.ntmps17
  go_wp2_with fail
  refine (isGaugeCount_o zs.length _).mono ?_
  rintro e w' ⟨bb, hbb, rfl, rfl⟩
  rw [hbb] at Hd
  clear hbb
  cases bb
  · go_wp2_with fail
    go_ret
    exact ⟨_, Hd.out, rfl, Below.refl _ _⟩
  · go_wp2_with fail
    refine (allOf_f 55 amtG (enters_of Try.func55 (by kernel_rfl) rfl) a cap zs _ (fun z hz W => isAmount_o W (Is32.c hz)) H.out hl Hz.out).mono ?_
    rintro e w' ⟨bb, hbb, rfl, hb⟩
    have Hb := Lib.hid hb
    have Hbb := Lib.hid hbb
    clear hb hbb
    go_wp2_with fail
    go_ret
    exact ⟨_, by rw [Hd.out, Hbb.out]; rfl, rfl, Hb.out⟩

set_option maxHeartbeats 1000000 in
theorem l07Gauge_o (a : Option Addr) (cap : Nat) (zs : List Nat) (w : World) (h : RowF .f32 w a zs) (hl : zs.length ≤ 1048576) (hz : ∀ z ∈ zs, z < 4294967296) :
    Calls Try.prog 52 #[.slice a zs.length cap] w (SayQ (gauB zs) w) := by
  have Hc := Lib.hid h.cells
  have Hz := Lib.hid hz
  clear h hz
  have Hn := Lib.hid (@gauB_none zs)
  have Hg := Lib.hid (@gauB_long zs)
  have Ho := Lib.hid (@gauB_of zs)
  obtain ⟨len, hlen⟩ : ∃ len, zs.length = len := ⟨_, rfl⟩
  rw [hlen] at hl Hn Hg Ho ⊢
  have Hlen := Lib.hid hlen
  clear hlen
  by_cases h1 : len ≤ 128
  · have h2 : (len : Int) ≤ 128 := by omega
    go_enter Try.func52, Try.ntmps52
    go_wp2_with fail
    go_loopw [4] (fun i wr => ∃ k n : Nat, k ≤ len ∧ i = .int .i64 k ∧ (zs.take k).all amtG = true ∧ wr = w.drewN n) (fun i _ => len - (intOf i).toNat)
    case atStart => exact ⟨0, 0, Nat.zero_le _, rfl, rfl, rfl⟩
    case round =>
      obtain ⟨k, n, hk, rfl, hall, rfl⟩ := hrel
      have Hall := Lib.hid hall
      clear hall
      by_cases hlt : k < len
      · obtain ⟨b, off, rfl, hc1⟩ := Hc.out k (by rw [Hlen.out]; exact hlt)
        have hzk : zs.getD k 0 < 4294967296 := getD_lt Hz.out k (by rw [Hlen.out]; exact hlt)
        obtain ⟨z, hzz⟩ : ∃ z, zs.getD k 0 = z := ⟨_, rfl⟩
        rw [hzz] at hc1 hzk
        have Hzz := Lib.hid hzz
        have Hzk := Lib.hid hzk
        clear hzz hzk
        have hk0 : (0 : Int) ≤ (k : Int) := by omega
        have hk1 : (k : Int) < (len : Int) := by omega
        go_wp2_with fail
        refine (l02Least_o _ (Is32.c Hzk.out)).mono ?_
        rintro e w' ⟨bb, hbb, rfl, m, rfl⟩
        have Hbb := Lib.hid hbb
        clear hbb
        cases bb
        · go_wp2_with fail
          go_ret
          exact ⟨_, by rw [Ho.out (by omega) h1]; exact gall_no zs amtG k (by rw [Hlen.out]; exact hlt) (by rw [Hzz.out]; exact Hbb.out), rfl, (by first | exact ⟨_, rfl⟩ | exact drewC _ _ _ ⟨_, rfl⟩)⟩
        · go_wp2_with fail
          go_roundw
          case rel => exact ⟨k + 1, n + m, by omega, by go_num, gall_take zs amtG k (by rw [Hlen.out]; exact hlt) Hall.out (by rw [Hzz.out]; exact Hbb.out), rfl⟩
          case measure => simp [intOf]; omega
      · obtain rfl : k = len := by omega
        by_cases h0 : (k : Int) ≥ 1
        · go_wp2_with fail
          go_ret
          have h3 := Hall.out
          rw [← Hlen.out, List.take_length] at h3
          exact ⟨_, by rw [Ho.out (by omega) h1, h3], rfl, _, rfl⟩
        · go_wp2_with fail
          go_ret
          exact ⟨_, Hn.out (by omega), rfl, _, rfl⟩
  · have h2 : ¬ (len : Int) ≤ 128 := by omega
    have h3 : decide ((len : Int) ≤ 128) = false := decide_eq_false h2
    by_cases h0 : (0 : Int) < (len : Int)
    · go_enter Try.func52, Try.ntmps52
      go_wp2_with fail
      go_loopw [4] (fun i wr => i = .int .i64 0 ∧ wr = w) (fun i _ => 0)
      case atStart => exact ⟨rfl, rfl⟩
      case round =>
        obtain ⟨rfl, rfl⟩ := hrel
        go_wp2_with fail
        go_ret
        exact ⟨_, Hg.out h1, rfl, 0, rfl⟩
    · omega

set_option maxHeartbeats 400000 in
theorem isGauge_s (a : Option Addr) (cap : Nat) (zs : List Nat) (w : World) (h : RowF .f32 w a zs) (hl : zs.length ≤ 1048576) (hz : ∀ z ∈ zs, z < 4294967296) :
    Calls Try.prog 15 #[.slice a zs.length cap] w (SayB (gauB zs) w) := by
  have H := Lib.hid (l07Gauge_o a cap zs w h hl hz)
  clear h hz
  go_enter Try.func15, Try.ntmps15
  go_wp2_with fail
  refine H.out.mono ?_
  rintro e w' ⟨bb, hbb, rfl, m, rfl⟩
  go_wp2_with fail
  go_ret
  exact ⟨_, hbb, rfl, beld (Below.refl _ _) _⟩
end Go.Proofs.Ytdmcjloaommnpaa
