/- When a list is rain: the program and its model alike. -/
import Derived.Test.YtgnkpppbhibfoaaAllOf
namespace Go.Proofs.Ytgnkpppbhibfoaa
open Go.RowKit Go.Proofs
set_option linter.unusedVariables false

def amtB (z : Nat) : Bool := amtO (some z)
def rainB (zs : List Nat) : Bool := decide (zs.length ≤ 128) && zs.all amtB
theorem all_take_b (zs : List Nat) (q : Nat → Bool) (k : Nat) (h : k < zs.length) (hk : (zs.take k).all q = true) (hf : q (zs.getD k 0) = true) : (zs.take (k + 1)).all q = true := by
  rw [List.take_succ_eq_append_getElem h, List.all_append, hk]
  rw [List.getD_eq_getElem?_getD, List.getElem?_eq_getElem h] at hf
  simpa using hf
theorem all_no (zs : List Nat) (q : Nat → Bool) (k : Nat) (h : k < zs.length) (hf : q (zs.getD k 0) = false) : zs.all q = false := by
  rw [List.all_eq_false]
  refine ⟨zs[k], List.getElem_mem h, ?_⟩
  rw [List.getD_eq_getElem?_getD, List.getElem?_eq_getElem h] at hf
  simpa using hf

set_option maxHeartbeats 1000000 in
theorem isRain_i (a : Option Addr) (cap : Nat) (zs : List Nat) (w : World) (h : RowF .f32 w a zs) (hl : zs.length ≤ 1048576) (hz : ∀ z ∈ zs, z < 4294967296) :
    Calls Try.prog 125 #[.slice a zs.length cap] w (SayB (rainB zs) w) := by
  have H := Lib.hid h
  have Hz := Lib.hid hz
  clear h hz
  by_cases h1 : zs.length ≤ 128
  · have h2 : (zs.length : Int) ≤ 128 := by omega
    have hd : rainB zs = zs.all amtB := by unfold rainB; rw [decide_eq_true h1, Bool.true_and]
    have Hd := Lib.hid hd
    clear hd h1
    go_enter Try.func125, Try.ntmps125
    go_wp2_with fail
    refine (allOf_f 71 amtB (enters_of Try.func71 (by kernel_rfl) rfl) a cap zs _ (fun z hz W => isAmount_o W (Is32.c hz)) H.out hl Hz.out).mono ?_
    rintro e w' ⟨bb, hbb, rfl, hb⟩
    have Hb := Lib.hid hb
    have Hbb := Lib.hid hbb
    clear hb hbb
    go_wp2_with fail
    go_ret
    exact ⟨_, by rw [Hd.out, Hbb.out], rfl, Hb.out⟩
  · have h2 : ¬ (zs.length : Int) ≤ 128 := by omega
    have hd : rainB zs = false := by unfold rainB; rw [decide_eq_false h1, Bool.false_and]
    have Hd := Lib.hid hd
    clear hd h1
    go_enter Try.func125, Try.ntmps125
    go_wp2_with fail
    go_ret
    exact ⟨_, Hd.out, rfl, Below.refl _ _⟩


end Go.Proofs.Ytgnkpppbhibfoaa
