/- Ins; rows that are finite: the program and its model alike. -/
import Derived.Test.YtgnkpppbhibfoaaReachA
import Derived.Test.YtgnkpppbhibfoaaIs32
namespace Go.Proofs.Ytgnkpppbhibfoaa
open Go.RowKit
set_option linter.unusedVariables false
set_option linter.unusedSimpArgs false
set_option maxRecDepth 100000
attribute [local irreducible] wpV wpList Code.wp

def insB (X : List Nat) : Bool := decide (1 ≤ X.length) && decide (X.length ≤ 128) && X.all fin32
theorem insB_lo {X : List Nat} (h : ¬ (1 ≤ X.length)) : insB X = false := by unfold insB; rw [decide_eq_false h, Bool.false_and, Bool.false_and]
theorem insB_hi {X : List Nat} (h : ¬ (X.length ≤ 128)) : insB X = false := by unfold insB; rw [decide_eq_false h, Bool.and_false, Bool.false_and]
theorem insB_in {X : List Nat} (h : 1 ≤ X.length) (h' : X.length ≤ 128) : insB X = X.all fin32 := by unfold insB; rw [decide_eq_true h, decide_eq_true h', Bool.true_and, Bool.true_and]

set_option maxHeartbeats 1000000 in
theorem areIns_i (a : Option Addr) (cap : Nat) (X : List Nat) (w : World) (h : RowF .f32 w a X) (hl : X.length ≤ 1048576) (hz : ∀ z ∈ X, z < 4294967296) :
    Calls Try.prog 124 #[.slice a X.length cap] w (SayB (insB X) w) := by
  have H := Lib.hid h
  have HZ := Lib.hid hz
  clear h hz
  by_cases h1 : 1 ≤ X.length
  · have i1 : (1 : Int) ≤ (X.length : Int) := by omega
    by_cases h2 : X.length ≤ 128
    · have i2 : (X.length : Int) ≤ 128 := by omega
      go_enter Try.func124, Try.ntmps124
      go_wp2_with fail
      refine (allOf_f 87 fin32 (enters_of Try.func87 (by kernel_rfl) rfl) a cap X _ (fun z hz W => isFin_o W (Is32.c hz)) H.out hl HZ.out).mono ?_
      rintro e w' ⟨bb, hbb, rfl, hb⟩
      have Hb := Lib.hid hb
      have Hbb := Lib.hid hbb
      clear hb hbb
      go_wp2_with fail
      go_ret
      exact ⟨_, by rw [insB_in h1 h2, Hbb.out], rfl, Hb.out⟩
    · have i2 : ¬ (X.length : Int) ≤ 128 := by omega
      go_enter Try.func124, Try.ntmps124
      go_wp2_with fail
      go_ret
      exact ⟨_, insB_hi h2, rfl, Below.refl _ _⟩
  · have i1 : ¬ (1 : Int) ≤ (X.length : Int) := by omega
    go_enter Try.func124, Try.ntmps124
    go_wp2_with fail
    go_ret
    exact ⟨_, insB_lo h1, rfl, Below.refl _ _⟩

set_option maxHeartbeats 1000000 in
theorem l05Ins_o (a : Option Addr) (cap : Nat) (X : List Nat) (w : World) (h : RowF .f32 w a X) (hl : X.length ≤ 1048576) (hz : ∀ z ∈ X, z < 4294967296) :
    Calls Try.prog 75 #[.slice a X.length cap] w (SayQ (insB X) w) := by
  have H := Lib.hid h
  have HZ := Lib.hid hz
  clear h hz
  by_cases h1 : 1 ≤ X.length
  · have i1 : (1 : Int) ≤ (X.length : Int) := by omega
    by_cases h2 : X.length ≤ 128
    · have i2 : (X.length : Int) ≤ 128 := by omega
      go_enter Try.func75, Try.ntmps75
      go_wp2_with fail
      refine (l02Fin_g a cap X _ H.out hl).mono ?_
      rintro e w' ⟨bb, hbb, rfl, q, rfl⟩
      have Hbb := Lib.hid hbb
      clear hbb
      go_wp2_with fail
      go_ret
      exact ⟨_, by rw [insB_in h1 h2, Hbb.out], rfl, q, rfl⟩
    · have i2 : ¬ (X.length : Int) ≤ 128 := by omega
      go_enter Try.func75, Try.ntmps75
      go_wp2_with fail
      go_ret
      exact ⟨_, insB_hi h2, rfl, 0, rfl⟩
  · have i1 : ¬ (1 : Int) ≤ (X.length : Int) := by omega
    go_enter Try.func75, Try.ntmps75
    go_wp2_with fail
    go_ret
    exact ⟨_, insB_lo h1, rfl, 0, rfl⟩

set_option maxHeartbeats 1000000 in
theorem finiteRow_f (a : Option Addr) (cap : Nat) (X : List Nat) (w : World) (h : RowF .f32 w a X) (hl : X.length ≤ 1048576) (hz : ∀ z ∈ X, z < 4294967296) :
    Calls Try.prog 155 #[.slice a X.length cap, .func (.func 87) #[] #[]] w fun e w' => e = .returned (.tuple #[if X.all fin32 then .slice a X.length cap else .slice none 0 0, .bool (X.all fin32)]) ∧ Below w.heap.size w w' := by
  obtain ⟨B, hB⟩ : ∃ B, X.all fin32 = B := ⟨_, rfl⟩
  rw [hB]
  have HBv := Lib.hid hB
  clear hB
  have H := Lib.hid h
  have HZ := Lib.hid hz
  clear h hz
  go_enter Try.func155, Try.ntmps155
  go_wp2_with fail
  refine (allOf_f 87 fin32 (enters_of Try.func87 (by kernel_rfl) rfl) a cap X _ (fun z hz W => isFin_o W (Is32.c hz)) H.out hl HZ.out).mono ?_
  rintro e w' ⟨bb, hbb, rfl, hb⟩
  have hbB : B = bb := HBv.out.symm.trans hbb
  subst hbB
  have Hb := Lib.hid hb
  clear hb hbb
  cases B
  · go_wp2_with fail
    go_ret2
    exact ⟨rfl, Hb.out⟩
  · go_wp2_with fail
    go_ret2
    exact ⟨rfl, Hb.out⟩

end Go.Proofs.Ytgnkpppbhibfoaa
