/- Valid rivers: the program. -/
import Derived.Test.YtckmacnmmloemaaValRP
import Derived.Deep.RegionHeld3
import Derived.Deep.RegionWith
namespace Go.Proofs.Ytckmacnmmloemaa
open Go.RowKit
set_option linter.unusedVariables false
set_option linter.unusedSimpArgs false
set_option maxRecDepth 100000
attribute [local irreducible] wpV wpList Code.wp

set_option maxHeartbeats 16000000 in
theorem validRiver_i (a0 a1 a2 : Option Addr) (l0 n l2 c0 c1 c2 : Nat) (D M V : List Int) (w : World) (h0 : RowC w a0 (ic D)) (h1 : RowC w a1 (ic M)) (h2 : RowC w a2 (ic V)) (hD : D.length = l0) (hM : M.length = n * 4) (hV : V.length = l2) (hl : l0 ≤ 1048576 ∧ n ≤ 1048576 ∧ l2 ≤ 1048576) :
    Calls Try.prog 55 #[.agg #[.slice a0 l0 c0, .slice a1 n c1, .slice a2 l2 c2]] w (SayB (rivB D M V n) w) := by
  obtain ⟨v, hv⟩ : ∃ v, rivB D M V n = v := ⟨_, rfl⟩
  rw [hv]
  have HV := Lib.hid hv
  clear hv
  have HD := Lib.hid hD
  have HM := Lib.hid hM
  have HVl := Lib.hid hV
  have H0 := Lib.hid h0
  have H1 := Lib.hid h1
  have H2 := Lib.hid h2
  clear hD hM hV h0 h1 h2
  have hmf : ∀ (fn : Fn) (first cap : Array Value) (w : World), (Instr.makeFunc fn first cap).run Try.prog w = .ok (.func fn first cap) w := fun _ _ _ _ => rfl
  obtain ⟨w2, hw2⟩ : ∃ W, ((w.alloc (.cells #[.slice a0 l0 c0, .slice a1 n c1, .slice a2 l2 c2] 29)).alloc (.cells #[.int .i64 0] 2)).setCell ⟨w.heap.size + 1, 0, none⟩ (.int .i64 (l0 : Int)) = W := ⟨_, rfl⟩
  have r0 : w2.cell? ⟨w.heap.size, 0, none⟩ = some (.slice a0 l0 c0) := by rw [← hw2]; simp [go_sem]
  have r1 : w2.cell? ⟨w.heap.size, 1, none⟩ = some (.slice a1 n c1) := by rw [← hw2]; simp [go_sem]
  have r2 : w2.cell? ⟨w.heap.size, 2, none⟩ = some (.slice a2 l2 c2) := by rw [← hw2]; simp [go_sem]
  have rc : w2.cell? ⟨w.heap.size + 1, 0, none⟩ = some (.int .i64 (l0 : Int)) := by rw [← hw2]; simp [go_sem]
  have HW2 : Hid (Below w.heap.size w w2) := Lib.hid (by rw [← hw2]; exact (below2 w _ _).setCell (by show w.heap.size ≤ w.heap.size + 1; omega) _)
  have HS2 : Hid (w2.heap.size = w.heap.size + 2) := Lib.hid (by rw [← hw2, setCell_size]; simp)
  go_enter Try.func55, Try.ntmps55
  go_wp2_with fail
  clear hw2
  refine (isNodeCount_any (l0 : Int) _).mono ?_
  rintro e w' ⟨bb, hbb, rfl, rfl⟩
  have HBB := Lib.hid hbb
  clear hbb
  cases bb
  · have hvf : rivB D M V n = false := rivB_len (fun h9 => by have := HBB.out; rw [Bool.and_eq_false_iff, decide_eq_false_iff_not, decide_eq_false_iff_not] at this; have h8 := HD.out; omega)
    have HVF := Lib.hid hvf
    clear hvf
    go_wp2_with fail
    go_ret
    exact ⟨_, HV.out.symm.trans HVF.out, rfl, HW2.out⟩
  have hl2 : 1 ≤ l0 ∧ l0 ≤ 12 := by have := HBB.out; rw [Bool.and_eq_true, decide_eq_true_eq, decide_eq_true_eq] at this; omega
  clear HBB
  by_cases g3 : (n : Int) = (l0 : Int)
  rotate_left
  · have hvf : rivB D M V n = false := rivB_len (fun h9 => g3 (by have h8 := HD.out; omega))
    have HVF := Lib.hid hvf
    clear hvf
    go_wp2_with fail
    go_ret
    exact ⟨_, HV.out.symm.trans HVF.out, rfl, HW2.out⟩
  obtain rfl : n = l0 := by omega
  by_cases g4 : (l2 : Int) = (n : Int)
  rotate_left
  · have hvf : rivB D M V n = false := rivB_len (fun h9 => g4 (by have h8 := HD.out; have h7 := HVl.out; omega))
    have HVF := Lib.hid hvf
    clear hvf
    go_wp2_with fail
    go_ret
    exact ⟨_, HV.out.symm.trans HVF.out, rfl, HW2.out⟩
  obtain rfl : l2 = n := by omega
  clear g3 g4
  have Hlen := Lib.hid hl2
  obtain ⟨hl21, hl22⟩ := hl2
  have HSZ : Hid (w.heap.size + 2 ≤ w2.heap.size) := Lib.hid (Nat.le_of_eq HS2.out.symm)
  have K0 : Hid (Below (w.heap.size + 2) w2 w2) := Lib.hid (Below.refl _ _)
  have HKeep : Hid (∀ W, Below (w.heap.size + 2) w2 W → (W.cell? ⟨w.heap.size, 0, none⟩ = some (.slice a0 l2 c0) ∧ W.cell? ⟨w.heap.size, 1, none⟩ = some (.slice a1 l2 c1) ∧ W.cell? ⟨w.heap.size, 2, none⟩ = some (.slice a2 l2 c2) ∧ W.cell? ⟨w.heap.size + 1, 0, none⟩ = some (.int .i64 (l2 : Int)))) := Lib.hid fun W hW => ⟨(hW.cell (p := ⟨w.heap.size, 0, none⟩) (by show w.heap.size < w.heap.size + 2; omega)).trans r0, (hW.cell (p := ⟨w.heap.size, 1, none⟩) (by show w.heap.size < w.heap.size + 2; omega)).trans r1, (hW.cell (p := ⟨w.heap.size, 2, none⟩) (by show w.heap.size < w.heap.size + 2; omega)).trans r2, (hW.cell (p := ⟨w.heap.size + 1, 0, none⟩) (by show w.heap.size + 1 < w.heap.size + 2; omega)).trans rc⟩
  have HC1 : Hid (∀ b, allDn D l2 = b → ∀ W, Below (w.heap.size + 2) w2 W → Calls Try.prog 86 #[.slice a0 l2 c0, .func (.func 100) #[] #[.pointer (some ⟨w.heap.size + 1, 0, none⟩)]] W fun e w' => e = .returned (.bool b) ∧ Below W.heap.size W w') := Lib.hid fun b hbv W hW => (allOfZ 100 #[.pointer (some ⟨w.heap.size + 1, 0, none⟩)] (fun k => downB l2 (D.getD k 0)) (enters_of Try.func100 (by kernel_rfl) rfl) a0 l2 c0 D W (fun k hk W' hW' => (downClo l2 (D.getD k 0) (w.heap.size + 1) W' ((hW'.cell (p := ⟨w.heap.size + 1, 0, none⟩) (by have h9 := hW.size; have h8 := HS2.out; show w.heap.size + 1 < W.heap.size; omega)).trans (HKeep.out W hW).2.2.2)).mono (fun e w' ⟨b', h1, h2, h3⟩ => ⟨b', h1, h2, h3 ▸ Below.refl _ _⟩)) (H0.out.below (HW2.out.trans (hW.mono (Nat.le_add_right _ _))) (Nat.le_refl _)) HD.out (by omega)).mono (fun e w' ⟨b', h1, h2, h3⟩ => ⟨by rw [h2, ← h1, ← hbv]; rfl, h3⟩)
  have HC2 : Hid (∀ b, allDm M l2 = b → ∀ W, Below (w.heap.size + 2) w2 W → Calls Try.prog 101 #[.slice a1 l2 c1, .func (.func 102) #[] #[]] W fun e w' => e = .returned (.bool b) ∧ Below W.heap.size W w') := Lib.hid fun b hbv W hW => (allOfD 102 #[] (fun k => damB (M.getD (k * 4) 0) (M.getD (k * 4 + 1) 0) (M.getD (k * 4 + 2) 0) (M.getD (k * 4 + 3) 0)) (enters_of Try.func102 (by kernel_rfl) rfl) a1 l2 c1 M W (fun k hk W' hW' => isDam_any _ _ _ _ W') (H1.out.below (HW2.out.trans (hW.mono (Nat.le_add_right _ _))) (Nat.le_refl _)) HM.out (by omega)).mono (fun e w' ⟨b', h1, h2, h3⟩ => ⟨by rw [h2, ← h1, ← hbv]; rfl, h3⟩)
  have HC3 : Hid (∀ b, allWn V l2 = b → ∀ W, Below (w.heap.size + 2) w2 W → Calls Try.prog 86 #[.slice a2 l2 c2, .func (.func 75) #[] #[]] W fun e w' => e = .returned (.bool b) ∧ Below W.heap.size W w') := Lib.hid fun b hbv W hW => (allOfZ 75 #[] (fun k => unitB (V.getD k 0)) (enters_of Try.func75 (by kernel_rfl) rfl) a2 l2 c2 V W (fun k hk W' hW' => (isUnits_any _ W').mono (fun e w' ⟨b', h1, h2, h3⟩ => ⟨b', h1, h2, h3 ▸ Below.refl _ _⟩)) (H2.out.below (HW2.out.trans (hW.mono (Nat.le_add_right _ _))) (Nat.le_refl _)) HVl.out (by omega)).mono (fun e w' ⟨b', h1, h2, h3⟩ => ⟨by rw [h2, ← h1, ← hbv]; rfl, h3⟩)
  have HC4 : Hid (allDn D l2 = true → ∀ L, (kahn D l2).length = L → ∀ W, Below (w.heap.size + 2) w2 W → Calls Try.prog 59 #[.slice a0 l2 c0] W fun e w' => (∃ g c, e = .returned (.slice (some ⟨g, 0, none⟩) L c)) ∧ Below W.heap.size W w') := Lib.hid fun hbv L hLL W hW => (orderOf_any a0 l2 c0 D W (H0.out.below (HW2.out.trans (hW.mono (Nat.le_add_right _ _))) (Nat.le_refl _)) HD.out (by omega) (by omega) (allDn_range (by rw [HD.out]; exact hbv))).mono (fun e w' ⟨g, c, h1, _, h3⟩ => ⟨⟨g, c, hLL ▸ h1⟩, h3⟩)
  have HP : Hid (rivB D M V l2 = (allDn D l2 && allDm M l2 && allWn V l2 && decide ((kahn D l2).length = l2))) := Lib.hid (by have h9 := rivB_prog (D := D) (M := M) (V := V) (by rw [HD.out]; omega) (by rw [HD.out]; omega) (by rw [HD.out, HVl.out]); rw [HD.out] at h9; exact h9)
  go_wp2_with fail
  cases e1 : allDn D l2
  case false =>
    have HD1 := Lib.hid (HC1.out _ e1)
    have HVF : Hid (rivB D M V l2 = false) := Lib.hid (by rw [HP.out, e1]; simp)
    clear e1
    first
    | (go_region_with (first | (go_at_call 86; refine (HD1.out _ (by first | with_reducible exact K0.out | with_reducible exact K0.out.drew)).mono ?_; rintro e w5 ⟨rfl, hb⟩; have K1 := Lib.hid (kstep (by first | with_reducible exact K0.out | with_reducible exact K0.out.drew) HSZ.out hb); clear hb; obtain ⟨r0, r1, r2, rc⟩ := HKeep.out _ K1.out)))
    | fail
    all_goals go_wp2_with fail
    all_goals go_ret
    all_goals (refine ⟨_, HV.out.symm.trans HVF.out, ?_, ?_⟩; (first | rfl | (congr 2; first | rfl | exact decide_eq_false (by omega) | exact decide_eq_true (by omega)) | (simp; omega)); (first | with_reducible exact HW2.out.trans (K1.out.mono (Nat.le_add_right _ _)) | with_reducible exact HW2.out.trans (K1.out.drew.mono (Nat.le_add_right _ _)) | exact HW2.out.trans ((below_drewN K1.out _).mono (Nat.le_add_right _ _))))
  have HD1 := Lib.hid (HC1.out _ e1)
  have HE1 := Lib.hid e1
  clear e1
  cases e2 : allDm M l2
  case false =>
    have HD2 := Lib.hid (HC2.out _ e2)
    have HVF : Hid (rivB D M V l2 = false) := Lib.hid (by rw [HP.out, e2]; simp)
    clear e2
    first
    | (go_region_with (first | (go_at_call 86; refine (HD1.out _ (by first | with_reducible exact K0.out | with_reducible exact K0.out.drew)).mono ?_; rintro e w5 ⟨rfl, hb⟩; have K1 := Lib.hid (kstep (by first | with_reducible exact K0.out | with_reducible exact K0.out.drew) HSZ.out hb); clear hb; obtain ⟨r0, r1, r2, rc⟩ := HKeep.out _ K1.out) | (go_at_call 101; refine (HD2.out _ (by first | with_reducible exact K1.out | with_reducible exact K1.out.drew)).mono ?_; rintro e w6 ⟨rfl, hb⟩; have K2 := Lib.hid (kstep (by first | with_reducible exact K1.out | with_reducible exact K1.out.drew) HSZ.out hb); clear hb; obtain ⟨r0, r1, r2, rc⟩ := HKeep.out _ K2.out)))
    | fail
    all_goals go_wp2_with fail
    all_goals go_ret
    all_goals (refine ⟨_, HV.out.symm.trans HVF.out, ?_, ?_⟩; (first | rfl | (congr 2; first | rfl | exact decide_eq_false (by omega) | exact decide_eq_true (by omega)) | (simp; omega)); (first | with_reducible exact HW2.out.trans (K2.out.mono (Nat.le_add_right _ _)) | with_reducible exact HW2.out.trans (K2.out.drew.mono (Nat.le_add_right _ _)) | exact HW2.out.trans ((below_drewN K2.out _).mono (Nat.le_add_right _ _))))
  have HD2 := Lib.hid (HC2.out _ e2)
  have HE2 := Lib.hid e2
  clear e2
  cases e3 : allWn V l2
  case false =>
    have HD3 := Lib.hid (HC3.out _ e3)
    have HVF : Hid (rivB D M V l2 = false) := Lib.hid (by rw [HP.out, e3]; simp)
    clear e3
    first
    | (go_region_with (first | (go_at_call 86; refine (HD1.out _ (by first | with_reducible exact K0.out | with_reducible exact K0.out.drew)).mono ?_; rintro e w5 ⟨rfl, hb⟩; have K1 := Lib.hid (kstep (by first | with_reducible exact K0.out | with_reducible exact K0.out.drew) HSZ.out hb); clear hb; obtain ⟨r0, r1, r2, rc⟩ := HKeep.out _ K1.out) | (go_at_call 101; refine (HD2.out _ (by first | with_reducible exact K1.out | with_reducible exact K1.out.drew)).mono ?_; rintro e w6 ⟨rfl, hb⟩; have K2 := Lib.hid (kstep (by first | with_reducible exact K1.out | with_reducible exact K1.out.drew) HSZ.out hb); clear hb; obtain ⟨r0, r1, r2, rc⟩ := HKeep.out _ K2.out) | (go_at_call 86; refine (HD3.out _ (by first | with_reducible exact K2.out | with_reducible exact K2.out.drew)).mono ?_; rintro e w7 ⟨rfl, hb⟩; have K3 := Lib.hid (kstep (by first | with_reducible exact K2.out | with_reducible exact K2.out.drew) HSZ.out hb); clear hb; obtain ⟨r0, r1, r2, rc⟩ := HKeep.out _ K3.out)))
    | fail
    all_goals go_wp2_with fail
    all_goals go_ret
    all_goals (refine ⟨_, HV.out.symm.trans HVF.out, ?_, ?_⟩; (first | rfl | (congr 2; first | rfl | exact decide_eq_false (by omega) | exact decide_eq_true (by omega)) | (simp; omega)); (first | with_reducible exact HW2.out.trans (K3.out.mono (Nat.le_add_right _ _)) | with_reducible exact HW2.out.trans (K3.out.drew.mono (Nat.le_add_right _ _)) | exact HW2.out.trans ((below_drewN K3.out _).mono (Nat.le_add_right _ _))))
  have HD3 := Lib.hid (HC3.out _ e3)
  have HE3 := Lib.hid e3
  clear e3
  obtain ⟨L, hL⟩ : ∃ L, (kahn D l2).length = L := ⟨_, rfl⟩
  have HD4 := Lib.hid (HC4.out HE1.out L hL)
  have HPL : Hid (rivB D M V l2 = decide (L = l2)) := Lib.hid (by rw [HP.out, HE1.out, HE2.out, HE3.out, hL]; rfl)
  clear hL
  by_cases hLn : (L : Int) = (l2 : Int)
  · obtain rfl : L = l2 := by omega
    have HVF : Hid (rivB D M V L = true) := Lib.hid (by rw [HPL.out]; simp)
    clear hLn
    go_region_held3 (fun W => W.cell? ⟨w.heap.size, 0, none⟩ = some (.slice a0 L c0) ∧ W.cell? ⟨w.heap.size, 1, none⟩ = some (.slice a1 L c1) ∧ W.cell? ⟨w.heap.size, 2, none⟩ = some (.slice a2 L c2) ∧ W.cell? ⟨w.heap.size + 1, 0, none⟩ = some (.int .i64 (L : Int)))
      (first | with_reducible exact HKeep.out _ K4.out | with_reducible exact HKeep.out _ K4.out.drew | with_reducible exact HKeep.out _ K3.out | with_reducible exact HKeep.out _ K3.out.drew | with_reducible exact HKeep.out _ K2.out | with_reducible exact HKeep.out _ K2.out.drew | with_reducible exact HKeep.out _ K1.out | with_reducible exact HKeep.out _ K1.out.drew | with_reducible exact HKeep.out _ K0.out | with_reducible exact HKeep.out _ K0.out.drew)
      (first | (go_at_call 86; refine (HD1.out _ (by first | with_reducible exact K0.out | with_reducible exact K0.out.drew)).mono ?_; rintro e w5 ⟨rfl, hb⟩; have K1 := Lib.hid (kstep (by first | with_reducible exact K0.out | with_reducible exact K0.out.drew) HSZ.out hb); clear hb) | (go_at_call 101; refine (HD2.out _ (by first | with_reducible exact K1.out | with_reducible exact K1.out.drew)).mono ?_; rintro e w6 ⟨rfl, hb⟩; have K2 := Lib.hid (kstep (by first | with_reducible exact K1.out | with_reducible exact K1.out.drew) HSZ.out hb); clear hb) | (go_at_call 86; refine (HD3.out _ (by first | with_reducible exact K2.out | with_reducible exact K2.out.drew)).mono ?_; rintro e w7 ⟨rfl, hb⟩; have K3 := Lib.hid (kstep (by first | with_reducible exact K2.out | with_reducible exact K2.out.drew) HSZ.out hb); clear hb) | (go_at_call 59; refine (HD4.out _ (by first | with_reducible exact K3.out | with_reducible exact K3.out.drew)).mono ?_; rintro e w8 ⟨⟨g9, c9, rfl⟩, hb⟩; have K4 := Lib.hid (kstep (by first | with_reducible exact K3.out | with_reducible exact K3.out.drew) HSZ.out hb); clear hb))
    all_goals go_wp2_with fail
    all_goals go_ret
    all_goals (refine ⟨_, HV.out.symm.trans HVF.out, ?_, ?_⟩; (first | rfl | (congr 2; first | rfl | exact decide_eq_false (by omega) | exact decide_eq_true (by omega)) | (simp; omega)); (first | with_reducible exact HW2.out.trans (K4.out.mono (Nat.le_add_right _ _)) | with_reducible exact HW2.out.trans (K4.out.drew.mono (Nat.le_add_right _ _)) | exact HW2.out.trans ((below_drewN K4.out _).mono (Nat.le_add_right _ _))))
  · have HVF : Hid (rivB D M V l2 = false) := Lib.hid (by rw [HPL.out]; exact decide_eq_false (by omega))
    go_region_held3 (fun W => W.cell? ⟨w.heap.size, 0, none⟩ = some (.slice a0 l2 c0) ∧ W.cell? ⟨w.heap.size, 1, none⟩ = some (.slice a1 l2 c1) ∧ W.cell? ⟨w.heap.size, 2, none⟩ = some (.slice a2 l2 c2) ∧ W.cell? ⟨w.heap.size + 1, 0, none⟩ = some (.int .i64 (l2 : Int)))
      (first | with_reducible exact HKeep.out _ K4.out | with_reducible exact HKeep.out _ K4.out.drew | with_reducible exact HKeep.out _ K3.out | with_reducible exact HKeep.out _ K3.out.drew | with_reducible exact HKeep.out _ K2.out | with_reducible exact HKeep.out _ K2.out.drew | with_reducible exact HKeep.out _ K1.out | with_reducible exact HKeep.out _ K1.out.drew | with_reducible exact HKeep.out _ K0.out | with_reducible exact HKeep.out _ K0.out.drew)
      (first | (go_at_call 86; refine (HD1.out _ (by first | with_reducible exact K0.out | with_reducible exact K0.out.drew)).mono ?_; rintro e w5 ⟨rfl, hb⟩; have K1 := Lib.hid (kstep (by first | with_reducible exact K0.out | with_reducible exact K0.out.drew) HSZ.out hb); clear hb) | (go_at_call 101; refine (HD2.out _ (by first | with_reducible exact K1.out | with_reducible exact K1.out.drew)).mono ?_; rintro e w6 ⟨rfl, hb⟩; have K2 := Lib.hid (kstep (by first | with_reducible exact K1.out | with_reducible exact K1.out.drew) HSZ.out hb); clear hb) | (go_at_call 86; refine (HD3.out _ (by first | with_reducible exact K2.out | with_reducible exact K2.out.drew)).mono ?_; rintro e w7 ⟨rfl, hb⟩; have K3 := Lib.hid (kstep (by first | with_reducible exact K2.out | with_reducible exact K2.out.drew) HSZ.out hb); clear hb) | (go_at_call 59; refine (HD4.out _ (by first | with_reducible exact K3.out | with_reducible exact K3.out.drew)).mono ?_; rintro e w8 ⟨⟨g9, c9, rfl⟩, hb⟩; have K4 := Lib.hid (kstep (by first | with_reducible exact K3.out | with_reducible exact K3.out.drew) HSZ.out hb); clear hb))
    all_goals go_wp2_with fail
    all_goals go_ret
    all_goals (refine ⟨_, HV.out.symm.trans HVF.out, ?_, ?_⟩; (first | rfl | (congr 2; first | rfl | exact decide_eq_false (by omega) | exact decide_eq_true (by omega)) | (simp; omega)); (first | with_reducible exact HW2.out.trans (K4.out.mono (Nat.le_add_right _ _)) | with_reducible exact HW2.out.trans (K4.out.drew.mono (Nat.le_add_right _ _)) | exact HW2.out.trans ((below_drewN K4.out _).mono (Nat.le_add_right _ _))))

end Go.Proofs.Ytckmacnmmloemaa
