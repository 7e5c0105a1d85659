/- When rivers are valid: the model. -/
import Derived.Test.YtckmacnmmloemaaRivB
import Derived.Deep.Cut
import Derived.Deep.QuietTactic
import Derived.BigQuiet
namespace Go.Proofs.Ytckmacnmmloemaa
open Go.RowKit
set_option linter.unusedVariables false
set_option linter.unusedSimpArgs false
set_option maxRecDepth 100000
attribute [local irreducible] wpV wpList Code.wp

theorem l06Unit_any (z : Int) (w : World) : Calls Try.prog 72 #[.int .i64 z] w (SayS (unitB z) w) := by
  go_enter Try.func72, Try.ntmps72
  go_wp2_with fail
  refine (inZ_any z 0 1000000000 _).mono ?_
  rintro e w' ⟨bb, hbb, rfl, rfl⟩
  have H := Lib.hid hbb
  clear hbb
  go_wp2_with fail
  go_ret
  exact ⟨_, H.out, rfl, rfl⟩

set_option maxHeartbeats 4000000 in
theorem l06Dam_any (b o : Nat) (s d l nw : Int) (w : World) (h0 : w.cell? ⟨b, o, none⟩ = some (.int .i64 s)) (h1 : w.cell? ⟨b, o + 1, none⟩ = some (.int .i64 d)) (h2 : w.cell? ⟨b, o + 2, none⟩ = some (.int .i64 l)) (h3 : w.cell? ⟨b, o + 3, none⟩ = some (.int .i64 nw)) :
    Calls Try.prog 94 #[.pointer (some ⟨b, o, none⟩)] w fun e w' => e = .returned (.bool (damB s d l nw)) ∧ ∃ m, w' = w.drewN m := by
  obtain ⟨v, hv⟩ : ∃ v, damB s d l nw = v := ⟨_, rfl⟩
  rw [hv]
  have HV := Lib.hid hv
  clear hv
  have HC0 : Hid (∀ b, unitB s = b → ∀ q, Calls Try.prog 72 #[.int .i64 s] (w.drewN q) fun e w' => e = .returned (.bool b) ∧ ∃ m, w' = (w.drewN q).drewN m) := Lib.hid fun b hb q => (l06Unit_any s (w.drewN q)).mono (by rintro en w' ⟨b', h1, rfl, rfl⟩; rw [h1] at hb; subst hb; exact ⟨rfl, 0, rfl⟩)
  have HC1 : Hid (∀ b, inB d 0 s = b → ∀ q, Calls Try.prog 84 #[.int .i64 d, .int .i64 0, .int .i64 s] (w.drewN q) fun e w' => e = .returned (.bool b) ∧ ∃ m, w' = (w.drewN q).drewN m) := Lib.hid fun b hb q => (inZ_any d 0 s (w.drewN q)).mono (by rintro en w' ⟨b', h1, rfl, rfl⟩; unfold inB at hb; rw [h1] at hb; subst hb; exact ⟨rfl, 0, rfl⟩)
  have HC2 : Hid (∀ b, unitB l = b → ∀ q, Calls Try.prog 72 #[.int .i64 l] (w.drewN q) fun e w' => e = .returned (.bool b) ∧ ∃ m, w' = (w.drewN q).drewN m) := Lib.hid fun b hb q => (l06Unit_any l (w.drewN q)).mono (by rintro en w' ⟨b', h1, rfl, rfl⟩; rw [h1] at hb; subst hb; exact ⟨rfl, 0, rfl⟩)
  have HC3 : Hid (∀ b, inB nw 0 s = b → ∀ q, Calls Try.prog 84 #[.int .i64 nw, .int .i64 0, .int .i64 s] (w.drewN q) fun e w' => e = .returned (.bool b) ∧ ∃ m, w' = (w.drewN q).drewN m) := Lib.hid fun b hb q => (inZ_any nw 0 s (w.drewN q)).mono (by rintro en w' ⟨b', h1, rfl, rfl⟩; unfold inB at hb; rw [h1] at hb; subst hb; exact ⟨rfl, 0, rfl⟩)
  go_enter Try.func94, Try.ntmps94
  go_wp2_with fail
  cases e0 : unitB s
  case false =>
    have hvf : v = false := by rw [← HV.out]; unfold damB; simp [e0]
    have HVF := Lib.hid hvf
    have HD0 := Lib.hid (HC0.out _ e0)
    clear hvf e0
    go_quiet (first | (go_at_call 72; with_reducible exact Calls.quiet_of (HD0.out _)) | (go_at_call 84; with_reducible exact Calls.quiet_of (HD1.out _)) | (go_at_call 72; with_reducible exact Calls.quiet_of (HD2.out _)) | (go_at_call 84; with_reducible exact Calls.quiet_of (HD3.out _)))
    go_wp2_with fail
    go_ret
    rw [HVF.out]
    exact ⟨rfl, _, rfl⟩
  have HD0 := Lib.hid (HC0.out _ e0)
  have E0 := Lib.hid e0
  clear e0
  cases e1 : inB d 0 s
  case false =>
    have hvf : v = false := by rw [← HV.out]; unfold damB; simp [E0.out, e1]
    have HVF := Lib.hid hvf
    have HD1 := Lib.hid (HC1.out _ e1)
    clear hvf e1
    go_quiet (first | (go_at_call 72; with_reducible exact Calls.quiet_of (HD0.out _)) | (go_at_call 84; with_reducible exact Calls.quiet_of (HD1.out _)) | (go_at_call 72; with_reducible exact Calls.quiet_of (HD2.out _)) | (go_at_call 84; with_reducible exact Calls.quiet_of (HD3.out _)))
    go_wp2_with fail
    go_ret
    rw [HVF.out]
    exact ⟨rfl, _, rfl⟩
  have HD1 := Lib.hid (HC1.out _ e1)
  have E1 := Lib.hid e1
  clear e1
  cases e2 : unitB l
  case false =>
    have hvf : v = false := by rw [← HV.out]; unfold damB; simp [E0.out, E1.out, e2]
    have HVF := Lib.hid hvf
    have HD2 := Lib.hid (HC2.out _ e2)
    clear hvf e2
    go_quiet (first | (go_at_call 72; with_reducible exact Calls.quiet_of (HD0.out _)) | (go_at_call 84; with_reducible exact Calls.quiet_of (HD1.out _)) | (go_at_call 72; with_reducible exact Calls.quiet_of (HD2.out _)) | (go_at_call 84; with_reducible exact Calls.quiet_of (HD3.out _)))
    go_wp2_with fail
    go_ret
    rw [HVF.out]
    exact ⟨rfl, _, rfl⟩
  have HD2 := Lib.hid (HC2.out _ e2)
  have E2 := Lib.hid e2
  clear e2
  cases e3 : inB nw 0 s
  case false =>
    have hvf : v = false := by rw [← HV.out]; unfold damB; simp [E0.out, E1.out, E2.out, e3]
    have HVF := Lib.hid hvf
    have HD3 := Lib.hid (HC3.out _ e3)
    clear hvf e3
    go_quiet (first | (go_at_call 72; with_reducible exact Calls.quiet_of (HD0.out _)) | (go_at_call 84; with_reducible exact Calls.quiet_of (HD1.out _)) | (go_at_call 72; with_reducible exact Calls.quiet_of (HD2.out _)) | (go_at_call 84; with_reducible exact Calls.quiet_of (HD3.out _)))
    go_wp2_with fail
    go_ret
    rw [HVF.out]
    exact ⟨rfl, _, rfl⟩
  have HD3 := Lib.hid (HC3.out _ e3)
  have E3 := Lib.hid e3
  clear e3
  have hvf : v = true := by rw [← HV.out]; unfold damB; simp [E0.out, E1.out, E2.out, E3.out]
  have HVF := Lib.hid hvf
  clear hvf
  go_quiet (first | (go_at_call 72; with_reducible exact Calls.quiet_of (HD0.out _)) | (go_at_call 84; with_reducible exact Calls.quiet_of (HD1.out _)) | (go_at_call 72; with_reducible exact Calls.quiet_of (HD2.out _)) | (go_at_call 84; with_reducible exact Calls.quiet_of (HD3.out _)))
  go_wp2_with fail
  go_ret
  rw [HVF.out]
  exact ⟨rfl, _, rfl⟩

set_option maxHeartbeats 16000000 in
theorem l06Is_any (pa : Nat) (a0 a1 a2 : Option Addr) (l0 n l2 c0 c1 c2 : Nat) (D M V : List Int) (w : World) (hpa : Bx w pa [.slice a0 l0 c0, .slice a1 n c1, .slice a2 l2 c2]) (h0 : RowC w a0 (ic D)) (h1 : RowC w a1 (ic M)) (h2 : RowC w a2 (ic V)) (hD : D.length = l0) (hM : M.length = n * 4) (hV : V.length = l2) (hl : l0 ≤ 1048576 ∧ n ≤ 1048576 ∧ l2 ≤ 1048576) :
    Calls Try.prog 51 #[.pointer (some ⟨pa, 0, none⟩)] w fun e w' => e = .returned (.bool (rivB D M V n)) ∧ ∃ m, w' = w.drewN m := by
  obtain ⟨v, hv⟩ : ∃ v, rivB D M V n = v := ⟨_, rfl⟩
  rw [hv]
  have HV := Lib.hid hv
  clear hv
  have HD := Lib.hid hD
  have HM := Lib.hid hM
  have HVl := Lib.hid hV
  have H0 := Lib.hid h0
  have H1 := Lib.hid h1
  have H2 := Lib.hid h2
  have HP := Lib.hid hpa
  clear hD hM hV h0 h1 h2 hpa
  have p0 := HP.out.c 0 rfl
  have p1 := HP.out.c 1 rfl
  have p2 := HP.out.c 2 rfl
  go_enter Try.func51, Try.ntmps51
  go_wp2_with fail
  by_cases g1 : (l0 : Int) < 1
  · have hvf : v = false := by rw [← HV.out]; exact rivB_len (by rw [HD.out, HVl.out]; omega)
    have HVF := Lib.hid hvf
    clear hvf
    go_quiet (fail)
    go_wp2_with fail
    go_ret
    rw [HVF.out]
    exact ⟨rfl, _, rfl⟩
  by_cases g2 : (12 : Int) < (l0 : Int)
  · have hvf : v = false := by rw [← HV.out]; exact rivB_len (by rw [HD.out, HVl.out]; omega)
    have HVF := Lib.hid hvf
    clear hvf
    go_quiet (fail)
    go_wp2_with fail
    go_ret
    rw [HVF.out]
    exact ⟨rfl, _, rfl⟩
  by_cases g3 : (n : Int) = (l0 : Int)
  rotate_left
  · have hvf : v = false := by rw [← HV.out]; exact rivB_len (by rw [HD.out, HVl.out]; omega)
    have HVF := Lib.hid hvf
    clear hvf
    go_quiet (fail)
    go_wp2_with fail
    go_ret
    rw [HVF.out]
    exact ⟨rfl, _, rfl⟩
  obtain rfl : n = l0 := by omega
  by_cases g4 : (l2 : Int) = (n : Int)
  rotate_left
  · have hvf : v = false := by rw [← HV.out]; exact rivB_len (by rw [HD.out, HVl.out]; omega)
    have HVF := Lib.hid hvf
    clear hvf
    go_quiet (fail)
    go_wp2_with fail
    go_ret
    rw [HVF.out]
    exact ⟨rfl, _, rfl⟩
  obtain rfl : l2 = n := by omega
  clear g3 g4
  have hl1 : 1 ≤ l2 := by omega
  have hl12 : l2 ≤ 12 := by omega
  have Hlen := Lib.hid (show 1 ≤ D.length ∧ D.length ≤ 12 ∧ l2 = D.length ∧ V.length = D.length by rw [HD.out, HVl.out]; omega)
  go_quiet (fail)
  obtain ⟨bd, od, rfl, hzbd⟩ : ∃ b o, a0 = some ⟨b, o, none⟩ ∧ ∀ i, i < D.length → w.cell? ⟨b, o + i, none⟩ = some (.int .i64 (D.getD i 0)) := by
    rcases H0.out.ints with h | ⟨b, o, h1, _, h3⟩
    · have h9 := HD.out; rw [h, List.length_nil] at h9; omega
    · exact ⟨b, o, h1, h3⟩
  have HZbd := Lib.hid hzbd
  clear hzbd
  obtain ⟨bm, om, rfl, hzbm⟩ : ∃ b o, a1 = some ⟨b, o, none⟩ ∧ ∀ i, i < M.length → w.cell? ⟨b, o + i, none⟩ = some (.int .i64 (M.getD i 0)) := by
    rcases H1.out.ints with h | ⟨b, o, h1, _, h3⟩
    · have h9 := HM.out; rw [h, List.length_nil] at h9; omega
    · exact ⟨b, o, h1, h3⟩
  have HZbm := Lib.hid hzbm
  clear hzbm
  obtain ⟨bv, ov, rfl, hzbv⟩ : ∃ b o, a2 = some ⟨b, o, none⟩ ∧ ∀ i, i < V.length → w.cell? ⟨b, o + i, none⟩ = some (.int .i64 (V.getD i 0)) := by
    rcases H2.out.ints with h | ⟨b, o, h1, _, h3⟩
    · have h9 := HVl.out; rw [h, List.length_nil] at h9; omega
    · exact ⟨b, o, h1, h3⟩
  have HZbv := Lib.hid hzbv
  clear hzbv
  go_wp2_with fail
  go_loopw [4] (fun iv wr => ∃ k q : Nat, k ≤ l2 ∧ iv = .int .i64 k ∧ Hid (∀ j, j < k → rowB D M V j = true) ∧ wr = w.drewN q) (fun iv _ => l2 - (intOf iv).toNat)
  case atStart => exact ⟨0, _, Nat.zero_le _, rfl, Lib.hid (fun j hj => by omega), rfl⟩
  case round =>
    obtain ⟨k, q, hk, rfl, HJ, hwr⟩ := hrel
    have hk0 : (0 : Int) ≤ (k : Int) := by omega
    by_cases hlt : k < l2
    · have hk1 : (k : Int) < (l2 : Int) := by omega
      have cd : wr.cell? ⟨bd, od + k, none⟩ = some (.int .i64 (D.getD (k) 0)) := by rw [hwr]; exact HZbd.out (k) (by have := HD.out; omega)
      obtain ⟨zd, hzd⟩ : ∃ z, D.getD (k) 0 = z := ⟨_, rfl⟩
      rw [hzd] at cd
      have Hzd := Lib.hid hzd
      clear hzd
      have cv : wr.cell? ⟨bv, ov + k, none⟩ = some (.int .i64 (V.getD (k) 0)) := by rw [hwr]; exact HZbv.out (k) (by have := HVl.out; omega)
      obtain ⟨zv, hzv⟩ : ∃ z, V.getD (k) 0 = z := ⟨_, rfl⟩
      rw [hzv] at cv
      have Hzv := Lib.hid hzv
      clear hzv
      have cm0 : wr.cell? ⟨bm, om + k * 4, none⟩ = some (.int .i64 (M.getD (k * 4) 0)) := by rw [hwr]; exact HZbm.out (k * 4) (by have := HM.out; omega)
      obtain ⟨zm0, hzm0⟩ : ∃ z, M.getD (k * 4) 0 = z := ⟨_, rfl⟩
      rw [hzm0] at cm0
      have Hzm0 := Lib.hid hzm0
      clear hzm0
      have cm1 : wr.cell? ⟨bm, om + k * 4 + 1, none⟩ = some (.int .i64 (M.getD (k * 4 + 1) 0)) := by rw [hwr]; exact HZbm.out (k * 4 + 1) (by have := HM.out; omega)
      obtain ⟨zm1, hzm1⟩ : ∃ z, M.getD (k * 4 + 1) 0 = z := ⟨_, rfl⟩
      rw [hzm1] at cm1
      have Hzm1 := Lib.hid hzm1
      clear hzm1
      have cm2 : wr.cell? ⟨bm, om + k * 4 + 2, none⟩ = some (.int .i64 (M.getD (k * 4 + 2) 0)) := by rw [hwr]; exact HZbm.out (k * 4 + 2) (by have := HM.out; omega)
      obtain ⟨zm2, hzm2⟩ : ∃ z, M.getD (k * 4 + 2) 0 = z := ⟨_, rfl⟩
      rw [hzm2] at cm2
      have Hzm2 := Lib.hid hzm2
      clear hzm2
      have cm3 : wr.cell? ⟨bm, om + k * 4 + 3, none⟩ = some (.int .i64 (M.getD (k * 4 + 3) 0)) := by rw [hwr]; exact HZbm.out (k * 4 + 3) (by have := HM.out; omega)
      obtain ⟨zm3, hzm3⟩ : ∃ z, M.getD (k * 4 + 3) 0 = z := ⟨_, rfl⟩
      rw [hzm3] at cm3
      have Hzm3 := Lib.hid hzm3
      clear hzm3
      have Hrow : Hid (rowB D M V k = (downB l2 zd && damB zm0 zm1 zm2 zm3 && unitB zv)) := Lib.hid (by unfold rowB; rw [Hzd.out, Hzv.out, Hzm0.out, Hzm1.out, Hzm2.out, Hzm3.out, HD.out])
      have Hwr := Lib.hid hwr
      have Hkl := Lib.hid (show k < D.length by rw [HD.out]; exact hlt)
      have pp0 : wr.cell? ⟨pa, 0, none⟩ = some (.slice (some ⟨bd, od, none⟩) l2 c0) := by rw [hwr]; exact p0
      have pp1 : wr.cell? ⟨pa, 1, none⟩ = some (.slice (some ⟨bm, om, none⟩) l2 c1) := by rw [hwr]; exact p1
      have pp2 : wr.cell? ⟨pa, 2, none⟩ = some (.slice (some ⟨bv, ov, none⟩) l2 c2) := by rw [hwr]; exact p2
      clear hwr
      go_wp2_with fail
      refine (inZ_any zd (-1) _ _).mono ?_
      rintro e w2 ⟨b1, hb1, rfl, rfl⟩
      have B1 : Hid (downB l2 zd = b1) := Lib.hid hb1
      clear hb1
      cases b1
      · have hvf : v = false := by rw [← HV.out]; exact rivB_row Hkl.out (by rw [Hrow.out, B1.out]; simp)
        have HVF := Lib.hid hvf
        clear hvf
        go_wp2_with fail
        go_ret
        rw [HVF.out]
        exact ⟨rfl, _, Hwr.out⟩
      go_wp2_with fail
      refine (l06Dam_any bm (om + k * 4) zm0 zm1 zm2 zm3 _ cm0 cm1 cm2 cm3).mono ?_
      rintro e w2 ⟨rfl, m2, rfl⟩
      obtain ⟨b2, hb2⟩ : ∃ b, damB zm0 zm1 zm2 zm3 = b := ⟨_, rfl⟩
      rw [hb2]
      have B2 := Lib.hid hb2
      clear hb2
      cases b2
      · have hvf : v = false := by rw [← HV.out]; exact rivB_row Hkl.out (by rw [Hrow.out, B1.out, B2.out]; simp)
        have HVF := Lib.hid hvf
        clear hvf
        go_wp2_with fail
        go_ret
        rw [HVF.out]
        exact ⟨rfl, _, by rw [Hwr.out, World.drewN_drewN]⟩
      go_wp2_with fail
      refine (l06Unit_any zv _).mono ?_
      rintro e w2 ⟨b3, hb3, rfl, rfl⟩
      have B3 := Lib.hid hb3
      clear hb3
      cases b3
      · have hvf : v = false := by rw [← HV.out]; exact rivB_row Hkl.out (by rw [Hrow.out, B1.out, B2.out, B3.out]; simp)
        have HVF := Lib.hid hvf
        clear hvf
        go_wp2_with fail
        go_ret
        rw [HVF.out]
        exact ⟨rfl, _, by rw [Hwr.out, World.drewN_drewN]⟩
      go_wp2_with fail
      go_roundw
      case rel => exact ⟨k + 1, _, by omega, by go_num, Lib.hid (fun j hj => by by_cases e : j = k; (subst e; rw [Hrow.out, B1.out, B2.out, B3.out]; rfl); exact HJ.out j (by omega)), by rw [Hwr.out, World.drewN_drewN]⟩
      case measure => simp [intOf]; omega
    · obtain rfl : k = l2 := by omega
      have HR : Hid (∀ j, j < D.length → -1 ≤ D.getD j 0 ∧ D.getD j 0 ≤ (D.length : Int) - 1) := Lib.hid (fun j hj => rowB_range (HJ.out j (by rw [← HD.out]; exact hj)))
      go_wp2_with fail
      go_loopw [5] (fun iv wr => ∃ i q : Nat, i ≤ k ∧ iv = .int .i64 i ∧ Hid (∀ j : Nat, j < i → walkD D (k + 1) (j : Int) < 0) ∧ wr = w.drewN q) (fun iv _ => k - (intOf iv).toNat)
      case atStart => exact ⟨0, _, Nat.zero_le _, rfl, Lib.hid (fun j hj => by omega), by first | exact hwr | rfl⟩
      case round =>
        obtain ⟨i, q2, hi, rfl, HI, hwr2⟩ := hrel
        have hi0 : (0 : Int) ≤ (i : Int) := by omega
        by_cases hlt2 : i < k
        · have hi1 : (i : Int) < (k : Int) := by omega
          have HIN : Hid (∀ m, -1 ≤ walkD D m (i : Int) ∧ walkD D m (i : Int) ≤ (k : Int) - 1) := Lib.hid (fun m => by have h9 := walkD_in HR.out (i := i) (by rw [HD.out]; exact hlt2) m; rw [HD.out] at h9; exact h9)
          go_wp2_with fail
          go_loopw [6, 7] (fun av mv wr => ∃ m q : Nat, m ≤ k + 1 ∧ av = .int .i64 (walkD D m (i : Int)) ∧ mv = .int .i64 m ∧ wr = w.drewN q) (fun _ mv _ => k + 2 - (intOf mv).toNat)
          case atStart => exact ⟨0, _, Nat.zero_le _, rfl, rfl, by first | exact hwr2 | rfl⟩
          case round =>
            obtain ⟨m, q3, hm, rfl, rfl, hwr3⟩ := hrel
            obtain ⟨z, hz⟩ : ∃ z, walkD D m (i : Int) = z := ⟨_, rfl⟩
            have hzin := HIN.out m
            rw [hz] at hzin
            rw [hz]
            have Hz := Lib.hid hz
            clear hz
            obtain ⟨hz1, hz2⟩ := hzin
            by_cases hz0 : 0 ≤ z
            · by_cases hmk : m = k + 1
              · subst hmk
                have hgt : (k : Int) < ((k + 1 : Nat) : Int) := by omega
                have hvf : v = false := by rw [← HV.out]; exact rivB_way (k := i) (by rw [HD.out]; exact hlt2) (by rw [HD.out, Hz.out]; omega)
                have HVF := Lib.hid hvf
                have Hwr := Lib.hid hwr3
                clear hvf hwr3
                go_wp2_with fail
                go_ret
                rw [HVF.out]
                exact ⟨rfl, _, Hwr.out⟩
              have hngt : ¬ (k : Int) < (m : Int) := by omega
              obtain ⟨x, rfl⟩ : ∃ x : Nat, z = (x : Int) := ⟨z.toNat, by omega⟩
              have hx1 : (x : Int) < (k : Int) := by omega
              have cx : wr.cell? ⟨bd, od + x, none⟩ = some (.int .i64 (D.getD x 0)) := by rw [hwr3]; exact HZbd.out x (by rw [HD.out]; omega)
              have pp0 : wr.cell? ⟨pa, 0, none⟩ = some (.slice (some ⟨bd, od, none⟩) k c0) := by rw [hwr3]; exact p0
              have Hwr := Lib.hid hwr3
              clear hwr3
              have hm0 : (0 : Int) ≤ (m : Int) := by omega
              go_wp2_with fail
              go_roundw
              case rel => exact ⟨m + 1, _, by omega, by rw [walkD_succ, Hz.out]; unfold nxt; rw [if_neg (by omega), Int.toNat_natCast, List.getD_eq_getElem?_getD], by go_num, Hwr.out⟩
              case measure => simp [intOf]; omega
            · have hzn : z < 0 := by omega
              have Hwr := Lib.hid hwr3
              clear hwr3
              go_wp2_with fail
              go_roundw
              case rel => exact ⟨i + 1, _, by omega, by go_num, Lib.hid (fun j hj => by by_cases e : j = i; (subst e; exact walkD_le (by rw [Hz.out]; exact hzn) hm); exact HI.out j (by omega)), Hwr.out⟩
              case measure => simp [intOf]; omega
        · obtain rfl : i = k := by omega
          have hvf : v = true := by rw [← HV.out]; exact rivB_yes Hlen.out (fun j hj => HJ.out j (by rw [← HD.out]; exact hj)) (fun j hj => by rw [HD.out]; exact HI.out j (by rw [← HD.out]; exact hj))
          have HVF := Lib.hid hvf
          have Hwr := Lib.hid hwr2
          clear hvf hwr2
          go_wp2_with fail
          go_ret
          rw [HVF.out]
          exact ⟨rfl, _, Hwr.out⟩

end Go.Proofs.Ytckmacnmmloemaa
