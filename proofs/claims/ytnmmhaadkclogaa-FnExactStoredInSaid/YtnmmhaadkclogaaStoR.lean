/- What all dams of a river hold. -/
import Derived.Test.YtnmmhaadkclogaaRvQ
namespace Go.Proofs.Ytnmmhaadkclogaa
open Go.RowKit
set_option linter.unusedVariables false
set_option linter.unusedSimpArgs false
set_option maxRecDepth 100000
attribute [local irreducible] wpV wpList Code.wp

def stoV (M : List Int) : Nat → Int
  | 0 => 0
  | k + 1 => stoV M k + M.getD (k * 4 + 3) 0
def stoR (D M V : List Int) (n : Nat) : Int × Bool := if rivB D M V n then (stoV M n, true) else (0, false)
theorem stoV_in {M : List Int} {n : Nat} (h : ∀ j, j < n → 0 ≤ M.getD (j * 4 + 3) 0 ∧ M.getD (j * 4 + 3) 0 ≤ 1000000000) : ∀ k, k ≤ n → 0 ≤ stoV M k ∧ stoV M k ≤ 1000000000 * (k : Int)
  | 0, _ => ⟨Int.le_refl _, Int.le_refl _⟩
  | k + 1, hk => by
    have ih := stoV_in h k (by omega)
    have := h k (by omega)
    show 0 ≤ stoV M k + M.getD (k * 4 + 3) 0 ∧ stoV M k + M.getD (k * 4 + 3) 0 ≤ _
    omega
theorem riv_now {D M V : List Int} {n : Nat} (h : rivB D M V n = true) : ∀ j, j < n → 0 ≤ M.getD (j * 4 + 3) 0 ∧ M.getD (j * 4 + 3) 0 ≤ 1000000000 := fun j hj => by
  obtain ⟨h1, h2, h3, h4, h5⟩ := rivB_dam h hj
  omega
set_option maxHeartbeats 4000000 in
theorem l06Stored_any (pa b1 o1 : Nat) (v0 v2 : Value) (n c1 : Nat) (M : List Int) (w : World) (hpa : Bx w pa [v0, .slice (some ⟨b1, o1, none⟩) n c1, v2]) (h1 : ∀ i, i < M.length → w.cell? ⟨b1, o1 + i, none⟩ = some (.int .i64 (M.getD i 0))) (hM : M.length = n * 4) (hn : n ≤ 12) (hv : ∀ j, j < n → 0 ≤ M.getD (j * 4 + 3) 0 ∧ M.getD (j * 4 + 3) 0 ≤ 1000000000) :
    Calls Try.prog 78 #[.pointer (some ⟨pa, 0, none⟩)] w fun e w' => e = .returned (.int .i64 (stoV M n)) ∧ w = w' := by
  have H1 := Lib.hid h1
  have HM := Lib.hid hM
  have HV := Lib.hid hv
  have HI := Lib.hid (stoV_in hv)
  have p1 := hpa.c 1 rfl
  clear h1 hM hv hpa
  go_enter Try.func78, Try.ntmps78
  go_wp2_with fail
  go_loopw [3, 4] (fun sv iv wr => ∃ k : Nat, k ≤ n ∧ iv = .int .i64 (k : Int) ∧ sv = .int .i64 (stoV M k) ∧ w = wr) (fun _ iv _ => n - (intOf iv).toNat)
  case atStart => exact ⟨0, Nat.zero_le _, rfl, rfl, rfl⟩
  case round =>
    obtain ⟨k, hk, rfl, rfl, rfl⟩ := hrel
    have hk0 : (0 : Int) ≤ (k : Int) := by omega
    by_cases hlt : k < n
    · have hk1 : (k : Int) < (n : Int) := by omega
      obtain ⟨s, hs⟩ : ∃ s, stoV M k = s := ⟨_, rfl⟩
      obtain ⟨x, hx⟩ : ∃ x, M.getD (k * 4 + 3) 0 = x := ⟨_, rfl⟩
      have hc := H1.out (k * 4 + 3) (by have := HM.out; omega)
      rw [← Nat.add_assoc, hx] at hc
      have hs2 := HI.out k hk
      have hx2 := HV.out k hlt
      rw [hs] at hs2 ⊢
      rw [hx] at hx2
      have Hs := Lib.hid hs
      have Hx := Lib.hid hx
      obtain ⟨hs3, hs4⟩ := hs2
      obtain ⟨hx3, hx4⟩ := hx2
      have hsum : 0 ≤ s + x ∧ s + x ≤ 100000000000 := by omega
      clear hs hx
      go_wp2_with fail
      go_roundw
      case rel => exact ⟨k + 1, by omega, by go_num, by rw [show stoV M (k + 1) = stoV M k + M.getD (k * 4 + 3) 0 from rfl, Hs.out, Hx.out], by trivial⟩
      case measure => simp [intOf]; omega
    · obtain rfl : k = n := by omega
      go_wp2_with fail
      go_ret
      exact ⟨rfl, rfl⟩
set_option maxHeartbeats 4000000 in
theorem storedIn2_any (b1 o1 : Nat) (v0 v2 : Value) (n c1 : Nat) (M : List Int) (w : World) (hb : b1 < w.heap.size) (h1 : ∀ i, i < M.length → w.cell? ⟨b1, o1 + i, none⟩ = some (.int .i64 (M.getD i 0))) (hM : M.length = n * 4) (hn : n ≤ 12) (hv : ∀ j, j < n → 0 ≤ M.getD (j * 4 + 3) 0 ∧ M.getD (j * 4 + 3) 0 ≤ 1000000000) :
    Calls Try.prog 79 #[.agg #[v0, .slice (some ⟨b1, o1, none⟩) n c1, v2]] w fun e w' => e = .returned (.int .i64 (stoV M n)) ∧ Below w.heap.size w w' := by
  have H1 := Lib.hid h1
  have HM := Lib.hid hM
  have HV := Lib.hid hv
  have HI := Lib.hid (stoV_in hv)
  have HB := Lib.hid hb
  clear h1 hM hv hb
  go_enter Try.func79, Try.ntmps79
  go_wp2_with fail
  go_loopw [3, 9] (fun sv iv wr => ∃ k : Nat, k ≤ n ∧ iv = .int .i64 (k : Int) ∧ sv = .int .i64 (stoV M k) ∧ Hid (Below w.heap.size w wr)) (fun _ iv _ => n - (intOf iv).toNat)
  case atStart => exact ⟨0, Nat.zero_le _, rfl, rfl, Lib.hid (bel1 _ _)⟩
  case round =>
    obtain ⟨k, hk, rfl, rfl, HBk⟩ := hrel
    have hk0 : (0 : Int) ≤ (k : Int) := by omega
    by_cases hlt : k < n
    · have hk1 : (k : Int) < (n : Int) := by omega
      obtain ⟨s, hs⟩ : ∃ s, stoV M k = s := ⟨_, rfl⟩
      have hcs : ∀ i, i < 4 → wr.cell? ⟨b1, o1 + k * 4 + i, none⟩ = some (.int .i64 (M.getD (k * 4 + i) 0)) := fun i hi => by
        have h9 := H1.out (k * 4 + i) (by have := HM.out; omega)
        rw [← Nat.add_assoc] at h9
        exact (HBk.out.cell (p := ⟨b1, o1 + k * 4 + i, none⟩) HB.out).trans h9
      have y0 := hcs 0 (by omega)
      have y1 := hcs 1 (by omega)
      have y2 := hcs 2 (by omega)
      have y3 := hcs 3 (by omega)
      rw [Nat.add_zero] at y0
      clear hcs
      obtain ⟨x, hx⟩ : ∃ x, M.getD (k * 4 + 3) 0 = x := ⟨_, rfl⟩
      obtain ⟨x0, hx0⟩ : ∃ x, M.getD (k * 4 + 0) 0 = x := ⟨_, rfl⟩
      obtain ⟨x1, hx1⟩ : ∃ x, M.getD (k * 4 + 1) 0 = x := ⟨_, rfl⟩
      obtain ⟨x2, hx2⟩ : ∃ x, M.getD (k * 4 + 2) 0 = x := ⟨_, rfl⟩
      rw [hx0] at y0
      rw [hx1] at y1
      rw [hx2] at y2
      rw [hx] at y3
      clear hx0 hx1 hx2
      have hs2 := HI.out k hk
      have hx2 := HV.out k hlt
      rw [hs] at hs2 ⊢
      rw [hx] at hx2
      have Hs := Lib.hid hs
      have Hx := Lib.hid hx
      obtain ⟨hs3, hs4⟩ := hs2
      obtain ⟨hx3, hx4⟩ := hx2
      have hsum : 0 ≤ s + x ∧ s + x ≤ 100000000000 := by omega
      clear hs hx
      go_wp2_with fail
      go_roundw
      case rel => exact ⟨k + 1, by omega, by go_num, by rw [show stoV M (k + 1) = stoV M k + M.getD (k * 4 + 3) 0 from rfl, Hs.out, Hx.out], Lib.hid (by repeat (first | with_reducible exact HBk.out | with_reducible refine beld ?_ _ | (with_reducible refine Below.alloc ?_ ?_ _; rotate_left; exact HBk.out.size) | (with_reducible refine Below.setCell ?_ ?_ _; rotate_left; exact (by first | exact HBk.out.size | (simp; exact HBk.out.size)))))⟩
      case measure => simp [intOf]; omega
    · obtain rfl : k = n := by omega
      go_wp2_with fail
      go_ret
      exact ⟨rfl, HBk.out⟩

set_option maxHeartbeats 4000000 in
theorem storedIn_s (a0 a1 a2 : Option Addr) (l0 n l2 c0 c1 c2 : Nat) (D M V : List Int) (w : World) (h0 : RowC w a0 (ic D)) (h1 : RowC w a1 (ic M)) (h2 : RowC w a2 (ic V)) (hD : D.length = l0) (hM : M.length = n * 4) (hV : V.length = l2) (hl : l0 ≤ 1048576 ∧ n ≤ 1048576 ∧ l2 ≤ 1048576) :
    Calls Try.prog 42 #[.agg #[.slice a0 l0 c0, .slice a1 n c1, .slice a2 l2 c2]] w (SayZB (stoR D M V n) w) := by
  obtain ⟨R, hR⟩ : ∃ R, stoR D M V n = R := ⟨_, rfl⟩
  rw [hR]
  have HR := Lib.hid hR
  clear hR
  have hbl := bel1 w (.cells #[.slice a0 l0 c0, .slice a1 n c1, .slice a2 l2 c2] 30)
  have HC := Lib.hid (l06Is_any w.heap.size a0 a1 a2 l0 n l2 c0 c1 c2 D M V (w.alloc (.cells #[.slice a0 l0 c0, .slice a1 n c1, .slice a2 l2 c2] 30)) (Bx.new w [.slice a0 l0 c0, .slice a1 n c1, .slice a2 l2 c2] _) (h0.below hbl (Nat.le_refl _)) (h1.below hbl (Nat.le_refl _)) (h2.below hbl (Nat.le_refl _)) hD hM hV hl)
  have HX := Lib.hid (Bx.new w [.slice a0 l0 c0, .slice a1 n c1, .slice a2 l2 c2] 30)
  have HL0 := Lib.hid hbl
  have H0 := Lib.hid h0
  have H1 := Lib.hid h1
  have H2 := Lib.hid h2
  obtain ⟨bb, hbb⟩ : ∃ b, rivB D M V n = b := ⟨_, rfl⟩
  rw [hbb] at HC
  have HBB := Lib.hid hbb
  have HM := Lib.hid hM
  have HD := Lib.hid hD
  have HVl := Lib.hid hV
  have HL := Lib.hid hl
  clear h0 h1 h2 hD hM hV hl hbb hbl
  go_enter Try.func42, Try.ntmps42
  go_wp2_with fail
  refine HC.out.mono ?_
  rintro e w1 ⟨rfl, m, hw1⟩
  have HB1 : Hid (Below w.heap.size w w1) := Lib.hid (by rw [hw1]; exact below_drewN HL0.out _)
  have HX1 : Hid (Bx w1 w.heap.size [.slice a0 l0 c0, .slice a1 n c1, .slice a2 l2 c2]) := Lib.hid (by rw [hw1]; exact HX.out.drewN m)
  clear hw1 HC HX HL0
  cases bb
  · have hv : R = (0, false) := by rw [← HR.out]; unfold stoR; rw [HBB.out]; rfl
    have HV := Lib.hid hv
    clear hv
    go_wp2_with fail
    rw [HV.out]
    exact bodyPost_ret (v := .tuple #[.int .i64 0, .bool false]) (by first | (simp [results, Try.results42, go_sem]; done) | (simp (maxDischargeDepth := 12) [results, Try.results42, go_sem]; done) | (simp (maxDischargeDepth := 12) [results, Try.results42, go_sem]; rfl)) rfl (⟨rfl, HB1.out⟩)
  · have HT := Lib.hid (rivB_true HBB.out)
    obtain ⟨b, o, rfl, hb, hc⟩ := (H1.out.below HB1.out (Nat.le_refl _)).cells (fun h9 => by have h8 := HM.out; have h7 := HT.out.1; rw [h9, List.length_nil] at h8; omega)
    have Hst := Lib.hid (l06Stored_any w.heap.size b o (.slice a0 l0 c0) (.slice a2 l2 c2) n c1 M w1 HX1.out hc HM.out (by have h7 := HT.out.1; omega) (riv_now HBB.out))
    clear hb hc
    go_wp2_with fail
    refine Hst.out.mono ?_
    rintro e w' ⟨rfl, rfl⟩
    go_wp2_with fail
    have hv : R = (stoV M n, true) := by rw [← HR.out]; unfold stoR; rw [HBB.out]; rfl
    have HV := Lib.hid hv
    clear hv
    rw [HV.out]
    exact bodyPost_ret (v := .tuple #[.int .i64 (stoV M n), .bool true]) (by first | (simp [results, Try.results42, go_sem]; done) | (simp (maxDischargeDepth := 12) [results, Try.results42, go_sem]; done) | (simp (maxDischargeDepth := 12) [results, Try.results42, go_sem]; rfl)) rfl (⟨rfl, HB1.out⟩)

set_option maxHeartbeats 4000000 in
theorem storedIn_i (a0 a1 a2 : Option Addr) (l0 n l2 c0 c1 c2 : Nat) (D M V : List Int) (w : World) (h0 : RowC w a0 (ic D)) (h1 : RowC w a1 (ic M)) (h2 : RowC w a2 (ic V)) (hD : D.length = l0) (hM : M.length = n * 4) (hV : V.length = l2) (hl : l0 ≤ 1048576 ∧ n ≤ 1048576 ∧ l2 ≤ 1048576) :
    Calls Try.prog 43 #[.agg #[.slice a0 l0 c0, .slice a1 n c1, .slice a2 l2 c2]] w (SayZB (stoR D M V n) w) := by
  obtain ⟨R, hR⟩ : ∃ R, stoR D M V n = R := ⟨_, rfl⟩
  rw [hR]
  have HR := Lib.hid hR
  clear hR
  have hbl := bel1 w (.cells #[.slice a0 l0 c0, .slice a1 n c1, .slice a2 l2 c2] 30)
  have HC := Lib.hid (validRiver_i a0 a1 a2 l0 n l2 c0 c1 c2 D M V (w.alloc (.cells #[.slice a0 l0 c0, .slice a1 n c1, .slice a2 l2 c2] 30)) (h0.below hbl (Nat.le_refl _)) (h1.below hbl (Nat.le_refl _)) (h2.below hbl (Nat.le_refl _)) hD hM hV hl)
  have HX := Lib.hid (Bx.new w [.slice a0 l0 c0, .slice a1 n c1, .slice a2 l2 c2] 30)
  have HL0 := Lib.hid hbl
  have H0 := Lib.hid h0
  have H1 := Lib.hid h1
  have H2 := Lib.hid h2
  obtain ⟨bb, hbb⟩ : ∃ b, rivB D M V n = b := ⟨_, rfl⟩
  rw [hbb] at HC
  have HBB := Lib.hid hbb
  have HM := Lib.hid hM
  have HD := Lib.hid hD
  have HVl := Lib.hid hV
  have HL := Lib.hid hl
  clear h0 h1 h2 hD hM hV hl hbb hbl
  go_enter Try.func43, Try.ntmps43
  go_wp2_with fail
  refine HC.out.mono ?_
  rintro e w1 ⟨b9, hb9, rfl, hb⟩
  subst hb9
  have HX1 := Lib.hid (HX.out.below hb HX.out.1)
  have HB1 : Hid (Below w.heap.size w w1) := Lib.hid (HL0.out.trans (hb.mono (by simp)))
  clear HC HX hb HL0
  cases bb
  · have hv : R = (0, false) := by rw [← HR.out]; unfold stoR; rw [HBB.out]; rfl
    have HV := Lib.hid hv
    clear hv
    go_wp2_with fail
    rw [HV.out]
    exact bodyPost_ret (v := .tuple #[.int .i64 0, .bool false]) (by first | (simp [results, Try.results43, go_sem]; done) | (simp (maxDischargeDepth := 12) [results, Try.results43, go_sem]; done) | (simp (maxDischargeDepth := 12) [results, Try.results43, go_sem]; rfl)) rfl (⟨rfl, HB1.out⟩)
  · have HT := Lib.hid (rivB_true HBB.out)
    obtain ⟨b, o, rfl, hb, hc⟩ := (H1.out.below HB1.out (Nat.le_refl _)).cells (fun h9 => by have h8 := HM.out; have h7 := HT.out.1; rw [h9, List.length_nil] at h8; omega)
    have Hst := Lib.hid (storedIn2_any b o (.slice a0 l0 c0) (.slice a2 l2 c2) n c1 M w1 hb hc HM.out (by have h7 := HT.out.1; omega) (riv_now HBB.out))
    clear hb hc
    have x0 := HX1.out.c 0 rfl
    have x1 := HX1.out.c 1 rfl
    have x2 := HX1.out.c 2 rfl
    go_wp2_with fail
    refine Hst.out.mono ?_
    rintro e w2 ⟨rfl, hb⟩
    have HB2 : Hid (Below w.heap.size w w2) := Lib.hid (HB1.out.trans (hb.mono HB1.out.size))
    clear hb
    go_wp2_with fail
    have hv : R = (stoV M n, true) := by rw [← HR.out]; unfold stoR; rw [HBB.out]; rfl
    have HV := Lib.hid hv
    clear hv
    rw [HV.out]
    exact bodyPost_ret (v := .tuple #[.int .i64 (stoV M n), .bool true]) (by first | (simp [results, Try.results43, go_sem]; done) | (simp (maxDischargeDepth := 12) [results, Try.results43, go_sem]; done) | (simp (maxDischargeDepth := 12) [results, Try.results43, go_sem]; rfl)) rfl (⟨rfl, HB2.out⟩)

end Go.Proofs.Ytnmmhaadkclogaa
