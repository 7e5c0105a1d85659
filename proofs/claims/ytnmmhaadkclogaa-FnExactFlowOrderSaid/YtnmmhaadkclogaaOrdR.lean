/- The order of a river's nodes: both sides. -/
import Derived.Test.YtnmmhaadkclogaaOrdS
namespace Go.Proofs.Ytnmmhaadkclogaa
open Go.RowKit
set_option linter.unusedVariables false
set_option linter.unusedSimpArgs false
set_option maxRecDepth 100000
attribute [local irreducible] wpV wpList Code.wp

def ordR (D M V : List Int) (n : Nat) : List Int × Bool := if rivB D M V n then (ints (kahn D n), true) else ([], false)
theorem ordR_len (D M V : List Int) (n : Nat) : (ordR D M V n).1.length ≤ 1048576 := by
  unfold ordR
  cases h : rivB D M V n
  · exact Nat.zero_le _
  · have h1 := (rivB_true h).1
    have h2 := kahn_le D n
    show (ints (kahn D n)).length ≤ 1048576
    rw [ints_length]; omega
set_option maxHeartbeats 4000000 in
theorem flowOrder_s (a0 a1 a2 : Option Addr) (l0 n l2 c0 c1 c2 : Nat) (D M V : List Int) (w : World) (h0 : RowC w a0 (ic D)) (h1 : RowC w a1 (ic M)) (h2 : RowC w a2 (ic V)) (hD : D.length = l0) (hM : M.length = n * 4) (hV : V.length = l2) (hl : l0 ≤ 1048576 ∧ n ≤ 1048576 ∧ l2 ≤ 1048576) :
    Calls Try.prog 29 #[.agg #[.slice a0 l0 c0, .slice a1 n c1, .slice a2 l2 c2]] w (ListZB (ordR D M V n) w) := by
  obtain ⟨R, hR⟩ : ∃ R, ordR D M V n = R := ⟨_, rfl⟩
  rw [hR]
  have HR := Lib.hid hR
  clear hR
  have hbl := bel1 w (.cells #[.slice a0 l0 c0, .slice a1 n c1, .slice a2 l2 c2] 30)
  have HC := Lib.hid (l06Is_any w.heap.size a0 a1 a2 l0 n l2 c0 c1 c2 D M V (w.alloc (.cells #[.slice a0 l0 c0, .slice a1 n c1, .slice a2 l2 c2] 30)) (Bx.new w [.slice a0 l0 c0, .slice a1 n c1, .slice a2 l2 c2] _) (h0.below hbl (Nat.le_refl _)) (h1.below hbl (Nat.le_refl _)) (h2.below hbl (Nat.le_refl _)) hD hM hV hl)
  have HX := Lib.hid (Bx.new w [.slice a0 l0 c0, .slice a1 n c1, .slice a2 l2 c2] 30)
  have HL0 := Lib.hid hbl
  have H0 := Lib.hid h0
  have H1 := Lib.hid h1
  have H2 := Lib.hid h2
  obtain ⟨bb, hbb⟩ : ∃ b, rivB D M V n = b := ⟨_, rfl⟩
  rw [hbb] at HC
  have HBB := Lib.hid hbb
  have HM := Lib.hid hM
  have HD := Lib.hid hD
  have HVl := Lib.hid hV
  have HL := Lib.hid hl
  clear h0 h1 h2 hD hM hV hl hbb hbl
  go_enter Try.func29, Try.ntmps29
  go_wp2_with fail
  refine HC.out.mono ?_
  rintro e w1 ⟨rfl, m, hw1⟩
  have HB1 : Hid (Below w.heap.size w w1) := Lib.hid (by rw [hw1]; exact below_drewN HL0.out _)
  have HX1 : Hid (Bx w1 w.heap.size [.slice a0 l0 c0, .slice a1 n c1, .slice a2 l2 c2]) := Lib.hid (by rw [hw1]; exact HX.out.drewN m)
  clear hw1 HC HX HL0
  cases bb
  · have hv : R = ([], false) := by rw [← HR.out]; unfold ordR; rw [HBB.out]; rfl
    have HV := Lib.hid hv
    clear hv
    go_wp2_with fail
    rw [HV.out]
    exact bodyPost_ret (v := .tuple #[.slice none 0 0, .bool false]) (by first | (simp [results, Try.results29, go_sem]; done) | (simp (maxDischargeDepth := 12) [results, Try.results29, go_sem]; done) | (simp (maxDischargeDepth := 12) [results, Try.results29, go_sem]; rfl)) rfl (ListZB.no HB1.out)
  · have HT := Lib.hid (rivB_true HBB.out)
    obtain ⟨b, o, rfl, hb, hc⟩ := (H0.out.below HB1.out (Nat.le_refl _)).cells (fun h9 => by have h7 := HT.out.1; rw [h9, List.length_nil] at h7; omega)
    have Hst := Lib.hid (l06Order_any w.heap.size b o n c0 (.slice a1 n c1) (.slice a2 l2 c2) D w1 (by have h9 := HX1.out; rw [show l0 = n by have h7 := HT.out.1; have h8 := HD.out; omega] at h9; exact h9) hb hc (by have h7 := HT.out.1; omega) (by have h7 := HT.out.1; omega) (by have h7 := HT.out.1; omega) (rivB_range HBB.out) (by unfold acycB; rw [List.all_eq_true]; intro i hi; rw [decide_eq_true_eq]; exact HT.out.2.2 i (List.mem_range.1 hi)))
    clear hb hc
    go_wp2_with fail
    refine Hst.out.mono ?_
    rintro e w2 ⟨g, c, rfl, hrow, hb⟩
    have HRow := Lib.hid hrow
    have HB2 : Hid (Below w.heap.size w w2) := Lib.hid (HB1.out.trans (hb.mono HB1.out.size))
    have HZ : Hid (w.heap.size ≤ w1.heap.size) := Lib.hid HB1.out.size
    clear hb hrow
    go_wp2_with fail
    have hv : R = (ints (kahn D n), true) := by rw [← HR.out]; unfold ordR; rw [HBB.out]; rfl
    have HV := Lib.hid hv
    clear hv
    rw [HV.out]
    exact bodyPost_ret (v := .tuple #[.slice (some ⟨g, 0, none⟩) n c, .bool true]) (by first | (simp [results, Try.results29, go_sem]; done) | (simp (maxDischargeDepth := 12) [results, Try.results29, go_sem]; done) | (simp (maxDischargeDepth := 12) [results, Try.results29, go_sem]; rfl)) rfl (ListZB.yes HRow.out HZ.out HB2.out)

set_option maxHeartbeats 4000000 in
theorem flowOrder_i (a0 a1 a2 : Option Addr) (l0 n l2 c0 c1 c2 : Nat) (D M V : List Int) (w : World) (h0 : RowC w a0 (ic D)) (h1 : RowC w a1 (ic M)) (h2 : RowC w a2 (ic V)) (hD : D.length = l0) (hM : M.length = n * 4) (hV : V.length = l2) (hl : l0 ≤ 1048576 ∧ n ≤ 1048576 ∧ l2 ≤ 1048576) :
    Calls Try.prog 30 #[.agg #[.slice a0 l0 c0, .slice a1 n c1, .slice a2 l2 c2]] w (ListZB (ordR D M V n) w) := by
  obtain ⟨R, hR⟩ : ∃ R, ordR D M V n = R := ⟨_, rfl⟩
  rw [hR]
  have HR := Lib.hid hR
  clear hR
  have hbl := bel1 w (.cells #[.slice a0 l0 c0, .slice a1 n c1, .slice a2 l2 c2] 30)
  have HC := Lib.hid (validRiver_i a0 a1 a2 l0 n l2 c0 c1 c2 D M V (w.alloc (.cells #[.slice a0 l0 c0, .slice a1 n c1, .slice a2 l2 c2] 30)) (h0.below hbl (Nat.le_refl _)) (h1.below hbl (Nat.le_refl _)) (h2.below hbl (Nat.le_refl _)) hD hM hV hl)
  have HX := Lib.hid (Bx.new w [.slice a0 l0 c0, .slice a1 n c1, .slice a2 l2 c2] 30)
  have HL0 := Lib.hid hbl
  have H0 := Lib.hid h0
  have H1 := Lib.hid h1
  have H2 := Lib.hid h2
  obtain ⟨bb, hbb⟩ : ∃ b, rivB D M V n = b := ⟨_, rfl⟩
  rw [hbb] at HC
  have HBB := Lib.hid hbb
  have HM := Lib.hid hM
  have HD := Lib.hid hD
  have HVl := Lib.hid hV
  have HL := Lib.hid hl
  clear h0 h1 h2 hD hM hV hl hbb hbl
  go_enter Try.func30, Try.ntmps30
  go_wp2_with fail
  refine HC.out.mono ?_
  rintro e w1 ⟨b9, hb9, rfl, hb⟩
  subst hb9
  have HX1 := Lib.hid (HX.out.below hb HX.out.1)
  have HB1 : Hid (Below w.heap.size w w1) := Lib.hid (HL0.out.trans (hb.mono (by simp)))
  clear HC HX hb HL0
  cases bb
  · have hv : R = ([], false) := by rw [← HR.out]; unfold ordR; rw [HBB.out]; rfl
    have HV := Lib.hid hv
    clear hv
    go_wp2_with fail
    rw [HV.out]
    exact bodyPost_ret (v := .tuple #[.slice none 0 0, .bool false]) (by first | (simp [results, Try.results30, go_sem]; done) | (simp (maxDischargeDepth := 12) [results, Try.results30, go_sem]; done) | (simp (maxDischargeDepth := 12) [results, Try.results30, go_sem]; rfl)) rfl (ListZB.no HB1.out)
  · have HT := Lib.hid (rivB_true HBB.out)
    have h0n : l0 = n := by have h7 := HT.out.1; have h8 := HD.out; omega
    have Hst := Lib.hid (orderOf_any a0 l0 c0 D w1 (H0.out.below HB1.out (Nat.le_refl _)) HD.out (by have h7 := HT.out.1; omega) (by have h7 := HT.out.1; omega) (rivB_range HBB.out))
    have x0 := HX1.out.c 0 rfl
    have x1 := HX1.out.c 1 rfl
    have x2 := HX1.out.c 2 rfl
    clear h0n
    go_wp2_with fail
    refine Hst.out.mono ?_
    rintro e w2 ⟨g, c, rfl, hrow, hb⟩
    have HRow := Lib.hid hrow
    have HB2 : Hid (Below w.heap.size w w2) := Lib.hid (HB1.out.trans (hb.mono HB1.out.size))
    have HZ : Hid (w.heap.size ≤ w1.heap.size + 1) := Lib.hid (Nat.le_trans HB1.out.size (Nat.le_succ _))
    clear hb hrow
    have Hln := Lib.hid (show l0 = n by have h7 := HT.out.1; have h8 := HD.out; omega)
    go_wp2_with fail
    have hv : R = (ints (kahn D l0), true) := by rw [← HR.out]; unfold ordR; rw [HBB.out, Hln.out]; rfl
    have HV := Lib.hid hv
    clear hv
    rw [HV.out]
    exact bodyPost_ret (v := .tuple #[.slice (some ⟨g, 0, none⟩) (kahn D l0).length c, .bool true]) (by first | (simp [results, Try.results30, go_sem]; done) | (simp (maxDischargeDepth := 12) [results, Try.results30, go_sem]; done) | (simp (maxDischargeDepth := 12) [results, Try.results30, go_sem]; rfl)) rfl (ListZB.yes HRow.out HZ.out HB2.out)

end Go.Proofs.Ytnmmhaadkclogaa
