/- The nodes that lead to the sea. -/
import Derived.Test.YtnmmhaadkclogaaNodI
import Derived.Test.YtnmmhaadkclogaaRivS
namespace Go.Proofs.Ytnmmhaadkclogaa
open Go.RowKit
set_option linter.unusedVariables false
set_option linter.unusedSimpArgs false
set_option maxRecDepth 100000
attribute [local irreducible] wpV wpList Code.wp

def outQ (D : List Int) (k : Nat) : Bool := decide (D.getD k 0 < 0)
def outR (D M V : List Int) (n : Nat) : List Int × Bool := if rivB D M V n then (ints (pickN (outQ D) n), true) else ([], false)
theorem outR_len (D M V : List Int) (n : Nat) : (outR D M V n).1.length ≤ 1048576 := by
  unfold outR
  cases h : rivB D M V n
  · exact Nat.zero_le _
  · have h1 := (rivB_true h).1
    have h2 := pickN_le (outQ D) n
    show (ints (pickN (outQ D) n)).length ≤ 1048576
    rw [ints_length]; omega
set_option maxHeartbeats 1000000 in
theorem outClo (a0 : Option Addr) (n c0 k pc : Nat) (D : List Int) (w : World) (hc : w.cell? ⟨pc, 0, none⟩ = some (.slice a0 n c0)) (h0 : RowC w a0 (ic D)) (hD : D.length = n) (hk : k < n) (hr : -1 ≤ D.getD k 0) (hl : n ≤ 1048576) :
    Calls Try.prog 77 #[.int .i64 (k : Int), .pointer (some ⟨pc, 0, none⟩)] w (SayB (outQ D k) w) := by
  obtain ⟨b, o, rfl, hb, hcc⟩ := h0.cells (fun h9 => by rw [h9, List.length_nil] at hD; omega)
  have c0 := hcc k (by omega)
  have hk0 : (0 : Int) ≤ (k : Int) := by omega
  have hk1 : (k : Int) < (n : Int) := by omega
  unfold outQ
  obtain ⟨z, hz⟩ : ∃ z, D.getD k 0 = z := ⟨_, rfl⟩
  rw [hz] at c0 hr ⊢
  clear hcc hb h0 hz
  go_enter Try.func77, Try.ntmps77
  go_wp2_with fail
  go_ret
  exact ⟨decide (z = -1), decide_eq_decide.2 (by omega), rfl, Below.refl _ _⟩
set_option maxHeartbeats 4000000 in
theorem outletsOf_s (a0 a1 a2 : Option Addr) (l0 n l2 c0 c1 c2 : Nat) (D M V : List Int) (w : World) (h0 : RowC w a0 (ic D)) (h1 : RowC w a1 (ic M)) (h2 : RowC w a2 (ic V)) (hD : D.length = l0) (hM : M.length = n * 4) (hV : V.length = l2) (hl : l0 ≤ 1048576 ∧ n ≤ 1048576 ∧ l2 ≤ 1048576) :
    Calls Try.prog 36 #[.agg #[.slice a0 l0 c0, .slice a1 n c1, .slice a2 l2 c2]] w (ListZB (outR D M V n) w) := by
  obtain ⟨R, hR⟩ : ∃ R, outR D M V n = R := ⟨_, rfl⟩
  rw [hR]
  have HR := Lib.hid hR
  clear hR
  have hbl := bel1 w (.cells #[.slice a0 l0 c0, .slice a1 n c1, .slice a2 l2 c2] 30)
  have HC := Lib.hid (l06Is_any w.heap.size a0 a1 a2 l0 n l2 c0 c1 c2 D M V (w.alloc (.cells #[.slice a0 l0 c0, .slice a1 n c1, .slice a2 l2 c2] 30)) (Bx.new w [.slice a0 l0 c0, .slice a1 n c1, .slice a2 l2 c2] _) (h0.below hbl (Nat.le_refl _)) (h1.below hbl (Nat.le_refl _)) (h2.below hbl (Nat.le_refl _)) hD hM hV hl)
  have HX := Lib.hid (Bx.new w [.slice a0 l0 c0, .slice a1 n c1, .slice a2 l2 c2] 30)
  have HL0 := Lib.hid hbl
  have H0 := Lib.hid h0
  have H1 := Lib.hid h1
  have H2 := Lib.hid h2
  obtain ⟨bb, hbb⟩ : ∃ b, rivB D M V n = b := ⟨_, rfl⟩
  rw [hbb] at HC
  have HBB := Lib.hid hbb
  have HM := Lib.hid hM
  have HD := Lib.hid hD
  have HVl := Lib.hid hV
  have HL := Lib.hid hl
  clear h0 h1 h2 hD hM hV hl hbb hbl
  go_enter Try.func36, Try.ntmps36
  go_wp2_with fail
  refine HC.out.mono ?_
  rintro e w1 ⟨rfl, m, hw1⟩
  have HB1 : Hid (Below w.heap.size w w1) := Lib.hid (by rw [hw1]; exact below_drewN HL0.out _)
  have HX1 : Hid (Bx w1 w.heap.size [.slice a0 l0 c0, .slice a1 n c1, .slice a2 l2 c2]) := Lib.hid (by rw [hw1]; exact HX.out.drewN m)
  clear hw1 HC HX HL0
  cases bb
  · have hv : R = ([], false) := by rw [← HR.out]; unfold outR; rw [HBB.out]; rfl
    have HV := Lib.hid hv
    clear hv
    go_wp2_with fail
    rw [HV.out]
    exact bodyPost_ret (v := .tuple #[.slice none 0 0, .bool false]) (by first | (simp [results, Try.results36, go_sem]; done) | (simp (maxDischargeDepth := 12) [results, Try.results36, go_sem]; done) | (simp (maxDischargeDepth := 12) [results, Try.results36, go_sem]; rfl)) rfl (ListZB.no HB1.out)
  · have HT := Lib.hid (rivB_true HBB.out)
    obtain rfl : l0 = n := by have h7 := HT.out.1; have h8 := HD.out; omega
    have hl12 : l0 ≤ 12 := by have h7 := HT.out.1; omega
    obtain ⟨B, hB⟩ : ∃ B, w1.heap.size = B := ⟨_, rfl⟩
    have HB := Lib.hid hB
    have HBw : Hid (w.heap.size ≤ B) := Lib.hid (by rw [← hB]; exact HB1.out.size)
    clear hB
    have hO9 : (w1.alloc (.cells #[] 2)).ownsRow B 2 1 (.slice (some ⟨w1.heap.size, 0, none⟩) 0 0) 0 (ic (ints (pickN (outQ D) 0))) := World.ownsRow_lit w1 #[] 0 (Nat.le_of_eq HB.out.symm) (by decide) rfl
    have HO9 := Lib.hid hO9
    have HW9 : Hid (Below B w1 (w1.alloc (.cells #[] 2))) := Lib.hid (by rw [← HB.out]; exact bel1 _ _)
    clear hO9
    have x0 := HX1.out.c 0 rfl
    have x1 := HX1.out.c 1 rfl
    have x2 := HX1.out.c 2 rfl
    have HXb : Hid (w.heap.size < B) := Lib.hid (by rw [← HB.out]; exact HX1.out.1)
    go_wp2_with fail
    go_loopw [4, 5] (fun ov iv wr => ∃ k : Nat, ∃ a c, k ≤ l0 ∧ iv = .int .i64 (k : Int) ∧ ov = .slice a (ints (pickN (outQ D) k)).length c ∧ Hid (wr.ownsRow B 2 1 (.slice a (ints (pickN (outQ D) k)).length c) (ints (pickN (outQ D) k)).length (ic (ints (pickN (outQ D) k)))) ∧ Hid (Below B w1 wr)) (fun _ iv _ => l0 - (intOf iv).toNat)
    case atStart => exact ⟨0, _, 0, Nat.zero_le _, rfl, rfl, HO9, HW9⟩
    case round =>
      clear HO9 HW9 x0 x1 x2
      obtain ⟨k, a, c, hk, rfl, rfl, HO, HW⟩ := hrel
      have hk0 : (0 : Int) ≤ (k : Int) := by omega
      obtain ⟨L, hL⟩ : ∃ L, (ints (pickN (outQ D) k)).length = L := ⟨_, rfl⟩
      rw [hL] at HO
      rw [hL]
      have HLn := Lib.hid hL
      have hLk : L ≤ k := by rw [← hL, ints_length]; exact pickN_le _ k
      clear hL
      have x0 : wr.cell? ⟨w.heap.size, 0, none⟩ = some (.slice a0 l0 c0) := by rw [HW.out.cell (p := ⟨w.heap.size, 0, none⟩) HXb.out]; exact HX1.out.c 0 rfl
      by_cases hlt : k < l0
      · have hk1 : (k : Int) < (l0 : Int) := by omega
        obtain ⟨b, o, rfl, hb, hc⟩ := (H0.out.below HB1.out (Nat.le_refl _)).cells (fun h9 => by have h7 := HT.out.1; rw [h9, List.length_nil] at h7; omega)
        have cz : wr.cell? ⟨b, o + k, none⟩ = some (.int .i64 (D.getD k 0)) := by rw [HW.out.cell (p := ⟨b, o + k, none⟩) (by rw [← HB.out]; exact hb)]; exact hc k (by rw [HD.out]; exact hlt)
        clear hb hc
        obtain ⟨z, hz⟩ : ∃ z, D.getD k 0 = z := ⟨_, rfl⟩
        rw [hz] at cz
        have Hz := Lib.hid hz
        clear hz
        have Hsz : Hid (B ≤ wr.heap.size) := Lib.hid (by rw [← HB.out]; exact HW.out.size)
        by_cases hzn : z < 0
        · have hq : outQ D k = true := by unfold outQ; rw [Hz.out]; exact decide_eq_true hzn
          have Hbb := Lib.hid hq
          clear hq
          have HOa := Lib.hid (HO.out.alloc (.cells #[.int .i64 (k : Int)] 2))
          have HWa : Hid (Below B w1 (wr.alloc (.cells #[.int .i64 (k : Int)] 2))) := Lib.hid (HW.out.alloc Hsz.out _)
          have Hcell := Lib.hid (show (wr.alloc (.cells #[.int .i64 (k : Int)] 2)).cell? ⟨wr.heap.size, 0, none⟩ = some (.int .i64 (k : Int)) by simp [go_sem])
          have Hlo := Lib.hid (show B ≤ (wr.alloc (.cells #[.int .i64 (k : Int)] 2)).heap.size by have h9 := Hsz.out; simp; omega)
          have hkl : L ≤ 1048576 := by omega
          go_wp2_with (at_builtin; refine pushZ rfl rfl _ _ rfl rfl HOa.out wr.heap.size _ (k : Int) rfl Hcell.out hkl Hlo.out ?_)
          intro gn cn w4 hrow hgrow hgn hgl
          rw [← ints_push, ← pickN_hit Hbb.out] at hrow
          have hLn : (ints (pickN (outQ D) (k + 1))).length = L + 1 := by rw [pickN_hit Hbb.out, ints_push, List.length_append, HLn.out]; rfl
          have HO4 := Lib.hid hrow
          have HL4 := Lib.hid hLn
          have HW4 : Hid (Below B w1 w4) := Lib.hid (HWa.out.grown hgrow (by have h9 := Hsz.out; simp; omega) (fun j hj => (HO.out.lt j hj).1))
          clear hrow hgrow hgn hgl hLn HO HOa HW HWa Hcell Hlo x0 cz
          go_wp2_with fail
          go_roundw
          case rel => exact ⟨k + 1, _, cn, by omega, by go_num, by rw [HL4.out], Lib.hid (by rw [HL4.out]; exact HO4.out), HW4⟩
          case measure => simp [intOf]; omega
        · have hq : outQ D k = false := by unfold outQ; rw [Hz.out]; exact decide_eq_false hzn
          have Hbb := Lib.hid hq
          clear hq
          go_wp2_with fail
          go_roundw
          case rel => exact ⟨k + 1, a, c, by omega, by go_num, by rw [pickN_miss Hbb.out, HLn.out], Lib.hid (by rw [pickN_miss Hbb.out, HLn.out]; exact HO.out), HW⟩
          case measure => simp [intOf]; omega
      · obtain rfl : l0 = k := by omega
        have HB9 : Hid (Below w.heap.size w wr) := Lib.hid (HB1.out.trans (HW.out.mono HBw.out))
        go_wp2_with fail
        have hv : R = (ints (pickN (outQ D) l0), true) := by rw [← HR.out]; unfold outR; rw [HBB.out]; rfl
        have HV := Lib.hid hv
        clear hv
        rw [HV.out]
        exact bodyPost_ret (v := .tuple #[.slice a L c, .bool true]) (by first | (simp [results, Try.results36, go_sem]; done) | (simp (maxDischargeDepth := 12) [results, Try.results36, go_sem]; done) | (simp (maxDischargeDepth := 12) [results, Try.results36, go_sem]; rfl)) rfl (ListZB.yes HO.out HBw.out HB9.out)

set_option maxHeartbeats 4000000 in
theorem outletsOf_i (a0 a1 a2 : Option Addr) (l0 n l2 c0 c1 c2 : Nat) (D M V : List Int) (w : World) (h0 : RowC w a0 (ic D)) (h1 : RowC w a1 (ic M)) (h2 : RowC w a2 (ic V)) (hD : D.length = l0) (hM : M.length = n * 4) (hV : V.length = l2) (hl : l0 ≤ 1048576 ∧ n ≤ 1048576 ∧ l2 ≤ 1048576) :
    Calls Try.prog 37 #[.agg #[.slice a0 l0 c0, .slice a1 n c1, .slice a2 l2 c2]] w (ListZB (outR D M V n) w) := by
  obtain ⟨R, hR⟩ : ∃ R, outR D M V n = R := ⟨_, rfl⟩
  rw [hR]
  have HR := Lib.hid hR
  clear hR
  have hbl := bel1 w (.cells #[.slice a0 l0 c0, .slice a1 n c1, .slice a2 l2 c2] 30)
  have HC := Lib.hid (validRiver_i a0 a1 a2 l0 n l2 c0 c1 c2 D M V (w.alloc (.cells #[.slice a0 l0 c0, .slice a1 n c1, .slice a2 l2 c2] 30)) (h0.below hbl (Nat.le_refl _)) (h1.below hbl (Nat.le_refl _)) (h2.below hbl (Nat.le_refl _)) hD hM hV hl)
  have HX := Lib.hid (Bx.new w [.slice a0 l0 c0, .slice a1 n c1, .slice a2 l2 c2] 30)
  have HL0 := Lib.hid hbl
  have H0 := Lib.hid h0
  have H1 := Lib.hid h1
  have H2 := Lib.hid h2
  obtain ⟨bb, hbb⟩ : ∃ b, rivB D M V n = b := ⟨_, rfl⟩
  rw [hbb] at HC
  have HBB := Lib.hid hbb
  have HM := Lib.hid hM
  have HD := Lib.hid hD
  have HVl := Lib.hid hV
  have HL := Lib.hid hl
  clear h0 h1 h2 hD hM hV hl hbb hbl
  go_enter Try.func37, Try.ntmps37
  go_wp2_with fail
  refine HC.out.mono ?_
  rintro e w1 ⟨b9, hb9, rfl, hb⟩
  subst hb9
  have HX1 := Lib.hid (HX.out.below hb HX.out.1)
  have HB1 : Hid (Below w.heap.size w w1) := Lib.hid (HL0.out.trans (hb.mono (by simp)))
  clear HC HX hb HL0
  cases bb
  · have hv : R = ([], false) := by rw [← HR.out]; unfold outR; rw [HBB.out]; rfl
    have HV := Lib.hid hv
    clear hv
    go_wp2_with fail
    rw [HV.out]
    exact bodyPost_ret (v := .tuple #[.slice none 0 0, .bool false]) (by first | (simp [results, Try.results37, go_sem]; done) | (simp (maxDischargeDepth := 12) [results, Try.results37, go_sem]; done) | (simp (maxDischargeDepth := 12) [results, Try.results37, go_sem]; rfl)) rfl (ListZB.no HB1.out)
  · have HT := Lib.hid (rivB_true HBB.out)
    obtain rfl : l0 = n := by have h7 := HT.out.1; have h8 := HD.out; omega
    have hl12 : l0 ≤ 12 := by have h7 := HT.out.1; omega
    have Hst := Lib.hid (nodesOf_any 77 #[.pointer (some ⟨w.heap.size, 0, none⟩)] (outQ D) (enters_of Try.func77 (by kernel_rfl) rfl) a0 l0 c0 (.slice a1 l0 c1) (.slice a2 l2 c2) w1 (fun k hk W hW => outClo a0 l0 c0 k w.heap.size D W (by rw [hW.cell (p := ⟨w.heap.size, 0, none⟩) HX1.out.1]; exact HX1.out.c 0 rfl) (H0.out.below (HB1.out.trans (hW.mono HB1.out.size)) (Nat.le_refl _)) HD.out hk (rivB_range HBB.out k (by rw [HD.out]; exact hk)).1 (by omega)) hl12)
    have hmf : ∀ (fn : Fn) (first cap : Array Value) (w : World), (Instr.makeFunc fn first cap).run Try.prog w = .ok (.func fn first cap) w := fun _ _ _ _ => rfl
    have x0 := HX1.out.c 0 rfl
    have x1 := HX1.out.c 1 rfl
    have x2 := HX1.out.c 2 rfl
    go_wp2_with fail
    refine Hst.out.mono ?_
    rintro e w2 ⟨a, c, rfl, hrow, hb⟩
    have HRow := Lib.hid hrow
    have HB2 : Hid (Below w.heap.size w w2) := Lib.hid (HB1.out.trans (hb.mono HB1.out.size))
    have HZ : Hid (w.heap.size ≤ w1.heap.size) := Lib.hid HB1.out.size
    clear hb hrow
    go_wp2_with fail
    have hv : R = (ints (pickN (outQ D) l0), true) := by rw [← HR.out]; unfold outR; rw [HBB.out]; rfl
    have HV := Lib.hid hv
    clear hv
    rw [HV.out]
    exact bodyPost_ret (v := .tuple #[.slice a (ints (pickN (outQ D) l0)).length c, .bool true]) (by first | (simp [results, Try.results37, go_sem]; done) | (simp (maxDischargeDepth := 12) [results, Try.results37, go_sem]; done) | (simp (maxDischargeDepth := 12) [results, Try.results37, go_sem]; rfl)) rfl (ListZB.yes HRow.out HZ.out HB2.out)

end Go.Proofs.Ytnmmhaadkclogaa
