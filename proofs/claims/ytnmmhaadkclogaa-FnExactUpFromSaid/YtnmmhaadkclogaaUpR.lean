/- The nodes that lead to a node. -/
import Derived.Test.YtnmmhaadkclogaaUpI
import Derived.Deep.RegionHeld3
namespace Go.Proofs.Ytnmmhaadkclogaa
open Go.RowKit
set_option linter.unusedVariables false
set_option linter.unusedSimpArgs false
set_option maxRecDepth 100000
attribute [local irreducible] wpV wpList Code.wp

def upQ (D : List Int) (i : Int) (k : Nat) : Bool := (pathP D (wayLen D k) k).contains i
def upR (D M V : List Int) (n : Nat) (i : Int) : List Int × Bool := if nodeB D M V n i then (ints (pickN (upQ D i) n), true) else ([], false)
theorem upR_len (D M V : List Int) (n : Nat) (i : Int) : (upR D M V n i).1.length ≤ 1048576 := by
  unfold upR
  cases h : nodeB D M V n i
  · exact Nat.zero_le _
  · have h1 := (rivB_true (nodeB_true h).1).1
    have h2 := pickN_le (upQ D i) n
    show (ints (pickN (upQ D i) n)).length ≤ 1048576
    rw [ints_length]; omega
theorem rivB_way2 {D M V : List Int} {n k : Nat} (h : rivB D M V n = true) (hk : k < D.length) : IsWay D k (wayLen D k) := wayLen_is ((rivB_true h).2.2 k hk)
set_option maxHeartbeats 4000000 in
theorem upClo (b off n c0 k m pr pi : Nat) (i : Int) (v1 v2 : Value) (D : List Int) (w : World) (hp : Bx w pr [.slice (some ⟨b, off, none⟩) n c0, v1, v2]) (hpi : Bx w pi [.int .i64 i]) (hb : b < w.heap.size) (hc : ∀ i, i < D.length → w.cell? ⟨b, off + i, none⟩ = some (.int .i64 (D.getD i 0))) (hn : D.length = n) (hl : n ≤ 12) (hk : k < n) (hr : ∀ j, j < D.length → -1 ≤ D.getD j 0 ∧ D.getD j 0 ≤ (D.length : Int) - 1) (hm : IsWay D k m) :
    Calls Try.prog 74 #[.int .i64 (k : Int), .pointer (some ⟨pr, 0, none⟩), .pointer (some ⟨pi, 0, none⟩)] w (SayB ((pathP D m k).contains i) w) := by
  have HP := Lib.hid hp
  have HPi := Lib.hid hpi
  have HN := Lib.hid hn
  have hm13 : m ≤ 1048576 := by have := hm.le; omega
  have HPth : Hid (∀ W, Below w.heap.size w W → Calls Try.prog 76 #[.slice (some ⟨b, off, none⟩) n c0, .int .i64 (k : Int)] W fun e w' => ∃ a c, e = .returned (.slice a m c) ∧ w'.ownsRow W.heap.size 2 1 (.slice a m c) m (ic (pathP D m k)) ∧ Below W.heap.size W w') := Lib.hid fun W hW => pathAlong_any b off n c0 k m D W (Nat.lt_of_lt_of_le hb hW.size) (fun i hi => by rw [hW.cell (p := ⟨b, off + i, none⟩) hb]; exact hc i hi) hn hl hk hr hm
  obtain ⟨R, hR⟩ : ∃ R, (pathP D m k).contains i = R := ⟨_, rfl⟩
  have HCon : Hid (∀ (a : Option Addr) (c : Nat) (W : World), RowC W a (ic (pathP D m k)) → Calls Try.prog 75 #[.slice a m c, .int .i64 i] W fun e w' => e = .returned (.bool R) ∧ W = w') := Lib.hid fun a c W h9 => by rw [← hR]; exact contains_any a m c (pathP D m k) i W h9 (pathP_length _ _ _) hm13
  rw [hR]
  clear hp hpi hb hc hn hr hm hR
  have K0 : Hid (Below w.heap.size w w) := Lib.hid (Below.refl _ _)
  have x0 := HP.out.c 0 rfl
  have x1 := HPi.out.c 0 rfl
  have HKeep : Hid (∀ W, Below w.heap.size w W → (W.cell? ⟨pr, 0, none⟩ = some (.slice (some ⟨b, off, none⟩) n c0) ∧ W.cell? ⟨pi, 0, none⟩ = some (.int .i64 i))) := Lib.hid fun W hW => ⟨(hW.cell (p := ⟨pr, 0, none⟩) HP.out.1).trans (HP.out.c 0 rfl), (hW.cell (p := ⟨pi, 0, none⟩) HPi.out.1).trans (HPi.out.c 0 rfl)⟩
  go_enter Try.func74, Try.ntmps74
  go_wp2_with fail
  go_region_held3 (fun W => W.cell? ⟨pr, 0, none⟩ = some (.slice (some ⟨b, off, none⟩) n c0) ∧ W.cell? ⟨pi, 0, none⟩ = some (.int .i64 i))
    (first | with_reducible exact HKeep.out _ K1.out | with_reducible exact HKeep.out _ K0.out | with_reducible exact HKeep.out _ K0.out.drew | exact HKeep.out _ (below_drewN K0.out 1))
    (first | (go_at_call 76; refine (HPth.out _ (by first | with_reducible exact K0.out | with_reducible exact K0.out.drew)).mono ?_; rintro e w5 ⟨pa, pc, rfl, hrow, hb5⟩; have K1 : Hid (Below w.heap.size w w5) := Lib.hid ((by first | with_reducible exact K0.out.trans (hb5.mono (Nat.le_refl _)) | with_reducible exact K0.out.drew.trans (hb5.mono (Nat.le_refl _)))); have HRow := Lib.hid (owns_row hrow); clear hrow hb5) | (go_at_call 75; refine (HCon.out _ _ _ HRow.out).mono ?_; rintro e w6 ⟨rfl, rfl⟩))
  go_wp2_with fail
  go_ret
  exact ⟨_, rfl, rfl, K1.out⟩
set_option maxHeartbeats 8000000 in
theorem upFrom_s (a0 a1 a2 : Option Addr) (l0 n l2 c0 c1 c2 : Nat) (D M V : List Int) (i : Int) (w : World) (hwi : (Lit.int .i64 i).wf = true) (h0 : RowC w a0 (ic D)) (h1 : RowC w a1 (ic M)) (h2 : RowC w a2 (ic V)) (hD : D.length = l0) (hM : M.length = n * 4) (hV : V.length = l2) (hl : l0 ≤ 1048576 ∧ n ≤ 1048576 ∧ l2 ≤ 1048576) :
    Calls Try.prog 34 #[.agg #[.slice a0 l0 c0, .slice a1 n c1, .slice a2 l2 c2], .int .i64 i] w (ListZB (upR D M V n i) w) := by
  obtain ⟨R, hR⟩ : ∃ R, upR D M V n i = R := ⟨_, rfl⟩
  rw [hR]
  have HR := Lib.hid hR
  clear hR
  have hbl : Below w.heap.size w (w.alloc (.cells #[.slice a0 l0 c0, .slice a1 n c1, .slice a2 l2 c2] 30)) := bel1 w (.cells #[.slice a0 l0 c0, .slice a1 n c1, .slice a2 l2 c2] 30)
  have hbx : Bx (w.alloc (.cells #[.slice a0 l0 c0, .slice a1 n c1, .slice a2 l2 c2] 30)) w.heap.size [.slice a0 l0 c0, .slice a1 n c1, .slice a2 l2 c2] := Bx.new w [.slice a0 l0 c0, .slice a1 n c1, .slice a2 l2 c2] 30
  have HC := Lib.hid (l06Has_any w.heap.size a0 a1 a2 l0 n l2 c0 c1 c2 D M V i (w.alloc (.cells #[.slice a0 l0 c0, .slice a1 n c1, .slice a2 l2 c2] 30)) hbx (h0.below hbl (Nat.le_refl _)) (h1.below hbl (Nat.le_refl _)) (h2.below hbl (Nat.le_refl _)) hD hM hV hl hwi)
  have HX := Lib.hid hbx
  have HL0 := Lib.hid hbl
  have H0 := Lib.hid h0
  have H1 := Lib.hid h1
  have H2 := Lib.hid h2
  obtain ⟨bb, hbb⟩ : ∃ b, nodeB D M V n i = b := ⟨_, rfl⟩
  rw [hbb] at HC
  have HBB := Lib.hid hbb
  have HM := Lib.hid hM
  have HD := Lib.hid hD
  have HVl := Lib.hid hV
  have HL := Lib.hid hl
  clear h0 h1 h2 hD hM hV hl hbb hbl hbx
  go_enter Try.func34, Try.ntmps34
  go_wp2_with fail
  refine HC.out.mono ?_
  rintro e w1 ⟨rfl, m, hw1⟩
  have HB1 : Hid (Below w.heap.size w w1) := Lib.hid (by rw [hw1]; exact below_drewN HL0.out _)
  have HX1 : Hid (Bx w1 w.heap.size [.slice a0 l0 c0, .slice a1 n c1, .slice a2 l2 c2]) := Lib.hid (by rw [hw1]; exact HX.out.drewN m)
  clear hw1 HC HX HL0
  cases bb
  · have hv : R = ([], false) := by rw [← HR.out]; unfold upR; rw [HBB.out]; rfl
    have HV := Lib.hid hv
    clear hv
    go_wp2_with fail
    rw [HV.out]
    exact bodyPost_ret (v := .tuple #[.slice none 0 0, .bool false]) (by first | (simp [results, Try.results34, go_sem]; done) | (simp (maxDischargeDepth := 12) [results, Try.results34, go_sem]; done) | (simp (maxDischargeDepth := 12) [results, Try.results34, go_sem]; rfl)) rfl (ListZB.no HB1.out)
  · have HRv : Hid (rivB D M V n = true) := Lib.hid (nodeB_true HBB.out).1
    have HT := Lib.hid (rivB_true HRv.out)
    obtain rfl : l0 = n := by have h7 := HT.out.1; have h8 := HD.out; omega
    have hl12 : l0 ≤ 12 := by have h7 := HT.out.1; omega
    obtain ⟨b, o, rfl, hb, hc⟩ := H0.out.cells (fun h9 => by have h7 := HT.out.1; rw [h9, List.length_nil] at h7; omega)
    have HC := Lib.hid hc
    have HBo := Lib.hid hb
    clear hb hc
    obtain ⟨B, hB⟩ : ∃ B, w1.heap.size = B := ⟨_, rfl⟩
    have HB := Lib.hid hB
    have HBw : Hid (w.heap.size ≤ B) := Lib.hid (by rw [← hB]; exact HB1.out.size)
    clear hB
    have hO9 : (w1.alloc (.cells #[] 2)).ownsRow B 2 1 (.slice (some ⟨w1.heap.size, 0, none⟩) 0 0) 0 (ic (ints (pickN (upQ D i) 0))) := World.ownsRow_lit w1 #[] 0 (Nat.le_of_eq HB.out.symm) (by decide) rfl
    have HO9 := Lib.hid hO9
    have HW9 : Hid (Below B w1 (w1.alloc (.cells #[] 2))) := Lib.hid (by rw [← HB.out]; exact bel1 _ _)
    clear hO9
    have x0 := HX1.out.c 0 rfl
    have x1 := HX1.out.c 1 rfl
    have x2 := HX1.out.c 2 rfl
    have HXb : Hid (w.heap.size < B) := Lib.hid (by rw [← HB.out]; exact HX1.out.1)
    go_wp2_with fail
    go_loopw [6, 7] (fun ov iv wr => ∃ k : Nat, ∃ a c, k ≤ l0 ∧ iv = .int .i64 (k : Int) ∧ ov = .slice a (ints (pickN (upQ D i) k)).length c ∧ Hid (wr.ownsRow B 2 1 (.slice a (ints (pickN (upQ D i) k)).length c) (ints (pickN (upQ D i) k)).length (ic (ints (pickN (upQ D i) k)))) ∧ Hid (Below B w1 wr)) (fun _ iv _ => l0 - (intOf iv).toNat)
    case atStart => exact ⟨0, _, 0, Nat.zero_le _, rfl, rfl, HO9, HW9⟩
    case round =>
      clear HO9 HW9 x0 x1 x2
      obtain ⟨k, a, c, hk, rfl, rfl, HO, HW⟩ := hrel
      have hk0 : (0 : Int) ≤ (k : Int) := by omega
      obtain ⟨L, hL⟩ : ∃ L, (ints (pickN (upQ D i) k)).length = L := ⟨_, rfl⟩
      rw [hL] at HO
      rw [hL]
      have HLn := Lib.hid hL
      have hLk : L ≤ k := by rw [← hL, ints_length]; exact pickN_le _ k
      clear hL
      have x0 : wr.cell? ⟨w.heap.size, 0, none⟩ = some (.slice (some ⟨b, o, none⟩) l0 c0) := by rw [HW.out.cell (p := ⟨w.heap.size, 0, none⟩) HXb.out]; exact HX1.out.c 0 rfl
      by_cases hlt : k < l0
      · have hk1 : (k : Int) < (l0 : Int) := by omega
        obtain ⟨m9, hm9⟩ : ∃ m, wayLen D k = m := ⟨_, rfl⟩
        have HMw : Hid (IsWay D k m9) := Lib.hid (hm9 ▸ rivB_way2 HRv.out (by rw [HD.out]; exact hlt))
        have hcm := l06Comes_any w.heap.size b o l0 c0 k m9 (.slice a1 l0 c1) (.slice a2 l2 c2) D i wr (HX1.out.below HW.out (by rw [← HB.out]; exact HX1.out.1)) (fun j hj => by rw [HW.out.cell (p := ⟨b, o + j, none⟩) (by rw [← HB.out]; exact Nat.lt_of_lt_of_le HBo.out HB1.out.size), HB1.out.cell (p := ⟨b, o + j, none⟩) HBo.out]; exact HC.out j hj) HD.out hl12 hlt (rivB_range HRv.out) HMw.out
        obtain ⟨bq, hbq⟩ : ∃ bq, upQ D i k = bq := ⟨_, rfl⟩
        rw [show (pathP D m9 k).contains i = bq by rw [← hbq, ← hm9]; rfl] at hcm
        have Hcm := Lib.hid hcm
        have Hbb := Lib.hid hbq
        clear hcm hbq hm9
        have Hsz : Hid (B ≤ wr.heap.size) := Lib.hid (by rw [← HB.out]; exact HW.out.size)
        go_wp2_with fail
        refine Hcm.out.mono ?_
        rintro e w9 ⟨rfl, rfl⟩
        clear Hcm
        cases bq
        · go_wp2_with fail
          go_roundw
          case rel => exact ⟨k + 1, a, c, by omega, by go_num, by rw [pickN_miss Hbb.out, HLn.out], Lib.hid (by rw [pickN_miss Hbb.out, HLn.out]; exact HO.out), HW⟩
          case measure => simp [intOf]; omega
        · have HOa := Lib.hid (HO.out.alloc (.cells #[.int .i64 (k : Int)] 2))
          have HWa : Hid (Below B w1 (wr.alloc (.cells #[.int .i64 (k : Int)] 2))) := Lib.hid (HW.out.alloc Hsz.out _)
          have Hcell := Lib.hid (show (wr.alloc (.cells #[.int .i64 (k : Int)] 2)).cell? ⟨wr.heap.size, 0, none⟩ = some (.int .i64 (k : Int)) by simp [go_sem])
          have Hlo := Lib.hid (show B ≤ (wr.alloc (.cells #[.int .i64 (k : Int)] 2)).heap.size by have h9 := Hsz.out; simp; omega)
          have hkl : L ≤ 1048576 := by omega
          go_wp2_with (at_builtin; refine pushZ rfl rfl _ _ rfl rfl HOa.out wr.heap.size _ (k : Int) rfl Hcell.out hkl Hlo.out ?_)
          intro gn cn w4 hrow hgrow hgn hgl
          rw [← ints_push, ← pickN_hit Hbb.out] at hrow
          have hLn : (ints (pickN (upQ D i) (k + 1))).length = L + 1 := by rw [pickN_hit Hbb.out, ints_push, List.length_append, HLn.out]; rfl
          have HO4 := Lib.hid hrow
          have HL4 := Lib.hid hLn
          have HW4 : Hid (Below B w1 w4) := Lib.hid (HWa.out.grown hgrow (by have h9 := Hsz.out; simp; omega) (fun j hj => (HO.out.lt j hj).1))
          clear hrow hgrow hgn hgl hLn HO HOa HW HWa Hcell Hlo x0
          go_wp2_with fail
          go_roundw
          case rel => exact ⟨k + 1, _, cn, by omega, by go_num, by rw [HL4.out], Lib.hid (by rw [HL4.out]; exact HO4.out), HW4⟩
          case measure => simp [intOf]; omega
      · obtain rfl : l0 = k := by omega
        have HB9 : Hid (Below w.heap.size w wr) := Lib.hid (HB1.out.trans (HW.out.mono HBw.out))
        go_wp2_with fail
        have hv : R = (ints (pickN (upQ D i) l0), true) := by rw [← HR.out]; unfold upR; rw [HBB.out]; rfl
        have HV := Lib.hid hv
        clear hv
        rw [HV.out]
        exact bodyPost_ret (v := .tuple #[.slice a L c, .bool true]) (by first | (simp [results, Try.results34, go_sem]; done) | (simp (maxDischargeDepth := 12) [results, Try.results34, go_sem]; done) | (simp (maxDischargeDepth := 12) [results, Try.results34, go_sem]; rfl)) rfl (ListZB.yes HO.out HBw.out HB9.out)

set_option maxHeartbeats 8000000 in
theorem upFrom_i (a0 a1 a2 : Option Addr) (l0 n l2 c0 c1 c2 : Nat) (D M V : List Int) (i : Int) (w : World) (hwi : (Lit.int .i64 i).wf = true) (h0 : RowC w a0 (ic D)) (h1 : RowC w a1 (ic M)) (h2 : RowC w a2 (ic V)) (hD : D.length = l0) (hM : M.length = n * 4) (hV : V.length = l2) (hl : l0 ≤ 1048576 ∧ n ≤ 1048576 ∧ l2 ≤ 1048576) :
    Calls Try.prog 35 #[.agg #[.slice a0 l0 c0, .slice a1 n c1, .slice a2 l2 c2], .int .i64 i] w (ListZB (upR D M V n i) w) := by
  obtain ⟨R, hR⟩ : ∃ R, upR D M V n i = R := ⟨_, rfl⟩
  rw [hR]
  have HR := Lib.hid hR
  clear hR
  have hbl : Below w.heap.size w ((w.alloc (.cells #[.slice a0 l0 c0, .slice a1 n c1, .slice a2 l2 c2] 30)).alloc (.cells #[.int .i64 i] 2)) := below2 w (.cells #[.slice a0 l0 c0, .slice a1 n c1, .slice a2 l2 c2] 30) (.cells #[.int .i64 i] 2)
  have hbx : Bx ((w.alloc (.cells #[.slice a0 l0 c0, .slice a1 n c1, .slice a2 l2 c2] 30)).alloc (.cells #[.int .i64 i] 2)) w.heap.size [.slice a0 l0 c0, .slice a1 n c1, .slice a2 l2 c2] := (Bx.new w [.slice a0 l0 c0, .slice a1 n c1, .slice a2 l2 c2] 30).alloc (.cells #[.int .i64 i] 2)
  have hbi : Bx ((w.alloc (.cells #[.slice a0 l0 c0, .slice a1 n c1, .slice a2 l2 c2] 30)).alloc (.cells #[.int .i64 i] 2)) (w.heap.size + 1) [.int .i64 i] := Bx.new1G w (.cells #[.slice a0 l0 c0, .slice a1 n c1, .slice a2 l2 c2] 30) [.int .i64 i] 2
  have HC := Lib.hid (hasNode_i a0 a1 a2 l0 n l2 c0 c1 c2 D M V i ((w.alloc (.cells #[.slice a0 l0 c0, .slice a1 n c1, .slice a2 l2 c2] 30)).alloc (.cells #[.int .i64 i] 2)) (h0.below hbl (Nat.le_refl _)) (h1.below hbl (Nat.le_refl _)) (h2.below hbl (Nat.le_refl _)) hD hM hV hl hwi)
  have HX := Lib.hid hbx
  have HXi := Lib.hid hbi
  have HL0 := Lib.hid hbl
  have H0 := Lib.hid h0
  have H1 := Lib.hid h1
  have H2 := Lib.hid h2
  obtain ⟨bb, hbb⟩ : ∃ b, nodeB D M V n i = b := ⟨_, rfl⟩
  rw [hbb] at HC
  have HBB := Lib.hid hbb
  have HM := Lib.hid hM
  have HD := Lib.hid hD
  have HVl := Lib.hid hV
  have HL := Lib.hid hl
  clear h0 h1 h2 hD hM hV hl hbb hbl hbx hbi
  go_enter Try.func35, Try.ntmps35
  go_wp2_with fail
  refine HC.out.mono ?_
  rintro e w1 ⟨b9, hb9, rfl, hb⟩
  subst hb9
  have HX1 := Lib.hid (HX.out.below hb HX.out.1)
  have HXi1 := Lib.hid (HXi.out.below hb HXi.out.1)
  have HB1 : Hid (Below w.heap.size w w1) := Lib.hid (HL0.out.trans (hb.mono (by first | (simp; done) | (simp; omega))))
  clear HC HX hb HL0 HXi
  cases bb
  · have hv : R = ([], false) := by rw [← HR.out]; unfold upR; rw [HBB.out]; rfl
    have HV := Lib.hid hv
    clear hv
    go_wp2_with fail
    rw [HV.out]
    exact bodyPost_ret (v := .tuple #[.slice none 0 0, .bool false]) (by first | (simp [results, Try.results35, go_sem]; done) | (simp (maxDischargeDepth := 12) [results, Try.results35, go_sem]; done) | (simp (maxDischargeDepth := 12) [results, Try.results35, go_sem]; rfl)) rfl (ListZB.no HB1.out)
  · have HRv : Hid (rivB D M V n = true) := Lib.hid (nodeB_true HBB.out).1
    have HT := Lib.hid (rivB_true HRv.out)
    obtain rfl : l0 = n := by have h7 := HT.out.1; have h8 := HD.out; omega
    have hl12 : l0 ≤ 12 := by have h7 := HT.out.1; omega
    obtain ⟨b, o, rfl, hb, hc⟩ := H0.out.cells (fun h9 => by have h7 := HT.out.1; rw [h9, List.length_nil] at h7; omega)
    have HC := Lib.hid hc
    have HBo := Lib.hid hb
    clear hb hc
    have Hst := Lib.hid (nodesOf_any 74 #[.pointer (some ⟨w.heap.size, 0, none⟩), .pointer (some ⟨w.heap.size + 1, 0, none⟩)] (upQ D i) (enters_of Try.func74 (by kernel_rfl) rfl) (some ⟨b, o, none⟩) l0 c0 (.slice a1 l0 c1) (.slice a2 l2 c2) w1 (fun k hk W hW => upClo b o l0 c0 k (wayLen D k) w.heap.size (w.heap.size + 1) i (.slice a1 l0 c1) (.slice a2 l2 c2) D W (HX1.out.below hW HX1.out.1) (HXi1.out.below hW HXi1.out.1) (Nat.lt_of_lt_of_le HBo.out (Nat.le_trans HB1.out.size hW.size)) (fun j hj => by rw [hW.cell (p := ⟨b, o + j, none⟩) (Nat.lt_of_lt_of_le HBo.out HB1.out.size), HB1.out.cell (p := ⟨b, o + j, none⟩) HBo.out]; exact HC.out j hj) HD.out hl12 hk (rivB_range HRv.out) (rivB_way2 HRv.out (by rw [HD.out]; exact hk))) hl12)
    have hmf : ∀ (fn : Fn) (first cap : Array Value) (w : World), (Instr.makeFunc fn first cap).run Try.prog w = .ok (.func fn first cap) w := fun _ _ _ _ => rfl
    have x0 := HX1.out.c 0 rfl
    have x1 := HX1.out.c 1 rfl
    have x2 := HX1.out.c 2 rfl
    go_wp2_with fail
    refine Hst.out.mono ?_
    rintro e w2 ⟨a, c, rfl, hrow, hb⟩
    have HRow := Lib.hid hrow
    have HB2 : Hid (Below w.heap.size w w2) := Lib.hid (HB1.out.trans (hb.mono HB1.out.size))
    have HZ : Hid (w.heap.size ≤ w1.heap.size) := Lib.hid HB1.out.size
    clear hb hrow
    go_wp2_with fail
    have hv : R = (ints (pickN (upQ D i) l0), true) := by rw [← HR.out]; unfold upR; rw [HBB.out]; rfl
    have HV := Lib.hid hv
    clear hv
    rw [HV.out]
    exact bodyPost_ret (v := .tuple #[.slice a (ints (pickN (upQ D i) l0)).length c, .bool true]) (by first | (simp [results, Try.results35, go_sem]; done) | (simp (maxDischargeDepth := 12) [results, Try.results35, go_sem]; done) | (simp (maxDischargeDepth := 12) [results, Try.results35, go_sem]; rfl)) rfl (ListZB.yes HRow.out HZ.out HB2.out)

end Go.Proofs.Ytnmmhaadkclogaa
