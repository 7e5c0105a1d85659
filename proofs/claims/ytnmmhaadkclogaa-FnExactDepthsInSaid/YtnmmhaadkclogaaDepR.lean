/- How far nodes are from the sea. -/
import Derived.Test.YtnmmhaadkclogaaPath
import Derived.Test.YtnmmhaadkclogaaRivS
namespace Go.Proofs.Ytnmmhaadkclogaa
open Go.RowKit
set_option linter.unusedVariables false
set_option linter.unusedSimpArgs false
set_option maxRecDepth 100000
attribute [local irreducible] wpV wpList Code.wp

def depV (D : List Int) (n : Nat) : List Int := (List.range n).map fun k => (wayLen D k : Int) - 1
def depW (D : List Int) (k n : Nat) : List Int := (List.range n).map fun j => if j < k then (wayLen D j : Int) - 1 else 0
theorem depV_length (D : List Int) (n : Nat) : (depV D n).length = n := by simp [depV]
theorem depV_succ (D : List Int) (n : Nat) : depV D (n + 1) = depV D n ++ [(wayLen D n : Int) - 1] := by unfold depV; rw [List.range_succ, List.map_append]; rfl
theorem depW_length (D : List Int) (k n : Nat) : (depW D k n).length = n := by simp [depW]
theorem depW_zero (D : List Int) (n : Nat) : depW D 0 n = List.replicate n 0 := by
  apply List.ext_getElem?
  intro i
  unfold depW
  by_cases hi : i < n
  · rw [List.getElem?_map, List.getElem?_range hi, List.getElem?_replicate, if_pos hi]; rfl
  · rw [List.getElem?_eq_none (by simp; omega), List.getElem?_eq_none (by simp; omega)]
theorem depW_set {D : List Int} {k n : Nat} (hk : k < n) : (depW D k n).set k ((wayLen D k : Int) - 1) = depW D (k + 1) n := by
  unfold depW
  refine map_set_eq hk ?_ fun j hj hne => ?_
  · rw [if_pos (Nat.lt_succ_self k)]
  · by_cases h : j < k
    · rw [if_pos h, if_pos (by omega)]
    · rw [if_neg h, if_neg (by omega)]
theorem depW_all (D : List Int) (n : Nat) : depW D n n = depV D n := by
  unfold depW depV
  refine List.map_congr_left fun j hj => ?_
  rw [if_pos (List.mem_range.1 hj)]
def depR (D M V : List Int) (n : Nat) : List Int × Bool := if rivB D M V n then (depV D n, true) else ([], false)
theorem depR_len (D M V : List Int) (n : Nat) : (depR D M V n).1.length ≤ 1048576 := by
  unfold depR
  cases h : rivB D M V n
  · exact Nat.zero_le _
  · have h1 := (rivB_true h).1
    show (depV D n).length ≤ 1048576
    rw [depV_length]; omega
theorem rivB_way2 {D M V : List Int} {n k : Nat} (h : rivB D M V n = true) (hk : k < D.length) : IsWay D k (wayLen D k) := wayLen_is ((rivB_true h).2.2 k hk)
theorem rivB_in {D M V : List Int} {n k : Nat} (h : rivB D M V n = true) (hk : k < D.length) (m : Nat) : -1 ≤ walkD D m (k : Int) ∧ walkD D m (k : Int) ≤ (D.length : Int) - 1 := walkD_in (rivB_range h) hk m
theorem walkD_next {D : List Int} {m x : Nat} {z : Int} (h : walkD D m z = (x : Int)) : walkD D (m + 1) z = D.getD x 0 := by
  rw [walkD_succ, h]; unfold nxt; rw [if_neg (by omega), Int.toNat_natCast]
theorem walkD_one {D : List Int} (k : Nat) : walkD D 1 (k : Int) = D.getD k 0 := walkD_next (m := 0) rfl
set_option maxHeartbeats 8000000 in
theorem depthsIn_s (a0 a1 a2 : Option Addr) (l0 n l2 c0 c1 c2 : Nat) (D M V : List Int) (w : World) (h0 : RowC w a0 (ic D)) (h1 : RowC w a1 (ic M)) (h2 : RowC w a2 (ic V)) (hD : D.length = l0) (hM : M.length = n * 4) (hV : V.length = l2) (hl : l0 ≤ 1048576 ∧ n ≤ 1048576 ∧ l2 ≤ 1048576) :
    Calls Try.prog 38 #[.agg #[.slice a0 l0 c0, .slice a1 n c1, .slice a2 l2 c2]] w (ListZB (depR D M V n) w) := by
  obtain ⟨R, hR⟩ : ∃ R, depR D M V n = R := ⟨_, rfl⟩
  rw [hR]
  have HR := Lib.hid hR
  clear hR
  have hbl := bel1 w (.cells #[.slice a0 l0 c0, .slice a1 n c1, .slice a2 l2 c2] 30)
  have HC := Lib.hid (l06Is_any w.heap.size a0 a1 a2 l0 n l2 c0 c1 c2 D M V (w.alloc (.cells #[.slice a0 l0 c0, .slice a1 n c1, .slice a2 l2 c2] 30)) (Bx.new w [.slice a0 l0 c0, .slice a1 n c1, .slice a2 l2 c2] _) (h0.below hbl (Nat.le_refl _)) (h1.below hbl (Nat.le_refl _)) (h2.below hbl (Nat.le_refl _)) hD hM hV hl)
  have HX := Lib.hid (Bx.new w [.slice a0 l0 c0, .slice a1 n c1, .slice a2 l2 c2] 30)
  have HL0 := Lib.hid hbl
  have H0 := Lib.hid h0
  have H1 := Lib.hid h1
  have H2 := Lib.hid h2
  obtain ⟨bb, hbb⟩ : ∃ b, rivB D M V n = b := ⟨_, rfl⟩
  rw [hbb] at HC
  have HBB := Lib.hid hbb
  have HM := Lib.hid hM
  have HD := Lib.hid hD
  have HVl := Lib.hid hV
  have HL := Lib.hid hl
  clear h0 h1 h2 hD hM hV hl hbb hbl
  go_enter Try.func38, Try.ntmps38
  go_wp2_with fail
  refine HC.out.mono ?_
  rintro e w1 ⟨rfl, m, hw1⟩
  have HB1 : Hid (Below w.heap.size w w1) := Lib.hid (by rw [hw1]; exact below_drewN HL0.out _)
  have HX1 : Hid (Bx w1 w.heap.size [.slice a0 l0 c0, .slice a1 n c1, .slice a2 l2 c2]) := Lib.hid (by rw [hw1]; exact HX.out.drewN m)
  clear hw1 HC HX HL0
  cases bb
  · have hv : R = ([], false) := by rw [← HR.out]; unfold depR; rw [HBB.out]; rfl
    have HV := Lib.hid hv
    clear hv
    go_wp2_with fail
    rw [HV.out]
    exact bodyPost_ret (v := .tuple #[.slice none 0 0, .bool false]) (by first | (simp [results, Try.results38, go_sem]; done) | (simp (maxDischargeDepth := 12) [results, Try.results38, go_sem]; done) | (simp (maxDischargeDepth := 12) [results, Try.results38, go_sem]; rfl)) rfl (ListZB.no HB1.out)
  · have HT := Lib.hid (rivB_true HBB.out)
    obtain rfl : l0 = n := by have h7 := HT.out.1; have h8 := HD.out; omega
    have hl12 : l0 ≤ 12 := by have h7 := HT.out.1; omega
    have hl1 : 1 ≤ l0 := by have h7 := HT.out.1; omega
    obtain ⟨b, o, rfl, hb, hc⟩ := H0.out.cells (fun h9 => by have h7 := HT.out.1; rw [h9, List.length_nil] at h7; omega)
    have HC := Lib.hid hc
    have HBo := Lib.hid hb
    clear hb hc
    obtain ⟨B, hB⟩ : ∃ B, w1.heap.size = B := ⟨_, rfl⟩
    have HB := Lib.hid hB
    have HBw : Hid (w.heap.size ≤ B) := Lib.hid (by rw [← hB]; exact HB1.out.size)
    have HXb : Hid (w.heap.size < B) := Lib.hid (by rw [← hB]; exact HX1.out.1)
    have HoB : Hid (b < B) := Lib.hid (Nat.lt_of_lt_of_le HBo.out HBw.out)
    clear hB
    have hO9 : (w1.alloc (.cells #[] 2)).ownsRow B 2 1 (.slice (some ⟨w1.heap.size, 0, none⟩) 0 0) 0 (ic (depV D 0)) := World.ownsRow_lit w1 #[] 0 (Nat.le_of_eq HB.out.symm) (by decide) rfl
    have HO9 := Lib.hid hO9
    have HW9 : Hid (Below B w1 (w1.alloc (.cells #[] 2))) := Lib.hid (by rw [← HB.out]; exact bel1 _ _)
    clear hO9
    have x0 := HX1.out.c 0 rfl
    go_wp2_with fail
    go_loopw [4, 5, 6, 7] (fun ov iv nv av wr => ∃ k : Nat, ∃ a c, k ≤ l0 ∧ iv = .int .i64 (k : Int) ∧ ov = .slice a k c ∧ Hid (wr.ownsRow B 2 1 (.slice a k c) k (ic (depV D k))) ∧ Hid (Below B w1 wr)) (fun _ iv _ _ _ => l0 - (intOf iv).toNat)
    case atStart => exact ⟨0, _, 0, Nat.zero_le _, rfl, rfl, HO9, HW9⟩
    case round =>
    clear HO9 HW9 x0
    obtain ⟨k, a, c, hk, rfl, rfl, HO, HW⟩ := hrel
    have hk0 : (0 : Int) ≤ (k : Int) := by omega
    have x0 : wr.cell? ⟨w.heap.size, 0, none⟩ = some (.slice (some ⟨b, o, none⟩) l0 c0) := by rw [HW.out.cell (p := ⟨w.heap.size, 0, none⟩) HXb.out]; exact HX1.out.c 0 rfl
    by_cases hlt : k < l0
    · have hk1 : (k : Int) < (l0 : Int) := by omega
      obtain ⟨m, hm⟩ : ∃ m, wayLen D k = m := ⟨_, rfl⟩
      have HMw : Hid (IsWay D k m) := Lib.hid (hm ▸ rivB_way2 HBB.out (by rw [HD.out]; exact hlt))
      have HIn : Hid (∀ j, -1 ≤ walkD D j (k : Int) ∧ walkD D j (k : Int) ≤ (l0 : Int) - 1) := Lib.hid (fun j => by have h9 := rivB_in HBB.out (k := k) (by rw [HD.out]; exact hlt) j; rw [HD.out] at h9; exact h9)
      have Hm := Lib.hid hm
      have hm13 : m ≤ 13 := by have h9 := HMw.out.le; have h8 := HD.out; omega
      have hm1 : 1 ≤ m := HMw.out.pos
      clear hm
      have cd : wr.cell? ⟨b, o + k, none⟩ = some (.int .i64 (D.getD k 0)) := by rw [HW.out.cell (p := ⟨b, o + k, none⟩) HoB.out, HB1.out.cell (p := ⟨b, o + k, none⟩) HBo.out]; exact HC.out k (by rw [HD.out]; exact hlt)
      obtain ⟨z0, hz0⟩ : ∃ z, D.getD k 0 = z := ⟨_, rfl⟩
      rw [hz0] at cd
      have Hz0 : Hid (walkD D 1 (k : Int) = z0) := Lib.hid (by rw [walkD_one]; exact hz0)
      clear hz0
      go_wp2_with fail
      go_loopw [6, 7] (fun nv av wr2 => ∃ j : Nat, j + 1 ≤ m ∧ nv = .int .i64 (j : Int) ∧ av = .int .i64 (walkD D (j + 1) (k : Int)) ∧ wr2 = wr) (fun nv _ _ => m - (intOf nv).toNat)
      case atStart => exact ⟨0, hm1, rfl, by rw [Hz0.out], rfl⟩
      case round =>
      clear cd Hz0
      obtain ⟨j, hj, rfl, rfl, rfl⟩ := hrel
      have hj0 : (0 : Int) ≤ (j : Int) := by omega
      obtain ⟨z, hz⟩ : ∃ z, walkD D (j + 1) (k : Int) = z := ⟨_, rfl⟩
      have hzin := HIn.out (j + 1)
      rw [hz] at hzin ⊢
      obtain ⟨hz1, hz2⟩ := hzin
      by_cases hzn : 0 ≤ z
      · obtain ⟨x, rfl⟩ : ∃ x : Nat, z = (x : Int) := ⟨z.toNat, by omega⟩
        have hx1 : (x : Int) < (l0 : Int) := by omega
        have hjm : j + 1 < m := by
          rcases Nat.lt_or_ge (j + 1) m with h9 | h9
          · exact h9
          · have h8 := HMw.out.out
            have h7 : j + 1 = m := by omega
            rw [← h7, hz] at h8
            omega
        have cd : wr.cell? ⟨b, o + x, none⟩ = some (.int .i64 (D.getD x 0)) := by rw [HW.out.cell (p := ⟨b, o + x, none⟩) HoB.out, HB1.out.cell (p := ⟨b, o + x, none⟩) HBo.out]; exact HC.out x (by rw [HD.out]; omega)
        have Hnx : Hid (walkD D (j + 1 + 1) (k : Int) = D.getD x 0) := Lib.hid (walkD_next hz)
        clear hz
        go_wp2_with fail
        go_roundw
        case rel => exact ⟨j + 1, by omega, by go_num, by rw [Hnx.out, List.getD_eq_getElem?_getD], by first | trivial | rfl⟩
        case measure => simp [intOf]; omega
      · have hjm : j + 1 = m := by
          rcases Nat.lt_or_ge (j + 1) m with h9 | h9
          · have h8 := HMw.out.on (j + 1) h9; omega
          · omega
        have Hjv : Hid ((j : Int) = (wayLen D k : Int) - 1) := Lib.hid (by rw [Hm.out]; omega)
        clear hz hjm
        have hsz : B ≤ wr.heap.size := by have h9 := HW.out.size; rw [HB.out] at h9; exact h9
        have HOa := Lib.hid (HO.out.alloc (.cells #[.int .i64 (j : Int)] 2))
        have HWa : Hid (Below B w1 (wr.alloc (.cells #[.int .i64 (j : Int)] 2))) := Lib.hid (HW.out.alloc hsz _)
        have Hcell := Lib.hid (show (wr.alloc (.cells #[.int .i64 (j : Int)] 2)).cell? ⟨wr.heap.size, 0, none⟩ = some (.int .i64 (j : Int)) by simp [go_sem])
        have Hlo := Lib.hid (show B ≤ (wr.alloc (.cells #[.int .i64 (j : Int)] 2)).heap.size by simp; omega)
        have hkl : k ≤ 1048576 := by omega
        go_wp2_with (at_builtin; refine pushZ rfl rfl _ _ rfl rfl HOa.out wr.heap.size _ (j : Int) rfl Hcell.out hkl Hlo.out ?_)
        intro gn cn w4 hrow hgrow hgn hgl
        rw [Hjv.out, ← depV_succ] at hrow
        have HO4 := Lib.hid hrow
        have HW4 : Hid (Below B w1 w4) := Lib.hid (HWa.out.grown hgrow (by simp; omega) (fun j hj => (HO.out.lt j hj).1))
        clear hrow hgrow hgn hgl HOa HWa Hcell Hlo HO HW
        go_wp2_with fail
        go_roundw
        case rel => exact ⟨k + 1, _, cn, by omega, by go_num, rfl, HO4, HW4⟩
        case measure => simp [intOf]; omega
    · obtain rfl : l0 = k := by omega
      have HB9 : Hid (Below w.heap.size w wr) := Lib.hid (HB1.out.trans (HW.out.mono HBw.out))
      go_wp2_with fail
      have hv : R = (depV D l0, true) := by rw [← HR.out]; unfold depR; rw [HBB.out]; rfl
      have HV := Lib.hid hv
      clear hv
      rw [HV.out]
      exact bodyPost_ret (v := .tuple #[.slice a l0 c, .bool true]) (by first | (simp [results, Try.results38, go_sem]; done) | (simp (maxDischargeDepth := 12) [results, Try.results38, go_sem]; done) | (simp (maxDischargeDepth := 12) [results, Try.results38, go_sem]; rfl)) rfl (ListZB.yes HO.out HBw.out HB9.out)

set_option maxHeartbeats 8000000 in
theorem depthsIn_i (a0 a1 a2 : Option Addr) (l0 n l2 c0 c1 c2 : Nat) (D M V : List Int) (w : World) (h0 : RowC w a0 (ic D)) (h1 : RowC w a1 (ic M)) (h2 : RowC w a2 (ic V)) (hD : D.length = l0) (hM : M.length = n * 4) (hV : V.length = l2) (hl : l0 ≤ 1048576 ∧ n ≤ 1048576 ∧ l2 ≤ 1048576) :
    Calls Try.prog 39 #[.agg #[.slice a0 l0 c0, .slice a1 n c1, .slice a2 l2 c2]] w (ListZB (depR D M V n) w) := by
  obtain ⟨R, hR⟩ : ∃ R, depR D M V n = R := ⟨_, rfl⟩
  rw [hR]
  have HR := Lib.hid hR
  clear hR
  have hbl := bel1 w (.cells #[.slice a0 l0 c0, .slice a1 n c1, .slice a2 l2 c2] 30)
  have HC := Lib.hid (validRiver_i a0 a1 a2 l0 n l2 c0 c1 c2 D M V (w.alloc (.cells #[.slice a0 l0 c0, .slice a1 n c1, .slice a2 l2 c2] 30)) (h0.below hbl (Nat.le_refl _)) (h1.below hbl (Nat.le_refl _)) (h2.below hbl (Nat.le_refl _)) hD hM hV hl)
  have HX := Lib.hid (Bx.new w [.slice a0 l0 c0, .slice a1 n c1, .slice a2 l2 c2] 30)
  have HL0 := Lib.hid hbl
  have H0 := Lib.hid h0
  have H1 := Lib.hid h1
  have H2 := Lib.hid h2
  obtain ⟨bb, hbb⟩ : ∃ b, rivB D M V n = b := ⟨_, rfl⟩
  rw [hbb] at HC
  have HBB := Lib.hid hbb
  have HM := Lib.hid hM
  have HD := Lib.hid hD
  have HVl := Lib.hid hV
  have HL := Lib.hid hl
  clear h0 h1 h2 hD hM hV hl hbb hbl
  go_enter Try.func39, Try.ntmps39
  go_wp2_with fail
  refine HC.out.mono ?_
  rintro e w1 ⟨b9, hb9, rfl, hb⟩
  subst hb9
  have HX1 := Lib.hid (HX.out.below hb HX.out.1)
  have HB1 : Hid (Below w.heap.size w w1) := Lib.hid (HL0.out.trans (hb.mono (by simp)))
  clear HC HX hb HL0
  cases bb
  · have hv : R = ([], false) := by rw [← HR.out]; unfold depR; rw [HBB.out]; rfl
    have HV := Lib.hid hv
    clear hv
    go_wp2_with fail
    rw [HV.out]
    exact bodyPost_ret (v := .tuple #[.slice none 0 0, .bool false]) (by first | (simp [results, Try.results39, go_sem]; done) | (simp (maxDischargeDepth := 12) [results, Try.results39, go_sem]; done) | (simp (maxDischargeDepth := 12) [results, Try.results39, go_sem]; rfl)) rfl (ListZB.no HB1.out)
  · have HT := Lib.hid (rivB_true HBB.out)
    obtain rfl : l0 = n := by have h7 := HT.out.1; have h8 := HD.out; omega
    have hl12 : l0 ≤ 12 := by have h7 := HT.out.1; omega
    have hl1 : 1 ≤ l0 := by have h7 := HT.out.1; omega
    obtain ⟨b, o, rfl, hb, hc⟩ := H0.out.cells (fun h9 => by have h7 := HT.out.1; rw [h9, List.length_nil] at h7; omega)
    have HC := Lib.hid hc
    have HBo := Lib.hid hb
    clear hb hc
    obtain ⟨B, hB⟩ : ∃ B, w1.heap.size = B := ⟨_, rfl⟩
    have HB := Lib.hid hB
    have HBw : Hid (w.heap.size ≤ B) := Lib.hid (by rw [← hB]; exact HB1.out.size)
    have HXb : Hid (w.heap.size < B) := Lib.hid (by rw [← hB]; exact HX1.out.1)
    have HoB : Hid (b < B) := Lib.hid (Nat.lt_of_lt_of_le HBo.out HBw.out)
    clear hB
    have x0 := HX1.out.c 0 rfl
    have x1 := HX1.out.c 1 rfl
    have x2 := HX1.out.c 2 rfl
    have hmm : l0 ≤ 1048576 := by omega
    go_wp2_with (at_make; refine makeZ rfl rfl _ _ rfl .i64 .i64 _ _ l0 rfl rfl rfl rfl hmm (lo := w1.heap.size) (Nat.le_refl _) ?_)
    intro w2 hrow hgr
    rw [HB.out] at hrow ⊢
    have HW9 : Hid (Below B w1 w2) := Lib.hid (by rw [← HB.out]; exact below_made (Below.refl _ _) hgr (Nat.le_refl _))
    have HO9 : Hid (w2.ownsRow B 2 1 (.slice (some ⟨B, 0, none⟩) l0 l0) l0 (ic (depW D 0 l0))) := Lib.hid (by rw [depW_zero]; unfold ic; rw [List.map_replicate]; exact hrow)
    clear hrow hgr x0 x1 x2
    go_wp2_with fail
    go_loopw [5, 15] (fun jv iv wr => ∃ k : Nat, k ≤ l0 ∧ iv = .int .i64 (k : Int) ∧ Hid (wr.ownsRow B 2 1 (.slice (some ⟨B, 0, none⟩) l0 l0) l0 (ic (depW D k l0))) ∧ Hid (Below B w1 wr)) (fun _ iv _ => l0 - (intOf iv).toNat)
    case atStart => exact ⟨0, Nat.zero_le _, rfl, HO9, HW9⟩
    case round =>
    clear HO9 HW9
    obtain ⟨k, hk, rfl, HO, HW⟩ := hrel
    have hk0 : (0 : Int) ≤ (k : Int) := by omega
    have x0 : wr.cell? ⟨w.heap.size, 0, none⟩ = some (.slice (some ⟨b, o, none⟩) l0 c0) := by rw [HW.out.cell (p := ⟨w.heap.size, 0, none⟩) HXb.out]; exact HX1.out.c 0 rfl
    by_cases hlt : k < l0
    · have hk1 : (k : Int) < (l0 : Int) := by omega
      obtain ⟨m, hm⟩ : ∃ m, wayLen D k = m := ⟨_, rfl⟩
      have HMw : Hid (IsWay D k m) := Lib.hid (hm ▸ rivB_way2 HBB.out (by rw [HD.out]; exact hlt))
      have Hm := Lib.hid hm
      have hm13 : m ≤ 13 := by have h9 := HMw.out.le; have h8 := HD.out; omega
      have hm1 : 1 ≤ m := HMw.out.pos
      clear hm
      have Hp := Lib.hid (pathAlong_any b o l0 c0 k m D wr (Nat.lt_of_lt_of_le HoB.out (by have h9 := HW.out.size; rw [HB.out] at h9; exact h9)) (fun i hi => by rw [HW.out.cell (p := ⟨b, o + i, none⟩) HoB.out, HB1.out.cell (p := ⟨b, o + i, none⟩) HBo.out]; exact HC.out i hi) HD.out hl12 hlt (rivB_range HBB.out) HMw.out)
      go_wp2_with fail
      refine Hp.out.mono ?_
      rintro e w5 ⟨pa, pc, rfl, _, hb⟩
      have HW5 : Hid (Below B w1 w5) := Lib.hid (HW.out.trans (hb.mono (by have h9 := HW.out.size; rw [HB.out] at h9; exact h9)))
      have HO5 := owns_below HO.out hb (Nat.le_refl _)
      clear hb Hp x0 HW HO
      obtain ⟨z, hz⟩ : ∃ z, (ic (depW D k l0))[k]? = some z := ⟨_, List.getElem?_eq_getElem (by rw [ic_length, depW_length]; exact hlt)⟩
      have hc1 : w5.cell? ⟨B, k, none⟩ = some z := by rw [HO5.cellAt k (by omega)]; exact hz
      have hf1 := HO5.frozenAt k
      have hst := (HO5.stored k (.int .i64 ((m : Int) - 1))).1
      rw [← ic_set, ← Hm.out, depW_set hlt, Hm.out] at hst
      have Hst := Lib.hid hst
      clear hst hz HO5
      have hmi : (0 : Int) ≤ (m : Int) - 1 := by omega
      go_wp2_with fail
      go_roundw
      case rel => exact ⟨k + 1, by omega, by go_num, Hst, Lib.hid (HW5.out.setCell (by show B ≤ B; exact Nat.le_refl _) _)⟩
      case measure => simp [intOf]; omega
    · obtain rfl : l0 = k := by omega
      have HB9 : Hid (Below w.heap.size w wr) := Lib.hid (HB1.out.trans (HW.out.mono HBw.out))
      rw [depW_all] at HO
      go_wp2_with fail
      have hv : R = (depV D l0, true) := by rw [← HR.out]; unfold depR; rw [HBB.out]; rfl
      have HV := Lib.hid hv
      clear hv
      rw [HV.out]
      exact bodyPost_ret (v := .tuple #[.slice (some ⟨B, 0, none⟩) l0 l0, .bool true]) (by first | (simp [results, Try.results39, go_sem]; done) | (simp (maxDischargeDepth := 12) [results, Try.results39, go_sem]; done) | (simp (maxDischargeDepth := 12) [results, Try.results39, go_sem]; rfl)) rfl (ListZB.yes HO.out HBw.out HB9.out)

end Go.Proofs.Ytnmmhaadkclogaa
