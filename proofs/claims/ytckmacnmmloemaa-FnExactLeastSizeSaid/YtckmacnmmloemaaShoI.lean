/- ShortDays: the program. -/
import Derived.Test.YtckmacnmmloemaaShoV
import Derived.Test.YtckmacnmmloemaaRunI
namespace Go.Proofs.Ytckmacnmmloemaa
open Go.RowKit
set_option linter.unusedVariables false
set_option linter.unusedSimpArgs false
set_option maxRecDepth 100000
attribute [local irreducible] wpV wpList Code.wp

set_option maxHeartbeats 16000000 in
theorem shortDays_i (a0 a1 a2 sa : Option Addr) (l0 n l2 c0 c1 c2 len sc : Nat) (D M V : List Int) (Zs : List (List Int)) (w : World) (h0 : RowC w a0 (ic D)) (h1 : RowC w a1 (ic M)) (h2 : RowC w a2 (ic V)) (hD : D.length = l0) (hM : M.length = n * 4) (hV : V.length = l2) (hl : l0 ≤ 1048576 ∧ n ≤ 1048576 ∧ l2 ≤ 1048576) (h : RowSS w sa Zs) (hlen : Zs.length = len) (hrl : ∀ k, k < len → (zr Zs k).length ≤ 1048576) :
    Calls Try.prog 33 #[.agg #[.slice a0 l0 c0, .slice a1 n c1, .slice a2 l2 c2], .slice sa len sc] w (ListZB (shoR D M V n Zs) w) := by
  have HRo : Hid (∀ W : World, Below w.heap.size w W → Calls Try.prog 65 #[.agg #[.slice a0 l0 c0, .slice a1 n c1, .slice a2 l2 c2], .slice sa len sc] W (RunP (runR D M V n Zs) W)) := Lib.hid fun W hW => runOf_any a0 a1 a2 sa l0 n l2 c0 c1 c2 len sc D M V Zs W (h0.below hW (Nat.le_refl _)) (h1.below hW (Nat.le_refl _)) (h2.below hW (Nat.le_refl _)) hD hM hV hl (h.below hW (Nat.le_refl _)) hlen hrl
  have hbx := Bx.new w [.slice a0 l0 c0, .slice a1 n c1, .slice a2 l2 c2] 29
  have hbl := bel1 w (.cells #[.slice a0 l0 c0, .slice a1 n c1, .slice a2 l2 c2] 29)
  obtain ⟨W1, hW1⟩ : ∃ W, w.alloc (.cells #[.slice a0 l0 c0, .slice a1 n c1, .slice a2 l2 c2] 29) = W := ⟨_, rfl⟩
  have HX1 : Hid (Bx W1 w.heap.size [.slice a0 l0 c0, .slice a1 n c1, .slice a2 l2 c2]) := Lib.hid (by rw [← hW1]; exact hbx)
  have HB1 : Hid (Below w.heap.size w W1) := Lib.hid (by rw [← hW1]; exact hbl)
  clear hbx hbl
  obtain ⟨cnd, hcnd⟩ : ∃ b, (rivB D M V n && decide (Zs.length ≤ 64) && daysB Zs n) = b := ⟨_, rfl⟩
  cases cnd
  · have hv : shoR D M V n Zs = ([], false) := by unfold shoR; rw [hcnd]; rfl
    have hr : runR D M V n Zs = failN := by unfold runR; rw [hcnd]; rfl
    rw [hr] at HRo
    rw [hv]
    clear hv hr hcnd h0 h1 h2 hD hM hV h hlen hrl
    go_enter Try.func33, Try.ntmps33
    go_upto_region 1 with fail
    (try rw [hW1])
    clear hW1
    have x0 := HX1.out.c 0 rfl
    have x1 := HX1.out.c 1 rfl
    have x2 := HX1.out.c 2 rfl
    go_wp2_with fail
    refine (HRo.out W1 HB1.out).mono ?_
    rintro e w2 ⟨lo, hi, L, p0, p1, p2, q0, q1, q2, x1, x2, x3, x4, y2, u2, ga, za, gc, zc, rfl, hb, hrv, hlo, hss, hzz, z1, z2, z3, z4, z5, z6, z7, z8⟩
    clear x0
    have HB2 : Hid (Below w.heap.size w w2) := Lib.hid (HB1.out.trans (hb.mono HB1.out.size))
    clear hb hrv hlo hss hzz z1 z2 z3 z4 z5 z6 z7 z8
    go_upto_region 2 with fail
    generalize hW3 : World.alloc w2 _ = W3
    have HT3 : Hid (Bx W3 w2.heap.size [.slice p0 failN.D.length q0, .slice p1 failN.n q1, .slice p2 failN.V.length q2, .slice ga failN.G.length gc, .slice za failN.S.length zc, .bool failN.ok]) := Lib.hid (by rw [← hW3]; exact Bx.new w2 [.slice p0 failN.D.length q0, .slice p1 failN.n q1, .slice p2 failN.V.length q2, .slice ga failN.G.length gc, .slice za failN.S.length zc, .bool failN.ok] _)
    have HB3 : Hid (Below w.heap.size w W3) := Lib.hid (by rw [← hW3]; exact HB2.out.alloc HB2.out.size _)
    have t5 : W3.cell? ⟨w2.heap.size, 5, none⟩ = some (.bool false) := HT3.out.c 5 rfl
    clear hW3 HT3
    go_wp2_with fail
    exact bodyPost_ret (v := .tuple #[.slice none 0 0, .bool false]) (by first | (simp [results, Try.results33, go_sem]; done) | (simp (maxDischargeDepth := 12) [results, Try.results33, go_sem]; done) | (simp (maxDischargeDepth := 12) [results, Try.results33, go_sem]; rfl)) rfl (ListZB.no HB3.out)
  · rw [Bool.and_eq_true, Bool.and_eq_true, decide_eq_true_eq] at hcnd
    obtain ⟨⟨hrb, h64⟩, hdy⟩ := hcnd
    have HBB := Lib.hid hrb
    have HDY := Lib.hid hdy
    have h9 := (rivB_true hrb).1
    have h0n : l0 = n := by rw [← hD]; omega
    have h2n : l2 = n := by rw [← hV]; omega
    obtain rfl : n = l0 := h0n.symm
    obtain rfl : n = l2 := h2n.symm
    have h12 : n ≤ 12 := by omega
    have hn1 : 0 < n := by omega
    have hq9 := runTo_len (D := D) (V := V) (Zs := Zs) hM len (fun j hj => (daysB_at hdy (show j < Zs.length by rw [hlen]; exact hj)).1)
    obtain ⟨Q, hQ⟩ : ∃ Q, runTo D M V Zs n len = Q := ⟨_, rfl⟩
    have hr : runR D M V n Zs = ⟨n, D, Q.M, V, Q.G, Q.S, true⟩ := by unfold runR; rw [hrb, hdy, decide_eq_true h64, hlen, hQ]; rfl
    have hv : shoR D M V n Zs = ((List.range n).map fun q => shoV Q.G V q len, true) := by unfold shoR; rw [hrb, hdy, decide_eq_true h64, hlen, hQ]; rfl
    rw [hQ] at hq9
    obtain ⟨hq1, hq2, hq3, hq4⟩ := hq9
    rw [hr] at HRo
    rw [hv]
    have H2 := Lib.hid h2
    have HVl := Lib.hid hV
    have hl64 : len ≤ 64 := by omega
    have HQ2 := Lib.hid hq2
    have HQ3 := Lib.hid hq3
    have HQ4 := Lib.hid hq4
    clear hv hr hQ h0 h1 h2 hD hM hV h hlen hrl hrb hdy h9 hq1 hq2 hq3 hq4
    go_enter Try.func33, Try.ntmps33
    go_upto_region 1 with fail
    (try rw [hW1])
    clear hW1
    have x0 := HX1.out.c 0 rfl
    have x1 := HX1.out.c 1 rfl
    have x2 := HX1.out.c 2 rfl
    go_wp2_with fail
    refine (HRo.out W1 HB1.out).mono ?_
    rintro e w2 ⟨lo, hi, L, p0, p1, p2, q0, q1, q2, x1, x2, x3, x4, y2, u2, ga, za, gc, zc, rfl, hb, hrv, hlo, hss, hzz, z1, z2, z3, z4, z5, z6, z7, z8⟩
    clear x0
    simp only at hss
    have HB2 : Hid (Below w.heap.size w w2) := Lib.hid (HB1.out.trans (hb.mono HB1.out.size))
    have HX2 := Lib.hid (HX1.out.below hb HX1.out.1)
    have hrg := hss.row
    clear hb hrv hlo hss hzz z1 z2 z3 z4 z5 z6 z7 z8 HX1 HB1 HRo
    go_upto_region 2 with fail
    (try rw [HQ2.out]); (try rw [HQ3.out])
    generalize hW3 : World.alloc w2 _ = W3
    have hb3 : Below w2.heap.size w2 W3 := by rw [← hW3]; exact below1 w2 _
    have HT3 : Hid (Bx W3 w2.heap.size [.slice p0 D.length q0, .slice p1 n q1, .slice p2 V.length q2, .slice ga len gc, .slice za len zc, .bool true]) := Lib.hid (by rw [← hW3]; first | exact Bx.new w2 [.slice p0 D.length q0, .slice p1 n q1, .slice p2 V.length q2, .slice ga len gc, .slice za len zc, .bool true] _ | (have h9 := Bx.new w2 [.slice p0 D.length q0, .slice p1 n q1, .slice p2 V.length q2, .slice ga len gc, .slice za len zc, .bool true] 86; exact h9))
    have HX3 := Lib.hid (HX2.out.below hb3 HX2.out.1)
    have HB3 : Hid (Below w.heap.size w W3) := Lib.hid (HB2.out.trans (hb3.mono HB2.out.size))
    have HRG := Lib.hid (hrg.below hb3 (Nat.le_refl _))
    clear hW3 hb3 hrg HX2 HB2
    obtain ⟨bv, ov, rfl, hbv, hcv⟩ := (H2.out.below HB3.out (Nat.le_refl _)).cells (fun e => by have h9 := HVl.out; rw [e, List.length_nil] at h9; omega)
    have Hcv := Lib.hid hcv
    clear hcv
    have x2_ := HX3.out.c 2 rfl
    have t5 := HT3.out.c 5 rfl
    have t3 := HT3.out.c 3 rfl
    have hmm : n ≤ 1048576 := by omega
    go_wp2_with (at_make; refine makeZ rfl rfl _ _ rfl .i64 .i64 _ _ n rfl rfl rfl rfl hmm (lo := w.heap.size) HB3.out.size ?_)
    intro w4 hrow hgr
    have hb4 : Below W3.heap.size W3 w4 := below_made (Below.refl _ _) hgr (Nat.le_refl _)
    obtain ⟨g, hg⟩ : ∃ g, W3.heap.size = g := ⟨_, rfl⟩
    rw [hg] at hrow ⊢
    have HO4 : Hid (w4.ownsRow w.heap.size 2 1 (.slice (some ⟨g, 0, none⟩) n n) n (ic (shoW Q.G V n 0 0))) := Lib.hid (by unfold ic; rw [shoW_zero, List.map_replicate]; exact hrow)
    have HW4 : Hid (Below g W3 w4) := Lib.hid (by rw [← hg]; exact hb4)
    have y3 : w4.cell? ⟨w2.heap.size, 3, none⟩ = some (.slice ga len gc) := (hb4.cell (p := ⟨w2.heap.size, 3, none⟩) HT3.out.1).trans t3
    have Hg := Lib.hid hg
    clear hrow hgr hb4 hg t3 t5 x2_
    go_wp2_with fail
    go_loopw [25] (fun iv wr => ∃ k : Nat, k ≤ len ∧ iv = .int .i64 (k : Int) ∧ Hid (wr.ownsRow w.heap.size 2 1 (.slice (some ⟨g, 0, none⟩) n n) n (ic (shoW Q.G V n k 0))) ∧ Hid (Below g W3 wr)) (fun iv _ => len - (intOf iv).toNat)
    case atStart => exact ⟨0, Nat.zero_le _, rfl, HO4, HW4⟩
    case round =>
    clear HO4 HW4 y3
    obtain ⟨k, hk, rfl, HO, HW⟩ := hrel
    have hk0 : (0 : Int) ≤ (k : Int) := by omega
    by_cases hlt : k < len
    · have hk1 : (k : Int) < (len : Int) := by omega
      obtain ⟨b2, o2, rfl, hb2, hcb2⟩ : ∃ b off, ga = some ⟨b, off, none⟩ ∧ b < W3.heap.size ∧ ∀ k, k < Q.G.length → ∃ ak ck, W3.cell? ⟨b, off + k, none⟩ = some (.slice ak (zr Q.G k).length ck) ∧ RowC W3 ak (ic (zr Q.G k)) := by
        rcases HRG.out with h9 | h9
        · have h8 := HQ2.out; rw [h9, List.length_nil] at h8; omega
        · exact h9
      obtain ⟨ek, dk, hcel2, hrow2⟩ := hcb2 k (by rw [HQ2.out]; exact hlt)
      have hgl := HQ4.out k hlt
      rw [hgl] at hcel2
      obtain ⟨bj, oj, rfl, hbj, hcj⟩ := hrow2.cells (fun e => by rw [e, List.length_nil] at hgl; omega)
      have Hcj := Lib.hid hcj
      have HGl := Lib.hid hgl
      have y1 : wr.cell? ⟨b2, o2 + k, none⟩ = some (.slice (some ⟨bj, oj, none⟩) n dk) := (HW.out.cell (p := ⟨b2, o2 + k, none⟩) (by rw [← Hg.out]; exact hb2)).trans hcel2
      clear hcb2 hrow2 hcj hgl hcel2 hb2
      go_wp2_with fail
      go_loopw [31] (fun iv wr2 => ∃ i : Nat, i ≤ n ∧ iv = .int .i64 (i : Int) ∧ Hid (wr2.ownsRow w.heap.size 2 1 (.slice (some ⟨g, 0, none⟩) n n) n (ic (shoW Q.G V n k i))) ∧ Hid (Below g W3 wr2)) (fun iv _ => n - (intOf iv).toNat)
      case atStart => exact ⟨0, Nat.zero_le _, rfl, HO, HW⟩
      case round =>
      clear HO HW y1
      obtain ⟨i, hi, rfl, HO, HW⟩ := hrel
      have hi0 : (0 : Int) ≤ (i : Int) := by omega
      by_cases hli : i < n
      · have hi1 : (i : Int) < (n : Int) := by omega
        have cx : wr.cell? ⟨bj, oj + i, none⟩ = some (.int .i64 ((zr Q.G k).getD i 0)) := (HW.out.cell (p := ⟨bj, oj + i, none⟩) (by rw [← Hg.out]; exact hbj)).trans (Hcj.out i (by rw [HGl.out]; exact hli))
        have cv : wr.cell? ⟨bv, ov + i, none⟩ = some (.int .i64 (V.getD i 0)) := (HW.out.cell (p := ⟨bv, ov + i, none⟩) (by rw [← Hg.out]; exact hbv)).trans (Hcv.out i (by rw [HVl.out]; exact hli))
        have xr : wr.cell? ⟨w.heap.size, 2, none⟩ = some (.slice (some ⟨bv, ov, none⟩) n c2) := (HW.out.cell (p := ⟨w.heap.size, 2, none⟩) (by rw [← Hg.out]; exact HX3.out.1)).trans (HX3.out.c 2 rfl)
        have co := HO.out.cellAt i (by omega)
        rw [ic_at (by rw [shoW_length]; exact hli), shoW_get hli] at co
        have fo := HO.out.frozenAt i
        have hss : shoV Q.G V i (k + 1) = if (zr Q.G k).getD i 0 < V.getD i 0 then shoV Q.G V i k + 1 else shoV Q.G V i k := rfl
        have hsi := shoV_in Q.G V i k
        have hset := shoW_set (G := Q.G) (V := V) (k := k) hli
        obtain ⟨x, hx⟩ : ∃ x, (zr Q.G k).getD i 0 = x := ⟨_, rfl⟩
        obtain ⟨v, hv⟩ : ∃ x, V.getD i 0 = x := ⟨_, rfl⟩
        obtain ⟨s, hs⟩ : ∃ s, shoV Q.G V i k = s := ⟨_, rfl⟩
        rw [hx] at cx hss
        rw [hv] at cv hss
        rw [hs] at hsi hss co
        obtain ⟨hs0, hs1⟩ := hsi
        have Hs := Lib.hid hs
        clear hx hv hs
        by_cases hd : x < v
        · rw [if_pos hd] at hss
          rw [hss] at hset
          have hst := (HO.out.stored i (.int .i64 (s + 1))).1
          rw [← ic_set, hset] at hst
          have Hst := Lib.hid hst
          clear hst hset hss
          go_wp2_with fail
          go_roundw
          case rel => exact ⟨i + 1, by omega, by go_num, Hst, Lib.hid (HW.out.setCell (by show g ≤ g; exact Nat.le_refl _) _)⟩
          case measure => simp [intOf]; omega
        · rw [if_neg hd] at hss
          have Hsm : Hid (shoW Q.G V n k (i + 1) = shoW Q.G V n k i) := Lib.hid (shoW_same hli (hss.trans Hs.out.symm))
          clear hset hss
          go_wp2_with fail
          go_roundw
          case rel => exact ⟨i + 1, by omega, by go_num, Lib.hid (by rw [Hsm.out]; exact HO.out), HW⟩
          case measure => simp [intOf]; omega
      · obtain rfl : n = i := by omega
        have ho := HO.out
        rw [shoW_next] at ho
        have Ho := Lib.hid ho
        clear ho HO
        go_wp2_with fail
        go_roundw
        case rel => exact ⟨k + 1, by omega, by go_num, Ho, HW⟩
        case measure => simp [intOf]; omega
    · obtain rfl : len = k := by omega
      have ho := HO.out
      rw [shoW_at] at ho
      have Ho := Lib.hid ho
      clear ho HO
      have hwb : Below W3.heap.size W3 wr := by rw [Hg.out]; exact HW.out
      go_wp2_with fail
      exact bodyPost_ret (v := .tuple #[.slice (some ⟨g, 0, none⟩) n n, .bool true]) (by first | (simp [results, Try.results33, go_sem, *]; done) | (simp (maxDischargeDepth := 12) [results, Try.results33, go_sem, *]; done) | (simp (maxDischargeDepth := 12) [results, Try.results33, go_sem, *]; rfl)) rfl (ListZB.yes Ho.out (Nat.le_refl _) (HB3.out.trans (hwb.mono HB3.out.size)))

end Go.Proofs.Ytckmacnmmloemaa
