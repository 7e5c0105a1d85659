/- LedgerOf: the model. -/
import Derived.Test.YtckmacnmmloemaaLedV
import Derived.Test.YtckmacnmmloemaaRunDS
namespace Go.Proofs.Ytckmacnmmloemaa
open Go.RowKit
set_option linter.unusedVariables false
set_option linter.unusedSimpArgs false
set_option maxRecDepth 100000
attribute [local irreducible] wpV wpList Code.wp

set_option maxHeartbeats 16000000 in
theorem ledgerOf_s (a0 a1 a2 sa : Option Addr) (l0 n l2 c0 c1 c2 len sc : Nat) (D M V : List Int) (Zs : List (List Int)) (w : World) (h0 : RowC w a0 (ic D)) (h1 : RowC w a1 (ic M)) (h2 : RowC w a2 (ic V)) (hD : D.length = l0) (hM : M.length = n * 4) (hV : V.length = l2) (hl : l0 ≤ 1048576 ∧ n ≤ 1048576 ∧ l2 ≤ 1048576) (h : RowSS w sa Zs) (hlen : Zs.length = len) (hrl : ∀ k, k < len → (zr Zs k).length ≤ 1048576) (hll : len ≤ 1048576) :
    Calls Try.prog 30 #[.agg #[.slice a0 l0 c0, .slice a1 n c1, .slice a2 l2 c2], .slice sa len sc] w (LedP (ledR D M V n Zs) w) := by
  have HRd : Hid (∀ W : World, Below w.heap.size w W → Calls Try.prog 24 #[.agg #[.slice a0 l0 c0, .slice a1 n c1, .slice a2 l2 c2], .slice sa len sc] W (RunTs (runR D M V n Zs) W)) := Lib.hid fun W hW => runDays_s a0 a1 a2 sa l0 n l2 c0 c1 c2 len sc D M V Zs W (h0.below hW (Nat.le_refl _)) (h1.below hW (Nat.le_refl _)) (h2.below hW (Nat.le_refl _)) hD hM hV hl (h.below hW (Nat.le_refl _)) hlen hrl hll
  have hbx := Bx.new w [.slice a0 l0 c0, .slice a1 n c1, .slice a2 l2 c2] 29
  have hbl := bel1 w (.cells #[.slice a0 l0 c0, .slice a1 n c1, .slice a2 l2 c2] 29)
  obtain ⟨W1, hW1⟩ : ∃ W, w.alloc (.cells #[.slice a0 l0 c0, .slice a1 n c1, .slice a2 l2 c2] 29) = W := ⟨_, rfl⟩
  have HX1 : Hid (Bx W1 w.heap.size [.slice a0 l0 c0, .slice a1 n c1, .slice a2 l2 c2]) := Lib.hid (by rw [← hW1]; exact hbx)
  have HB1 : Hid (Below w.heap.size w W1) := Lib.hid (by rw [← hW1]; exact hbl)
  clear hbx hbl
  obtain ⟨cnd, hcnd⟩ : ∃ b, (rivB D M V n && decide (Zs.length ≤ 64) && daysB Zs n) = b := ⟨_, rfl⟩
  cases cnd
  · have hv : ledR D M V n Zs = ⟨0, 0, 0, 0, false⟩ := by unfold ledR; rw [hcnd]; rfl
    have hr : runR D M V n Zs = failN := by unfold runR; rw [hcnd]; rfl
    rw [hr] at HRd
    rw [hv]
    clear hv hr hcnd h0 h1 h2 hD hM hV h hlen hrl
    go_enter Try.func30, Try.ntmps30
    go_upto_region 1 with fail
    (try rw [hW1])
    clear hW1
    have x0 := HX1.out.c 0 rfl
    have x1 := HX1.out.c 1 rfl
    have x2 := HX1.out.c 2 rfl
    go_wp2_with fail
    refine (HRd.out W1 HB1.out).mono ?_
    rintro e w2 ⟨lo, hi, L, p0, p1, p2, q0, q1, q2, x1, x2, x3, x4, y2, u2, ga, za, gc, zc, rfl, hb, hrv, hlo, hss, hzz, z1, z2, z3⟩
    clear x0
    have HB2 : Hid (Below w.heap.size w w2) := Lib.hid (HB1.out.trans (hb.mono HB1.out.size))
    clear hb hrv hlo hss hzz z1 z2 z3
    go_upto_region 2 with fail
    generalize hW3 : World.alloc w2 _ = W3
    have HB3 : Hid (Below w.heap.size w W3) := Lib.hid (by rw [← hW3]; exact HB2.out.alloc HB2.out.size _)
    clear hW3
    go_wp2_with fail
    exact bodyPost_ret (v := .tuple #[.int .i64 0, .int .i64 0, .int .i64 0, .int .i64 0, .bool false]) (by first | (simp [results, Try.results30, go_sem]; done) | (simp (maxDischargeDepth := 12) [results, Try.results30, go_sem]; done) | (simp (maxDischargeDepth := 12) [results, Try.results30, go_sem]; rfl)) rfl ⟨rfl, HB3.out⟩
  · rw [Bool.and_eq_true, Bool.and_eq_true, decide_eq_true_eq] at hcnd
    obtain ⟨⟨hrb, h64⟩, hdy⟩ := hcnd
    have HBB := Lib.hid hrb
    have HDY := Lib.hid hdy
    have h9 := (rivB_true hrb).1
    have h0n : l0 = n := by rw [← hD]; omega
    have h2n : l2 = n := by rw [← hV]; omega
    obtain rfl : n = l0 := h0n.symm
    obtain rfl : n = l2 := h2n.symm
    have h12 : n ≤ 12 := by omega
    have hn1 : 0 < n := by omega
    have hq9 := runTo_len (D := D) (V := V) (Zs := Zs) hM len (fun j hj => (daysB_at hdy (show j < Zs.length by rw [hlen]; exact hj)).1)
    obtain ⟨Q, hQ⟩ : ∃ Q, runTo D M V Zs n len = Q := ⟨_, rfl⟩
    have hr : runR D M V n Zs = ⟨n, D, Q.M, V, Q.G, Q.S, true⟩ := by unfold runR; rw [hrb, hdy, decide_eq_true h64, hlen, hQ]; rfl
    have hv : ledR D M V n Zs = ledV M Zs n Q := by unfold ledR; rw [hrb, hdy, decide_eq_true h64, hlen, hQ]; rfl
    rw [hQ] at hq9
    obtain ⟨hq1, hq2, hq3, hq4⟩ := hq9
    rw [hr] at HRd
    rw [hv]
    have H1 := Lib.hid h1
    have H := Lib.hid h
    have Hlen := Lib.hid hlen
    have HM := Lib.hid hM
    have HQ1 := Lib.hid hq1
    have HQ2 := Lib.hid hq2
    have HQ3 := Lib.hid hq3
    have HQ4 := Lib.hid hq4
    clear hv hr hQ h0 h1 h2 hD hM hV h hlen hrl hrb hdy h9 hq1 hq2 hq3 hq4
    go_enter Try.func30, Try.ntmps30
    go_upto_region 1 with fail
    (try rw [hW1])
    clear hW1
    have x0 := HX1.out.c 0 rfl
    have x1 := HX1.out.c 1 rfl
    have x2 := HX1.out.c 2 rfl
    go_wp2_with fail
    refine (HRd.out W1 HB1.out).mono ?_
    rintro e w2 ⟨lo, hi, L, p0, p1, p2, q0, q1, q2, x1, x2, x3, x4, y2, u2, ga, za, gc, zc, rfl, hb, hrv, hlo, hss, hzz, z1, z2, z3⟩
    clear x0
    simp only at hrv hss hzz
    have HB2 : Hid (Below w.heap.size w w2) := Lib.hid (HB1.out.trans (hb.mono HB1.out.size))
    have HX2 := Lib.hid (HX1.out.below hb HX1.out.1)
    have hrm := hrv.r1.row
    have hrg := hss.row
    have hrz := hzz.row
    clear hb hrv hlo hss hzz z1 z2 z3 HX1 HB1 HRd
    go_upto_region 2 with fail
    generalize hW3 : World.alloc w2 _ = W3
    have hb3 : Below w2.heap.size w2 W3 := by rw [← hW3]; exact below1 w2 _
    have HT3 : Hid (Bx W3 w2.heap.size [.slice p0 D.length q0, .slice p1 n q1, .slice p2 V.length q2]) := Lib.hid (by rw [← hW3]; exact Bx.new w2 [.slice p0 D.length q0, .slice p1 n q1, .slice p2 V.length q2] _)
    have HX3 := Lib.hid (HX2.out.below hb3 HX2.out.1)
    have HB3 : Hid (Below w.heap.size w W3) := Lib.hid (HB2.out.trans (hb3.mono HB2.out.size))
    have HRM := Lib.hid (hrm.below hb3 (Nat.le_refl _))
    have HRG := Lib.hid (hrg.below hb3 (Nat.le_refl _))
    have HRZ := Lib.hid (hrz.below hb3 (Nat.le_refl _))
    have HRD := Lib.hid (H.out.below HB3.out (Nat.le_refl _))
    clear hW3 hb3 hrm hrg hrz HX2 HB2
    (try rw [HQ2.out]); (try rw [HQ3.out])
    go_wp2_with fail
    go_loopw [13, 14, 15, 16] (fun iv gv sv kv wr => ∃ k : Nat, k ≤ len ∧ kv = .int .i64 (k : Int) ∧ iv = .int .i64 (wrap64 (totS Zs k)) ∧ gv = .int .i64 (wrap64 (totS Q.G k)) ∧ sv = .int .i64 (wrap64 (rowS Q.S k)) ∧ W3 = wr) (fun _ _ _ kv _ => len - (intOf kv).toNat)
    case atStart => exact ⟨0, Nat.zero_le _, rfl, by show _ = Value.int .i64 (wrap64 0); rw [wr_zero], by show _ = Value.int .i64 (wrap64 0); rw [wr_zero], by show _ = Value.int .i64 (wrap64 0); rw [wr_zero], rfl⟩
    case round =>
    obtain ⟨k, hk, rfl, rfl, rfl, rfl, rfl⟩ := hrel
    have hk0 : (0 : Int) ≤ (k : Int) := by omega
    by_cases hlt : k < len
    · have hk1 : (k : Int) < (len : Int) := by omega
      obtain ⟨b, off, rfl, hb, hc⟩ : ∃ b off, sa = some ⟨b, off, none⟩ ∧ b < W3.heap.size ∧ ∀ k, k < Zs.length → ∃ ak ck, W3.cell? ⟨b, off + k, none⟩ = some (.slice ak (zr Zs k).length ck) ∧ RowC W3 ak (ic (zr Zs k)) := by
        rcases HRD.out with h9 | h9
        · have h8 := Hlen.out; rw [h9, List.length_nil] at h8; omega
        · exact h9
      obtain ⟨ak, ck, hcell, hrow⟩ := hc k (by rw [Hlen.out]; exact hlt)
      have hdl := (daysB_at HDY.out (show k < Zs.length by rw [Hlen.out]; exact hlt)).1
      rw [hdl] at hcell
      obtain ⟨bi, oi, rfl, hbi, hci⟩ := hrow.cells (fun e => by rw [e, List.length_nil] at hdl; omega)
      obtain ⟨b2, o2, rfl, hb2, hc2⟩ : ∃ b off, ga = some ⟨b, off, none⟩ ∧ b < W3.heap.size ∧ ∀ k, k < Q.G.length → ∃ ak ck, W3.cell? ⟨b, off + k, none⟩ = some (.slice ak (zr Q.G k).length ck) ∧ RowC W3 ak (ic (zr Q.G k)) := by
        rcases HRG.out with h9 | h9
        · have h8 := HQ2.out; rw [h9, List.length_nil] at h8; omega
        · exact h9
      obtain ⟨ek, dk, hcel2, hrow2⟩ := hc2 k (by rw [HQ2.out]; exact hlt)
      have hgl := HQ4.out k hlt
      rw [hgl] at hcel2
      obtain ⟨bj, oj, rfl, hbj, hcj⟩ := hrow2.cells (fun e => by rw [e, List.length_nil] at hgl; omega)
      obtain ⟨bz, oz, rfl, hbz, hcz⟩ := HRZ.out.cells (fun e => by have h9 := HQ3.out; rw [e, List.length_nil] at h9; omega)
      have cz := hcz k (by rw [HQ3.out]; exact hlt)
      have HCi := Lib.hid hci
      have HCj := Lib.hid hcj
      have HDl := Lib.hid hdl
      have HGl := Lib.hid hgl
      have ht1 : wrap64 (totS Zs (k + 1)) = wrap64 (totS Zs k + rowS (zr Zs k) n) := by show wrap64 (totS Zs k + rowS (zr Zs k) (zr Zs k).length) = _; rw [hdl]
      have ht2 : wrap64 (totS Q.G (k + 1)) = wrap64 (totS Q.G k + rowS (zr Q.G k) n) := by show wrap64 (totS Q.G k + rowS (zr Q.G k) (zr Q.G k).length) = _; rw [hgl]
      obtain ⟨z9, hz9⟩ : ∃ x, Q.S.getD k 0 = x := ⟨_, rfl⟩
      rw [hz9] at cz
      have ht3 : wrap64 (rowS Q.S (k + 1)) = wrap64 (wrap64 (rowS Q.S k) + z9) := by rw [wr_add, ← hz9]; rfl
      have Ht1 := Lib.hid ht1
      have Ht2 := Lib.hid ht2
      clear hc hrow hc2 hrow2 hcz hci hcj hdl hgl ht1 ht2 hz9 hb hbi hb2 hbj hbz
      obtain ⟨s3, hs3⟩ : ∃ s, wrap64 (rowS Q.S k) = s := ⟨_, rfl⟩
      rw [hs3] at ht3 ⊢
      obtain ⟨n3, hn3⟩ : ∃ y, wrap64 (s3 + z9) = y := ⟨_, rfl⟩
      have w7c := iw hn3
      rw [hn3] at ht3
      have Ht3 := Lib.hid ht3
      clear hs3 hn3 ht3
      go_wp2_with fail
      go_loopw [13, 14, 17] (fun iv gv qv wr => ∃ i : Nat, i ≤ n ∧ qv = .int .i64 (i : Int) ∧ iv = .int .i64 (wrap64 (totS Zs k + rowS (zr Zs k) i)) ∧ gv = .int .i64 (wrap64 (totS Q.G k + rowS (zr Q.G k) i)) ∧ W3 = wr) (fun _ _ qv _ => n - (intOf qv).toNat)
      case atStart => exact ⟨0, Nat.zero_le _, rfl, by show _ = Value.int .i64 (wrap64 (totS Zs k + 0)); rw [Int.add_zero], by show _ = Value.int .i64 (wrap64 (totS Q.G k + 0)); rw [Int.add_zero], rfl⟩
      case round =>
      obtain ⟨i, hi, rfl, rfl, rfl, rfl⟩ := hrel
      have hi0 : (0 : Int) ≤ (i : Int) := by omega
      by_cases hli : i < n
      · have hi1 : (i : Int) < (n : Int) := by omega
        have cx := HCi.out i (by rw [HDl.out]; exact hli)
        have cy := HCj.out i (by rw [HGl.out]; exact hli)
        obtain ⟨x, hx⟩ : ∃ x, (zr Zs k).getD i 0 = x := ⟨_, rfl⟩
        obtain ⟨y, hy⟩ : ∃ x, (zr Q.G k).getD i 0 = x := ⟨_, rfl⟩
        rw [hx] at cx
        rw [hy] at cy
        have ha : wrap64 (totS Zs k + rowS (zr Zs k) (i + 1)) = wrap64 (wrap64 (totS Zs k + rowS (zr Zs k) i) + x) := by rw [wr_add, ← hx, Int.add_assoc]; rfl
        have hb : wrap64 (totS Q.G k + rowS (zr Q.G k) (i + 1)) = wrap64 (wrap64 (totS Q.G k + rowS (zr Q.G k) i) + y) := by rw [wr_add, ← hy, Int.add_assoc]; rfl
        obtain ⟨s1, hs1⟩ : ∃ s, wrap64 (totS Zs k + rowS (zr Zs k) i) = s := ⟨_, rfl⟩
        obtain ⟨s2, hs2⟩ : ∃ s, wrap64 (totS Q.G k + rowS (zr Q.G k) i) = s := ⟨_, rfl⟩
        rw [hs1] at ha ⊢
        rw [hs2] at hb ⊢
        obtain ⟨n1, hn1_⟩ : ∃ y, wrap64 (s1 + x) = y := ⟨_, rfl⟩
        obtain ⟨n2, hn2_⟩ : ∃ z, wrap64 (s2 + y) = z := ⟨_, rfl⟩
        have w7a := iw hn1_
        have w7b := iw hn2_
        rw [hn1_] at ha
        rw [hn2_] at hb
        have Ha := Lib.hid ha
        have Hb := Lib.hid hb
        clear hx hy ha hb hs1 hs2 hn1_ hn2_
        go_wp2_with fail
        go_roundw
        case rel => exact ⟨i + 1, by omega, by go_num, by rw [Ha.out], by rw [Hb.out], by first | trivial | rfl⟩
        case measure => simp [intOf]; omega
      · obtain rfl : n = i := by omega
        rw [← Ht1.out, ← Ht2.out]
        go_wp2_with fail
        go_roundw
        case rel => exact ⟨k + 1, by omega, by go_num, rfl, rfl, by rw [Ht3.out], by first | trivial | rfl⟩
        case measure => simp [intOf]; omega
    · obtain rfl : len = k := by omega
      have um := HQ1.out
      obtain ⟨ub, uo, rfl, ul, uk⟩ := HRM.out.cells (fun e => by rw [e, List.length_nil] at um; omega)
      have vm := HM.out
      obtain ⟨vb, vo, rfl, vl, vk⟩ := (H1.out.below HB3.out (Nat.le_refl _)).cells (fun e => by rw [e, List.length_nil] at vm; omega)
      have HSa := Lib.hid (l06Stored_w w2.heap.size ub uo _ _ n q1 Q.M W3 HT3.out uk HQ1.out h12)
      have HSb := Lib.hid (l06Stored_w w.heap.size vb vo _ _ n c1 M W3 HX3.out vk HM.out h12)
      have hdf : (ledV M Zs n Q).d = wrap64 (wrap64 (nowS Q.M n) - wrap64 (nowS M n)) := rfl
      obtain ⟨sA, hsA⟩ : ∃ s, wrap64 (nowS Q.M n) = s := ⟨_, rfl⟩
      obtain ⟨sB, hsB⟩ : ∃ s, wrap64 (nowS M n) = s := ⟨_, rfl⟩
      rw [hsA] at HSa hdf
      rw [hsB] at HSb hdf
      obtain ⟨dd, hdd⟩ : ∃ s, wrap64 (sA - sB) = s := ⟨_, rfl⟩
      have w7d := iw hdd
      rw [hdd] at hdf
      have Hdf := Lib.hid hdf
      clear um ul uk vm vl vk hdf hsA hsB hdd
      go_wp2_with fail
      refine HSa.out.mono ?_
      rintro e w9 ⟨rfl, rfl⟩
      go_wp2_with fail
      refine HSb.out.mono ?_
      rintro e w9 ⟨rfl, rfl⟩
      go_wp2_with fail
      refine bodyPost_ret (v := .tuple #[.int .i64 (wrap64 (totS Zs len)), .int .i64 (wrap64 (totS Q.G len)), .int .i64 (wrap64 (rowS Q.S len)), .int .i64 dd, .bool true]) (by first | (simp [results, Try.results30, go_sem, *]; done) | (simp (maxDischargeDepth := 12) [results, Try.results30, go_sem, *]; done) | (simp (maxDischargeDepth := 12) [results, Try.results30, go_sem, *]; rfl)) rfl ⟨?_, HB3.out⟩
      rw [Hdf.out]
      show _ = Ending.returned (.tuple #[.int .i64 (wrap64 (totS Zs Zs.length)), .int .i64 (wrap64 (totS Q.G Zs.length)), .int .i64 (wrap64 (rowS Q.S Zs.length)), .int .i64 dd, .bool true])
      rw [Hlen.out]

end Go.Proofs.Ytckmacnmmloemaa
