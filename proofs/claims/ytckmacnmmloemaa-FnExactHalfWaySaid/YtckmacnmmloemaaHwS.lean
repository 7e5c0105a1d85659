/- When half of all inflows have come: the model. -/
import Derived.Test.YtckmacnmmloemaaHwV
import Derived.Test.YtckmacnmmloemaaRvQ
import Derived.Test.YtckmacnmmloemaaOutR
namespace Go.Proofs.Ytckmacnmmloemaa
open Go.RowKit
set_option linter.unusedVariables false
set_option linter.unusedSimpArgs false
set_option maxRecDepth 100000
attribute [local irreducible] wpV wpList Code.wp

set_option maxHeartbeats 16000000 in
theorem halfWay_s (a : Option Addr) (len cap : Nat) (Zs : List (List Int)) (w : World) (h : RowSS w a Zs) (hlen : Zs.length = len) (hl : len ≤ 1048576) (hrl : ∀ k, k < len → (zr Zs k).length ≤ 1048576) :
    Calls Try.prog 40 #[.slice a len cap] w (ListZB (halfR Zs) w) := by
  obtain ⟨R, hR⟩ : ∃ R, halfR Zs = R := ⟨_, rfl⟩
  rw [hR]
  have HR := Lib.hid hR
  clear hR
  have H := Lib.hid h
  have Hlen := Lib.hid hlen
  have Hrl := Lib.hid hrl
  clear h hlen hrl
  by_cases h1 : len < 1
  · have h1i : (len : Int) < 1 := by omega
    go_enter Try.func40, Try.ntmps40
    have hv : R = ([], false) := by rw [← HR.out]; unfold halfR; rw [Hlen.out, decide_eq_false (show ¬ 1 ≤ len by omega)]; rfl
    have HV := Lib.hid hv
    clear hv
    go_wp2_with fail
    rw [HV.out]
    exact bodyPost_ret (v := .tuple #[.slice none 0 0, .bool false]) (by first | (simp [results, Try.results40, go_sem]; done) | (simp (maxDischargeDepth := 12) [results, Try.results40, go_sem]; done) | (simp (maxDischargeDepth := 12) [results, Try.results40, go_sem]; rfl)) rfl (ListZB.no (Below.refl _ _))
  have h1i : ¬ (len : Int) < 1 := by omega
  by_cases h64 : 64 < len
  · have h64i : (64 : Int) < (len : Int) := by omega
    go_enter Try.func40, Try.ntmps40
    have hv : R = ([], false) := by rw [← HR.out]; unfold halfR; rw [Hlen.out, decide_eq_false (show ¬ len ≤ 64 by omega), Bool.and_false]; rfl
    have HV := Lib.hid hv
    clear hv
    go_wp2_with fail
    rw [HV.out]
    exact bodyPost_ret (v := .tuple #[.slice none 0 0, .bool false]) (by first | (simp [results, Try.results40, go_sem]; done) | (simp (maxDischargeDepth := 12) [results, Try.results40, go_sem]; done) | (simp (maxDischargeDepth := 12) [results, Try.results40, go_sem]; rfl)) rfl (ListZB.no (Below.refl _ _))
  have h64i : ¬ (64 : Int) < (len : Int) := by omega
  obtain ⟨b, off, rfl, hb, hc⟩ : ∃ b off, a = some ⟨b, off, none⟩ ∧ b < w.heap.size ∧ ∀ k, k < Zs.length → ∃ ak ck, w.cell? ⟨b, off + k, none⟩ = some (.slice ak (zr Zs k).length ck) ∧ RowC w ak (ic (zr Zs k)) := by
    rcases H.out with h9 | h9
    · have h8 := Hlen.out; rw [h9, List.length_nil] at h8; omega
    · exact h9
  obtain ⟨a0, k0, hc0, hr0⟩ := hc 0 (by rw [Hlen.out]; omega)
  have hn0 := Hrl.out 0 (by omega)
  obtain ⟨n, hn⟩ : ∃ n, (zr Zs 0).length = n := ⟨_, rfl⟩
  rw [hn] at hc0 hn0
  have HN := Lib.hid hn
  have HC := Lib.hid hc
  rw [Nat.add_zero] at hc0
  clear hc hn hr0
  have hl1 : (0 : Int) < (len : Int) := by omega
  by_cases hn1 : n < 1
  · have hn1i : (n : Int) < 1 := by omega
    go_enter Try.func40, Try.ntmps40
    have hv : R = ([], false) := by rw [← HR.out]; unfold halfR; rw [HN.out, decide_eq_false (show ¬ 1 ≤ n by omega)]; simp
    have HV := Lib.hid hv
    clear hv
    go_wp2_with fail
    rw [HV.out]
    exact bodyPost_ret (v := .tuple #[.slice none 0 0, .bool false]) (by first | (simp [results, Try.results40, go_sem]; done) | (simp (maxDischargeDepth := 12) [results, Try.results40, go_sem]; done) | (simp (maxDischargeDepth := 12) [results, Try.results40, go_sem]; rfl)) rfl (ListZB.no (Below.refl _ _))
  have hn1i : ¬ (n : Int) < 1 := by omega
  by_cases hn12 : 12 < n
  · have hn12i : (12 : Int) < (n : Int) := by omega
    go_enter Try.func40, Try.ntmps40
    have hv : R = ([], false) := by rw [← HR.out]; unfold halfR; rw [HN.out, decide_eq_false (show ¬ n ≤ 12 by omega)]; simp
    have HV := Lib.hid hv
    clear hv
    go_wp2_with fail
    rw [HV.out]
    exact bodyPost_ret (v := .tuple #[.slice none 0 0, .bool false]) (by first | (simp [results, Try.results40, go_sem]; done) | (simp (maxDischargeDepth := 12) [results, Try.results40, go_sem]; done) | (simp (maxDischargeDepth := 12) [results, Try.results40, go_sem]; rfl)) rfl (ListZB.no (Below.refl _ _))
  have hn12i : ¬ (12 : Int) < (n : Int) := by omega
  obtain ⟨bb, hbb⟩ : ∃ b, daysB Zs n = b := ⟨_, rfl⟩
  have HDy := Lib.hid (l06Days_any (some ⟨b, off, none⟩) len cap n Zs w H.out Hlen.out Hrl.out hl hn0)
  rw [hbb, decide_eq_true (show len ≤ 64 by omega), Bool.true_and] at HDy
  have HBB := Lib.hid hbb
  clear hbb
  go_enter Try.func40, Try.ntmps40
  go_wp2_with fail
  refine HDy.out.mono ?_
  rintro e w1 ⟨rfl, rfl⟩
  clear HDy hc0
  cases bb
  · have hv : R = ([], false) := by rw [← HR.out]; unfold halfR; rw [HN.out, HBB.out]; simp
    have HV := Lib.hid hv
    clear hv
    go_wp2_with fail
    rw [HV.out]
    exact bodyPost_ret (v := .tuple #[.slice none 0 0, .bool false]) (by first | (simp [results, Try.results40, go_sem]; done) | (simp (maxDischargeDepth := 12) [results, Try.results40, go_sem]; done) | (simp (maxDischargeDepth := 12) [results, Try.results40, go_sem]; rfl)) rfl (ListZB.no (Below.refl _ _))
  · have hv : R = ((List.range n).map (halfV Zs), true) := by rw [← HR.out]; unfold halfR; rw [HN.out, HBB.out, Hlen.out, decide_eq_true (show 1 ≤ len by omega), decide_eq_true (show len ≤ 64 by omega), decide_eq_true (show 1 ≤ n by omega), decide_eq_true (show n ≤ 12 by omega)]; rfl
    have HV := Lib.hid hv
    clear hv
    obtain ⟨B, hB⟩ : ∃ B, w1.heap.size = B := ⟨_, rfl⟩
    have HB := Lib.hid hB
    clear hB
    have hO9 : (w1.alloc (.cells #[] 2)).ownsRow B 2 1 (.slice (some ⟨w1.heap.size, 0, none⟩) 0 0) 0 (ic ((List.range 0).map (halfV Zs))) := World.ownsRow_lit w1 #[] 0 (Nat.le_of_eq HB.out.symm) (by decide) rfl
    have HO9 := Lib.hid hO9
    have HW9 : Hid (Below B w1 (w1.alloc (.cells #[] 2))) := Lib.hid (by rw [← HB.out]; exact bel1 _ _)
    clear hO9
    go_wp2_with fail
    go_loopw [5, 6] (fun ov iv wr => ∃ i : Nat, ∃ a c, i ≤ n ∧ iv = .int .i64 (i : Int) ∧ ov = .slice a i c ∧ Hid (wr.ownsRow B 2 1 (.slice a i c) i (ic ((List.range i).map (halfV Zs)))) ∧ Hid (Below B w1 wr)) (fun _ iv _ => n - (intOf iv).toNat)
    case atStart => exact ⟨0, _, 0, Nat.zero_le _, rfl, rfl, HO9, HW9⟩
    case round =>
    clear HO9 HW9
    obtain ⟨i, ga, gc, hi, rfl, rfl, HO, HW⟩ := hrel
    have hi0 : (0 : Int) ≤ (i : Int) := by omega
    by_cases hli : i < n
    · have hi1 : (i : Int) < (n : Int) := by omega
      have hb2 : b < B := by rw [← HB.out]; exact hb
      go_wp2_with fail
      go_loopw [7, 8] (fun cv kv wr2 => ∃ k : Nat, k ≤ len ∧ kv = .int .i64 (k : Int) ∧ cv = .int .i64 (colS Zs i k) ∧ wr2 = wr) (fun _ kv _ => len - (intOf kv).toNat)
      case atStart => exact ⟨0, Nat.zero_le _, rfl, rfl, rfl⟩
      case round =>
      obtain ⟨k, hk, rfl, rfl, rfl⟩ := hrel
      have hk0 : (0 : Int) ≤ (k : Int) := by omega
      by_cases hlk : k < len
      · have hk1 : (k : Int) < (len : Int) := by omega
        obtain ⟨ak, ck, hcell, hrow⟩ := HC.out k (by rw [Hlen.out]; exact hlk)
        have hdz := daysB_at HBB.out (show k < Zs.length by rw [Hlen.out]; exact hlk)
        obtain ⟨hdl, hdr⟩ := hdz
        have hrg := hdr i hli
        obtain ⟨bk, ok, rfl, hbk, hck⟩ := hrow.cells (fun e => by rw [e, List.length_nil] at hdl; omega)
        have cx := hck i (by rw [hdl]; exact hli)
        rw [hdl] at hcell
        have cy : wr.cell? ⟨b, off + k, none⟩ = some (.slice (some ⟨bk, ok, none⟩) n ck) := by rw [HW.out.cell (p := ⟨b, off + k, none⟩) hb2]; exact hcell
        have cz : wr.cell? ⟨bk, ok + i, none⟩ = some (.int .i64 ((zr Zs k).getD i 0)) := by rw [HW.out.cell (p := ⟨bk, ok + i, none⟩) (by rw [← HB.out]; exact hbk)]; exact cx
        have hsc : colS Zs i (k + 1) = colS Zs i k + (zr Zs k).getD i 0 := rfl
        have hcr := colS_range HBB.out hli k (by rw [Hlen.out]; omega)
        have hcr1 := colS_range HBB.out hli (k + 1) (by rw [Hlen.out]; omega)
        obtain ⟨x, hx⟩ : ∃ x, (zr Zs k).getD i 0 = x := ⟨_, rfl⟩
        obtain ⟨s, hs⟩ : ∃ s, colS Zs i k = s := ⟨_, rfl⟩
        rw [hx] at cz hrg hsc
        rw [hs] at hsc hcr
        rw [hsc] at hcr1
        have Hs := Lib.hid hs
        have Hsc := Lib.hid hsc
        clear hcell hrow hdl hdr hck cx hx hs hsc hbk
        rw [Hs.out]
        go_wp2_with fail
        go_roundw
        case rel => exact ⟨k + 1, by omega, by go_num, by rw [Hsc.out], by first | trivial | rfl⟩
        case measure => simp [intOf]; omega
      · obtain rfl : k = len := by omega
        obtain ⟨t, ht⟩ : ∃ t, colS Zs i k = t := ⟨_, rfl⟩
        have Ht : Hid (colS Zs i Zs.length = t) := Lib.hid (by rw [Hlen.out]; exact ht)
        have htr := colS_range HBB.out hli k (by rw [Hlen.out]; exact Nat.le_refl _)
        rw [ht] at htr
        rw [ht]
        clear ht
        go_wp2_with fail
        go_loopw [9, 10, 11] (fun sv dv kv wr3 => ∃ q : Nat, q ≤ k ∧ kv = .int .i64 (q : Int) ∧ sv = .int .i64 (colS Zs i q) ∧ dv = .int .i64 (fstB (halfP Zs i) q) ∧ wr3 = wr) (fun _ _ kv _ => k - (intOf kv).toNat)
        case atStart => exact ⟨0, Nat.zero_le _, rfl, rfl, rfl, rfl⟩
        case round =>
        obtain ⟨q, hq, rfl, rfl, rfl, rfl⟩ := hrel
        have hq0 : (0 : Int) ≤ (q : Int) := by omega
        by_cases hlq : q < k
        · have hq1 : (q : Int) < (k : Int) := by omega
          obtain ⟨ak, ck, hcell, hrow⟩ := HC.out q (by rw [Hlen.out]; exact hlq)
          have hdz := daysB_at HBB.out (show q < Zs.length by rw [Hlen.out]; exact hlq)
          obtain ⟨hdl, hdr⟩ := hdz
          have hrg := hdr i hli
          obtain ⟨bk, ok, rfl, hbk, hck⟩ := hrow.cells (fun e => by rw [e, List.length_nil] at hdl; omega)
          have cx := hck i (by rw [hdl]; exact hli)
          rw [hdl] at hcell
          have cy : wr.cell? ⟨b, off + q, none⟩ = some (.slice (some ⟨bk, ok, none⟩) n ck) := by rw [HW.out.cell (p := ⟨b, off + q, none⟩) hb2]; exact hcell
          have cz : wr.cell? ⟨bk, ok + i, none⟩ = some (.int .i64 ((zr Zs q).getD i 0)) := by rw [HW.out.cell (p := ⟨bk, ok + i, none⟩) (by rw [← HB.out]; exact hbk)]; exact cx
          have hsc : colS Zs i (q + 1) = colS Zs i q + (zr Zs q).getD i 0 := rfl
          have hcr := colS_range HBB.out hli q (by rw [Hlen.out]; omega)
          have hcr1 := colS_range HBB.out hli (q + 1) (by rw [Hlen.out]; omega)
          obtain ⟨x, hx⟩ : ∃ x, (zr Zs q).getD i 0 = x := ⟨_, rfl⟩
          obtain ⟨s, hs⟩ : ∃ s, colS Zs i q = s := ⟨_, rfl⟩
          rw [hx] at cz hrg hsc
          rw [hs] at hsc hcr
          rw [hsc] at hcr1
          have Hs := Lib.hid hs
          have Hsc := Lib.hid hsc
          clear hcell hrow hdl hdr hck cx hx hs hsc hbk
          have hpe : halfP Zs i q = decide (t ≤ 2 * (s + x)) := by unfold halfP; rw [Ht.out, Hsc.out]
          have Hpe := Lib.hid hpe
          clear hpe
          obtain ⟨d, hd⟩ : ∃ d, fstB (halfP Zs i) q = d := ⟨_, rfl⟩
          have hdg := fstB_ge (halfP Zs i) q
          rw [hd] at hdg
          have hnx : fstB (halfP Zs i) (q + 1) = if 0 ≤ d then d else if halfP Zs i q then (q : Int) else -1 := by rw [← hd]; rfl
          have Hnx := Lib.hid hnx
          rw [hd, Hs.out]
          clear hd hnx
          by_cases hd0 : d < 0
          · by_cases hp : t ≤ 2 * (s + x)
            · go_wp2_with fail
              go_roundw
              case rel => exact ⟨q + 1, by omega, by go_num, by rw [Hsc.out], by rw [Hnx.out]; rw [if_neg (by omega), Hpe.out, if_pos (decide_eq_true hp)], by first | trivial | rfl⟩
              case measure => simp [intOf]; omega
            · have hdm : d = -1 := by omega
              go_wp2_with fail
              go_roundw
              case rel => exact ⟨q + 1, by omega, by go_num, by rw [Hsc.out], by rw [Hnx.out]; rw [if_neg (by omega), Hpe.out, if_neg (by rw [decide_eq_false hp]; decide), hdm], by first | trivial | rfl⟩
              case measure => simp [intOf]; omega
          · go_wp2_with fail
            go_roundw
            case rel => exact ⟨q + 1, by omega, by go_num, by rw [Hsc.out], by rw [Hnx.out]; rw [if_pos (by omega)], by first | trivial | rfl⟩
            case measure => simp [intOf]; omega
        · obtain rfl : q = k := by omega
          have hhv : fstB (halfP Zs i) q = halfV Zs i := by unfold halfV; rw [Hlen.out]
          rw [hhv]
          clear hhv
          obtain ⟨z, hz⟩ : ∃ z, halfV Zs i = z := ⟨_, rfl⟩
          rw [hz]
          have Hz := Lib.hid hz
          clear hz
          have Hsz : Hid (B ≤ wr.heap.size) := Lib.hid (by rw [← HB.out]; exact HW.out.size)
          have HOa := Lib.hid (HO.out.alloc (.cells #[.int .i64 z] 2))
          have HWa : Hid (Below B w1 (wr.alloc (.cells #[.int .i64 z] 2))) := Lib.hid (HW.out.alloc Hsz.out _)
          have Hcell := Lib.hid (show (wr.alloc (.cells #[.int .i64 z] 2)).cell? ⟨wr.heap.size, 0, none⟩ = some (.int .i64 z) by simp [go_sem])
          have Hlo := Lib.hid (show B ≤ (wr.alloc (.cells #[.int .i64 z] 2)).heap.size by have h9 := Hsz.out; simp; omega)
          have hkl : i ≤ 1048576 := by omega
          go_wp2_with (at_builtin; refine pushZ rfl rfl _ _ rfl rfl HOa.out wr.heap.size _ z rfl Hcell.out hkl Hlo.out ?_)
          intro gn cn w4 hrow hgrow hgn hgl
          have HO4 : Hid (w4.ownsRow B 2 1 (.slice (some ⟨gn, 0, none⟩) (i + 1) cn) (i + 1) (ic ((List.range (i + 1)).map (halfV Zs)))) := Lib.hid (by rw [List.range_succ, List.map_append, List.map_cons, List.map_nil, Hz.out]; exact hrow)
          have HW4 : Hid (Below B w1 w4) := Lib.hid (HWa.out.grown hgrow (by have h9 := Hsz.out; simp; omega) (fun j hj => (HO.out.lt j hj).1))
          clear hrow hgrow hgn hgl HO HOa HW HWa Hcell Hlo
          go_wp2_with fail
          go_roundw
          case rel => exact ⟨i + 1, _, cn, by omega, by go_num, rfl, HO4, HW4⟩
          case measure => simp [intOf]; omega
    · obtain rfl : i = n := by omega
      go_wp2_with fail
      rw [HV.out]
      exact bodyPost_ret (v := .tuple #[.slice ga i gc, .bool true]) (by first | (simp [results, Try.results40, go_sem, *]; done) | (simp (maxDischargeDepth := 12) [results, Try.results40, go_sem, *]; done) | (simp (maxDischargeDepth := 12) [results, Try.results40, go_sem, *]; rfl)) rfl (ListZB.yes HO.out (by rw [HB.out]; exact Nat.le_refl _) (by rw [HB.out]; exact HW.out))

end Go.Proofs.Ytckmacnmmloemaa
