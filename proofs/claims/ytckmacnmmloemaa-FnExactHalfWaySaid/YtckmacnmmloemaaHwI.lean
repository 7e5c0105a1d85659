/- When half of all inflows have come: the program. -/
import Derived.Test.YtckmacnmmloemaaHwV
import Derived.Test.YtckmacnmmloemaaRvQ
import Derived.Test.YtckmacnmmloemaaAllS
import Derived.Test.YtckmacnmmloemaaRegMk
import Derived.Test.YtckmacnmmloemaaValRP
import Derived.Deep.Cut
namespace Go.Proofs.Ytckmacnmmloemaa
open Go.RowKit
set_option linter.unusedVariables false
set_option linter.unusedSimpArgs false
set_option maxRecDepth 100000
attribute [local irreducible] wpV wpList Code.wp

theorem halfV_ge {Zs : List (List Int)} {n i : Nat} (h : daysB Zs n = true) (hi : i < n) (hl : 1 ≤ Zs.length) : 0 ≤ halfV Zs i := by
  unfold halfV
  obtain ⟨m, hm⟩ : ∃ m, Zs.length = m + 1 := ⟨Zs.length - 1, by omega⟩
  have hc := colS_range h hi Zs.length (Nat.le_refl _)
  have hp : halfP Zs i m = true := by
    unfold halfP
    rw [decide_eq_true_eq, hm]
    rw [hm] at hc
    omega
  by_cases hf : fstB (halfP Zs i) m < 0
  · rw [fstB_hit hf hp Zs.length (by omega)]; omega
  · rw [hm]; unfold fstB; rw [if_pos (by omega)]; omega
set_option maxHeartbeats 2000000 in
theorem hwClo (ak : Option Addr) (lk ck n pc : Nat) (z : List Int) (w : World) (hr : RowC w ak (ic z)) (hz : z.length = lk) (hl : lk ≤ 1048576) (hc : w.cell? ⟨pc, 0, none⟩ = some (.int .i64 (n : Int))) :
    Calls Try.prog 87 #[.slice ak lk ck, .pointer (some ⟨pc, 0, none⟩)] w (SayB (inflB z lk n) w) := by
  have H := Lib.hid hr
  have Hz := Lib.hid hz
  clear hr hz
  by_cases hnn : lk = n
  · subst hnn
    obtain ⟨bb, hbb⟩ : ∃ b, allWn z lk = b := ⟨_, rfl⟩
    have hv : inflB z lk lk = bb := by rw [← hbb]; unfold inflB; simp
    rw [hv]
    have HC : Hid (Calls Try.prog 86 #[.slice ak lk ck, .func (.func 75) #[] #[]] w fun e w' => e = .returned (.bool bb) ∧ Below w.heap.size w w') := Lib.hid ((allOfZ 75 #[] (fun k => unitB (z.getD k 0)) (enters_of Try.func75 (by kernel_rfl) rfl) ak lk ck z w (fun k hk W' hW' => (isUnits_any _ W').mono (fun e w' ⟨b', h1, h2, h3⟩ => ⟨b', h1, h2, h3 ▸ Below.refl _ _⟩)) H.out Hz.out hl).mono (by rintro e w' ⟨b, h1, rfl, h3⟩; exact ⟨by rw [← h1]; exact congrArg (fun x => Ending.returned (.bool x)) hbb, h3⟩))
    clear hbb hv
    go_enter Try.func87, Try.ntmps87
    go_wp2_with fail
    refine HC.out.mono ?_
    rintro e w' ⟨rfl, hb⟩
    have HB := Lib.hid hb
    clear hb
    cases bb <;> (go_wp2_with fail; go_ret; exact ⟨_, rfl, rfl, HB.out⟩)
  · have hf : inflB z lk n = false := by unfold inflB; rw [decide_eq_false hnn]; rfl
    rw [hf]
    have hne : ¬ (lk : Int) = (n : Int) := by omega
    go_enter Try.func87, Try.ntmps87
    go_wp2_with fail
    go_ret
    exact ⟨_, rfl, rfl, Below.refl _ _⟩

set_option maxHeartbeats 16000000 in
theorem halfWay_i (a : Option Addr) (len cap : Nat) (Zs : List (List Int)) (w : World) (h : RowSS w a Zs) (hlen : Zs.length = len) (hl : len ≤ 1048576) (hrl : ∀ k, k < len → (zr Zs k).length ≤ 1048576) :
    Calls Try.prog 41 #[.slice a len cap] w (ListZB (halfR Zs) w) := by
  obtain ⟨R, hR⟩ : ∃ R, halfR Zs = R := ⟨_, rfl⟩
  rw [hR]
  have HR := Lib.hid hR
  clear hR
  have H := Lib.hid h
  have Hlen := Lib.hid hlen
  have Hrl := Lib.hid hrl
  clear h hlen hrl
  by_cases h1 : len < 1
  · have h1i : (len : Int) < 1 := by omega
    go_enter Try.func41, Try.ntmps41
    have hv : R = ([], false) := by rw [← HR.out]; unfold halfR; rw [Hlen.out, decide_eq_false (show ¬ 1 ≤ len by omega)]; rfl
    have HV := Lib.hid hv
    clear hv
    go_wp2_with fail
    rw [HV.out]
    exact bodyPost_ret (v := .tuple #[.slice none 0 0, .bool false]) (by first | (simp [results, Try.results41, go_sem]; done) | (simp (maxDischargeDepth := 12) [results, Try.results41, go_sem]; done) | (simp (maxDischargeDepth := 12) [results, Try.results41, go_sem]; rfl)) rfl (ListZB.no (Below.refl _ _))
  have h1i : ¬ (len : Int) < 1 := by omega
  by_cases h64 : 64 < len
  · have h64i : (64 : Int) < (len : Int) := by omega
    go_enter Try.func41, Try.ntmps41
    have hv : R = ([], false) := by rw [← HR.out]; unfold halfR; rw [Hlen.out, decide_eq_false (show ¬ len ≤ 64 by omega), Bool.and_false]; rfl
    have HV := Lib.hid hv
    clear hv
    go_wp2_with fail
    rw [HV.out]
    exact bodyPost_ret (v := .tuple #[.slice none 0 0, .bool false]) (by first | (simp [results, Try.results41, go_sem]; done) | (simp (maxDischargeDepth := 12) [results, Try.results41, go_sem]; done) | (simp (maxDischargeDepth := 12) [results, Try.results41, go_sem]; rfl)) rfl (ListZB.no (Below.refl _ _))
  have h64i : ¬ (64 : Int) < (len : Int) := by omega
  obtain ⟨b, off, rfl, hb, hc⟩ : ∃ b off, a = some ⟨b, off, none⟩ ∧ b < w.heap.size ∧ ∀ k, k < Zs.length → ∃ ak ck, w.cell? ⟨b, off + k, none⟩ = some (.slice ak (zr Zs k).length ck) ∧ RowC w ak (ic (zr Zs k)) := by
    rcases H.out with h9 | h9
    · have h8 := Hlen.out; rw [h9, List.length_nil] at h8; omega
    · exact h9
  obtain ⟨a0, k0, hc0, hr0⟩ := hc 0 (by rw [Hlen.out]; omega)
  have hn0 := Hrl.out 0 (by omega)
  obtain ⟨n, hn⟩ : ∃ n, (zr Zs 0).length = n := ⟨_, rfl⟩
  rw [hn] at hc0 hn0
  have HN := Lib.hid hn
  have HC := Lib.hid hc
  rw [Nat.add_zero] at hc0
  clear hc hn hr0
  have hl1 : (0 : Int) < (len : Int) := by omega
  have hmf : ∀ (fn : Fn) (first cap : Array Value) (w : World), (Instr.makeFunc fn first cap).run Try.prog w = .ok (.func fn first cap) w := fun _ _ _ _ => rfl
  obtain ⟨W1, hW1⟩ : ∃ W, w.alloc (.cells #[.int .i64 (n : Int)] 3) = W := ⟨_, rfl⟩
  have HB1 : Hid (Below w.heap.size w W1) := Lib.hid (by rw [← hW1]; exact bel1 w _)
  have x0 : W1.cell? ⟨w.heap.size, 0, none⟩ = some (.int .i64 (n : Int)) := by rw [← hW1]; simp [go_sem]
  have hsz1 : w.heap.size < W1.heap.size := by rw [← hW1]; simp
  obtain ⟨bn, hbn⟩ : ∃ b, (decide (1 ≤ (n : Int)) && decide ((n : Int) ≤ 12)) = b := ⟨_, rfl⟩
  have HNc := Lib.hid (isNodeCount_any (n : Int) W1)
  rw [hbn] at HNc
  have Hbn := Lib.hid hbn
  clear hbn
  have Hx0 := Lib.hid x0
  obtain ⟨bb, hbb⟩ : ∃ b, daysB Zs n = b := ⟨_, rfl⟩
  have HBB := Lib.hid hbb
  have HAl : Hid (Calls Try.prog 89 #[.slice (some ⟨b, off, none⟩) len cap, .func (.func 87) #[] #[.pointer (some ⟨w.heap.size, 0, none⟩)]] W1 fun e w' => e = .returned (.bool bb) ∧ Below W1.heap.size W1 w') := Lib.hid ((allOfS 87 #[.pointer (some ⟨w.heap.size, 0, none⟩)] (fun k => inflB (zr Zs k) (zr Zs k).length n) (enters_of Try.func87 (by kernel_rfl) rfl) (some ⟨b, off, none⟩) len cap Zs W1 (fun k hk W hW ak ck hr => hwClo ak (zr Zs k).length ck n w.heap.size (zr Zs k) W hr rfl (Hrl.out k hk) (by rw [hW.cell (p := ⟨w.heap.size, 0, none⟩) hsz1]; exact Hx0.out)) (H.out.below HB1.out (Nat.le_refl _)) Hlen.out hl).mono (by rintro e w' ⟨b9, h1, rfl, h3⟩; exact ⟨by rw [← h1, ← hbb, ← Hlen.out]; rfl, h3⟩))
  clear hbb
  go_enter Try.func41, Try.ntmps41
  go_upto_region 5 with fail
  (try rw [hW1])
  clear hW1 hc0
  go_wp2_with fail
  refine HNc.out.mono ?_
  rintro e w2 ⟨b9, hb9, rfl, rfl⟩
  subst hb9
  clear HNc
  cases bn
  · have hv : R = ([], false) := by rw [← HR.out]; unfold halfR; rw [HN.out]; have h9 := Hbn.out; rw [Bool.and_eq_false_iff, decide_eq_false_iff_not, decide_eq_false_iff_not] at h9; by_cases e9 : 1 ≤ n; (rw [decide_eq_false (show ¬ n ≤ 12 by omega)]; simp); (rw [decide_eq_false e9]; simp)
    have HV := Lib.hid hv
    clear hv
    go_wp2_with fail
    rw [HV.out]
    exact bodyPost_ret (v := .tuple #[.slice none 0 0, .bool false]) (by first | (simp [results, Try.results41, go_sem]; done) | (simp (maxDischargeDepth := 12) [results, Try.results41, go_sem]; done) | (simp (maxDischargeDepth := 12) [results, Try.results41, go_sem]; rfl)) rfl (ListZB.no HB1.out)
  · have hnb : 1 ≤ n ∧ n ≤ 12 := by have h9 := Hbn.out; rw [Bool.and_eq_true, decide_eq_true_eq, decide_eq_true_eq] at h9; omega
    obtain ⟨hn1, hn12⟩ := hnb
    go_wp2_with fail
    refine HAl.out.mono ?_
    rintro e w3 ⟨rfl, hb3⟩
    have HB3 : Hid (Below w.heap.size w w3) := Lib.hid (HB1.out.trans (hb3.mono HB1.out.size))
    have x3 : w3.cell? ⟨w.heap.size, 0, none⟩ = some (.int .i64 (n : Int)) := by rw [hb3.cell (p := ⟨w.heap.size, 0, none⟩) hsz1]; exact Hx0.out
    clear hb3 HAl x0 hsz1 Hx0
    cases bb
    · have hv : R = ([], false) := by rw [← HR.out]; unfold halfR; rw [HN.out, HBB.out]; simp
      have HV := Lib.hid hv
      clear hv
      go_wp2_with fail
      rw [HV.out]
      exact bodyPost_ret (v := .tuple #[.slice none 0 0, .bool false]) (by first | (simp [results, Try.results41, go_sem]; done) | (simp (maxDischargeDepth := 12) [results, Try.results41, go_sem]; done) | (simp (maxDischargeDepth := 12) [results, Try.results41, go_sem]; rfl)) rfl (ListZB.no HB3.out)
    · have hv : R = ((List.range n).map (halfV Zs), true) := by rw [← HR.out]; unfold halfR; rw [HN.out, HBB.out, Hlen.out, decide_eq_true (show 1 ≤ len by omega), decide_eq_true (show len ≤ 64 by omega), decide_eq_true (show 1 ≤ n by omega), decide_eq_true (show n ≤ 12 by omega)]; rfl
      have HV := Lib.hid hv
      clear hv
      have hmm : n ≤ 1048576 := by omega
      go_wp2_with (at_make; refine makeZ rfl rfl _ _ rfl .i64 .i64 _ _ n rfl rfl rfl rfl hmm (lo := w.heap.size) HB3.out.size ?_)
      intro w4 hrow hgr
      have HB4 : Hid (Below w.heap.size w w4) := Lib.hid (HB3.out.trans ((below_made (Below.refl _ _) hgr (Nat.le_refl _)).mono HB3.out.size))
      have HO4 : Hid (w4.ownsRow w.heap.size 2 1 (.slice (some ⟨w3.heap.size, 0, none⟩) n n) n (ic (someH Zs n 0))) := Lib.hid (by unfold ic; rw [someH_zero, List.map_replicate]; exact hrow)
      obtain ⟨g, hg⟩ : ∃ g, w3.heap.size = g := ⟨_, rfl⟩
      have Hg : Hid (w.heap.size ≤ g) := Lib.hid (by rw [← hg]; exact HB3.out.size)
      rw [hg] at HO4 ⊢
      clear hrow hgr x3 HB3 hg HB1
      go_wp2_with fail
      go_loopw [40] (fun iv wr => ∃ i : Nat, i ≤ n ∧ iv = .int .i64 (i : Int) ∧ Hid (wr.ownsRow w.heap.size 2 1 (.slice (some ⟨g, 0, none⟩) n n) n (ic (someH Zs n i))) ∧ Hid (Below w.heap.size w wr)) (fun iv _ => n - (intOf iv).toNat)
      case atStart => exact ⟨0, Nat.zero_le _, rfl, HO4, HB4⟩
      case round =>
      clear HO4 HB4
      obtain ⟨i, hi, rfl, HO, HW⟩ := hrel
      have hi0 : (0 : Int) ≤ (i : Int) := by omega
      by_cases hli : i < n
      · have hi1 : (i : Int) < (n : Int) := by omega
        go_wp2_with fail
        go_loopw [8, 45] (fun cv kv wr2 => ∃ k : Nat, k ≤ len ∧ kv = .int .i64 (k : Int) ∧ cv = .int .i64 (colS Zs i k) ∧ wr2 = wr) (fun _ kv _ => len - (intOf kv).toNat)
        case atStart => exact ⟨0, Nat.zero_le _, rfl, rfl, rfl⟩
        case round =>
        obtain ⟨k, hk, rfl, rfl, rfl⟩ := hrel
        have hk0 : (0 : Int) ≤ (k : Int) := by omega
        by_cases hlk : k < len
        · have hk1 : (k : Int) < (len : Int) := by omega
          obtain ⟨ak, ck, hcell, hrow⟩ := HC.out k (by rw [Hlen.out]; exact hlk)
          have hdz := daysB_at HBB.out (show k < Zs.length by rw [Hlen.out]; exact hlk)
          obtain ⟨hdl, hdr⟩ := hdz
          have hrg := hdr i hli
          obtain ⟨bk, ok, rfl, hbk, hck⟩ := hrow.cells (fun e => by rw [e, List.length_nil] at hdl; omega)
          have cx := hck i (by rw [hdl]; exact hli)
          rw [hdl] at hcell
          have cy : wr.cell? ⟨b, off + k, none⟩ = some (.slice (some ⟨bk, ok, none⟩) n ck) := by rw [HW.out.cell (p := ⟨b, off + k, none⟩) hb]; exact hcell
          have cz : wr.cell? ⟨bk, ok + i, none⟩ = some (.int .i64 ((zr Zs k).getD i 0)) := by rw [HW.out.cell (p := ⟨bk, ok + i, none⟩) hbk]; exact cx
          have hsc : colS Zs i (k + 1) = colS Zs i k + (zr Zs k).getD i 0 := rfl
          have hcr := colS_range HBB.out hli k (by rw [Hlen.out]; omega)
          have hcr1 := colS_range HBB.out hli (k + 1) (by rw [Hlen.out]; omega)
          obtain ⟨x, hx⟩ : ∃ x, (zr Zs k).getD i 0 = x := ⟨_, rfl⟩
          obtain ⟨s, hs⟩ : ∃ s, colS Zs i k = s := ⟨_, rfl⟩
          rw [hx] at cz hrg hsc
          rw [hs] at hsc hcr
          rw [hsc] at hcr1
          have Hs := Lib.hid hs
          have Hsc := Lib.hid hsc
          clear hcell hrow hdl hdr hck cx hx hs hsc hbk
          rw [Hs.out]
          go_wp2_with fail
          go_roundw
          case rel => exact ⟨k + 1, by omega, by go_num, by rw [Hsc.out], by first | trivial | rfl⟩
          case measure => simp [intOf]; omega
        · obtain rfl : k = len := by omega
          obtain ⟨t, ht⟩ : ∃ t, colS Zs i k = t := ⟨_, rfl⟩
          have Ht : Hid (colS Zs i Zs.length = t) := Lib.hid (by rw [Hlen.out]; exact ht)
          have htr := colS_range HBB.out hli k (by rw [Hlen.out]; exact Nat.le_refl _)
          rw [ht] at htr
          rw [ht]
          clear ht
          go_wp2_with fail
          go_loopw [8, 9, 58] (fun cv ev kv wr3 => ∃ q : Nat, q ≤ k ∧ kv = .int .i64 (q : Int) ∧ cv = .int .i64 (t - colS Zs i q) ∧ ev = .int .i64 (colS Zs i q) ∧ Hid (fstB (halfP Zs i) q < 0) ∧ wr3 = wr) (fun _ _ kv _ => k - (intOf kv).toNat)
          case atStart => exact ⟨0, Nat.zero_le _, rfl, by show _ = Value.int .i64 (t - 0); rw [Int.sub_zero], rfl, Lib.hid (by unfold fstB; omega), rfl⟩
          case round =>
          obtain ⟨q, hq, rfl, rfl, rfl, HF, rfl⟩ := hrel
          have hq0 : (0 : Int) ≤ (q : Int) := by omega
          by_cases hlq : q < k
          · have hq1 : (q : Int) < (k : Int) := by omega
            obtain ⟨ak, ck, hcell, hrow⟩ := HC.out q (by rw [Hlen.out]; exact hlq)
            have hdz := daysB_at HBB.out (show q < Zs.length by rw [Hlen.out]; exact hlq)
            obtain ⟨hdl, hdr⟩ := hdz
            have hrg := hdr i hli
            obtain ⟨bk, ok, rfl, hbk, hck⟩ := hrow.cells (fun e => by rw [e, List.length_nil] at hdl; omega)
            have cx := hck i (by rw [hdl]; exact hli)
            rw [hdl] at hcell
            have cy : wr.cell? ⟨b, off + q, none⟩ = some (.slice (some ⟨bk, ok, none⟩) n ck) := by rw [HW.out.cell (p := ⟨b, off + q, none⟩) hb]; exact hcell
            have cz : wr.cell? ⟨bk, ok + i, none⟩ = some (.int .i64 ((zr Zs q).getD i 0)) := by rw [HW.out.cell (p := ⟨bk, ok + i, none⟩) hbk]; exact cx
            have hsc : colS Zs i (q + 1) = colS Zs i q + (zr Zs q).getD i 0 := rfl
            have hcr := colS_range HBB.out hli q (by rw [Hlen.out]; omega)
            have hcr1 := colS_range HBB.out hli (q + 1) (by rw [Hlen.out]; omega)
            obtain ⟨x, hx⟩ : ∃ x, (zr Zs q).getD i 0 = x := ⟨_, rfl⟩
            obtain ⟨s, hs⟩ : ∃ s, colS Zs i q = s := ⟨_, rfl⟩
            rw [hx] at cz hrg hsc
            rw [hs] at hsc hcr
            rw [hsc] at hcr1
            have Hs := Lib.hid hs
            have Hsc := Lib.hid hsc
            clear hcell hrow hdl hdr hck cx hx hs hsc hbk
            have hmo := colS_mono HBB.out hli (k := q + 1) (by rw [Hlen.out]; omega)
            rw [Ht.out, Hsc.out] at hmo
            have hpe : halfP Zs i q = decide (t ≤ 2 * (s + x)) := by unfold halfP; rw [Ht.out, Hsc.out]
            have Hpe := Lib.hid hpe
            clear hpe
            rw [Hs.out]
            by_cases hp : t - s - x ≤ s + x
            · have hzz : halfV Zs i = (q : Int) := fstB_hit HF.out (by rw [Hpe.out]; exact decide_eq_true (by omega)) Zs.length (by rw [Hlen.out]; exact hlq)
              have hst := (HO.out.stored i (.int .i64 (q : Int))).1
              rw [← ic_set, ← hzz, someH_set hli, hzz] at hst
              have Hst := Lib.hid hst
              obtain ⟨v0, hv0⟩ : ∃ v, (ic (someH Zs n i))[i]? = some v := ⟨_, List.getElem?_eq_getElem (by rw [ic_length, someH_length]; exact hli)⟩
              have kc : wr.cell? ⟨g, i, none⟩ = some v0 := by rw [HO.out.cellAt i (by omega)]; exact hv0
              have kf := HO.out.frozenAt i
              clear hst hzz hv0
              go_wp2_with fail
              go_roundw
              case rel => exact ⟨i + 1, by omega, by go_num, Hst, Lib.hid (HW.out.setCell (by show w.heap.size ≤ g; exact Hg.out) _)⟩
              case measure => simp [intOf]; omega
            · have hms := fstB_miss HF.out (by rw [Hpe.out]; exact decide_eq_false (by omega))
              have Hms : Hid (fstB (halfP Zs i) (q + 1) < 0) := Lib.hid (by rw [hms]; omega)
              clear hms
              go_wp2_with fail
              go_roundw
              case rel => exact ⟨q + 1, by omega, by go_num, by rw [Hsc.out]; congr 1; omega, by rw [Hsc.out], Hms, by first | trivial | rfl⟩
              case measure => simp [intOf]; omega
          · obtain rfl : q = k := by omega
            have h9 := HF.out
            have h8 := halfV_ge HBB.out hli (by rw [Hlen.out]; omega)
            unfold halfV at h8
            rw [Hlen.out] at h8
            exact absurd h8 (by omega)
      · obtain rfl : i = n := by omega
        have ho := HO.out
        rw [someH_all] at ho
        have Ho := Lib.hid ho
        clear ho
        go_wp2_with fail
        rw [HV.out]
        exact bodyPost_ret (v := .tuple #[.slice (some ⟨g, 0, none⟩) i i, .bool true]) (by first | (simp [results, Try.results41, go_sem, *]; done) | (simp (maxDischargeDepth := 12) [results, Try.results41, go_sem, *]; done) | (simp (maxDischargeDepth := 12) [results, Try.results41, go_sem, *]; rfl)) rfl (ListZB.yes Ho.out (Nat.le_refl _) HW.out)

end Go.Proofs.Ytckmacnmmloemaa
