/- The order of a river's nodes: the model. -/
import Derived.Test.YtckmacnmmloemaaOrdW
import Derived.Test.YtckmacnmmloemaaOrdI
import Derived.Test.YtckmacnmmloemaaRvQ
import Derived.Deep.Cut
namespace Go.Proofs.Ytckmacnmmloemaa
open Go.RowKit
set_option linter.unusedVariables false
set_option linter.unusedSimpArgs false
set_option maxRecDepth 100000
attribute [local irreducible] wpV wpList Code.wp
set_option maxHeartbeats 16000000 in
theorem l06Order_any (pa b off n c0 : Nat) (v1 v2 : Value) (D : List Int) (w : World) (hpa : Bx w pa [.slice (some ⟨b, off, none⟩) n c0, v1, v2]) (hb : b < w.heap.size) (hc : ∀ i, i < D.length → w.cell? ⟨b, off + i, none⟩ = some (.int .i64 (D.getD i 0))) (hn : D.length = n) (h1 : 1 ≤ n) (hl : n ≤ 12) (hr : ∀ j, j < D.length → -1 ≤ D.getD j 0 ∧ D.getD j 0 ≤ (D.length : Int) - 1) (ha : acycB D = true) :
    Calls Try.prog 96 #[.pointer (some ⟨pa, 0, none⟩)] w fun e w' => ∃ g c, e = .returned (.slice (some ⟨g, 0, none⟩) n c) ∧ w'.ownsRow w.heap.size 2 1 (.slice (some ⟨g, 0, none⟩) n c) n (ic (ints (kahn D n))) ∧ Below w.heap.size w w' := by
  have HC := Lib.hid hc
  have HR := Lib.hid hr
  have HN := Lib.hid hn
  have HBs := Lib.hid hb
  have HA := Lib.hid ha
  have HP := Lib.hid hpa
  have HPb : Hid (pa < w.heap.size) := Lib.hid hpa.1
  have p0 := hpa.c 0 rfl
  have hmm : n ≤ 1048576 := by omega
  obtain ⟨B, hB⟩ : ∃ B, w.heap.size = B := ⟨_, rfl⟩
  have HB := Lib.hid hB
  clear hc hr hn hb ha hpa hB
  go_enter Try.func96, Try.ntmps96
  go_wp2_with (at_make; refine makeZ rfl rfl _ _ rfl .i64 .i64 _ _ n rfl rfl rfl rfl hmm (lo := w.heap.size) (Nat.le_refl _) ?_)
  intro w1 hrow hgr
  rw [HB.out] at hrow ⊢
  have HW1 : Hid (Below B w w1) := Lib.hid (by rw [← HB.out]; exact below_made (Below.refl _ _) hgr (Nat.le_refl _))
  have HG1 : Hid (w1.ownsRow B 2 1 (.slice (some ⟨B, 0, none⟩) n n) n (ic (wtP D 0 n))) := Lib.hid (by rw [wtP_zero]; unfold ic; rw [List.map_replicate]; exact hrow)
  clear hrow hgr p0
  have HG2 := HG1
  clear HG1
  go_wp2_with fail
  go_loopw [5] (fun iv wr => ∃ k : Nat, k ≤ n ∧ iv = .int .i64 (k : Int) ∧ Hid (wr.ownsRow B 2 1 (.slice (some ⟨B, 0, none⟩) n n) n (ic (wtP D k n))) ∧ Hid (Below B w wr)) (fun iv _ => n - (intOf iv).toNat)
  case atStart => exact ⟨0, Nat.zero_le _, rfl, HG2, HW1⟩
  case round =>
    clear HG2 HW1
    obtain ⟨k, hk, rfl, HG, HW⟩ := hrel
    have hk0 : (0 : Int) ≤ (k : Int) := by omega
    have p0 : wr.cell? ⟨pa, 0, none⟩ = some (.slice (some ⟨b, off, none⟩) n c0) := by rw [HW.out.cell (p := ⟨pa, 0, none⟩) (by rw [← HB.out]; exact HPb.out)]; exact HP.out.c 0 rfl
    by_cases hlt : k < n
    · have hk1 : (k : Int) < (n : Int) := by omega
      have cd : wr.cell? ⟨b, off + k, none⟩ = some (.int .i64 (D.getD k 0)) := by rw [HW.out.cell (p := ⟨b, off + k, none⟩) (by rw [← HB.out]; exact HBs.out)]; exact HC.out k (by rw [HN.out]; exact hlt)
      have hrk := HR.out k (by rw [HN.out]; exact hlt)
      rw [HN.out] at hrk
      obtain ⟨z, hz⟩ : ∃ z, D.getD k 0 = z := ⟨_, rfl⟩
      rw [hz] at cd hrk
      have Hz := Lib.hid hz
      clear hz
      obtain ⟨hz1, hz2⟩ := hrk
      by_cases hzn : z < 0
      · have HG9 : Hid (wr.ownsRow B 2 1 (.slice (some ⟨B, 0, none⟩) n n) n (ic (wtP D (k + 1) n))) := Lib.hid (by rw [← wtP_miss (by rw [Hz.out]; exact hzn)]; exact HG.out)
        have hzg : ¬ 0 ≤ z := by omega
        clear HG
        go_wp2_with fail
        go_roundw
        case rel => exact ⟨k + 1, by omega, by go_num, HG9, HW⟩
        case measure => simp [intOf]; omega
      · obtain ⟨d, rfl⟩ : ∃ d : Nat, z = (d : Int) := ⟨z.toNat, by omega⟩
        have hdn : d < n := by omega
        have hd0 : (0 : Int) ≤ (d : Int) := by omega
        have hd1 : (d : Int) < (n : Int) := by omega
        obtain ⟨q, hq⟩ : ∃ q, cntP D [] k d = q := ⟨_, rfl⟩
        have hqk : q ≤ k := by rw [← hq]; exact cntP_le _ _ _ _
        have cg : wr.cell? ⟨B, d, none⟩ = some (.int .i64 (q : Int)) := by rw [HG.out.cellAt d (by omega), ic_at (by rw [wtP_length]; exact hdn), wtP_getD hdn, hq]
        have hf := HG.out.frozenAt d
        have hst := (HG.out.stored d (.int .i64 ((q : Int) + 1))).1
        rw [← ic_set, show ((q : Int) + 1) = ((cntP D [] k d : Int) + 1) by rw [hq], wtP_hit hdn Hz.out, hq] at hst
        have Hst := Lib.hid hst
        clear hst HG hq
        go_wp2_with fail
        go_roundw
        case rel => exact ⟨k + 1, by omega, by go_num, Hst, Lib.hid (HW.out.setCell (by show B ≤ B; exact Nat.le_refl _) _)⟩
        case measure => simp [intOf]; omega
    · obtain rfl : k = n := by omega
      have HG9 : Hid ((wr.alloc (.cells #[] 2)).ownsRow B 2 1 (.slice (some ⟨B, 0, none⟩) k k) k (ic (wtV D (kahn D 0) k))) := Lib.hid (by have h9 := HG.out.alloc (.cells #[] 2); rw [wtP_all] at h9; exact h9)
      have hsz : B < wr.heap.size := (HG.out.lt B rfl).2
      have HO9 : Hid ((wr.alloc (.cells #[] 2)).ownsRow B 2 1 (.slice (some ⟨wr.heap.size, 0, none⟩) 0 0) 0 (ic (ints (kahn D 0)))) := Lib.hid (World.ownsRow_lit wr #[] 0 (Nat.le_of_lt hsz) (by decide) rfl)
      have HW9 : Hid (Below B w (wr.alloc (.cells #[] 2))) := Lib.hid (HW.out.alloc (Nat.le_of_lt hsz) _)
      have HNe : Hid (wr.heap.size ≠ B) := Lib.hid (by omega)
      clear HG HW hlt
      go_wp2_with fail
      go_loopw [6, 7] (fun ov nv wr => ∃ t g2 c2 : Nat, t ≤ k ∧ ov = .slice (some ⟨g2, 0, none⟩) t c2 ∧ Hid (wr.ownsRow B 2 1 (.slice (some ⟨B, 0, none⟩) k k) k (ic (wtV D (kahn D t) k))) ∧ Hid (wr.ownsRow B 2 1 (.slice (some ⟨g2, 0, none⟩) t c2) t (ic (ints (kahn D t)))) ∧ Hid (g2 ≠ B) ∧ Hid (Below B w wr)) (fun ov _ _ => k - lenOf ov)
      case atStart => exact ⟨0, _, 0, Nat.zero_le _, rfl, HG9, HO9, HNe, HW9⟩
      case round =>
        clear HG9 HO9 HNe HW9
        obtain ⟨t, g2, c2, ht, rfl, HG, HO, HNe, HW⟩ := hrel
        have ht0 : (0 : Int) ≤ (t : Int) := by omega
        by_cases hlt : t < k
        · have ht1 : (t : Int) < (k : Int) := by omega
          obtain ⟨p, _, hpn, hpf, hpb, hpk⟩ := kahn_next HA.out (t := t) (by rw [HN.out]; exact hlt)
          rw [HN.out] at hpn
          obtain ⟨C, hC⟩ : ∃ C, kahn D t = C := ⟨_, rfl⟩
          have HKd : Hid (Kd D C) := Lib.hid (hC ▸ kahn_kd D t)
          rw [hC] at hpf hpb hpk HG HO
          have HPf := Lib.hid hpf
          have HPb2 := Lib.hid hpb
          have HC1 : Hid (kahn D (t + 1) = C ++ [p]) := Lib.hid hpk
          clear hpf hpb hpk hC
          go_wp2_with fail
          go_loopw [7] (fun iv wr3 => ∃ i : Nat, i ≤ p ∧ iv = .int .i64 (i : Int) ∧ wr3 = wr) (fun iv _ => k - (intOf iv).toNat)
          case atStart => exact ⟨0, Nat.zero_le _, rfl, rfl⟩
          case round =>
          obtain ⟨i, hi, rfl, rfl⟩ := hrel
          have hi0 : (0 : Int) ≤ (i : Int) := by omega
          have hi1 : (i : Int) < (k : Int) := by omega
          obtain ⟨u, hu⟩ : ∃ u, (wtV D C k).getD i 0 = u := ⟨_, rfl⟩
          have cu : wr.cell? ⟨B, i, none⟩ = some (.int .i64 u) := by rw [HG.out.cellAt i (by omega), ic_at (by rw [wtV_length]; omega), hu]
          rw [wtV_getD (by omega)] at hu
          by_cases hip : i < p
          · have hu0 : ¬ u = 0 := by
              have h9 := HPb2.out i hip
              intro h8
              subst h8
              cases hcon : C.contains i
              · rw [hcon, if_neg (by decide)] at hu
                have h7 := freeD_free hcon (i := i) (D := D) (by rw [HN.out]; omega)
                rw [h7] at h9; cases h9
              · rw [hcon, if_pos rfl] at hu; omega
            clear hu
            go_wp2_with fail
            go_roundw
            case rel => exact ⟨i + 1, by omega, by go_num, by first | trivial | rfl⟩
            case measure => simp [intOf]; omega
          obtain rfl : i = p := by omega
          have hu0 : u = 0 := by
            have h9 := HPf.out
            unfold freeD at h9
            rw [Bool.and_eq_true, Bool.not_eq_true'] at h9
            rw [h9.1, if_neg (by decide)] at hu
            have := cntP_zero.2 h9.2
            rw [HN.out] at this
            omega
          subst hu0
          clear hu hip hi
          have hf := HG.out.frozenAt i
          have p0 : wr.cell? ⟨pa, 0, none⟩ = some (.slice (some ⟨b, off, none⟩) k c0) := by rw [HW.out.cell (p := ⟨pa, 0, none⟩) (by rw [← HB.out]; exact HPb.out)]; exact HP.out.c 0 rfl
          have cd : wr.cell? ⟨b, off + i, none⟩ = some (.int .i64 (D.getD i 0)) := by rw [HW.out.cell (p := ⟨b, off + i, none⟩) (by rw [← HB.out]; exact HBs.out)]; exact HC.out i (by rw [HN.out]; exact hpn)
          have hgb : ¬ B = b := by have h9 := HBs.out; rw [HB.out] at h9; omega
          have hbg : ¬ b = B := fun e => hgb e.symm
          have hgp : ¬ B = pa := by have h9 := HPb.out; rw [HB.out] at h9; omega
          have hpg : ¬ pa = B := fun e => hgp e.symm
          have hrk := HR.out i (by rw [HN.out]; exact hpn)
          rw [HN.out] at hrk
          obtain ⟨z, hz⟩ : ∃ z, D.getD i 0 = z := ⟨_, rfl⟩
          rw [hz] at cd hrk
          have Hz := Lib.hid hz
          clear hz
          obtain ⟨hz1, hz2⟩ := hrk
          have hst1 := (HG.out.stored i (.int .i64 (-1))).1
          rw [← ic_set] at hst1
          by_cases hzn : z < 0
          · have hzg : ¬ 0 ≤ z := by omega
            have hst2 : (wr.setCell ⟨B, i, none⟩ (.int .i64 (-1))).ownsRow B 2 1 (.slice (some ⟨B, 0, none⟩) k k) k (ic (wtV D (kahn D (t + 1)) k)) := by
              have h9 := wtV_leaves (D := D) (C := C) (i := i) HPf.out (by rw [HN.out]; exact hpn) (by rw [Hz.out]; exact hzn)
              rw [HN.out] at h9
              rw [HC1.out, ← h9]; exact hst1
            have Hst := Lib.hid hst2
            clear hst1 hst2
            go_upto_region 16 with fail
            generalize hW9 : (wr.setCell ⟨B, i, none⟩ (.int .i64 (-1))) = W9
            have HG8 : Hid (W9.ownsRow B 2 1 (.slice (some ⟨B, 0, none⟩) k k) k (ic (wtV D (kahn D (t + 1)) k))) := Lib.hid (by rw [← hW9]; exact Hst.out)
            have HO8 : Hid (W9.ownsRow B 2 1 (.slice (some ⟨g2, 0, none⟩) t c2) t (ic (ints C))) := Lib.hid (by rw [← hW9]; exact owns_far HO.out (by simp [Value.ownBlock]; exact HNe.out) _)
            have HW8 : Hid (Below B w W9) := Lib.hid (by rw [← hW9]; exact HW.out.setCell (by show B ≤ B; exact Nat.le_refl _) _)
            have HO8a := Lib.hid (HO8.out.alloc (.cells #[.int .i64 (i : Int)] 2))
            have HG8a := Lib.hid (HG8.out.alloc (.cells #[.int .i64 (i : Int)] 2))
            have hsz9 : B < W9.heap.size := (HG8.out.lt B rfl).2
            have HW8a : Hid (Below B w (W9.alloc (.cells #[.int .i64 (i : Int)] 2))) := Lib.hid (HW8.out.alloc (Nat.le_of_lt hsz9) _)
            have Hcell := Lib.hid (show (W9.alloc (.cells #[.int .i64 (i : Int)] 2)).cell? ⟨W9.heap.size, 0, none⟩ = some (.int .i64 (i : Int)) by simp [go_sem])
            have Hlo := Lib.hid (show B ≤ (W9.alloc (.cells #[.int .i64 (i : Int)] 2)).heap.size by simp; omega)
            have hkl : t ≤ 1048576 := by omega
            clear hW9 HG HO HW HG8 HO8 HW8 Hst cu hf p0 cd
            go_wp2_with (at_builtin; refine pushZ rfl rfl _ _ rfl rfl HO8a.out W9.heap.size _ (i : Int) rfl Hcell.out hkl Hlo.out ?_)
            intro gn cn w4 hrow hgrow hgn hgl
            rw [← ints_push, ← HC1.out] at hrow
            have HO4 := Lib.hid hrow
            have hgne : gn ≠ B := by
              have h7 := HNe.out
              have h6 : B < W9.heap.size := hsz9
              rcases hgn with h9 | h9
              · simp only [Value.ownBlock, Option.some.injEq] at h9; omega
              · (try simp at h9); omega
            have HNe4 := Lib.hid hgne
            have HG4 : Hid (w4.ownsRow B 2 1 (.slice (some ⟨B, 0, none⟩) k k) k (ic (wtV D (kahn D (t + 1)) k))) := Lib.hid (owns_pushed HG8a.out hgrow (by intro j hj; have h7 := HNe.out; simp only [Value.ownBlock, Option.some.injEq, ne_eq] at hj ⊢; omega))
            have HW4 : Hid (Below B w w4) := Lib.hid (HW8a.out.grown hgrow (by simp; omega) (fun j hj => by have h5 := (HO8a.out.lt g2 rfl).1; simp only [Value.ownBlock, Option.some.injEq] at hj; omega))
            clear hrow hgrow hgn hgl hgne HO8a HG8a HW8a Hcell Hlo
            go_wp2_with fail
            go_roundw
            case rel => exact ⟨t + 1, gn, cn, by omega, rfl, HG4, HO4, HNe4, HW4⟩
            case measure => simp [lenOf]; omega
          · obtain ⟨d, rfl⟩ : ∃ d : Nat, z = (d : Int) := ⟨z.toNat, by omega⟩
            have hdn : d < k := by omega
            have hd0 : (0 : Int) ≤ (d : Int) := by omega
            have hd1 : (d : Int) < (k : Int) := by omega
            obtain ⟨hdi, hdC⟩ := free_way HKd.out HPf.out (by rw [HN.out]; exact hpn) Hz.out
            have hid : ¬ i = d := fun e => hdi e.symm
            obtain ⟨q, hq⟩ : ∃ q, cntP D C k d = q := ⟨_, rfl⟩
            have hqk : q ≤ k := by rw [← hq]; exact cntP_le _ _ _ _
            have cg : wr.cell? ⟨B, d, none⟩ = some (.int .i64 (q : Int)) := by rw [HG.out.cellAt d (by omega), ic_at (by rw [wtV_length]; exact hdn), wtV_getD hdn, hdC, if_neg (by decide), hq]
            have hfd := HG.out.frozenAt d
            have hst2 : ((wr.setCell ⟨B, i, none⟩ (.int .i64 (-1))).setCell ⟨B, d, none⟩ (.int .i64 ((q : Int) - 1))).ownsRow B 2 1 (.slice (some ⟨B, 0, none⟩) k k) k (ic (wtV D (kahn D (t + 1)) k)) := by
              have h8 := (hst1.stored d (.int .i64 ((q : Int) - 1))).1
              have h9 := wtV_takes HKd.out HPf.out (by rw [HN.out]; exact hpn) Hz.out (by rw [HN.out]; exact hdn)
              rw [HN.out, hq] at h9
              rw [← ic_set, h9, ← HC1.out] at h8
              exact h8
            have Hst := Lib.hid hst2
            clear hst1 hst2 hq hdC
            go_upto_region 16 with fail
            generalize hW9 : ((wr.setCell ⟨B, i, none⟩ (.int .i64 (-1))).setCell ⟨B, d, none⟩ (.int .i64 ((q : Int) - 1))) = W9
            have HG8 : Hid (W9.ownsRow B 2 1 (.slice (some ⟨B, 0, none⟩) k k) k (ic (wtV D (kahn D (t + 1)) k))) := Lib.hid (by rw [← hW9]; exact Hst.out)
            have HO8 : Hid (W9.ownsRow B 2 1 (.slice (some ⟨g2, 0, none⟩) t c2) t (ic (ints C))) := Lib.hid (by rw [← hW9]; exact owns_far (owns_far HO.out (by simp [Value.ownBlock]; exact HNe.out) _) (by simp [Value.ownBlock]; exact HNe.out) _)
            have HW8 : Hid (Below B w W9) := Lib.hid (by rw [← hW9]; exact (HW.out.setCell (by show B ≤ B; exact Nat.le_refl _) _).setCell (by show B ≤ B; exact Nat.le_refl _) _)
            have HO8a := Lib.hid (HO8.out.alloc (.cells #[.int .i64 (i : Int)] 2))
            have HG8a := Lib.hid (HG8.out.alloc (.cells #[.int .i64 (i : Int)] 2))
            have hsz9 : B < W9.heap.size := (HG8.out.lt B rfl).2
            have HW8a : Hid (Below B w (W9.alloc (.cells #[.int .i64 (i : Int)] 2))) := Lib.hid (HW8.out.alloc (Nat.le_of_lt hsz9) _)
            have Hcell := Lib.hid (show (W9.alloc (.cells #[.int .i64 (i : Int)] 2)).cell? ⟨W9.heap.size, 0, none⟩ = some (.int .i64 (i : Int)) by simp [go_sem])
            have Hlo := Lib.hid (show B ≤ (W9.alloc (.cells #[.int .i64 (i : Int)] 2)).heap.size by simp; omega)
            have hkl : t ≤ 1048576 := by omega
            clear hW9 HG HO HW HG8 HO8 HW8 Hst cu hf p0 cd cg hfd
            go_wp2_with (at_builtin; refine pushZ rfl rfl _ _ rfl rfl HO8a.out W9.heap.size _ (i : Int) rfl Hcell.out hkl Hlo.out ?_)
            intro gn cn w4 hrow hgrow hgn hgl
            rw [← ints_push, ← HC1.out] at hrow
            have HO4 := Lib.hid hrow
            have hgne : gn ≠ B := by
              have h7 := HNe.out
              have h6 : B < W9.heap.size := hsz9
              rcases hgn with h9 | h9
              · simp only [Value.ownBlock, Option.some.injEq] at h9; omega
              · (try simp at h9); omega
            have HNe4 := Lib.hid hgne
            have HG4 : Hid (w4.ownsRow B 2 1 (.slice (some ⟨B, 0, none⟩) k k) k (ic (wtV D (kahn D (t + 1)) k))) := Lib.hid (owns_pushed HG8a.out hgrow (by intro j hj; have h7 := HNe.out; simp only [Value.ownBlock, Option.some.injEq, ne_eq] at hj ⊢; omega))
            have HW4 : Hid (Below B w w4) := Lib.hid (HW8a.out.grown hgrow (by simp; omega) (fun j hj => by have h5 := (HO8a.out.lt g2 rfl).1; simp only [Value.ownBlock, Option.some.injEq] at hj; omega))
            clear hrow hgrow hgn hgl hgne HO8a HG8a HW8a Hcell Hlo
            go_wp2_with fail
            go_roundw
            case rel => exact ⟨t + 1, gn, cn, by omega, rfl, HG4, HO4, HNe4, HW4⟩
            case measure => simp [lenOf]; omega
        · obtain rfl : t = k := by omega
          go_wp2_with fail
          go_ret
          exact ⟨g2, c2, rfl, HB.out.symm ▸ HO.out, HB.out.symm ▸ HW.out⟩
end Go.Proofs.Ytckmacnmmloemaa
