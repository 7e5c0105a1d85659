/- The order of a river's nodes: the program. -/
import Derived.Test.YtckmacnmmloemaaOrdV
import Derived.Test.YtckmacnmmloemaaRegMk
import Derived.ProofKit
namespace Go.Proofs.Ytckmacnmmloemaa
open Go.RowKit Go.Maps
set_option linter.unusedVariables false
set_option linter.unusedSimpArgs false
set_option maxRecDepth 100000
attribute [local irreducible] wpV wpList Code.wp

theorem law_z : Keyed Try.prog 2 := int_keyed Try.underlying2
theorem zero_z (w : World) : (zeroValue 2).run Try.prog w = .ok (.int .i64 0) w := by kernel_rfl
/-- A map with room is a new block without entries. -/
theorem made_map (c : Int) (W : World) : (Instr.makeMap 133 (some (.int .i64 c))).run Try.prog W = .ok (.map (some W.heap.size)) (W.alloc (.map #[] 0)) := by
  unfold Instr.makeMap
  simp [run_underlying Try.underlying133]
  rfl
/-- A map of integers. -/
abbrev MapAt (w : World) (b n : Nat) (M : DataW Unit) : Prop := w.ownsMap Try.prog 2 (plainElem (H := Unit) Try.prog 2) b n M
theorem wf_nat {k : Nat} (h : k ≤ 1048576) : (Lit.int .i64 (k : Int)).wf = true := WalkArith.wf_i64 (by omega)
theorem wf_int {k : Int} (h : -1048576 ≤ k ∧ k ≤ 1048576) : (Lit.int .i64 k).wf = true := WalkArith.wf_i64 (by omega)
def ints (C : List Nat) : List Int := C.map fun (i : Nat) => (i : Int)
theorem ints_length (C : List Nat) : (ints C).length = C.length := by simp [ints]
theorem ints_push (C : List Nat) (i : Nat) : ints (C ++ [i]) = ints C ++ [(i : Int)] := by simp [ints]

set_option maxHeartbeats 16000000 in
theorem orderOf_any (a : Option Addr) (n cap : Nat) (D : List Int) (w : World) (h : RowC w a (ic D)) (hn : D.length = n) (h1 : 1 ≤ n) (hl : n ≤ 1048576) (hr : ∀ j, j < D.length → -1 ≤ D.getD j 0 ∧ D.getD j 0 ≤ (D.length : Int) - 1) :
    Calls Try.prog 59 #[.slice a n cap] w fun e w' => ∃ g c, e = .returned (.slice (some ⟨g, 0, none⟩) (kahn D n).length c) ∧ w'.ownsRow (w.heap.size + 1) 2 1 (.slice (some ⟨g, 0, none⟩) (kahn D n).length c) (kahn D n).length (ic (ints (kahn D n))) ∧ Below w.heap.size w w' := by
  obtain ⟨b, off, rfl, hb, hc⟩ : ∃ b off, a = some ⟨b, off, none⟩ ∧ b < w.heap.size ∧ ∀ i, i < D.length → w.cell? ⟨b, off + i, none⟩ = some (.int .i64 (D.getD i 0)) := by
    rcases h.ints with h9 | h9
    · rw [h9, List.length_nil] at hn; omega
    · exact h9
  have HC := Lib.hid hc
  have HR := Lib.hid hr
  have HN := Lib.hid hn
  have HBs := Lib.hid hb
  clear h hc hr hn hb
  have hmm := made_map
  go_enter Try.func59, Try.ntmps59
  go_wp2_with fail
  obtain ⟨B, hB⟩ : ∃ B, w.heap.size = B := ⟨_, rfl⟩
  have HB := Lib.hid hB
  have HM0 : Hid (MapAt (w.alloc (.map #[] 0)) B 0 (.map [])) := Lib.hid (hB ▸ World.ownsMap_made w _ _ _)
  have HW0 : Hid (Below B w (w.alloc (.map #[] 0))) := Lib.hid (hB ▸ below1 w _)
  rw [hB]
  clear hB hmm
  go_loopw [16] (fun iv wr => ∃ k : Nat, ∃ M, k ≤ n ∧ iv = .int .i64 (k : Int) ∧ Hid (MapAt wr B k M) ∧ Hid (MapIs M n (fun j => decide (j < k)) (fun _ => 0)) ∧ Hid (Below B w wr)) (fun iv _ => n - (intOf iv).toNat)
  case atStart => exact ⟨0, .map [], Nat.zero_le _, rfl, HM0, Lib.hid (MapIs.start n), HW0⟩
  case round =>
    clear HM0 HW0
    obtain ⟨k, M, hk, rfl, HM, HI, HW⟩ := hrel
    have hk0 : (0 : Int) ≤ (k : Int) := by omega
    by_cases hlt : k < n
    · have hk1 : (k : Int) < (n : Int) := by omega
      go_wp2_with (at_mapUpdate; refine wpList_mapUpdate_own _ rfl _ _ _ 133 rfl 2 2 law_z Try.underlying133 _ B k M rfl HM.out (by unfold maxLen; omega) _ _ _ rfl rfl (keyOf_int_mk Try.underlying2 (wf_nat (by omega))) _ [] (plainElem_int Try.underlying2 (wf_int (by omega))) ?_)
      intro w1 hown1 hgrow1
      have HM1 := Lib.hid hown1
      have HW1 : Hid (Below B w w1) := Lib.hid (HW.out.grown hgrow1 (by have := HW.out.size; rw [HB.out] at this; exact this) (fun j hj => by cases hj; exact Nat.le_refl _))
      have HI1 : Hid (MapIs (M.put (ik k) (iz 0)) n (fun j => decide (j < k + 1)) (fun _ => 0)) := Lib.hid ((HI.out.put k 0).congr (fun j hj => by show (j == k || decide (j < k)) = decide (j < k + 1); rw [Bool.eq_iff_iff]; simp only [Bool.or_eq_true, beq_iff_eq, decide_eq_true_eq]; omega) (fun j hj hj2 => by show (if j = k then (0 : Int) else 0) = 0; split <;> rfl))
      clear hown1 hgrow1 HM HI HW
      go_wp2_with fail
      go_roundw
      case rel => exact ⟨k + 1, _, by omega, by go_num, HM1, HI1, HW1⟩
      case measure => simp [intOf]; omega
    · obtain rfl : n = k := by omega
      have HI2 : Hid (MapIs M n (fun _ => true) (fun j => (cntP D [] 0 j : Int))) := Lib.hid (HI.out.congr (fun j hj => decide_eq_true hj) (fun j hj hj2 => rfl))
      clear HI
      go_wp2_with fail
      go_loopw [24] (fun iv wr => ∃ k : Nat, ∃ M, k ≤ n ∧ iv = .int .i64 (k : Int) ∧ Hid (MapAt wr B (n + k) M) ∧ Hid (MapIs M n (fun _ => true) (fun j => (cntP D [] k j : Int))) ∧ Hid (Below B w wr)) (fun iv _ => n - (intOf iv).toNat)
      case atStart => exact ⟨0, M, Nat.zero_le _, rfl, HM, HI2, HW⟩
      case round =>
        clear HM HI2 HW
        obtain ⟨k, M, hk, rfl, HM, HI, HW⟩ := hrel
        have hk0 : (0 : Int) ≤ (k : Int) := by omega
        by_cases hlt : k < n
        · have hk1 : (k : Int) < (n : Int) := by omega
          have cd : wr.cell? ⟨b, off + k, none⟩ = some (.int .i64 (D.getD k 0)) := by rw [HW.out.cell (p := ⟨b, off + k, none⟩) (by rw [← HB.out]; exact HBs.out)]; exact HC.out k (by rw [HN.out]; exact hlt)
          have hrk := HR.out k (by rw [HN.out]; exact hlt)
          rw [HN.out] at hrk
          obtain ⟨z, hz⟩ : ∃ z, D.getD k 0 = z := ⟨_, rfl⟩
          rw [hz] at cd hrk
          have Hz := Lib.hid hz
          clear hz
          by_cases hs : z = -1
          · subst hs
            have HI1 : Hid (MapIs M n (fun _ => true) (fun j => (cntP D [] (k + 1) j : Int))) := Lib.hid (HI.out.congr (fun j hj => rfl) (fun j hj hj2 => by
              have := cntP_succ D [] k j
              rw [if_neg (fun h9 => by have := h9.2; rw [Hz.out] at this; omega)] at this
              omega))
            clear HI
            go_wp2_with fail
            go_roundw
            case rel => exact ⟨k + 1, _, by omega, by go_num, Lib.hid (HM.out.mono (by omega)), HI1, HW⟩
            case measure => simp [intOf]; omega
          · obtain ⟨d, rfl⟩ : ∃ d : Nat, z = (d : Int) := ⟨z.toNat, by omega⟩
            have hdn : d < n := by omega
            go_wp2_with (at_lookup; refine wpList_lookup_own_int _ rfl _ _ 133 rfl 2 2 .i64 law_z Try.underlying133 Try.underlying2 (zero_z _) B (n + k) M rfl HM.out _ _ rfl (keyOf_int_mk Try.underlying2 (wf_nat (by omega))) ?_)
            intro c hat hwc
            have hcv : c = (cntP D [] k d : Int) := HI.out.at hdn rfl hat
            have hcle := cntP_le D [] k d
            have hc0 : 0 ≤ c ∧ c ≤ k := by omega
            have HCV := Lib.hid hcv
            clear hcv hat hwc hcle
            go_wp2_with (at_mapUpdate; refine wpList_mapUpdate_own _ rfl _ _ _ 133 rfl 2 2 law_z Try.underlying133 _ B (n + k) M rfl HM.out (by unfold maxLen; omega) _ _ _ rfl rfl (keyOf_int_mk Try.underlying2 (wf_nat (by omega))) _ [] (plainElem_int (a := c + 1) Try.underlying2 (wf_int (by omega))) ?_)
            intro w1 hown1 hgrow1
            have HM1 := Lib.hid hown1
            have HW1 : Hid (Below B w w1) := Lib.hid (HW.out.grown hgrow1 (by have := HW.out.size; rw [HB.out] at this; exact this) (fun j hj => by cases hj; exact Nat.le_refl _))
            have HI1 : Hid (MapIs (M.put (ik d) (iz (c + 1))) n (fun _ => true) (fun j => (cntP D [] (k + 1) j : Int))) := Lib.hid ((HI.out.put d (c + 1)).congr (fun j hj => Bool.or_true _) (fun j hj hj2 => by
              have h9 := cntP_succ D [] k j
              have h8 := HCV.out
              show (if j = d then c + 1 else (cntP D [] k j : Int)) = _
              by_cases e : j = d
              · subst e; rw [if_pos ⟨by simp, Hz.out⟩] at h9; rw [if_pos rfl]; omega
              · rw [if_neg (fun h7 => e (by have := h7.2; rw [Hz.out] at this; omega))] at h9; rw [if_neg e]; omega))
            clear hown1 hgrow1 HM HI HW
            go_wp2_with fail
            go_roundw
            case rel => exact ⟨k + 1, _, by omega, by go_num, HM1, HI1, HW1⟩
            case measure => simp [intOf]; omega
        · obtain rfl : n = k := by omega
          have HS := Lib.hid (show B + 1 ≤ wr.heap.size from Nat.succ_le_of_lt HM.out.lt)
          obtain ⟨i0, hi, hz0, hz1, hz2⟩ := info_parts info_z64
          go_wp2_with (refine wpList_make_own _ rfl _ _ 22 rfl (B + 1) 2 i0 (.int .i64 0) 1 Try.underlying22 hi hz0 hz1 .i64 .i64 _ n rfl rfl rfl (by rw [hz2]; omega) (by unfold maxLen; omega) HS.out ?_)
          intro w2 hrow2 hgr2
          clear hi hz0 hz1 hz2
          have HR2 : Hid (w2.ownsRow (B + 1) 2 1 (.slice (some ⟨wr.heap.size, 0, none⟩) 0 n) 0 (ic (ints (kahn D 0)))) := Lib.hid hrow2
          have HM2 : Hid (MapAt w2 B (2 * n) M) := Lib.hid ((HM.out.kept hgr2 (by simp)).mono (by omega))
          have HW2 : Hid (Below B w w2) := Lib.hid (HW.out.grown hgr2 (by have := HS.out; omega) (fun j hj => by cases hj))
          have HI2 : Hid (MapIs M n (fun j => !(kahn D 0).contains j) (fun j => (cntP D (kahn D 0) n j : Int))) := Lib.hid (HI.out.congr (fun j hj => rfl) (fun j hj hj2 => rfl))
          clear hrow2 hgr2 HM HI HW HS
          obtain ⟨g0, hg0⟩ : ∃ g, wr.heap.size = g := ⟨_, rfl⟩
          rw [hg0] at HR2 ⊢
          clear hg0
          go_wp2_with fail
          go_loopw [7, 40] (fun ov tv wr => ∃ t g c : Nat, ∃ M, t ≤ n ∧ tv = .int .i64 (t : Int) ∧ ov = .slice (some ⟨g, 0, none⟩) (kahn D t).length c ∧ Hid (wr.ownsRow (B + 1) 2 1 (.slice (some ⟨g, 0, none⟩) (kahn D t).length c) (kahn D t).length (ic (ints (kahn D t)))) ∧ Hid (MapAt wr B (2 * n + t) M) ∧ Hid (MapIs M n (fun j => !(kahn D t).contains j) (fun j => (cntP D (kahn D t) n j : Int))) ∧ Hid (Below B w wr)) (fun _ tv _ => n - (intOf tv).toNat)
          case atStart => exact ⟨0, g0, n, M, Nat.zero_le _, rfl, rfl, HR2, HM2, HI2, HW2⟩
          case round =>
            clear HR2 HM2 HI2 HW2
            obtain ⟨t, g, c, M, ht, rfl, rfl, HRo, HM, HI, HW⟩ := hrel
            have ht0 : (0 : Int) ≤ (t : Int) := by omega
            by_cases hlt : t < n
            · have ht1 : (t : Int) < (n : Int) := by omega
              obtain ⟨C, hC⟩ : ∃ C, kahn D t = C := ⟨_, rfl⟩
              have HKd : Hid (Kd D C) := Lib.hid (hC ▸ kahn_kd D t)
              have hCl : C.length ≤ t := hC ▸ kahn_le D t
              rw [hC] at HRo HI
              rw [hC]
              have HC9 := Lib.hid hC
              clear hC
              obtain ⟨len, hlen⟩ : ∃ l, C.length = l := ⟨_, rfl⟩
              rw [hlen] at HRo hCl
              rw [hlen]
              have HL := Lib.hid hlen
              clear hlen
              go_wp2_with fail
              go_loopw [7, 44] (fun ov iv wr4 => ∃ i : Nat, i ≤ n ∧ iv = .int .i64 (i : Int) ∧ ov = .slice (some ⟨g, 0, none⟩) len c ∧ Hid (∀ j, j < i → freeD D C j = false) ∧ wr4 = wr) (fun _ iv _ => n - (intOf iv).toNat)
              case atStart => exact ⟨0, Nat.zero_le _, rfl, rfl, Lib.hid (fun j hj => by omega), rfl⟩
              case round =>
                obtain ⟨i, hi, rfl, rfl, HF, rfl⟩ := hrel
                have hi0 : (0 : Int) ≤ (i : Int) := by omega
                by_cases hli : i < n
                · have hi1 : (i : Int) < (n : Int) := by omega
                  have hhas : Maps.has M (ik i) = !C.contains i := (HI.out.2 i hli).1
                  cases hcon : C.contains i with
                  | true =>
                    have hh : Maps.has M (.int .i64 (i : Int)) = false := by rw [hhas, hcon]; rfl
                    have HF1 : Hid (∀ j, j < i + 1 → freeD D C j = false) := Lib.hid (fun j hj => by by_cases e : j = i; (subst e; exact freeD_taken hcon); exact HF.out j (by omega))
                    have Hh := Lib.hid hh
                    clear hhas hcon hh HF
                    go_wp2_with (at_lookup; refine wpList_lookup_own_ok_int _ rfl _ _ 133 rfl 2 2 .i64 law_z Try.underlying133 Try.underlying2 (zero_z _) B _ M rfl HM.out _ _ rfl (keyOf_int_mk Try.underlying2 (wf_nat (by omega))) ?_)
                    intro c9 hat hwc
                    rw [Hh.out]
                    clear hat hwc
                    go_wp2_with fail
                    go_roundw
                    case rel => exact ⟨i + 1, by omega, by go_num, rfl, HF1, by first | trivial | rfl⟩
                    case measure => simp [intOf]; omega
                  | false =>
                    have hh : Maps.has M (.int .i64 (i : Int)) = true := by rw [hhas, hcon]; rfl
                    have Hh := Lib.hid hh
                    have Hcon := Lib.hid hcon
                    clear hhas hh hcon
                    go_wp2_with (at_lookup; refine wpList_lookup_own_ok_int _ rfl _ _ 133 rfl 2 2 .i64 law_z Try.underlying133 Try.underlying2 (zero_z _) B _ M rfl HM.out _ _ rfl (keyOf_int_mk Try.underlying2 (wf_nat (by omega))) ?_)
                    intro c9 hat hwc
                    rw [Hh.out]
                    have hcv : c9 = (cntP D C n i : Int) := HI.out.at hli (by show (!C.contains i) = true; rw [Hcon.out]; rfl) hat
                    clear hat hwc
                    by_cases hp : 0 < c9
                    · have HF1 : Hid (∀ j, j < i + 1 → freeD D C j = false) := Lib.hid (fun j hj => by by_cases e : j = i; (subst e; exact freeD_fed (by rw [HN.out]; omega)); exact HF.out j (by omega))
                      clear hcv HF
                      go_wp2_with fail
                      go_roundw
                      case rel => exact ⟨i + 1, by omega, by go_num, rfl, HF1, by first | trivial | rfl⟩
                      case measure => simp [intOf]; omega
                    · have hfree : freeD D C i = true := freeD_free Hcon.out (by rw [HN.out]; omega)
                      have hpick : pickD D C = some i := pickD_hit (by rw [HN.out]; exact hli) hfree HF.out
                      have Hf := Lib.hid hfree
                      have HK9 : Hid (kahn D (t + 1) = C ++ [i]) := Lib.hid (by rw [← HC9.out]; exact kahn_hit (by rw [HC9.out]; exact hpick))
                      clear hfree hpick hcv HF
                      go_wp2_with (at_delete; refine wpList_delete_own _ rfl _ _ 133 2 rfl 2 law_z Try.underlying133 _ B _ M rfl HM.out _ _ rfl (keyOf_int_mk Try.underlying2 (wf_nat (by omega))) ?_)
                      intro w3 hown3 hturn3
                      have hs3 := hturn3.grown
                      have HM3 := Lib.hid (hown3.alloc (.cells #[.int .i64 (i : Int)] 2))
                      have HW3 : Hid (Below B w (w3.alloc (.cells #[.int .i64 (i : Int)] 2))) := Lib.hid ((HW.out.grown hs3 (by have := HW.out.size; rw [HB.out] at this; exact this) (fun j hj => by cases hj; exact Nat.le_refl _)).alloc (by have := HW.out.size; have h8 := hs3.size; rw [HB.out] at this; omega) _)
                      have HR3 : Hid ((w3.alloc (.cells #[.int .i64 (i : Int)] 2)).ownsRow (B + 1) 2 1 (.slice (some ⟨g, 0, none⟩) len c) len (ic (ints C))) := Lib.hid ((HRo.out.kept hs3 (.inr (fun he => by have h8 := (HRo.out.lt g rfl).1; simp only [Value.ownBlock, Option.some.injEq] at he; omega))).alloc _)
                      have Hcell := Lib.hid (show (w3.alloc (.cells #[.int .i64 (i : Int)] 2)).cell? ⟨w3.heap.size, 0, none⟩ = some (.int .i64 (i : Int)) by simp [go_sem])
                      have Hlo := Lib.hid (show B + 1 ≤ (w3.alloc (.cells #[.int .i64 (i : Int)] 2)).heap.size by have h8 := hown3.lt; simp; omega)
                      have hkl : len ≤ 1048576 := by omega
                      have HDs : Hid (Maps.IsMap M) := Lib.hid HI.out.1
                      clear hown3 hturn3 hs3
                      go_wp2_with (at_builtin; refine pushZ rfl rfl _ _ rfl rfl HR3.out w3.heap.size _ (i : Int) rfl Hcell.out hkl Hlo.out ?_)
                      intro gn cn w4 hrow hgrow hgn hgl
                      have hgB : B + 1 ≤ g := (HR3.out.lt g rfl).1
                      have HM4 : Hid (MapAt w4 B (2 * n + t) (M.del (ik i))) := Lib.hid (HM3.out.kept hgrow (by simp only [Value.ownBlock, ne_eq, Option.some.injEq]; omega))
                      have HW4 : Hid (Below B w w4) := Lib.hid (HW3.out.grown hgrow (by have := HM3.out.lt; omega) (fun j hj => by simp only [Value.ownBlock, Option.some.injEq] at hj; omega))
                      have HR4 : Hid (w4.ownsRow (B + 1) 2 1 (.slice (some ⟨gn, 0, none⟩) (len + 1) cn) (len + 1) (ic (ints (C ++ [i])))) := Lib.hid (by rw [ints_push]; exact hrow)
                      clear hrow hgrow hgn hgl HM3 HW3 HR3 Hcell Hlo hgB HM HW HRo
                      have cd : w4.cell? ⟨b, off + i, none⟩ = some (.int .i64 (D.getD i 0)) := by rw [HW4.out.cell (p := ⟨b, off + i, none⟩) (by rw [← HB.out]; exact HBs.out)]; exact HC.out i (by rw [HN.out]; exact hli)
                      have hrk := HR.out i (by rw [HN.out]; exact hli)
                      rw [HN.out] at hrk
                      obtain ⟨z, hz⟩ : ∃ z, D.getD i 0 = z := ⟨_, rfl⟩
                      rw [hz] at cd hrk
                      have Hz := Lib.hid hz
                      clear hz
                      by_cases hs : z = -1
                      · subst hs
                        have HI5 : Hid (MapIs (M.del (ik i)) n (fun j => !(kahn D (t + 1)).contains j) (fun j => (cntP D (kahn D (t + 1)) n j : Int))) := Lib.hid (by rw [HK9.out, ← HN.out]; exact MapIs.leaves (by rw [HN.out]; exact HI.out) Hf.out (by rw [Hz.out]; omega))
                        have Hl1 : Hid ((kahn D (t + 1)).length = len + 1) := Lib.hid (by rw [HK9.out, List.length_append, HL.out]; rfl)
                        have HR5 : Hid (w4.ownsRow (B + 1) 2 1 (.slice (some ⟨gn, 0, none⟩) (kahn D (t + 1)).length cn) (kahn D (t + 1)).length (ic (ints (kahn D (t + 1))))) := Lib.hid (by rw [Hl1.out, HK9.out]; exact HR4.out)
                        clear HI HR4 Hf
                        go_wp2_with fail
                        go_roundw
                        case rel => exact ⟨t + 1, gn, cn, _, by omega, by go_num, by rw [Hl1.out], HR5, Lib.hid (HM4.out.mono (by omega)), HI5, HW4⟩
                        case measure => simp [intOf]; omega
                      · obtain ⟨d, rfl⟩ : ∃ d : Nat, z = (d : Int) := ⟨z.toNat, by omega⟩
                        have hdn : d < n := by omega
                        go_wp2_with (at_lookup; refine wpList_lookup_own_int _ rfl _ _ 133 rfl 2 2 .i64 law_z Try.underlying133 Try.underlying2 (zero_z _) B _ _ rfl HM4.out _ _ rfl (keyOf_int_mk Try.underlying2 (wf_nat (by omega))) ?_)
                        intro c8 hat hwc
                        obtain ⟨hc81, hc82, hI5⟩ := MapIs.takes (by rw [HN.out]; exact HI.out) HKd.out (by rw [HN.out]; exact hli) Hf.out Hz.out (by rw [HN.out]; exact hdn) hat
                        rw [HN.out] at hc82
                        have HI5 : Hid (MapIs ((M.del (ik i)).put (ik d) (iz (c8 - 1))) n (fun j => !(kahn D (t + 1)).contains j) (fun j => (cntP D (kahn D (t + 1)) n j : Int))) := Lib.hid (by rw [HK9.out, ← HN.out]; exact hI5)
                        have Hl1 : Hid ((kahn D (t + 1)).length = len + 1) := Lib.hid (by rw [HK9.out, List.length_append, HL.out]; rfl)
                        clear hI5 hat hwc HI Hf
                        go_wp2_with (at_mapUpdate; refine wpList_mapUpdate_own _ rfl _ _ _ 133 rfl 2 2 law_z Try.underlying133 _ B (2 * n + t) _ rfl HM4.out (by unfold maxLen; omega) _ _ _ rfl rfl (keyOf_int_mk Try.underlying2 (wf_nat (by omega))) _ [] (plainElem_int (a := c8 - 1) Try.underlying2 (wf_int (by omega))) ?_)
                        intro w5 hown5 hgrow5
                        have HM5 := Lib.hid hown5
                        have HW5 : Hid (Below B w w5) := Lib.hid (HW4.out.grown hgrow5 (by have := HW4.out.size; rw [HB.out] at this; exact this) (fun j hj => by cases hj; exact Nat.le_refl _))
                        have HR5 : Hid (w5.ownsRow (B + 1) 2 1 (.slice (some ⟨gn, 0, none⟩) (kahn D (t + 1)).length cn) (kahn D (t + 1)).length (ic (ints (kahn D (t + 1))))) := Lib.hid (by
                          rw [Hl1.out, HK9.out]
                          exact HR4.out.kept hgrow5 (.inr (fun he => by have h8 := (HR4.out.lt gn rfl).1; simp only [Value.ownBlock, Option.some.injEq] at he; omega)))
                        clear hown5 hgrow5 HR4 HM4 HW4
                        go_wp2_with fail
                        go_roundw
                        case rel => exact ⟨t + 1, gn, cn, _, by omega, by go_num, by rw [Hl1.out], HR5, HM5, HI5, HW5⟩
                        case measure => simp [intOf]; omega
                · obtain rfl : n = i := by omega
                  have HK9 : Hid (kahn D (t + 1) = C) := Lib.hid (by rw [← HC9.out]; exact kahn_miss (by rw [HC9.out]; exact pickD_miss (by rw [HN.out]; exact HF.out)))
                  have Hl1 : Hid ((kahn D (t + 1)).length = len) := Lib.hid (by rw [HK9.out, HL.out])
                  have HR5 : Hid (wr.ownsRow (B + 1) 2 1 (.slice (some ⟨g, 0, none⟩) (kahn D (t + 1)).length c) (kahn D (t + 1)).length (ic (ints (kahn D (t + 1))))) := Lib.hid (by rw [Hl1.out, HK9.out]; exact HRo.out)
                  have HI5 : Hid (MapIs M n (fun j => !(kahn D (t + 1)).contains j) (fun j => (cntP D (kahn D (t + 1)) n j : Int))) := Lib.hid (by rw [HK9.out]; exact HI.out)
                  clear HF HRo HI
                  go_wp2_with fail
                  go_roundw
                  case rel => exact ⟨t + 1, g, c, _, by omega, by go_num, by rw [Hl1.out], HR5, Lib.hid (HM.out.mono (by omega)), HI5, HW⟩
                  case measure => simp [intOf]; omega
            · obtain rfl : n = t := by omega
              go_wp2_with fail
              go_ret
              exact ⟨g, c, rfl, HB.out.symm ▸ HRo.out, HB.out.symm ▸ HW.out⟩
end Go.Proofs.Ytckmacnmmloemaa
