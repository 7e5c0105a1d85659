/- Whether a river has a node, and what lies on a way. -/
import Derived.Test.YtnmmhaadkclogaaPath
import Derived.Test.YtnmmhaadkclogaaRivS
import Derived.Test.YtnmmhaadkclogaaValRI
import Derived.Deep.QuietTactic
namespace Go.Proofs.Ytnmmhaadkclogaa
open Go.RowKit
set_option linter.unusedVariables false
set_option linter.unusedSimpArgs false
set_option maxRecDepth 100000
attribute [local irreducible] wpV wpList Code.wp
def nodeB (D M V : List Int) (n : Nat) (i : Int) : Bool := rivB D M V n && (decide (0 ≤ i) && decide (i ≤ (n : Int) - 1))
theorem nodeB_true {D M V : List Int} {n : Nat} {i : Int} (h : nodeB D M V n i = true) : rivB D M V n = true ∧ 0 ≤ i ∧ i ≤ (n : Int) - 1 := by
  unfold nodeB at h
  simpa [Bool.and_eq_true, decide_eq_true_eq] using h
theorem nodeB_no {D M V : List Int} {n : Nat} {i : Int} (h : rivB D M V n = false) : nodeB D M V n i = false := by unfold nodeB; rw [h, Bool.false_and]
set_option maxHeartbeats 4000000 in
theorem hasNode_i (a0 a1 a2 : Option Addr) (l0 n l2 c0 c1 c2 : Nat) (D M V : List Int) (i : Int) (w : World) (h0 : RowC w a0 (ic D)) (h1 : RowC w a1 (ic M)) (h2 : RowC w a2 (ic V)) (hD : D.length = l0) (hM : M.length = n * 4) (hV : V.length = l2) (hl : l0 ≤ 1048576 ∧ n ≤ 1048576 ∧ l2 ≤ 1048576) (hw : (Lit.int .i64 i).wf = true) :
    Calls Try.prog 64 #[.agg #[.slice a0 l0 c0, .slice a1 n c1, .slice a2 l2 c2], .int .i64 i] w (SayB (nodeB D M V n i) w) := by
  have hbl := bel1 w (.cells #[.slice a0 l0 c0, .slice a1 n c1, .slice a2 l2 c2] 30)
  have HC := Lib.hid (validRiver_i a0 a1 a2 l0 n l2 c0 c1 c2 D M V (w.alloc (.cells #[.slice a0 l0 c0, .slice a1 n c1, .slice a2 l2 c2] 30)) (h0.below hbl (Nat.le_refl _)) (h1.below hbl (Nat.le_refl _)) (h2.below hbl (Nat.le_refl _)) hD hM hV hl)
  have HX := Lib.hid (Bx.new w [.slice a0 l0 c0, .slice a1 n c1, .slice a2 l2 c2] 30)
  have HL := Lib.hid hbl
  have HD := Lib.hid hD
  obtain ⟨bb, hbb⟩ : ∃ b, rivB D M V n = b := ⟨_, rfl⟩
  rw [hbb] at HC
  have HBB := Lib.hid hbb
  obtain ⟨R, hR⟩ : ∃ R, nodeB D M V n i = R := ⟨_, rfl⟩
  rw [hR]
  have HR := Lib.hid hR
  obtain ⟨hl0, hl1, hl2⟩ := hl
  clear h0 h1 h2 hD hM hV hbb hbl hR
  go_enter Try.func64, Try.ntmps64
  go_wp2_with fail
  refine HC.out.mono ?_
  rintro e w1 ⟨b9, hb9, rfl, hb⟩
  subst hb9
  have HX1 := Lib.hid (HX.out.below hb HX.out.1)
  have HB1 : Hid (Below w.heap.size w w1) := Lib.hid (HL.out.trans (hb.mono (by simp)))
  clear HC HX hb HL
  have x0 := HX1.out.c 0 rfl
  cases bb
  · have HV : Hid (R = false) := Lib.hid (by rw [← HR.out]; exact nodeB_no HBB.out)
    go_wp2_with fail
    go_ret
    exact ⟨_, HV.out, rfl, HB1.out⟩
  · have HN : Hid (l0 = n) := Lib.hid (by have h9 := (rivB_true HBB.out).1; have h8 := HD.out; omega)
    have hRv : R = (decide (0 ≤ i) && decide (i < (l0 : Int))) := by
      rw [← HR.out]; unfold nodeB
      rw [HBB.out, Bool.true_and, HN.out]
      congr 1
      exact decide_eq_decide.2 (by omega)
    have HRv := Lib.hid hRv
    clear hRv
    by_cases h1 : 0 ≤ i
    · by_cases h2 : i < (l0 : Int)
      · go_wp2_with fail
        go_ret
        exact ⟨_, by rw [HRv.out]; simp [h1, h2], rfl, HB1.out⟩
      · go_wp2_with fail
        go_ret
        exact ⟨_, by rw [HRv.out]; simp [h1, h2], rfl, HB1.out⟩
    · go_wp2_with fail
      go_ret
      exact ⟨_, by rw [HRv.out, decide_eq_false (by omega), Bool.false_and], rfl, HB1.out⟩
set_option maxHeartbeats 4000000 in
theorem l06Has_any (pa : Nat) (a0 a1 a2 : Option Addr) (l0 n l2 c0 c1 c2 : Nat) (D M V : List Int) (i : Int) (w : World) (hpa : Bx w pa [.slice a0 l0 c0, .slice a1 n c1, .slice a2 l2 c2]) (h0 : RowC w a0 (ic D)) (h1 : RowC w a1 (ic M)) (h2 : RowC w a2 (ic V)) (hD : D.length = l0) (hM : M.length = n * 4) (hV : V.length = l2) (hl : l0 ≤ 1048576 ∧ n ≤ 1048576 ∧ l2 ≤ 1048576) (hw : (Lit.int .i64 i).wf = true) :
    Calls Try.prog 61 #[.pointer (some ⟨pa, 0, none⟩), .int .i64 i] w fun e w' => e = .returned (.bool (nodeB D M V n i)) ∧ ∃ m, w' = w.drewN m := by
  have HC := Lib.hid (l06Is_any pa a0 a1 a2 l0 n l2 c0 c1 c2 D M V w hpa h0 h1 h2 hD hM hV hl)
  have HX := Lib.hid hpa
  have HD := Lib.hid hD
  obtain ⟨bb, hbb⟩ : ∃ b, rivB D M V n = b := ⟨_, rfl⟩
  rw [hbb] at HC
  have HBB := Lib.hid hbb
  obtain ⟨R, hR⟩ : ∃ R, nodeB D M V n i = R := ⟨_, rfl⟩
  rw [hR]
  have HR := Lib.hid hR
  obtain ⟨hl0, hl1, hl2⟩ := hl
  clear h0 h1 h2 hD hM hV hbb hR hpa
  go_enter Try.func61, Try.ntmps61
  go_wp2_with fail
  refine HC.out.mono ?_
  rintro e w1 ⟨rfl, m, hw1⟩
  have HX1 : Hid (Bx w1 pa [.slice a0 l0 c0, .slice a1 n c1, .slice a2 l2 c2]) := Lib.hid (by rw [hw1]; exact HX.out.drewN m)
  have HW1 := Lib.hid hw1
  clear HC HX hw1
  have x0 := HX1.out.c 0 rfl
  cases bb
  · have HV : Hid (R = false) := Lib.hid (by rw [← HR.out]; exact nodeB_no HBB.out)
    go_wp2_with fail
    go_ret
    rw [HV.out]
    exact ⟨rfl, m, HW1.out⟩
  · have HN : Hid (l0 = n) := Lib.hid (by have h9 := (rivB_true HBB.out).1; have h8 := HD.out; omega)
    have HRv : Hid ((decide (0 ≤ i) && decide (i ≤ (l0 : Int) - 1)) = R) := Lib.hid (by rw [← HR.out]; unfold nodeB; rw [HBB.out, Bool.true_and, HN.out])
    have hl12 : 1 ≤ l0 := by have h9 := (rivB_true HBB.out).1; have h8 := HD.out; omega
    have hl9 : (0 : Int) ≤ (l0 : Int) - 1 := by omega
    go_wp2_with fail
    refine (inZ_any i 0 _ _).mono ?_
    rintro e w' ⟨b2, hb2, rfl, rfl⟩
    rw [HRv.out] at hb2
    subst hb2
    go_wp2_with fail
    go_ret
    exact ⟨by cases R <;> rfl, m, HW1.out⟩
set_option maxHeartbeats 2000000 in
theorem index_any (a : Option Addr) (m cap : Nat) (zs : List Int) (v : Int) (w : World) (h : RowC w a (ic zs)) (hlen : zs.length = m) (hl : m ≤ 1048576) :
    Calls Try.prog 96 #[.slice a m cap, .int .i64 v] w fun e w' => ∃ r : Int, e = .returned (.int .i64 r) ∧ decide (0 ≤ r) = zs.contains v ∧ w = w' := by
  have Hrow := Lib.hid h
  have Hlen := Lib.hid hlen
  clear h hlen
  go_enter Try.func96, Try.ntmps96
  go_wp2_with fail
  go_loopw [5, 8] (fun jv iv wr => ∃ k : Nat, k ≤ m ∧ iv = .int .i64 (k : Int) ∧ Hid (∀ j, j < k → zs.getD j 0 ≠ v) ∧ w = wr) (fun _ iv _ => m - (intOf iv).toNat)
  case atStart => exact ⟨0, Nat.zero_le _, rfl, Lib.hid (fun j hj => by omega), rfl⟩
  case round =>
    obtain ⟨k, hk, rfl, HA, rfl⟩ := hrel
    have hk0 : (0 : Int) ≤ (k : Int) := by omega
    by_cases hlt : k < m
    · have hk1 : (k : Int) < (m : Int) := by omega
      obtain ⟨b, off, rfl, hb, hc⟩ := Hrow.out.cells (fun h9 => by have h8 := Hlen.out; rw [h9, List.length_nil] at h8; omega)
      have cz := hc k (by rw [Hlen.out]; exact hlt)
      obtain ⟨z, hz⟩ : ∃ z, zs.getD k 0 = z := ⟨_, rfl⟩
      rw [hz] at cz
      have Hz := Lib.hid hz
      clear hc hb hz
      by_cases hvz : v = z
      · have Hy : Hid (zs.contains v = true) := Lib.hid (by
          rw [List.contains_iff_mem, hvz, ← Hz.out, List.getD_eq_getElem?_getD, List.getElem?_eq_getElem (by rw [Hlen.out]; exact hlt)]
          exact List.getElem_mem _)
        go_wp2_with fail
        go_ret
        exact ⟨(k : Int), rfl, by rw [Hy.out]; exact decide_eq_true hk0, rfl⟩
      · have HA1 : Hid (∀ j, j < k + 1 → zs.getD j 0 ≠ v) := Lib.hid (fun j hj => by
          by_cases e : j = k
          · subst e; rw [Hz.out]; exact fun e => hvz e.symm
          · exact HA.out j (by omega))
        go_wp2_with fail
        go_roundw
        case rel => exact ⟨k + 1, by omega, by go_num, HA1, by first | trivial | rfl⟩
        case measure => simp [intOf]; omega
    · obtain rfl : m = k := by omega
      have Hy : Hid (zs.contains v = false) := Lib.hid (by
        rw [← Bool.not_eq_true, List.contains_iff_mem]
        intro hm
        obtain ⟨j, hj, hv⟩ := List.getElem_of_mem hm
        refine HA.out j (by rw [← Hlen.out]; exact hj) ?_
        rw [List.getD_eq_getElem?_getD, List.getElem?_eq_getElem hj]
        exact hv)
      go_wp2_with fail
      go_ret
      exact ⟨-1, rfl, by rw [Hy.out]; rfl, rfl⟩
theorem contains_any (a : Option Addr) (m cap : Nat) (zs : List Int) (v : Int) (w : World) (h : RowC w a (ic zs)) (hlen : zs.length = m) (hl : m ≤ 1048576) :
    Calls Try.prog 75 #[.slice a m cap, .int .i64 v] w fun e w' => e = .returned (.bool (zs.contains v)) ∧ w = w' := by
  have HC := Lib.hid (index_any a m cap zs v w h hlen hl)
  obtain ⟨b, hb⟩ : ∃ b, zs.contains v = b := ⟨_, rfl⟩
  rw [hb] at HC ⊢
  clear h hlen hl hb
  go_enter Try.func75, Try.ntmps75
  go_wp2_with fail
  refine HC.out.mono ?_
  rintro e w' ⟨r, rfl, hr, rfl⟩
  subst hr
  clear HC
  by_cases h9 : 0 ≤ r
  · go_wp2_with fail
    go_ret
    exact ⟨by first | rfl | (rw [decide_eq_true h9]; rfl), rfl⟩
  · go_wp2_with fail
    go_ret
    exact ⟨by first | rfl | (rw [decide_eq_false (by omega)]; rfl), rfl⟩
theorem walkD_add (D : List Int) : ∀ (k j : Nat) (z : Int), walkD D k (walkD D j z) = walkD D (j + k) z
  | 0, j, z => rfl
  | k + 1, j, z => by rw [walkD_succ, walkD_add D k j z, ← walkD_succ]; rfl
theorem IsWay.same {D : List Int} {i m q : Nat} (h : IsWay D i m) (g : IsWay D i q) : m = q := by
  rcases Nat.lt_trichotomy m q with h9 | h9 | h9
  · have h1 := g.on m h9; have h2 := h.out; omega
  · exact h9
  · have h1 := h.on q h9; have h2 := g.out; omega
/-- How many nodes are left on a way. -/
def restL (D : List Int) (z : Int) : Nat := if z < 0 then 0 else wayLen D z.toNat
theorem restL_eq {D : List Int} {i m j : Nat} (h : IsWay D i m) (hj : j ≤ m) : restL D (walkD D j (i : Int)) = m - j := by
  unfold restL
  by_cases hjm : j < m
  · have hz := h.on j hjm
    rw [if_neg (by omega)]
    obtain ⟨x, hx⟩ : ∃ x : Nat, walkD D j (i : Int) = (x : Int) := ⟨(walkD D j (i : Int)).toNat, by omega⟩
    rw [hx, Int.toNat_natCast]
    have hw : IsWay D x (m - j) := by
      refine ⟨?_, fun k hk => ?_, by have := h.le; omega, by omega⟩
      · rw [← hx, walkD_add, show j + (m - j) = m by omega]; exact h.out
      · rw [← hx, walkD_add]; exact h.on _ (by omega)
    exact (wayLen_is (walkD_le hw.out hw.le)).same hw
  · obtain rfl : j = m := by omega
    rw [if_pos h.out]; omega
def zOf : Value → Int
  | .int _ z => z
  | _ => 0
theorem pathP_contains {D : List Int} {m i j : Nat} {v : Int} (hj : j < m) (h : walkD D j (i : Int) = v) : (pathP D m i).contains v = true := by
  rw [List.contains_iff_mem]
  unfold pathP
  rw [List.mem_map]
  exact ⟨j, List.mem_range.2 hj, h⟩
theorem pathP_contains_no {D : List Int} {m i : Nat} {v : Int} (h : ∀ j, j < m → walkD D j (i : Int) ≠ v) : (pathP D m i).contains v = false := by
  rw [← Bool.not_eq_true, List.contains_iff_mem]
  unfold pathP
  rw [List.mem_map]
  rintro ⟨j, hj, hv⟩
  exact h j (List.mem_range.1 hj) hv
set_option maxHeartbeats 2000000 in
theorem l06Comes_any (pa b off n c0 i m : Nat) (v1 v2 : Value) (D : List Int) (v : Int) (w : World) (hpa : Bx w pa [.slice (some ⟨b, off, none⟩) n c0, v1, v2]) (hc : ∀ i, i < D.length → w.cell? ⟨b, off + i, none⟩ = some (.int .i64 (D.getD i 0))) (hn : D.length = n) (hl : n ≤ 12) (hi : i < n) (hr : ∀ j, j < D.length → -1 ≤ D.getD j 0 ∧ D.getD j 0 ≤ (D.length : Int) - 1) (hm : IsWay D i m) :
    Calls Try.prog 72 #[.pointer (some ⟨pa, 0, none⟩), .int .i64 (i : Int), .int .i64 v] w fun e w' => e = .returned (.bool ((pathP D m i).contains v)) ∧ w = w' := by
  have HC := Lib.hid hc
  have HN := Lib.hid hn
  have HM := Lib.hid hm
  have HIn : Hid (∀ k, -1 ≤ walkD D k (i : Int) ∧ walkD D k (i : Int) ≤ (n : Int) - 1) := Lib.hid (fun k => by have h9 := walkD_in hr (i := i) (by omega) k; rw [hn] at h9; exact h9)
  have hm13 : m ≤ 13 := by have := hm.le; omega
  have p0 := hpa.c 0 rfl
  obtain ⟨R, hR⟩ : ∃ R, (pathP D m i).contains v = R := ⟨_, rfl⟩
  rw [hR]
  have HR := Lib.hid hR
  clear hR
  clear hc hn hm hr hpa
  go_enter Try.func72, Try.ntmps72
  go_wp2_with fail
  go_loopw [7] (fun zv wr => ∃ j : Nat, j ≤ m ∧ zv = .int .i64 (walkD D j (i : Int)) ∧ Hid (∀ t, t < j → walkD D t (i : Int) ≠ v) ∧ w = wr) (fun zv _ => restL D (zOf zv))
  case atStart => exact ⟨0, Nat.zero_le _, rfl, Lib.hid (fun t ht => by omega), rfl⟩
  case round =>
    obtain ⟨j, hj, rfl, HA, rfl⟩ := hrel
    have Hms := Lib.hid (restL_eq HM.out hj)
    have Hms1 : Hid (j < m → restL D (walkD D (j + 1) (i : Int)) = m - (j + 1)) := Lib.hid (fun h => restL_eq HM.out h)
    obtain ⟨z, hz⟩ : ∃ z, walkD D j (i : Int) = z := ⟨_, rfl⟩
    have hzin := HIn.out j
    rw [hz] at hzin Hms ⊢
    obtain ⟨hz1, hz2⟩ := hzin
    have Hz := Lib.hid hz
    clear hz
    by_cases hzn : 0 ≤ z
    · have hjm : j < m := by
        rcases Nat.lt_or_ge j m with h9 | h9
        · exact h9
        · have h8 := HM.out.out
          have h7 : j = m := by omega
          rw [← h7, Hz.out] at h8
          omega
      by_cases hvz : z = v
      · have Hy : Hid ((pathP D m i).contains v = true) := Lib.hid (pathP_contains hjm (by rw [Hz.out]; exact hvz))
        go_wp2_with fail
        go_ret
        rw [show R = true from HR.out.symm.trans Hy.out]
        exact ⟨rfl, rfl⟩
      · obtain ⟨x, rfl⟩ : ∃ x : Nat, z = (x : Int) := ⟨z.toNat, by omega⟩
        have hx1 : (x : Int) < (n : Int) := by omega
        have cd := HC.out x (by rw [HN.out]; omega)
        have Hnx : Hid (walkD D (j + 1) (i : Int) = D.getD x 0) := Lib.hid (by rw [walkD_succ, Hz.out]; unfold nxt; rw [if_neg (by omega), Int.toNat_natCast])
        have HA1 : Hid (∀ t, t < j + 1 → walkD D t (i : Int) ≠ v) := Lib.hid (fun t ht => by
          by_cases e : t = j
          · subst e; rw [Hz.out]; exact hvz
          · exact HA.out t (by omega))
        have Hms2 : Hid (restL D (D.getD x 0) = m - (j + 1)) := Lib.hid (by rw [← Hnx.out]; exact Hms1.out hjm)
        go_wp2_with fail
        go_roundw
        case rel => exact ⟨j + 1, by omega, by rw [Hnx.out, List.getD_eq_getElem?_getD], HA1, by first | trivial | rfl⟩
        case measure => have h1 := Hms.out; have h2 := Hms2.out; rw [List.getD_eq_getElem?_getD] at h2; simp only [zOf, h1, h2]; omega
    · have hjm : j = m := by
        rcases Nat.lt_or_ge j m with h9 | h9
        · have h8 := HM.out.on j h9; rw [Hz.out] at h8; omega
        · omega
      have Hy : Hid ((pathP D m i).contains v = false) := Lib.hid (pathP_contains_no (fun t ht => HA.out t (by omega)))
      go_wp2_with fail
      go_ret
      rw [show R = false from HR.out.symm.trans Hy.out]
      exact ⟨rfl, rfl⟩
end Go.Proofs.Ytnmmhaadkclogaa
