/- Where the ways of two nodes meet. -/
import Derived.Test.YtnmmhaadkclogaaUpI
namespace Go.Proofs.Ytnmmhaadkclogaa
open Go.RowKit
set_option linter.unusedVariables false
set_option linter.unusedSimpArgs false
set_option maxRecDepth 100000
attribute [local irreducible] wpV wpList Code.wp

def meetQ (D : List Int) (k : Nat) (x : Int) : Bool := (pathP D (wayLen D k) k).contains x
def meetV (D : List Int) (i k : Nat) : Int × Bool := match (pathP D (wayLen D i) i).find? (meetQ D k) with
  | some x => (x, true)
  | none => (0, false)
def meetR (D M V : List Int) (n : Nat) (i k : Int) : Int × Bool := if nodeB D M V n i && nodeB D M V n k then meetV D i.toNat k.toNat else (0, false)
theorem rivB_way3 {D M V : List Int} {n k : Nat} (h : rivB D M V n = true) (hk : k < D.length) : IsWay D k (wayLen D k) := wayLen_is ((rivB_true h).2.2 k hk)
theorem find_hit {q : Int → Bool} {f : Nat → Int} : ∀ {m j : Nat}, j < m → (∀ t, t < j → q (f t) = false) → q (f j) = true → ((List.range m).map f).find? q = some (f j)
  | 0, j, h, _, _ => by omega
  | m + 1, j, h, ha, hb => by
    rw [List.range_succ, List.map_append, List.find?_append]
    by_cases hj : j < m
    · rw [find_hit hj ha hb]; rfl
    · obtain rfl : j = m := by omega
      have h1 : ((List.range j).map f).find? q = none := by
        rw [List.find?_eq_none]
        intro x hx
        obtain ⟨t, ht, rfl⟩ := List.mem_map.1 hx
        rw [ha t (List.mem_range.1 ht)]; decide
      rw [h1]
      simp [hb]
theorem find_miss {q : Int → Bool} {f : Nat → Int} {m : Nat} (ha : ∀ t, t < m → q (f t) = false) : ((List.range m).map f).find? q = none := by
  rw [List.find?_eq_none]
  intro x hx
  obtain ⟨t, ht, rfl⟩ := List.mem_map.1 hx
  rw [ha t (List.mem_range.1 ht)]; decide
theorem meetV_hit {D : List Int} {i k m j : Nat} (hm : wayLen D i = m) (hj : j < m) (ha : ∀ t, t < j → meetQ D k (walkD D t (i : Int)) = false) (hb : meetQ D k (walkD D j (i : Int)) = true) : meetV D i k = (walkD D j (i : Int), true) := by
  unfold meetV pathP; rw [hm, find_hit hj ha hb]
theorem meetV_miss {D : List Int} {i k m : Nat} (hm : wayLen D i = m) (ha : ∀ t, t < m → meetQ D k (walkD D t (i : Int)) = false) : meetV D i k = (0, false) := by
  unfold meetV pathP; rw [hm, find_miss ha]
set_option maxHeartbeats 8000000 in
theorem meetingOf_s (a0 a1 a2 : Option Addr) (l0 n l2 c0 c1 c2 : Nat) (D M V : List Int) (i : Int) (k : Int) (w : World) (hwi : (Lit.int .i64 i).wf = true) (hwk : (Lit.int .i64 k).wf = true) (h0 : RowC w a0 (ic D)) (h1 : RowC w a1 (ic M)) (h2 : RowC w a2 (ic V)) (hD : D.length = l0) (hM : M.length = n * 4) (hV : V.length = l2) (hl : l0 ≤ 1048576 ∧ n ≤ 1048576 ∧ l2 ≤ 1048576) :
    Calls Try.prog 40 #[.agg #[.slice a0 l0 c0, .slice a1 n c1, .slice a2 l2 c2], .int .i64 i, .int .i64 k] w (SayZB (meetR D M V n i k) w) := by
  obtain ⟨R, hR⟩ : ∃ R, meetR D M V n i k = R := ⟨_, rfl⟩
  rw [hR]
  have HR := Lib.hid hR
  clear hR
  have hbl : Below w.heap.size w (w.alloc (.cells #[.slice a0 l0 c0, .slice a1 n c1, .slice a2 l2 c2] 30)) := bel1 w (.cells #[.slice a0 l0 c0, .slice a1 n c1, .slice a2 l2 c2] 30)
  have hbx : Bx (w.alloc (.cells #[.slice a0 l0 c0, .slice a1 n c1, .slice a2 l2 c2] 30)) w.heap.size [.slice a0 l0 c0, .slice a1 n c1, .slice a2 l2 c2] := Bx.new w [.slice a0 l0 c0, .slice a1 n c1, .slice a2 l2 c2] 30
  have HC := Lib.hid (l06Has_any w.heap.size a0 a1 a2 l0 n l2 c0 c1 c2 D M V i (w.alloc (.cells #[.slice a0 l0 c0, .slice a1 n c1, .slice a2 l2 c2] 30)) hbx (h0.below hbl (Nat.le_refl _)) (h1.below hbl (Nat.le_refl _)) (h2.below hbl (Nat.le_refl _)) hD hM hV hl hwi)
  have HX := Lib.hid hbx
  have HL0 := Lib.hid hbl
  have H0 := Lib.hid h0
  have H1 := Lib.hid h1
  have H2 := Lib.hid h2
  obtain ⟨bb, hbb⟩ : ∃ b, nodeB D M V n i = b := ⟨_, rfl⟩
  rw [hbb] at HC
  have HBB := Lib.hid hbb
  have HM := Lib.hid hM
  have HD := Lib.hid hD
  have HVl := Lib.hid hV
  have HL := Lib.hid hl
  clear h0 h1 h2 hD hM hV hl hbb hbl hbx
  go_enter Try.func40, Try.ntmps40
  go_wp2_with fail
  refine HC.out.mono ?_
  rintro e w1 ⟨rfl, m, hw1⟩
  have HB1 : Hid (Below w.heap.size w w1) := Lib.hid (by rw [hw1]; exact below_drewN HL0.out _)
  have HX1 : Hid (Bx w1 w.heap.size [.slice a0 l0 c0, .slice a1 n c1, .slice a2 l2 c2]) := Lib.hid (by rw [hw1]; exact HX.out.drewN m)
  clear hw1 HC HX HL0
  cases bb
  · have hv : R = (0, false) := by rw [← HR.out]; unfold meetR; rw [HBB.out]; rfl
    have HV := Lib.hid hv
    clear hv
    go_wp2_with fail
    rw [HV.out]
    exact bodyPost_ret (v := .tuple #[.int .i64 0, .bool false]) (by first | (simp [results, Try.results40, go_sem]; done) | (simp (maxDischargeDepth := 12) [results, Try.results40, go_sem]; done) | (simp (maxDischargeDepth := 12) [results, Try.results40, go_sem]; rfl)) rfl (⟨rfl, HB1.out⟩)
  have hC2 := l06Has_any w.heap.size a0 a1 a2 l0 n l2 c0 c1 c2 D M V k w1 HX1.out (H0.out.below HB1.out (Nat.le_refl _)) (H1.out.below HB1.out (Nat.le_refl _)) (H2.out.below HB1.out (Nat.le_refl _)) HD.out HM.out HVl.out HL.out hwk
  obtain ⟨b2, hb2⟩ : ∃ b, nodeB D M V n k = b := ⟨_, rfl⟩
  rw [hb2] at hC2
  have HC2 := Lib.hid hC2
  have HB2 := Lib.hid hb2
  clear hC2 hb2
  have x0 := HX1.out.c 0 rfl
  have x1 := HX1.out.c 1 rfl
  have x2 := HX1.out.c 2 rfl
  go_wp2_with fail
  refine HC2.out.mono ?_
  rintro e w2 ⟨rfl, m2, hw2⟩
  have HBa : Hid (Below w.heap.size w w2) := Lib.hid (by rw [hw2]; exact below_drewN HB1.out _)
  have HXa : Hid (Bx w2 w.heap.size [.slice a0 l0 c0, .slice a1 n c1, .slice a2 l2 c2]) := Lib.hid (by rw [hw2]; exact HX1.out.drewN m2)
  clear hw2 HC2 HX1 HB1 x0 x1 x2
  cases b2
  · have hv : R = (0, false) := by rw [← HR.out]; unfold meetR; rw [HBB.out, HB2.out]; rfl
    have HV := Lib.hid hv
    clear hv
    go_wp2_with fail
    rw [HV.out]
    exact bodyPost_ret (v := .tuple #[.int .i64 0, .bool false]) (by first | (simp [results, Try.results40, go_sem]; done) | (simp (maxDischargeDepth := 12) [results, Try.results40, go_sem]; done) | (simp (maxDischargeDepth := 12) [results, Try.results40, go_sem]; rfl)) rfl ⟨rfl, HBa.out⟩
  have HRv : Hid (rivB D M V n = true) := Lib.hid (nodeB_true HBB.out).1
  have HT := Lib.hid (rivB_true HRv.out)
  have hni := (nodeB_true HBB.out).2
  obtain ⟨i, rfl⟩ := Int.eq_ofNat_of_zero_le hni.1
  have hin : i < n := by omega
  clear hni
  obtain ⟨hk0, hk9⟩ := (nodeB_true HB2.out).2
  obtain ⟨k, rfl⟩ := Int.eq_ofNat_of_zero_le hk0
  have hkn : k < n := by omega
  clear hk0 hk9
  obtain rfl : l0 = n := by have h7 := HT.out.1; have h8 := HD.out; omega
  have hl12 : l0 ≤ 12 := by have h7 := HT.out.1; omega
  obtain ⟨b, o, rfl, hb, hc⟩ := H0.out.cells (fun h9 => by have h7 := HT.out.1; rw [h9, List.length_nil] at h7; omega)
  have HC := Lib.hid hc
  have HBo := Lib.hid hb
  clear hb hc
  have HVm : Hid (R = meetV D i k) := Lib.hid (by rw [← HR.out]; unfold meetR; rw [HBB.out, HB2.out]; rfl)
  obtain ⟨mi, hmi⟩ : ∃ m, wayLen D i = m := ⟨_, rfl⟩
  obtain ⟨mk, hmk⟩ : ∃ m, wayLen D k = m := ⟨_, rfl⟩
  have HMi : Hid (IsWay D i mi) := Lib.hid (hmi ▸ rivB_way3 HRv.out (by rw [HD.out]; exact hin))
  have HMk : Hid (IsWay D k mk) := Lib.hid (hmk ▸ rivB_way3 HRv.out (by rw [HD.out]; exact hkn))
  have Hmi := Lib.hid hmi
  have HQ : Hid (∀ x, (pathP D mk k).contains x = meetQ D k x) := Lib.hid (fun x => by unfold meetQ; rw [hmk])
  have hmi13 : mi ≤ 13 := by have h9 := HMi.out.le; have h8 := HD.out; omega
  have hmk13 : mk ≤ 13 := by have h9 := HMk.out.le; have h8 := HD.out; omega
  clear hmi hmk
  have HIn : Hid (∀ j, -1 ≤ walkD D j (i : Int) ∧ walkD D j (i : Int) ≤ (l0 : Int) - 1) := Lib.hid (fun j => by have h9 := walkD_in (rivB_range HRv.out) (i := i) (by rw [HD.out]; exact hin) j; rw [HD.out] at h9; exact h9)
  have HCm : Hid (∀ v, Calls Try.prog 72 #[.pointer (some ⟨w.heap.size, 0, none⟩), .int .i64 (k : Int), .int .i64 v] w2 fun e w' => e = .returned (.bool (meetQ D k v)) ∧ w2 = w') := Lib.hid (fun v => by rw [← HQ.out]; exact l06Comes_any w.heap.size b o l0 c0 k mk (.slice a1 l0 c1) (.slice a2 l2 c2) D v w2 HXa.out (fun j hj => by rw [HBa.out.cell (p := ⟨b, o + j, none⟩) HBo.out]; exact HC.out j hj) HD.out hl12 hkn (rivB_range HRv.out) HMk.out)
  have x0 := HXa.out.c 0 rfl
  go_wp2_with fail
  go_loopw [8] (fun zv wr => ∃ j : Nat, j ≤ mi ∧ zv = .int .i64 (walkD D j (i : Int)) ∧ Hid (∀ t, t < j → meetQ D k (walkD D t (i : Int)) = false) ∧ w2 = wr) (fun zv _ => restL D (zOf zv))
  case atStart => exact ⟨0, Nat.zero_le _, rfl, Lib.hid (fun t ht => by omega), rfl⟩
  case round =>
  obtain ⟨j, hj, rfl, HA, rfl⟩ := hrel
  have Hms := Lib.hid (restL_eq HMi.out hj)
  have Hms1 : Hid (j < mi → restL D (walkD D (j + 1) (i : Int)) = mi - (j + 1)) := Lib.hid (fun h => restL_eq HMi.out h)
  obtain ⟨z, hz⟩ : ∃ z, walkD D j (i : Int) = z := ⟨_, rfl⟩
  have hzin := HIn.out j
  rw [hz] at hzin Hms ⊢
  obtain ⟨hz1, hz2⟩ := hzin
  have Hz := Lib.hid hz
  clear hz
  by_cases hzn : 0 ≤ z
  · have hjm : j < mi := by
      rcases Nat.lt_or_ge j mi with h9 | h9
      · exact h9
      · have h8 := HMi.out.out
        have h7 : j = mi := by omega
        rw [← h7, Hz.out] at h8
        omega
    have hcz := HCm.out z
    obtain ⟨bq, hbq⟩ : ∃ bq, meetQ D k z = bq := ⟨_, rfl⟩
    rw [hbq] at hcz
    have Hcz := Lib.hid hcz
    have Hbq := Lib.hid hbq
    clear hcz hbq
    go_wp2_with fail
    refine Hcz.out.mono ?_
    rintro e w9 ⟨rfl, rfl⟩
    clear Hcz
    cases bq
    · obtain ⟨x, rfl⟩ : ∃ x : Nat, z = (x : Int) := ⟨z.toNat, by omega⟩
      have hx1 : (x : Int) < (l0 : Int) := by omega
      have cd : w2.cell? ⟨b, o + x, none⟩ = some (.int .i64 (D.getD x 0)) := by rw [HBa.out.cell (p := ⟨b, o + x, none⟩) HBo.out]; exact HC.out x (by rw [HD.out]; omega)
      have Hnx : Hid (walkD D (j + 1) (i : Int) = D.getD x 0) := Lib.hid (by rw [walkD_succ, Hz.out]; unfold nxt; rw [if_neg (by omega), Int.toNat_natCast])
      have HA1 : Hid (∀ t, t < j + 1 → meetQ D k (walkD D t (i : Int)) = false) := Lib.hid (fun t ht => by
        by_cases e : t = j
        · subst e; rw [Hz.out]; exact Hbq.out
        · exact HA.out t (by omega))
      have Hms2 : Hid (restL D (D.getD x 0) = mi - (j + 1)) := Lib.hid (by rw [← Hnx.out]; exact Hms1.out hjm)
      go_wp2_with fail
      go_roundw
      case rel => exact ⟨j + 1, by omega, by rw [Hnx.out, List.getD_eq_getElem?_getD], HA1, by first | trivial | rfl⟩
      case measure => have h1 := Hms.out; have h2 := Hms2.out; rw [List.getD_eq_getElem?_getD] at h2; simp only [zOf, h1, h2]; omega
    · have hv : R = (z, true) := (HVm.out.trans ((meetV_hit Hmi.out hjm HA.out (by rw [Hz.out]; exact Hbq.out)).trans (by rw [Hz.out])))
      have HV := Lib.hid hv
      clear hv
      go_wp2_with fail
      rw [HV.out]
      exact bodyPost_ret (v := .tuple #[.int .i64 z, .bool true]) (by first | (simp [results, Try.results40, go_sem]; done) | (simp (maxDischargeDepth := 12) [results, Try.results40, go_sem]; done) | (simp (maxDischargeDepth := 12) [results, Try.results40, go_sem]; rfl)) rfl ⟨rfl, HBa.out⟩
  · have hjm : j = mi := by
      rcases Nat.lt_or_ge j mi with h9 | h9
      · have h8 := HMi.out.on j h9; rw [Hz.out] at h8; omega
      · omega
    have hv : R = (0, false) := HVm.out.trans (meetV_miss Hmi.out (fun t ht => HA.out t (by omega)))
    have HV := Lib.hid hv
    clear hv
    go_wp2_with fail
    rw [HV.out]
    exact bodyPost_ret (v := .tuple #[.int .i64 0, .bool false]) (by first | (simp [results, Try.results40, go_sem]; done) | (simp (maxDischargeDepth := 12) [results, Try.results40, go_sem]; done) | (simp (maxDischargeDepth := 12) [results, Try.results40, go_sem]; rfl)) rfl ⟨rfl, HBa.out⟩

set_option maxHeartbeats 8000000 in
theorem meetingOf_i (a0 a1 a2 : Option Addr) (l0 n l2 c0 c1 c2 : Nat) (D M V : List Int) (i : Int) (k : Int) (w : World) (hwi : (Lit.int .i64 i).wf = true) (hwk : (Lit.int .i64 k).wf = true) (h0 : RowC w a0 (ic D)) (h1 : RowC w a1 (ic M)) (h2 : RowC w a2 (ic V)) (hD : D.length = l0) (hM : M.length = n * 4) (hV : V.length = l2) (hl : l0 ≤ 1048576 ∧ n ≤ 1048576 ∧ l2 ≤ 1048576) :
    Calls Try.prog 41 #[.agg #[.slice a0 l0 c0, .slice a1 n c1, .slice a2 l2 c2], .int .i64 i, .int .i64 k] w (SayZB (meetR D M V n i k) w) := by
  obtain ⟨R, hR⟩ : ∃ R, meetR D M V n i k = R := ⟨_, rfl⟩
  rw [hR]
  have HR := Lib.hid hR
  clear hR
  have hbl : Below w.heap.size w (w.alloc (.cells #[.slice a0 l0 c0, .slice a1 n c1, .slice a2 l2 c2] 30)) := bel1 w (.cells #[.slice a0 l0 c0, .slice a1 n c1, .slice a2 l2 c2] 30)
  have hbx : Bx (w.alloc (.cells #[.slice a0 l0 c0, .slice a1 n c1, .slice a2 l2 c2] 30)) w.heap.size [.slice a0 l0 c0, .slice a1 n c1, .slice a2 l2 c2] := Bx.new w [.slice a0 l0 c0, .slice a1 n c1, .slice a2 l2 c2] 30
  have HC := Lib.hid (hasNode_i a0 a1 a2 l0 n l2 c0 c1 c2 D M V i (w.alloc (.cells #[.slice a0 l0 c0, .slice a1 n c1, .slice a2 l2 c2] 30)) (h0.below hbl (Nat.le_refl _)) (h1.below hbl (Nat.le_refl _)) (h2.below hbl (Nat.le_refl _)) hD hM hV hl hwi)
  have HX := Lib.hid hbx
  have HL0 := Lib.hid hbl
  have H0 := Lib.hid h0
  have H1 := Lib.hid h1
  have H2 := Lib.hid h2
  obtain ⟨bb, hbb⟩ : ∃ b, nodeB D M V n i = b := ⟨_, rfl⟩
  rw [hbb] at HC
  have HBB := Lib.hid hbb
  have HM := Lib.hid hM
  have HD := Lib.hid hD
  have HVl := Lib.hid hV
  have HL := Lib.hid hl
  clear h0 h1 h2 hD hM hV hl hbb hbl hbx
  go_enter Try.func41, Try.ntmps41
  go_wp2_with fail
  refine HC.out.mono ?_
  rintro e w1 ⟨b9, hb9, rfl, hb⟩
  subst hb9
  have HX1 := Lib.hid (HX.out.below hb HX.out.1)
  have HB1 : Hid (Below w.heap.size w w1) := Lib.hid (HL0.out.trans (hb.mono (by first | (simp; done) | (simp; omega))))
  clear HC HX hb HL0
  cases bb
  · have hv : R = (0, false) := by rw [← HR.out]; unfold meetR; rw [HBB.out]; rfl
    have HV := Lib.hid hv
    clear hv
    go_wp2_with fail
    rw [HV.out]
    exact bodyPost_ret (v := .tuple #[.int .i64 0, .bool false]) (by first | (simp [results, Try.results41, go_sem]; done) | (simp (maxDischargeDepth := 12) [results, Try.results41, go_sem]; done) | (simp (maxDischargeDepth := 12) [results, Try.results41, go_sem]; rfl)) rfl (⟨rfl, HB1.out⟩)
  have hC2 := hasNode_i a0 a1 a2 l0 n l2 c0 c1 c2 D M V k w1 (H0.out.below HB1.out (Nat.le_refl _)) (H1.out.below HB1.out (Nat.le_refl _)) (H2.out.below HB1.out (Nat.le_refl _)) HD.out HM.out HVl.out HL.out hwk
  obtain ⟨b2, hb2⟩ : ∃ b, nodeB D M V n k = b := ⟨_, rfl⟩
  rw [hb2] at hC2
  have HC2 := Lib.hid hC2
  have HB2 := Lib.hid hb2
  clear hC2 hb2
  have x0 := HX1.out.c 0 rfl
  have x1 := HX1.out.c 1 rfl
  have x2 := HX1.out.c 2 rfl
  go_wp2_with fail
  refine HC2.out.mono ?_
  rintro e w2 ⟨b9, hb9, rfl, hb⟩
  subst hb9
  have HXa := Lib.hid (HX1.out.below hb HX1.out.1)
  have HBa : Hid (Below w.heap.size w w2) := Lib.hid (HB1.out.trans (hb.mono HB1.out.size))
  clear HC2 HX1 HB1 hb x0 x1 x2
  cases b2
  · have hv : R = (0, false) := by rw [← HR.out]; unfold meetR; rw [HBB.out, HB2.out]; rfl
    have HV := Lib.hid hv
    clear hv
    go_wp2_with fail
    rw [HV.out]
    exact bodyPost_ret (v := .tuple #[.int .i64 0, .bool false]) (by first | (simp [results, Try.results41, go_sem]; done) | (simp (maxDischargeDepth := 12) [results, Try.results41, go_sem]; done) | (simp (maxDischargeDepth := 12) [results, Try.results41, go_sem]; rfl)) rfl ⟨rfl, HBa.out⟩
  have HRv : Hid (rivB D M V n = true) := Lib.hid (nodeB_true HBB.out).1
  have HT := Lib.hid (rivB_true HRv.out)
  have hni := (nodeB_true HBB.out).2
  obtain ⟨i, rfl⟩ := Int.eq_ofNat_of_zero_le hni.1
  have hin : i < n := by omega
  clear hni
  obtain ⟨hk0, hk9⟩ := (nodeB_true HB2.out).2
  obtain ⟨k, rfl⟩ := Int.eq_ofNat_of_zero_le hk0
  have hkn : k < n := by omega
  clear hk0 hk9
  obtain rfl : l0 = n := by have h7 := HT.out.1; have h8 := HD.out; omega
  have hl12 : l0 ≤ 12 := by have h7 := HT.out.1; omega
  obtain ⟨b, o, rfl, hb, hc⟩ := H0.out.cells (fun h9 => by have h7 := HT.out.1; rw [h9, List.length_nil] at h7; omega)
  have HC := Lib.hid hc
  have HBo := Lib.hid hb
  clear hb hc
  have HVm : Hid (R = meetV D i k) := Lib.hid (by rw [← HR.out]; unfold meetR; rw [HBB.out, HB2.out]; rfl)
  obtain ⟨mi, hmi⟩ : ∃ m, wayLen D i = m := ⟨_, rfl⟩
  obtain ⟨mk, hmk⟩ : ∃ m, wayLen D k = m := ⟨_, rfl⟩
  have HMi : Hid (IsWay D i mi) := Lib.hid (hmi ▸ rivB_way3 HRv.out (by rw [HD.out]; exact hin))
  have HMk : Hid (IsWay D k mk) := Lib.hid (hmk ▸ rivB_way3 HRv.out (by rw [HD.out]; exact hkn))
  have Hmi := Lib.hid hmi
  have HQ : Hid (∀ x, (pathP D mk k).contains x = meetQ D k x) := Lib.hid (fun x => by unfold meetQ; rw [hmk])
  have hmi13 : mi ≤ 13 := by have h9 := HMi.out.le; have h8 := HD.out; omega
  have hmk13 : mk ≤ 13 := by have h9 := HMk.out.le; have h8 := HD.out; omega
  clear hmi hmk
  have HIn : Hid (∀ j, -1 ≤ walkD D j (i : Int) ∧ walkD D j (i : Int) ≤ (l0 : Int) - 1) := Lib.hid (fun j => by have h9 := walkD_in (rivB_range HRv.out) (i := i) (by rw [HD.out]; exact hin) j; rw [HD.out] at h9; exact h9)
  have Hp := Lib.hid (pathAlong_any b o l0 c0 k mk D w2 (Nat.lt_of_lt_of_le HBo.out HBa.out.size) (fun j hj => by rw [HBa.out.cell (p := ⟨b, o + j, none⟩) HBo.out]; exact HC.out j hj) HD.out hl12 hkn (rivB_range HRv.out) HMk.out)
  have x0 := HXa.out.c 0 rfl
  have x1 := HXa.out.c 1 rfl
  have x2 := HXa.out.c 2 rfl
  go_wp2_with fail
  refine Hp.out.mono ?_
  rintro e w3 ⟨qa, qc, rfl, hrow, hb⟩
  have HB3 : Hid (Below w.heap.size w w3) := Lib.hid (HBa.out.trans (hb.mono HBa.out.size))
  have HX3 := Lib.hid (HXa.out.below hb HXa.out.1)
  have HK3 := Lib.hid (owns_row hrow)
  clear hrow hb Hp x0 x1 x2
  have Hp := Lib.hid (pathAlong_any b o l0 c0 i mi D w3 (Nat.lt_of_lt_of_le HBo.out HB3.out.size) (fun j hj => by rw [HB3.out.cell (p := ⟨b, o + j, none⟩) HBo.out]; exact HC.out j hj) HD.out hl12 hin (rivB_range HRv.out) HMi.out)
  have x0 := HX3.out.c 0 rfl
  have x1 := HX3.out.c 1 rfl
  have x2 := HX3.out.c 2 rfl
  go_wp2_with fail
  refine Hp.out.mono ?_
  rintro e w4 ⟨pa, pc, rfl, hrow, hb⟩
  have HB4 : Hid (Below w.heap.size w w4) := Lib.hid (HB3.out.trans (hb.mono HB3.out.size))
  have HK4 := Lib.hid (HK3.out.below hb (Nat.le_refl _))
  have HI4 := Lib.hid (owns_row hrow)
  clear hrow hb Hp x0 x1 x2
  have HCm : Hid (∀ v, Calls Try.prog 75 #[.slice qa mk qc, .int .i64 v] w4 fun e w' => e = .returned (.bool (meetQ D k v)) ∧ w4 = w') := Lib.hid (fun v => by rw [← HQ.out]; exact contains_any qa mk qc (pathP D mk k) v w4 HK4.out (pathP_length _ _ _) (by omega))
  obtain ⟨pb, po, rfl, _, hpc⟩ := HI4.out.cells (fun h9 => by have h8 := pathP_length D mi i; have h7 := HMi.out.pos; rw [h9, List.length_nil] at h8; omega)
  have HPc := Lib.hid hpc
  clear hpc
  go_wp2_with fail
  go_loopw [10, 30] (fun nv iv wr => ∃ j : Nat, j ≤ mi ∧ iv = .int .i64 (j : Int) ∧ Hid (∀ t, t < j → meetQ D k (walkD D t (i : Int)) = false) ∧ w4 = wr) (fun _ iv _ => mi - (intOf iv).toNat)
  case atStart => exact ⟨0, Nat.zero_le _, rfl, Lib.hid (fun t ht => by omega), rfl⟩
  case round =>
  obtain ⟨j, hj, rfl, HA, rfl⟩ := hrel
  have hj0 : (0 : Int) ≤ (j : Int) := by omega
  by_cases hlt : j < mi
  · have hj1 : (j : Int) < (mi : Int) := by omega
    have cz := HPc.out j (by rw [pathP_length]; exact hlt)
    rw [pathP_getD hlt] at cz
    obtain ⟨z, hz⟩ : ∃ z, walkD D j (i : Int) = z := ⟨_, rfl⟩
    rw [hz] at cz
    have Hz := Lib.hid hz
    clear hz
    have hcz := HCm.out z
    obtain ⟨bq, hbq⟩ : ∃ bq, meetQ D k z = bq := ⟨_, rfl⟩
    rw [hbq] at hcz
    have Hcz := Lib.hid hcz
    have Hbq := Lib.hid hbq
    clear hcz hbq
    go_wp2_with fail
    refine Hcz.out.mono ?_
    rintro e w9 ⟨rfl, rfl⟩
    clear Hcz
    cases bq
    · have HA1 : Hid (∀ t, t < j + 1 → meetQ D k (walkD D t (i : Int)) = false) := Lib.hid (fun t ht => by
        by_cases e : t = j
        · subst e; rw [Hz.out]; exact Hbq.out
        · exact HA.out t (by omega))
      go_wp2_with fail
      go_roundw
      case rel => exact ⟨j + 1, by omega, by go_num, HA1, by first | trivial | rfl⟩
      case measure => simp [intOf]; omega
    · have hv : R = (z, true) := (HVm.out.trans ((meetV_hit Hmi.out hlt HA.out (by rw [Hz.out]; exact Hbq.out)).trans (by rw [Hz.out])))
      have HV := Lib.hid hv
      clear hv
      go_wp2_with fail
      rw [HV.out]
      exact bodyPost_ret (v := .tuple #[.int .i64 z, .bool true]) (by first | (simp [results, Try.results41, go_sem]; done) | (simp (maxDischargeDepth := 12) [results, Try.results41, go_sem]; done) | (simp (maxDischargeDepth := 12) [results, Try.results41, go_sem]; rfl)) rfl ⟨rfl, HB4.out⟩
  · have hjm : j = mi := by omega
    have hv : R = (0, false) := HVm.out.trans (meetV_miss Hmi.out (fun t ht => HA.out t (by omega)))
    have HV := Lib.hid hv
    clear hv
    go_wp2_with fail
    rw [HV.out]
    exact bodyPost_ret (v := .tuple #[.int .i64 0, .bool false]) (by first | (simp [results, Try.results41, go_sem]; done) | (simp (maxDischargeDepth := 12) [results, Try.results41, go_sem]; done) | (simp (maxDischargeDepth := 12) [results, Try.results41, go_sem]; rfl)) rfl ⟨rfl, HB4.out⟩

end Go.Proofs.Ytnmmhaadkclogaa
