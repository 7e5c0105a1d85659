/- Rivers that are the same. -/
import Derived.Test.YtljehplkdofhpaaSameD
import Derived.Test.YtljehplkdofhpaaBoxG
import Derived.Deep.Cut
import Derived.BigQuiet
namespace Go.Proofs.Ytljehplkdofhpaa
open Go.RowKit
set_option linter.unusedVariables false
set_option linter.unusedSimpArgs false
set_option maxRecDepth 100000
attribute [local irreducible] wpV wpList Code.wp

theorem HRow.cap {w : World} {e : TypeId} {s lo hi n c : Nat} {a : Option Addr} {xs : List Value} (h : HRow w e s lo hi (.slice a n c) n xs) : n ≤ c ∧ c ≤ maxLen := by
  rcases h.1.2 with ⟨h1, h2⟩ | ⟨g, c', cur, h1, _, _, h2, h3, _⟩
  · injection h1 with _ _ h3; rw [h2, h3]; exact ⟨Nat.le_refl _, Nat.zero_le _⟩
  · injection h1 with _ _ h4; rw [h4]; exact ⟨h2, h3⟩

set_option maxHeartbeats 8000000 in
theorem sameRiver_i (a0 a1 a2 e0 e1 e2 : Option Addr) (c0 c1 c2 d0 d1 d2 n m : Nat) (D M V E N U : List Int) (w : World) (ha0 : RowC w a0 (ic D)) (ha1 : RowC w a1 (ic M)) (ha2 : RowC w a2 (ic V)) (he0 : RowC w e0 (ic E)) (he1 : RowC w e1 (ic N)) (he2 : RowC w e2 (ic U)) (hM : M.length = n * 4) (hN : N.length = m * 4) (hlD : D.length ≤ 1048576) (hln : n ≤ 1048576) (hlV : V.length ≤ 1048576) (hlE : E.length ≤ 1048576) (hlm : m ≤ 1048576) (hlU : U.length ≤ 1048576) (hca : n ≤ c1 ∧ c1 ≤ maxLen) (hce : m ≤ d1 ∧ d1 ≤ maxLen) :
    Calls Try.prog 21 #[.agg #[.slice a0 D.length c0, .slice a1 n c1, .slice a2 V.length c2], .agg #[.slice e0 E.length d0, .slice e1 m d1, .slice e2 U.length d2]] w fun e w' => e = .returned (.bool (decide (D = E) && decide (M = N) && decide (V = U))) ∧ Below w.heap.size w w' := by
  obtain ⟨v, hv⟩ : ∃ v, (decide (D = E) && decide (M = N) && decide (V = U)) = v := ⟨_, rfl⟩
  rw [hv]
  have HV := Lib.hid hv
  clear hv
  have HA0 := Lib.hid ha0
  have HA1 := Lib.hid ha1
  have HA2 := Lib.hid ha2
  have HE0 := Lib.hid he0
  have HE1 := Lib.hid he1
  have HE2 := Lib.hid he2
  clear ha0 ha1 ha2 he0 he1 he2
  obtain ⟨W1, hW1⟩ : ∃ W, ((w.alloc (.cells #[.slice a0 D.length c0, .slice a1 n c1, .slice a2 V.length c2] 30)).alloc (.cells #[.slice e0 E.length d0, .slice e1 m d1, .slice e2 U.length d2] 30)) = W := ⟨_, rfl⟩
  have P1 : Hid (Bx W1 w.heap.size [.slice a0 D.length c0, .slice a1 n c1, .slice a2 V.length c2]) := Lib.hid (by rw [← hW1]; exact (Bx.new w [.slice a0 D.length c0, .slice a1 n c1, .slice a2 V.length c2] _).alloc _)
  have O1 : Hid (Bx W1 (w.heap.size + 1) [.slice e0 E.length d0, .slice e1 m d1, .slice e2 U.length d2]) := Lib.hid (by rw [← hW1]; exact Bx.new1G w _ [.slice e0 E.length d0, .slice e1 m d1, .slice e2 U.length d2] _)
  have HB1 : Hid (Below w.heap.size w W1) := Lib.hid (by rw [← hW1]; exact below2 w _ _)
  have HS1 : Hid (W1.heap.size = w.heap.size + 2) := Lib.hid (by rw [← hW1]; simp)
  have HW1 := Lib.hid hW1
  clear hW1
  have p0 := P1.out.c 0 rfl
  have q0 := O1.out.c 0 rfl
  have p1 := P1.out.c 1 rfl
  have q1 := O1.out.c 1 rfl
  have p2 := P1.out.c 2 rfl
  have q2 := O1.out.c 2 rfl
  go_enter Try.func21, Try.ntmps21
  go_upto_region 1 with fail
  rw [HW1.out]
  clear HW1
  go_wp2_with fail
  refine (equalZ_any a0 e0 c0 d0 D E _ (HA0.out.below HB1.out (Nat.le_refl _)) (HE0.out.below HB1.out (Nat.le_refl _)) hlD hlE).mono ?_
  rintro e w2 ⟨rfl, n2, hw2⟩
  have hb : Below W1.heap.size W1 w2 := by rw [hw2]; exact beld (Below.refl _ _) _
  clear hw2
  have P2 := Lib.hid (P1.out.below hb P1.out.1)
  have O2 := Lib.hid (O1.out.below hb O1.out.1)
  have HB2 : Hid (Below w.heap.size w _) := Lib.hid (HB1.out.trans (hb.mono HB1.out.size))
  clear p0 p1 p2 q0 q1 q2 P1 O1 HB1 hb
  have p0 := P2.out.c 0 rfl
  have q0 := O2.out.c 0 rfl
  have p1 := P2.out.c 1 rfl
  have q1 := O2.out.c 1 rfl
  have p2 := P2.out.c 2 rfl
  have q2 := O2.out.c 2 rfl
  by_cases e1 : D = E
  rotate_left
  · have e1d : decide (D = E) = false := decide_eq_false e1
    rw [e1d]
    have E1 := Lib.hid e1d
    clear e1d e1
    have HV2 := Lib.hid (show v = false by rw [← HV.out, E1.out]; simp)
    go_wp2_with fail
    go_ret
    rw [HV2.out]
    exact ⟨rfl, HB2.out⟩
  have e1d : decide (D = E) = true := decide_eq_true e1
  rw [e1d]
  have E1 := Lib.hid e1d
  clear e1d e1
  go_wp2_with fail
  refine (sameDams_any a1 e1 n m c1 d1 M N _ hM hN (HA1.out.below HB2.out (Nat.le_refl _)) (HE1.out.below HB2.out (Nat.le_refl _)) hln hlm hca.1 hce.1 hca.2 hce.2).mono ?_
  rintro e w3 ⟨rfl, hb⟩
  have P3 := Lib.hid (P2.out.below hb P2.out.1)
  have O3 := Lib.hid (O2.out.below hb O2.out.1)
  have HB3 : Hid (Below w.heap.size w _) := Lib.hid (HB2.out.trans (hb.mono HB2.out.size))
  clear p0 p1 p2 q0 q1 q2 P2 O2 HB2 hb
  have p0 := P3.out.c 0 rfl
  have q0 := O3.out.c 0 rfl
  have p1 := P3.out.c 1 rfl
  have q1 := O3.out.c 1 rfl
  have p2 := P3.out.c 2 rfl
  have q2 := O3.out.c 2 rfl
  by_cases e2' : M = N
  rotate_left
  · have e2d : decide (M = N) = false := decide_eq_false e2'
    rw [e2d]
    have E2 := Lib.hid e2d
    clear e2d e2'
    have HV2 := Lib.hid (show v = false by rw [← HV.out, E2.out]; simp)
    go_wp2_with fail
    go_ret
    rw [HV2.out]
    exact ⟨rfl, HB3.out⟩
  have e2d : decide (M = N) = true := decide_eq_true e2'
  rw [e2d]
  have E2 := Lib.hid e2d
  clear e2d e2'
  go_wp2_with fail
  refine (equalZ_any a2 e2 c2 d2 V U _ (HA2.out.below HB3.out (Nat.le_refl _)) (HE2.out.below HB3.out (Nat.le_refl _)) hlV hlU).mono ?_
  rintro e w4 ⟨rfl, n4, hw4⟩
  have HB4 : Hid (Below w.heap.size w w4) := Lib.hid (by rw [hw4]; exact beld HB3.out _)
  clear hw4
  have HV2 := Lib.hid (show v = decide (V = U) by rw [← HV.out, E1.out, E2.out]; simp)
  go_wp2_with fail
  go_ret
  rw [HV2.out]
  exact ⟨rfl, HB4.out⟩

set_option maxHeartbeats 8000000 in
theorem l06Same_any (pa pe : Nat) (a0 a1 a2 e0 e1 e2 : Option Addr) (c0 c1 c2 d0 d1 d2 n m : Nat) (D M V E N U : List Int) (w : World) (hpa : Bx w pa [.slice a0 D.length c0, .slice a1 n c1, .slice a2 V.length c2]) (hpe : Bx w pe [.slice e0 E.length d0, .slice e1 m d1, .slice e2 U.length d2]) (ha0 : RowC w a0 (ic D)) (ha1 : RowC w a1 (ic M)) (ha2 : RowC w a2 (ic V)) (he0 : RowC w e0 (ic E)) (he1 : RowC w e1 (ic N)) (he2 : RowC w e2 (ic U)) (hM : M.length = n * 4) (hN : N.length = m * 4) (hlD : D.length ≤ 1048576) (hln : n ≤ 1048576) (hlV : V.length ≤ 1048576) (hlE : E.length ≤ 1048576) (hlm : m ≤ 1048576) (hlU : U.length ≤ 1048576) (hca : n ≤ c1 ∧ c1 ≤ maxLen) (hce : m ≤ d1 ∧ d1 ≤ maxLen) :
    Calls Try.prog 61 #[.pointer (some ⟨pa, 0, none⟩), .pointer (some ⟨pe, 0, none⟩)] w fun e w' => e = .returned (.bool (decide (D = E) && decide (M = N) && decide (V = U))) ∧ Below w.heap.size w w' := by
  obtain ⟨v, hv⟩ : ∃ v, (decide (D = E) && decide (M = N) && decide (V = U)) = v := ⟨_, rfl⟩
  rw [hv]
  have HV := Lib.hid hv
  clear hv
  have HA0 := Lib.hid ha0
  have HA1 := Lib.hid ha1
  have HA2 := Lib.hid ha2
  have HE0 := Lib.hid he0
  have HE1 := Lib.hid he1
  have HE2 := Lib.hid he2
  clear ha0 ha1 ha2 he0 he1 he2
  have HC1 : Hid (∀ q, Calls Try.prog 92 #[.slice a0 D.length c0, .slice e0 E.length d0] (w.drewN q) fun en w' => en = .returned (.bool (decide (D = E))) ∧ ∃ k, w' = (w.drewN q).drewN k) := Lib.hid fun q => sameListZ_any a0 e0 c0 d0 D E (w.drewN q) (HA0.out.drewN q) (HE0.out.drewN q) hlD hlE
  have HC2 : Hid (∀ q, Calls Try.prog 92 #[.slice a2 V.length c2, .slice e2 U.length d2] (w.drewN q) fun en w' => en = .returned (.bool (decide (V = U))) ∧ ∃ k, w' = (w.drewN q).drewN k) := Lib.hid fun q => sameListZ_any a2 e2 c2 d2 V U (w.drewN q) (HA2.out.drewN q) (HE2.out.drewN q) hlV hlU
  have HM := Lib.hid hM
  have HN := Lib.hid hN
  clear hM hN
  have P1 := Lib.hid hpa
  have O1 := Lib.hid hpe
  clear hpa hpe
  have p0 := P1.out.c 0 rfl
  have q0 := O1.out.c 0 rfl
  have p1 := P1.out.c 1 rfl
  have q1 := O1.out.c 1 rfl
  have p2 := P1.out.c 2 rfl
  have q2 := O1.out.c 2 rfl
  go_enter Try.func61, Try.ntmps61
  go_wp2_with fail
  by_cases e1' : D = E
  rotate_left
  · have e1d : decide (D = E) = false := decide_eq_false e1'
    rw [e1d] at HC1
    have E1 := Lib.hid e1d
    clear e1d e1'
    have HV2 := Lib.hid (show v = false by rw [← HV.out, E1.out]; simp)
    go_quiet (first | (go_at_call 92; with_reducible exact Calls.quiet_of (HC1.out _)) | (go_at_call 92; with_reducible exact Calls.quiet_of (HC2.out _)))
    go_wp2_with fail
    go_ret
    rw [HV2.out]
    exact ⟨rfl, (by repeat (first | with_reducible exact Below.refl _ _ | with_reducible refine beld ?_ _ | (with_reducible refine Below.alloc ?_ ?_ _; rotate_left; exact (by first | (simp; done) | (simp; omega) | omega)) | (with_reducible refine Below.setCell ?_ ?_ _; rotate_left; exact (by first | (simp; done) | (simp; omega) | omega))))⟩
  have e1d : decide (D = E) = true := decide_eq_true e1'
  rw [e1d] at HC1
  have E1 := Lib.hid e1d
  clear e1d e1'
  by_cases e2' : V = U
  rotate_left
  · have e2d : decide (V = U) = false := decide_eq_false e2'
    rw [e2d] at HC2
    have E2 := Lib.hid e2d
    clear e2d e2'
    have HV2 := Lib.hid (show v = false by rw [← HV.out, E2.out]; simp)
    go_quiet (first | (go_at_call 92; with_reducible exact Calls.quiet_of (HC1.out _)) | (go_at_call 92; with_reducible exact Calls.quiet_of (HC2.out _)))
    go_wp2_with fail
    go_ret
    rw [HV2.out]
    exact ⟨rfl, (by repeat (first | with_reducible exact Below.refl _ _ | with_reducible refine beld ?_ _ | (with_reducible refine Below.alloc ?_ ?_ _; rotate_left; exact (by first | (simp; done) | (simp; omega) | omega)) | (with_reducible refine Below.setCell ?_ ?_ _; rotate_left; exact (by first | (simp; done) | (simp; omega) | omega))))⟩
  have e2d : decide (V = U) = true := decide_eq_true e2'
  rw [e2d] at HC2
  have E2 := Lib.hid e2d
  clear e2d e2'
  by_cases e3' : n = m
  rotate_left
  · have e3d : decide (M = N) = false := decide_eq_false fun h => e3' (by have h9 := congrArg List.length h; rw [HM.out, HN.out] at h9; omega)
    have E3 := Lib.hid e3d
    have e3i : ¬ (n : Int) = (m : Int) := by omega
    clear e3d
    have HV2 := Lib.hid (show v = false by rw [← HV.out, E3.out]; simp)
    go_quiet (first | (go_at_call 92; with_reducible exact Calls.quiet_of (HC1.out _)) | (go_at_call 92; with_reducible exact Calls.quiet_of (HC2.out _)))
    go_wp2_with fail
    go_ret
    rw [HV2.out]
    exact ⟨rfl, (by repeat (first | with_reducible exact Below.refl _ _ | with_reducible refine beld ?_ _ | (with_reducible refine Below.alloc ?_ ?_ _; rotate_left; exact (by first | (simp; done) | (simp; omega) | omega)) | (with_reducible refine Below.setCell ?_ ?_ _; rotate_left; exact (by first | (simp; done) | (simp; omega) | omega))))⟩
  subst e3'
  go_quiet (first | (go_at_call 92; with_reducible exact Calls.quiet_of (HC1.out _)) | (go_at_call 92; with_reducible exact Calls.quiet_of (HC2.out _)))
  clear p0 p1 p2 q0 q1 q2
  go_wp2_with fail
  go_loopw [5] (fun iv wr => ∃ k : Nat, k ≤ n ∧ iv = .int .i64 k ∧ Hid (∀ j, j < k * 4 → M.getD j 0 = N.getD j 0) ∧ Hid (Bx wr pa [.slice a0 D.length c0, .slice a1 n c1, .slice a2 V.length c2]) ∧ Hid (Bx wr pe [.slice e0 E.length d0, .slice e1 n d1, .slice e2 U.length d2]) ∧ Hid (Below w.heap.size w wr)) (fun iv _ => n - (intOf iv).toNat)
  case atStart => exact ⟨0, Nat.zero_le _, rfl, Lib.hid (fun j hj => by omega), Lib.hid (by first | exact P1.out | exact P1.out.drewN _), Lib.hid (by first | exact O1.out | exact O1.out.drewN _), Lib.hid (by repeat (first | with_reducible exact Below.refl _ _ | with_reducible refine beld ?_ _ | (with_reducible refine Below.alloc ?_ ?_ _; rotate_left; exact (by first | (simp; done) | (simp; omega) | omega)) | (with_reducible refine Below.setCell ?_ ?_ _; rotate_left; exact (by first | (simp; done) | (simp; omega) | omega))))⟩
  case round =>
    clear P1 O1
    obtain ⟨k, hk, rfl, HJ, P1, O1, HBk⟩ := hrel
    have p0 := P1.out.c 0 rfl
    have q0 := O1.out.c 0 rfl
    have p1 := P1.out.c 1 rfl
    have q1 := O1.out.c 1 rfl
    have p2 := P1.out.c 2 rfl
    have q2 := O1.out.c 2 rfl
    have hk0 : (0 : Int) ≤ (k : Int) := by omega
    by_cases hlt : k < n
    · have hk1 : (k : Int) < (n : Int) := by omega
      obtain ⟨bu, ou, rfl, hbzu, hcu⟩ : ∃ b o, a1 = some ⟨b, o, none⟩ ∧ b < w.heap.size ∧ ∀ i, i < M.length → w.cell? ⟨b, o + i, none⟩ = some (.int .i64 (M.getD i 0)) := by
        rcases HA1.out.ints with h | h
        · have h9 := HM.out; rw [h, List.length_nil] at h9; omega
        · exact h
      obtain ⟨bv, ov, rfl, hbzv, hcv⟩ : ∃ b o, e1 = some ⟨b, o, none⟩ ∧ b < w.heap.size ∧ ∀ i, i < N.length → w.cell? ⟨b, o + i, none⟩ = some (.int .i64 (N.getD i 0)) := by
        rcases HE1.out.ints with h | h
        · have h9 := HN.out; rw [h, List.length_nil] at h9; omega
        · exact h
      have xc0 : wr.cell? ⟨bu, ou + k * 4, none⟩ = some (.int .i64 (M.getD (k * 4 + 0) 0)) := (HBk.out.cell (p := ⟨bu, ou + k * 4, none⟩) hbzu).trans (hcu (k * 4 + 0) (by have := HM.out; omega))
      have xc1 : wr.cell? ⟨bu, ou + k * 4 + 1, none⟩ = some (.int .i64 (M.getD (k * 4 + 1) 0)) := (HBk.out.cell (p := ⟨bu, ou + k * 4 + 1, none⟩) hbzu).trans (hcu (k * 4 + 1) (by have := HM.out; omega))
      have xc2 : wr.cell? ⟨bu, ou + k * 4 + 2, none⟩ = some (.int .i64 (M.getD (k * 4 + 2) 0)) := (HBk.out.cell (p := ⟨bu, ou + k * 4 + 2, none⟩) hbzu).trans (hcu (k * 4 + 2) (by have := HM.out; omega))
      have xc3 : wr.cell? ⟨bu, ou + k * 4 + 3, none⟩ = some (.int .i64 (M.getD (k * 4 + 3) 0)) := (HBk.out.cell (p := ⟨bu, ou + k * 4 + 3, none⟩) hbzu).trans (hcu (k * 4 + 3) (by have := HM.out; omega))
      have yc0 : wr.cell? ⟨bv, ov + k * 4, none⟩ = some (.int .i64 (N.getD (k * 4 + 0) 0)) := (HBk.out.cell (p := ⟨bv, ov + k * 4, none⟩) hbzv).trans (hcv (k * 4 + 0) (by have := HN.out; omega))
      have yc1 : wr.cell? ⟨bv, ov + k * 4 + 1, none⟩ = some (.int .i64 (N.getD (k * 4 + 1) 0)) := (HBk.out.cell (p := ⟨bv, ov + k * 4 + 1, none⟩) hbzv).trans (hcv (k * 4 + 1) (by have := HN.out; omega))
      have yc2 : wr.cell? ⟨bv, ov + k * 4 + 2, none⟩ = some (.int .i64 (N.getD (k * 4 + 2) 0)) := (HBk.out.cell (p := ⟨bv, ov + k * 4 + 2, none⟩) hbzv).trans (hcv (k * 4 + 2) (by have := HN.out; omega))
      have yc3 : wr.cell? ⟨bv, ov + k * 4 + 3, none⟩ = some (.int .i64 (N.getD (k * 4 + 3) 0)) := (HBk.out.cell (p := ⟨bv, ov + k * 4 + 3, none⟩) hbzv).trans (hcv (k * 4 + 3) (by have := HN.out; omega))
      obtain ⟨x0, hx0⟩ : ∃ z, M.getD (k * 4 + 0) 0 = z := ⟨_, rfl⟩
      obtain ⟨y0, hy0⟩ : ∃ z, N.getD (k * 4 + 0) 0 = z := ⟨_, rfl⟩
      rw [hx0] at xc0
      rw [hy0] at yc0
      have Hx0 := Lib.hid hx0
      have Hy0 := Lib.hid hy0
      clear hx0 hy0
      obtain ⟨x1, hx1⟩ : ∃ z, M.getD (k * 4 + 1) 0 = z := ⟨_, rfl⟩
      obtain ⟨y1, hy1⟩ : ∃ z, N.getD (k * 4 + 1) 0 = z := ⟨_, rfl⟩
      rw [hx1] at xc1
      rw [hy1] at yc1
      have Hx1 := Lib.hid hx1
      have Hy1 := Lib.hid hy1
      clear hx1 hy1
      obtain ⟨x2, hx2⟩ : ∃ z, M.getD (k * 4 + 2) 0 = z := ⟨_, rfl⟩
      obtain ⟨y2, hy2⟩ : ∃ z, N.getD (k * 4 + 2) 0 = z := ⟨_, rfl⟩
      rw [hx2] at xc2
      rw [hy2] at yc2
      have Hx2 := Lib.hid hx2
      have Hy2 := Lib.hid hy2
      clear hx2 hy2
      obtain ⟨x3, hx3⟩ : ∃ z, M.getD (k * 4 + 3) 0 = z := ⟨_, rfl⟩
      obtain ⟨y3, hy3⟩ : ∃ z, N.getD (k * 4 + 3) 0 = z := ⟨_, rfl⟩
      rw [hx3] at xc3
      rw [hy3] at yc3
      have Hx3 := Lib.hid hx3
      have Hy3 := Lib.hid hy3
      clear hx3 hy3
      have Hcu := Lib.hid hcu; have Hcv := Lib.hid hcv; clear hcu hcv
      obtain ⟨d, hq, hd⟩ := neq4_any x0 x1 x2 x3 y0 y1 y2 y3
      have Hd := Lib.hid hd
      clear hd
      go_wp2_with fail
      go_quiet (fail)
      clear hq p0 p1 p2 q0 q1 q2 xc0 xc1 xc2 xc3 yc0 yc1 yc2 yc3
      cases d
      rotate_left
      · have hvf : v = false := by
          rw [← HV.out]
          have h8 : decide (M = N) = false := decide_eq_false fun h => by
            rcases Hd.out with ⟨h1, _⟩ | ⟨_, hor⟩
            · cases h1
            · simp only [← Hx0.out, ← Hy0.out, ← Hx1.out, ← Hy1.out, ← Hx2.out, ← Hy2.out, ← Hx3.out, ← Hy3.out, h, not_true_eq_false, or_self] at hor
          rw [h8]; simp
        have HVF := Lib.hid hvf
        clear hvf
        go_wp2_with fail
        go_ret
        rw [HVF.out]
        exact ⟨rfl, (by repeat (first | with_reducible exact HBk.out | with_reducible refine beld ?_ _ | (with_reducible refine Below.alloc ?_ ?_ _; rotate_left; exact (by first | (simp; done) | (simp; omega) | omega)) | (with_reducible refine Below.setCell ?_ ?_ _; rotate_left; exact (by first | (simp; done) | (simp; omega) | omega))))⟩
      · go_wp2_with fail
        go_roundw
        case rel =>
          rcases Hd.out with ⟨_, f0, f1, f2, f3⟩ | ⟨h9, _⟩
          · refine ⟨k + 1, by omega, by go_num, Lib.hid (fun j hj => ?_), Lib.hid (P1.out.drewN _), Lib.hid (O1.out.drewN _), Lib.hid (by repeat (first | with_reducible exact HBk.out | with_reducible refine beld ?_ _ | (with_reducible refine Below.alloc ?_ ?_ _; rotate_left; exact (by first | (simp; done) | (simp; omega) | omega)) | (with_reducible refine Below.setCell ?_ ?_ _; rotate_left; exact (by first | (simp; done) | (simp; omega) | omega))))⟩
            by_cases hj2 : j < k * 4
            · exact HJ.out j hj2
            obtain ⟨i, rfl⟩ : ∃ i, j = k * 4 + i := ⟨j - k * 4, by omega⟩
            by_cases k0_ : i = 0
            · subst k0_; rw [Hx0.out, Hy0.out]; exact f0
            by_cases k1_ : i = 1
            · subst k1_; rw [Hx1.out, Hy1.out]; exact f1
            by_cases k2_ : i = 2
            · subst k2_; rw [Hx2.out, Hy2.out]; exact f2
            by_cases k3_ : i = 3
            · subst k3_; rw [Hx3.out, Hy3.out]; exact f3
            omega
          · cases h9
        case measure => simp [intOf]; omega
    · obtain rfl : k = n := by omega
      have hvf : v = true := by
        rw [← HV.out, E1.out, E2.out, eq_of_getD (by rw [HM.out, HN.out]) (fun j hj => HJ.out j (by have := HM.out; omega))]; rfl
      have HVF := Lib.hid hvf
      clear hvf
      go_wp2_with fail
      go_ret
      rw [HVF.out]
      exact ⟨rfl, (by repeat (first | with_reducible exact HBk.out | with_reducible refine beld ?_ _ | (with_reducible refine Below.alloc ?_ ?_ _; rotate_left; exact (by first | (simp; done) | (simp; omega) | omega)) | (with_reducible refine Below.setCell ?_ ?_ _; rotate_left; exact (by first | (simp; done) | (simp; omega) | omega))))⟩

set_option maxHeartbeats 8000000 in
theorem sameRiver_s (a0 a1 a2 e0 e1 e2 : Option Addr) (c0 c1 c2 d0 d1 d2 n m : Nat) (D M V E N U : List Int) (w : World) (ha0 : RowC w a0 (ic D)) (ha1 : RowC w a1 (ic M)) (ha2 : RowC w a2 (ic V)) (he0 : RowC w e0 (ic E)) (he1 : RowC w e1 (ic N)) (he2 : RowC w e2 (ic U)) (hM : M.length = n * 4) (hN : N.length = m * 4) (hlD : D.length ≤ 1048576) (hln : n ≤ 1048576) (hlV : V.length ≤ 1048576) (hlE : E.length ≤ 1048576) (hlm : m ≤ 1048576) (hlU : U.length ≤ 1048576) (hca : n ≤ c1 ∧ c1 ≤ maxLen) (hce : m ≤ d1 ∧ d1 ≤ maxLen) :
    Calls Try.prog 20 #[.agg #[.slice a0 D.length c0, .slice a1 n c1, .slice a2 V.length c2], .agg #[.slice e0 E.length d0, .slice e1 m d1, .slice e2 U.length d2]] w fun e w' => e = .returned (.bool (decide (D = E) && decide (M = N) && decide (V = U))) ∧ Below w.heap.size w w' := by
  have HA0 := Lib.hid ha0
  have HA1 := Lib.hid ha1
  have HA2 := Lib.hid ha2
  have HE0 := Lib.hid he0
  have HE1 := Lib.hid he1
  have HE2 := Lib.hid he2
  clear ha0 ha1 ha2 he0 he1 he2
  obtain ⟨W1, hW1⟩ : ∃ W, ((w.alloc (.cells #[.slice a0 D.length c0, .slice a1 n c1, .slice a2 V.length c2] 30)).alloc (.cells #[.slice e0 E.length d0, .slice e1 m d1, .slice e2 U.length d2] 30)) = W := ⟨_, rfl⟩
  have P1 : Hid (Bx W1 w.heap.size [.slice a0 D.length c0, .slice a1 n c1, .slice a2 V.length c2]) := Lib.hid (by rw [← hW1]; exact (Bx.new w [.slice a0 D.length c0, .slice a1 n c1, .slice a2 V.length c2] _).alloc _)
  have O1 : Hid (Bx W1 (w.heap.size + 1) [.slice e0 E.length d0, .slice e1 m d1, .slice e2 U.length d2]) := Lib.hid (by rw [← hW1]; exact Bx.new1G w _ [.slice e0 E.length d0, .slice e1 m d1, .slice e2 U.length d2] _)
  have HB1 : Hid (Below w.heap.size w W1) := Lib.hid (by rw [← hW1]; exact below2 w _ _)
  have HS1 : Hid (W1.heap.size = w.heap.size + 2) := Lib.hid (by rw [← hW1]; simp)
  have HW1 := Lib.hid hW1
  clear hW1
  go_enter Try.func20, Try.ntmps20
  go_upto_region 1 with fail
  rw [HW1.out]
  clear HW1
  go_wp2_with fail
  refine (l06Same_any w.heap.size (w.heap.size + 1) a0 a1 a2 e0 e1 e2 c0 c1 c2 d0 d1 d2 n m D M V E N U _ P1.out O1.out (HA0.out.below HB1.out (Nat.le_refl _)) (HA1.out.below HB1.out (Nat.le_refl _)) (HA2.out.below HB1.out (Nat.le_refl _)) (HE0.out.below HB1.out (Nat.le_refl _)) (HE1.out.below HB1.out (Nat.le_refl _)) (HE2.out.below HB1.out (Nat.le_refl _)) hM hN hlD hln hlV hlE hlm hlU hca hce).mono ?_
  rintro e w2 ⟨rfl, hb⟩
  have HB2 : Hid (Below w.heap.size w w2) := Lib.hid (HB1.out.trans (hb.mono HB1.out.size))
  clear hb
  go_wp2_with fail
  go_ret
  exact ⟨rfl, HB2.out⟩

end Go.Proofs.Ytljehplkdofhpaa
