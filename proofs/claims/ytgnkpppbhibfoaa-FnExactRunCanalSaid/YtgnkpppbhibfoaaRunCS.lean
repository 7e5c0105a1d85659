/- A canal's run: the model. -/
import Derived.Test.YtgnkpppbhibfoaaRunCD
import Derived.Test.YtgnkpppbhibfoaaOwn5
import Derived.Test.YtgnkpppbhibfoaaIs32
import Derived.Test.YtgnkpppbhibfoaaCanalB
import Derived.Deep.Cut
namespace Go.Proofs.Ytgnkpppbhibfoaa
open Go.RowKit
set_option linter.unusedVariables false
set_option linter.unusedSimpArgs false
set_option maxRecDepth 100000
attribute [local irreducible] wpV wpList Code.wp

theorem RowO.row9 {w : World} {lo n cap : Nat} {a : Option Addr} {zs : List Nat} (h : RowO w lo (.slice a n cap) zs) (hn : n = zs.length) : RowF .f32 w a zs := by
  subst hn
  exact (FRow.mk h).row
set_option maxHeartbeats 16000000 in
theorem runCanal_s {N0 N1 N2 T : Option Nat} {n0 n1 n2 t : Nat} (a0 a1 : Option Addr) (c0 c1 : Nat) (S O : List Nat) (a2 : Option Addr) (c2 : Nat) (X : List Nat) (w : World) (gt : Is32 T t) (gn0 : Is32 N0 n0) (gn1 : Is32 N1 n1) (gn2 : Is32 N2 n2) (h0 : RowF .f32 w a0 S) (hl0 : S.length ≤ 1048576) (hz0 : ∀ z ∈ S, z < 4294967296) (h1 : RowF .f32 w a1 O) (hl1 : O.length ≤ 1048576) (hz1 : ∀ z ∈ O, z < 4294967296) (hx : RowF .f32 w a2 X) (hlx : X.length ≤ 1048576) (hzx : ∀ z ∈ X, z < 4294967296) :
    Calls Try.prog 33 #[.agg #[.float .f32 n0, .float .f32 n1, .float .f32 n2, .slice a0 S.length c0, .slice a1 O.length c1], .slice a2 X.length c2, .float .f32 t] w (RunS (runC N0 N1 N2 S O X T) w) := by
  obtain ⟨Q, hQ⟩ : ∃ Q, runC N0 N1 N2 S O X T = Q := ⟨_, rfl⟩
  rw [hQ]
  have HQ := Lib.hid hQ
  clear hQ
  have H0 := Lib.hid h0
  have H1 := Lib.hid h1
  have HZ0 := Lib.hid hz0
  have HZ1 := Lib.hid hz1
  clear h0 h1 hz0 hz1
  have HX := Lib.hid hx
  have HZX := Lib.hid hzx
  clear hx hzx
  go_enter Try.func33, Try.ntmps33
  go_wp2_with fail
  refine (l05Canal_o a0 a1 c0 c1 S O _ w.heap.size (Bx.alloc (Bx.new w [.float .f32 n0, .float .f32 n1, .float .f32 n2, .slice a0 S.length c0, .slice a1 O.length c1] _) _) gn0 gn1 gn2 (H0.out.below (bel2 _ _ _) (Nat.le_refl _)) hl0 HZ0.out (H1.out.below (bel2 _ _ _) (Nat.le_refl _)) hl1 HZ1.out).mono ?_
  rintro e w1 ⟨bb, hbb, rfl, q, hw1⟩
  have HB1 : Hid (Below w.heap.size w w1) := Lib.hid (by rw [hw1]; exact beld (bel2 _ _ _) _)
  have HX1 : Hid (Bx w1 w.heap.size [.float .f32 n0, .float .f32 n1, .float .f32 n2, .slice a0 S.length c0, .slice a1 O.length c1]) := Lib.hid (by rw [hw1]; exact Bx.drewN (Bx.alloc (Bx.new w [.float .f32 n0, .float .f32 n1, .float .f32 n2, .slice a0 S.length c0, .slice a1 O.length c1] _) _) _)
  have bw : Bw w1 (w.heap.size + 1) [.float .f32 0, .float .f32 0, .float .f32 0, .slice none 0 0, .slice none 0 0] := by rw [hw1]; refine Bw.drewN ?_ _; have h9 := Bw.new (w.alloc (.cells #[.float .f32 n0, .float .f32 n1, .float .f32 n2, .slice a0 S.length c0, .slice a1 O.length c1] 36)) [.float .f32 0, .float .f32 0, .float .f32 0, .slice none 0 0, .slice none 0 0] 36; rw [show (w.alloc (.cells #[.float .f32 n0, .float .f32 n1, .float .f32 n2, .slice a0 S.length c0, .slice a1 O.length c1] 36)).heap.size = w.heap.size + 1 by simp] at h9; exact h9
  have hs1 : w1.heap.size = w.heap.size + 1 + 1 := by rw [hw1]; simp
  have P0 := Lib.hid hbb
  have q0 := bw.c 0 rfl
  have q1 := bw.c 1 rfl
  have q2 := bw.c 2 rfl
  have q3 := bw.c 3 rfl
  have q4 := bw.c 4 rfl
  have f0 := bw.f 0 (by simp)
  have f1 := bw.f 1 (by simp)
  have f2 := bw.f 2 (by simp)
  have f3 := bw.f 3 (by simp)
  have f4 := bw.f 4 (by simp)
  have BR := Lib.hid bw
  have HS1 := Lib.hid hs1
  clear hbb hw1 bw hs1
  cases bb
  · have hv : Q = (failCan, []) := by rw [← HQ.out]; refine runC_no ?_; rw [P0.out]; first | rfl | (simp only [Bool.false_and, Bool.and_false, Bool.true_and, Bool.and_true]; done) | (simp only [Bool.false_and, Bool.and_false, Bool.true_and, Bool.and_true]; rfl)
    have HV := Lib.hid hv
    clear hv
    go_wp2_with fail
    rw [HV.out]
    exact bodyPost_ret (v := .tuple #[.agg #[.float .f32 0, .float .f32 0, .float .f32 0, .slice none 0 0, .slice none 0 0], .slice none 0 0, .bool false]) (by first | (simp [results, Try.results33, go_sem, q0, q1, q2, q3, q4, f0, f1, f2, f3, f4]; done) | (simp (maxDischargeDepth := 12) [results, Try.results33, go_sem, q0, q1, q2, q3, q4, f0, f1, f2, f3, f4]; done) | (simp (maxDischargeDepth := 12) [results, Try.results33, go_sem, q0, q1, q2, q3, q4, f0, f1, f2, f3, f4]; rfl)) rfl (RunS.no (by repeat (first | with_reducible exact HB1.out | with_reducible refine beld ?_ _ | (with_reducible refine Below.alloc ?_ ?_ _; rotate_left; exact (by first | (simp; done) | (simp; omega) | omega)) | (with_reducible refine Below.setCell ?_ ?_ _; rotate_left; exact (by first | (simp; done) | (simp; omega) | omega)))))
  by_cases hX : X.length ≤ 128
  rotate_left
  · have hxi : (128 : Int) < (X.length : Int) := by omega
    have hv : Q = (failCan, []) := by rw [← HQ.out]; refine runC_no ?_; rw [P0.out, decide_eq_false hX]; first | rfl | (simp only [Bool.false_and, Bool.and_false, Bool.true_and, Bool.and_true]; done) | (simp only [Bool.false_and, Bool.and_false, Bool.true_and, Bool.and_true]; rfl)
    have HV := Lib.hid hv
    clear hv
    go_wp2_with fail
    rw [HV.out]
    exact bodyPost_ret (v := .tuple #[.agg #[.float .f32 0, .float .f32 0, .float .f32 0, .slice none 0 0, .slice none 0 0], .slice none 0 0, .bool false]) (by first | (simp [results, Try.results33, go_sem, q0, q1, q2, q3, q4, f0, f1, f2, f3, f4]; done) | (simp (maxDischargeDepth := 12) [results, Try.results33, go_sem, q0, q1, q2, q3, q4, f0, f1, f2, f3, f4]; done) | (simp (maxDischargeDepth := 12) [results, Try.results33, go_sem, q0, q1, q2, q3, q4, f0, f1, f2, f3, f4]; rfl)) rfl (RunS.no (by repeat (first | with_reducible exact HB1.out | with_reducible refine beld ?_ _ | (with_reducible refine Below.alloc ?_ ?_ _; rotate_left; exact (by first | (simp; done) | (simp; omega) | omega)) | (with_reducible refine Below.setCell ?_ ?_ _; rotate_left; exact (by first | (simp; done) | (simp; omega) | omega)))))
  have hxi : ¬ (128 : Int) < (X.length : Int) := by omega
  go_wp2_with fail
  refine (l02Fin_g a2 c2 X _ (HX.out.below HB1.out (Nat.le_refl _)) hlx).mono ?_
  rintro e w' ⟨bb, hbb, rfl, qa, rfl⟩
  have P1 := Lib.hid hbb
  clear hbb
  cases bb
  · have hv : Q = (failCan, []) := by
      rw [← HQ.out]
      refine runC_no ?_
      cases hb : (rcIt N0 N1 N2 S O X T X.length).ok with
      | false => rw [Bool.and_false]
      | true => have h9 := rcIt_fin hb; rw [P1.out] at h9; cases h9
    have HV := Lib.hid hv
    clear hv
    go_wp2_with fail
    rw [HV.out]
    exact bodyPost_ret (v := .tuple #[.agg #[.float .f32 0, .float .f32 0, .float .f32 0, .slice none 0 0, .slice none 0 0], .slice none 0 0, .bool false]) (by first | (simp [results, Try.results33, go_sem, q0, q1, q2, q3, q4, f0, f1, f2, f3, f4]; done) | (simp (maxDischargeDepth := 12) [results, Try.results33, go_sem, q0, q1, q2, q3, q4, f0, f1, f2, f3, f4]; done) | (simp (maxDischargeDepth := 12) [results, Try.results33, go_sem, q0, q1, q2, q3, q4, f0, f1, f2, f3, f4]; rfl)) rfl (RunS.no (by repeat (first | with_reducible exact HB1.out | with_reducible refine beld ?_ _ | (with_reducible refine Below.alloc ?_ ?_ _; rotate_left; exact (by first | (simp; done) | (simp; omega) | omega)) | (with_reducible refine Below.setCell ?_ ?_ _; rotate_left; exact (by first | (simp; done) | (simp; omega) | omega)))))
  go_wp2_with fail
  refine (l02Above_o _ gt).mono ?_
  rintro e w' ⟨bb, hbb, rfl, qb, rfl⟩
  have P2 := Lib.hid hbb
  clear hbb
  cases bb
  · have hv : Q = (failCan, []) := by rw [← HQ.out]; refine runC_no ?_; rw [P0.out, P2.out]; first | rfl | (simp only [Bool.false_and, Bool.and_false, Bool.true_and, Bool.and_true]; done) | (simp only [Bool.false_and, Bool.and_false, Bool.true_and, Bool.and_true]; rfl)
    have HV := Lib.hid hv
    clear hv
    go_wp2_with fail
    rw [HV.out]
    exact bodyPost_ret (v := .tuple #[.agg #[.float .f32 0, .float .f32 0, .float .f32 0, .slice none 0 0, .slice none 0 0], .slice none 0 0, .bool false]) (by first | (simp [results, Try.results33, go_sem, q0, q1, q2, q3, q4, f0, f1, f2, f3, f4]; done) | (simp (maxDischargeDepth := 12) [results, Try.results33, go_sem, q0, q1, q2, q3, q4, f0, f1, f2, f3, f4]; done) | (simp (maxDischargeDepth := 12) [results, Try.results33, go_sem, q0, q1, q2, q3, q4, f0, f1, f2, f3, f4]; rfl)) rfl (RunS.no (by repeat (first | with_reducible exact HB1.out | with_reducible refine beld ?_ _ | (with_reducible refine Below.alloc ?_ ?_ _; rotate_left; exact (by first | (simp; done) | (simp; omega) | omega)) | (with_reducible refine Below.setCell ?_ ?_ _; rotate_left; exact (by first | (simp; done) | (simp; omega) | omega)))))
  have hq := P0.out
  unfold canalB at hq
  simp only [Bool.and_eq_true, decide_eq_true_eq] at hq
  have hp0 : 0 < S.length := by have := hq.1.1.1.2.1; omega
  have hp1 : O.length = S.length := hq.1.1.2
  have HP1 := Lib.hid hp1
  clear hq q0 q1 q2 q3 q4 f0 f1 f2 f3 f4
  have r0 := H0.out.below HB1.out (Nat.le_refl _)
  have r1 := H1.out.below HB1.out (Nat.le_refl _)
  have HO9 := Lib.hid (fun n => l05Own_o a0 a1 c0 c1 S O (w1.drewN n) w.heap.size (HX1.out.drewN n) gn0 gn1 gn2 (show RowF .f32 (w1.drewN n) a0 S from r0) hl0 HZ0.out (show RowF .f32 (w1.drewN n) a1 O from r1) hl1 HZ1.out hp0 (by rw [hp1]; exact hp0))
  clear r0 r1 hp1
  go_wp2_with fail
  refine (HO9.out _).mono ?_
  rintro e w2 ⟨b0, d0, b1, d1, rfl, hr0, hr1, hne, hb⟩
  have hsz : ∀ n, (w1.drewN n).heap.size = w.heap.size + 1 + 1 := fun n => HS1.out
  rw [hsz] at hr0 hr1 hb
  rw [HP1.out] at hr1 ⊢
  have hz2 : w.heap.size + 1 + 1 ≤ w2.heap.size := by have := hb.size; rw [hsz] at this; exact this
  clear hsz
  have HB2 : Hid (Below w.heap.size w w2) := Lib.hid ((beld HB1.out _).trans (hb.mono (by omega)))
  have BR2 := Lib.hid ((BR.out.drewN _).below hb (by omega))
  obtain ⟨B9, hB9⟩ : ∃ B, w2.heap.size = B := ⟨_, rfl⟩
  have hl0b := hr0.lo b0 rfl
  have hl1b := hr1.lo b1 rfl
  rw [hB9] at hl0b hl1b hz2
  have HRA : Hid (RowO ((w2.alloc (.cells #[.float .f32 n0, .float .f32 n1, .float .f32 n2, .slice (some ⟨b0, 0, none⟩) S.length d0, .slice (some ⟨b1, 0, none⟩) S.length d1] 36)).alloc (.cells #[] 23)) (w.heap.size + 1 + 1) (.slice (some ⟨b0, 0, none⟩) S.length d0) S) := Lib.hid ((hr0.alloc _).alloc _)
  have HRB : Hid (RowO ((w2.alloc (.cells #[.float .f32 n0, .float .f32 n1, .float .f32 n2, .slice (some ⟨b0, 0, none⟩) S.length d0, .slice (some ⟨b1, 0, none⟩) S.length d1] 36)).alloc (.cells #[] 23)) (w.heap.size + 1 + 1) (.slice (some ⟨b1, 0, none⟩) S.length d1) O) := Lib.hid ((hr1.alloc _).alloc _)
  have hs3 : (w2.alloc (.cells #[.float .f32 n0, .float .f32 n1, .float .f32 n2, .slice (some ⟨b0, 0, none⟩) S.length d0, .slice (some ⟨b1, 0, none⟩) S.length d1] 36)).heap.size = B9 + 1 := by rw [← hB9]; simp
  have hrow : RowO ((w2.alloc (.cells #[.float .f32 n0, .float .f32 n1, .float .f32 n2, .slice (some ⟨b0, 0, none⟩) S.length d0, .slice (some ⟨b1, 0, none⟩) S.length d1] 36)).alloc (.cells #[] 23)) (B9 + 1) (.slice (some ⟨B9 + 1, 0, none⟩) 0 0) [] := by have h9 := World.ownsRow_lit (base := B9 + 1) (e := 23) (size := 1) (w2.alloc (.cells #[.float .f32 n0, .float .f32 n1, .float .f32 n2, .slice (some ⟨b0, 0, none⟩) S.length d0, .slice (some ⟨b1, 0, none⟩) S.length d1] 36)) #[] 0 (by rw [hs3]; exact Nat.le_refl _) (by simp [maxLen]) rfl; rw [hs3] at h9; exact h9
  have HROW := Lib.hid hrow
  have BC9 : Hid (Bw ((w2.alloc (.cells #[.float .f32 n0, .float .f32 n1, .float .f32 n2, .slice (some ⟨b0, 0, none⟩) S.length d0, .slice (some ⟨b1, 0, none⟩) S.length d1] 36)).alloc (.cells #[] 23)) B9 [.float .f32 n0, .float .f32 n1, .float .f32 n2, .slice (some ⟨b0, 0, none⟩) S.length d0, .slice (some ⟨b1, 0, none⟩) S.length d1]) := Lib.hid (by have h9 := (Bw.new w2 [.float .f32 n0, .float .f32 n1, .float .f32 n2, .slice (some ⟨b0, 0, none⟩) S.length d0, .slice (some ⟨b1, 0, none⟩) S.length d1] 36).alloc (.cells #[] 23); rw [hB9] at h9; exact h9)
  have BR9 := Lib.hid ((BR2.out.alloc (.cells #[.float .f32 n0, .float .f32 n1, .float .f32 n2, .slice (some ⟨b0, 0, none⟩) S.length d0, .slice (some ⟨b1, 0, none⟩) S.length d1] 36)).alloc (.cells #[] 23))
  have HB9 : Hid (Below w.heap.size w ((w2.alloc (.cells #[.float .f32 n0, .float .f32 n1, .float .f32 n2, .slice (some ⟨b0, 0, none⟩) S.length d0, .slice (some ⟨b1, 0, none⟩) S.length d1] 36)).alloc (.cells #[] 23))) := Lib.hid ((HB2.out.alloc (by omega) _).alloc (by simp; omega) _)
  have hX9 : X.all fin32 = true := P1.out
  have HFX : Hid (∀ j, j < X.length → fin32o (some (X.getD j 0)) = true) := Lib.hid fun j hj => by rw [getD_get hj]; exact List.all_eq_true.1 P1.out _ (List.getElem_mem _)
  have hwz : ((w2.alloc (.cells #[.float .f32 n0, .float .f32 n1, .float .f32 n2, .slice (some ⟨b0, 0, none⟩) S.length d0, .slice (some ⟨b1, 0, none⟩) S.length d1] 36)).alloc (.cells #[] 23)).heap.size = B9 + 1 + 1 := by rw [← hB9]; simp
  clear hrow hr0 hr1 hb BR BR2 hX9
  go_wp2_with fail
  try rw [hB9]
  have hs3' : (B9 + 1 : Nat) = B9 + 1 := rfl
  go_loopw [36, 10] (fun i lv wr => ∃ (k : Nat) (hs fs : List Nat) (b0 d0 b1 d1 g co : Nat), k ≤ X.length ∧ i = .int .i64 k ∧ lv = .slice (some ⟨g, 0, none⟩) k co ∧ Hid (rcIt N0 N1 N2 S O X T k = ⟨N0, N1, N2, hs, fs, true⟩) ∧ Hid (canalB N0 N1 N2 hs fs = true) ∧ Hid (hs.length = S.length ∧ fs.length = S.length ∧ (∀ z ∈ hs, z < 4294967296) ∧ (∀ z ∈ fs, z < 4294967296)) ∧ Hid (Bw wr B9 [.float .f32 n0, .float .f32 n1, .float .f32 n2, .slice (some ⟨b0, 0, none⟩) S.length d0, .slice (some ⟨b1, 0, none⟩) S.length d1]) ∧ Hid (Bw wr (w.heap.size + 1) [.float .f32 0, .float .f32 0, .float .f32 0, .slice none 0 0, .slice none 0 0]) ∧ Hid (RowO wr (w.heap.size + 1 + 1) (.slice (some ⟨b0, 0, none⟩) S.length d0) hs) ∧ Hid (RowO wr (w.heap.size + 1 + 1) (.slice (some ⟨b1, 0, none⟩) S.length d1) fs) ∧ Hid (RowO wr (B9 + 1) (.slice (some ⟨g, 0, none⟩) k co) (rcEnds N0 N1 N2 S O X T k)) ∧ Hid (b0 ≠ B9 ∧ b1 ≠ B9 ∧ b0 ≠ g ∧ b1 ≠ g ∧ b0 ≠ b1 ∧ B9 < wr.heap.size) ∧ Hid (Below w.heap.size w wr)) (fun i _ _ => X.length - (intOf i).toNat)
  case atStart => exact ⟨0, S, O, b0, d0, b1, d1, B9 + 1, 0, Nat.zero_le _, rfl, (by first | rfl | simp [hB9]), Lib.hid rfl, P0, Lib.hid ⟨rfl, HP1.out, HZ0.out, HZ1.out⟩, BC9, BR9, HRA, HRB, HROW, Lib.hid ⟨by omega, by omega, by omega, by omega, hne, by rw [hwz]; omega⟩, HB9⟩
  case round =>
    clear BC9 BR9 HRA HRB HROW HB9 hwz hs3 hl0b hl1b
    obtain ⟨k, hs, fs, b0, d0, b1, d1, g, co, hk, rfl, rfl, HI, HC, HL, HBc, HBr, HA, HB, HE, HO, HBk⟩ := hrel
    by_cases hlt : k < X.length
    · obtain ⟨ho1, ho2, ho3, ho4, ho5, ho6⟩ := HO.out
      obtain ⟨bX, oX, rfl, hbX, hcx⟩ := rows_at HX.out (by omega)
      obtain ⟨xk, hxk⟩ : ∃ x, X.getD k 0 = x := ⟨_, rfl⟩
      have hcell : wr.cell? ⟨bX, oX + k, none⟩ = some (.float .f32 xk) := by rw [HBk.out.cell (p := ⟨bX, oX + k, none⟩) hbX, hcx k hlt, hxk]
      have hix : Is32 (some xk) xk := Is32.c (by rw [← hxk]; exact getD_lt HZX.out _)
      have hcall := fun hB => l05Tick_o (some ⟨b0, 0, none⟩) (some ⟨b1, 0, none⟩) d0 d1 hs fs wr B9 hB hix gt gn0 gn1 gn2 (by have h9 := HA.out; rw [← HL.out.1] at h9; exact (FRow.mk h9).row) (by rw [HL.out.1]; exact hl0) HL.out.2.2.1 (by have h9 := HB.out; rw [← HL.out.2.1] at h9; exact (FRow.mk h9).row) (by rw [HL.out.2.1]; exact hl0) HL.out.2.2.2 (by rw [HL.out.1]; exact hp0) (by rw [HL.out.1, HL.out.2.1])
      rw [HL.out.1, HL.out.2.1] at hcall
      have HCall := Lib.hid (hcall HBc.out.1)
      have hnx := rcIt_next HI.out
      have hst : stepB N0 N1 N2 hs fs (some xk) T = true := by unfold stepB; rw [HC.out, P2.out, ← hxk, HFX.out k hlt]; rfl
      rw [hxk] at hnx
      have HNX := Lib.hid hnx
      have HST := Lib.hid hst
      clear hcall hnx hst hxk hcx
      have hki : (k : Int) < (X.length : Int) := by omega
      have hk0 : (0 : Int) ≤ (k : Int) := by omega
      go_wp2_with fail
      refine HCall.out.mono ?_
      rintro e w2 ⟨Y, Z, x0, e0, x1, e1, hY, hZ, rfl, hr0, hr1, hne', hb⟩
      have hzw : wr.heap.size ≤ w2.heap.size := hb.size
      have hlY : Y.length = S.length := hY.1.trans HL.out.1
      have hlZ : Z.length = S.length := hZ.1.trans HL.out.2.1
      have HT9 := tick_next HST.out hY hZ
      have hltY : ∀ z ∈ Y, z < 4294967296 := hY.lt rfl
      have hltZ : ∀ z ∈ Z, z < 4294967296 := hZ.lt (by rw [HL.out.1, HL.out.2.1])
      rw [HL.out.1] at hr0 hr1 ⊢
      obtain ⟨cv, hcv⟩ : ∃ B, canalB N0 N1 N2 Y Z = B := ⟨_, rfl⟩
      rw [hcv] at HT9 ⊢
      have HCV := Lib.hid hcv
      have HTT := Lib.hid (HNX.out.trans HT9)
      clear hcv HT9
      have HB2 : Hid (Below w.heap.size w w2) := Lib.hid (HBk.out.trans (hb.mono HBk.out.size))
      have bw := HBr.out.below hb HBr.out.1.1
      have bc := HBc.out.below hb HBc.out.1.1
      have he := HE.out.below hb (Nat.le_refl _)
      have hx0 := hr0.lo x0 rfl
      have hx1 := hr1.lo x1 rfl
      have hg := HE.out.lo g rfl
      have hs1 : w.heap.size ≤ wr.heap.size := HBk.out.size
      have hsr := HBr.out.1.1
      have LOW : ∀ (W : World) (l9 : Nat) (v : Value) (zs : List Nat), w.heap.size + 1 + 1 ≤ l9 → RowO W l9 v zs → RowO W (w.heap.size + 1 + 1) v zs := fun W l9 v zs hl h => (h.frow.mono hl (Nat.le_refl _) (Nat.le_refl _)).1
      have HY0 := Lib.hid (LOW _ _ _ _ (by omega) hr0)
      have HZ0' := Lib.hid (LOW _ _ _ _ (by omega) hr1)
      have HWY := Lib.hid hlY
      have HWZ := Lib.hid hlZ
      have HE2 := Lib.hid he
      have BC2 := Lib.hid bc
      have BR2 := Lib.hid bw
      have q0 := bw.c 0 rfl
      have q1 := bw.c 1 rfl
      have q2 := bw.c 2 rfl
      have q3 := bw.c 3 rfl
      have q4 := bw.c 4 rfl
      have f0 := bw.f 0 (by simp)
      have f1 := bw.f 1 (by simp)
      have f2 := bw.f 2 (by simp)
      have f3 := bw.f 3 (by simp)
      have f4 := bw.f 4 (by simp)
      have u0_ := bc.c 0 rfl
      have u1_ := bc.c 1 rfl
      have u2_ := bc.c 2 rfl
      have u3_ := bc.c 3 rfl
      have u4_ := bc.c 4 rfl
      have v0 := bc.f 0 (by simp)
      have v1 := bc.f 1 (by simp)
      have v2 := bc.f 2 (by simp)
      have v3 := bc.f 3 (by simp)
      have v4 := bc.f 4 (by simp)
      clear LOW hr0 hr1 hY hZ hlY hlZ he bc bw hb
      cases cv
      · clear q0 q1 q2 q3 q4 f0 f1 f2 f3 f4 u0_ u1_ u2_ u3_ u4_ v0 v1 v2 v3 v4
        obtain ⟨W3, hW3⟩ : ∃ W, w2.alloc (.cells #[.float .f32 0, .float .f32 0, .float .f32 0, .slice none 0 0, .slice none 0 0] 36) = W := ⟨_, rfl⟩
        have bR3 : Bw W3 (w.heap.size + 1) [.float .f32 0, .float .f32 0, .float .f32 0, .slice none 0 0, .slice none 0 0] := by rw [← hW3]; exact BR2.out.alloc _
        have hb3 : Below w.heap.size w W3 := by rw [← hW3]; exact HB2.out.alloc HB2.out.size _
        have HB3 := Lib.hid hb3
        have HW3 := Lib.hid hW3
        clear hb3 hW3
        have hv : Q = (failCan, []) := by rw [← HQ.out]; exact runC_bad (k := k + 1) (by rw [HTT.out]; rfl) hlt
        have HV := Lib.hid hv
        clear hv
        go_upto_region 10 with fail
        rw [HW3.out]
        have q0 := bR3.c 0 rfl
        have q1 := bR3.c 1 rfl
        have q2 := bR3.c 2 rfl
        have q3 := bR3.c 3 rfl
        have q4 := bR3.c 4 rfl
        have f0 := bR3.f 0 (by simp)
        have f1 := bR3.f 1 (by simp)
        have f2 := bR3.f 2 (by simp)
        have f3 := bR3.f 3 (by simp)
        have f4 := bR3.f 4 (by simp)
        clear bR3
        go_wp2_with fail
        rw [HV.out]
        exact bodyPost_ret (v := .tuple #[.agg #[.float .f32 0, .float .f32 0, .float .f32 0, .slice none 0 0, .slice none 0 0], .slice none 0 0, .bool false]) (by first | (simp [results, Try.results33, go_sem, q0, q1, q2, q3, q4, f0, f1, f2, f3, f4]; done) | (simp (maxDischargeDepth := 12) [results, Try.results33, go_sem, q0, q1, q2, q3, q4, f0, f1, f2, f3, f4]; done) | (simp (maxDischargeDepth := 12) [results, Try.results33, go_sem, q0, q1, q2, q3, q4, f0, f1, f2, f3, f4]; rfl)) rfl (RunS.no (by repeat (first | with_reducible exact HB3.out | with_reducible refine beld ?_ _ | (with_reducible refine Below.alloc ?_ ?_ _; rotate_left; exact (by first | (simp; done) | (simp; omega) | omega)) | (with_reducible refine Below.setCell ?_ ?_ _; rotate_left; exact (by first | (simp; done) | (simp; omega) | omega)))))
      obtain ⟨m, hm⟩ : ∃ m, S.length - 1 = m := ⟨_, rfl⟩
      have hmw9 : IntKind.i64.wrap ((S.length : Int) - 1) = (m : Int) := by rw [IntWalk.i64_in _ (by omega)]; omega
      have hm0 : (0 : Int) ≤ (m : Int) := by omega
      have hm1 : (m : Int) < (S.length : Int) := by omega
      have HM := Lib.hid hm
      clear hm
      obtain ⟨hce, hfe⟩ := HY0.out.at HWY.out.symm m (by rw [HWY.out]; have := HM.out; omega)
      obtain ⟨zz, hzz⟩ : ∃ z, Y.getD m 0 = z := ⟨_, rfl⟩
      rw [hzz] at hce
      have HZZ := Lib.hid hzz
      clear hzz hfe
      have hxs : x0 ≠ B9 ∧ x1 ≠ B9 ∧ g ≠ B9 ∧ x0 ≠ g ∧ x1 ≠ g ∧ w.heap.size + 1 ≠ B9 ∧ w.heap.size + 1 < B9 ∧ B9 < w2.heap.size ∧ g < w2.heap.size ∧ x0 < w2.heap.size ∧ x1 < w2.heap.size := by refine ⟨?_, ?_, ?_, ?_, ?_, ?_, ?_, ?_, ?_, ?_, ?_⟩ <;> omega
      have HXS := Lib.hid hxs
      clear hxs
      obtain ⟨W3, hW3⟩ : ∃ W, (w2.alloc (.cells #[.float .f32 n0, .float .f32 n1, .float .f32 n2, .slice (some ⟨x0, 0, none⟩) S.length e0, .slice (some ⟨x1, 0, none⟩) S.length e1] 36)) = W := ⟨_, rfl⟩
      have b12 : Bw W3 w2.heap.size [.float .f32 n0, .float .f32 n1, .float .f32 n2, .slice (some ⟨x0, 0, none⟩) S.length e0, .slice (some ⟨x1, 0, none⟩) S.length e1] := by rw [← hW3]; exact Bw.new w2 [.float .f32 n0, .float .f32 n1, .float .f32 n2, .slice (some ⟨x0, 0, none⟩) S.length e0, .slice (some ⟨x1, 0, none⟩) S.length e1] 36
      have b3 : Bw W3 B9 [.float .f32 n0, .float .f32 n1, .float .f32 n2, .slice (some ⟨b0, 0, none⟩) S.length d0, .slice (some ⟨b1, 0, none⟩) S.length d1] := by rw [← hW3]; exact BC2.out.alloc _
      have bR3 := (BR2.out.alloc (.cells #[.float .f32 n0, .float .f32 n1, .float .f32 n2, .slice (some ⟨x0, 0, none⟩) S.length e0, .slice (some ⟨x1, 0, none⟩) S.length e1] 36))
      have y3 := (HY0.out.alloc (.cells #[.float .f32 n0, .float .f32 n1, .float .f32 n2, .slice (some ⟨x0, 0, none⟩) S.length e0, .slice (some ⟨x1, 0, none⟩) S.length e1] 36))
      have z3 := (HZ0'.out.alloc (.cells #[.float .f32 n0, .float .f32 n1, .float .f32 n2, .slice (some ⟨x0, 0, none⟩) S.length e0, .slice (some ⟨x1, 0, none⟩) S.length e1] 36))
      have e3 := (HE2.out.alloc (.cells #[.float .f32 n0, .float .f32 n1, .float .f32 n2, .slice (some ⟨x0, 0, none⟩) S.length e0, .slice (some ⟨x1, 0, none⟩) S.length e1] 36))
      have hb3 := (HB2.out.alloc HB2.out.size (.cells #[.float .f32 n0, .float .f32 n1, .float .f32 n2, .slice (some ⟨x0, 0, none⟩) S.length e0, .slice (some ⟨x1, 0, none⟩) S.length e1] 36))
      have c3 : W3.cell? ⟨x0, m, none⟩ = some (.float .f32 zz) := by rw [← hW3, (bel1 w2 _).cell (p := ⟨x0, m, none⟩) HXS.out.2.2.2.2.2.2.2.2.2.1]; exact hce
      have s3 : W3.heap.size = w2.heap.size + 1 := by rw [← hW3]; simp
      rw [hW3] at bR3 y3 z3 e3 hb3
      have B12 := Lib.hid b12
      have B3 := Lib.hid b3
      have BR3 := Lib.hid bR3
      have Y3 := Lib.hid y3
      have Z3 := Lib.hid z3
      have E3 := Lib.hid e3
      have HB3 := Lib.hid hb3
      have C3 := Lib.hid c3
      have S3 := Lib.hid s3
      have HW3 := Lib.hid hW3
      clear b12 b3 bR3 y3 z3 e3 hb3 c3 s3 hW3 hce q0 q1 q2 q3 q4 f0 f1 f2 f3 f4 u0_ u1_ u2_ u3_ u4_ v0 v1 v2 v3 v4 ho1 ho2 ho3 ho4 ho5 ho6 hx0 hx1 hg hsr hs1
      go_upto_region 11 with fail
      rw [HW3.out]
      clear BC2 BR2 HY0 HZ0' HE2 HB2 HW3
      have k0_ := B12.out.c 0 rfl
      have k1_ := B12.out.c 1 rfl
      have k2_ := B12.out.c 2 rfl
      have k3_ := B12.out.c 3 rfl
      have k4_ := B12.out.c 4 rfl
      have r0_ := B3.out.c 0 rfl
      have r1_ := B3.out.c 1 rfl
      have r2_ := B3.out.c 2 rfl
      have r3_ := B3.out.c 3 rfl
      have r4_ := B3.out.c 4 rfl
      have s0_ := B3.out.f 0 (by simp)
      have s1_ := B3.out.f 1 (by simp)
      have s2_ := B3.out.f 2 (by simp)
      have s3_ := B3.out.f 3 (by simp)
      have s4_ := B3.out.f 4 (by simp)
      obtain ⟨hq1, hq2, hq3, hq4, hq5, hq6, hq7, hq8, hq9, hq10, hq11⟩ := HXS.out
      obtain ⟨W4, hW4⟩ : ∃ W, (((((W3.setCell ⟨B9, 0, none⟩ (.float .f32 n0)).setCell ⟨B9, 1, none⟩ (.float .f32 n1)).setCell ⟨B9, 2, none⟩ (.float .f32 n2)).setCell ⟨B9, 3, none⟩ (.slice (some ⟨x0, 0, none⟩) S.length e0)).setCell ⟨B9, 4, none⟩ (.slice (some ⟨x1, 0, none⟩) S.length e1)) = W := ⟨_, rfl⟩
      have b4 : Bw W4 B9 [.float .f32 n0, .float .f32 n1, .float .f32 n2, .slice (some ⟨x0, 0, none⟩) S.length e0, .slice (some ⟨x1, 0, none⟩) S.length e1] := by rw [← hW4]; exact Bw.of5 (by have := B3.out.1.1; simp; omega) (by first | (simp [go_sem, s0_, s1_, s2_, s3_, s4_]; done) | (simp (maxDischargeDepth := 12) [go_sem, r0_, r1_, r2_, r3_, r4_, s0_, s1_, s2_, s3_, s4_]; done) | (simp (maxDischargeDepth := 12) [go_sem, r0_, r1_, r2_, r3_, r4_, s0_, s1_, s2_, s3_, s4_]; rfl)) (by first | (simp [go_sem, s0_, s1_, s2_, s3_, s4_]; done) | (simp (maxDischargeDepth := 12) [go_sem, r0_, r1_, r2_, r3_, r4_, s0_, s1_, s2_, s3_, s4_]; done) | (simp (maxDischargeDepth := 12) [go_sem, r0_, r1_, r2_, r3_, r4_, s0_, s1_, s2_, s3_, s4_]; rfl)) (by first | (simp [go_sem, s0_, s1_, s2_, s3_, s4_]; done) | (simp (maxDischargeDepth := 12) [go_sem, r0_, r1_, r2_, r3_, r4_, s0_, s1_, s2_, s3_, s4_]; done) | (simp (maxDischargeDepth := 12) [go_sem, r0_, r1_, r2_, r3_, r4_, s0_, s1_, s2_, s3_, s4_]; rfl)) (by first | (simp [go_sem, s0_, s1_, s2_, s3_, s4_]; done) | (simp (maxDischargeDepth := 12) [go_sem, r0_, r1_, r2_, r3_, r4_, s0_, s1_, s2_, s3_, s4_]; done) | (simp (maxDischargeDepth := 12) [go_sem, r0_, r1_, r2_, r3_, r4_, s0_, s1_, s2_, s3_, s4_]; rfl)) (by first | (simp [go_sem, s0_, s1_, s2_, s3_, s4_]; done) | (simp (maxDischargeDepth := 12) [go_sem, r0_, r1_, r2_, r3_, r4_, s0_, s1_, s2_, s3_, s4_]; done) | (simp (maxDischargeDepth := 12) [go_sem, r0_, r1_, r2_, r3_, r4_, s0_, s1_, s2_, s3_, s4_]; rfl)) (by first | (simp [go_sem, s0_, s1_, s2_, s3_, s4_]; done) | (simp (maxDischargeDepth := 12) [go_sem, r0_, r1_, r2_, r3_, r4_, s0_, s1_, s2_, s3_, s4_]; done) | (simp (maxDischargeDepth := 12) [go_sem, r0_, r1_, r2_, r3_, r4_, s0_, s1_, s2_, s3_, s4_]; rfl)) (by first | (simp [go_sem, s0_, s1_, s2_, s3_, s4_]; done) | (simp (maxDischargeDepth := 12) [go_sem, r0_, r1_, r2_, r3_, r4_, s0_, s1_, s2_, s3_, s4_]; done) | (simp (maxDischargeDepth := 12) [go_sem, r0_, r1_, r2_, r3_, r4_, s0_, s1_, s2_, s3_, s4_]; rfl)) (by first | (simp [go_sem, s0_, s1_, s2_, s3_, s4_]; done) | (simp (maxDischargeDepth := 12) [go_sem, r0_, r1_, r2_, r3_, r4_, s0_, s1_, s2_, s3_, s4_]; done) | (simp (maxDischargeDepth := 12) [go_sem, r0_, r1_, r2_, r3_, r4_, s0_, s1_, s2_, s3_, s4_]; rfl)) (by first | (simp [go_sem, s0_, s1_, s2_, s3_, s4_]; done) | (simp (maxDischargeDepth := 12) [go_sem, r0_, r1_, r2_, r3_, r4_, s0_, s1_, s2_, s3_, s4_]; done) | (simp (maxDischargeDepth := 12) [go_sem, r0_, r1_, r2_, r3_, r4_, s0_, s1_, s2_, s3_, s4_]; rfl)) (by first | (simp [go_sem, s0_, s1_, s2_, s3_, s4_]; done) | (simp (maxDischargeDepth := 12) [go_sem, r0_, r1_, r2_, r3_, r4_, s0_, s1_, s2_, s3_, s4_]; done) | (simp (maxDischargeDepth := 12) [go_sem, r0_, r1_, r2_, r3_, r4_, s0_, s1_, s2_, s3_, s4_]; rfl))
      have hn0 : (.slice (some ⟨x0, 0, none⟩) S.length e0 : Value).ownBlock ≠ some B9 := by simp [Value.ownBlock]; exact hq1
      have hn1 : (.slice (some ⟨x1, 0, none⟩) S.length e1 : Value).ownBlock ≠ some B9 := by simp [Value.ownBlock]; exact hq2
      have hnE : (.slice (some ⟨g, 0, none⟩) k co : Value).ownBlock ≠ some B9 := by simp [Value.ownBlock]; exact hq3
      have hnr : B9 ≠ w.heap.size + 1 := fun h => hq6 h.symm
      have bR4 : Bw W4 (w.heap.size + 1) [.float .f32 0, .float .f32 0, .float .f32 0, .slice none 0 0, .slice none 0 0] := by rw [← hW4]; exact (((((BR3.out.setOther hnr _).setOther hnr _).setOther hnr _).setOther hnr _).setOther hnr _)
      have y4 : RowO W4 (w.heap.size + 1 + 1) (.slice (some ⟨x0, 0, none⟩) S.length e0) Y := by rw [← hW4]; exact (((((Y3.out.setFar hn0 _).setFar hn0 _).setFar hn0 _).setFar hn0 _).setFar hn0 _)
      have z4 : RowO W4 (w.heap.size + 1 + 1) (.slice (some ⟨x1, 0, none⟩) S.length e1) Z := by rw [← hW4]; exact (((((Z3.out.setFar hn1 _).setFar hn1 _).setFar hn1 _).setFar hn1 _).setFar hn1 _)
      have e4 : RowO W4 (B9 + 1) (.slice (some ⟨g, 0, none⟩) k co) (rcEnds N0 N1 N2 S O X T k) := by rw [← hW4]; exact (((((E3.out.setFar hnE _).setFar hnE _).setFar hnE _).setFar hnE _).setFar hnE _)
      have hbB : w.heap.size ≤ B9 := by omega
      have hb4 : Below w.heap.size w W4 := by rw [← hW4]; exact ((((HB3.out.setCell hbB _).setCell hbB _).setCell hbB _).setCell hbB _).setCell hbB _
      have s4 : W4.heap.size = w2.heap.size + 1 := by rw [← hW4]; simp; exact S3.out
      have c4 : W4.cell? ⟨x0, m, none⟩ = some (.float .f32 zz) := by have h9 := (y4.at HWY.out.symm m (by rw [HWY.out]; omega)).1; rw [HZZ.out] at h9; exact h9
      have B4 := Lib.hid b4
      have BR4 := Lib.hid bR4
      have Y4 := Lib.hid y4
      have Z4 := Lib.hid z4
      have E4 := Lib.hid e4
      have HB4 := Lib.hid hb4
      have C4 := Lib.hid c4
      have S4 := Lib.hid s4
      have HW4 := Lib.hid hW4
      clear b4 bR4 y4 z4 e4 hb4 c4 s4 hW4 hq1 hq2 hq3 hq4 hq5 hq6 hq7 hq8 hq9 hq10 hq11 hn0 hn1 hnE hnr hbB
      go_upto_region 12 with fail
      rw [HW4.out]
      clear k0_ r0_ s0_ k1_ r1_ s1_ k2_ r2_ s2_ k3_ r3_ s3_ k4_ r4_ s4_ B12 B3 BR3 Y3 Z3 E3 HB3 C3 S3 HW4
      have kc3 := B4.out.c 3 rfl
      have hce := C4.out
      have s5 : (W4.alloc (.cells #[.float .f32 zz] 23)).heap.size = W4.heap.size + 1 := by simp
      have hel : (rcEnds N0 N1 N2 S O X T k).length = k := rcEnds_len _ _ _ _ _ _ _ _
      have hl9 : (rcEnds N0 N1 N2 S O X T k).length ≤ 1048576 := by rw [hel]; omega
      have HLE := Lib.hid hel
      clear hel
      have hqc : (W4.alloc (.cells #[.float .f32 zz] 23)).cell? ⟨W4.heap.size, 0, none⟩ = some (.float .f32 zz) := (Bx.new W4 [.float .f32 zz] 23).c 0 rfl
      have Hqc := Lib.hid hqc
      have RE5 := Lib.hid (E4.out.alloc (.cells #[.float .f32 zz] 23))
      have hlo9 : B9 + 1 ≤ (W4.alloc (.cells #[.float .f32 zz] 23)).heap.size := by rw [s5]; have := S4.out; have := HXS.out; omega
      have HS5 := Lib.hid s5
      have Hlo9 := Lib.hid hlo9
      have Hl9 := Lib.hid hl9
      clear hqc s5 hlo9 hl9
      go_wp2_with (at_builtin; refine push_any rfl rfl _ _ rfl rfl RE5.out W4.heap.size _ zz (by first | rfl | simp) Hqc.out Hl9.out Hlo9.out ?_)
      intro gn kn w6 hrn hpn
      have hb6 := Below.pushed (Below.refl (B9 + 1) _) hpn RE5.out (Nat.le_refl _) Hlo9.out
      have HB5 := HB4.out.alloc HB4.out.size (.cells #[.float .f32 zz] 23)
      have hx9 := HXS.out
      have hs4 := S4.out
      have hs5 := HS5.out
      have HB6 := Lib.hid (Below.pushed HB5 hpn RE5.out (by omega) (by omega))
      have ap0 : Apart (.slice (some ⟨g, 0, none⟩) k co) (.slice (some ⟨x0, 0, none⟩) S.length e0) := fun q h1 h2 => by simp only [Value.ownBlock, Option.some.injEq] at h1 h2; omega
      have ap1 : Apart (.slice (some ⟨g, 0, none⟩) k co) (.slice (some ⟨x1, 0, none⟩) S.length e1) := fun q h1 h2 => by simp only [Value.ownBlock, Option.some.injEq] at h1 h2; omega
      have RY6 := Lib.hid ((Y4.out.alloc (.cells #[.float .f32 zz] 23)).other hpn ap0)
      have RZ6 := Lib.hid ((Z4.out.alloc (.cells #[.float .f32 zz] 23)).other hpn ap1)
      have BC6 := Lib.hid ((B4.out.alloc (.cells #[.float .f32 zz] 23)).below hb6 (Nat.lt_succ_self _))
      have BR6 := Lib.hid ((BR4.out.alloc (.cells #[.float .f32 zz] 23)).below hb6 (by omega))
      have hgn := hpn.2.1
      simp only [Value.ownBlock, Option.some.injEq] at hgn
      have hz6 : (W4.alloc (.cells #[.float .f32 zz] 23)).heap.size ≤ w6.heap.size := hpn.1.size
      have hof : x0 ≠ gn ∧ x1 ≠ gn ∧ B9 < w6.heap.size := by refine ⟨?_, ?_, ?_⟩ <;> omega
      rw [HLE.out] at hrn
      try rw [HLE.out]
      have RE6 : Hid (RowO w6 (B9 + 1) (.slice (some ⟨gn, 0, none⟩) (k + 1) kn) (rcEnds N0 N1 N2 S O X T k ++ [zz])) := Lib.hid hrn
      have HOF := Lib.hid hof
      clear hrn hpn hb6 ap0 ap1 hce kc3 HB5 hgn hz6 hof hx9 hs4 hs5
      go_wp2_with fail
      go_roundw
      case rel => exact ⟨k + 1, Y, Z, x0, e0, x1, e1, gn, kn, hlt, by go_num, rfl, HTT, HCV, Lib.hid ⟨HWY.out, HWZ.out, hltY, hltZ⟩, BC6, BR6, RY6, RZ6, Lib.hid (by rw [rcEnds_succ, HTT.out]; show RowO _ _ _ (_ ++ [Y.getD (Y.length - 1) 0]); rw [HWY.out, HM.out, HZZ.out]; exact RE6.out), Lib.hid ⟨HXS.out.1, HXS.out.2.1, HOF.out.1, HOF.out.2.1, hne', HOF.out.2.2⟩, HB6⟩
      case measure => simp [intOf]; omega
    · have hkX : k = X.length := by omega
      subst hkX
      have hq0 := HBc.out.c 0 rfl
      have hq1 := HBc.out.c 1 rfl
      have hq2 := HBc.out.c 2 rfl
      have hq3 := HBc.out.c 3 rfl
      have hq4 := HBc.out.c 4 rfl
      have q0 := HBr.out.c 0 rfl
      have q1 := HBr.out.c 1 rfl
      have q2 := HBr.out.c 2 rfl
      have q3 := HBr.out.c 3 rfl
      have q4 := HBr.out.c 4 rfl
      have f0 := HBr.out.f 0 (by simp)
      have f1 := HBr.out.f 1 (by simp)
      have f2 := HBr.out.f 2 (by simp)
      have f3 := HBr.out.f 3 (by simp)
      have f4 := HBr.out.f 4 (by simp)
      have hv : Q = (⟨N0, N1, N2, hs, fs, true⟩, rcEnds N0 N1 N2 S O X T X.length) := by rw [← HQ.out]; exact runC_yes P0.out hX P2.out HI.out
      have HV := Lib.hid hv
      clear hv
      have hki : ¬ (X.length : Int) < (X.length : Int) := by omega
      go_wp2_with fail
      rw [HV.out]
      have hel : (rcEnds N0 N1 N2 S O X T X.length).length = X.length := rcEnds_len _ _ _ _ _ _ _ _
      have hA := HA.out.lo b0 rfl
      have hB := HB.out.lo b1 rfl
      have hG := HE.out.lo g rfl
      have hR := HBr.out.1.1
      have hcc := HBc.out.1.1
      have hn0 : (.slice (some ⟨b0, 0, none⟩) S.length d0 : Value).ownBlock ≠ some (w.heap.size + 1) := by simp [Value.ownBlock]; omega
      have hn1 : (.slice (some ⟨b1, 0, none⟩) S.length d1 : Value).ownBlock ≠ some (w.heap.size + 1) := by simp [Value.ownBlock]; omega
      have hn2 : (.slice (some ⟨g, 0, none⟩) X.length co : Value).ownBlock ≠ some (w.heap.size + 1) := by simp [Value.ownBlock]; omega
      have SW : ∀ (p q r s t : Value), RowF .f32 (((((wr.setCell ⟨w.heap.size + 1, 0, none⟩ p).setCell ⟨w.heap.size + 1, 1, none⟩ q).setCell ⟨w.heap.size + 1, 2, none⟩ r).setCell ⟨w.heap.size + 1, 3, none⟩ s).setCell ⟨w.heap.size + 1, 4, none⟩ t) (some ⟨b0, 0, none⟩) hs ∧ RowF .f32 (((((wr.setCell ⟨w.heap.size + 1, 0, none⟩ p).setCell ⟨w.heap.size + 1, 1, none⟩ q).setCell ⟨w.heap.size + 1, 2, none⟩ r).setCell ⟨w.heap.size + 1, 3, none⟩ s).setCell ⟨w.heap.size + 1, 4, none⟩ t) (some ⟨b1, 0, none⟩) fs ∧ RowF .f32 (((((wr.setCell ⟨w.heap.size + 1, 0, none⟩ p).setCell ⟨w.heap.size + 1, 1, none⟩ q).setCell ⟨w.heap.size + 1, 2, none⟩ r).setCell ⟨w.heap.size + 1, 3, none⟩ s).setCell ⟨w.heap.size + 1, 4, none⟩ t) (some ⟨g, 0, none⟩) (rcEnds N0 N1 N2 S O X T X.length) ∧ Below w.heap.size w (((((wr.setCell ⟨w.heap.size + 1, 0, none⟩ p).setCell ⟨w.heap.size + 1, 1, none⟩ q).setCell ⟨w.heap.size + 1, 2, none⟩ r).setCell ⟨w.heap.size + 1, 3, none⟩ s).setCell ⟨w.heap.size + 1, 4, none⟩ t) := fun p q r s t => ⟨RowO.row9 (((((HA.out.setFar hn0 _).setFar hn0 _).setFar hn0 _).setFar hn0 _).setFar hn0 _) HL.out.1.symm, RowO.row9 (((((HB.out.setFar hn1 _).setFar hn1 _).setFar hn1 _).setFar hn1 _).setFar hn1 _) HL.out.2.1.symm, RowO.row9 (((((HE.out.setFar hn2 _).setFar hn2 _).setFar hn2 _).setFar hn2 _).setFar hn2 _) hel.symm, ((((HBk.out.setCell (Nat.le_succ _) _).setCell (Nat.le_succ _) _).setCell (Nat.le_succ _) _).setCell (Nat.le_succ _) _).setCell (Nat.le_succ _) _⟩
      refine bodyPost_ret (v := .tuple #[.agg #[.float .f32 n0, .float .f32 n1, .float .f32 n2, .slice (some ⟨b0, 0, none⟩) S.length d0, .slice (some ⟨b1, 0, none⟩) S.length d1], .slice (some ⟨g, 0, none⟩) X.length co, .bool true]) (by first | (simp [results, Try.results33, go_sem, q0, q1, q2, q3, q4, f0, f1, f2, f3, f4]; done) | (simp (maxDischargeDepth := 12) [results, Try.results33, go_sem, q0, q1, q2, q3, q4, f0, f1, f2, f3, f4]; done) | (simp (maxDischargeDepth := 12) [results, Try.results33, go_sem, q0, q1, q2, q3, q4, f0, f1, f2, f3, f4]; rfl)) rfl ?_
      refine ⟨n0, n1, n2, some ⟨b0, 0, none⟩, d0, some ⟨b1, 0, none⟩, d1, some ⟨g, 0, none⟩, co, by simp only [hel, HL.out.1, HL.out.2.1], ⟨gn0, gn1, gn2⟩, (SW _ _ _ _ _).1, (SW _ _ _ _ _).2.1, (SW _ _ _ _ _).2.2.1, by show hs.length ≤ _; rw [HL.out.1]; exact hl0, by show fs.length ≤ _; rw [HL.out.2.1]; exact hl0, by show (rcEnds N0 N1 N2 S O X T X.length).length ≤ _; rw [hel]; exact hlx, (SW _ _ _ _ _).2.2.2⟩

end Go.Proofs.Ytgnkpppbhibfoaa
