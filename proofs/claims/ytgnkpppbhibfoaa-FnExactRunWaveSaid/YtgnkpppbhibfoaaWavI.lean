/- A tick of a slope: the program. -/
import Derived.Test.YtgnkpppbhibfoaaWavC
import Derived.Deep.Cut
namespace Go.Proofs.Ytgnkpppbhibfoaa
open Go.RowKit
set_option linter.unusedVariables false
set_option linter.unusedSimpArgs false
set_option maxRecDepth 100000
attribute [local irreducible] wpV wpList Code.wp

set_option maxHeartbeats 8000000 in
theorem stepWave_i {R I D T : Option Nat} {r i d t : Nat} (a : Option Addr) (cap : Nat) (A : List Nat) (w : World) (h : RowF .f32 w a A) (hl : A.length ≤ 1048576) (hz : ∀ z ∈ A, z < 4294967296) (hi : Is32 I i) (hr : Is32 R r) (hd : Is32 D d) (ht : Is32 T t) :
    Calls Try.prog 17 #[.slice a A.length cap, .float .f32 i, .float .f32 r, .float .f32 d, .float .f32 t] w (WavB (stepW R I D T A) w) := by
  obtain ⟨Q, hQ⟩ : ∃ Q, stepW R I D T A = Q := ⟨_, rfl⟩
  rw [hQ]
  have HQ := Lib.hid hQ
  have H := Lib.hid h
  have HZ := Lib.hid hz
  clear hQ h hz
  go_enter Try.func17, Try.ntmps17
  go_wp2_with fail
  refine (isSlope_i a cap A _ H.out hl HZ.out).mono ?_
  rintro e w1 ⟨bb, hbb, rfl, hb⟩
  have HB1 : Hid (Below w.heap.size w w1) := Lib.hid hb
  have P0 := Lib.hid hbb
  clear hbb hb
  cases bb
  · have hv : Q = failWav := by rw [← HQ.out]; unfold stepW guardW; rw [P0.out]; first | rfl | (simp only [Bool.false_and, Bool.and_false, Bool.true_and, Bool.and_true]; rfl)
    have HV := Lib.hid hv
    clear hv
    go_wp2_with fail
    go_ret3
    rw [HV.out]
    exact WavB.no (by repeat (first | with_reducible exact HB1.out | with_reducible refine beld ?_ _ | (with_reducible refine Below.alloc ?_ ?_ _; rotate_left; exact (by first | (simp; done) | (simp; omega) | omega)) | (with_reducible refine Below.setCell ?_ ?_ _; rotate_left; exact (by first | (simp; done) | (simp; omega) | omega))))
  go_wp2_with fail
  refine (isAmount_o _ hi).mono ?_
  rintro e w' ⟨bb, hbb, rfl, rfl⟩
  have P1 := Lib.hid hbb
  clear hbb
  cases bb
  · have hv : Q = failWav := by rw [← HQ.out]; unfold stepW guardW; rw [P0.out, P1.out]; first | rfl | (simp only [Bool.false_and, Bool.and_false, Bool.true_and, Bool.and_true]; rfl)
    have HV := Lib.hid hv
    clear hv
    go_wp2_with fail
    go_ret3
    rw [HV.out]
    exact WavB.no (by repeat (first | with_reducible exact HB1.out | with_reducible refine beld ?_ _ | (with_reducible refine Below.alloc ?_ ?_ _; rotate_left; exact (by first | (simp; done) | (simp; omega) | omega)) | (with_reducible refine Below.setCell ?_ ?_ _; rotate_left; exact (by first | (simp; done) | (simp; omega) | omega))))
  go_wp2_with fail
  refine (isPositive_o _ hr).mono ?_
  rintro e w' ⟨bb, hbb, rfl, rfl⟩
  have P2 := Lib.hid hbb
  clear hbb
  cases bb
  · have hv : Q = failWav := by rw [← HQ.out]; unfold stepW guardW; rw [P0.out, P2.out]; first | rfl | (simp only [Bool.false_and, Bool.and_false, Bool.true_and, Bool.and_true]; rfl)
    have HV := Lib.hid hv
    clear hv
    go_wp2_with fail
    go_ret3
    rw [HV.out]
    exact WavB.no (by repeat (first | with_reducible exact HB1.out | with_reducible refine beld ?_ _ | (with_reducible refine Below.alloc ?_ ?_ _; rotate_left; exact (by first | (simp; done) | (simp; omega) | omega)) | (with_reducible refine Below.setCell ?_ ?_ _; rotate_left; exact (by first | (simp; done) | (simp; omega) | omega))))
  go_wp2_with fail
  refine (isPositive_o _ hd).mono ?_
  rintro e w' ⟨bb, hbb, rfl, rfl⟩
  have P3 := Lib.hid hbb
  clear hbb
  cases bb
  · have hv : Q = failWav := by rw [← HQ.out]; unfold stepW guardW; rw [P0.out, P2.out, P3.out]; first | rfl | (simp only [Bool.false_and, Bool.and_false, Bool.true_and, Bool.and_true]; rfl)
    have HV := Lib.hid hv
    clear hv
    go_wp2_with fail
    go_ret3
    rw [HV.out]
    exact WavB.no (by repeat (first | with_reducible exact HB1.out | with_reducible refine beld ?_ _ | (with_reducible refine Below.alloc ?_ ?_ _; rotate_left; exact (by first | (simp; done) | (simp; omega) | omega)) | (with_reducible refine Below.setCell ?_ ?_ _; rotate_left; exact (by first | (simp; done) | (simp; omega) | omega))))
  go_wp2_with fail
  refine (isPositive_o _ ht).mono ?_
  rintro e w' ⟨bb, hbb, rfl, rfl⟩
  have P4 := Lib.hid hbb
  clear hbb
  cases bb
  · have hv : Q = failWav := by rw [← HQ.out]; unfold stepW guardW; rw [P0.out, P2.out, P3.out, P4.out]; first | rfl | (simp only [Bool.false_and, Bool.and_false, Bool.true_and, Bool.and_true]; rfl)
    have HV := Lib.hid hv
    clear hv
    go_wp2_with fail
    go_ret3
    rw [HV.out]
    exact WavB.no (by repeat (first | with_reducible exact HB1.out | with_reducible refine beld ?_ _ | (with_reducible refine Below.alloc ?_ ?_ _; rotate_left; exact (by first | (simp; done) | (simp; omega) | omega)) | (with_reducible refine Below.setCell ?_ ?_ _; rotate_left; exact (by first | (simp; done) | (simp; omega) | omega))))
  have hg : guardW R D T A = true := by unfold guardW; rw [P0.out, P2.out, P3.out, P4.out]; rfl
  have hq2 : stepW R I D T A = waveV R I D T A := by unfold stepW; rw [hg, P1.out]; rfl
  have HG := Lib.hid hg
  have HW2 := Lib.hid (hq2.symm.trans HQ.out)
  have hln := P0.out
  unfold slopeW at hln
  simp only [Bool.and_eq_true, decide_eq_true_eq] at hln
  have hn1 : 1 ≤ A.length := by have := hln.1.1; omega
  have hn2 : A.length ≤ 48 := by have := hln.1.2; omega
  clear hg hq2 hln
  obtain ⟨bA, oA, rfl, hbA, hcx⟩ := rows_at H.out (by omega)
  have HCA := Lib.hid hcx
  clear hcx
  have hcap : (0 : Int) ≤ (cap : Int) := by omega
  go_wp2_with (first | ((with_reducible refine wpList_bin ?_); refine wpList_f32 rfl _ _ _ _ _ rfl rfl rfl (by decide) (by first | assumption | exact Is32.c (by decide)) (by first | assumption | exact Is32.c (by decide)) ?_; intro z n hz) | ((with_reducible refine wpList_bin ?_); refine wpList_c32 rfl _ _ _ _ _ rfl rfl rfl (by decide) (by first | assumption | exact Is32.c (by decide)) (by first | assumption | exact Is32.c (by decide)) ?_; intro bb hbb; cases bb))
  have hshare : Is32 (fop .quo .f32 T D) z := hz
  have HShare := Lib.hid hshare
  clear hshare hz
  go_loopw [51, 14, 15] (fun iv nv fv wr => ∃ (k y : Nat) (zs : List Nat), k ≤ A.length ∧ iv = .int .i64 k ∧ fv = .float .f32 y ∧ Hid (Is32 (wcome R I A k) y) ∧ Hid (Is32s (nxL R I D T A k) zs) ∧ Hid (OwnZ wr w.heap.size nv zs) ∧ Hid (shortO R D T A k = true) ∧ Hid (flowsO R A k = true) ∧ Hid (Below w.heap.size w wr)) (fun iv _ _ _ => A.length - (intOf iv).toNat)
  case atStart => exact ⟨0, i, [], Nat.zero_le _, rfl, rfl, Lib.hid hi, Lib.hid Is32s.nil, Lib.hid (.inr ⟨rfl, _, rfl⟩), Lib.hid rfl, Lib.hid rfl, Lib.hid (by repeat (first | with_reducible exact HB1.out | with_reducible refine beld ?_ _ | (with_reducible refine Below.alloc ?_ ?_ _; rotate_left; exact (by first | (simp; done) | (simp; omega) | omega)) | (with_reducible refine Below.setCell ?_ ?_ _; rotate_left; exact (by first | (simp; done) | (simp; omega) | omega))))⟩
  case round =>
    obtain ⟨k, y, zs, hk, rfl, rfl, HY, HS, HO, HSh, HFl, HBk⟩ := hrel
    by_cases hlt : k < A.length
    · have hk0 : (0 : Int) ≤ (k : Int) := by omega
      have hki : (k : Int) < (A.length : Int) := by omega
      obtain ⟨ak, hak⟩ : ∃ x, A.getD k 0 = x := ⟨_, rfl⟩
      have hca : wr.cell? ⟨bA, oA + k, none⟩ = some (.float .f32 ak) := by rw [HBk.out.cell (p := ⟨bA, oA + k, none⟩) hbA, HCA.out k (by omega), hak]
      have hia : Is32 (some ak) ak := Is32.c (by rw [← hak]; exact wget_lt HZ.out _)
      have HAK := Lib.hid hak
      clear hak
      have hlz : zs.length = k := by rw [← HS.out.1, nxL_len]
      have Hl9 : Hid (zs.length ≤ 1048576) := Lib.hid (by omega)
      have HLZ := Lib.hid hlz
      have hs1 : w.heap.size ≤ wr.heap.size := HBk.out.size
      clear hlz
      have hy := HY.out
      have hshare := HShare.out
      have am : amtO (some ak) = true := by have h9 := P0.out; unfold slopeW at h9; rw [Bool.and_eq_true] at h9; have h8 := all_getD (p := amtB) h9.2 k 0 hlt; rw [HAK.out] at h8; exact h8
      go_wp2_with fail
      refine (waveFlow_q _ hr hia).mono ?_
      rintro e w2 ⟨fz, b, rfl, hbb, hfz, q2, rfl⟩
      have hfe : wflowO R (some ak) = onlyO (flO R A k) := by unfold wflowO flO; rw [P2.out, am, HAK.out]; rfl
      rw [hfe] at hbb hfz
      cases hfin : fin32o (flO R A k)
      · have hb9 : b = false := by rw [← hbb]; unfold onlyO; rw [hfin]; rfl
        subst hb9
        have hv : Q = failWav := by rw [← HW2.out]; exact wav_noflow hr hd ht HZ.out HG.out hlt hfin
        have HV := Lib.hid hv
        clear hv hbb hfz hfe hfin
        go_wp2_with fail
        go_ret3
        rw [HV.out]
        exact WavB.no (by repeat (first | with_reducible exact HBk.out | with_reducible refine beld ?_ _ | (with_reducible refine Below.alloc ?_ ?_ _; rotate_left; exact (by first | (simp; done) | (simp; omega) | omega)) | (with_reducible refine Below.setCell ?_ ?_ _; rotate_left; exact (by first | (simp; done) | (simp; omega) | omega))))
      have hb9 : b = true := by rw [← hbb]; unfold onlyO; rw [hfin]; rfl
      subst hb9
      have hfz2 : Is32 (flO R A k) fz := by unfold onlyO at hfz; rw [hfin] at hfz; exact hfz
      have HFin := Lib.hid hfin
      clear hbb hfz hfe hfin am
      go_wp2_with fail
      refine (waveLength_o _ hr hia ht).mono ?_
      rintro e w3 ⟨lz, rfl, hlz, q3, rfl⟩
      go_upto_region 12 with (((with_reducible refine wpList_bin ?_); refine wpList_c32 rfl _ _ _ _ _ rfl rfl rfl (by decide) (by first | assumption | exact Is32.c (by decide)) (by first | assumption | exact Is32.c (by decide)) ?_; intro bb hbb; cases bb))
      all_goals have HCL := Lib.hid hbb
      all_goals clear hbb
      · have hsh : shortB R D T A k = true := by unfold shortB; rw [HAK.out, HCL.out]; rfl
        have HSH := Lib.hid hsh
        clear hsh
        go_wp2_with (first | ((with_reducible refine wpList_bin ?_); refine wpList_f32 rfl _ _ _ _ _ rfl rfl rfl (by decide) (by first | assumption | exact Is32.c (by decide)) (by first | assumption | exact Is32.c (by decide)) ?_; intro z n hz) | ((with_reducible refine wpList_bin ?_); refine wpList_c32 rfl _ _ _ _ _ rfl rfl rfl (by decide) (by first | assumption | exact Is32.c (by decide)) (by first | assumption | exact Is32.c (by decide)) ?_; intro bb hbb; cases bb) | (at_builtin; refine push_z rfl rfl _ _ rfl (lo := w.heap.size) (v := u14) rfl (by repeat (first | with_reducible exact HO.out | with_reducible refine OwnZ.drewN ?_ _ | with_reducible refine OwnZ.alloc ?_ _)) _ _ _ rfl (by first | exact (Bx.new _ [.float .f32 _] _).c 0 rfl | simp [go_sem]) Hl9.out (by first | exact hs1 | (simp; exact hs1) | (simp; omega)) ?_; intro g9 c9 w9 hr9 hb9))
        · go_roundw
          case rel => exact ⟨k + 1, fz, zs ++ [z], by omega, by go_num, rfl, Lib.hid hfz2, Lib.hid (by rw [nxL_succ]; exact HS.out.snoc (by unfold wnx clampO wraw; rw [HAK.out, hbb]; exact hz)), Lib.hid (.inl (by simpa using hr9)), Lib.hid (range_all_succ HSh.out HSH.out), Lib.hid (range_all_succ HFl.out HFin.out), Lib.hid (Below.trans (by repeat (first | with_reducible exact HBk.out | with_reducible refine beld ?_ _ | (with_reducible refine Below.alloc ?_ ?_ _; rotate_left; exact (by first | (simp; done) | (simp; omega) | omega)) | (with_reducible refine Below.setCell ?_ ?_ _; rotate_left; exact (by first | (simp; done) | (simp; omega) | omega)))) hb9)⟩
          case measure => simp [intOf]; omega
        · go_roundw
          case rel => exact ⟨k + 1, fz, zs ++ [0], by omega, by go_num, rfl, Lib.hid hfz2, Lib.hid (by rw [nxL_succ]; exact HS.out.snoc (by unfold wnx clampO wraw; rw [HAK.out, hbb]; exact (Is32.c (by decide)))), Lib.hid (.inl (by simpa using hr9)), Lib.hid (range_all_succ HSh.out HSH.out), Lib.hid (range_all_succ HFl.out HFin.out), Lib.hid (Below.trans (by repeat (first | with_reducible exact HBk.out | with_reducible refine beld ?_ _ | (with_reducible refine Below.alloc ?_ ?_ _; rotate_left; exact (by first | (simp; done) | (simp; omega) | omega)) | (with_reducible refine Below.setCell ?_ ?_ _; rotate_left; exact (by first | (simp; done) | (simp; omega) | omega)))) hb9)⟩
          case measure => simp [intOf]; omega
      · have hv : Q = failWav := by rw [← HW2.out]; exact wav_long hlt (by unfold shortB; rw [HAK.out, HCL.out]; rfl)
        have HV := Lib.hid hv
        clear hv
        go_wp2_with fail
        go_ret3
        rw [HV.out]
        exact WavB.no (by repeat (first | with_reducible exact HBk.out | with_reducible refine beld ?_ _ | (with_reducible refine Below.alloc ?_ ?_ _; rotate_left; exact (by first | (simp; done) | (simp; omega) | omega)) | (with_reducible refine Below.setCell ?_ ?_ _; rotate_left; exact (by first | (simp; done) | (simp; omega) | omega))))
    · have hkA : k = A.length := by omega
      subst hkA
      have hki : ¬ (A.length : Int) < (A.length : Int) := by omega
      have hlz : zs.length = A.length := by rw [← HS.out.1, nxL_len]
      have hro : ∀ nv, OwnZ wr w.heap.size nv zs → RowO wr w.heap.size nv zs := fun nv h8 => by rcases h8 with h9 | ⟨h9, _⟩; exact h9; rw [h9] at hlz; simp at hlz; omega
      have HRO := Lib.hid (hro _ HO.out)
      clear hro
      obtain ⟨an, cn, hav⟩ := HRO.out.len
      subst hav
      have hrf : RowF .f32 wr an zs := (FRow.mk HRO.out).row
      have hzs : ∀ z ∈ zs, z < 4294967296 := by
        intro z hz
        obtain ⟨j, hj, rfl⟩ := List.getElem_of_mem hz
        have h9 := (HS.out.2 j hj).2
        rw [List.getD_eq_getElem?_getD, List.getElem?_eq_getElem hj] at h9
        exact h9
      have hsn := slope_next P0.out HS.out
      have HSN := Lib.hid hsn
      have HLZ := Lib.hid hlz
      have hcall := isSlope_i an cn zs wr hrf (by omega) hzs
      have HCall := Lib.hid hcall
      clear hrf hzs hsn hlz hcall
      go_wp2_with fail
      refine HCall.out.mono ?_
      rintro e w2 ⟨bb, hbb, rfl, hb⟩
      have HB2 : Hid (Below w.heap.size w w2) := Lib.hid (HBk.out.trans (hb.mono HBk.out.size))
      have HR2 := Lib.hid (HRO.out.below hb (Nat.le_refl _))
      have HBB := Lib.hid (HSN.out.symm.trans hbb)
      clear hbb hb
      cases bb
      · have hv : Q = failWav := by rw [← HW2.out]; exact wav_nofin HBB.out
        have HV := Lib.hid hv
        clear hv
        go_wp2_with fail
        go_ret3
        rw [HV.out]
        exact WavB.no HB2.out
      obtain ⟨m, hm⟩ : ∃ m, A.length = m + 1 := ⟨A.length - 1, by omega⟩
      have hyl : Is32 (flO R A (A.length - 1)) y := by have h9 := HY.out; rw [hm] at h9 ⊢; exact h9
      have hv : Q = (zs, flO R A (A.length - 1), true) := by
        rw [← HW2.out, wav_yes HSh.out HBB.out (range_all_at HFl.out (by omega)), HS.out.exact HBB.out]
      have HV := Lib.hid hv
      have HYL := Lib.hid hyl
      clear hv hyl hm
      go_wp2_with fail
      go_ret3
      rw [HV.out]
      exact WavB.yes HR2.out (Nat.le_refl _) HYL.out (by rw [HLZ.out]; exact hl) HB2.out

end Go.Proofs.Ytgnkpppbhibfoaa
