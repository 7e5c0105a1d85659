/- A tick of a slope: the model. -/
import Derived.Test.YtgnkpppbhibfoaaWavC
import Derived.Deep.Cut
namespace Go.Proofs.Ytgnkpppbhibfoaa
open Go.RowKit
set_option linter.unusedVariables false
set_option linter.unusedSimpArgs false
set_option maxRecDepth 100000
attribute [local irreducible] wpV wpList Code.wp

def flL (R : Option Nat) (A : List Nat) (k : Nat) : List (Option Nat) := (List.range k).map (flO R A)
theorem flL_succ (R : Option Nat) (A : List Nat) (k : Nat) : flL R A (k + 1) = flL R A k ++ [flO R A k] := by unfold flL; rw [List.range_succ, List.map_append]; rfl
theorem flL_len (R : Option Nat) (A : List Nat) (k : Nat) : (flL R A k).length = k := by simp [flL]
theorem flL_at {R : Option Nat} {A : List Nat} {n k : Nat} {fs : List Nat} (h : Is32s (flL R A n) fs) (hk : k < n) : Is32 (flO R A k) (fs.getD k 0) := by
  have h9 := h.2 k (by rw [← h.1, flL_len]; exact hk)
  have e : (flL R A n).getD k none = flO R A k := by
    unfold flL
    rw [List.getD_eq_getElem?_getD, List.getElem?_map, List.getElem?_range hk]
    rfl
  rwa [e] at h9
set_option maxHeartbeats 4000000 in
theorem l05Slope_o {R D T : Option Nat} {r d t : Nat} (a : Option Addr) (cap : Nat) (A : List Nat) (w : World) (h : RowF .f32 w a A) (hl : A.length ≤ 1048576) (hz : ∀ z ∈ A, z < 4294967296) (hr : Is32 R r) (hd : Is32 D d) (ht : Is32 T t) :
    Calls Try.prog 67 #[.slice a A.length cap, .float .f32 r, .float .f32 d, .float .f32 t] w (SayQ (guardW R D T A) w) := by
  obtain ⟨Q, hQ⟩ : ∃ Q, guardW R D T A = Q := ⟨_, rfl⟩
  rw [hQ]
  have HQ := Lib.hid hQ
  have Hc := Lib.hid h.cells
  have HZ := Lib.hid hz
  clear hQ h hz
  obtain ⟨len, hlen⟩ : ∃ len, A.length = len := ⟨_, rfl⟩
  rw [hlen] at hl ⊢
  have Hlen := Lib.hid hlen
  clear hlen
  by_cases q2 : len ≤ 48
  rotate_left
  · have i2 : ¬ (len : Int) ≤ 48 := by omega
    have i2' : (48 : Int) < (len : Int) := by omega
    by_cases q1 : (1 : Int) ≤ (len : Int)
    rotate_left
    · omega
    have hv : Q = false := by rw [← HQ.out]; unfold guardW slopeW; rw [Hlen.out, decide_eq_false i2]; first | rfl | (simp only [Bool.false_and, Bool.and_false, Bool.true_and, Bool.and_true]; done) | (simp only [Bool.false_and, Bool.and_false, Bool.true_and, Bool.and_true]; rfl)
    have HV := Lib.hid hv
    clear hv
    go_enter Try.func67, Try.ntmps67
    go_wp2_with fail
    go_loopw [10] (fun i wr => i = .int .i64 0 ∧ wr = w) (fun _ _ => 0)
    case atStart => exact ⟨rfl, rfl⟩
    case round =>
      obtain ⟨rfl, rfl⟩ := hrel
      have hi9 : (0 : Int) < (len : Int) := by omega
      go_wp2_with fail
      go_ret
      exact ⟨_, HV.out, rfl, ⟨0, rfl⟩⟩
  have i2 : (len : Int) ≤ 48 := by omega
  go_enter Try.func67, Try.ntmps67
  go_wp2_with fail
  go_loopw [10] (fun i wr => ∃ k n : Nat, k ≤ len ∧ i = .int .i64 k ∧ (A.take k).all amtB = true ∧ wr = w.drewN n) (fun i _ => len - (intOf i).toNat)
  case atStart => exact ⟨0, 0, Nat.zero_le _, rfl, rfl, rfl⟩
  case round =>
    obtain ⟨k, n, hk, rfl, hall, rfl⟩ := hrel
    have Hall := Lib.hid hall
    clear hall
    by_cases hlt : k < len
    · obtain ⟨b, off, rfl, h1⟩ := Hc.out k (by rw [Hlen.out]; exact hlt)
      obtain ⟨z, hz⟩ : ∃ z, A.getD k 0 = z := ⟨_, rfl⟩
      rw [hz] at h1
      have hiz : Is32 (some z) z := Is32.c (by rw [← hz]; exact wget_lt HZ.out _)
      have Hz := Lib.hid hz
      clear hz
      have hk0 : (0 : Int) ≤ (k : Int) := by omega
      have hki : (k : Int) < (len : Int) := by omega
      go_wp2_with fail
      refine (l02Least_o _ hiz).mono ?_
      rintro e w' ⟨bb, hbb, rfl, q, rfl⟩
      have Hf := Lib.hid hbb
      clear hbb
      cases bb
      · have hv : Q = false := by rw [← HQ.out]; unfold guardW slopeW; rw [all_no A amtB k (by rw [Hlen.out]; exact hlt) (by rw [Hz.out]; exact Hf.out)]; first | rfl | (simp only [Bool.false_and, Bool.and_false, Bool.true_and, Bool.and_true]; done) | (simp only [Bool.false_and, Bool.and_false, Bool.true_and, Bool.and_true]; rfl)
        have HV := Lib.hid hv
        clear hv
        go_wp2_with fail
        go_ret
        exact ⟨_, HV.out, rfl, (by repeat (first | exact ⟨_, rfl⟩ | (rw [World.drewN_drewN]; exact ⟨_, rfl⟩) | (rw [World.drewN_drewN, World.drewN_drewN]; exact ⟨_, rfl⟩) | (rw [World.drewN_drewN, World.drewN_drewN, World.drewN_drewN]; exact ⟨_, rfl⟩)))⟩
      go_wp2_with fail
      go_roundw
      case rel => exact ⟨k + 1, _, by omega, by go_num, all_take_g A amtB k (by rw [Hlen.out]; exact hlt) Hall.out (by rw [Hz.out]; exact Hf.out), by first | rfl | rw [World.drewN_drewN]⟩
      case measure => simp [intOf]; omega
    · obtain rfl : k = len := by omega
      have hall := Hall.out
      rw [← Hlen.out, List.take_length] at hall
      have HA := Lib.hid hall
      clear hall
      have hki : ¬ (k : Int) < (k : Int) := by omega
      by_cases q1 : (1 : Int) ≤ (k : Int)
      rotate_left
      · have hv : Q = false := by rw [← HQ.out]; unfold guardW slopeW; rw [Hlen.out, decide_eq_false q1]; first | rfl | (simp only [Bool.false_and, Bool.and_false, Bool.true_and, Bool.and_true]; done) | (simp only [Bool.false_and, Bool.and_false, Bool.true_and, Bool.and_true]; rfl)
        have HV := Lib.hid hv
        clear hv
        go_wp2_with fail
        go_ret
        exact ⟨_, HV.out, rfl, (by repeat (first | exact ⟨_, rfl⟩ | (rw [World.drewN_drewN]; exact ⟨_, rfl⟩) | (rw [World.drewN_drewN, World.drewN_drewN]; exact ⟨_, rfl⟩) | (rw [World.drewN_drewN, World.drewN_drewN, World.drewN_drewN]; exact ⟨_, rfl⟩)))⟩
      have HS : Hid (slopeW A = true) := Lib.hid (by unfold slopeW; rw [Hlen.out, decide_eq_true q1, decide_eq_true i2, HA.out]; rfl)
      go_wp2_with fail
      refine (l02Above_o _ hr).mono ?_
      rintro e w' ⟨bb, hbb, rfl, qP2, rfl⟩
      have P2 := Lib.hid hbb
      clear hbb
      cases bb
      · have hv : Q = false := by rw [← HQ.out]; unfold guardW; rw [HS.out, P2.out]; first | rfl | (simp only [Bool.false_and, Bool.and_false, Bool.true_and, Bool.and_true]; done) | (simp only [Bool.false_and, Bool.and_false, Bool.true_and, Bool.and_true]; rfl)
        have HV := Lib.hid hv
        clear hv
        go_wp2_with fail
        go_ret
        exact ⟨_, HV.out, rfl, (by repeat (first | exact ⟨_, rfl⟩ | (rw [World.drewN_drewN]; exact ⟨_, rfl⟩) | (rw [World.drewN_drewN, World.drewN_drewN]; exact ⟨_, rfl⟩) | (rw [World.drewN_drewN, World.drewN_drewN, World.drewN_drewN]; exact ⟨_, rfl⟩)))⟩
      go_wp2_with fail
      refine (l02Above_o _ hd).mono ?_
      rintro e w' ⟨bb, hbb, rfl, qP3, rfl⟩
      have P3 := Lib.hid hbb
      clear hbb
      cases bb
      · have hv : Q = false := by rw [← HQ.out]; unfold guardW; rw [HS.out, P2.out, P3.out]; first | rfl | (simp only [Bool.false_and, Bool.and_false, Bool.true_and, Bool.and_true]; done) | (simp only [Bool.false_and, Bool.and_false, Bool.true_and, Bool.and_true]; rfl)
        have HV := Lib.hid hv
        clear hv
        go_wp2_with fail
        go_ret
        exact ⟨_, HV.out, rfl, (by repeat (first | exact ⟨_, rfl⟩ | (rw [World.drewN_drewN]; exact ⟨_, rfl⟩) | (rw [World.drewN_drewN, World.drewN_drewN]; exact ⟨_, rfl⟩) | (rw [World.drewN_drewN, World.drewN_drewN, World.drewN_drewN]; exact ⟨_, rfl⟩)))⟩
      go_wp2_with fail
      refine (l02Above_o _ ht).mono ?_
      rintro e w' ⟨bb, hbb, rfl, qP4, rfl⟩
      have P4 := Lib.hid hbb
      clear hbb
      go_wp2_with fail
      go_ret
      exact ⟨_, by rw [← HQ.out]; unfold guardW; rw [HS.out, P2.out, P3.out, P4.out]; cases bb <;> rfl, rfl, (by repeat (first | exact ⟨_, rfl⟩ | (rw [World.drewN_drewN]; exact ⟨_, rfl⟩) | (rw [World.drewN_drewN, World.drewN_drewN]; exact ⟨_, rfl⟩) | (rw [World.drewN_drewN, World.drewN_drewN, World.drewN_drewN]; exact ⟨_, rfl⟩)))⟩

set_option maxHeartbeats 8000000 in
theorem l05Wave_o {R I D T : Option Nat} {r i d t : Nat} (a : Option Addr) (cap : Nat) (A : List Nat) (w : World) (h : RowF .f32 w a A) (hl : A.length ≤ 1048576) (hn1 : 1 ≤ A.length) (hz : ∀ z ∈ A, z < 4294967296) (hi : Is32 I i) (hr : Is32 R r) (hd : Is32 D d) (ht : Is32 T t) :
    Calls Try.prog 69 #[.slice a A.length cap, .float .f32 i, .float .f32 r, .float .f32 d, .float .f32 t] w (WavB (waveV R I D T A) w) := by
  obtain ⟨Q, hQ⟩ : ∃ Q, waveV R I D T A = Q := ⟨_, rfl⟩
  rw [hQ]
  have HQ := Lib.hid hQ
  have H := Lib.hid h
  have HZ := Lib.hid hz
  clear hQ h hz
  obtain ⟨bA, oA, rfl, hbA, hcx⟩ := rows_at H.out (by omega)
  have HCA := Lib.hid hcx
  clear hcx
  go_enter Try.func69, Try.ntmps69
  go_wp2_with (first | ((with_reducible refine wpList_bin ?_); refine wpList_f32 rfl _ _ _ _ _ rfl rfl rfl (by decide) (by first | assumption | exact Is32.c (by decide)) (by first | assumption | exact Is32.c (by decide)) ?_; intro z n hz) | ((with_reducible refine wpList_bin ?_); refine wpList_c32 rfl _ _ _ _ _ rfl rfl rfl (by decide) (by first | assumption | exact Is32.c (by decide)) (by first | assumption | exact Is32.c (by decide)) ?_; intro bb hbb; cases bb))
  have hshare : Is32 (fop .quo .f32 T D) z := hz
  have HShare := Lib.hid hshare
  clear hshare hz
  go_loopw [27, 14] (fun iv fv wr => ∃ (k : Nat) (fs : List Nat), k ≤ A.length ∧ iv = .int .i64 k ∧ Hid (Is32s (flL R A k) fs) ∧ Hid (OwnZ wr w.heap.size fv fs) ∧ Hid (shortO R D T A k = true) ∧ Hid (Below w.heap.size w wr)) (fun iv _ _ => A.length - (intOf iv).toNat)
  case atStart => exact ⟨0, [], Nat.zero_le _, rfl, Lib.hid Is32s.nil, Lib.hid (.inr ⟨rfl, _, rfl⟩), Lib.hid rfl, Lib.hid ((beld (Below.refl _ _) _).alloc (Nat.le_refl _) _)⟩
  case round =>
    obtain ⟨k, fs, hk, rfl, HF, HO, HSh, HBk⟩ := hrel
    by_cases hlt : k < A.length
    · have hk0 : (0 : Int) ≤ (k : Int) := by omega
      have hki : (k : Int) < (A.length : Int) := by omega
      obtain ⟨ak, hak⟩ : ∃ x, A.getD k 0 = x := ⟨_, rfl⟩
      have hca : wr.cell? ⟨bA, oA + k, none⟩ = some (.float .f32 ak) := by rw [HBk.out.cell (p := ⟨bA, oA + k, none⟩) hbA, HCA.out k (by omega), hak]
      have hia : Is32 (some ak) ak := Is32.c (by rw [← hak]; exact wget_lt HZ.out _)
      have HAK := Lib.hid hak
      clear hak
      have hlz : fs.length = k := by rw [← HF.out.1, flL_len]
      have Hl9 : Hid (fs.length ≤ 1048576) := Lib.hid (by omega)
      clear hlz
      have hs1 : w.heap.size ≤ wr.heap.size := HBk.out.size
      go_wp2_with (first | ((with_reducible refine wpList_bin ?_); refine wpList_f32 rfl _ _ _ _ _ rfl rfl rfl (by decide) (by first | assumption | exact Is32.c (by decide)) (by first | assumption | exact Is32.c (by decide)) ?_; intro z n hz) | ((with_reducible refine wpList_bin ?_); refine wpList_c32 rfl _ _ _ _ _ rfl rfl rfl (by decide) (by first | assumption | exact Is32.c (by decide)) (by first | assumption | exact Is32.c (by decide)) ?_; intro bb hbb; cases bb))
      refine (l01Sqrt_o _ hia).mono ?_
      rintro e w2 ⟨rz, rfl, hrz, q2, rfl⟩
      go_upto_region 8 with (first | ((with_reducible refine wpList_bin ?_); refine wpList_f32 rfl _ _ _ _ _ rfl rfl rfl (by decide) (by first | assumption | exact Is32.c (by decide)) (by first | assumption | exact Is32.c (by decide)) ?_; intro z n hz) | ((with_reducible refine wpList_bin ?_); refine wpList_c32 rfl _ _ _ _ _ rfl rfl rfl (by decide) (by first | assumption | exact Is32.c (by decide)) (by first | assumption | exact Is32.c (by decide)) ?_; intro bb hbb; cases bb))
      all_goals have HCL := Lib.hid hbb
      all_goals clear hbb
      · have hsh : shortB R D T A k = true := by unfold shortB wlenO; rw [HAK.out, HCL.out]; rfl
        have HSH := Lib.hid hsh
        clear hsh
        go_wp2_with fail
        refine (l05Flow_o _ hr hia).mono ?_
        rintro e w3 ⟨fz, rfl, hfz, q3, rfl⟩
        have hfz2 : Is32 (flO R A k) fz := by unfold flO; rw [HAK.out]; exact hfz
        clear hfz
        go_wp2_with (first | (at_builtin; refine push_z rfl rfl _ _ rfl (lo := w.heap.size) (v := u14) rfl (by repeat (first | with_reducible exact HO.out | with_reducible refine OwnZ.drewN ?_ _ | with_reducible refine OwnZ.alloc ?_ _)) _ _ _ rfl (by first | exact (Bx.new _ [.float .f32 _] _).c 0 rfl | simp [go_sem]) Hl9.out (by first | exact hs1 | (simp; exact hs1) | (simp; omega)) ?_; intro g9 c9 w9 hr9 hb9))
        go_roundw
        case rel => exact ⟨k + 1, fs ++ [fz], by omega, by go_num, Lib.hid (by rw [flL_succ]; exact HF.out.snoc hfz2), Lib.hid (.inl (by simpa using hr9)), Lib.hid (range_all_succ HSh.out HSH.out), Lib.hid (Below.trans (by repeat (first | with_reducible exact HBk.out | with_reducible refine beld ?_ _ | (with_reducible refine Below.alloc ?_ ?_ _; rotate_left; exact (by first | (simp; done) | (simp; omega) | omega)) | (with_reducible refine Below.setCell ?_ ?_ _; rotate_left; exact (by first | (simp; done) | (simp; omega) | omega)))) hb9)⟩
        case measure => simp [intOf]; omega
      · have hv : Q = failWav := by rw [← HQ.out]; exact wav_long hlt (by unfold shortB wlenO; rw [HAK.out, HCL.out]; rfl)
        have HV := Lib.hid hv
        clear hv
        go_wp2_with fail
        go_ret3
        rw [HV.out]
        exact WavB.no (by repeat (first | with_reducible exact HBk.out | with_reducible refine beld ?_ _ | (with_reducible refine Below.alloc ?_ ?_ _; rotate_left; exact (by first | (simp; done) | (simp; omega) | omega)) | (with_reducible refine Below.setCell ?_ ?_ _; rotate_left; exact (by first | (simp; done) | (simp; omega) | omega))))
    · have hkA : k = A.length := by omega
      subst hkA
      have hki : ¬ (A.length : Int) < (A.length : Int) := by omega
      have hlz : fs.length = A.length := by rw [← HF.out.1, flL_len]
      have hro : ∀ nv, OwnZ wr w.heap.size nv fs → ∃ g c, nv = .slice (some ⟨g, 0, none⟩) A.length c ∧ RowO wr w.heap.size nv fs ∧ g < wr.heap.size := by
        intro nv h8
        rcases h8 with h9 | ⟨h9, _⟩
        · rcases h9.frow.cases with ⟨_, h7⟩ | ⟨g, c, h7, _, h6⟩
          · rw [h7] at hlz; simp at hlz; omega
          · rw [hlz] at h7; exact ⟨g, c, h7, h9, h6⟩
        · rw [h9] at hlz; simp at hlz; omega
      obtain ⟨gF, cF, hfv, hrF, hgF⟩ := hro _ HO.out
      subst hfv
      have HRF := Lib.hid hrF
      have HLZ := Lib.hid hlz
      clear hro hrF hlz HO
      obtain ⟨B, hB⟩ : ∃ B, wr.heap.size = B := ⟨_, rfl⟩
      have hBw : w.heap.size ≤ B := by rw [← hB]; exact HBk.out.size
      rw [hB] at hgF
      have HBB : Hid (B ≤ wr.heap.size) := Lib.hid (by omega)
      clear hB
      go_wp2_with fail
      go_loopw [55, 16] (fun iv nv wx => ∃ (k : Nat) (zs : List Nat), k ≤ A.length ∧ iv = .int .i64 k ∧ Hid (Is32s (nxL R I D T A k) zs) ∧ Hid (OwnZ wx B nv zs) ∧ Hid (RowO wx w.heap.size (.slice (some ⟨gF, 0, none⟩) A.length cF) fs) ∧ Hid (Below w.heap.size w wx) ∧ Hid (B ≤ wx.heap.size)) (fun iv _ _ => A.length - (intOf iv).toNat)
      case atStart => exact ⟨0, [], Nat.zero_le _, rfl, Lib.hid Is32s.nil, Lib.hid (.inr ⟨rfl, _, rfl⟩), Lib.hid (HRF.out.alloc _), Lib.hid (HBk.out.alloc HBk.out.size _), Lib.hid (by simp; have := HBB.out; omega)⟩
      case round =>
        clear HBk HBB HRF
        obtain ⟨k, zs, hk, rfl, HS, HO, HRF, HBk, HBB⟩ := hrel
        by_cases hlt : k < A.length
        · have hk0 : (0 : Int) ≤ (k : Int) := by omega
          have hki : (k : Int) < (A.length : Int) := by omega
          obtain ⟨ak, hak⟩ : ∃ x, A.getD k 0 = x := ⟨_, rfl⟩
          have hca : wr.cell? ⟨bA, oA + k, none⟩ = some (.float .f32 ak) := by rw [HBk.out.cell (p := ⟨bA, oA + k, none⟩) hbA, HCA.out k (by omega), hak]
          have hia : Is32 (some ak) ak := Is32.c (by rw [← hak]; exact wget_lt HZ.out _)
          have HAK := Lib.hid hak
          clear hak
          have hlz : zs.length = k := by rw [← HS.out.1, nxL_len]
          have Hl9 : Hid (zs.length ≤ 1048576) := Lib.hid (by omega)
          clear hlz
          have hs1 : B ≤ wr.heap.size := HBB.out
          have hshare := HShare.out
          obtain ⟨hcf, hff⟩ := HRF.out.at HLZ.out.symm k (by rw [HLZ.out]; exact hlt)
          have hif := flL_at HF.out hlt
          generalize fs.getD k 0 = fk at hcf hif
          obtain rfl | ⟨m, rfl⟩ : k = 0 ∨ ∃ m, k = m + 1 := by cases k; exact .inl rfl; exact .inr ⟨_, rfl⟩
          · simp only [Nat.add_zero] at hca
            have hkv : (0 : Int) < (A.length : Int) := by omega
            go_wp2_with fail
            any_goals apply wp_region_V (id := 17) (vmap [(10, V32k _), (11, V32k _), (12, V32k _)]) (by kernel_rfl) (by kernel_rfl)
            any_goals (refine wpV_go 1 rfl (fun K hK => ?_); go_simp; refine hK.out _ ?_; clear hK K)
            any_goals (refine wpV_go 2 rfl (fun K hK => ?_); go_simp; refine hK.out _ ?_; clear hK K)
            any_goals (refine wpV_go 3 rfl (fun K hK => ?_); go_simp; refine hK.out _ ?_; clear hK K)
            any_goals (refine wpV_go 4 rfl (fun K hK => ?_); go_simp; refine hK.out _ ?_; clear hK K)
            any_goals (refine wpV_go 5 rfl (fun K hK => ?_); go_simp; refine hK.out _ ?_; clear hK K)
            any_goals (refine wpV_go 6 rfl (fun K hK => ?_); go_simp; refine hK.out _ ?_; clear hK K)
            any_goals (refine wpV_go 7 rfl (fun K hK => ?_); go_simp; refine hK.out _ ?_; clear hK K)
            any_goals (refine wpV_go 8 rfl (fun K hK => ?_); go_simp; refine hK.out _ ?_; clear hK K)
            any_goals (refine wpV_go 9 rfl (fun K hK => ?_); go_simp; refine hK.out _ ?_; clear hK K)
            any_goals (refine wpV_go 10 rfl (fun K hK => ?_); go_simp; refine hK.out _ ?_; clear hK K)
            any_goals (first | (refine wpV_f32 11 rfl (drewC _) _ _ _ _ _ rfl rfl rfl rfl (by decide) (by first | assumption | exact Is32.c (by decide)) (by first | assumption | exact Is32.c (by decide)) rfl ?_; intro z hz) | (refine wpV_go 11 rfl (fun K hK => ?_); go_simp; refine hK.out _ ?_; clear hK K))
            any_goals (first | (refine wpV_f32 12 rfl (drewC _) _ _ _ _ _ rfl rfl rfl rfl (by decide) (by first | assumption | exact Is32.c (by decide)) (by first | assumption | exact Is32.c (by decide)) rfl ?_; intro z hz) | (refine wpV_go 12 rfl (fun K hK => ?_); go_simp; refine hK.out _ ?_; clear hK K))
            any_goals (first | (refine wpV_f32 13 rfl (drewC _) _ _ _ _ _ rfl rfl rfl rfl (by decide) (by first | assumption | exact Is32.c (by decide)) (by first | assumption | exact Is32.c (by decide)) rfl ?_; intro z hz) | (refine wpV_go 13 rfl (fun K hK => ?_); go_simp; refine hK.out _ ?_; clear hK K))
            any_goals (refine wpV_go 14 rfl (fun K hK => ?_); go_simp; refine hK.out _ ?_; clear hK K)
            any_goals (refine wpV_nil ?_; intro q)
            go_wp2_with (first | ((with_reducible refine wpList_bin ?_); refine wpList_c32 rfl _ _ _ _ _ rfl rfl rfl (by decide) (by first | assumption | exact Is32.c (by decide)) (by first | assumption | exact Is32.c (by decide)) ?_; intro bb hbb; cases bb) | (at_builtin; refine push_z rfl rfl _ _ rfl (lo := B) (v := u16) rfl (by repeat (first | with_reducible exact HO.out | with_reducible refine OwnZ.drewN ?_ _ | with_reducible refine OwnZ.alloc ?_ _)) _ _ _ rfl (by first | exact (Bx.new _ [.float .f32 _] _).c 0 rfl | simp [go_sem]) Hl9.out (by first | exact hs1 | (simp; exact hs1) | (simp; omega)) ?_; intro g9 c9 w9 hr9 hb9))
            · go_roundw
              case rel =>
                have hb8 := hb9
                refine ⟨0 + 1, zs ++ [z], by omega, by go_num, Lib.hid (by rw [nxL_succ]; exact HS.out.snoc (by unfold wnx clampO wraw; rw [HAK.out]; show Is32 (if fcmp .lss .f32 (fop .add .f32 (some ak) (fop .mul .f32 (fop .quo .f32 T D) (fop .sub .f32 I _))) (some 0) then some 0 else _) _; rw [hbb]; exact hz)), Lib.hid (.inl (by simpa using hr9)), Lib.hid ?_, Lib.hid (Below.trans (by repeat (first | with_reducible exact HBk.out | with_reducible refine beld ?_ _ | (with_reducible refine Below.alloc ?_ ?_ _; rotate_left; exact (by first | (simp; done) | (simp; omega) | omega)) | (with_reducible refine Below.setCell ?_ ?_ _; rotate_left; exact (by first | (simp; done) | (simp; omega) | omega)))) (hb9.mono hBw)), Lib.hid (by have h9 := hb9.size; have h8 := hs1; (try simp at h9); omega)⟩
                exact ownsRow_same (w := _) (by show RowO _ w.heap.size (.slice (some ⟨gF, 0, none⟩) A.length cF) fs; repeat (first | with_reducible exact HRF.out | with_reducible refine RowO.drewN ?_ _ | with_reducible refine RowO.alloc ?_ _)) fun q hq => hb8.block q (by simp only [Value.ownBlock, Option.some.injEq] at hq; omega)
              case measure => simp [intOf]; omega
            · go_roundw
              case rel =>
                have hb8 := hb9
                refine ⟨0 + 1, zs ++ [0], by omega, by go_num, Lib.hid (by rw [nxL_succ]; exact HS.out.snoc (by unfold wnx clampO wraw; rw [HAK.out]; show Is32 (if fcmp .lss .f32 (fop .add .f32 (some ak) (fop .mul .f32 (fop .quo .f32 T D) (fop .sub .f32 I _))) (some 0) then some 0 else _) _; rw [hbb]; exact (Is32.c (by decide)))), Lib.hid (.inl (by simpa using hr9)), Lib.hid ?_, Lib.hid (Below.trans (by repeat (first | with_reducible exact HBk.out | with_reducible refine beld ?_ _ | (with_reducible refine Below.alloc ?_ ?_ _; rotate_left; exact (by first | (simp; done) | (simp; omega) | omega)) | (with_reducible refine Below.setCell ?_ ?_ _; rotate_left; exact (by first | (simp; done) | (simp; omega) | omega)))) (hb9.mono hBw)), Lib.hid (by have h9 := hb9.size; have h8 := hs1; (try simp at h9); omega)⟩
                exact ownsRow_same (w := _) (by show RowO _ w.heap.size (.slice (some ⟨gF, 0, none⟩) A.length cF) fs; repeat (first | with_reducible exact HRF.out | with_reducible refine RowO.drewN ?_ _ | with_reducible refine RowO.alloc ?_ _)) fun q hq => hb8.block q (by simp only [Value.ownBlock, Option.some.injEq] at hq; omega)
              case measure => simp [intOf]; omega
          · obtain ⟨hcy, hfy⟩ := HRF.out.at HLZ.out.symm m (by rw [HLZ.out]; omega)
            have hiy := flL_at HF.out (show m < A.length by omega)
            generalize fs.getD m 0 = fy at hcy hiy
            have hm0 : (0 : Int) ≤ (m : Int) := by omega
            have hm1 : (m : Int) < (A.length : Int) := by omega
            have hm2 : (m : Int) + 1 < (A.length : Int) := by omega
            have hm3 : (0 : Int) ≤ (m : Int) + 1 := by omega
            have hm6 : (0 : Int) < (m : Int) + 1 := by omega
            have hiw : IntKind.i64.wrap (m : Int) = (m : Int) := by rw [IntWalk.i64_in _ (by omega)]
            rw [show (((m + 1 : Nat)) : Int) = (m : Int) + 1 by omega]
            go_wp2_with fail
            any_goals apply wp_region_V (id := 17) (vmap [(10, V32k _), (11, V32k _), (12, V32k _)]) (by kernel_rfl) (by kernel_rfl)
            any_goals (refine wpV_go 1 rfl (fun K hK => ?_); go_simp; refine hK.out _ ?_; clear hK K)
            any_goals (refine wpV_go 2 rfl (fun K hK => ?_); go_simp; refine hK.out _ ?_; clear hK K)
            any_goals (refine wpV_go 3 rfl (fun K hK => ?_); go_simp; refine hK.out _ ?_; clear hK K)
            any_goals (refine wpV_go 4 rfl (fun K hK => ?_); go_simp; refine hK.out _ ?_; clear hK K)
            any_goals (refine wpV_go 5 rfl (fun K hK => ?_); go_simp; refine hK.out _ ?_; clear hK K)
            any_goals (refine wpV_go 6 rfl (fun K hK => ?_); go_simp; refine hK.out _ ?_; clear hK K)
            any_goals (refine wpV_go 7 rfl (fun K hK => ?_); go_simp; refine hK.out _ ?_; clear hK K)
            any_goals (refine wpV_go 8 rfl (fun K hK => ?_); go_simp; refine hK.out _ ?_; clear hK K)
            any_goals (refine wpV_go 9 rfl (fun K hK => ?_); go_simp; refine hK.out _ ?_; clear hK K)
            any_goals (refine wpV_go 10 rfl (fun K hK => ?_); go_simp; refine hK.out _ ?_; clear hK K)
            any_goals (first | (refine wpV_f32 11 rfl (drewC _) _ _ _ _ _ rfl rfl rfl rfl (by decide) (by first | assumption | exact Is32.c (by decide)) (by first | assumption | exact Is32.c (by decide)) rfl ?_; intro z hz) | (refine wpV_go 11 rfl (fun K hK => ?_); go_simp; refine hK.out _ ?_; clear hK K))
            any_goals (first | (refine wpV_f32 12 rfl (drewC _) _ _ _ _ _ rfl rfl rfl rfl (by decide) (by first | assumption | exact Is32.c (by decide)) (by first | assumption | exact Is32.c (by decide)) rfl ?_; intro z hz) | (refine wpV_go 12 rfl (fun K hK => ?_); go_simp; refine hK.out _ ?_; clear hK K))
            any_goals (first | (refine wpV_f32 13 rfl (drewC _) _ _ _ _ _ rfl rfl rfl rfl (by decide) (by first | assumption | exact Is32.c (by decide)) (by first | assumption | exact Is32.c (by decide)) rfl ?_; intro z hz) | (refine wpV_go 13 rfl (fun K hK => ?_); go_simp; refine hK.out _ ?_; clear hK K))
            any_goals (refine wpV_go 14 rfl (fun K hK => ?_); go_simp; refine hK.out _ ?_; clear hK K)
            any_goals (refine wpV_nil ?_; intro q)
            go_wp2_with (first | ((with_reducible refine wpList_bin ?_); refine wpList_c32 rfl _ _ _ _ _ rfl rfl rfl (by decide) (by first | assumption | exact Is32.c (by decide)) (by first | assumption | exact Is32.c (by decide)) ?_; intro bb hbb; cases bb) | (at_builtin; refine push_z rfl rfl _ _ rfl (lo := B) (v := u16) rfl (by repeat (first | with_reducible exact HO.out | with_reducible refine OwnZ.drewN ?_ _ | with_reducible refine OwnZ.alloc ?_ _)) _ _ _ rfl (by first | exact (Bx.new _ [.float .f32 _] _).c 0 rfl | simp [go_sem]) Hl9.out (by first | exact hs1 | (simp; exact hs1) | (simp; omega)) ?_; intro g9 c9 w9 hr9 hb9))
            · go_roundw
              case rel =>
                have hb8 := hb9
                refine ⟨(m + 1) + 1, zs ++ [z], by omega, by go_num, Lib.hid (by rw [nxL_succ]; exact HS.out.snoc (by unfold wnx clampO wraw; rw [HAK.out]; show Is32 (if fcmp .lss .f32 (fop .add .f32 (some ak) (fop .mul .f32 (fop .quo .f32 T D) (fop .sub .f32 (flO R A m) _))) (some 0) then some 0 else _) _; rw [hbb]; exact hz)), Lib.hid (.inl (by simpa using hr9)), Lib.hid ?_, Lib.hid (Below.trans (by repeat (first | with_reducible exact HBk.out | with_reducible refine beld ?_ _ | (with_reducible refine Below.alloc ?_ ?_ _; rotate_left; exact (by first | (simp; done) | (simp; omega) | omega)) | (with_reducible refine Below.setCell ?_ ?_ _; rotate_left; exact (by first | (simp; done) | (simp; omega) | omega)))) (hb9.mono hBw)), Lib.hid (by have h9 := hb9.size; have h8 := hs1; (try simp at h9); omega)⟩
                exact ownsRow_same (w := _) (by show RowO _ w.heap.size (.slice (some ⟨gF, 0, none⟩) A.length cF) fs; repeat (first | with_reducible exact HRF.out | with_reducible refine RowO.drewN ?_ _ | with_reducible refine RowO.alloc ?_ _)) fun q hq => hb8.block q (by simp only [Value.ownBlock, Option.some.injEq] at hq; omega)
              case measure => simp [intOf]; omega
            · go_roundw
              case rel =>
                have hb8 := hb9
                refine ⟨(m + 1) + 1, zs ++ [0], by omega, by go_num, Lib.hid (by rw [nxL_succ]; exact HS.out.snoc (by unfold wnx clampO wraw; rw [HAK.out]; show Is32 (if fcmp .lss .f32 (fop .add .f32 (some ak) (fop .mul .f32 (fop .quo .f32 T D) (fop .sub .f32 (flO R A m) _))) (some 0) then some 0 else _) _; rw [hbb]; exact (Is32.c (by decide)))), Lib.hid (.inl (by simpa using hr9)), Lib.hid ?_, Lib.hid (Below.trans (by repeat (first | with_reducible exact HBk.out | with_reducible refine beld ?_ _ | (with_reducible refine Below.alloc ?_ ?_ _; rotate_left; exact (by first | (simp; done) | (simp; omega) | omega)) | (with_reducible refine Below.setCell ?_ ?_ _; rotate_left; exact (by first | (simp; done) | (simp; omega) | omega)))) (hb9.mono hBw)), Lib.hid (by have h9 := hb9.size; have h8 := hs1; (try simp at h9); omega)⟩
                exact ownsRow_same (w := _) (by show RowO _ w.heap.size (.slice (some ⟨gF, 0, none⟩) A.length cF) fs; repeat (first | with_reducible exact HRF.out | with_reducible refine RowO.drewN ?_ _ | with_reducible refine RowO.alloc ?_ _)) fun q hq => hb8.block q (by simp only [Value.ownBlock, Option.some.injEq] at hq; omega)
              case measure => simp [intOf]; omega
        · have hkA : k = A.length := by omega
          subst hkA
          have hki : ¬ (A.length : Int) < (A.length : Int) := by omega
          have hlz : zs.length = A.length := by rw [← HS.out.1, nxL_len]
          have hro : ∀ nv, OwnZ wr B nv zs → RowO wr B nv zs := fun nv h8 => by rcases h8 with h9 | ⟨h9, _⟩; exact h9; rw [h9] at hlz; simp at hlz; omega
          have HRO := Lib.hid (hro _ HO.out)
          clear hro HO
          obtain ⟨an, cn, hav⟩ := HRO.out.len
          subst hav
          have hrf : RowF .f32 wr an zs := (FRow.mk HRO.out).row
          have hfin := l02Fin_g an cn zs wr hrf (by omega)
          have HFin := Lib.hid hfin
          have HLz := Lib.hid hlz
          clear hrf hfin hlz
          obtain ⟨m, hm⟩ : ∃ m, A.length - 1 = m := ⟨_, rfl⟩
          have hmw9 : IntKind.i64.wrap ((A.length : Int) - 1) = (m : Int) := by rw [IntWalk.i64_in _ (by omega)]; omega
          have hm0 : (0 : Int) ≤ (m : Int) := by omega
          have hm1 : (m : Int) < (A.length : Int) := by omega
          obtain ⟨hcf, hff⟩ := HRF.out.at HLZ.out.symm m (by rw [HLZ.out]; omega)
          have hif := flL_at HF.out (show m < A.length by omega)
          generalize fs.getD m 0 = fk at hcf hif
          have HM := Lib.hid hm
          clear hm
          go_wp2_with fail
          refine HFin.out.mono ?_
          rintro e w2 ⟨bb, hbb, rfl, q2, rfl⟩
          have HB9 := Lib.hid (HS.out.fin.symm.trans hbb)
          clear hbb
          cases bb
          · have hv : Q = failWav := by rw [← HQ.out]; exact wav_nofin HB9.out
            have HV := Lib.hid hv
            clear hv
            go_wp2_with fail
            go_ret3
            rw [HV.out]
            exact WavB.no (by repeat (first | with_reducible exact HBk.out | with_reducible refine beld ?_ _ | (with_reducible refine Below.alloc ?_ ?_ _; rotate_left; exact (by first | (simp; done) | (simp; omega) | omega)) | (with_reducible refine Below.setCell ?_ ?_ _; rotate_left; exact (by first | (simp; done) | (simp; omega) | omega))))
          go_wp2_with fail
          refine (l01Fin_o _ hif).mono ?_
          rintro e w3 ⟨bb, hbb, rfl, q3, rfl⟩
          have HB8 := Lib.hid hbb
          clear hbb
          cases bb
          · have hv : Q = failWav := by rw [← HQ.out]; exact wav_nolast (by rw [HM.out]; exact HB8.out)
            have HV := Lib.hid hv
            clear hv
            go_wp2_with fail
            go_ret3
            rw [HV.out]
            exact WavB.no (by repeat (first | with_reducible exact HBk.out | with_reducible refine beld ?_ _ | (with_reducible refine Below.alloc ?_ ?_ _; rotate_left; exact (by first | (simp; done) | (simp; omega) | omega)) | (with_reducible refine Below.setCell ?_ ?_ _; rotate_left; exact (by first | (simp; done) | (simp; omega) | omega))))
          have hv : Q = (zs, flO R A m, true) := by
            rw [← HQ.out, wav_yes HSh.out HB9.out (by rw [HM.out]; exact HB8.out), HS.out.exact HB9.out, HM.out]
          have HV := Lib.hid hv
          clear hv
          go_wp2_with fail
          go_ret3
          rw [HV.out]
          refine WavB.yes (lo := B) (v := .slice an zs.length cn) ?_ hBw hif (by rw [HLz.out]; exact hl) (by repeat (first | with_reducible exact HBk.out | with_reducible refine beld ?_ _ | (with_reducible refine Below.alloc ?_ ?_ _; rotate_left; exact (by first | (simp; done) | (simp; omega) | omega)) | (with_reducible refine Below.setCell ?_ ?_ _; rotate_left; exact (by first | (simp; done) | (simp; omega) | omega))))
          repeat (first | with_reducible exact HRO.out | with_reducible refine RowO.drewN ?_ _)

set_option maxHeartbeats 4000000 in
theorem stepWave_s {R I D T : Option Nat} {r i d t : Nat} (a : Option Addr) (cap : Nat) (A : List Nat) (w : World) (h : RowF .f32 w a A) (hl : A.length ≤ 1048576) (hz : ∀ z ∈ A, z < 4294967296) (hi : Is32 I i) (hr : Is32 R r) (hd : Is32 D d) (ht : Is32 T t) :
    Calls Try.prog 15 #[.slice a A.length cap, .float .f32 i, .float .f32 r, .float .f32 d, .float .f32 t] w (WavB (stepW R I D T A) w) := by
  obtain ⟨Q, hQ⟩ : ∃ Q, stepW R I D T A = Q := ⟨_, rfl⟩
  rw [hQ]
  have HQ := Lib.hid hQ
  have H := Lib.hid h
  have HZ := Lib.hid hz
  clear hQ h hz
  go_enter Try.func15, Try.ntmps15
  go_wp2_with fail
  refine (l05Slope_o a cap A _ H.out hl HZ.out hr hd ht).mono ?_
  rintro e w1 ⟨bb, hbb, rfl, q1, rfl⟩
  have P0 := Lib.hid hbb
  clear hbb
  cases bb
  · have hv : Q = failWav := by rw [← HQ.out]; unfold stepW; rw [P0.out]; rfl
    have HV := Lib.hid hv
    clear hv
    go_wp2_with fail
    go_ret3
    rw [HV.out]
    exact WavB.no (by repeat (first | with_reducible exact Below.refl _ _ | with_reducible refine beld ?_ _ | (with_reducible refine Below.alloc ?_ ?_ _; rotate_left; exact (by first | (simp; done) | (simp; omega) | omega)) | (with_reducible refine Below.setCell ?_ ?_ _; rotate_left; exact (by first | (simp; done) | (simp; omega) | omega))))
  go_wp2_with fail
  refine (l02Least_o _ hi).mono ?_
  rintro e w2 ⟨bb, hbb, rfl, q2, rfl⟩
  have P1 := Lib.hid hbb
  clear hbb
  cases bb
  · have hv : Q = failWav := by rw [← HQ.out]; unfold stepW; rw [P0.out, P1.out]; rfl
    have HV := Lib.hid hv
    clear hv
    go_wp2_with fail
    go_ret3
    rw [HV.out]
    exact WavB.no (by repeat (first | with_reducible exact Below.refl _ _ | with_reducible refine beld ?_ _ | (with_reducible refine Below.alloc ?_ ?_ _; rotate_left; exact (by first | (simp; done) | (simp; omega) | omega)) | (with_reducible refine Below.setCell ?_ ?_ _; rotate_left; exact (by first | (simp; done) | (simp; omega) | omega))))
  have hq2 : waveV R I D T A = Q := by rw [← HQ.out]; unfold stepW; rw [P0.out, P1.out]; rfl
  have hn1 : 1 ≤ A.length := by have h9 := P0.out; unfold guardW slopeW at h9; simp only [Bool.and_eq_true, decide_eq_true_eq] at h9; have := h9.1.1.1.1.1; omega
  have hcall := fun n => l05Wave_o a cap A (w.drewN n) (show RowF .f32 (w.drewN n) a A from H.out) hl hn1 HZ.out hi hr hd ht
  rw [hq2] at hcall
  have HCall := Lib.hid hcall
  clear hcall hq2
  go_wp2_with fail
  refine (HCall.out _).mono ?_
  rintro e w3 ⟨a3, c3, z3, rfl, hz3, hf3, hl3, hb3⟩
  have HF := Lib.hid hf3
  have HB := Lib.hid hb3
  have HZ3 := Lib.hid hz3
  clear hf3 hb3 hz3
  go_wp2_with fail
  go_ret3
  exact ⟨a3, c3, z3, rfl, HZ3.out, HF.out, hl3, Below.trans (beld (Below.refl _ _) _) HB.out⟩

end Go.Proofs.Ytgnkpppbhibfoaa
