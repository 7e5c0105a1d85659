/- Runs of a slope: the model. -/
import Derived.Test.YtgnkpppbhibfoaaWavR
import Derived.Test.YtgnkpppbhibfoaaWavS
namespace Go.Proofs.Ytgnkpppbhibfoaa
open Go.RowKit
set_option linter.unusedVariables false
set_option linter.unusedSimpArgs false
set_option maxRecDepth 100000
attribute [local irreducible] wpV wpList Code.wp

set_option maxHeartbeats 8000000 in
theorem runWave_s {R D T : Option Nat} {r d t : Nat} (a : Option Addr) (cap : Nat) (A : List Nat) (a2 : Option Addr) (c2 : Nat) (X : List Nat) (w : World) (h : RowF .f32 w a A) (hl : A.length ≤ 1048576) (hz : ∀ z ∈ A, z < 4294967296) (hx : RowF .f32 w a2 X) (hlx : X.length ≤ 1048576) (hzx : ∀ z ∈ X, z < 4294967296) (hr : Is32 R r) (hd : Is32 D d) (ht : Is32 T t) :
    Calls Try.prog 22 #[.slice a A.length cap, .slice a2 X.length c2, .float .f32 r, .float .f32 d, .float .f32 t] w (PostLL (runW R D T A X).1 (runW R D T A X).2.1 (runW R D T A X).2.2 w) := by
  obtain ⟨Q, hQ⟩ : ∃ Q, runW R D T A X = Q := ⟨_, rfl⟩
  rw [hQ]
  have HQ := Lib.hid hQ
  have H := Lib.hid h
  have HZ := Lib.hid hz
  have HX := Lib.hid hx
  have HZX := Lib.hid hzx
  clear hQ h hz hx hzx
  go_enter Try.func22, Try.ntmps22
  go_wp2_with fail
  refine (l05Slope_o a cap A _ H.out hl HZ.out hr hd ht).mono ?_
  rintro e w1 ⟨bb, hbb, rfl, q1, rfl⟩
  have P0 := Lib.hid hbb
  clear hbb
  cases bb
  · have hv : Q = ([], [], false) := by rw [← HQ.out]; refine runW_no ?_; (cases hw : waterB X with | false => rfl | true => (cases hi : (wvIt R D T A X X.length).2.2 with | false => rfl | true => (have h9 := wvIt_first (n := X.length) (by unfold waterB insB at hw; simp only [Bool.and_eq_true, decide_eq_true_eq] at hw; exact hw.1.1.1) hi; rw [P0.out] at h9; cases h9)))
    have HV := Lib.hid hv
    clear hv
    go_wp2_with fail
    go_ret3
    rw [HV.out]
    exact PostLL.fails (by repeat (first | with_reducible exact Below.refl _ _ | with_reducible refine beld ?_ _ | (with_reducible refine Below.alloc ?_ ?_ _; rotate_left; exact (by first | (simp; done) | (simp; omega) | omega)) | (with_reducible refine Below.setCell ?_ ?_ _; rotate_left; exact (by first | (simp; done) | (simp; omega) | omega))))
  go_wp2_with fail
  refine (l05Ins_o a2 c2 X _ (show RowF .f32 (w.drewN q1) a2 X from HX.out) hlx HZX.out).mono ?_
  rintro e w2 ⟨bb, hbb, rfl, q2, rfl⟩
  have P1 := Lib.hid hbb
  clear hbb
  cases bb
  · have hv : Q = ([], [], false) := by rw [← HQ.out]; refine runW_no ?_; unfold waterB; rw [P1.out]; rfl
    have HV := Lib.hid hv
    clear hv
    go_wp2_with fail
    go_ret3
    rw [HV.out]
    exact PostLL.fails (by repeat (first | with_reducible exact Below.refl _ _ | with_reducible refine beld ?_ _ | (with_reducible refine Below.alloc ?_ ?_ _; rotate_left; exact (by first | (simp; done) | (simp; omega) | omega)) | (with_reducible refine Below.setCell ?_ ?_ _; rotate_left; exact (by first | (simp; done) | (simp; omega) | omega))))
  have hn1 : 1 ≤ X.length ∧ X.length ≤ 128 := by have h9 := P1.out; unfold insB at h9; simp only [Bool.and_eq_true, decide_eq_true_eq] at h9; exact ⟨h9.1.1, h9.1.2⟩
  have HN := Lib.hid hn1
  clear hn1
  have hsl : slopeW A = true := by have h9 := P0.out; unfold guardW at h9; simp only [Bool.and_eq_true] at h9; exact h9.1.1.1
  have hA1 : 1 ≤ A.length := by have h9 := hsl; unfold slopeW at h9; simp only [Bool.and_eq_true, decide_eq_true_eq] at h9; omega
  obtain ⟨bA, oA, rfl, hbA, hcx⟩ := rows_at H.out (by omega)
  obtain ⟨W0, hW0⟩ : ∃ W, (w.drewN q1).drewN q2 = W := ⟨_, rfl⟩
  have hB0 : Below w.heap.size w W0 := by rw [← hW0]; exact beld (beld (Below.refl _ _) _) _
  have hsz0 : W0.heap.size = w.heap.size := by rw [← hW0]; rfl
  rw [hW0]
  have HE0 : Hid (RowO (W0.alloc (.cells #[] 23)) w.heap.size (.slice (some ⟨W0.heap.size, 0, none⟩) 0 0) []) := Lib.hid (World.ownsRow_lit (base := w.heap.size) (e := 23) (size := 1) W0 #[] 0 (by rw [hsz0]; exact Nat.le_refl _) (by simp [maxLen]) rfl)
  have hb1 := hB0.alloc hB0.size (.cells #[] 23)
  have HCA : Hid (∀ i, i < A.length → (W0.alloc (.cells #[] 23)).cell? ⟨bA, oA + i, none⟩ = some (.float .f32 (A.getD i 0))) := Lib.hid fun i hi => by rw [hb1.cell (p := ⟨bA, oA + i, none⟩) hbA]; exact hcx i hi
  have Hb1 := Lib.hid hb1
  have hlz : ([] : List Nat).length + A.length ≤ 1048576 := by simpa using hl
  have hlo : w.heap.size ≤ (W0.alloc (.cells #[] 23)).heap.size := by simp; omega
  have hA0 : 0 < A.length := hA1
  have HS0 := Lib.hid hsz0
  clear hcx hb1 hB0 hsz0 hW0
  go_wp2_with (at_builtin; refine push_all rfl rfl _ _ rfl (ys := A) rfl HE0.out bA oA _ rfl HCA.out hA0 hlz hlo ?_)
  intro g9 c9 w3 hr3 hp3
  have hb3 := Below.pushed Hb1.out hp3 HE0.out (Nat.le_refl _) hlo
  (try simp only [List.nil_append, List.length_nil, Nat.zero_add] at hr3)
  (try simp only [List.length_nil, Nat.zero_add])
  have HA3 := Lib.hid hr3
  have HB3 := Lib.hid hb3
  have hs3 : w.heap.size ≤ w3.heap.size := hb3.size
  have hg3 := (hr3.lo g9 rfl).2
  clear hr3 hp3 hb3 HE0 HCA Hb1 hlo hlz
  go_wp2_with fail
  go_loopw [36, 13, 14] (fun iv av lv wr => ∃ (k g c : Nat) (As es : List Nat) (F : Option Nat), k ≤ X.length ∧ iv = .int .i64 k ∧ av = .slice (some ⟨g, 0, none⟩) As.length c ∧ Hid (wvIt R D T A X k = (As, F, true)) ∧ Hid (guardW R D T As = true) ∧ Hid (RowO wr w.heap.size (.slice (some ⟨g, 0, none⟩) As.length c) As) ∧ Hid (As.length = A.length ∧ ∀ z ∈ As, z < 4294967296) ∧ Hid (es.length = k ∧ Is32s (wvOuts R D T A X k) es) ∧ Hid (RowO wr w.heap.size lv es ∧ Apart lv (.slice (some ⟨g, 0, none⟩) As.length c)) ∧ Hid (Below w.heap.size w wr) ∧ Hid ((X.take k).all amtB = true)) (fun iv _ _ _ => X.length - (intOf iv).toNat)
  case atStart => exact ⟨0, g9, c9, A, [], some 0, Nat.zero_le _, rfl, rfl, Lib.hid rfl, P0, Lib.hid (HA3.out.alloc _), Lib.hid ⟨rfl, HZ.out⟩, Lib.hid ⟨rfl, Is32s.nil⟩, Lib.hid ⟨World.ownsRow_lit (base := w.heap.size) (e := 23) (size := 1) w3 #[] 0 hs3 (by simp [maxLen]) rfl, fun q h1 h2 => by simp only [Value.ownBlock, Option.some.injEq] at h1 h2; omega⟩, Lib.hid (HB3.out.alloc hs3 _), Lib.hid rfl⟩
  case round =>
    clear HA3 HB3 hs3 hg3
    obtain ⟨k, g, c, As, es, F, hk, rfl, rfl, HI, HG, HA, HL, HE, HR, HBk, HAm⟩ := hrel
    by_cases hlt : k < X.length
    · have hk0 : (0 : Int) ≤ (k : Int) := by omega
      have hki : (k : Int) < (X.length : Int) := by omega
      obtain ⟨bX, oX, rfl, hbX, hcx⟩ := rows_at HX.out (by omega)
      obtain ⟨xk, hxk⟩ : ∃ x, X.getD k 0 = x := ⟨_, rfl⟩
      have hcell : wr.cell? ⟨bX, oX + k, none⟩ = some (.float .f32 xk) := by rw [HBk.out.cell (p := ⟨bX, oX + k, none⟩) hbX, hcx k hlt, hxk]
      have hix : Is32 (some xk) xk := Is32.c (by rw [← hxk]; exact wget_lt HZX.out _)
      have HXK := Lib.hid hxk
      have hrf : RowF .f32 wr (some ⟨g, 0, none⟩) As := (FRow.mk HA.out).row
      have hcall := fun n => l05Wave_o (some ⟨g, 0, none⟩) c As (wr.drewN n) (show RowF .f32 (wr.drewN n) _ As from hrf) (by rw [HL.out.1]; exact hl) (by rw [HL.out.1]; exact hA1) HL.out.2 hix hr hd ht
      have HCall := Lib.hid hcall
      have hnx := wvIt_next HI.out
      rw [hxk] at hnx
      have HNX := Lib.hid hnx
      clear hcall hnx hxk hcx hrf
      go_wp2_with fail
      refine (l02Least_o _ hix).mono ?_
      rintro e w2 ⟨bb, hbb, rfl, q3, rfl⟩
      have Hxa := Lib.hid hbb
      clear hbb
      cases bb
      · have hv : Q = ([], [], false) := by rw [← HQ.out]; refine runW_no ?_; unfold waterB rainB; rw [all_no X amtB k hlt (by rw [HXK.out]; exact Hxa.out), Bool.and_false, Bool.and_false]; rfl
        have HV := Lib.hid hv
        clear hv
        go_wp2_with fail
        go_ret3
        rw [HV.out]
        exact PostLL.fails (by repeat (first | with_reducible exact HBk.out | with_reducible refine beld ?_ _ | (with_reducible refine Below.alloc ?_ ?_ _; rotate_left; exact (by first | (simp; done) | (simp; omega) | omega)) | (with_reducible refine Below.setCell ?_ ?_ _; rotate_left; exact (by first | (simp; done) | (simp; omega) | omega))))
      have hst : stepW R (some xk) D T As = waveV R (some xk) D T As := by unfold stepW; rw [HG.out, Hxa.out]; rfl
      have HST := Lib.hid hst
      obtain ⟨V, hV⟩ : ∃ V, waveV R (some xk) D T As = V := ⟨_, rfl⟩
      have hok : V.2.2 = true → V.1.length = As.length ∧ (∀ z ∈ V.1, z < 4294967296) ∧ slopeW V.1 = true := fun h9 => by rw [← hV, ← HST.out] at h9 ⊢; have h8 := stepW_ok h9; exact ⟨h8.2.2.1, h8.2.2.2.1, h8.2.2.2.2.1⟩
      have HOK := Lib.hid hok
      have hc2 := HCall.out q3
      rw [hV] at hc2
      have HC2 := Lib.hid hc2
      have HN2 := Lib.hid (HNX.out.trans (hst.trans hV))
      clear hst hok hc2 hV HCall HNX HST
      obtain ⟨Zs, Fz, ok⟩ := V
      simp only at HOK
      go_wp2_with fail
      refine HC2.out.mono ?_
      rintro e w3 ⟨b', c', z', rfl, hz', hf', hl', hb'⟩
      simp only at hz' hf' hl' ⊢
      have HB2 : Hid (Below w.heap.size w w3) := Lib.hid ((beld HBk.out q3).trans (hb'.mono (show w.heap.size ≤ wr.heap.size from HBk.out.size)))
      have hzz : wr.heap.size ≤ w3.heap.size := hb'.size
      have HF2 := Lib.hid hf'
      have HZ' := Lib.hid hz'
      have HR2 := Lib.hid (HR.out.1.drewN q3 |>.below hb' (Nat.le_refl _))
      have hsw : w.heap.size ≤ wr.heap.size := HBk.out.size
      have hlr := HR.out.1.lo
      have HLR := Lib.hid hlr
      clear hf' hz' hb' hlr
      cases ok
      · have hv : Q = ([], [], false) := by rw [← HQ.out]; exact runW_bad (k := k + 1) (by rw [HN2.out]) hlt
        have HV := Lib.hid hv
        clear hv
        go_wp2_with fail
        go_ret3
        rw [HV.out]
        exact PostLL.fails HB2.out
      have HT := Lib.hid (HOK.out rfl)
      have hlz : Zs.length = A.length := HT.out.1.trans HL.out.1
      have HLZ := Lib.hid hlz
      obtain ⟨rfl, hnil⟩ | ⟨gn, cn, hve, hgl, hgh⟩ : (b' = none ∧ Zs = []) ∨ ∃ gn cn, b' = some ⟨gn, 0, none⟩ ∧ wr.heap.size ≤ gn ∧ gn < w3.heap.size := by
        rcases HF2.out.cases with ⟨h1, h2⟩ | ⟨gn, cn, h1, h2, h3⟩
        · injection h1 with h1 _ _; exact .inl ⟨h1, h2⟩
        · injection h1 with h1 _ _; exact .inr ⟨gn, cn, h1, h2, h3⟩
      · exfalso; rw [hnil] at hlz; simp at hlz; omega
      subst hve
      clear hlz
      have HA2 : Hid (RowO w3 w.heap.size (.slice (some ⟨gn, 0, none⟩) Zs.length c') Zs) := Lib.hid ((HF2.out.mono (lo' := w.heap.size) (by show _ ≤ (wr.drewN q3).heap.size; exact hsw) (Nat.le_refl _) HF2.out.2.2).1)
      obtain ⟨hel, hes⟩ := HE.out
      have HEl := Lib.hid hel
      have HEs := Lib.hid hes
      clear hel hes
      have Hl9 : Hid (es.length ≤ 1048576) := Lib.hid (by have := HEl.out; omega)
      have hlo9 : w.heap.size ≤ w3.heap.size := by omega
      have RE5 := Lib.hid (HR2.out.alloc (.cells #[.float .f32 z'] 23))
      have hqc : (w3.alloc (.cells #[.float .f32 z'] 23)).cell? ⟨w3.heap.size, 0, none⟩ = some (.float .f32 z') := (Bx.new w3 [.float .f32 z'] 23).c 0 rfl
      have Hqc := Lib.hid hqc
      clear hqc
      have hlo5 : w.heap.size ≤ (w3.alloc (.cells #[.float .f32 z'] 23)).heap.size := by simp; omega
      have Hlo5 := Lib.hid hlo5
      clear hlo5
      go_wp2_with (at_builtin; refine push_any rfl rfl _ _ rfl (v := u14) rfl RE5.out w3.heap.size _ z' (by first | rfl | simp) Hqc.out Hl9.out Hlo5.out ?_)
      intro g5 k5 w6 hrn hpn
      have HB6 := Lib.hid (Below.pushed (HB2.out.alloc HB2.out.size (.cells #[.float .f32 z'] 23)) hpn RE5.out (Nat.le_refl _) Hlo5.out)
      have hap : Apart u14 (.slice (some ⟨gn, 0, none⟩) Zs.length c') := fun q h1 h2 => by simp only [Value.ownBlock, Option.some.injEq] at h2; have h9 := (HLR.out q h1).2; omega
      have HA6 := Lib.hid ((HA2.out.alloc (.cells #[.float .f32 z'] 23)).other hpn hap)
      have hap2 := hap.next (n := es.length + 1) (cap := k5) hpn (HA2.out.alloc (.cells #[.float .f32 z'] 23))
      have HAP := Lib.hid hap2
      have HRN := Lib.hid hrn
      clear hrn hpn hap hap2 HLR
      go_wp2_with fail
      go_roundw
      case rel => exact ⟨k + 1, gn, c', Zs, es ++ [z'], Fz, hlt, by go_num, rfl, HN2, Lib.hid (by have h9 := HG.out; unfold guardW at h9 ⊢; simp only [Bool.and_eq_true] at h9 ⊢; exact ⟨⟨⟨HT.out.2.2, h9.1.1.2⟩, h9.1.2⟩, h9.2⟩), HA6, Lib.hid ⟨HLZ.out, HT.out.2.1⟩, Lib.hid ⟨by rw [List.length_append, HEl.out]; rfl, by rw [wvOuts_succ, HN2.out]; exact HEs.out.snoc HZ'.out⟩, Lib.hid ⟨HRN.out, HAP.out⟩, HB6, Lib.hid (all_take_g X amtB k hlt HAm.out (by rw [HXK.out]; exact Hxa.out))⟩
      case measure => simp [intOf]; omega
    · have hkX : k = X.length := by omega
      subst hkX
      have hki : ¬ (X.length : Int) < (X.length : Int) := by omega
      obtain ⟨hel, hes⟩ := HE.out
      have hex := hes.exact (wvOuts_fin (by rw [HI.out]))
      have ham := HAm.out
      rw [List.take_length] at ham
      have hv : Q = (As, es, true) := by rw [← HQ.out, runW_yes (by unfold waterB rainB; rw [P1.out, decide_eq_true HN.out.2, ham]; rfl) HI.out, ← hex]
      have HV := Lib.hid hv
      have HEl := Lib.hid hel
      clear hv hes hex hel ham
      obtain ⟨al, cl, hlv⟩ := HR.out.1.len
      subst hlv
      go_wp2_with fail
      go_ret3
      rw [HV.out]
      obtain ⟨l1, h1, fr1, hb1, hd1⟩ := HA.out.one (Nat.le_refl _) HBk.out.size
      obtain ⟨l2, h2, fr2, hb2, hd2⟩ := HR.out.1.one (Nat.le_refl _) HBk.out.size
      have hdis : h1 ≤ l2 ∨ h2 ≤ l1 := by
        rcases hd1 with ⟨h9, _, _⟩ | ⟨h9, h8, h7⟩
        · cases h9
        · rcases hd2 with ⟨_, e1, e2⟩ | ⟨g9, g8, g7⟩
          · left; omega
          · have hne : l1 ≠ l2 := fun he => HR.out.2 _ g9 (by rw [← he]; exact h9)
            omega
      exact ⟨some ⟨g, 0, none⟩, c, l1, h1, al, cl, l2, h2, rfl, fr1, fr2, hb1, hb2, by show As.length ≤ _; rw [HL.out.1]; exact hl, by show es.length ≤ _; rw [HEl.out]; exact hlx, hdis, HBk.out⟩

end Go.Proofs.Ytgnkpppbhibfoaa
