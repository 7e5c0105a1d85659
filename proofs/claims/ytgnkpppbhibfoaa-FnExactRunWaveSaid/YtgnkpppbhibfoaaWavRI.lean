/- Runs of a slope: the program. -/
import Derived.Test.YtgnkpppbhibfoaaWavR
import Derived.Test.YtgnkpppbhibfoaaWavI
namespace Go.Proofs.Ytgnkpppbhibfoaa
open Go.RowKit
set_option linter.unusedVariables false
set_option linter.unusedSimpArgs false
set_option maxRecDepth 100000
attribute [local irreducible] wpV wpList Code.wp

set_option maxHeartbeats 2000000 in
theorem water_i (a : Option Addr) (cap : Nat) (X : List Nat) (w : World) (h : RowF .f32 w a X) (hl : X.length ≤ 1048576) (hz : ∀ z ∈ X, z < 4294967296) : Calls Try.prog 76 #[.slice a X.length cap] w (SayB (waterB X) w) := by
  have H := Lib.hid h
  have HZ := Lib.hid hz
  clear h hz
  obtain ⟨Q, hQ⟩ : ∃ Q, waterB X = Q := ⟨_, rfl⟩
  rw [hQ]
  have HQ := Lib.hid hQ
  clear hQ
  go_enter Try.func76, Try.ntmps76
  go_wp2_with fail
  refine (areIns_i a cap X _ H.out hl HZ.out).mono ?_
  rintro e w1 ⟨bb, hbb, rfl, hb⟩
  have HB := Lib.hid hbb
  have HW := Lib.hid hb
  clear hbb hb
  cases bb
  · go_wp2_with fail
    go_ret
    exact ⟨_, by rw [← HQ.out]; unfold waterB; rw [HB.out]; rfl, rfl, HW.out⟩
  · go_wp2_with fail
    refine (isRain_i a cap X _ (H.out.below HW.out (Nat.le_refl _)) hl HZ.out).mono ?_
    rintro e w2 ⟨bb, hbb, rfl, hb⟩
    have HB2 := Lib.hid hbb
    have HW2 := Lib.hid (HW.out.trans (hb.mono HW.out.size))
    clear hbb hb
    go_wp2_with fail
    go_ret
    exact ⟨_, by rw [← HQ.out]; unfold waterB; rw [HB.out, HB2.out]; rfl, rfl, HW2.out⟩

set_option maxHeartbeats 8000000 in
theorem runWave_i {R D T : Option Nat} {r d t : Nat} (a : Option Addr) (cap : Nat) (A : List Nat) (a2 : Option Addr) (c2 : Nat) (X : List Nat) (w : World) (h : RowF .f32 w a A) (hl : A.length ≤ 1048576) (hz : ∀ z ∈ A, z < 4294967296) (hx : RowF .f32 w a2 X) (hlx : X.length ≤ 1048576) (hzx : ∀ z ∈ X, z < 4294967296) (hr : Is32 R r) (hd : Is32 D d) (ht : Is32 T t) :
    Calls Try.prog 23 #[.slice a A.length cap, .slice a2 X.length c2, .float .f32 r, .float .f32 d, .float .f32 t] w (PostLL (runW R D T A X).1 (runW R D T A X).2.1 (runW R D T A X).2.2 w) := by
  obtain ⟨Q, hQ⟩ : ∃ Q, runW R D T A X = Q := ⟨_, rfl⟩
  rw [hQ]
  have HQ := Lib.hid hQ
  have H := Lib.hid h
  have HZ := Lib.hid hz
  have HX := Lib.hid hx
  have HZX := Lib.hid hzx
  clear hQ h hz hx hzx
  go_enter Try.func23, Try.ntmps23
  go_wp2_with fail
  refine (water_i a2 c2 X _ HX.out hlx HZX.out).mono ?_
  rintro e w1 ⟨bb, hbb, rfl, hb⟩
  have HB1 : Hid (Below w.heap.size w w1) := Lib.hid hb
  have P0 := Lib.hid hbb
  clear hbb hb
  cases bb
  · have hv : Q = ([], [], false) := by rw [← HQ.out]; refine runW_no ?_; rw [P0.out]; rfl
    have HV := Lib.hid hv
    clear hv
    go_wp2_with fail
    go_ret3
    rw [HV.out]
    exact PostLL.fails (by repeat (first | with_reducible exact HB1.out | with_reducible refine beld ?_ _ | (with_reducible refine Below.alloc ?_ ?_ _; rotate_left; exact (by first | (simp; done) | (simp; omega) | omega)) | (with_reducible refine Below.setCell ?_ ?_ _; rotate_left; exact (by first | (simp; done) | (simp; omega) | omega))))
  have hn1 : 1 ≤ X.length ∧ X.length ≤ 128 := by have h9 := P0.out; unfold waterB insB at h9; simp only [Bool.and_eq_true, decide_eq_true_eq] at h9; exact ⟨h9.1.1.1, h9.1.1.2⟩
  have HN := Lib.hid hn1
  clear hn1
  go_wp2_with (at_make; refine make_any rfl rfl _ _ rfl .i64 .i64 _ _ X.length rfl rfl rfl rfl hlx (lo := w1.heap.size) (Nat.le_refl _) ?_)
  intro w2 hown hgrow
  have hb2 := Below.made (Below.refl w1.heap.size w1) hgrow (Nat.le_refl _)
  have HOW := Lib.hid hown
  have hz2 : w1.heap.size < w2.heap.size := (hown.lo _ rfl).2
  have HB2 : Hid (Below w.heap.size w w2) := Lib.hid (HB1.out.trans (hb2.mono HB1.out.size))
  have hs1 : w.heap.size ≤ w1.heap.size := HB1.out.size
  clear hown hgrow hb2
  obtain ⟨E, hE⟩ : ∃ E, w1.heap.size = E := ⟨_, rfl⟩
  rw [hE] at HOW hz2 hs1
  go_wp2_with fail
  try rw [hE]
  go_loopw [0, 25] (fun av iv wr => ∃ (k : Nat) (b : Option Addr) (c : Nat) (As es : List Nat) (F : Option Nat), k ≤ X.length ∧ av = .slice b As.length c ∧ iv = .int .i64 k ∧ Hid (wvIt R D T A X k = (As, F, true)) ∧ Hid (RowF .f32 wr b As) ∧ Hid (As.length = A.length ∧ ∀ z ∈ As, z < 4294967296) ∧ Hid (k = 0 ∨ FRow wr (E + 1) wr.heap.size (.slice b As.length c) As) ∧ Hid (es.length = k ∧ Is32s (wvOuts R D T A X k) es) ∧ Hid (RowO wr E (.slice (some ⟨E, 0, none⟩) X.length X.length) (es ++ List.replicate (X.length - k) 0)) ∧ Hid (E < wr.heap.size) ∧ Hid (Below w.heap.size w wr)) (fun _ iv _ => X.length - (intOf iv).toNat)
  case atStart => exact ⟨0, a, cap, A, [], some 0, Nat.zero_le _, rfl, rfl, Lib.hid rfl, Lib.hid (H.out.below HB2.out (Nat.le_refl _)), Lib.hid ⟨rfl, HZ.out⟩, Lib.hid (.inl rfl), Lib.hid ⟨rfl, Is32s.nil⟩, HOW, Lib.hid hz2, HB2⟩
  case round =>
    clear HOW hz2 HB2
    obtain ⟨k, b, c, As, es, F, hk, rfl, rfl, HI, HA, HL, HF, HE, HR, HEz, HBk⟩ := hrel
    by_cases hlt : k < X.length
    · have hk0 : (0 : Int) ≤ (k : Int) := by omega
      have hki : (k : Int) < (X.length : Int) := by omega
      obtain ⟨bX, oX, rfl, hbX, hcx⟩ := rows_at HX.out (by omega)
      obtain ⟨xk, hxk⟩ : ∃ x, X.getD k 0 = x := ⟨_, rfl⟩
      have hcell : wr.cell? ⟨bX, oX + k, none⟩ = some (.float .f32 xk) := by rw [HBk.out.cell (p := ⟨bX, oX + k, none⟩) hbX, hcx k hlt, hxk]
      have hix : Is32 (some xk) xk := Is32.c (by rw [← hxk]; exact wget_lt HZX.out _)
      have hnx := wvIt_next HI.out
      rw [hxk] at hnx
      have hcall := stepWave_i b c As wr HA.out (by rw [HL.out.1]; exact hl) HL.out.2 hix hr hd ht
      obtain ⟨V, hV⟩ : ∃ V, stepW R (some xk) D T As = V := ⟨_, rfl⟩
      rw [hV] at hcall hnx
      have hok : V.2.2 = true → V.1.length = As.length ∧ (∀ z ∈ V.1, z < 4294967296) := fun h9 => by rw [← hV] at h9 ⊢; have h8 := stepW_ok h9; exact ⟨h8.2.2.1, h8.2.2.2.1⟩
      have HOK := Lib.hid hok
      have HCall := Lib.hid hcall
      have HNX := Lib.hid hnx
      clear hok hcall hnx hV hxk hcx
      obtain ⟨Zs, Fz, ok⟩ := V
      simp only at HOK
      have hEr := HEz.out
      obtain ⟨hel, hes⟩ := HE.out
      have HEl := Lib.hid hel
      have HEs := Lib.hid hes
      have hrl := fill_len9 es X.length k hel hk
      have HRl := Lib.hid hrl
      clear hel hes hrl
      go_wp2_with fail
      refine HCall.out.mono ?_
      rintro e w2 ⟨b', c', z', rfl, hz', hf', hl', hb'⟩
      simp only at hz' hf' hl' ⊢
      have HB2 : Hid (Below w.heap.size w w2) := Lib.hid (HBk.out.trans (hb'.mono HBk.out.size))
      have hr2 := HR.out.below hb' (Nat.le_refl _)
      have HR2 := Lib.hid hr2
      have hzz : wr.heap.size ≤ w2.heap.size := hb'.size
      have HF2 := Lib.hid hf'
      have HZ' := Lib.hid hz'
      obtain ⟨hck, hfk⟩ := hr2.at HRl.out.symm k (by rw [HRl.out]; exact hlt)
      obtain ⟨old, hold⟩ : ∃ z, (es ++ List.replicate (X.length - k) 0).getD k 0 = z := ⟨_, rfl⟩
      rw [hold] at hck
      clear hold hr2 hf' hz' hb'
      cases ok
      · have hv : Q = ([], [], false) := by rw [← HQ.out]; exact runW_bad (k := k + 1) (by rw [HNX.out]) hlt
        have HV := Lib.hid hv
        clear hv
        go_wp2_with fail
        go_ret3
        rw [HV.out]
        exact PostLL.fails (HB2.out.setCell (by show w.heap.size ≤ E; omega) _)
      have HT := Lib.hid (HOK.out rfl)
      go_wp2_with fail
      go_roundw
      case rel => exact ⟨k + 1, b', c', Zs, es ++ [z'], Fz, hlt, rfl, by go_num, HNX, Lib.hid ((HF2.out.setCell (p := ⟨E, k, none⟩) (by show E < _; omega) _).row), Lib.hid ⟨HT.out.1.trans HL.out.1, HT.out.2⟩, Lib.hid (.inr ((HF2.out.setCell (p := ⟨E, k, none⟩) (by show E < _; omega) _).mono (by omega) (by simp) (by simp))), Lib.hid ⟨by rw [List.length_append, HEl.out]; rfl, by rw [wvOuts_succ, HNX.out]; exact HEs.out.snoc HZ'.out⟩, Lib.hid (by have h9 := HR2.out.store HRl.out.symm k z'; rw [fill_set9 _ _ _ _ HEl.out hlt] at h9; exact h9), Lib.hid (by simp; omega), Lib.hid (HB2.out.setCell (by show w.heap.size ≤ E; omega) _)⟩
      case measure => simp [intOf]; omega
    · have hkX : k = X.length := by omega
      subst hkX
      have hki : ¬ (X.length : Int) < (X.length : Int) := by omega
      obtain ⟨hel, hes⟩ := HE.out
      have hex := hes.exact (wvOuts_fin (by rw [HI.out]))
      have hv : Q = (As, es, true) := by rw [← HQ.out, runW_yes P0.out HI.out, ← hex]
      have HV := Lib.hid hv
      have HEl := Lib.hid hel
      clear hv hes hex hel
      go_wp2_with fail
      go_ret3
      rw [HV.out]
      have hfa : FRow wr (E + 1) wr.heap.size (.slice b As.length c) As := by rcases HF.out with h9 | h9; have := HN.out.1; omega; exact h9
      have hfe : FRow wr E (E + 1) (.slice (some ⟨E, 0, none⟩) es.length X.length) es := by
        have h9 := HR.out
        rw [Nat.sub_self, List.replicate_zero, List.append_nil] at h9
        have h8 := h9.frow
        rw [show (.slice (some ⟨E, 0, none⟩) X.length X.length : Value) = .slice (some ⟨E, 0, none⟩) es.length X.length by rw [HEl.out]] at h8
        exact ⟨h8.1, fun k hk => by simp only [Value.ownBlock, Option.some.injEq] at hk; omega, by have := HEz.out; omega⟩
      exact ⟨b, c, E + 1, wr.heap.size, some ⟨E, 0, none⟩, X.length, E, E + 1, (by rw [HEl.out]; try rfl), hfa, hfe, by omega, hs1, by show As.length ≤ _; rw [HL.out.1]; exact hl, by show es.length ≤ _; rw [HEl.out]; exact hlx, .inr (Nat.le_refl _), HBk.out⟩

end Go.Proofs.Ytgnkpppbhibfoaa
