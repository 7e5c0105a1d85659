/- A step upwards: the model. -/
import Derived.Test.YtfdcfalkidcdnaaSecV
namespace Go.Proofs.Ytfdcfalkidcdnaa
open Go.RowKit
set_option linter.unusedVariables false
set_option linter.unusedSimpArgs false
set_option maxRecDepth 100000
attribute [local irreducible] wpV wpList Code.wp

theorem backH_1 {A0 A1 A2 A3 F L T R H X : Option Nat} : (backH A0 A1 A2 A3 F L T R H X).1 = fcmp .gtr .f32 (fop .add .f32 (headS A0 A1 A2 A3 X F).1 R) (fop .add .f32 H (fop .mul .f32 L (fop .mul .f32 (some 1056964608) (fop .add .f32 T (steepO A0 A1 A2 A3 X F).1)))) := by rw [← halfO]; rfl
theorem backH_2 {A0 A1 A2 A3 F L T R H X : Option Nat} : (backH A0 A1 A2 A3 F L T R H X).2 = ((headS A0 A1 A2 A3 X F).2 && (steepO A0 A1 A2 A3 X F).2) := rfl

set_option maxHeartbeats 8000000 in
theorem backStep_s {A0 A1 A2 A3 D F L : Option Nat} {a0 a1 a2 a3 d f l : Nat} (w : World) (ha0 : Is32 A0 a0) (ha1 : Is32 A1 a1) (ha2 : Is32 A2 a2) (ha3 : Is32 A3 a3) (hd : Is32 D d) (hf : Is32 F f) (hl : Is32 L l) :
    Calls Try.prog 27 #[.agg #[.float .f32 a0, .float .f32 a1, .float .f32 a2, .float .f32 a3], .float .f32 d, .float .f32 f, .float .f32 l] w (OnlyB (backO A0 A1 A2 A3 D F L) w) := by
  obtain ⟨R, hR⟩ : ∃ R, backO A0 A1 A2 A3 D F L = R := ⟨_, rfl⟩
  rw [hR]
  have HR := Lib.hid hR
  clear hR
  go_enter Try.func27, Try.ntmps27
  go_wp2_with fail
  refine (criticalDepth_s _ ha0 ha1 ha2 ha3 hf).mono ?_
  rintro e w1 ⟨z1, b1, rfl, hb1, hz1, hb⟩
  have hB1 : Below w.heap.size w w1 := Below.trans (bel1 _ _) (hb.mono (by first | (simp; done) | (simp; omega) | omega))
  have hs1 : w.heap.size + 1 ≤ w1.heap.size := (by have := hb.size; (try simp at this); omega)
  have xa : Bx w1 w.heap.size [.float .f32 a0, .float .f32 a1, .float .f32 a2, .float .f32 a3] := Bx.below (Bx.new w [_, _, _, _] _) hb (by first | (simp; done) | (simp; omega) | omega)
  have ca0 := xa.c 0 rfl
  have ca1 := xa.c 1 rfl
  have ca2 := xa.c 2 rfl
  have ca3 := xa.c 3 rfl
  have Xa1 := Lib.hid xa
  have HB1 := Lib.hid hB1
  clear xa hb hB1
  have Hb1 := Lib.hid hb1
  clear hb1
  go_wp2_with fail
  refine (headAt_s _ ha0 ha1 ha2 ha3 hd hf).mono ?_
  rintro e w2 ⟨z2, b2, rfl, hb2, hz2, hb⟩
  have hB2 : Below w.heap.size w w2 := Below.trans HB1.out (hb.mono (by first | (simp; done) | (simp; omega) | omega))
  have hs2 : w.heap.size + 1 ≤ w2.heap.size := (by have := hb.size; (try simp at this); omega)
  have xa : Bx w2 w.heap.size [.float .f32 a0, .float .f32 a1, .float .f32 a2, .float .f32 a3] := Bx.below Xa1.out hb (by first | (simp; done) | (simp; omega) | omega)
  clear ca0 ca1 ca2 ca3
  have ca0 := xa.c 0 rfl
  have ca1 := xa.c 1 rfl
  have ca2 := xa.c 2 rfl
  have ca3 := xa.c 3 rfl
  have Xa2 := Lib.hid xa
  have HB2 := Lib.hid hB2
  clear xa hb hB2
  have Hb2 := Lib.hid hb2
  clear hb2
  go_wp2_with fail
  refine (steepnessAt_s _ ha0 ha1 ha2 ha3 hd hf).mono ?_
  rintro e w3 ⟨z3, b3, rfl, hb3, hz3, hb⟩
  have hB3 : Below w.heap.size w w3 := Below.trans HB2.out (hb.mono (by first | (simp; done) | (simp; omega) | omega))
  have hs3 : w.heap.size + 1 ≤ w3.heap.size := (by have := hb.size; (try simp at this); omega)
  have xa : Bx w3 w.heap.size [.float .f32 a0, .float .f32 a1, .float .f32 a2, .float .f32 a3] := Bx.below Xa2.out hb (by first | (simp; done) | (simp; omega) | omega)
  clear ca0 ca1 ca2 ca3
  have ca0 := xa.c 0 rfl
  have ca1 := xa.c 1 rfl
  have ca2 := xa.c 2 rfl
  have ca3 := xa.c 3 rfl
  have Xa3 := Lib.hid xa
  have HB3 := Lib.hid hB3
  clear xa hb hB3
  have Hb3 := Lib.hid hb3
  clear hb3
  by_cases hbb : (b1 && b2 && b3) = true
  · rw [Bool.and_eq_true, Bool.and_eq_true] at hbb
    obtain ⟨⟨rfl, rfl⟩, rfl⟩ := hbb
    go_wp2_with fail
    refine (l02Above_o _ hl).mono ?_
    rintro e w' ⟨bb, hbb, rfl, n3, rfl⟩
    have Hbb := Lib.hid hbb
    clear hbb
    have HB4 := Lib.hid (beld HB3.out n3)
    have Xa4 := Lib.hid (Xa3.out.drewN n3)
    obtain ⟨c5, hc5⟩ : ∃ c, fcmp .gtr .f32 D (critO A0 A1 A2 A3 F).1 = c := ⟨_, rfl⟩
    have HC5 := Lib.hid hc5
    clear hc5
    have o5 : (FloatKind.f32.format.order d z1 == some .gt) = c5 := by rw [Is32.ord hd hz1]; exact HC5.out
    cases bb
    · have hv : R = (some 0, false) := by rw [← HR.out]; unfold backO; rw [Hbb.out, Bool.and_false, Bool.false_and]; rfl
      have HV := Lib.hid hv
      clear hv
      go_wp2_with fail
      go_ret2
      exact ⟨_, _, rfl, by rw [HV.out], by rw [HV.out]; exact Is32.c (by decide), HB4.out⟩
    cases c5
    · have hv : R = (some 0, false) := by rw [← HR.out]; unfold backO; rw [HC5.out, Bool.and_false]; rfl
      have HV := Lib.hid hv
      clear hv
      go_wp2_with fail
      go_ret2
      exact ⟨_, _, rfl, by rw [HV.out], by rw [HV.out]; exact Is32.c (by decide), HB4.out⟩
    have hv : ((backR A0 A1 A2 A3 D F L).2.1, (backR A0 A1 A2 A3 D F L).2.2) = R := by rw [← HR.out]; unfold backO; rw [Hb1.out, Hb2.out, Hb3.out, Hbb.out, HC5.out]; rfl
    have HV := Lib.hid hv
    clear hv
    obtain ⟨R2, hR2⟩ : ∃ R2, backR A0 A1 A2 A3 D F L = R2 := ⟨_, rfl⟩
    have HR2 : Hid (halveO (backH A0 A1 A2 A3 F L (steepO A0 A1 A2 A3 D F).1 (fop .mul .f32 A2 L) (headS A0 A1 A2 A3 D F).1) (40 - 0) (critO A0 A1 A2 A3 F).1 (some 1148846080) = R2) := Lib.hid hR2
    have hv := HV.out
    rw [hR2] at hv
    have HV2 := Lib.hid hv
    clear hv hR2 HV
    go_wp2_with fail
    go_loopw [16, 17, 18] (fun lo hi nn wr => ∃ (k : Nat) (X Y : Option Nat) (x y : Nat), k ≤ 40 ∧ lo = .float .f32 x ∧ hi = .float .f32 y ∧ nn = .int .i64 (k : Int) ∧ Is32 X x ∧ Is32 Y y ∧ Hid (halveO (backH A0 A1 A2 A3 F L (steepO A0 A1 A2 A3 D F).1 (fop .mul .f32 A2 L) (headS A0 A1 A2 A3 D F).1) (40 - k) X Y = R2) ∧ Hid (Below w.heap.size w wr) ∧ Hid (Bx wr w.heap.size [.float .f32 a0, .float .f32 a1, .float .f32 a2, .float .f32 a3])) (fun _ _ nn _ => 40 - (intOf nn).toNat)
    case atStart => exact ⟨0, _, _, _, _, by omega, rfl, rfl, rfl, hz1, Is32.c (b := 1148846080) (by decide), HR2, HB4, Xa4⟩
    case round =>
      obtain ⟨k, X, Y, x, y, hk, rfl, rfl, rfl, hx, hy, HK, HBk, HX⟩ := hrel
      clear ca0 ca1 ca2 ca3
      have ca0 := HX.out.c 0 rfl
      have ca1 := HX.out.c 1 rfl
      have ca2 := HX.out.c 2 rfl
      have ca3 := HX.out.c 3 rfl
      by_cases hlt : k < 40
      · have hlt2 : (k : Int) < 40 := by omega
        go_wp2_with (first | ((with_reducible refine wpList_bin ?_); refine wpList_f32 rfl _ _ _ _ _ rfl rfl rfl (by decide) (by first | assumption | exact Is32.c (by decide)) (by first | assumption | exact Is32.c (by decide)) ?_; intro z n hz))
        have hmid : Is32 (fop .quo .f32 (fop .add .f32 X Y) (some 1073741824)) z := by rw [halfO]; exact hz
        have Hm := Lib.hid hmid
        clear hz hmid
        have hwr : w.heap.size + 1 ≤ wr.heap.size := HX.out.1
        refine (headAt_s _ ha0 ha1 ha2 ha3 Hm.out hf).mono ?_
        rintro e w5 ⟨z5, b5, rfl, hb5, hz5, hb⟩
        have hB5 : Below w.heap.size w w5 := Below.trans (by first | exact HBk.out | exact beld HBk.out _ | exact beld (beld HBk.out _) _ | exact beld (beld (beld HBk.out _) _) _ | exact beld (beld (beld (beld HBk.out _) _) _) _ | exact beld (beld (beld (beld (beld HBk.out _) _) _) _) _ | exact beld (beld (beld (beld (beld (beld HBk.out _) _) _) _) _) _) (hb.mono (by first | (simp; done) | (simp; omega) | omega))
        have hs5 : w.heap.size + 1 ≤ w5.heap.size := (by have := hb.size; (try simp at this); omega)
        have xa : Bx w5 w.heap.size [.float .f32 a0, .float .f32 a1, .float .f32 a2, .float .f32 a3] := Bx.below (by first | exact HX.out | exact HX.out.drewN _ | exact (HX.out.drewN _).drewN _) hb (by first | (simp; done) | (simp; omega) | omega)
        clear ca0 ca1 ca2 ca3
        have ca0 := xa.c 0 rfl
        have ca1 := xa.c 1 rfl
        have ca2 := xa.c 2 rfl
        have ca3 := xa.c 3 rfl
        have Xa5 := Lib.hid xa
        have HB5 := Lib.hid hB5
        clear xa hb hB5
        have Hb5 := Lib.hid hb5
        clear hb5
        go_wp2_with fail
        refine (steepnessAt_s _ ha0 ha1 ha2 ha3 Hm.out hf).mono ?_
        rintro e w6 ⟨z6, b6, rfl, hb6, hz6, hb⟩
        have hB6 : Below w.heap.size w w6 := Below.trans HB5.out (hb.mono (by first | (simp; done) | (simp; omega) | omega))
        have hs6 : w.heap.size + 1 ≤ w6.heap.size := (by have := hb.size; (try simp at this); omega)
        have xa : Bx w6 w.heap.size [.float .f32 a0, .float .f32 a1, .float .f32 a2, .float .f32 a3] := Bx.below Xa5.out hb (by first | (simp; done) | (simp; omega) | omega)
        clear ca0 ca1 ca2 ca3
        have ca0 := xa.c 0 rfl
        have ca1 := xa.c 1 rfl
        have ca2 := xa.c 2 rfl
        have ca3 := xa.c 3 rfl
        have Xa6 := Lib.hid xa
        have HB6 := Lib.hid hB6
        clear xa hb hB6
        have Hb6 := Lib.hid hb6
        clear hb6
        have e40 : 40 - k = (40 - (k + 1)) + 1 := by omega
        have hk4 : halveO (backH A0 A1 A2 A3 F L (steepO A0 A1 A2 A3 D F).1 (fop .mul .f32 A2 L) (headS A0 A1 A2 A3 D F).1) ((40 - (k + 1)) + 1) X Y = R2 := by rw [← e40]; exact HK.out
        have HK4 := Lib.hid hk4
        clear e40 hk4
        have hcc : (backH A0 A1 A2 A3 F L (steepO A0 A1 A2 A3 D F).1 (fop .mul .f32 A2 L) (headS A0 A1 A2 A3 D F).1 (fop .quo .f32 (fop .add .f32 X Y) (some 1073741824))).2 = (b5 && b6) := by rw [backH_2, Hb5.out, Hb6.out]
        have HC := Lib.hid hcc
        clear hcc
        by_cases hbb : (b5 && b6) = true
        · rw [Bool.and_eq_true] at hbb
          obtain ⟨rfl, rfl⟩ := hbb
          go_wp2_with (first | ((with_reducible refine wpList_bin ?_); refine wpList_f32 rfl _ _ _ _ _ rfl rfl rfl (by decide) (by first | assumption | exact Is32.c (by decide)) (by first | assumption | exact Is32.c (by decide)) ?_; intro z n hz) | ((with_reducible refine wpList_bin ?_); refine wpList_c32 rfl _ _ _ _ _ rfl rfl rfl (by decide) (by first | assumption | exact Is32.c (by decide)) (by first | assumption | exact Is32.c (by decide)) ?_; intro b3 hb3; rw [← backH_1] at hb3; have HB3b := Lib.hid hb3; clear hb3; cases b3))
          · exact ⟨⟨k + 1, _, _, _, _, by omega, rfl, rfl, by go_num, Hm.out, hy, Lib.hid ((halve_lo (H := (backH A0 A1 A2 A3 F L (steepO A0 A1 A2 A3 D F).1 (fop .mul .f32 A2 L) (headS A0 A1 A2 A3 D F).1)) HC.out HB3b.out).symm.trans HK4.out), Lib.hid (by first | exact HB6.out | exact beld HB6.out _ | exact beld (beld HB6.out _) _ | exact beld (beld (beld HB6.out _) _) _ | exact beld (beld (beld (beld HB6.out _) _) _) _ | exact beld (beld (beld (beld (beld HB6.out _) _) _) _) _ | exact beld (beld (beld (beld (beld (beld HB6.out _) _) _) _) _) _), Lib.hid (by exact Xa6.out)⟩, by simp [intOf]; omega⟩
          · exact ⟨⟨k + 1, _, _, _, _, by omega, rfl, rfl, by go_num, hx, Hm.out, Lib.hid ((halve_hi (H := (backH A0 A1 A2 A3 F L (steepO A0 A1 A2 A3 D F).1 (fop .mul .f32 A2 L) (headS A0 A1 A2 A3 D F).1)) HC.out HB3b.out).symm.trans HK4.out), Lib.hid (by first | exact HB6.out | exact beld HB6.out _ | exact beld (beld HB6.out _) _ | exact beld (beld (beld HB6.out _) _) _ | exact beld (beld (beld (beld HB6.out _) _) _) _ | exact beld (beld (beld (beld (beld HB6.out _) _) _) _) _ | exact beld (beld (beld (beld (beld (beld HB6.out _) _) _) _) _) _), Lib.hid (by exact Xa6.out)⟩, by simp [intOf]; omega⟩
        · have hbf : (b5 && b6) = false := by simpa using hbb
          have hRv : R2 = (some 0, some 0, false) := HK4.out.symm.trans (halve_no (H := (backH A0 A1 A2 A3 F L (steepO A0 A1 A2 A3 D F).1 (fop .mul .f32 A2 L) (headS A0 A1 A2 A3 D F).1)) (HC.out.trans hbf))
          have HRv := Lib.hid hRv
          clear hRv hbf
          cases b5
          all_goals cases b6
          all_goals first | (exact absurd rfl hbb) | skip
          all_goals clear hbb
          all_goals go_wp2_with fail
          all_goals go_ret2
          all_goals exact ⟨_, _, rfl, by rw [← HV2.out, HRv.out], by rw [← HV2.out, HRv.out]; exact Is32.c (by decide), HB6.out⟩
      · obtain rfl : k = 40 := by omega
        have h9 := HK.out
        simp only [Nat.sub_self, halveO] at h9
        have H9 := Lib.hid h9
        clear h9
        go_wp2_with fail
        go_ret2
        exact ⟨_, _, rfl, by rw [← HV2.out, ← H9.out], by rw [← HV2.out, ← H9.out]; exact hy, HBk.out⟩
  · have hbf : (b1 && b2 && b3) = false := by simpa using hbb
    have hv : R = (some 0, false) := by rw [← HR.out]; unfold backO; rw [Hb1.out, Hb2.out, Hb3.out, hbf, Bool.false_and, Bool.false_and]; rfl
    have HV := Lib.hid hv
    clear hv hbf
    cases b1
    all_goals cases b2
    all_goals cases b3
    all_goals first | (exact absurd rfl hbb) | skip
    all_goals clear hbb
    all_goals go_wp2_with fail
    all_goals go_ret2
    all_goals exact ⟨_, _, rfl, by rw [HV.out], by rw [HV.out]; exact Is32.c (by decide), HB3.out⟩

end Go.Proofs.Ytfdcfalkidcdnaa
