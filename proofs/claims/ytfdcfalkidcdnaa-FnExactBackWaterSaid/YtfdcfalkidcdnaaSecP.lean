/- The other depth with the same head or push: the model; what a jump loses. -/
import Derived.Test.YtfdcfalkidcdnaaSecO
namespace Go.Proofs.Ytfdcfalkidcdnaa
open Go.RowKit
set_option linter.unusedVariables false
set_option linter.unusedSimpArgs false
set_option maxRecDepth 100000
attribute [local irreducible] wpV wpList Code.wp

set_option maxHeartbeats 8000000 in
theorem l04Of_h0 {A0 A1 A2 A3 : Option Nat} {a0 a1 a2 a3 : Nat} (ba : Nat) {D : Option Nat} {d : Nat} {F : Option Nat} {f : Nat}  (w : World) (hBa : Bx w ba [.float .f32 a0, .float .f32 a1, .float .f32 a2, .float .f32 a3]) (ha0 : Is32 A0 a0) (ha1 : Is32 A1 a1) (ha2 : Is32 A2 a2) (ha3 : Is32 A3 a3) (hd : Is32 D d) (hf : Is32 F f) :
    Calls Try.prog 97 #[.pointer (some ⟨ba, 0, none⟩), .float .f32 d, .float .f32 f, .bool false] w (OnlyQ (headQ A0 A1 A2 A3 D F) w) := by
  have ca0 := hBa.c 0 rfl
  have ca1 := hBa.c 1 rfl
  have ca2 := hBa.c 2 rfl
  have ca3 := hBa.c 3 rfl
  go_enter Try.func97, Try.ntmps97
  go_wp2_with (first | ((with_reducible refine wpList_bin ?_); refine wpList_f32 rfl _ _ _ _ _ rfl rfl rfl (by decide) (by first | assumption | exact Is32.c (by decide)) (by first | assumption | exact Is32.c (by decide)) ?_; intro z n hz) | ((with_reducible refine wpList_bin ?_); refine wpList_c32 rfl _ _ _ _ _ rfl rfl rfl (by decide) (by first | assumption | exact Is32.c (by decide)) (by first | assumption | exact Is32.c (by decide)) ?_; intro bb hbb; cases bb) | (go_at_call 65; refine (l04Both_o _ _ (by first | exact Bx.new _ [_, _, _, _] _ | exact Bx.drewN (Bx.new _ [_, _, _, _] _) _ | assumption) (by first | assumption | exact Is32.c (by decide)) (by first | assumption | exact Is32.c (by decide)) (by first | assumption | exact Is32.c (by decide)) (by first | assumption | exact Is32.c (by decide)) (by first | assumption | exact Is32.c (by decide)) (by first | assumption | exact Is32.c (by decide))).mono ?_; rintro e w' ⟨bb, hbb, rfl, q, rfl⟩; cases bb) | (go_at_call 100; refine (l04Head_o _ _ (by first | exact Bx.new _ [_, _, _, _] _ | exact Bx.drewN (Bx.new _ [_, _, _, _] _) _ | assumption) (by first | assumption | exact Is32.c (by decide)) (by first | assumption | exact Is32.c (by decide)) (by first | assumption | exact Is32.c (by decide)) (by first | assumption | exact Is32.c (by decide)) (by first | assumption | exact Is32.c (by decide)) (by first | assumption | exact Is32.c (by decide))).mono ?_; rintro e w' ⟨z, bb, rfl, hbb, hz, q, rfl⟩; cases bb))
  all_goals go_ret2
  all_goals (refine ⟨_, _, rfl, ?_, ?_, (by first | exact ⟨_, rfl⟩ | exact drewC _ _ _ ⟨_, rfl⟩ | exact drewC _ _ _ (drewC _ _ _ ⟨_, rfl⟩))⟩; (simp [headQ, *]); first | (simp [headQ, *]; done) | (simp [headQ, *]; exact Is32.c (by decide)) | (simp [headQ, *]; assumption))

theorem l04Of_h {A0 A1 A2 A3 D F : Option Nat} {a0 a1 a2 a3 d f : Nat} (ba : Nat) (w : World) (hBa : Bx w ba [.float .f32 a0, .float .f32 a1, .float .f32 a2, .float .f32 a3]) (ha0 : Is32 A0 a0) (ha1 : Is32 A1 a1) (ha2 : Is32 A2 a2) (ha3 : Is32 A3 a3) (hd : Is32 D d) (hf : Is32 F f) : Calls Try.prog 97 #[.pointer (some ⟨ba, 0, none⟩), .float .f32 d, .float .f32 f, .bool false] w (OnlyQ (headS A0 A1 A2 A3 D F) w) := headQ_eq ▸ l04Of_h0 ba w hBa ha0 ha1 ha2 ha3 hd hf

set_option maxHeartbeats 8000000 in
theorem l04Of_p0 {A0 A1 A2 A3 : Option Nat} {a0 a1 a2 a3 : Nat} (ba : Nat) {D : Option Nat} {d : Nat} {F : Option Nat} {f : Nat}  (w : World) (hBa : Bx w ba [.float .f32 a0, .float .f32 a1, .float .f32 a2, .float .f32 a3]) (ha0 : Is32 A0 a0) (ha1 : Is32 A1 a1) (ha2 : Is32 A2 a2) (ha3 : Is32 A3 a3) (hd : Is32 D d) (hf : Is32 F f) :
    Calls Try.prog 97 #[.pointer (some ⟨ba, 0, none⟩), .float .f32 d, .float .f32 f, .bool true] w (OnlyQ (pushQ A0 A1 A2 A3 D F) w) := by
  have ca0 := hBa.c 0 rfl
  have ca1 := hBa.c 1 rfl
  have ca2 := hBa.c 2 rfl
  have ca3 := hBa.c 3 rfl
  go_enter Try.func97, Try.ntmps97
  go_wp2_with (first | ((with_reducible refine wpList_bin ?_); refine wpList_f32 rfl _ _ _ _ _ rfl rfl rfl (by decide) (by first | assumption | exact Is32.c (by decide)) (by first | assumption | exact Is32.c (by decide)) ?_; intro z n hz) | ((with_reducible refine wpList_bin ?_); refine wpList_c32 rfl _ _ _ _ _ rfl rfl rfl (by decide) (by first | assumption | exact Is32.c (by decide)) (by first | assumption | exact Is32.c (by decide)) ?_; intro bb hbb; cases bb) | (go_at_call 65; refine (l04Both_o _ _ (by first | exact Bx.new _ [_, _, _, _] _ | exact Bx.drewN (Bx.new _ [_, _, _, _] _) _ | assumption) (by first | assumption | exact Is32.c (by decide)) (by first | assumption | exact Is32.c (by decide)) (by first | assumption | exact Is32.c (by decide)) (by first | assumption | exact Is32.c (by decide)) (by first | assumption | exact Is32.c (by decide)) (by first | assumption | exact Is32.c (by decide))).mono ?_; rintro e w' ⟨bb, hbb, rfl, q, rfl⟩; cases bb) | (go_at_call 91; refine (l04Push_o _ _ (by first | exact Bx.new _ [_, _, _, _] _ | exact Bx.drewN (Bx.new _ [_, _, _, _] _) _ | assumption) (by first | assumption | exact Is32.c (by decide)) (by first | assumption | exact Is32.c (by decide)) (by first | assumption | exact Is32.c (by decide)) (by first | assumption | exact Is32.c (by decide)) (by first | assumption | exact Is32.c (by decide)) (by first | assumption | exact Is32.c (by decide))).mono ?_; rintro e w' ⟨z, bb, rfl, hbb, hz, q, rfl⟩; cases bb))
  all_goals go_ret2
  all_goals (refine ⟨_, _, rfl, ?_, ?_, (by first | exact ⟨_, rfl⟩ | exact drewC _ _ _ ⟨_, rfl⟩ | exact drewC _ _ _ (drewC _ _ _ ⟨_, rfl⟩))⟩; (simp [pushQ, *]); first | (simp [pushQ, *]; done) | (simp [pushQ, *]; exact Is32.c (by decide)) | (simp [pushQ, *]; assumption))

theorem l04Of_p {A0 A1 A2 A3 D F : Option Nat} {a0 a1 a2 a3 d f : Nat} (ba : Nat) (w : World) (hBa : Bx w ba [.float .f32 a0, .float .f32 a1, .float .f32 a2, .float .f32 a3]) (ha0 : Is32 A0 a0) (ha1 : Is32 A1 a1) (ha2 : Is32 A2 a2) (ha3 : Is32 A3 a3) (hd : Is32 D d) (hf : Is32 F f) : Calls Try.prog 97 #[.pointer (some ⟨ba, 0, none⟩), .float .f32 d, .float .f32 f, .bool true] w (OnlyQ (pushS A0 A1 A2 A3 D F) w) := pushQ_eq ▸ l04Of_p0 ba w hBa ha0 ha1 ha2 ha3 hd hf

set_option maxHeartbeats 8000000 in
theorem l04Other_o {A0 A1 A2 A3 D F : Option Nat} {a0 a1 a2 a3 d f : Nat} (p : Bool) (ms : Option Nat → Option Nat × Bool) (ba : Nat) (w : World) (hBa : Bx w ba [.float .f32 a0, .float .f32 a1, .float .f32 a2, .float .f32 a3]) (ha0 : Is32 A0 a0) (ha1 : Is32 A1 a1) (ha2 : Is32 A2 a2) (ha3 : Is32 A3 a3) (hd : Is32 D d) (hf : Is32 F f) (HM : ∀ (X : Option Nat) (x : Nat) (W : World), Is32 X x → Bx W ba [.float .f32 a0, .float .f32 a1, .float .f32 a2, .float .f32 a3] → Calls Try.prog 97 #[.pointer (some ⟨ba, 0, none⟩), .float .f32 x, .float .f32 f, .bool p] W (OnlyQ (ms X) W)) :
    Calls Try.prog 66 #[.pointer (some ⟨ba, 0, none⟩), .float .f32 d, .float .f32 f, .bool p] w (OnlyB (otherC ms ((critR A0 A1 A2 A3 F).2.1, (critR A0 A1 A2 A3 F).2.2) D) w) := by
  have HC := Lib.hid HM
  have HX0 := Lib.hid hBa
  clear HM hBa
  obtain ⟨R, hR⟩ : ∃ R, otherC ms ((critR A0 A1 A2 A3 F).2.1, (critR A0 A1 A2 A3 F).2.2) D = R := ⟨_, rfl⟩
  rw [hR]
  have HR0 := Lib.hid hR
  clear hR
  go_enter Try.func66, Try.ntmps66
  go_wp2_with fail
  refine (l04Critical_o _ _ HX0.out ha0 ha1 ha2 ha3 hf).mono ?_
  rintro e w1 ⟨z1, b1, rfl, hb1, hz1, hb⟩
  have HX1 := Lib.hid (HX0.out.below hb HX0.out.1)
  have HB1 := Lib.hid hb
  have Hb1 := Lib.hid hb1
  clear hb hb1
  go_wp2_with fail
  refine (HC.out D d _ hd HX1.out).mono ?_
  rintro e w2 ⟨z2, b2, rfl, hb2, hz2, n2, rfl⟩
  have Hb2 := Lib.hid hb2
  clear hb2
  have HBs := Lib.hid (beld HB1.out n2)
  have HXs := Lib.hid (HX1.out.drewN n2)
  by_cases hbb : (b1 && b2) = true
  · rw [Bool.and_eq_true] at hbb
    obtain ⟨rfl, rfl⟩ := hbb
    have hR := HR0.out
    rw [otherC_yes Hb1.out Hb2.out] at hR
    obtain ⟨c5, hc5⟩ : ∃ c, fcmp .lss .f32 D (critR A0 A1 A2 A3 F).2.1 = c := ⟨_, rfl⟩
    simp only [hc5] at hR
    have HC5 := Lib.hid hc5
    clear hc5
    cases c5
    · simp only [if_false, Bool.false_eq_true] at hR
      obtain ⟨R2, hR2⟩ : ∃ R2, halveO (fun X => (fcmp .lss .f32 (ms X).1 (ms D).1, (ms X).2)) 40 (some 981668463) (critR A0 A1 A2 A3 F).2.1 = R2 := ⟨_, rfl⟩
      simp only [hR2] at hR
      have HR := Lib.hid hR
      have HR2 : Hid (halveO (fun X => (fcmp .lss .f32 (ms X).1 (ms D).1, (ms X).2)) (40 - 0) (some 981668463) (critR A0 A1 A2 A3 F).2.1 = R2) := Lib.hid hR2
      clear hR hR2
      have o5 : (FloatKind.f32.format.order d z1 == some .lt) = false := by rw [Is32.ord hd hz1]; exact HC5.out
      go_wp2_with fail
      go_loopw [15, 16, 17] (fun lo hi nn wr => ∃ (k : Nat) (X Y : Option Nat) (x y : Nat), k ≤ 40 ∧ lo = .float .f32 x ∧ hi = .float .f32 y ∧ nn = .int .i64 (k : Int) ∧ Is32 X x ∧ Is32 Y y ∧ Hid (halveO (fun X => (fcmp .lss .f32 (ms X).1 (ms D).1, (ms X).2)) (40 - k) X Y = R2) ∧ Hid (Below w.heap.size w wr) ∧ Hid (Bx wr ba [.float .f32 a0, .float .f32 a1, .float .f32 a2, .float .f32 a3])) (fun _ _ nn _ => 40 - (intOf nn).toNat)
      case atStart => exact ⟨0, _, _, _, _, by omega, rfl, rfl, rfl, (Is32.c (b := 981668463) (by decide)), hz1, HR2, HBs, HXs⟩
      case round =>
        obtain ⟨k, X, Y, x, y, hk, rfl, rfl, rfl, hx, hy, HK, HBk, HX⟩ := hrel
        have c0 := HX.out.c 0 rfl
        have c1 := HX.out.c 1 rfl
        have c2 := HX.out.c 2 rfl
        have c3 := HX.out.c 3 rfl
        by_cases hlt : k < 40
        · have hlt2 : (k : Int) < 40 := by omega
          go_wp2_with (first | ((with_reducible refine wpList_bin ?_); refine wpList_f32 rfl _ _ _ _ _ rfl rfl rfl (by decide) (by first | assumption | exact Is32.c (by decide)) (by first | assumption | exact Is32.c (by decide)) ?_; intro z n hz))
          have hmid : Is32 (fop .quo .f32 (fop .add .f32 X Y) (some 1073741824)) z := by rw [halfO]; exact hz
          have Hm := Lib.hid hmid
          clear hz hmid
          refine (HC.out (fop .quo .f32 (fop .add .f32 X Y) (some 1073741824)) z _ Hm.out (by first | exact HX.out | exact HX.out.drewN _)).mono ?_
          rintro e W9 ⟨zq, bb, rfl, hbb, hzq, n9, rfl⟩
          have e40 : 40 - k = (40 - (k + 1)) + 1 := by omega
          have hk4 : halveO (fun X => (fcmp .lss .f32 (ms X).1 (ms D).1, (ms X).2)) ((40 - (k + 1)) + 1) X Y = R2 := by rw [← e40]; exact HK.out
          have HK4 := Lib.hid hk4
          have HCC := Lib.hid hbb
          clear e40 hk4 c0 c1 c2 c3
          have hB9 : Below w.heap.size w wr := HBk.out
          have HB9 := Lib.hid hB9
          clear hB9
          cases bb with
          | false =>
            have hRv : R2 = (some 0, some 0, false) := HK4.out.symm.trans (halve_no (H := (fun X => (fcmp .lss .f32 (ms X).1 (ms D).1, (ms X).2))) HCC.out)
            have HRv := Lib.hid hRv
            clear hRv hbb
            go_wp2_with fail
            go_ret2
            exact ⟨_, _, rfl, by rw [← HR.out, HRv.out], by rw [← HR.out, HRv.out]; exact Is32.c (by decide), by first | exact beld HB9.out _ | exact beld (beld HB9.out _) _⟩
          | true =>
            clear hbb
            obtain ⟨b5, hb5⟩ : ∃ b, fcmp .lss .f32 (ms (fop .quo .f32 (fop .add .f32 X Y) (some 1073741824))).1 (ms D).1 = b := ⟨_, rfl⟩
            have HB5 := Lib.hid hb5
            clear hb5
            cases b5
            · have o5 : (FloatKind.f32.format.order zq z2 == some .lt) = false := by rw [Is32.ord hzq hz2]; exact HB5.out
              go_wp2_with fail
              exact ⟨⟨k + 1, _, _, _, _, by omega, rfl, rfl, by go_num, Hm.out, hy, Lib.hid ((halve_lo (H := (fun X => (fcmp .lss .f32 (ms X).1 (ms D).1, (ms X).2))) HCC.out HB5.out).symm.trans HK4.out), Lib.hid (by first | exact beld HB9.out _ | exact beld (beld HB9.out _) _), Lib.hid (by first | exact HX.out.drewN _ | exact (HX.out.drewN _).drewN _)⟩, by simp [intOf]; omega⟩
            · have o5 : (FloatKind.f32.format.order zq z2 == some .lt) = true := by rw [Is32.ord hzq hz2]; exact HB5.out
              go_wp2_with fail
              exact ⟨⟨k + 1, _, _, _, _, by omega, rfl, rfl, by go_num, hx, Hm.out, Lib.hid ((halve_hi (H := (fun X => (fcmp .lss .f32 (ms X).1 (ms D).1, (ms X).2))) HCC.out HB5.out).symm.trans HK4.out), Lib.hid (by first | exact beld HB9.out _ | exact beld (beld HB9.out _) _), Lib.hid (by first | exact HX.out.drewN _ | exact (HX.out.drewN _).drewN _)⟩, by simp [intOf]; omega⟩
        · obtain rfl : k = 40 := by omega
          have h9 := HK.out
          simp only [Nat.sub_self, halveO] at h9
          have H9 := Lib.hid h9
          clear h9 c0 c1 c2 c3
          go_wp2_with fail
          go_ret2
          exact ⟨_, _, rfl, by rw [← HR.out, ← H9.out], by rw [← HR.out, ← H9.out]; exact hy, HBk.out⟩
    · simp only [if_true] at hR
      obtain ⟨R2, hR2⟩ : ∃ R2, halveO (fun X => (fcmp .gtr .f32 (ms X).1 (ms D).1, (ms X).2)) 40 (critR A0 A1 A2 A3 F).2.1 (some 1148846080) = R2 := ⟨_, rfl⟩
      simp only [hR2] at hR
      have HR := Lib.hid hR
      have HR2 : Hid (halveO (fun X => (fcmp .gtr .f32 (ms X).1 (ms D).1, (ms X).2)) (40 - 0) (critR A0 A1 A2 A3 F).2.1 (some 1148846080) = R2) := Lib.hid hR2
      clear hR hR2
      have o5 : (FloatKind.f32.format.order d z1 == some .lt) = true := by rw [Is32.ord hd hz1]; exact HC5.out
      go_wp2_with fail
      go_loopw [15, 16, 17] (fun lo hi nn wr => ∃ (k : Nat) (X Y : Option Nat) (x y : Nat), k ≤ 40 ∧ lo = .float .f32 x ∧ hi = .float .f32 y ∧ nn = .int .i64 (k : Int) ∧ Is32 X x ∧ Is32 Y y ∧ Hid (halveO (fun X => (fcmp .gtr .f32 (ms X).1 (ms D).1, (ms X).2)) (40 - k) X Y = R2) ∧ Hid (Below w.heap.size w wr) ∧ Hid (Bx wr ba [.float .f32 a0, .float .f32 a1, .float .f32 a2, .float .f32 a3])) (fun _ _ nn _ => 40 - (intOf nn).toNat)
      case atStart => exact ⟨0, _, _, _, _, by omega, rfl, rfl, rfl, hz1, (Is32.c (b := 1148846080) (by decide)), HR2, HBs, HXs⟩
      case round =>
        obtain ⟨k, X, Y, x, y, hk, rfl, rfl, rfl, hx, hy, HK, HBk, HX⟩ := hrel
        have c0 := HX.out.c 0 rfl
        have c1 := HX.out.c 1 rfl
        have c2 := HX.out.c 2 rfl
        have c3 := HX.out.c 3 rfl
        by_cases hlt : k < 40
        · have hlt2 : (k : Int) < 40 := by omega
          go_wp2_with (first | ((with_reducible refine wpList_bin ?_); refine wpList_f32 rfl _ _ _ _ _ rfl rfl rfl (by decide) (by first | assumption | exact Is32.c (by decide)) (by first | assumption | exact Is32.c (by decide)) ?_; intro z n hz))
          have hmid : Is32 (fop .quo .f32 (fop .add .f32 X Y) (some 1073741824)) z := by rw [halfO]; exact hz
          have Hm := Lib.hid hmid
          clear hz hmid
          refine (HC.out (fop .quo .f32 (fop .add .f32 X Y) (some 1073741824)) z _ Hm.out (by first | exact HX.out | exact HX.out.drewN _)).mono ?_
          rintro e W9 ⟨zq, bb, rfl, hbb, hzq, n9, rfl⟩
          have e40 : 40 - k = (40 - (k + 1)) + 1 := by omega
          have hk4 : halveO (fun X => (fcmp .gtr .f32 (ms X).1 (ms D).1, (ms X).2)) ((40 - (k + 1)) + 1) X Y = R2 := by rw [← e40]; exact HK.out
          have HK4 := Lib.hid hk4
          have HCC := Lib.hid hbb
          clear e40 hk4 c0 c1 c2 c3
          have hB9 : Below w.heap.size w wr := HBk.out
          have HB9 := Lib.hid hB9
          clear hB9
          cases bb with
          | false =>
            have hRv : R2 = (some 0, some 0, false) := HK4.out.symm.trans (halve_no (H := (fun X => (fcmp .gtr .f32 (ms X).1 (ms D).1, (ms X).2))) HCC.out)
            have HRv := Lib.hid hRv
            clear hRv hbb
            go_wp2_with fail
            go_ret2
            exact ⟨_, _, rfl, by rw [← HR.out, HRv.out], by rw [← HR.out, HRv.out]; exact Is32.c (by decide), by first | exact beld HB9.out _ | exact beld (beld HB9.out _) _⟩
          | true =>
            clear hbb
            obtain ⟨b5, hb5⟩ : ∃ b, fcmp .gtr .f32 (ms (fop .quo .f32 (fop .add .f32 X Y) (some 1073741824))).1 (ms D).1 = b := ⟨_, rfl⟩
            have HB5 := Lib.hid hb5
            clear hb5
            cases b5
            · have o5 : (FloatKind.f32.format.order zq z2 == some .gt) = false := by rw [Is32.ord hzq hz2]; exact HB5.out
              go_wp2_with fail
              exact ⟨⟨k + 1, _, _, _, _, by omega, rfl, rfl, by go_num, Hm.out, hy, Lib.hid ((halve_lo (H := (fun X => (fcmp .gtr .f32 (ms X).1 (ms D).1, (ms X).2))) HCC.out HB5.out).symm.trans HK4.out), Lib.hid (by first | exact beld HB9.out _ | exact beld (beld HB9.out _) _), Lib.hid (by first | exact HX.out.drewN _ | exact (HX.out.drewN _).drewN _)⟩, by simp [intOf]; omega⟩
            · have o5 : (FloatKind.f32.format.order zq z2 == some .gt) = true := by rw [Is32.ord hzq hz2]; exact HB5.out
              go_wp2_with fail
              exact ⟨⟨k + 1, _, _, _, _, by omega, rfl, rfl, by go_num, hx, Hm.out, Lib.hid ((halve_hi (H := (fun X => (fcmp .gtr .f32 (ms X).1 (ms D).1, (ms X).2))) HCC.out HB5.out).symm.trans HK4.out), Lib.hid (by first | exact beld HB9.out _ | exact beld (beld HB9.out _) _), Lib.hid (by first | exact HX.out.drewN _ | exact (HX.out.drewN _).drewN _)⟩, by simp [intOf]; omega⟩
        · obtain rfl : k = 40 := by omega
          have h9 := HK.out
          simp only [Nat.sub_self, halveO] at h9
          have H9 := Lib.hid h9
          clear h9 c0 c1 c2 c3
          go_wp2_with fail
          go_ret2
          exact ⟨_, _, rfl, by rw [← HR.out, ← H9.out], by rw [← HR.out, ← H9.out]; exact hx, HBk.out⟩
  · have hbf : (b1 && b2) = false := by simpa using hbb
    have hR := HR0.out
    rw [otherC_no (by rw [Hb1.out, Hb2.out]; exact hbf)] at hR
    have HR2 := Lib.hid hR
    clear hR hbf
    cases b1
    all_goals cases b2
    all_goals first | (exact absurd rfl hbb) | skip
    all_goals clear hbb
    all_goals go_wp2_with fail
    all_goals go_ret2
    all_goals exact ⟨_, _, rfl, by rw [← HR2.out], by rw [← HR2.out]; exact Is32.c (by decide), HBs.out⟩

theorem otherC_both {ms : Option Nat → Option Nat × Bool} {A0 A1 A2 A3 D F : Option Nat} (hms : bothS A0 A1 A2 A3 D F = false → (ms D).2 = false) :
    (if bothS A0 A1 A2 A3 D F then otherC ms ((critR A0 A1 A2 A3 F).2.1, (critR A0 A1 A2 A3 F).2.2) D else (some 0, false)) = otherC ms (critO A0 A1 A2 A3 F) D := by
  cases h : bothS A0 A1 A2 A3 D F
  · rw [if_neg (by decide), otherC_no (by rw [hms h, Bool.and_false])]
  · rw [if_pos rfl]
    have h2 : (secO A0 A1 A2 A3 && posO F) = true := by
      simp only [bothS, canS, Bool.and_eq_true] at h
      rw [h.1.1, h.2]; rfl
    unfold critO
    rw [if_pos h2]
theorem headS_no {A0 A1 A2 A3 D F : Option Nat} (h : bothS A0 A1 A2 A3 D F = false) : (headS A0 A1 A2 A3 D F).2 = false := by
  rw [← headQ_eq]; unfold headQ; rw [h]; rfl
theorem pushS_no {A0 A1 A2 A3 D F : Option Nat} (h : bothS A0 A1 A2 A3 D F = false) : (pushS A0 A1 A2 A3 D F).2 = false := by
  rw [← pushQ_eq]; unfold pushQ; rw [h]; rfl

set_option maxHeartbeats 8000000 in
theorem otherDepth_s0 {A0 A1 A2 A3 : Option Nat} {a0 a1 a2 a3 : Nat} {D : Option Nat} {d : Nat} {F : Option Nat} {f : Nat} (w : World)  (ha0 : Is32 A0 a0) (ha1 : Is32 A1 a1) (ha2 : Is32 A2 a2) (ha3 : Is32 A3 a3) (hd : Is32 D d) (hf : Is32 F f) :
    Calls Try.prog 21 #[.agg #[.float .f32 a0, .float .f32 a1, .float .f32 a2, .float .f32 a3], .float .f32 d, .float .f32 f] w (OnlyB (if bothS A0 A1 A2 A3 D F then otherC (fun X => headS A0 A1 A2 A3 X F) ((critR A0 A1 A2 A3 F).2.1, (critR A0 A1 A2 A3 F).2.2) D else (some 0, false)) w) := by
  go_enter Try.func21, Try.ntmps21
  go_wp2_with (first | ((with_reducible refine wpList_bin ?_); refine wpList_f32 rfl _ _ _ _ _ rfl rfl rfl (by decide) (by first | assumption | exact Is32.c (by decide)) (by first | assumption | exact Is32.c (by decide)) ?_; intro z n hz) | ((with_reducible refine wpList_bin ?_); refine wpList_c32 rfl _ _ _ _ _ rfl rfl rfl (by decide) (by first | assumption | exact Is32.c (by decide)) (by first | assumption | exact Is32.c (by decide)) ?_; intro bb hbb; cases bb) | (go_at_call 65; refine (l04Both_o _ _ (by first | exact Bx.new _ [_, _, _, _] _ | exact Bx.drewN (Bx.new _ [_, _, _, _] _) _ | assumption) (by first | assumption | exact Is32.c (by decide)) (by first | assumption | exact Is32.c (by decide)) (by first | assumption | exact Is32.c (by decide)) (by first | assumption | exact Is32.c (by decide)) (by first | assumption | exact Is32.c (by decide)) (by first | assumption | exact Is32.c (by decide))).mono ?_; rintro e w' ⟨bb, hbb, rfl, q, rfl⟩; cases bb) | (go_at_call 66; refine (l04Other_o _ (fun X => headS A0 A1 A2 A3 X F) _ _ (by first | exact Bx.new _ [_, _, _, _] _ | exact Bx.drewN (Bx.new _ [_, _, _, _] _) _ | assumption) ha0 ha1 ha2 ha3 hd hf (fun X x W hx hB => l04Of_h _ W hB ha0 ha1 ha2 ha3 hx hf)).mono ?_; rintro e w1 ⟨z, bb, rfl, hbb, hz, hb⟩; have hb1 : Below w.heap.size w w1 := (by first | exact (bel1 _ _ ).trans (hb.mono (by first | (simp; done) | (simp; omega) | omega)) | exact (beld (bel1 _ _ ) _).trans (hb.mono (by first | (simp; done) | (simp; omega) | omega))); have hs1 : w.heap.size + 1 ≤ w1.heap.size := (by have := hb.size; (try simp at this); omega); have bxa1 : Bx w1 (w.heap.size) [.float .f32 a0, .float .f32 a1, .float .f32 a2, .float .f32 a3] := (by first | exact Bx.below (Bx.new w [.float .f32 a0, .float .f32 a1, .float .f32 a2, .float .f32 a3] _) hb (by first | (simp; done) | (simp; omega) | omega) | exact Bx.below (Bx.drewN (Bx.new w [.float .f32 a0, .float .f32 a1, .float .f32 a2, .float .f32 a3] _) _) hb (by first | (simp; done) | (simp; omega) | omega)); have ca0 := bxa1.c 0 rfl; have ca1 := bxa1.c 1 rfl; have ca2 := bxa1.c 2 rfl; have ca3 := bxa1.c 3 rfl; have Bxa1 := Lib.hid bxa1; clear bxa1; have Hb1 := Lib.hid hb1; clear hb hb1; cases bb))
  all_goals go_ret2
  all_goals (refine ⟨_, _, rfl, ?_, ?_, (by first | exact (bel1 _ _ ) | exact beld (bel1 _ _ ) _ | exact beld (beld (bel1 _ _ ) _) _ | exact Hb1.out | exact beld Hb1.out _ | exact beld (beld Hb1.out _) _ | exact Below.alloc (by first | exact (bel1 _ _ ) | exact beld (bel1 _ _ ) _) (by first | (simp; done) | (simp; omega) | omega) _ | exact beld (Below.alloc (by first | exact (bel1 _ _ ) | exact beld (bel1 _ _ ) _) (by first | (simp; done) | (simp; omega) | omega) _) _ | exact Below.alloc (by first | exact Hb1.out | exact beld Hb1.out _) (by first | (simp; done) | (simp; omega) | omega) _ | exact beld (Below.alloc (by first | exact Hb1.out | exact beld Hb1.out _) (by first | (simp; done) | (simp; omega) | omega) _) _)⟩; (simp [*]); first | (simp [*]; done) | (simp [*]; exact Is32.c (by decide)) | (simp [*]; assumption))

theorem otherDepth_s {A0 A1 A2 A3 D F : Option Nat} {a0 a1 a2 a3 d f : Nat} (w : World) (ha0 : Is32 A0 a0) (ha1 : Is32 A1 a1) (ha2 : Is32 A2 a2) (ha3 : Is32 A3 a3) (hd : Is32 D d) (hf : Is32 F f) : Calls Try.prog 21 #[.agg #[.float .f32 a0, .float .f32 a1, .float .f32 a2, .float .f32 a3], .float .f32 d, .float .f32 f] w (OnlyB (otherC (fun X => headS A0 A1 A2 A3 X F) (critO A0 A1 A2 A3 F) D) w) := by
  rw [← otherC_both (ms := (fun X => headS A0 A1 A2 A3 X F)) (fun h => headS_no h)]
  exact otherDepth_s0 w ha0 ha1 ha2 ha3 hd hf

set_option maxHeartbeats 8000000 in
theorem jumpDepth_s0 {A0 A1 A2 A3 : Option Nat} {a0 a1 a2 a3 : Nat} {D : Option Nat} {d : Nat} {F : Option Nat} {f : Nat} (w : World)  (ha0 : Is32 A0 a0) (ha1 : Is32 A1 a1) (ha2 : Is32 A2 a2) (ha3 : Is32 A3 a3) (hd : Is32 D d) (hf : Is32 F f) :
    Calls Try.prog 23 #[.agg #[.float .f32 a0, .float .f32 a1, .float .f32 a2, .float .f32 a3], .float .f32 d, .float .f32 f] w (OnlyB (if bothS A0 A1 A2 A3 D F then otherC (fun X => pushS A0 A1 A2 A3 X F) ((critR A0 A1 A2 A3 F).2.1, (critR A0 A1 A2 A3 F).2.2) D else (some 0, false)) w) := by
  go_enter Try.func23, Try.ntmps23
  go_wp2_with (first | ((with_reducible refine wpList_bin ?_); refine wpList_f32 rfl _ _ _ _ _ rfl rfl rfl (by decide) (by first | assumption | exact Is32.c (by decide)) (by first | assumption | exact Is32.c (by decide)) ?_; intro z n hz) | ((with_reducible refine wpList_bin ?_); refine wpList_c32 rfl _ _ _ _ _ rfl rfl rfl (by decide) (by first | assumption | exact Is32.c (by decide)) (by first | assumption | exact Is32.c (by decide)) ?_; intro bb hbb; cases bb) | (go_at_call 65; refine (l04Both_o _ _ (by first | exact Bx.new _ [_, _, _, _] _ | exact Bx.drewN (Bx.new _ [_, _, _, _] _) _ | assumption) (by first | assumption | exact Is32.c (by decide)) (by first | assumption | exact Is32.c (by decide)) (by first | assumption | exact Is32.c (by decide)) (by first | assumption | exact Is32.c (by decide)) (by first | assumption | exact Is32.c (by decide)) (by first | assumption | exact Is32.c (by decide))).mono ?_; rintro e w' ⟨bb, hbb, rfl, q, rfl⟩; cases bb) | (go_at_call 66; refine (l04Other_o _ (fun X => pushS A0 A1 A2 A3 X F) _ _ (by first | exact Bx.new _ [_, _, _, _] _ | exact Bx.drewN (Bx.new _ [_, _, _, _] _) _ | assumption) ha0 ha1 ha2 ha3 hd hf (fun X x W hx hB => l04Of_p _ W hB ha0 ha1 ha2 ha3 hx hf)).mono ?_; rintro e w1 ⟨z, bb, rfl, hbb, hz, hb⟩; have hb1 : Below w.heap.size w w1 := (by first | exact (bel1 _ _ ).trans (hb.mono (by first | (simp; done) | (simp; omega) | omega)) | exact (beld (bel1 _ _ ) _).trans (hb.mono (by first | (simp; done) | (simp; omega) | omega))); have hs1 : w.heap.size + 1 ≤ w1.heap.size := (by have := hb.size; (try simp at this); omega); have bxa1 : Bx w1 (w.heap.size) [.float .f32 a0, .float .f32 a1, .float .f32 a2, .float .f32 a3] := (by first | exact Bx.below (Bx.new w [.float .f32 a0, .float .f32 a1, .float .f32 a2, .float .f32 a3] _) hb (by first | (simp; done) | (simp; omega) | omega) | exact Bx.below (Bx.drewN (Bx.new w [.float .f32 a0, .float .f32 a1, .float .f32 a2, .float .f32 a3] _) _) hb (by first | (simp; done) | (simp; omega) | omega)); have ca0 := bxa1.c 0 rfl; have ca1 := bxa1.c 1 rfl; have ca2 := bxa1.c 2 rfl; have ca3 := bxa1.c 3 rfl; have Bxa1 := Lib.hid bxa1; clear bxa1; have Hb1 := Lib.hid hb1; clear hb hb1; cases bb))
  all_goals go_ret2
  all_goals (refine ⟨_, _, rfl, ?_, ?_, (by first | exact (bel1 _ _ ) | exact beld (bel1 _ _ ) _ | exact beld (beld (bel1 _ _ ) _) _ | exact Hb1.out | exact beld Hb1.out _ | exact beld (beld Hb1.out _) _ | exact Below.alloc (by first | exact (bel1 _ _ ) | exact beld (bel1 _ _ ) _) (by first | (simp; done) | (simp; omega) | omega) _ | exact beld (Below.alloc (by first | exact (bel1 _ _ ) | exact beld (bel1 _ _ ) _) (by first | (simp; done) | (simp; omega) | omega) _) _ | exact Below.alloc (by first | exact Hb1.out | exact beld Hb1.out _) (by first | (simp; done) | (simp; omega) | omega) _ | exact beld (Below.alloc (by first | exact Hb1.out | exact beld Hb1.out _) (by first | (simp; done) | (simp; omega) | omega) _) _)⟩; (simp [*]); first | (simp [*]; done) | (simp [*]; exact Is32.c (by decide)) | (simp [*]; assumption))

theorem jumpDepth_s {A0 A1 A2 A3 D F : Option Nat} {a0 a1 a2 a3 d f : Nat} (w : World) (ha0 : Is32 A0 a0) (ha1 : Is32 A1 a1) (ha2 : Is32 A2 a2) (ha3 : Is32 A3 a3) (hd : Is32 D d) (hf : Is32 F f) : Calls Try.prog 23 #[.agg #[.float .f32 a0, .float .f32 a1, .float .f32 a2, .float .f32 a3], .float .f32 d, .float .f32 f] w (OnlyB (otherC (fun X => pushS A0 A1 A2 A3 X F) (critO A0 A1 A2 A3 F) D) w) := by
  rw [← otherC_both (ms := (fun X => pushS A0 A1 A2 A3 X F)) (fun h => pushS_no h)]
  exact jumpDepth_s0 w ha0 ha1 ha2 ha3 hd hf

def jumpO (A0 A1 A2 A3 D F : Option Nat) : Option Nat × Bool := otherC (fun X => pushS A0 A1 A2 A3 X F) (critO A0 A1 A2 A3 F) D
def lossO (A0 A1 A2 A3 D F : Option Nat) : Option Nat × Bool := if (jumpO A0 A1 A2 A3 D F).2 && (critO A0 A1 A2 A3 F).2 && fcmp .lss .f32 D (critO A0 A1 A2 A3 F).1 then
  (if (headS A0 A1 A2 A3 D F).2 && (headS A0 A1 A2 A3 (jumpO A0 A1 A2 A3 D F).1 F).2 then onlyO (fop .sub .f32 (headS A0 A1 A2 A3 D F).1 (headS A0 A1 A2 A3 (jumpO A0 A1 A2 A3 D F).1 F).1) else (some 0, false)) else (some 0, false)
theorem jumpDepth_io {A0 A1 A2 A3 D F : Option Nat} {a0 a1 a2 a3 d f : Nat} (w : World) (ha0 : Is32 A0 a0) (ha1 : Is32 A1 a1) (ha2 : Is32 A2 a2) (ha3 : Is32 A3 a3) (hd : Is32 D d) (hf : Is32 F f) : Calls Try.prog 24 #[.agg #[.float .f32 a0, .float .f32 a1, .float .f32 a2, .float .f32 a3], .float .f32 d, .float .f32 f] w (OnlyB (jumpO A0 A1 A2 A3 D F) w) := jumpDepth_i w ha0 ha1 ha2 ha3 hd hf

set_option maxHeartbeats 8000000 in
theorem jumpLoss_i {A0 A1 A2 A3 : Option Nat} {a0 a1 a2 a3 : Nat} {D : Option Nat} {d : Nat} {F : Option Nat} {f : Nat} (w : World)  (ha0 : Is32 A0 a0) (ha1 : Is32 A1 a1) (ha2 : Is32 A2 a2) (ha3 : Is32 A3 a3) (hd : Is32 D d) (hf : Is32 F f) :
    Calls Try.prog 26 #[.agg #[.float .f32 a0, .float .f32 a1, .float .f32 a2, .float .f32 a3], .float .f32 d, .float .f32 f] w (OnlyB (lossO A0 A1 A2 A3 D F) w) := by
  go_enter Try.func26, Try.ntmps26
  go_wp2_with (first | ((with_reducible refine wpList_bin ?_); refine wpList_f32 rfl _ _ _ _ _ rfl rfl rfl (by decide) (by first | assumption | exact Is32.c (by decide)) (by first | assumption | exact Is32.c (by decide)) ?_; intro z n hz) | ((with_reducible refine wpList_bin ?_); refine wpList_c32 rfl _ _ _ _ _ rfl rfl rfl (by decide) (by first | assumption | exact Is32.c (by decide)) (by first | assumption | exact Is32.c (by decide)) ?_; intro bb hbb; cases bb) | (go_at_call 17; refine (criticalDepth_i _ (by first | assumption | exact Is32.c (by decide)) (by first | assumption | exact Is32.c (by decide)) (by first | assumption | exact Is32.c (by decide)) (by first | assumption | exact Is32.c (by decide)) (by first | assumption | exact Is32.c (by decide))).mono ?_; rintro e w1 ⟨z, bb, rfl, hbb, hz, hb⟩; have hb1 : Below w.heap.size w w1 := (by first | exact (bel1 _ _ ).trans (hb.mono (by first | (simp; done) | (simp; omega) | omega)) | exact (beld (bel1 _ _ ) _).trans (hb.mono (by first | (simp; done) | (simp; omega) | omega))); have hs1 : w.heap.size + 1 ≤ w1.heap.size := (by have := hb.size; (try simp at this); omega); have bxa1 : Bx w1 (w.heap.size) [.float .f32 a0, .float .f32 a1, .float .f32 a2, .float .f32 a3] := (by first | exact Bx.below (Bx.new w [.float .f32 a0, .float .f32 a1, .float .f32 a2, .float .f32 a3] _) hb (by first | (simp; done) | (simp; omega) | omega) | exact Bx.below (Bx.drewN (Bx.new w [.float .f32 a0, .float .f32 a1, .float .f32 a2, .float .f32 a3] _) _) hb (by first | (simp; done) | (simp; omega) | omega)); have ca0 := bxa1.c 0 rfl; have ca1 := bxa1.c 1 rfl; have ca2 := bxa1.c 2 rfl; have ca3 := bxa1.c 3 rfl; have Bxa1 := Lib.hid bxa1; clear bxa1; have Hb1 := Lib.hid hb1; clear hb hb1; cases bb) | (go_at_call 24; refine (jumpDepth_io _ (by first | assumption | exact Is32.c (by decide)) (by first | assumption | exact Is32.c (by decide)) (by first | assumption | exact Is32.c (by decide)) (by first | assumption | exact Is32.c (by decide)) (by first | assumption | exact Is32.c (by decide)) (by first | assumption | exact Is32.c (by decide))).mono ?_; rintro e w2 ⟨z, bb, rfl, hbb, hz, hb⟩; have hb2 : Below w.heap.size w w2 := (by first | exact Hb1.out.trans (hb.mono (by first | (simp; done) | (simp; omega) | omega)) | exact (beld Hb1.out _).trans (hb.mono (by first | (simp; done) | (simp; omega) | omega))); have hs2 : w.heap.size + 1 ≤ w2.heap.size := (by have := hb.size; (try simp at this); omega); have bxa2 : Bx w2 (w.heap.size) [.float .f32 a0, .float .f32 a1, .float .f32 a2, .float .f32 a3] := (by first | exact Bx.below Bxa1.out hb (by first | (simp; done) | (simp; omega) | omega) | exact Bx.below (Bx.drewN Bxa1.out _) hb (by first | (simp; done) | (simp; omega) | omega)); have ca0 := bxa2.c 0 rfl; have ca1 := bxa2.c 1 rfl; have ca2 := bxa2.c 2 rfl; have ca3 := bxa2.c 3 rfl; have Bxa2 := Lib.hid bxa2; clear bxa2; have Hb2 := Lib.hid hb2; clear hb hb2; cases bb) | (go_at_call 43; refine (headAt_i _ (by first | assumption | exact Is32.c (by decide)) (by first | assumption | exact Is32.c (by decide)) (by first | assumption | exact Is32.c (by decide)) (by first | assumption | exact Is32.c (by decide)) (by first | assumption | exact Is32.c (by decide)) (by first | assumption | exact Is32.c (by decide))).mono ?_; rintro e w3 ⟨z, bb, rfl, hbb, hz, hb⟩; have hb3 : Below w.heap.size w w3 := (by first | exact Hb2.out.trans (hb.mono (by first | (simp; done) | (simp; omega) | omega)) | exact (beld Hb2.out _).trans (hb.mono (by first | (simp; done) | (simp; omega) | omega))); have hs3 : w.heap.size + 1 ≤ w3.heap.size := (by have := hb.size; (try simp at this); omega); have bxa3 : Bx w3 (w.heap.size) [.float .f32 a0, .float .f32 a1, .float .f32 a2, .float .f32 a3] := (by first | exact Bx.below Bxa2.out hb (by first | (simp; done) | (simp; omega) | omega) | exact Bx.below (Bx.drewN Bxa2.out _) hb (by first | (simp; done) | (simp; omega) | omega)); have ca0 := bxa3.c 0 rfl; have ca1 := bxa3.c 1 rfl; have ca2 := bxa3.c 2 rfl; have ca3 := bxa3.c 3 rfl; have Bxa3 := Lib.hid bxa3; clear bxa3; have Hb3 := Lib.hid hb3; clear hb hb3; cases bb) | (go_at_call 43; refine (headAt_i _ (by first | assumption | exact Is32.c (by decide)) (by first | assumption | exact Is32.c (by decide)) (by first | assumption | exact Is32.c (by decide)) (by first | assumption | exact Is32.c (by decide)) (by first | assumption | exact Is32.c (by decide)) (by first | assumption | exact Is32.c (by decide))).mono ?_; rintro e w4 ⟨z, bb, rfl, hbb, hz, hb⟩; have hb4 : Below w.heap.size w w4 := (by first | exact Hb3.out.trans (hb.mono (by first | (simp; done) | (simp; omega) | omega)) | exact (beld Hb3.out _).trans (hb.mono (by first | (simp; done) | (simp; omega) | omega))); have hs4 : w.heap.size + 1 ≤ w4.heap.size := (by have := hb.size; (try simp at this); omega); have bxa4 : Bx w4 (w.heap.size) [.float .f32 a0, .float .f32 a1, .float .f32 a2, .float .f32 a3] := (by first | exact Bx.below Bxa3.out hb (by first | (simp; done) | (simp; omega) | omega) | exact Bx.below (Bx.drewN Bxa3.out _) hb (by first | (simp; done) | (simp; omega) | omega)); have ca0 := bxa4.c 0 rfl; have ca1 := bxa4.c 1 rfl; have ca2 := bxa4.c 2 rfl; have ca3 := bxa4.c 3 rfl; have Bxa4 := Lib.hid bxa4; clear bxa4; have Hb4 := Lib.hid hb4; clear hb hb4; cases bb) | (go_at_call 72; refine (finiteOnly_o _ (by first | assumption | exact Is32.c (by decide))).mono ?_; rintro e w' ⟨z, bb, rfl, hbb, hz, rfl⟩; cases bb))
  all_goals go_ret2
  all_goals (refine ⟨_, _, rfl, ?_, ?_, (by first | exact (bel1 _ _ ) | exact beld (bel1 _ _ ) _ | exact beld (beld (bel1 _ _ ) _) _ | exact Hb4.out | exact beld Hb4.out _ | exact beld (beld Hb4.out _) _ | exact Hb3.out | exact beld Hb3.out _ | exact beld (beld Hb3.out _) _ | exact Hb2.out | exact beld Hb2.out _ | exact beld (beld Hb2.out _) _ | exact Hb1.out | exact beld Hb1.out _ | exact beld (beld Hb1.out _) _ | exact Below.alloc (by first | exact (bel1 _ _ ) | exact beld (bel1 _ _ ) _) (by first | (simp; done) | (simp; omega) | omega) _ | exact beld (Below.alloc (by first | exact (bel1 _ _ ) | exact beld (bel1 _ _ ) _) (by first | (simp; done) | (simp; omega) | omega) _) _ | exact Below.alloc (by first | exact Hb4.out | exact beld Hb4.out _) (by first | (simp; done) | (simp; omega) | omega) _ | exact beld (Below.alloc (by first | exact Hb4.out | exact beld Hb4.out _) (by first | (simp; done) | (simp; omega) | omega) _) _ | exact Below.alloc (by first | exact Hb3.out | exact beld Hb3.out _) (by first | (simp; done) | (simp; omega) | omega) _ | exact beld (Below.alloc (by first | exact Hb3.out | exact beld Hb3.out _) (by first | (simp; done) | (simp; omega) | omega) _) _ | exact Below.alloc (by first | exact Hb2.out | exact beld Hb2.out _) (by first | (simp; done) | (simp; omega) | omega) _ | exact beld (Below.alloc (by first | exact Hb2.out | exact beld Hb2.out _) (by first | (simp; done) | (simp; omega) | omega) _) _ | exact Below.alloc (by first | exact Hb1.out | exact beld Hb1.out _) (by first | (simp; done) | (simp; omega) | omega) _ | exact beld (Below.alloc (by first | exact Hb1.out | exact beld Hb1.out _) (by first | (simp; done) | (simp; omega) | omega) _) _)⟩; (simp [lossO, *]); first | (simp [lossO, *]; done) | (simp [lossO, *]; exact Is32.c (by decide)) | (simp [lossO, *]; assumption))

theorem jumpDepth_so {A0 A1 A2 A3 D F : Option Nat} {a0 a1 a2 a3 d f : Nat} (w : World) (ha0 : Is32 A0 a0) (ha1 : Is32 A1 a1) (ha2 : Is32 A2 a2) (ha3 : Is32 A3 a3) (hd : Is32 D d) (hf : Is32 F f) : Calls Try.prog 23 #[.agg #[.float .f32 a0, .float .f32 a1, .float .f32 a2, .float .f32 a3], .float .f32 d, .float .f32 f] w (OnlyB (jumpO A0 A1 A2 A3 D F) w) := jumpDepth_s w ha0 ha1 ha2 ha3 hd hf

set_option maxHeartbeats 8000000 in
theorem jumpLoss_s {A0 A1 A2 A3 : Option Nat} {a0 a1 a2 a3 : Nat} {D : Option Nat} {d : Nat} {F : Option Nat} {f : Nat} (w : World)  (ha0 : Is32 A0 a0) (ha1 : Is32 A1 a1) (ha2 : Is32 A2 a2) (ha3 : Is32 A3 a3) (hd : Is32 D d) (hf : Is32 F f) :
    Calls Try.prog 25 #[.agg #[.float .f32 a0, .float .f32 a1, .float .f32 a2, .float .f32 a3], .float .f32 d, .float .f32 f] w (OnlyB (lossO A0 A1 A2 A3 D F) w) := by
  go_enter Try.func25, Try.ntmps25
  go_wp2_with (first | ((with_reducible refine wpList_bin ?_); refine wpList_f32 rfl _ _ _ _ _ rfl rfl rfl (by decide) (by first | assumption | exact Is32.c (by decide)) (by first | assumption | exact Is32.c (by decide)) ?_; intro z n hz) | ((with_reducible refine wpList_bin ?_); refine wpList_c32 rfl _ _ _ _ _ rfl rfl rfl (by decide) (by first | assumption | exact Is32.c (by decide)) (by first | assumption | exact Is32.c (by decide)) ?_; intro bb hbb; cases bb) | (go_at_call 23; refine (jumpDepth_so _ (by first | assumption | exact Is32.c (by decide)) (by first | assumption | exact Is32.c (by decide)) (by first | assumption | exact Is32.c (by decide)) (by first | assumption | exact Is32.c (by decide)) (by first | assumption | exact Is32.c (by decide)) (by first | assumption | exact Is32.c (by decide))).mono ?_; rintro e w1 ⟨z, bb, rfl, hbb, hz, hb⟩; have hb1 : Below w.heap.size w w1 := (by first | exact (bel1 _ _ ).trans (hb.mono (by first | (simp; done) | (simp; omega) | omega)) | exact (beld (bel1 _ _ ) _).trans (hb.mono (by first | (simp; done) | (simp; omega) | omega))); have hs1 : w.heap.size + 1 ≤ w1.heap.size := (by have := hb.size; (try simp at this); omega); have bxa1 : Bx w1 (w.heap.size) [.float .f32 a0, .float .f32 a1, .float .f32 a2, .float .f32 a3] := (by first | exact Bx.below (Bx.new w [.float .f32 a0, .float .f32 a1, .float .f32 a2, .float .f32 a3] _) hb (by first | (simp; done) | (simp; omega) | omega) | exact Bx.below (Bx.drewN (Bx.new w [.float .f32 a0, .float .f32 a1, .float .f32 a2, .float .f32 a3] _) _) hb (by first | (simp; done) | (simp; omega) | omega)); have ca0 := bxa1.c 0 rfl; have ca1 := bxa1.c 1 rfl; have ca2 := bxa1.c 2 rfl; have ca3 := bxa1.c 3 rfl; have Bxa1 := Lib.hid bxa1; clear bxa1; have Hb1 := Lib.hid hb1; clear hb hb1; cases bb) | (go_at_call 15; refine (criticalDepth_s _ (by first | assumption | exact Is32.c (by decide)) (by first | assumption | exact Is32.c (by decide)) (by first | assumption | exact Is32.c (by decide)) (by first | assumption | exact Is32.c (by decide)) (by first | assumption | exact Is32.c (by decide))).mono ?_; rintro e w2 ⟨z, bb, rfl, hbb, hz, hb⟩; have hb2 : Below w.heap.size w w2 := (by first | exact Hb1.out.trans (hb.mono (by first | (simp; done) | (simp; omega) | omega)) | exact (beld Hb1.out _).trans (hb.mono (by first | (simp; done) | (simp; omega) | omega))); have hs2 : w.heap.size + 1 ≤ w2.heap.size := (by have := hb.size; (try simp at this); omega); have bxa2 : Bx w2 (w.heap.size) [.float .f32 a0, .float .f32 a1, .float .f32 a2, .float .f32 a3] := (by first | exact Bx.below Bxa1.out hb (by first | (simp; done) | (simp; omega) | omega) | exact Bx.below (Bx.drewN Bxa1.out _) hb (by first | (simp; done) | (simp; omega) | omega)); have ca0 := bxa2.c 0 rfl; have ca1 := bxa2.c 1 rfl; have ca2 := bxa2.c 2 rfl; have ca3 := bxa2.c 3 rfl; have Bxa2 := Lib.hid bxa2; clear bxa2; have Hb2 := Lib.hid hb2; clear hb hb2; cases bb) | (go_at_call 70; refine (headAt_s _ (by first | assumption | exact Is32.c (by decide)) (by first | assumption | exact Is32.c (by decide)) (by first | assumption | exact Is32.c (by decide)) (by first | assumption | exact Is32.c (by decide)) (by first | assumption | exact Is32.c (by decide)) (by first | assumption | exact Is32.c (by decide))).mono ?_; rintro e w3 ⟨z, bb, rfl, hbb, hz, hb⟩; have hb3 : Below w.heap.size w w3 := (by first | exact Hb2.out.trans (hb.mono (by first | (simp; done) | (simp; omega) | omega)) | exact (beld Hb2.out _).trans (hb.mono (by first | (simp; done) | (simp; omega) | omega))); have hs3 : w.heap.size + 1 ≤ w3.heap.size := (by have := hb.size; (try simp at this); omega); have bxa3 : Bx w3 (w.heap.size) [.float .f32 a0, .float .f32 a1, .float .f32 a2, .float .f32 a3] := (by first | exact Bx.below Bxa2.out hb (by first | (simp; done) | (simp; omega) | omega) | exact Bx.below (Bx.drewN Bxa2.out _) hb (by first | (simp; done) | (simp; omega) | omega)); have ca0 := bxa3.c 0 rfl; have ca1 := bxa3.c 1 rfl; have ca2 := bxa3.c 2 rfl; have ca3 := bxa3.c 3 rfl; have Bxa3 := Lib.hid bxa3; clear bxa3; have Hb3 := Lib.hid hb3; clear hb hb3; cases bb) | (go_at_call 70; refine (headAt_s _ (by first | assumption | exact Is32.c (by decide)) (by first | assumption | exact Is32.c (by decide)) (by first | assumption | exact Is32.c (by decide)) (by first | assumption | exact Is32.c (by decide)) (by first | assumption | exact Is32.c (by decide)) (by first | assumption | exact Is32.c (by decide))).mono ?_; rintro e w4 ⟨z, bb, rfl, hbb, hz, hb⟩; have hb4 : Below w.heap.size w w4 := (by first | exact Hb3.out.trans (hb.mono (by first | (simp; done) | (simp; omega) | omega)) | exact (beld Hb3.out _).trans (hb.mono (by first | (simp; done) | (simp; omega) | omega))); have hs4 : w.heap.size + 1 ≤ w4.heap.size := (by have := hb.size; (try simp at this); omega); have bxa4 : Bx w4 (w.heap.size) [.float .f32 a0, .float .f32 a1, .float .f32 a2, .float .f32 a3] := (by first | exact Bx.below Bxa3.out hb (by first | (simp; done) | (simp; omega) | omega) | exact Bx.below (Bx.drewN Bxa3.out _) hb (by first | (simp; done) | (simp; omega) | omega)); have ca0 := bxa4.c 0 rfl; have ca1 := bxa4.c 1 rfl; have ca2 := bxa4.c 2 rfl; have ca3 := bxa4.c 3 rfl; have Bxa4 := Lib.hid bxa4; clear bxa4; have Hb4 := Lib.hid hb4; clear hb hb4; cases bb) | (go_at_call 71; refine (l02Number_o _ (by first | assumption | exact Is32.c (by decide))).mono ?_; rintro e w' ⟨z, bb, rfl, hbb, hz, q, rfl⟩; cases bb))
  all_goals go_ret2
  all_goals (refine ⟨_, _, rfl, ?_, ?_, (by first | exact (bel1 _ _ ) | exact beld (bel1 _ _ ) _ | exact beld (beld (bel1 _ _ ) _) _ | exact Hb4.out | exact beld Hb4.out _ | exact beld (beld Hb4.out _) _ | exact Hb3.out | exact beld Hb3.out _ | exact beld (beld Hb3.out _) _ | exact Hb2.out | exact beld Hb2.out _ | exact beld (beld Hb2.out _) _ | exact Hb1.out | exact beld Hb1.out _ | exact beld (beld Hb1.out _) _ | exact Below.alloc (by first | exact (bel1 _ _ ) | exact beld (bel1 _ _ ) _) (by first | (simp; done) | (simp; omega) | omega) _ | exact beld (Below.alloc (by first | exact (bel1 _ _ ) | exact beld (bel1 _ _ ) _) (by first | (simp; done) | (simp; omega) | omega) _) _ | exact Below.alloc (by first | exact Hb4.out | exact beld Hb4.out _) (by first | (simp; done) | (simp; omega) | omega) _ | exact beld (Below.alloc (by first | exact Hb4.out | exact beld Hb4.out _) (by first | (simp; done) | (simp; omega) | omega) _) _ | exact Below.alloc (by first | exact Hb3.out | exact beld Hb3.out _) (by first | (simp; done) | (simp; omega) | omega) _ | exact beld (Below.alloc (by first | exact Hb3.out | exact beld Hb3.out _) (by first | (simp; done) | (simp; omega) | omega) _) _ | exact Below.alloc (by first | exact Hb2.out | exact beld Hb2.out _) (by first | (simp; done) | (simp; omega) | omega) _ | exact beld (Below.alloc (by first | exact Hb2.out | exact beld Hb2.out _) (by first | (simp; done) | (simp; omega) | omega) _) _ | exact Below.alloc (by first | exact Hb1.out | exact beld Hb1.out _) (by first | (simp; done) | (simp; omega) | omega) _ | exact beld (Below.alloc (by first | exact Hb1.out | exact beld Hb1.out _) (by first | (simp; done) | (simp; omega) | omega) _) _)⟩; (simp [lossO, *]); first | (simp [lossO, *]; done) | (simp [lossO, *]; exact Is32.c (by decide)) | (simp [lossO, *]; assumption))

end Go.Proofs.Ytfdcfalkidcdnaa
