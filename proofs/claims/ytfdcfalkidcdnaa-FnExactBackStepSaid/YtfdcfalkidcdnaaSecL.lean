/- Critical depths: the model. -/
import Derived.Test.YtfdcfalkidcdnaaSecK
namespace Go.Proofs.Ytfdcfalkidcdnaa
open Go.RowKit
set_option linter.unusedVariables false
set_option linter.unusedSimpArgs false
set_option maxRecDepth 100000
attribute [local irreducible] wpV wpList Code.wp

set_option maxHeartbeats 4000000 in
theorem l04Critical_o {A0 A1 A2 A3 F : Option Nat} {a0 a1 a2 a3 f : Nat} (ba : Nat) (w : World) (hBa : Bx w ba [.float .f32 a0, .float .f32 a1, .float .f32 a2, .float .f32 a3]) (ha0 : Is32 A0 a0) (ha1 : Is32 A1 a1) (ha2 : Is32 A2 a2) (ha3 : Is32 A3 a3) (hf : Is32 F f) :
    Calls Try.prog 60 #[.pointer (some ⟨ba, 0, none⟩), .float .f32 f] w (OnlyB ((critR A0 A1 A2 A3 F).2.1, (critR A0 A1 A2 A3 F).2.2) w) := by
  obtain ⟨R, hR⟩ : ∃ R, critR A0 A1 A2 A3 F = R := ⟨_, rfl⟩
  rw [hR]
  have HR := Lib.hid (show halveO (critH A0 A1 A2 A3 (fop .mul .f32 F F)) 40 (some 0) (some 1148846080) = R from hR)
  have HX0 := Lib.hid hBa
  clear hR hBa
  go_enter Try.func60, Try.ntmps60
  go_wp2_with fail
  go_loopw [6, 7, 8] (fun lo hi nn wr => ∃ (k : Nat) (X Y : Option Nat) (x y : Nat), k ≤ 40 ∧ lo = .float .f32 x ∧ hi = .float .f32 y ∧ nn = .int .i64 (k : Int) ∧ Is32 X x ∧ Is32 Y y ∧ Hid (halveO (critH A0 A1 A2 A3 (fop .mul .f32 F F)) (40 - k) X Y = R) ∧ Hid (Below w.heap.size w wr) ∧ Hid (Bx wr ba [.float .f32 a0, .float .f32 a1, .float .f32 a2, .float .f32 a3])) (fun _ _ nn _ => 40 - (intOf nn).toNat)
  case atStart => exact ⟨0, _, _, 0, 1148846080, by omega, rfl, rfl, rfl, Is32.c (by decide), Is32.c (by decide), HR, Lib.hid (Below.refl _ _), HX0⟩
  case round =>
    obtain ⟨k, X, Y, x, y, hk, rfl, rfl, rfl, hx, hy, HK, HBk, HX⟩ := hrel
    clear HX0
    have c0 := HX.out.c 0 rfl
    have c1 := HX.out.c 1 rfl
    have c2 := HX.out.c 2 rfl
    have c3 := HX.out.c 3 rfl
    by_cases hlt : k < 40
    · have hlt2 : (k : Int) < 40 := by omega
      go_wp2_with (first | ((with_reducible refine wpList_bin ?_); refine wpList_f32 rfl _ _ _ _ _ rfl rfl rfl (by decide) (by first | assumption | exact Is32.c (by decide)) (by first | assumption | exact Is32.c (by decide)) ?_; intro z n hz))
      have hmid : Is32 (fop .quo .f32 (fop .add .f32 X Y) (some 1073741824)) z := by rw [halfO]; exact hz
      have Hm := Lib.hid hmid
      clear hz
      refine (areaAt_s _ ha0 ha1 ha2 ha3 hmid).mono ?_
      rintro e W1 ⟨z1, b1, rfl, hb1, hz1, hb⟩
      have hB1 : Below w.heap.size w W1 := (by first | exact HBk.out.trans (hb.mono HBk.out.size) | exact (beld HBk.out _).trans (hb.mono (by first | exact HBk.out.size | (simp; exact HBk.out.size))))
      have hX1 : Bx W1 ba [.float .f32 a0, .float .f32 a1, .float .f32 a2, .float .f32 a3] := (by first | exact Bx.below HX.out hb HX.out.1 | exact Bx.below (Bx.drewN HX.out _) hb HX.out.1)
      have HB1 := Lib.hid hB1
      have HX1 := Lib.hid hX1
      clear hB1 hX1 hb
      clear c0 c1 c2 c3
      have c0 := HX1.out.c 0 rfl
      have c1 := HX1.out.c 1 rfl
      have c2 := HX1.out.c 2 rfl
      have c3 := HX1.out.c 3 rfl
      go_wp2_with fail
      refine (topAt_s _ ha0 ha1 ha2 ha3 Hm.out).mono ?_
      rintro e W2 ⟨z2, b2, rfl, hb2, hz2, hb⟩
      have hB2 : Below w.heap.size w W2 := (by first | exact HB1.out.trans (hb.mono HB1.out.size) | exact (beld HB1.out _).trans (hb.mono (by first | exact HB1.out.size | (simp; exact HB1.out.size))))
      have hX2 : Bx W2 ba [.float .f32 a0, .float .f32 a1, .float .f32 a2, .float .f32 a3] := (by first | exact Bx.below HX1.out hb HX1.out.1 | exact Bx.below (Bx.drewN HX1.out _) hb HX1.out.1)
      have HB2 := Lib.hid hB2
      have HX2 := Lib.hid hX2
      clear hB2 hX2 hb
      clear c0 c1 c2 c3
      have e40 : 40 - k = (40 - (k + 1)) + 1 := by omega
      have hk4 : halveO (critH A0 A1 A2 A3 (fop .mul .f32 F F)) ((40 - (k + 1)) + 1) X Y = R := by rw [← e40]; exact HK.out
      have HK4 := Lib.hid hk4
      clear e40 hk4
      have hcc : (critH A0 A1 A2 A3 (fop .mul .f32 F F) (fop .quo .f32 (fop .add .f32 X Y) (some 1073741824))).2 = (b1 && b2) := by rw [← hb1, ← hb2]; rfl
      have HC := Lib.hid hcc
      clear hcc hb1 hb2 hmid
      by_cases hbb : (b1 && b2) = true
      · rw [Bool.and_eq_true] at hbb
        obtain ⟨rfl, rfl⟩ := hbb
        go_wp2_with (first | ((with_reducible refine wpList_bin ?_); refine wpList_f32 rfl _ _ _ _ _ rfl rfl rfl (by decide) (by first | assumption | exact Is32.c (by decide)) (by first | assumption | exact Is32.c (by decide)) ?_; intro z n hz) | ((with_reducible refine wpList_bin ?_); refine wpList_c32 rfl _ _ _ _ _ rfl rfl rfl (by decide) (by first | assumption | exact Is32.c (by decide)) (by first | assumption | exact Is32.c (by decide)) ?_; intro b3 hb3; cases b3))
        · exact ⟨⟨k + 1, _, _, _, _, by omega, rfl, rfl, by go_num, Hm.out, hy, Lib.hid ((halve_lo (H := (critH A0 A1 A2 A3 (fop .mul .f32 F F))) HC.out hb3).symm.trans HK4.out), Lib.hid (by first | exact HB2.out | exact beld HB2.out _), Lib.hid (by first | exact HX2.out | exact Bx.drewN HX2.out _)⟩, by simp [intOf]; omega⟩
        · exact ⟨⟨k + 1, _, _, _, _, by omega, rfl, rfl, by go_num, hx, Hm.out, Lib.hid ((halve_hi (H := (critH A0 A1 A2 A3 (fop .mul .f32 F F))) HC.out hb3).symm.trans HK4.out), Lib.hid (by first | exact HB2.out | exact beld HB2.out _), Lib.hid (by first | exact HX2.out | exact Bx.drewN HX2.out _)⟩, by simp [intOf]; omega⟩
      · have hbf : (b1 && b2) = false := by simpa using hbb
        have hRv : R = (some 0, some 0, false) := HK4.out.symm.trans (halve_no (H := (critH A0 A1 A2 A3 (fop .mul .f32 F F))) (HC.out.trans hbf))
        have HRv := Lib.hid hRv
        clear hRv
        cases b1
        all_goals cases b2
        all_goals first | (exact absurd rfl hbb) | skip
        all_goals clear hbb hbf
        all_goals go_wp2_with fail
        all_goals go_ret2
        all_goals exact ⟨_, _, rfl, by rw [HRv.out], by rw [HRv.out]; exact Is32.c (by decide), HB2.out⟩
    · obtain rfl : k = 40 := by omega
      have h9 := HK.out
      simp only [Nat.sub_self, halveO] at h9
      have H9 := Lib.hid h9
      clear h9
      go_wp2_with fail
      go_ret2
      exact ⟨_, _, rfl, by rw [← H9.out], by rw [← H9.out]; exact hy, HBk.out⟩

set_option maxHeartbeats 8000000 in
theorem criticalDepth_s {A0 A1 A2 A3 : Option Nat} {a0 a1 a2 a3 : Nat} {F : Option Nat} {f : Nat} (w : World)  (ha0 : Is32 A0 a0) (ha1 : Is32 A1 a1) (ha2 : Is32 A2 a2) (ha3 : Is32 A3 a3) (hf : Is32 F f) :
    Calls Try.prog 15 #[.agg #[.float .f32 a0, .float .f32 a1, .float .f32 a2, .float .f32 a3], .float .f32 f] w (OnlyB (critO A0 A1 A2 A3 F) w) := by
  go_enter Try.func15, Try.ntmps15
  go_wp2_with (first | ((with_reducible refine wpList_bin ?_); refine wpList_f32 rfl _ _ _ _ _ rfl rfl rfl (by decide) (by first | assumption | exact Is32.c (by decide)) (by first | assumption | exact Is32.c (by decide)) ?_; intro z n hz) | ((with_reducible refine wpList_bin ?_); refine wpList_c32 rfl _ _ _ _ _ rfl rfl rfl (by decide) (by first | assumption | exact Is32.c (by decide)) (by first | assumption | exact Is32.c (by decide)) ?_; intro bb hbb; cases bb) | (go_at_call 58; refine (l04Is_o _ _ (by first | exact Bx.new _ [_, _, _, _] _ | exact Bx.drewN (Bx.new _ [_, _, _, _] _) _ | assumption) (by first | assumption | exact Is32.c (by decide)) (by first | assumption | exact Is32.c (by decide)) (by first | assumption | exact Is32.c (by decide)) (by first | assumption | exact Is32.c (by decide))).mono ?_; rintro e w' ⟨bb, hbb, rfl, q, rfl⟩; cases bb) | (go_at_call 59; refine (l02Above_o _ (by first | assumption | exact Is32.c (by decide))).mono ?_; rintro e w' ⟨bb, hbb, rfl, q, rfl⟩; cases bb) | (go_at_call 60; refine (l04Critical_o _ _ (by first | exact Bx.new _ [_, _, _, _] _ | exact Bx.drewN (Bx.new _ [_, _, _, _] _) _ | assumption) (by first | assumption | exact Is32.c (by decide)) (by first | assumption | exact Is32.c (by decide)) (by first | assumption | exact Is32.c (by decide)) (by first | assumption | exact Is32.c (by decide)) (by first | assumption | exact Is32.c (by decide))).mono ?_; rintro e w1 ⟨z, bb, rfl, hbb, hz, hb⟩; have hb1 : Below w.heap.size w w1 := (by first | exact (bel1 _ _ ).trans (hb.mono (by first | (simp; done) | (simp; omega) | omega)) | exact (beld (bel1 _ _ ) _).trans (hb.mono (by first | (simp; done) | (simp; omega) | omega))); have hs1 : w.heap.size + 1 ≤ w1.heap.size := (by have := hb.size; (try simp at this); omega); have bxa1 : Bx w1 (w.heap.size) [.float .f32 a0, .float .f32 a1, .float .f32 a2, .float .f32 a3] := (by first | exact Bx.below (Bx.new w [.float .f32 a0, .float .f32 a1, .float .f32 a2, .float .f32 a3] _) hb (by first | (simp; done) | (simp; omega) | omega) | exact Bx.below (Bx.drewN (Bx.new w [.float .f32 a0, .float .f32 a1, .float .f32 a2, .float .f32 a3] _) _) hb (by first | (simp; done) | (simp; omega) | omega)); have ca0 := bxa1.c 0 rfl; have ca1 := bxa1.c 1 rfl; have ca2 := bxa1.c 2 rfl; have ca3 := bxa1.c 3 rfl; have Bxa1 := Lib.hid bxa1; clear bxa1; have Hb1 := Lib.hid hb1; clear hb hb1; cases bb))
  all_goals go_ret2
  all_goals (refine ⟨_, _, rfl, ?_, ?_, (by first | exact (bel1 _ _ ) | exact beld (bel1 _ _ ) _ | exact beld (beld (bel1 _ _ ) _) _ | exact Hb1.out | exact beld Hb1.out _ | exact beld (beld Hb1.out _) _ | exact Below.alloc (by first | exact (bel1 _ _ ) | exact beld (bel1 _ _ ) _) (by first | (simp; done) | (simp; omega) | omega) _ | exact beld (Below.alloc (by first | exact (bel1 _ _ ) | exact beld (bel1 _ _ ) _) (by first | (simp; done) | (simp; omega) | omega) _) _ | exact Below.alloc (by first | exact Hb1.out | exact beld Hb1.out _) (by first | (simp; done) | (simp; omega) | omega) _ | exact beld (Below.alloc (by first | exact Hb1.out | exact beld Hb1.out _) (by first | (simp; done) | (simp; omega) | omega) _) _)⟩; (simp [critO, *]); first | (simp [critO, *]; done) | (simp [critO, *]; exact Is32.c (by decide)) | (simp [critO, *]; assumption))

end Go.Proofs.Ytfdcfalkidcdnaa
