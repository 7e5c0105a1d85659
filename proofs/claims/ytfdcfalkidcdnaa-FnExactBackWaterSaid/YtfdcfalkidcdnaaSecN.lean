/- The depth of a flow: the program and its model alike. -/
import Derived.Test.YtfdcfalkidcdnaaSecF
import Derived.Test.YtfdcfalkidcdnaaHalve
namespace Go.Proofs.Ytfdcfalkidcdnaa
open Go.RowKit
set_option linter.unusedVariables false
set_option linter.unusedSimpArgs false
set_option maxRecDepth 100000
attribute [local irreducible] wpV wpList Code.wp

def normH (A0 A1 A2 A3 F : Option Nat) (X : Option Nat) : Bool × Bool := (fcmp .gtr .f32 (flowS A0 A1 A2 A3 X).1 F, (flowS A0 A1 A2 A3 X).2)
def normO (A0 A1 A2 A3 F : Option Nat) : Option Nat × Bool := if secO A0 A1 A2 A3 && posO F then ((halveO (normH A0 A1 A2 A3 F) 40 (some 0) (some 1148846080)).2.1, (halveO (normH A0 A1 A2 A3 F) 40 (some 0) (some 1148846080)).2.2) else (some 0, false)

set_option maxHeartbeats 4000000 in
theorem normJudge {A0 A1 A2 A3 F : Option Nat} {a0 a1 a2 a3 f : Nat} (ha0 : Is32 A0 a0) (ha1 : Is32 A1 a1) (ha2 : Is32 A2 a2) (ha3 : Is32 A3 a3) (hf : Is32 F f) (bs bf : Nat) :
    Judges 83 #[.pointer (some ⟨bs, 0, none⟩), .pointer (some ⟨bf, 0, none⟩)] (normH A0 A1 A2 A3 F) (fun W => Bx W bs [.float .f32 a0, .float .f32 a1, .float .f32 a2, .float .f32 a3] ∧ Bx W bf [.float .f32 f]) where
  keep := fun W n h => ⟨h.1.drewN n, h.2.drewN n⟩
  call := by
    intro X x W hx h
    obtain ⟨h1, h2⟩ := h
    have c0 := h1.c 0 rfl
    have c1 := h1.c 1 rfl
    have c2 := h1.c 2 rfl
    have c3 := h1.c 3 rfl
    have cf := h2.c 0 rfl
    have H1 := Lib.hid h1
    have H2 := Lib.hid h2
    clear h1 h2
    go_enter Try.func83, Try.ntmps83
    go_wp2_with fail
    refine (flowAt_i _ ha0 ha1 ha2 ha3 hx).mono ?_
    rintro e W1 ⟨z, bb, rfl, hbb, hz, hb⟩
    have k1 := H1.out.below hb H1.out.1
    have k2 := H2.out.below hb H2.out.1
    have cf1 := k2.c 0 rfl
    have K1 := Lib.hid k1
    have K2 := Lib.hid k2
    have HB := Lib.hid hb
    have Hbb := Lib.hid hbb
    clear k1 k2 hb hbb c0 c1 c2 c3 cf
    go_wp2_with (first | ((with_reducible refine wpList_bin ?_); refine wpList_c32 rfl _ _ _ _ _ rfl rfl rfl (by decide) (by first | assumption | exact Is32.c (by decide)) (by first | assumption | exact Is32.c (by decide)) ?_; intro b2 hb2))
    all_goals go_ret2
    all_goals exact ⟨_, _, rfl, Hbb.out, fun _ => by first | exact hb2 | assumption, HB.out, K1.out, K2.out⟩

set_option maxHeartbeats 8000000 in
theorem normalDepth_i {A0 A1 A2 A3 : Option Nat} {a0 a1 a2 a3 : Nat} {F : Option Nat} {f : Nat} (w : World)  (ha0 : Is32 A0 a0) (ha1 : Is32 A1 a1) (ha2 : Is32 A2 a2) (ha3 : Is32 A3 a3) (hf : Is32 F f) :
    Calls Try.prog 39 #[.agg #[.float .f32 a0, .float .f32 a1, .float .f32 a2, .float .f32 a3], .float .f32 f] w (OnlyB (normO A0 A1 A2 A3 F) w) := by
  go_enter Try.func39, Try.ntmps39
  go_wp2_with (first | ((with_reducible refine wpList_bin ?_); refine wpList_f32 rfl _ _ _ _ _ rfl rfl rfl (by decide) (by first | assumption | exact Is32.c (by decide)) (by first | assumption | exact Is32.c (by decide)) ?_; intro z n hz) | ((with_reducible refine wpList_bin ?_); refine wpList_c32 rfl _ _ _ _ _ rfl rfl rfl (by decide) (by first | assumption | exact Is32.c (by decide)) (by first | assumption | exact Is32.c (by decide)) ?_; intro bb hbb; cases bb) | (go_at_call 61; refine (validSection_i _ (by first | assumption | exact Is32.c (by decide)) (by first | assumption | exact Is32.c (by decide)) (by first | assumption | exact Is32.c (by decide)) (by first | assumption | exact Is32.c (by decide))).mono ?_; rintro e w1 ⟨bb, hbb, rfl, hb⟩; have hb1 : Below w.heap.size w w1 := (by first | exact (bel2 _ _ _ ).trans (hb.mono (by first | (simp; done) | (simp; omega) | omega)) | exact (beld (bel2 _ _ _ ) _).trans (hb.mono (by first | (simp; done) | (simp; omega) | omega))); have hs1 : w.heap.size + 2 ≤ w1.heap.size := (by have := hb.size; (try simp at this); omega); have bxa1 : Bx w1 (w.heap.size) [.float .f32 a0, .float .f32 a1, .float .f32 a2, .float .f32 a3] := (by first | exact Bx.below (Bx.alloc (Bx.new w [.float .f32 a0, .float .f32 a1, .float .f32 a2, .float .f32 a3] _) _) hb (by first | (simp; done) | (simp; omega) | omega) | exact Bx.below (Bx.drewN (Bx.alloc (Bx.new w [.float .f32 a0, .float .f32 a1, .float .f32 a2, .float .f32 a3] _) _) _) hb (by first | (simp; done) | (simp; omega) | omega)); have bxf1 : Bx w1 (w.heap.size + 1) [.float .f32 f] := (by first | exact Bx.below (Bx.second _ _ [.float .f32 f] _) hb (by first | (simp; done) | (simp; omega) | omega) | exact Bx.below (Bx.drewN (Bx.second _ _ [.float .f32 f] _) _) hb (by first | (simp; done) | (simp; omega) | omega)); have ca0 := bxa1.c 0 rfl; have ca1 := bxa1.c 1 rfl; have ca2 := bxa1.c 2 rfl; have ca3 := bxa1.c 3 rfl; have Bxa1 := Lib.hid bxa1; clear bxa1; have cf := bxf1.c 0 rfl; have Bxf1 := Lib.hid bxf1; clear bxf1; have Hb1 := Lib.hid hb1; clear hb hb1; cases bb) | (go_at_call 62; refine (isPositive_o _ (by first | assumption | exact Is32.c (by decide))).mono ?_; rintro e w' ⟨bb, hbb, rfl, rfl⟩; cases bb) | (go_at_call 63; refine (halve_any _ _ (enters_of Try.func83 (by kernel_rfl) rfl) (normH A0 A1 A2 A3 F) _ _ (Is32.c (by decide)) (Is32.c (by decide)) (normJudge ha0 ha1 ha2 ha3 hf _ _) (by first | exact ⟨Bxa1.out, Bxf1.out⟩ | exact ⟨Bx.drewN Bxa1.out _, Bx.drewN Bxf1.out _⟩)).mono ?_; rintro e w2 ⟨pp, qq, bb, rfl, hbb, hpp, hqq, hb⟩; have hb2 : Below w.heap.size w w2 := (by first | exact Hb1.out.trans (hb.mono (by first | (simp; done) | (simp; omega) | omega)) | exact (beld Hb1.out _).trans (hb.mono (by first | (simp; done) | (simp; omega) | omega))); have hs2 : w.heap.size + 2 ≤ w2.heap.size := (by have := hb.size; (try simp at this); omega); have bxa2 : Bx w2 (w.heap.size) [.float .f32 a0, .float .f32 a1, .float .f32 a2, .float .f32 a3] := (by first | exact Bx.below Bxa1.out hb (by first | (simp; done) | (simp; omega) | omega) | exact Bx.below (Bx.drewN Bxa1.out _) hb (by first | (simp; done) | (simp; omega) | omega)); have bxf2 : Bx w2 (w.heap.size + 1) [.float .f32 f] := (by first | exact Bx.below Bxf1.out hb (by first | (simp; done) | (simp; omega) | omega) | exact Bx.below (Bx.drewN Bxf1.out _) hb (by first | (simp; done) | (simp; omega) | omega)); have ca0 := bxa2.c 0 rfl; have ca1 := bxa2.c 1 rfl; have ca2 := bxa2.c 2 rfl; have ca3 := bxa2.c 3 rfl; have Bxa2 := Lib.hid bxa2; clear bxa2; have cf := bxf2.c 0 rfl; have Bxf2 := Lib.hid bxf2; clear bxf2; have Hb2 := Lib.hid hb2; clear hb hb2; cases bb))
  all_goals go_ret2
  all_goals (refine ⟨_, _, rfl, ?_, ?_, (by first | exact (bel2 _ _ _ ) | exact beld (bel2 _ _ _ ) _ | exact beld (beld (bel2 _ _ _ ) _) _ | exact Hb2.out | exact beld Hb2.out _ | exact beld (beld Hb2.out _) _ | exact Hb1.out | exact beld Hb1.out _ | exact beld (beld Hb1.out _) _ | exact Below.alloc (by first | exact (bel2 _ _ _ ) | exact beld (bel2 _ _ _ ) _) (by first | (simp; done) | (simp; omega) | omega) _ | exact beld (Below.alloc (by first | exact (bel2 _ _ _ ) | exact beld (bel2 _ _ _ ) _) (by first | (simp; done) | (simp; omega) | omega) _) _ | exact Below.alloc (by first | exact Hb2.out | exact beld Hb2.out _) (by first | (simp; done) | (simp; omega) | omega) _ | exact beld (Below.alloc (by first | exact Hb2.out | exact beld Hb2.out _) (by first | (simp; done) | (simp; omega) | omega) _) _ | exact Below.alloc (by first | exact Hb1.out | exact beld Hb1.out _) (by first | (simp; done) | (simp; omega) | omega) _ | exact beld (Below.alloc (by first | exact Hb1.out | exact beld Hb1.out _) (by first | (simp; done) | (simp; omega) | omega) _) _)⟩; (simp [normO, *]); first | (simp [normO, *]; done) | (simp [normO, *]; exact Is32.c (by decide)) | (simp [normO, *]; assumption))

set_option maxHeartbeats 2000000 in
theorem normS_bad {A0 A1 A2 A3 F : Option Nat} {a0 a1 a2 a3 f : Nat} (w : World) (ha0 : Is32 A0 a0) (ha1 : Is32 A1 a1) (ha2 : Is32 A2 a2) (ha3 : Is32 A3 a3) (hf : Is32 F f) (hs : secO A0 A1 A2 A3 = false) :
    Calls Try.prog 56 #[.agg #[.float .f32 a0, .float .f32 a1, .float .f32 a2, .float .f32 a3], .float .f32 f] w (OnlyB (some 0, false) w) := by
  have cL : ∀ (b : Nat) (W : World), Bx W b [.float .f32 a0, .float .f32 a1, .float .f32 a2, .float .f32 a3] → Calls Try.prog 58 #[.pointer (some ⟨b, 0, none⟩)] W (SayQ false W) := fun b W hB => by have := l04Is_o b W hB ha0 ha1 ha2 ha3; rw [hs] at this; exact this
  have HL := Lib.hid cL
  clear cL hs
  go_enter Try.func56, Try.ntmps56
  go_wp2_with fail
  refine (HL.out _ _ (by first | exact Bx.new _ [_, _, _, _] _ | exact Bx.drewN (Bx.new _ [_, _, _, _] _) _)).mono ?_
  rintro e w' ⟨bb, hbb, rfl, q1, rfl⟩
  subst hbb
  go_wp2_with fail
  go_ret2
  exact ⟨_, _, rfl, rfl, Is32.c (by decide), by first | exact beld (bel1 _ _) _ | exact beld (beld (bel1 _ _) _) _⟩

set_option maxHeartbeats 2000000 in
theorem normS_pos {A0 A1 A2 A3 F : Option Nat} {a0 a1 a2 a3 f : Nat} (w : World) (ha0 : Is32 A0 a0) (ha1 : Is32 A1 a1) (ha2 : Is32 A2 a2) (ha3 : Is32 A3 a3) (hf : Is32 F f) (hs : secO A0 A1 A2 A3 = true) (hp : posO F = false) :
    Calls Try.prog 56 #[.agg #[.float .f32 a0, .float .f32 a1, .float .f32 a2, .float .f32 a3], .float .f32 f] w (OnlyB (some 0, false) w) := by
  have cL : ∀ (b : Nat) (W : World), Bx W b [.float .f32 a0, .float .f32 a1, .float .f32 a2, .float .f32 a3] → Calls Try.prog 58 #[.pointer (some ⟨b, 0, none⟩)] W (SayQ true W) := fun b W hB => by have := l04Is_o b W hB ha0 ha1 ha2 ha3; rw [hs] at this; exact this
  have HL := Lib.hid cL
  have cP : ∀ W : World, Calls Try.prog 59 #[.float .f32 f] W (SayQ false W) := fun W => by have := l02Above_o W hf; rw [hp] at this; exact this
  have HP := Lib.hid cP
  clear cP hp
  clear cL hs
  go_enter Try.func56, Try.ntmps56
  go_wp2_with fail
  refine (HL.out _ _ (by first | exact Bx.new _ [_, _, _, _] _ | exact Bx.drewN (Bx.new _ [_, _, _, _] _) _)).mono ?_
  rintro e w' ⟨bb, hbb, rfl, q1, rfl⟩
  subst hbb
  go_wp2_with fail
  refine (HP.out _).mono ?_
  rintro e w' ⟨bb, hbb, rfl, q2, rfl⟩
  subst hbb
  go_wp2_with fail
  go_ret2
  exact ⟨_, _, rfl, rfl, Is32.c (by decide), by first | exact beld (bel1 _ _) _ | exact beld (beld (bel1 _ _) _) _⟩

set_option maxHeartbeats 4000000 in
theorem normS_yes {A0 A1 A2 A3 F : Option Nat} {a0 a1 a2 a3 f : Nat} (w : World) (ha0 : Is32 A0 a0) (ha1 : Is32 A1 a1) (ha2 : Is32 A2 a2) (ha3 : Is32 A3 a3) (hf : Is32 F f) (hs : secO A0 A1 A2 A3 = true) (hp : posO F = true) :
    Calls Try.prog 56 #[.agg #[.float .f32 a0, .float .f32 a1, .float .f32 a2, .float .f32 a3], .float .f32 f] w (OnlyB ((halveO (normH A0 A1 A2 A3 F) 40 (some 0) (some 1148846080)).2.1, (halveO (normH A0 A1 A2 A3 F) 40 (some 0) (some 1148846080)).2.2) w) := by
  obtain ⟨R, hR⟩ : ∃ R, halveO (normH A0 A1 A2 A3 F) 40 (some 0) (some 1148846080) = R := ⟨_, rfl⟩
  rw [hR]
  have HR := Lib.hid hR
  clear hR
  have cL : ∀ (b : Nat) (W : World), Bx W b [.float .f32 a0, .float .f32 a1, .float .f32 a2, .float .f32 a3] → Calls Try.prog 58 #[.pointer (some ⟨b, 0, none⟩)] W (SayQ true W) := fun b W hB => by have := l04Is_o b W hB ha0 ha1 ha2 ha3; rw [hs] at this; exact this
  have HL := Lib.hid cL
  have cP : ∀ W : World, Calls Try.prog 59 #[.float .f32 f] W (SayQ true W) := fun W => by have := l02Above_o W hf; rw [hp] at this; exact this
  have HP := Lib.hid cP
  clear cP hp
  clear cL hs
  go_enter Try.func56, Try.ntmps56
  go_wp2_with fail
  refine (HL.out _ _ (by first | exact Bx.new _ [_, _, _, _] _ | exact Bx.drewN (Bx.new _ [_, _, _, _] _) _)).mono ?_
  rintro e w' ⟨bb, hbb, rfl, q1, rfl⟩
  subst hbb
  go_wp2_with fail
  refine (HP.out _).mono ?_
  rintro e w' ⟨bb, hbb, rfl, q2, rfl⟩
  subst hbb
  go_wp2_with fail
  go_loopw [6, 7, 8] (fun lo hi nn wr => ∃ (k : Nat) (X Y : Option Nat) (x y : Nat), k ≤ 40 ∧ lo = .float .f32 x ∧ hi = .float .f32 y ∧ nn = .int .i64 (k : Int) ∧ Is32 X x ∧ Is32 Y y ∧ Hid (halveO (normH A0 A1 A2 A3 F) (40 - k) X Y = R) ∧ Hid (Below w.heap.size w wr) ∧ Hid (Bx wr w.heap.size [.float .f32 a0, .float .f32 a1, .float .f32 a2, .float .f32 a3])) (fun _ _ nn _ => 40 - (intOf nn).toNat)
  case atStart => exact ⟨0, _, _, 0, 1148846080, by omega, rfl, rfl, rfl, Is32.c (by decide), Is32.c (by decide), HR, Lib.hid (by first | exact beld (bel1 _ _) _ | exact beld (beld (bel1 _ _) _) _), Lib.hid (by first | exact Bx.drewN (Bx.new _ [_, _, _, _] _) _ | exact Bx.drewN (Bx.drewN (Bx.new _ [_, _, _, _] _) _) _)⟩
  case round =>
    obtain ⟨k, X, Y, x, y, hk, rfl, rfl, rfl, hx, hy, HK, HBk, HX⟩ := hrel
    have c0 := HX.out.c 0 rfl
    have c1 := HX.out.c 1 rfl
    have c2 := HX.out.c 2 rfl
    have c3 := HX.out.c 3 rfl
    by_cases hlt : k < 40
    · have hlt2 : (k : Int) < 40 := by omega
      go_wp2_with (first | ((with_reducible refine wpList_bin ?_); refine wpList_f32 rfl _ _ _ _ _ rfl rfl rfl (by decide) (by first | assumption | exact Is32.c (by decide)) (by first | assumption | exact Is32.c (by decide)) ?_; intro z n hz))
      refine (flowAt_s _ ha0 ha1 ha2 ha3 hz).mono ?_
      rintro e W1 ⟨zq, bb, rfl, hbb, hzq, hb⟩
      rw [← halfO] at hbb hzq
      have hmid : Is32 (fop .quo .f32 (fop .add .f32 X Y) (some 1073741824)) z := by rw [halfO]; exact hz
      have Hm := Lib.hid hmid
      have hB1 : Below w.heap.size w W1 := (by first | exact HBk.out.trans (hb.mono (by first | exact HBk.out.size | (simp; exact HBk.out.size))) | exact (beld HBk.out _).trans (hb.mono (by first | exact HBk.out.size | (simp; exact HBk.out.size))))
      have hX1 : Bx W1 w.heap.size [.float .f32 a0, .float .f32 a1, .float .f32 a2, .float .f32 a3] := (by first | exact Bx.below HX.out hb HX.out.1 | exact Bx.below (Bx.drewN HX.out _) hb HX.out.1)
      have e40 : 40 - k = (40 - (k + 1)) + 1 := by omega
      have hk4 : halveO (normH A0 A1 A2 A3 F) ((40 - (k + 1)) + 1) X Y = R := by rw [← e40]; exact HK.out
      have HK4 := Lib.hid hk4
      have HB1 := Lib.hid hB1
      have HX1 := Lib.hid hX1
      have HC := Lib.hid hbb
      clear hB1 hX1 e40 hk4 hb hmid c0 c1 c2 c3
      cases bb with
      | false =>
        have hRv : R = (some 0, some 0, false) := HK4.out.symm.trans (halve_no (H := (normH A0 A1 A2 A3 F)) HC.out)
        have HRv := Lib.hid hRv
        clear hRv hbb
        go_wp2_with fail
        go_ret2
        exact ⟨_, _, rfl, by rw [HRv.out], by rw [HRv.out]; exact Is32.c (by decide), HB1.out⟩
      | true =>
        clear hbb
        go_wp2_with (first | ((with_reducible refine wpList_bin ?_); refine wpList_c32 rfl _ _ _ _ _ rfl rfl rfl (by decide) (by first | assumption | exact Is32.c (by decide)) (by first | assumption | exact Is32.c (by decide)) ?_; intro b2 hb2; cases b2))
        · exact ⟨⟨k + 1, _, _, _, _, by omega, rfl, rfl, by go_num, Hm.out, hy, Lib.hid ((halve_lo (H := (normH A0 A1 A2 A3 F)) HC.out hb2).symm.trans HK4.out), HB1, HX1⟩, by simp [intOf]; omega⟩
        · exact ⟨⟨k + 1, _, _, _, _, by omega, rfl, rfl, by go_num, hx, Hm.out, Lib.hid ((halve_hi (H := (normH A0 A1 A2 A3 F)) HC.out hb2).symm.trans HK4.out), HB1, HX1⟩, by simp [intOf]; omega⟩
    · obtain rfl : k = 40 := by omega
      have h9 := HK.out
      simp only [Nat.sub_self, halveO] at h9
      have H9 := Lib.hid h9
      clear h9
      go_wp2_with fail
      go_ret2
      exact ⟨_, _, rfl, by rw [← H9.out], by rw [← H9.out]; exact hy, HBk.out⟩

theorem normalDepth_s {A0 A1 A2 A3 F : Option Nat} {a0 a1 a2 a3 f : Nat} (w : World) (ha0 : Is32 A0 a0) (ha1 : Is32 A1 a1) (ha2 : Is32 A2 a2) (ha3 : Is32 A3 a3) (hf : Is32 F f) : Calls Try.prog 56 #[.agg #[.float .f32 a0, .float .f32 a1, .float .f32 a2, .float .f32 a3], .float .f32 f] w (OnlyB (normO A0 A1 A2 A3 F) w) := by
  unfold normO
  cases hs : secO A0 A1 A2 A3
  · exact normS_bad w ha0 ha1 ha2 ha3 hf hs
  cases hp : posO F
  · exact normS_pos w ha0 ha1 ha2 ha3 hf hs hp
  · exact normS_yes w ha0 ha1 ha2 ha3 hf hs hp

end Go.Proofs.Ytfdcfalkidcdnaa
