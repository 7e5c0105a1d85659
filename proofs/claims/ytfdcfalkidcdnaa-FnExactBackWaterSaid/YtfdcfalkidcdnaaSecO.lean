/- The other depth with the same head or push: the program and its model alike. -/
import Derived.Test.YtfdcfalkidcdnaaSecL
import Derived.Test.YtfdcfalkidcdnaaSecC
namespace Go.Proofs.Ytfdcfalkidcdnaa
open Go.RowKit
set_option linter.unusedVariables false
set_option linter.unusedSimpArgs false
set_option maxRecDepth 100000
attribute [local irreducible] wpV wpList Code.wp

/-- The depth on the other side of c. -/
def otherC (ms : Option Nat → Option Nat × Bool) (c : Option Nat × Bool) (D : Option Nat) : Option Nat × Bool :=
  if c.2 && (ms D).2 then (if fcmp .lss .f32 D c.1
      then ((halveO (fun X => (fcmp .gtr .f32 (ms X).1 (ms D).1, (ms X).2)) 40 c.1 (some 1148846080)).1, (halveO (fun X => (fcmp .gtr .f32 (ms X).1 (ms D).1, (ms X).2)) 40 c.1 (some 1148846080)).2.2)
      else ((halveO (fun X => (fcmp .lss .f32 (ms X).1 (ms D).1, (ms X).2)) 40 (some 981668463) c.1).2.1, (halveO (fun X => (fcmp .lss .f32 (ms X).1 (ms D).1, (ms X).2)) 40 (some 981668463) c.1).2.2))
    else (some 0, false)
theorem otherC_yes {ms : Option Nat → Option Nat × Bool} {c : Option Nat × Bool} {D : Option Nat} (h1 : c.2 = true) (h2 : (ms D).2 = true) : otherC ms c D = if fcmp .lss .f32 D c.1
      then ((halveO (fun X => (fcmp .gtr .f32 (ms X).1 (ms D).1, (ms X).2)) 40 c.1 (some 1148846080)).1, (halveO (fun X => (fcmp .gtr .f32 (ms X).1 (ms D).1, (ms X).2)) 40 c.1 (some 1148846080)).2.2)
      else ((halveO (fun X => (fcmp .lss .f32 (ms X).1 (ms D).1, (ms X).2)) 40 (some 981668463) c.1).2.1, (halveO (fun X => (fcmp .lss .f32 (ms X).1 (ms D).1, (ms X).2)) 40 (some 981668463) c.1).2.2) := by
  unfold otherC; rw [h1, h2]; rfl
theorem otherC_no {ms : Option Nat → Option Nat × Bool} {c : Option Nat × Bool} {D : Option Nat} (h : (c.2 && (ms D).2) = false) : otherC ms c D = (some 0, false) := by
  unfold otherC; rw [h]; rfl
theorem newCellW (w : World) (z : Nat) (t : TypeId) : (w.alloc (.cells #[.float .f32 z] t)).cell? ⟨w.heap.size, 0, none⟩ = some (.float .f32 z) ∧ (w.alloc (.cells #[.float .f32 z] t)).frozen? ⟨w.heap.size, 0, none⟩ = false :=
  ⟨(Bx.new w [.float .f32 z] t).c 0 rfl, by simp [go_sem]⟩
theorem newBoxW (w : World) (y z : Nat) (t : TypeId) : Below w.heap.size w ((w.alloc (.cells #[.float .f32 y] t)).setCell ⟨w.heap.size, 0, none⟩ (.float .f32 z)) ∧
    Bx ((w.alloc (.cells #[.float .f32 y] t)).setCell ⟨w.heap.size, 0, none⟩ (.float .f32 z)) w.heap.size [.float .f32 z] := by
  have h1 : Below w.heap.size w (w.alloc (.cells #[.float .f32 y] t)) := bel1 w _
  refine ⟨h1.setCell (Nat.le_refl _) _, ?_, fun j v hj => ?_⟩
  · simp
  · rcases j with _ | j
    · simp only [List.getElem?_cons_zero, Option.some.injEq] at hj
      subst hj
      have := (newCellW w y t).1
      simp [go_sem, this]
    · simp at hj
theorem Bx.third (w : World) (o o' : Obj) (vs : List Value) (t : TypeId) : Bx (((w.alloc o).alloc o').alloc (.cells vs.toArray t)) (w.heap.size + 1 + 1) vs := by
  have hsz : w.heap.size + 1 + 1 = ((w.alloc o).alloc o').heap.size := by simp
  rw [hsz]
  exact Bx.new _ _ _

set_option maxHeartbeats 4000000 in
theorem other_j1 (m : FuncId) (em : ∀ args w, (callFunc m args).run Try.prog w = .ok (.enter m args) w) (ms : Option Nat → Option Nat × Bool) {a0 a1 a2 a3 f : Nat} (HM : ∀ (X : Option Nat) (x : Nat) (W : World), Is32 X x → Calls Try.prog m #[.agg #[.float .f32 a0, .float .f32 a1, .float .f32 a2, .float .f32 a3], .float .f32 x, .float .f32 f] W (OnlyB (ms X) W)) {S : Option Nat} {s : Nat} (hs : Is32 S s) (bm bs bf bq : Nat) :
    Judges 98 #[.pointer (some ⟨bm, 0, none⟩), .pointer (some ⟨bs, 0, none⟩), .pointer (some ⟨bf, 0, none⟩), .pointer (some ⟨bq, 0, none⟩)] (fun X => (fcmp .gtr .f32 (ms X).1 S, (ms X).2)) (fun W => Bx W bm [.func (.func m) #[] #[]] ∧ Bx W bs [.float .f32 a0, .float .f32 a1, .float .f32 a2, .float .f32 a3] ∧ Bx W bf [.float .f32 f] ∧ Bx W bq [.float .f32 s]) where
  keep := fun W n h => ⟨h.1.drewN n, h.2.1.drewN n, h.2.2.1.drewN n, h.2.2.2.drewN n⟩
  call := by
    intro X x W hx h
    obtain ⟨h1, h2, h3, h4⟩ := h
    have cm := h1.c 0 rfl
    have c0 := h2.c 0 rfl
    have c1 := h2.c 1 rfl
    have c2 := h2.c 2 rfl
    have c3 := h2.c 3 rfl
    have cf := h3.c 0 rfl
    have H1 := Lib.hid h1
    have H2 := Lib.hid h2
    have H3 := Lib.hid h3
    have H4 := Lib.hid h4
    have HC := Lib.hid HM
    clear h1 h2 h3 h4 HM
    go_enter Try.func98, Try.ntmps98
    go_wp2_with fail
    refine (HC.out X x _ hx).mono ?_
    rintro e W1 ⟨z, bb, rfl, hbb, hz, hb⟩
    have k1 := H1.out.below hb H1.out.1
    have k2 := H2.out.below hb H2.out.1
    have k3 := H3.out.below hb H3.out.1
    have k4 := H4.out.below hb H4.out.1
    have cq := k4.c 0 rfl
    have K1 := Lib.hid k1
    have K2 := Lib.hid k2
    have K3 := Lib.hid k3
    have K4 := Lib.hid k4
    have HB := Lib.hid hb
    have Hbb := Lib.hid hbb
    clear k1 k2 k3 k4 hb hbb c0 c1 c2 c3 cf cm
    go_wp2_with (first | ((with_reducible refine wpList_bin ?_); refine wpList_c32 rfl _ _ _ _ _ rfl rfl rfl (by decide) (by first | assumption | exact Is32.c (by decide)) (by first | assumption | exact Is32.c (by decide)) ?_; intro b2 hb2))
    all_goals go_ret2
    all_goals exact ⟨_, _, rfl, Hbb.out, fun _ => by first | exact hb2 | assumption, HB.out, K1.out, K2.out, K3.out, K4.out⟩

set_option maxHeartbeats 4000000 in
theorem other_j2 (m : FuncId) (em : ∀ args w, (callFunc m args).run Try.prog w = .ok (.enter m args) w) (ms : Option Nat → Option Nat × Bool) {a0 a1 a2 a3 f : Nat} (HM : ∀ (X : Option Nat) (x : Nat) (W : World), Is32 X x → Calls Try.prog m #[.agg #[.float .f32 a0, .float .f32 a1, .float .f32 a2, .float .f32 a3], .float .f32 x, .float .f32 f] W (OnlyB (ms X) W)) {S : Option Nat} {s : Nat} (hs : Is32 S s) (bm bs bf bq : Nat) :
    Judges 99 #[.pointer (some ⟨bm, 0, none⟩), .pointer (some ⟨bs, 0, none⟩), .pointer (some ⟨bf, 0, none⟩), .pointer (some ⟨bq, 0, none⟩)] (fun X => (fcmp .lss .f32 (ms X).1 S, (ms X).2)) (fun W => Bx W bm [.func (.func m) #[] #[]] ∧ Bx W bs [.float .f32 a0, .float .f32 a1, .float .f32 a2, .float .f32 a3] ∧ Bx W bf [.float .f32 f] ∧ Bx W bq [.float .f32 s]) where
  keep := fun W n h => ⟨h.1.drewN n, h.2.1.drewN n, h.2.2.1.drewN n, h.2.2.2.drewN n⟩
  call := by
    intro X x W hx h
    obtain ⟨h1, h2, h3, h4⟩ := h
    have cm := h1.c 0 rfl
    have c0 := h2.c 0 rfl
    have c1 := h2.c 1 rfl
    have c2 := h2.c 2 rfl
    have c3 := h2.c 3 rfl
    have cf := h3.c 0 rfl
    have H1 := Lib.hid h1
    have H2 := Lib.hid h2
    have H3 := Lib.hid h3
    have H4 := Lib.hid h4
    have HC := Lib.hid HM
    clear h1 h2 h3 h4 HM
    go_enter Try.func99, Try.ntmps99
    go_wp2_with fail
    refine (HC.out X x _ hx).mono ?_
    rintro e W1 ⟨z, bb, rfl, hbb, hz, hb⟩
    have k1 := H1.out.below hb H1.out.1
    have k2 := H2.out.below hb H2.out.1
    have k3 := H3.out.below hb H3.out.1
    have k4 := H4.out.below hb H4.out.1
    have cq := k4.c 0 rfl
    have K1 := Lib.hid k1
    have K2 := Lib.hid k2
    have K3 := Lib.hid k3
    have K4 := Lib.hid k4
    have HB := Lib.hid hb
    have Hbb := Lib.hid hbb
    clear k1 k2 k3 k4 hb hbb c0 c1 c2 c3 cf cm
    go_wp2_with (first | ((with_reducible refine wpList_bin ?_); refine wpList_c32 rfl _ _ _ _ _ rfl rfl rfl (by decide) (by first | assumption | exact Is32.c (by decide)) (by first | assumption | exact Is32.c (by decide)) ?_; intro b2 hb2))
    all_goals go_ret2
    all_goals exact ⟨_, _, rfl, Hbb.out, fun _ => by first | exact hb2 | assumption, HB.out, K1.out, K2.out, K3.out, K4.out⟩

set_option maxHeartbeats 8000000 in
theorem otherSide_i {A0 A1 A2 A3 D F : Option Nat} {a0 a1 a2 a3 d f : Nat} (m : FuncId) (em : ∀ args w, (callFunc m args).run Try.prog w = .ok (.enter m args) w) (ms : Option Nat → Option Nat × Bool) (w : World) (ha0 : Is32 A0 a0) (ha1 : Is32 A1 a1) (ha2 : Is32 A2 a2) (ha3 : Is32 A3 a3) (hd : Is32 D d) (hf : Is32 F f) (HM : ∀ (X : Option Nat) (x : Nat) (W : World), Is32 X x → Calls Try.prog m #[.agg #[.float .f32 a0, .float .f32 a1, .float .f32 a2, .float .f32 a3], .float .f32 x, .float .f32 f] W (OnlyB (ms X) W)) :
    Calls Try.prog 67 #[.agg #[.float .f32 a0, .float .f32 a1, .float .f32 a2, .float .f32 a3], .float .f32 d, .float .f32 f, .func (.func m) #[] #[]] w (OnlyB (otherC ms (critO A0 A1 A2 A3 F) D) w) := by
  have HC := Lib.hid HM
  clear HM
  obtain ⟨R, hR⟩ : ∃ R, otherC ms (critO A0 A1 A2 A3 F) D = R := ⟨_, rfl⟩
  rw [hR]
  have HR := Lib.hid hR
  clear hR
  go_enter Try.func67, Try.ntmps67
  go_wp2_with fail
  refine (criticalDepth_i _ ha0 ha1 ha2 ha3 hf).mono ?_
  rintro e w1 ⟨z1, b1, rfl, hb1, hz1, hb⟩
  have hB1 : Below w.heap.size w w1 := (bel3 _ _ _ _).trans (hb.mono (by first | (simp; done) | (simp; omega) | omega))
  have hs1 : w.heap.size + 3 ≤ w1.heap.size := (by have := hb.size; (try simp at this); omega)
  have xa : Bx w1 (w.heap.size) [.float .f32 a0, .float .f32 a1, .float .f32 a2, .float .f32 a3] := Bx.below (Bx.alloc (Bx.alloc (Bx.new w [_, _, _, _] _) _) _) hb (by first | (simp; done) | (simp; omega) | omega)
  have xf : Bx w1 (w.heap.size + 1) [.float .f32 f] := Bx.below (Bx.alloc (Bx.second w _ [_] _) _) hb (by first | (simp; done) | (simp; omega) | omega)
  have xm : Bx w1 (w.heap.size + 1 + 1) [.func (.func m) #[] #[]] := Bx.below (Bx.third w _ _ [_] _) hb (by first | (simp; done) | (simp; omega) | omega)
  have ca0 := xa.c 0 rfl
  have ca1 := xa.c 1 rfl
  have ca2 := xa.c 2 rfl
  have ca3 := xa.c 3 rfl
  have Xa1 := Lib.hid xa
  clear xa
  have cf0 := xf.c 0 rfl
  have Xf1 := Lib.hid xf
  clear xf
  have cm0 := xm.c 0 rfl
  have Xm1 := Lib.hid xm
  clear xm
  have HB1 := Lib.hid hB1
  clear hb hB1
  have Hb1 := Lib.hid hb1
  clear hb1
  go_wp2_with fail
  refine (HC.out D d _ hd).mono ?_
  rintro e w2 ⟨z2, b2, rfl, hb2, hz2, hb⟩
  have hB2 : Below w.heap.size w w2 := HB1.out.trans (hb.mono (by first | (simp; done) | (simp; omega) | omega))
  have hs2 : w.heap.size + 3 ≤ w2.heap.size := (by have := hb.size; (try simp at this); omega)
  have xa : Bx w2 (w.heap.size) [.float .f32 a0, .float .f32 a1, .float .f32 a2, .float .f32 a3] := Bx.below Xa1.out hb (by first | (simp; done) | (simp; omega) | omega)
  have xf : Bx w2 (w.heap.size + 1) [.float .f32 f] := Bx.below Xf1.out hb (by first | (simp; done) | (simp; omega) | omega)
  have xm : Bx w2 (w.heap.size + 1 + 1) [.func (.func m) #[] #[]] := Bx.below Xm1.out hb (by first | (simp; done) | (simp; omega) | omega)
  clear ca0 ca1 ca2 ca3 cf0 cm0
  have ca0 := xa.c 0 rfl
  have ca1 := xa.c 1 rfl
  have ca2 := xa.c 2 rfl
  have ca3 := xa.c 3 rfl
  have Xa2 := Lib.hid xa
  clear xa
  have cf0 := xf.c 0 rfl
  have Xf2 := Lib.hid xf
  clear xf
  have cm0 := xm.c 0 rfl
  have Xm2 := Lib.hid xm
  clear xm
  have HB2 := Lib.hid hB2
  clear hb hB2
  have Hb2 := Lib.hid hb2
  clear hb2
  obtain ⟨k9, f9⟩ := newCellW w2 0 22
  by_cases hbb : (b1 && b2) = true
  · rw [Bool.and_eq_true] at hbb
    obtain ⟨rfl, rfl⟩ := hbb
    have hR := HR.out
    rw [otherC_yes Hb1.out Hb2.out] at hR
    obtain ⟨c5, hc5⟩ : ∃ c, fcmp .lss .f32 D (critO A0 A1 A2 A3 F).1 = c := ⟨_, rfl⟩
    rw [hc5] at hR
    have HC5 := Lib.hid hc5
    clear hc5
    cases c5
    all_goals simp only [if_true, if_false, Bool.false_eq_true] at hR
    all_goals have HR2 := Lib.hid hR
    all_goals clear hR
    · have o5 : (FloatKind.f32.format.order d z1 == some .lt) = false := by rw [Is32.ord hd hz1]; exact HC5.out
      have hw9 := bel1 w2 (.cells #[.float .f32 z2] 22)
      have hx9 := Bx.new w2 [.float .f32 z2] 22
      have HW9 := Lib.hid hw9
      have HX9 := Lib.hid hx9
      clear hw9 hx9
      go_wp2_with fail
      refine (halve_any _ _ (enters_of Try.func99 (by kernel_rfl) rfl) (fun X => (fcmp .lss .f32 (ms X).1 (ms D).1, (ms X).2)) _ _ (Is32.c (b := 981668463) (by decide)) hz1 (other_j2 m em ms HC.out hz2 _ _ _ _) ⟨Xm2.out.below HW9.out Xm2.out.1, Xa2.out.below HW9.out Xa2.out.1, Xf2.out.below HW9.out Xf2.out.1, HX9.out⟩).mono ?_
      rintro e w3 ⟨pp, qq, bb, rfl, hbb, hpp, hqq, hb3⟩
      have HB3 := Lib.hid (HB2.out.trans ((HW9.out.trans (hb3.mono HW9.out.size)).mono (by omega)))
      clear hb3 k9 f9
      go_wp2_with fail
      go_ret2
      exact ⟨_, _, rfl, by rw [← HR2.out]; exact hbb, by rw [← HR2.out]; exact hqq, HB3.out⟩
    · have o5 : (FloatKind.f32.format.order d z1 == some .lt) = true := by rw [Is32.ord hd hz1]; exact HC5.out
      have hw9 := bel1 w2 (.cells #[.float .f32 z2] 22)
      have hx9 := Bx.new w2 [.float .f32 z2] 22
      have HW9 := Lib.hid hw9
      have HX9 := Lib.hid hx9
      clear hw9 hx9
      go_wp2_with fail
      refine (halve_any _ _ (enters_of Try.func98 (by kernel_rfl) rfl) (fun X => (fcmp .gtr .f32 (ms X).1 (ms D).1, (ms X).2)) _ _ hz1 (Is32.c (b := 1148846080) (by decide)) (other_j1 m em ms HC.out hz2 _ _ _ _) ⟨Xm2.out.below HW9.out Xm2.out.1, Xa2.out.below HW9.out Xa2.out.1, Xf2.out.below HW9.out Xf2.out.1, HX9.out⟩).mono ?_
      rintro e w3 ⟨pp, qq, bb, rfl, hbb, hpp, hqq, hb3⟩
      have HB3 := Lib.hid (HB2.out.trans ((HW9.out.trans (hb3.mono HW9.out.size)).mono (by omega)))
      clear hb3 k9 f9
      go_wp2_with fail
      go_ret2
      exact ⟨_, _, rfl, by rw [← HR2.out]; exact hbb, by rw [← HR2.out]; exact hpp, HB3.out⟩
  · have hbf : (b1 && b2) = false := by simpa using hbb
    have hR := HR.out
    rw [otherC_no (by rw [Hb1.out, Hb2.out]; exact hbf)] at hR
    have HR2 := Lib.hid hR
    clear hR
    have hw9 := bel1 w2 (.cells #[.float .f32 z2] 22)
    have HB3 := Lib.hid (HB2.out.trans (hw9.mono (by omega)))
    clear hw9 hbf
    cases b1
    all_goals cases b2
    all_goals first | (exact absurd rfl hbb) | skip
    all_goals clear hbb
    all_goals go_wp2_with fail
    all_goals go_ret2
    all_goals exact ⟨_, _, rfl, by rw [← HR2.out], by rw [← HR2.out]; exact Is32.c (by decide), HB3.out⟩

set_option maxHeartbeats 8000000 in
theorem otherDepth_i {A0 A1 A2 A3 : Option Nat} {a0 a1 a2 a3 : Nat} {D : Option Nat} {d : Nat} {F : Option Nat} {f : Nat} (w : World)  (ha0 : Is32 A0 a0) (ha1 : Is32 A1 a1) (ha2 : Is32 A2 a2) (ha3 : Is32 A3 a3) (hd : Is32 D d) (hf : Is32 F f) :
    Calls Try.prog 22 #[.agg #[.float .f32 a0, .float .f32 a1, .float .f32 a2, .float .f32 a3], .float .f32 d, .float .f32 f] w (OnlyB (otherC (fun X => headS A0 A1 A2 A3 X F) (critO A0 A1 A2 A3 F) D) w) := by
  go_enter Try.func22, Try.ntmps22
  go_wp2_with (first | ((with_reducible refine wpList_bin ?_); refine wpList_f32 rfl _ _ _ _ _ rfl rfl rfl (by decide) (by first | assumption | exact Is32.c (by decide)) (by first | assumption | exact Is32.c (by decide)) ?_; intro z n hz) | ((with_reducible refine wpList_bin ?_); refine wpList_c32 rfl _ _ _ _ _ rfl rfl rfl (by decide) (by first | assumption | exact Is32.c (by decide)) (by first | assumption | exact Is32.c (by decide)) ?_; intro bb hbb; cases bb) | (go_at_call 67; refine (otherSide_i _ (enters_of Try.func68 (by kernel_rfl) rfl) (fun X => headS A0 A1 A2 A3 X F) _ ha0 ha1 ha2 ha3 hd hf (fun X x W hx => head_i W ha0 ha1 ha2 ha3 hx hf)).mono ?_; rintro e w1 ⟨z, bb, rfl, hbb, hz, hb⟩; have hb1 : Below w.heap.size w w1 := (by first | exact (bel1 _ _ ).trans (hb.mono (by first | (simp; done) | (simp; omega) | omega)) | exact (beld (bel1 _ _ ) _).trans (hb.mono (by first | (simp; done) | (simp; omega) | omega))); have hs1 : w.heap.size + 1 ≤ w1.heap.size := (by have := hb.size; (try simp at this); omega); have bxa1 : Bx w1 (w.heap.size) [.float .f32 a0, .float .f32 a1, .float .f32 a2, .float .f32 a3] := (by first | exact Bx.below (Bx.new w [.float .f32 a0, .float .f32 a1, .float .f32 a2, .float .f32 a3] _) hb (by first | (simp; done) | (simp; omega) | omega) | exact Bx.below (Bx.drewN (Bx.new w [.float .f32 a0, .float .f32 a1, .float .f32 a2, .float .f32 a3] _) _) hb (by first | (simp; done) | (simp; omega) | omega)); have ca0 := bxa1.c 0 rfl; have ca1 := bxa1.c 1 rfl; have ca2 := bxa1.c 2 rfl; have ca3 := bxa1.c 3 rfl; have Bxa1 := Lib.hid bxa1; clear bxa1; have Hb1 := Lib.hid hb1; clear hb hb1; cases bb))
  all_goals go_ret2
  all_goals (refine ⟨_, _, rfl, ?_, ?_, (by first | exact (bel1 _ _ ) | exact beld (bel1 _ _ ) _ | exact beld (beld (bel1 _ _ ) _) _ | exact Hb1.out | exact beld Hb1.out _ | exact beld (beld Hb1.out _) _ | exact Below.alloc (by first | exact (bel1 _ _ ) | exact beld (bel1 _ _ ) _) (by first | (simp; done) | (simp; omega) | omega) _ | exact beld (Below.alloc (by first | exact (bel1 _ _ ) | exact beld (bel1 _ _ ) _) (by first | (simp; done) | (simp; omega) | omega) _) _ | exact Below.alloc (by first | exact Hb1.out | exact beld Hb1.out _) (by first | (simp; done) | (simp; omega) | omega) _ | exact beld (Below.alloc (by first | exact Hb1.out | exact beld Hb1.out _) (by first | (simp; done) | (simp; omega) | omega) _) _)⟩; (simp [*]); first | (simp [*]; done) | (simp [*]; exact Is32.c (by decide)) | (simp [*]; assumption))

set_option maxHeartbeats 8000000 in
theorem jumpDepth_i {A0 A1 A2 A3 : Option Nat} {a0 a1 a2 a3 : Nat} {D : Option Nat} {d : Nat} {F : Option Nat} {f : Nat} (w : World)  (ha0 : Is32 A0 a0) (ha1 : Is32 A1 a1) (ha2 : Is32 A2 a2) (ha3 : Is32 A3 a3) (hd : Is32 D d) (hf : Is32 F f) :
    Calls Try.prog 24 #[.agg #[.float .f32 a0, .float .f32 a1, .float .f32 a2, .float .f32 a3], .float .f32 d, .float .f32 f] w (OnlyB (otherC (fun X => pushS A0 A1 A2 A3 X F) (critO A0 A1 A2 A3 F) D) w) := by
  go_enter Try.func24, Try.ntmps24
  go_wp2_with (first | ((with_reducible refine wpList_bin ?_); refine wpList_f32 rfl _ _ _ _ _ rfl rfl rfl (by decide) (by first | assumption | exact Is32.c (by decide)) (by first | assumption | exact Is32.c (by decide)) ?_; intro z n hz) | ((with_reducible refine wpList_bin ?_); refine wpList_c32 rfl _ _ _ _ _ rfl rfl rfl (by decide) (by first | assumption | exact Is32.c (by decide)) (by first | assumption | exact Is32.c (by decide)) ?_; intro bb hbb; cases bb) | (go_at_call 67; refine (otherSide_i _ (enters_of Try.func69 (by kernel_rfl) rfl) (fun X => pushS A0 A1 A2 A3 X F) _ ha0 ha1 ha2 ha3 hd hf (fun X x W hx => push_i W ha0 ha1 ha2 ha3 hx hf)).mono ?_; rintro e w1 ⟨z, bb, rfl, hbb, hz, hb⟩; have hb1 : Below w.heap.size w w1 := (by first | exact (bel1 _ _ ).trans (hb.mono (by first | (simp; done) | (simp; omega) | omega)) | exact (beld (bel1 _ _ ) _).trans (hb.mono (by first | (simp; done) | (simp; omega) | omega))); have hs1 : w.heap.size + 1 ≤ w1.heap.size := (by have := hb.size; (try simp at this); omega); have bxa1 : Bx w1 (w.heap.size) [.float .f32 a0, .float .f32 a1, .float .f32 a2, .float .f32 a3] := (by first | exact Bx.below (Bx.new w [.float .f32 a0, .float .f32 a1, .float .f32 a2, .float .f32 a3] _) hb (by first | (simp; done) | (simp; omega) | omega) | exact Bx.below (Bx.drewN (Bx.new w [.float .f32 a0, .float .f32 a1, .float .f32 a2, .float .f32 a3] _) _) hb (by first | (simp; done) | (simp; omega) | omega)); have ca0 := bxa1.c 0 rfl; have ca1 := bxa1.c 1 rfl; have ca2 := bxa1.c 2 rfl; have ca3 := bxa1.c 3 rfl; have Bxa1 := Lib.hid bxa1; clear bxa1; have Hb1 := Lib.hid hb1; clear hb hb1; cases bb))
  all_goals go_ret2
  all_goals (refine ⟨_, _, rfl, ?_, ?_, (by first | exact (bel1 _ _ ) | exact beld (bel1 _ _ ) _ | exact beld (beld (bel1 _ _ ) _) _ | exact Hb1.out | exact beld Hb1.out _ | exact beld (beld Hb1.out _) _ | exact Below.alloc (by first | exact (bel1 _ _ ) | exact beld (bel1 _ _ ) _) (by first | (simp; done) | (simp; omega) | omega) _ | exact beld (Below.alloc (by first | exact (bel1 _ _ ) | exact beld (bel1 _ _ ) _) (by first | (simp; done) | (simp; omega) | omega) _) _ | exact Below.alloc (by first | exact Hb1.out | exact beld Hb1.out _) (by first | (simp; done) | (simp; omega) | omega) _ | exact beld (Below.alloc (by first | exact Hb1.out | exact beld Hb1.out _) (by first | (simp; done) | (simp; omega) | omega) _) _)⟩; (simp [*]); first | (simp [*]; done) | (simp [*]; exact Is32.c (by decide)) | (simp [*]; assumption))

end Go.Proofs.Ytfdcfalkidcdnaa
