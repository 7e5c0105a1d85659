/- A range that is halved 40 times, by a goto. -/
import Derived.Test.YtfdcfalkidcdnaaRainA
import Derived.Test.YtfdcfalkidcdnaaHalfO
import Derived.Test.YtfdcfalkidcdnaaFk
import Derived.WalkMore
import Derived.ScopeJumps
import Derived.FnLit
namespace Go.Proofs.Ytfdcfalkidcdnaa
open Go.RowKit
set_option linter.unusedVariables false
set_option linter.unusedSimpArgs false
set_option maxRecDepth 100000
attribute [local irreducible] wpV wpList Code.wp

/-- What is left of a range that is halved n times: H tells whether the middle is too high, and whether it can be told. -/
def halveO (H : Option Nat → Bool × Bool) : Nat → Option Nat → Option Nat → Option Nat × Option Nat × Bool
  | 0, L, U => (L, U, true)
  | n + 1, L, U => if (H (fop .quo .f32 (fop .add .f32 L U) (some 1073741824))).2 then
      (if (H (fop .quo .f32 (fop .add .f32 L U) (some 1073741824))).1 then halveO H n L (fop .quo .f32 (fop .add .f32 L U) (some 1073741824)) else halveO H n (fop .quo .f32 (fop .add .f32 L U) (some 1073741824)) U)
    else (some 0, some 0, false)

theorem halve_no {H : Option Nat → Bool × Bool} {n : Nat} {L U : Option Nat} (h : (H (fop .quo .f32 (fop .add .f32 L U) (some 1073741824))).2 = false) : halveO H (n + 1) L U = (some 0, some 0, false) := by
  simp only [halveO, h]; rfl
theorem halve_hi {H : Option Nat → Bool × Bool} {n : Nat} {L U : Option Nat} (h : (H (fop .quo .f32 (fop .add .f32 L U) (some 1073741824))).2 = true) (h1 : (H (fop .quo .f32 (fop .add .f32 L U) (some 1073741824))).1 = true) :
    halveO H (n + 1) L U = halveO H n L (fop .quo .f32 (fop .add .f32 L U) (some 1073741824)) := by
  simp only [halveO, h, h1]; rfl
theorem halve_lo {H : Option Nat → Bool × Bool} {n : Nat} {L U : Option Nat} (h : (H (fop .quo .f32 (fop .add .f32 L U) (some 1073741824))).2 = true) (h1 : (H (fop .quo .f32 (fop .add .f32 L U) (some 1073741824))).1 = false) :
    halveO H (n + 1) L U = halveO H n (fop .quo .f32 (fop .add .f32 L U) (some 1073741824)) U := by
  simp only [halveO, h, h1]; rfl

/-- A function value that judges numbers. -/
structure Judges (g : FuncId) (lb : Array Value) (H : Option Nat → Bool × Bool) (I : World → Prop) : Prop where
  call : ∀ (X : Option Nat) (x : Nat) (W : World), Is32 X x → I W → Calls Try.prog g (#[.float .f32 x] ++ lb) W fun e W' => ∃ b c, e = .returned (.tuple #[.bool b, .bool c]) ∧ (H X).2 = c ∧ (c = true → (H X).1 = b) ∧ Below W.heap.size W W' ∧ I W'
  keep : ∀ (W : World) (n : Nat), I W → I (W.drewN n)

def HalveB (R : Option Nat × Option Nat × Bool) (w : World) (e : Ending) (w' : World) : Prop :=
  ∃ p q b, e = .returned (.tuple #[.float .f32 p, .float .f32 q, .bool b]) ∧ R.2.2 = b ∧ Is32 R.1 p ∧ Is32 R.2.1 q ∧ Below w.heap.size w w'

set_option maxHeartbeats 4000000 in
theorem halve_any (g : FuncId) (lb : Array Value) (eg : ∀ args w, (callFunc g args).run Try.prog w = .ok (.enter g args) w) (H : Option Nat → Bool × Bool) (I : World → Prop) {L U : Option Nat} {l u : Nat} (w : World)
    (hl : Is32 L l) (hu : Is32 U u) (hJ : Judges g lb H I) (h0 : I w) :
    Calls Try.prog 63 #[.float .f32 l, .float .f32 u, .func (.func g) #[] lb] w (HalveB (halveO H 40 L U) w) := by
  obtain ⟨R, hR⟩ : ∃ R, halveO H 40 L U = R := ⟨_, rfl⟩
  rw [hR]
  have HJ := Lib.hid hJ
  have H0 := Lib.hid h0
  have HR := Lib.hid hR
  clear hJ h0 hR
  go_enter Try.func63, Try.ntmps63
  go_wp2_with fail
  refine wp_scope_jumps 0 (fun a' w' => ∃ (k : Nat) (X Y : Option Nat) (x y : Nat) (u10 u11 u12 u13 u14 u15 u16 u17 u18 u19 u20 u21 u22 u23 u24 u25 u26 u27 u28 u29 u30 u31 : Value), a' = { tmps := #[.float .f32 x, .float .f32 y, .func (.func g) #[] lb, undef, undef, undef, .float .f32 0, .float .f32 0, .bool false, .int .i64 (k : Int), u10, u11, u12, u13, u14, u15, u16, u17, u18, u19, u20, u21, u22, u23, u24, u25, u26, u27, u28, u29, u30, u31, undef, undef], defers := [] } ∧ Is32 X x ∧ Is32 Y y ∧ 1 ≤ k ∧ k < 40 ∧ halveO H (40 - k) X Y = R ∧ Hid (I w') ∧ Hid (Below w.heap.size w w')) (fun a' _ => 40 - (intOf (a'.tmps.getD 9 undef)).toNat) rfl ?_ ?_
  · have HB0 := Lib.hid (Below.refl w.heap.size w)
    go_wp2_with fail
    go_step3
    go_wp2_with (first | ((with_reducible refine wpList_bin ?_); refine wpList_f32 rfl _ _ _ _ _ rfl rfl rfl (by decide) (by first | assumption | exact Is32.c (by decide)) (by first | assumption | exact Is32.c (by decide)) ?_; intro z n hz) | (go_at_call 74; refine (half_o _ (by first | assumption | exact Is32.c (by decide))).mono ?_; rintro e w' ⟨zh, rfl, hzh, q, rfl⟩))
    refine (HJ.out.call _ _ _ (by assumption) (by first | exact H0.out | exact HJ.out.keep _ _ H0.out | exact HJ.out.keep _ _ (HJ.out.keep _ _ H0.out))).mono ?_
    rintro e W1 ⟨b, c, rfl, hc, hb, hbel, hI⟩
    have hB1 : Below w.heap.size w W1 := (by first | exact HB0.out.trans (hbel.mono (by first | exact HB0.out.size | (simp; done))) | exact (beld HB0.out _).trans (hbel.mono (by first | exact HB0.out.size | (simp; done))) | exact (beld (beld HB0.out _) _).trans (hbel.mono (by first | exact HB0.out.size | (simp; done))))
    have HI1 := Lib.hid hI
    have HB1 := Lib.hid hB1
    have HC := Lib.hid hc
    have HBb := Lib.hid hb
    clear hI hB1 hbel hc hb
    cases c with
    | false =>
      have hRv : R = (some 0, some 0, false) := HR.out.symm.trans (halve_no (n := 39) HC.out)
      go_wp2_with fail
      simp only [Exit.jump]
      exact bodyPost_ret (v := .tuple #[.float .f32 0, .float .f32 0, .bool false]) (by simp [results, Try.results63, go_sem]) rfl ⟨0, 0, false, rfl, (by first | rfl | rw [hRv]), (by first | exact Is32.c (by decide) | (rw [hRv]; exact Is32.c (by decide))), (by first | exact Is32.c (by decide) | (rw [hRv]; exact Is32.c (by decide))), HB1.out⟩
    | true =>
      cases b with
      | true =>
        have hR2 := HR.out.symm.trans (halve_hi (n := 39) HC.out (HBb.out rfl))
        have HR2 := Lib.hid hR2
        clear hR2
        go_wp2_with fail
        go_step3
        exact ⟨rfl, 1, _, _, _, _, _, _, _, _, _, _, _, _, _, _, _, _, _, _, _, _, _, _, _, _, _, _, rfl, by assumption, by assumption, by omega, by omega, HR2.out.symm, HI1, HB1⟩
      | false =>
        have hR2 := HR.out.symm.trans (halve_lo (n := 39) HC.out (HBb.out rfl))
        have HR2 := Lib.hid hR2
        clear hR2
        go_wp2_with fail
        go_step3
        exact ⟨rfl, 1, _, _, _, _, _, _, _, _, _, _, _, _, _, _, _, _, _, _, _, _, _, _, _, _, _, _, rfl, by assumption, by assumption, by omega, by omega, HR2.out.symm, HI1, HB1⟩
  · rintro a' w' ⟨k, X, Y, x, y, u10, u11, u12, u13, u14, u15, u16, u17, u18, u19, u20, u21, u22, u23, u24, u25, u26, u27, u28, u29, u30, u31, rfl, hx, hy, hk1, hk2, hk3, HIk, HBk⟩
    clear hl hu
    have e40 : 40 - k = (40 - (k + 1)) + 1 := by omega
    have hk4 : halveO H ((40 - (k + 1)) + 1) X Y = R := by rw [← e40]; exact hk3
    have HK := Lib.hid hk4
    clear e40 hk3 hk4
    go_wp2_with (first | ((with_reducible refine wpList_bin ?_); refine wpList_f32 rfl _ _ _ _ _ rfl rfl rfl (by decide) (by first | assumption | exact Is32.c (by decide)) (by first | assumption | exact Is32.c (by decide)) ?_; intro z n hz) | (go_at_call 74; refine (half_o _ (by first | assumption | exact Is32.c (by decide))).mono ?_; rintro e w' ⟨zh, rfl, hzh, q, rfl⟩))
    refine (HJ.out.call _ _ _ (by assumption) (by first | exact HIk.out | exact HJ.out.keep _ _ HIk.out | exact HJ.out.keep _ _ (HJ.out.keep _ _ HIk.out))).mono ?_
    rintro e W1 ⟨b, c, rfl, hc, hb, hbel, hI⟩
    have hB1 : Below w.heap.size w W1 := (by first | exact HBk.out.trans (hbel.mono (by first | exact HBk.out.size | (simp; done))) | exact (beld HBk.out _).trans (hbel.mono (by first | exact HBk.out.size | (simp; done))) | exact (beld (beld HBk.out _) _).trans (hbel.mono (by first | exact HBk.out.size | (simp; done))))
    have HI1 := Lib.hid hI
    have HB1 := Lib.hid hB1
    have HC := Lib.hid hc
    have HBb := Lib.hid hb
    clear hI hB1 hbel hc hb
    cases c with
    | false =>
      have hRv : R = (some 0, some 0, false) := HK.out.symm.trans (halve_no HC.out)
      go_wp2_with fail
      simp only [Exit.jump]
      exact bodyPost_ret (v := .tuple #[.float .f32 0, .float .f32 0, .bool false]) (by simp [results, Try.results63, go_sem]) rfl ⟨0, 0, false, rfl, (by first | rfl | rw [hRv]), (by first | exact Is32.c (by decide) | (rw [hRv]; exact Is32.c (by decide))), (by first | exact Is32.c (by decide) | (rw [hRv]; exact Is32.c (by decide))), HB1.out⟩
    | true =>
      cases b with
      | true =>
        have hR2 := HK.out.symm.trans (halve_hi HC.out (HBb.out rfl))
        have HR2 := Lib.hid hR2
        clear hR2
        by_cases hk9 : k + 1 < 40
        · go_wp2_with fail
          go_step3
          refine ⟨rfl, ⟨k + 1, _, _, _, _, _, _, _, _, _, _, _, _, _, _, _, _, _, _, _, _, _, _, _, _, _, _, rfl, by assumption, by assumption, by omega, by omega, HR2.out.symm, HI1, HB1⟩, ?_⟩
          simp [intOf]; omega
        · obtain rfl : k = 39 := by omega
          go_wp2_with fail
          simp only [Exit.jump]
          have h9 := HR2.out
          simp only [Nat.sub_self, halveO] at h9
          exact bodyPost_ret (v := .tuple #[.float .f32 x, .float .f32 zh, .bool true]) (by simp [results, Try.results63, go_sem]) rfl ⟨_, _, true, rfl, by rw [h9], by rw [h9]; assumption, by rw [h9]; assumption, HB1.out⟩
      | false =>
        have hR2 := HK.out.symm.trans (halve_lo HC.out (HBb.out rfl))
        have HR2 := Lib.hid hR2
        clear hR2
        by_cases hk9 : k + 1 < 40
        · go_wp2_with fail
          go_step3
          refine ⟨rfl, ⟨k + 1, _, _, _, _, _, _, _, _, _, _, _, _, _, _, _, _, _, _, _, _, _, _, _, _, _, _, rfl, by assumption, by assumption, by omega, by omega, HR2.out.symm, HI1, HB1⟩, ?_⟩
          simp [intOf]; omega
        · obtain rfl : k = 39 := by omega
          go_wp2_with fail
          simp only [Exit.jump]
          have h9 := HR2.out
          simp only [Nat.sub_self, halveO] at h9
          exact bodyPost_ret (v := .tuple #[.float .f32 zh, .float .f32 y, .bool true]) (by simp [results, Try.results63, go_sem]) rfl ⟨_, _, true, rfl, by rw [h9], by rw [h9]; assumption, by rw [h9]; assumption, HB1.out⟩
end Go.Proofs.Ytfdcfalkidcdnaa
