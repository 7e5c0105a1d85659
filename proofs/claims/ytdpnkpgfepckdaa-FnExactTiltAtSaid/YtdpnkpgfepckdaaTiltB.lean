/- The tilt at a cell: values; calls of four arguments in a region. -/
import Derived.Test.YtdpnkpgfepckdaaTiltR
import Derived.Test.YtdpnkpgfepckdaaHasB
import Derived.Test.YtdpnkpgfepckdaaLineC
import Derived.Deep.QuietTactic
import Derived.Deep.Cut
import Derived.Laws.Cover3
namespace Go.Proofs.Ytdpnkpgfepckdaa
open Go.RowKit
set_option linter.unusedVariables false
set_option linter.unusedSimpArgs false
set_option maxRecDepth 100000
attribute [local irreducible] wpV wpList Code.wp

theorem run_call4 {P : Program} {o : Oper} {a : Act} {f : FuncId} {t0 t1 t2 t3 : Operand} {ats : Array TypeId} {u0 u1 u2 u3 : Value} (hop : o.op = .call { callee := .value (.func f), args := #[t0, t1, t2, t3], argTypes := ats }) (he : Enters P f) (h0 : a.eval t0 = u0) (h1 : a.eval t1 = u1) (h2 : a.eval t2 = u2) (h3 : a.eval t3 = u3) (w : World) :
    (execOp a.eval o).run P w = .ok (.enter f #[u0, u1, u2, u3]) w := by
  obtain ⟨dst, op, ty, pos, after, guard⟩ := o
  simp only at hop
  subst hop
  rw [execOp_call_go]
  simp [h0, h1, h2, h3]
  exact he _ _
theorem wpV_num4 {P : Program} {ops : Array Oper} {C : World → Prop} {V : Nat → Option (Value → Prop)} {Q : Act → Prop} {i : Nat} {rest : List Oper} {o : Oper} {a : Act} (j : Nat) (hj : i + 1 = j) (hC : ∀ w n, C w → C (w.drewN n)) {f : FuncId} {t0 t1 t2 t3 : Operand} {ats : Array TypeId} {u0 u1 u2 u3 : Value} {X : Option Nat} (hop : o.op = .call { callee := .value (.func f), args := #[t0, t1, t2, t3], argTypes := ats }) (he : Enters P f) (hw : Region.wanted o (yielded ops a.tmps) = true) (h0 : a.eval t0 = u0) (h1 : a.eval t1 = u1) (h2 : a.eval t2 = u2) (h3 : a.eval t3 = u3)
    (hcall : (∃ z, Is32 X z) ∧ ∀ w', C w' → Calls P f #[u0, u1, u2, u3] w' (NumQ X w')) (hV : V i = some (V32k X)) (hK : ∀ z, Is32 X z → wpV P ops C V Q j rest (a.put o.dst (.float .f32 z))) : wpV P ops C V Q i (o :: rest) a := by
  subst hj
  unfold wpV
  rw [if_pos hw, hV]
  obtain ⟨⟨z0, hz0⟩, hcall⟩ := hcall
  refine ⟨⟨_, z0, rfl, hz0⟩, fun w hCw => ?_, ?_⟩
  · rw [run_call4 hop he h0 h1 h2 h3]
    refine (hcall w hCw).mono ?_
    rintro e w' ⟨z, rfl, hz, n, rfl⟩
    exact ⟨_, rfl, ⟨z, rfl, hz⟩, hC _ _ hCw⟩
  · rintro u ⟨z, rfl, hz⟩; exact hK z hz
theorem riseV_ne (hb ha far : Nat) : ∃ z, Is32 (riseV hb ha far) z := by
  unfold riseV
  split
  · exact ⟨0, Is32.c (by decide)⟩
  · exact Is32.nef (by decide) _ _
def tiltX (wn : Nat) (zs : List Nat) (x y : Nat) : Option Nat := riseV (zs.getD (y * wn + hiN x wn) 0) (zs.getD (y * wn + (x - 1)) 0) (hiN x wn - (x - 1))
def tiltY (wn hn : Nat) (zs : List Nat) (x y : Nat) : Option Nat := riseV (zs.getD (hiN y hn * wn + x) 0) (zs.getD ((y - 1) * wn + x) 0) (hiN y hn - (y - 1))
def CoP (X Y : Option Nat) (w : World) (e : Ending) (w' : World) : Prop := ∃ r1 r2, e = .returned (.complex .f32 r1 r2) ∧ Is32 X r1 ∧ Is32 Y r2 ∧ ∃ n, w' = w.drewN n
def resTiltAt (wide high : Int) (zs : List Nat) (i : Int) : Option Nat × Option Nat × Bool :=
  if validB wide high zs && cellB (wide * high) i && (fin32o (tiltX wide.toNat zs (i.toNat % wide.toNat) (i.toNat / wide.toNat)) && fin32o (tiltY wide.toNat high.toNat zs (i.toNat % wide.toNat) (i.toNat / wide.toNat))) then
    (tiltX wide.toNat zs (i.toNat % wide.toNat) (i.toNat / wide.toNat), tiltY wide.toNat high.toNat zs (i.toNat % wide.toNat) (i.toNat / wide.toNat), true) else (some 0, some 0, false)
def TiP (R : Option Nat × Option Nat × Bool) (w : World) (e : Ending) (w' : World) : Prop := ∃ r1 r2, e = .returned (.tuple #[.complex .f32 r1 r2, .bool R.2.2]) ∧ Is32 R.1 r1 ∧ Is32 R.2.1 r2 ∧ Below w.heap.size w w'
theorem l00Min_a (a b c : Int) (w : World) (hc : min a b = c) : Calls Try.prog 83 #[.int .i64 a, .int .i64 b] w fun e w' => e = .returned (.int .i64 c) ∧ w' = w := by
  subst hc
  by_cases h : a < b
  · have hm : min a b = a := by omega
    rw [hm]
    go_enter Try.func83, Try.ntmps83
    go_wp2_with fail
    go_ret
    exact ⟨rfl, rfl⟩
  · have hm : min a b = b := by omega
    rw [hm]
    go_enter Try.func83, Try.ntmps83
    go_wp2_with fail
    go_ret
    exact ⟨rfl, rfl⟩
theorem l00Max_a (a b c : Int) (w : World) (hc : max a b = c) : Calls Try.prog 82 #[.int .i64 a, .int .i64 b] w fun e w' => e = .returned (.int .i64 c) ∧ w' = w := by
  subst hc
  by_cases h : b < a
  · have hm : max a b = a := by omega
    rw [hm]
    go_enter Try.func82, Try.ntmps82
    go_wp2_with fail
    go_ret
    exact ⟨rfl, rfl⟩
  · have hm : max a b = b := by omega
    rw [hm]
    go_enter Try.func82, Try.ntmps82
    go_wp2_with fail
    go_ret
    exact ⟨rfl, rfl⟩
theorem cfin_any {X Y : Option Nat} {r1 r2 : Nat} (w : World) (h1 : Is32 X r1) (h2 : Is32 Y r2) : Calls Try.prog 52 #[.complex .f32 r1 r2] w (SayQ (fin32o X && fin32o Y) w) := by
  have H1 := Lib.hid h1
  have H2 := Lib.hid h2
  clear h1 h2
  go_enter Try.func52, Try.ntmps52
  go_wp2_with fail
  refine (l01Fin_o _ H1.out).mono ?_
  rintro e w1 ⟨b1, hb1, rfl, q1, rfl⟩
  have HB1 := Lib.hid hb1
  clear hb1
  cases b1
  · go_wp2_with fail
    go_ret
    exact ⟨false, by rw [HB1.out, Bool.false_and], rfl, _, rfl⟩
  go_wp2_with fail
  refine (l01Fin_o _ H2.out).mono ?_
  rintro e w2 ⟨b2, hb2, rfl, q2, rfl⟩
  have HB2 := Lib.hid hb2
  clear hb2
  cases b2
  · go_wp2_with fail
    go_ret
    exact ⟨false, by rw [HB1.out, HB2.out]; rfl, rfl, _, rfl⟩
  · go_wp2_with fail
    go_ret
    exact ⟨true, by rw [HB1.out, HB2.out]; rfl, rfl, _, rfl⟩

end Go.Proofs.Ytdpnkpgfepckdaa
