/- Narrowing as the program and its model do it; complex numbers. -/
import Derived.Test.YtdpnkpgfepckdaaFinTF
namespace Go.Proofs.Ytdpnkpgfepckdaa
open Go.RowKit

set_option maxHeartbeats 1000000 in
theorem narrow_any (o : Option Nat) (v : Nat) (hv : Rp .f64 o v) (hs : tooGreat .f64 v .f32 = false) (w : World) : Calls Try.prog 110 #[.float .f64 v] w (RetF .f32 (cvtF .f64 .f32 o) w) := by
  have Hv := Lib.hid hv
  have Hs := Lib.hid hs
  clear hv hs
  go_enter Try.func110, Try.ntmps110
  go_wp2_with (refine wpList_cvt rfl _ _ _ rfl .f64 .f32 _ rfl (by kernel_rfl) Try.underlying23 Hs.out ?_; intro z n hz)
  go_ret
  exact ⟨_, _, rfl, rfl, Rp.cvtF (by decide) Hv.out (by assumption)⟩

def RetC (k : FloatKind) (o1 o2 : Option Nat) (w : World) (e : Ending) (w' : World) : Prop := ∃ r1 r2 n, e = .returned (.complex k r1 r2) ∧ w' = w.drewN n ∧ Rp k o1 r1 ∧ Rp k o2 r2

set_option maxHeartbeats 1000000 in
theorem snarrow_any (o : Option Nat) (v : Nat) (hv : Rp .f64 o v) (hs : tooGreat .f64 v .f32 = false) (w : World) : Calls Try.prog 90 #[.float .f64 v] w (RetF .f32 (cvtF .f64 .f32 o) w) := by
  have Hv := Lib.hid hv
  have Hs := Lib.hid hs
  clear hv hs
  go_enter Try.func90, Try.ntmps90
  go_wp2_with (refine wpList_cvt rfl _ _ _ rfl .f64 .f32 _ rfl (by kernel_rfl) Try.underlying23 Hs.out ?_; intro z n hz)
  go_ret
  exact ⟨_, _, rfl, rfl, Rp.cvtF (by decide) Hv.out (by assumption)⟩

set_option maxHeartbeats 1000000 in
theorem narrowC_any (o1 o2 : Option Nat) (a b : Nat) (ha : Rp .f64 o1 a) (hb : Rp .f64 o2 b) (ga : tooGreat .f64 a .f32 = false) (gb : tooGreat .f64 b .f32 = false) (w : World) : Calls Try.prog 96 #[.complex .f64 a b] w (RetC .f32 (cvtF .f64 .f32 o1) (cvtF .f64 .f32 o2) w) := by
  have Ha := Lib.hid (narrow_any o1 a ha ga)
  have Hb := Lib.hid (narrow_any o2 b hb gb)
  clear ha hb ga gb
  go_enter Try.func96, Try.ntmps96
  go_wp2_with fail
  refine (Ha.out _).mono ?_
  rintro e w' ⟨r1, n1, rfl, rfl, h1⟩
  have H1 := Lib.hid h1; clear h1
  go_wp2_with fail
  refine (Hb.out _).mono ?_
  rintro e w' ⟨r2, n2, rfl, rfl, h2⟩
  have H2 := Lib.hid h2; clear h2
  go_wp2_with fail
  go_ret
  exact ⟨_, _, _, rfl, rfl, H1.out, H2.out⟩

/-- A conversion between complex numbers. -/
theorem run_conv {P : Program} (w : World) (s k : FloatKind) (b : Nat) (hg : tooGreat s b k = false) : ∃ r n, (Conv.floatToFloat s b k).run P w = .ok (.float k r) (w.drewN n) ∧ Rp k (cvt s b k) r := by
  by_cases e : s = k
  · subst e
    exact ⟨b, 0, by simp [Conv.floatToFloat, World.drewN], by simp [cvt, Rp]⟩
  · unfold tooGreat at hg
    unfold cvt
    rw [if_neg e] at hg ⊢
    cases h : s.decode b with
    | nan g f =>
      exact ⟨(Question.nanConv k b).cut (w.tape w.drawn (Question.nanConv k b)), 1, by simp [Conv.floatToFloat, e, h, World.drewN, Question.forced], cutConv ..⟩
    | infinity g =>
      exact ⟨_, 0, by simp [Conv.floatToFloat, e, h, World.drewN], rfl⟩
    | number g m ex =>
      rw [h] at hg
      simp only at hg
      exact ⟨_, 0, by simp [Conv.floatToFloat, e, h, hg, World.drewN], rfl⟩

theorem run_cvtc {P : Program} (w : World) (src dst : TypeId) (s k : FloatKind) (a b : Nat) (hs : (P.underlying src).isSome = true) (hd : P.underlying dst = some (.complex k)) (ga : tooGreat s a k = false) (gb : tooGreat s b k = false) :
    ∃ r1 r2 n, (convert src dst (.complex s a b)).run P w = .ok (.complex k r1 r2) (w.drewN n) ∧ Rp k (cvt s a k) r1 ∧ Rp k (cvt s b k) r2 := by
  obtain ⟨u, hs'⟩ := Option.isSome_iff_exists.1 hs
  obtain ⟨r1, n1, h1, hr1⟩ := run_conv (P := P) w s k a ga
  obtain ⟨r2, n2, h2, hr2⟩ := run_conv (P := P) (w.drewN n1) s k b gb
  refine ⟨r1, r2, n1 + n2, ?_, hr1, hr2⟩
  cases u <;> simp [convert, run_underlying hs', run_underlying hd, Conv.complexToComplex, h1, h2, World.drewN_drewN]

theorem wpList_cvtc {P : Program} {ops : Array Oper} {Q : Exit → Act → World → Prop} {a : Act} {w : World} {rest : List Oper} {o : Oper} (hg : o.guard = none) (src dst : TypeId) (l : Operand) (hop : o.op = Op.convert src dst l) (s k : FloatKind) (x y : Nat) (hl : a.eval l = .complex s x y)
    (hs : (P.underlying src).isSome = true) (hd : P.underlying dst = some (.complex k)) (gx : tooGreat s x k = false) (gy : tooGreat s y k = false)
    (hK : ∀ r1 r2 n, Rp k (cvt s x k) r1 → Rp k (cvt s y k) r2 → wpList P ops Q rest (a.put o.dst (.complex k r1 r2)) (w.drewN n)) :
    wpList P ops Q (o :: rest) a w := by
  refine wpList_plain hg fun K hK' => ?_
  obtain ⟨r1, r2, n, hrun, h1, h2⟩ := run_cvtc (P := P) w src dst s k x y hs hd gx gy
  unfold Oper.wp
  simp [execOp, hop, hl, hrun, Result.andThen, Oper.upon]
  exact hK' _ _ (hK r1 r2 n h1 h2)

set_option maxHeartbeats 1000000 in
theorem sameComplex_true (o1 o2 : Option Nat) (a b c d : Nat) (ha : Rp .f64 o1 a) (hc : Rp .f64 o1 c) (hb : Rp .f64 o2 b) (hd : Rp .f64 o2 d) (w : World) :
    Calls Try.prog 24 #[.complex .f64 a b, .complex .f64 c d] w fun e w' => e = .returned (.bool true) ∧ ∃ n, w' = w.drewN n := by
  have H1 := Lib.hid (sameFloat_true o1 a c ha hc)
  have H2 := Lib.hid (sameFloat_true o2 b d hb hd)
  clear ha hb hc hd
  go_enter Try.func24, Try.ntmps24
  go_wp2_with fail
  refine (H1.out _).mono ?_
  rintro e w' ⟨rfl, n1, rfl⟩
  go_wp2_with fail
  refine (H2.out _).mono ?_
  rintro e w' ⟨rfl, n2, rfl⟩
  go_wp2_with fail
  go_ret
  exact ⟨rfl, _, rfl⟩
end Go.Proofs.Ytdpnkpgfepckdaa
