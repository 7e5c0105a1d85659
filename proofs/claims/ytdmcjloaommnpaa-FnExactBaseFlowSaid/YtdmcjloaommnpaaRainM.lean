/- What a storm has brought is finite: plain facts on numbers. -/
import Derived.Test.YtdmcjloaommnpaaRainC
import Derived.Test.YtdmcjloaommnpaaMono
namespace Go.Proofs.Ytdmcjloaommnpaa

theorem geq_nn {X : Option Nat} {x : Nat} (h : Is32 X x) (hc : fcmp .geq .f32 X (some 0) = true) : X = some x ∧ NN x := by
  cases X with
  | none => exact absurd hc (by decide)
  | some b =>
    obtain rfl := h.eq
    refine ⟨rfl, Classical.byContradiction fun hn => ?_⟩
    have hc' : (FloatKind.f32.format.order x 0 == some .gt || FloatKind.f32.format.order x 0 == some .eq) = true := hc
    rcases not_nn h.2 hn with h1 | h1 <;> rw [h1] at hc' <;> exact absurd hc' (by decide)
theorem gtr_nn {X : Option Nat} {x : Nat} (h : Is32 X x) (hc : fcmp .gtr .f32 X (some 0) = true) : X = some x ∧ NN x ∧ 0 < rg x := by
  cases X with
  | none => exact absurd hc (by decide)
  | some b =>
    obtain rfl := h.eq
    have hc' : (FloatKind.f32.format.order x 0 == some .gt) = true := hc
    have hn : NN x := Classical.byContradiction fun hn => by
      rcases not_nn h.2 hn with h1 | h1 <;> rw [h1] at hc' <;> exact absurd hc' (by decide)
    rw [nn_gt hn nn_zero, decide_eq_true_eq] at hc'
    exact ⟨rfl, hn, hc'⟩
theorem fin_some {x : Nat} (h : fin32o (some x) = true) : x % 2147483648 < 2139095040 := of_decide_eq_true h
theorem fin_of_fn {x : Nat} (h : FN x) : fin32o (some x) = true := decide_eq_true h.rlt
theorem amt_fn {X : Option Nat} {x : Nat} (h : Is32 X x) (ha : amtO X = true) : X = some x ∧ FN x := by
  obtain ⟨h1, h2⟩ := Bool.and_eq_true_iff.1 ha
  obtain ⟨rfl, hn⟩ := geq_nn h h1
  exact ⟨rfl, hn.fn (fin_some h2)⟩
theorem pos_fn {X : Option Nat} {x : Nat} (h : Is32 X x) (ha : posO X = true) : X = some x ∧ FN x ∧ 0 < rg x := by
  obtain ⟨h1, h2⟩ := Bool.and_eq_true_iff.1 ha
  obtain ⟨rfl, hn, hp⟩ := gtr_nn h h1
  exact ⟨rfl, hn.fn (fin_some h2), hp⟩
theorem cmp_lt {x y : Nat} (hx : NN x) (hy : NN y) : fcmp .lss .f32 (some x) (some y) = decide (rg x < rg y) := nn_lt hx hy
theorem cmp_gt {x y : Nat} (hx : NN x) (hy : NN y) : fcmp .gtr .f32 (some x) (some y) = decide (rg y < rg x) := nn_gt hx hy
theorem cmp_le {x y : Nat} (hx : NN x) (hy : NN y) : fcmp .leq .f32 (some x) (some y) = decide (rg x ≤ rg y) := by
  show (FloatKind.f32.format.order x y == some .lt || FloatKind.f32.format.order x y == some .eq) = _
  rw [nn_lt hx hy, nn_eq hx hy, Bool.eq_iff_iff]
  simp only [Bool.or_eq_true, decide_eq_true_eq]
  omega
theorem cmp_ge {x y : Nat} (hx : NN x) (hy : NN y) : fcmp .geq .f32 (some x) (some y) = decide (rg y ≤ rg x) := by
  show (FloatKind.f32.format.order x y == some .gt || FloatKind.f32.format.order x y == some .eq) = _
  rw [nn_gt hx hy, nn_eq hx hy, Bool.eq_iff_iff]
  simp only [Bool.or_eq_true, decide_eq_true_eq]
  omega
theorem rg_one : rg 1065353216 = 1065353216 := by decide

theorem ge_one_gt {U : Option Nat} (h : ∃ u, Is32 U u) (hg : fcmp .geq .f32 U (some 1065353216) = true) : fcmp .gtr .f32 U (some 0) = true := by
  obtain ⟨u, hu⟩ := h
  cases U with
  | none => exact absurd hg (by decide)
  | some b =>
    obtain rfl := hu.eq
    have hn : NN u := Classical.byContradiction fun hn => by
      have hd : FloatKind.f32.format.order u 1065353216 = (FloatKind.f32.decode u).order (FloatKind.f32.decode 1065353216) := rfl
      have h1 : FloatKind.f32.decode 1065353216 = .number false 8388608 (-23) := by decide +kernel
      have hg' : (FloatKind.f32.format.order u 1065353216 == some .gt || FloatKind.f32.format.order u 1065353216 == some .eq) = true := hg
      rw [hd, h1] at hg'
      unfold NN at hn
      have hlt := hu.2
      by_cases hf : u % 2147483648 < 2139095040
      · obtain ⟨m, k, h2, _⟩ := fin_read u hf
        have hs : (u / 2147483648 % 2 == 1) = true := by rw [beq_iff_eq]; omega
        rw [h2, hs] at hg'
        simp only [Ieee.Datum.order, Ieee.signed, if_true, Bool.false_eq_true, if_false, Nat.shiftLeft_eq] at hg'
        have hp := Nat.mul_pos (show 0 < 8388608 by decide) (Nat.two_pow_pos (-23 - min (-149 + (k : Int)) (-23)).toNat)
        have hl : compare (-((m * 2 ^ (-149 + (k : Int) - min (-149 + (k : Int)) (-23)).toNat : Nat) : Int)) ((8388608 * 2 ^ (-23 - min (-149 + (k : Int)) (-23)).toNat : Nat) : Int) = .lt := by
          show compareOfLessAndEq _ _ = _
          unfold compareOfLessAndEq
          rw [if_pos (by omega)]
        rw [hl] at hg'
        exact absurd hg' (by decide)
      · rw [read_single, if_neg (by omega), if_neg hf] at hg'
        by_cases hi : u % 2147483648 = 2139095040
        · rw [if_pos hi] at hg'
          have hs : (u / 2147483648 % 2 == 1) = true := by rw [beq_iff_eq]; omega
          rw [hs] at hg'
          exact absurd hg' (by decide)
        · rw [if_neg hi] at hg'
          exact absurd hg' (by simp [Ieee.Datum.order])
    rw [cmp_ge hn nn_onef.nn, decide_eq_true_eq, rg_one] at hg
    rw [cmp_gt hn nn_zero, decide_eq_true_eq]
    show 0 < rg u
    omega

/-- What a storm has brought is at most its Size, and so finite. -/
theorem fallU_fin {A2 A3 U : Option Nat} {a2 a3 : Nat} (h2 : Is32 A2 a2) (h3 : Is32 A3 a3) (hU : ∃ u, Is32 U u) (ha : amtO A2 = true) (h30 : fcmp .gtr .f32 A3 (some 0) = true) (h31 : fcmp .lss .f32 A3 (some 1065353216) = true) : fin32o (fallU A2 A3 U) = true := by
  obtain ⟨u, hu⟩ := hU
  obtain ⟨rfl, f2⟩ := amt_fn h2 ha
  obtain ⟨rfl, n3, p3⟩ := gtr_nn h3 h30
  rw [cmp_lt n3 nn_onef.nn, decide_eq_true_eq, rg_one] at h31
  have f3 : FN a3 := n3.fn (by omega)
  unfold fallU
  split
  · rfl
  rename_i hg
  split
  · exact fin_of_fn f2
  rename_i hg1
  have hg' : fcmp .gtr .f32 U (some 0) = true := by simpa using hg
  obtain ⟨rfl, nu, pu⟩ := gtr_nn hu hg'
  rw [cmp_ge nu nn_onef.nn, decide_eq_true_eq, rg_one] at hg1
  have fu : FN u := nu.fn (by omega)
  split
  · rename_i hle
    rw [cmp_le nu n3, decide_eq_true_eq] at hle
    obtain ⟨z1, e1, n1, _, l1, _⟩ := mul_fn fu fu
    have hz1 := l1 (by omega)
    have f1 : FN z1 := n1.fn (by have := fu.rlt; omega)
    obtain ⟨z4, e4, n4, l4⟩ := quo_fn f1 f3 p3
    have hz4 := l4 (by omega)
    have f4 : FN z4 := n4.fn (by omega)
    obtain ⟨z5, e5, n5, _, l5, _⟩ := mul_fn f2 f4
    have hz5 := l5 hz4
    show fin32o (fop .mul .f32 (some a2) (fop .quo .f32 (floatBits .mul .f32 u u) (some a3))) = true
    rw [e1]
    show fin32o (fop .mul .f32 (some a2) (floatBits .quo .f32 z1 a3)) = true
    rw [e4]
    show fin32o (floatBits .mul .f32 a2 z4) = true
    rw [e5]
    exact fin_of_fn (n5.fn (by have := f2.rlt; omega))
  · rename_i hle
    rw [cmp_le nu n3, decide_eq_true_eq] at hle
    obtain ⟨v, ev, fv, lv, qv⟩ := sub_fn nn_onef fu (by rw [rg_one]; omega)
    obtain ⟨y, ey, fy, ly, qy⟩ := sub_fn nn_onef f3 (by rw [rg_one]; omega)
    rw [rg_one] at lv ly
    have hvy : rg v ≤ rg y := by
      rw [qv, qy]
      exact Q_mono _ _ 0 (Nat.sub_le_sub_left (mag_mono (by omega) fu.rlt) _)
    have py : 0 < rg y := by
      rw [qy]
      refine Q_pos ?_
      have := mag_strict (r := rg a3) (r' := rg 1065353216) (by rw [rg_one]; omega) (by decide)
      omega
    obtain ⟨z1, e1, n1, _, l1, _⟩ := mul_fn fv fv
    have hz1 := l1 lv
    have f1 : FN z1 := n1.fn (by omega)
    obtain ⟨z4, e4, n4, l4⟩ := quo_fn f1 fy py
    have hz4 := l4 (by omega)
    have f4 : FN z4 := n4.fn (by omega)
    obtain ⟨z6, e6, f6, l6, _⟩ := sub_fn nn_onef f4 (by rw [rg_one]; exact hz4)
    rw [rg_one] at l6
    obtain ⟨z5, e5, n5, _, l5, _⟩ := mul_fn f2 f6
    have hz5 := l5 l6
    show fin32o (fop .mul .f32 (some a2) (fop .sub .f32 (some 1065353216) (fop .quo .f32 (fop .mul .f32 (floatBits .sub .f32 1065353216 u) (floatBits .sub .f32 1065353216 u)) (floatBits .sub .f32 1065353216 a3)))) = true
    rw [ev, ey]
    show fin32o (fop .mul .f32 (some a2) (fop .sub .f32 (some 1065353216) (fop .quo .f32 (floatBits .mul .f32 v v) (some y)))) = true
    rw [e1]
    show fin32o (fop .mul .f32 (some a2) (fop .sub .f32 (some 1065353216) (floatBits .quo .f32 z1 y))) = true
    rw [e4]
    show fin32o (fop .mul .f32 (some a2) (floatBits .sub .f32 1065353216 z4)) = true
    rw [e6]
    show fin32o (floatBits .mul .f32 a2 z6) = true
    rw [e5]
    exact fin_of_fn (n5.fn (by have := f2.rlt; omega))
end Go.Proofs.Ytdmcjloaommnpaa
