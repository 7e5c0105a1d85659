/- A tick of a soil: what comes of it is valid and finite: plain facts on numbers. -/
import Derived.Test.YtdoecpghlfjhiacMinO
import Derived.Test.YtdoecpghlfjhiacRainB
import Derived.Test.YtdoecpghlfjhiacRainM
namespace Go.Proofs.Ytdoecpghlfjhiac

structure SoilR where
  s0 : Option Nat
  s1 : Option Nat
  s2 : Option Nat
  s3 : Option Nat
  s4 : Option Nat
  off : Option Nat
  goes : Option Nat
  ok : Bool
def failSoil : SoilR := ⟨some 0, some 0, some 0, some 0, some 0, some 0, some 0, false⟩
def takenO (A0 A1 A2 A4 X T : Option Nat) : Option Nat := minO (minO X (fop .mul .f32 (canO A0 A1 A4) T)) (fop .sub .f32 A2 A4)
def wetO (A2 A4 K : Option Nat) : Option Nat := capO (fop .add .f32 A4 K) A2
def goneO (A3 W T : Option Nat) : Option Nat := capO (fop .mul .f32 (fop .mul .f32 W A3) T) W
/-- What comes of a tick that is made. -/
def tickO (A0 A1 A2 A3 A4 X T : Option Nat) : SoilR :=
  ⟨A0, A1, A2, A3, fop .sub .f32 (wetO A2 A4 (takenO A0 A1 A2 A4 X T)) (goneO A3 (wetO A2 A4 (takenO A0 A1 A2 A4 X T)) T), fop .sub .f32 X (takenO A0 A1 A2 A4 X T), goneO A3 (wetO A2 A4 (takenO A0 A1 A2 A4 X T)) T, true⟩
def stepO (A0 A1 A2 A3 A4 X T : Option Nat) : SoilR :=
  if soilO A0 A1 A2 A3 A4 && fin32o (canO A0 A1 A4) && amtO X && posO T then tickO A0 A1 A2 A3 A4 X T else failSoil

theorem order_swap (x y : Nat) : (FloatKind.f32.format.order x y == some .gt) = (FloatKind.f32.format.order y x == some .lt) := by
  have hd : ∀ x y, FloatKind.f32.format.order x y = (FloatKind.f32.decode x).order (FloatKind.f32.decode y) := fun _ _ => rfl
  rw [hd, hd]
  have hc : ∀ a b : Int, (some (compare a b) == some Ordering.gt) = (some (compare b a) == some Ordering.lt) := by
    intro a b
    show (some (compareOfLessAndEq a b) == _) = (some (compareOfLessAndEq b a) == _)
    unfold compareOfLessAndEq
    rcases Int.lt_trichotomy a b with h | h | h
    · rw [if_pos h, if_neg (by omega), if_neg (by omega)]; rfl
    · subst h; simp
    · rw [if_neg (by omega), if_neg (by omega), if_pos h]; rfl
  have hn : ∀ a b : Nat, (some (compare a b) == some Ordering.gt) = (some (compare b a) == some Ordering.lt) := by
    intro a b
    show (some (compareOfLessAndEq a b) == _) = (some (compareOfLessAndEq b a) == _)
    unfold compareOfLessAndEq
    rcases Nat.lt_trichotomy a b with h | h | h
    · rw [if_pos h, if_neg (by omega), if_neg (by omega)]; rfl
    · subst h; simp
    · rw [if_neg (by omega), if_neg (by omega), if_pos h]; rfl
  cases FloatKind.f32.decode x with
  | nan s f => cases FloatKind.f32.decode y <;> rfl
  | infinity s =>
    cases FloatKind.f32.decode y with
    | nan t f => rfl
    | infinity t => simp only [Ieee.Datum.order]; exact hn _ _
    | number t m e => cases s <;> rfl
  | number s m e =>
    cases FloatKind.f32.decode y with
    | nan t f => rfl
    | infinity t => cases t <;> rfl
    | number t n j =>
      simp only [Ieee.Datum.order]
      rw [hc, Int.min_comm]
theorem gtr_lss (X Y : Option Nat) : fcmp .gtr .f32 X Y = fcmp .lss .f32 Y X := by
  cases X with
  | none => cases Y <;> rfl
  | some x =>
    cases Y with
    | none => rfl
    | some y => exact order_swap x y
theorem capO_min (X L : Option Nat) : capO X L = minO X L := by unfold capO minO; rw [gtr_lss]

/-- With an infinity, too. -/
theorem add_nn {x y : Nat} (hx : FN x) (hy : NN y) : ∃ z, floatBits .add .f32 x y = some z ∧ NN z ∧ rg x ≤ rg z := by
  by_cases h : rg y < 2139095040
  · obtain ⟨z, h1, h2, _, h3, _⟩ := add_fn hx (hy.fn h); exact ⟨z, h1, h2, h3⟩
  · have e : y = 2139095040 := by unfold NN at hy; unfold rg at h; omega
    subst e
    obtain ⟨s, m, k, g1, _⟩ := fn_read hx
    have hd : floatBits .add .f32 x 2139095040 = ((FloatKind.f32.decode x).sum (FloatKind.f32.decode 2139095040)).map Ieee.single.write := rfl
    rw [hd, g1, decode_inf]
    refine ⟨2139095040, rfl, .inl (Nat.le_refl _), ?_⟩
    have := hx.rlt
    show rg x ≤ 2139095040
    omega
theorem quo_nn {x y : Nat} (hx : FN x) (hy : NN y) (h0 : 0 < rg y) : ∃ z, floatBits .quo .f32 x y = some z ∧ NN z := by
  by_cases h : rg y < 2139095040
  · obtain ⟨z, h1, h2, _⟩ := quo_fn hx (hy.fn h) h0; exact ⟨z, h1, h2⟩
  · have e : y = 2139095040 := by unfold NN at hy; unfold rg at h; omega
    subst e
    obtain ⟨s, m, k, g1, _⟩ := fn_read hx
    have hd : floatBits .quo .f32 x 2139095040 = ((FloatKind.f32.decode x).quotient 25 (FloatKind.f32.decode 2139095040)).map Ieee.single.write := rfl
    rw [hd, g1, decode_inf]
    simp only [Ieee.Datum.quotient, Option.map_some, Bool.xor_false, Ieee.Format.write]
    refine ⟨_, rfl, ?_⟩
    cases s
    · exact .inl (by decide +kernel)
    · exact .inr (by decide +kernel)
theorem mul_nn {x y : Nat} (hx : FN x) (hy : NN y) : floatBits .mul .f32 x y = none ∨ ∃ z, floatBits .mul .f32 x y = some z ∧ NN z := by
  by_cases h : rg y < 2139095040
  · obtain ⟨z, h1, h2, _⟩ := mul_fn hx (hy.fn h); exact .inr ⟨z, h1, h2⟩
  · have e : y = 2139095040 := by unfold NN at hy; unfold rg at h; omega
    subst e
    obtain ⟨s, m, k, g1, _, g3, _⟩ := fn_read hx
    have hd : floatBits .mul .f32 x 2139095040 = ((FloatKind.f32.decode x).product (FloatKind.f32.decode 2139095040)).map Ieee.single.write := rfl
    rw [hd, g1, decode_inf]
    simp only [Ieee.Datum.product]
    split
    · exact .inl rfl
    · rename_i hm
      right
      have hs : s = false := by
        cases s
        · rfl
        · exact absurd (g3 rfl) hm
      subst hs
      exact ⟨2139095040, rfl, .inl (Nat.le_refl _)⟩
/-- A product with a number that is greater than 0, the first one infinite or not. -/
theorem mul_pos_nn {x y : Nat} (hx : NN x) (hy : FN y) (h0 : 0 < rg y) : ∃ z, floatBits .mul .f32 x y = some z ∧ NN z := by
  by_cases h : rg x < 2139095040
  · obtain ⟨z, h1, h2, _⟩ := mul_fn (hx.fn h) hy; exact ⟨z, h1, h2⟩
  · have e : x = 2139095040 := by unfold NN at hx; unfold rg at h; omega
    subst e
    obtain ⟨s, m, k, g1, g2, g3, _⟩ := fn_read hy
    have hm : m ≠ 0 := by
      intro hm
      have := mag_pos h0 hy.rlt
      rw [g2, hm, Nat.zero_mul] at this
      omega
    have hs : s = false := by
      cases s
      · rfl
      · exact absurd (g3 rfl) hm
    subst hs
    have hd : floatBits .mul .f32 2139095040 y = ((FloatKind.f32.decode 2139095040).product (FloatKind.f32.decode y)).map Ieee.single.write := rfl
    rw [hd, g1, decode_inf]
    simp only [Ieee.Datum.product]
    rw [if_neg hm]
    exact ⟨2139095040, rfl, .inl (Nat.le_refl _)⟩

theorem minO_fn {x : Nat} {Y : Option Nat} (hx : FN x) (hY : ∀ y, Y = some y → NN y) : ∃ z, minO (some x) Y = some z ∧ FN z ∧ rg z ≤ rg x ∧ (∀ y, Y = some y → rg z ≤ rg y) := by
  unfold minO
  cases Y with
  | none => exact ⟨x, rfl, hx, Nat.le_refl _, fun y h => by cases h⟩
  | some y =>
    have hy := hY y rfl
    rw [cmp_lt hy hx.nn]
    by_cases h : rg y < rg x
    · rw [decide_eq_true h, if_pos rfl]
      exact ⟨y, rfl, hy.fn (by have := hx.rlt; omega), by omega, fun y' h' => by cases h'; omega⟩
    · rw [decide_eq_false h, if_neg (by decide)]
      exact ⟨x, rfl, hx, Nat.le_refl _, fun y' h' => by cases h'; omega⟩
theorem capO_fn {x l : Nat} (hx : NN x) (hl : FN l) : ∃ z, capO (some x) (some l) = some z ∧ FN z ∧ rg z ≤ rg l := by
  unfold capO
  rw [cmp_gt hx hl.nn]
  by_cases h : rg l < rg x
  · rw [decide_eq_true h, if_pos rfl]; exact ⟨l, rfl, hl, Nat.le_refl _⟩
  · rw [decide_eq_false h, if_neg (by decide)]; exact ⟨x, rfl, hx.fn (by have := hl.rlt; omega), by omega⟩

/-- What comes of a tick is valid, and what it tells is finite. -/
theorem tick_fin {A0 A1 A2 A3 A4 X T : Option Nat} {a0 a1 a2 a3 a4 x t : Nat} (h0 : Is32 A0 a0) (h1 : Is32 A1 a1) (h2 : Is32 A2 a2) (h3 : Is32 A3 a3) (h4 : Is32 A4 a4) (hx : Is32 X x) (ht : Is32 T t)
    (hs : soilO A0 A1 A2 A3 A4 = true) (hc : fin32o (canO A0 A1 A4) = true) (hX : amtO X = true) (hT : posO T = true) :
    soilO A0 A1 A2 A3 (tickO A0 A1 A2 A3 A4 X T).s4 = true ∧ fin32o (tickO A0 A1 A2 A3 A4 X T).off = true ∧ fin32o (tickO A0 A1 A2 A3 A4 X T).goes = true := by
  simp only [soilO, Bool.and_eq_true] at hs
  obtain ⟨⟨⟨⟨⟨b0, b1⟩, b2⟩, b3⟩, b4⟩, b5⟩ := hs
  obtain ⟨rfl, f0⟩ := amt_fn h0 b0
  obtain ⟨rfl, f1⟩ := amt_fn h1 b1
  obtain ⟨rfl, f2⟩ := amt_fn h2 b2
  obtain ⟨rfl, f3⟩ := amt_fn h3 b3
  obtain ⟨rfl, n4⟩ := geq_nn h4 b4
  rw [cmp_le n4 f2.nn, decide_eq_true_eq] at b5
  have f4 : FN a4 := n4.fn (by have := f2.rlt; omega)
  obtain ⟨rfl, fx⟩ := amt_fn hx hX
  obtain ⟨rfl, ft, pt⟩ := pos_fn ht hT
  -- how fast it can take
  obtain ⟨c, ec, fc⟩ : ∃ c, canO (some a0) (some a1) (some a4) = some c ∧ FN c := by
    obtain ⟨s, es, ns, _, ls, _⟩ := add_fn nn_onef f4
    obtain ⟨q, eq, nq⟩ := quo_nn f1 ns (by rw [rg_one] at ls; omega)
    obtain ⟨e, ee, ne, _⟩ := add_nn nn_onef nq
    have e1 : canO (some a0) (some a1) (some a4) = floatBits .mul .f32 a0 e := by
      show fop .mul .f32 (some a0) (fop .add .f32 (some 1065353216) (fop .quo .f32 (some a1) (floatBits .add .f32 1065353216 a4))) = _
      rw [es]
      show fop .mul .f32 (some a0) (fop .add .f32 (some 1065353216) (floatBits .quo .f32 a1 s)) = _
      rw [eq]
      show fop .mul .f32 (some a0) (floatBits .add .f32 1065353216 q) = _
      rw [ee]; rfl
    rw [e1] at hc ⊢
    rcases mul_nn f0 ne with h | ⟨z, hz, nz⟩
    · rw [h] at hc; exact absurd hc (by decide)
    · rw [hz] at hc
      exact ⟨z, hz, nz.fn (fin_some hc)⟩
  obtain ⟨m1, em1, nm1, _⟩ := mul_fn fc ft
  obtain ⟨k1, ek1, fk1, lk1, _⟩ := minO_fn (Y := some m1) fx (fun y h => by cases h; exact nm1)
  obtain ⟨d, ed, fd, ld, _⟩ := sub_fn f2 f4 b5
  obtain ⟨k, ek, fk, lk, _⟩ := minO_fn (Y := some d) fk1 (fun y h => by cases h; exact fd.nn)
  have eK : takenO (some a0) (some a1) (some a2) (some a4) (some x) (some t) = some k := by
    unfold takenO
    rw [ec]
    show minO (minO (some x) (floatBits .mul .f32 c t)) (floatBits .sub .f32 a2 a4) = _
    rw [em1, ed, ek1, ek]
  obtain ⟨w1, ew1, nw1, _⟩ := add_fn f4 fk
  obtain ⟨w2, ew2, fw2, lw2⟩ := capO_fn nw1 f2
  have eW : wetO (some a2) (some a4) (some k) = some w2 := by
    unfold wetO
    show capO (floatBits .add .f32 a4 k) (some a2) = _
    rw [ew1, ew2]
  obtain ⟨m2, em2, nm2, _⟩ := mul_fn fw2 f3
  obtain ⟨m3, em3, nm3⟩ := mul_pos_nn nm2 ft pt
  obtain ⟨g, eg, fg, lg⟩ := capO_fn nm3 fw2
  have eG : goneO (some a3) (some w2) (some t) = some g := by
    unfold goneO
    show capO (fop .mul .f32 (floatBits .mul .f32 w2 a3) (some t)) (some w2) = _
    rw [em2]
    show capO (floatBits .mul .f32 m2 t) (some w2) = _
    rw [em3, eg]
  obtain ⟨w3, ew3, fw3, lw3, _⟩ := sub_fn fw2 fg lg
  obtain ⟨o, eo, fo, _⟩ := sub_fn fx fk (by omega)
  unfold tickO
  rw [eK, eW, eG]
  refine ⟨?_, ?_, ?_⟩
  · show soilO (some a0) (some a1) (some a2) (some a3) (floatBits .sub .f32 w2 g) = true
    rw [ew3]
    simp only [soilO, Bool.and_eq_true]
    refine ⟨⟨⟨⟨⟨b0, b1⟩, b2⟩, b3⟩, ?_⟩, ?_⟩
    · rw [cmp_ge fw3.nn nn_zero, decide_eq_true_eq]; exact Nat.zero_le _
    · rw [cmp_le fw3.nn f2.nn, decide_eq_true_eq]; omega
  · show fin32o (floatBits .sub .f32 x k) = true
    rw [eo]; exact fin_of_fn fo
  · exact fin_of_fn fg
end Go.Proofs.Ytdoecpghlfjhiac
