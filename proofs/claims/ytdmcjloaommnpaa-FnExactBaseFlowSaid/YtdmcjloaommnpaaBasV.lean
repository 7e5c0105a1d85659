/- Base flows: values, and that nothing in them is no number. -/
import Derived.Test.YtdmcjloaommnpaaGauL
import Derived.Test.YtdmcjloaommnpaaMono
import Derived.Test.YtdmcjloaommnpaaMaxO
import Derived.Test.YtdmcjloaommnpaaSwap
import Derived.Test.YtdmcjloaommnpaaRainM
import Derived.Test.YtdmcjloaommnpaaOnlyV
namespace Go.Proofs.Ytdmcjloaommnpaa
open Go.RowKit
set_option linter.unusedVariables false
set_option linter.unusedSimpArgs false
set_option maxRecDepth 100000
attribute [local irreducible] wpV wpList Code.wp

theorem sub_mag {x y : Nat} (hx : FN x) (hy : FN y) : ∃ z, floatBits .sub .f32 x y = some z ∧ rg z ≤ max (rg x) (rg y) ∧ z < 4294967296 := by
  obtain ⟨s, m, k, h1, h2, h3, _⟩ := fn_read hx
  obtain ⟨t, n, l, g1, g2, g3, _⟩ := fn_read hy
  have hd : floatBits .sub .f32 x y = ((FloatKind.f32.decode x).sum (FloatKind.f32.decode y).opposite).map Ieee.single.write := rfl
  rw [hd, h1, g1]
  simp only [Ieee.Datum.opposite, Ieee.Datum.sum, Option.map_some, Ieee.Format.write]
  obtain ⟨c, hc⟩ : ∃ c, min k l = c := ⟨_, rfl⟩
  have e0 : min (-149 + (k : Int)) (-149 + (l : Int)) = -149 + c - (0 : Nat) := by omega
  have e1 : (-149 + (k : Int) - (-149 + c - (0 : Nat))).toNat = k - c := by omega
  have e2 : (-149 + (l : Int) - (-149 + c - (0 : Nat))).toNat = l - c := by omega
  rw [e0, e1, e2, nearest_gen _ _ _ c 0 rfl]
  refine ⟨_, rfl, ?_, (word_rg _ _ (Q_le _ _)).2.2⟩
  rw [(word_rg _ _ (Q_le _ _)).1]
  have hM := signed_nn s m (k - c) h3
  have hN : Ieee.signed (!t) n (l - c) = -((n * 2 ^ (l - c) : Nat) : Int) := by
    cases t
    · exact signed_neg n (l - c)
    · rw [g3 rfl, Nat.zero_mul]; unfold Ieee.signed; simp
  rw [hM, hN]
  have hb : (((m * 2 ^ (k - c) : Nat) : Int) + -((n * 2 ^ (l - c) : Nat) : Int)).natAbs ≤ max (m * 2 ^ (k - c)) (n * 2 ^ (l - c)) := by omega
  have h9 := Nat.mul_le_mul_right (2 ^ c) hb
  have p1 : m * 2 ^ (k - c) * 2 ^ c = mag (rg x) := by rw [Nat.mul_assoc, ← Nat.pow_add, show k - c + c = k by omega, h2]
  have p2 : n * 2 ^ (l - c) * 2 ^ c = mag (rg y) := by rw [Nat.mul_assoc, ← Nat.pow_add, show l - c + c = l by omega, g2]
  refine Nat.le_trans (Q_mono _ _ 0 h9) ?_
  rcases Nat.le_total (m * 2 ^ (k - c)) (n * 2 ^ (l - c)) with h | h
  · rw [Nat.max_eq_right h, p2, Q_mag _ hy.rlt]; exact Nat.le_max_right _ _
  · rw [Nat.max_eq_left h, p1, Q_mag _ hx.rlt]; exact Nat.le_max_left _ _
theorem prod_le {p d : Nat} (hp : FN p) (hp1 : rg p ≤ 1065353216) (hd : rg d < 2139095040) : ∃ z, floatBits .mul .f32 p d = some z ∧ rg z ≤ rg d ∧ z < 4294967296 := by
  refine ⟨_, mul_sg hp.rlt hd, ?_, (word_rg _ _ (Q_le _ _)).2.2⟩
  rw [(word_rg _ _ (Q_le _ _)).1]
  have h1 : mag (rg p) ≤ 2 ^ 149 := by rw [← mag_one]; exact mag_mono hp1 (by decide)
  have h2 : mag (rg p) * mag (rg d) ≤ mag (rg d) * 2 ^ 149 := by rw [Nat.mul_comm]; exact Nat.mul_le_mul_left _ h1
  have h3 := Q_mono _ _ 149 h2
  have h4 := Q_scale (mag (rg d)) 0 149
  rw [Nat.zero_add] at h4
  rw [h4, Q_mag _ hd] at h3
  exact h3
theorem not_fn_inf {q : Nat} (hq : NN q) (h : ¬ FN q) : q = 2139095040 := by unfold NN at hq; unfold FN at h; omega
theorem prod_nn {p q : Nat} (hp : FN p) (hp1 : rg p ≤ 1065353216) (hq : NN q) (h0 : rg p = 0 → FN q) : ∃ z, floatBits .mul .f32 p q = some z ∧ NN z ∧ (FN q → FN z) ∧ (rg p = 0 → rg z = 0) := by
  by_cases hf : FN q
  · obtain ⟨z, h1, h2, h3, h4, h5⟩ := mul_fn hp hf
    refine ⟨z, h1, h2, fun _ => h2.fn (Nat.lt_of_le_of_lt (h5 hp1) hf.rlt), fun h => ?_⟩
    rw [h3, h, mag_zero, Nat.zero_mul]; exact Q_zero _
  · obtain rfl := not_fn_inf hq hf
    have hpp : 0 < rg p := Nat.pos_of_ne_zero fun h => hf (h0 h)
    obtain ⟨s, m, k, h1, h2, h3, _⟩ := fn_read hp
    have hm : m ≠ 0 := fun h => by
      have := mag_pos hpp hp.rlt
      rw [h2, h, Nat.zero_mul] at this; omega
    have hs : s = false := by cases s; rfl; exact absurd (h3 rfl) hm
    have hd : floatBits .mul .f32 p 2139095040 = ((FloatKind.f32.decode p).product (FloatKind.f32.decode 2139095040)).map Ieee.single.write := rfl
    refine ⟨2139095040, ?_, .inl (Nat.le_refl _), fun h => absurd h hf, fun h => by omega⟩
    rw [hd, h1, decode_inf, hs]
    simp only [Ieee.Datum.product]
    rw [if_neg hm]
    decide +kernel
theorem sum_nn {a b : Nat} (ha : NN a) (hb : rg b < 2139095040) : ∃ z, floatBits .add .f32 a b = some z ∧ z < 4294967296 ∧ rg z ≤ 2139095040 ∧ (rg a = 0 → rg z < 2139095040) := by
  by_cases hf : FN a
  · obtain ⟨z, h1, h2⟩ := add_mag hf.rlt hb
    refine ⟨z, h1, fl32_lt (by decide) (h1 ▸ Rp.refl .f32 z : Rp .f32 (floatBits .add .f32 a b) z), Nat.le_trans h2 (Q_le _ _), fun h => ?_⟩
    rw [h, mag_zero, Nat.zero_add, Q_mag _ hb] at h2
    exact Nat.lt_of_le_of_lt h2 hb
  · obtain rfl := not_fn_inf ha hf
    obtain ⟨m, k, h1, _⟩ := fin_read b hb
    have hd : floatBits .add .f32 2139095040 b = ((FloatKind.f32.decode 2139095040).sum (FloatKind.f32.decode b)).map Ieee.single.write := rfl
    refine ⟨2139095040, ?_, by decide, by decide, fun h => absurd h (by decide)⟩
    rw [hd, h1, decode_inf]
    simp only [Ieee.Datum.sum]
    decide +kernel
def posq (X : Option Nat) : Option Nat := if fcmp .gtr .f32 X (some 0) then X else some 0
theorem self_num {z : Nat} (h : rg z ≤ 2139095040) : FloatKind.f32.format.order z z ≠ none := by
  rw [order_self_32, if_neg (by unfold rg at h; omega)]; simp
theorem order_num {x y : Nat} (hx : rg x ≤ 2139095040) (hy : rg y ≤ 2139095040) : FloatKind.f32.format.order x y ≠ none := by
  have h1 : FloatKind.f32.format.order x x = (FloatKind.f32.decode x).order (FloatKind.f32.decode x) := rfl
  have h2 : FloatKind.f32.format.order y y = (FloatKind.f32.decode y).order (FloatKind.f32.decode y) := rfl
  have h3 : FloatKind.f32.format.order x y = (FloatKind.f32.decode x).order (FloatKind.f32.decode y) := rfl
  have a1 := self_num hx; have a2 := self_num hy
  rw [h1] at a1; rw [h2] at a2; rw [h3]
  revert a1 a2
  generalize FloatKind.f32.decode x = a
  generalize FloatKind.f32.decode y = b
  intro a1 a2
  cases a <;> cases b <;> simp_all [Ieee.Datum.order]
theorem max_posq {z : Nat} (h : rg z ≤ 2139095040) : maxO (some 0) (some z) = posq (some z) := by
  have hn := order_num (x := 0) (by decide) h
  have hs := order_swap z 0
  unfold posq
  have hg : fcmp .gtr .f32 (some z) (some 0) = (FloatKind.f32.format.order z 0 == some .gt) := rfl
  rw [hg, hs]
  have hf : ford .f32 (some 0) (some z) = FloatKind.f32.format.order 0 z := rfl
  unfold maxO
  rw [hf]
  cases ho : FloatKind.f32.format.order 0 z with
  | none => exact absurd ho hn
  | some o => cases o <;> simp <;> (intro h9; exact absurd h9 (by decide +kernel))
theorem posq_nn {z : Nat} (hz : z < 4294967296) : ∃ x, posq (some z) = some x ∧ NN x ∧ (rg z < 2139095040 → FN x) := by
  unfold posq
  split
  · rename_i h
    have hg : (FloatKind.f32.format.order z 0 == some .gt) = true := h
    have hn : NN z := by
      by_cases hn : NN z
      · exact hn
      · rcases not_nn hz hn with h2 | h2 <;> rw [h2] at hg <;> exact absurd hg (by decide)
    exact ⟨z, rfl, hn, fun h => hn.fn h⟩
  · exact ⟨0, rfl, nn_zero, fun _ => .inl (by decide)⟩
def clampO (X : Option Nat) : Option Nat := if fcmp .lss .f32 X (some 0) then some 0 else X
theorem clamp_fin {z q : Nat} (hz : FN z) (hq : NN q) : fin32o (clampO (fop .sub .f32 (some z) (some q))) = true := by
  by_cases hf : FN q
  · obtain ⟨d, h1, h2, h3⟩ := sub_mag hz hf
    have e : fop .sub .f32 (some z) (some q) = some d := h1
    rw [e]
    unfold clampO
    split
    · decide +kernel
    · exact decide_eq_true (by have := hz.rlt; have := hf.rlt; unfold rg at *; omega)
  · obtain rfl := not_fn_inf hq hf
    obtain ⟨s, m, k, h1, _⟩ := fn_read hz
    have hd : floatBits .sub .f32 z 2139095040 = ((FloatKind.f32.decode z).sum (FloatKind.f32.decode 2139095040).opposite).map Ieee.single.write := rfl
    have e : fop .sub .f32 (some z) (some 2139095040) = some 4286578688 := by
      show floatBits .sub .f32 z 2139095040 = _
      rw [hd, h1, decode_inf]
      simp only [Ieee.Datum.opposite, Ieee.Datum.sum]
      decide +kernel
    rw [e]; decide +kernel
def baP (K : Option Nat) : Option Nat := fop .mul .f32 (some 1056964608) (fop .add .f32 (some 1065353216) K)
def baR (K Q : Option Nat) (zs : List Nat) (j : Nat) : Option Nat := fop .add .f32 (fop .mul .f32 K Q) (fop .mul .f32 (baP K) (fop .sub .f32 (some (zs.getD (j + 1) 0)) (some (zs.getD j 0))))
def baQ (K : Option Nat) (zs : List Nat) : Nat → Option Nat
  | 0 => some 0
  | j + 1 => posq (baR K (baQ K zs j) zs j)
def baX (K : Option Nat) (zs : List Nat) : Nat → Option Nat
  | 0 => some (zs.getD 0 0)
  | j + 1 => clampO (fop .sub .f32 (some (zs.getD (j + 1) 0)) (baQ K zs (j + 1)))
def baL (K : Option Nat) (zs : List Nat) (n : Nat) : List (Option Nat) := (List.range n).map (baX K zs)
theorem baL_succ (K : Option Nat) (zs : List Nat) (n : Nat) : baL K zs (n + 1) = baL K zs n ++ [baX K zs n] := by unfold baL; rw [List.range_succ, List.map_append]; rfl
theorem baL_len (K : Option Nat) (zs : List Nat) (n : Nat) : (baL K zs n).length = n := by simp [baL]
def shareB (K : Option Nat) : Bool := fcmp .geq .f32 K (some 0) && fcmp .leq .f32 K (some 1065353216)
def baseO (zs : List Nat) (K : Option Nat) : List Nat × Bool := if gauB zs && shareB K then ((baL K zs zs.length).map (fun X => X.getD 0), true) else ([], false)
theorem base_no {zs : List Nat} {K : Option Nat} (h : gauB zs = false) : baseO zs K = ([], false) := by unfold baseO; rw [h]; rfl
theorem base_out {zs : List Nat} {K : Option Nat} (h : shareB K = false) : baseO zs K = ([], false) := by unfold baseO; rw [h, Bool.and_false]; rfl
theorem base_go {zs : List Nat} {K : Option Nat} (h : gauB zs = true) (h2 : shareB K = true) : baseO zs K = ((baL K zs zs.length).map (fun X => X.getD 0), true) := by unfold baseO; rw [h, h2]; rfl
theorem gau_fn {zs : List Nat} (hz : ∀ z ∈ zs, z < 4294967296) (h : gauB zs = true) {k : Nat} (hk : k < zs.length) : FN (zs.getD k 0) :=
  (amt_fn (Is32.c (getD_lt hz k hk)) (gauB_amt h k hk)).2
theorem share_fn {K : Option Nat} {k : Nat} (hk : Is32 K k) (h : shareB K = true) : K = some k ∧ FN k ∧ rg k ≤ 1065353216 := by
  simp only [shareB, Bool.and_eq_true] at h
  obtain ⟨h1, h2⟩ := h
  obtain ⟨rfl, hn⟩ := geq_nn hk h1
  rw [cmp_le hn nn_onef.nn, decide_eq_true_eq, rg_one] at h2
  exact ⟨rfl, hn.fn (by omega), h2⟩
theorem half_fn {k : Nat} (hk : FN k) (h1 : rg k ≤ 1065353216) : ∃ p, baP (some k) = some p ∧ FN p ∧ rg p ≤ 1065353216 := by
  obtain ⟨s, hs, hsn, hsq, _, _⟩ := add_fn nn_onef hk
  have hm : mag (rg 1065353216) + mag (rg k) ≤ mag 1073741824 := by
    have a := mag_mono h1 (by decide)
    have b : mag (rg 1065353216) = mag 1065353216 := by rw [rg_one]
    have c : mag 1065353216 + mag 1065353216 = mag 1073741824 := by decide +kernel
    omega
  have hsr : rg s ≤ 1073741824 := by rw [hsq]; have := Q_mono _ _ 0 hm; rwa [Q_mag _ (by decide)] at this
  have hsf : FN s := hsn.fn (by omega)
  obtain ⟨p, hp, hpn, hpq, _, _⟩ := mul_fn (show FN 1056964608 from .inl (by decide)) hsf
  refine ⟨p, ?_, ?_⟩
  · show (fop .mul .f32 (some 1056964608) (floatBits .add .f32 1065353216 k)) = _
    rw [hs]; exact hp
  · have hpr : rg p ≤ 1065353216 := by
      rw [hpq]
      have a := mag_mono hsr (by decide)
      have b : mag (rg 1056964608) * mag (rg s) ≤ mag 1056964608 * mag 1073741824 := by
        rw [show rg 1056964608 = 1056964608 by decide]; exact Nat.mul_le_mul_left _ a
      have c := Q_mono _ _ 149 b
      have d : Q (mag 1056964608 * mag 1073741824) 149 = 1065353216 := by decide +kernel
      omega
    exact ⟨hpn.fn (by omega), hpr⟩
/-- Nothing is no number on the way. -/
theorem baR_num {K : Option Nat} {k p q : Nat} {zs : List Nat} {j : Nat} (hK : K = some k) (hk : FN k) (hk1 : rg k ≤ 1065353216) (hP : baP K = some p) (hp : FN p) (hp1 : rg p ≤ 1065353216) (hx : FN (zs.getD (j + 1) 0)) (hy : FN (zs.getD j 0)) (hq : NN q) (h0 : rg k = 0 → FN q) :
    ∃ z, baR K (some q) zs j = some z ∧ z < 4294967296 ∧ rg z ≤ 2139095040 ∧ (rg k = 0 → rg z < 2139095040) := by
  subst hK
  obtain ⟨d, d1, d2, d3⟩ := sub_mag hx hy
  have hdr : rg d < 2139095040 := by have := hx.rlt; have := hy.rlt; omega
  obtain ⟨e, e1, e2, e3⟩ := prod_le hp hp1 hdr
  obtain ⟨a, a1, a2, a3, a4⟩ := prod_nn hk hk1 hq h0
  obtain ⟨z, z1, z2, z3, z4⟩ := sum_nn a2 (show rg e < 2139095040 by omega)
  refine ⟨z, ?_, z2, z3, fun h => z4 (a4 h)⟩
  unfold baR
  rw [hP]
  have f1 : fop .sub .f32 (some (zs.getD (j + 1) 0)) (some (zs.getD j 0)) = some d := d1
  have f2 : fop .mul .f32 (some p) (some d) = some e := e1
  have f3 : fop .mul .f32 (some k) (some q) = some a := a1
  have f4 : fop .add .f32 (some a) (some e) = some z := z1
  rw [f1, f2, f3, f4]
theorem baQ_nn {K : Option Nat} {k : Nat} {zs : List Nat} (hz : ∀ z ∈ zs, z < 4294967296) (hk : Is32 K k) (hs : shareB K = true) (hg : gauB zs = true) : ∀ j, j < zs.length → ∃ q, baQ K zs j = some q ∧ NN q ∧ (rg k = 0 → FN q)
  | 0, _ => ⟨0, rfl, nn_zero, fun _ => .inl (by decide)⟩
  | j + 1, hj => by
    obtain ⟨q, h1, h2, h3⟩ := baQ_nn hz hk hs hg j (by omega)
    obtain ⟨e, f, g⟩ := share_fn hk hs
    obtain ⟨p, p1, p2, p3⟩ := half_fn f g
    obtain ⟨z, z1, z2, z3, z4⟩ := baR_num (zs := zs) (j := j) e f g (by rw [e]; exact p1) p2 p3 (gau_fn hz hg hj) (gau_fn hz hg (by omega)) h2 h3
    obtain ⟨x, x1, x2, x3⟩ := posq_nn z2
    refine ⟨x, ?_, x2, fun h => x3 (z4 h)⟩
    rw [baQ, h1, z1, x1]
theorem baQ_max {K : Option Nat} {k : Nat} {zs : List Nat} (hz : ∀ z ∈ zs, z < 4294967296) (hk : Is32 K k) (hs : shareB K = true) (hg : gauB zs = true) (j : Nat) (hj : j + 1 < zs.length) : maxO (some 0) (baR K (baQ K zs j) zs j) = baQ K zs (j + 1) := by
  obtain ⟨q, h1, h2, h3⟩ := baQ_nn hz hk hs hg j (by omega)
  obtain ⟨e, f, g⟩ := share_fn hk hs
  obtain ⟨p, p1, p2, p3⟩ := half_fn f g
  obtain ⟨z, z1, z2, z3, z4⟩ := baR_num (zs := zs) (j := j) e f g (by rw [e]; exact p1) p2 p3 (gau_fn hz hg hj) (gau_fn hz hg (by omega)) h2 h3
  rw [baQ, h1, z1, max_posq z3]
theorem baL_fin {K : Option Nat} {k : Nat} {zs : List Nat} (hz : ∀ z ∈ zs, z < 4294967296) (hk : Is32 K k) (hs : shareB K = true) (hg : gauB zs = true) (n : Nat) (hn : n ≤ zs.length) : (baL K zs n).all fin32o = true := by
  rw [List.all_eq_true]
  intro X hX
  obtain ⟨i, hi, rfl⟩ := List.mem_map.1 hX
  have hi := List.mem_range.1 hi
  cases i with
  | zero => exact fin_of_fn (gau_fn hz hg (by omega))
  | succ j =>
    obtain ⟨q, h1, h2, _⟩ := baQ_nn hz hk hs hg (j + 1) (by omega)
    show fin32o (clampO (fop .sub .f32 (some (zs.getD (j + 1) 0)) (baQ K zs (j + 1)))) = true
    rw [h1]
    exact clamp_fin (gau_fn hz hg (by omega)) h2
theorem drop_set (ls zs : List Nat) (k z : Nat) (hl : ls.length = k) (hk : k < zs.length) : (ls ++ zs.drop k).set k z = (ls ++ [z]) ++ zs.drop (k + 1) := by
  rw [List.set_append_right _ _ (by omega), hl, Nat.sub_self, List.drop_eq_getElem_cons hk, List.set_cons_zero]; simp

set_option maxHeartbeats 400000 in
theorem isShare_o {X : Option Nat} {x : Nat} (w : World) (hx : Is32 X x) : Calls Try.prog 79 #[.float .f32 x] w (SayS (shareB X) w) := by
  go_enter Try.func79, Try.ntmps79
  go_wp2_with (first | ((with_reducible refine wpList_bin ?_); refine wpList_c32 rfl _ _ _ _ _ rfl rfl rfl (by decide) (by first | assumption | exact Is32.c (by decide)) (by first | assumption | exact Is32.c (by decide)) ?_; intro bb hbb; cases bb))
  all_goals go_ret
  all_goals (refine ⟨_, ?_, rfl, rfl⟩; simp [shareB, *])
set_option maxHeartbeats 400000 in
theorem l02Share_o {X : Option Nat} {x : Nat} (w : World) (hx : Is32 X x) : Calls Try.prog 77 #[.float .f32 x] w (SayS (shareB X) w) := by
  go_enter Try.func77, Try.ntmps77
  go_wp2_with (first | ((with_reducible refine wpList_bin ?_); refine wpList_c32 rfl _ _ _ _ _ rfl rfl rfl (by decide) (by first | assumption | exact Is32.c (by decide)) (by first | assumption | exact Is32.c (by decide)) ?_; intro bb hbb; cases bb))
  all_goals go_ret
  all_goals (refine ⟨_, ?_, rfl, rfl⟩; simp [shareB, *])

end Go.Proofs.Ytdmcjloaommnpaa
