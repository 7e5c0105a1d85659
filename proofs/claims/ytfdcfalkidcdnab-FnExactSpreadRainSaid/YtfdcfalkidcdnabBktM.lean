/- Buckets: plain facts on numbers and lists. -/
import Derived.Test.YtfdcfalkidcdnabNumN
import Derived.Test.YtfdcfalkidcdnabExpO
import Derived.Test.YtfdcfalkidcdnabStepM
import Derived.Test.YtfdcfalkidcdnabIsRain
namespace Go.Proofs.Ytfdcfalkidcdnab
set_option linter.unusedVariables false
set_option maxRecDepth 100000

/-- Words that are told. -/
def Is32s (Xs : List (Option Nat)) (zs : List Nat) : Prop := Xs.length = zs.length ∧ ∀ i, i < zs.length → Is32 (Xs.getD i none) (zs.getD i 0)
theorem getD_set_self {α : Type} (l : List α) (i : Nat) (a d : α) (h : i < l.length) : (l.set i a).getD i d = a := by
  rw [List.getD_eq_getElem?_getD, List.getElem?_set_self h]; rfl
theorem getD_set_ne {α : Type} (l : List α) (i j : Nat) (a d : α) (h : i ≠ j) : (l.set i a).getD j d = l.getD j d := by
  rw [List.getD_eq_getElem?_getD, List.getD_eq_getElem?_getD, List.getElem?_set_ne h]
theorem getD_app_lt {α : Type} (l m : List α) (i : Nat) (d : α) (h : i < l.length) : (l ++ m).getD i d = l.getD i d := by
  rw [List.getD_eq_getElem?_getD, List.getD_eq_getElem?_getD, List.getElem?_append_left h]
theorem getD_app_at {α : Type} (l : List α) (a d : α) : (l ++ [a]).getD l.length d = a := by
  rw [List.getD_eq_getElem?_getD, List.getElem?_append_right (Nat.le_refl _), Nat.sub_self]; rfl
theorem Is32s.nil : Is32s [] [] := ⟨rfl, fun i h => absurd h (by simp)⟩
theorem Is32s.self {zs : List Nat} (h : ∀ z ∈ zs, z < 4294967296) : Is32s (zs.map some) zs := by
  refine ⟨by simp, fun i hi => ?_⟩
  rw [List.getD_eq_getElem?_getD, List.getElem?_map, List.getElem?_eq_getElem hi, List.getD_eq_getElem?_getD, List.getElem?_eq_getElem hi]
  exact Is32.c (h _ (List.getElem_mem hi))
theorem Is32s.set {Xs : List (Option Nat)} {zs : List Nat} (h : Is32s Xs zs) (i : Nat) {X : Option Nat} {z : Nat} (hz : Is32 X z) : Is32s (Xs.set i X) (zs.set i z) := by
  refine ⟨by rw [List.length_set, List.length_set]; exact h.1, fun j hj => ?_⟩
  rw [List.length_set] at hj
  by_cases hij : i = j
  · subst hij
    rw [getD_set_self _ _ _ _ (by rw [h.1]; exact hj), getD_set_self _ _ _ _ hj]; exact hz
  · rw [getD_set_ne _ _ _ _ _ hij, getD_set_ne _ _ _ _ _ hij]; exact h.2 j hj
theorem Is32s.snoc {Xs : List (Option Nat)} {zs : List Nat} (h : Is32s Xs zs) {X : Option Nat} {z : Nat} (hz : Is32 X z) : Is32s (Xs ++ [X]) (zs ++ [z]) := by
  refine ⟨by simp [h.1], fun j hj => ?_⟩
  rw [List.length_append, List.length_singleton] at hj
  by_cases hjl : j < zs.length
  · rw [getD_app_lt _ _ _ _ (by rw [h.1]; exact hjl), getD_app_lt _ _ _ _ hjl]; exact h.2 j hjl
  · obtain rfl : j = zs.length := by omega
    rw [getD_app_at, ← h.1, getD_app_at]; exact hz
theorem all_same {α β : Type} (p : α → Bool) (q : β → Bool) (d : α) (e : β) : ∀ (l : List α) (m : List β), l.length = m.length → (∀ i, i < l.length → p (l.getD i d) = q (m.getD i e)) → l.all p = m.all q
  | [], [], _, _ => rfl
  | [], b :: m, h, _ => by simp at h
  | a :: l, [], h, _ => by simp at h
  | a :: l, b :: m, h, hp => by
    have h0 := hp 0 (by simp)
    have ih := all_same p q d e l m (by simpa using h) (fun i hi => by have := hp (i + 1) (by simp; omega); simpa using this)
    simp only [List.getD_cons_zero] at h0
    rw [List.all_cons, List.all_cons, h0, ih]
theorem Is32s.fin {Xs : List (Option Nat)} {zs : List Nat} (h : Is32s Xs zs) : zs.all fin32 = Xs.all fin32o :=
  all_same fin32 fin32o 0 none zs Xs h.1.symm fun i hi => fin_o (h.2 i hi)
theorem all_getD {α : Type} {p : α → Bool} {l : List α} (h : l.all p = true) (i : Nat) (d : α) (hi : i < l.length) : p (l.getD i d) = true := by
  rw [List.getD_eq_getElem?_getD, List.getElem?_eq_getElem hi]
  exact List.all_eq_true.1 h _ (List.getElem_mem hi)
theorem Is32s.exact {Xs : List (Option Nat)} {zs : List Nat} (h : Is32s Xs zs) (hf : Xs.all fin32o = true) : zs = Xs.map (fun X => X.getD 0) := by
  refine List.ext_getElem (by simp [h.1]) fun i h1 h2 => ?_
  have hx := h.2 i h1
  have hfi := all_getD hf i none (by rw [h.1]; exact h1)
  have e1 : zs.getD i 0 = zs[i] := by rw [List.getD_eq_getElem?_getD, List.getElem?_eq_getElem h1]; rfl
  have e2 : Xs.getD i none = Xs[i]'(by rw [h.1]; exact h1) := by rw [List.getD_eq_getElem?_getD, List.getElem?_eq_getElem (by rw [h.1]; exact h1)]; rfl
  rw [e1, e2] at hx
  rw [e2] at hfi
  rw [List.getElem_map]
  cases hX : Xs[i]'(by rw [h.1]; exact h1) with
  | none => rw [hX] at hfi; cases hfi
  | some y => rw [hX] at hx; exact hx.eq

/-- No number, or a finite one of at least 0; or any one of at least 0. -/
def Fno (X : Option Nat) : Prop := X = none ∨ ∃ z, X = some z ∧ FN z
def Nno (X : Option Nat) : Prop := X = none ∨ ∃ z, X = some z ∧ NN z
theorem mul_inf_0 {y : Nat} (hy : FN y) (h0 : rg y = 0) : floatBits .mul .f32 2139095040 y = none := by
  have : y = 0 ∨ y = 2147483648 := by unfold FN at hy; unfold rg at h0; omega
  rcases this with rfl | rfl <;> decide +kernel
theorem inf_sub_inf : floatBits .sub .f32 2139095040 2139095040 = none := by decide +kernel
/-- What becomes of a bucket. -/
theorem bucket_num {s g : Option Nat} {sh : Nat} (hs : Fno s) (hg : Nno g) (hsh : FN sh) (h1 : rg sh ≤ 1065353216) :
    Fno (fop .sub .f32 (fop .add .f32 s g) (fop .mul .f32 (fop .add .f32 s g) (some sh))) ∧ Nno (fop .mul .f32 (fop .add .f32 s g) (some sh)) ∧
    (∀ z, fop .sub .f32 (fop .add .f32 s g) (fop .mul .f32 (fop .add .f32 s g) (some sh)) = some z → (∃ a, s = some a) ∧ ∃ b, fop .mul .f32 (fop .add .f32 s g) (some sh) = some b ∧ FN b) := by
  rcases hs with rfl | ⟨a, rfl, ha⟩
  · exact ⟨.inl rfl, .inl rfl, fun z h => by cases h⟩
  rcases hg with rfl | ⟨b, rfl, hb⟩
  · exact ⟨.inl rfl, .inl rfl, fun z h => by cases h⟩
  obtain ⟨c, hc, hcn, _⟩ := addN ha hb
  have e1 : fop .add .f32 (some a) (some b) = some c := hc
  rw [e1]
  by_cases hcf : FN c
  · obtain ⟨m, hm, hmn, _, hml, _⟩ := mul_fn hcf hsh
    have hmf : FN m := hmn.fn (Nat.lt_of_le_of_lt (hml h1) hcf.rlt)
    have e2 : fop .mul .f32 (some c) (some sh) = some m := hm
    obtain ⟨d, hd, hdf, _⟩ := sub_fn hcf hmf (hml h1)
    have e3 : fop .sub .f32 (some c) (some m) = some d := hd
    rw [e2, e3]
    exact ⟨.inr ⟨d, rfl, hdf⟩, .inr ⟨m, rfl, hmf.nn⟩, fun z _ => ⟨⟨a, rfl⟩, m, rfl, hmf⟩⟩
  · obtain rfl := nn_inf hcn hcf
    by_cases h0 : rg sh = 0
    · have e2 : fop .mul .f32 (some 2139095040) (some sh) = none := mul_inf_0 hsh h0
      rw [e2]
      exact ⟨.inl rfl, .inl rfl, fun z h => by cases h⟩
    · have e2 : fop .mul .f32 (some 2139095040) (some sh) = some 2139095040 := mul_inf_l hsh (by omega)
      have e3 : fop .sub .f32 (some 2139095040) (some 2139095040) = none := inf_sub_inf
      rw [e2, e3]
      exact ⟨.inl rfl, .inr ⟨_, rfl, .inl (Nat.le_refl _)⟩, fun z h => by cases h⟩

def bStep (Sh : Option Nat) (st : List (Option Nat) × Option Nat) (i : Nat) : List (Option Nat) × Option Nat :=
  (st.1.set i (fop .sub .f32 (fop .add .f32 (st.1.getD i none) st.2) (fop .mul .f32 (fop .add .f32 (st.1.getD i none) st.2) Sh)), fop .mul .f32 (fop .add .f32 (st.1.getD i none) st.2) Sh)
/-- The first i buckets of a tick. -/
def bIt (Sh : Option Nat) (S : List (Option Nat)) (x : Option Nat) : Nat → List (Option Nat) × Option Nat
  | 0 => (S, x)
  | i + 1 => bStep Sh (bIt Sh S x i) i
/-- The first k ticks. -/
def oIt (Sh : Option Nat) (S : List (Option Nat)) (rain : List Nat) : Nat → List (Option Nat) × List (Option Nat)
  | 0 => (S, [])
  | k + 1 => ((bIt Sh (oIt Sh S rain k).1 (some (rain.getD k 0)) S.length).1, (oIt Sh S rain k).2 ++ [(bIt Sh (oIt Sh S rain k).1 (some (rain.getD k 0)) S.length).2])
theorem bIt_len (Sh : Option Nat) (S : List (Option Nat)) (x : Option Nat) : ∀ i, (bIt Sh S x i).1.length = S.length
  | 0 => rfl
  | i + 1 => by unfold bIt bStep; rw [List.length_set]; exact bIt_len Sh S x i
theorem oIt_len (Sh : Option Nat) (S : List (Option Nat)) (rain : List Nat) : ∀ k, (oIt Sh S rain k).1.length = S.length ∧ (oIt Sh S rain k).2.length = k
  | 0 => ⟨rfl, rfl⟩
  | k + 1 => by unfold oIt; exact ⟨by rw [bIt_len]; exact (oIt_len Sh S rain k).1, by simp [(oIt_len Sh S rain k).2]⟩
def St (S : List (Option Nat)) : Prop := ∀ i, i < S.length → Fno (S.getD i none)
def Som (S : List (Option Nat)) : Prop := ∀ i, i < S.length → ∃ z, S.getD i none = some z
theorem bIt_good {sh : Nat} (hsh : FN sh) (h1 : rg sh ≤ 1065353216) {S : List (Option Nat)} {x : Option Nat} (hS : St S) (hx : Nno x) : ∀ i, i ≤ S.length → St (bIt (some sh) S x i).1 ∧ Nno (bIt (some sh) S x i).2
  | 0, _ => ⟨hS, hx⟩
  | i + 1, h => by
    obtain ⟨a, b⟩ := bIt_good hsh h1 hS hx i (by omega)
    have hl := bIt_len (some sh) S x i
    obtain ⟨c, d, _⟩ := bucket_num (a i (by rw [hl]; omega)) b hsh h1
    refine ⟨fun j hj => ?_, d⟩
    unfold bIt bStep at hj ⊢
    rw [List.length_set] at hj
    by_cases hij : i = j
    · subst hij; simp only; rw [getD_set_self _ _ _ _ hj]; exact c
    · simp only; rw [getD_set_ne _ _ _ _ _ hij]; exact a j hj
theorem bIt_back {sh : Nat} (hsh : FN sh) (h1 : rg sh ≤ 1065353216) {S : List (Option Nat)} {x : Nat} (hS : St S) (hx : FN x) : ∀ i, i ≤ S.length → Som (bIt (some sh) S (some x) i).1 → Som S ∧ ∃ z, (bIt (some sh) S (some x) i).2 = some z ∧ FN z
  | 0, _, h => ⟨h, x, rfl, hx⟩
  | i + 1, hi, h => by
    have hl := bIt_len (some sh) S (some x) i
    obtain ⟨a, b⟩ := bIt_good hsh h1 hS (x := some x) (.inr ⟨x, rfl, hx.nn⟩) i (by omega)
    obtain ⟨_, _, e⟩ := bucket_num (a i (by rw [hl]; omega)) b hsh h1
    obtain ⟨z, hz⟩ := h i (by rw [bIt_len]; omega)
    have hz2 : fop .sub .f32 (fop .add .f32 ((bIt (some sh) S (some x) i).1.getD i none) (bIt (some sh) S (some x) i).2) (fop .mul .f32 (fop .add .f32 ((bIt (some sh) S (some x) i).1.getD i none) (bIt (some sh) S (some x) i).2) (some sh)) = some z := by
      rw [← hz]; exact (getD_set_self ((bIt (some sh) S (some x) i).1) i _ none (by rw [hl]; omega)).symm
    obtain ⟨ea, eb⟩ := e z hz2
    have hprev : Som (bIt (some sh) S (some x) i).1 := fun j hj => by
      by_cases hij : i = j
      · subst hij; exact ea
      · obtain ⟨y, hy⟩ := h j (by rw [bIt_len]; rw [hl] at hj; exact hj)
        exact ⟨y, by rw [← hy]; exact (getD_set_ne ((bIt (some sh) S (some x) i).1) i j _ none hij).symm⟩
    exact ⟨(bIt_back hsh h1 hS hx i (by omega) hprev).1, eb⟩
theorem oIt_good {sh : Nat} (hsh : FN sh) (h1 : rg sh ≤ 1065353216) {S : List (Option Nat)} {rain : List Nat} (hS : St S) (hr : ∀ k, k < rain.length → FN (rain.getD k 0)) : ∀ k, k ≤ rain.length → St (oIt (some sh) S rain k).1
  | 0, _ => hS
  | k + 1, h => by
    have ih := oIt_good hsh h1 hS hr k (by omega)
    unfold oIt
    have := (bIt_good hsh h1 ih (x := some (rain.getD k 0)) (.inr ⟨_, rfl, (hr k (by omega)).nn⟩) S.length (by rw [(oIt_len _ _ _ k).1]; exact Nat.le_refl _)).1
    exact this
theorem oIt_back {sh : Nat} (hsh : FN sh) (h1 : rg sh ≤ 1065353216) {S : List (Option Nat)} {rain : List Nat} (hS : St S) (hr : ∀ k, k < rain.length → FN (rain.getD k 0)) : ∀ k, k ≤ rain.length → Som (oIt (some sh) S rain k).1 →
    (oIt (some sh) S rain k).2.all fin32o = true
  | 0, _, _ => rfl
  | k + 1, h, hs => by
    have ih := oIt_good hsh h1 hS hr k (by omega)
    have hb := bIt_back hsh h1 ih (hr k (by omega)) S.length (by rw [(oIt_len _ _ _ k).1]; exact Nat.le_refl _) hs
    obtain ⟨a, z, hz, hf⟩ := hb
    have := oIt_back hsh h1 hS hr k (by omega) a
    unfold oIt
    simp only
    rw [List.all_append, this, hz]
    simp only [List.all_cons, List.all_nil, Bool.and_true, Bool.true_and]
    exact decide_eq_true hf.rlt
theorem Som.of_fin {S : List (Option Nat)} (h : S.all fin32o = true) : Som S := fun i hi => by
  have := all_getD h i none hi
  cases hx : S.getD i none with
  | none => rw [hx] at this; cases this
  | some z => exact ⟨z, rfl⟩
theorem St.amt {S : List (Option Nat)} {zs : List Nat} (hS : St S) (h : Is32s S zs) : zs.all amtB = S.all fin32o :=
  all_same amtB fin32o 0 none zs S h.1.symm fun i hi => by
    have hx := h.2 i hi
    rcases hS i (by rw [h.1]; exact hi) with h0 | ⟨z, hz, hf⟩
    · rw [h0] at hx ⊢
      have h2 := hx.1.1
      rw [nan32_iff, decide_eq_true_eq] at h2
      unfold amtB amtO
      rw [show fin32o (some (zs.getD i 0)) = false from decide_eq_false (by omega), Bool.and_false]; rfl
    · rw [hz] at hx ⊢
      obtain hx := hx.eq
      rw [hx]
      unfold amtB amtO
      have hg : fcmp .geq .f32 (some z) (some 0) = true := by
        show (FloatKind.f32.format.order z 0 == some .gt || FloatKind.f32.format.order z 0 == some .eq) = true
        rw [nn_gt hf.nn nn_zero, nn_eq hf.nn nn_zero]
        have : rg 0 = 0 := rfl
        rw [this]
        by_cases h0 : rg z = 0
        · rw [decide_eq_true h0, Bool.or_true]
        · rw [decide_eq_true (show 0 < rg z by omega)]; rfl
      rw [hg, Bool.true_and]

/-- A number with the other sign. -/
def negO (X : Option Nat) : Option Nat := X.map (Op.negFloat .f32)
theorem unit_narrow {p : Nat} (hF : D64.FN p) (hle : D64.rg p ≤ D64.bd true D64.bS 8) : ∃ e, cvtF .f64 .f32 (some p) = some e ∧ FN e ∧ rg e ≤ 1065353216 := by
  have hle1 : D64.rg p ≤ 4607182418800017408 := hle
  unfold D64.FN at hF
  rcases hF with hp | rfl
  · have hrp : D64.rg p = p := Nat.mod_eq_of_lt (by omega)
    obtain ⟨m, i, g1, g2, _⟩ := D64.fin_read2 p (by omega)
    have hs : (p / 9223372036854775808 % 2 == 1) = false := by rw [Nat.div_eq_of_lt (by omega)]; rfl
    have hc : cvt .f64 p .f32 = some (Q (m * 2 ^ i) 925) := by
      unfold cvt
      rw [if_neg (by decide), g1, hs]
      show some (Ieee.single.nearest false m (-1074 + i)) = _
      rw [nearest_gen _ _ _ i 925 (by omega), word_pos32]
    rw [hrp] at hle1
    have hq : Q (m * 2 ^ i) 925 ≤ 1065353216 := by
      rw [← g2, show p % 9223372036854775808 = p from hrp]
      have h1 := Q_mono _ _ 925 (D64.mag_mono hle1 (by decide))
      have h2 : Q (D64.mag 4607182418800017408) 925 = 1065353216 := by decide +kernel
      rw [h2] at h1
      exact h1
    obtain ⟨q, hqq⟩ : ∃ q, Q (m * 2 ^ i) 925 = q := ⟨_, rfl⟩
    rw [hqq] at hc hq
    exact ⟨q, hc, .inl (by omega), by unfold rg; omega⟩
  · exact ⟨2147483648, by decide +kernel, .inr rfl, by decide⟩
theorem exp_unit {x : Nat} (hx : x < 4294967296) (hs : (x / 2147483648 % 2 == 1) = true) (hle : rg x ≤ 2139095040) : ∃ e, expO (some x) = some e ∧ FN e ∧ rg e ≤ 1065353216 := by
  unfold expO
  simp only [Option.bind_some]
  by_cases hbig : 1128792064 < rg x
  · rw [if_pos ⟨hs, hbig, hle⟩]
    exact ⟨0, rfl, .inl (by decide), by decide⟩
  · rw [if_neg (fun h => hbig h.2.1), if_neg (fun h => by subst h; exact absurd hs (by decide))]
    have hf : rg x < 2139095040 := by omega
    obtain ⟨hw, _⟩ := widr_fin hf
    obtain ⟨v1, v2, _⟩ := D64.word_rg (x / 2147483648 % 2 == 1) (widr x) (Nat.le_of_lt hw)
    have hT : xT (cvt .f32 x .f64) = some (Ieee.double.word (x / 2147483648 % 2 == 1) (D64.Q (D64.mag (widr x)) 8)) := by
      rw [widen_word hf]
      show floatBits .quo .f64 _ 4643211215818981376 = _
      rw [D64.quo_256 (by rw [v1]; exact hw), v1, v2]
    rw [hs] at hT
    have hrt : D64.Q (D64.mag (widr x)) 8 ≤ D64.bd true (fun _ => D64.t73) 0 :=
      Nat.le_trans (D64.Q_mono _ _ 8 (D64.mag_mono (widr_mono (y := 1128792064) (by show rg x ≤ 1128792064; omega) (by decide)) (widr_fin (x := 1128792064) (by decide)).1)) D64.t200
    obtain ⟨p, hp, hF, hle2⟩ := D64.xS_bound hT hrt 8 (Nat.le_refl _)
    rw [hp]
    exact unit_narrow hF hle2
theorem neg_word {p : Nat} (hp : NN p) : Op.negFloat .f32 p < 4294967296 ∧ rg (Op.negFloat .f32 p) = rg p ∧ (p < 2147483648 → (Op.negFloat .f32 p / 2147483648 % 2 == 1) = true) := by
  have e : Op.negFloat .f32 p = p ^^^ 2 ^ 31 := rfl
  have hb : p < 2 ^ 32 := hp.ult
  rw [e]
  refine ⟨Nat.xor_lt_two_pow hb (by decide), ?_, fun h => ?_⟩
  · unfold rg
    rw [show (2147483648 : Nat) = 2 ^ 31 from rfl, Nat.xor_mod_two_pow, Nat.mod_self, Nat.xor_zero]
  · rw [show (2147483648 : Nat) = 2 ^ 31 from rfl, Nat.xor_div_two_pow, Nat.div_eq_of_lt h, Nat.div_self (by decide)]
    rfl
theorem Is32.neg {X : Option Nat} {x : Nat} (h : Is32 X x) : Is32 (negO X) (Op.negFloat .f32 x) := by
  have e : Op.negFloat .f32 x = x ^^^ 2 ^ 31 := rfl
  have hb : x < 2 ^ 32 := h.2
  have hlt : Op.negFloat .f32 x < 4294967296 := by rw [e]; exact Nat.xor_lt_two_pow hb (by decide)
  cases X with
  | some b => obtain rfl := h.eq; exact Is32.c hlt
  | none =>
    refine ⟨⟨?_, hlt⟩, hlt⟩
    have h2 := h.1.1
    rw [nan32_iff, decide_eq_true_eq] at h2 ⊢
    have hm : (x ^^^ 2 ^ 31) % 2147483648 = x % 2147483648 := by
      rw [show (2147483648 : Nat) = 2 ^ 31 from rfl, Nat.xor_mod_two_pow, Nat.mod_self, Nat.xor_zero]
    rw [e, hm]
    exact h2
/-- What share of a bucket goes in a tick. -/
def shareO (R T : Option Nat) : Option Nat := fop .sub .f32 (some 1065353216) (expO (negO (fop .mul .f32 R T)))
theorem negR {R T : Option Nat} {r t : Nat} (hr : Is32 R r) (ht : Is32 T t) (ha : amtO R = true) (hp : posO T = true) : ∃ p, fop .mul .f32 R T = some p ∧ NN p := by
  obtain ⟨rfl, fr⟩ := amt_fn hr ha
  obtain ⟨rfl, ft, _⟩ := pos_fn ht hp
  obtain ⟨p, h1, h2, _⟩ := mul_fn fr ft
  exact ⟨p, h1, h2⟩
theorem neg_big {p : Nat} (hp : NN p) : 2147483648 ≤ Op.negFloat .f32 p ∨ p = 2147483648 := by
  rcases Nat.lt_or_ge p 2147483648 with h | h
  · obtain ⟨a, b, c⟩ := neg_word hp
    have := c h
    rw [beq_iff_eq] at this
    omega
  · right; unfold NN at hp; omega
theorem share_rng {R T : Option Nat} {r t : Nat} (hr : Is32 R r) (ht : Is32 T t) (ha : amtO R = true) (hp : posO T = true) : ExpR (negO (fop .mul .f32 R T)) := by
  obtain ⟨p, h1, h2⟩ := negR hr ht ha hp
  rw [h1]
  intro x hx hlt
  simp only [negO, Option.map_some, Option.some.injEq] at hx
  rcases neg_big h2 with h | rfl
  · omega
  · rw [← hx]; decide
theorem share_unit {R T : Option Nat} {r t : Nat} (hr : Is32 R r) (ht : Is32 T t) (ha : amtO R = true) (hp : posO T = true) : ∃ sh, shareO R T = some sh ∧ FN sh ∧ rg sh ≤ 1065353216 := by
  obtain ⟨p, h1, h2⟩ := negR hr ht ha hp
  unfold shareO
  rw [h1]
  have he : ∃ e, expO (negO (some p)) = some e ∧ FN e ∧ rg e ≤ 1065353216 := by
    obtain ⟨a, b, c⟩ := neg_word h2
    rcases Nat.lt_or_ge p 2147483648 with h | h
    · exact exp_unit a (c h) (by rw [b]; exact h2.rle)
    · obtain rfl : p = 2147483648 := by unfold NN at h2; omega
      exact ⟨1065353216, by decide +kernel, .inl (by decide), Nat.le_refl _⟩
  obtain ⟨e, h3, h4, h5⟩ := he
  rw [h3]
  obtain ⟨z, h6, h7, h8, _⟩ := sub_fn nn_onef h4 (by rw [show rg 1065353216 = 1065353216 from rfl]; exact h5)
  exact ⟨z, h6, h7, h8⟩
end Go.Proofs.Ytfdcfalkidcdnab
