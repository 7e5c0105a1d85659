/- The order of a river's nodes by a map of what leads to each: what the map says. -/
import Derived.Test.YtckmacnmmloemaaRivV
import Derived.Maps.OwnSet
import Derived.Maps.OwnOps
import Derived.Maps.Views
namespace Go.Proofs.Ytckmacnmmloemaa
open Go.Maps

abbrev ik (j : Nat) : Lit := .int .i64 (j : Int)
abbrev iz (c : Int) : DataW Unit := .lit (.int .i64 c)
theorem ik_ne {j k : Nat} (h : j ≠ k) : ik j ≠ ik k := fun e => by injection e with _ h2; omega
/-- For each node: whether the map has it, and what is there. -/
def MapIs (M : DataW Unit) (n : Nat) (t : Nat → Bool) (f : Nat → Int) : Prop := IsMap M ∧ ∀ j, j < n → Maps.has M (ik j) = t j ∧ (t j = true → M.atKey (ik j) (iz 0) = iz (f j))
theorem MapIs.start (n : Nat) : MapIs (.map []) n (fun j => decide (j < 0)) (fun _ => 0) := ⟨isMap_empty, fun j _ => ⟨by rw [has_eq]; simp, fun h => by simp at h⟩⟩
theorem MapIs.congr {M : DataW Unit} {n : Nat} {t t' : Nat → Bool} {f f' : Nat → Int} (h : MapIs M n t f) (ht : ∀ j, j < n → t j = t' j) (hf : ∀ j, j < n → t' j = true → f j = f' j) : MapIs M n t' f' :=
  ⟨h.1, fun j hj => ⟨(h.2 j hj).1.trans (ht j hj), fun h1 => by rw [(h.2 j hj).2 ((ht j hj).trans h1), hf j hj h1]⟩⟩
theorem MapIs.put {M : DataW Unit} {n : Nat} {t : Nat → Bool} {f : Nat → Int} (h : MapIs M n t f) (k : Nat) (c : Int) : MapIs (M.put (ik k) (iz c)) n (fun j => j == k || t j) (fun j => if j = k then c else f j) := by
  refine ⟨h.1.put _ _, fun j hj => ?_⟩
  by_cases e : j = k
  · subst e
    rw [has_put_same h.1 (by trivial), atKey_put_same h.1 (by trivial)]
    simp
  · have e2 : (j == k) = false := by simpa using e
    show _ = (j == k || t j) ∧ ((j == k || t j) = true → _ = iz (if j = k then c else f j))
    rw [has_put_other (ik_ne e), atKey_put_other (ik_ne e), if_neg e, (h.2 j hj).1, e2, Bool.false_or]
    exact ⟨rfl, (h.2 j hj).2⟩
theorem MapIs.del {M : DataW Unit} {n : Nat} {t : Nat → Bool} {f : Nat → Int} (h : MapIs M n t f) (k : Nat) : MapIs (M.del (ik k)) n (fun j => !(j == k) && t j) f := by
  refine ⟨h.1.del _, fun j hj => ?_⟩
  by_cases e : j = k
  · subst e
    rw [has_del_same]
    simp
  · have e2 : (j == k) = false := by simpa using e
    show _ = (!(j == k) && t j) ∧ ((!(j == k) && t j) = true → _)
    rw [has_del_other (ik_ne e), atKey_del_other (ik_ne e), (h.2 j hj).1, e2, Bool.not_false, Bool.true_and]
    exact ⟨rfl, (h.2 j hj).2⟩
/-- What the map says, where it says anything. -/
theorem MapIs.at {M : DataW Unit} {n : Nat} {t : Nat → Bool} {f : Nat → Int} (h : MapIs M n t f) {j : Nat} (hj : j < n) (ht : t j = true) {c : Int} (hc : M.atKey (ik j) (iz 0) = iz c) : c = f j := by
  have := (h.2 j hj).2 ht
  rw [hc] at this
  injection this with this
  injection this

/-- How many of the first k nodes that are not in C lead to i. -/
def cntP (D : List Int) (C : List Nat) (k i : Nat) : Nat := ((List.range k).filter fun j => !C.contains j && (D.getD j 0 == (i : Int))).length
theorem cntP_succ (D : List Int) (C : List Nat) (k i : Nat) : cntP D C (k + 1) i = cntP D C k i + (if k ∉ C ∧ D.getD k 0 = (i : Int) then 1 else 0) := by
  unfold cntP
  rw [List.range_succ, List.filter_append, List.length_append]
  congr 1
  by_cases h : k ∉ C ∧ D.getD k 0 = (i : Int)
  · rw [if_pos h, List.filter_cons_of_pos]
    · rfl
    · simp only [Bool.and_eq_true, Bool.not_eq_true', beq_iff_eq]
      exact ⟨by simpa using h.1, h.2⟩
  · rw [if_neg h, List.filter_cons_of_neg]
    · rfl
    · simp only [Bool.and_eq_true, Bool.not_eq_true', beq_iff_eq]
      exact fun h2 => h ⟨by simpa using h2.1, h2.2⟩
theorem cntP_le (D : List Int) (C : List Nat) (k i : Nat) : cntP D C k i ≤ k := by
  unfold cntP
  exact Nat.le_trans (List.length_filter_le _ _) (by simp)
theorem cntP_zero {D : List Int} {C : List Nat} {i : Nat} : cntP D C D.length i = 0 ↔ noFeed D C i = true := by
  unfold cntP noFeed
  rw [List.length_eq_zero_iff, List.filter_eq_nil_iff, List.all_eq_true]
  constructor
  · intro h j hj
    have h1 := h j hj
    cases e : C.contains j <;> cases e2 : (D.getD j 0 == (i : Int)) <;> rw [e, e2] at h1 <;> first | rfl | exact absurd rfl h1
  · intro h j hj
    have h1 := h j hj
    cases e : C.contains j <;> cases e2 : (D.getD j 0 == (i : Int)) <;> rw [e, e2] at h1 <;> first | exact Bool.false_ne_true | (cases h1; done)
theorem cntP_pos {D : List Int} {C : List Nat} {i j : Nat} (hj : j < D.length) (hc : j ∉ C) (he : D.getD j 0 = (i : Int)) : 1 ≤ cntP D C D.length i := by
  rcases Nat.eq_zero_or_pos (cntP D C D.length i) with h | h
  · rw [cntP_zero] at h
    unfold noFeed at h
    rw [List.all_eq_true] at h
    have := h j (List.mem_range.2 hj)
    rw [he] at this
    simp [hc] at this
  · exact h
theorem cntP_push {D : List Int} {C : List Nat} {x d : Nat} (hx : x ∉ C) : ∀ k, cntP D C k d = cntP D (C ++ [x]) k d + (if x < k ∧ D.getD x 0 = (d : Int) then 1 else 0)
  | 0 => by rw [if_neg (by omega)]; rfl
  | k + 1 => by
    rw [cntP_succ, cntP_succ, cntP_push hx k]
    by_cases e : k = x
    · subst e
      have h1 : ¬ (k ∉ C ++ [k] ∧ D.getD k 0 = (d : Int)) := fun h => h.1 (by simp)
      rw [if_neg h1, if_neg (fun h => Nat.lt_irrefl _ h.1)]
      by_cases h2 : D.getD k 0 = (d : Int)
      · rw [if_pos ⟨hx, h2⟩, if_pos ⟨Nat.lt_succ_self k, h2⟩]
      · rw [if_neg (fun h => h2 h.2), if_neg (fun h => h2 h.2)]
    · have h1 : (k ∉ C ++ [x] ∧ D.getD k 0 = (d : Int)) ↔ (k ∉ C ∧ D.getD k 0 = (d : Int)) := by
        simp [e]
      have h2 : (x < k + 1 ∧ D.getD x 0 = (d : Int)) ↔ (x < k ∧ D.getD x 0 = (d : Int)) := by
        constructor
        · exact fun h => ⟨by omega, h.2⟩
        · exact fun h => ⟨by omega, h.2⟩
      simp only [h1, h2]
      omega
theorem cntP_nil_zero (D : List Int) (i : Nat) : cntP D [] 0 i = 0 := rfl
theorem pickD_hit {D : List Int} {C : List Nat} {i : Nat} (hi : i < D.length) (h : freeD D C i = true) (hb : ∀ j, j < i → freeD D C j = false) : pickD D C = some i := by
  cases hp : pickD D C with
  | none => have := pickD_none hp i hi; rw [h] at this; cases this
  | some x =>
    obtain ⟨h1, h2, h3⟩ := pickD_some hp
    have : x = i := by
      rcases Nat.lt_trichotomy x i with h4 | h4 | h4
      · have := hb x h4; rw [h2] at this; cases this
      · exact h4
      · have := h3 i h4; rw [h] at this; cases this
    rw [this]
theorem pickD_miss {D : List Int} {C : List Nat} (hb : ∀ j, j < D.length → freeD D C j = false) : pickD D C = none := by
  cases hp : pickD D C with
  | none => rfl
  | some x =>
    obtain ⟨h1, h2, _⟩ := pickD_some hp
    have := hb x h1
    rw [h2] at this
    cases this
theorem kahn_hit {D : List Int} {t i : Nat} (h : pickD D (kahn D t) = some i) : kahn D (t + 1) = kahn D t ++ [i] := by rw [kahn, h]
theorem kahn_miss {D : List Int} {t : Nat} (h : pickD D (kahn D t) = none) : kahn D (t + 1) = kahn D t := by rw [kahn, h]
theorem freeD_taken {D : List Int} {C : List Nat} {i : Nat} (h : C.contains i = true) : freeD D C i = false := by unfold freeD; rw [h]; rfl
theorem freeD_fed {D : List Int} {C : List Nat} {i : Nat} (h : 0 < cntP D C D.length i) : freeD D C i = false := by
  unfold freeD
  have : noFeed D C i = false := by
    rw [← Bool.not_eq_true]
    intro h2
    rw [← cntP_zero] at h2
    omega
  rw [this, Bool.and_false]
theorem freeD_free {D : List Int} {C : List Nat} {i : Nat} (h1 : C.contains i = false) (h2 : cntP D C D.length i = 0) : freeD D C i = true := by
  unfold freeD
  rw [h1, cntP_zero.1 h2]
  rfl
/-- The map behind the taking of a node that leads on. -/
theorem MapIs.takes {D : List Int} {C : List Nat} {M : DataW Unit} {i d : Nat} {c : Int} (h : MapIs M D.length (fun j => !C.contains j) (fun j => (cntP D C D.length j : Int))) (hk : Kd D C) (hi : i < D.length) (hf : freeD D C i = true) (hd : D.getD i 0 = (d : Int)) (hdn : d < D.length)
    (hc : (M.del (ik i)).atKey (ik d) (iz 0) = iz c) : 1 ≤ c ∧ c ≤ D.length ∧ MapIs ((M.del (ik i)).put (ik d) (iz (c - 1))) D.length (fun j => !(C ++ [i]).contains j) (fun j => (cntP D (C ++ [i]) D.length j : Int)) := by
  obtain ⟨hiC, hfe⟩ := freeD_yes hf
  have hdi : d ≠ i := fun e => by subst e; exact hiC (hfe d hi hd)
  have hdC : d ∉ C := fun hm => hiC ((hk.ord d hm i hi hd).1)
  have hdel := h.del i
  have ht : (fun j => !(j == i) && !C.contains j) d = true := by simp [hdi, hdC]
  have hcv := hdel.at hdn ht hc
  have hpos := cntP_pos hi hiC hd
  have hle := cntP_le D C D.length d
  have hcv2 : c = (cntP D C D.length d : Int) := hcv
  refine ⟨by omega, by omega, (hdel.put d (c - 1)).congr (fun j hj => ?_) (fun j hj hj2 => ?_)⟩
  · by_cases e : j = d
    · subst e; simp [hdi, hdC]
    · have e1 : (j == d) = false := by simpa using e
      show (j == d || (!(j == i) && !C.contains j)) = _
      rw [e1, Bool.false_or]
      by_cases e2 : j = i
      · subst e2; simp
      · simp [e2]
  · have hp := cntP_push (D := D) (C := C) (x := i) (d := j) hiC D.length
    show (if j = d then c - 1 else (cntP D C D.length j : Int)) = _
    by_cases e : j = d
    · subst e
      rw [if_pos ⟨hi, hd⟩] at hp
      rw [if_pos rfl]
      omega
    · rw [if_neg (fun h9 => e (by have := h9.2; rw [hd] at this; omega))] at hp
      rw [if_neg e]
      omega
/-- .. of one that leads to the sea. -/
theorem MapIs.leaves {D : List Int} {C : List Nat} {M : DataW Unit} {i : Nat} (h : MapIs M D.length (fun j => !C.contains j) (fun j => (cntP D C D.length j : Int))) (hf : freeD D C i = true) (hd : D.getD i 0 < 0) :
    MapIs (M.del (ik i)) D.length (fun j => !(C ++ [i]).contains j) (fun j => (cntP D (C ++ [i]) D.length j : Int)) := by
  obtain ⟨hiC, _⟩ := freeD_yes hf
  refine (h.del i).congr (fun j hj => ?_) (fun j hj hj2 => ?_)
  · by_cases e2 : j = i
    · subst e2; simp
    · simp [e2]
  · have hp := cntP_push (D := D) (C := C) (x := i) (d := j) hiC D.length
    rw [if_neg (fun h9 => by have := h9.2; omega)] at hp
    omega
end Go.Proofs.Ytckmacnmmloemaa
