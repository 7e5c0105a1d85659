/- The least size of a dam: values. -/
import Derived.Test.YtckmacnmmloemaaShoV
import Derived.Test.YtckmacnmmloemaaUpI
namespace Go.Proofs.Ytckmacnmmloemaa
open Go.RowKit
set_option linter.unusedVariables false
set_option linter.unusedSimpArgs false
set_option maxRecDepth 100000
attribute [local irreducible] wpV wpList Code.wp

def setD (M : List Int) (i : Nat) (c : Int) : List Int := ((M.set (i * 4) c).set (i * 4 + 1) (min (M.getD (i * 4 + 1) 0) c)).set (i * 4 + 3) (min (M.getD (i * 4 + 3) 0) c)
theorem setD_length (M : List Int) (i : Nat) (c : Int) : (setD M i c).length = M.length := by unfold setD; simp only [List.length_set]
theorem getD_set (M : List Int) (a b : Nat) (x : Int) (ha : a < M.length) : (M.set a x).getD b 0 = if b = a then x else M.getD b 0 := by
  rw [List.getD_eq_getElem?_getD, set_get _ _ _ _ ha]
  by_cases h : b = a
  · rw [if_pos h, if_pos h]; rfl
  · rw [if_neg h, if_neg h, ← List.getD_eq_getElem?_getD]
theorem setD_get {M : List Int} {i n : Nat} (c : Int) (hM : M.length = n * 4) (hi : i < n) (b : Nat) : (setD M i c).getD b 0 = if b = i * 4 + 3 then min (M.getD (i * 4 + 3) 0) c else if b = i * 4 + 1 then min (M.getD (i * 4 + 1) 0) c else if b = i * 4 then c else M.getD b 0 := by
  unfold setD
  rw [getD_set _ _ _ _ (by simp only [List.length_set]; omega), getD_set _ _ _ _ (by simp only [List.length_set]; omega), getD_set _ _ _ _ (by omega)]
theorem rivB_setD {D M V : List Int} {n i : Nat} {c : Int} (h : rivB D M V n = true) (hM : M.length = n * 4) (hi : i < n) (h0 : 0 ≤ c) (h1 : c ≤ 1000000000) : rivB D (setD M i c) V n = true := by
  obtain ⟨k1, k2, k3⟩ := rivB_true h
  have hd := @rivB_dam D M V n h
  unfold rivB at h ⊢
  simp only [Bool.and_eq_true] at h ⊢
  refine ⟨⟨h.1.1, ?_⟩, h.2⟩
  rw [List.all_eq_true]
  intro j hj
  have hjd : j < D.length := List.mem_range.1 hj
  have hr := k2 j hjd
  unfold rowB at hr ⊢
  rw [Bool.and_eq_true, Bool.and_eq_true] at hr ⊢
  refine ⟨⟨hr.1.1, ?_⟩, hr.2⟩
  rw [setD_get c hM hi, setD_get c hM hi, setD_get c hM hi, setD_get c hM hi]
  by_cases e : j = i
  · subst e
    have h9 := hd hi
    rw [if_neg (by omega), if_neg (by omega), if_pos rfl, if_neg (by omega), if_pos rfl, if_neg (by omega), if_neg (by omega), if_neg (by omega), if_pos rfl]
    unfold damB unitB inB
    simp only [Bool.and_eq_true, decide_eq_true_eq]
    omega
  · rw [if_neg (by omega), if_neg (by omega), if_neg (by omega), if_neg (by omega), if_neg (by omega), if_neg (by omega), if_neg (by omega), if_neg (by omega), if_neg (by omega), if_neg (by omega), if_neg (by omega), if_neg (by omega)]
    exact hr.1.2
def enB (D M V : List Int) (Zs : List (List Int)) (n i : Nat) (c : Int) : Bool := decide (shoV (runTo D (setD M i c) V Zs n Zs.length).G V i Zs.length = 0)
/-- By halves. -/
def leaTo (e : Int → Bool) : Nat → Int → Int → Int
  | 0, _, high => high
  | f + 1, low, high => if low + 1 < high then (if e ((low + high) / 2) then leaTo e f low ((low + high) / 2) else leaTo e f ((low + high) / 2) high) else high
theorem leaTo_fuel (e : Int → Bool) : ∀ (f g : Nat) (low high : Int), (high - low).toNat ≤ f → (high - low).toNat ≤ g → leaTo e f low high = leaTo e g low high
  | 0, 0, _, _, _, _ => rfl
  | 0, g + 1, low, high, h, _ => by unfold leaTo; rw [if_neg (by omega)]
  | f + 1, 0, low, high, _, h => by unfold leaTo; rw [if_neg (by omega)]
  | f + 1, g + 1, low, high, h1, h2 => by
    unfold leaTo
    by_cases hc : low + 1 < high
    · rw [if_pos hc, if_pos hc, leaTo_fuel e f g low ((low + high) / 2) (by omega) (by omega), leaTo_fuel e f g ((low + high) / 2) high (by omega) (by omega)]
    · rw [if_neg hc, if_neg hc]
def leaG (e : Int → Bool) (low high : Int) : Int := leaTo e (high - low).toNat low high
theorem leaG_step (e : Int → Bool) {low high : Int} (h : low + 1 < high) : leaG e low high = if e ((low + high) / 2) then leaG e low ((low + high) / 2) else leaG e ((low + high) / 2) high := by
  obtain ⟨m, hm⟩ : ∃ m, (high - low).toNat = m + 1 := ⟨(high - low).toNat - 1, by omega⟩
  unfold leaG
  rw [hm]
  show (if low + 1 < high then (if e ((low + high) / 2) then leaTo e m low ((low + high) / 2) else leaTo e m ((low + high) / 2) high) else high) = _
  rw [if_pos h, leaTo_fuel e m ((low + high) / 2 - low).toNat low ((low + high) / 2) (by omega) (Nat.le_refl _), leaTo_fuel e m (high - (low + high) / 2).toNat ((low + high) / 2) high (by omega) (Nat.le_refl _)]
theorem leaG_end (e : Int → Bool) {low high : Int} (h : ¬ low + 1 < high) : leaG e low high = high := by
  unfold leaG
  cases hm : (high - low).toNat with
  | zero => rfl
  | succ m => unfold leaTo; rw [if_neg h]
def leaR (D M V : List Int) (n : Nat) (Zs : List (List Int)) (i most : Int) : Int × Bool := if nodeB D M V n i && (decide (Zs.length ≤ 64) && daysB Zs n) && unitB most && enB D M V Zs n i.toNat most then (leaG (enB D M V Zs n i.toNat) (-1) most, true) else (0, false)
end Go.Proofs.Ytckmacnmmloemaa
