/- The order of a river's nodes: the words of the model's waits. -/
import Derived.Test.YtckmacnmmloemaaOrdV
namespace Go.Proofs.Ytckmacnmmloemaa
open Go.RowKit
set_option linter.unusedVariables false
set_option linter.unusedSimpArgs false
set_option maxRecDepth 100000
/-- How many lead to each node, of the first k; of the nodes that are taken, -1. -/
def wtP (D : List Int) (k n : Nat) : List Int := (List.range n).map fun j => (cntP D [] k j : Int)
def wtV (D : List Int) (C : List Nat) (n : Nat) : List Int := (List.range n).map fun j => if C.contains j then (-1 : Int) else (cntP D C n j : Int)
theorem wtP_length (D : List Int) (k n : Nat) : (wtP D k n).length = n := by simp [wtP]
theorem wtV_length (D : List Int) (C : List Nat) (n : Nat) : (wtV D C n).length = n := by simp [wtV]
theorem wtP_getD {D : List Int} {k n j : Nat} (h : j < n) : (wtP D k n).getD j 0 = (cntP D [] k j : Int) := by
  rw [List.getD_eq_getElem?_getD]; unfold wtP; rw [List.getElem?_map, List.getElem?_range h]; rfl
theorem wtV_getD {D : List Int} {C : List Nat} {n j : Nat} (h : j < n) : (wtV D C n).getD j 0 = if C.contains j then (-1 : Int) else (cntP D C n j : Int) := by
  rw [List.getD_eq_getElem?_getD]; unfold wtV; rw [List.getElem?_map, List.getElem?_range h]; rfl
theorem wtP_zero (D : List Int) (n : Nat) : wtP D 0 n = List.replicate n 0 := by
  apply List.ext_getElem?
  intro i
  unfold wtP
  by_cases hi : i < n
  · rw [List.getElem?_map, List.getElem?_range hi, List.getElem?_replicate, if_pos hi]; rfl
  · rw [List.getElem?_eq_none (by simp; omega), List.getElem?_eq_none (by simp; omega)]
theorem map_set_eq {n p : Nat} {f g : Nat → Int} {v : Int} (hp : p < n) (hv : v = g p) (he : ∀ j, j < n → j ≠ p → f j = g j) : ((List.range n).map f).set p v = (List.range n).map g := by
  apply List.ext_getElem?
  intro i
  by_cases hi : i < n
  · by_cases e : i = p
    · subst e; rw [List.getElem?_set_self (by simpa using hp), List.getElem?_map, List.getElem?_range hi, hv]; rfl
    · rw [List.getElem?_set_ne (fun h => e h.symm), List.getElem?_map, List.getElem?_range hi, List.getElem?_map, List.getElem?_range hi]
      simp only [Option.map_some]
      rw [he i hi e]
  · rw [List.getElem?_eq_none (by simp; omega), List.getElem?_eq_none (by simp; omega)]
theorem wtP_hit {D : List Int} {k n d : Nat} (hd : d < n) (h : D.getD k 0 = (d : Int)) : (wtP D k n).set d ((cntP D [] k d : Int) + 1) = wtP D (k + 1) n := by
  unfold wtP
  refine map_set_eq hd ?_ fun j hj hne => ?_
  · rw [cntP_succ, if_pos ⟨List.not_mem_nil, h⟩]; omega
  · rw [cntP_succ, if_neg (fun h9 => hne (by have := h9.2; rw [h] at this; omega))]; rfl
theorem wtP_miss {D : List Int} {k n : Nat} (h : D.getD k 0 < 0) : wtP D k n = wtP D (k + 1) n := by
  unfold wtP
  refine List.map_congr_left fun j hj => ?_
  rw [cntP_succ, if_neg (fun h9 => by have := h9.2; omega)]; rfl
theorem wtP_all (D : List Int) (n : Nat) : wtP D n n = wtV D [] n := by
  unfold wtP wtV
  refine List.map_congr_left fun j hj => ?_
  rw [if_neg (by simp)]
theorem wtV_leaves {D : List Int} {C : List Nat} {i : Nat} (hf : freeD D C i = true) (hi : i < D.length) (hd : D.getD i 0 < 0) : (wtV D C D.length).set i (-1) = wtV D (C ++ [i]) D.length := by
  obtain ⟨hiC, _⟩ := freeD_yes hf
  unfold wtV
  refine map_set_eq hi ?_ fun j hj hne => ?_
  · rw [if_pos (by simp)]
  · have hp := cntP_push (D := D) (C := C) (x := i) (d := j) hiC D.length
    rw [if_neg (fun h9 => by have := h9.2; omega)] at hp
    have e1 : (C ++ [i]).contains j = C.contains j := by simp [hne]
    rw [e1]
    cases C.contains j
    · rw [if_neg (by decide), if_neg (by decide)]; omega
    · rw [if_pos rfl, if_pos rfl]
theorem free_way {D : List Int} {C : List Nat} {i d : Nat} (hk : Kd D C) (hf : freeD D C i = true) (hi : i < D.length) (hd : D.getD i 0 = (d : Int)) : d ≠ i ∧ C.contains d = false := by
  obtain ⟨hiC, hfe⟩ := freeD_yes hf
  refine ⟨fun e => by subst e; exact hiC (hfe d hi hd), ?_⟩
  have : d ∉ C := fun hm => hiC ((hk.ord d hm i hi hd).1)
  simpa using this
theorem wtV_takes {D : List Int} {C : List Nat} {i d : Nat} (hk : Kd D C) (hf : freeD D C i = true) (hi : i < D.length) (hd : D.getD i 0 = (d : Int)) (hdn : d < D.length) :
    ((wtV D C D.length).set i (-1)).set d ((cntP D C D.length d : Int) - 1) = wtV D (C ++ [i]) D.length := by
  obtain ⟨hiC, hfe⟩ := freeD_yes hf
  obtain ⟨hdi, hdC⟩ := free_way hk hf hi hd
  have h1 : (wtV D C D.length).set i (-1) = (List.range D.length).map fun j => if (C ++ [i]).contains j then (-1 : Int) else (cntP D C D.length j : Int) := by
    unfold wtV
    refine map_set_eq hi ?_ fun j hj hne => ?_
    · rw [if_pos (by simp)]
    · have e1 : (C ++ [i]).contains j = C.contains j := by simp [hne]
      rw [e1]
  rw [h1]
  unfold wtV
  refine map_set_eq hdn ?_ fun j hj hne => ?_
  · have hp := cntP_push (D := D) (C := C) (x := i) (d := d) hiC D.length
    rw [if_pos ⟨hi, hd⟩] at hp
    have e1 : (C ++ [i]).contains d = false := by
      have : d ∉ C := by simpa using hdC
      simp [hdi, this]
    rw [e1, if_neg (by decide)]
    omega
  · have hp := cntP_push (D := D) (C := C) (x := i) (d := j) hiC D.length
    rw [if_neg (fun h9 => hne (by have := h9.2; rw [hd] at this; omega))] at hp
    rw [show cntP D C D.length j = cntP D (C ++ [i]) D.length j by omega]
theorem kahn_next {D : List Int} (h : acycB D = true) {t : Nat} (ht : t < D.length) : ∃ p, pickD D (kahn D t) = some p ∧ p < D.length ∧ freeD D (kahn D t) p = true ∧ (∀ j, j < p → freeD D (kahn D t) j = false) ∧ kahn D (t + 1) = kahn D t ++ [p] := by
  cases hp : pickD D (kahn D t) with
  | none =>
    have h1 := kahn_full h (t + 1) (by omega)
    have h2 := kahn_full h t (by omega)
    rw [kahn_miss hp] at h1
    omega
  | some p =>
    obtain ⟨h1, h2, h3⟩ := pickD_some hp
    exact ⟨p, rfl, h1, h2, h3, kahn_hit hp⟩
end Go.Proofs.Ytckmacnmmloemaa
