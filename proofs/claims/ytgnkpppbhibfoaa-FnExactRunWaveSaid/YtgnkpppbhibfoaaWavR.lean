/- Runs of a slope: plain facts. -/
import Derived.Test.YtgnkpppbhibfoaaWavD
import Derived.Test.YtgnkpppbhibfoaaRouteA
import Derived.Test.YtgnkpppbhibfoaaIsRain
namespace Go.Proofs.Ytgnkpppbhibfoaa
open Go.RowKit
set_option linter.unusedVariables false
set_option linter.unusedSimpArgs false
set_option maxRecDepth 100000
attribute [local irreducible] wpV wpList Code.wp

/-- Slopes, tick by tick. -/
def wvIt (R D T : Option Nat) (A X : List Nat) : Nat → List Nat × Option Nat × Bool
  | 0 => (A, some 0, true)
  | k + 1 => if (wvIt R D T A X k).2.2 then stepW R (some (X.getD k 0)) D T (wvIt R D T A X k).1 else failWav
def wvOuts (R D T : Option Nat) (A X : List Nat) (k : Nat) : List (Option Nat) := (List.range k).map fun j => (wvIt R D T A X (j + 1)).2.1
def waterB (X : List Nat) : Bool := insB X && rainB X
def runW (R D T : Option Nat) (A X : List Nat) : List Nat × List Nat × Bool :=
  if waterB X && (wvIt R D T A X X.length).2.2 then ((wvIt R D T A X X.length).1, (wvOuts R D T A X X.length).map (fun Y => Y.getD 0), true) else ([], [], false)
theorem wvOuts_succ (R D T : Option Nat) (A X : List Nat) (k : Nat) : wvOuts R D T A X (k + 1) = wvOuts R D T A X k ++ [(wvIt R D T A X (k + 1)).2.1] := by unfold wvOuts; rw [List.range_succ, List.map_append]; rfl
theorem wvOuts_len (R D T : Option Nat) (A X : List Nat) (k : Nat) : (wvOuts R D T A X k).length = k := by simp [wvOuts]
theorem wvIt_no {R D T : Option Nat} {A X : List Nat} {k : Nat} (h : (wvIt R D T A X k).2.2 = false) : ∀ m, (wvIt R D T A X (k + m)).2.2 = false
  | 0 => h
  | m + 1 => by
    show (if (wvIt R D T A X (k + m)).2.2 then _ else failWav).2.2 = false
    rw [wvIt_no h m]
    rfl
theorem wvIt_bad {R D T : Option Nat} {A X : List Nat} {k n : Nat} (h : (wvIt R D T A X k).2.2 = false) (hk : k ≤ n) : (wvIt R D T A X n).2.2 = false := by
  have h9 := wvIt_no h (n - k)
  rwa [Nat.add_sub_cancel' hk] at h9
theorem wvIt_next {R D T : Option Nat} {A X : List Nat} {k : Nat} {zs : List Nat} {F : Option Nat} (h : wvIt R D T A X k = (zs, F, true)) : wvIt R D T A X (k + 1) = stepW R (some (X.getD k 0)) D T zs := by
  show (if (wvIt R D T A X k).2.2 then stepW R (some (X.getD k 0)) D T (wvIt R D T A X k).1 else failWav) = _
  rw [h]; rfl
theorem stepW_bad {R I D T : Option Nat} {A : List Nat} (h : (stepW R I D T A).2.2 = false) : stepW R I D T A = failWav := by
  unfold stepW at h ⊢
  split at h
  · rename_i hc
    rw [if_pos hc]
    unfold waveV at h ⊢
    split at h
    · cases h
    · rename_i hn; rw [if_neg hn]
  · rename_i hc; rw [if_neg hc]
theorem wnx_is (R I D T : Option Nat) (A : List Nat) (k : Nat) : ∃ z, Is32 (wnx R I D T A k) z := by
  unfold wnx clampO
  split
  · exact ⟨0, Is32.c (by decide)⟩
  · exact Is32.nef (.inl rfl) _ _
/-- What comes of a tick that does not fail. -/
theorem stepW_ok {R I D T : Option Nat} {A : List Nat} (h : (stepW R I D T A).2.2 = true) : guardW R D T A = true ∧ amtO I = true ∧ (stepW R I D T A).1.length = A.length ∧ (∀ z ∈ (stepW R I D T A).1, z < 4294967296) ∧ slopeW (stepW R I D T A).1 = true ∧ fin32o (stepW R I D T A).2.1 = true := by
  unfold stepW at h ⊢
  split at h
  · rename_i hc
    rw [if_pos hc]
    rw [Bool.and_eq_true] at hc
    unfold waveV at h ⊢
    split at h
    · rename_i hw
      rw [if_pos hw]
      simp only [Bool.and_eq_true] at hw
      obtain ⟨_, hf, hl⟩ := hw
      have hz : ∀ z ∈ (nxL R I D T A A.length).map (fun Y => Y.getD 0), z < 4294967296 := by
        intro z hz
        obtain ⟨Y, hY, rfl⟩ := List.mem_map.1 hz
        unfold nxL at hY
        obtain ⟨j, _, rfl⟩ := List.mem_map.1 hY
        obtain ⟨y, hy⟩ := wnx_is R I D T A j
        cases hx : wnx R I D T A j with
        | none => decide
        | some v => rw [hx] at hy; have e := hy.eq; have l := hy.2; subst e; exact l
      have hI : Is32s (nxL R I D T A A.length) ((nxL R I D T A A.length).map (fun Y => Y.getD 0)) := by
        refine ⟨by simp, fun i hi => ?_⟩
        have hi2 : i < (nxL R I D T A A.length).length := by simpa using hi
        have hm : (nxL R I D T A A.length)[i] ∈ nxL R I D T A A.length := List.getElem_mem _
        have hfi := List.all_eq_true.1 hf _ hm
        have hz9 := hz (((nxL R I D T A A.length)[i]).getD 0) (List.mem_map.2 ⟨_, hm, rfl⟩)
        rw [List.getD_eq_getElem?_getD, List.getD_eq_getElem?_getD, List.getElem?_map, List.getElem?_eq_getElem hi2]
        simp only [Option.map_some, Option.getD_some]
        cases hx : (nxL R I D T A A.length)[i] with
        | none => rw [hx] at hfi; cases hfi
        | some v => rw [hx] at hz9; exact Is32.c hz9
      refine ⟨hc.1, hc.2, by simp [nxL], hz, ?_, hl⟩
      have hg := hc.1
      unfold guardW at hg
      simp only [Bool.and_eq_true] at hg
      rw [slope_next hg.1.1.1 hI]
      exact hf
    · cases h
  · cases h
theorem runW_no {R D T : Option Nat} {A X : List Nat} (h : (waterB X && (wvIt R D T A X X.length).2.2) = false) : runW R D T A X = ([], [], false) := by unfold runW; rw [h]; rfl
theorem runW_bad {R D T : Option Nat} {A X : List Nat} {k : Nat} (h : (wvIt R D T A X k).2.2 = false) (hk : k ≤ X.length) : runW R D T A X = ([], [], false) := runW_no (by rw [wvIt_bad h hk, Bool.and_false])
theorem runW_yes {R D T : Option Nat} {A X zs : List Nat} {F : Option Nat} (h1 : waterB X = true) (h : wvIt R D T A X X.length = (zs, F, true)) : runW R D T A X = (zs, (wvOuts R D T A X X.length).map (fun Y => Y.getD 0), true) := by
  unfold runW; rw [h1, h]; rfl
theorem wvOuts_fin {R D T : Option Nat} {A X : List Nat} {n : Nat} (h : (wvIt R D T A X n).2.2 = true) : (wvOuts R D T A X n).all fin32o = true := by
  unfold wvOuts
  rw [List.all_map, List.all_eq_true]
  intro j hj
  have hj' : j < n := List.mem_range.1 hj
  cases hb : (wvIt R D T A X (j + 1)).2.2 with
  | false => rw [wvIt_bad hb hj'] at h; cases h
  | true =>
    have h9 : (if (wvIt R D T A X j).2.2 then stepW R (some (X.getD j 0)) D T (wvIt R D T A X j).1 else failWav).2.2 = true := hb
    have he : wvIt R D T A X (j + 1) = if (wvIt R D T A X j).2.2 then stepW R (some (X.getD j 0)) D T (wvIt R D T A X j).1 else failWav := rfl
    split at h9
    · rename_i hc
      show fin32o (wvIt R D T A X (j + 1)).2.1 = true
      rw [he, if_pos hc]
      exact (stepW_ok h9).2.2.2.2.2
    · cases h9
theorem wvIt_first {R D T : Option Nat} {A X : List Nat} {n : Nat} (hn : 1 ≤ n) (h : (wvIt R D T A X n).2.2 = true) : guardW R D T A = true := by
  cases hb : (wvIt R D T A X 1).2.2 with
  | false => rw [wvIt_bad hb hn] at h; cases h
  | true => exact (stepW_ok (I := some (X.getD 0 0)) (show (stepW R (some (X.getD 0 0)) D T A).2.2 = true from hb)).1
theorem fill_len9 (A : List Nat) (n k : Nat) (h : A.length = k) (hk : k ≤ n) : (A ++ List.replicate (n - k) 0).length = n := by simp; omega
theorem fill_set9 (A : List Nat) (n k z : Nat) (h : A.length = k) (hk : k < n) : (A ++ List.replicate (n - k) 0).set k z = (A ++ [z]) ++ List.replicate (n - (k + 1)) 0 := by
  subst h
  obtain ⟨m, hm⟩ : ∃ m, n - A.length = m + 1 := ⟨n - A.length - 1, by omega⟩
  have hm2 : n - (A.length + 1) = m := by omega
  rw [hm, hm2, List.set_append_right _ _ (Nat.le_refl _), Nat.sub_self, List.replicate_succ, List.set_cons_zero, List.append_assoc]
  rfl
theorem PostLL.fails {w w' : World} (hb : Below w.heap.size w w') : PostLL [] [] false w (.returned (.tuple #[.slice none 0 0, .slice none 0 0, .bool false])) w' :=
  ⟨none, 0, w'.heap.size, w'.heap.size, none, 0, w'.heap.size, w'.heap.size, rfl, FRow.nil w' _, FRow.nil w' _, hb.size, hb.size, by decide, by decide, .inl (Nat.le_refl _), hb⟩

end Go.Proofs.Ytgnkpppbhibfoaa
