/- A canal's run: plain facts. -/
import Derived.Test.YtgnkpppbhibfoaaTickR
namespace Go.Proofs.Ytgnkpppbhibfoaa
open Go.RowKit
set_option linter.unusedVariables false
set_option linter.unusedSimpArgs false
set_option maxRecDepth 100000
attribute [local irreducible] wpV wpList Code.wp

theorem newF_is (N0 N1 N2 : Option Nat) (S O : List Nat) (X T : Option Nat) (k : Nat) : ∃ z, Is32 (newF N0 N1 N2 S O X T k) z := Is32.nef (.inr (.inr (.inr rfl))) _ _
theorem newH_is (N0 N1 N2 : Option Nat) (S O : List Nat) (X T : Option Nat) (k : Nat) : ∃ z, Is32 (newH N0 N1 N2 S O X T k) z := Is32.nef (.inl rfl) _ _
theorem wordsO_lt {f : Nat → Option Nat} (h : ∀ j, ∃ z, Is32 (f j) z) (n : Nat) : ∀ z ∈ wordsO f n, z < 4294967296 := by
  intro z hz
  unfold wordsO at hz
  obtain ⟨j, _, rfl⟩ := List.mem_map.1 hz
  obtain ⟨y, hy⟩ := h j
  cases hx : f j with
  | none => decide
  | some v => rw [hx] at hy; have e := hy.eq; have l := hy.2; subst e; exact l
theorem wordsO_len (f : Nat → Option Nat) (n : Nat) : (wordsO f n).length = n := by simp [wordsO]
theorem tickR_ok {N0 N1 N2 : Option Nat} {S O : List Nat} {X T : Option Nat} (h : (tickR N0 N1 N2 S O X T).ok = true) : tickR N0 N1 N2 S O X T = ⟨N0, N1, N2, wordsO (newH N0 N1 N2 S O X T) S.length, wordsO (newF N0 N1 N2 S O X T) S.length, true⟩ ∧ stepB N0 N1 N2 S O X T = true := by
  unfold tickR at h ⊢
  split at h
  · rename_i hc
    rw [if_pos hc]
    rw [Bool.and_eq_true] at hc
    exact ⟨rfl, hc.1⟩
  · cases h
theorem tickR_bad {N0 N1 N2 : Option Nat} {S O : List Nat} {X T : Option Nat} (h : (tickR N0 N1 N2 S O X T).ok = false) : tickR N0 N1 N2 S O X T = failCan := by
  unfold tickR at h ⊢
  split at h
  · cases h
  · rename_i hc
    rw [if_neg hc]
/-- Canals, tick by tick. -/
def rcIt (N0 N1 N2 : Option Nat) (S O X : List Nat) (T : Option Nat) : Nat → CanR
  | 0 => ⟨N0, N1, N2, S, O, true⟩
  | k + 1 => if (rcIt N0 N1 N2 S O X T k).ok then tickR N0 N1 N2 (rcIt N0 N1 N2 S O X T k).hs (rcIt N0 N1 N2 S O X T k).fs (some (X.getD k 0)) T else failCan
def rcEnd (R : CanR) : Nat := R.hs.getD (R.hs.length - 1) 0
def rcEnds (N0 N1 N2 : Option Nat) (S O X : List Nat) (T : Option Nat) (k : Nat) : List Nat := (List.range k).map fun j => rcEnd (rcIt N0 N1 N2 S O X T (j + 1))
def runC (N0 N1 N2 : Option Nat) (S O X : List Nat) (T : Option Nat) : CanR × List Nat :=
  if (canalB N0 N1 N2 S O && decide (X.length ≤ 128) && posO T) && (rcIt N0 N1 N2 S O X T X.length).ok then (rcIt N0 N1 N2 S O X T X.length, rcEnds N0 N1 N2 S O X T X.length) else (failCan, [])
theorem rcEnds_succ (N0 N1 N2 : Option Nat) (S O X : List Nat) (T : Option Nat) (k : Nat) : rcEnds N0 N1 N2 S O X T (k + 1) = rcEnds N0 N1 N2 S O X T k ++ [rcEnd (rcIt N0 N1 N2 S O X T (k + 1))] := by unfold rcEnds; rw [List.range_succ, List.map_append]; rfl
theorem rcEnds_len (N0 N1 N2 : Option Nat) (S O X : List Nat) (T : Option Nat) (k : Nat) : (rcEnds N0 N1 N2 S O X T k).length = k := by simp [rcEnds]
theorem rcIt_no {N0 N1 N2 : Option Nat} {S O X : List Nat} {T : Option Nat} {k : Nat} (h : (rcIt N0 N1 N2 S O X T k).ok = false) : ∀ m, (rcIt N0 N1 N2 S O X T (k + m)).ok = false
  | 0 => h
  | m + 1 => by
    show (if (rcIt N0 N1 N2 S O X T (k + m)).ok then _ else failCan).ok = false
    rw [rcIt_no h m]
    rfl
theorem rcIt_bad {N0 N1 N2 : Option Nat} {S O X : List Nat} {T : Option Nat} {k n : Nat} (h : (rcIt N0 N1 N2 S O X T k).ok = false) (hk : k ≤ n) : (rcIt N0 N1 N2 S O X T n).ok = false := by
  have h9 := rcIt_no h (n - k)
  rwa [Nat.add_sub_cancel' hk] at h9
theorem rcIt_next {N0 N1 N2 : Option Nat} {S O X : List Nat} {T : Option Nat} {k : Nat} {hs fs : List Nat} (h : rcIt N0 N1 N2 S O X T k = ⟨N0, N1, N2, hs, fs, true⟩) : rcIt N0 N1 N2 S O X T (k + 1) = tickR N0 N1 N2 hs fs (some (X.getD k 0)) T := by
  show (if (rcIt N0 N1 N2 S O X T k).ok then tickR N0 N1 N2 (rcIt N0 N1 N2 S O X T k).hs (rcIt N0 N1 N2 S O X T k).fs (some (X.getD k 0)) T else failCan) = _
  rw [h]; rfl
theorem rcIt_fin {N0 N1 N2 : Option Nat} {S O X : List Nat} {T : Option Nat} (h : (rcIt N0 N1 N2 S O X T X.length).ok = true) : X.all fin32 = true := by
  rw [List.all_eq_true]
  intro z hz
  obtain ⟨i, hi, rfl⟩ := List.getElem_of_mem hz
  cases hb : (rcIt N0 N1 N2 S O X T (i + 1)).ok with
  | false => rw [rcIt_bad hb hi] at h; cases h
  | true =>
    have h9 : (if (rcIt N0 N1 N2 S O X T i).ok then tickR N0 N1 N2 (rcIt N0 N1 N2 S O X T i).hs (rcIt N0 N1 N2 S O X T i).fs (some (X.getD i 0)) T else failCan).ok = true := hb
    split at h9
    · have h8 := (tickR_ok h9).2
      unfold stepB at h8
      simp only [Bool.and_eq_true] at h8
      have h7 := h8.1.2
      rw [getD_get hi] at h7
      exact h7
    · cases h9
theorem runC_no {N0 N1 N2 : Option Nat} {S O X : List Nat} {T : Option Nat} (h : ((canalB N0 N1 N2 S O && decide (X.length ≤ 128) && posO T) && (rcIt N0 N1 N2 S O X T X.length).ok) = false) : runC N0 N1 N2 S O X T = (failCan, []) := by unfold runC; rw [h]; rfl
theorem runC_yes {N0 N1 N2 : Option Nat} {S O X : List Nat} {T : Option Nat} {hs fs : List Nat} (h1 : canalB N0 N1 N2 S O = true) (h2 : X.length ≤ 128) (h3 : posO T = true) (h : rcIt N0 N1 N2 S O X T X.length = ⟨N0, N1, N2, hs, fs, true⟩) : runC N0 N1 N2 S O X T = (⟨N0, N1, N2, hs, fs, true⟩, rcEnds N0 N1 N2 S O X T X.length) := by
  unfold runC; rw [h1, decide_eq_true h2, h3, h]; rfl
theorem runC_bad {N0 N1 N2 : Option Nat} {S O X : List Nat} {T : Option Nat} {k : Nat} (h : (rcIt N0 N1 N2 S O X T k).ok = false) (hk : k ≤ X.length) : runC N0 N1 N2 S O X T = (failCan, []) := runC_no (by rw [rcIt_bad h hk, Bool.and_false])
theorem tick_next {N0 N1 N2 : Option Nat} {S O : List Nat} {X T : Option Nat} {Y Z : List Nat} (hs : stepB N0 N1 N2 S O X T = true) (hy : Upto (newH N0 N1 N2 S O X T) S.length S Y) (hz : Upto (newF N0 N1 N2 S O X T) S.length O Z) : tickR N0 N1 N2 S O X T = if canalB N0 N1 N2 Y Z then ⟨N0, N1, N2, Y, Z, true⟩ else failCan := by
  obtain ⟨hc, ho, h1⟩ := canal_next (stepB_canal hs) hy hz
  rw [hc]
  cases ha : allO (newH N0 N1 N2 S O X T) S.length && allO (newF N0 N1 N2 S O X T) S.length
  · unfold tickR; rw [hs, ha]; rfl
  · have h9 := ha
    rw [Bool.and_eq_true] at h9
    unfold tickR
    rw [hs, ha, hy.words rfl h9.1, hz.words ho.symm h9.2]
    rfl
theorem rest_len (A : List Nat) (n k : Nat) (h : A.length = k) (hk : k ≤ n) : (A ++ List.replicate (n - k) 0).length = n := by simp; omega
theorem rest_set (A : List Nat) (n k z : Nat) (h : A.length = k) (hk : k < n) : (A ++ List.replicate (n - k) 0).set k z = (A ++ [z]) ++ List.replicate (n - (k + 1)) 0 := by
  subst h
  obtain ⟨m, hm⟩ : ∃ m, n - A.length = m + 1 := ⟨n - A.length - 1, by omega⟩
  have hm2 : n - (A.length + 1) = m := by omega
  rw [hm, hm2, List.set_append_right _ _ (Nat.le_refl _), Nat.sub_self, List.replicate_succ, List.set_cons_zero, List.append_assoc]
  rfl
/-- A canal, a list and a bool: in new memory. -/
def RunS (R : CanR × List Nat) (w : World) (e : Ending) (w' : World) : Prop :=
  ∃ y0 y1 y2 a0 c0 a1 c1 a2 c2, e = .returned (.tuple #[.agg #[.float .f32 y0, .float .f32 y1, .float .f32 y2, .slice a0 R.1.hs.length c0, .slice a1 R.1.fs.length c1], .slice a2 R.2.length c2, .bool R.1.ok]) ∧ (Is32 R.1.n0 y0 ∧ Is32 R.1.n1 y1 ∧ Is32 R.1.n2 y2) ∧ RowF .f32 w' a0 R.1.hs ∧ RowF .f32 w' a1 R.1.fs ∧ RowF .f32 w' a2 R.2 ∧ R.1.hs.length ≤ 1048576 ∧ R.1.fs.length ≤ 1048576 ∧ R.2.length ≤ 1048576 ∧ Below w.heap.size w w'
def RunI (R : CanR × List Nat) (w : World) (e : Ending) (w' : World) : Prop :=
  ∃ y0 y1 y2 a0 c0 a1 c1 a2 c2 lo mid hi lo2 hi2, e = .returned (.tuple #[.agg #[.float .f32 y0, .float .f32 y1, .float .f32 y2, .slice a0 R.1.hs.length c0, .slice a1 R.1.fs.length c1], .slice a2 R.2.length c2, .bool R.1.ok]) ∧ (Is32 R.1.n0 y0 ∧ Is32 R.1.n1 y1 ∧ Is32 R.1.n2 y2) ∧ FRow w' lo mid (.slice a0 R.1.hs.length c0) R.1.hs ∧ FRow w' mid hi (.slice a1 R.1.fs.length c1) R.1.fs ∧ FRow w' lo2 hi2 (.slice a2 R.2.length c2) R.2 ∧
    (w.heap.size ≤ lo ∧ lo ≤ mid ∧ mid ≤ hi ∧ hi ≤ w'.heap.size ∧ w.heap.size ≤ lo2 ∧ lo2 ≤ hi2 ∧ hi2 ≤ w'.heap.size ∧ (hi2 ≤ lo ∨ hi ≤ lo2)) ∧ R.1.hs.length ≤ 1048576 ∧ R.1.fs.length ≤ 1048576 ∧ R.2.length ≤ 1048576 ∧ Below w.heap.size w w'
theorem RunS.no {w w' : World} (hb : Below w.heap.size w w') : RunS (failCan, []) w (.returned (.tuple #[.agg #[.float .f32 0, .float .f32 0, .float .f32 0, .slice none 0 0, .slice none 0 0], .slice none 0 0, .bool false])) w' :=
  ⟨0, 0, 0, none, 0, none, 0, none, 0, rfl, ⟨Is32.c (by decide), Is32.c (by decide), Is32.c (by decide)⟩, .inl rfl, .inl rfl, .inl rfl, by decide, by decide, by decide, hb⟩
theorem RunI.no {w w' : World} (hb : Below w.heap.size w w') : RunI (failCan, []) w (.returned (.tuple #[.agg #[.float .f32 0, .float .f32 0, .float .f32 0, .slice none 0 0, .slice none 0 0], .slice none 0 0, .bool false])) w' :=
  ⟨0, 0, 0, none, 0, none, 0, none, 0, w'.heap.size, w'.heap.size, w'.heap.size, w'.heap.size, w'.heap.size, rfl, ⟨Is32.c (by decide), Is32.c (by decide), Is32.c (by decide)⟩, FRow.nil w' _, FRow.nil w' _, FRow.nil w' _, ⟨hb.size, Nat.le_refl _, Nat.le_refl _, Nat.le_refl _, hb.size, Nat.le_refl _, Nat.le_refl _, .inl (Nat.le_refl _)⟩, by decide, by decide, by decide, hb⟩

end Go.Proofs.Ytgnkpppbhibfoaa
