/- When the ways of a river lead around: the order that takes nodes that nothing leads to any more has all nodes just where each way leads to the sea. -/
import Derived.Test.YtckmacnmmloemaaRowG
namespace Go.Proofs.Ytckmacnmmloemaa

/-- Where one comes from a place. -/
def nxt (D : List Int) (z : Int) : Int := if z < 0 then z else D.getD z.toNat 0
def walkD (D : List Int) : Nat → Int → Int
  | 0, z => z
  | k + 1, z => walkD D k (nxt D z)
theorem walkD_succ (D : List Int) : ∀ (k : Nat) (z : Int), walkD D (k + 1) z = nxt D (walkD D k z)
  | 0, z => rfl
  | k + 1, z => by rw [walkD, walkD_succ D k (nxt D z)]; rfl
def acycB (D : List Int) : Bool := (List.range D.length).all fun (i : Nat) => decide (walkD D (D.length + 1) (i : Int) < 0)
/-- No node that is not in C leads to i. -/
def noFeed (D : List Int) (C : List Nat) (i : Nat) : Bool := (List.range D.length).all fun j => C.contains j || !(D.getD j 0 == (i : Int))
def freeD (D : List Int) (C : List Nat) (i : Nat) : Bool := !C.contains i && noFeed D C i
def pickD (D : List Int) (C : List Nat) : Option Nat := (List.range D.length).find? (freeD D C)
def kahn (D : List Int) : Nat → List Nat
  | 0 => []
  | t + 1 => match pickD D (kahn D t) with
    | some i => kahn D t ++ [i]
    | none => kahn D t

theorem all_in_len : ∀ (n : Nat) (C : List Nat), (∀ i, i < n → i ∈ C) → n ≤ C.length
  | 0, _, _ => Nat.zero_le _
  | n + 1, C, h => by
    have h1 := all_in_len n (C.erase n) fun i hi => (List.mem_erase_of_ne (by omega)).2 (h i (by omega))
    rw [List.length_erase_of_mem (h n (Nat.lt_succ_self n))] at h1
    have : 0 < C.length := List.length_pos_of_mem (h n (Nat.lt_succ_self n))
    omega
theorem nodup_len : ∀ (n : Nat) (C : List Nat), C.Nodup → (∀ x ∈ C, x < n) → C.length ≤ n
  | 0, C, _, h => by
    cases C with
    | nil => exact Nat.le_refl _
    | cons a l => exact absurd (h a (by simp)) (by omega)
  | n + 1, C, hn, h => by
    have h1 := nodup_len n (C.erase n) (hn.erase n) fun x hx => by
      have h2 := (hn.mem_erase_iff).1 hx
      have := h x h2.2
      have := h2.1
      omega
    by_cases hm : n ∈ C
    · rw [List.length_erase_of_mem hm] at h1; omega
    · rw [List.erase_of_not_mem hm] at h1; omega

theorem freeD_not {D : List Int} {C : List Nat} {i : Nat} (h : freeD D C i = false) (hi : i ∉ C) : ∃ j, j < D.length ∧ j ∉ C ∧ D.getD j 0 = (i : Int) := by
  unfold freeD at h
  rw [show C.contains i = false by simpa using hi] at h
  simp only [Bool.not_false, Bool.true_and] at h
  unfold noFeed at h
  rw [List.all_eq_false] at h
  obtain ⟨j, hj, hb⟩ := h
  rw [List.mem_range] at hj
  simp at hb
  exact ⟨j, hj, hb.1, hb.2⟩
theorem freeD_yes {D : List Int} {C : List Nat} {i : Nat} (h : freeD D C i = true) : i ∉ C ∧ ∀ j, j < D.length → D.getD j 0 = (i : Int) → j ∈ C := by
  unfold freeD noFeed at h
  rw [Bool.and_eq_true, List.all_eq_true] at h
  refine ⟨by simpa using h.1, fun j hj he => ?_⟩
  have := h.2 j (List.mem_range.2 hj)
  rw [Bool.or_eq_true] at this
  rcases this with h5 | h5
  · simpa using h5
  · rw [he] at h5; simp at h5
theorem pickD_some {D : List Int} {C : List Nat} {i : Nat} (h : pickD D C = some i) : i < D.length ∧ freeD D C i = true ∧ ∀ j, j < i → freeD D C j = false := by
  unfold pickD at h
  have h1 := List.find?_some h
  have h2 := List.mem_of_find?_eq_some h
  rw [List.mem_range] at h2
  refine ⟨h2, h1, fun j hj => ?_⟩
  obtain ⟨_, l1, l2, heq, hall⟩ := List.find?_eq_some_iff_append.1 h
  have hj2 : j ∈ l1 := by
    have hlen : l1.length = i := by
      have h3 : (List.range D.length)[l1.length]? = some i := by rw [heq, List.getElem?_append_right (Nat.le_refl _), Nat.sub_self]; rfl
      have h5 : l1.length < D.length := by
        have := (List.getElem?_eq_some_iff.1 h3).1
        simpa using this
      rw [List.getElem?_range h5] at h3
      exact Option.some.inj h3
    have h4 : (List.range D.length)[j]? = some j := List.getElem?_range (by omega)
    rw [heq, List.getElem?_append_left (by omega)] at h4
    exact List.mem_of_getElem? h4
  have := hall j hj2
  simpa using this
theorem pickD_none {D : List Int} {C : List Nat} (h : pickD D C = none) : ∀ i, i < D.length → freeD D C i = false := by
  unfold pickD at h
  rw [List.find?_eq_none] at h
  intro i hi
  simpa using h i (List.mem_range.2 hi)
/-- What holds of the nodes that are taken so far. -/
structure Kd (D : List Int) (C : List Nat) : Prop where
  nd : C.Nodup
  lt : ∀ x ∈ C, x < D.length
  ord : ∀ x ∈ C, ∀ j, j < D.length → D.getD j 0 = (x : Int) → j ∈ C ∧ C.idxOf j < C.idxOf x
theorem idxOf_append_in {C : List Nat} {x i : Nat} (h : x ∈ C) : (C ++ [i]).idxOf x = C.idxOf x := by rw [List.idxOf_append, if_pos h]
theorem idxOf_append_new {C : List Nat} {i : Nat} (h : i ∉ C) : (C ++ [i]).idxOf i = C.length := by rw [List.idxOf_append, if_neg h]; simp
theorem kahn_kd (D : List Int) : ∀ t, Kd D (kahn D t)
  | 0 => ⟨List.nodup_nil, (fun x hx => by cases hx), (fun x hx => by cases hx)⟩
  | t + 1 => by
    have ih := kahn_kd D t
    unfold kahn
    cases hp : pickD D (kahn D t) with
    | none => exact ih
    | some i =>
      obtain ⟨h1, h2, _⟩ := pickD_some hp
      obtain ⟨h3, h4⟩ := freeD_yes h2
      refine ⟨?_, ?_, ?_⟩
      · rw [List.nodup_append]
        exact ⟨ih.nd, by simp, fun a ha b hb => by simp at hb; subst hb; intro he; subst he; exact h3 ha⟩
      · intro x hx
        rcases List.mem_append.1 hx with h | h
        · exact ih.lt x h
        · simp at h; omega
      · intro x hx j hj he
        rcases List.mem_append.1 hx with h | h
        · obtain ⟨a, b⟩ := ih.ord x h j hj he
          exact ⟨List.mem_append.2 (.inl a), by rw [idxOf_append_in a, idxOf_append_in h]; exact b⟩
        · simp at h
          subst h
          have a := h4 j hj he
          exact ⟨List.mem_append.2 (.inl a), by rw [idxOf_append_in a, idxOf_append_new h3]; exact List.idxOf_lt_length_of_mem a⟩
theorem kahn_le (D : List Int) (t : Nat) : (kahn D t).length ≤ t := by
  induction t with
  | zero => exact Nat.le_refl _
  | succ t ih =>
    unfold kahn
    cases pickD D (kahn D t) with
    | none => exact Nat.le_succ_of_le ih
    | some i => simp; exact ih
/-- Where no way leads around, there is always a node that can come next. -/
theorem kahn_full {D : List Int} (h : acycB D = true) : ∀ t, t ≤ D.length → (kahn D t).length = t
  | 0, _ => rfl
  | t + 1, ht => by
    have ih := kahn_full h t (by omega)
    unfold kahn
    cases hp : pickD D (kahn D t) with
    | some i => simp [ih]
    | none =>
      exfalso
      have hno := pickD_none hp
      have h0 : ∃ i, i < D.length ∧ i ∉ kahn D t := by
        apply Classical.byContradiction
        intro hc
        have := all_in_len D.length (kahn D t) fun i hi => by
          apply Classical.byContradiction
          intro hni
          exact hc ⟨i, hi, hni⟩
        omega
      have chain : ∀ m, ∃ j : Nat, j < D.length ∧ j ∉ kahn D t ∧ 0 ≤ walkD D m (j : Int) := by
        intro m
        induction m with
        | zero => obtain ⟨i, h1, h2⟩ := h0; exact ⟨i, h1, h2, by show (0 : Int) ≤ (i : Int); omega⟩
        | succ m ihm =>
          obtain ⟨j, h1, h2, h3⟩ := ihm
          obtain ⟨j', k1, k2, k3⟩ := freeD_not (hno j h1) h2
          refine ⟨j', k1, k2, ?_⟩
          show 0 ≤ walkD D m (nxt D (j' : Int))
          unfold nxt
          rw [if_neg (by omega), Int.toNat_natCast, k3]
          exact h3
      obtain ⟨j, h1, _, h3⟩ := chain (D.length + 1)
      unfold acycB at h
      rw [List.all_eq_true] at h
      have := h j (List.mem_range.2 h1)
      rw [decide_eq_true_eq] at this
      omega
/-- Where all nodes are taken, no way leads around. -/
theorem kahn_acyc {D : List Int} (hr : ∀ j, j < D.length → D.getD j 0 < (D.length : Int)) (h : (kahn D D.length).length = D.length) : acycB D = true := by
  have hk := kahn_kd D D.length
  generalize kahn D D.length = C at h hk
  have hall : ∀ i, i < D.length → i ∈ C := by
    intro i hi
    apply Classical.byContradiction
    intro hni
    have := nodup_len D.length (i :: C) (List.nodup_cons.2 ⟨hni, hk.nd⟩) fun x hx => by
      rcases List.mem_cons.1 hx with h1 | h1
      · omega
      · exact hk.lt x h1
    simp at this
    omega
  have key : ∀ (k : Nat) (i : Nat), i < D.length → 0 ≤ walkD D k (i : Int) → ∃ x : Nat, walkD D k (i : Int) = (x : Int) ∧ x ∈ C ∧ k ≤ C.idxOf x := by
    intro k
    induction k with
    | zero => intro i hi _; exact ⟨i, rfl, hall i hi, Nat.zero_le _⟩
    | succ k ih =>
      intro i hi hge
      rw [walkD_succ] at hge ⊢
      by_cases hz : walkD D k (i : Int) < 0
      · unfold nxt at hge; rw [if_pos hz] at hge; omega
      · obtain ⟨x, h1, h2, h3⟩ := ih i hi (by omega)
        rw [h1] at hge ⊢
        unfold nxt at hge ⊢
        rw [if_neg (by omega), Int.toNat_natCast] at hge ⊢
        have hx := hk.lt x h2
        have hlt := hr x hx
        refine ⟨(D.getD x 0).toNat, by omega, hall _ (by omega), ?_⟩
        obtain ⟨_, h5⟩ := hk.ord (D.getD x 0).toNat (hall _ (by omega)) x hx (by omega)
        omega
  unfold acycB
  rw [List.all_eq_true]
  intro i hi
  rw [List.mem_range] at hi
  rw [decide_eq_true_eq, walkD_succ]
  have hneg : walkD D D.length (i : Int) < 0 := by
    apply Classical.byContradiction
    intro hc
    obtain ⟨x, _, h2, h3⟩ := key D.length i hi (by omega)
    have := List.idxOf_lt_length_of_mem h2
    omega
  unfold nxt
  rw [if_pos hneg]
  exact hneg
theorem kahn_iff {D : List Int} (hr : ∀ j, j < D.length → D.getD j 0 < (D.length : Int)) : decide ((kahn D D.length).length = D.length) = acycB D := by
  cases h : acycB D with
  | true => exact decide_eq_true (kahn_full h D.length (Nat.le_refl _))
  | false =>
    refine decide_eq_false fun hc => ?_
    rw [kahn_acyc hr hc] at h
    cases h
end Go.Proofs.Ytckmacnmmloemaa
