/- Regions that draw their order, by a state that tells which operations are done: each operation is walked once, from any such state. For regions whose stores may go ahead of operations of the text (a call's results given to a struct, a cell and a variable). -/
import Derived.Test.YtdmcjloaommnpaaRegionT
namespace Go.Proofs.Ytdmcjloaommnpaa
open Go.RowKit

def QI (K : Act → World → Prop) (e : Exit) (a : Act) (w : World) : Prop := match e with | .normal => K a w | _ => False
theorem QI.no {K : Act → World → Prop} : ¬ LetsOut (QI K) := fun ⟨_, _, h⟩ => h
theorem wp_of_QI {P : Program} {o : Oper} {a : Act} {w : World} {K : Act → World → Prop} {Q : Exit → Act → World → Prop} (hh : o.wp P a w K (QI K)) : o.wp P a w K Q := by
  unfold Oper.wp at *
  generalize (execOp a.eval o).run P w = r at *
  cases r with
  | ok n w' =>
    cases n <;> simp only [Oper.upon] at hh ⊢ <;>
      first
        | exact hh
        | exact Calls.mono hh (fun e w'' he => by cases e <;> first | exact he | exact he.elim | exact (QI.no he).elim)
        | exact Rows.mono hh (fun _ _ he => he)
  | halt x w' => cases x <;> simp only [Oper.upon] at hh ⊢ <;> first | exact hh | exact hh.elim | exact (QI.no hh).elim
theorem wpOp_of_list {P : Program} {ops : Array Oper} {Q : Exit → Act → World → Prop} {i : Nat} {o : Oper} {a : Act} {w : World} {K : Act → World → Prop} (ho : ops[i]? = some o) (h : wpList P ops (QI K) [o] a w) : wpOp P ops Q i K a w := by
  unfold wpOp
  rw [ho]
  unfold wpList at h
  simp only at h ⊢
  split at h
  · rename_i hw
    rw [if_pos hw]
    rcases h with h | h
    · exact .inl (wp_of_QI (Oper.wp_mono (fun a w hk => by unfold wpList at hk; exact hk) h))
    · exact (QI.no h.2).elim
  · rename_i hw
    rw [if_neg hw]
    unfold wpList at h
    exact h

/-- Operation i is done, or not: then p. -/
def Gd (l : Array Bool) (i : Nat) (p : Prop) : Prop := l.getD i false = true → p
def Ng (l : Array Bool) (i : Nat) (p : Prop) : Prop := l.getD i false = false → p
theorem set_ne {l : Array Bool} {i j : Nat} (h : i ≠ j) : (l.setIfInBounds i true).getD j false = l.getD j false := by simp [Array.getElem?_setIfInBounds_ne h]
theorem set_eq {l : Array Bool} {i : Nat} (h : i < l.size) : (l.setIfInBounds i true).getD i false = true := by simp [h]
theorem Gd.keep {l : Array Bool} {i j : Nat} {p : Prop} (h : Gd l j p) (hne : i ≠ j) : Gd (l.setIfInBounds i true) j p := fun h9 => h (by rw [set_ne hne] at h9; exact h9)
theorem Ng.keep {l : Array Bool} {i j : Nat} {p : Prop} (h : Ng l j p) (hne : i ≠ j) : Ng (l.setIfInBounds i true) j p := fun h9 => h (by rw [set_ne hne] at h9; exact h9)
theorem Gd.new {l : Array Bool} {i : Nat} {p : Prop} (h : p) : Gd l i p := fun _ => h
theorem Ng.new {l : Array Bool} {i : Nat} {p : Prop} (h : i < l.size) : Ng (l.setIfInBounds i true) i p := fun h9 => by rw [set_eq h] at h9; cases h9
theorem Gd.imp {l : Array Bool} {i : Nat} {p q : Prop} (h : Gd l i p) (f : p → q) : Gd l i q := fun h9 => f (h h9)
theorem Ng.imp {l : Array Bool} {i : Nat} {p q : Prop} (h : Ng l i p) (f : p → q) : Ng l i q := fun h9 => f (h h9)
/-- Whom it binds is done. -/
def Deps (l : Array Bool) (es : List Edge) : Prop := ∀ e ∈ es, Region.binds .any e = true → l.getD e.on false = true
theorem Deps.get {l : Array Bool} {es : List Edge} (h : Deps l es) (j : Nat) (hj : es.any (fun e => Region.binds .any e && e.on == j) = true) : l.getD j false = true := by
  obtain ⟨e, he, h1⟩ := List.any_eq_true.1 hj
  rw [Bool.and_eq_true, beq_iff_eq] at h1
  rw [← h1.2]
  exact h e he h1.1
def Closed (ops : List Oper) (l : Array Bool) : Prop := ∀ i o, ops[i]? = some o → l.getD i false = true → Deps l o.after.toList
theorem Closed.not {ops : List Oper} {l : Array Bool} (h : Closed ops l) {j : Nat} (hj : l.getD j false = false) (i : Nat) (o : Oper) (ho : ops[i]? = some o) (hb : o.after.toList.any (fun e => Region.binds .any e && e.on == j) = true) : l.getD i false = false := by
  cases hi : l.getD i false
  · rfl
  · rw [(h i o ho hi).get j hb] at hj; cases hj
def StepAll (P : Program) (l : List Oper) (Inv : Array Bool → Act → World → Prop) : Nat → List Oper → Prop
  | _, [] => True
  | k, o :: rest => (∀ d a w, d.size = l.length → Closed l d → Inv d a w → d.getD k false = false → Deps d o.after.toList → wpList P l.toArray (QI fun a' w' => Inv (d.setIfInBounds k true) a' w') [o] a w) ∧ StepAll P l Inv (k + 1) rest
theorem StepAll.at {P : Program} {l : List Oper} {Inv : Array Bool → Act → World → Prop} : ∀ (rest : List Oper) (k : Nat), StepAll P l Inv k rest → ∀ i o, rest[i]? = some o →
    ∀ d a w, d.size = l.length → Closed l d → Inv d a w → d.getD (k + i) false = false → Deps d o.after.toList → wpList P l.toArray (QI fun a' w' => Inv (d.setIfInBounds (k + i) true) a' w') [o] a w
  | [], _, _, i, o, h => by simp at h
  | o' :: rest, k, hs, 0, o, h => by simp at h; subst h; exact hs.1
  | o' :: rest, k, hs, i + 1, o, h => by
    have := StepAll.at rest (k + 1) hs.2 i o (by simpa using h)
    rw [show k + (i + 1) = k + 1 + i by omega]
    exact this
def backB (l : List Oper) : Bool := (List.range l.length).all fun i => match l[i]? with
  | none => true
  | some o => o.after.toList.all fun e => !Region.binds .any e || decide (e.on < i)
theorem all_done {l : List Oper} {d : Array Bool} (hsz : d.size = l.length) (hb : backB l = true) (hr : Region.ready .any l.toArray d = []) : ∀ i, i < l.length → d.getD i false = true := by
  intro i
  induction i using Nat.strongRecOn with
  | _ i ih =>
    intro hi
    cases hd : d.getD i false
    · exfalso
      have ho : l.toArray[i]? = some l[i] := by simp [hi]
      have : i ∈ Region.ready .any l.toArray d := mem_ready.2 ⟨getD_in (by rw [hsz]; exact hi) hd, l[i], ho, fun e he hbn => by
        have h1 := List.all_eq_true.1 hb i (List.mem_range.2 hi)
        rw [List.getElem?_eq_getElem hi] at h1
        have h2 := List.all_eq_true.1 h1 e (by simpa using he)
        rw [hbn, Bool.not_true, Bool.false_or, decide_eq_true_eq] at h2
        exact ih e.on h2 (by omega)⟩
      rw [hr] at this
      cases this
    · rfl
theorem count_set {d : Array Bool} {i : Nat} (hi : i < d.size) (hd : d.getD i false = false) : (d.setIfInBounds i true).toList.count false + 1 = d.toList.count false := by
  have e : (d.setIfInBounds i true).toList = d.toList.set i true := by simp
  have hdi : d.toList[i]'(by simpa using hi) = false := by simpa [hi] using hd
  rw [e, List.count_set (by simpa using hi)]
  rw [hdi]
  have : 0 < d.toList.count false := List.count_pos_iff.2 (by rw [← hdi]; exact List.getElem_mem _)
  show d.toList.count false - 1 + 0 + 1 = d.toList.count false
  omega
theorem count_zero {d : Array Bool} (h : d.toList.count false = 0) : ∀ i, i < d.size → d.getD i false = true := by
  intro i hi
  have h1 := List.count_eq_zero.1 h
  cases hd : d.getD i false
  · exact absurd (by
      have h2 : d.toList[i]'(by simpa using hi) = false := by simpa [hi] using hd
      rw [← h2]; exact List.getElem_mem _) h1
  · rfl
theorem wpAny_inv {P : Program} {l : List Oper} {Q : Exit → Act → World → Prop} {Inv : Array Bool → Act → World → Prop} (hb : backB l = true)
    (hend : ∀ d a w, Inv d a w → (∀ i, i < l.length → d.getD i false = true) → Q .normal a w) (hs : StepAll P l Inv 0 l) :
    ∀ (fuel : Nat) (d : Array Bool) (a : Act) (w : World), d.size = l.length → d.toList.count false = fuel → Closed l d → Inv d a w → wpAny P .any l.toArray Q fuel d a w
  | 0, d, a, w, hsz, hc, _, hi => by
    have hall := count_zero hc
    refine ⟨?_, hend d a w hi fun i h => hall i (by omega)⟩
    rcases hr : Region.ready .any l.toArray d with _ | ⟨j, _⟩
    · rfl
    · exfalso
      have hj : j ∈ Region.ready .any l.toArray d := by rw [hr]; exact List.mem_cons_self
      obtain ⟨h0, o, ho, _⟩ := mem_ready.1 hj
      have hlt : j < l.length := by have := (Array.getElem?_eq_some_iff.1 ho).1; simpa using this
      have h1 := hall j (by omega)
      rw [getD_both h0] at h1
      cases h1
  | fuel + 1, d, a, w, hsz, hc, hcl, hi => by
    refine ⟨fun hr => hend d a w hi (all_done hsz hb hr), fun j hj => ?_⟩
    obtain ⟨h0, o, ho, hdep⟩ := mem_ready.1 hj
    have hlt : j < l.length := by have := (Array.getElem?_eq_some_iff.1 ho).1; simpa using this
    have hol : l[j]? = some o := by simpa using ho
    have hdp : Deps d o.after.toList := fun e he hbn => hdep e (by simpa using he) hbn
    have hst := StepAll.at l 0 hs j o hol d a w hsz hcl hi (by rw [Nat.zero_add]; exact getD_both h0) hdp
    rw [Nat.zero_add] at hst
    refine wpOp_mono (fun a' w' h' => ?_) (wpOp_of_list ho hst)
    refine wpAny_inv hb hend hs fuel _ a' w' (by simp [hsz]) (by have := count_set (d := d) (i := j) (by omega) (getD_both h0); omega) (fun i o' hi' hd => ?_) h'
    intro e he hbn
    by_cases hij : j = i
    · subst hij
      obtain rfl : o' = o := Option.some.inj (hi'.symm.trans hol)
      exact getD_set_true (hdp e he hbn)
    · rw [set_ne hij] at hd
      exact getD_set_true (hcl i o' hi' hd e he hbn)
theorem wp_region_inv {P : Program} {id : Nat} {Q : Exit → Act → World → Prop} {a : Act} {w : World} {l : List Oper} (Inv : Array Bool → Act → World → Prop) (hm : P.follows .mixedOrders = true) (hb : backB l = true)
    (h0 : Inv (Array.replicate l.length false) a w.drew) (hend : ∀ d a w, Inv d a w → (∀ i, i < l.length → d.getD i false = true) → Q .normal a w) (hs : StepAll P l Inv 0 l) : (Code.region id l.toArray true).wp P Q a w := by
  refine wp_region_any hm ?_
  have hz : l.toArray.size = l.length := by simp
  rw [hz]
  exact wpAny_inv hb hend hs _ _ _ _ (by simp) (by simp) (fun i o _ hd => by rw [getD_replicate_false] at hd; cases hd) h0
end Go.Proofs.Ytdmcjloaommnpaa
