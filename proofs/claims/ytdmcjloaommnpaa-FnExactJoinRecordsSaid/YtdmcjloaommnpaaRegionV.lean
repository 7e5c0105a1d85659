/- Regions that draw their order and in which an operation may yield any of several values (a not-a-number): one walk of the lexical order serves every order. The two long proofs follow the guide's own for quiet regions. -/
import Derived.Deep.Quiet
import Derived.Deep.QuietTactic
import Derived.Orders
namespace Go.Proofs.Ytdmcjloaommnpaa

section
variable {P : Program} {ops : Array Oper} {md : Region.Mode} {C : World → Prop} {V : Nat → Option (Value → Prop)}

def pureUpon (w : World) (v : Value) : Result Next → Prop
  | .ok (.value u) w' => w' = w ∧ u = v
  | .ok .skip w' => w' = w ∧ v = undef
  | _ => False

def someUpon (P : Program) (C : World → Prop) (S : Value → Prop) : Result Next → Prop
  | .ok (.value u) w' => C w' ∧ S u
  | .ok .skip w' => C w' ∧ S undef
  | .ok (.enter f args) w' => Calls P f args w' (fun e w'' => ∃ v, e = .returned v ∧ S v ∧ C w'')
  | _ => False

/-- One operation: one value that is the same in every world of the class; or, where a set is told, some of the set. -/
def stepV (P : Program) (C : World → Prop) (S : Option (Value → Prop)) (o : Oper) (a : Act) (K : Act → Prop) : Prop :=
  match S with
  | none => ∃ v, (∀ w, C w → pureUpon w v ((execOp a.eval o).run P w)) ∧ K (a.put o.dst v)
  | some S => (∃ v, S v) ∧ (∀ w, C w → someUpon P C S ((execOp a.eval o).run P w)) ∧ ∀ v, S v → K (a.put o.dst v)

def wpV (P : Program) (ops : Array Oper) (C : World → Prop) (V : Nat → Option (Value → Prop)) (Q : Act → Prop) : Nat → List Oper → Act → Prop
  | _, [], a => Q a
  | k, o :: rest, a => if Region.wanted o (yielded ops a.tmps) then stepV P C (V k) o a (wpV P ops C V Q (k + 1) rest) else wpV P ops C V Q (k + 1) rest (a.put o.dst undef)

theorem wpV_nil {Q : Act → Prop} {k : Nat} {a : Act} (h : Q a) : wpV P ops C V Q k [] a := h

def qOpV (P : Program) (ops : Array Oper) (C : World → Prop) (V : Nat → Option (Value → Prop)) (i : Nat) (K : Act → Prop) (a : Act) : Prop :=
  match ops[i]? with
  | none => K a
  | some o => if Region.wanted o (yielded ops a.tmps) then stepV P C (V i) o a K else K (a.put o.dst undef)

theorem stepV_mono {S : Option (Value → Prop)} {o : Oper} {a : Act} {K K' : Act → Prop} (h : ∀ a, K a → K' a) (hh : stepV P C S o a K) : stepV P C S o a K' := by
  cases S with
  | none => obtain ⟨v, h1, h2⟩ := hh; exact ⟨v, h1, h _ h2⟩
  | some S => exact ⟨hh.1, hh.2.1, fun v hv => h _ (hh.2.2 v hv)⟩

theorem qOpV_mono {i : Nat} {a : Act} {K K' : Act → Prop} (h : ∀ a, K a → K' a) (hh : qOpV P ops C V i K a) : qOpV P ops C V i K' a := by
  unfold qOpV at *
  split
  · exact h _ (by simpa [*] using hh)
  · rename_i o ho
    simp only [ho] at hh
    split
    · rename_i hw; simp only [hw, if_true] at hh; exact stepV_mono h hh
    · rename_i hw; simp only [hw] at hh; exact h _ hh

def wpAnyV (P : Program) (md : Region.Mode) (ops : Array Oper) (C : World → Prop) (V : Nat → Option (Value → Prop)) (Q : Act → Prop) : Nat → Array Bool → Act → Prop
  | 0, listed, a => Region.ready md ops listed = [] ∧ Q a
  | fuel + 1, listed, a =>
    (Region.ready md ops listed = [] → Q a) ∧
    ∀ i ∈ Region.ready md ops listed, qOpV P ops C V i (wpAnyV P md ops C V Q fuel (listed.setIfInBounds i true)) a

theorem wp_of_stepV {S : Option (Value → Prop)} {o : Oper} {a : Act} {K : Act → Prop} {K' : Act → World → Prop} {Q' : Exit → Act → World → Prop} {w : World} (hw : C w) (h : ∀ a w', C w' → K a → K' a w') (hh : stepV P C S o a K) : o.wp P a w K' Q' := by
  unfold Oper.wp
  cases S with
  | none =>
    obtain ⟨v, h1, h2⟩ := hh
    have h3 := h1 w hw
    generalize (execOp a.eval o).run P w = r at *
    cases r with
    | ok n w' =>
      cases n <;> simp only [pureUpon] at h3 <;> simp only [Oper.upon]
      case value u => obtain ⟨e1, e2⟩ := h3; rw [e1, e2]; exact h _ _ hw h2
      case skip => obtain ⟨e1, e2⟩ := h3; rw [e1, ← e2]; exact h _ _ hw h2
    | halt x w' => simp only [pureUpon] at h3
  | some S =>
    obtain ⟨_, h1, h2⟩ := hh
    have h3 := h1 w hw
    generalize (execOp a.eval o).run P w = r at *
    cases r with
    | ok n w' =>
      cases n <;> simp only [someUpon] at h3 <;> simp only [Oper.upon]
      case value u => exact h _ _ h3.1 (h2 _ h3.2)
      case skip => exact h _ _ h3.1 (h2 _ h3.2)
      case enter f args => exact h3.mono fun e w'' ⟨v, he, hv, hw''⟩ => by subst he; exact h _ _ hw'' (h2 _ hv)
    | halt x w' => simp only [someUpon] at h3

theorem wpOp_of_qOpV {i : Nat} {a : Act} {K : Act → Prop} {K' : Act → World → Prop} {Q' : Exit → Act → World → Prop} {w : World} (hC : C w) (h : ∀ a w', C w' → K a → K' a w') (hh : qOpV P ops C V i K a) : wpOp P ops Q' i K' a w := by
  unfold qOpV at hh
  unfold wpOp
  split
  · rename_i ho; simp only [ho] at hh; exact h _ _ hC hh
  · rename_i o ho
    simp only [ho] at hh
    split
    · rename_i hw; simp only [hw, if_true] at hh; exact .inl (wp_of_stepV hC h hh)
    · rename_i hw; simp only [hw] at hh; exact h _ _ hC hh

theorem wpAny_of_V {Q : Act → Prop} {Q' : Exit → Act → World → Prop} (hQ : ∀ a w, C w → Q a → Q' .normal a w) : ∀ (fuel : Nat) (listed : Array Bool) (a : Act) (w : World), C w →
    wpAnyV P md ops C V Q fuel listed a → wpAny P md ops Q' fuel listed a w
  | 0, _, _, _, hw, h => ⟨h.1, hQ _ _ hw h.2⟩
  | fuel + 1, _, _, _, hw, h => ⟨fun h0 => hQ _ _ hw (h.1 h0), fun i hi => wpOp_of_qOpV hw (fun a' w' hw' => wpAny_of_V hQ fuel _ a' w' hw') (h.2 i hi)⟩

/-- In state 'a' the operation yields what is in S. -/
def YieldsV (P : Program) (ops : Array Oper) (C : World → Prop) (Vi : Option (Value → Prop)) (o : Oper) (S : Value → Prop) (a : Act) : Prop :=
  (Region.wanted o (yielded ops a.tmps) = true ∧
    match Vi with
    | none => ∃ v, S = (· = v) ∧ ∀ w, C w → pureUpon w v ((execOp a.eval o).run P w)
    | some T => S = T ∧ (∃ v, T v) ∧ ∀ w, C w → someUpon P C T ((execOp a.eval o).run P w)) ∨
  (Region.wanted o (yielded ops a.tmps) = false ∧ S = (· = undef))

theorem YieldsV.some {Vi : Option (Value → Prop)} {o : Oper} {S : Value → Prop} {a : Act} (h : YieldsV P ops C Vi o S a) : ∃ v, S v := by
  rcases h with ⟨_, h⟩ | ⟨_, h⟩
  · cases Vi with
    | none => obtain ⟨v, rfl, _⟩ := h; exact ⟨v, rfl⟩
    | some T => obtain ⟨rfl, h, _⟩ := h; exact h
  · subst h; exact ⟨undef, rfl⟩

theorem YieldsV.qOp {i : Nat} {o : Oper} {S : Value → Prop} {a : Act} (hi : ops[i]? = .some o) (hy : YieldsV P ops C (V i) o S a) {K : Act → Prop} (h : ∀ v, S v → K (a.put o.dst v)) : qOpV P ops C V i K a := by
  unfold qOpV
  simp only [hi]
  rcases hy with ⟨hw, hv⟩ | ⟨hw, rfl⟩
  · simp only [hw, if_true]
    unfold stepV
    cases hV : V i with
    | none => rw [hV] at hv; obtain ⟨v, rfl, hv⟩ := hv; exact ⟨v, hv, h v rfl⟩
    | some T => rw [hV] at hv; obtain ⟨rfl, h1, h2⟩ := hv; exact ⟨h1, h2, h⟩
  · simp only [hw, Bool.false_eq_true, if_false]; exact h undef rfl

theorem YieldsV.of_same {Vi : Option (Value → Prop)} {o : Oper} {S : Value → Prop} {a a' : Act} (hy : YieldsV P ops C Vi o S a) (he : execOp a'.eval o = execOp a.eval o)
    (hw : Region.wanted o (yielded ops a'.tmps) = Region.wanted o (yielded ops a.tmps)) : YieldsV P ops C Vi o S a' := by
  unfold YieldsV at *
  rw [he, hw]
  exact hy

theorem yieldsV_of_qOp {i : Nat} {o : Oper} {a : Act} {K : Act → Prop} (hi : ops[i]? = .some o) (h : qOpV P ops C V i K a) : ∃ S, YieldsV P ops C (V i) o S a ∧ ∀ v, S v → K (a.put o.dst v) := by
  unfold qOpV at h
  simp only [hi] at h
  by_cases hw : Region.wanted o (yielded ops a.tmps) = true
  · simp only [hw, if_true] at h
    unfold stepV at h
    cases hV : V i with
    | none =>
      rw [hV] at h
      obtain ⟨v, h1, h2⟩ := h
      exact ⟨(· = v), .inl ⟨hw, v, rfl, h1⟩, fun u hu => by subst hu; exact h2⟩
    | some T =>
      rw [hV] at h
      exact ⟨T, .inl ⟨hw, rfl, h.1, h.2.1⟩, h.2.2⟩
  · simp only [hw] at h
    exact ⟨(· = undef), .inr ⟨by simpa using hw, rfl⟩, fun u hu => by subst hu; exact h⟩

theorem pure_unique {w : World} {u v : Value} {r : Result Next} (h : pureUpon w u r) (k : pureUpon w v r) : u = v := by
  cases r with
  | ok n w' =>
    cases n <;> simp only [pureUpon] at h k
    case value x => rw [← h.2, ← k.2]
    case skip => rw [h.2, k.2]
  | halt x w' => simp only [pureUpon] at h

theorem qOpV_put {j : Nat} {Vi : Option (Value → Prop)} {oi oj : Oper} {S : Value → Prop} (hC : ∃ w, C w) (hj : ops[j]? = .some oj) (hap : oi.apart ops oj = true)
    (hsi : ∀ cs b, oi.op ≠ .select cs b) (hsj : ∀ cs b, oj.op ≠ .select cs b) {K : Act → Prop} {a : Act}
    (hy : YieldsV P ops C Vi oi S a) (h : ∀ v, S v → qOpV P ops C V j K (a.put oi.dst v)) :
    qOpV P ops C V j (fun a' => YieldsV P ops C Vi oi S a' ∧ ∀ v, S v → K (a'.put oi.dst v)) a := by
  obtain ⟨h1, h2, h3⟩ := Oper.apart_spec hap
  obtain ⟨w0, hw0⟩ := hC
  obtain ⟨v0, hv0⟩ := hy.some
  have keep : ∀ u, YieldsV P ops C Vi oi S (a.put oj.dst u) := fun u =>
    hy.of_same (execOp_put oi hsi a oj.dst u h3) (wanted_put oi a oj.dst u h3)
  have run : ∀ v, execOp (a.put oi.dst v).eval oj = execOp a.eval oj := fun v => execOp_put oj hsj a oi.dst v h1
  have want : ∀ v, Region.wanted oj (yielded ops (a.put oi.dst v).tmps) = Region.wanted oj (yielded ops a.tmps) := fun v => wanted_put oj a oi.dst v h1
  unfold qOpV at *
  simp only [hj] at *
  by_cases hw : Region.wanted oj (yielded ops a.tmps) = true
  · have h' : ∀ v, S v → stepV P C (V j) oj (a.put oi.dst v) K := fun v hv => by have := h v hv; rw [want v, if_pos hw] at this; exact this
    rw [if_pos hw]
    unfold stepV at *
    cases hV : V j with
    | none =>
      rw [hV] at h'
      obtain ⟨u0, p0, _⟩ := h' v0 hv0
      rw [run] at p0
      refine ⟨u0, p0, keep u0, fun v hv => ?_⟩
      obtain ⟨u, p, hk⟩ := h' v hv
      rw [run] at p
      obtain rfl := pure_unique (p w0 hw0) (p0 w0 hw0)
      rw [← Act.put_comm a v u h2]
      exact hk
    | some T =>
      rw [hV] at h'
      obtain ⟨q1, q2, _⟩ := h' v0 hv0
      rw [run] at q2
      refine ⟨q1, q2, fun u hu => ⟨keep u, fun v hv => ?_⟩⟩
      rw [← Act.put_comm a v u h2]
      exact (h' v hv).2.2 u hu
  · rw [if_neg hw]
    refine ⟨keep _, fun v hv => ?_⟩
    have := h v hv
    rw [want v, if_neg hw] at this
    rw [← Act.put_comm a v undef h2]
    exact this

theorem wpAnyV_first {Q : Act → Prop} {i : Nat} {oi : Oper} {S : Value → Prop} (hC : ∃ w, C w) (hi : ops[i]? = .some oi) (hsel : ∀ (j : Nat) (o : Oper) cs b, ops[j]? = .some o → o.op ≠ .select cs b) :
    ∀ (fuel : Nat) (listed : Array Bool) (a : Act),
      (∀ j oj, ops[j]? = .some oj → j ≠ i → listed.getD j true = false → (∀ e ∈ oj.after, Region.binds md e = true → e.on ≠ i) → oi.apart ops oj = true) →
      i ∈ Region.ready md ops listed → YieldsV P ops C (V i) oi S a →
      (∀ v, S v → wpAnyV P md ops C V Q fuel (listed.setIfInBounds i true) (a.put oi.dst v)) → wpAnyV P md ops C V Q (fuel + 1) listed a := by
  intro fuel
  induction fuel with
  | zero =>
    intro listed a _ hr hy H
    refine ⟨fun h => (by rw [h] at hr; cases hr), fun j hj => ?_⟩
    by_cases hji : j = i
    · subst hji; exact hy.qOp hi H
    · have := ready_mono hj hji
      obtain ⟨v, hv⟩ := hy.some
      rw [(H v hv).1] at this
      cases this
  | succ fuel ih =>
    intro listed a hfree hr hy H
    refine ⟨fun h => (by rw [h] at hr; cases hr), fun j hj => ?_⟩
    by_cases hji : j = i
    · subst hji; exact hy.qOp hi H
    · have h1 := fun v hv => (H v hv).2 j (ready_mono hj hji)
      obtain ⟨hjun, oj, hoj, hall⟩ := mem_ready.1 hj
      have hnot : ∀ e ∈ oj.after, Region.binds md e = true → e.on ≠ i := fun e he hb heq => by
        have h1 := hall e he hb
        have h0 := (mem_ready.1 hr).1
        rw [heq] at h1
        rcases Nat.lt_or_ge i listed.size with h' | h'
        · simp [h'] at h0 h1; rw [h0] at h1; cases h1
        · simp [Array.getElem?_eq_none h'] at h1
      have h2 := qOpV_put hC hoj (hfree j oj hoj hji hjun hnot) (fun cs b => hsel i oi cs b hi) (fun cs b => hsel j oj cs b hoj) hy h1
      have hfree' : ∀ k ok, ops[k]? = .some ok → k ≠ i → (listed.setIfInBounds j true).getD k true = false →
          (∀ e ∈ ok.after, Region.binds md e = true → e.on ≠ i) → oi.apart ops ok = true := fun k ok hk hki hun hno => by
        refine hfree k ok hk hki ?_ hno
        by_cases hjk : j = k
        · subst hjk; exact hjun
        · rw [getD_set_ne true hjk] at hun; exact hun
      refine qOpV_mono (fun a' h3 => ih (listed.setIfInBounds j true) a' hfree' (ready_mono hr (Ne.symm hji)) h3.1 (fun v hv => ?_)) h2
      rw [Array.setIfInBounds_comm _ _ hji]
      exact h3.2 v hv

theorem wpAnyV_lex {Q : Act → Prop} (hC : ∃ w, C w) (hs : Region.noSelect ops = true) : ∀ (l : List Oper) (k : Nat) (listed : Array Bool) (a : Act), (∀ j, l[j]? = ops[k + j]?) →
    Region.lexFrom md ops l.length k listed = true → wpV P ops C V Q k l a → wpAnyV P md ops C V Q l.length listed a
  | [], _, _, _, _, hB, h => ⟨by simpa [Region.lexFrom] using hB, h⟩
  | o :: l, k, listed, a, hl, hB, h => by
    have h0 : ops[k]? = .some o := by simpa using (hl 0).symm
    simp only [List.length_cons, Region.lexFrom, Bool.and_eq_true] at hB
    obtain ⟨⟨hr, hf⟩, hB'⟩ := hB
    have hst : qOpV P ops C V k (wpV P ops C V Q (k + 1) l) a := by unfold qOpV; simp only [h0]; exact h
    obtain ⟨S, hy, hK⟩ := yieldsV_of_qOp h0 hst
    exact wpAnyV_first hC h0 (Region.noSelect_spec hs) l.length listed a (Region.free_spec h0 hf) (by simpa using hr) hy
      (fun v hv => wpAnyV_lex hC hs l (k + 1) _ _ (fun j => by have := hl (j + 1); simpa [Nat.add_assoc, Nat.add_comm 1 j] using this) hB' (hK v hv))

theorem wp_region_V {id : Nat} {Q : Exit → Act → World → Prop} {a : Act} {w : World} {l : List Oper} (V : Nat → Option (Value → Prop)) (hm : P.follows .mixedOrders = true) (hB : Region.lexB .any l.toArray = true)
    (h : wpV P l.toArray (fun w' => ∃ n, w' = w.drewN n) V (fun a' => ∀ n, Q .normal a' (w.drewN n)) 0 l a) : (Code.region id l.toArray true).wp P Q a w := by
  simp only [Region.lexB, Bool.and_eq_true] at hB
  refine wp_region_any hm (wpAny_of_V (V := V) (C := fun w' => ∃ n, w' = w.drewN n) (Q := fun a' => ∀ n, Q .normal a' (w.drewN n)) (fun _ w' ⟨n, hw'⟩ h => by subst hw'; exact h n) _ _ _ _ ⟨1, rfl⟩ ?_)
  have := wpAnyV_lex (C := fun w' => ∃ n, w' = w.drewN n) (V := V) (md := .any) ⟨w, 0, rfl⟩ hB.1 l 0 (Array.replicate l.toArray.size false) a (by simp) (by simpa using hB.2) h
  simpa using this

theorem wpV_step {Q : Act → Prop} {k : Nat} {a : Act} {o : Oper} {rest : List Oper}
    (h : ∀ K : Act → Prop, (∀ a, wpV P ops C V Q (k + 1) rest a → K a) → if Region.wanted o (yielded ops a.tmps) then stepV P C (V k) o a K else K (a.put o.dst undef)) : wpV P ops C V Q k (o :: rest) a :=
  h _ (fun _ h => h)
end
attribute [go_sem] stepV pureUpon someUpon
end Go.Proofs.Ytdmcjloaommnpaa
