/- Lists of words that are told; whether all are finite. -/
import Derived.Test.YtdmcjloaommnpaaIsRain
import Derived.Test.YtdmcjloaommnpaaFinite
import Derived.Test.YtdmcjloaommnpaaRowF
import Derived.Test.YtdmcjloaommnpaaRainA
namespace Go.Proofs.Ytdmcjloaommnpaa
open Go.RowKit
set_option linter.unusedVariables false
set_option linter.unusedSimpArgs false
set_option maxRecDepth 100000
attribute [local irreducible] wpV wpList Code.wp

set_option maxHeartbeats 1000000 in
/-- Words that are told. -/
def Is32s (Xs : List (Option Nat)) (zs : List Nat) : Prop := Xs.length = zs.length ∧ ∀ i, i < zs.length → Is32 (Xs.getD i none) (zs.getD i 0)
theorem getD_set_self {α : Type} (l : List α) (i : Nat) (a d : α) (h : i < l.length) : (l.set i a).getD i d = a := by
  rw [List.getD_eq_getElem?_getD, List.getElem?_set_self h]; rfl
theorem getD_set_ne {α : Type} (l : List α) (i j : Nat) (a d : α) (h : i ≠ j) : (l.set i a).getD j d = l.getD j d := by
  rw [List.getD_eq_getElem?_getD, List.getD_eq_getElem?_getD, List.getElem?_set_ne h]
theorem getD_app_lt {α : Type} (l m : List α) (i : Nat) (d : α) (h : i < l.length) : (l ++ m).getD i d = l.getD i d := by
  rw [List.getD_eq_getElem?_getD, List.getD_eq_getElem?_getD, List.getElem?_append_left h]
theorem getD_app_at {α : Type} (l : List α) (a d : α) : (l ++ [a]).getD l.length d = a := by
  rw [List.getD_eq_getElem?_getD, List.getElem?_append_right (Nat.le_refl _), Nat.sub_self]; rfl
theorem Is32s.nil : Is32s [] [] := ⟨rfl, fun i h => absurd h (by simp)⟩
theorem Is32s.self {zs : List Nat} (h : ∀ z ∈ zs, z < 4294967296) : Is32s (zs.map some) zs := by
  refine ⟨by simp, fun i hi => ?_⟩
  rw [List.getD_eq_getElem?_getD, List.getElem?_map, List.getElem?_eq_getElem hi, List.getD_eq_getElem?_getD, List.getElem?_eq_getElem hi]
  exact Is32.c (h _ (List.getElem_mem hi))
theorem Is32s.set {Xs : List (Option Nat)} {zs : List Nat} (h : Is32s Xs zs) (i : Nat) {X : Option Nat} {z : Nat} (hz : Is32 X z) : Is32s (Xs.set i X) (zs.set i z) := by
  refine ⟨by rw [List.length_set, List.length_set]; exact h.1, fun j hj => ?_⟩
  rw [List.length_set] at hj
  by_cases hij : i = j
  · subst hij
    rw [getD_set_self _ _ _ _ (by rw [h.1]; exact hj), getD_set_self _ _ _ _ hj]; exact hz
  · rw [getD_set_ne _ _ _ _ _ hij, getD_set_ne _ _ _ _ _ hij]; exact h.2 j hj
theorem Is32s.snoc {Xs : List (Option Nat)} {zs : List Nat} (h : Is32s Xs zs) {X : Option Nat} {z : Nat} (hz : Is32 X z) : Is32s (Xs ++ [X]) (zs ++ [z]) := by
  refine ⟨by simp [h.1], fun j hj => ?_⟩
  rw [List.length_append, List.length_singleton] at hj
  by_cases hjl : j < zs.length
  · rw [getD_app_lt _ _ _ _ (by rw [h.1]; exact hjl), getD_app_lt _ _ _ _ hjl]; exact h.2 j hjl
  · obtain rfl : j = zs.length := by omega
    rw [getD_app_at, ← h.1, getD_app_at]; exact hz
theorem all_same {α β : Type} (p : α → Bool) (q : β → Bool) (d : α) (e : β) : ∀ (l : List α) (m : List β), l.length = m.length → (∀ i, i < l.length → p (l.getD i d) = q (m.getD i e)) → l.all p = m.all q
  | [], [], _, _ => rfl
  | [], b :: m, h, _ => by simp at h
  | a :: l, [], h, _ => by simp at h
  | a :: l, b :: m, h, hp => by
    have h0 := hp 0 (by simp)
    have ih := all_same p q d e l m (by simpa using h) (fun i hi => by have := hp (i + 1) (by simp; omega); simpa using this)
    simp only [List.getD_cons_zero] at h0
    rw [List.all_cons, List.all_cons, h0, ih]
theorem Is32s.fin {Xs : List (Option Nat)} {zs : List Nat} (h : Is32s Xs zs) : zs.all fin32 = Xs.all fin32o :=
  all_same fin32 fin32o 0 none zs Xs h.1.symm fun i hi => fin_o (h.2 i hi)
theorem all_getD {α : Type} {p : α → Bool} {l : List α} (h : l.all p = true) (i : Nat) (d : α) (hi : i < l.length) : p (l.getD i d) = true := by
  rw [List.getD_eq_getElem?_getD, List.getElem?_eq_getElem hi]
  exact List.all_eq_true.1 h _ (List.getElem_mem hi)
theorem Is32s.exact {Xs : List (Option Nat)} {zs : List Nat} (h : Is32s Xs zs) (hf : Xs.all fin32o = true) : zs = Xs.map (fun X => X.getD 0) := by
  refine List.ext_getElem (by simp [h.1]) fun i h1 h2 => ?_
  have hx := h.2 i h1
  have hfi := all_getD hf i none (by rw [h.1]; exact h1)
  have e1 : zs.getD i 0 = zs[i] := by rw [List.getD_eq_getElem?_getD, List.getElem?_eq_getElem h1]; rfl
  have e2 : Xs.getD i none = Xs[i]'(by rw [h.1]; exact h1) := by rw [List.getD_eq_getElem?_getD, List.getElem?_eq_getElem (by rw [h.1]; exact h1)]; rfl
  rw [e1, e2] at hx
  rw [e2] at hfi
  rw [List.getElem_map]
  cases hX : Xs[i]'(by rw [h.1]; exact h1) with
  | none => rw [hX] at hfi; cases hfi
  | some y => rw [hX] at hx; exact hx.eq

theorem all_take_g (zs : List Nat) (q : Nat → Bool) (k : Nat) (h : k < zs.length) (hk : (zs.take k).all q = true) (hf : q (zs.getD k 0) = true) : (zs.take (k + 1)).all q = true := all_take_b zs q k h hk hf
set_option maxHeartbeats 1000000 in
theorem l02Fin_g (a : Option Addr) (cap : Nat) (zs : List Nat) (w : World) (h : RowF .f32 w a zs) (hl : zs.length ≤ 1048576) :
    Calls Try.prog 78 #[.slice a zs.length cap] w (SayQ (zs.all fin32) w) := by
  have Hc := Lib.hid h.cells
  clear h
  obtain ⟨len, hlen⟩ : ∃ len, zs.length = len := ⟨_, rfl⟩
  rw [hlen] at hl ⊢
  have Hlen := Lib.hid hlen
  clear hlen
  go_enter Try.func78, Try.ntmps78
  go_wp2_with fail
  go_loopw [3] (fun i wr => ∃ k n : Nat, k ≤ len ∧ i = .int .i64 k ∧ (zs.take k).all fin32 = true ∧ wr = w.drewN n) (fun i _ => len - (intOf i).toNat)
  case atStart => exact ⟨0, 0, Nat.zero_le _, rfl, rfl, rfl⟩
  case round =>
    obtain ⟨k, n, hk, rfl, hall, rfl⟩ := hrel
    have Hall := Lib.hid hall
    clear hall
    by_cases hlt : k < len
    · obtain ⟨b, off, rfl, h1⟩ := Hc.out k (by rw [Hlen.out]; exact hlt)
      obtain ⟨z, hz⟩ : ∃ z, zs.getD k 0 = z := ⟨_, rfl⟩
      rw [hz] at h1
      have Hz := Lib.hid hz
      clear hz
      go_wp2_with fail
      refine (l01Finite_any z _).mono ?_
      rintro e w' ⟨rfl, m, rfl⟩
      obtain ⟨bf, hf⟩ : ∃ b, fin32 z = b := ⟨_, rfl⟩
      rw [hf]
      have Hf := Lib.hid hf
      clear hf
      cases bf
      · go_wp2_with fail
        go_ret
        exact ⟨_, by rw [all_no zs fin32 k (by rw [Hlen.out]; exact hlt) (by rw [Hz.out]; exact Hf.out)], rfl, _, by first | rfl | rw [World.drewN_drewN]⟩
      · go_wp2_with fail
        go_roundw
        case rel => exact ⟨k + 1, _, by omega, by go_num, all_take_g zs fin32 k (by rw [Hlen.out]; exact hlt) Hall.out (by rw [Hz.out]; exact Hf.out), by first | rfl | rw [World.drewN_drewN]⟩
        case measure => simp [intOf]; omega
    · obtain rfl : k = len := by omega
      have hall := Hall.out
      rw [List.take_of_length_le (by rw [Hlen.out]; exact Nat.le_refl _)] at hall
      have Hall2 := Lib.hid hall
      clear hall
      go_wp2_with fail
      go_ret
      exact ⟨_, Hall2.out, rfl, _, rfl⟩

end Go.Proofs.Ytdmcjloaommnpaa
