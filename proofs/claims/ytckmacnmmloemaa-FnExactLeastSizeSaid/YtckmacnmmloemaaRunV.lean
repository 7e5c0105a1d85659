/- A run of days: values. -/
import Derived.Test.YtckmacnmmloemaaDysS
import Derived.Test.YtckmacnmmloemaaDayS
namespace Go.Proofs.Ytckmacnmmloemaa
open Go.RowKit
set_option linter.unusedVariables false
set_option linter.unusedSimpArgs false
set_option maxRecDepth 100000
attribute [local irreducible] wpV wpList Code.wp

structure RunSt where
  M : List Int
  G : List (List Int)
  S : List Int
/-- What goes to the sea from the first nodes. -/
def seaTo (D L : List Int) : Nat → Int
  | 0 => 0
  | i + 1 => if D.getD i 0 < 0 then wrap64 (seaTo D L i + L.getD i 0) else seaTo D L i
def runDay (D V : List Int) (n : Nat) (M I : List Int) : DaySt := dayTo D M V I n (kahn D n) n
def runTo (D M V : List Int) (Zs : List (List Int)) (n : Nat) : Nat → RunSt
  | 0 => ⟨M, [], []⟩
  | k + 1 => ⟨(runDay D V n (runTo D M V Zs n k).M (zr Zs k)).M, (runTo D M V Zs n k).G ++ [(runDay D V n (runTo D M V Zs n k).M (zr Zs k)).G], (runTo D M V Zs n k).S ++ [seaTo D (runDay D V n (runTo D M V Zs n k).M (zr Zs k)).L n]⟩
theorem zr_app (Zs : List (List Int)) (z : List Int) (j : Nat) : zr (Zs ++ [z]) j = if j = Zs.length then z else zr Zs j := by
  unfold zr
  rw [List.getD_eq_getElem?_getD]
  by_cases e : j = Zs.length
  · subst e; rw [if_pos rfl, List.getElem?_append_right (Nat.le_refl _), Nat.sub_self]; rfl
  · rw [if_neg e]
    by_cases e2 : j < Zs.length
    · rw [List.getElem?_append_left e2, ← List.getD_eq_getElem?_getD]
    · rw [List.getElem?_eq_none (by simp; omega), List.getD_eq_getElem?_getD, List.getElem?_eq_none (by omega)]
theorem runTo_len {D M V : List Int} {Zs : List (List Int)} {n : Nat} (hM : M.length = n * 4) : ∀ k, (∀ j, j < k → (zr Zs j).length = n) → (runTo D M V Zs n k).M.length = n * 4 ∧ (runTo D M V Zs n k).G.length = k ∧ (runTo D M V Zs n k).S.length = k ∧ ∀ j, j < k → (zr (runTo D M V Zs n k).G j).length = n
  | 0, _ => ⟨hM, rfl, rfl, fun j hj => by omega⟩
  | k + 1, hz => by
    obtain ⟨h1, h2, h3, h4⟩ := runTo_len (D := D) (V := V) hM k (fun j hj => hz j (by omega))
    have h5 := dayTo_len (D := D) (V := V) (O := kahn D n) h1 (hz k (by omega)) n
    refine ⟨h5.1, ?_, ?_, fun j hj => ?_⟩
    · show ((runTo D M V Zs n k).G ++ [_]).length = k + 1; rw [List.length_append, h2]; rfl
    · show ((runTo D M V Zs n k).S ++ [_]).length = k + 1; rw [List.length_append, h3]; rfl
    · show (zr ((runTo D M V Zs n k).G ++ [(runDay D V n (runTo D M V Zs n k).M (zr Zs k)).G]) j).length = n
      rw [zr_app, h2]
      by_cases e : j = k
      · rw [if_pos e]; exact h5.2.2.1
      · rw [if_neg e]; exact h4 j (by omega)
end Go.Proofs.Ytckmacnmmloemaa
