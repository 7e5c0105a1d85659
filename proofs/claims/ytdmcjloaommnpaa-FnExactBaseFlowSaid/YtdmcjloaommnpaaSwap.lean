/- Two numbers held against each other, either way round. -/
import Derived.Test.YtdmcjloaommnpaaFk
namespace Go.Proofs.Ytdmcjloaommnpaa

theorem order_swap (x y : Nat) : (FloatKind.f32.format.order x y == some .gt) = (FloatKind.f32.format.order y x == some .lt) := by
  have hd : ∀ x y, FloatKind.f32.format.order x y = (FloatKind.f32.decode x).order (FloatKind.f32.decode y) := fun _ _ => rfl
  rw [hd, hd]
  have hc : ∀ a b : Int, (some (compare a b) == some Ordering.gt) = (some (compare b a) == some Ordering.lt) := by
    intro a b
    show (some (compareOfLessAndEq a b) == _) = (some (compareOfLessAndEq b a) == _)
    unfold compareOfLessAndEq
    rcases Int.lt_trichotomy a b with h | h | h
    · rw [if_pos h, if_neg (by omega), if_neg (by omega)]; rfl
    · subst h; simp
    · rw [if_neg (by omega), if_neg (by omega), if_pos h]; rfl
  have hn : ∀ a b : Nat, (some (compare a b) == some Ordering.gt) = (some (compare b a) == some Ordering.lt) := by
    intro a b
    show (some (compareOfLessAndEq a b) == _) = (some (compareOfLessAndEq b a) == _)
    unfold compareOfLessAndEq
    rcases Nat.lt_trichotomy a b with h | h | h
    · rw [if_pos h, if_neg (by omega), if_neg (by omega)]; rfl
    · subst h; simp
    · rw [if_neg (by omega), if_neg (by omega), if_pos h]; rfl
  cases FloatKind.f32.decode x with
  | nan s f => cases FloatKind.f32.decode y <;> rfl
  | infinity s =>
    cases FloatKind.f32.decode y with
    | nan t f => rfl
    | infinity t => simp only [Ieee.Datum.order]; exact hn _ _
    | number t m e => cases s <;> rfl
  | number s m e =>
    cases FloatKind.f32.decode y with
    | nan t f => rfl
    | infinity t => cases t <;> rfl
    | number t n j =>
      simp only [Ieee.Datum.order]
      rw [hc, Int.min_comm]
end Go.Proofs.Ytdmcjloaommnpaa
