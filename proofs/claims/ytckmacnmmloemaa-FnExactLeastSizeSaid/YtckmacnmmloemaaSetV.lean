/- Rivers with another dam or want. -/
import Derived.Test.YtckmacnmmloemaaGive
import Derived.Test.YtckmacnmmloemaaUpI
import Derived.Deep.Cut
namespace Go.Proofs.Ytckmacnmmloemaa
open Go.RowKit
set_option linter.unusedVariables false
set_option linter.unusedSimpArgs false
set_option maxRecDepth 100000
attribute [local irreducible] wpV wpList Code.wp

def setWR (D M V : List Int) (n : Nat) (i x : Int) : RvR := if nodeB D M V n i then (if rivB D M (V.set i.toNat x) n then ⟨n, D, M, V.set i.toNat x, true⟩ else failR) else failR
def putDam (M : List Int) (i : Nat) (s d l q : Int) : List Int := (((M.set (i * 4) s).set (i * 4 + 1) d).set (i * 4 + 2) l).set (i * 4 + 3) q
def setDR (D M V : List Int) (n : Nat) (i s d l q : Int) : RvR := if nodeB D M V n i then (if rivB D (putDam M i.toNat s d l q) V n then ⟨n, D, putDam M i.toNat s d l q, V, true⟩ else failR) else failR
theorem putDam_length (M : List Int) (i : Nat) (s d l q : Int) : (putDam M i s d l q).length = M.length := by unfold putDam; simp only [List.length_set]
theorem failR_len : failR.D.length ≤ 1048576 ∧ failR.n ≤ 1048576 ∧ failR.V.length ≤ 1048576 := ⟨by decide, by decide, by decide⟩
theorem riv_len {D M V : List Int} {n : Nat} (h : rivB D M V n = true) : D.length ≤ 1048576 ∧ n ≤ 1048576 ∧ V.length ≤ 1048576 := by have := (rivB_true h).1; omega
theorem setWR_len (D M V : List Int) (n : Nat) (i x : Int) : (setWR D M V n i x).D.length ≤ 1048576 ∧ (setWR D M V n i x).n ≤ 1048576 ∧ (setWR D M V n i x).V.length ≤ 1048576 := by
  unfold setWR
  cases h : nodeB D M V n i
  · exact failR_len
  · cases h2 : rivB D M (V.set i.toNat x) n
    · exact failR_len
    · exact riv_len h2
theorem setDR_len (D M V : List Int) (n : Nat) (i s d l q : Int) : (setDR D M V n i s d l q).D.length ≤ 1048576 ∧ (setDR D M V n i s d l q).n ≤ 1048576 ∧ (setDR D M V n i s d l q).V.length ≤ 1048576 := by
  unfold setDR
  cases h : nodeB D M V n i
  · exact failR_len
  · cases h2 : rivB D (putDam M i.toNat s d l q) V n
    · exact failR_len
    · exact riv_len h2
end Go.Proofs.Ytckmacnmmloemaa
