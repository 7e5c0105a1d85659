/- A river of its own: the program. -/
import Derived.Test.YtckmacnmmloemaaClo
import Derived.Test.YtckmacnmmloemaaRivH
import Derived.Deep.RegionHeld3
namespace Go.Proofs.Ytckmacnmmloemaa
open Go.RowKit
set_option linter.unusedVariables false
set_option linter.unusedSimpArgs false
set_option maxRecDepth 100000
attribute [local irreducible] wpV wpList Code.wp

/-- Three new rows that hold what a river's rows hold. -/
def OwnQ (D M V : List Int) (n : Nat) (w : World) (e : Ending) (w' : World) : Prop :=
  ∃ lo g0 g1 g2 c0 c1 c2, e = .returned (.agg #[.slice (some ⟨g0, 0, none⟩) n c0, .slice (some ⟨g1, 0, none⟩) n c1, .slice (some ⟨g2, 0, none⟩) n c2]) ∧ w'.ownsRow lo 2 1 (.slice (some ⟨g0, 0, none⟩) n c0) n (ic D) ∧ w'.ownsRow lo 98 4 (.slice (some ⟨g1, 0, none⟩) n c1) n (ic M) ∧ w'.ownsRow lo 2 1 (.slice (some ⟨g2, 0, none⟩) n c2) n (ic V) ∧ g0 ≠ g1 ∧ g0 ≠ g2 ∧ g1 ≠ g2 ∧ w.heap.size ≤ lo ∧ Below w.heap.size w w'
structure Src (w : World) (b0 o0 b1 o1 b2 o2 n : Nat) (D M V : List Int) : Prop where
  l0 : b0 < w.heap.size
  l1 : b1 < w.heap.size
  l2 : b2 < w.heap.size
  k0 : ∀ i, i < D.length → w.cell? ⟨b0, o0 + i, none⟩ = some (.int .i64 (D.getD i 0))
  k1 : ∀ i, i < M.length → w.cell? ⟨b1, o1 + i, none⟩ = some (.int .i64 (M.getD i 0))
  k2 : ∀ i, i < V.length → w.cell? ⟨b2, o2 + i, none⟩ = some (.int .i64 (V.getD i 0))
  n0 : D.length = n
  n1 : M.length = n * 4
  n2 : V.length = n
  pos : 0 < n
  lim : n ≤ 1048576
theorem Src.below {w w' : World} {B b0 o0 b1 o1 b2 o2 n : Nat} {D M V : List Int} (h : Src w b0 o0 b1 o1 b2 o2 n D M V) (hb : Below B w w') (hB : w.heap.size ≤ B) : Src w' b0 o0 b1 o1 b2 o2 n D M V :=
  ⟨Nat.lt_of_lt_of_le h.l0 hb.size, Nat.lt_of_lt_of_le h.l1 hb.size, Nat.lt_of_lt_of_le h.l2 hb.size, fun i hi => by rw [hb.cell (p := ⟨b0, o0 + i, none⟩) (Nat.lt_of_lt_of_le h.l0 hB)]; exact h.k0 i hi, fun i hi => by rw [hb.cell (p := ⟨b1, o1 + i, none⟩) (Nat.lt_of_lt_of_le h.l1 hB)]; exact h.k1 i hi, fun i hi => by rw [hb.cell (p := ⟨b2, o2 + i, none⟩) (Nat.lt_of_lt_of_le h.l2 hB)]; exact h.k2 i hi, h.n0, h.n1, h.n2, h.pos, h.lim⟩
theorem Src.of {w : World} {a0 a1 a2 : Option Addr} {n : Nat} {D M V : List Int} (h0 : RowC w a0 (ic D)) (h1 : RowC w a1 (ic M)) (h2 : RowC w a2 (ic V)) (n0 : D.length = n) (n1 : M.length = n * 4) (n2 : V.length = n) (hp : 0 < n) (hl : n ≤ 1048576) : ∃ b0 o0 b1 o1 b2 o2, a0 = some ⟨b0, o0, none⟩ ∧ a1 = some ⟨b1, o1, none⟩ ∧ a2 = some ⟨b2, o2, none⟩ ∧ Src w b0 o0 b1 o1 b2 o2 n D M V := by
  obtain ⟨b0, o0, e0, l0, k0⟩ := h0.cells (fun h => by rw [h, List.length_nil] at n0; omega)
  obtain ⟨b1, o1, e1, l1, k1⟩ := h1.cells (fun h => by rw [h, List.length_nil] at n1; omega)
  obtain ⟨b2, o2, e2, l2, k2⟩ := h2.cells (fun h => by rw [h, List.length_nil] at n2; omega)
  exact ⟨b0, o0, b1, o1, b2, o2, e0, e1, e2, l0, l1, l2, k0, k1, k2, n0, n1, n2, hp, hl⟩
set_option maxHeartbeats 8000000 in
theorem ownRiver_any (b0 o0 b1 o1 b2 o2 n c0 c1 c2 : Nat) (D M V : List Int) (w : World) (hs : Src w b0 o0 b1 o1 b2 o2 n D M V) :
    Calls Try.prog 57 #[.agg #[.slice (some ⟨b0, o0, none⟩) n c0, .slice (some ⟨b1, o1, none⟩) n c1, .slice (some ⟨b2, o2, none⟩) n c2]] w (OwnQ D M V n w) := by
  have HS := Lib.hid hs
  clear hs
  obtain ⟨w2, hw2⟩ : ∃ W, (w.alloc (.cells #[.slice (some ⟨b0, o0, none⟩) n c0, .slice (some ⟨b1, o1, none⟩) n c1, .slice (some ⟨b2, o2, none⟩) n c2] 29)).alloc (.cells #[.slice none 0 0, .slice none 0 0, .slice none 0 0] 29) = W := ⟨_, rfl⟩
  have HP2 : Hid (Bw w2 (w.heap.size + 1) [.slice none 0 0, .slice none 0 0, .slice none 0 0]) := Lib.hid (by rw [← hw2]; exact Bw.new1G w _ [.slice none 0 0, .slice none 0 0, .slice none 0 0] _)
  have HX2 : Hid (Bx w2 w.heap.size [.slice (some ⟨b0, o0, none⟩) n c0, .slice (some ⟨b1, o1, none⟩) n c1, .slice (some ⟨b2, o2, none⟩) n c2]) := Lib.hid (by rw [← hw2]; exact (Bx.new w [.slice (some ⟨b0, o0, none⟩) n c0, .slice (some ⟨b1, o1, none⟩) n c1, .slice (some ⟨b2, o2, none⟩) n c2] _).alloc _)
  have HW2 : Hid (Below w.heap.size w w2) := Lib.hid (by rw [← hw2]; exact below2 w _ _)
  have HS2 : Hid (w2.heap.size = w.heap.size + 2) := Lib.hid (by rw [← hw2]; simp)
  have r0 := HX2.out.c 0 rfl
  have r1 := HX2.out.c 1 rfl
  have r2 := HX2.out.c 2 rfl
  have K0 : Hid (Below (w.heap.size + 2) w2 w2) := Lib.hid (Below.refl _ _)
  have HKeep : Hid (∀ W, Below (w.heap.size + 2) w2 W → (W.cell? ⟨w.heap.size, 0, none⟩ = some (.slice (some ⟨b0, o0, none⟩) n c0) ∧ W.cell? ⟨w.heap.size, 1, none⟩ = some (.slice (some ⟨b1, o1, none⟩) n c1) ∧ W.cell? ⟨w.heap.size, 2, none⟩ = some (.slice (some ⟨b2, o2, none⟩) n c2))) := Lib.hid fun W hW => ⟨(hW.cell (p := ⟨w.heap.size, 0, none⟩) (by show w.heap.size < w.heap.size + 2; omega)).trans (HX2.out.c 0 rfl), (hW.cell (p := ⟨w.heap.size, 1, none⟩) (by show w.heap.size < w.heap.size + 2; omega)).trans (HX2.out.c 1 rfl), (hW.cell (p := ⟨w.heap.size, 2, none⟩) (by show w.heap.size < w.heap.size + 2; omega)).trans (HX2.out.c 2 rfl)⟩
  have HC0 : Hid (∀ W, Below (w.heap.size + 2) w2 W → Calls Try.prog 103 #[.slice (some ⟨b0, o0, none⟩) n c0] W fun e w' => ∃ g c, e = .returned (.slice (some ⟨g, 0, none⟩) n c) ∧ w'.ownsRow W.heap.size 2 1 (.slice (some ⟨g, 0, none⟩) n c) n (ic D) ∧ Below W.heap.size W w') := Lib.hid fun W hW => by
    have h9 : Below w.heap.size w W := HW2.out.trans (hW.mono (Nat.le_add_right _ _))
    have hs := HS.out.below h9 (Nat.le_refl _)
    exact cloneZ_any b0 o0 n c0 D W hs.l0 hs.k0 (by rw [hs.n0, Nat.mul_one]) hs.pos hs.lim
  have HC1 : Hid (∀ W, Below (w.heap.size + 2) w2 W → Calls Try.prog 104 #[.slice (some ⟨b1, o1, none⟩) n c1] W fun e w' => ∃ g c, e = .returned (.slice (some ⟨g, 0, none⟩) n c) ∧ w'.ownsRow W.heap.size 98 4 (.slice (some ⟨g, 0, none⟩) n c) n (ic M) ∧ Below W.heap.size W w') := Lib.hid fun W hW => by
    have h9 : Below w.heap.size w W := HW2.out.trans (hW.mono (Nat.le_add_right _ _))
    have hs := HS.out.below h9 (Nat.le_refl _)
    exact cloneD_any b1 o1 n c1 M W hs.l1 hs.k1 hs.n1 hs.pos hs.lim
  have HC2 : Hid (∀ W, Below (w.heap.size + 2) w2 W → Calls Try.prog 103 #[.slice (some ⟨b2, o2, none⟩) n c2] W fun e w' => ∃ g c, e = .returned (.slice (some ⟨g, 0, none⟩) n c) ∧ w'.ownsRow W.heap.size 2 1 (.slice (some ⟨g, 0, none⟩) n c) n (ic V) ∧ Below W.heap.size W w') := Lib.hid fun W hW => by
    have h9 : Below w.heap.size w W := HW2.out.trans (hW.mono (Nat.le_add_right _ _))
    have hs := HS.out.below h9 (Nat.le_refl _)
    exact cloneZ_any b2 o2 n c2 V W hs.l2 hs.k2 (by rw [hs.n2, Nat.mul_one]) hs.pos hs.lim
  go_enter Try.func57, Try.ntmps57
  go_wp2_with fail
  (try rw [hw2])
  clear hw2
  go_region_held3 (fun W => W.cell? ⟨w.heap.size, 0, none⟩ = some (.slice (some ⟨b0, o0, none⟩) n c0) ∧ W.cell? ⟨w.heap.size, 1, none⟩ = some (.slice (some ⟨b1, o1, none⟩) n c1) ∧ W.cell? ⟨w.heap.size, 2, none⟩ = some (.slice (some ⟨b2, o2, none⟩) n c2))
    (first | with_reducible exact HKeep.out _ K3.out | with_reducible exact HKeep.out _ K3.out.drew | with_reducible exact HKeep.out _ K2.out | with_reducible exact HKeep.out _ K2.out.drew | with_reducible exact HKeep.out _ K1.out | with_reducible exact HKeep.out _ K1.out.drew | with_reducible exact HKeep.out _ K0.out | with_reducible exact HKeep.out _ K0.out.drew | (obtain ⟨k0, k1, k2⟩ := HKeep.out _ K3.out; exact ⟨by simp [go_sem, k0], by simp [go_sem, k1], by simp [go_sem, k2]⟩))
    (first | (go_at_call 103; refine (HC0.out _ (by first | with_reducible exact K0.out | with_reducible exact K0.out.drew)).mono ?_; rintro e w5 ⟨g0, d0, rfl, hrow, hb⟩; have K1 := Lib.hid (kstep (by first | with_reducible exact K0.out | with_reducible exact K0.out.drew) (Nat.le_of_eq HS2.out.symm) hb); have HR0 := Lib.hid (owns_lo hrow (lo' := w.heap.size + 2) (Nat.le_trans (Nat.le_of_eq HS2.out.symm) (Below.size (by first | with_reducible exact K0.out | with_reducible exact K0.out.drew)))); clear hrow hb) | (go_at_call 104; refine (HC1.out _ (by first | with_reducible exact K1.out | with_reducible exact K1.out.drew)).mono ?_; rintro e w6 ⟨g1, d1, rfl, hrow, hb⟩; have K2 := Lib.hid (kstep (by first | with_reducible exact K1.out | with_reducible exact K1.out.drew) (Nat.le_of_eq HS2.out.symm) hb); have HR0_1 := Lib.hid (owns_below HR0.out hb (Nat.le_refl _)); have HN0_1 : Hid (g0 ≠ g1) := Lib.hid (by have h1 := (HR0.out.lt g0 rfl).2; have h2 := (hrow.lt g1 rfl).1; (try simp at h1 h2); omega); have HR1 := Lib.hid (owns_lo hrow (lo' := w.heap.size + 2) (Nat.le_trans (Nat.le_of_eq HS2.out.symm) (Below.size (by first | with_reducible exact K1.out | with_reducible exact K1.out.drew)))); clear hrow hb) | (go_at_call 103; refine (HC2.out _ (by first | with_reducible exact K2.out | with_reducible exact K2.out.drew)).mono ?_; rintro e w7 ⟨g2, d2, rfl, hrow, hb⟩; have K3 := Lib.hid (kstep (by first | with_reducible exact K2.out | with_reducible exact K2.out.drew) (Nat.le_of_eq HS2.out.symm) hb); have HR0_2 := Lib.hid (owns_below HR0_1.out hb (Nat.le_refl _)); have HR1_2 := Lib.hid (owns_below HR1.out hb (Nat.le_refl _)); have HN0_2 : Hid (g0 ≠ g2) := Lib.hid (by have h1 := (HR0_1.out.lt g0 rfl).2; have h2 := (hrow.lt g2 rfl).1; (try simp at h1 h2); omega); have HN1_2 : Hid (g1 ≠ g2) := Lib.hid (by have h1 := (HR1.out.lt g1 rfl).2; have h2 := (hrow.lt g2 rfl).1; (try simp at h1 h2); omega); have HR2 := Lib.hid (owns_lo hrow (lo' := w.heap.size + 2) (Nat.le_trans (Nat.le_of_eq HS2.out.symm) (Below.size (by first | with_reducible exact K2.out | with_reducible exact K2.out.drew)))); clear hrow hb; have hbp := HP2.out.below K3.out (by show w.heap.size + 1 < w.heap.size + 2; omega); have q0 := hbp.c 0 rfl; have q1 := hbp.c 1 rfl; have q2 := hbp.c 2 rfl; have f0 := hbp.f 0 (by simp); have f1 := hbp.f 1 (by simp); have f2 := hbp.f 2 (by simp); clear hbp) | fail)
  go_wp2_with fail
  have G0 := (HR0_2.out.lt g0 rfl)
  have G1 := (HR1_2.out.lt g1 rfl)
  have G2 := (HR2.out.lt g2 rfl)
  have n01 := HN0_1.out
  have n02 := HN0_2.out
  have n12 := HN1_2.out
  refine bodyPost_ret (v := .agg #[.slice (some ⟨g0, 0, none⟩) n d0, .slice (some ⟨g1, 0, none⟩) n d1, .slice (some ⟨g2, 0, none⟩) n d2]) (by first | (simp [results, Try.results57, go_sem, *]; done) | (simp (maxDischargeDepth := 12) [results, Try.results57, go_sem, *]; done) | (simp (maxDischargeDepth := 12) [results, Try.results57, go_sem, *]; rfl)) rfl ⟨w.heap.size + 2, g0, g1, g2, d0, d1, d2, rfl, ?_, ?_, ?_, n01, n02, n12, by omega, ?_⟩
  · exact owns_far (owns_far (owns_far HR0_2.out (by simp [Value.ownBlock]; omega) _) (by simp [Value.ownBlock]; omega) _) (by simp [Value.ownBlock]; omega) _
  · exact owns_far (owns_far (owns_far HR1_2.out (by simp [Value.ownBlock]; omega) _) (by simp [Value.ownBlock]; omega) _) (by simp [Value.ownBlock]; omega) _
  · exact owns_far (owns_far (owns_far HR2.out (by simp [Value.ownBlock]; omega) _) (by simp [Value.ownBlock]; omega) _) (by simp [Value.ownBlock]; omega) _
  · exact HW2.out.trans ((((K3.out.mono (Nat.le_add_right _ _)).setCell (by show w.heap.size ≤ w.heap.size + 1; omega) _).setCell (by show w.heap.size ≤ w.heap.size + 1; omega) _).setCell (by show w.heap.size ≤ w.heap.size + 1; omega) _)

end Go.Proofs.Ytckmacnmmloemaa
