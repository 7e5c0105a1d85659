/- Ways to the sea, and the nodes on them. -/
import Derived.Test.YtnmmhaadkclogaaNodI
import Derived.Test.YtnmmhaadkclogaaOrdW
namespace Go.Proofs.Ytnmmhaadkclogaa
open Go.RowKit
set_option linter.unusedVariables false
set_option linter.unusedSimpArgs false
set_option maxRecDepth 100000
attribute [local irreducible] wpV wpList Code.wp
/-- How many nodes lie on the way from a node to the sea, itself among them. -/
def wayLen (D : List Int) (i : Nat) : Nat := (List.range (D.length + 2)).findIdx fun k => decide (walkD D k (i : Int) < 0)
structure IsWay (D : List Int) (i m : Nat) : Prop where
  out : walkD D m (i : Int) < 0
  on : ∀ k, k < m → 0 ≤ walkD D k (i : Int)
  le : m ≤ D.length + 1
  pos : 1 ≤ m
theorem wayLen_is {D : List Int} {i : Nat} (h : walkD D (D.length + 1) (i : Int) < 0) : IsWay D i (wayLen D i) := by
  have hlt : wayLen D i < (List.range (D.length + 2)).length := by
    unfold wayLen
    exact List.findIdx_lt_length_of_exists ⟨D.length + 1, List.mem_range.2 (by omega), decide_eq_true h⟩
  have hout : walkD D (wayLen D i) (i : Int) < 0 := by
    have h1 := List.findIdx_getElem (xs := List.range (D.length + 2)) (p := fun k => decide (walkD D k (i : Int) < 0)) (w := hlt)
    have e : (List.range (D.length + 2))[wayLen D i]'hlt = wayLen D i := List.getElem_range _
    have h2 : decide (walkD D (((List.range (D.length + 2))[wayLen D i]'hlt : Nat)) (i : Int) < 0) = true := h1
    rw [e] at h2
    exact of_decide_eq_true h2
  have hon : ∀ k, k < wayLen D i → 0 ≤ walkD D k (i : Int) := fun k hk => by
    have h1 := List.not_of_lt_findIdx (xs := List.range (D.length + 2)) (p := fun k => decide (walkD D k (i : Int) < 0)) hk
    simp only [List.getElem_range, decide_eq_true_eq, Bool.not_eq_true, decide_eq_false_iff_not] at h1
    omega
  refine ⟨hout, hon, ?_, ?_⟩
  · by_cases h9 : wayLen D i ≤ D.length + 1
    · exact h9
    · have := hon (D.length + 1) (by omega); omega
  · by_cases h9 : 1 ≤ wayLen D i
    · exact h9
    · have h0 : wayLen D i = 0 := by omega
      rw [h0] at hout
      have : (i : Int) < 0 := hout
      omega
def pathP (D : List Int) (m i : Nat) : List Int := (List.range m).map fun k => walkD D k (i : Int)
theorem pathP_length (D : List Int) (m i : Nat) : (pathP D m i).length = m := by simp [pathP]
theorem pathP_succ (D : List Int) (m i : Nat) : pathP D (m + 1) i = pathP D m i ++ [walkD D m (i : Int)] := by unfold pathP; rw [List.range_succ, List.map_append]; rfl
theorem pathP_getD {D : List Int} {m i j : Nat} (h : j < m) : (pathP D m i).getD j 0 = walkD D j (i : Int) := by
  rw [List.getD_eq_getElem?_getD]; unfold pathP; rw [List.getElem?_map, List.getElem?_range h]; rfl
set_option maxHeartbeats 4000000 in
theorem pathAlong_any (b off n cap i m : Nat) (D : List Int) (w : World) (hb : b < w.heap.size) (hc : ∀ i, i < D.length → w.cell? ⟨b, off + i, none⟩ = some (.int .i64 (D.getD i 0))) (hn : D.length = n) (hl : n ≤ 12) (hi : i < n) (hr : ∀ j, j < D.length → -1 ≤ D.getD j 0 ∧ D.getD j 0 ≤ (D.length : Int) - 1) (hm : IsWay D i m) :
    Calls Try.prog 76 #[.slice (some ⟨b, off, none⟩) n cap, .int .i64 (i : Int)] w fun e w' => ∃ a c, e = .returned (.slice a m c) ∧ w'.ownsRow w.heap.size 2 1 (.slice a m c) m (ic (pathP D m i)) ∧ Below w.heap.size w w' := by
  have HC := Lib.hid hc
  have HN := Lib.hid hn
  have HBs := Lib.hid hb
  have HM := Lib.hid hm
  have HIn : Hid (∀ k, -1 ≤ walkD D k (i : Int) ∧ walkD D k (i : Int) ≤ (n : Int) - 1) := Lib.hid (fun k => by have h9 := walkD_in hr (i := i) (by omega) k; rw [hn] at h9; exact h9)
  have hm13 : m ≤ 13 := by have := hm.le; omega
  obtain ⟨B, hB⟩ : ∃ B, w.heap.size = B := ⟨_, rfl⟩
  have HB := Lib.hid hB
  clear hc hn hb hm hr hB
  go_enter Try.func76, Try.ntmps76
  go_wp2_with fail
  go_loopw [1, 5] (fun zv ov wr => ∃ j : Nat, ∃ a c, j ≤ m ∧ zv = .int .i64 (walkD D j (i : Int)) ∧ ov = .slice a j c ∧ Hid (wr.ownsRow B 2 1 (.slice a j c) j (ic (pathP D j i))) ∧ Hid (Below B w wr)) (fun _ ov _ => m - lenOf ov)
  case atStart => exact ⟨0, none, 0, Nat.zero_le _, rfl, rfl, Lib.hid (World.ownsRow_nil _ _ _ _), Lib.hid (by rw [← HB.out]; exact Below.refl _ _)⟩
  case round =>
    obtain ⟨j, a, c, hj, rfl, rfl, HO, HW⟩ := hrel
    obtain ⟨z, hz⟩ : ∃ z, walkD D j (i : Int) = z := ⟨_, rfl⟩
    have hzin := HIn.out j
    rw [hz] at hzin
    obtain ⟨hz1, hz2⟩ := hzin
    rw [hz]
    by_cases hzm : z = -1
    · have hjm : j = m := by
        by_cases h9 : j < m
        · have := HM.out.on j h9; omega
        · omega
      have Hjm := Lib.hid hjm
      clear hjm hz
      subst hzm
      go_wp2_with fail
      go_ret
      exact ⟨a, c, by rw [← Hjm.out]; rfl, by rw [← Hjm.out, HB.out]; exact HO.out, by rw [HB.out]; exact HW.out⟩
    · obtain ⟨x, rfl⟩ : ∃ x : Nat, z = (x : Int) := ⟨z.toNat, by omega⟩
      have hx0 : (0 : Int) ≤ (x : Int) := by omega
      have hx1 : (x : Int) < (n : Int) := by omega
      have hjm : j < m := by
        by_cases h9 : j < m
        · exact h9
        · have h8 := HM.out.out
          obtain rfl : j = m := by omega
          omega
      have Hz := Lib.hid hz
      have hsz : B ≤ wr.heap.size := by have h9 := HW.out.size; rw [HB.out] at h9; exact h9
      have HOa := Lib.hid (HO.out.alloc (.cells #[.int .i64 (x : Int)] 2))
      have HWa : Hid (Below B w (wr.alloc (.cells #[.int .i64 (x : Int)] 2))) := Lib.hid (HW.out.alloc hsz _)
      have Hcell := Lib.hid (show (wr.alloc (.cells #[.int .i64 (x : Int)] 2)).cell? ⟨wr.heap.size, 0, none⟩ = some (.int .i64 (x : Int)) by simp [go_sem])
      have Hlo := Lib.hid (show B ≤ (wr.alloc (.cells #[.int .i64 (x : Int)] 2)).heap.size by simp; omega)
      have hkl : j ≤ 1048576 := by omega
      clear hz
      go_wp2_with (at_builtin; refine pushZ rfl rfl _ _ rfl rfl HOa.out wr.heap.size _ (x : Int) rfl Hcell.out hkl Hlo.out ?_)
      intro gn cn w4 hrow hgrow hgn hgl
      rw [← Hz.out, ← pathP_succ] at hrow
      have HO4 := Lib.hid hrow
      have HW4 : Hid (Below B w w4) := Lib.hid (HWa.out.grown hgrow (by simp; omega) (fun j hj => (HO.out.lt j hj).1))
      clear hrow hgrow hgn hgl HO HOa HW HWa Hcell Hlo
      have cd : w4.cell? ⟨b, off + x, none⟩ = some (.int .i64 (D.getD x 0)) := by rw [HW4.out.cell (p := ⟨b, off + x, none⟩) (by rw [← HB.out]; exact HBs.out)]; exact HC.out x (by rw [HN.out]; omega)
      go_wp2_with fail
      go_roundw
      case rel => exact ⟨j + 1, _, cn, by omega, by rw [walkD_succ, Hz.out]; unfold nxt; rw [if_neg (by omega), Int.toNat_natCast, List.getD_eq_getElem?_getD], rfl, HO4, HW4⟩
      case measure => simp [lenOf]; omega
end Go.Proofs.Ytnmmhaadkclogaa
