/- Short days: values; the model's count. -/
import Derived.Test.YtckmacnmmloemaaRunV
import Derived.Test.YtckmacnmmloemaaSsP
import Derived.Test.YtckmacnmmloemaaRivS
import Derived.Test.YtckmacnmmloemaaDysS
import Derived.Test.YtckmacnmmloemaaRvQ
import Derived.Deep.QuietTactic
namespace Go.Proofs.Ytckmacnmmloemaa
open Go.RowKit
set_option linter.unusedVariables false
set_option linter.unusedSimpArgs false
set_option maxRecDepth 100000
attribute [local irreducible] wpV wpList Code.wp

/-- On how many of the first k days node i gives too little. -/
def shoV (G : List (List Int)) (V : List Int) (i : Nat) : Nat → Int
  | 0 => 0
  | k + 1 => if (zr G k).getD i 0 < V.getD i 0 then shoV G V i k + 1 else shoV G V i k
theorem shoV_in (G : List (List Int)) (V : List Int) (i : Nat) : ∀ k : Nat, 0 ≤ shoV G V i k ∧ shoV G V i k ≤ (k : Int)
  | 0 => ⟨Int.le_refl _, Int.le_refl _⟩
  | k + 1 => by
    have h := shoV_in G V i k
    unfold shoV
    split <;> omega
def shoR (D M V : List Int) (n : Nat) (Zs : List (List Int)) : List Int × Bool := if rivB D M V n && decide (Zs.length ≤ 64) && daysB Zs n then ((List.range n).map fun i => shoV (runTo D M V Zs n Zs.length).G V i Zs.length, true) else ([], false)
theorem shoR_len (D M V : List Int) (n : Nat) (Zs : List (List Int)) : (shoR D M V n Zs).1.length ≤ 12 := by
  unfold shoR
  cases h : (rivB D M V n && decide (Zs.length ≤ 64) && daysB Zs n)
  · exact Nat.zero_le _
  · rw [Bool.and_eq_true, Bool.and_eq_true] at h
    have h1 := (rivB_true h.1.1).1
    show ((List.range n).map _).length ≤ 12
    rw [List.length_map, List.length_range]; omega
def shoW (G : List (List Int)) (V : List Int) (n k i : Nat) : List Int := (List.range n).map fun q => if q < i then shoV G V q (k + 1) else shoV G V q k
theorem shoW_length (G : List (List Int)) (V : List Int) (n k i : Nat) : (shoW G V n k i).length = n := by simp [shoW]
theorem shoW_zero (G : List (List Int)) (V : List Int) (n : Nat) : shoW G V n 0 0 = List.replicate n 0 := by
  apply List.ext_getElem?
  intro j
  by_cases h : j < n
  · unfold shoW; rw [List.getElem?_map, List.getElem?_range h, List.getElem?_replicate, if_pos h]; rfl
  · rw [List.getElem?_eq_none (by rw [shoW_length]; omega), List.getElem?_eq_none (by simp; omega)]
theorem shoW_next (G : List (List Int)) (V : List Int) (n k : Nat) : shoW G V n k n = shoW G V n (k + 1) 0 := by
  unfold shoW
  refine List.map_congr_left fun j hj => ?_
  rw [if_pos (List.mem_range.1 hj), if_neg (Nat.not_lt_zero _)]
theorem shoW_at (G : List (List Int)) (V : List Int) (n k : Nat) : shoW G V n k 0 = (List.range n).map fun i => shoV G V i k := by
  unfold shoW
  refine List.map_congr_left fun j hj => ?_
  rw [if_neg (Nat.not_lt_zero _)]
theorem shoW_get {G : List (List Int)} {V : List Int} {n k i : Nat} (h : i < n) : (shoW G V n k i).getD i 0 = shoV G V i k := by
  unfold shoW
  rw [List.getD_eq_getElem?_getD, List.getElem?_map, List.getElem?_range h]; simp
theorem shoW_set {G : List (List Int)} {V : List Int} {n k i : Nat} (h : i < n) : (shoW G V n k i).set i (shoV G V i (k + 1)) = shoW G V n k (i + 1) := by
  apply List.ext_getElem?
  intro j
  rw [set_get _ _ _ _ (by rw [shoW_length]; exact h)]
  by_cases hj : j < n
  · unfold shoW
    rw [List.getElem?_map, List.getElem?_map, List.getElem?_range hj]
    simp only [Option.map_some]
    by_cases e : j = i
    · subst e; rw [if_pos rfl, if_pos (by omega)]
    · rw [if_neg e]
      by_cases e2 : j < i
      · rw [if_pos e2, if_pos (by omega)]
      · rw [if_neg e2, if_neg (by omega)]
  · rw [if_neg (by omega), List.getElem?_eq_none (by rw [shoW_length]; omega), List.getElem?_eq_none (by rw [shoW_length]; omega)]
theorem shoW_same {G : List (List Int)} {V : List Int} {n k i : Nat} (h : i < n) (hs : shoV G V i (k + 1) = shoV G V i k) : shoW G V n k (i + 1) = shoW G V n k i := by
  rw [← shoW_set h, hs, ← shoW_get (k := k) h, List.getD_eq_getElem?_getD, List.getElem?_eq_getElem (by rw [shoW_length]; exact h)]
  exact List.set_getElem_self _
set_option maxHeartbeats 4000000 in
theorem l06Short_any (pa n len gc c2 i : Nat) (v0 v1 : Value) (ga a2 : Option Addr) (G : List (List Int)) (V : List Int) (w : World) (hpa : Bx w pa [v0, v1, .slice a2 n c2]) (h2 : RowC w a2 (ic V)) (hV : V.length = n) (hg : RowSS w ga G) (hgl : G.length = len) (hgr : ∀ k, k < len → (zr G k).length = n) (hi : i < n) (hn : n ≤ 12) (hl : len ≤ 64) :
    Calls Try.prog 70 #[.pointer (some ⟨pa, 0, none⟩), .slice ga len gc, .int .i64 (i : Int)] w fun e w' => e = .returned (.int .i64 (shoV G V i len)) ∧ Below w.heap.size w w' := by
  have HG := Lib.hid hg
  have Hgl := Lib.hid hgl
  have Hgr := Lib.hid hgr
  have HV := Lib.hid h2
  have HVl := Lib.hid hV
  have p2 := hpa.c 2 rfl
  clear hg hgl hgr h2 hV hpa
  have hi0 : (0 : Int) ≤ (i : Int) := by omega
  have hi1 : (i : Int) < (n : Int) := by omega
  obtain ⟨bv, ov, rfl, hbv, hcv⟩ := HV.out.cells (fun e => by have h9 := HVl.out; rw [e, List.length_nil] at h9; omega)
  have cv := hcv i (by rw [HVl.out]; exact hi)
  obtain ⟨v, hv⟩ : ∃ v, V.getD i 0 = v := ⟨_, rfl⟩
  rw [hv] at cv
  have Hv := Lib.hid hv
  clear hcv hbv hv
  go_enter Try.func70, Try.ntmps70
  go_wp2_with fail
  go_loopw [7, 8] (fun nv kv wr => ∃ k q : Nat, k ≤ len ∧ kv = .int .i64 (k : Int) ∧ nv = .int .i64 (shoV G V i k) ∧ wr = w.drewN q) (fun _ kv _ => len - (intOf kv).toNat)
  case atStart => exact ⟨0, 0, Nat.zero_le _, rfl, rfl, rfl⟩
  case round =>
  obtain ⟨k, q, hk, rfl, rfl, hwr⟩ := hrel
  have hk0 : (0 : Int) ≤ (k : Int) := by omega
  by_cases hlt : k < len
  · have hk1 : (k : Int) < (len : Int) := by omega
    obtain ⟨b2, o2, rfl, hb2, hcb2⟩ : ∃ b off, ga = some ⟨b, off, none⟩ ∧ b < w.heap.size ∧ ∀ k, k < G.length → ∃ ak ck, w.cell? ⟨b, off + k, none⟩ = some (.slice ak (zr G k).length ck) ∧ RowC w ak (ic (zr G k)) := by
      rcases HG.out with h9 | h9
      · have h8 := Hgl.out; rw [h9, List.length_nil] at h8; omega
      · exact h9
    obtain ⟨ek, dk, hcel2, hrow2⟩ := hcb2 k (by rw [Hgl.out]; exact hlt)
    have hgl := Hgr.out k hlt
    rw [hgl] at hcel2
    obtain ⟨bj, oj, rfl, hbj, hcj⟩ := hrow2.cells (fun e => by rw [e, List.length_nil] at hgl; omega)
    have cx := hcj i (by rw [hgl]; exact hi)
    have y1 : wr.cell? ⟨b2, o2 + k, none⟩ = some (.slice (some ⟨bj, oj, none⟩) n dk) := by rw [hwr]; exact hcel2
    have y2 : wr.cell? ⟨bj, oj + i, none⟩ = some (.int .i64 ((zr G k).getD i 0)) := by rw [hwr]; exact cx
    have y3 : wr.cell? ⟨pa, 2, none⟩ = some (.slice (some ⟨bv, ov, none⟩) n c2) := by rw [hwr]; exact p2
    have y4 : wr.cell? ⟨bv, ov + i, none⟩ = some (.int .i64 v) := by rw [hwr]; exact cv
    have hss : shoV G V i (k + 1) = if (zr G k).getD i 0 < V.getD i 0 then shoV G V i k + 1 else shoV G V i k := rfl
    have hsi := shoV_in G V i k
    obtain ⟨x, hx⟩ : ∃ x, (zr G k).getD i 0 = x := ⟨_, rfl⟩
    obtain ⟨s, hs⟩ : ∃ s, shoV G V i k = s := ⟨_, rfl⟩
    rw [hx] at y2
    rw [hs] at hsi ⊢
    rw [hx, Hv.out, hs] at hss
    have Hss := Lib.hid hss
    have Hwr := Lib.hid hwr
    obtain ⟨hs0, hs1⟩ := hsi
    clear hcb2 hrow2 hcj hgl hcel2 cx hwr hx hs hss hb2 hbj p2 cv
    by_cases hd : x < v
    · go_wp2_with fail
      go_quiet (fail)
      go_wp2_with fail
      go_roundw
      case rel => exact ⟨k + 1, _, by omega, by go_num, by rw [Hss.out, if_pos (by omega)], by rw [Hwr.out, World.drewN_drewN]⟩
      case measure => simp [intOf]; omega
    · go_wp2_with fail
      go_quiet (fail)
      go_wp2_with fail
      go_roundw
      case rel => exact ⟨k + 1, _, by omega, by go_num, by rw [Hss.out, if_neg (by omega)], by rw [Hwr.out, World.drewN_drewN]⟩
      case measure => simp [intOf]; omega
  · obtain rfl : k = len := by omega
    subst hwr
    go_wp2_with fail
    go_ret
    exact ⟨rfl, below_drewN (Below.refl _ _) _⟩

end Go.Proofs.Ytckmacnmmloemaa
