/- Dug hills: values, and which lists are lists of cells. -/
import Derived.Test.YtljehplkdofhpacHillOf
import Derived.Test.YtljehplkdofhpacRainA
import Derived.Test.YtljehplkdofhpacIntI
import Derived.Test.YtljehplkdofhpacIn
import Derived.Deep.Cut
namespace Go.Proofs.Ytljehplkdofhpac
open Go.RowKit
set_option linter.unusedVariables false
set_option linter.unusedSimpArgs false
set_option maxRecDepth 100000
attribute [local irreducible] wpV wpList Code.wp

def cellB (n i : Int) : Bool := decide (0 ≤ i) && decide (i ≤ n - 1)
theorem cellB_true {n i : Int} (h : cellB n i = true) : 0 ≤ i ∧ i < n := by simp [cellB] at h; omega
def okAt (n : Int) (L : List Int) (k : Nat) : Bool := cellB n (L.getD k 0) && (decide (k = 0) || decide (L.getD (k - 1) 0 < L.getD k 0))
def cellsTo (n : Int) (L : List Int) : Nat → Bool
  | 0 => true
  | k + 1 => cellsTo n L k && okAt n L k
def cellsB (n : Int) (L : List Int) : Bool := cellsTo n L L.length
theorem cellsTo_not {n : Int} {L : List Int} {k : Nat} (h : okAt n L k = false) : ∀ m, k < m → cellsTo n L m = false
  | 0, hm => by omega
  | m + 1, hm => by
    unfold cellsTo
    by_cases e : k = m
    · subst e; rw [h, Bool.and_false]
    · rw [cellsTo_not h m (by omega), Bool.false_and]
theorem cellsTo_le {n : Int} {L : List Int} {k : Nat} (h : cellsTo n L k = true) {j : Nat} (hj : j < k) : okAt n L j = true := by
  cases h2 : okAt n L j
  · rw [cellsTo_not h2 k hj] at h; cases h
  · rfl
theorem cellsTo_lt {n : Int} {L : List Int} : ∀ {k : Nat}, cellsTo n L (k + 1) = true → ∀ j, j < k → L.getD j 0 < L.getD k 0
  | 0, _, j, hj => by omega
  | k + 1, h, j, hj => by
    have h1 := cellsTo_le h (Nat.lt_succ_self (k + 1))
    simp only [okAt, Bool.and_eq_true, Bool.or_eq_true, decide_eq_true_eq] at h1
    have h2 : L.getD k 0 < L.getD (k + 1) 0 := by
      rcases h1.2 with h2 | h2
      · cases h2
      · exact h2
    have h3 : cellsTo n L (k + 1) = true := by unfold cellsTo at h; rw [Bool.and_eq_true] at h; exact h.1
    by_cases e : j = k
    · subst e; exact h2
    · have := cellsTo_lt h3 j (by omega); omega
def digO (zs : List Nat) (L : List Int) (X : Option Nat) (k j : Nat) : Option Nat := if (j : Int) ∈ L.take k then fop .sub .f32 (some (zs.getD j 0)) X else some (zs.getD j 0)
def digT (zs : List Nat) (L : List Int) (X : Option Nat) : List (Option Nat) := (List.range zs.length).map (digO zs L X L.length)
def DigTo (X : Option Nat) (L : List Int) (k : Nat) (O Z : List Nat) : Prop := Z.length = O.length ∧ ∀ j, j < O.length → Is32 (digO O L X k j) (Z.getD j 0)
theorem DigTo.zero (X : Option Nat) (L : List Int) (O : List Nat) (h : ∀ z ∈ O, z < 4294967296) : DigTo X L 0 O O := ⟨rfl, fun j hj => by
  unfold digO
  rw [List.take_zero, if_neg (by simp)]
  exact Is32.c (by rw [List.getD_eq_getElem?_getD, List.getElem?_eq_getElem hj]; exact h _ (List.getElem_mem _))⟩
theorem DigTo.not {X : Option Nat} {n : Int} {L : List Int} {k q : Nat} (hc : cellsTo n L (k + 1) = true) (hk : k < L.length) (hq : L.getD k 0 = (q : Int)) : ¬ (q : Int) ∈ L.take k := by
  intro hm
  obtain ⟨j, hj, e⟩ := List.mem_iff_getElem.1 hm
  have hj2 : j < k := by simp at hj; omega
  rw [List.getElem_take] at e
  have h2 := cellsTo_lt hc j hj2
  rw [List.getD_eq_getElem?_getD, List.getElem?_eq_getElem (by omega)] at h2
  rw [hq] at h2
  have : L[j] < (q : Int) := h2
  omega
theorem DigTo.old {X : Option Nat} {n : Int} {L : List Int} {k q : Nat} {O Z : List Nat} (h : DigTo X L k O Z) (hc : cellsTo n L (k + 1) = true) (hk : k < L.length) (hq : L.getD k 0 = (q : Int)) (hqo : q < O.length) : Z.getD q 0 = O.getD q 0 := by
  have h1 := h.2 q hqo
  unfold digO at h1
  rw [if_neg (DigTo.not (X := X) hc hk hq)] at h1
  exact h1.1
theorem DigTo.next {X : Option Nat} {L : List Int} {k q z : Nat} {O Z : List Nat} (h : DigTo X L k O Z) (hk : k < L.length) (hq : L.getD k 0 = (q : Int)) (hqo : q < O.length) (hz : Is32 (fop .sub .f32 (some (O.getD q 0)) X) z) : DigTo X L (k + 1) O (Z.set q z) := by
  obtain ⟨h1, h2⟩ := h
  have hLk : L[k] = (q : Int) := by rw [List.getD_eq_getElem?_getD, List.getElem?_eq_getElem hk] at hq; exact hq
  refine ⟨by rw [List.length_set]; exact h1, fun j hj => ?_⟩
  unfold digO
  by_cases e : j = q
  · subst e
    have e9 : (Z.set j z).getD j 0 = z := by rw [List.getD_eq_getElem?_getD, List.getElem?_set_self (by omega)]; rfl
    rw [e9, if_pos (by rw [List.take_succ_eq_append_getElem hk, hLk]; simp)]
    exact hz
  · have e9 : (Z.set q z).getD j 0 = Z.getD j 0 := by rw [List.getD_eq_getElem?_getD, List.getElem?_set_ne (fun h => e h.symm), ← List.getD_eq_getElem?_getD]
    have e8 : ((j : Int) ∈ L.take (k + 1)) = ((j : Int) ∈ L.take k) := by
      rw [List.take_succ_eq_append_getElem hk, hLk]
      have : ¬ (j : Int) = (q : Int) := by omega
      simp [this]
    have h3 := h2 j hj
    unfold digO at h3
    rw [e9]
    simp only [e8]
    exact h3
theorem DigTo.told {X : Option Nat} {L : List Int} {O Z : List Nat} (h : DigTo X L L.length O Z) : Told (digT O L X) Z := by
  refine ⟨by rw [h.1]; simp [digT], fun i hi => ?_⟩
  have hi2 : i < O.length := by simpa [digT] using hi
  have e : (digT O L X).getD i none = digO O L X L.length i := by
    rw [digT, List.getD_eq_getElem?_getD, List.getElem?_map, List.getElem?_range hi2]
    rfl
  rw [e]
  exact (h.2 i hi2).1
theorem DigTo.lt {X : Option Nat} {L : List Int} {k : Nat} {O Z : List Nat} (h : DigTo X L k O Z) : ∀ z ∈ Z, z < 4294967296 := by
  intro z hz
  obtain ⟨i, hi, rfl⟩ := List.mem_iff_getElem.1 hz
  have h3 := (h.2 i (by rw [← h.1]; exact hi)).2
  rw [List.getD_eq_getElem?_getD, List.getElem?_eq_getElem hi] at h3
  exact h3
def resDigHill (wide high : Int) (zs : List Nat) (L : List Int) (x : Nat) : HR := if validB wide high zs && cellsB (wide * high) L && fin32 x then giveH wide high (digT zs L (some x)) else failH
theorem giveH_len8 (wide high : Int) (T : List (Option Nat)) : (giveH wide high T).zs.length ≤ T.length := by
  unfold giveH
  split
  · rw [valsT_length]; exact Nat.le_refl _
  · exact Nat.zero_le _
theorem valid_len8 {wide high : Int} {zs : List Nat} (h : validB wide high zs = true) : sidesB wide high = true ∧ (zs.length : Int) = wide * high ∧ 1 ≤ zs.length ∧ zs.length ≤ 256 := by
  simp only [validB, Bool.and_eq_true, decide_eq_true_eq] at h
  obtain ⟨⟨h1, h2⟩, h3⟩ := h
  have := mul_bound h1
  exact ⟨h1, h2, by omega, by omega⟩
theorem resDigHill_len (wide high : Int) (zs : List Nat) (L : List Int) (x : Nat) : (resDigHill wide high zs L x).zs.length ≤ 1048576 := by
  unfold resDigHill
  split
  · rename_i h
    simp only [Bool.and_eq_true] at h
    have h2 := (valid_len8 h.1.1).2.2.2
    have := giveH_len8 wide high (digT zs L (some x))
    rw [show (digT zs L (some x)).length = zs.length by simp [digT]] at this
    omega
  · exact Nat.zero_le _
theorem BoxW.put {w : World} {b : Nat} {wide high : Int} {v : Value} (h : BoxW w b wide high v) (n : Nat) {p : Addr} (hp : p.block ≠ b) (u : Value) : BoxW ((w.drewN n).setCell p u) b wide high v := by
  have hb : ((w.drewN n).setCell p u).heap[b]? = w.heap[b]? := Below.heap_setCell _ _ _ _ (fun e => hp e.symm)
  obtain ⟨⟨h0, h1, h2, h3⟩, hf⟩ := h
  exact ⟨⟨by rw [World.cell?_of_block (w := w) (a := ⟨b, 0, none⟩) hb, h0], by rw [World.cell?_of_block (w := w) (a := ⟨b, 1, none⟩) hb, h1], by rw [World.cell?_of_block (w := w) (a := ⟨b, 2, none⟩) hb, h2], by simpa using h3⟩, fun o => by rw [World.frozen?_of_block (w := w) (a := ⟨b, o, none⟩) hb]; exact hf o⟩
theorem cellsTo_mono {n : Int} {L : List Int} {k : Nat} : ∀ {m : Nat}, cellsTo n L m = true → k ≤ m → cellsTo n L k = true
  | 0, h, hk => by have h0 : k = 0 := by omega
                   subst h0; rfl
  | m + 1, h, hk => by
    by_cases e : k = m + 1
    · subst e; exact h
    · unfold cellsTo at h; rw [Bool.and_eq_true] at h; exact cellsTo_mono h.1 (by omega)

set_option maxHeartbeats 1000000 in
theorem isCell_any (wide high i : Int) (v : Value) (w : World) (hs : sidesB wide high = true) (hv : ∃ a n c, v = .slice a n c) :
    Calls Try.prog 79 #[.agg #[.int .i64 wide, .int .i64 high, v], .int .i64 i] w fun e w' => e = .returned (.bool (cellB (wide * high) i)) ∧ Below w.heap.size w w' := by
  obtain ⟨av, nv, cv, rfl⟩ := hv
  have hm := mul_bound hs
  have hmul : IntKind.i64.wrap (wide * high) = wide * high := IntWalk.i64_in _ (by omega)
  obtain ⟨m, hme⟩ : ∃ m, wide * high = m := ⟨_, rfl⟩
  rw [hme] at hmul hm ⊢
  clear hs
  unfold cellB
  by_cases h1 : 0 ≤ i
  · by_cases h2 : i < m
    · rw [show (decide (0 ≤ i) && decide (i ≤ m - 1)) = true by rw [decide_eq_true h1, decide_eq_true (by omega : i ≤ m - 1)]; rfl]
      go_enter Try.func79, Try.ntmps79
      go_wp2
      go_ret
      exact ⟨rfl, below1 _ _⟩
    · rw [show (decide (0 ≤ i) && decide (i ≤ m - 1)) = false by rw [decide_eq_false (by omega : ¬ i ≤ m - 1), Bool.and_false]]
      go_enter Try.func79, Try.ntmps79
      go_wp2
      go_ret
      exact ⟨rfl, below1 _ _⟩
  · rw [show (decide (0 ≤ i) && decide (i ≤ m - 1)) = false by rw [decide_eq_false h1, Bool.false_and]]
    go_enter Try.func79, Try.ntmps79
    go_wp2
    go_ret
    exact ⟨rfl, below1 _ _⟩

set_option maxHeartbeats 4000000 in
theorem areCells_any (wide high : Int) (v : Value) (aL : Option Addr) (capL : Nat) (L : List Int) (w : World) (hs : sidesB wide high = true) (hv : ∃ a n c, v = .slice a n c) (h : RowI w aL L) (hl : L.length ≤ 1048576) :
    Calls Try.prog 73 #[.agg #[.int .i64 wide, .int .i64 high, v], .slice aL L.length capL] w fun e w' => e = .returned (.bool (cellsB (wide * high) L)) ∧ Below w.heap.size w w' := by
  have HL := Lib.hid h
  have HS := Lib.hid hs
  have HV := Lib.hid hv
  have hcell : ∀ j, j < L.length → ∃ b off, aL = some ⟨b, off, none⟩ ∧ b < w.heap.size ∧ w.cell? ⟨b, off + j, none⟩ = some (.int .i64 (L.getD j 0)) := fun j hj => by rcases HL.out with rfl | ⟨b, off, h1, h2, h3⟩; (cases hj); exact ⟨b, off, h1, h2, h3 j hj⟩
  have HC := Lib.hid hcell
  clear h hs hv hcell
  obtain ⟨W1, hW1⟩ : ∃ W, (w.alloc (.cells #[.int .i64 wide, .int .i64 high, v] 28)) = W := ⟨_, rfl⟩
  have hbx : BoxH W1 w.heap.size wide high v := by rw [← hW1]; exact BoxH.new w wide high v 28
  have hb1 : Below w.heap.size w W1 := by rw [← hW1]; exact below1 _ _
  have HBX1 := Lib.hid hbx
  have HB1 := Lib.hid hb1
  have HW1 := Lib.hid hW1
  clear hbx hb1 hW1
  go_enter Try.func73, Try.ntmps73
  go_upto_region 1 with fail
  rw [HW1.out]
  clear HW1
  go_wp2_with fail
  go_loopw [9] (fun iv wr => ∃ (k : Nat), k ≤ L.length ∧ iv = .int .i64 k ∧ Hid (cellsTo (wide * high) L k = true) ∧ Hid (BoxH wr w.heap.size wide high v) ∧ Hid (Below w.heap.size w wr)) (fun iv _ => L.length - (intOf iv).toNat)
  case atStart => exact ⟨0, Nat.zero_le _, rfl, Lib.hid rfl, HBX1, HB1⟩
  case round =>
    clear HBX1 HB1
    obtain ⟨k, hk, rfl, HTo, HBX, HB'⟩ := hrel
    by_cases hlt : k < L.length
    · by_cases h0 : k = 0
      · obtain rfl : k = 0 := h0
        obtain ⟨bL, oL, rfl, hbL, hc1⟩ := HC.out 0 hlt
        have hc1' : wr.cell? ⟨bL, oL + 0, none⟩ = some (.int .i64 (L.getD 0 0)) := by rw [HB'.out.cell (p := ⟨bL, oL + 0, none⟩) hbL]; exact hc1
        obtain ⟨z1, hz1⟩ : ∃ z, L.getD 0 0 = z := ⟨_, rfl⟩
        rw [hz1] at hc1'
        have HZ1 := Lib.hid hz1
        rw [Nat.add_zero] at hc1'
        have hk9 : (0 : Int) < (L.length : Int) := by omega
        clear hc1 hz1
        have hk0 : (0 : Int) ≤ ((0 : Nat) : Int) := by omega
        have hk1 : ((0 : Nat) : Int) < (L.length : Int) := by omega
        obtain ⟨p0, p1, p2, p3⟩ := HBX.out
        have HCall : Hid (∀ b, cellB (wide * high) z1 = b → Calls Try.prog 79 #[.agg #[.int .i64 wide, .int .i64 high, v], .int .i64 z1] wr fun e w' => e = .returned (.bool b) ∧ Below wr.heap.size wr w') := Lib.hid fun b hb => hb ▸ isCell_any wide high z1 v wr HS.out HV.out
        skip
        go_wp2_with fail
        cases hcb : cellB (wide * high) z1
        · refine (HCall.out false hcb).mono ?_
          rintro e w2 ⟨rfl, hb⟩
          go_wp2
          go_ret
          exact ⟨by unfold cellsB; rw [cellsTo_not (k := 0) (by unfold okAt; rw [HZ1.out, hcb, Bool.false_and]) L.length hlt]; rfl, HB'.out.trans (hb.mono HB'.out.size)⟩
        refine (HCall.out true hcb).mono ?_
        rintro e w2 ⟨rfl, hb⟩
        go_wp2
        go_roundw
        case rel => exact ⟨0 + 1, by omega, by go_num, Lib.hid (by show (cellsTo _ _ _ && okAt _ _ _) = true; rw [HTo.out, Bool.true_and]; unfold okAt; rw [HZ1.out, hcb]; rfl), Lib.hid (HBX.out.below hb p3), Lib.hid (HB'.out.trans (hb.mono HB'.out.size))⟩
        case measure => simp [intOf]; omega
      · obtain ⟨m, rfl⟩ : ∃ m, k = m + 1 := ⟨k - 1, by omega⟩
        obtain ⟨bL, oL, rfl, hbL, hc1⟩ := HC.out (m + 1) hlt
        have hc1' : wr.cell? ⟨bL, oL + (m + 1), none⟩ = some (.int .i64 (L.getD (m + 1) 0)) := by rw [HB'.out.cell (p := ⟨bL, oL + (m + 1), none⟩) hbL]; exact hc1
        obtain ⟨bL', oL', hq, hbL', hc2⟩ := HC.out m (by omega)
        cases hq
        have hc2' : wr.cell? ⟨bL, oL + m, none⟩ = some (.int .i64 (L.getD m 0)) := by rw [HB'.out.cell (p := ⟨bL, oL + m, none⟩) hbL]; exact hc2
        obtain ⟨z1, hz1⟩ : ∃ z, L.getD (m + 1) 0 = z := ⟨_, rfl⟩
        rw [hz1] at hc1'
        have HZ1 := Lib.hid hz1
        obtain ⟨z0, hz0⟩ : ∃ z, L.getD m 0 = z := ⟨_, rfl⟩
        rw [hz0] at hc2'
        have HZ0 := Lib.hid hz0
        have hcast : ((m + 1 : Nat) : Int) = (m : Int) + 1 := by omega
        have hcast1 : ((m : Int) + 1 - 1) = (m : Int) := by omega
        have hi1 : IntKind.i64.wrap (m : Int) = (m : Int) := IntWalk.i64_in _ (by omega)
        have hgt : (0 : Int) < (m : Int) + 1 := by omega
        clear hc1 hz1 hc2 hz0
        have hk0 : (0 : Int) ≤ (((m + 1) : Nat) : Int) := by omega
        have hk1 : (((m + 1) : Nat) : Int) < (L.length : Int) := by omega
        obtain ⟨p0, p1, p2, p3⟩ := HBX.out
        have HCall : Hid (∀ b, cellB (wide * high) z1 = b → Calls Try.prog 79 #[.agg #[.int .i64 wide, .int .i64 high, v], .int .i64 z1] wr fun e w' => e = .returned (.bool b) ∧ Below wr.heap.size wr w') := Lib.hid fun b hb => hb ▸ isCell_any wide high z1 v wr HS.out HV.out
        skip
        go_wp2_with fail
        cases hcb : cellB (wide * high) z1
        · refine (HCall.out false hcb).mono ?_
          rintro e w2 ⟨rfl, hb⟩
          go_wp2
          go_ret
          exact ⟨by unfold cellsB; rw [cellsTo_not (k := (m + 1)) (by unfold okAt; rw [HZ1.out, hcb, Bool.false_and]) L.length hlt]; rfl, HB'.out.trans (hb.mono HB'.out.size)⟩
        refine (HCall.out true hcb).mono ?_
        rintro e w2 ⟨rfl, hb⟩
        have hc2'' : w2.cell? ⟨bL, oL + m, none⟩ = some (.int .i64 z0) := by rw [hb.cell (p := ⟨bL, oL + m, none⟩) (by show bL < wr.heap.size; exact Nat.lt_of_lt_of_le hbL HB'.out.size)]; exact hc2'
        by_cases hle : z1 ≤ z0
        · go_wp2
          go_ret
          exact ⟨by unfold cellsB; rw [cellsTo_not (k := (m + 1)) (by unfold okAt; rw [HZ1.out, hcb, show m + 1 - 1 = m from rfl, HZ0.out, decide_eq_false (by omega : ¬ m + 1 = 0), decide_eq_false (by omega : ¬ z0 < z1)]; rfl) L.length hlt]; rfl, HB'.out.trans (hb.mono HB'.out.size)⟩
        go_wp2
        go_roundw
        case rel => exact ⟨(m + 1) + 1, by omega, by go_num, Lib.hid (by show (cellsTo _ _ _ && okAt _ _ _) = true; rw [HTo.out, Bool.true_and]; unfold okAt; rw [HZ1.out, hcb, show m + 1 - 1 = m from rfl, HZ0.out, decide_eq_true (by omega : z0 < z1), Bool.or_true]; rfl), Lib.hid (HBX.out.below hb p3), Lib.hid (HB'.out.trans (hb.mono HB'.out.size))⟩
        case measure => simp [intOf]; omega
    · have hkn : k = L.length := by omega
      subst hkn
      have hki : ¬ (L.length : Int) < (L.length : Int) := by omega
      go_wp2_with fail
      go_ret
      exact ⟨by unfold cellsB; rw [HTo.out]; rfl, HB'.out⟩

theorem l02Is_b (b : Nat) (wide high : Int) (a : Option Addr) (cap : Nat) (zs : List Nat) (w : World) (h0 : w.cell? ⟨b, 0, none⟩ = some (.int .i64 wide)) (h1 : w.cell? ⟨b, 1, none⟩ = some (.int .i64 high)) (h2 : w.cell? ⟨b, 2, none⟩ = some (.slice a zs.length cap)) (h : RowF .f32 w a zs) (hl : zs.length ≤ 1048576) (bb : Bool) (hb : validB wide high zs = bb) :
    Calls Try.prog 67 #[.pointer (some ⟨b, 0, none⟩)] w fun e w' => e = .returned (.bool bb) ∧ ∃ n, w' = w.drewN n := hb ▸ l02Is_any b wide high a cap zs w h0 h1 h2 h hl

theorem l00In_b (n lo hi : Int) (w : World) (b : Bool) (hb : (decide (lo ≤ n) && decide (n ≤ hi)) = b) : Calls Try.prog 120 #[.int .i64 n, .int .i64 lo, .int .i64 hi] w fun e w' => e = .returned (.bool b) ∧ w' = w := (l00In_any n lo hi w).mono (by rintro e w' ⟨bb, hbb, rfl, rfl⟩; exact ⟨by rw [← hb, ← hbb], rfl⟩)

set_option maxHeartbeats 2000000 in
theorem l02Has_any (b : Nat) (wide high i : Int) (a : Option Addr) (cap : Nat) (zs : List Nat) (w : World) (h0 : w.cell? ⟨b, 0, none⟩ = some (.int .i64 wide)) (h1 : w.cell? ⟨b, 1, none⟩ = some (.int .i64 high)) (h2 : w.cell? ⟨b, 2, none⟩ = some (.slice a zs.length cap)) (h : RowF .f32 w a zs) (hl : zs.length ≤ 1048576) (hv : validB wide high zs = true) (bb : Bool) (hbb : cellB (wide * high) i = bb) :
    Calls Try.prog 70 #[.pointer (some ⟨b, 0, none⟩), .int .i64 i] w fun e w' => e = .returned (.bool bb) ∧ ∃ n, w' = w.drewN n := by
  have H := Lib.hid h
  have HVl := Lib.hid hv
  have HC := Lib.hid (show (decide (0 ≤ i) && decide (i ≤ wide * high - 1)) = bb from hbb)
  have hm := mul_bound (valid_len8 hv).1
  have hmul : IntKind.i64.wrap (wide * high) = wide * high := IntWalk.i64_in _ (by omega)
  have hsub : IntKind.i64.wrap (wide * high - 1) = wide * high - 1 := IntWalk.i64_in _ (by omega)
  clear h hv hbb
  have HIs : Hid (∀ n, Calls Try.prog 67 #[.pointer (some ⟨b, 0, none⟩)] (w.drewN n) fun e w' => e = .returned (.bool true) ∧ ∃ m, w' = (w.drewN n).drewN m) := Lib.hid fun n => l02Is_b b wide high a cap zs (w.drewN n) h0 h1 h2 (H.out.drewN n) hl true HVl.out
  go_enter Try.func70, Try.ntmps70
  go_wp2_with fail
  go_quiet (first | (go_at_call 67; exact Calls.quiet_of (HIs.out _)) | (go_at_call 120; exact Calls.quiet_of_same (l00In_b _ _ _ _ _ HC.out)))
  go_wp2_with fail
  go_ret
  exact ⟨rfl, _, rfl⟩

end Go.Proofs.Ytljehplkdofhpac
