/- Lists of integers: the laws' copies, looks and marks. -/
import Derived.Test.YtckmacnmmloemaaRows
import Derived.Test.YtckmacnmmloemaaRowG
namespace Go.Proofs.Ytckmacnmmloemaa
open Go.RowKit
set_option linter.unusedVariables false
set_option linter.unusedSimpArgs false
set_option maxRecDepth 100000

theorem info_z64 : (Try.prog.info? 2).map (fun i => (i.zero, i.size, i.bytes)) = some (some (.int .i64 0), 1, 8) := by kernel_rfl
/-- The copy so far. -/
def copiedZ (zs : List Int) (n : Nat) : List Value := ic (zs.take n) ++ List.replicate (zs.length - n) (.int .i64 0)
theorem copiedZ_zero (zs : List Int) : copiedZ zs 0 = List.replicate zs.length (.int .i64 0) := by simp [copiedZ, ic]
theorem copiedZ_all (zs : List Int) : copiedZ zs zs.length = ic zs := by simp [copiedZ]
theorem copiedZ_set (zs : List Int) (n : Nat) (h : n < zs.length) : (copiedZ zs n).set n (.int .i64 (zs.getD n 0)) = copiedZ zs (n + 1) := by
  unfold copiedZ ic
  have e : zs.getD n 0 = zs[n] := by rw [List.getD_eq_getElem?_getD, List.getElem?_eq_getElem h]; rfl
  rw [e, List.set_append_right _ _ (by simp; omega)]
  have e2 : n - ((zs.take n).map (Value.int .i64)).length = 0 := by simp; omega
  rw [e2, show zs.length - n = (zs.length - (n + 1)) + 1 by omega, List.replicate_succ, List.set_cons_zero, List.take_succ_eq_append_getElem h, List.map_append]
  simp

set_option maxHeartbeats 1000000 in
theorem copyZ_row (b off cap : Nat) (zs : List Int) (w : World) (hb : b < w.heap.size) (hc : ∀ i, i < zs.length → w.cell? ⟨b, off + i, none⟩ = some (.int .i64 (zs.getD i 0))) (hl : zs.length ≤ 1048576) :
    Calls Try.prog 15 #[.slice (some ⟨b, off, none⟩) zs.length cap] w (CopyC 2 1 w zs.length (ic zs)) := by
  obtain ⟨i0, hi, hz0, hz1, hz2⟩ := info_parts info_z64
  obtain ⟨len, hlen⟩ : ∃ len, zs.length = len := ⟨_, rfl⟩
  rw [hlen] at hl hc
  have Hlen := Lib.hid hlen
  rw [hlen]
  clear hlen
  have Hc := Lib.hid hc
  clear hc
  go_enter Try.func15, Try.ntmps15
  go_wp2_with (first | (at_make; refine wpList_make_full _ rfl _ _ 22 rfl w.heap.size 2 i0 (.int .i64 0) 1 Try.underlying22 hi hz0 hz1 _ _ _ _ len rfl rfl rfl rfl (by rw [hz2]; omega) (by unfold maxLen; omega) (Nat.le_refl _) ?_) | go_in)
  intro w1 hown hgrow
  have hown' : w1.ownsRow w.heap.size 2 1 (.slice (some ⟨w.heap.size, 0, none⟩) len len) len (copiedZ zs 0) := by
    rw [copiedZ_zero, Hlen.out, ← toList_madeCells_one]
    exact hown
  have hb1 : Below w.heap.size w w1 := (Below.refl _ _).grown hgrow (Nat.le_refl _) (fun k h => by cases h)
  clear hown hgrow
  go_wp2_with fail
  go_loopw [4] (fun i wr => ∃ k : Nat, k ≤ len ∧ i = .int .i64 k ∧ wr.ownsRow w.heap.size 2 1 (.slice (some ⟨w.heap.size, 0, none⟩) len len) len (copiedZ zs k) ∧ Below w.heap.size w wr) (fun i _ => len - (intOf i).toNat)
  case atStart => exact ⟨0, Nat.zero_le _, rfl, hown', hb1⟩
  case round =>
    obtain ⟨k, hk, rfl, hown, hbw⟩ := hrel
    clear hown' hb1
    by_cases hlt : k < len
    · have hsrc : wr.cell? ⟨b, off + k, none⟩ = some (.int .i64 (zs.getD k 0)) := by
        rw [hbw.cell (p := ⟨b, off + k, none⟩) hb]; exact Hc.out k hlt
      have hdst := hown.cellAt k (by omega)
      obtain ⟨old, hold⟩ : ∃ old, (copiedZ zs k)[k]? = some old := ⟨_, List.getElem?_eq_getElem (by simp [copiedZ, ic]; have := Hlen.out; omega)⟩
      rw [hold] at hdst
      have hfz := hown.frozenAt k
      have hst := hown.stored k (.int .i64 (zs.getD k 0))
      rw [copiedZ_set zs k (by rw [Hlen.out]; exact hlt)] at hst
      have Hst := Lib.hid hst
      have Hbw := Lib.hid hbw
      clear hst hold hown hbw
      generalize zs.getD k 0 = z at *
      go_wp2
      go_roundw
      case rel => exact ⟨k + 1, by omega, by go_num, Hst.out.1, Hbw.out.grown Hst.out.2 (Hbw.out.size) (fun j hj => by cases hj; exact Nat.le_refl _)⟩
      case measure => simp [intOf]; omega
    · obtain rfl : k = len := by omega
      have Hown := Lib.hid hown
      have Hbw := Lib.hid hbw
      clear hown hbw
      go_wp2
      go_ret
      refine ⟨some ⟨w.heap.size, 0, none⟩, k, rfl, Hbw.out, HRow.mk' ?_⟩
      have := Hown.out
      rw [← Hlen.out, copiedZ_all] at this
      rw [← Hlen.out]
      exact this
set_option maxHeartbeats 1000000 in
theorem copyZ_nil (a : Option Addr) (cap : Nat) (w : World) :
    Calls Try.prog 15 #[.slice a 0 cap] w (CopyC 2 1 w 0 []) := by
  obtain ⟨i0, hi, hz0, hz1, hz2⟩ := info_parts info_z64
  go_enter Try.func15, Try.ntmps15
  go_wp2_with (first | (at_make; refine wpList_make_full _ rfl _ _ 22 rfl w.heap.size 2 i0 (.int .i64 0) 1 Try.underlying22 hi hz0 hz1 _ _ _ _ 0 rfl rfl rfl rfl (by rw [hz2]; omega) (by unfold maxLen; omega) (Nat.le_refl _) ?_) | go_in)
  intro w1 hown hgrow
  have hown' : w1.ownsRow w.heap.size 2 1 (.slice (some ⟨w.heap.size, 0, none⟩) 0 0) 0 [] := by rw [toList_madeCells_one] at hown; exact hown
  have hb1 : Below w.heap.size w w1 := (Below.refl _ _).grown hgrow (Nat.le_refl _) (fun k h => by cases h)
  clear hown hgrow
  have Hown := Lib.hid hown'
  clear hown'
  go_wp2_with fail
  go_loopw [4] (fun i wr => i = .int .i64 0 ∧ Below w.heap.size w wr ∧ wr.ownsRow w.heap.size 2 1 (.slice (some ⟨w.heap.size, 0, none⟩) 0 0) 0 []) (fun i _ => 0)
  case atStart => exact ⟨rfl, hb1, Hown.out⟩
  case round =>
    obtain ⟨rfl, hbw, how⟩ := hrel
    have Hbw := Lib.hid hbw
    have How := Lib.hid how
    clear hb1 hbw how
    go_wp2
    go_ret
    exact ⟨some ⟨w.heap.size, 0, none⟩, 0, rfl, Hbw.out, HRow.mk' How.out⟩
theorem copyZ_any (a : Option Addr) (cap : Nat) (zs : List Int) (w : World) (hr : RowC w a (ic zs)) (hl : zs.length ≤ 1048576) :
    Calls Try.prog 15 #[.slice a zs.length cap] w (CopyC 2 1 w zs.length (ic zs)) := by
  rcases hr.ints with rfl | ⟨b, off, rfl, hb, hc⟩
  · exact copyZ_nil a cap w
  · exact copyZ_row b off cap zs w hb hc hl

set_option maxHeartbeats 1000000 in
theorem eqZ_row (b off cap b' off' cap' : Nat) (zs : List Int) (w : World) (hc : ∀ i, i < zs.length → w.cell? ⟨b, off + i, none⟩ = some (.int .i64 (zs.getD i 0)))
    (hc' : ∀ i, i < zs.length → w.cell? ⟨b', off' + i, none⟩ = some (.int .i64 (zs.getD i 0))) (hl : zs.length ≤ 1048576) :
    Calls Try.prog 18 #[.slice (some ⟨b, off, none⟩) zs.length cap, .slice (some ⟨b', off', none⟩) zs.length cap'] w fun e w' => e = .returned (.bool true) ∧ ∃ n, w' = w.drewN n := by
  obtain ⟨len, hlen⟩ : ∃ len, zs.length = len := ⟨_, rfl⟩
  rw [hlen] at hl hc hc' ⊢
  clear hlen
  have Hc := Lib.hid hc
  have Hc' := Lib.hid hc'
  clear hc hc'
  go_enter Try.func18, Try.ntmps18
  go_wp2_with fail
  go_loopw [5] (fun i wr => ∃ k n : Nat, k ≤ len ∧ i = .int .i64 k ∧ wr = w.drewN n) (fun i _ => len - (intOf i).toNat)
  case atStart => exact ⟨0, 0, Nat.zero_le _, rfl, rfl⟩
  case round =>
    obtain ⟨k, n, hk, rfl, hwr⟩ := hrel
    by_cases hlt : k < len
    · have h1 : wr.cell? ⟨b, off + k, none⟩ = some (.int .i64 (zs.getD k 0)) := by rw [hwr]; exact Hc.out k hlt
      have h2 : wr.cell? ⟨b', off' + k, none⟩ = some (.int .i64 (zs.getD k 0)) := by rw [hwr]; exact Hc'.out k hlt
      have Hwr := Lib.hid hwr
      clear hwr
      generalize zs.getD k 0 = z at *
      have hk0 : (0 : Int) ≤ (k : Int) := by omega
      have hk1 : (k : Int) < (len : Int) := by omega
      go_wp2_with fail
      go_quiet (fail)
      go_wp2_with fail
      go_roundw
      case rel => exact ⟨k + 1, _, by omega, by go_num, by rw [Hwr.out, World.drewN_drewN]⟩
      case measure => simp [intOf]; omega
    · subst hwr
      go_wp2_with fail
      go_ret
      exact ⟨rfl, _, rfl⟩
set_option maxHeartbeats 1000000 in
theorem eqZ_nil (a a' : Option Addr) (cap cap' : Nat) (w : World) :
    Calls Try.prog 18 #[.slice a 0 cap, .slice a' 0 cap'] w fun e w' => e = .returned (.bool true) ∧ ∃ n, w' = w.drewN n := by
  go_enter Try.func18, Try.ntmps18
  go_wp2_with fail
  go_loopw [5] (fun i wr => i = .int .i64 0 ∧ wr = w) (fun i _ => 0)
  case atStart => exact ⟨rfl, rfl⟩
  case round =>
    obtain ⟨rfl, rfl⟩ := hrel
    go_wp2
    go_ret
    exact ⟨rfl, 0, rfl⟩
theorem eqZ_any (a a' : Option Addr) (cap cap' : Nat) (zs : List Int) (w : World) (h : RowC w a (ic zs)) (h' : RowC w a' (ic zs)) (hl : zs.length ≤ 1048576) :
    Calls Try.prog 18 #[.slice a zs.length cap, .slice a' zs.length cap'] w fun e w' => e = .returned (.bool true) ∧ Below w.heap.size w w' := by
  rcases h.ints with rfl | ⟨b, off, rfl, _, hc⟩
  · exact (eqZ_nil a a' cap cap' w).mono (by rintro e w' ⟨h1, n, rfl⟩; exact ⟨h1, below_drewN (Below.refl _ _) n⟩)
  · rcases h'.ints with rfl | ⟨b', off', rfl, _, hc'⟩
    · exact (eqZ_nil _ _ cap cap' w).mono (by rintro e w' ⟨h1, n, rfl⟩; exact ⟨h1, below_drewN (Below.refl _ _) n⟩)
    · exact (eqZ_row b off cap b' off' cap' zs w hc hc' hl).mono (by rintro e w' ⟨h1, n, rfl⟩; exact ⟨h1, below_drewN (Below.refl _ _) n⟩)

/-- The mark of a place. -/
def markZ (k j : Nat) : Int := ((k + j : Nat) : Int)
/-- The row with j marks. -/
def markedZ (k : Nat) (zs : List Int) (j : Nat) : List Int := (List.range j).map (markZ k) ++ zs.drop j
theorem markedZ_zero (k : Nat) (zs : List Int) : markedZ k zs 0 = zs := by simp [markedZ]
theorem markedZ_length (k : Nat) (zs : List Int) (j : Nat) (h : j ≤ zs.length) : (markedZ k zs j).length = zs.length := by simp [markedZ]; omega
theorem markedZ_set (k : Nat) (zs : List Int) (j : Nat) (h : j < zs.length) : (markedZ k zs j).set j (markZ k j) = markedZ k zs (j + 1) := by
  unfold markedZ
  rw [List.set_append_right _ _ (by simp)]
  rw [List.length_map, List.length_range, Nat.sub_self, List.drop_eq_getElem_cons h, List.set_cons_zero, List.range_succ, List.map_append]
  simp
/-- All marks. -/
def marksZ (k n : Nat) : List Int := (List.range n).map (markZ k)
theorem marksZ_length (k n : Nat) : (marksZ k n).length = n := by simp [marksZ]
theorem marksZ_getD (k n j : Nat) (h : j < n) : (marksZ k n).getD j 0 = ((k + j : Nat) : Int) := by
  rw [List.getD_eq_getElem?_getD, marksZ, List.getElem?_map, List.getElem?_range h]; rfl
theorem markedZ_all (k : Nat) (zs : List Int) : markedZ k zs zs.length = marksZ k zs.length := by simp [markedZ, marksZ]
/-- What marking leaves. -/
def MarksC (e : TypeId) (s : Nat) (k lo hi : Nat) (v : Value) (n m : Nat) (w : World) (en : Ending) (w' : World) : Prop :=
  en = .returned (.int .i64 ((k + m : Nat) : Int)) ∧ HRow w' e s lo hi v n (ic (marksZ k m)) ∧ Kept lo hi w w'
set_option maxHeartbeats 1000000 in
theorem markZ_row (lo hi k g len cap : Nat) (zs : List Int) (w : World) (h : HRow w 2 1 lo hi (.slice (some ⟨g, 0, none⟩) len cap) len (ic zs)) (hl : len ≤ 1048576) (hk : k ≤ 8388608) :
    Calls Try.prog 20 #[.slice (some ⟨g, 0, none⟩) len cap, .int .i64 (k : Int)] w (MarksC 2 1 k lo hi (.slice (some ⟨g, 0, none⟩) len cap) len len w) := by
  have hlen : zs.length = len := by have := h.len; rw [ic_length] at this; omega
  have Hlen := Lib.hid hlen
  have H := Lib.hid h
  clear h hlen
  go_enter Try.func20, Try.ntmps20
  go_wp2_with fail
  go_loopw [1, 5] (fun c i wr => ∃ j : Nat, j ≤ len ∧ i = .int .i64 j ∧ c = .int .i64 ((k + j : Nat) : Int) ∧ Hid (HRow wr 2 1 lo hi (.slice (some ⟨g, 0, none⟩) len cap) len (ic (markedZ k zs j))) ∧ Hid (Kept lo hi w wr)) (fun c i _ => len - (intOf i).toNat)
  case atStart => exact ⟨0, Nat.zero_le _, rfl, by simp, Lib.hid (by rw [markedZ_zero]; exact H.out), Lib.hid (Kept.refl _ _ _)⟩
  case round =>
    obtain ⟨j, hj, rfl, rfl, HR, HK⟩ := hrel
    by_cases hlt : j < len
    · have hll : (markedZ k zs j).length = len := by rw [markedZ_length k zs j (by have := Hlen.out; omega)]; exact Hlen.out
      obtain ⟨hc1, hf1⟩ := HR.out.at j (by omega)
      rw [ic_at (by omega)] at hc1
      have hst := HR.out.store j (.int .i64 ((k + j : Nat) : Int))
      rw [← ic_set, show ((k + j : Nat) : Int) = markZ k j from rfl, markedZ_set k zs j (by have := Hlen.out; omega)] at hst
      have Hst := Lib.hid hst
      have hkj : ((k + j + 1 : Nat) : Int) = ((k + j : Nat) : Int) + 1 := by omega
      have hk0 : (0 : Int) ≤ (j : Int) := by omega
      have hk1 : (j : Int) < (len : Int) := by omega
      clear hst hll
      generalize (markedZ k zs j).getD j 0 = z at *
      go_wp2_with fail
      go_roundw
      case rel => exact ⟨j + 1, by omega, by go_num, by go_num, Lib.hid Hst.out.1, Lib.hid (HK.out.trans Hst.out.2)⟩
      case measure => simp [intOf]; omega
    · obtain rfl : j = len := by omega
      go_wp2_with fail
      go_ret
      refine ⟨rfl, ?_, HK.out⟩
      have := HR.out
      rw [show markedZ k zs j = marksZ k j by rw [← Hlen.out, markedZ_all]] at this
      exact this
set_option maxHeartbeats 1000000 in
theorem markZ_nil (lo hi k : Nat) (w : World) (hh : hi ≤ w.heap.size) (hk : k ≤ 8388608) :
    Calls Try.prog 20 #[.slice none 0 0, .int .i64 (k : Int)] w (MarksC 2 1 k lo hi (.slice none 0 0) 0 0 w) := by
  go_enter Try.func20, Try.ntmps20
  go_wp2_with fail
  go_loopw [1, 5] (fun c i wr => i = .int .i64 0 ∧ c = .int .i64 (k : Int) ∧ wr = w) (fun c i _ => 0)
  case atStart => exact ⟨rfl, rfl, rfl⟩
  case round =>
    obtain ⟨rfl, rfl, rfl⟩ := hrel
    go_wp2_with fail
    go_ret
    exact ⟨rfl, ⟨World.ownsRow_nil _ _ _ _, (fun k h => by cases h), hh⟩, Kept.refl _ _ _⟩
theorem markZ_any (lo hi k : Nat) (a : Option Addr) (len cap : Nat) (zs : List Int) (w : World) (h : HRow w 2 1 lo hi (.slice a len cap) len (ic zs)) (hl : len ≤ 1048576) (hk : k ≤ 8388608) :
    Calls Try.prog 20 #[.slice a len cap, .int .i64 (k : Int)] w (MarksC 2 1 k lo hi (.slice a len cap) len len w) := by
  rcases h.cases with ⟨h1, h2⟩ | ⟨g, c, h1, h2, h3⟩
  · injection h1 with h1 h4 h5
    subst h1; subst h4; subst h5
    exact markZ_nil lo hi k w h.2.2 hk
  · injection h1 with h1 h4 h5
    subst h1
    exact markZ_row lo hi k g len cap zs w h hl hk

set_option maxHeartbeats 1000000 in
theorem heldZ_row (lo hi k g len cap : Nat) (w : World) (h : HRow w 2 1 lo hi (.slice (some ⟨g, 0, none⟩) len cap) len (ic (marksZ k len))) (hl : len ≤ 1048576) (hk : k ≤ 8388608) :
    Calls Try.prog 22 #[.slice (some ⟨g, 0, none⟩) len cap, .int .i64 (k : Int)] w fun e w' => e = .returned (.int .i64 ((k + len : Nat) : Int)) ∧ w = w' := by
  have H := Lib.hid h
  clear h
  go_enter Try.func22, Try.ntmps22
  go_wp2_with fail
  go_loopw [1, 5] (fun c i wr => ∃ j : Nat, j ≤ len ∧ i = .int .i64 j ∧ c = .int .i64 ((k + j : Nat) : Int) ∧ wr = w) (fun c i _ => len - (intOf i).toNat)
  case atStart => exact ⟨0, Nat.zero_le _, rfl, by simp, rfl⟩
  case round =>
    obtain ⟨j, hj, rfl, rfl, hwr⟩ := hrel
    by_cases hlt : j < len
    · obtain ⟨hc1, hf1⟩ := H.out.at j (by omega)
      rw [ic_at (by rw [marksZ_length]; omega), marksZ_getD _ _ _ hlt, ← hwr] at hc1
      have hkj : ((k + j + 1 : Nat) : Int) = ((k + j : Nat) : Int) + 1 := by omega
      have hk0 : (0 : Int) ≤ (j : Int) := by omega
      have hk1 : (j : Int) < (len : Int) := by omega
      have Hwr := Lib.hid hwr
      clear hwr hf1
      go_wp2_with fail
      go_roundw
      case rel => exact ⟨j + 1, by omega, by go_num, by go_num, Hwr.out⟩
      case measure => simp [intOf]; omega
    · obtain rfl : j = len := by omega
      subst hwr
      go_wp2_with fail
      go_ret
      exact ⟨rfl, rfl⟩
set_option maxHeartbeats 1000000 in
theorem heldZ_nil (k : Nat) (w : World) (hk : k ≤ 8388608) :
    Calls Try.prog 22 #[.slice none 0 0, .int .i64 (k : Int)] w fun e w' => e = .returned (.int .i64 (k : Int)) ∧ w = w' := by
  go_enter Try.func22, Try.ntmps22
  go_wp2_with fail
  go_loopw [1, 5] (fun c i wr => i = .int .i64 0 ∧ c = .int .i64 (k : Int) ∧ wr = w) (fun c i _ => 0)
  case atStart => exact ⟨rfl, rfl, rfl⟩
  case round =>
    obtain ⟨rfl, rfl, rfl⟩ := hrel
    go_wp2_with fail
    go_ret
    exact ⟨rfl, rfl⟩
theorem heldZ_any (lo hi k : Nat) (a : Option Addr) (len cap : Nat) (w : World) (h : HRow w 2 1 lo hi (.slice a len cap) len (ic (marksZ k len))) (hl : len ≤ 1048576) (hk : k ≤ 8388608) :
    Calls Try.prog 22 #[.slice a len cap, .int .i64 (k : Int)] w fun e w' => e = .returned (.int .i64 ((k + len : Nat) : Int)) ∧ w = w' := by
  rcases h.cases with ⟨h1, h2⟩ | ⟨g, c, h1, h2, h3⟩
  · injection h1 with h1 h4 h5
    subst h1; subst h4; subst h5
    exact heldZ_nil k w hk
  · injection h1 with h1 h4 h5
    subst h1
    exact heldZ_row lo hi k g len cap w h hl hk

end Go.Proofs.Ytckmacnmmloemaa
