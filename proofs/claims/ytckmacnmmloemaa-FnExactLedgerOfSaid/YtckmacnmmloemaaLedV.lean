/- Sums, and what is stored. -/
import Derived.Test.YtckmacnmmloemaaRunV
import Derived.Test.YtckmacnmmloemaaSsP
import Derived.Test.YtckmacnmmloemaaRivS
import Derived.Test.YtckmacnmmloemaaDysS
namespace Go.Proofs.Ytckmacnmmloemaa
open Go.RowKit
set_option linter.unusedVariables false
set_option linter.unusedSimpArgs false
set_option maxRecDepth 100000
attribute [local irreducible] wpV wpList Code.wp

/-- Sums, exact. -/
def rowS (z : List Int) : Nat → Int
  | 0 => 0
  | i + 1 => rowS z i + z.getD i 0
def totS (Zs : List (List Int)) : Nat → Int
  | 0 => 0
  | k + 1 => totS Zs k + rowS (zr Zs k) (zr Zs k).length
def nowS (M : List Int) : Nat → Int
  | 0 => 0
  | k + 1 => nowS M k + M.getD (k * 4 + 3) 0
theorem wr_add (a b : Int) : wrap64 (wrap64 a + b) = wrap64 (a + b) := by unfold wrap64; omega
theorem wr_add2 (a b : Int) : wrap64 (wrap64 a + wrap64 b) = wrap64 (a + b) := by unfold wrap64; omega
theorem wr_zero : wrap64 0 = 0 := by unfold wrap64; omega
structure LedR where
  i : Int
  g : Int
  s : Int
  d : Int
  ok : Bool
def ledV (M : List Int) (Zs : List (List Int)) (n : Nat) (Q : RunSt) : LedR := ⟨wrap64 (totS Zs Zs.length), wrap64 (totS Q.G Zs.length), wrap64 (rowS Q.S Zs.length), wrap64 (wrap64 (nowS Q.M n) - wrap64 (nowS M n)), true⟩
def ledR (D M V : List Int) (n : Nat) (Zs : List (List Int)) : LedR := if rivB D M V n && decide (Zs.length ≤ 64) && daysB Zs n then ledV M Zs n (runTo D M V Zs n Zs.length) else ⟨0, 0, 0, 0, false⟩
def LedP (R : LedR) (w : World) (e : Ending) (w' : World) : Prop := e = .returned (.tuple #[.int .i64 R.i, .int .i64 R.g, .int .i64 R.s, .int .i64 R.d, .bool R.ok]) ∧ Below w.heap.size w w'
set_option maxHeartbeats 2000000 in
theorem sumOf_any (a : Option Addr) (len cap : Nat) (z : List Int) (w : World) (h : RowC w a (ic z)) (hz : z.length = len) (hl : len ≤ 1048576) :
    Calls Try.prog 68 #[.slice a len cap] w fun e w' => e = .returned (.int .i64 (wrap64 (rowS z len))) ∧ w = w' := by
  have H := Lib.hid h
  have Hz := Lib.hid hz
  clear h hz
  go_enter Try.func68, Try.ntmps68
  go_wp2_with fail
  go_loopw [3, 8] (fun sv iv wr => ∃ i : Nat, i ≤ len ∧ iv = .int .i64 (i : Int) ∧ sv = .int .i64 (wrap64 (rowS z i)) ∧ w = wr) (fun _ iv _ => len - (intOf iv).toNat)
  case atStart => exact ⟨0, Nat.zero_le _, rfl, by show _ = Value.int .i64 (wrap64 0); rw [wr_zero], rfl⟩
  case round =>
  obtain ⟨i, hi, rfl, rfl, rfl⟩ := hrel
  have hi0 : (0 : Int) ≤ (i : Int) := by omega
  by_cases hli : i < len
  · have hi1 : (i : Int) < (len : Int) := by omega
    obtain ⟨b, off, rfl, hb, hc⟩ := H.out.cells (fun e => by have h9 := Hz.out; rw [e, List.length_nil] at h9; omega)
    have cx := hc i (by rw [Hz.out]; exact hli)
    obtain ⟨x, hx⟩ : ∃ x, z.getD i 0 = x := ⟨_, rfl⟩
    rw [hx] at cx
    have hst : wrap64 (rowS z (i + 1)) = wrap64 (wrap64 (rowS z i) + x) := by rw [wr_add, ← hx]; rfl
    obtain ⟨s, hs⟩ : ∃ s, wrap64 (rowS z i) = s := ⟨_, rfl⟩
    rw [hs] at hst ⊢
    obtain ⟨nx, hnx⟩ : ∃ y, wrap64 (s + x) = y := ⟨_, rfl⟩
    have w7b := iw hnx
    rw [hnx] at hst
    have Hst := Lib.hid hst
    clear hc hx hs hnx hst hb
    go_wp2_with fail
    go_roundw
    case rel => exact ⟨i + 1, by omega, by go_num, by rw [Hst.out], by first | trivial | rfl⟩
    case measure => simp [intOf]; omega
  · obtain rfl : i = len := by omega
    go_wp2_with fail
    go_ret
    exact ⟨rfl, rfl⟩

set_option maxHeartbeats 2000000 in
theorem sumDays_any (a : Option Addr) (len cap : Nat) (Zs : List (List Int)) (w : World) (h : RowSS w a Zs) (hlen : Zs.length = len) (hl : len ≤ 1048576) (hrl : ∀ k, k < len → (zr Zs k).length ≤ 1048576) :
    Calls Try.prog 67 #[.slice a len cap] w fun e w' => e = .returned (.int .i64 (wrap64 (totS Zs len))) ∧ w = w' := by
  have H := Lib.hid h
  have Hlen := Lib.hid hlen
  have Hrl := Lib.hid hrl
  clear h hlen hrl
  go_enter Try.func67, Try.ntmps67
  go_wp2_with fail
  go_loopw [3, 8] (fun sv iv wr => ∃ k : Nat, k ≤ len ∧ iv = .int .i64 (k : Int) ∧ sv = .int .i64 (wrap64 (totS Zs k)) ∧ w = wr) (fun _ iv _ => len - (intOf iv).toNat)
  case atStart => exact ⟨0, Nat.zero_le _, rfl, by show _ = Value.int .i64 (wrap64 0); rw [wr_zero], rfl⟩
  case round =>
  obtain ⟨k, hk, rfl, rfl, rfl⟩ := hrel
  have hk0 : (0 : Int) ≤ (k : Int) := by omega
  by_cases hlt : k < len
  · have hk1 : (k : Int) < (len : Int) := by omega
    obtain ⟨b, off, rfl, hb, hc⟩ : ∃ b off, a = some ⟨b, off, none⟩ ∧ b < w.heap.size ∧ ∀ k, k < Zs.length → ∃ ak ck, w.cell? ⟨b, off + k, none⟩ = some (.slice ak (zr Zs k).length ck) ∧ RowC w ak (ic (zr Zs k)) := by
      rcases H.out with h9 | h9
      · have h8 := Hlen.out; rw [h9, List.length_nil] at h8; omega
      · exact h9
    obtain ⟨ak, ck, hcell, hrow⟩ := hc k (by rw [Hlen.out]; exact hlt)
    have hlk := Hrl.out k hlt
    have hst : wrap64 (totS Zs (k + 1)) = wrap64 (wrap64 (totS Zs k) + wrap64 (rowS (zr Zs k) (zr Zs k).length)) := by rw [wr_add2]; rfl
    have HC := Lib.hid (sumOf_any ak (zr Zs k).length ck (zr Zs k) w hrow rfl hlk)
    obtain ⟨s, hs⟩ : ∃ s, wrap64 (totS Zs k) = s := ⟨_, rfl⟩
    obtain ⟨x, hx⟩ : ∃ x, wrap64 (rowS (zr Zs k) (zr Zs k).length) = x := ⟨_, rfl⟩
    obtain ⟨lk, hll⟩ : ∃ l, (zr Zs k).length = l := ⟨_, rfl⟩
    rw [hs, hx] at hst
    rw [hx] at HC
    rw [hs]
    rw [hll] at hcell HC
    obtain ⟨nx, hnx⟩ : ∃ y, wrap64 (s + x) = y := ⟨_, rfl⟩
    have w7b := iw hnx
    rw [hnx] at hst
    have Hst := Lib.hid hst
    clear hc hrow hx hs hnx hst hll hlk
    go_wp2_with fail
    refine HC.out.mono ?_
    rintro e w' ⟨rfl, rfl⟩
    clear HC hcell
    go_wp2_with fail
    go_roundw
    case rel => exact ⟨k + 1, by omega, by go_num, by rw [Hst.out], by first | trivial | rfl⟩
    case measure => simp [intOf]; omega
  · obtain rfl : k = len := by omega
    go_wp2_with fail
    go_ret
    exact ⟨rfl, rfl⟩

set_option maxHeartbeats 4000000 in
theorem l06Stored_w (pa b1 o1 : Nat) (v0 v2 : Value) (n c1 : Nat) (M : List Int) (w : World) (hpa : Bx w pa [v0, .slice (some ⟨b1, o1, none⟩) n c1, v2]) (h1 : ∀ i, i < M.length → w.cell? ⟨b1, o1 + i, none⟩ = some (.int .i64 (M.getD i 0))) (hM : M.length = n * 4) (hn : n ≤ 12) :
    Calls Try.prog 66 #[.pointer (some ⟨pa, 0, none⟩)] w fun e w' => e = .returned (.int .i64 (wrap64 (nowS M n))) ∧ w = w' := by
  have H1 := Lib.hid h1
  have HM := Lib.hid hM
  have p1 := hpa.c 1 rfl
  clear h1 hM hpa
  go_enter Try.func66, Try.ntmps66
  go_wp2_with fail
  go_loopw [3, 4] (fun sv iv wr => ∃ k : Nat, k ≤ n ∧ iv = .int .i64 (k : Int) ∧ sv = .int .i64 (wrap64 (nowS M k)) ∧ w = wr) (fun _ iv _ => n - (intOf iv).toNat)
  case atStart => exact ⟨0, Nat.zero_le _, rfl, by show _ = Value.int .i64 (wrap64 0); rw [wr_zero], rfl⟩
  case round =>
  obtain ⟨k, hk, rfl, rfl, rfl⟩ := hrel
  have hk0 : (0 : Int) ≤ (k : Int) := by omega
  by_cases hlt : k < n
  · have hk1 : (k : Int) < (n : Int) := by omega
    obtain ⟨x, hx⟩ : ∃ x, M.getD (k * 4 + 3) 0 = x := ⟨_, rfl⟩
    have hc := H1.out (k * 4 + 3) (by have := HM.out; omega)
    rw [← Nat.add_assoc, hx] at hc
    have hst : wrap64 (nowS M (k + 1)) = wrap64 (wrap64 (nowS M k) + x) := by rw [wr_add, ← hx]; rfl
    obtain ⟨s, hs⟩ : ∃ s, wrap64 (nowS M k) = s := ⟨_, rfl⟩
    rw [hs] at hst ⊢
    obtain ⟨nx, hnx⟩ : ∃ y, wrap64 (s + x) = y := ⟨_, rfl⟩
    have w7b := iw hnx
    rw [hnx] at hst
    have Hst := Lib.hid hst
    clear hx hs hnx hst
    go_wp2_with fail
    go_roundw
    case rel => exact ⟨k + 1, by omega, by go_num, by rw [Hst.out], by first | trivial | rfl⟩
    case measure => simp [intOf]; omega
  · obtain rfl : k = n := by omega
    go_wp2_with fail
    go_ret
    exact ⟨rfl, rfl⟩

set_option maxHeartbeats 4000000 in
theorem storedIn_w (b1 o1 : Nat) (v0 v2 : Value) (n c1 : Nat) (M : List Int) (w : World) (hb : b1 < w.heap.size) (h1 : ∀ i, i < M.length → w.cell? ⟨b1, o1 + i, none⟩ = some (.int .i64 (M.getD i 0))) (hM : M.length = n * 4) (hn : n ≤ 12) :
    Calls Try.prog 69 #[.agg #[v0, .slice (some ⟨b1, o1, none⟩) n c1, v2]] w fun e w' => e = .returned (.int .i64 (wrap64 (nowS M n))) ∧ Below w.heap.size w w' := by
  have H1 := Lib.hid h1
  have HM := Lib.hid hM
  have HB := Lib.hid hb
  clear h1 hM hb
  go_enter Try.func69, Try.ntmps69
  go_wp2_with fail
  go_loopw [3, 9] (fun sv iv wr => ∃ k : Nat, k ≤ n ∧ iv = .int .i64 (k : Int) ∧ sv = .int .i64 (wrap64 (nowS M k)) ∧ Hid (Below w.heap.size w wr)) (fun _ iv _ => n - (intOf iv).toNat)
  case atStart => exact ⟨0, Nat.zero_le _, rfl, by show _ = Value.int .i64 (wrap64 0); rw [wr_zero], Lib.hid (bel1 _ _)⟩
  case round =>
  obtain ⟨k, hk, rfl, rfl, HBk⟩ := hrel
  have hk0 : (0 : Int) ≤ (k : Int) := by omega
  by_cases hlt : k < n
  · have hk1 : (k : Int) < (n : Int) := by omega
    have hcs : ∀ i, i < 4 → wr.cell? ⟨b1, o1 + k * 4 + i, none⟩ = some (.int .i64 (M.getD (k * 4 + i) 0)) := fun i hi => by
      have h9 := H1.out (k * 4 + i) (by have := HM.out; omega)
      rw [← Nat.add_assoc] at h9
      exact (HBk.out.cell (p := ⟨b1, o1 + k * 4 + i, none⟩) HB.out).trans h9
    have y0 := hcs 0 (by omega)
    have y1 := hcs 1 (by omega)
    have y2 := hcs 2 (by omega)
    have y3 := hcs 3 (by omega)
    rw [Nat.add_zero] at y0
    clear hcs
    obtain ⟨x0, hx0⟩ : ∃ x, M.getD (k * 4 + 0) 0 = x := ⟨_, rfl⟩
    rw [hx0] at y0
    obtain ⟨x1, hx1⟩ : ∃ x, M.getD (k * 4 + 1) 0 = x := ⟨_, rfl⟩
    rw [hx1] at y1
    obtain ⟨x2, hx2⟩ : ∃ x, M.getD (k * 4 + 2) 0 = x := ⟨_, rfl⟩
    rw [hx2] at y2
    obtain ⟨x3, hx3⟩ : ∃ x, M.getD (k * 4 + 3) 0 = x := ⟨_, rfl⟩
    rw [hx3] at y3
    have hst : wrap64 (nowS M (k + 1)) = wrap64 (wrap64 (nowS M k) + x3) := by rw [wr_add, ← hx3]; rfl
    obtain ⟨s, hs⟩ : ∃ s, wrap64 (nowS M k) = s := ⟨_, rfl⟩
    rw [hs] at hst ⊢
    obtain ⟨nx, hnx⟩ : ∃ y, wrap64 (s + x3) = y := ⟨_, rfl⟩
    have w7b := iw hnx
    rw [hnx] at hst
    have Hst := Lib.hid hst
    clear hx0 hx1 hx2 hx3 hs hnx hst
    go_wp2_with fail
    go_roundw
    case rel => exact ⟨k + 1, by omega, by go_num, by rw [Hst.out], Lib.hid (HBk.out.trans ((bel1 wr _).mono HBk.out.size))⟩
    case measure => simp [intOf]; omega
  · obtain rfl : k = n := by omega
    go_wp2_with fail
    go_ret
    exact ⟨rfl, HBk.out⟩

end Go.Proofs.Ytckmacnmmloemaa
