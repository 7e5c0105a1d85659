/- Slices of floating-point numbers that came in or that the call made: what the walk is told of them; the copies and comparisons of the laws. -/
import Derived.Test.YtdmcjloaommnpaaSame
import Derived.ProofKit
import Derived.OpenShut
import Derived.Below
import Derived.Deep.QuietTactic
import Derived.BigQuiet
namespace Go.Proofs.Ytdmcjloaommnpaa
open Go.RowKit

section
variable {P : Program} {w : World} {a : Addr} {m : Mode}
@[go_sem] theorem run_store_float (k : FloatKind) (b : Nat) : (store a (.float k b) m).run P w = stored P w a (.float k b) m := run_store P w a _ m rfl
end

/-- A slice leads to a row that begins with these numbers. -/
def RowF (k : FloatKind) (w : World) (a : Option Addr) (zs : List Nat) : Prop :=
  zs = [] ∨ ∃ b off, a = some ⟨b, off, none⟩ ∧ b < w.heap.size ∧ ∀ i, i < zs.length → w.cell? ⟨b, off + i, none⟩ = some (.float k (zs.getD i 0))

/-- What came in: nil, or a row. -/
def IsRowF (k : FloatKind) (w : World) (a : Option Addr) (len cap : Nat) (zs : List Nat) : Prop :=
  zs.length = len ∧ len ≤ cap ∧ cap ≤ maxLen ∧ RowF k w a zs ∧ ∀ z ∈ zs, z < 2 ^ k.format.width

theorem cell_lt {w : World} {p : Addr} {v : Value} (h : w.cell? p = some v) : p.block < w.heap.size := by
  rcases Nat.lt_or_ge p.block w.heap.size with h1 | h1
  · exact h1
  · have : w.heap[p.block]? = none := by simp [h1]
    simp [World.cell?, this] at h

theorem trod_float {P : Program} {H : Type} {enc : TypeId × Value → H} {w : World} {base : Nat} {spare : Nat → Bool} {held : Bool} {fuel : Nat} {t : TypeId} {k : FloatKind} {cs : List Value} {x : DataW H × List MemPlace}
    (ht : P.underlying t = some (.float k)) (h : DataW.trod enc P w base spare held fuel t cs = some x) : ∃ n, cs = [.float k n] ∧ x = (.lit (.float k n), []) ∧ (Lit.float k n).wf = true := by
  cases fuel with
  | zero => simp [DataW.trod] at h
  | succ n =>
    unfold DataW.trod at h
    rw [ht] at h
    split at h <;> simp_all

theorem open_floats {P : Program} {H : Type} {enc : TypeId × Value → H} {w : World} {base : Nat} {spare : Nat → Bool} {held : Bool} {fuel : Nat} {t e : TypeId} {k : FloatKind} {a : Option Addr} {len cap : Nat} {x : DataW H × List MemPlace}
    (ht : P.underlying t = some (.slice e)) (he : P.underlying e = some (.float k)) (hc : P.cellsOf e = 1)
    (h : DataW.trod enc P w base spare held fuel t (Value.cells (.slice a len cap)).toList = some x) : ∃ zs, IsRowF k w a len cap zs := by
  rcases DataW.trod_slice ht h with ⟨h0, _⟩ | ⟨a', len', cap', elems, rest, n, _, hcs, _, hb, hl, hm, hlen, hel, _, _⟩
  · simp [Value.cells] at h0
    obtain ⟨rfl, rfl, rfl⟩ := h0
    exact ⟨[], rfl, Nat.le_refl _, Nat.zero_le _, .inl rfl, fun z hz => by cases hz⟩
  · simp [Value.cells] at hcs
    obtain ⟨rfl, rfl, rfl⟩ := hcs
    have each : ∀ i, i < len → ∃ n, w.cell? (a'.add i) = some (.float k n) ∧ (Lit.float k n).wf = true := by
      intro i hi
      have := hel i hi
      rw [List.getElem?_eq_getElem (by omega)] at this
      rw [hc, Nat.mul_one, Option.bind_eq_some_iff] at this
      obtain ⟨cs', hcs', hy⟩ := this
      obtain ⟨m, rfl, _, hw⟩ := trod_float he hy
      exact ⟨m, Go.ChangeShapes.cell_of_cells?_one hcs', hw⟩
    refine ⟨(List.range len).map (fun i => match w.cell? (a'.add i) with | some (.float _ n) => n | _ => 0), by simp, hl, hm, ?_, ?_⟩
    · by_cases h0 : len = 0
      · left; subst h0; rfl
      · right
        obtain ⟨b, off, spot⟩ := a'
        have hspot : spot = none := by
          obtain ⟨n, hn, _⟩ := each 0 (by omega)
          simpa [Addr.add] using World.cell?_spot hn
        subst hspot
        refine ⟨b, off, rfl, ?_, ?_⟩
        · obtain ⟨n, hn, _⟩ := each 0 (by omega)
          simpa [Addr.add] using cell_lt hn
        · intro i hi
          simp only [List.length_map, List.length_range] at hi
          obtain ⟨n, hn, _⟩ := each i hi
          rw [Go.WideShapes.add_plain] at hn
          have e1 : ((List.range len).map (fun i => match w.cell? ((⟨b, off, none⟩ : Addr).add i) with | some (.float _ n) => n | _ => 0)).getD i 0 = n := by
            rw [List.getD_eq_getElem?_getD, List.getElem?_map, List.getElem?_range hi]
            simp only [Option.map_some, Option.getD_some, Go.WideShapes.add_plain, hn]
          rw [e1, hn]
    · intro z hz
      simp only [List.mem_map, List.mem_range] at hz
      obtain ⟨i, hi, rfl⟩ := hz
      obtain ⟨n, hn, hw⟩ := each i hi
      simp only [hn]
      cases k
      · exact of_decide_eq_true hw
      · exact of_decide_eq_true hw

theorem RowF.drewN {k : FloatKind} {w : World} {a : Option Addr} {zs : List Nat} (h : RowF k w a zs) (n : Nat) : RowF k (w.drewN n) a zs := h
theorem RowF.below {k : FloatKind} {w w' : World} {B : Nat} {a : Option Addr} {zs : List Nat} (h : RowF k w a zs) (hb : Below B w w') (hB : w.heap.size ≤ B) : RowF k w' a zs := by
  rcases h with h | ⟨b, off, h1, h2, h3⟩
  · exact .inl h
  · refine .inr ⟨b, off, h1, Nat.lt_of_lt_of_le h2 hb.size, fun i hi => ?_⟩
    rw [hb.cell (p := ⟨b, off + i, none⟩) (by show b < B; omega)]
    exact h3 i hi

/-- The cells of a slice, where it has any. -/
def Cells (k : FloatKind) (w : World) (a : Option Addr) (zs : List Nat) : Prop := ∀ i, i < zs.length → ∃ b off, a = some ⟨b, off, none⟩ ∧ w.cell? ⟨b, off + i, none⟩ = some (.float k (zs.getD i 0))
theorem RowF.cells {k : FloatKind} {w : World} {a : Option Addr} {zs : List Nat} (h : RowF k w a zs) : Cells k w a zs := by
  intro i hi
  rcases h with rfl | ⟨b, off, rfl, _, hc⟩
  · cases hi
  · exact ⟨b, off, rfl, hc i hi⟩

theorem below_drewN {B : Nat} {a w : World} (h : Below B a w) (n : Nat) : Below B a (w.drewN n) := h.trans ⟨rfl, rfl, rfl, Nat.le_refl _, fun _ _ => rfl⟩

/-- The copy so far. -/
def copied (k : FloatKind) (zs : List Nat) (n : Nat) : List Value := (zs.take n).map (.float k) ++ List.replicate (zs.length - n) (.float k 0)
theorem copied_zero (k : FloatKind) (zs : List Nat) : copied k zs 0 = List.replicate zs.length (.float k 0) := by simp [copied]
theorem copied_all (k : FloatKind) (zs : List Nat) : copied k zs zs.length = zs.map (.float k) := by simp [copied]
theorem copied_set (k : FloatKind) (zs : List Nat) (n : Nat) (h : n < zs.length) : (copied k zs n).set n (.float k (zs.getD n 0)) = copied k zs (n + 1) := by
  unfold copied
  have e : zs.getD n 0 = zs[n] := by rw [List.getD_eq_getElem?_getD, List.getElem?_eq_getElem h]; rfl
  rw [e, List.set_append_right _ _ (by simp; omega)]
  have e2 : n - ((zs.take n).map (Value.float k)).length = 0 := by simp; omega
  rw [e2, show zs.length - n = (zs.length - (n + 1)) + 1 by omega, List.replicate_succ, List.set_cons_zero, List.take_succ_eq_append_getElem h, List.map_append]
  simp

theorem RowF.of_owns {k : FloatKind} {w : World} {base : Nat} {e : TypeId} {g n cap : Nat} {zs : List Nat} (h : w.ownsRow base e 1 (.slice (some ⟨g, 0, none⟩) n cap) n (zs.map (.float k))) (hn : zs.length = n) : RowF k w (some ⟨g, 0, none⟩) zs := by
  refine .inr ⟨g, 0, rfl, (h.lt g rfl).2, fun i hi => ?_⟩
  rw [Nat.zero_add, h.cellAt i (by omega), List.getElem?_map, List.getElem?_eq_getElem hi, List.getD_eq_getElem?_getD, List.getElem?_eq_getElem hi]
  rfl

theorem info_f32 : (Try.prog.info? 26).map (fun i => (i.zero, i.size, i.bytes)) = some (some (.float .f32 0), 1, 4) := by kernel_rfl

set_option maxHeartbeats 1000000 in
theorem toFloat32S_row (b off cap : Nat) (zs : List Nat) (w : World) (hb : b < w.heap.size) (hc : ∀ i, i < zs.length → w.cell? ⟨b, off + i, none⟩ = some (.float .f32 (zs.getD i 0))) (hl : zs.length ≤ 1048576) :
    Calls Try.prog 16 #[.slice (some ⟨b, off, none⟩) zs.length cap] w fun e w' => e = .returned (.slice (some ⟨w.heap.size, 0, none⟩) zs.length zs.length) ∧ Below w.heap.size w w' ∧ RowF .f32 w' (some ⟨w.heap.size, 0, none⟩) zs := by
  obtain ⟨i0, hi, hz0, hz1, hz2⟩ := info_parts info_f32
  obtain ⟨len, hlen⟩ : ∃ len, zs.length = len := ⟨_, rfl⟩
  rw [hlen] at hl hc
  have Hlen := Lib.hid hlen
  rw [hlen]
  clear hlen
  have Hc := Lib.hid hc
  clear hc
  go_enter Try.func16, Try.ntmps16
  go_wp2_with (first | (at_make; refine wpList_make_full _ rfl _ _ 22 rfl w.heap.size 26 i0 (.float .f32 0) 1 Try.underlying22 hi hz0 hz1 _ _ _ _ len rfl rfl rfl rfl (by rw [hz2]; omega) (by unfold maxLen; omega) (Nat.le_refl _) ?_) | go_in)
  intro w1 hown hgrow
  have hown' : w1.ownsRow w.heap.size 26 1 (.slice (some ⟨w.heap.size, 0, none⟩) len len) len (copied .f32 zs 0) := by
    rw [copied_zero, Hlen.out, ← toList_madeCells_one]
    exact hown
  have hb1 : Below w.heap.size w w1 := (Below.refl _ _).grown hgrow (Nat.le_refl _) (fun k h => by cases h)
  clear hown hgrow
  go_wp2_with fail
  go_loopw [4] (fun i wr => ∃ k : Nat, k ≤ len ∧ i = .int .i64 k ∧ wr.ownsRow w.heap.size 26 1 (.slice (some ⟨w.heap.size, 0, none⟩) len len) len (copied .f32 zs k) ∧ Below w.heap.size w wr) (fun i _ => len - (intOf i).toNat)
  case atStart => exact ⟨0, Nat.zero_le _, rfl, hown', hb1⟩
  case round =>
    obtain ⟨k, hk, rfl, hown, hbw⟩ := hrel
    clear hown' hb1
    by_cases hlt : k < len
    · have hsrc : wr.cell? ⟨b, off + k, none⟩ = some (.float .f32 (zs.getD k 0)) := by
        rw [hbw.cell (p := ⟨b, off + k, none⟩) hb]; exact Hc.out k hlt
      have hdst := hown.cellAt k (by omega)
      obtain ⟨old, hold⟩ : ∃ old, (copied .f32 zs k)[k]? = some old := ⟨_, List.getElem?_eq_getElem (by simp [copied]; have := Hlen.out; omega)⟩
      rw [hold] at hdst
      have hfz := hown.frozenAt k
      have hst := hown.stored k (.float .f32 (zs.getD k 0))
      rw [copied_set .f32 zs k (by rw [Hlen.out]; exact hlt)] at hst
      have Hst := Lib.hid hst
      have Hbw := Lib.hid hbw
      clear hst hold hown hbw
      generalize zs.getD k 0 = z at *
      go_wp2
      go_roundw
      case rel => exact ⟨k + 1, by omega, by go_num, Hst.out.1, Hbw.out.grown Hst.out.2 (Hbw.out.size) (fun j hj => by cases hj; exact Nat.le_refl _)⟩
      case measure => simp [intOf]; omega
    · obtain rfl : k = len := by omega
      have Hown := Lib.hid hown
      have Hbw := Lib.hid hbw
      clear hown hbw
      go_wp2
      go_ret
      refine ⟨rfl, Hbw.out, RowF.of_owns (by have := Hown.out; rw [← Hlen.out, copied_all] at this; rw [← Hlen.out]; exact this) Hlen.out⟩

set_option maxHeartbeats 1000000 in
theorem toFloat32S_nil (a : Option Addr) (cap : Nat) (w : World) :
    Calls Try.prog 16 #[.slice a 0 cap] w fun e w' => e = .returned (.slice (some ⟨w.heap.size, 0, none⟩) 0 0) ∧ Below w.heap.size w w' := by
  obtain ⟨i0, hi, hz0, hz1, hz2⟩ := info_parts info_f32
  go_enter Try.func16, Try.ntmps16
  go_wp2_with (first | (at_make; refine wpList_make_full _ rfl _ _ 22 rfl w.heap.size 26 i0 (.float .f32 0) 1 Try.underlying22 hi hz0 hz1 _ _ _ _ 0 rfl rfl rfl rfl (by rw [hz2]; omega) (by unfold maxLen; omega) (Nat.le_refl _) ?_) | go_in)
  intro w1 hown hgrow
  have hb1 : Below w.heap.size w w1 := (Below.refl _ _).grown hgrow (Nat.le_refl _) (fun k h => by cases h)
  clear hown hgrow
  go_wp2_with fail
  go_loopw [4] (fun i wr => i = .int .i64 0 ∧ Below w.heap.size w wr) (fun i _ => 0)
  case atStart => exact ⟨rfl, hb1⟩
  case round =>
    obtain ⟨rfl, hbw⟩ := hrel
    have Hbw := Lib.hid hbw
    clear hb1 hbw
    go_wp2
    go_ret
    exact ⟨rfl, Hbw.out⟩

theorem toFloat32S_any (a : Option Addr) (cap : Nat) (zs : List Nat) (w : World) (hr : RowF .f32 w a zs) (hl : zs.length ≤ 1048576) :
    Calls Try.prog 16 #[.slice a zs.length cap] w fun e w' => e = .returned (.slice (some ⟨w.heap.size, 0, none⟩) zs.length zs.length) ∧ Below w.heap.size w w' ∧ RowF .f32 w' (some ⟨w.heap.size, 0, none⟩) zs := by
  rcases hr with rfl | ⟨b, off, rfl, hb, hc⟩
  · exact (toFloat32S_nil a cap w).mono fun e w' ⟨h1, h2⟩ => ⟨h1, h2, .inl rfl⟩
  · exact toFloat32S_row b off cap zs w hb hc hl
end Go.Proofs.Ytdmcjloaommnpaa
