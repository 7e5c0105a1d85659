/- Rows of cells that are floats. -/
import Derived.Test.YtljehplkdofhpacRowG
import Derived.Test.YtljehplkdofhpacBoxG
import Derived.Test.YtljehplkdofhpacSame
import Derived.Test.YtljehplkdofhpacBw
import Derived.Test.YtljehplkdofhpacNegO
namespace Go.Proofs.Ytljehplkdofhpac
open Go.RowKit
set_option linter.unusedVariables false
set_option linter.unusedSimpArgs false
set_option maxRecDepth 100000
attribute [local irreducible] wpV wpList Code.wp

/-- The cells of floats. -/
def fc (zs : List Nat) : List Value := zs.map (Value.float .f32)
theorem fc_at {zs : List Nat} {i : Nat} (h : i < zs.length) : (fc zs)[i]? = some (.float .f32 (zs.getD i 0)) := by
  unfold fc
  rw [List.getElem?_map, List.getElem?_eq_getElem h, List.getD_eq_getElem?_getD, List.getElem?_eq_getElem h]
  rfl
theorem fc_length (zs : List Nat) : (fc zs).length = zs.length := by simp [fc]
theorem fc_nil {zs : List Nat} (h : fc zs = []) : zs = [] := by simpa [fc] using h
theorem RowC.flos {w : World} {a : Option Addr} {zs : List Nat} (h : RowC w a (fc zs)) : zs = [] ∨ ∃ b off, a = some ⟨b, off, none⟩ ∧ b < w.heap.size ∧ ∀ i, i < zs.length → w.cell? ⟨b, off + i, none⟩ = some (.float .f32 (zs.getD i 0)) := by
  rcases h with h | ⟨b, off, h1, h2, h3⟩
  · exact .inl (fc_nil h)
  · exact .inr ⟨b, off, h1, h2, fun i hi => h3 i _ (fc_at hi)⟩
theorem RowC.of_flos {w : World} {b off : Nat} {zs : List Nat} (h2 : b < w.heap.size) (h3 : ∀ i, i < zs.length → w.cell? ⟨b, off + i, none⟩ = some (.float .f32 (zs.getD i 0))) : RowC w (some ⟨b, off, none⟩) (fc zs) := by
  refine .inr ⟨b, off, rfl, h2, fun i u hi => ?_⟩
  have hl : i < zs.length := by have := (List.getElem?_eq_some_iff.1 hi).1; rwa [fc_length] at this
  rw [fc_at hl] at hi
  rw [h3 i hl]
  exact hi
def copiedFl (zs : List Nat) (n : Nat) : List Value := fc (zs.take n) ++ List.replicate (zs.length - n) (.float .f32 0)
theorem copiedFl_zero (zs : List Nat) : copiedFl zs 0 = List.replicate zs.length (.float .f32 0) := by simp [copiedFl, fc]
theorem copiedFl_all (zs : List Nat) : copiedFl zs zs.length = fc zs := by simp [copiedFl]
theorem copiedFl_set (zs : List Nat) (n : Nat) (h : n < zs.length) : (copiedFl zs n).set n (.float .f32 (zs.getD n 0)) = copiedFl zs (n + 1) := by
  unfold copiedFl fc
  have e : zs.getD n 0 = zs[n] := by rw [List.getD_eq_getElem?_getD, List.getElem?_eq_getElem h]; rfl
  rw [e, List.set_append_right _ _ (by simp; omega)]
  have e2 : n - ((zs.take n).map (Value.float .f32)).length = 0 := by simp; omega
  rw [e2, show zs.length - n = (zs.length - (n + 1)) + 1 by omega, List.replicate_succ, List.set_cons_zero, List.take_succ_eq_append_getElem h, List.map_append]
  simp
theorem copiedFl_length (zs : List Nat) (n : Nat) (h : n ≤ zs.length) : (copiedFl zs n).length = zs.length := by simp [copiedFl, fc]; omega
theorem getD_lt {zs : List Nat} (h : ∀ z ∈ zs, z < 4294967296) (i : Nat) : zs.getD i 0 < 4294967296 := by
  by_cases hi : i < zs.length
  · rw [List.getD_eq_getElem?_getD, List.getElem?_eq_getElem hi]; exact h _ (List.getElem_mem _)
  · rw [List.getD_eq_getElem?_getD, List.getElem?_eq_none (by omega)]; decide
/-- A slice of structs of s floats that came in. -/
def IsRowFS (w : World) (s : Nat) (a : Option Addr) (len cap : Nat) (zs : List Nat) : Prop := zs.length = len * s ∧ len ≤ cap ∧ cap ≤ maxLen ∧ RowC w a (fc zs) ∧ ∀ z ∈ zs, z < 4294967296
theorem isRowFS_of {w : World} {s : Nat} {a' : Addr} {len cap : Nat} (hs : 0 < s) (hl : len ≤ cap) (hm : cap ≤ maxLen) (each : ∀ q, q < len * s → ∃ z, w.cell? (a'.add q) = some (.float .f32 z) ∧ (Lit.float .f32 z).wf = true) : ∃ zs, IsRowFS w s (some a') len cap zs := by
  refine ⟨(List.range (len * s)).map (fun q => match w.cell? (a'.add q) with | some (.float _ z) => z | _ => 0), by simp, hl, hm, ?_, ?_⟩
  · by_cases h0 : len * s = 0
    · left; rw [h0]; rfl
    · obtain ⟨b, off, spot⟩ := a'
      have hspot : spot = none := by
        obtain ⟨n, hn, _⟩ := each 0 (by omega)
        simpa [Addr.add] using World.cell?_spot hn
      subst hspot
      refine RowC.of_flos ?_ fun i hi => ?_
      · obtain ⟨n, hn, _⟩ := each 0 (by omega)
        simpa [Addr.add] using cell_lt hn
      · simp only [List.length_map, List.length_range] at hi
        obtain ⟨n, hn, _⟩ := each i hi
        rw [Go.WideShapes.add_plain] at hn
        have e1 : ((List.range (len * s)).map (fun q => match w.cell? ((⟨b, off, none⟩ : Addr).add q) with | some (.float _ z) => z | _ => 0)).getD i 0 = n := by
          rw [List.getD_eq_getElem?_getD, List.getElem?_map, List.getElem?_range hi]
          simp only [Option.map_some, Option.getD_some, Go.WideShapes.add_plain, hn]
        rw [e1, hn]
  · intro z hz
    simp only [List.mem_map, List.mem_range] at hz
    obtain ⟨i, hi, rfl⟩ := hz
    obtain ⟨n, hn, hw⟩ := each i hi
    simp only [hn]
    simpa [Lit.wf] using hw
end Go.Proofs.Ytljehplkdofhpac
