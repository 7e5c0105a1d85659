/- Lists of dams that are the same. -/
import Derived.Test.YtljehplkdofhpaaSameC
import Derived.DeepKeys
namespace Go.Proofs.Ytljehplkdofhpaa
open Go.RowKit
set_option linter.unusedVariables false
set_option linter.unusedSimpArgs false
set_option maxRecDepth 100000
attribute [local irreducible] wpV wpList Code.wp

theorem drop_get {M : List Int} {t j : Nat} (h : t + j < M.length) : (ic (M.drop t))[j]? = some (.int .i64 (M.getD (t + j) 0)) := by
  rw [ic_at (by simp; omega)]
  congr 2
  rw [List.getD_eq_getElem?_getD, List.getElem?_drop, List.getD_eq_getElem?_getD]

section
variable {P : Program} {w : World}
theorem run_arrayAt9 (t e : TypeId) (n len cap : Nat) (a : Option Addr) (ht : P.underlying t = some (.array n e)) (hl : n ≤ len) : (Instr.arrayAt t (.slice a len cap)).run P w = .ok (.pointer a) w := by
  unfold Instr.arrayAt
  simp [run_underlying ht, Nat.not_lt.2 hl]
@[go_sem] theorem run_arrayAtD (len cap : Nat) (a : Option Addr) (hl : 4 ≤ len) : (Instr.arrayAt 89 (.slice a len cap)).run Try.prog w = .ok (.pointer a) w := run_arrayAt9 _ 42 4 len cap a (by kernel_rfl) hl
end

set_option maxHeartbeats 4000000 in
theorem neq16_f (x0 x1 x2 x3 x4 x5 x6 x7 x8 x9 x10 x11 x12 x13 x14 x15 : Int) (w : World) : (binOp .neq 89 (.agg #[.int .i64 x0, .int .i64 x1, .int .i64 x2, .int .i64 x3, .int .i64 x4, .int .i64 x5, .int .i64 x6, .int .i64 x7, .int .i64 x8, .int .i64 x9, .int .i64 x10, .int .i64 x11, .int .i64 x12, .int .i64 x13, .int .i64 x14, .int .i64 x15]) (.agg #[.int .i64 x0, .int .i64 x1, .int .i64 x2, .int .i64 x3, .int .i64 x4, .int .i64 x5, .int .i64 x6, .int .i64 x7, .int .i64 x8, .int .i64 x9, .int .i64 x10, .int .i64 x11, .int .i64 x12, .int .i64 x13, .int .i64 x14, .int .i64 x15])).run Try.prog w = .ok (.bool false) w := by
  have hc : Try.prog.cellsOf 42 = 4 := by kernel_rfl
  obtain ⟨i, hi⟩ : ∃ i, Try.prog.info? 42 = some i := by
    have : (Try.prog.info? 42).isSome = true := by kernel_rfl
    exact Option.isSome_iff_exists.1 this
  rw [run_neq_struct, show (10000 : Nat) = 9999 + 1 from rfl, run_equalIn_array w 9999 _ _ (t := 89) (e := 42) (n := 4) (by kernel_rfl) hi, hc]
  simp only [show List.range 4 = [0, 1, 2, 3] from rfl, Op.eqItems]
  go_simp

set_option maxHeartbeats 4000000 in
theorem neq16_0 (x0 x1 x2 x3 x4 x5 x6 x7 x8 x9 x10 x11 x12 x13 x14 x15 y0 y1 y2 y3 y4 y5 y6 y7 y8 y9 y10 y11 y12 y13 y14 y15 : Int) (h : ¬ x0 = y0) (w : World) : (binOp .neq 89 (.agg #[.int .i64 x0, .int .i64 x1, .int .i64 x2, .int .i64 x3, .int .i64 x4, .int .i64 x5, .int .i64 x6, .int .i64 x7, .int .i64 x8, .int .i64 x9, .int .i64 x10, .int .i64 x11, .int .i64 x12, .int .i64 x13, .int .i64 x14, .int .i64 x15]) (.agg #[.int .i64 y0, .int .i64 y1, .int .i64 y2, .int .i64 y3, .int .i64 y4, .int .i64 y5, .int .i64 y6, .int .i64 y7, .int .i64 y8, .int .i64 y9, .int .i64 y10, .int .i64 y11, .int .i64 y12, .int .i64 y13, .int .i64 y14, .int .i64 y15])).run Try.prog w = .ok (.bool true) w := by
  have hc : Try.prog.cellsOf 42 = 4 := by kernel_rfl
  obtain ⟨i, hi⟩ : ∃ i, Try.prog.info? 42 = some i := by
    have : (Try.prog.info? 42).isSome = true := by kernel_rfl
    exact Option.isSome_iff_exists.1 this
  rw [run_neq_struct, show (10000 : Nat) = 9999 + 1 from rfl, run_equalIn_array w 9999 _ _ (t := 89) (e := 42) (n := 4) (by kernel_rfl) hi, hc]
  simp only [show List.range 4 = [0, 1, 2, 3] from rfl, Op.eqItems]
  go_simp
  try simp [h]

set_option maxHeartbeats 4000000 in
theorem neq16_1 (x0 x1 x2 x3 x4 x5 x6 x7 x8 x9 x10 x11 x12 x13 x14 x15 y0 y1 y2 y3 y4 y5 y6 y7 y8 y9 y10 y11 y12 y13 y14 y15 : Int) (h : ¬ x1 = y1) (w : World) : (binOp .neq 89 (.agg #[.int .i64 x0, .int .i64 x1, .int .i64 x2, .int .i64 x3, .int .i64 x4, .int .i64 x5, .int .i64 x6, .int .i64 x7, .int .i64 x8, .int .i64 x9, .int .i64 x10, .int .i64 x11, .int .i64 x12, .int .i64 x13, .int .i64 x14, .int .i64 x15]) (.agg #[.int .i64 x0, .int .i64 y1, .int .i64 y2, .int .i64 y3, .int .i64 y4, .int .i64 y5, .int .i64 y6, .int .i64 y7, .int .i64 y8, .int .i64 y9, .int .i64 y10, .int .i64 y11, .int .i64 y12, .int .i64 y13, .int .i64 y14, .int .i64 y15])).run Try.prog w = .ok (.bool true) w := by
  have hc : Try.prog.cellsOf 42 = 4 := by kernel_rfl
  obtain ⟨i, hi⟩ : ∃ i, Try.prog.info? 42 = some i := by
    have : (Try.prog.info? 42).isSome = true := by kernel_rfl
    exact Option.isSome_iff_exists.1 this
  rw [run_neq_struct, show (10000 : Nat) = 9999 + 1 from rfl, run_equalIn_array w 9999 _ _ (t := 89) (e := 42) (n := 4) (by kernel_rfl) hi, hc]
  simp only [show List.range 4 = [0, 1, 2, 3] from rfl, Op.eqItems]
  go_simp
  try simp [h]

set_option maxHeartbeats 4000000 in
theorem neq16_2 (x0 x1 x2 x3 x4 x5 x6 x7 x8 x9 x10 x11 x12 x13 x14 x15 y0 y1 y2 y3 y4 y5 y6 y7 y8 y9 y10 y11 y12 y13 y14 y15 : Int) (h : ¬ x2 = y2) (w : World) : (binOp .neq 89 (.agg #[.int .i64 x0, .int .i64 x1, .int .i64 x2, .int .i64 x3, .int .i64 x4, .int .i64 x5, .int .i64 x6, .int .i64 x7, .int .i64 x8, .int .i64 x9, .int .i64 x10, .int .i64 x11, .int .i64 x12, .int .i64 x13, .int .i64 x14, .int .i64 x15]) (.agg #[.int .i64 x0, .int .i64 x1, .int .i64 y2, .int .i64 y3, .int .i64 y4, .int .i64 y5, .int .i64 y6, .int .i64 y7, .int .i64 y8, .int .i64 y9, .int .i64 y10, .int .i64 y11, .int .i64 y12, .int .i64 y13, .int .i64 y14, .int .i64 y15])).run Try.prog w = .ok (.bool true) w := by
  have hc : Try.prog.cellsOf 42 = 4 := by kernel_rfl
  obtain ⟨i, hi⟩ : ∃ i, Try.prog.info? 42 = some i := by
    have : (Try.prog.info? 42).isSome = true := by kernel_rfl
    exact Option.isSome_iff_exists.1 this
  rw [run_neq_struct, show (10000 : Nat) = 9999 + 1 from rfl, run_equalIn_array w 9999 _ _ (t := 89) (e := 42) (n := 4) (by kernel_rfl) hi, hc]
  simp only [show List.range 4 = [0, 1, 2, 3] from rfl, Op.eqItems]
  go_simp
  try simp [h]

set_option maxHeartbeats 4000000 in
theorem neq16_3 (x0 x1 x2 x3 x4 x5 x6 x7 x8 x9 x10 x11 x12 x13 x14 x15 y0 y1 y2 y3 y4 y5 y6 y7 y8 y9 y10 y11 y12 y13 y14 y15 : Int) (h : ¬ x3 = y3) (w : World) : (binOp .neq 89 (.agg #[.int .i64 x0, .int .i64 x1, .int .i64 x2, .int .i64 x3, .int .i64 x4, .int .i64 x5, .int .i64 x6, .int .i64 x7, .int .i64 x8, .int .i64 x9, .int .i64 x10, .int .i64 x11, .int .i64 x12, .int .i64 x13, .int .i64 x14, .int .i64 x15]) (.agg #[.int .i64 x0, .int .i64 x1, .int .i64 x2, .int .i64 y3, .int .i64 y4, .int .i64 y5, .int .i64 y6, .int .i64 y7, .int .i64 y8, .int .i64 y9, .int .i64 y10, .int .i64 y11, .int .i64 y12, .int .i64 y13, .int .i64 y14, .int .i64 y15])).run Try.prog w = .ok (.bool true) w := by
  have hc : Try.prog.cellsOf 42 = 4 := by kernel_rfl
  obtain ⟨i, hi⟩ : ∃ i, Try.prog.info? 42 = some i := by
    have : (Try.prog.info? 42).isSome = true := by kernel_rfl
    exact Option.isSome_iff_exists.1 this
  rw [run_neq_struct, show (10000 : Nat) = 9999 + 1 from rfl, run_equalIn_array w 9999 _ _ (t := 89) (e := 42) (n := 4) (by kernel_rfl) hi, hc]
  simp only [show List.range 4 = [0, 1, 2, 3] from rfl, Op.eqItems]
  go_simp
  try simp [h]

set_option maxHeartbeats 4000000 in
theorem neq16_4 (x0 x1 x2 x3 x4 x5 x6 x7 x8 x9 x10 x11 x12 x13 x14 x15 y0 y1 y2 y3 y4 y5 y6 y7 y8 y9 y10 y11 y12 y13 y14 y15 : Int) (h : ¬ x4 = y4) (w : World) : (binOp .neq 89 (.agg #[.int .i64 x0, .int .i64 x1, .int .i64 x2, .int .i64 x3, .int .i64 x4, .int .i64 x5, .int .i64 x6, .int .i64 x7, .int .i64 x8, .int .i64 x9, .int .i64 x10, .int .i64 x11, .int .i64 x12, .int .i64 x13, .int .i64 x14, .int .i64 x15]) (.agg #[.int .i64 x0, .int .i64 x1, .int .i64 x2, .int .i64 x3, .int .i64 y4, .int .i64 y5, .int .i64 y6, .int .i64 y7, .int .i64 y8, .int .i64 y9, .int .i64 y10, .int .i64 y11, .int .i64 y12, .int .i64 y13, .int .i64 y14, .int .i64 y15])).run Try.prog w = .ok (.bool true) w := by
  have hc : Try.prog.cellsOf 42 = 4 := by kernel_rfl
  obtain ⟨i, hi⟩ : ∃ i, Try.prog.info? 42 = some i := by
    have : (Try.prog.info? 42).isSome = true := by kernel_rfl
    exact Option.isSome_iff_exists.1 this
  rw [run_neq_struct, show (10000 : Nat) = 9999 + 1 from rfl, run_equalIn_array w 9999 _ _ (t := 89) (e := 42) (n := 4) (by kernel_rfl) hi, hc]
  simp only [show List.range 4 = [0, 1, 2, 3] from rfl, Op.eqItems]
  go_simp
  try simp [h]

set_option maxHeartbeats 4000000 in
theorem neq16_5 (x0 x1 x2 x3 x4 x5 x6 x7 x8 x9 x10 x11 x12 x13 x14 x15 y0 y1 y2 y3 y4 y5 y6 y7 y8 y9 y10 y11 y12 y13 y14 y15 : Int) (h : ¬ x5 = y5) (w : World) : (binOp .neq 89 (.agg #[.int .i64 x0, .int .i64 x1, .int .i64 x2, .int .i64 x3, .int .i64 x4, .int .i64 x5, .int .i64 x6, .int .i64 x7, .int .i64 x8, .int .i64 x9, .int .i64 x10, .int .i64 x11, .int .i64 x12, .int .i64 x13, .int .i64 x14, .int .i64 x15]) (.agg #[.int .i64 x0, .int .i64 x1, .int .i64 x2, .int .i64 x3, .int .i64 x4, .int .i64 y5, .int .i64 y6, .int .i64 y7, .int .i64 y8, .int .i64 y9, .int .i64 y10, .int .i64 y11, .int .i64 y12, .int .i64 y13, .int .i64 y14, .int .i64 y15])).run Try.prog w = .ok (.bool true) w := by
  have hc : Try.prog.cellsOf 42 = 4 := by kernel_rfl
  obtain ⟨i, hi⟩ : ∃ i, Try.prog.info? 42 = some i := by
    have : (Try.prog.info? 42).isSome = true := by kernel_rfl
    exact Option.isSome_iff_exists.1 this
  rw [run_neq_struct, show (10000 : Nat) = 9999 + 1 from rfl, run_equalIn_array w 9999 _ _ (t := 89) (e := 42) (n := 4) (by kernel_rfl) hi, hc]
  simp only [show List.range 4 = [0, 1, 2, 3] from rfl, Op.eqItems]
  go_simp
  try simp [h]

set_option maxHeartbeats 4000000 in
theorem neq16_6 (x0 x1 x2 x3 x4 x5 x6 x7 x8 x9 x10 x11 x12 x13 x14 x15 y0 y1 y2 y3 y4 y5 y6 y7 y8 y9 y10 y11 y12 y13 y14 y15 : Int) (h : ¬ x6 = y6) (w : World) : (binOp .neq 89 (.agg #[.int .i64 x0, .int .i64 x1, .int .i64 x2, .int .i64 x3, .int .i64 x4, .int .i64 x5, .int .i64 x6, .int .i64 x7, .int .i64 x8, .int .i64 x9, .int .i64 x10, .int .i64 x11, .int .i64 x12, .int .i64 x13, .int .i64 x14, .int .i64 x15]) (.agg #[.int .i64 x0, .int .i64 x1, .int .i64 x2, .int .i64 x3, .int .i64 x4, .int .i64 x5, .int .i64 y6, .int .i64 y7, .int .i64 y8, .int .i64 y9, .int .i64 y10, .int .i64 y11, .int .i64 y12, .int .i64 y13, .int .i64 y14, .int .i64 y15])).run Try.prog w = .ok (.bool true) w := by
  have hc : Try.prog.cellsOf 42 = 4 := by kernel_rfl
  obtain ⟨i, hi⟩ : ∃ i, Try.prog.info? 42 = some i := by
    have : (Try.prog.info? 42).isSome = true := by kernel_rfl
    exact Option.isSome_iff_exists.1 this
  rw [run_neq_struct, show (10000 : Nat) = 9999 + 1 from rfl, run_equalIn_array w 9999 _ _ (t := 89) (e := 42) (n := 4) (by kernel_rfl) hi, hc]
  simp only [show List.range 4 = [0, 1, 2, 3] from rfl, Op.eqItems]
  go_simp
  try simp [h]

set_option maxHeartbeats 4000000 in
theorem neq16_7 (x0 x1 x2 x3 x4 x5 x6 x7 x8 x9 x10 x11 x12 x13 x14 x15 y0 y1 y2 y3 y4 y5 y6 y7 y8 y9 y10 y11 y12 y13 y14 y15 : Int) (h : ¬ x7 = y7) (w : World) : (binOp .neq 89 (.agg #[.int .i64 x0, .int .i64 x1, .int .i64 x2, .int .i64 x3, .int .i64 x4, .int .i64 x5, .int .i64 x6, .int .i64 x7, .int .i64 x8, .int .i64 x9, .int .i64 x10, .int .i64 x11, .int .i64 x12, .int .i64 x13, .int .i64 x14, .int .i64 x15]) (.agg #[.int .i64 x0, .int .i64 x1, .int .i64 x2, .int .i64 x3, .int .i64 x4, .int .i64 x5, .int .i64 x6, .int .i64 y7, .int .i64 y8, .int .i64 y9, .int .i64 y10, .int .i64 y11, .int .i64 y12, .int .i64 y13, .int .i64 y14, .int .i64 y15])).run Try.prog w = .ok (.bool true) w := by
  have hc : Try.prog.cellsOf 42 = 4 := by kernel_rfl
  obtain ⟨i, hi⟩ : ∃ i, Try.prog.info? 42 = some i := by
    have : (Try.prog.info? 42).isSome = true := by kernel_rfl
    exact Option.isSome_iff_exists.1 this
  rw [run_neq_struct, show (10000 : Nat) = 9999 + 1 from rfl, run_equalIn_array w 9999 _ _ (t := 89) (e := 42) (n := 4) (by kernel_rfl) hi, hc]
  simp only [show List.range 4 = [0, 1, 2, 3] from rfl, Op.eqItems]
  go_simp
  try simp [h]

set_option maxHeartbeats 4000000 in
theorem neq16_8 (x0 x1 x2 x3 x4 x5 x6 x7 x8 x9 x10 x11 x12 x13 x14 x15 y0 y1 y2 y3 y4 y5 y6 y7 y8 y9 y10 y11 y12 y13 y14 y15 : Int) (h : ¬ x8 = y8) (w : World) : (binOp .neq 89 (.agg #[.int .i64 x0, .int .i64 x1, .int .i64 x2, .int .i64 x3, .int .i64 x4, .int .i64 x5, .int .i64 x6, .int .i64 x7, .int .i64 x8, .int .i64 x9, .int .i64 x10, .int .i64 x11, .int .i64 x12, .int .i64 x13, .int .i64 x14, .int .i64 x15]) (.agg #[.int .i64 x0, .int .i64 x1, .int .i64 x2, .int .i64 x3, .int .i64 x4, .int .i64 x5, .int .i64 x6, .int .i64 x7, .int .i64 y8, .int .i64 y9, .int .i64 y10, .int .i64 y11, .int .i64 y12, .int .i64 y13, .int .i64 y14, .int .i64 y15])).run Try.prog w = .ok (.bool true) w := by
  have hc : Try.prog.cellsOf 42 = 4 := by kernel_rfl
  obtain ⟨i, hi⟩ : ∃ i, Try.prog.info? 42 = some i := by
    have : (Try.prog.info? 42).isSome = true := by kernel_rfl
    exact Option.isSome_iff_exists.1 this
  rw [run_neq_struct, show (10000 : Nat) = 9999 + 1 from rfl, run_equalIn_array w 9999 _ _ (t := 89) (e := 42) (n := 4) (by kernel_rfl) hi, hc]
  simp only [show List.range 4 = [0, 1, 2, 3] from rfl, Op.eqItems]
  go_simp
  try simp [h]

set_option maxHeartbeats 4000000 in
theorem neq16_9 (x0 x1 x2 x3 x4 x5 x6 x7 x8 x9 x10 x11 x12 x13 x14 x15 y0 y1 y2 y3 y4 y5 y6 y7 y8 y9 y10 y11 y12 y13 y14 y15 : Int) (h : ¬ x9 = y9) (w : World) : (binOp .neq 89 (.agg #[.int .i64 x0, .int .i64 x1, .int .i64 x2, .int .i64 x3, .int .i64 x4, .int .i64 x5, .int .i64 x6, .int .i64 x7, .int .i64 x8, .int .i64 x9, .int .i64 x10, .int .i64 x11, .int .i64 x12, .int .i64 x13, .int .i64 x14, .int .i64 x15]) (.agg #[.int .i64 x0, .int .i64 x1, .int .i64 x2, .int .i64 x3, .int .i64 x4, .int .i64 x5, .int .i64 x6, .int .i64 x7, .int .i64 x8, .int .i64 y9, .int .i64 y10, .int .i64 y11, .int .i64 y12, .int .i64 y13, .int .i64 y14, .int .i64 y15])).run Try.prog w = .ok (.bool true) w := by
  have hc : Try.prog.cellsOf 42 = 4 := by kernel_rfl
  obtain ⟨i, hi⟩ : ∃ i, Try.prog.info? 42 = some i := by
    have : (Try.prog.info? 42).isSome = true := by kernel_rfl
    exact Option.isSome_iff_exists.1 this
  rw [run_neq_struct, show (10000 : Nat) = 9999 + 1 from rfl, run_equalIn_array w 9999 _ _ (t := 89) (e := 42) (n := 4) (by kernel_rfl) hi, hc]
  simp only [show List.range 4 = [0, 1, 2, 3] from rfl, Op.eqItems]
  go_simp
  try simp [h]

set_option maxHeartbeats 4000000 in
theorem neq16_10 (x0 x1 x2 x3 x4 x5 x6 x7 x8 x9 x10 x11 x12 x13 x14 x15 y0 y1 y2 y3 y4 y5 y6 y7 y8 y9 y10 y11 y12 y13 y14 y15 : Int) (h : ¬ x10 = y10) (w : World) : (binOp .neq 89 (.agg #[.int .i64 x0, .int .i64 x1, .int .i64 x2, .int .i64 x3, .int .i64 x4, .int .i64 x5, .int .i64 x6, .int .i64 x7, .int .i64 x8, .int .i64 x9, .int .i64 x10, .int .i64 x11, .int .i64 x12, .int .i64 x13, .int .i64 x14, .int .i64 x15]) (.agg #[.int .i64 x0, .int .i64 x1, .int .i64 x2, .int .i64 x3, .int .i64 x4, .int .i64 x5, .int .i64 x6, .int .i64 x7, .int .i64 x8, .int .i64 x9, .int .i64 y10, .int .i64 y11, .int .i64 y12, .int .i64 y13, .int .i64 y14, .int .i64 y15])).run Try.prog w = .ok (.bool true) w := by
  have hc : Try.prog.cellsOf 42 = 4 := by kernel_rfl
  obtain ⟨i, hi⟩ : ∃ i, Try.prog.info? 42 = some i := by
    have : (Try.prog.info? 42).isSome = true := by kernel_rfl
    exact Option.isSome_iff_exists.1 this
  rw [run_neq_struct, show (10000 : Nat) = 9999 + 1 from rfl, run_equalIn_array w 9999 _ _ (t := 89) (e := 42) (n := 4) (by kernel_rfl) hi, hc]
  simp only [show List.range 4 = [0, 1, 2, 3] from rfl, Op.eqItems]
  go_simp
  try simp [h]

set_option maxHeartbeats 4000000 in
theorem neq16_11 (x0 x1 x2 x3 x4 x5 x6 x7 x8 x9 x10 x11 x12 x13 x14 x15 y0 y1 y2 y3 y4 y5 y6 y7 y8 y9 y10 y11 y12 y13 y14 y15 : Int) (h : ¬ x11 = y11) (w : World) : (binOp .neq 89 (.agg #[.int .i64 x0, .int .i64 x1, .int .i64 x2, .int .i64 x3, .int .i64 x4, .int .i64 x5, .int .i64 x6, .int .i64 x7, .int .i64 x8, .int .i64 x9, .int .i64 x10, .int .i64 x11, .int .i64 x12, .int .i64 x13, .int .i64 x14, .int .i64 x15]) (.agg #[.int .i64 x0, .int .i64 x1, .int .i64 x2, .int .i64 x3, .int .i64 x4, .int .i64 x5, .int .i64 x6, .int .i64 x7, .int .i64 x8, .int .i64 x9, .int .i64 x10, .int .i64 y11, .int .i64 y12, .int .i64 y13, .int .i64 y14, .int .i64 y15])).run Try.prog w = .ok (.bool true) w := by
  have hc : Try.prog.cellsOf 42 = 4 := by kernel_rfl
  obtain ⟨i, hi⟩ : ∃ i, Try.prog.info? 42 = some i := by
    have : (Try.prog.info? 42).isSome = true := by kernel_rfl
    exact Option.isSome_iff_exists.1 this
  rw [run_neq_struct, show (10000 : Nat) = 9999 + 1 from rfl, run_equalIn_array w 9999 _ _ (t := 89) (e := 42) (n := 4) (by kernel_rfl) hi, hc]
  simp only [show List.range 4 = [0, 1, 2, 3] from rfl, Op.eqItems]
  go_simp
  try simp [h]

set_option maxHeartbeats 4000000 in
theorem neq16_12 (x0 x1 x2 x3 x4 x5 x6 x7 x8 x9 x10 x11 x12 x13 x14 x15 y0 y1 y2 y3 y4 y5 y6 y7 y8 y9 y10 y11 y12 y13 y14 y15 : Int) (h : ¬ x12 = y12) (w : World) : (binOp .neq 89 (.agg #[.int .i64 x0, .int .i64 x1, .int .i64 x2, .int .i64 x3, .int .i64 x4, .int .i64 x5, .int .i64 x6, .int .i64 x7, .int .i64 x8, .int .i64 x9, .int .i64 x10, .int .i64 x11, .int .i64 x12, .int .i64 x13, .int .i64 x14, .int .i64 x15]) (.agg #[.int .i64 x0, .int .i64 x1, .int .i64 x2, .int .i64 x3, .int .i64 x4, .int .i64 x5, .int .i64 x6, .int .i64 x7, .int .i64 x8, .int .i64 x9, .int .i64 x10, .int .i64 x11, .int .i64 y12, .int .i64 y13, .int .i64 y14, .int .i64 y15])).run Try.prog w = .ok (.bool true) w := by
  have hc : Try.prog.cellsOf 42 = 4 := by kernel_rfl
  obtain ⟨i, hi⟩ : ∃ i, Try.prog.info? 42 = some i := by
    have : (Try.prog.info? 42).isSome = true := by kernel_rfl
    exact Option.isSome_iff_exists.1 this
  rw [run_neq_struct, show (10000 : Nat) = 9999 + 1 from rfl, run_equalIn_array w 9999 _ _ (t := 89) (e := 42) (n := 4) (by kernel_rfl) hi, hc]
  simp only [show List.range 4 = [0, 1, 2, 3] from rfl, Op.eqItems]
  go_simp
  try simp [h]

set_option maxHeartbeats 4000000 in
theorem neq16_13 (x0 x1 x2 x3 x4 x5 x6 x7 x8 x9 x10 x11 x12 x13 x14 x15 y0 y1 y2 y3 y4 y5 y6 y7 y8 y9 y10 y11 y12 y13 y14 y15 : Int) (h : ¬ x13 = y13) (w : World) : (binOp .neq 89 (.agg #[.int .i64 x0, .int .i64 x1, .int .i64 x2, .int .i64 x3, .int .i64 x4, .int .i64 x5, .int .i64 x6, .int .i64 x7, .int .i64 x8, .int .i64 x9, .int .i64 x10, .int .i64 x11, .int .i64 x12, .int .i64 x13, .int .i64 x14, .int .i64 x15]) (.agg #[.int .i64 x0, .int .i64 x1, .int .i64 x2, .int .i64 x3, .int .i64 x4, .int .i64 x5, .int .i64 x6, .int .i64 x7, .int .i64 x8, .int .i64 x9, .int .i64 x10, .int .i64 x11, .int .i64 x12, .int .i64 y13, .int .i64 y14, .int .i64 y15])).run Try.prog w = .ok (.bool true) w := by
  have hc : Try.prog.cellsOf 42 = 4 := by kernel_rfl
  obtain ⟨i, hi⟩ : ∃ i, Try.prog.info? 42 = some i := by
    have : (Try.prog.info? 42).isSome = true := by kernel_rfl
    exact Option.isSome_iff_exists.1 this
  rw [run_neq_struct, show (10000 : Nat) = 9999 + 1 from rfl, run_equalIn_array w 9999 _ _ (t := 89) (e := 42) (n := 4) (by kernel_rfl) hi, hc]
  simp only [show List.range 4 = [0, 1, 2, 3] from rfl, Op.eqItems]
  go_simp
  try simp [h]

set_option maxHeartbeats 4000000 in
theorem neq16_14 (x0 x1 x2 x3 x4 x5 x6 x7 x8 x9 x10 x11 x12 x13 x14 x15 y0 y1 y2 y3 y4 y5 y6 y7 y8 y9 y10 y11 y12 y13 y14 y15 : Int) (h : ¬ x14 = y14) (w : World) : (binOp .neq 89 (.agg #[.int .i64 x0, .int .i64 x1, .int .i64 x2, .int .i64 x3, .int .i64 x4, .int .i64 x5, .int .i64 x6, .int .i64 x7, .int .i64 x8, .int .i64 x9, .int .i64 x10, .int .i64 x11, .int .i64 x12, .int .i64 x13, .int .i64 x14, .int .i64 x15]) (.agg #[.int .i64 x0, .int .i64 x1, .int .i64 x2, .int .i64 x3, .int .i64 x4, .int .i64 x5, .int .i64 x6, .int .i64 x7, .int .i64 x8, .int .i64 x9, .int .i64 x10, .int .i64 x11, .int .i64 x12, .int .i64 x13, .int .i64 y14, .int .i64 y15])).run Try.prog w = .ok (.bool true) w := by
  have hc : Try.prog.cellsOf 42 = 4 := by kernel_rfl
  obtain ⟨i, hi⟩ : ∃ i, Try.prog.info? 42 = some i := by
    have : (Try.prog.info? 42).isSome = true := by kernel_rfl
    exact Option.isSome_iff_exists.1 this
  rw [run_neq_struct, show (10000 : Nat) = 9999 + 1 from rfl, run_equalIn_array w 9999 _ _ (t := 89) (e := 42) (n := 4) (by kernel_rfl) hi, hc]
  simp only [show List.range 4 = [0, 1, 2, 3] from rfl, Op.eqItems]
  go_simp
  try simp [h]

set_option maxHeartbeats 4000000 in
theorem neq16_15 (x0 x1 x2 x3 x4 x5 x6 x7 x8 x9 x10 x11 x12 x13 x14 x15 y0 y1 y2 y3 y4 y5 y6 y7 y8 y9 y10 y11 y12 y13 y14 y15 : Int) (h : ¬ x15 = y15) (w : World) : (binOp .neq 89 (.agg #[.int .i64 x0, .int .i64 x1, .int .i64 x2, .int .i64 x3, .int .i64 x4, .int .i64 x5, .int .i64 x6, .int .i64 x7, .int .i64 x8, .int .i64 x9, .int .i64 x10, .int .i64 x11, .int .i64 x12, .int .i64 x13, .int .i64 x14, .int .i64 x15]) (.agg #[.int .i64 x0, .int .i64 x1, .int .i64 x2, .int .i64 x3, .int .i64 x4, .int .i64 x5, .int .i64 x6, .int .i64 x7, .int .i64 x8, .int .i64 x9, .int .i64 x10, .int .i64 x11, .int .i64 x12, .int .i64 x13, .int .i64 x14, .int .i64 y15])).run Try.prog w = .ok (.bool true) w := by
  have hc : Try.prog.cellsOf 42 = 4 := by kernel_rfl
  obtain ⟨i, hi⟩ : ∃ i, Try.prog.info? 42 = some i := by
    have : (Try.prog.info? 42).isSome = true := by kernel_rfl
    exact Option.isSome_iff_exists.1 this
  rw [run_neq_struct, show (10000 : Nat) = 9999 + 1 from rfl, run_equalIn_array w 9999 _ _ (t := 89) (e := 42) (n := 4) (by kernel_rfl) hi, hc]
  simp only [show List.range 4 = [0, 1, 2, 3] from rfl, Op.eqItems]
  go_simp
  try simp [h]

set_option maxHeartbeats 4000000 in
theorem neq16_any (x0 x1 x2 x3 x4 x5 x6 x7 x8 x9 x10 x11 x12 x13 x14 x15 y0 y1 y2 y3 y4 y5 y6 y7 y8 y9 y10 y11 y12 y13 y14 y15 : Int) : ∃ d : Bool, (∀ w : World, (binOp .neq 89 (.agg #[.int .i64 x0, .int .i64 x1, .int .i64 x2, .int .i64 x3, .int .i64 x4, .int .i64 x5, .int .i64 x6, .int .i64 x7, .int .i64 x8, .int .i64 x9, .int .i64 x10, .int .i64 x11, .int .i64 x12, .int .i64 x13, .int .i64 x14, .int .i64 x15]) (.agg #[.int .i64 y0, .int .i64 y1, .int .i64 y2, .int .i64 y3, .int .i64 y4, .int .i64 y5, .int .i64 y6, .int .i64 y7, .int .i64 y8, .int .i64 y9, .int .i64 y10, .int .i64 y11, .int .i64 y12, .int .i64 y13, .int .i64 y14, .int .i64 y15])).run Try.prog w = .ok (.bool d) w) ∧ ((d = false ∧ x0 = y0 ∧ x1 = y1 ∧ x2 = y2 ∧ x3 = y3 ∧ x4 = y4 ∧ x5 = y5 ∧ x6 = y6 ∧ x7 = y7 ∧ x8 = y8 ∧ x9 = y9 ∧ x10 = y10 ∧ x11 = y11 ∧ x12 = y12 ∧ x13 = y13 ∧ x14 = y14 ∧ x15 = y15) ∨ (d = true ∧ (¬ x0 = y0 ∨ ¬ x1 = y1 ∨ ¬ x2 = y2 ∨ ¬ x3 = y3 ∨ ¬ x4 = y4 ∨ ¬ x5 = y5 ∨ ¬ x6 = y6 ∨ ¬ x7 = y7 ∨ ¬ x8 = y8 ∨ ¬ x9 = y9 ∨ ¬ x10 = y10 ∨ ¬ x11 = y11 ∨ ¬ x12 = y12 ∨ ¬ x13 = y13 ∨ ¬ x14 = y14 ∨ ¬ x15 = y15))) := by
  by_cases e0 : x0 = y0
  case neg => exact ⟨true, fun w => neq16_0 x0 x1 x2 x3 x4 x5 x6 x7 x8 x9 x10 x11 x12 x13 x14 x15 y0 y1 y2 y3 y4 y5 y6 y7 y8 y9 y10 y11 y12 y13 y14 y15 e0 w, .inr ⟨rfl, by simp [e0]⟩⟩
  subst e0
  by_cases e1 : x1 = y1
  case neg => exact ⟨true, fun w => neq16_1 x0 x1 x2 x3 x4 x5 x6 x7 x8 x9 x10 x11 x12 x13 x14 x15 x0 y1 y2 y3 y4 y5 y6 y7 y8 y9 y10 y11 y12 y13 y14 y15 e1 w, .inr ⟨rfl, by simp [e1]⟩⟩
  subst e1
  by_cases e2 : x2 = y2
  case neg => exact ⟨true, fun w => neq16_2 x0 x1 x2 x3 x4 x5 x6 x7 x8 x9 x10 x11 x12 x13 x14 x15 x0 x1 y2 y3 y4 y5 y6 y7 y8 y9 y10 y11 y12 y13 y14 y15 e2 w, .inr ⟨rfl, by simp [e2]⟩⟩
  subst e2
  by_cases e3 : x3 = y3
  case neg => exact ⟨true, fun w => neq16_3 x0 x1 x2 x3 x4 x5 x6 x7 x8 x9 x10 x11 x12 x13 x14 x15 x0 x1 x2 y3 y4 y5 y6 y7 y8 y9 y10 y11 y12 y13 y14 y15 e3 w, .inr ⟨rfl, by simp [e3]⟩⟩
  subst e3
  by_cases e4 : x4 = y4
  case neg => exact ⟨true, fun w => neq16_4 x0 x1 x2 x3 x4 x5 x6 x7 x8 x9 x10 x11 x12 x13 x14 x15 x0 x1 x2 x3 y4 y5 y6 y7 y8 y9 y10 y11 y12 y13 y14 y15 e4 w, .inr ⟨rfl, by simp [e4]⟩⟩
  subst e4
  by_cases e5 : x5 = y5
  case neg => exact ⟨true, fun w => neq16_5 x0 x1 x2 x3 x4 x5 x6 x7 x8 x9 x10 x11 x12 x13 x14 x15 x0 x1 x2 x3 x4 y5 y6 y7 y8 y9 y10 y11 y12 y13 y14 y15 e5 w, .inr ⟨rfl, by simp [e5]⟩⟩
  subst e5
  by_cases e6 : x6 = y6
  case neg => exact ⟨true, fun w => neq16_6 x0 x1 x2 x3 x4 x5 x6 x7 x8 x9 x10 x11 x12 x13 x14 x15 x0 x1 x2 x3 x4 x5 y6 y7 y8 y9 y10 y11 y12 y13 y14 y15 e6 w, .inr ⟨rfl, by simp [e6]⟩⟩
  subst e6
  by_cases e7 : x7 = y7
  case neg => exact ⟨true, fun w => neq16_7 x0 x1 x2 x3 x4 x5 x6 x7 x8 x9 x10 x11 x12 x13 x14 x15 x0 x1 x2 x3 x4 x5 x6 y7 y8 y9 y10 y11 y12 y13 y14 y15 e7 w, .inr ⟨rfl, by simp [e7]⟩⟩
  subst e7
  by_cases e8 : x8 = y8
  case neg => exact ⟨true, fun w => neq16_8 x0 x1 x2 x3 x4 x5 x6 x7 x8 x9 x10 x11 x12 x13 x14 x15 x0 x1 x2 x3 x4 x5 x6 x7 y8 y9 y10 y11 y12 y13 y14 y15 e8 w, .inr ⟨rfl, by simp [e8]⟩⟩
  subst e8
  by_cases e9 : x9 = y9
  case neg => exact ⟨true, fun w => neq16_9 x0 x1 x2 x3 x4 x5 x6 x7 x8 x9 x10 x11 x12 x13 x14 x15 x0 x1 x2 x3 x4 x5 x6 x7 x8 y9 y10 y11 y12 y13 y14 y15 e9 w, .inr ⟨rfl, by simp [e9]⟩⟩
  subst e9
  by_cases e10 : x10 = y10
  case neg => exact ⟨true, fun w => neq16_10 x0 x1 x2 x3 x4 x5 x6 x7 x8 x9 x10 x11 x12 x13 x14 x15 x0 x1 x2 x3 x4 x5 x6 x7 x8 x9 y10 y11 y12 y13 y14 y15 e10 w, .inr ⟨rfl, by simp [e10]⟩⟩
  subst e10
  by_cases e11 : x11 = y11
  case neg => exact ⟨true, fun w => neq16_11 x0 x1 x2 x3 x4 x5 x6 x7 x8 x9 x10 x11 x12 x13 x14 x15 x0 x1 x2 x3 x4 x5 x6 x7 x8 x9 x10 y11 y12 y13 y14 y15 e11 w, .inr ⟨rfl, by simp [e11]⟩⟩
  subst e11
  by_cases e12 : x12 = y12
  case neg => exact ⟨true, fun w => neq16_12 x0 x1 x2 x3 x4 x5 x6 x7 x8 x9 x10 x11 x12 x13 x14 x15 x0 x1 x2 x3 x4 x5 x6 x7 x8 x9 x10 x11 y12 y13 y14 y15 e12 w, .inr ⟨rfl, by simp [e12]⟩⟩
  subst e12
  by_cases e13 : x13 = y13
  case neg => exact ⟨true, fun w => neq16_13 x0 x1 x2 x3 x4 x5 x6 x7 x8 x9 x10 x11 x12 x13 x14 x15 x0 x1 x2 x3 x4 x5 x6 x7 x8 x9 x10 x11 x12 y13 y14 y15 e13 w, .inr ⟨rfl, by simp [e13]⟩⟩
  subst e13
  by_cases e14 : x14 = y14
  case neg => exact ⟨true, fun w => neq16_14 x0 x1 x2 x3 x4 x5 x6 x7 x8 x9 x10 x11 x12 x13 x14 x15 x0 x1 x2 x3 x4 x5 x6 x7 x8 x9 x10 x11 x12 x13 y14 y15 e14 w, .inr ⟨rfl, by simp [e14]⟩⟩
  subst e14
  by_cases e15 : x15 = y15
  case neg => exact ⟨true, fun w => neq16_15 x0 x1 x2 x3 x4 x5 x6 x7 x8 x9 x10 x11 x12 x13 x14 x15 x0 x1 x2 x3 x4 x5 x6 x7 x8 x9 x10 x11 x12 x13 x14 y15 e15 w, .inr ⟨rfl, by simp [e15]⟩⟩
  subst e15
  exact ⟨false, fun w => neq16_f x0 x1 x2 x3 x4 x5 x6 x7 x8 x9 x10 x11 x12 x13 x14 x15 w, .inl ⟨rfl, rfl, rfl, rfl, rfl, rfl, rfl, rfl, rfl, rfl, rfl, rfl, rfl, rfl, rfl, rfl, rfl⟩⟩

theorem neq4_any (x0 x1 x2 x3 y0 y1 y2 y3 : Int) : ∃ d : Bool, (∀ w : World, (binOp .neq 42 (.agg #[.int .i64 x0, .int .i64 x1, .int .i64 x2, .int .i64 x3]) (.agg #[.int .i64 y0, .int .i64 y1, .int .i64 y2, .int .i64 y3])).run Try.prog w = .ok (.bool d) w) ∧ ((d = false ∧ x0 = y0 ∧ x1 = y1 ∧ x2 = y2 ∧ x3 = y3) ∨ (d = true ∧ (¬ x0 = y0 ∨ ¬ x1 = y1 ∨ ¬ x2 = y2 ∨ ¬ x3 = y3))) := by
  have hrun : ∀ w : World, (binOp .neq 42 (.agg #[.int .i64 x0, .int .i64 x1, .int .i64 x2, .int .i64 x3]) (.agg #[.int .i64 y0, .int .i64 y1, .int .i64 y2, .int .i64 y3])).run Try.prog w = .ok (.bool (!decide (x0 = y0 ∧ x1 = y1 ∧ x2 = y2 ∧ x3 = y3))) w := by
    intro w
    have hS : Try.prog.underlying 42 = some (.struct (Try.prog.fieldsOf 42)) := by kernel_rfl
    have hp : Try.prog.stoodInHeld 42 = false := by kernel_rfl
    rw [run_neq_struct, show (10000 : Nat) = 9999 + 1 from rfl, run_equalIn_agg w 9999 42 _ _ hS hp]
    simp only [Program.fieldsOf, Try.underlying42]
    go_simp
    by_cases h0 : x0 = y0 <;> by_cases h1 : x1 = y1 <;> by_cases h2 : x2 = y2 <;> by_cases h3 : x3 = y3 <;> simp [h0, h1, h2, h3]
  refine ⟨_, hrun, ?_⟩
  by_cases h0 : x0 = y0 <;> by_cases h1 : x1 = y1 <;> by_cases h2 : x2 = y2 <;> by_cases h3 : x3 = y3 <;> simp [h0, h1, h2, h3]

theorem row_next {w : World} {b o c s t n : Nat} {M : List Int} (hM : M.length = n * 4) (hn : s + 4 + 4 * t = n) (hc : s + 4 ≤ c) (hb : b < w.heap.size) (h : ∀ (i : Nat) (u : Value), (ic (M.drop (16 * t)))[i]? = some u → w.cell? ⟨b, o + i, none⟩ = some u) :
    RowC w (if c = 4 then some ⟨b, o, none⟩ else some ⟨b, o + 16, none⟩) (ic (M.drop (16 * (t + 1)))) := by
  by_cases e : c = 4
  · left
    rw [List.drop_eq_nil_of_le (by omega)]
    rfl
  · rw [if_neg e]
    refine .inr ⟨b, o + 16, rfl, hb, fun i u hi => ?_⟩
    rw [Nat.add_assoc]
    refine h (16 + i) u ?_
    unfold ic at hi ⊢
    rw [List.getElem?_map, List.getElem?_drop] at hi ⊢
    rw [show 16 * t + (16 + i) = 16 * (t + 1) + i by omega]
    exact hi

set_option maxHeartbeats 16000000 in
theorem sameDams_any (a b : Option Addr) (n m ca cb : Nat) (M N : List Int) (w : World) (hM : M.length = n * 4) (hN : N.length = m * 4) (ha : RowC w a (ic M)) (hb : RowC w b (ic N)) (hl : n ≤ 1048576) (hl2 : m ≤ 1048576) (hca : n ≤ ca) (hcb : m ≤ cb) (hma : ca ≤ maxLen) (hmb : cb ≤ maxLen) :
    Calls Try.prog 63 #[.slice a n ca, .slice b m cb] w fun e w' => e = .returned (.bool (decide (M = N))) ∧ Below w.heap.size w w' := by
  obtain ⟨v, hv⟩ : ∃ v, decide (M = N) = v := ⟨_, rfl⟩
  rw [hv]
  have HV := Lib.hid hv
  clear hv
  by_cases hne : n = m
  · subst hne
    have HLM := Lib.hid hM
    have HLN := Lib.hid hN
    have HA := Lib.hid ha
    have HB := Lib.hid hb
    have HCM := Lib.hid (And.intro hma hmb)
    clear hM hN ha hb hma hmb
    go_enter Try.func63, Try.ntmps63
    go_wp2_with fail
    go_loopw [0, 1] (fun s0 s1 wr => ∃ (r t q : Nat) (a1 b1 : Option Addr) (k1 l1 : Nat), r + 4 * t = n ∧ s0 = .slice a1 r k1 ∧ s1 = .slice b1 r l1 ∧ r ≤ k1 ∧ r ≤ l1 ∧ Hid (k1 ≤ maxLen ∧ l1 ≤ maxLen) ∧ Hid (RowC w a1 (ic (M.drop (16 * t)))) ∧ Hid (RowC w b1 (ic (N.drop (16 * t)))) ∧ Hid (∀ j, j < 16 * t → M.getD j 0 = N.getD j 0) ∧ wr = w.drewN q) (fun s0 _ _ => match s0 with | .slice _ k _ => k | _ => 0)
    case atStart => exact ⟨n, 0, 0, a, b, ca, cb, by omega, rfl, rfl, hca, hcb, HCM, HA, HB, Lib.hid (fun j hj => by omega), rfl⟩
    case round =>
      clear HA HB HCM
      obtain ⟨r, t, q, a1, b1, k1, l1, hrt, rfl, rfl, hrk, hrl, HCM, HA, HB, HJ, hwr⟩ := hrel
      by_cases h4 : 4 ≤ r
      · obtain ⟨s, rfl⟩ : ∃ s, r = s + 4 := ⟨r - 4, by omega⟩
        have h4i : (4 : Int) ≤ ((s + 4 : Nat) : Int) := by omega
        have hs4 : ¬ s + 4 < 4 := by omega
        have hs5 : 4 ≤ s + 4 := by omega
        obtain ⟨bu, ou, rfl, hbzbu, hcbu⟩ : ∃ b o, a1 = some ⟨b, o, none⟩ ∧ b < w.heap.size ∧ ∀ i (u : Value), (ic (M.drop (16 * t)))[i]? = some u → w.cell? ⟨b, o + i, none⟩ = some u := by
          rcases HA.out with h | ⟨b, o, h1, h2, h3⟩
          · have h9 := congrArg List.length h; rw [ic_length, List.length_drop, List.length_nil] at h9; have := HLM.out; omega
          · exact ⟨b, o, h1, h2, h3⟩
        obtain ⟨bv, ov, rfl, hbzbv, hcbv⟩ : ∃ b o, b1 = some ⟨b, o, none⟩ ∧ b < w.heap.size ∧ ∀ i (u : Value), (ic (N.drop (16 * t)))[i]? = some u → w.cell? ⟨b, o + i, none⟩ = some u := by
          rcases HB.out with h | ⟨b, o, h1, h2, h3⟩
          · have h9 := congrArg List.length h; rw [ic_length, List.length_drop, List.length_nil] at h9; have := HLN.out; omega
          · exact ⟨b, o, h1, h2, h3⟩
        have xc0 : wr.cell? ⟨bu, ou, none⟩ = some (.int .i64 (M.getD (16 * t + 0) 0)) := by rw [hwr]; exact hcbu 0 _ (drop_get (by have := HLM.out; omega))
        have xc1 : wr.cell? ⟨bu, ou + 1, none⟩ = some (.int .i64 (M.getD (16 * t + 1) 0)) := by rw [hwr]; exact hcbu 1 _ (drop_get (by have := HLM.out; omega))
        have xc2 : wr.cell? ⟨bu, ou + 2, none⟩ = some (.int .i64 (M.getD (16 * t + 2) 0)) := by rw [hwr]; exact hcbu 2 _ (drop_get (by have := HLM.out; omega))
        have xc3 : wr.cell? ⟨bu, ou + 3, none⟩ = some (.int .i64 (M.getD (16 * t + 3) 0)) := by rw [hwr]; exact hcbu 3 _ (drop_get (by have := HLM.out; omega))
        have xc4 : wr.cell? ⟨bu, ou + 4, none⟩ = some (.int .i64 (M.getD (16 * t + 4) 0)) := by rw [hwr]; exact hcbu 4 _ (drop_get (by have := HLM.out; omega))
        have xc5 : wr.cell? ⟨bu, ou + 5, none⟩ = some (.int .i64 (M.getD (16 * t + 5) 0)) := by rw [hwr]; exact hcbu 5 _ (drop_get (by have := HLM.out; omega))
        have xc6 : wr.cell? ⟨bu, ou + 6, none⟩ = some (.int .i64 (M.getD (16 * t + 6) 0)) := by rw [hwr]; exact hcbu 6 _ (drop_get (by have := HLM.out; omega))
        have xc7 : wr.cell? ⟨bu, ou + 7, none⟩ = some (.int .i64 (M.getD (16 * t + 7) 0)) := by rw [hwr]; exact hcbu 7 _ (drop_get (by have := HLM.out; omega))
        have xc8 : wr.cell? ⟨bu, ou + 8, none⟩ = some (.int .i64 (M.getD (16 * t + 8) 0)) := by rw [hwr]; exact hcbu 8 _ (drop_get (by have := HLM.out; omega))
        have xc9 : wr.cell? ⟨bu, ou + 9, none⟩ = some (.int .i64 (M.getD (16 * t + 9) 0)) := by rw [hwr]; exact hcbu 9 _ (drop_get (by have := HLM.out; omega))
        have xc10 : wr.cell? ⟨bu, ou + 10, none⟩ = some (.int .i64 (M.getD (16 * t + 10) 0)) := by rw [hwr]; exact hcbu 10 _ (drop_get (by have := HLM.out; omega))
        have xc11 : wr.cell? ⟨bu, ou + 11, none⟩ = some (.int .i64 (M.getD (16 * t + 11) 0)) := by rw [hwr]; exact hcbu 11 _ (drop_get (by have := HLM.out; omega))
        have xc12 : wr.cell? ⟨bu, ou + 12, none⟩ = some (.int .i64 (M.getD (16 * t + 12) 0)) := by rw [hwr]; exact hcbu 12 _ (drop_get (by have := HLM.out; omega))
        have xc13 : wr.cell? ⟨bu, ou + 13, none⟩ = some (.int .i64 (M.getD (16 * t + 13) 0)) := by rw [hwr]; exact hcbu 13 _ (drop_get (by have := HLM.out; omega))
        have xc14 : wr.cell? ⟨bu, ou + 14, none⟩ = some (.int .i64 (M.getD (16 * t + 14) 0)) := by rw [hwr]; exact hcbu 14 _ (drop_get (by have := HLM.out; omega))
        have xc15 : wr.cell? ⟨bu, ou + 15, none⟩ = some (.int .i64 (M.getD (16 * t + 15) 0)) := by rw [hwr]; exact hcbu 15 _ (drop_get (by have := HLM.out; omega))
        have yc0 : wr.cell? ⟨bv, ov, none⟩ = some (.int .i64 (N.getD (16 * t + 0) 0)) := by rw [hwr]; exact hcbv 0 _ (drop_get (by have := HLN.out; omega))
        have yc1 : wr.cell? ⟨bv, ov + 1, none⟩ = some (.int .i64 (N.getD (16 * t + 1) 0)) := by rw [hwr]; exact hcbv 1 _ (drop_get (by have := HLN.out; omega))
        have yc2 : wr.cell? ⟨bv, ov + 2, none⟩ = some (.int .i64 (N.getD (16 * t + 2) 0)) := by rw [hwr]; exact hcbv 2 _ (drop_get (by have := HLN.out; omega))
        have yc3 : wr.cell? ⟨bv, ov + 3, none⟩ = some (.int .i64 (N.getD (16 * t + 3) 0)) := by rw [hwr]; exact hcbv 3 _ (drop_get (by have := HLN.out; omega))
        have yc4 : wr.cell? ⟨bv, ov + 4, none⟩ = some (.int .i64 (N.getD (16 * t + 4) 0)) := by rw [hwr]; exact hcbv 4 _ (drop_get (by have := HLN.out; omega))
        have yc5 : wr.cell? ⟨bv, ov + 5, none⟩ = some (.int .i64 (N.getD (16 * t + 5) 0)) := by rw [hwr]; exact hcbv 5 _ (drop_get (by have := HLN.out; omega))
        have yc6 : wr.cell? ⟨bv, ov + 6, none⟩ = some (.int .i64 (N.getD (16 * t + 6) 0)) := by rw [hwr]; exact hcbv 6 _ (drop_get (by have := HLN.out; omega))
        have yc7 : wr.cell? ⟨bv, ov + 7, none⟩ = some (.int .i64 (N.getD (16 * t + 7) 0)) := by rw [hwr]; exact hcbv 7 _ (drop_get (by have := HLN.out; omega))
        have yc8 : wr.cell? ⟨bv, ov + 8, none⟩ = some (.int .i64 (N.getD (16 * t + 8) 0)) := by rw [hwr]; exact hcbv 8 _ (drop_get (by have := HLN.out; omega))
        have yc9 : wr.cell? ⟨bv, ov + 9, none⟩ = some (.int .i64 (N.getD (16 * t + 9) 0)) := by rw [hwr]; exact hcbv 9 _ (drop_get (by have := HLN.out; omega))
        have yc10 : wr.cell? ⟨bv, ov + 10, none⟩ = some (.int .i64 (N.getD (16 * t + 10) 0)) := by rw [hwr]; exact hcbv 10 _ (drop_get (by have := HLN.out; omega))
        have yc11 : wr.cell? ⟨bv, ov + 11, none⟩ = some (.int .i64 (N.getD (16 * t + 11) 0)) := by rw [hwr]; exact hcbv 11 _ (drop_get (by have := HLN.out; omega))
        have yc12 : wr.cell? ⟨bv, ov + 12, none⟩ = some (.int .i64 (N.getD (16 * t + 12) 0)) := by rw [hwr]; exact hcbv 12 _ (drop_get (by have := HLN.out; omega))
        have yc13 : wr.cell? ⟨bv, ov + 13, none⟩ = some (.int .i64 (N.getD (16 * t + 13) 0)) := by rw [hwr]; exact hcbv 13 _ (drop_get (by have := HLN.out; omega))
        have yc14 : wr.cell? ⟨bv, ov + 14, none⟩ = some (.int .i64 (N.getD (16 * t + 14) 0)) := by rw [hwr]; exact hcbv 14 _ (drop_get (by have := HLN.out; omega))
        have yc15 : wr.cell? ⟨bv, ov + 15, none⟩ = some (.int .i64 (N.getD (16 * t + 15) 0)) := by rw [hwr]; exact hcbv 15 _ (drop_get (by have := HLN.out; omega))
        obtain ⟨x0, hx0⟩ : ∃ z, M.getD (16 * t + 0) 0 = z := ⟨_, rfl⟩
        obtain ⟨y0, hy0⟩ : ∃ z, N.getD (16 * t + 0) 0 = z := ⟨_, rfl⟩
        rw [hx0] at xc0
        rw [hy0] at yc0
        have Hx0 := Lib.hid hx0
        have Hy0 := Lib.hid hy0
        clear hx0 hy0
        obtain ⟨x1, hx1⟩ : ∃ z, M.getD (16 * t + 1) 0 = z := ⟨_, rfl⟩
        obtain ⟨y1, hy1⟩ : ∃ z, N.getD (16 * t + 1) 0 = z := ⟨_, rfl⟩
        rw [hx1] at xc1
        rw [hy1] at yc1
        have Hx1 := Lib.hid hx1
        have Hy1 := Lib.hid hy1
        clear hx1 hy1
        obtain ⟨x2, hx2⟩ : ∃ z, M.getD (16 * t + 2) 0 = z := ⟨_, rfl⟩
        obtain ⟨y2, hy2⟩ : ∃ z, N.getD (16 * t + 2) 0 = z := ⟨_, rfl⟩
        rw [hx2] at xc2
        rw [hy2] at yc2
        have Hx2 := Lib.hid hx2
        have Hy2 := Lib.hid hy2
        clear hx2 hy2
        obtain ⟨x3, hx3⟩ : ∃ z, M.getD (16 * t + 3) 0 = z := ⟨_, rfl⟩
        obtain ⟨y3, hy3⟩ : ∃ z, N.getD (16 * t + 3) 0 = z := ⟨_, rfl⟩
        rw [hx3] at xc3
        rw [hy3] at yc3
        have Hx3 := Lib.hid hx3
        have Hy3 := Lib.hid hy3
        clear hx3 hy3
        obtain ⟨x4, hx4⟩ : ∃ z, M.getD (16 * t + 4) 0 = z := ⟨_, rfl⟩
        obtain ⟨y4, hy4⟩ : ∃ z, N.getD (16 * t + 4) 0 = z := ⟨_, rfl⟩
        rw [hx4] at xc4
        rw [hy4] at yc4
        have Hx4 := Lib.hid hx4
        have Hy4 := Lib.hid hy4
        clear hx4 hy4
        obtain ⟨x5, hx5⟩ : ∃ z, M.getD (16 * t + 5) 0 = z := ⟨_, rfl⟩
        obtain ⟨y5, hy5⟩ : ∃ z, N.getD (16 * t + 5) 0 = z := ⟨_, rfl⟩
        rw [hx5] at xc5
        rw [hy5] at yc5
        have Hx5 := Lib.hid hx5
        have Hy5 := Lib.hid hy5
        clear hx5 hy5
        obtain ⟨x6, hx6⟩ : ∃ z, M.getD (16 * t + 6) 0 = z := ⟨_, rfl⟩
        obtain ⟨y6, hy6⟩ : ∃ z, N.getD (16 * t + 6) 0 = z := ⟨_, rfl⟩
        rw [hx6] at xc6
        rw [hy6] at yc6
        have Hx6 := Lib.hid hx6
        have Hy6 := Lib.hid hy6
        clear hx6 hy6
        obtain ⟨x7, hx7⟩ : ∃ z, M.getD (16 * t + 7) 0 = z := ⟨_, rfl⟩
        obtain ⟨y7, hy7⟩ : ∃ z, N.getD (16 * t + 7) 0 = z := ⟨_, rfl⟩
        rw [hx7] at xc7
        rw [hy7] at yc7
        have Hx7 := Lib.hid hx7
        have Hy7 := Lib.hid hy7
        clear hx7 hy7
        obtain ⟨x8, hx8⟩ : ∃ z, M.getD (16 * t + 8) 0 = z := ⟨_, rfl⟩
        obtain ⟨y8, hy8⟩ : ∃ z, N.getD (16 * t + 8) 0 = z := ⟨_, rfl⟩
        rw [hx8] at xc8
        rw [hy8] at yc8
        have Hx8 := Lib.hid hx8
        have Hy8 := Lib.hid hy8
        clear hx8 hy8
        obtain ⟨x9, hx9⟩ : ∃ z, M.getD (16 * t + 9) 0 = z := ⟨_, rfl⟩
        obtain ⟨y9, hy9⟩ : ∃ z, N.getD (16 * t + 9) 0 = z := ⟨_, rfl⟩
        rw [hx9] at xc9
        rw [hy9] at yc9
        have Hx9 := Lib.hid hx9
        have Hy9 := Lib.hid hy9
        clear hx9 hy9
        obtain ⟨x10, hx10⟩ : ∃ z, M.getD (16 * t + 10) 0 = z := ⟨_, rfl⟩
        obtain ⟨y10, hy10⟩ : ∃ z, N.getD (16 * t + 10) 0 = z := ⟨_, rfl⟩
        rw [hx10] at xc10
        rw [hy10] at yc10
        have Hx10 := Lib.hid hx10
        have Hy10 := Lib.hid hy10
        clear hx10 hy10
        obtain ⟨x11, hx11⟩ : ∃ z, M.getD (16 * t + 11) 0 = z := ⟨_, rfl⟩
        obtain ⟨y11, hy11⟩ : ∃ z, N.getD (16 * t + 11) 0 = z := ⟨_, rfl⟩
        rw [hx11] at xc11
        rw [hy11] at yc11
        have Hx11 := Lib.hid hx11
        have Hy11 := Lib.hid hy11
        clear hx11 hy11
        obtain ⟨x12, hx12⟩ : ∃ z, M.getD (16 * t + 12) 0 = z := ⟨_, rfl⟩
        obtain ⟨y12, hy12⟩ : ∃ z, N.getD (16 * t + 12) 0 = z := ⟨_, rfl⟩
        rw [hx12] at xc12
        rw [hy12] at yc12
        have Hx12 := Lib.hid hx12
        have Hy12 := Lib.hid hy12
        clear hx12 hy12
        obtain ⟨x13, hx13⟩ : ∃ z, M.getD (16 * t + 13) 0 = z := ⟨_, rfl⟩
        obtain ⟨y13, hy13⟩ : ∃ z, N.getD (16 * t + 13) 0 = z := ⟨_, rfl⟩
        rw [hx13] at xc13
        rw [hy13] at yc13
        have Hx13 := Lib.hid hx13
        have Hy13 := Lib.hid hy13
        clear hx13 hy13
        obtain ⟨x14, hx14⟩ : ∃ z, M.getD (16 * t + 14) 0 = z := ⟨_, rfl⟩
        obtain ⟨y14, hy14⟩ : ∃ z, N.getD (16 * t + 14) 0 = z := ⟨_, rfl⟩
        rw [hx14] at xc14
        rw [hy14] at yc14
        have Hx14 := Lib.hid hx14
        have Hy14 := Lib.hid hy14
        clear hx14 hy14
        obtain ⟨x15, hx15⟩ : ∃ z, M.getD (16 * t + 15) 0 = z := ⟨_, rfl⟩
        obtain ⟨y15, hy15⟩ : ∃ z, N.getD (16 * t + 15) 0 = z := ⟨_, rfl⟩
        rw [hx15] at xc15
        rw [hy15] at yc15
        have Hx15 := Lib.hid hx15
        have Hy15 := Lib.hid hy15
        clear hx15 hy15
        have Hwr := Lib.hid hwr
        have Hcx := Lib.hid hcbu
        have Hcy := Lib.hid hcbv
        clear hwr hcbu hcbv
        obtain ⟨d, hq, hd⟩ := neq16_any x0 x1 x2 x3 x4 x5 x6 x7 x8 x9 x10 x11 x12 x13 x14 x15 y0 y1 y2 y3 y4 y5 y6 y7 y8 y9 y10 y11 y12 y13 y14 y15
        have Hd := Lib.hid hd
        clear hd
        go_wp2_with fail
        go_quiet (fail)
        clear hq xc0 xc1 xc2 xc3 xc4 xc5 xc6 xc7 xc8 xc9 xc10 xc11 xc12 xc13 xc14 xc15 yc0 yc1 yc2 yc3 yc4 yc5 yc6 yc7 yc8 yc9 yc10 yc11 yc12 yc13 yc14 yc15
        cases d
        rotate_left
        · have hvf : v = false := by
            rw [← HV.out]
            refine decide_eq_false fun h => ?_
            rcases Hd.out with ⟨h1, _⟩ | ⟨_, hor⟩
            · cases h1
            · simp only [← Hx0.out, ← Hy0.out, ← Hx1.out, ← Hy1.out, ← Hx2.out, ← Hy2.out, ← Hx3.out, ← Hy3.out, ← Hx4.out, ← Hy4.out, ← Hx5.out, ← Hy5.out, ← Hx6.out, ← Hy6.out, ← Hx7.out, ← Hy7.out, ← Hx8.out, ← Hy8.out, ← Hx9.out, ← Hy9.out, ← Hx10.out, ← Hy10.out, ← Hx11.out, ← Hy11.out, ← Hx12.out, ← Hy12.out, ← Hx13.out, ← Hy13.out, ← Hx14.out, ← Hy14.out, ← Hx15.out, ← Hy15.out, h, not_true_eq_false, or_self] at hor
          have HVF := Lib.hid hvf
          clear hvf
          go_wp2_with fail
          go_ret
          rw [HVF.out]
          exact ⟨rfl, by rw [Hwr.out]; exact beld (beld (Below.refl _ _) _) _⟩
        · go_wp2_with fail
          go_quiet (fail)
          go_wp2_with fail
          go_roundw
          case rel =>
            rcases Hd.out with ⟨_, e0, e1, e2, e3, e4, e5, e6, e7, e8, e9, e10, e11, e12, e13, e14, e15⟩ | ⟨h9, _⟩
            · refine ⟨s, t + 1, _, _, _, k1 - 4, l1 - 4, by omega, rfl, rfl, by omega, by omega, Lib.hid ⟨by have := HCM.out.1; omega, by have := HCM.out.2; omega⟩, Lib.hid (row_next HLM.out hrt hrk hbzbu Hcx.out), Lib.hid (row_next HLN.out hrt hrl hbzbv Hcy.out), Lib.hid (fun j hj => ?_), by rw [Hwr.out, World.drewN_drewN, World.drewN_drewN]⟩
              by_cases hj2 : j < 16 * t
              · exact HJ.out j hj2
              obtain ⟨i, rfl⟩ : ∃ i, j = 16 * t + i := ⟨j - 16 * t, by omega⟩
              by_cases k0_ : i = 0
              · subst k0_; rw [Hx0.out, Hy0.out]; exact e0
              by_cases k1_ : i = 1
              · subst k1_; rw [Hx1.out, Hy1.out]; exact e1
              by_cases k2_ : i = 2
              · subst k2_; rw [Hx2.out, Hy2.out]; exact e2
              by_cases k3_ : i = 3
              · subst k3_; rw [Hx3.out, Hy3.out]; exact e3
              by_cases k4_ : i = 4
              · subst k4_; rw [Hx4.out, Hy4.out]; exact e4
              by_cases k5_ : i = 5
              · subst k5_; rw [Hx5.out, Hy5.out]; exact e5
              by_cases k6_ : i = 6
              · subst k6_; rw [Hx6.out, Hy6.out]; exact e6
              by_cases k7_ : i = 7
              · subst k7_; rw [Hx7.out, Hy7.out]; exact e7
              by_cases k8_ : i = 8
              · subst k8_; rw [Hx8.out, Hy8.out]; exact e8
              by_cases k9_ : i = 9
              · subst k9_; rw [Hx9.out, Hy9.out]; exact e9
              by_cases k10_ : i = 10
              · subst k10_; rw [Hx10.out, Hy10.out]; exact e10
              by_cases k11_ : i = 11
              · subst k11_; rw [Hx11.out, Hy11.out]; exact e11
              by_cases k12_ : i = 12
              · subst k12_; rw [Hx12.out, Hy12.out]; exact e12
              by_cases k13_ : i = 13
              · subst k13_; rw [Hx13.out, Hy13.out]; exact e13
              by_cases k14_ : i = 14
              · subst k14_; rw [Hx14.out, Hy14.out]; exact e14
              by_cases k15_ : i = 15
              · subst k15_; rw [Hx15.out, Hy15.out]; exact e15
              omega
            · cases h9
          case measure => first | (simp; done) | (simp; omega)
      · have h4i : ¬ (4 : Int) ≤ (r : Int) := by omega
        have hrm : (r : Int) ≤ 4 := by omega
        go_wp2_with fail
        go_loopw [28] (fun iv W2 => ∃ k : Nat, k ≤ r ∧ iv = .int .i64 k ∧ Hid (∀ j, j < 16 * t + k * 4 → M.getD j 0 = N.getD j 0) ∧ Hid (Below w.heap.size w W2)) (fun iv _ => r - (intOf iv).toNat)
        case atStart => exact ⟨0, Nat.zero_le _, rfl, Lib.hid (fun j hj => HJ.out j (by omega)), Lib.hid (by first | (rw [hwr]; exact beld (Below.refl _ _) _) | exact beld (Below.refl _ _) _)⟩
        case round =>
          clear HJ
          obtain ⟨k, hk, rfl, HJ, HBk⟩ := hrel
          have hk0 : (0 : Int) ≤ (k : Int) := by omega
          by_cases hlt : k < r
          · have hk1 : (k : Int) < (r : Int) := by omega
            obtain ⟨bu, ou, rfl, hbzbu, hcbu⟩ : ∃ b o, a1 = some ⟨b, o, none⟩ ∧ b < w.heap.size ∧ ∀ i (u : Value), (ic (M.drop (16 * t)))[i]? = some u → w.cell? ⟨b, o + i, none⟩ = some u := by
              rcases HA.out with h | ⟨b, o, h1, h2, h3⟩
              · have h9 := congrArg List.length h; rw [ic_length, List.length_drop, List.length_nil] at h9; have := HLM.out; omega
              · exact ⟨b, o, h1, h2, h3⟩
            obtain ⟨bv, ov, rfl, hbzbv, hcbv⟩ : ∃ b o, b1 = some ⟨b, o, none⟩ ∧ b < w.heap.size ∧ ∀ i (u : Value), (ic (N.drop (16 * t)))[i]? = some u → w.cell? ⟨b, o + i, none⟩ = some u := by
              rcases HB.out with h | ⟨b, o, h1, h2, h3⟩
              · have h9 := congrArg List.length h; rw [ic_length, List.length_drop, List.length_nil] at h9; have := HLN.out; omega
              · exact ⟨b, o, h1, h2, h3⟩
            have xc0 : wr.cell? ⟨bu, ou + k * 4, none⟩ = some (.int .i64 (M.getD (16 * t + (k * 4 + 0)) 0)) := by rw [HBk.out.cell (p := ⟨bu, ou + k * 4, none⟩) hbzbu]; exact hcbu (k * 4 + 0) _ (drop_get (by have := HLM.out; omega))
            have xc1 : wr.cell? ⟨bu, ou + k * 4 + 1, none⟩ = some (.int .i64 (M.getD (16 * t + (k * 4 + 1)) 0)) := by rw [HBk.out.cell (p := ⟨bu, ou + k * 4 + 1, none⟩) hbzbu]; exact hcbu (k * 4 + 1) _ (drop_get (by have := HLM.out; omega))
            have xc2 : wr.cell? ⟨bu, ou + k * 4 + 2, none⟩ = some (.int .i64 (M.getD (16 * t + (k * 4 + 2)) 0)) := by rw [HBk.out.cell (p := ⟨bu, ou + k * 4 + 2, none⟩) hbzbu]; exact hcbu (k * 4 + 2) _ (drop_get (by have := HLM.out; omega))
            have xc3 : wr.cell? ⟨bu, ou + k * 4 + 3, none⟩ = some (.int .i64 (M.getD (16 * t + (k * 4 + 3)) 0)) := by rw [HBk.out.cell (p := ⟨bu, ou + k * 4 + 3, none⟩) hbzbu]; exact hcbu (k * 4 + 3) _ (drop_get (by have := HLM.out; omega))
            have yc0 : wr.cell? ⟨bv, ov + k * 4, none⟩ = some (.int .i64 (N.getD (16 * t + (k * 4 + 0)) 0)) := by rw [HBk.out.cell (p := ⟨bv, ov + k * 4, none⟩) hbzbv]; exact hcbv (k * 4 + 0) _ (drop_get (by have := HLN.out; omega))
            have yc1 : wr.cell? ⟨bv, ov + k * 4 + 1, none⟩ = some (.int .i64 (N.getD (16 * t + (k * 4 + 1)) 0)) := by rw [HBk.out.cell (p := ⟨bv, ov + k * 4 + 1, none⟩) hbzbv]; exact hcbv (k * 4 + 1) _ (drop_get (by have := HLN.out; omega))
            have yc2 : wr.cell? ⟨bv, ov + k * 4 + 2, none⟩ = some (.int .i64 (N.getD (16 * t + (k * 4 + 2)) 0)) := by rw [HBk.out.cell (p := ⟨bv, ov + k * 4 + 2, none⟩) hbzbv]; exact hcbv (k * 4 + 2) _ (drop_get (by have := HLN.out; omega))
            have yc3 : wr.cell? ⟨bv, ov + k * 4 + 3, none⟩ = some (.int .i64 (N.getD (16 * t + (k * 4 + 3)) 0)) := by rw [HBk.out.cell (p := ⟨bv, ov + k * 4 + 3, none⟩) hbzbv]; exact hcbv (k * 4 + 3) _ (drop_get (by have := HLN.out; omega))
            obtain ⟨x0, hx0⟩ : ∃ z, M.getD (16 * t + (k * 4 + 0)) 0 = z := ⟨_, rfl⟩
            obtain ⟨y0, hy0⟩ : ∃ z, N.getD (16 * t + (k * 4 + 0)) 0 = z := ⟨_, rfl⟩
            rw [hx0] at xc0
            rw [hy0] at yc0
            have Hx0 := Lib.hid hx0
            have Hy0 := Lib.hid hy0
            clear hx0 hy0
            obtain ⟨x1, hx1⟩ : ∃ z, M.getD (16 * t + (k * 4 + 1)) 0 = z := ⟨_, rfl⟩
            obtain ⟨y1, hy1⟩ : ∃ z, N.getD (16 * t + (k * 4 + 1)) 0 = z := ⟨_, rfl⟩
            rw [hx1] at xc1
            rw [hy1] at yc1
            have Hx1 := Lib.hid hx1
            have Hy1 := Lib.hid hy1
            clear hx1 hy1
            obtain ⟨x2, hx2⟩ : ∃ z, M.getD (16 * t + (k * 4 + 2)) 0 = z := ⟨_, rfl⟩
            obtain ⟨y2, hy2⟩ : ∃ z, N.getD (16 * t + (k * 4 + 2)) 0 = z := ⟨_, rfl⟩
            rw [hx2] at xc2
            rw [hy2] at yc2
            have Hx2 := Lib.hid hx2
            have Hy2 := Lib.hid hy2
            clear hx2 hy2
            obtain ⟨x3, hx3⟩ : ∃ z, M.getD (16 * t + (k * 4 + 3)) 0 = z := ⟨_, rfl⟩
            obtain ⟨y3, hy3⟩ : ∃ z, N.getD (16 * t + (k * 4 + 3)) 0 = z := ⟨_, rfl⟩
            rw [hx3] at xc3
            rw [hy3] at yc3
            have Hx3 := Lib.hid hx3
            have Hy3 := Lib.hid hy3
            clear hx3 hy3
            clear hcbu hcbv
            obtain ⟨d, hq, hd⟩ := neq4_any x0 x1 x2 x3 y0 y1 y2 y3
            have Hd := Lib.hid hd
            clear hd
            have hbu9 := HBk.out.size
            have hne1 : ¬ wr.heap.size = bv := by omega
            have hne2 : ¬ bv = wr.heap.size := by omega
            have hne3 : ¬ wr.heap.size = bu := by omega
            have hne4 : ¬ bu = wr.heap.size := by omega
            have hlt9 : bv < wr.heap.size := by omega
            have hlt8 : bu < wr.heap.size := by omega
            have yd0 : (wr.alloc (.cells #[.int .i64 x0, .int .i64 x1, .int .i64 x2, .int .i64 x3] 42)).cell? ⟨bv, ov + k * 4, none⟩ = some (.int .i64 y0) := by rw [((Below.refl wr.heap.size wr).alloc (Nat.le_refl _) _).cell (p := ⟨bv, ov + k * 4, none⟩) hlt9]; exact yc0
            have yd1 : (wr.alloc (.cells #[.int .i64 x0, .int .i64 x1, .int .i64 x2, .int .i64 x3] 42)).cell? ⟨bv, ov + k * 4 + 1, none⟩ = some (.int .i64 y1) := by rw [((Below.refl wr.heap.size wr).alloc (Nat.le_refl _) _).cell (p := ⟨bv, ov + k * 4 + 1, none⟩) hlt9]; exact yc1
            have yd2 : (wr.alloc (.cells #[.int .i64 x0, .int .i64 x1, .int .i64 x2, .int .i64 x3] 42)).cell? ⟨bv, ov + k * 4 + 2, none⟩ = some (.int .i64 y2) := by rw [((Below.refl wr.heap.size wr).alloc (Nat.le_refl _) _).cell (p := ⟨bv, ov + k * 4 + 2, none⟩) hlt9]; exact yc2
            have yd3 : (wr.alloc (.cells #[.int .i64 x0, .int .i64 x1, .int .i64 x2, .int .i64 x3] 42)).cell? ⟨bv, ov + k * 4 + 3, none⟩ = some (.int .i64 y3) := by rw [((Below.refl wr.heap.size wr).alloc (Nat.le_refl _) _).cell (p := ⟨bv, ov + k * 4 + 3, none⟩) hlt9]; exact yc3
            go_wp2_with fail
            go_quiet (fail)
            clear hq
            cases d
            rotate_left
            · have hvf : v = false := by
                rw [← HV.out]
                refine decide_eq_false fun h => ?_
                rcases Hd.out with ⟨h1, _⟩ | ⟨_, hor⟩
                · cases h1
                · simp only [← Hx0.out, ← Hy0.out, ← Hx1.out, ← Hy1.out, ← Hx2.out, ← Hy2.out, ← Hx3.out, ← Hy3.out, h, not_true_eq_false, or_self] at hor
              have HVF := Lib.hid hvf
              clear hvf
              go_wp2_with fail
              go_ret
              rw [HVF.out]
              exact ⟨rfl, (by repeat (first | with_reducible exact HBk.out | with_reducible refine beld ?_ _ | (with_reducible refine Below.alloc ?_ ?_ _; rotate_left; exact (by first | (simp; done) | (simp; omega) | omega)) | (with_reducible refine Below.setCell ?_ ?_ _; rotate_left; exact (by first | (simp; done) | (simp; omega) | omega))))⟩
            · go_wp2_with fail
              go_roundw
              case rel =>
                rcases Hd.out with ⟨_, e0, e1, e2, e3⟩ | ⟨h9, _⟩
                · refine ⟨k + 1, by omega, by go_num, Lib.hid (fun j hj => ?_), Lib.hid (by repeat (first | with_reducible exact HBk.out | with_reducible refine beld ?_ _ | (with_reducible refine Below.alloc ?_ ?_ _; rotate_left; exact (by first | (simp; done) | (simp; omega) | omega)) | (with_reducible refine Below.setCell ?_ ?_ _; rotate_left; exact (by first | (simp; done) | (simp; omega) | omega))))⟩
                  by_cases hj2 : j < 16 * t + k * 4
                  · exact HJ.out j hj2
                  obtain ⟨i, rfl⟩ : ∃ i, j = 16 * t + (k * 4 + i) := ⟨j - 16 * t - k * 4, by omega⟩
                  by_cases k0_ : i = 0
                  · subst k0_; rw [Hx0.out, Hy0.out]; exact e0
                  by_cases k1_ : i = 1
                  · subst k1_; rw [Hx1.out, Hy1.out]; exact e1
                  by_cases k2_ : i = 2
                  · subst k2_; rw [Hx2.out, Hy2.out]; exact e2
                  by_cases k3_ : i = 3
                  · subst k3_; rw [Hx3.out, Hy3.out]; exact e3
                  omega
                · cases h9
              case measure => simp [intOf]; omega
          · obtain rfl : k = r := by omega
            have hvf : v = true := by rw [← HV.out]; exact eq_of_getD (by rw [HLM.out, HLN.out]) (fun j hj => HJ.out j (by have := HLM.out; omega))
            have HVF := Lib.hid hvf
            clear hvf
            go_wp2_with fail
            go_ret
            rw [HVF.out]
            exact ⟨rfl, HBk.out⟩
  · have hvf : v = false := by rw [← HV.out]; exact decide_eq_false fun h => hne (by have h9 := congrArg List.length h; omega)
    have HVF := Lib.hid hvf
    clear hvf
    have hne' : ¬ ((n : Nat) : Int) = ((m : Nat) : Int) := by omega
    go_enter Try.func63, Try.ntmps63
    go_wp2_with fail
    go_ret
    rw [HVF.out]
    exact ⟨rfl, Below.refl _ _⟩

end Go.Proofs.Ytljehplkdofhpaa
