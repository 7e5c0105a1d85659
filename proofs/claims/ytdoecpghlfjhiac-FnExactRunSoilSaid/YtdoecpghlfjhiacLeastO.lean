/- The least of some numbers: the program. -/
import Derived.Test.YtdoecpghlfjhiacMinO
import Derived.Test.YtdoecpghlfjhiacRowF
import Derived.IntWalk
namespace Go.Proofs.Ytdoecpghlfjhiac
open Go.RowKit Go.Proofs
set_option linter.unusedVariables false
set_option maxRecDepth 100000
set_option linter.unusedSimpArgs false

theorem foldl_take_succ (YS : List (Option Nat)) (X : Option Nat) (k : Nat) (h : k < YS.length) : (YS.take (k + 1)).foldl minO X = minO ((YS.take k).foldl minO X) (YS.getD k none) := by
  rw [List.take_succ_eq_append_getElem h, List.foldl_append, List.getD_eq_getElem?_getD, List.getElem?_eq_getElem h]
  rfl

set_option maxHeartbeats 2000000 in
theorem leastOf_o {X : Option Nat} {x : Nat} (a : Option Addr) (cap : Nat) (zs : List Nat) (YS : List (Option Nat)) (w : World) (hx : Is32 X x) (hn : YS.length = zs.length) (hY : ∀ i, i < zs.length → Is32 (YS.getD i none) (zs.getD i 0)) (h : RowF .f32 w a zs) (hl : zs.length ≤ 1048576) :
    Calls Try.prog 158 #[.float .f32 x, .slice a zs.length cap] w (NumS (YS.foldl minO X) w) := by
  have Hc := Lib.hid h.cells
  have HY := Lib.hid hY
  have Hx := Lib.hid hx
  clear h hY
  obtain ⟨len, hlen⟩ : ∃ len, zs.length = len := ⟨_, rfl⟩
  rw [hlen] at hl hn HY ⊢
  have Hlen := Lib.hid hlen
  have Hn := Lib.hid hn
  clear hlen hn
  go_enter Try.func158, Try.ntmps158
  go_wp2_with fail
  go_loop [5, 11] (fun v i => ∃ k y : Nat, k ≤ len ∧ i = .int .i64 k ∧ v = .float .f32 y ∧ Is32 ((YS.take k).foldl minO X) y) (fun _ i => len - (intOf i).toNat)
  case atStart => exact ⟨0, x, Nat.zero_le _, rfl, rfl, hx⟩
  case round =>
    obtain ⟨k, y, hk, rfl, rfl, hy⟩ := hrel
    clear hx
    by_cases hlt : k < len
    · obtain ⟨b, off, rfl, hc1⟩ := Hc.out k (by rw [Hlen.out]; exact hlt)
      have hz := HY.out k hlt
      have Hs := Lib.hid (foldl_take_succ YS X k (by rw [Hn.out]; exact hlt))
      obtain ⟨z, hzz⟩ : ∃ z, zs.getD k 0 = z := ⟨_, rfl⟩
      rw [hzz] at hc1 hz
      clear hzz
      generalize (YS.take k).foldl minO X = P at *
      generalize YS.getD k none = Y at *
      have hk0 : (0 : Int) ≤ (k : Int) := by omega
      have hk1 : (k : Int) < (len : Int) := by omega
      go_wp2_with (first | ((with_reducible refine wpList_bin ?_); refine wpList_c32 rfl _ _ _ _ _ rfl rfl rfl (by decide) (by first | assumption | exact Is32.c (by decide)) (by first | assumption | exact Is32.c (by decide)) ?_; intro bb hbb; cases bb))
      · have H2 : Hid (minO P Y = P) := Lib.hid (by unfold minO; rw [hbb]; rfl)
        go_round
        case rel => exact ⟨k + 1, y, by omega, by go_num, rfl, by rw [Hs.out, H2.out]; exact hy⟩
        case measure => simp [intOf]; omega
      · have H2 : Hid (minO P Y = Y) := Lib.hid (by unfold minO; rw [hbb]; rfl)
        go_round
        case rel => exact ⟨k + 1, z, by omega, by go_num, rfl, by rw [Hs.out, H2.out]; exact hz⟩
        case measure => simp [intOf]; omega
    · obtain rfl : k = len := by omega
      go_wp2_with fail
      go_ret
      rw [List.take_of_length_le (by rw [Hn.out]; exact Nat.le_refl _)] at hy
      exact ⟨y, rfl, hy, rfl⟩

theorem leastOf_b {X : Option Nat} {x : Nat} (a : Option Addr) (cap : Nat) (zs : List Nat) (YS : List (Option Nat)) (w : World) (hx : Is32 X x) (hn : YS.length = zs.length) (hY : ∀ i, i < zs.length → Is32 (YS.getD i none) (zs.getD i 0)) (h : RowF .f32 w a zs) (hl : zs.length ≤ 1048576) :
    Calls Try.prog 158 #[.float .f32 x, .slice a zs.length cap] w (NumB (YS.foldl minO X) w) :=
  (leastOf_o a cap zs YS w hx hn hY h hl).mono fun _ _ ⟨r, h1, h2, h3⟩ => ⟨r, h1, h2, h3 ▸ Below.refl _ _⟩
theorem row1 (w : World) (b x : Nat) (hb : b < w.heap.size) (h0 : w.cell? ⟨b, 0, none⟩ = some (.float .f32 x)) : RowF .f32 w (some ⟨b, 0, none⟩) [x] :=
  .inr ⟨b, 0, rfl, hb, fun i hi => by
    obtain rfl : i = 0 := by simp at hi; omega
    exact h0⟩
theorem row2 (w : World) (b x y : Nat) (hb : b < w.heap.size) (h0 : w.cell? ⟨b, 0, none⟩ = some (.float .f32 x)) (h1 : w.cell? ⟨b, 1, none⟩ = some (.float .f32 y)) : RowF .f32 w (some ⟨b, 0, none⟩) [x, y] :=
  .inr ⟨b, 0, rfl, hb, fun i hi => by
    simp only [List.length_cons, List.length_nil] at hi
    rcases i with _ | _ | i
    · exact h0
    · exact h1
    · omega⟩

end Go.Proofs.Ytdoecpghlfjhiac
