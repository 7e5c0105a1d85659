/- The nodes for which something is so. -/
import Derived.Test.YtnmmhaadkclogaaOrdI
import Derived.Test.YtnmmhaadkclogaaRvQ
import Derived.Deep.Cut
namespace Go.Proofs.Ytnmmhaadkclogaa
open Go.RowKit
set_option linter.unusedVariables false
set_option linter.unusedSimpArgs false
set_option maxRecDepth 100000
attribute [local irreducible] wpV wpList Code.wp
def pickN (q : Nat → Bool) (k : Nat) : List Nat := (List.range k).filter q
theorem pickN_hit {q : Nat → Bool} {k : Nat} (h : q k = true) : pickN q (k + 1) = pickN q k ++ [k] := by
  unfold pickN; rw [List.range_succ, List.filter_append]; simp [h]
theorem pickN_miss {q : Nat → Bool} {k : Nat} (h : q k = false) : pickN q (k + 1) = pickN q k := by
  unfold pickN; rw [List.range_succ, List.filter_append]; simp [h]
theorem pickN_le (q : Nat → Bool) (k : Nat) : (pickN q k).length ≤ k := by
  have h : (pickN q k).length ≤ (List.range k).length := List.length_filter_le _ _
  rwa [List.length_range] at h
def OwnL (w : World) (B : Nat) (a : Option Addr) (c : Nat) (zs : List Int) (w' : World) : Prop := w'.ownsRow B 2 1 (.slice a zs.length c) zs.length (ic zs)
set_option maxHeartbeats 4000000 in
theorem nodesOf_any (f : FuncId) (lb : Array Value) (q : Nat → Bool) (eg : ∀ args w, (callFunc f args).run Try.prog w = .ok (.enter f args) w) (a0 : Option Addr) (n c0 : Nat) (v1 v2 : Value) (w : World) (hq : ∀ k, k < n → ∀ W, Below w.heap.size w W → Calls Try.prog f (#[.int .i64 (k : Int)] ++ lb) W (SayB (q k) W)) (hn : n ≤ 12) :
    Calls Try.prog 73 #[.agg #[.slice a0 n c0, v1, v2], .func (.func f) #[] lb] w fun e w' => ∃ a c, e = .returned (.slice a (ints (pickN q n)).length c) ∧ w'.ownsRow w.heap.size 2 1 (.slice a (ints (pickN q n)).length c) (ints (pickN q n)).length (ic (ints (pickN q n))) ∧ Below w.heap.size w w' := by
  have Hq := Lib.hid hq
  obtain ⟨B, hB⟩ : ∃ B, w.heap.size = B := ⟨_, rfl⟩
  have HB := Lib.hid hB
  clear hq hB
  go_enter Try.func73, Try.ntmps73
  go_wp2_with fail
  go_loopw [5, 6, 10] (fun ov jv iv wr => ∃ k : Nat, ∃ a c, k ≤ n ∧ iv = .int .i64 (k : Int) ∧ ov = .slice a (ints (pickN q k)).length c ∧ Hid (wr.ownsRow B 2 1 (.slice a (ints (pickN q k)).length c) (ints (pickN q k)).length (ic (ints (pickN q k)))) ∧ Hid (Below B w wr)) (fun _ _ iv _ => n - (intOf iv).toNat)
  case atStart => exact ⟨0, none, 0, Nat.zero_le _, rfl, rfl, Lib.hid (World.ownsRow_nil _ _ _ _), Lib.hid (by rw [← HB.out]; exact bel1 _ _)⟩
  case round =>
    obtain ⟨k, a, c, hk, rfl, rfl, HO, HW⟩ := hrel
    have hk0 : (0 : Int) ≤ (k : Int) := by omega
    obtain ⟨L, hL⟩ : ∃ L, (ints (pickN q k)).length = L := ⟨_, rfl⟩
    rw [hL] at HO
    rw [hL]
    have HL := Lib.hid hL
    have hLk : L ≤ k := by rw [← hL, ints_length]; exact pickN_le q k
    clear hL
    by_cases hlt : k < n
    · have hk1 : (k : Int) < (n : Int) := by omega
      have HQ := Lib.hid (Hq.out k hlt wr (by rw [HB.out]; exact HW.out))
      go_wp2_with fail
      refine HQ.out.mono ?_
      rintro e w' ⟨bb, hbb, rfl, hw⟩
      have HW' : Hid (Below B w w') := Lib.hid (HW.out.trans (hw.mono (by rw [← HB.out]; have := HW.out.size; rw [HB.out] at this ⊢; exact this)))
      have HO' : Hid (w'.ownsRow B 2 1 (.slice a L c) L (ic (ints (pickN q k)))) := Lib.hid (owns_below HO.out hw (Nat.le_refl _))
      have Hbb := Lib.hid hbb
      clear hw HQ hbb HO HW
      cases bb
      · go_wp2_with fail
        go_roundw
        case rel => exact ⟨k + 1, a, c, by omega, by go_num, by rw [pickN_miss Hbb.out, HL.out], Lib.hid (by rw [pickN_miss Hbb.out, HL.out]; exact HO'.out), HW'⟩
        case measure => simp [intOf]; omega
      · have hsz : B ≤ w'.heap.size := by have h9 := HW'.out.size; rw [HB.out] at h9; exact h9
        have HOa := Lib.hid (HO'.out.alloc (.cells #[.int .i64 (k : Int)] 2))
        have HWa : Hid (Below B w (w'.alloc (.cells #[.int .i64 (k : Int)] 2))) := Lib.hid (HW'.out.alloc hsz _)
        have Hcell := Lib.hid (show (w'.alloc (.cells #[.int .i64 (k : Int)] 2)).cell? ⟨w'.heap.size, 0, none⟩ = some (.int .i64 (k : Int)) by simp [go_sem])
        have Hlo := Lib.hid (show B ≤ (w'.alloc (.cells #[.int .i64 (k : Int)] 2)).heap.size by simp; omega)
        have hkl : L ≤ 1048576 := by omega
        go_wp2_with (at_builtin; refine pushZ rfl rfl _ _ rfl rfl HOa.out w'.heap.size _ (k : Int) rfl Hcell.out hkl Hlo.out ?_)
        intro gn cn w4 hrow hgrow hgn hgl
        rw [← ints_push, ← pickN_hit Hbb.out] at hrow
        have hLn : (ints (pickN q (k + 1))).length = L + 1 := by rw [pickN_hit Hbb.out, ints_push, List.length_append, HL.out]; rfl
        have HO4 := Lib.hid hrow
        have HLn := Lib.hid hLn
        have HW4 : Hid (Below B w w4) := Lib.hid (HWa.out.grown hgrow (by simp; omega) (fun j hj => (HO'.out.lt j hj).1))
        clear hrow hgrow hgn hgl hLn HO' HOa HW' HWa Hcell Hlo
        go_wp2_with fail
        go_roundw
        case rel => exact ⟨k + 1, _, cn, by omega, by go_num, by rw [HLn.out], Lib.hid (by rw [HLn.out]; exact HO4.out), HW4⟩
        case measure => simp [intOf]; omega
    · obtain rfl : n = k := by omega
      go_wp2_with fail
      go_ret
      exact ⟨a, c, by rw [HL.out]; rfl, by rw [HL.out, HB.out]; exact HO.out, by rw [HB.out]; exact HW.out⟩
end Go.Proofs.Ytnmmhaadkclogaa
