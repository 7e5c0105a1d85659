/- Buckets: clones, counts, what is finite. -/
import Derived.Test.YtfdcfalkidcdnabBktM
import Derived.Test.YtfdcfalkidcdnabGrow
import Derived.Test.YtfdcfalkidcdnabAllOf
namespace Go.Proofs.Ytfdcfalkidcdnab
open Go.RowKit
set_option linter.unusedVariables false
set_option linter.unusedSimpArgs false
set_option maxRecDepth 100000
attribute [local irreducible] wpV wpList Code.wp

set_option maxHeartbeats 1000000 in
theorem clone_f (a : Option Addr) (cap : Nat) (zs : List Nat) (w : World) (h : RowF .f32 w a zs) (hl : zs.length ≤ 1048576) (h0 : 0 < zs.length) :
    Calls Try.prog 78 #[.slice a zs.length cap] w fun e w' => ∃ g c, e = .returned (.slice (some ⟨g, 0, none⟩) zs.length c) ∧ RowO w' w.heap.size (.slice (some ⟨g, 0, none⟩) zs.length c) zs ∧ Below w.heap.size w w' := by
  rcases h with rfl | ⟨b, off, rfl, hb, hc⟩
  · simp at h0
  · have hc2 : ∀ i, i < zs.length → (w.alloc (.cells #[] 22)).cell? ⟨b, off + i, none⟩ = some (.float .f32 (zs.getD i 0)) := fun i hi => by
      rw [(bel1 w _).cell (p := ⟨b, off + i, none⟩) hb]; exact hc i hi
    have HC := Lib.hid hc2
    have HR : Hid (RowO (w.alloc (.cells #[] 22)) w.heap.size (.slice (some ⟨w.heap.size, 0, none⟩) 0 0) []) := Lib.hid (World.ownsRow_lit (base := w.heap.size) (e := 22) (size := 1) w #[] 0 (Nat.le_refl _) (by simp [maxLen]) rfl)
    obtain ⟨n, hn⟩ : ∃ n, zs.length = n := ⟨_, rfl⟩
    have Hn := Lib.hid hn
    have H0 := Lib.hid h0
    have Hl := Lib.hid hl
    rw [hn]
    clear hc hc2 hn h0 hl
    go_enter Try.func78, Try.ntmps78
    have hq : ∀ W : World, Sem.run Try.prog (binOp BinOp.eql 25 (Value.slice (some { block := b, off := off }) n cap) (Value.slice none 0 0)) W = .ok (.bool false) W := fun W => by first | rfl | simp [binOp, go_sem]
    go_wp2_with (at_builtin; refine push_all rfl rfl _ _ rfl (ys := zs) rfl HR.out b off _ (by rw [Hn.out]; rfl) HC.out H0.out (by rw [List.length_nil, Nat.zero_add]; exact Hl.out) (by simp) ?_)
    intro g9 c9 w9 hr hp
    have HB := Lib.hid (Below.pushed (bel1 w _) hp HR.out (Nat.le_refl _) (by simp))
    (try simp only [List.nil_append, List.length_nil, Nat.zero_add] at hr)
    (try simp only [List.length_nil, Nat.zero_add])
    (try rw [Hn.out] at hr)
    (try rw [Hn.out])
    have Hr := Lib.hid hr
    clear hr hp
    go_wp2_with fail
    go_ret
    exact ⟨g9, c9, rfl, Hr.out, HB.out⟩
set_option maxHeartbeats 1000000 in
theorem bucketCount_any (n : Int) (w : World) : Calls Try.prog 74 #[.int .i64 n] w (SayS (decide (1 ≤ n) && decide (n ≤ 8)) w) := by
  by_cases h1 : 1 ≤ n
  · by_cases h2 : n ≤ 8
    · go_enter Try.func74, Try.ntmps74
      go_wp2
      go_ret
      exact ⟨_, by simp [h1, h2], rfl, rfl⟩
    · have h3 : ¬ n ≤ 8 := h2
      go_enter Try.func74, Try.ntmps74
      go_wp2
      go_ret
      exact ⟨_, by simp [h1, h2], rfl, rfl⟩
  · have h3 : ¬ 1 ≤ n := h1
    go_enter Try.func74, Try.ntmps74
    go_wp2
    go_ret
    exact ⟨_, by rw [decide_eq_false (by omega), Bool.false_and], rfl, rfl⟩
theorem all_take_f (zs : List Nat) (q : Nat → Bool) (k : Nat) (h : k < zs.length) (hk : (zs.take k).all q = true) (hf : q (zs.getD k 0) = true) : (zs.take (k + 1)).all q = true := all_take_b zs q k h hk hf
set_option maxHeartbeats 1000000 in
theorem l02Fin_f (a : Option Addr) (cap : Nat) (zs : List Nat) (w : World) (h : RowF .f32 w a zs) (hl : zs.length ≤ 1048576) :
    Calls Try.prog 70 #[.slice a zs.length cap] w (SayQ (zs.all fin32) w) := by
  have Hc := Lib.hid h.cells
  clear h
  obtain ⟨len, hlen⟩ : ∃ len, zs.length = len := ⟨_, rfl⟩
  rw [hlen] at hl ⊢
  have Hlen := Lib.hid hlen
  clear hlen
  go_enter Try.func70, Try.ntmps70
  go_wp2_with fail
  go_loopw [3] (fun i wr => ∃ k n : Nat, k ≤ len ∧ i = .int .i64 k ∧ (zs.take k).all fin32 = true ∧ wr = w.drewN n) (fun i _ => len - (intOf i).toNat)
  case atStart => exact ⟨0, 0, Nat.zero_le _, rfl, rfl, rfl⟩
  case round =>
    obtain ⟨k, n, hk, rfl, hall, rfl⟩ := hrel
    have Hall := Lib.hid hall
    clear hall
    by_cases hlt : k < len
    · obtain ⟨b, off, rfl, h1⟩ := Hc.out k (by rw [Hlen.out]; exact hlt)
      obtain ⟨z, hz⟩ : ∃ z, zs.getD k 0 = z := ⟨_, rfl⟩
      rw [hz] at h1
      have Hz := Lib.hid hz
      clear hz
      go_wp2_with fail
      refine (l01Finite_any z _).mono ?_
      rintro e w' ⟨rfl, m, rfl⟩
      obtain ⟨bf, hf⟩ : ∃ b, fin32 z = b := ⟨_, rfl⟩
      rw [hf]
      have Hf := Lib.hid hf
      clear hf
      cases bf
      · go_wp2_with fail
        go_ret
        exact ⟨_, by rw [all_no zs fin32 k (by rw [Hlen.out]; exact hlt) (by rw [Hz.out]; exact Hf.out)], rfl, _, by first | rfl | rw [World.drewN_drewN]⟩
      · go_wp2_with fail
        go_roundw
        case rel => exact ⟨k + 1, _, by omega, by go_num, all_take_f zs fin32 k (by rw [Hlen.out]; exact hlt) Hall.out (by rw [Hz.out]; exact Hf.out), by first | rfl | rw [World.drewN_drewN]⟩
        case measure => simp [intOf]; omega
    · obtain rfl : k = len := by omega
      have hall := Hall.out
      rw [List.take_of_length_le (by rw [Hlen.out]; exact Nat.le_refl _)] at hall
      have Hall2 := Lib.hid hall
      clear hall
      go_wp2_with fail
      go_ret
      exact ⟨_, Hall2.out, rfl, _, rfl⟩

end Go.Proofs.Ytfdcfalkidcdnab
