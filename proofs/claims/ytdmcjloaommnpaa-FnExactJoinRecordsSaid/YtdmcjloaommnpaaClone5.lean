/- A clone of a list of numbers. -/
import Derived.Test.YtdmcjloaommnpaaGrow
namespace Go.Proofs.Ytdmcjloaommnpaa
open Go.RowKit
set_option linter.unusedVariables false
set_option linter.unusedSimpArgs false
set_option maxRecDepth 100000
attribute [local irreducible] wpV wpList Code.wp

set_option maxHeartbeats 1000000 in
theorem clone_f (a : Option Addr) (cap : Nat) (zs : List Nat) (w : World) (h : RowF .f32 w a zs) (hl : zs.length ≤ 1048576) (h0 : 0 < zs.length) :
    Calls Try.prog 80 #[.slice a zs.length cap] w fun e w' => ∃ g c, e = .returned (.slice (some ⟨g, 0, none⟩) zs.length c) ∧ RowO w' w.heap.size (.slice (some ⟨g, 0, none⟩) zs.length c) zs ∧ Below w.heap.size w w' := by
  rcases h with rfl | ⟨b, off, rfl, hb, hc⟩
  · simp at h0
  · have hc2 : ∀ i, i < zs.length → (w.alloc (.cells #[] 26)).cell? ⟨b, off + i, none⟩ = some (.float .f32 (zs.getD i 0)) := fun i hi => by
      rw [(bel1 w _).cell (p := ⟨b, off + i, none⟩) hb]; exact hc i hi
    have HC := Lib.hid hc2
    have HR : Hid (RowO (w.alloc (.cells #[] 26)) w.heap.size (.slice (some ⟨w.heap.size, 0, none⟩) 0 0) []) := Lib.hid (World.ownsRow_lit (base := w.heap.size) (e := 26) (size := 1) w #[] 0 (Nat.le_refl _) (by simp [maxLen]) rfl)
    obtain ⟨n, hn⟩ : ∃ n, zs.length = n := ⟨_, rfl⟩
    have Hn := Lib.hid hn
    have H0 := Lib.hid h0
    have Hl := Lib.hid hl
    rw [hn]
    clear hc hc2 hn h0 hl
    go_enter Try.func80, Try.ntmps80
    have hq : ∀ W : World, Sem.run Try.prog (binOp BinOp.eql 22 (Value.slice (some { block := b, off := off }) n cap) (Value.slice none 0 0)) W = .ok (.bool false) W := fun W => by first | rfl | simp [binOp, go_sem]
    go_wp2_with (at_builtin; refine push_all rfl rfl _ _ rfl (ys := zs) rfl HR.out b off _ (by rw [Hn.out]; rfl) HC.out H0.out (by rw [List.length_nil, Nat.zero_add]; exact Hl.out) (by simp) ?_)
    intro g9 c9 w9 hr hp
    have HB := Lib.hid (Below.pushed (bel1 w _) hp HR.out (Nat.le_refl _) (by simp))
    (try simp only [List.nil_append, List.length_nil, Nat.zero_add] at hr)
    (try simp only [List.length_nil, Nat.zero_add])
    (try rw [Hn.out] at hr)
    (try rw [Hn.out])
    have Hr := Lib.hid hr
    clear hr hp
    go_wp2_with fail
    go_ret
    exact ⟨g9, c9, rfl, Hr.out, HB.out⟩
end Go.Proofs.Ytdmcjloaommnpaa
