/- Culverts: the program and its model alike. -/
import Derived.Test.YtgjgggclcmcpgacGate
import Derived.Test.YtgjgggclcmcpgacLeastO
namespace Go.Proofs.Ytgjgggclcmcpgac
open Go.RowKit
set_option linter.unusedVariables false
set_option linter.unusedSimpArgs false
set_option maxRecDepth 100000
attribute [local irreducible] wpV wpList Code.wp

def culvO (S C O L B : Option Nat) : Option Nat × Bool := if (weirO S C L B).2 && (gateO S O (fop .sub .f32 L C) (fop .sub .f32 B C)).2 && fcmp .gtr .f32 O (some 0) then (minO (weirO S C L B).1 (gateO S O (fop .sub .f32 L C) (fop .sub .f32 B C)).1, true) else (some 0, false)
def culvQ (S C O L B : Option Nat) : Option Nat × Bool := if (weirO S C L B).2 && (gateO S O (fop .sub .f32 L C) (fop .sub .f32 B C)).2 && posO O then (if fcmp .lss .f32 (gateO S O (fop .sub .f32 L C) (fop .sub .f32 B C)).1 (weirO S C L B).1 then ((gateO S O (fop .sub .f32 L C) (fop .sub .f32 B C)).1, true) else ((weirO S C L B).1, true)) else (some 0, false)
theorem gate_fin {S O L B : Option Nat} (h : (gateO S O L B).2 = true) : fin32o O = true := by
  unfold gateO at h
  cases h1 : amtO O
  · rw [h1] at h; simp at h
  · unfold amtO at h1; rw [Bool.and_eq_true] at h1; exact h1.2
theorem culvQ_eq {S C O L B : Option Nat} : culvQ S C O L B = culvO S C O L B := by
  unfold culvQ culvO minO posO
  cases h1 : (weirO S C L B).2
  all_goals cases h2 : (gateO S O (fop .sub .f32 L C) (fop .sub .f32 B C)).2
  all_goals try simp
  rw [gate_fin h2]
  cases fcmp .gtr .f32 O (some 0)
  all_goals simp
  split <;> rfl

set_option maxHeartbeats 8000000 in
theorem culvertFlow_i {S : Option Nat} {s : Nat} {C : Option Nat} {c : Nat} {O : Option Nat} {o : Nat} {L : Option Nat} {l : Nat} {B : Option Nat} {b : Nat} (w : World)  (hs : Is32 S s) (hc : Is32 C c) (ho : Is32 O o) (hl : Is32 L l) (hb : Is32 B b) :
    Calls Try.prog 27 #[.float .f32 s, .float .f32 c, .float .f32 o, .float .f32 l, .float .f32 b] w (OnlyB (culvO S C O L B) w) := by
  go_enter Try.func27, Try.ntmps27
  go_wp2_with (first | ((with_reducible refine wpList_bin ?_); refine wpList_f32 rfl _ _ _ _ _ rfl rfl rfl (by decide) (by first | assumption | exact Is32.c (by decide)) (by first | assumption | exact Is32.c (by decide)) ?_; intro z n hz) | ((with_reducible refine wpList_bin ?_); refine wpList_c32 rfl _ _ _ _ _ rfl rfl rfl (by decide) (by first | assumption | exact Is32.c (by decide)) (by first | assumption | exact Is32.c (by decide)) ?_; intro bb hbb; cases bb) | (go_at_call 86; refine (leastOf_o _ _ [_] [(gateO S O (fop .sub .f32 L C) (fop .sub .f32 B C)).1] _ (by assumption) rfl (by intro i hi; obtain rfl : i = 0 := (by simp at hi; omega); assumption) (row1 _ _ _ (by simp) (by simp [go_sem])) (by simp)).mono ?_; rintro e w9 ⟨r, rfl, hr, rfl⟩) | (go_at_call 16; refine (weirOver_i _ (by first | assumption | exact Is32.c (by decide)) (by first | assumption | exact Is32.c (by decide)) (by first | assumption | exact Is32.c (by decide)) (by first | assumption | exact Is32.c (by decide))).mono ?_; rintro e w1 ⟨z, bb, rfl, hbb, hz, hb⟩; have hb1 : Below w.heap.size w w1 := (by first | exact (Below.refl _ _).trans (hb.mono (by first | (simp; done) | (simp; omega) | omega)) | exact (beld (Below.refl _ _) _).trans (hb.mono (by first | (simp; done) | (simp; omega) | omega))); have hs1 : w.heap.size + 0 ≤ w1.heap.size := (by have := hb.size; (try simp at this); omega); have Hb1 := Lib.hid hb1; clear hb hb1; cases bb) | (go_at_call 21; refine (gateUnder_i _ (by first | assumption | exact Is32.c (by decide)) (by first | assumption | exact Is32.c (by decide)) (by first | assumption | exact Is32.c (by decide)) (by first | assumption | exact Is32.c (by decide))).mono ?_; rintro e w2 ⟨z, bb, rfl, hbb, hz, hb⟩; have hb2 : Below w.heap.size w w2 := (by first | exact Hb1.out.trans (hb.mono (by first | (simp; done) | (simp; omega) | omega)) | exact (beld Hb1.out _).trans (hb.mono (by first | (simp; done) | (simp; omega) | omega))); have hs2 : w.heap.size + 0 ≤ w2.heap.size := (by have := hb.size; (try simp at this); omega); have Hb2 := Lib.hid hb2; clear hb hb2; cases bb))
  all_goals go_ret2
  all_goals (refine ⟨_, _, rfl, ?_, ?_, (by first | exact (Below.refl _ _) | exact beld (Below.refl _ _) _ | exact Hb2.out | exact beld Hb2.out _ | exact Hb1.out | exact beld Hb1.out _ | exact Below.alloc (by first | exact (Below.refl _ _) | exact beld (Below.refl _ _) _) (by first | (simp; done) | (simp; omega) | omega) _ | exact beld (Below.alloc (by first | exact (Below.refl _ _) | exact beld (Below.refl _ _) _) (by first | (simp; done) | (simp; omega) | omega) _) _ | exact Below.alloc (by first | exact Hb2.out | exact beld Hb2.out _) (by first | (simp; done) | (simp; omega) | omega) _ | exact beld (Below.alloc (by first | exact Hb2.out | exact beld Hb2.out _) (by first | (simp; done) | (simp; omega) | omega) _) _ | exact Below.alloc (by first | exact Hb1.out | exact beld Hb1.out _) (by first | (simp; done) | (simp; omega) | omega) _ | exact beld (Below.alloc (by first | exact Hb1.out | exact beld Hb1.out _) (by first | (simp; done) | (simp; omega) | omega) _) _)⟩; (simp [culvO, *]); first | (simp [culvO, *]; done) | (simp [culvO, *]; exact Is32.c (by decide)) | (simp [culvO, *]; assumption))

set_option maxHeartbeats 8000000 in
theorem culvertFlow_s0 {S : Option Nat} {s : Nat} {C : Option Nat} {c : Nat} {O : Option Nat} {o : Nat} {L : Option Nat} {l : Nat} {B : Option Nat} {b : Nat} (w : World)  (hs : Is32 S s) (hc : Is32 C c) (ho : Is32 O o) (hl : Is32 L l) (hb : Is32 B b) :
    Calls Try.prog 26 #[.float .f32 s, .float .f32 c, .float .f32 o, .float .f32 l, .float .f32 b] w (OnlyB (culvQ S C O L B) w) := by
  go_enter Try.func26, Try.ntmps26
  go_wp2_with (first | ((with_reducible refine wpList_bin ?_); refine wpList_f32 rfl _ _ _ _ _ rfl rfl rfl (by decide) (by first | assumption | exact Is32.c (by decide)) (by first | assumption | exact Is32.c (by decide)) ?_; intro z n hz) | ((with_reducible refine wpList_bin ?_); refine wpList_c32 rfl _ _ _ _ _ rfl rfl rfl (by decide) (by first | assumption | exact Is32.c (by decide)) (by first | assumption | exact Is32.c (by decide)) ?_; intro bb hbb; cases bb) | (go_at_call 15; refine (weirOver_s _ (by first | assumption | exact Is32.c (by decide)) (by first | assumption | exact Is32.c (by decide)) (by first | assumption | exact Is32.c (by decide)) (by first | assumption | exact Is32.c (by decide))).mono ?_; rintro e w1 ⟨z, bb, rfl, hbb, hz, hb⟩; have hb1 : Below w.heap.size w w1 := (by first | exact (Below.refl _ _).trans (hb.mono (by first | (simp; done) | (simp; omega) | omega)) | exact (beld (Below.refl _ _) _).trans (hb.mono (by first | (simp; done) | (simp; omega) | omega))); have hs1 : w.heap.size + 0 ≤ w1.heap.size := (by have := hb.size; (try simp at this); omega); have Hb1 := Lib.hid hb1; clear hb hb1; cases bb) | (go_at_call 20; refine (gateUnder_s _ (by first | assumption | exact Is32.c (by decide)) (by first | assumption | exact Is32.c (by decide)) (by first | assumption | exact Is32.c (by decide)) (by first | assumption | exact Is32.c (by decide))).mono ?_; rintro e w2 ⟨z, bb, rfl, hbb, hz, hb⟩; have hb2 : Below w.heap.size w w2 := (by first | exact Hb1.out.trans (hb.mono (by first | (simp; done) | (simp; omega) | omega)) | exact (beld Hb1.out _).trans (hb.mono (by first | (simp; done) | (simp; omega) | omega))); have hs2 : w.heap.size + 0 ≤ w2.heap.size := (by have := hb.size; (try simp at this); omega); have Hb2 := Lib.hid hb2; clear hb hb2; cases bb) | (go_at_call 74; refine (l02Above_o _ (by first | assumption | exact Is32.c (by decide))).mono ?_; rintro e w' ⟨bb, hbb, rfl, q, rfl⟩; cases bb))
  all_goals go_ret2
  all_goals (refine ⟨_, _, rfl, ?_, ?_, (by first | exact (Below.refl _ _) | exact beld (Below.refl _ _) _ | exact Hb2.out | exact beld Hb2.out _ | exact Hb1.out | exact beld Hb1.out _ | exact Below.alloc (by first | exact (Below.refl _ _) | exact beld (Below.refl _ _) _) (by first | (simp; done) | (simp; omega) | omega) _ | exact beld (Below.alloc (by first | exact (Below.refl _ _) | exact beld (Below.refl _ _) _) (by first | (simp; done) | (simp; omega) | omega) _) _ | exact Below.alloc (by first | exact Hb2.out | exact beld Hb2.out _) (by first | (simp; done) | (simp; omega) | omega) _ | exact beld (Below.alloc (by first | exact Hb2.out | exact beld Hb2.out _) (by first | (simp; done) | (simp; omega) | omega) _) _ | exact Below.alloc (by first | exact Hb1.out | exact beld Hb1.out _) (by first | (simp; done) | (simp; omega) | omega) _ | exact beld (Below.alloc (by first | exact Hb1.out | exact beld Hb1.out _) (by first | (simp; done) | (simp; omega) | omega) _) _)⟩; (simp [culvQ, *]); first | (simp [culvQ, *]; done) | (simp [culvQ, *]; exact Is32.c (by decide)) | (simp [culvQ, *]; assumption))

theorem culvertFlow_s {S : Option Nat} {s : Nat} {C : Option Nat} {c : Nat} {O : Option Nat} {o : Nat} {L : Option Nat} {l : Nat} {B : Option Nat} {b : Nat} (w : World) (hs : Is32 S s) (hc : Is32 C c) (ho : Is32 O o) (hl : Is32 L l) (hb : Is32 B b) :
    Calls Try.prog 26 #[.float .f32 s, .float .f32 c, .float .f32 o, .float .f32 l, .float .f32 b] w (OnlyB (culvO S C O L B) w) := culvQ_eq ▸ culvertFlow_s0 w hs hc ho hl hb

end Go.Proofs.Ytgjgggclcmcpgac
