/- Sums of lists from left to right: the program and its model alike; the walk of the law. -/
import Derived.Test.YtdmcjloaommnpaaEqF
namespace Go.Proofs.Ytdmcjloaommnpaa
open Go.RowKit

def fsum (zs : List Nat) : Option Nat := zs.foldl (fun s z => fop .add .f32 s (some z)) (some 0)
theorem fsum_snoc (zs : List Nat) (z : Nat) : fsum (zs ++ [z]) = fop .add .f32 (fsum zs) (some z) := by unfold fsum; rw [List.foldl_append]; rfl
theorem fsum_take (zs : List Nat) (k : Nat) (h : k < zs.length) : fsum (zs.take (k + 1)) = fop .add .f32 (fsum (zs.take k)) (some (zs.getD k 0)) := by
  rw [List.take_succ_eq_append_getElem h, fsum_snoc, List.getD_eq_getElem?_getD, List.getElem?_eq_getElem h]; rfl

/-- What the sum is after k rounds. -/
def SumAt (zs : List Nat) (k : Nat) (v : Value) : Prop := ∃ r, v = .float .f32 r ∧ Rp .f32 (fsum (zs.take k)) r
theorem SumAt.next {zs : List Nat} {k r z : Nat} (h : k < zs.length) (hr : Rp .f32 (fsum (zs.take k)) r) (hz : Rp .f32 (floatBits .add .f32 r (zs.getD k 0)) z) : SumAt zs (k + 1) (.float .f32 z) :=
  ⟨z, rfl, by rw [fsum_take zs k h]; exact hr.fop (Rp.refl _ _) hz⟩
theorem SumAt.last {zs : List Nat} {k r : Nat} (h : ¬ k < zs.length) (hr : Rp .f32 (fsum (zs.take k)) r) : Rp .f32 (fsum zs) r := by
  rw [List.take_of_length_le (by omega)] at hr; exact hr

def RetF32 (o : Option Nat) (w : World) (e : Ending) (w' : World) : Prop := ∃ r n, e = .returned (.float .f32 r) ∧ w' = w.drewN n ∧ Rp .f32 o r
def RetF32B (o : Option Nat) (w : World) (e : Ending) (w' : World) : Prop := ∃ r n, e = .returned (.tuple #[.float .f32 r, .bool true]) ∧ w' = w.drewN n ∧ Rp .f32 o r


set_option maxHeartbeats 1000000 in
theorem sumNumbers_any (a : Option Addr) (cap : Nat) (zs : List Nat) (w : World) (h : RowF .f32 w a zs) (hl : zs.length ≤ 256) :
    Calls Try.prog 99 #[.slice a zs.length cap] w (RetF32B (fsum zs) w) := by
  have Hc := Lib.hid h.cells
  clear h
  obtain ⟨len, hlen⟩ : ∃ len, zs.length = len := ⟨_, rfl⟩
  rw [hlen] at hl ⊢
  have Hlen := Lib.hid hlen
  clear hlen
  go_enter Try.func99, Try.ntmps99
  go_wp2_with fail
  go_loopw [4, 12] (fun s i wr => ∃ k n : Nat, k ≤ len ∧ i = .int .i64 k ∧ SumAt zs k s ∧ wr = w.drewN n) (fun _ i _ => len - (intOf i).toNat)
  case atStart => exact ⟨0, 0, Nat.zero_le _, rfl, ⟨0, rfl, rfl⟩, rfl⟩
  case round =>
    obtain ⟨k, n, hk, rfl, ⟨r, rfl, hr⟩, rfl⟩ := hrel
    by_cases hlt : k < len
    · obtain ⟨b, off, rfl, h1⟩ := Hc.out k (by rw [Hlen.out]; exact hlt)
      have Hn := Lib.hid (fun z hz => SumAt.next (z := z) (by rw [Hlen.out]; exact hlt) hr hz)
      generalize zs.getD k 0 = x at *
      clear hr
      go_wp2_with (refine wpList_fl rfl _ _ _ _ _ rfl .f32 _ _ rfl rfl (by decide) ?_; intro z m hz)
      go_roundw
      case rel => exact ⟨k + 1, _, by omega, by go_num, Hn.out _ (by assumption), rfl⟩
      case measure => simp [intOf]; omega
    · have Hr := Lib.hid (SumAt.last (by rw [Hlen.out]; exact hlt) hr)
      clear hr
      go_wp2_with fail
      go_ret2
      exact ⟨_, _, rfl, rfl, Hr.out⟩
end Go.Proofs.Ytdmcjloaommnpaa
