/- When the model calls a hill valid. -/
import Derived.Test.YtdpnkpgfepckdaaValid
import Derived.Deep.QuietTactic
import Derived.BigQuiet
namespace Go.Proofs.Ytdpnkpgfepckdaa
open Go.RowKit

theorem l02Sides_b (wide high : Int) (b : Bool) (h : sidesB wide high = b) (w : World) :
    Calls Try.prog 87 #[.int .i64 wide, .int .i64 high] w fun e w' => e = .returned (.bool b) ∧ w' = w :=
  h ▸ (l02Sides_any wide high w).mono fun _ _ ⟨h1, h2⟩ => ⟨h1, h2.symm⟩
theorem areSides_b (wide high : Int) (b : Bool) (h : sidesB wide high = b) (w : World) :
    Calls Try.prog 85 #[.int .i64 wide, .int .i64 high] w fun e w' => e = .returned (.bool b) ∧ w = w' :=
  h ▸ areSides_any wide high w
theorem l02Finite_b (a : Option Addr) (cap : Nat) (zs : List Nat) (b : Bool) (hb : zs.all fin32 = b) (w : World) (h : RowF .f32 w a zs) (hl : zs.length ≤ 1048576) :
    Calls Try.prog 75 #[.slice a zs.length cap] w fun e w' => e = .returned (.bool b) ∧ ∃ n, w' = w.drewN n := hb ▸ l02Finite_any a cap zs w h hl

set_option maxHeartbeats 2000000 in
theorem l02Is_any (b : Nat) (wide high : Int) (a : Option Addr) (cap : Nat) (zs : List Nat) (w : World) (h0 : w.cell? ⟨b, 0, none⟩ = some (.int .i64 wide)) (h1 : w.cell? ⟨b, 1, none⟩ = some (.int .i64 high)) (h2 : w.cell? ⟨b, 2, none⟩ = some (.slice a zs.length cap))
    (h : RowF .f32 w a zs) (hl : zs.length ≤ 1048576) :
    Calls Try.prog 60 #[.pointer (some ⟨b, 0, none⟩)] w fun e w' => e = .returned (.bool (validB wide high zs)) ∧ ∃ n, w' = w.drewN n := by
  unfold validB
  have H := Lib.hid h
  clear h
  cases hs : sidesB wide high
  · have Hs := Lib.hid hs
    clear hs
    rw [Bool.false_and, Bool.false_and]
    go_enter Try.func60, Try.ntmps60
    go_wp2_with fail
    go_quiet ((go_at_call 87; exact Calls.quiet_of_same (l02Sides_b _ _ _ Hs.out _)))
    go_wp2_with fail
    go_ret
    exact ⟨rfl, _, rfl⟩
  · have Hs := Lib.hid hs
    clear hs
    have hm := mul_bound Hs.out
    have hmul : IntKind.i64.wrap (wide * high) = wide * high := IntWalk.i64_in _ (by omega)
    rw [Bool.true_and]
    by_cases he : (zs.length : Int) = wide * high
    · have he2 : ((zs.length : Int) == wide * high) = true := by simpa using he
      rw [decide_eq_true he, Bool.true_and]
      have He := Lib.hid he
      clear he
      obtain ⟨bf, hbf⟩ : ∃ bf, zs.all fin32 = bf := ⟨_, rfl⟩
      have Hbf := Lib.hid hbf
      rw [hbf]
      clear hbf
      go_enter Try.func60, Try.ntmps60
      go_wp2_with fail
      go_quiet (first | (go_at_call 87; exact Calls.quiet_of_same (l02Sides_b _ _ _ Hs.out _)) | (go_at_call 75; exact Calls.quiet_of (l02Finite_b a cap zs _ Hbf.out _ (H.out.drewN _) hl)))
      go_wp2_with fail
      go_ret
      exact ⟨rfl, _, rfl⟩
    · have he2 : ((zs.length : Int) == wide * high) = false := by simpa using he
      rw [decide_eq_false he, Bool.false_and]
      have He := Lib.hid he
      clear he
      go_enter Try.func60, Try.ntmps60
      go_wp2_with fail
      go_quiet (first | (go_at_call 87; exact Calls.quiet_of_same (l02Sides_b _ _ _ Hs.out _)))
      go_wp2_with fail
      go_ret
      exact ⟨rfl, _, rfl⟩

end Go.Proofs.Ytdpnkpgfepckdaa
