/- 'eqFloat32S' of two slices with the same numbers is true. -/
import Derived.Test.YtdmcjloaommnpaaRowF
import Derived.Test.YtdmcjloaommnpaaRegionV
namespace Go.Proofs.Ytdmcjloaommnpaa
set_option maxRecDepth 100000
open Go.RowKit

/-- A 32-bit number widened. -/
def W64 (x : Nat) (v : Value) : Prop := ∃ r, v = .float .f64 r ∧ Rp .f64 (cvt .f32 x .f64) r
theorem cvtV (x : Nat) (P : Program) (src dst : TypeId) (w : World) (n : Nat) (hs : (P.underlying src).isSome = true) (hd : P.underlying dst = some (.float .f64)) :
    ∃ r m, (convert src dst (.float .f32 x)).run P (w.drewN n) = .ok (.float .f64 r) (w.drewN (n + m)) ∧ W64 x (.float .f64 r) := by
  obtain ⟨r, m, h1, h2⟩ := run_cvt (P := P) (w.drewN n) src dst .f32 .f64 x hs hd (widen_ok x)
  exact ⟨r, m, by rw [h1, World.drewN_drewN], r, rfl, h2⟩
theorem W64_ne (x : Nat) : ∃ v, W64 x v := by
  cases h : cvt .f32 x .f64 with
  | some b => exact ⟨.float .f64 b, b, rfl, by rw [h]; rfl⟩
  | none => exact ⟨_, _, rfl, by rw [h]; exact cut64 0⟩

set_option maxHeartbeats 1000000 in
theorem eqFloat32S_row (b off cap b' off' cap' : Nat) (zs : List Nat) (w : World) (hc : ∀ i, i < zs.length → w.cell? ⟨b, off + i, none⟩ = some (.float .f32 (zs.getD i 0)))
    (hc' : ∀ i, i < zs.length → w.cell? ⟨b', off' + i, none⟩ = some (.float .f32 (zs.getD i 0))) (hl : zs.length ≤ 1048576) :
    Calls Try.prog 18 #[.slice (some ⟨b, off, none⟩) zs.length cap, .slice (some ⟨b', off', none⟩) zs.length cap'] w fun e w' => e = .returned (.bool true) ∧ ∃ n, w' = w.drewN n := by
  obtain ⟨len, hlen⟩ : ∃ len, zs.length = len := ⟨_, rfl⟩
  rw [hlen] at hl hc hc' ⊢
  clear hlen
  have Hc := Lib.hid hc
  have Hc' := Lib.hid hc'
  clear hc hc'
  go_enter Try.func18, Try.ntmps18
  go_wp2_with fail
  go_loopw [5] (fun i wr => ∃ k n : Nat, k ≤ len ∧ i = .int .i64 k ∧ wr = w.drewN n) (fun i _ => len - (intOf i).toNat)
  case atStart => exact ⟨0, 0, Nat.zero_le _, rfl, rfl⟩
  case round =>
    obtain ⟨k, n, hk, rfl, rfl⟩ := hrel
    by_cases hlt : k < len
    · have h1 := Hc.out k hlt
      have h2 := Hc'.out k hlt
      generalize zs.getD k 0 = z at *
      have hk0 : (0 : Int) ≤ (k : Int) := by omega
      have hk1 : (k : Int) < (len : Int) := by omega
      go_wp2_with fail
      refine wp_region_V (fun i => if i = 4 ∨ i = 9 then some (W64 z) else if i = 10 then some (· = .bool true) else none) (by kernel_rfl) (by kernel_rfl) ?_
      repeat (refine wpV_step (fun K hK => ?_); go_simp; refine hK _ ?_; clear hK K)
      refine wpV_step (fun K hK => ?_)
      go_simp
      refine ⟨W64_ne z, fun m => ?_, fun v hv => hK _ ?_⟩
      · obtain ⟨r, q, hrun, hr⟩ := cvtV z Try.prog 26 30 w (n + m) (by kernel_rfl) Try.underlying30
        rw [hrun]
        exact ⟨⟨m + q, by rw [Nat.add_assoc]⟩, hr⟩
      obtain ⟨x, rfl, hx⟩ := hv
      clear hK K
      repeat (refine wpV_step (fun K hK => ?_); go_simp; refine hK _ ?_; clear hK K)
      refine wpV_step (fun K hK => ?_)
      go_simp
      refine ⟨W64_ne z, fun m => ?_, fun v hv => hK _ ?_⟩
      · obtain ⟨r, q, hrun, hr⟩ := cvtV z Try.prog 26 30 w (n + m) (by kernel_rfl) Try.underlying30
        rw [hrun]
        exact ⟨⟨m + q, by rw [Nat.add_assoc]⟩, hr⟩
      obtain ⟨y, rfl, hy⟩ := hv
      clear hK K
      refine wpV_step (fun K hK => ?_)
      go_simp
      refine ⟨fun m => (sameFloat_true _ x y hx hy _).mono ?_, hK _ ?_⟩
      · rintro e w' ⟨rfl, q, rfl⟩
        exact ⟨_, rfl, rfl, m + q, by rw [World.drewN_drewN, Nat.add_assoc]⟩
      clear hK K
      repeat (refine wpV_step (fun K hK => ?_); go_simp; refine hK _ ?_; clear hK K)
      refine wpV_nil ?_
      intro q
      clear h1 h2 hx hy
      go_wp2_with fail
      go_roundw
      case rel => exact ⟨k + 1, _, by omega, by go_num, rfl⟩
      case measure => simp [intOf]; omega
    · go_wp2_with fail
      go_ret
      exact ⟨rfl, _, rfl⟩

set_option maxHeartbeats 400000 in
theorem eqFloat32S_nil (a a' : Option Addr) (cap cap' : Nat) (w : World) :
    Calls Try.prog 18 #[.slice a 0 cap, .slice a' 0 cap'] w fun e w' => e = .returned (.bool true) ∧ ∃ n, w' = w.drewN n := by
  go_enter Try.func18, Try.ntmps18
  go_wp2_with fail
  go_loop [5] (fun i => i = .int .i64 0) (fun i => 0)
  case atStart => rfl
  case round =>
    obtain rfl := hrel
    go_wp2_with fail
    go_ret
    exact ⟨rfl, 0, rfl⟩

theorem eqFloat32S_any (a a' : Option Addr) (cap cap' : Nat) (zs : List Nat) (w : World) (h : RowF .f32 w a zs) (h' : RowF .f32 w a' zs) (hl : zs.length ≤ 1048576) :
    Calls Try.prog 18 #[.slice a zs.length cap, .slice a' zs.length cap'] w fun e w' => e = .returned (.bool true) ∧ ∃ n, w' = w.drewN n := by
  rcases h with rfl | ⟨b, off, rfl, hb, hc⟩
  · exact eqFloat32S_nil a a' cap cap' w
  · rcases h' with rfl | ⟨b', off', rfl, hb', hc'⟩
    · exact eqFloat32S_nil _ a' cap cap' w
    · exact eqFloat32S_row b off cap b' off' cap' zs w hc hc' hl
end Go.Proofs.Ytdmcjloaommnpaa
