/- Rough hills: the function value that tells heights. -/
import Derived.Test.YtgnkpppbhibfoabConeI
namespace Go.Proofs.Ytgnkpppbhibfoab
open Go.RowKit
set_option linter.unusedVariables false
set_option linter.unusedSimpArgs false
set_option maxRecDepth 100000
attribute [local irreducible] wpV wpList Code.wp

def nxSeed (s : Int) : Int := (1103515245 * s + 12345) % 2147483648
def seedIt (s0 : Int) : Nat → Int
  | 0 => s0
  | k + 1 => nxSeed (seedIt s0 k)
theorem nxSeed_rng (s : Int) : 0 ≤ nxSeed s ∧ nxSeed s < 2147483648 := by unfold nxSeed; omega
theorem seedIt_rng {s0 : Int} (h : 0 ≤ s0 ∧ s0 < 2147483648) : ∀ k, 0 ≤ seedIt s0 k ∧ seedIt s0 k < 2147483648
  | 0 => h
  | k + 1 => nxSeed_rng _
def drawnO (s : Int) : Option Nat := fop .quo .f32 (some (iF (s / 65536 - 16384))) (some 1182793728)
def roughO (zs : List Nat) (X : Option Nat) (s0 : Int) (k : Nat) : Option Nat := fop .add .f32 (some (zs.getD k 0)) (fop .mul .f32 X (drawnO (seedIt s0 (k + 1))))
def roughT (zs : List Nat) (X : Option Nat) (s0 : Int) : List (Option Nat) := (List.range zs.length).map (roughO zs X s0)
structure HRN where
  wide : Int
  high : Int
  zs : List Nat
  n : Int
  ok : Bool
def failHN : HRN := ⟨0, 0, [], 0, false⟩
def seedB (s : Int) : Bool := decide (0 ≤ s) && decide (s ≤ 2147483647)
def resRoughHill (wide high : Int) (zs : List Nat) (x : Nat) (s0 : Int) : HRN := if validB wide high zs && fin32 x && seedB s0 && okT (roughT zs (some x) s0) then ⟨wide, high, valsT (roughT zs (some x) s0), seedIt s0 zs.length, true⟩ else failHN
def RetHNB (rw rh : Int) (rz : List Nat) (rn : Int) (rok : Bool) (W : World) (e : Ending) (w' : World) : Prop :=
  ∃ a cap, e = .returned (.tuple #[.agg #[.int .i64 rw, .int .i64 rh, .slice a rz.length cap], .int .i64 rn, .bool rok]) ∧ Below W.heap.size W w' ∧ FRow w' W.heap.size w'.heap.size (.slice a rz.length cap) rz
theorem valid_len9 {wide high : Int} {zs : List Nat} (h : validB wide high zs = true) : sidesB wide high = true ∧ (zs.length : Int) = wide * high ∧ 1 ≤ zs.length ∧ zs.length ≤ 256 := by
  simp only [validB, Bool.and_eq_true, decide_eq_true_eq] at h
  obtain ⟨⟨h1, h2⟩, h3⟩ := h
  have := mul_bound h1
  exact ⟨h1, h2, by omega, by omega⟩
theorem resRoughHill_len (wide high : Int) (zs : List Nat) (x : Nat) (s0 : Int) : (resRoughHill wide high zs x s0).zs.length ≤ 1048576 := by
  unfold resRoughHill
  split
  · rename_i h
    simp only [Bool.and_eq_true] at h
    have h2 := (valid_len9 h.1.1.1).2.2.2
    show (valsT _).length ≤ _
    rw [valsT_length]
    simp [roughT]
    omega
  · exact Nat.zero_le _
theorem Kept.setLow {B : Nat} {w : World} {p : Addr} (hp : p.block < B) (u : Value) : Kept 0 B w (w.setCell p u) :=
  ⟨rfl, rfl, rfl, by simp, fun i hi hlt => Below.heap_setCell _ _ _ _ (by rcases hi with h | h <;> omega)⟩

set_option maxHeartbeats 1000000 in
theorem nextSeed_any (s : Int) (w : World) (h : 0 ≤ s ∧ s < 2147483648) : Calls Try.prog 74 #[.int .i64 s] w fun e w' => ∃ r, e = .returned (.int .i64 r) ∧ r = nxSeed s ∧ w = w' := by
  obtain ⟨h1, h2⟩ := h
  have hw1 : IntKind.i64.wrap (1103515245 * s) = 1103515245 * s := IntWalk.i64_in _ (by omega)
  have hw2 : IntKind.i64.wrap (1103515245 * s + 12345) = 1103515245 * s + 12345 := IntWalk.i64_in _ (by omega)
  have hw3 : 0 ≤ 1103515245 * s + 12345 := by omega
  have ht : Int.tmod (1103515245 * s + 12345) 2147483648 = (1103515245 * s + 12345) % 2147483648 := Int.tmod_eq_emod_of_nonneg hw3
  have hr : IntKind.i64.wrap ((1103515245 * s + 12345) % 2147483648) = (1103515245 * s + 12345) % 2147483648 := IntWalk.i64_in _ (by omega)
  go_enter Try.func74, Try.ntmps74
  go_wp2_with fail
  go_ret
  exact ⟨_, rfl, (by unfold nxSeed; first | rfl | rw [ht] | (rw [ht, hr]) | rw [hr]), rfl⟩

set_option maxHeartbeats 2000000 in
theorem roughClo_any {X : Option Nat} {x : Nat} (s : Int) (k n bS bH bX b off cap z : Nat) (W : World) (hs : 0 ≤ s ∧ s < 2147483648) (hk : k < n) (hx : Is32 X x) (hz0 : Is32 (some z) z) (hne1 : bH ≠ bS) (hne2 : bX ≠ bS) (hne3 : b ≠ bS) (c0 : W.cell? ⟨bS, 0, none⟩ = some (.int .i64 s)) (f0 : W.frozen? ⟨bS, 0, none⟩ = false) (c1 : W.cell? ⟨bH, 2, none⟩ = some (.slice (some ⟨b, off, none⟩) n cap)) (c2 : W.cell? ⟨bX, 0, none⟩ = some (.float .f32 x)) (c3 : W.cell? ⟨b, off + k, none⟩ = some (.float .f32 z)) :
    Calls Try.prog 73 #[.int .i64 (k : Int), .pointer (some ⟨bS, 0, none⟩), .pointer (some ⟨bH, 0, none⟩), .pointer (some ⟨bX, 0, none⟩)] W fun e w' => ∃ r, e = .returned (.float .f32 r) ∧ Is32 (fop .add .f32 (some z) (fop .mul .f32 X (drawnO (nxSeed s)))) r ∧ ∃ m, w' = (W.setCell ⟨bS, 0, none⟩ (.int .i64 (nxSeed s))).drewN m := by
  have hk0 : (0 : Int) ≤ (k : Int) := by omega
  have hk1 : (k : Int) < (n : Int) := by omega
  go_enter Try.func73, Try.ntmps73
  go_wp2_with fail
  refine (nextSeed_any s _ hs).mono ?_
  rintro e w' ⟨r, rfl, hr, rfl⟩
  have hrr := nxSeed_rng s
  rw [← hr] at hrr
  obtain ⟨hr1, hr2⟩ := hrr
  have HRr := Lib.hid hr
  clear hr
  have hd0 : Int.tdiv r 65536 = r / 65536 := Int.tdiv_eq_ediv_of_nonneg hr1
  have hi1 : IntKind.i64.wrap (r / 65536) = r / 65536 := IntWalk.i64_in _ (by omega)
  have hi2 : IntKind.i64.wrap (r / 65536 - 16384) = r / 65536 - 16384 := IntWalk.i64_in _ (by omega)
  have hfi : Is32 (some (iF (r / 65536 - 16384))) (floatOfInt .f32 (r / 65536 - 16384)) := iF_is _
  skip
  go_wp2_with (first | ((with_reducible refine wpList_bin ?_); refine wpList_f32 rfl _ _ _ _ _ rfl rfl rfl (by decide) (by first | assumption | exact Is32.c (by decide)) (by first | assumption | exact Is32.c (by decide)) ?_; intro z n hz))
  any_goals apply wp_region_V (id := 3) (vmap [(7, V32k _), (8, V32k _)]) (by kernel_rfl) (by kernel_rfl)
  any_goals (refine wpV_go 1 rfl (fun K hK => ?_); go_simp; refine hK.out _ ?_; clear hK K)
  any_goals (refine wpV_go 2 rfl (fun K hK => ?_); go_simp; refine hK.out _ ?_; clear hK K)
  any_goals (refine wpV_go 3 rfl (fun K hK => ?_); go_simp; refine hK.out _ ?_; clear hK K)
  any_goals (refine wpV_go 4 rfl (fun K hK => ?_); go_simp; refine hK.out _ ?_; clear hK K)
  any_goals (refine wpV_go 5 rfl (fun K hK => ?_); go_simp; refine hK.out _ ?_; clear hK K)
  any_goals (refine wpV_go 6 rfl (fun K hK => ?_); go_simp; refine hK.out _ ?_; clear hK K)
  any_goals (refine wpV_go 7 rfl (fun K hK => ?_); go_simp; refine hK.out _ ?_; clear hK K)
  any_goals (first | (refine wpV_f32 8 rfl (drewC _) _ _ _ _ _ rfl rfl rfl rfl (by decide) (by first | assumption | exact Is32.c (by decide)) (by first | assumption | exact Is32.c (by decide)) rfl ?_; intro z hz) | (refine wpV_go 8 rfl (fun K hK => ?_); go_simp; refine hK.out _ ?_; clear hK K))
  any_goals (first | (refine wpV_f32 9 rfl (drewC _) _ _ _ _ _ rfl rfl rfl rfl (by decide) (by first | assumption | exact Is32.c (by decide)) (by first | assumption | exact Is32.c (by decide)) rfl ?_; intro z hz) | (refine wpV_go 9 rfl (fun K hK => ?_); go_simp; refine hK.out _ ?_; clear hK K))
  any_goals (refine wpV_go 10 rfl (fun K hK => ?_); go_simp; refine hK.out _ ?_; clear hK K)
  any_goals (refine wpV_nil ?_; intro q)
  go_wp2_with fail
  go_ret
  refine ⟨_, rfl, by rw [HRr.out] at hz; exact hz, by rw [← HRr.out]; first | exact ⟨_, rfl⟩ | (rw [World.drewN_drewN]; exact ⟨_, rfl⟩)⟩

end Go.Proofs.Ytgnkpppbhibfoab
