/- The laws' helpers on rivers. -/
import Derived.Test.YtckmacnmmloemaaDam
import Derived.Test.YtckmacnmmloemaaBoxG
namespace Go.Proofs.Ytckmacnmmloemaa
open Go.RowKit
set_option linter.unusedVariables false
set_option linter.unusedSimpArgs false
set_option maxRecDepth 100000
attribute [local irreducible] wpV wpList Code.wp

theorem szZ_fits (a : Option Addr) (l c : Nat) (left : Int) (h : (l : Int) ≤ left) (hl : left ≤ 1048576) (w : World) : Calls Try.prog 49 #[.slice a l c, .int .i64 left] w fun e w' => e = .returned (.int .i64 (left - l)) ∧ w = w' := by
  have h2 : ¬ left - (l : Int) < 0 := by omega
  go_enter Try.func49, Try.ntmps49
  go_wp2
  go_ret
  exact ⟨rfl, rfl⟩
theorem szZ_not (a : Option Addr) (l c : Nat) (left : Int) (h : left < (l : Int)) (h0 : 0 ≤ left) (hl : left ≤ 1048576) (hm : l ≤ 9223372036854775807) (w : World) : Calls Try.prog 49 #[.slice a l c, .int .i64 left] w fun e w' => e = .returned (.int .i64 (-1)) ∧ w = w' := by
  have h2 : left - (l : Int) < 0 := by omega
  go_enter Try.func49, Try.ntmps49
  go_wp2
  go_ret
  exact ⟨rfl, rfl⟩
theorem szDam_fits (a : Option Addr) (l c : Nat) (left : Int) (h : (l : Int) ≤ left) (hl : left ≤ 1048576) (w : World) : Calls Try.prog 50 #[.slice a l c, .int .i64 left] w fun e w' => e = .returned (.int .i64 (left - l)) ∧ w = w' := by
  have h2 : ¬ left - (l : Int) < 0 := by omega
  go_enter Try.func50, Try.ntmps50
  go_wp2
  go_ret
  exact ⟨rfl, rfl⟩
theorem szDam_not (a : Option Addr) (l c : Nat) (left : Int) (h : left < (l : Int)) (h0 : 0 ≤ left) (hl : left ≤ 1048576) (hm : l ≤ 9223372036854775807) (w : World) : Calls Try.prog 50 #[.slice a l c, .int .i64 left] w fun e w' => e = .returned (.int .i64 (-1)) ∧ w = w' := by
  have h2 : left - (l : Int) < 0 := by omega
  go_enter Try.func50, Try.ntmps50
  go_wp2
  go_ret
  exact ⟨rfl, rfl⟩
set_option maxHeartbeats 2000000 in
theorem szRiver_fits (a0 a1 a2 : Option Addr) (l0 l1 l2 c0 c1 c2 : Nat) (left : Int) (h : (l0 : Int) + (l1 : Int) + (l2 : Int) ≤ left) (hl : left ≤ 1048576) (w : World) :
    Calls Try.prog 12 #[.agg #[.slice a0 l0 c0, .slice a1 l1 c1, .slice a2 l2 c2], .int .i64 left] w fun e w' => e = .returned (.int .i64 (left - l0 - l1 - l2)) ∧ Below w.heap.size w w' := by
  have h2 : ¬ left - (l0 : Int) < 0 := by omega
  have h3 : ¬ left - (l0 : Int) - (l1 : Int) < 0 := by omega
  have h4 : ¬ left - (l0 : Int) - (l1 : Int) - (l2 : Int) < 0 := by omega
  go_enter Try.func12, Try.ntmps12
  go_wp2_with fail
  refine (szZ_fits a0 l0 c0 left (by omega) hl _).mono ?_
  rintro e w' ⟨rfl, rfl⟩
  go_wp2_with fail
  refine (szDam_fits a1 l1 c1 _ (by omega) (by omega) _).mono ?_
  rintro e w' ⟨rfl, rfl⟩
  go_wp2_with fail
  refine (szZ_fits a2 l2 c2 _ (by omega) (by omega) _).mono ?_
  rintro e w' ⟨rfl, rfl⟩
  go_wp2_with fail
  go_ret
  exact ⟨rfl, (by repeat (first | with_reducible exact Below.refl _ _ | with_reducible refine beld ?_ _ | (with_reducible refine Below.alloc ?_ ?_ _; rotate_left; exact (by first | (simp; done) | (simp; omega) | omega)) | (with_reducible refine Below.setCell ?_ ?_ _; rotate_left; exact (by first | (simp; done) | (simp; omega) | omega))))⟩

set_option maxHeartbeats 2000000 in
theorem szRiver_not (a0 a1 a2 : Option Addr) (l0 l1 l2 c0 c1 c2 : Nat) (left : Int) (h : left < (l0 : Int) + (l1 : Int) + (l2 : Int)) (h0 : 0 ≤ left) (hl : left ≤ 1048576) (hm0 : l0 ≤ 9223372036854775807) (hm1 : l1 ≤ 9223372036854775807) (hm2 : l2 ≤ 9223372036854775807) (w : World) :
    Calls Try.prog 12 #[.agg #[.slice a0 l0 c0, .slice a1 l1 c1, .slice a2 l2 c2], .int .i64 left] w fun e w' => e = .returned (.int .i64 (-1)) ∧ Below w.heap.size w w' := by
  have hneg : ((-1 : Int) < 0) := by decide
  by_cases h2 : left < (l0 : Int)
  · go_enter Try.func12, Try.ntmps12
    go_wp2_with fail
    refine (szZ_not a0 l0 c0 left h2 h0 hl hm0 _).mono ?_
    rintro e w' ⟨rfl, rfl⟩
    go_wp2_with fail
    go_ret
    exact ⟨rfl, (by repeat (first | with_reducible exact Below.refl _ _ | with_reducible refine beld ?_ _ | (with_reducible refine Below.alloc ?_ ?_ _; rotate_left; exact (by first | (simp; done) | (simp; omega) | omega)) | (with_reducible refine Below.setCell ?_ ?_ _; rotate_left; exact (by first | (simp; done) | (simp; omega) | omega))))⟩
  have h2' : ¬ left - (l0 : Int) < 0 := by omega
  by_cases h3 : left - (l0 : Int) < (l1 : Int)
  · go_enter Try.func12, Try.ntmps12
    go_wp2_with fail
    refine (szZ_fits a0 l0 c0 left (by omega) hl _).mono ?_
    rintro e w' ⟨rfl, rfl⟩
    go_wp2_with fail
    refine (szDam_not a1 l1 c1 _ h3 (by omega) (by omega) hm1 _).mono ?_
    rintro e w' ⟨rfl, rfl⟩
    go_wp2_with fail
    go_ret
    exact ⟨rfl, (by repeat (first | with_reducible exact Below.refl _ _ | with_reducible refine beld ?_ _ | (with_reducible refine Below.alloc ?_ ?_ _; rotate_left; exact (by first | (simp; done) | (simp; omega) | omega)) | (with_reducible refine Below.setCell ?_ ?_ _; rotate_left; exact (by first | (simp; done) | (simp; omega) | omega))))⟩
  have h3' : ¬ left - (l0 : Int) - (l1 : Int) < 0 := by omega
  go_enter Try.func12, Try.ntmps12
  go_wp2_with fail
  refine (szZ_fits a0 l0 c0 left (by omega) hl _).mono ?_
  rintro e w' ⟨rfl, rfl⟩
  go_wp2_with fail
  refine (szDam_fits a1 l1 c1 _ (by omega) (by omega) _).mono ?_
  rintro e w' ⟨rfl, rfl⟩
  go_wp2_with fail
  refine (szZ_not a2 l2 c2 _ (by omega) (by omega) (by omega) hm2 _).mono ?_
  rintro e w' ⟨rfl, rfl⟩
  go_wp2_with fail
  go_ret
  exact ⟨rfl, (by repeat (first | with_reducible exact Below.refl _ _ | with_reducible refine beld ?_ _ | (with_reducible refine Below.alloc ?_ ?_ _; rotate_left; exact (by first | (simp; done) | (simp; omega) | omega)) | (with_reducible refine Below.setCell ?_ ?_ _; rotate_left; exact (by first | (simp; done) | (simp; omega) | omega))))⟩

/-- Where the rows of a river lie. -/
structure Lay where
  l0 : Nat
  h0 : Nat
  l1 : Nat
  h1 : Nat
  l2 : Nat
  h2 : Nat
/-- The rows lie between lo and hi, each in blocks of its own. -/
structure Lay.In (L : Lay) (lo hi : Nat) : Prop where
  d01 : L.h0 ≤ L.l1 ∨ L.h1 ≤ L.l0
  d02 : L.h0 ≤ L.l2 ∨ L.h2 ≤ L.l0
  d12 : L.h1 ≤ L.l2 ∨ L.h2 ≤ L.l1
  b0 : lo ≤ L.l0 ∧ L.h0 ≤ hi
  b1 : lo ≤ L.l1 ∧ L.h1 ≤ hi
  b2 : lo ≤ L.l2 ∧ L.h2 ≤ hi
/-- A river in memory of its own. -/
structure RivAt (w : World) (lo hi : Nat) (L : Lay) (a0 a1 a2 : Option Addr) (c0 c1 c2 n : Nat) (D M V : List Int) : Prop where
  r0 : HRow w 2 1 L.l0 L.h0 (.slice a0 D.length c0) D.length (ic D)
  r1 : HRow w 98 4 L.l1 L.h1 (.slice a1 n c1) n (ic M)
  r2 : HRow w 2 1 L.l2 L.h2 (.slice a2 V.length c2) V.length (ic V)
  lay : L.In lo hi
  lh : hi ≤ w.heap.size
section
variable {w w' : World} {lo hi : Nat} {L : Lay} {a0 a1 a2 : Option Addr} {c0 c1 c2 n : Nat} {D M V : List Int}
theorem RivAt.below {B : Nat} (h : RivAt w lo hi L a0 a1 a2 c0 c1 c2 n D M V) (hb : Below B w w') (hB : hi ≤ B) : RivAt w' lo hi L a0 a1 a2 c0 c1 c2 n D M V :=
  ⟨h.r0.below hb (Nat.le_trans h.lay.b0.2 hB), h.r1.below hb (Nat.le_trans h.lay.b1.2 hB), h.r2.below hb (Nat.le_trans h.lay.b2.2 hB), h.lay, Nat.le_trans h.lh hb.size⟩
theorem RivAt.alloc (h : RivAt w lo hi L a0 a1 a2 c0 c1 c2 n D M V) (o : Obj) : RivAt (w.alloc o) lo hi L a0 a1 a2 c0 c1 c2 n D M V := h.below ((Below.refl _ _).alloc h.lh o) (Nat.le_refl _)
theorem RivAt.drewN (h : RivAt w lo hi L a0 a1 a2 c0 c1 c2 n D M V) (q : Nat) : RivAt (w.drewN q) lo hi L a0 a1 a2 c0 c1 c2 n D M V := ⟨h.r0, h.r1, h.r2, h.lay, h.lh⟩
theorem RivAt.drew (h : RivAt w lo hi L a0 a1 a2 c0 c1 c2 n D M V) : RivAt w.drew lo hi L a0 a1 a2 c0 c1 c2 n D M V := ⟨h.r0, h.r1, h.r2, h.lay, h.lh⟩
theorem RivAt.kept {lo2 hi2 : Nat} (h : RivAt w lo hi L a0 a1 a2 c0 c1 c2 n D M V) (hk : Kept lo2 hi2 w w') (hd : hi ≤ lo2 ∨ hi2 ≤ lo) : RivAt w' lo hi L a0 a1 a2 c0 c1 c2 n D M V :=
  ⟨h.r0.kept hk (by have := h.lay.b0; omega), h.r1.kept hk (by have := h.lay.b1; omega), h.r2.kept hk (by have := h.lay.b2; omega), h.lay, Nat.le_trans h.lh hk.size⟩
theorem RivAt.setFar (h : RivAt w lo hi L a0 a1 a2 c0 c1 c2 n D M V) {q : Addr} (hq : q.block < lo ∨ hi ≤ q.block) (u : Value) : RivAt (w.setCell q u) lo hi L a0 a1 a2 c0 c1 c2 n D M V :=
  ⟨h.r0.setFar (by have := h.lay.b0; omega) u, h.r1.setFar (by have := h.lay.b1; omega) u, h.r2.setFar (by have := h.lay.b2; omega) u, h.lay, by rw [setCell_size]; exact h.lh⟩
theorem RivAt.len (h : RivAt w lo hi L a0 a1 a2 c0 c1 c2 n D M V) : M.length = n * 4 := by have := h.r1.len; rwa [ic_length] at this
theorem RivAt.wide {lo' hi' : Nat} (h : RivAt w lo hi L a0 a1 a2 c0 c1 c2 n D M V) (hl : lo' ≤ lo) (hh : hi ≤ hi') (hs : hi' ≤ w.heap.size) : RivAt w lo' hi' L a0 a1 a2 c0 c1 c2 n D M V :=
  ⟨h.r0, h.r1, h.r2, ⟨h.lay.d01, h.lay.d02, h.lay.d12, by have := h.lay.b0; omega, by have := h.lay.b1; omega, by have := h.lay.b2; omega⟩, hs⟩
end
theorem HRow.one {w : World} {e : TypeId} {s lo g c n : Nat} {xs : List Value} (h : w.ownsRow lo e s (.slice (some ⟨g, 0, none⟩) n c) n xs) : HRow w e s g (g + 1) (.slice (some ⟨g, 0, none⟩) n c) n xs := by
  obtain ⟨h1, h2⟩ := h
  rcases h2 with ⟨h3, _⟩ | ⟨g', cap, cur, hv, hg, hh, r⟩
  · cases h3
  · injection hv with h4 h5 h6
    simp only [Option.some.injEq, Addr.mk.injEq, and_true, true_and] at h4
    subst h4
    subst h6
    exact ⟨⟨h1, .inr ⟨g, c, cur, rfl, Nat.le_refl _, hh, r⟩⟩, (fun k hk => by simp only [Value.ownBlock, Option.some.injEq] at hk; omega), (Array.getElem?_eq_some_iff.1 hh).1⟩
/-- A river as a result. -/
structure RvR where
  n : Nat
  D : List Int
  M : List Int
  V : List Int
  ok : Bool
def failR : RvR := ⟨0, [], [], [], false⟩
def RivP (R : RvR) (w : World) (e : Ending) (w' : World) : Prop :=
  ∃ lo hi L a0 c0 a1 c1 a2 c2, e = .returned (.tuple #[.agg #[.slice a0 R.D.length c0, .slice a1 R.n c1, .slice a2 R.V.length c2], .bool R.ok]) ∧ Below w.heap.size w w' ∧ RivAt w' lo hi L a0 a1 a2 c0 c1 c2 R.n R.D R.M R.V ∧ w.heap.size ≤ lo
theorem RivP.no {w w' : World} (hb : Below w.heap.size w w') : RivP failR w (.returned (.tuple #[.agg #[.slice none 0 0, .slice none 0 0, .slice none 0 0], .bool false])) w' :=
  ⟨w'.heap.size, w'.heap.size, ⟨w'.heap.size, w'.heap.size, w'.heap.size, w'.heap.size, w'.heap.size, w'.heap.size⟩, none, 0, none, 0, none, 0, rfl, hb, ⟨HRow.nil _ _ _ _, HRow.nil _ _ _ _, HRow.nil _ _ _ _, ⟨.inl (Nat.le_refl _), .inl (Nat.le_refl _), .inl (Nat.le_refl _), ⟨Nat.le_refl _, Nat.le_refl _⟩, ⟨Nat.le_refl _, Nat.le_refl _⟩, ⟨Nat.le_refl _, Nat.le_refl _⟩⟩, Nat.le_refl _⟩, hb.size⟩
theorem RivP.yes {w w' : World} {lo g0 g1 g2 c0 c1 c2 n : Nat} {D M V : List Int} {q0 q2 : Nat} (h0 : w'.ownsRow lo 2 1 (.slice (some ⟨g0, 0, none⟩) q0 c0) q0 (ic D)) (h1 : w'.ownsRow lo 98 4 (.slice (some ⟨g1, 0, none⟩) n c1) n (ic M)) (h2 : w'.ownsRow lo 2 1 (.slice (some ⟨g2, 0, none⟩) q2 c2) q2 (ic V))
    (n01 : g0 ≠ g1) (n02 : g0 ≠ g2) (n12 : g1 ≠ g2) (hlo : w.heap.size ≤ lo) (hb : Below w.heap.size w w') :
    RivP ⟨n, D, M, V, true⟩ w (.returned (.tuple #[.agg #[.slice (some ⟨g0, 0, none⟩) q0 c0, .slice (some ⟨g1, 0, none⟩) n c1, .slice (some ⟨g2, 0, none⟩) q2 c2], .bool true])) w' := by
  have e0 : q0 = D.length := by have := h0.1; rw [ic_length] at this; omega
  have e2 : q2 = V.length := by have := h2.1; rw [ic_length] at this; omega
  subst e0; subst e2
  have k0 := h0.lt g0 rfl
  have k1 := h1.lt g1 rfl
  have k2 := h2.lt g2 rfl
  exact ⟨lo, w'.heap.size, ⟨g0, g0 + 1, g1, g1 + 1, g2, g2 + 1⟩, _, c0, _, c1, _, c2, rfl, hb, ⟨HRow.one h0, HRow.one h1, HRow.one h2, ⟨by show g0 + 1 ≤ g1 ∨ g1 + 1 ≤ g0; omega, by show g0 + 1 ≤ g2 ∨ g2 + 1 ≤ g0; omega, by show g1 + 1 ≤ g2 ∨ g2 + 1 ≤ g1; omega, ⟨k0.1, k0.2⟩, ⟨k1.1, k1.2⟩, ⟨k2.1, k2.2⟩⟩, Nat.le_refl _⟩, hlo⟩
def CopyRv (w : World) (n : Nat) (D M V : List Int) (e : Ending) (w' : World) : Prop :=
  ∃ a0 c0 a1 c1 a2 c2 L, e = .returned (.agg #[.slice a0 D.length c0, .slice a1 n c1, .slice a2 V.length c2]) ∧ Below w.heap.size w w' ∧ RivAt w' w.heap.size w'.heap.size L a0 a1 a2 c0 c1 c2 n D M V

set_option maxHeartbeats 8000000 in
theorem toRiver_any (a0 a1 a2 : Option Addr) (c0 c1 c2 n : Nat) (D M V : List Int) (w : World) (hr0 : RowC w a0 (ic D)) (hr1 : RowC w a1 (ic M)) (hr2 : RowC w a2 (ic V)) (hl0 : D.length ≤ 1048576) (hl1 : n ≤ 1048576) (hl2 : V.length ≤ 1048576) (hn : M.length = n * 4) :
    Calls Try.prog 14 #[.agg #[.slice a0 D.length c0, .slice a1 n c1, .slice a2 V.length c2]] w (CopyRv w n D M V) := by
  have Hr0 := Lib.hid hr0
  have Hr1 := Lib.hid hr1
  have Hr2 := Lib.hid hr2
  clear hr0 hr1 hr2
  go_enter Try.func14, Try.ntmps14
  go_wp2_with fail
  refine (copyZ_any a0 c0 D _ (Hr0.out.below (by repeat (first | with_reducible exact Below.refl _ _ | with_reducible refine beld ?_ _ | (with_reducible refine Below.alloc ?_ ?_ _; rotate_left; exact (by first | (simp; done) | (simp; omega) | omega)) | (with_reducible refine Below.setCell ?_ ?_ _; rotate_left; exact (by first | (simp; done) | (simp; omega) | omega)))) (Nat.le_refl _)) hl0).mono ?_
  rintro e w1 ⟨b0, d0, rfl, hb, hf⟩
  have hB : Below w.heap.size w w1 := Below.trans (by repeat (first | with_reducible exact Below.refl _ _ | with_reducible refine beld ?_ _ | (with_reducible refine Below.alloc ?_ ?_ _; rotate_left; exact (by first | (simp; done) | (simp; omega) | omega)) | (with_reducible refine Below.setCell ?_ ?_ _; rotate_left; exact (by first | (simp; done) | (simp; omega) | omega)))) (hb.mono (by first | (simp; done) | (simp; omega) | omega))
  have hz1 : w.heap.size + 3 ≤ w1.heap.size := (by have := hb.size; simp at this; omega)
  have P1 : Hid (Bx w1 w.heap.size [.slice a0 D.length c0, .slice a1 n c1, .slice a2 V.length c2]) := Lib.hid ((((Bx.new w [.slice a0 D.length c0, .slice a1 n c1, .slice a2 V.length c2] _).alloc _).alloc _).below hb (by first | (simp; done) | (simp; omega) | omega))
  have A1 : Hid (Bw w1 (w.heap.size + 1) [.slice none 0 0, .slice none 0 0, .slice none 0 0]) := Lib.hid (((Bw.new1G w _ [.slice none 0 0, .slice none 0 0, .slice none 0 0] _).alloc _).below hb (by first | (simp; done) | (simp; omega) | omega))
  have O1 : Hid (Bw w1 (w.heap.size + 2) [.slice none 0 0, .slice none 0 0, .slice none 0 0]) := Lib.hid ((Bw.new2G w _ _ [.slice none 0 0, .slice none 0 0, .slice none 0 0] _).below hb (by first | (simp; done) | (simp; omega) | omega))
  have R1_1 : Hid (HRow w1 2 1 (w.heap.size + 3) w1.heap.size (.slice b0 D.length d0) D.length (ic D)) := Lib.hid (hf.mono (lo' := w.heap.size + 3) (by first | (simp; done) | (simp; omega) | omega) (Nat.le_refl _) (Nat.le_refl _))
  have Hb1 := Lib.hid hB
  clear hb hf hB
  have hp0 := P1.out.c 0 rfl
  have k1_0 := A1.out.c 0 rfl
  have q1_0 := A1.out.f 0 (by simp)
  have k2_0 := O1.out.c 0 rfl
  have q2_0 := O1.out.f 0 (by simp)
  have hp1 := P1.out.c 1 rfl
  have k1_1 := A1.out.c 1 rfl
  have q1_1 := A1.out.f 1 (by simp)
  have k2_1 := O1.out.c 1 rfl
  have q2_1 := O1.out.f 1 (by simp)
  have hp2 := P1.out.c 2 rfl
  have k1_2 := A1.out.c 2 rfl
  have q1_2 := A1.out.f 2 (by simp)
  have k2_2 := O1.out.c 2 rfl
  have q2_2 := O1.out.f 2 (by simp)
  go_wp2_with fail
  refine (toDamS_any a1 c1 n M _ (Hr1.out.below (by repeat (first | with_reducible exact Hb1.out | with_reducible refine beld ?_ _ | (with_reducible refine Below.alloc ?_ ?_ _; rotate_left; exact (by first | (simp; done) | (simp; omega) | omega)) | (with_reducible refine Below.setCell ?_ ?_ _; rotate_left; exact (by first | (simp; done) | (simp; omega) | omega)))) (Nat.le_refl _)) hn hl1).mono ?_
  rintro e w2 ⟨b1, d1, rfl, hb, hf⟩
  clear hp0 k1_0 q1_0 k2_0 q2_0 hp1 k1_1 q1_1 k2_1 q2_1 hp2 k1_2 q1_2 k2_2 q2_2
  have hB : Below w.heap.size w w2 := Below.trans (by repeat (first | with_reducible exact Hb1.out | with_reducible refine beld ?_ _ | (with_reducible refine Below.alloc ?_ ?_ _; rotate_left; exact (by first | (simp; done) | (simp; omega) | omega)) | (with_reducible refine Below.setCell ?_ ?_ _; rotate_left; exact (by first | (simp; done) | (simp; omega) | omega)))) (hb.mono (by first | (simp; done) | (simp; omega) | omega))
  have hz2 : w1.heap.size ≤ w2.heap.size := (by have := hb.size; simp at this; omega)
  have P2 : Hid (Bx w2 w.heap.size [.slice a0 D.length c0, .slice a1 n c1, .slice a2 V.length c2]) := Lib.hid ((P1.out.setFar (p := ⟨w.heap.size + 2, 0, none⟩) (by show w.heap.size + 2 ≠ w.heap.size; omega) (.slice b0 D.length d0)).below hb (by first | (simp; done) | (simp; omega) | omega))
  have A2 : Hid (Bw w2 (w.heap.size + 1) [.slice none 0 0, .slice none 0 0, .slice none 0 0]) := Lib.hid ((A1.out.setOther (p := ⟨w.heap.size + 2, 0, none⟩) (by show w.heap.size + 2 ≠ w.heap.size + 1; omega) (.slice b0 D.length d0)).below hb (by first | (simp; done) | (simp; omega) | omega))
  have O2 : Hid (Bw w2 (w.heap.size + 2) [.slice b0 D.length d0, .slice none 0 0, .slice none 0 0]) := Lib.hid ((O1.out.put 0 (by simp) (.slice b0 D.length d0)).below hb (by first | (simp; done) | (simp; omega) | omega))
  have R1_2 : Hid (HRow w2 2 1 (w.heap.size + 3) w1.heap.size (.slice b0 D.length d0) D.length (ic D)) := Lib.hid (((R1_1.out.setFar (p := ⟨w.heap.size + 2, 0, none⟩) (.inl (by show w.heap.size + 2 < w.heap.size + 3; omega)) (.slice b0 D.length d0)).below hb (by first | (simp; done) | (simp; omega) | omega)))
  clear P1 A1 O1 Hb1 R1_1
  have R2_2 : Hid (HRow w2 98 4 (w1.heap.size) w2.heap.size (.slice b1 n d1) n (ic M)) := Lib.hid (hf.mono (lo' := w1.heap.size) (by first | (simp; done) | (simp; omega) | omega) (Nat.le_refl _) (Nat.le_refl _))
  have Hb2 := Lib.hid hB
  clear hb hf hB
  have hp0 := P2.out.c 0 rfl
  have k1_0 := A2.out.c 0 rfl
  have q1_0 := A2.out.f 0 (by simp)
  have k2_0 := O2.out.c 0 rfl
  have q2_0 := O2.out.f 0 (by simp)
  have hp1 := P2.out.c 1 rfl
  have k1_1 := A2.out.c 1 rfl
  have q1_1 := A2.out.f 1 (by simp)
  have k2_1 := O2.out.c 1 rfl
  have q2_1 := O2.out.f 1 (by simp)
  have hp2 := P2.out.c 2 rfl
  have k1_2 := A2.out.c 2 rfl
  have q1_2 := A2.out.f 2 (by simp)
  have k2_2 := O2.out.c 2 rfl
  have q2_2 := O2.out.f 2 (by simp)
  go_wp2_with fail
  refine (copyZ_any a2 c2 V _ (Hr2.out.below (by repeat (first | with_reducible exact Hb2.out | with_reducible refine beld ?_ _ | (with_reducible refine Below.alloc ?_ ?_ _; rotate_left; exact (by first | (simp; done) | (simp; omega) | omega)) | (with_reducible refine Below.setCell ?_ ?_ _; rotate_left; exact (by first | (simp; done) | (simp; omega) | omega)))) (Nat.le_refl _)) hl2).mono ?_
  rintro e w3 ⟨b2, d2, rfl, hb, hf⟩
  clear hp0 k1_0 q1_0 k2_0 q2_0 hp1 k1_1 q1_1 k2_1 q2_1 hp2 k1_2 q1_2 k2_2 q2_2
  have hB : Below w.heap.size w w3 := Below.trans (by repeat (first | with_reducible exact Hb2.out | with_reducible refine beld ?_ _ | (with_reducible refine Below.alloc ?_ ?_ _; rotate_left; exact (by first | (simp; done) | (simp; omega) | omega)) | (with_reducible refine Below.setCell ?_ ?_ _; rotate_left; exact (by first | (simp; done) | (simp; omega) | omega)))) (hb.mono (by first | (simp; done) | (simp; omega) | omega))
  have hz3 : w2.heap.size ≤ w3.heap.size := (by have := hb.size; simp at this; omega)
  have P3 : Hid (Bx w3 w.heap.size [.slice a0 D.length c0, .slice a1 n c1, .slice a2 V.length c2]) := Lib.hid ((P2.out.setFar (p := ⟨w.heap.size + 2, 1, none⟩) (by show w.heap.size + 2 ≠ w.heap.size; omega) (.slice b1 n d1)).below hb (by first | (simp; done) | (simp; omega) | omega))
  have A3 : Hid (Bw w3 (w.heap.size + 1) [.slice none 0 0, .slice none 0 0, .slice none 0 0]) := Lib.hid ((A2.out.setOther (p := ⟨w.heap.size + 2, 1, none⟩) (by show w.heap.size + 2 ≠ w.heap.size + 1; omega) (.slice b1 n d1)).below hb (by first | (simp; done) | (simp; omega) | omega))
  have O3 : Hid (Bw w3 (w.heap.size + 2) [.slice b0 D.length d0, .slice b1 n d1, .slice none 0 0]) := Lib.hid ((O2.out.put 1 (by simp) (.slice b1 n d1)).below hb (by first | (simp; done) | (simp; omega) | omega))
  have R1_3 : Hid (HRow w3 2 1 (w.heap.size + 3) w1.heap.size (.slice b0 D.length d0) D.length (ic D)) := Lib.hid (((R1_2.out.setFar (p := ⟨w.heap.size + 2, 1, none⟩) (.inl (by show w.heap.size + 2 < w.heap.size + 3; omega)) (.slice b1 n d1)).below hb (by first | (simp; done) | (simp; omega) | omega)))
  have R2_3 : Hid (HRow w3 98 4 (w1.heap.size) w2.heap.size (.slice b1 n d1) n (ic M)) := Lib.hid (((R2_2.out.setFar (p := ⟨w.heap.size + 2, 1, none⟩) (.inl (by show w.heap.size + 2 < w1.heap.size; omega)) (.slice b1 n d1)).below hb (by first | (simp; done) | (simp; omega) | omega)))
  clear P2 A2 O2 Hb2 R1_2 R2_2
  have R3_3 : Hid (HRow w3 2 1 (w2.heap.size) w3.heap.size (.slice b2 V.length d2) V.length (ic V)) := Lib.hid (hf.mono (lo' := w2.heap.size) (by first | (simp; done) | (simp; omega) | omega) (Nat.le_refl _) (Nat.le_refl _))
  have Hb3 := Lib.hid hB
  clear hb hf hB
  have hp0 := P3.out.c 0 rfl
  have k1_0 := A3.out.c 0 rfl
  have q1_0 := A3.out.f 0 (by simp)
  have k2_0 := O3.out.c 0 rfl
  have q2_0 := O3.out.f 0 (by simp)
  have hp1 := P3.out.c 1 rfl
  have k1_1 := A3.out.c 1 rfl
  have q1_1 := A3.out.f 1 (by simp)
  have k2_1 := O3.out.c 1 rfl
  have q2_1 := O3.out.f 1 (by simp)
  have hp2 := P3.out.c 2 rfl
  have k1_2 := A3.out.c 2 rfl
  have q1_2 := A3.out.f 2 (by simp)
  have k2_2 := O3.out.c 2 rfl
  have q2_2 := O3.out.f 2 (by simp)
  go_wp2_with fail
  refine bodyPost_ret (v := .agg #[.slice b0 D.length d0, .slice b1 n d1, .slice b2 V.length d2]) (by first | (simp [results, Try.results14, go_sem, *]; done) | (simp (maxDischargeDepth := 12) [results, Try.results14, go_sem, *]; done) | (simp (maxDischargeDepth := 12) [results, Try.results14, go_sem, *]; rfl)) rfl ⟨b0, d0, b1, d1, b2, d2, ⟨w.heap.size, w1.heap.size, w1.heap.size, w2.heap.size, w2.heap.size, w3.heap.size⟩, rfl, ?_, ?_⟩
  · exact (by repeat (first | with_reducible exact Hb3.out | with_reducible refine beld ?_ _ | (with_reducible refine Below.alloc ?_ ?_ _; rotate_left; exact (by first | (simp; done) | (simp; omega) | omega)) | (with_reducible refine Below.setCell ?_ ?_ _; rotate_left; exact (by first | (simp; done) | (simp; omega) | omega))))
  · refine ⟨?_, ?_, ?_, ⟨.inl (Nat.le_refl _), .inl (by show w1.heap.size ≤ w2.heap.size; omega), .inl (Nat.le_refl _), ⟨Nat.le_refl _, by show w1.heap.size ≤ _; simp; omega⟩, ⟨by show w.heap.size ≤ w1.heap.size; omega, by show w2.heap.size ≤ _; simp; omega⟩, ⟨by show w.heap.size ≤ w2.heap.size; omega, by show w3.heap.size ≤ _; simp⟩⟩, Nat.le_refl _⟩
    · show HRow _ _ _ w.heap.size w1.heap.size _ _ _
      refine HRow.mono (lo := w.heap.size + 3) (hi := w1.heap.size) (by repeat (first | with_reducible exact R1_3.out | (with_reducible refine HRow.setFar ?_ ?_ _; rotate_left; exact (by first | (left; simp; done) | (left; simp; omega) | (left; show _ < _; omega))))) (by omega) (Nat.le_refl _) (by first | (simp; done) | (simp; omega) | omega)
    · refine HRow.mono (lo := w1.heap.size) (hi := w2.heap.size) (by repeat (first | with_reducible exact R2_3.out | (with_reducible refine HRow.setFar ?_ ?_ _; rotate_left; exact (by first | (left; simp; done) | (left; simp; omega) | (left; show _ < _; omega))))) (Nat.le_refl _) (Nat.le_refl _) (by first | (simp; done) | (simp; omega) | omega)
    · refine HRow.mono (lo := w2.heap.size) (hi := w3.heap.size) (by repeat (first | with_reducible exact R3_3.out | (with_reducible refine HRow.setFar ?_ ?_ _; rotate_left; exact (by first | (left; simp; done) | (left; simp; omega) | (left; show _ < _; omega))))) (Nat.le_refl _) (by first | (simp; done) | (simp; omega) | omega) (by first | (simp; done) | (simp; omega) | omega)

set_option maxHeartbeats 4000000 in
theorem eqRiver_any (a0 a1 a2 e0 e1 e2 : Option Addr) (c0 c1 c2 d0 d1 d2 n : Nat) (D M V : List Int) (w : World) (hr0 : RowC w a0 (ic D)) (hr1 : RowC w a1 (ic M)) (hr2 : RowC w a2 (ic V)) (hl0 : D.length ≤ 1048576) (hl1 : n ≤ 1048576) (hl2 : V.length ≤ 1048576) (hn : M.length = n * 4) (hq0 : RowC w e0 (ic D)) (hq1 : RowC w e1 (ic M)) (hq2 : RowC w e2 (ic V)) :
    Calls Try.prog 17 #[.agg #[.slice a0 D.length c0, .slice a1 n c1, .slice a2 V.length c2], .agg #[.slice e0 D.length d0, .slice e1 n d1, .slice e2 V.length d2]] w fun e w' => e = .returned (.bool true) ∧ Below w.heap.size w w' := by
  have Hr0 := Lib.hid hr0
  have Hr1 := Lib.hid hr1
  have Hr2 := Lib.hid hr2
  have Hq0 := Lib.hid hq0
  have Hq1 := Lib.hid hq1
  have Hq2 := Lib.hid hq2
  clear hr0 hr1 hr2 hq0 hq1 hq2
  go_enter Try.func17, Try.ntmps17
  go_wp2_with fail
  refine (eqZ_any a0 e0 c0 d0 D _ (Hr0.out.below (by repeat (first | with_reducible exact Below.refl _ _ | with_reducible refine beld ?_ _ | (with_reducible refine Below.alloc ?_ ?_ _; rotate_left; exact (by first | (simp; done) | (simp; omega) | omega)) | (with_reducible refine Below.setCell ?_ ?_ _; rotate_left; exact (by first | (simp; done) | (simp; omega) | omega)))) (Nat.le_refl _)) (Hq0.out.below (by repeat (first | with_reducible exact Below.refl _ _ | with_reducible refine beld ?_ _ | (with_reducible refine Below.alloc ?_ ?_ _; rotate_left; exact (by first | (simp; done) | (simp; omega) | omega)) | (with_reducible refine Below.setCell ?_ ?_ _; rotate_left; exact (by first | (simp; done) | (simp; omega) | omega)))) (Nat.le_refl _)) hl0).mono ?_
  rintro e w1 ⟨rfl, hb⟩
  have Hb1 : Hid (Below w.heap.size w w1) := Lib.hid (Below.trans (by repeat (first | with_reducible exact Below.refl _ _ | with_reducible refine beld ?_ _ | (with_reducible refine Below.alloc ?_ ?_ _; rotate_left; exact (by first | (simp; done) | (simp; omega) | omega)) | (with_reducible refine Below.setCell ?_ ?_ _; rotate_left; exact (by first | (simp; done) | (simp; omega) | omega)))) (hb.mono (by first | (simp; done) | (simp; omega) | omega)))
  have P1 : Hid (Bx w1 w.heap.size [.slice a0 D.length c0, .slice a1 n c1, .slice a2 V.length c2]) := Lib.hid (((Bx.new w [.slice a0 D.length c0, .slice a1 n c1, .slice a2 V.length c2] _).alloc _).below hb (by first | (simp; done) | (simp; omega) | omega))
  have O1 : Hid (Bx w1 (w.heap.size + 1) [.slice e0 D.length d0, .slice e1 n d1, .slice e2 V.length d2]) := Lib.hid ((Bx.new1G w _ [.slice e0 D.length d0, .slice e1 n d1, .slice e2 V.length d2] _).below hb (by first | (simp; done) | (simp; omega) | omega))
  have hz1 : w.heap.size + 2 ≤ w1.heap.size := (by have := hb.size; simp at this; omega)
  clear hb
  have ha0 := P1.out.c 0 rfl
  have he0 := O1.out.c 0 rfl
  have ha1 := P1.out.c 1 rfl
  have he1 := O1.out.c 1 rfl
  have ha2 := P1.out.c 2 rfl
  have he2 := O1.out.c 2 rfl
  go_wp2_with fail
  refine (eqDamS_any a1 e1 c1 d1 n M _ (Hr1.out.below (by repeat (first | with_reducible exact Hb1.out | with_reducible refine beld ?_ _ | (with_reducible refine Below.alloc ?_ ?_ _; rotate_left; exact (by first | (simp; done) | (simp; omega) | omega)) | (with_reducible refine Below.setCell ?_ ?_ _; rotate_left; exact (by first | (simp; done) | (simp; omega) | omega)))) (Nat.le_refl _)) (Hq1.out.below (by repeat (first | with_reducible exact Hb1.out | with_reducible refine beld ?_ _ | (with_reducible refine Below.alloc ?_ ?_ _; rotate_left; exact (by first | (simp; done) | (simp; omega) | omega)) | (with_reducible refine Below.setCell ?_ ?_ _; rotate_left; exact (by first | (simp; done) | (simp; omega) | omega)))) (Nat.le_refl _)) hn hl1).mono ?_
  rintro e w2 ⟨rfl, hb⟩
  clear ha0 he0 ha1 he1 ha2 he2
  have Hb2 : Hid (Below w.heap.size w w2) := Lib.hid (Below.trans (by repeat (first | with_reducible exact Hb1.out | with_reducible refine beld ?_ _ | (with_reducible refine Below.alloc ?_ ?_ _; rotate_left; exact (by first | (simp; done) | (simp; omega) | omega)) | (with_reducible refine Below.setCell ?_ ?_ _; rotate_left; exact (by first | (simp; done) | (simp; omega) | omega)))) (hb.mono (by first | (simp; done) | (simp; omega) | omega)))
  have P2 := Lib.hid (P1.out.below hb P1.out.1)
  have O2 := Lib.hid (O1.out.below hb O1.out.1)
  have hz2 : w1.heap.size ≤ w2.heap.size := hb.size
  clear P1 O1 Hb1
  clear hb
  have ha0 := P2.out.c 0 rfl
  have he0 := O2.out.c 0 rfl
  have ha1 := P2.out.c 1 rfl
  have he1 := O2.out.c 1 rfl
  have ha2 := P2.out.c 2 rfl
  have he2 := O2.out.c 2 rfl
  go_wp2_with fail
  refine (eqZ_any a2 e2 c2 d2 V _ (Hr2.out.below (by repeat (first | with_reducible exact Hb2.out | with_reducible refine beld ?_ _ | (with_reducible refine Below.alloc ?_ ?_ _; rotate_left; exact (by first | (simp; done) | (simp; omega) | omega)) | (with_reducible refine Below.setCell ?_ ?_ _; rotate_left; exact (by first | (simp; done) | (simp; omega) | omega)))) (Nat.le_refl _)) (Hq2.out.below (by repeat (first | with_reducible exact Hb2.out | with_reducible refine beld ?_ _ | (with_reducible refine Below.alloc ?_ ?_ _; rotate_left; exact (by first | (simp; done) | (simp; omega) | omega)) | (with_reducible refine Below.setCell ?_ ?_ _; rotate_left; exact (by first | (simp; done) | (simp; omega) | omega)))) (Nat.le_refl _)) hl2).mono ?_
  rintro e w3 ⟨rfl, hb⟩
  clear ha0 he0 ha1 he1 ha2 he2
  have Hb3 : Hid (Below w.heap.size w w3) := Lib.hid (Below.trans (by repeat (first | with_reducible exact Hb2.out | with_reducible refine beld ?_ _ | (with_reducible refine Below.alloc ?_ ?_ _; rotate_left; exact (by first | (simp; done) | (simp; omega) | omega)) | (with_reducible refine Below.setCell ?_ ?_ _; rotate_left; exact (by first | (simp; done) | (simp; omega) | omega)))) (hb.mono (by first | (simp; done) | (simp; omega) | omega)))
  go_wp2_with fail
  go_ret
  exact ⟨rfl, (by repeat (first | with_reducible exact Hb3.out | with_reducible refine beld ?_ _ | (with_reducible refine Below.alloc ?_ ?_ _; rotate_left; exact (by first | (simp; done) | (simp; omega) | omega)) | (with_reducible refine Below.setCell ?_ ?_ _; rotate_left; exact (by first | (simp; done) | (simp; omega) | omega))))⟩

/-- A river whose numbers are all marks. -/
structure MarkedR (w : World) (lo hi : Nat) (L : Lay) (k : Nat) (a0 a1 a2 : Option Addr) (c0 c1 c2 l0 n l2 : Nat) : Prop where
  r0 : HRow w 2 1 L.l0 L.h0 (.slice a0 l0 c0) l0 (ic (marksZ k l0))
  r1 : HRow w 98 4 L.l1 L.h1 (.slice a1 n c1) n (ic (marksZ (k + l0) (n * 4)))
  r2 : HRow w 2 1 L.l2 L.h2 (.slice a2 l2 c2) l2 (ic (marksZ (k + l0 + n * 4) l2))
  lay : L.In lo hi
  lh : hi ≤ w.heap.size
section
variable {w w' : World} {lo hi k : Nat} {L : Lay} {a0 a1 a2 : Option Addr} {c0 c1 c2 l0 n l2 : Nat}
theorem MarkedR.below {B : Nat} (h : MarkedR w lo hi L k a0 a1 a2 c0 c1 c2 l0 n l2) (hb : Below B w w') (hB : hi ≤ B) : MarkedR w' lo hi L k a0 a1 a2 c0 c1 c2 l0 n l2 :=
  ⟨h.r0.below hb (Nat.le_trans h.lay.b0.2 hB), h.r1.below hb (Nat.le_trans h.lay.b1.2 hB), h.r2.below hb (Nat.le_trans h.lay.b2.2 hB), h.lay, Nat.le_trans h.lh hb.size⟩
theorem MarkedR.alloc (h : MarkedR w lo hi L k a0 a1 a2 c0 c1 c2 l0 n l2) (o : Obj) : MarkedR (w.alloc o) lo hi L k a0 a1 a2 c0 c1 c2 l0 n l2 := h.below ((Below.refl _ _).alloc h.lh o) (Nat.le_refl _)
end

set_option maxHeartbeats 4000000 in
theorem markRiver_any (lo hi k : Nat) (L : Lay) (a0 a1 a2 : Option Addr) (c0 c1 c2 n : Nat) (D M V : List Int) (w : World) (h : RivAt w lo hi L a0 a1 a2 c0 c1 c2 n D M V) (hl0 : D.length ≤ 1048576) (hl1 : n ≤ 1048576) (hl2 : V.length ≤ 1048576) (hk : k ≤ 1048576) :
    Calls Try.prog 19 #[.agg #[.slice a0 D.length c0, .slice a1 n c1, .slice a2 V.length c2], .int .i64 (k : Int)] w fun e w' => e = .returned (.int .i64 (((k + D.length + n * 4 + V.length) : Nat) : Int)) ∧ MarkedR w' lo hi L k a0 a1 a2 c0 c1 c2 D.length n V.length ∧ Kept lo hi w w' := by
  obtain ⟨h0, h1, h2, hin, hlh⟩ := h
  have d01 := hin.d01
  have d02 := hin.d02
  have d12 := hin.d12
  have b0 := hin.b0
  have b1 := hin.b1
  have b2 := hin.b2
  have H0 := Lib.hid h0
  have H1 := Lib.hid h1
  have H2 := Lib.hid h2
  clear h0 h1 h2
  go_enter Try.func19, Try.ntmps19
  go_wp2_with fail
  refine (markZ_any L.l0 L.h0 k a0 D.length c0 D _ (H0.out.alloc _) hl0 (by omega)).mono ?_
  rintro e w1 ⟨rfl, hf, hk2⟩
  have hz1 : w.heap.size < w1.heap.size := by have := hk2.size; simp at this; omega
  have P1 : Hid (Bx w1 w.heap.size [.slice a0 D.length c0, .slice a1 n c1, .slice a2 V.length c2]) := Lib.hid ((Bx.new w [.slice a0 D.length c0, .slice a1 n c1, .slice a2 V.length c2] _).kept hk2 (.inr (by omega)))
  have K1 : Hid (Kept lo hi w w1) := Lib.hid ((Kept.of_below (below1 _ _) (Nat.le_refl _)).trans ⟨hk2.os, hk2.tape, hk2.output, hk2.size, fun i hi1 hi2 => hk2.block i (by omega) hi2⟩)
  have F0_1 := Lib.hid hf
  have F1_1 := Lib.hid ((H1.out.alloc _).kept hk2 (by omega))
  have F2_1 := Lib.hid ((H2.out.alloc _).kept hk2 (by omega))
  clear H0 H1 H2
  clear hf hk2
  have hp0 := P1.out.c 0 rfl
  have hp1 := P1.out.c 1 rfl
  have hp2 := P1.out.c 2 rfl
  go_wp2_with fail
  refine (markDamS_any L.l1 L.h1 (k + D.length) a1 n c1 M _ F1_1.out hl1 (by omega)).mono ?_
  rintro e w2 ⟨rfl, hf, hk2⟩
  clear hp0 hp1 hp2
  have hz2 : w1.heap.size ≤ w2.heap.size := hk2.size
  have P2 : Hid (Bx w2 w.heap.size [.slice a0 D.length c0, .slice a1 n c1, .slice a2 V.length c2]) := Lib.hid (P1.out.kept hk2 (.inr (by omega)))
  have K2 : Hid (Kept lo hi w w2) := Lib.hid (K1.out.trans ⟨hk2.os, hk2.tape, hk2.output, hk2.size, fun i hi1 hi2 => hk2.block i (by omega) hi2⟩)
  have F0_2 := Lib.hid (F0_1.out.kept hk2 (by omega))
  have F1_2 := Lib.hid hf
  have F2_2 := Lib.hid (F2_1.out.kept hk2 (by omega))
  clear P1 K1 F0_1 F1_1 F2_1
  clear hf hk2
  have hp0 := P2.out.c 0 rfl
  have hp1 := P2.out.c 1 rfl
  have hp2 := P2.out.c 2 rfl
  go_wp2_with fail
  refine (markZ_any L.l2 L.h2 (k + D.length + n * 4) a2 V.length c2 V _ F2_2.out hl2 (by omega)).mono ?_
  rintro e w3 ⟨rfl, hf, hk2⟩
  clear hp0 hp1 hp2
  have hz3 : w2.heap.size ≤ w3.heap.size := hk2.size
  have P3 : Hid (Bx w3 w.heap.size [.slice a0 D.length c0, .slice a1 n c1, .slice a2 V.length c2]) := Lib.hid (P2.out.kept hk2 (.inr (by omega)))
  have K3 : Hid (Kept lo hi w w3) := Lib.hid (K2.out.trans ⟨hk2.os, hk2.tape, hk2.output, hk2.size, fun i hi1 hi2 => hk2.block i (by omega) hi2⟩)
  have F0_3 := Lib.hid (F0_2.out.kept hk2 (by omega))
  have F1_3 := Lib.hid (F1_2.out.kept hk2 (by omega))
  have F2_3 := Lib.hid hf
  clear P2 K2 F0_2 F1_2 F2_2
  clear hf hk2
  go_wp2_with fail
  go_ret
  exact ⟨rfl, ⟨F0_3.out, F1_3.out, F2_3.out, hin, Nat.le_trans hlh (by omega)⟩, K3.out⟩

set_option maxHeartbeats 4000000 in
theorem heldRiver_any (lo hi k : Nat) (L : Lay) (a0 a1 a2 : Option Addr) (c0 c1 c2 l0 n l2 : Nat) (w : World) (h : MarkedR w lo hi L k a0 a1 a2 c0 c1 c2 l0 n l2) (hl0 : l0 ≤ 1048576) (hl1 : n ≤ 1048576) (hl2 : l2 ≤ 1048576) (hk : k ≤ 1048576) :
    Calls Try.prog 21 #[.agg #[.slice a0 l0 c0, .slice a1 n c1, .slice a2 l2 c2], .int .i64 (k : Int)] w fun e w' => e = .returned (.int .i64 ((k + l0 + n * 4 + l2 : Nat) : Int)) ∧ Below w.heap.size w w' := by
  have H0 := Lib.hid h.r0
  have H1 := Lib.hid h.r1
  have H2 := Lib.hid h.r2
  clear h
  have h2 : ¬ ((k + l0 : Nat) : Int) < 0 := by omega
  have h3 : ¬ ((k + l0 + n * 4 : Nat) : Int) < 0 := by omega
  have h4 : ¬ ((k + l0 + n * 4 + l2 : Nat) : Int) < 0 := by omega
  go_enter Try.func21, Try.ntmps21
  go_wp2_with fail
  refine (heldZ_any L.l0 L.h0 k a0 l0 c0 _ (H0.out.alloc _) hl0 (by omega)).mono ?_
  rintro e w1 ⟨rfl, rfl⟩
  go_wp2_with fail
  refine (heldDamS_any L.l1 L.h1 (k + l0) a1 n c1 _ (H1.out.alloc _) hl1 (by omega)).mono ?_
  rintro e w1 ⟨rfl, rfl⟩
  go_wp2_with fail
  refine (heldZ_any L.l2 L.h2 (k + l0 + n * 4) a2 l2 c2 _ (H2.out.alloc _) hl2 (by omega)).mono ?_
  rintro e w1 ⟨rfl, rfl⟩
  go_wp2_with fail
  go_ret
  exact ⟨rfl, below1 _ _⟩

end Go.Proofs.Ytckmacnmmloemaa
