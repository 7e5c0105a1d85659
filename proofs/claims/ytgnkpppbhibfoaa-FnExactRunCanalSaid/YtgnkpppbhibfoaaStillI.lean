/- Canals at rest: the program. -/
import Derived.Test.YtgnkpppbhibfoaaCanalA
import Derived.Test.YtgnkpppbhibfoaaBw
namespace Go.Proofs.Ytgnkpppbhibfoaa
open Go.RowKit
set_option linter.unusedVariables false
set_option linter.unusedSimpArgs false
set_option maxRecDepth 100000
attribute [local irreducible] wpV wpList Code.wp

structure CanR where
  n0 : Option Nat
  n1 : Option Nat
  n2 : Option Nat
  hs : List Nat
  fs : List Nat
  ok : Bool
def failCan : CanR := ⟨some 0, some 0, some 0, [], [], false⟩
/-- A canal with a bool: what reads so; in new memory, the rows one behind the other. -/
def CanS (R : CanR) (w : World) (e : Ending) (w' : World) : Prop :=
  ∃ y0 y1 y2 a0 c0 a1 c1, e = .returned (.tuple #[.agg #[.float .f32 y0, .float .f32 y1, .float .f32 y2, .slice a0 R.hs.length c0, .slice a1 R.fs.length c1], .bool R.ok]) ∧ (Is32 R.n0 y0 ∧ Is32 R.n1 y1 ∧ Is32 R.n2 y2) ∧ RowF .f32 w' a0 R.hs ∧ RowF .f32 w' a1 R.fs ∧ R.hs.length ≤ 1048576 ∧ R.fs.length ≤ 1048576 ∧ Below w.heap.size w w'
def CanI (R : CanR) (w : World) (e : Ending) (w' : World) : Prop :=
  ∃ y0 y1 y2 a0 c0 a1 c1 lo mid hi, e = .returned (.tuple #[.agg #[.float .f32 y0, .float .f32 y1, .float .f32 y2, .slice a0 R.hs.length c0, .slice a1 R.fs.length c1], .bool R.ok]) ∧ (Is32 R.n0 y0 ∧ Is32 R.n1 y1 ∧ Is32 R.n2 y2) ∧ FRow w' lo mid (.slice a0 R.hs.length c0) R.hs ∧ FRow w' mid hi (.slice a1 R.fs.length c1) R.fs ∧ w.heap.size ≤ lo ∧ lo ≤ mid ∧ mid ≤ hi ∧ hi ≤ w'.heap.size ∧ R.hs.length ≤ 1048576 ∧ R.fs.length ≤ 1048576 ∧ Below w.heap.size w w'
theorem CanS.no {w w' : World} (hb : Below w.heap.size w w') : CanS failCan w (.returned (.tuple #[.agg #[.float .f32 0, .float .f32 0, .float .f32 0, .slice none 0 0, .slice none 0 0], .bool false])) w' :=
  ⟨0, 0, 0, none, 0, none, 0, rfl, ⟨Is32.c (by decide), Is32.c (by decide), Is32.c (by decide)⟩, .inl rfl, .inl rfl, by decide, by decide, hb⟩
theorem CanI.no {w w' : World} (hb : Below w.heap.size w w') : CanI failCan w (.returned (.tuple #[.agg #[.float .f32 0, .float .f32 0, .float .f32 0, .slice none 0 0, .slice none 0 0], .bool false])) w' :=
  ⟨0, 0, 0, none, 0, none, 0, w'.heap.size, w'.heap.size, w'.heap.size, rfl, ⟨Is32.c (by decide), Is32.c (by decide), Is32.c (by decide)⟩, FRow.nil w' _, FRow.nil w' _, hb.size, Nat.le_refl _, Nat.le_refl _, Nat.le_refl _, by decide, by decide, hb⟩
def noughts (n : Int) : List Nat := List.replicate n.toNat 0
def stillO (N0 N1 N2 : Option Nat) (n : Int) : CanR := if (decide (1 ≤ n) && decide (n ≤ 48)) && canalB N0 N1 N2 (noughts n) (noughts n) then ⟨N0, N1, N2, noughts n, noughts n, true⟩ else failCan
theorem noughts_lt (n : Nat) : ∀ z ∈ List.replicate n 0, z < 4294967296 := by intro z hz; obtain ⟨_, rfl⟩ := List.mem_replicate.1 hz; decide
theorem set_nought (n k : Nat) : (List.replicate n 0).set k 0 = List.replicate n 0 := by
  apply List.ext_getElem (by simp)
  intro i h1 h2
  by_cases h : k = i
  · subst h; simp
  · rw [List.getElem_set_ne h]

set_option maxHeartbeats 2000000 in
theorem evenRow_f (n : Nat) (hn : n ≤ 1048576) (w : World) : Calls Try.prog 81 #[.int .i64 n, .float .f32 0] w fun e w' => e = .returned (.slice (some ⟨w.heap.size, 0, none⟩) n n) ∧ RowO w' w.heap.size (.slice (some ⟨w.heap.size, 0, none⟩) n n) (List.replicate n 0) ∧ Below w.heap.size w w' ∧ w.heap.size < w'.heap.size := by
  go_enter Try.func81, Try.ntmps81
  go_wp2_with (at_make; refine make_any rfl rfl _ _ rfl .i64 .i64 _ _ n rfl rfl rfl rfl hn (lo := w.heap.size) (Nat.le_refl _) ?_)
  intro w1 hown hgrow
  have HB1 := Lib.hid (Below.made (Below.refl w.heap.size w) hgrow (Nat.le_refl _))
  have hlt1 : w.heap.size < w1.heap.size := (hown.lo _ rfl).2
  have HR1 := Lib.hid hown
  clear hown hgrow
  go_wp2_with fail
  go_loopw [11] (fun i wr => ∃ k : Nat, k ≤ n ∧ i = .int .i64 k ∧ Hid (RowO wr w.heap.size (.slice (some ⟨w.heap.size, 0, none⟩) n n) (List.replicate n 0)) ∧ Hid (Below w.heap.size w wr) ∧ w.heap.size < wr.heap.size) (fun i _ => n - (intOf i).toNat)
  case atStart => exact ⟨0, Nat.zero_le _, rfl, HR1, HB1, hlt1⟩
  case round =>
    obtain ⟨k, hk, rfl, HR, HBk, hlt9⟩ := hrel
    by_cases hlt : k < n
    · obtain ⟨hcell, hfz⟩ := HR.out.at (by rw [List.length_replicate]) k (by rw [List.length_replicate]; exact hlt)
      generalize (List.replicate n 0).getD k 0 = old at hcell
      have hki : (k : Int) < (n : Int) := by omega
      have hst := HR.out.store (by rw [List.length_replicate]) k 0
      rw [set_nought] at hst
      have HSt := Lib.hid hst
      have HBn := Lib.hid (HBk.out.setCell (p := ⟨w.heap.size, k, none⟩) (Nat.le_refl _) (.float .f32 0))
      clear hst
      go_wp2_with fail
      go_roundw
      case rel => exact ⟨k + 1, by omega, by go_num, HSt, HBn, by simp; omega⟩
      case measure => simp [intOf]; omega
    · have hkn : k = n := by omega
      subst hkn
      go_wp2_with fail
      go_ret
      exact ⟨rfl, HR.out, HBk.out, hlt9⟩

set_option maxHeartbeats 4000000 in
theorem madeCanal_i {N0 N1 N2 : Option Nat} {n0 n1 n2 : Nat} (a0 a1 : Option Addr) (c0 c1 : Nat) (S O : List Nat) (w : World) (g0 : Is32 N0 n0) (g1 : Is32 N1 n1) (g2 : Is32 N2 n2) (h0 : RowF .f32 w a0 S) (hl0 : S.length ≤ 1048576) (hz0 : ∀ z ∈ S, z < 4294967296) (h1 : RowF .f32 w a1 O) (hl1 : O.length ≤ 1048576) (hz1 : ∀ z ∈ O, z < 4294967296) :
    Calls Try.prog 80 #[.agg #[.float .f32 n0, .float .f32 n1, .float .f32 n2, .slice a0 S.length c0, .slice a1 O.length c1]] w fun e w' => e = .returned (.tuple #[if canalB N0 N1 N2 S O then .agg #[.float .f32 n0, .float .f32 n1, .float .f32 n2, .slice a0 S.length c0, .slice a1 O.length c1] else .agg #[.float .f32 0, .float .f32 0, .float .f32 0, .slice none 0 0, .slice none 0 0], .bool (canalB N0 N1 N2 S O)]) ∧ Below w.heap.size w w' := by
  obtain ⟨cv, hcv⟩ : ∃ b, canalB N0 N1 N2 S O = b := ⟨_, rfl⟩
  rw [hcv]
  have H0 := Lib.hid h0
  have H1 := Lib.hid h1
  have HZ0 := Lib.hid hz0
  have HZ1 := Lib.hid hz1
  clear h0 h1 hz0 hz1
  go_enter Try.func80, Try.ntmps80
  go_wp2_with fail
  refine (validCanal_i a0 a1 c0 c1 S O _ g0 g1 g2 (H0.out.below (bel2 _ _ _) (Nat.le_refl _)) hl0 HZ0.out (H1.out.below (bel2 _ _ _) (Nat.le_refl _)) hl1 HZ1.out).mono ?_
  rintro e w1 ⟨bb, hbb, rfl, hb⟩
  have HB1 : Hid (Below w.heap.size w w1) := Lib.hid ((bel2 w _ _).trans (hb.mono (by simp; omega)))
  have hcc : cv = bb := hcv.symm.trans hbb
  subst hcc
  clear hcv
  have bx : Bx w1 w.heap.size [.float .f32 n0, .float .f32 n1, .float .f32 n2, .slice a0 S.length c0, .slice a1 O.length c1] := Bx.below (Bx.alloc (Bx.new w [.float .f32 n0, .float .f32 n1, .float .f32 n2, .slice a0 S.length c0, .slice a1 O.length c1] _) _) hb (by simp; omega)
  have k0 := bx.c 0 rfl
  have k1 := bx.c 1 rfl
  have k2 := bx.c 2 rfl
  have k3 := bx.c 3 rfl
  have k4 := bx.c 4 rfl
  have bw : Bw w1 (w.heap.size + 1) [.float .f32 0, .float .f32 0, .float .f32 0, .slice none 0 0, .slice none 0 0] := Bw.of5 (by have := hb.size; simp at this; omega) (by rw [hb.cell (p := ⟨w.heap.size + 1, 0, none⟩) (by simp)]; first | (simp [go_sem]; done) | (simp [go_sem]; rfl)) (by rw [hb.cell (p := ⟨w.heap.size + 1, 1, none⟩) (by simp)]; first | (simp [go_sem]; done) | (simp [go_sem]; rfl)) (by rw [hb.cell (p := ⟨w.heap.size + 1, 2, none⟩) (by simp)]; first | (simp [go_sem]; done) | (simp [go_sem]; rfl)) (by rw [hb.cell (p := ⟨w.heap.size + 1, 3, none⟩) (by simp)]; first | (simp [go_sem]; done) | (simp [go_sem]; rfl)) (by rw [hb.cell (p := ⟨w.heap.size + 1, 4, none⟩) (by simp)]; first | (simp [go_sem]; done) | (simp [go_sem]; rfl)) (by rw [hb.frozen (p := ⟨w.heap.size + 1, 0, none⟩) (by simp)]; simp [go_sem]) (by rw [hb.frozen (p := ⟨w.heap.size + 1, 1, none⟩) (by simp)]; simp [go_sem]) (by rw [hb.frozen (p := ⟨w.heap.size + 1, 2, none⟩) (by simp)]; simp [go_sem]) (by rw [hb.frozen (p := ⟨w.heap.size + 1, 3, none⟩) (by simp)]; simp [go_sem]) (by rw [hb.frozen (p := ⟨w.heap.size + 1, 4, none⟩) (by simp)]; simp [go_sem])
  have q0 := bw.c 0 rfl
  have q1 := bw.c 1 rfl
  have q2 := bw.c 2 rfl
  have q3 := bw.c 3 rfl
  have q4 := bw.c 4 rfl
  have f0 := bw.f 0 (by simp)
  have f1 := bw.f 1 (by simp)
  have f2 := bw.f 2 (by simp)
  have f3 := bw.f 3 (by simp)
  have f4 := bw.f 4 (by simp)
  clear hbb bx bw hb
  cases cv
  · go_wp2_with fail
    exact bodyPost_ret (v := .tuple #[.agg #[.float .f32 0, .float .f32 0, .float .f32 0, .slice none 0 0, .slice none 0 0], .bool false]) (by first | (simp [results, Try.results80, go_sem, q0, q1, q2, q3, q4, f0, f1, f2, f3, f4]; done) | (simp (maxDischargeDepth := 12) [results, Try.results80, go_sem, q0, q1, q2, q3, q4, f0, f1, f2, f3, f4]; done) | (simp (maxDischargeDepth := 12) [results, Try.results80, go_sem, q0, q1, q2, q3, q4, f0, f1, f2, f3, f4]; rfl)) rfl ⟨rfl, (by repeat (first | with_reducible exact HB1.out | with_reducible refine beld ?_ _ | (with_reducible refine Below.alloc ?_ ?_ _; rotate_left; exact (by first | (simp; done) | (simp; omega) | omega)) | (with_reducible refine Below.setCell ?_ ?_ _; rotate_left; exact (by first | (simp; done) | (simp; omega) | omega))))⟩
  · go_wp2_with fail
    exact bodyPost_ret (v := .tuple #[.agg #[.float .f32 n0, .float .f32 n1, .float .f32 n2, .slice a0 S.length c0, .slice a1 O.length c1], .bool true]) (by first | (simp [results, Try.results80, go_sem, q0, q1, q2, q3, q4, f0, f1, f2, f3, f4]; done) | (simp (maxDischargeDepth := 12) [results, Try.results80, go_sem, q0, q1, q2, q3, q4, f0, f1, f2, f3, f4]; done) | (simp (maxDischargeDepth := 12) [results, Try.results80, go_sem, q0, q1, q2, q3, q4, f0, f1, f2, f3, f4]; rfl)) rfl ⟨rfl, (by repeat (first | with_reducible exact HB1.out | with_reducible refine beld ?_ _ | (with_reducible refine Below.alloc ?_ ?_ _; rotate_left; exact (by first | (simp; done) | (simp; omega) | omega)) | (with_reducible refine Below.setCell ?_ ?_ _; rotate_left; exact (by first | (simp; done) | (simp; omega) | omega))))⟩

set_option maxHeartbeats 8000000 in
theorem stillCanal_i {N0 N1 N2 : Option Nat} {n0 n1 n2 : Nat} (n : Int) (w : World) (g0 : Is32 N0 n0) (g1 : Is32 N1 n1) (g2 : Is32 N2 n2) :
    Calls Try.prog 25 #[.int .i64 n, .float .f32 n0, .float .f32 n1, .float .f32 n2] w (CanI (stillO N0 N1 N2 n) w) := by
  obtain ⟨Q, hQ⟩ : ∃ Q, stillO N0 N1 N2 n = Q := ⟨_, rfl⟩
  rw [hQ]
  have HQ := Lib.hid hQ
  clear hQ
  go_enter Try.func25, Try.ntmps25
  go_wp2_with fail
  refine (cellCount_o n _).mono ?_
  rintro e w' ⟨bb, hbb, rfl, rfl⟩
  have HC := Lib.hid hbb
  clear hbb
  cases bb
  · have hv : Q = failCan := by rw [← HQ.out]; unfold stillO; rw [HC.out]; rfl
    have HV := Lib.hid hv
    clear hv
    go_wp2_with fail
    rw [HV.out]
    exact bodyPost_ret (v := .tuple #[.agg #[.float .f32 0, .float .f32 0, .float .f32 0, .slice none 0 0, .slice none 0 0], .bool false]) (by first | (simp [results, Try.results25, go_sem]; done) | (simp (maxDischargeDepth := 12) [results, Try.results25, go_sem]; done) | (simp (maxDischargeDepth := 12) [results, Try.results25, go_sem]; rfl)) rfl (CanI.no (by repeat (first | with_reducible exact Below.refl _ _ | with_reducible refine beld ?_ _ | (with_reducible refine Below.alloc ?_ ?_ _; rotate_left; exact (by first | (simp; done) | (simp; omega) | omega)) | (with_reducible refine Below.setCell ?_ ?_ _; rotate_left; exact (by first | (simp; done) | (simp; omega) | omega)))))
  have hcc := HC.out
  rw [Bool.and_eq_true, decide_eq_true_eq, decide_eq_true_eq] at hcc
  obtain ⟨m, rfl⟩ := Int.eq_ofNat_of_zero_le (show 0 ≤ n by omega)
  have hm1 : 1 ≤ m := by omega
  have hm8 : m ≤ 48 := by omega
  clear hcc
  go_wp2_with fail
  refine (evenRow_f m (by omega) _).mono ?_
  rintro e w1 ⟨rfl, hr, hb, hlt1⟩
  have he1 : ∀ o : Obj, (w.alloc o).heap.size = w.heap.size + 1 := fun o => by simp
  rw [he1] at hr hlt1 ⊢
  have HB1 : Hid (Below w.heap.size w w1) := Lib.hid ((bel1 w _).trans (hb.mono (by simp)))
  have bw : Bw w1 w.heap.size [.float .f32 0, .float .f32 0, .float .f32 0, .slice none 0 0, .slice none 0 0] := Bw.of5 (by have := hb.size; simp at this; omega) (by rw [hb.cell (p := ⟨w.heap.size, 0, none⟩) (by simp)]; first | (simp [go_sem]; done) | (simp [go_sem]; rfl)) (by rw [hb.cell (p := ⟨w.heap.size, 1, none⟩) (by simp)]; first | (simp [go_sem]; done) | (simp [go_sem]; rfl)) (by rw [hb.cell (p := ⟨w.heap.size, 2, none⟩) (by simp)]; first | (simp [go_sem]; done) | (simp [go_sem]; rfl)) (by rw [hb.cell (p := ⟨w.heap.size, 3, none⟩) (by simp)]; first | (simp [go_sem]; done) | (simp [go_sem]; rfl)) (by rw [hb.cell (p := ⟨w.heap.size, 4, none⟩) (by simp)]; first | (simp [go_sem]; done) | (simp [go_sem]; rfl)) (by rw [hb.frozen (p := ⟨w.heap.size, 0, none⟩) (by simp)]; simp [go_sem]) (by rw [hb.frozen (p := ⟨w.heap.size, 1, none⟩) (by simp)]; simp [go_sem]) (by rw [hb.frozen (p := ⟨w.heap.size, 2, none⟩) (by simp)]; simp [go_sem]) (by rw [hb.frozen (p := ⟨w.heap.size, 3, none⟩) (by simp)]; simp [go_sem]) (by rw [hb.frozen (p := ⟨w.heap.size, 4, none⟩) (by simp)]; simp [go_sem])
  have HR1 := Lib.hid hr
  have BW1 := Lib.hid bw
  clear hr hb bw
  go_wp2_with fail
  refine (evenRow_f m (by omega) _).mono ?_
  rintro e w2 ⟨rfl, hr, hb, hlt2⟩
  have HB2 : Hid (Below w.heap.size w w2) := Lib.hid (HB1.out.trans (hb.mono HB1.out.size))
  have bw : Bw w2 w.heap.size [.float .f32 0, .float .f32 0, .float .f32 0, .slice none 0 0, .slice none 0 0] := BW1.out.below hb BW1.out.1.1
  have HR2 := Lib.hid hr
  have HR1' := Lib.hid (HR1.out.below hb (Nat.le_refl _))
  have BW2 := Lib.hid bw
  clear hr hb bw HR1 BW1
  have hl9 : (List.replicate m 0).length = m := List.length_replicate
  have r1 : RowF .f32 w2 (some ⟨w.heap.size + 1, 0, none⟩) (List.replicate m 0) := by have h9 := HR1'.out; rw [show (.slice (some ⟨w.heap.size + 1, 0, none⟩) m m : Value) = .slice (some ⟨w.heap.size + 1, 0, none⟩) (List.replicate m 0).length m by rw [hl9]] at h9; exact (FRow.mk h9).row
  have r2 : RowF .f32 w2 (some ⟨w1.heap.size, 0, none⟩) (List.replicate m 0) := by have h9 := HR2.out; rw [show (.slice (some ⟨w1.heap.size, 0, none⟩) m m : Value) = .slice (some ⟨w1.heap.size, 0, none⟩) (List.replicate m 0).length m by rw [hl9]] at h9; exact (FRow.mk h9).row
  have hcall := madeCanal_i (some ⟨w.heap.size + 1, 0, none⟩) (some ⟨w1.heap.size, 0, none⟩) m m (List.replicate m 0) (List.replicate m 0) w2 g0 g1 g2 r1 (by omega) (noughts_lt m) r2 (by omega) (noughts_lt m)
  rw [hl9] at hcall
  have HCall := Lib.hid hcall
  have Hl9 := Lib.hid hl9
  clear r1 r2 hcall hl9
  go_wp2_with fail
  refine HCall.out.mono ?_
  rintro e w3 ⟨rfl, hb⟩
  have HB3 : Hid (Below w.heap.size w w3) := Lib.hid (HB2.out.trans (hb.mono HB2.out.size))
  have bw : Bw w3 w.heap.size [.float .f32 0, .float .f32 0, .float .f32 0, .slice none 0 0, .slice none 0 0] := BW2.out.below hb BW2.out.1.1
  have q0 := bw.c 0 rfl
  have q1 := bw.c 1 rfl
  have q2 := bw.c 2 rfl
  have q3 := bw.c 3 rfl
  have q4 := bw.c 4 rfl
  have f0 := bw.f 0 (by simp)
  have f1 := bw.f 1 (by simp)
  have f2 := bw.f 2 (by simp)
  have f3 := bw.f 3 (by simp)
  have f4 := bw.f 4 (by simp)
  have HR3 := Lib.hid (HR1'.out.below hb (Nat.le_refl _))
  have HR4 := Lib.hid (HR2.out.below hb (Nat.le_refl _))
  have hs3 : w2.heap.size ≤ w3.heap.size := hb.size
  clear bw hb
  obtain ⟨cb, hcb⟩ : ∃ b, canalB N0 N1 N2 (List.replicate m 0) (List.replicate m 0) = b := ⟨_, rfl⟩
  rw [hcb]
  have HCb := Lib.hid hcb
  clear hcb
  cases cb
  · have hv : Q = failCan := by rw [← HQ.out]; unfold stillO noughts; rw [HC.out, Int.toNat_natCast, HCb.out]; rfl
    have HV := Lib.hid hv
    clear hv
    go_wp2_with fail
    rw [HV.out]
    exact bodyPost_ret (v := .tuple #[.agg #[.float .f32 0, .float .f32 0, .float .f32 0, .slice none 0 0, .slice none 0 0], .bool false]) (by first | (simp [results, Try.results25, go_sem, q0, q1, q2, q3, q4, f0, f1, f2, f3, f4]; done) | (simp (maxDischargeDepth := 12) [results, Try.results25, go_sem, q0, q1, q2, q3, q4, f0, f1, f2, f3, f4]; done) | (simp (maxDischargeDepth := 12) [results, Try.results25, go_sem, q0, q1, q2, q3, q4, f0, f1, f2, f3, f4]; rfl)) rfl (CanI.no (by repeat (first | with_reducible exact HB3.out | with_reducible refine beld ?_ _ | (with_reducible refine Below.alloc ?_ ?_ _; rotate_left; exact (by first | (simp; done) | (simp; omega) | omega)) | (with_reducible refine Below.setCell ?_ ?_ _; rotate_left; exact (by first | (simp; done) | (simp; omega) | omega)))))
  have hv : Q = ⟨N0, N1, N2, List.replicate m 0, List.replicate m 0, true⟩ := by rw [← HQ.out]; unfold stillO noughts; rw [HC.out, Int.toNat_natCast, HCb.out]; rfl
  have HV := Lib.hid hv
  clear hv
  go_wp2_with fail
  rw [HV.out]
  have fr : ∀ (W : World) (b lo : Nat), RowO W lo (.slice (some ⟨b, 0, none⟩) m m) (List.replicate m 0) → FRow W lo W.heap.size (.slice (some ⟨b, 0, none⟩) (List.replicate m 0).length m) (List.replicate m 0) := fun W b lo h => by rw [Hl9.out]; exact h.frow
  have WS : ∀ (p q r s t : Value), Below w.heap.size w (((((w3.setCell ⟨w.heap.size, 0, none⟩ p).setCell ⟨w.heap.size, 1, none⟩ q).setCell ⟨w.heap.size, 2, none⟩ r).setCell ⟨w.heap.size, 3, none⟩ s).setCell ⟨w.heap.size, 4, none⟩ t) := fun p q r s t => ((((HB3.out.setCell (Nat.le_refl _) _).setCell (Nat.le_refl _) _).setCell (Nat.le_refl _) _).setCell (Nat.le_refl _) _).setCell (Nat.le_refl _) _
  have RA : ∀ (p q r s t : Value), RowO (((((w3.setCell ⟨w.heap.size, 0, none⟩ p).setCell ⟨w.heap.size, 1, none⟩ q).setCell ⟨w.heap.size, 2, none⟩ r).setCell ⟨w.heap.size, 3, none⟩ s).setCell ⟨w.heap.size, 4, none⟩ t) (w.heap.size + 1) (.slice (some ⟨w.heap.size + 1, 0, none⟩) m m) (List.replicate m 0) := fun p q r s t => ((((HR3.out.setFar (by simp [Value.ownBlock]) _).setFar (by simp [Value.ownBlock]) _).setFar (by simp [Value.ownBlock]) _).setFar (by simp [Value.ownBlock]) _).setFar (by simp [Value.ownBlock]) _
  have hne1 : (Value.slice (some ⟨w1.heap.size, 0, none⟩) m m).ownBlock ≠ some w.heap.size := by simp [Value.ownBlock]; omega
  have RB : ∀ (p q r s t : Value), RowO (((((w3.setCell ⟨w.heap.size, 0, none⟩ p).setCell ⟨w.heap.size, 1, none⟩ q).setCell ⟨w.heap.size, 2, none⟩ r).setCell ⟨w.heap.size, 3, none⟩ s).setCell ⟨w.heap.size, 4, none⟩ t) w1.heap.size (.slice (some ⟨w1.heap.size, 0, none⟩) m m) (List.replicate m 0) := fun p q r s t => ((((HR4.out.setFar hne1 _).setFar hne1 _).setFar hne1 _).setFar hne1 _).setFar hne1 _
  refine bodyPost_ret (v := .tuple #[.agg #[.float .f32 n0, .float .f32 n1, .float .f32 n2, .slice (some ⟨w.heap.size + 1, 0, none⟩) m m, .slice (some ⟨w1.heap.size, 0, none⟩) m m], .bool true]) (by first | (simp [results, Try.results25, go_sem, q0, q1, q2, q3, q4, f0, f1, f2, f3, f4]; done) | (simp (maxDischargeDepth := 12) [results, Try.results25, go_sem, q0, q1, q2, q3, q4, f0, f1, f2, f3, f4]; done) | (simp (maxDischargeDepth := 12) [results, Try.results25, go_sem, q0, q1, q2, q3, q4, f0, f1, f2, f3, f4]; rfl)) rfl ?_
  refine ⟨n0, n1, n2, _, m, _, m, w.heap.size + 1, w1.heap.size, _, by rw [Hl9.out], ⟨g0, g1, g2⟩, ?_, ?_, by omega, by omega, ?_, Nat.le_refl _, by rw [Hl9.out]; omega, by rw [Hl9.out]; omega, WS _ _ _ _ _⟩
  · refine ⟨(fr _ _ _ (RA _ _ _ _ _)).1, fun k hk => ?_, by simp; omega⟩
    simp only [Value.ownBlock, Option.some.injEq] at hk
    omega
  · exact fr _ _ _ (RB _ _ _ _ _)
  · simp; omega

end Go.Proofs.Ytgnkpppbhibfoaa
