/- Waters that back up: the program and its model alike. -/
import Derived.Test.YtfdcfalkidcdnaaSecW
import Derived.Test.YtfdcfalkidcdnaaSecP
import Derived.Test.YtfdcfalkidcdnaaGrow
namespace Go.Proofs.Ytfdcfalkidcdnaa
open Go.RowKit
set_option linter.unusedVariables false
set_option linter.unusedSimpArgs false
set_option maxRecDepth 100000
attribute [local irreducible] wpV wpList Code.wp

/-- A list of numbers, with a bool; in new memory. -/
def ListB (R : List Nat × Bool) (w : World) (e : Ending) (w' : World) : Prop :=
  ∃ a cap, e = .returned (.tuple #[.slice a R.1.length cap, .bool R.2]) ∧ FRow w' w.heap.size w'.heap.size (.slice a R.1.length cap) R.1 ∧ R.1.length ≤ 1048576 ∧ Below w.heap.size w w'
theorem ListB.no {w w' : World} (hb : Below w.heap.size w w') : ListB ([], false) w (.returned (.tuple #[.slice none 0 0, .bool false])) w' :=
  ⟨none, 0, rfl, (FRow.nil w' _), by decide, hb⟩
theorem ListB.yes {w w' : World} {lo : Nat} {v : Value} {zs : List Nat} (h : RowO w' lo v zs) (hlo : w.heap.size ≤ lo) (hl : zs.length ≤ 1048576) (hb : Below w.heap.size w w') : ListB (zs, true) w (.returned (.tuple #[v, .bool true])) w' := by
  obtain ⟨a, cap, rfl⟩ := h.len
  exact ⟨a, cap, rfl, (FRow.mk h).mono hlo (Nat.le_refl _) (Nat.le_refl _), hl, hb⟩

theorem posO_some {X : Option Nat} (h : posO X = true) : ∃ z, X = some z := by
  cases X with
  | none => exact absurd h (by decide)
  | some z => exact ⟨z, rfl⟩
theorem canS_some {A0 A1 A2 A3 X : Option Nat} (h : canS A0 A1 A2 A3 X = true) : ∃ z, X = some z := by
  simp only [canS, Bool.and_eq_true] at h
  exact posO_some h.2
theorem areaS_some {A0 A1 A2 A3 X : Option Nat} (h : (areaS A0 A1 A2 A3 X).2 = true) : ∃ z, X = some z := by
  cases hc : canS A0 A1 A2 A3 X
  · unfold areaS at h; rw [hc] at h; cases h
  · exact canS_some hc
theorem headS_some {A0 A1 A2 A3 X F : Option Nat} (h : (headS A0 A1 A2 A3 X F).2 = true) : ∃ z, X = some z := by
  cases hc : canS A0 A1 A2 A3 X
  · have := headS_no (A0 := A0) (A1 := A1) (A2 := A2) (A3 := A3) (D := X) (F := F) (by unfold bothS; rw [hc]; rfl)
    rw [this] at h; cases h
  · exact canS_some hc
theorem halve_some {H : Option Nat → Bool × Bool} (hH : ∀ X, (H X).2 = true → ∃ z, X = some z) : ∀ (n : Nat) (L U : Option Nat), (∃ l, L = some l) → (∃ u, U = some u) → (halveO H n L U).2.2 = true → ∃ u, (halveO H n L U).2.1 = some u
  | 0, L, U, hL, hU, _ => hU
  | n + 1, L, U, hL, hU, h => by
    cases h2 : (H (fop .quo .f32 (fop .add .f32 L U) (some 1073741824))).2
    · rw [halve_no h2] at h; cases h
    · have hm := hH _ h2
      cases h1 : (H (fop .quo .f32 (fop .add .f32 L U) (some 1073741824))).1
      · rw [halve_lo h2 h1] at h ⊢; exact halve_some hH n _ _ hm hU h
      · rw [halve_hi h2 h1] at h ⊢; exact halve_some hH n _ _ hL hm h
theorem crit_some {A0 A1 A2 A3 F : Option Nat} (h : (critO A0 A1 A2 A3 F).2 = true) : ∃ z, (critO A0 A1 A2 A3 F).1 = some z := by
  unfold critO at h ⊢
  split at h
  · rename_i hc
    rw [if_pos hc]
    refine halve_some (fun X hX => ?_) 40 _ _ ⟨_, rfl⟩ ⟨_, rfl⟩ h
    have hX2 : ((areaS A0 A1 A2 A3 X).2 && (topS A0 A1 A2 A3 X).2) = true := hX
    exact areaS_some (Bool.and_eq_true_iff.1 hX2).1
  · cases h
theorem back_some {A0 A1 A2 A3 D F L : Option Nat} (h : (backO A0 A1 A2 A3 D F L).2 = true) : ∃ z, (backO A0 A1 A2 A3 D F L).1 = some z := by
  unfold backO at h ⊢
  split at h
  · rename_i hc
    rw [if_pos hc]
    simp only [Bool.and_eq_true] at hc
    refine halve_some (fun X hX => ?_) 40 _ _ (crit_some hc.1.1.1.1) ⟨_, rfl⟩ h
    rw [backH_2] at hX
    exact headS_some (Bool.and_eq_true_iff.1 hX).1
  · cases h
/-- The depths upwards. -/
def waterL (A0 A1 A2 A3 F L : Option Nat) : Nat → Option Nat → Option (List Nat)
  | 0, _ => some []
  | n + 1, D => if (backO A0 A1 A2 A3 D F L).2 then (waterL A0 A1 A2 A3 F L n (backO A0 A1 A2 A3 D F L).1).map (fun l => (backO A0 A1 A2 A3 D F L).1.getD 0 :: l) else none
def waterO (A0 A1 A2 A3 D F L : Option Nat) (n : Int) : List Nat × Bool :=
  if bothS A0 A1 A2 A3 D F && posO L && decide (0 ≤ n) && decide (n ≤ 64) then (match waterL A0 A1 A2 A3 F L n.toNat D with | some l => (l, true) | none => ([], false)) else ([], false)
theorem water_no {A0 A1 A2 A3 F L X : Option Nat} {N k : Nat} (h : (backO A0 A1 A2 A3 X F L).2 = false) (hk : k < N) : waterL A0 A1 A2 A3 F L (N - k) X = none := by
  rw [show N - k = (N - (k + 1)) + 1 by omega]
  unfold waterL
  rw [h]; rfl
theorem water_yes {A0 A1 A2 A3 F L X : Option Nat} {N : Nat} {acc : List Nat} {z : Nat} (h : (backO A0 A1 A2 A3 X F L).2 = true) (hz : (backO A0 A1 A2 A3 X F L).1 = some z) (hk : acc.length < N) :
    (waterL A0 A1 A2 A3 F L (N - acc.length) X).map (acc ++ ·) = (waterL A0 A1 A2 A3 F L (N - (acc ++ [z]).length) (some z)).map ((acc ++ [z]) ++ ·) := by
  rw [show N - acc.length = (N - (acc ++ [z]).length) + 1 by simp; omega]
  rw [waterL, if_pos h, hz]
  rw [Option.map_map]
  congr 1
  funext l
  simp
theorem water_end {A0 A1 A2 A3 F L X : Option Nat} {N : Nat} {acc : List Nat} (h : acc.length = N) : (waterL A0 A1 A2 A3 F L (N - acc.length) X).map (acc ++ ·) = some acc := by
  rw [h, Nat.sub_self]; simp [waterL]
set_option maxHeartbeats 1000000 in
theorem l00In_any (n lo hi : Int) (w : World) : Calls Try.prog 75 #[.int .i64 n, .int .i64 lo, .int .i64 hi] w (SayS (decide (lo ≤ n) && decide (n ≤ hi)) w) := by
  by_cases h1 : lo ≤ n
  · by_cases h2 : n ≤ hi
    · go_enter Try.func75, Try.ntmps75
      go_wp2
      go_ret
      exact ⟨_, by simp [h1, h2], rfl, rfl⟩
    · have h3 : ¬ n ≤ hi := h2
      go_enter Try.func75, Try.ntmps75
      go_wp2
      go_ret
      exact ⟨_, by simp [h1, h2], rfl, rfl⟩
  · go_enter Try.func75, Try.ntmps75
    go_wp2
    go_ret
    exact ⟨_, by rw [decide_eq_false (by omega), Bool.false_and], rfl, rfl⟩

set_option maxHeartbeats 8000000 in
theorem backWater_i {A0 A1 A2 A3 D F L : Option Nat} {a0 a1 a2 a3 d f l : Nat} (n : Int) (w : World) (ha0 : Is32 A0 a0) (ha1 : Is32 A1 a1) (ha2 : Is32 A2 a2) (ha3 : Is32 A3 a3) (hd : Is32 D d) (hf : Is32 F f) (hl : Is32 L l) :
    Calls Try.prog 30 #[.agg #[.float .f32 a0, .float .f32 a1, .float .f32 a2, .float .f32 a3], .float .f32 d, .float .f32 f, .float .f32 l, .int .i64 n] w (ListB (waterO A0 A1 A2 A3 D F L n) w) := by
  obtain ⟨R, hR⟩ : ∃ R, waterO A0 A1 A2 A3 D F L n = R := ⟨_, rfl⟩
  rw [hR]
  have HR := Lib.hid hR
  clear hR
  by_cases hn : 0 ≤ n ∧ n ≤ 64
  · obtain ⟨hn0, hn64⟩ := hn
    obtain ⟨N, rfl⟩ := Int.eq_ofNat_of_zero_le hn0
    have hN : N ≤ 64 := by omega
    have hN0 : ¬ (N : Int) < 0 := by omega
    have hN64 : ¬ (64 : Int) < (N : Int) := by omega
    clear hn0 hn64
    go_enter Try.func30, Try.ntmps30
    go_wp2_with fail
    refine (validSection_i _ ha0 ha1 ha2 ha3).mono ?_
    rintro e w1 ⟨b1, hb1, rfl, hb⟩
    have hs1 : w.heap.size + 1 ≤ w1.heap.size := (by have := hb.size; (try simp at this); omega)
    have HB1 := Lib.hid ((bel1 w _).trans (hb.mono (by first | (simp; done) | (simp; omega) | omega)))
    have xa : Bx w1 w.heap.size [.float .f32 a0, .float .f32 a1, .float .f32 a2, .float .f32 a3] := Bx.below (Bx.new w [_, _, _, _] _) hb (by first | (simp; done) | (simp; omega) | omega)
    have ca0 := xa.c 0 rfl
    have ca1 := xa.c 1 rfl
    have ca2 := xa.c 2 rfl
    have ca3 := xa.c 3 rfl
    have Xa1 := Lib.hid xa
    clear xa
    have Hb1 := Lib.hid hb1
    clear hb hb1
    cases b1
    · have hv : R = ([], false) := by rw [← HR.out]; unfold waterO; rw [show bothS A0 A1 A2 A3 D F = false by unfold bothS canS; rw [Hb1.out]; rfl]; rfl
      have HV := Lib.hid hv
      clear hv
      go_wp2_with fail
      go_ret2
      rw [HV.out]
      exact ListB.no HB1.out
    go_wp2_with fail
    refine (isPositive_o _ hd).mono ?_
    rintro e w' ⟨bb, hbb, rfl, rfl⟩
    have Hpd := Lib.hid hbb
    clear hbb
    cases bb
    · have hv : R = ([], false) := by rw [← HR.out]; unfold waterO; rw [show bothS A0 A1 A2 A3 D F = false by unfold bothS canS; rw [Hpd.out, Bool.and_false]; rfl]; rfl
      have HV := Lib.hid hv
      clear hv
      go_wp2_with fail
      go_ret2
      rw [HV.out]
      exact ListB.no HB1.out
    go_wp2_with fail
    refine (isPositive_o _ hf).mono ?_
    rintro e w' ⟨bb, hbb, rfl, rfl⟩
    have Hpf := Lib.hid hbb
    clear hbb
    cases bb
    · have hv : R = ([], false) := by rw [← HR.out]; unfold waterO; rw [show bothS A0 A1 A2 A3 D F = false by unfold bothS; rw [Hpf.out, Bool.and_false]]; rfl
      have HV := Lib.hid hv
      clear hv
      go_wp2_with fail
      go_ret2
      rw [HV.out]
      exact ListB.no HB1.out
    go_wp2_with fail
    refine (isPositive_o _ hl).mono ?_
    rintro e w' ⟨bb, hbb, rfl, rfl⟩
    have Hpl := Lib.hid hbb
    clear hbb
    cases bb
    · have hv : R = ([], false) := by rw [← HR.out]; unfold waterO; rw [Hpl.out, Bool.and_false]; rfl
      have HV := Lib.hid hv
      clear hv
      go_wp2_with fail
      go_ret2
      rw [HV.out]
      exact ListB.no HB1.out
    have hv : (match waterL A0 A1 A2 A3 F L N D with | some l => (l, true) | none => ([], false)) = R := by
      rw [← HR.out]; unfold waterO
      rw [show bothS A0 A1 A2 A3 D F = true by unfold bothS canS; rw [Hb1.out, Hpd.out, Hpf.out]; rfl, Hpl.out, decide_eq_true (show (0 : Int) ≤ (N : Int) by omega), decide_eq_true (show (N : Int) ≤ 64 by omega)]; rfl
    obtain ⟨WL, hWL⟩ : ∃ WL, waterL A0 A1 A2 A3 F L N D = WL := ⟨_, rfl⟩
    rw [hWL] at hv
    have HWL : Hid ((waterL A0 A1 A2 A3 F L (N - ([] : List Nat).length) D).map (([] : List Nat) ++ ·) = WL) := by rw [← hWL]; show Option.map (fun l => l) (waterL A0 A1 A2 A3 F L N D) = _; simp
    have HV := Lib.hid hv
    clear hv hWL
    go_wp2_with (at_make; refine make_any rfl rfl _ _ rfl .i64 .i64 _ _ N rfl rfl rfl rfl (by omega) (lo := w.heap.size + 1) (by omega) ?_)
    intro w2 hown hgrow
    have HB2 := Lib.hid (Below.made HB1.out hgrow HB1.out.size)
    have hs2 : w1.heap.size ≤ w2.heap.size := hgrow.size
    have hg2 : w1.heap.size < w2.heap.size := (hown.lo w1.heap.size rfl).2
    have xa : Bx w2 w.heap.size [.float .f32 a0, .float .f32 a1, .float .f32 a2, .float .f32 a3] := Xa1.out.made hgrow
    clear ca0 ca1 ca2 ca3
    have ca0 := xa.c 0 rfl
    have ca1 := xa.c 1 rfl
    have ca2 := xa.c 2 rfl
    have ca3 := xa.c 3 rfl
    have Xa2 := Lib.hid xa
    clear xa
    have HRow0 : Hid (RowO w2 (w.heap.size + 1) (.slice (some ⟨w1.heap.size, 0, none⟩) N N) (([] : List Nat) ++ List.replicate (N - ([] : List Nat).length) 0)) := Lib.hid (by simpa using hown)
    clear hown hgrow
    go_wp2_with fail
    go_loopw [1, 45] (fun dp i wr => ∃ (acc : List Nat) (X : Option Nat) (x : Nat), acc.length ≤ N ∧ i = .int .i64 (acc.length : Nat) ∧ dp = .float .f32 x ∧ Is32 X x ∧ Hid ((waterL A0 A1 A2 A3 F L (N - acc.length) X).map (acc ++ ·) = WL) ∧ Hid (RowO wr (w.heap.size + 1) (.slice (some ⟨w1.heap.size, 0, none⟩) N N) (acc ++ List.replicate (N - acc.length) 0)) ∧ Hid (Bx wr w.heap.size [.float .f32 a0, .float .f32 a1, .float .f32 a2, .float .f32 a3]) ∧ Hid (Below w.heap.size w wr)) (fun _ i _ => N - (intOf i).toNat)
    case atStart => exact ⟨[], D, d, Nat.zero_le _, rfl, rfl, hd, HWL, HRow0, Xa2, HB2⟩
    case round =>
      obtain ⟨acc, X, x, hk, rfl, rfl, hx, HK, HRow, HX, HBk⟩ := hrel
      clear ca0 ca1 ca2 ca3
      have ca0 := HX.out.c 0 rfl
      have ca1 := HX.out.c 1 rfl
      have ca2 := HX.out.c 2 rfl
      have ca3 := HX.out.c 3 rfl
      obtain ⟨k, hkk⟩ : ∃ k, acc.length = k := ⟨_, rfl⟩
      by_cases hlt : k < N
      · rw [hkk] at hk ⊢
        have Hkk := Lib.hid hkk
        clear hkk
        go_wp2_with fail
        refine (backStep_i _ ha0 ha1 ha2 ha3 hx hf hl).mono ?_
        rintro e w5 ⟨z, bb, rfl, hbb, hz, hb⟩
        have hs5 : wr.heap.size ≤ w5.heap.size := hb.size
        have HB5 := Lib.hid (HBk.out.trans (hb.mono HBk.out.size))
        have hRow := HRow.out.below hb (Nat.le_refl _)
        have xa : Bx w5 w.heap.size [.float .f32 a0, .float .f32 a1, .float .f32 a2, .float .f32 a3] := HX.out.below hb HX.out.1
        clear ca0 ca1 ca2 ca3
        have ca0 := xa.c 0 rfl
        have ca1 := xa.c 1 rfl
        have ca2 := xa.c 2 rfl
        have ca3 := xa.c 3 rfl
        have Xa5 := Lib.hid xa
        clear xa
        have Hbb := Lib.hid hbb
        clear hb hbb
        cases bb
        · have hv : WL = none := by rw [← HK.out, Hkk.out, water_no Hbb.out hlt]; rfl
          have HVn := Lib.hid hv
          clear hv hRow
          go_wp2_with fail
          go_ret2
          have h9 := HV.out
          rw [HVn.out] at h9
          rw [← h9]
          exact ListB.no HB5.out
        · obtain ⟨y, hy⟩ := back_some Hbb.out
          rw [hy] at hz
          obtain rfl := hz.eq
          have hlen : (acc ++ List.replicate (N - acc.length) 0).length = N := fill_len acc N (by rw [Hkk.out]; exact hk)
          obtain ⟨hcell, hfz⟩ := hRow.at hlen.symm k (by rw [hlen]; exact hlt)
          generalize (acc ++ List.replicate (N - acc.length) 0).getD k 0 = old at hcell
          have hst := hRow.store hlen.symm k z
          have hfs := fill_set acc N z (by rw [Hkk.out]; exact hlt)
          rw [Hkk.out] at hfs
          rw [Hkk.out, hfs] at hst
          have Hst := Lib.hid hst
          have Hy := Lib.hid hy
          have hwy := water_yes (acc := acc) Hbb.out hy (by rw [Hkk.out]; exact hlt)
          have Hwy := Lib.hid hwy
          clear hst hfs hlen hRow hy hwy
          go_wp2_with fail
          go_roundw
          case rel => exact ⟨acc ++ [z], _, z, by rw [List.length_append, List.length_singleton, Hkk.out]; omega, by rw [List.length_append, List.length_singleton, Hkk.out]; first | rfl | go_num, rfl, Is32.c hz.2, Lib.hid (Hwy.out.symm.trans HK.out), Hst, Lib.hid (Xa5.out.setFar (by show w1.heap.size ≠ w.heap.size; omega) _), Lib.hid (HB5.out.setCell (by show w.heap.size ≤ w1.heap.size; omega) _)⟩
          case measure => simp [intOf]; omega
      · have hkN : acc.length = N := by omega
        have h8 := HK.out
        rw [water_end hkN] at h8
        have h9 := HV.out
        rw [← h8] at h9
        have H9 := Lib.hid h9
        have hr := HRow.out
        rw [fill_all acc N hkN] at hr
        have Hr := Lib.hid hr
        have hl8 : acc.length ≤ 1048576 := by omega
        clear h8 h9 hr
        have HkN := Lib.hid hkN
        rw [hkN]
        clear hkk hkN hk
        have hNN : ¬ (N : Int) < (N : Int) := by omega
        go_wp2_with fail
        go_ret2
        rw [← H9.out]
        exact ListB.yes Hr.out (by omega) hl8 HBk.out
  · have hv : R = ([], false) := by
      rw [← HR.out]; unfold waterO
      have : (decide (0 ≤ n) && decide (n ≤ 64)) = false := by rw [← Bool.decide_and]; exact decide_eq_false hn
      rw [Bool.and_assoc, this, Bool.and_false]; rfl
    have HV := Lib.hid hv
    clear hv
    go_enter Try.func30, Try.ntmps30
    go_wp2_with fail
    refine (validSection_i _ ha0 ha1 ha2 ha3).mono ?_
    rintro e w1 ⟨b1, hb1, rfl, hb⟩
    have HB1 := Lib.hid ((bel1 w _).trans (hb.mono (by first | (simp; done) | (simp; omega) | omega)))
    clear hb hb1
    cases b1
    · go_wp2_with fail
      go_ret2
      rw [HV.out]
      exact ListB.no HB1.out
    go_wp2_with fail
    refine (isPositive_o _ hd).mono ?_
    rintro e w' ⟨bb, hbb, rfl, rfl⟩
    clear hbb
    cases bb
    · go_wp2_with fail
      go_ret2
      rw [HV.out]
      exact ListB.no HB1.out
    go_wp2_with fail
    refine (isPositive_o _ hf).mono ?_
    rintro e w' ⟨bb, hbb, rfl, rfl⟩
    clear hbb
    cases bb
    · go_wp2_with fail
      go_ret2
      rw [HV.out]
      exact ListB.no HB1.out
    go_wp2_with fail
    refine (isPositive_o _ hl).mono ?_
    rintro e w' ⟨bb, hbb, rfl, rfl⟩
    clear hbb
    cases bb
    · go_wp2_with fail
      go_ret2
      rw [HV.out]
      exact ListB.no HB1.out
    by_cases h0 : n < 0
    · go_wp2_with fail
      go_ret2
      rw [HV.out]
      exact ListB.no HB1.out
    · have h64 : (64 : Int) < n := by omega
      go_wp2_with fail
      go_ret2
      rw [HV.out]
      exact ListB.no HB1.out
    
set_option maxHeartbeats 8000000 in
theorem backWater_s {A0 A1 A2 A3 D F L : Option Nat} {a0 a1 a2 a3 d f l : Nat} (n : Int) (w : World) (ha0 : Is32 A0 a0) (ha1 : Is32 A1 a1) (ha2 : Is32 A2 a2) (ha3 : Is32 A3 a3) (hd : Is32 D d) (hf : Is32 F f) (hl : Is32 L l) :
    Calls Try.prog 29 #[.agg #[.float .f32 a0, .float .f32 a1, .float .f32 a2, .float .f32 a3], .float .f32 d, .float .f32 f, .float .f32 l, .int .i64 n] w (ListB (waterO A0 A1 A2 A3 D F L n) w) := by
  obtain ⟨R, hR⟩ : ∃ R, waterO A0 A1 A2 A3 D F L n = R := ⟨_, rfl⟩
  rw [hR]
  have HR := Lib.hid hR
  clear hR
  go_enter Try.func29, Try.ntmps29
  go_wp2_with fail
  refine (l04Both_o _ _ (Bx.new _ [_, _, _, _] _) ha0 ha1 ha2 ha3 hd hf).mono ?_
  rintro e w1 ⟨b1, hb1, rfl, n1, hw1⟩
  have HB1 : Hid (Below w.heap.size w w1) := Lib.hid (by rw [hw1]; exact beld (bel1 w _) _)
  have hs1 : w.heap.size + 1 ≤ w1.heap.size := by rw [hw1]; simp
  have xa : Bx w1 w.heap.size [.float .f32 a0, .float .f32 a1, .float .f32 a2, .float .f32 a3] := by rw [hw1]; exact (Bx.new w [_, _, _, _] _).drewN _
  have ca0 := xa.c 0 rfl
  have ca1 := xa.c 1 rfl
  have ca2 := xa.c 2 rfl
  have ca3 := xa.c 3 rfl
  have Xa1 := Lib.hid xa
  clear xa
  have Hb1 := Lib.hid hb1
  clear hb1 hw1
  cases b1
  · have hv : R = ([], false) := by rw [← HR.out]; unfold waterO; rw [Hb1.out]; rfl
    have HV := Lib.hid hv
    clear hv
    go_wp2_with fail
    go_ret2
    rw [HV.out]
    exact ListB.no HB1.out
  go_wp2_with fail
  refine (l02Above_o _ hl).mono ?_
  rintro e w2 ⟨bb, hbb, rfl, n2, hw2⟩
  have HB2 : Hid (Below w.heap.size w w2) := Lib.hid (by rw [hw2]; exact beld HB1.out _)
  have hs2 : w.heap.size + 1 ≤ w2.heap.size := by rw [hw2]; exact hs1
  have xa : Bx w2 w.heap.size [.float .f32 a0, .float .f32 a1, .float .f32 a2, .float .f32 a3] := by rw [hw2]; exact Xa1.out.drewN _
  clear ca0 ca1 ca2 ca3
  have ca0 := xa.c 0 rfl
  have ca1 := xa.c 1 rfl
  have ca2 := xa.c 2 rfl
  have ca3 := xa.c 3 rfl
  have Xa2 := Lib.hid xa
  clear xa
  have Hpl := Lib.hid hbb
  clear hbb hw2
  cases bb
  · have hv : R = ([], false) := by rw [← HR.out]; unfold waterO; rw [Hpl.out, Bool.and_false]; rfl
    have HV := Lib.hid hv
    clear hv
    go_wp2_with fail
    go_ret2
    rw [HV.out]
    exact ListB.no HB2.out
  go_wp2_with fail
  refine (l00In_any n 0 64 _).mono ?_
  rintro e w' ⟨bb, hbb, rfl, rfl⟩
  have Hn := Lib.hid hbb
  clear hbb
  cases bb
  · have hv : R = ([], false) := by rw [← HR.out]; unfold waterO; rw [Bool.and_assoc, Hn.out, Bool.and_false]; rfl
    have HV := Lib.hid hv
    clear hv
    go_wp2_with fail
    go_ret2
    rw [HV.out]
    exact ListB.no HB2.out
  have hn2 := Hn.out
  rw [Bool.and_eq_true, decide_eq_true_eq, decide_eq_true_eq] at hn2
  obtain ⟨hn0, hn64⟩ := hn2
  obtain ⟨N, rfl⟩ := Int.eq_ofNat_of_zero_le hn0
  have hN : N ≤ 64 := by omega
  clear hn0 hn64
  have hv : (match waterL A0 A1 A2 A3 F L N D with | some l => (l, true) | none => ([], false)) = R := by
    rw [← HR.out]; unfold waterO
    rw [Hb1.out, Hpl.out, decide_eq_true (show (0 : Int) ≤ (N : Int) by omega), decide_eq_true (show (N : Int) ≤ 64 by omega)]; rfl
  obtain ⟨WL, hWL⟩ : ∃ WL, waterL A0 A1 A2 A3 F L N D = WL := ⟨_, rfl⟩
  rw [hWL] at hv
  have HWL : Hid ((waterL A0 A1 A2 A3 F L (N - ([] : List Nat).length) D).map (([] : List Nat) ++ ·) = WL) := by rw [← hWL]; show Option.map (fun l => l) (waterL A0 A1 A2 A3 F L N D) = _; simp
  have HV := Lib.hid hv
  clear hv hWL
  have HRow0 : Hid (RowO (w2.alloc (.cells #[] 22)) (w.heap.size + 1) (.slice (some ⟨w2.heap.size, 0, none⟩) 0 0) []) := Lib.hid (World.ownsRow_lit (base := w.heap.size + 1) (e := 22) (size := 1) w2 #[] 0 hs2 (by simp [maxLen]) rfl)
  have Xa3 := Lib.hid (Xa2.out.alloc (.cells #[] 22))
  have HB3 := Lib.hid (HB2.out.alloc HB2.out.size (.cells #[] 22))
  go_wp2_with fail
  go_loopw [1, 12, 13] (fun dp v i wr => ∃ (acc : List Nat) (X : Option Nat) (x : Nat), acc.length ≤ N ∧ i = .int .i64 (acc.length : Nat) ∧ dp = .float .f32 x ∧ Is32 X x ∧ Hid ((waterL A0 A1 A2 A3 F L (N - acc.length) X).map (acc ++ ·) = WL) ∧ Hid (RowO wr (w.heap.size + 1) v acc) ∧ Hid (Bx wr w.heap.size [.float .f32 a0, .float .f32 a1, .float .f32 a2, .float .f32 a3]) ∧ Hid (Below w.heap.size w wr)) (fun _ _ i _ => N - (intOf i).toNat)
  case atStart => exact ⟨[], D, d, Nat.zero_le _, rfl, rfl, hd, HWL, HRow0, Xa3, HB3⟩
  case round =>
    obtain ⟨acc, X, x, hk, rfl, rfl, hx, HK, HRow, HX, HBk⟩ := hrel
    clear ca0 ca1 ca2 ca3
    have ca0 := HX.out.c 0 rfl
    have ca1 := HX.out.c 1 rfl
    have ca2 := HX.out.c 2 rfl
    have ca3 := HX.out.c 3 rfl
    obtain ⟨k, hkk⟩ : ∃ k, acc.length = k := ⟨_, rfl⟩
    by_cases hlt : k < N
    · rw [hkk] at hk ⊢
      have Hkk := Lib.hid hkk
      clear hkk
      go_wp2_with fail
      refine (backStep_s _ ha0 ha1 ha2 ha3 hx hf hl).mono ?_
      rintro e w5 ⟨z, bb, rfl, hbb, hz, hb⟩
      have hs5 : wr.heap.size ≤ w5.heap.size := hb.size
      have HB5 := Lib.hid (HBk.out.trans (hb.mono HBk.out.size))
      have hRow := HRow.out.below hb (Nat.le_refl _)
      have xa : Bx w5 w.heap.size [.float .f32 a0, .float .f32 a1, .float .f32 a2, .float .f32 a3] := HX.out.below hb HX.out.1
      clear ca0 ca1 ca2 ca3
      have ca0 := xa.c 0 rfl
      have ca1 := xa.c 1 rfl
      have ca2 := xa.c 2 rfl
      have ca3 := xa.c 3 rfl
      have Xa5 := Lib.hid xa
      clear xa
      have Hbb := Lib.hid hbb
      clear hb hbb
      cases bb
      · have hv : WL = none := by rw [← HK.out, Hkk.out, water_no Hbb.out hlt]; rfl
        have HVn := Lib.hid hv
        clear hv hRow
        go_wp2_with fail
        go_ret2
        have h9 := HV.out
        rw [HVn.out] at h9
        rw [← h9]
        exact ListB.no HB5.out
      · obtain ⟨y, hy⟩ := back_some Hbb.out
        rw [hy] at hz
        obtain rfl := hz.eq
        have Hrow := Lib.hid hRow
        have Hy := Lib.hid hy
        have hwy := water_yes (acc := acc) Hbb.out hy (by rw [Hkk.out]; exact hlt)
        have Hwy := Lib.hid hwy
        have hb5 : w.heap.size + 1 ≤ w5.heap.size := by have := HB5.out.size; have := Xa5.out.1; omega
        have Hz2 := Lib.hid hz.2
        clear hRow hy hwy hz
        have hcell : (w5.alloc (.cells #[.float .f32 z] 22)).cell? ⟨w5.heap.size, 0, none⟩ = some (.float .f32 z) := (Bx.new w5 [.float .f32 z] 22).c 0 rfl
        have Hcell := Lib.hid hcell
        clear hcell
        have hl9 : acc.length ≤ 1048576 := by rw [Hkk.out]; omega
        have Hl9 := Lib.hid hl9
        clear hl9
        go_wp2_with (at_builtin; refine push_any rfl rfl _ _ rfl rfl (Hrow.out.alloc _) w5.heap.size _ z rfl Hcell.out Hl9.out (by simp; omega) ?_)
        intro g9 cap9 w9 hrow9 hp9
        rw [Hkk.out] at hrow9 ⊢
        have HBn := Lib.hid (Below.pushed (HB5.out.alloc HB5.out.size _) hp9 (Hrow.out.alloc _) (by omega) (by simp; omega))
        have Xan := Lib.hid ((Xa5.out.alloc _).pushed hp9 (Hrow.out.alloc _) (by omega))
        have Hrow9 := Lib.hid hrow9
        clear hrow9 hp9
        go_wp2_with fail
        go_roundw
        case rel => exact ⟨acc ++ [z], _, z, by rw [List.length_append, List.length_singleton, Hkk.out]; omega, by rw [List.length_append, List.length_singleton, Hkk.out]; first | rfl | go_num, rfl, Is32.c Hz2.out, Lib.hid (Hwy.out.symm.trans HK.out), Hrow9, Xan, HBn⟩
        case measure => simp [intOf]; omega
    · have hkN : acc.length = N := by omega
      have h8 := HK.out
      rw [water_end hkN] at h8
      have h9 := HV.out
      rw [← h8] at h9
      have H9 := Lib.hid h9
      have hl8 : acc.length ≤ 1048576 := by omega
      clear h8 h9
      have HkN := Lib.hid hkN
      rw [hkN]
      clear hkk hkN hk
      have hNN : ¬ (N : Int) < (N : Int) := by omega
      go_wp2_with fail
      go_ret2
      rw [← H9.out]
      exact ListB.yes HRow.out (by omega) hl8 HBk.out

end Go.Proofs.Ytfdcfalkidcdnaa
