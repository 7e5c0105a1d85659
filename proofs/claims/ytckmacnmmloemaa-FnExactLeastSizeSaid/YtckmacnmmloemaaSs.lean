/- Slices of slices of integers: the laws' helpers. -/
import Derived.Test.YtckmacnmmloemaaSsD
namespace Go.Proofs.Ytckmacnmmloemaa
open Go.RowKit
set_option linter.unusedVariables false
set_option linter.unusedSimpArgs false
set_option maxRecDepth 100000
attribute [local irreducible] wpV wpList Code.wp

theorem eqZ_q (a a' : Option Addr) (cap cap' : Nat) (zs : List Int) (w : World) (h : RowC w a (ic zs)) (h' : RowC w a' (ic zs)) (hl : zs.length ≤ 1048576) :
    Calls Try.prog 18 #[.slice a zs.length cap, .slice a' zs.length cap'] w fun e w' => e = .returned (.bool true) ∧ ∃ n, w' = w.drewN n := by
  rcases h.ints with rfl | ⟨b, off, rfl, _, hc⟩
  · exact eqZ_nil a a' cap cap' w
  · rcases h'.ints with rfl | ⟨b', off', rfl, _, hc'⟩
    · exact eqZ_nil _ _ cap cap' w
    · exact eqZ_row b off cap b' off' cap' zs w hc hc' hl
theorem szSS_fits (a : Option Addr) (cap : Nat) (Zs : List (List Int)) (left : Int) (w : World) (hr : RowSS w a Zs) (h : (Zs.length : Int) + (totZ Zs Zs.length : Int) ≤ left) (hl : left ≤ 1048576) :
    Calls Try.prog 23 #[.slice a Zs.length cap, .int .i64 left] w fun e w' => e = .returned (.int .i64 (left - Zs.length - totZ Zs Zs.length)) ∧ w = w' := by
  obtain ⟨len, hlen⟩ : ∃ len, Zs.length = len := ⟨_, rfl⟩
  have H := Lib.hid hr
  have Hlen := Lib.hid hlen
  rw [hlen] at h ⊢
  clear hr hlen
  have h2 : ¬ left - (len : Int) < 0 := by omega
  go_enter Try.func23, Try.ntmps23
  go_wp2_with fail
  go_loopw [1, 5] (fun c iv wr => ∃ k : Nat, k ≤ len ∧ iv = .int .i64 (k : Int) ∧ c = .int .i64 (left - len - totZ Zs k) ∧ wr = w) (fun _ iv _ => len - (intOf iv).toNat)
  case atStart => exact ⟨0, Nat.zero_le _, rfl, by simp [totZ_zero], rfl⟩
  case round =>
    obtain ⟨k, hk, rfl, rfl, rfl⟩ := hrel
    have hk0 : (0 : Int) ≤ (k : Int) := by omega
    by_cases hlt : k < len
    · have hk1 : (k : Int) < (len : Int) := by omega
      have hs := totZ_succ Zs k
      have hle := totZ_le Zs (show k + 1 ≤ len by omega)
      obtain ⟨b, off, rfl, hb, hc⟩ : ∃ b off, a = some ⟨b, off, none⟩ ∧ b < wr.heap.size ∧ ∀ k, k < Zs.length → ∃ ak ck, wr.cell? ⟨b, off + k, none⟩ = some (.slice ak (zr Zs k).length ck) ∧ RowC wr ak (ic (zr Zs k)) := by
        rcases H.out with h0 | h0
        · have h9 := Hlen.out; rw [h0, List.length_nil] at h9; omega
        · exact h0
      obtain ⟨ak, ck, hcell, hrow⟩ := hc k (by rw [Hlen.out]; exact hlt)
      obtain ⟨lk, hlk⟩ : ∃ l, (zr Zs k).length = l := ⟨_, rfl⟩
      rw [hlk] at hs hcell
      obtain ⟨tk, htk⟩ : ∃ t, totZ Zs k = t := ⟨_, rfl⟩
      obtain ⟨tn, htn⟩ : ∃ t, totZ Zs len = t := ⟨_, rfl⟩
      rw [htk] at hs ⊢
      rw [htn] at h hle
      rw [hs] at hle
      have Hs := Lib.hid hs
      clear hs hc hrow hlk htk
      have hn : ¬ left - (len : Int) - (tk : Int) - (lk : Int) < 0 := by omega
      go_wp2_with fail
      refine (szZ_fits ak lk ck _ (by omega) (by omega) _).mono ?_
      rintro e w' ⟨rfl, rfl⟩
      go_wp2_with fail
      go_roundw
      case rel => exact ⟨k + 1, by omega, by go_num, by rw [Hs.out]; congr 1; omega, by first | trivial | rfl⟩
      case measure => simp [intOf]; omega
    · obtain rfl : k = len := by omega
      go_wp2_with fail
      go_ret
      exact ⟨rfl, rfl⟩
theorem szSS_not (a : Option Addr) (cap : Nat) (Zs : List (List Int)) (left : Int) (w : World) (hr : RowSS w a Zs) (h : left < (Zs.length : Int) + (totZ Zs Zs.length : Int)) (h0 : 0 ≤ left) (hl : left ≤ 1048576) (hm : Zs.length ≤ 9223372036854775807) (hrm : ∀ k, k < Zs.length → (zr Zs k).length ≤ 9223372036854775807) :
    Calls Try.prog 23 #[.slice a Zs.length cap, .int .i64 left] w fun e w' => e = .returned (.int .i64 (-1)) ∧ w = w' := by
  obtain ⟨len, hlen⟩ : ∃ len, Zs.length = len := ⟨_, rfl⟩
  have H := Lib.hid hr
  have Hlen := Lib.hid hlen
  have Hrm := Lib.hid hrm
  rw [hlen] at h hm ⊢
  clear hr hlen hrm
  have hneg : ((-1 : Int) < 0) := by decide
  by_cases h2 : left - (len : Int) < 0
  · go_enter Try.func23, Try.ntmps23
    go_wp2_with fail
    go_ret
    exact ⟨rfl, rfl⟩
  go_enter Try.func23, Try.ntmps23
  go_wp2_with fail
  go_loopw [1, 5] (fun c iv wr => ∃ k : Nat, k ≤ len ∧ iv = .int .i64 (k : Int) ∧ c = .int .i64 (left - len - totZ Zs k) ∧ Hid (0 ≤ left - (len : Int) - (totZ Zs k : Int)) ∧ wr = w) (fun _ iv _ => len - (intOf iv).toNat)
  case atStart => exact ⟨0, Nat.zero_le _, rfl, by simp [totZ_zero], Lib.hid (by rw [totZ_zero]; omega), rfl⟩
  case round =>
    obtain ⟨k, hk, rfl, rfl, HG, rfl⟩ := hrel
    have hk0 : (0 : Int) ≤ (k : Int) := by omega
    by_cases hlt : k < len
    · have hk1 : (k : Int) < (len : Int) := by omega
      have hs := totZ_succ Zs k
      have hg := HG.out
      obtain ⟨b, off, rfl, hb, hc⟩ : ∃ b off, a = some ⟨b, off, none⟩ ∧ b < wr.heap.size ∧ ∀ k, k < Zs.length → ∃ ak ck, wr.cell? ⟨b, off + k, none⟩ = some (.slice ak (zr Zs k).length ck) ∧ RowC wr ak (ic (zr Zs k)) := by
        rcases H.out with h0 | h0
        · have h9 := Hlen.out; rw [h0, List.length_nil] at h9; omega
        · exact h0
      obtain ⟨ak, ck, hcell, hrow⟩ := hc k (by rw [Hlen.out]; exact hlt)
      have hlm := Hrm.out k (by rw [Hlen.out]; exact hlt)
      obtain ⟨lk, hlk⟩ : ∃ l, (zr Zs k).length = l := ⟨_, rfl⟩
      rw [hlk] at hs hcell hlm
      obtain ⟨tk, htk⟩ : ∃ t, totZ Zs k = t := ⟨_, rfl⟩
      rw [htk] at hs hg ⊢
      have Hs := Lib.hid hs
      clear hs hc hrow hlk htk
      by_cases hn : left - (len : Int) - (tk : Int) - (lk : Int) < 0
      · go_wp2_with fail
        refine (szZ_not ak lk ck _ (by omega) (by omega) (by omega) hlm _).mono ?_
        rintro e w' ⟨rfl, rfl⟩
        go_wp2_with fail
        go_ret
        exact ⟨rfl, rfl⟩
      · go_wp2_with fail
        refine (szZ_fits ak lk ck _ (by omega) (by omega) _).mono ?_
        rintro e w' ⟨rfl, rfl⟩
        go_wp2_with fail
        go_roundw
        case rel => exact ⟨k + 1, by omega, by go_num, by rw [Hs.out]; congr 1; omega, Lib.hid (by rw [Hs.out]; omega), by first | trivial | rfl⟩
        case measure => simp [intOf]; omega
    · obtain rfl : k = len := by omega
      have h9 := HG.out
      exact absurd h9 (by omega)
theorem info_zs : (Try.prog.info? 22).map (fun i => (i.zero, i.size, i.bytes)) = some (some (.slice none 0 0), 1, 24) := by kernel_rfl
/-- The first k rows; the others are empty. -/
def someZ (Zs : List (List Int)) (k : Nat) : List (List Int) := Zs.take k ++ List.replicate (Zs.length - k) []
theorem someZ_length (Zs : List (List Int)) (k : Nat) (h : k ≤ Zs.length) : (someZ Zs k).length = Zs.length := by simp [someZ]; omega
theorem someZ_all (Zs : List (List Int)) : someZ Zs Zs.length = Zs := by simp [someZ]
theorem someZ_set (Zs : List (List Int)) (k : Nat) (h : k < Zs.length) : (someZ Zs k).set k (zr Zs k) = someZ Zs (k + 1) := by
  unfold someZ zr
  have e : Zs.getD k [] = Zs[k] := by rw [List.getD_eq_getElem?_getD, List.getElem?_eq_getElem h]; rfl
  rw [e, List.set_append_right _ _ (by simp; omega)]
  have e2 : k - (Zs.take k).length = 0 := by simp; omega
  rw [e2, show Zs.length - k = (Zs.length - (k + 1)) + 1 by omega, List.replicate_succ, List.set_cons_zero, List.take_succ_eq_append_getElem h, List.append_assoc]
  rfl
theorem zr_rep (n k : Nat) : zr (List.replicate n []) k = [] := by
  unfold zr
  rw [List.getD_eq_getElem?_getD, List.getElem?_replicate]
  split <;> rfl
theorem MadeSS.blank {w : World} {lo g n : Nat} (h : w.ownsRow lo 22 1 (.slice (some ⟨g, 0, none⟩) n n) n (List.replicate n (.slice none 0 0))) : MadeSS w g (g + 1) (g + 1) w.heap.size (.slice (some ⟨g, 0, none⟩) n n) n (List.replicate n []) (List.replicate n (.slice none 0 0)) := by
  have hn : ∀ (k : Nat) u, (List.replicate n (Value.slice none 0 0))[k]? = some u → u = .slice none 0 0 := fun k u hk => by
    rw [List.getElem?_replicate] at hk
    split at hk
    · cases hk; rfl
    · cases hk
  refine ⟨HRow.one h, List.length_replicate, fun k hk => ⟨none, 0, ?_, ?_⟩, fun k u b hk hb => ?_, fun j k u t b _ hj _ hb => ?_, Nat.le_refl _⟩
  · rw [zr_rep, List.getElem?_replicate, if_pos hk]; rfl
  · rw [zr_rep]; exact HRow.nil _ _ _ _
  · rw [hn k u hk] at hb; cases hb
  · rw [hn j u hj] at hb; cases hb
set_option maxHeartbeats 2000000 in
theorem copySS_any (a : Option Addr) (cap : Nat) (Zs : List (List Int)) (w : World) (hr : RowSS w a Zs) (hl : Zs.length ≤ 1048576) (hrl : ∀ k, k < Zs.length → (zr Zs k).length ≤ 1048576) :
    Calls Try.prog 25 #[.slice a Zs.length cap] w fun e w' => ∃ a' c' p, e = .returned (.slice a' Zs.length c') ∧ Below w.heap.size w w' ∧ w.heap.size ≤ p ∧ HSS w' p (p + 1) (p + 1) w'.heap.size (.slice a' Zs.length c') Zs.length Zs := by
  obtain ⟨i0, hi, hz0, hz1, hz2⟩ := info_parts info_zs
  obtain ⟨len, hlen⟩ : ∃ len, Zs.length = len := ⟨_, rfl⟩
  have H := Lib.hid hr
  have Hlen := Lib.hid hlen
  have Hrl := Lib.hid hrl
  rw [hlen] at hl ⊢
  clear hr hlen hrl
  go_enter Try.func25, Try.ntmps25
  go_wp2_with (first | (at_make; refine wpList_make_full _ rfl _ _ 39 rfl w.heap.size 22 i0 (.slice none 0 0) 1 Try.underlying39 hi hz0 hz1 _ _ _ _ len rfl rfl rfl rfl (by rw [hz2]; omega) (by unfold maxLen; omega) (Nat.le_refl _) ?_) | go_in)
  intro w1 hown hgrow
  have hown' : w1.ownsRow w.heap.size 22 1 (.slice (some ⟨w.heap.size, 0, none⟩) len len) len (List.replicate len (.slice none 0 0)) := by
    rw [← toList_madeCells_one]
    exact hown
  have HM1 : Hid (MadeSS w1 w.heap.size (w.heap.size + 1) (w.heap.size + 1) w1.heap.size (.slice (some ⟨w.heap.size, 0, none⟩) len len) len (someZ Zs 0) (List.replicate len (.slice none 0 0))) := Lib.hid (by
    have h9 := MadeSS.blank hown'
    unfold someZ
    rw [Nat.sub_zero, Hlen.out, List.take_zero, List.nil_append]
    exact h9)
  have hb1 : Below w.heap.size w w1 := (Below.refl _ _).grown hgrow (Nat.le_refl _) (fun k h => by cases h)
  have HB1 := Lib.hid hb1
  obtain ⟨g, hg⟩ : ∃ g, w.heap.size = g := ⟨_, rfl⟩
  have Hg := Lib.hid hg
  rw [hg] at HM1 HB1 ⊢
  clear hown hgrow hown' hb1 hg
  go_wp2_with fail
  go_loopw [4] (fun iv wr => ∃ k : Nat, ∃ S, k ≤ len ∧ iv = .int .i64 (k : Int) ∧ Hid (MadeSS wr g (g + 1) (g + 1) wr.heap.size (.slice (some ⟨g, 0, none⟩) len len) len (someZ Zs k) S) ∧ Hid (Below g w wr)) (fun iv _ => len - (intOf iv).toNat)
  case atStart => exact ⟨0, _, Nat.zero_le _, rfl, HM1, HB1⟩
  case round =>
    clear HM1 HB1
    obtain ⟨k, S, hk, rfl, HM, HB⟩ := hrel
    have hk0 : (0 : Int) ≤ (k : Int) := by omega
    by_cases hlt : k < len
    · have hk1 : (k : Int) < (len : Int) := by omega
      obtain ⟨b, off, rfl, hb, hc⟩ : ∃ b off, a = some ⟨b, off, none⟩ ∧ b < wr.heap.size ∧ ∀ k, k < Zs.length → ∃ ak ck, wr.cell? ⟨b, off + k, none⟩ = some (.slice ak (zr Zs k).length ck) ∧ RowC wr ak (ic (zr Zs k)) := by
        rcases H.out.below HB.out (Nat.le_of_eq Hg.out) with h0 | h0
        · have h9 := Hlen.out; rw [h0, List.length_nil] at h9; omega
        · exact h0
      obtain ⟨ak, ck, hcell, hrow⟩ := hc k (by rw [Hlen.out]; exact hlt)
      have hlk := Hrl.out k (by rw [Hlen.out]; exact hlt)
      have hset := someZ_set Zs k (by rw [Hlen.out]; exact hlt)
      obtain ⟨z, hz⟩ : ∃ z, zr Zs k = z := ⟨_, rfl⟩
      rw [hz] at hcell hrow hlk hset
      have HC := Lib.hid (copyZ_any ak ck z wr hrow hlk)
      have Hset := Lib.hid hset
      clear hc hrow hz hset
      go_wp2_with fail
      refine HC.out.mono ?_
      rintro e w2 ⟨a2, c2, rfl, hb2, hr2⟩
      have hq9 := HM.out.out.2.2
      have HM2 := Lib.hid (HM.out.below hb2 ⟨hq9, Nat.le_refl _⟩)
      have Hq9 := Lib.hid hq9
      have HB2 : Hid (Below g w w2) := Lib.hid (HB.out.trans (hb2.mono (by have h9 := HB.out.size; have h8 := Hg.out; omega)))
      have HR2 := Lib.hid hr2
      have HS2 := Lib.hid hb2.size
      clear hcell HC hb2 hr2 hq9
      obtain ⟨u0, hu0⟩ : ∃ u, S[k]? = some u := ⟨_, List.getElem?_eq_getElem (by rw [HM2.out.slen]; exact hlt)⟩
      have hcg := HM2.out.out.1.cellAt k (by omega)
      rw [hu0] at hcg
      have hfg := HM2.out.out.1.frozenAt k
      have hput := MadeSS.put HM2.out hlt HR2.out HS2.out Hq9.out Hq9.out
      rw [Hset.out] at hput
      have HP := Lib.hid hput
      clear hput hu0
      go_wp2_with fail
      go_roundw
      case rel => exact ⟨k + 1, _, by omega, by go_num, Lib.hid (by rw [setCell_size]; exact HP.out), Lib.hid (HB2.out.setCell (by show g ≤ g; exact Nat.le_refl _) _)⟩
      case measure => simp [intOf]; omega
    · obtain rfl : k = len := by omega
      go_wp2_with fail
      go_ret
      refine ⟨some ⟨g, 0, none⟩, k, g, rfl, by rw [Hg.out]; exact HB.out, Nat.le_of_eq Hg.out, S, ?_⟩
      have h9 := HM.out
      rw [← Hlen.out, someZ_all] at h9
      rw [← Hlen.out]
      exact h9
set_option maxHeartbeats 2000000 in
theorem eqSS_any (a a' : Option Addr) (cap cap' : Nat) (Zs : List (List Int)) (w : World) (h : RowSS w a Zs) (h' : RowSS w a' Zs) (hl : Zs.length ≤ 1048576) (hrl : ∀ k, k < Zs.length → (zr Zs k).length ≤ 1048576) :
    Calls Try.prog 27 #[.slice a Zs.length cap, .slice a' Zs.length cap'] w fun e w' => e = .returned (.bool true) ∧ Below w.heap.size w w' := by
  obtain ⟨len, hlen⟩ : ∃ len, Zs.length = len := ⟨_, rfl⟩
  have H := Lib.hid h
  have H' := Lib.hid h'
  have Hlen := Lib.hid hlen
  have Hrl := Lib.hid hrl
  rw [hlen] at hl ⊢
  clear h h' hlen hrl
  go_enter Try.func27, Try.ntmps27
  go_wp2_with fail
  go_loopw [5] (fun iv wr => ∃ k n : Nat, k ≤ len ∧ iv = .int .i64 (k : Int) ∧ wr = w.drewN n) (fun iv _ => len - (intOf iv).toNat)
  case atStart => exact ⟨0, 0, Nat.zero_le _, rfl, rfl⟩
  case round =>
    obtain ⟨k, n, hk, rfl, hwr⟩ := hrel
    have hk0 : (0 : Int) ≤ (k : Int) := by omega
    by_cases hlt : k < len
    · have hk1 : (k : Int) < (len : Int) := by omega
      obtain ⟨b, off, rfl, hb, hc⟩ : ∃ b off, a = some ⟨b, off, none⟩ ∧ b < w.heap.size ∧ ∀ k, k < Zs.length → ∃ ak ck, w.cell? ⟨b, off + k, none⟩ = some (.slice ak (zr Zs k).length ck) ∧ RowC w ak (ic (zr Zs k)) := by
        rcases H.out with h0 | h0
        · have h9 := Hlen.out; rw [h0, List.length_nil] at h9; omega
        · exact h0
      obtain ⟨b', off', rfl, hb', hc'⟩ : ∃ b off, a' = some ⟨b, off, none⟩ ∧ b < w.heap.size ∧ ∀ k, k < Zs.length → ∃ ak ck, w.cell? ⟨b, off + k, none⟩ = some (.slice ak (zr Zs k).length ck) ∧ RowC w ak (ic (zr Zs k)) := by
        rcases H'.out with h0 | h0
        · have h9 := Hlen.out; rw [h0, List.length_nil] at h9; omega
        · exact h0
      obtain ⟨ak, ck, hcell, hrow⟩ := hc k (by rw [Hlen.out]; exact hlt)
      obtain ⟨ek, dk, hcell', hrow'⟩ := hc' k (by rw [Hlen.out]; exact hlt)
      have hlk := Hrl.out k (by rw [Hlen.out]; exact hlt)
      obtain ⟨z, hz⟩ : ∃ z, zr Zs k = z := ⟨_, rfl⟩
      rw [hz] at hcell hrow hcell' hrow' hlk
      have hx : wr.cell? ⟨b, off + k, none⟩ = some (.slice ak z.length ck) := by rw [hwr]; exact hcell
      have hx' : wr.cell? ⟨b', off' + k, none⟩ = some (.slice ek z.length dk) := by rw [hwr]; exact hcell'
      have HQ : Hid (∀ q, Calls Try.prog 18 #[.slice ak z.length ck, .slice ek z.length dk] (wr.drewN q) fun e w' => e = .returned (.bool true) ∧ ∃ m, w' = (wr.drewN q).drewN m) := Lib.hid fun q => by
        have r1 : RowC (wr.drewN q) ak (ic z) := by rw [hwr]; exact (hrow.drewN n).drewN q
        have r2 : RowC (wr.drewN q) ek (ic z) := by rw [hwr]; exact (hrow'.drewN n).drewN q
        exact eqZ_q ak ek ck dk z _ r1 r2 hlk
      have Hwr := Lib.hid hwr
      clear hc hc' hrow hrow' hcell hcell' hwr hz
      go_wp2_with fail
      go_quiet (first | (go_at_call 18; with_reducible exact Calls.quiet_of (HQ.out _)))
      go_wp2_with fail
      go_roundw
      case rel => exact ⟨k + 1, _, by omega, by go_num, by rw [Hwr.out, World.drewN_drewN]⟩
      case measure => simp [intOf]; omega
    · subst hwr
      go_wp2_with fail
      go_ret
      exact ⟨rfl, below_drewN (Below.refl _ _) _⟩
theorem HRow.own {w : World} {e : TypeId} {lo hi : Nat} {a : Option Addr} {n c : Nat} {xs : List Value} (h : HRow w e 1 lo hi (.slice a n c) n xs) : ∃ g, HRow w e 1 g (g + 1) (.slice a n c) n xs ∧ lo ≤ g ∧ g + 1 ≤ hi ∧ (Value.slice a n c).ownBlock = some g ∨ (Value.slice a n c) = .slice none 0 0 ∧ n = 0 := by
  rcases h.cases with ⟨h1, h2⟩ | ⟨g, c', h1, h2, h3⟩
  · exact ⟨0, .inr ⟨h1, h2⟩⟩
  · injection h1 with h1 h4 h5
    subst h1
    exact ⟨g, .inl ⟨HRow.one h.1, h2, h3, rfl⟩⟩
theorem MadeSS.sameK {w w' : World} {p q lo hi n x : Nat} {v : Value} {Zs : List (List Int)} {S : List Value} (h : MadeSS w p q lo hi v n Zs S) (hk : Kept x x w w') : MadeSS w' p q lo hi v n Zs S :=
  h.below (B := w.heap.size) ⟨hk.os, hk.tape, hk.output, hk.size, fun b hb => hk.block b (by omega) hb⟩ ⟨h.out.2.2, h.top⟩
/-- One row of a slice of slices holds other integers. -/
theorem MadeSS.other {w w' : World} {p q lo hi n k gb : Nat} {v : Value} {Zs : List (List Int)} {S : List Value} (h : MadeSS w p q lo hi v n Zs S) (hk : k < n) {ak : Option Addr} {ck : Nat} {z : List Int} (hS : S[k]? = some (.slice ak (zr Zs k).length ck)) (hb : (Value.slice ak (zr Zs k).length ck).ownBlock = some gb) (hl : z.length = (zr Zs k).length) (hr : HRow w' 2 1 gb (gb + 1) (.slice ak (zr Zs k).length ck) (zr Zs k).length (ic z)) (hlo : lo ≤ gb) (hhi : gb + 1 ≤ hi) (hK : Kept gb (gb + 1) w w') : MadeSS w' p q lo hi v n (Zs.set k z) S := by
  have hZl := h.len
  have keepF : ∀ {v2 : Value} {n2 : Nat} {xs2 : List Value} {e2 : TypeId} {lo2 hi2 : Nat}, HRow w e2 1 lo2 hi2 v2 n2 xs2 → v2.ownBlock ≠ some gb → HRow w' e2 1 lo2 hi2 v2 n2 xs2 := fun h3 h4 => ⟨ownsRow_sameG h3.1 fun q hq => hK.block q (by have : q ≠ gb := fun e => h4 (e ▸ hq); omega) ((h3.1.lt q hq).2), h3.2.1, Nat.le_trans h3.2.2 hK.size⟩
  refine ⟨keepF h.out (h.far k _ gb hS hb), by rw [List.length_set]; exact hZl, fun j hj => ?_, h.far, h.apart, Nat.le_trans h.top hK.size⟩
  rw [zr_set (by omega)]
  by_cases hjk : j = k
  · subst hjk
    rw [if_pos rfl, hl]
    exact ⟨ak, ck, hS, hr.mono hlo hhi (Nat.le_trans h.top hK.size)⟩
  · rw [if_neg hjk]
    obtain ⟨aj, cj, h1, h2⟩ := h.row j hj
    exact ⟨aj, cj, h1, keepF h2 (h.apart k j _ _ gb (fun e => hjk e.symm) hS h1 hb)⟩
theorem zr_self {Zs : List (List Int)} {k : Nat} (h : k < Zs.length) : Zs.set k (zr Zs k) = Zs := by
  unfold zr
  rw [List.getD_eq_getElem?_getD, List.getElem?_eq_getElem h]; exact List.set_getElem_self h
/-- Marks of rows: the first m. -/
def marksSS (q : Nat) (Zs : List (List Int)) (m : Nat) : List (List Int) := (List.range Zs.length).map fun j => if j < m then marksZ (q + totZ Zs j) (zr Zs j).length else zr Zs j
theorem marksSS_length (q : Nat) (Zs : List (List Int)) (m : Nat) : (marksSS q Zs m).length = Zs.length := by simp [marksSS]
theorem marksSS_zr (q : Nat) (Zs : List (List Int)) (m j : Nat) (h : j < Zs.length) : zr (marksSS q Zs m) j = if j < m then marksZ (q + totZ Zs j) (zr Zs j).length else zr Zs j := by
  unfold zr marksSS
  rw [List.getD_eq_getElem?_getD, List.getElem?_map, List.getElem?_range h]; rfl
theorem marksSS_zero (q : Nat) (Zs : List (List Int)) : marksSS q Zs 0 = Zs := by
  apply List.ext_getElem?
  intro j
  by_cases h : j < Zs.length
  · unfold marksSS zr
    rw [List.getElem?_map, List.getElem?_range h, List.getElem?_eq_getElem h]
    simp only [Option.map_some, Nat.not_lt_zero, if_false, List.getD_eq_getElem?_getD, List.getElem?_eq_getElem h, Option.getD_some]
  · rw [List.getElem?_eq_none (by rw [marksSS_length]; omega), List.getElem?_eq_none (by omega)]
theorem marksSS_set (q : Nat) (Zs : List (List Int)) (m : Nat) (h : m < Zs.length) : (marksSS q Zs m).set m (marksZ (q + totZ Zs m) (zr Zs m).length) = marksSS q Zs (m + 1) := by
  apply List.ext_getElem?
  intro j
  rw [set_get _ _ _ _ (by rw [marksSS_length]; exact h)]
  by_cases hj : j < Zs.length
  · unfold marksSS
    rw [List.getElem?_map, List.getElem?_map, List.getElem?_range hj]
    simp only [Option.map_some]
    by_cases e : j = m
    · subst e; rw [if_pos rfl, if_pos (by omega)]
    · rw [if_neg e]
      by_cases e2 : j < m
      · rw [if_pos e2, if_pos (by omega)]
      · rw [if_neg e2, if_neg (by omega)]
  · rw [if_neg (by omega), List.getElem?_eq_none (by rw [marksSS_length]; omega), List.getElem?_eq_none (by rw [marksSS_length]; omega)]
set_option maxHeartbeats 2000000 in
theorem markSS_any (p9 q9 lo hi q : Nat) (a : Option Addr) (cap : Nat) (Zs : List (List Int)) (w : World) (h : HSS w p9 q9 lo hi (.slice a Zs.length cap) Zs.length Zs) (hl : Zs.length ≤ 1048576) (hrl : ∀ k, k < Zs.length → (zr Zs k).length ≤ 1048576) (hq : q + totZ Zs Zs.length ≤ 8388608) :
    Calls Try.prog 28 #[.slice a Zs.length cap, .int .i64 (q : Int)] w fun e w' => e = .returned (.int .i64 ((q + totZ Zs Zs.length : Nat) : Int)) ∧ HSS w' p9 q9 lo hi (.slice a Zs.length cap) Zs.length (marksSS q Zs Zs.length) ∧ Kept lo hi w w' := by
  obtain ⟨len, hlen⟩ : ∃ len, Zs.length = len := ⟨_, rfl⟩
  have Hlen := Lib.hid hlen
  have Hrl := Lib.hid hrl
  rw [hlen] at hl hq h ⊢
  clear hlen hrl
  have H := Lib.hid h
  clear h
  go_enter Try.func28, Try.ntmps28
  go_wp2_with fail
  go_loopw [1, 5] (fun c iv wr => ∃ k : Nat, k ≤ len ∧ iv = .int .i64 (k : Int) ∧ c = .int .i64 ((q + totZ Zs k : Nat) : Int) ∧ Hid (HSS wr p9 q9 lo hi (.slice a len cap) len (marksSS q Zs k)) ∧ Hid (Kept lo hi w wr)) (fun _ iv _ => len - (intOf iv).toNat)
  case atStart => exact ⟨0, Nat.zero_le _, rfl, by rw [totZ_zero, Nat.add_zero], Lib.hid (by rw [marksSS_zero]; exact H.out), Lib.hid (Kept.refl _ _ _)⟩
  case round =>
    obtain ⟨k, hk, rfl, rfl, HR, HK⟩ := hrel
    have hk0 : (0 : Int) ≤ (k : Int) := by omega
    by_cases hlt : k < len
    · have hk1 : (k : Int) < (len : Int) := by omega
      have hs := totZ_succ Zs k
      have hle := totZ_le Zs (show k + 1 ≤ len by omega)
      have hset := marksSS_set q Zs k (by rw [Hlen.out]; exact hlt)
      have hzr := marksSS_zr q Zs k k (by rw [Hlen.out]; exact hlt)
      rw [if_neg (Nat.lt_irrefl _)] at hzr
      have hlk := Hrl.out k (by rw [Hlen.out]; exact hlt)
      obtain ⟨S, hM⟩ := HR.out
      obtain ⟨ak, ck, hS, hrow⟩ := hM.row k hlt
      rw [hzr] at hS hrow
      obtain ⟨g, cc, ha, hlg, hgh⟩ : ∃ g cc, a = some ⟨g, 0, none⟩ ∧ p9 ≤ g ∧ g < q9 := by
        rcases hM.out.cases with ⟨h1, h2⟩ | ⟨g, c', h1, h2, h3⟩
        · omega
        · injection h1 with h1 h4 h5
          exact ⟨g, c', h1, h2, h3⟩
      subst ha
      have hcell := hM.out.1.cellAt k (by omega)
      rw [hS] at hcell
      obtain ⟨z, hz⟩ : ∃ z, zr Zs k = z := ⟨_, rfl⟩
      rw [hz] at hs hcell hlk hS hrow hset hzr
      obtain ⟨lk, hzl⟩ : ∃ l, z.length = l := ⟨_, rfl⟩
      obtain ⟨qk, hqk⟩ : ∃ t, q + totZ Zs k = t := ⟨_, rfl⟩
      have hqk1 : ((q + totZ Zs (k + 1) : Nat) : Int) = ((qk + lk : Nat) : Int) := by rw [hs, hzl]; omega
      rw [hqk] at hset ⊢
      rw [hzl] at hs hcell hlk hset
      have hq8 : qk ≤ 8388608 := by omega
      have Hqk := Lib.hid hqk1
      have Hset := Lib.hid hset
      have HMm := Lib.hid hM
      have HSs := Lib.hid hS
      have Hzr := Lib.hid hzr
      have Hzl := Lib.hid hzl
      have HW := Lib.hid hrow.own
      clear hs hle hset hzr hS hrow hM hz hzl hqk hqk1 hlg hgh
      obtain ⟨gb, hw⟩ := HW.out
      have HC : Hid (Calls Try.prog 20 #[.slice ak lk ck, .int .i64 (qk : Int)] wr fun e w' => e = .returned (.int .i64 ((qk + lk : Nat) : Int)) ∧ HSS w' p9 q9 lo hi (.slice (some ⟨g, 0, none⟩) len cap) len (marksSS q Zs (k + 1)) ∧ Kept lo hi w w') := Lib.hid (by
        rcases hw with ⟨h1, h2, h3, h4⟩ | ⟨h1, h2⟩
        · rw [Hzl.out] at h1 h4
          refine (markZ_any gb (gb + 1) qk ak lk ck z wr h1 hlk hq8).mono ?_
          rintro e w' ⟨rfl, h5, h6⟩
          refine ⟨rfl, ⟨S, ?_⟩, HK.out.trans ⟨h6.os, h6.tape, h6.output, h6.size, fun b hb1 hb2 => h6.block b (by omega) hb2⟩⟩
          rw [← Hset.out]
          refine MadeSS.other HMm.out hlt (gb := gb) (ak := ak) (ck := ck) (by rw [Hzr.out]; exact HSs.out) (by rw [Hzr.out, Hzl.out]; exact h4) (by rw [marksZ_length, Hzr.out, Hzl.out]) (by rw [Hzr.out, Hzl.out]; exact h5) h2 h3 h6
        · rw [Hzl.out] at h1 h2
          subst h2
          injection h1 with h1 h4 h5
          subst h1; subst h5
          refine (markZ_nil hi hi qk wr HMm.out.top hq8).mono ?_
          rintro e w' ⟨rfl, h5, h6⟩
          refine ⟨rfl, ⟨S, ?_⟩, HK.out.trans ⟨h6.os, h6.tape, h6.output, h6.size, fun b hb1 hb2 => h6.block b (by omega) hb2⟩⟩
          rw [← Hset.out]
          have hz0 : z = [] := List.eq_nil_of_length_eq_zero Hzl.out
          have e1 : marksZ qk 0 = zr (marksSS q Zs k) k := by rw [Hzr.out, hz0]; rfl
          rw [e1, zr_self (by rw [marksSS_length, Hlen.out]; exact hlt)]
          exact MadeSS.sameK HMm.out h6)
      clear HW hw HSs
      go_wp2_with fail
      refine HC.out.mono ?_
      rintro e w2 ⟨rfl, h1, h2⟩
      have H1 := Lib.hid h1
      have H2 := Lib.hid h2
      clear h1 h2 hcell HC
      go_wp2_with fail
      go_roundw
      case rel => exact ⟨k + 1, by omega, by go_num, by rw [Hqk.out]; first | done | (congr 1; omega) | (congr 1), H1, H2⟩
      case measure => simp [intOf]; omega
    · obtain rfl : k = len := by omega
      go_wp2_with fail
      go_ret
      exact ⟨rfl, HR.out, HK.out⟩
set_option maxHeartbeats 2000000 in
theorem heldSS_any (p9 q9 lo hi q : Nat) (a : Option Addr) (cap : Nat) (Zs : List (List Int)) (w : World) (h : HSS w p9 q9 lo hi (.slice a Zs.length cap) Zs.length (marksSS q Zs Zs.length)) (hl : Zs.length ≤ 1048576) (hrl : ∀ k, k < Zs.length → (zr Zs k).length ≤ 1048576) (hq : q + totZ Zs Zs.length ≤ 8388608) :
    Calls Try.prog 29 #[.slice a Zs.length cap, .int .i64 (q : Int)] w fun e w' => e = .returned (.int .i64 ((q + totZ Zs Zs.length : Nat) : Int)) ∧ w = w' := by
  obtain ⟨len, hlen⟩ : ∃ len, Zs.length = len := ⟨_, rfl⟩
  have Hlen := Lib.hid hlen
  have Hrl := Lib.hid hrl
  rw [hlen] at hl hq h ⊢
  clear hlen hrl
  have H := Lib.hid h
  clear h
  go_enter Try.func29, Try.ntmps29
  go_wp2_with fail
  go_loopw [1, 5] (fun c iv wr => ∃ k : Nat, k ≤ len ∧ iv = .int .i64 (k : Int) ∧ c = .int .i64 ((q + totZ Zs k : Nat) : Int) ∧ wr = w) (fun _ iv _ => len - (intOf iv).toNat)
  case atStart => exact ⟨0, Nat.zero_le _, rfl, by rw [totZ_zero, Nat.add_zero], rfl⟩
  case round =>
    obtain ⟨k, hk, rfl, rfl, rfl⟩ := hrel
    have hk0 : (0 : Int) ≤ (k : Int) := by omega
    by_cases hlt : k < len
    · have hk1 : (k : Int) < (len : Int) := by omega
      have hs := totZ_succ Zs k
      have hle := totZ_le Zs (show k + 1 ≤ len by omega)
      have hzr := marksSS_zr q Zs len k (by rw [Hlen.out]; exact hlt)
      rw [if_pos hlt] at hzr
      have hlk := Hrl.out k (by rw [Hlen.out]; exact hlt)
      obtain ⟨S, hM⟩ := H.out
      obtain ⟨ak, ck, hS, hrow⟩ := hM.row k hlt
      rw [hzr, marksZ_length] at hS hrow
      obtain ⟨g, cc, ha, hlg, hgh⟩ : ∃ g cc, a = some ⟨g, 0, none⟩ ∧ p9 ≤ g ∧ g < q9 := by
        rcases hM.out.cases with ⟨h1, h2⟩ | ⟨g, c', h1, h2, h3⟩
        · omega
        · injection h1 with h1 h4 h5
          exact ⟨g, c', h1, h2, h3⟩
      subst ha
      have hcell := hM.out.1.cellAt k (by omega)
      rw [hS] at hcell
      obtain ⟨lk, hzl⟩ : ∃ l, (zr Zs k).length = l := ⟨_, rfl⟩
      obtain ⟨qk, hqk⟩ : ∃ t, q + totZ Zs k = t := ⟨_, rfl⟩
      have hqk1 : ((q + totZ Zs (k + 1) : Nat) : Int) = ((qk + lk : Nat) : Int) := by rw [hs, hzl]; omega
      rw [hqk, hzl] at hrow
      rw [hqk]
      rw [hzl] at hs hcell hlk
      have hq8 : qk ≤ 8388608 := by omega
      have HC := Lib.hid (heldZ_any lo hi qk ak lk ck wr hrow hlk hq8)
      have Hqk := Lib.hid hqk1
      have hnn : ¬ ((qk + lk : Nat) : Int) < 0 := by omega
      clear hs hle hzr hS hrow hM hzl hqk hqk1 hlg hgh
      go_wp2_with fail
      refine HC.out.mono ?_
      rintro e w2 ⟨rfl, rfl⟩
      clear hcell HC
      go_wp2_with fail
      go_roundw
      case rel => exact ⟨k + 1, by omega, by go_num, by rw [Hqk.out]; first | done | (congr 1; omega) | (congr 1), by first | trivial | rfl⟩
      case measure => simp [intOf]; omega
    · obtain rfl : k = len := by omega
      go_wp2_with fail
      go_ret
      exact ⟨rfl, rfl⟩
end Go.Proofs.Ytckmacnmmloemaa
