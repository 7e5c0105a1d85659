/- Lists that are the same. -/
import Derived.Test.YtljehplkdofhpaaRivH
import Derived.Laws.StructEq
import Derived.BigQuiet
import Derived.Deep.QuietTactic
namespace Go.Proofs.Ytljehplkdofhpaa
open Go.RowKit
set_option linter.unusedVariables false
set_option linter.unusedSimpArgs false
set_option maxRecDepth 100000
attribute [local irreducible] wpV wpList Code.wp

theorem ne_of_getD {D E : List Int} {k : Nat} (h : ¬ D.getD k 0 = E.getD k 0) : decide (D = E) = false := decide_eq_false fun he => h (by rw [he])
theorem eq_of_getD {D E : List Int} (hl : D.length = E.length) (h : ∀ j, j < D.length → D.getD j 0 = E.getD j 0) : decide (D = E) = true := by
  refine decide_eq_true (List.ext_getElem hl fun i h1 h2 => ?_)
  have := h i h1
  rw [List.getD_eq_getElem?_getD, List.getElem?_eq_getElem h1, List.getD_eq_getElem?_getD, List.getElem?_eq_getElem h2] at this
  exact this
set_option maxHeartbeats 2000000 in
theorem equalZ_any (a b : Option Addr) (c d : Nat) (D E : List Int) (w : World) (hD : RowC w a (ic D)) (hE : RowC w b (ic E)) (hl : D.length ≤ 1048576) (hl2 : E.length ≤ 1048576) :
    Calls Try.prog 62 #[.slice a D.length c, .slice b E.length d] w fun e w' => e = .returned (.bool (decide (D = E))) ∧ ∃ n, w' = w.drewN n := by
  obtain ⟨v, hv⟩ : ∃ v, decide (D = E) = v := ⟨_, rfl⟩
  rw [hv]
  have HV := Lib.hid hv
  clear hv
  by_cases hne : D.length = E.length
  · have Hne := Lib.hid hne
    obtain ⟨len, hlen⟩ : ∃ q, D.length = q := ⟨_, rfl⟩
    have Hlen := Lib.hid hlen
    rw [← hne, hlen]
    rw [hlen] at hl
    have HD := Lib.hid hD
    have HE := Lib.hid hE
    clear hD hE hne hlen hl2
    go_enter Try.func62, Try.ntmps62
    go_wp2_with fail
    go_loopw [13] (fun i wr => ∃ k n : Nat, k ≤ len ∧ i = .int .i64 k ∧ Hid (∀ j, j < k → D.getD j 0 = E.getD j 0) ∧ wr = w.drewN n) (fun i _ => len - (intOf i).toNat)
    case atStart => exact ⟨0, 0, Nat.zero_le _, rfl, Lib.hid (fun j hj => by omega), rfl⟩
    case round =>
      obtain ⟨k, n, hk, rfl, HJ, hwr⟩ := hrel
      have hk0 : (0 : Int) ≤ (k : Int) := by omega
      by_cases hlt : k < len
      · have hk1 : (k : Int) < (len : Int) := by omega
        obtain ⟨b1, o1, rfl, h1⟩ : ∃ b1 o1, a = some ⟨b1, o1, none⟩ ∧ wr.cell? ⟨b1, o1 + k, none⟩ = some (.int .i64 (D.getD k 0)) := by
          rcases HD.out.ints with h | ⟨b1, o1, h1, _, h3⟩
          · have h8 := Hlen.out; rw [h, List.length_nil] at h8; omega
          · exact ⟨b1, o1, h1, by rw [hwr]; exact h3 k (by have := Hlen.out; omega)⟩
        obtain ⟨b2, o2, rfl, h2⟩ : ∃ b2 o2, b = some ⟨b2, o2, none⟩ ∧ wr.cell? ⟨b2, o2 + k, none⟩ = some (.int .i64 (E.getD k 0)) := by
          rcases HE.out.ints with h | ⟨b1, o1, h1, _, h3⟩
          · have h8 := Hlen.out; have h9 := Hne.out; rw [h, List.length_nil] at h9; omega
          · exact ⟨b1, o1, h1, by rw [hwr]; exact h3 k (by have := Hlen.out; have := Hne.out; omega)⟩
        obtain ⟨x, hx⟩ : ∃ x, D.getD k 0 = x := ⟨_, rfl⟩
        obtain ⟨y, hy⟩ : ∃ y, E.getD k 0 = y := ⟨_, rfl⟩
        rw [hx] at h1
        rw [hy] at h2
        have Hx := Lib.hid hx
        have Hy := Lib.hid hy
        have Hwr := Lib.hid hwr
        clear hx hy hwr
        by_cases hxy : x = y
        · subst hxy
          go_wp2_with fail
          go_quiet (fail)
          go_wp2_with fail
          go_roundw
          case rel => exact ⟨k + 1, _, by omega, by go_num, Lib.hid (fun j hj => by by_cases e : j = k; (subst e; rw [Hx.out, Hy.out]); exact HJ.out j (by omega)), by rw [Hwr.out, World.drewN_drewN]⟩
          case measure => simp [intOf]; omega
        · have hvf : v = false := by rw [← HV.out]; exact ne_of_getD (k := k) (by rw [Hx.out, Hy.out]; exact hxy)
          have HVF := Lib.hid hvf
          clear hvf
          go_wp2_with fail
          go_quiet (fail)
          go_wp2_with fail
          go_ret
          rw [HVF.out]
          exact ⟨rfl, _, by rw [Hwr.out, World.drewN_drewN]⟩
      · subst hwr
        have hvf : v = true := by rw [← HV.out]; exact eq_of_getD Hne.out (fun j hj => HJ.out j (by have := Hlen.out; omega))
        have HVF := Lib.hid hvf
        clear hvf
        go_wp2_with fail
        go_ret
        rw [HVF.out]
        exact ⟨rfl, _, rfl⟩
  · have hvf : v = false := by rw [← HV.out]; exact decide_eq_false fun h => hne (by rw [h])
    have HVF := Lib.hid hvf
    clear hvf
    have hne' : ¬ ((D.length : Nat) : Int) = ((E.length : Nat) : Int) := by omega
    go_enter Try.func62, Try.ntmps62
    go_wp2_with fail
    go_ret
    rw [HVF.out]
    exact ⟨rfl, 0, rfl⟩

set_option maxHeartbeats 2000000 in
theorem sameListZ_any (a b : Option Addr) (c d : Nat) (D E : List Int) (w : World) (hD : RowC w a (ic D)) (hE : RowC w b (ic E)) (hl : D.length ≤ 1048576) (hl2 : E.length ≤ 1048576) :
    Calls Try.prog 92 #[.slice a D.length c, .slice b E.length d] w fun e w' => e = .returned (.bool (decide (D = E))) ∧ ∃ n, w' = w.drewN n := by
  obtain ⟨v, hv⟩ : ∃ v, decide (D = E) = v := ⟨_, rfl⟩
  rw [hv]
  have HV := Lib.hid hv
  clear hv
  by_cases hne : D.length = E.length
  · have Hne := Lib.hid hne
    obtain ⟨len, hlen⟩ : ∃ q, D.length = q := ⟨_, rfl⟩
    have Hlen := Lib.hid hlen
    rw [← hne, hlen]
    rw [hlen] at hl
    have HD := Lib.hid hD
    have HE := Lib.hid hE
    clear hD hE hne hlen hl2
    go_enter Try.func92, Try.ntmps92
    go_wp2_with fail
    go_loopw [5] (fun i wr => ∃ k n : Nat, k ≤ len ∧ i = .int .i64 k ∧ Hid (∀ j, j < k → D.getD j 0 = E.getD j 0) ∧ wr = w.drewN n) (fun i _ => len - (intOf i).toNat)
    case atStart => exact ⟨0, 0, Nat.zero_le _, rfl, Lib.hid (fun j hj => by omega), rfl⟩
    case round =>
      obtain ⟨k, n, hk, rfl, HJ, hwr⟩ := hrel
      have hk0 : (0 : Int) ≤ (k : Int) := by omega
      by_cases hlt : k < len
      · have hk1 : (k : Int) < (len : Int) := by omega
        obtain ⟨b1, o1, rfl, h1⟩ : ∃ b1 o1, a = some ⟨b1, o1, none⟩ ∧ wr.cell? ⟨b1, o1 + k, none⟩ = some (.int .i64 (D.getD k 0)) := by
          rcases HD.out.ints with h | ⟨b1, o1, h1, _, h3⟩
          · have h8 := Hlen.out; rw [h, List.length_nil] at h8; omega
          · exact ⟨b1, o1, h1, by rw [hwr]; exact h3 k (by have := Hlen.out; omega)⟩
        obtain ⟨b2, o2, rfl, h2⟩ : ∃ b2 o2, b = some ⟨b2, o2, none⟩ ∧ wr.cell? ⟨b2, o2 + k, none⟩ = some (.int .i64 (E.getD k 0)) := by
          rcases HE.out.ints with h | ⟨b1, o1, h1, _, h3⟩
          · have h8 := Hlen.out; have h9 := Hne.out; rw [h, List.length_nil] at h9; omega
          · exact ⟨b1, o1, h1, by rw [hwr]; exact h3 k (by have := Hlen.out; have := Hne.out; omega)⟩
        obtain ⟨x, hx⟩ : ∃ x, D.getD k 0 = x := ⟨_, rfl⟩
        obtain ⟨y, hy⟩ : ∃ y, E.getD k 0 = y := ⟨_, rfl⟩
        rw [hx] at h1
        rw [hy] at h2
        have Hx := Lib.hid hx
        have Hy := Lib.hid hy
        have Hwr := Lib.hid hwr
        clear hx hy hwr
        by_cases hxy : x = y
        · subst hxy
          go_wp2_with fail
          go_quiet (fail)
          go_wp2_with fail
          go_roundw
          case rel => exact ⟨k + 1, _, by omega, by go_num, Lib.hid (fun j hj => by by_cases e : j = k; (subst e; rw [Hx.out, Hy.out]); exact HJ.out j (by omega)), by rw [Hwr.out, World.drewN_drewN]⟩
          case measure => simp [intOf]; omega
        · have hvf : v = false := by rw [← HV.out]; exact ne_of_getD (k := k) (by rw [Hx.out, Hy.out]; exact hxy)
          have HVF := Lib.hid hvf
          clear hvf
          go_wp2_with fail
          go_quiet (fail)
          go_wp2_with fail
          go_ret
          rw [HVF.out]
          exact ⟨rfl, _, by rw [Hwr.out, World.drewN_drewN]⟩
      · subst hwr
        have hvf : v = true := by rw [← HV.out]; exact eq_of_getD Hne.out (fun j hj => HJ.out j (by have := Hlen.out; omega))
        have HVF := Lib.hid hvf
        clear hvf
        go_wp2_with fail
        go_ret
        rw [HVF.out]
        exact ⟨rfl, _, rfl⟩
  · have hvf : v = false := by rw [← HV.out]; exact decide_eq_false fun h => hne (by rw [h])
    have HVF := Lib.hid hvf
    clear hvf
    have hne' : ¬ ((D.length : Nat) : Int) = ((E.length : Nat) : Int) := by omega
    go_enter Try.func92, Try.ntmps92
    go_wp2_with fail
    go_ret
    rw [HVF.out]
    exact ⟨rfl, 0, rfl⟩

end Go.Proofs.Ytljehplkdofhpaa
