/- When a record is valid: the program and its model alike. -/
import Derived.Test.YtdmcjloaommnpaaRcH
import Derived.Test.YtdmcjloaommnpaaGau
import Derived.Test.YtdmcjloaommnpaaIn
import Derived.Test.YtdmcjloaommnpaaName
namespace Go.Proofs.Ytdmcjloaommnpaa
open Go.RowKit Go.Proofs
set_option linter.unusedVariables false
set_option linter.unusedSimpArgs false

def timB (st sp : Int) : Bool := (decide (0 ≤ st) && decide (st ≤ 4294967295)) && (decide (1 ≤ sp) && decide (sp ≤ 65535))
def recB (nm : ByteArray) (st sp : Int) (n : Nat) : Bool := isN nm && timB st sp && cntB n
theorem recB_1 {nm : ByteArray} {st sp : Int} {n : Nat} (h : isN nm = false) : recB nm st sp n = false := by unfold recB; rw [h]; rfl
theorem recB_2 {nm : ByteArray} {st sp : Int} {n : Nat} (h : ¬ (0 ≤ st ∧ st ≤ 4294967295 ∧ 1 ≤ sp ∧ sp ≤ 65535)) : recB nm st sp n = false := by
  have : timB st sp = false := by
    rw [Bool.eq_false_iff]
    intro hc
    simp only [timB, Bool.and_eq_true, decide_eq_true_eq] at hc
    exact h ⟨hc.1.1, hc.1.2, hc.2.1, hc.2.2⟩
  unfold recB; rw [this, Bool.and_false]; rfl
theorem recB_y {nm : ByteArray} {st sp : Int} {n : Nat} (h : isN nm = true) (h1 : 0 ≤ st) (h2 : st ≤ 4294967295) (h3 : 1 ≤ sp) (h4 : sp ≤ 65535) : recB nm st sp n = cntB n := by
  unfold recB timB
  rw [h, decide_eq_true h1, decide_eq_true h2, decide_eq_true h3, decide_eq_true h4]; rfl
theorem recB_true {nm : ByteArray} {st sp : Int} {n : Nat} (h : recB nm st sp n = true) : isN nm = true ∧ 0 ≤ st ∧ st ≤ 4294967295 ∧ 1 ≤ sp ∧ sp ≤ 65535 ∧ 1 ≤ n ∧ n ≤ 128 := by
  simp only [recB, timB, cntB, Bool.and_eq_true, decide_eq_true_eq] at h
  exact ⟨h.1.1, h.1.2.1.1, h.1.2.1.2, h.1.2.2.1, h.1.2.2.2, h.2.1, h.2.2⟩

set_option maxHeartbeats 4000000 in
theorem validRec_i (nm : ByteArray) (st sp : Int) (a : Option Addr) (len cap : Nat) (w : World) (hs : nm.size ≤ 1048576) (hl : len ≤ 1048576) :
    Calls Try.prog 39 #[.agg #[.string nm, .int .i64 st, .int .i64 sp, .slice a len cap]] w (SayB (recB nm st sp len) w) := by
  have H1 := Lib.hid (@recB_1 nm st sp len)
  have H2 := Lib.hid (@recB_2 nm st sp len)
  have HY := Lib.hid (@recB_y nm st sp len)
  generalize recB nm st sp len = R at *
  have HN := Lib.hid (fun W => implName_any nm hs W)
  generalize isN nm = nb at *
  by_cases h1 : st ≥ 0
  · by_cases h2 : st ≤ 4294967295
    · by_cases h3 : sp ≥ 1
      · by_cases h4 : sp ≤ 65535
        · go_enter Try.func39, Try.ntmps39
          go_wp2_with fail
          refine (HN.out _).mono ?_
          rintro e w1 ⟨rfl, hb⟩
          have hc := (BoxH.new w nm st sp (.slice a len cap) 49).below hb (by simp)
          obtain ⟨c0, c1, c2, c3, _⟩ := hc
          have HB := Lib.hid ((below1 _ _).trans (hb.mono (by simp)) : Below w.heap.size w w1)
          clear hb
          cases nb
          · go_wp2_with fail
            go_ret
            exact ⟨_, H1.out (by first | rfl | trivial), rfl, HB.out⟩
          · go_wp2_with fail
            refine (isGaugeCount_o len _).mono ?_
            rintro e w' ⟨bb, hbb, rfl, rfl⟩
            have Hbb := Lib.hid hbb
            clear hbb
            go_wp2_with fail
            go_ret
            exact ⟨_, (HY.out (by first | rfl | trivial) h1 h2 h3 h4).trans Hbb.out, rfl, HB.out⟩
        all_goals
          have HF := Lib.hid (H2.out (by omega))
          go_enter Try.func39, Try.ntmps39
          go_wp2_with fail
          refine (HN.out _).mono ?_
          rintro e w1 ⟨rfl, hb⟩
          have hc := (BoxH.new w nm st sp (.slice a len cap) 49).below hb (by simp)
          obtain ⟨c0, c1, c2, c3, _⟩ := hc
          have HB := Lib.hid ((below1 _ _).trans (hb.mono (by simp)) : Below w.heap.size w w1)
          clear hb
          cases nb <;> (go_wp2_with fail; go_ret; exact ⟨_, HF.out, rfl, HB.out⟩)
      all_goals
        have HF := Lib.hid (H2.out (by omega))
        go_enter Try.func39, Try.ntmps39
        go_wp2_with fail
        refine (HN.out _).mono ?_
        rintro e w1 ⟨rfl, hb⟩
        have hc := (BoxH.new w nm st sp (.slice a len cap) 49).below hb (by simp)
        obtain ⟨c0, c1, c2, c3, _⟩ := hc
        have HB := Lib.hid ((below1 _ _).trans (hb.mono (by simp)) : Below w.heap.size w w1)
        clear hb
        cases nb <;> (go_wp2_with fail; go_ret; exact ⟨_, HF.out, rfl, HB.out⟩)
    all_goals
      have HF := Lib.hid (H2.out (by omega))
      go_enter Try.func39, Try.ntmps39
      go_wp2_with fail
      refine (HN.out _).mono ?_
      rintro e w1 ⟨rfl, hb⟩
      have hc := (BoxH.new w nm st sp (.slice a len cap) 49).below hb (by simp)
      obtain ⟨c0, c1, c2, c3, _⟩ := hc
      have HB := Lib.hid ((below1 _ _).trans (hb.mono (by simp)) : Below w.heap.size w w1)
      clear hb
      cases nb <;> (go_wp2_with fail; go_ret; exact ⟨_, HF.out, rfl, HB.out⟩)
  all_goals
    have HF := Lib.hid (H2.out (by omega))
    go_enter Try.func39, Try.ntmps39
    go_wp2_with fail
    refine (HN.out _).mono ?_
    rintro e w1 ⟨rfl, hb⟩
    have hc := (BoxH.new w nm st sp (.slice a len cap) 49).below hb (by simp)
    obtain ⟨c0, c1, c2, c3, _⟩ := hc
    have HB := Lib.hid ((below1 _ _).trans (hb.mono (by simp)) : Below w.heap.size w w1)
    clear hb
    cases nb <;> (go_wp2_with fail; go_ret; exact ⟨_, HF.out, rfl, HB.out⟩)

set_option maxHeartbeats 1000000 in
theorem l07Name_any (s : ByteArray) (hs : s.size ≤ 1048576) (w : World) :
    Calls Try.prog 101 #[.string s] w (SayS (isN s) w) := by
  go_enter Try.func101, Try.ntmps101
  go_wp2
  go_loop [3] (fun i => ∃ k : Nat, k ≤ s.size ∧ i = .int .i64 k ∧ okTo s k) (fun i => s.size - (intOf i).toNat)
  case atStart => exact ⟨0, Nat.zero_le _, rfl, okTo_zero s⟩
  case round =>
    obtain ⟨k, hk, rfl, hok⟩ := hrel
    by_cases hlt : k < s.size
    · by_cases h1 : 97 ≤ s[k].toNat
      · by_cases h2 : s[k].toNat ≤ 122
        · have hok' := okTo_succ hlt hok h1 h2
          have Hok := Lib.hid hok'
          clear hok hok'
          go_wp2
          go_round
          case rel => exact ⟨k + 1, by omega, by go_num, Hok.out⟩
          case measure => simp [intOf]; omega
        · have Hb := Lib.hid (isN_bad hlt (by omega))
          clear hok
          go_wp2
          go_ret
          exact ⟨_, Hb.out, rfl, rfl⟩
      · have Hb := Lib.hid (isN_bad hlt (by omega))
        clear hok
        go_wp2
        go_ret
        exact ⟨_, Hb.out, rfl, rfl⟩
    · have He := Lib.hid (isN_end hlt hok)
      clear hok
      by_cases h1 : (s.size : Int) ≥ 1
      · by_cases h2 : (s.size : Int) ≤ 8
        · go_wp2
          go_ret
          exact ⟨_, by rw [He.out, decide_eq_true (by omega), decide_eq_true (by omega)]; rfl, rfl, rfl⟩
        · go_wp2
          go_ret
          exact ⟨_, by rw [He.out, decide_eq_true (by omega), decide_eq_false (by omega)]; rfl, rfl, rfl⟩
      · go_wp2
        go_ret
        exact ⟨_, by rw [He.out, decide_eq_false (by omega)]; rfl, rfl, rfl⟩

set_option maxHeartbeats 400000 in
theorem l07Values_any (a : Option Addr) (len cap : Nat) (w : World) : Calls Try.prog 102 #[.slice a len cap] w (SayS (cntB len) w) := by
  by_cases h0 : (len : Int) ≥ 1 <;> by_cases h1 : (len : Int) ≤ 128
  all_goals
    go_enter Try.func102, Try.ntmps102
    go_wp2_with fail
    go_ret
    refine ⟨_, ?_, rfl, rfl⟩
    unfold cntB
    first
      | (rw [decide_eq_true (by omega), decide_eq_true (by omega)]; rfl)
      | (rw [decide_eq_true (by omega), decide_eq_false (by omega)]; rfl)
      | (rw [decide_eq_false (by omega)]; rfl)

set_option maxHeartbeats 2000000 in
theorem l07Record_o (b : Nat) (nm : ByteArray) (st sp : Int) (a : Option Addr) (len cap : Nat) (w : World) (hB : BoxH w b nm st sp (.slice a len cap)) (hs : nm.size ≤ 1048576) (hl : len ≤ 1048576) :
    Calls Try.prog 82 #[.pointer (some ⟨b, 0, none⟩)] w (SayS (recB nm st sp len) w) := by
  obtain ⟨c0, c1, c2, c3, _⟩ := hB
  have HR : Hid (recB nm st sp len = (isN nm && ((decide (0 ≤ st) && decide (st ≤ 4294967295)) && (decide (1 ≤ sp) && decide (sp ≤ 65535))) && cntB len)) := Lib.hid rfl
  generalize recB nm st sp len = R at *
  go_enter Try.func82, Try.ntmps82
  go_wp2_with fail
  refine (l07Name_any nm hs _).mono ?_
  rintro e w' ⟨b1, hb1, rfl, rfl⟩
  rw [hb1] at HR
  clear hb1
  cases b1
  · go_wp2_with fail
    go_ret
    exact ⟨_, HR.out, rfl, rfl⟩
  · go_wp2_with fail
    refine (l00In_any _ _ _ _).mono ?_
    rintro e w' ⟨b2, hb2, rfl, rfl⟩
    rw [hb2] at HR
    clear hb2
    cases b2
    · go_wp2_with fail
      go_ret
      exact ⟨_, HR.out, rfl, rfl⟩
    · go_wp2_with fail
      refine (l00In_any _ _ _ _).mono ?_
      rintro e w' ⟨b3, hb3, rfl, rfl⟩
      rw [hb3] at HR
      clear hb3
      cases b3
      · go_wp2_with fail
        go_ret
        exact ⟨_, HR.out, rfl, rfl⟩
      · go_wp2_with fail
        refine (l07Values_any _ _ _ _).mono ?_
        rintro e w' ⟨b4, hb4, rfl, rfl⟩
        rw [hb4] at HR
        clear hb4
        go_wp2_with fail
        go_ret
        exact ⟨_, by rw [HR.out]; rfl, rfl, rfl⟩

set_option maxHeartbeats 1000000 in
theorem validRec_s (nm : ByteArray) (st sp : Int) (a : Option Addr) (len cap : Nat) (w : World) (hs : nm.size ≤ 1048576) (hl : len ≤ 1048576) :
    Calls Try.prog 37 #[.agg #[.string nm, .int .i64 st, .int .i64 sp, .slice a len cap]] w (SayB (recB nm st sp len) w) := by
  go_enter Try.func37, Try.ntmps37
  go_wp2_with fail
  refine (l07Record_o w.heap.size nm st sp a len cap _ (BoxH.new w nm st sp (.slice a len cap) 49) hs hl).mono ?_
  rintro e w' ⟨bb, hbb, rfl, rfl⟩
  have Hbb := Lib.hid hbb
  clear hbb
  go_wp2_with fail
  go_ret
  exact ⟨_, Hbb.out, rfl, below1 _ _⟩
end Go.Proofs.Ytdmcjloaommnpaa
