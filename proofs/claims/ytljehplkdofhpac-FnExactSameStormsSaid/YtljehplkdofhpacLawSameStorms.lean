/- The walk of the law on SameStorms. -/
import Derived.Test.YtljehplkdofhpacSameStorm
import Derived.DataShut
namespace Go.Proofs.Ytljehplkdofhpac
open Go.RowKit
set_option linter.unusedVariables false
set_option linter.unusedSimpArgs false
set_option maxRecDepth 100000
attribute [local irreducible] wpV wpList Code.wp

set_option maxHeartbeats 8000000 in
theorem sameStormLaw_fits (a e : Option Addr) (n c m d : Nat) (M N : List Nat) (w : World) (ha : RowC w a (fc M)) (he : RowC w e (fc N)) (hM : M.length = n * 4) (hN : N.length = m * 4) (hzM : ∀ z ∈ M, z < 4294967296) (hzN : ∀ z ∈ N, z < 4294967296) (h1 : (n : Int) ≤ 1048576) (h2 : (m : Int) ≤ 1048576 - (n : Int)) :
    Calls Try.prog 11 #[.slice a n c, .slice e m d] w fun e w' => e = .returned (.bool true) ∧ Below w.heap.size w w' := by
  have hl : n ≤ 1048576 := by omega
  have hl2 : m ≤ 1048576 := by omega
  have g1 : ¬ (1048576 : Int) - (n : Int) < 0 := by omega
  have g2 : ¬ (1048576 : Int) - (n : Int) - (m : Int) < 0 := by omega
  have HA := Lib.hid ha
  have HE := Lib.hid he
  have HM := Lib.hid hM
  have HN := Lib.hid hN
  have HZM := Lib.hid hzM
  have HZN := Lib.hid hzN
  clear ha he hM hN hzM hzN
  obtain ⟨v, hv⟩ : ∃ v, sameFl M N = v := ⟨_, rfl⟩
  have HV := Lib.hid hv
  clear hv
  have HB0 := Lib.hid (Below.refl w.heap.size w)
  go_enter Try.func11, Try.ntmps11
  go_wp2_with fail
  refine (szStormS_fits a n c 1048576 h1 (by omega) _).mono ?_
  rintro en w' ⟨rfl, rfl⟩
  go_wp2_with fail
  refine (szStormS_fits e m d _ h2 (by omega) _).mono ?_
  rintro en w' ⟨rfl, rfl⟩
  go_wp2_with fail
  refine (toStormS_flo a c n M _ (HA.out.below HB0.out (Nat.le_refl _)) HM.out hl).mono ?_
  rintro en w1 ⟨sa, sc, rfl, hb, hf⟩
  have HB1 : Hid (Below w.heap.size w w1) := Lib.hid (HB0.out.trans (hb.mono HB0.out.size))
  have Rs1 := Lib.hid hf
  clear HB0  hb hf
  go_wp2_with fail
  refine (toStormS_flo e d m N _ (HE.out.below HB1.out (Nat.le_refl _)) HN.out hl2).mono ?_
  rintro en w2 ⟨ta, tc, rfl, hb, hf⟩
  have HB2 : Hid (Below w.heap.size w w2) := Lib.hid (HB1.out.trans (hb.mono HB1.out.size))
  have Rs2 := Lib.hid (Rs1.out.below hb Rs1.out.2.2)
  have Rt2 := Lib.hid hf
  clear HB1 Rs1 hb hf
  go_wp2_with fail
  refine (sameStorm_s sa ta sc tc n m M N _ Rs2.out.row Rt2.out.row HM.out HN.out hl hl2 HZM.out HZN.out).mono ?_
  rintro en w3 ⟨rfl, hb⟩
  have HB3 : Hid (Below w.heap.size w w3) := Lib.hid (HB2.out.trans (hb.mono HB2.out.size))
  have Rs3 := Lib.hid (Rs2.out.below hb Rs2.out.2.2)
  have Rt3 := Lib.hid (Rt2.out.below hb Rt2.out.2.2)
  clear HB2 Rs2 Rt2 hb
  go_wp2_with fail
  clear Rs3 Rt3
  refine (toStormS_flo a c n M _ (HA.out.below HB3.out (Nat.le_refl _)) HM.out hl).mono ?_
  rintro en w4 ⟨xa, xc, rfl, hb, hf⟩
  have HB4 : Hid (Below w.heap.size w w4) := Lib.hid (HB3.out.trans (hb.mono HB3.out.size))
  have Rx4 := Lib.hid hf
  clear HB3  hb hf
  go_wp2_with fail
  refine (toStormS_flo e d m N _ (HE.out.below HB4.out (Nat.le_refl _)) HN.out hl2).mono ?_
  rintro en w5 ⟨ya, yc, rfl, hb, hf⟩
  have HB5 : Hid (Below w.heap.size w w5) := Lib.hid (HB4.out.trans (hb.mono HB4.out.size))
  have Rx5 := Lib.hid (Rx4.out.below hb Rx4.out.2.2)
  have Ry5 := Lib.hid hf
  clear HB4 Rx4 hb hf
  go_wp2_with fail
  refine (sameStorm_i xa ya xc yc n m M N _ Rx5.out.row Ry5.out.row HM.out HN.out hl hl2 HZM.out HZN.out).mono ?_
  rintro en w6 ⟨rfl, hb⟩
  have HB6 : Hid (Below w.heap.size w w6) := Lib.hid (HB5.out.trans (hb.mono HB5.out.size))
  have Rx6 := Lib.hid (Rx5.out.below hb Rx5.out.2.2)
  have Ry6 := Lib.hid (Ry5.out.below hb Ry5.out.2.2)
  clear HB5 Rx5 Ry5 hb
  rw [HV.out]
  go_wp2_with fail
  refine (toStormS_flo a c n M _ (HA.out.below HB6.out (Nat.le_refl _)) HM.out hl).mono ?_
  rintro en w7 ⟨za, zc, rfl, hb, hf⟩
  have HB7 : Hid (Below w.heap.size w w7) := Lib.hid (HB6.out.trans (hb.mono HB6.out.size))
  have Rx7 := Lib.hid (Rx6.out.below hb Rx6.out.2.2)
  have Ry7 := Lib.hid (Ry6.out.below hb Ry6.out.2.2)
  have Rz7 := Lib.hid hf
  clear HB6 Rx6 Ry6 hb hf
  go_wp2_with fail
  refine (eqStormS_flo xa za xc zc n M _ Rx7.out.row Rz7.out.row HM.out hl HZM.out).mono ?_
  rintro en w8 ⟨rfl, hb⟩
  have HB8 : Hid (Below w.heap.size w w8) := Lib.hid (HB7.out.trans (hb.mono HB7.out.size))
  have Rx8 := Lib.hid (Rx7.out.below hb Rx7.out.2.2)
  have Ry8 := Lib.hid (Ry7.out.below hb Ry7.out.2.2)
  have Rz8 := Lib.hid (Rz7.out.below hb Rz7.out.2.2)
  clear HB7 Rx7 Ry7 Rz7 hb
  go_wp2_with fail
  clear Rz8
  refine (toStormS_flo e d m N _ (HE.out.below HB8.out (Nat.le_refl _)) HN.out hl2).mono ?_
  rintro en w9 ⟨za, zc, rfl, hb, hf⟩
  have HB9 : Hid (Below w.heap.size w w9) := Lib.hid (HB8.out.trans (hb.mono HB8.out.size))
  have Rx9 := Lib.hid (Rx8.out.below hb Rx8.out.2.2)
  have Ry9 := Lib.hid (Ry8.out.below hb Ry8.out.2.2)
  have Rz9 := Lib.hid hf
  clear HB8 Rx8 Ry8 hb hf
  go_wp2_with fail
  refine (eqStormS_flo ya za yc zc m N _ Ry9.out.row Rz9.out.row HN.out hl2 HZN.out).mono ?_
  rintro en w10 ⟨rfl, hb⟩
  have HB10 : Hid (Below w.heap.size w w10) := Lib.hid (HB9.out.trans (hb.mono HB9.out.size))
  have Rx10 := Lib.hid (Rx9.out.below hb Rx9.out.2.2)
  have Ry10 := Lib.hid (Ry9.out.below hb Ry9.out.2.2)
  have Rz10 := Lib.hid (Rz9.out.below hb Rz9.out.2.2)
  clear HB9 Rx9 Ry9 Rz9 hb
  go_wp2_with fail
  clear Rz10
  go_ret
  exact ⟨rfl, HB10.out⟩
  
set_option maxHeartbeats 1000000 in
theorem walk_FnExactSameStorms (a : Option Addr) (n c : Nat) (M : List Nat) (e : Option Addr) (m d : Nat) (N : List Nat) (w : World) (ha : IsRowFS w 4 a n c M) (he : IsRowFS w 4 e m d N) :
    Calls Try.prog 11 #[.slice a n c, .slice e m d] w fun e w' => e = .returned (.bool true) ∧ Below w.heap.size w w' := by
  obtain ⟨hM, hc, hcm, hr, hz⟩ := ha
  obtain ⟨gM, gc, gcm, gr, gz⟩ := he
  by_cases h1 : (n : Int) ≤ 1048576
  · by_cases h2 : (m : Int) ≤ 1048576 - (n : Int)
    · exact sameStormLaw_fits a e n c m d M N w hr gr hM gM hz gz h1 h2
    · unfold maxLen at hcm gcm
      clear hr gr hM gM hz gz
      have g1 : ¬ (1048576 : Int) - (n : Int) < 0 := by omega
      have hneg : ((-1 : Int) < 0) := by decide
      go_enter Try.func11, Try.ntmps11
      go_wp2_with fail
      refine (szStormS_fits a n c 1048576 h1 (by omega) _).mono ?_
      rintro en w' ⟨rfl, rfl⟩
      go_wp2_with fail
      refine (szStormS_not e m d _ (by omega) (by omega) (by omega) (by omega) _).mono ?_
      rintro en w' ⟨rfl, rfl⟩
      go_wp2_with fail
      go_ret
      exact ⟨rfl, Below.refl _ _⟩
  · unfold maxLen at hcm gcm
    clear hr gr hM gM hz gz
    have hneg : ((-1 : Int) < 0) := by decide
    go_enter Try.func11, Try.ntmps11
    go_wp2_with fail
    refine (szStormS_not a n c 1048576 (by omega) (by omega) (by omega) (by omega) _).mono ?_
    rintro en w' ⟨rfl, rfl⟩
    go_wp2_with fail
    go_ret
    exact ⟨rfl, Below.refl _ _⟩
end Go.Proofs.Ytljehplkdofhpac
