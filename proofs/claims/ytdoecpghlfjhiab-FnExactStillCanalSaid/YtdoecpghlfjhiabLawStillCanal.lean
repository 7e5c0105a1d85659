/- The walk of the law on StillCanal. -/
import Derived.Test.YtdoecpghlfjhiabStillI
import Derived.Test.YtdoecpghlfjhiabStillS
import Derived.Test.YtdoecpghlfjhiabCanalH
namespace Go.Proofs.Ytdoecpghlfjhiab
open Go.RowKit
set_option linter.unusedVariables false
set_option linter.unusedSimpArgs false
set_option maxRecDepth 100000
attribute [local irreducible] wpV wpList Code.wp

set_option maxHeartbeats 8000000 in
theorem walk_FnExactStillCanal (n : Int) (x0 x1 x2 : Nat) (w : World) (hn : (Lit.int .i64 n).wf = true) (hx0 : x0 < 4294967296) (hx1 : x1 < 4294967296) (hx2 : x2 < 4294967296) :
    Calls Try.prog 5 #[.int .i64 n, .float .f32 x0, .float .f32 x1, .float .f32 x2] w fun e w' => e = .returned (.bool true) ∧ Below w.heap.size w w' := by
  obtain ⟨⟨N0, N1, N2, Z0, Z1, B⟩, hR⟩ : ∃ R, stillO (some x0) (some x1) (some x2) n = R := ⟨_, rfl⟩
  have cS : ∀ W : World, Calls Try.prog 24 #[.int .i64 n, .float .f32 x0, .float .f32 x1, .float .f32 x2] W (CanS ⟨N0, N1, N2, Z0, Z1, B⟩ W) := fun W => by have := stillCanal_s n W (Is32.c hx0) (Is32.c hx1) (Is32.c hx2); rw [hR] at this; exact this
  have cI : ∀ W : World, Calls Try.prog 25 #[.int .i64 n, .float .f32 x0, .float .f32 x1, .float .f32 x2] W (CanI ⟨N0, N1, N2, Z0, Z1, B⟩ W) := fun W => by have := stillCanal_i n W (Is32.c hx0) (Is32.c hx1) (Is32.c hx2); rw [hR] at this; exact this
  have HS := Lib.hid cS
  have HI := Lib.hid cI
  clear cS cI hR hn hx0 hx1 hx2
  cases B
  all_goals
    go_enter Try.func5, Try.ntmps5
    go_wp2_with fail
    refine (HS.out _).mono ?_
    rintro e w1 ⟨s0, s1, s2, sa, sc, sb, sd, rfl, ⟨si0, si1, si2⟩, sr0, sr1, sl0, sl1, hb⟩
    simp only at si0 si1 si2 sr0 sr1 sl0 sl1 ⊢
    have HB1 : Hid (Below w.heap.size w w1) := Lib.hid hb
    have RS0 := Lib.hid sr0
    have RS1 := Lib.hid sr1
    clear hb sr0 sr1
    go_wp2_with fail
    refine (HI.out _).mono ?_
    rintro e w2 ⟨t0, t1, t2, ta, tc, tb, td, lo, mid, hi, rfl, ⟨ti0, ti1, ti2⟩, fr0, fr1, hlo, hlm, hmh, hhi, tl0, tl1, hb⟩
    simp only at ti0 ti1 ti2 fr0 fr1 tl0 tl1 ⊢
    have hlo1 : w1.heap.size + 1 ≤ lo := by simpa using hlo
    clear hlo
    have hs2 : w1.heap.size < w2.heap.size := (by have := hb.size; simp at this; omega)
    have BW2 : Hid (Bx w2 w1.heap.size [.float .f32 s0, .float .f32 s1, .float .f32 s2, .slice sa Z0.length sc, .slice sb Z1.length sd]) := Lib.hid (Bx.below (Bx.new w1 [.float .f32 s0, .float .f32 s1, .float .f32 s2, .slice sa Z0.length sc, .slice sb Z1.length sd] 36) hb (by simp))
    have HC2 : Hid (Below w1.heap.size w1 w2) := Lib.hid ((bel1 w1 _).trans (hb.mono (by simp)))
    clear hb
    have BG2 := Lib.hid (Bx.new w2 [.float .f32 t0, .float .f32 t1, .float .f32 t2, .slice ta Z0.length tc, .slice tb Z1.length td] 36)
    have BW2' := Lib.hid (BW2.out.alloc (.cells #[.float .f32 t0, .float .f32 t1, .float .f32 t2, .slice ta Z0.length tc, .slice tb Z1.length td] 36))
    have kg0 := BG2.out.c 0 rfl
    have kg1 := BG2.out.c 1 rfl
    have kg2 := BG2.out.c 2 rfl
    have kg3 := BG2.out.c 3 rfl
    have kg4 := BG2.out.c 4 rfl
    have kw0 := BW2'.out.c 0 rfl
    have kw1 := BW2'.out.c 1 rfl
    have kw2 := BW2'.out.c 2 rfl
    have kw3 := BW2'.out.c 3 rfl
    have kw4 := BW2'.out.c 4 rfl
    have FR0 := Lib.hid fr0
    have FR1 := Lib.hid fr1
    clear fr0 fr1 BW2
    go_wp2_with fail
    refine (eqCanal_any ta tb sa sb tc td sc sd Z0 Z1 _ ti0 si0 ti1 si1 ti2 si2 (FR0.out.alloc _).row (RS0.out.below (HC2.out.alloc (Nat.le_of_lt hs2) _) (Nat.le_refl _)) tl0 (FR1.out.alloc _).row (RS1.out.below (HC2.out.alloc (Nat.le_of_lt hs2) _) (Nat.le_refl _)) tl1).mono ?_
    rintro e w3 ⟨rfl, hb⟩
    have hz3 : w2.heap.size < w3.heap.size := (by have := hb.size; simp at this; omega)
    clear kg0 kw0 kg1 kw1 kg2 kw2 kg3 kw3 kg4 kw4
    have BG3 := Lib.hid (BG2.out.below hb BG2.out.1)
    have BW3 := Lib.hid (BW2'.out.below hb BW2'.out.1)
    have HC3 : Hid (Below w1.heap.size w1 w3) := Lib.hid ((HC2.out.alloc (Nat.le_of_lt hs2) (.cells #[.float .f32 t0, .float .f32 t1, .float .f32 t2, .slice ta Z0.length tc, .slice tb Z1.length td] 36)).trans (hb.mono (by simp; omega)))
    have F30 := Lib.hid ((FR0.out.alloc (.cells #[.float .f32 t0, .float .f32 t1, .float .f32 t2, .slice ta Z0.length tc, .slice tb Z1.length td] 36)).below hb (by simp; omega))
    have F31 := Lib.hid ((FR1.out.alloc (.cells #[.float .f32 t0, .float .f32 t1, .float .f32 t2, .slice ta Z0.length tc, .slice tb Z1.length td] 36)).below hb (by simp; omega))
    clear hb BG2 BW2' FR0 FR1 HC2
    have kg0 := BG3.out.c 0 rfl
    have kg1 := BG3.out.c 1 rfl
    have kg2 := BG3.out.c 2 rfl
    have kg3 := BG3.out.c 3 rfl
    have kg4 := BG3.out.c 4 rfl
    have kw0 := BW3.out.c 0 rfl
    have kw1 := BW3.out.c 1 rfl
    have kw2 := BW3.out.c 2 rfl
    have kw3 := BW3.out.c 3 rfl
    have kw4 := BW3.out.c 4 rfl
    go_wp2_with fail
    refine (markCanal_any lo mid hi 1 t0 t1 t2 ta tb tc td Z0 Z1 _ F30.out F31.out hlm hmh tl0 tl1 (by decide)).mono ?_
    rintro e w4 ⟨rfl, hf0, hf1, hk⟩
    have hz4 : w3.heap.size ≤ w4.heap.size := hk.size
    clear kg0 kw0 kg1 kw1 kg2 kw2 kg3 kw3 kg4 kw4
    have BG4 := Lib.hid (BG3.out.kept hk (.inr hhi))
    have BW4 := Lib.hid (BW3.out.kept hk (.inl (by omega)))
    have HC4 : Hid (Below w1.heap.size w1 w4) := Lib.hid (HC3.out.trans (hk.below (by omega) (by omega)))
    have F40 := Lib.hid hf0
    have F41 := Lib.hid hf1
    clear hk hf0 hf1 BG3 BW3 F30 F31 HC3
    have kg0 := BG4.out.c 0 rfl
    have kg1 := BG4.out.c 1 rfl
    have kg2 := BG4.out.c 2 rfl
    have kg3 := BG4.out.c 3 rfl
    have kg4 := BG4.out.c 4 rfl
    have kw0 := BW4.out.c 0 rfl
    have kw1 := BW4.out.c 1 rfl
    have kw2 := BW4.out.c 2 rfl
    have kw3 := BW4.out.c 3 rfl
    have kw4 := BW4.out.c 4 rfl
    have hcn : ¬ ((1 + Z0.length + Z1.length : Nat) : Int) < 0 := by omega
    go_wp2_with fail
    refine (heldCanal_any lo mid hi 1 Z0.length Z1.length t0 t1 t2 ta tb tc td _ F40.out F41.out tl0 tl1 (by decide)).mono ?_
    rintro e w5 ⟨rfl, hb⟩
    have hz5 : w4.heap.size ≤ w5.heap.size := hb.size
    clear kg0 kw0 kg1 kw1 kg2 kw2 kg3 kw3 kg4 kw4
    have BG5 := Lib.hid (BG4.out.below hb BG4.out.1)
    have BW5 := Lib.hid (BW4.out.below hb BW4.out.1)
    have HC5 : Hid (Below w1.heap.size w1 w5) := Lib.hid (HC4.out.trans (hb.mono (by omega)))
    have F50 := Lib.hid (F40.out.below hb (by omega))
    have F51 := Lib.hid (F41.out.below hb (by omega))
    clear hb BG4 BW4 F40 F41 HC4
    go_wp2_with fail
    refine (HI.out _).mono ?_
    rintro e w6 ⟨u0, u1, u2, ua, uc, ub, ud, lo', mid', hi', rfl, ⟨ui0, ui1, ui2⟩, fr0, fr1, hlo', hlm', hmh', hhi', ul0, ul1, hb⟩
    simp only at ui0 ui1 ui2 fr0 fr1 ul0 ul1 ⊢
    have hz6 : w5.heap.size ≤ w6.heap.size := hb.size
    have BG6 := Lib.hid ((BG5.out.below hb BG5.out.1).alloc (.cells #[.float .f32 u0, .float .f32 u1, .float .f32 u2, .slice ua Z0.length uc, .slice ub Z1.length ud] 36))
    have BW6 := Lib.hid ((BW5.out.below hb BW5.out.1).alloc (.cells #[.float .f32 u0, .float .f32 u1, .float .f32 u2, .slice ua Z0.length uc, .slice ub Z1.length ud] 36))
    have BH6 := Lib.hid (Bx.new w6 [.float .f32 u0, .float .f32 u1, .float .f32 u2, .slice ua Z0.length uc, .slice ub Z1.length ud] 36)
    have HC6 : Hid (Below w1.heap.size w1 (w6.alloc (.cells #[.float .f32 u0, .float .f32 u1, .float .f32 u2, .slice ua Z0.length uc, .slice ub Z1.length ud] 36))) := Lib.hid ((HC5.out.trans (hb.mono (by omega))).alloc (by omega) _)
    have F60 := Lib.hid ((F50.out.below hb (by omega)).alloc (.cells #[.float .f32 u0, .float .f32 u1, .float .f32 u2, .slice ua Z0.length uc, .slice ub Z1.length ud] 36))
    have F61 := Lib.hid ((F51.out.below hb (by omega)).alloc (.cells #[.float .f32 u0, .float .f32 u1, .float .f32 u2, .slice ua Z0.length uc, .slice ub Z1.length ud] 36))
    have FU0 := Lib.hid (fr0.alloc (.cells #[.float .f32 u0, .float .f32 u1, .float .f32 u2, .slice ua Z0.length uc, .slice ub Z1.length ud] 36)).row
    have FU1 := Lib.hid (fr1.alloc (.cells #[.float .f32 u0, .float .f32 u1, .float .f32 u2, .slice ua Z0.length uc, .slice ub Z1.length ud] 36)).row
    clear hb fr0 fr1 BG5 BW5 F50 F51 HC5
    have kg0 := BG6.out.c 0 rfl
    have kg1 := BG6.out.c 1 rfl
    have kg2 := BG6.out.c 2 rfl
    have kg3 := BG6.out.c 3 rfl
    have kg4 := BG6.out.c 4 rfl
    have kw0 := BW6.out.c 0 rfl
    have kw1 := BW6.out.c 1 rfl
    have kw2 := BW6.out.c 2 rfl
    have kw3 := BW6.out.c 3 rfl
    have kw4 := BW6.out.c 4 rfl
    have kh0 := BH6.out.c 0 rfl
    have kh1 := BH6.out.c 1 rfl
    have kh2 := BH6.out.c 2 rfl
    have kh3 := BH6.out.c 3 rfl
    have kh4 := BH6.out.c 4 rfl
    go_wp2_with fail
    refine (eqCanal_any ua ub sa sb uc ud sc sd Z0 Z1 _ ui0 si0 ui1 si1 ui2 si2 FU0.out (RS0.out.below HC6.out (Nat.le_refl _)) tl0 FU1.out (RS1.out.below HC6.out (Nat.le_refl _)) tl1).mono ?_
    rintro e w7 ⟨rfl, hb⟩
    clear kg0 kw0 kh0 kg1 kw1 kh1 kg2 kw2 kh2 kg3 kw3 kh3 kg4 kw4 kh4
    have hz7 : w6.heap.size < w7.heap.size := (by have := hb.size; simp at this; omega)
    have BG7 := Lib.hid (BG6.out.below hb BG6.out.1)
    have HC7 : Hid (Below w1.heap.size w1 w7) := Lib.hid (HC6.out.trans (hb.mono (by simp; omega)))
    have F70 := Lib.hid (F60.out.below hb (by simp; omega))
    have F71 := Lib.hid (F61.out.below hb (by simp; omega))
    clear hb BG6 BW6 BH6 F60 F61 HC6
    have kg0 := BG7.out.c 0 rfl
    have kg1 := BG7.out.c 1 rfl
    have kg2 := BG7.out.c 2 rfl
    have kg3 := BG7.out.c 3 rfl
    have kg4 := BG7.out.c 4 rfl
    go_wp2_with fail
    refine (heldCanal_any lo mid hi 1 Z0.length Z1.length t0 t1 t2 ta tb tc td _ F70.out F71.out tl0 tl1 (by decide)).mono ?_
    rintro e w8 ⟨rfl, hb⟩
    have HC8 : Hid (Below w1.heap.size w1 w8) := Lib.hid (HC7.out.trans (hb.mono (by omega)))
    clear hb
    go_wp2_with fail
    go_ret
    exact ⟨rfl, HB1.out.trans (HC8.out.mono HB1.out.size)⟩
end Go.Proofs.Ytdoecpghlfjhiab
