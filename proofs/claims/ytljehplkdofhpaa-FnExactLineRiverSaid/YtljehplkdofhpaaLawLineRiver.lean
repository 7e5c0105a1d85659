/- The walk of the law on LineRiver. -/
import Derived.Test.YtljehplkdofhpaaLineI
import Derived.Test.YtljehplkdofhpaaLineS
namespace Go.Proofs.Ytljehplkdofhpaa
open Go.RowKit
set_option linter.unusedVariables false
set_option linter.unusedSimpArgs false
set_option maxRecDepth 100000
attribute [local irreducible] wpV wpList Code.wp

set_option maxHeartbeats 8000000 in
theorem walk_FnExactLineRiver (x : Int) (w : World) (hx : (Lit.int .i64 x).wf = true) :
    Calls Try.prog 5 #[.int .i64 x] w fun e w' => e = .returned (.bool true) ∧ Below w.heap.size w w' := by
  have hlim := lineR_len x
  have cS : ∀ W : World, Calls Try.prog 22 #[.int .i64 x] W (RivP (lineR x) W) := fun W => lineRiver_s x W
  have cI : ∀ W : World, Calls Try.prog 23 #[.int .i64 x] W (RivP (lineR x) W) := fun W => lineRiver_i x W
  obtain ⟨⟨n, D, M, V, B⟩, hR⟩ : ∃ R, lineR x = R := ⟨_, rfl⟩
  rw [hR] at hlim
  have HS : Hid (∀ W : World, Calls Try.prog 22 #[.int .i64 x] W (RivP ⟨n, D, M, V, B⟩ W)) := Lib.hid fun W => by rw [← hR]; exact cS W
  have HI : Hid (∀ W : World, Calls Try.prog 23 #[.int .i64 x] W (RivP ⟨n, D, M, V, B⟩ W)) := Lib.hid fun W => by rw [← hR]; exact cI W
  obtain ⟨hD, hn, hV⟩ := hlim
  simp only at hD hn hV
  clear cS cI hR hx
  cases B
  all_goals
    go_enter Try.func5, Try.ntmps5
    have Bel_0 : Hid (Below w.heap.size w w) := Lib.hid (Below.refl w.heap.size w)
    go_wp2_with fail
    refine (HS.out _).mono ?_
    rintro e w1 ⟨los, his, Ls, sa0, sc0, sa1, sc1, sa2, sc2, rfl, hb, hrs, hlos⟩
    have z1 : w.heap.size + 0 ≤ w1.heap.size := (by have := hb.size; (try simp at this); omega)
    have Bel_1 : Hid (Below w.heap.size w w1) := Lib.hid (Bel_0.out.trans (hb.mono Bel_0.out.size))
    clear Bel_0
    simp only at hrs
    have hls : w.heap.size + 0 ≤ los := by (try simp at hlos); omega
    have hhs : his ≤ w1.heap.size := hrs.lh
    clear hlos
    clear hb
    have Qs_0 : Hid (RivAt w1 los his Ls sa0 sa1 sa2 sc0 sc1 sc2 n D M V) := Lib.hid (hrs)
    clear hrs
    have Bel_2 : Hid (Below w.heap.size w (w1.alloc (.cells #[.slice sa0 D.length sc0, .slice sa1 n sc1, .slice sa2 V.length sc2] 30))) := Lib.hid (Bel_1.out.alloc Bel_1.out.size _)
    clear Bel_1
    have Qs_1 : Hid (RivAt (w1.alloc (.cells #[.slice sa0 D.length sc0, .slice sa1 n sc1, .slice sa2 V.length sc2] 30)) los his Ls sa0 sa1 sa2 sc0 sc1 sc2 n D M V) := Lib.hid (Qs_0.out.alloc _)
    clear Qs_0
    have Bs_0 : Hid (Bx (w1.alloc (.cells #[.slice sa0 D.length sc0, .slice sa1 n sc1, .slice sa2 V.length sc2] 30)) (w1.heap.size) [.slice sa0 D.length sc0, .slice sa1 n sc1, .slice sa2 V.length sc2]) := Lib.hid (Bx.new w1 [.slice sa0 D.length sc0, .slice sa1 n sc1, .slice sa2 V.length sc2] 30)
    have hM : M.length = n * 4 := Qs_1.out.len
    have HM := Lib.hid hM
    clear hM
    have cBs0 := Bs_0.out.c 0 rfl
    have cBs1 := Bs_0.out.c 1 rfl
    have cBs2 := Bs_0.out.c 2 rfl
    go_wp2_with fail
    refine (HI.out _).mono ?_
    rintro e w2 ⟨log, hig, Lg, ga0, gc0, ga1, gc1, ga2, gc2, rfl, hb, hrg, hlog⟩
    clear cBs0 cBs1 cBs2
    have z2 : w1.heap.size + 1 ≤ w2.heap.size := (by have := hb.size; (try simp at this); omega)
    have Bel_3 : Hid (Below w.heap.size w w2) := Lib.hid (Bel_2.out.trans (hb.mono Bel_2.out.size))
    clear Bel_2
    have Qs_2 : Hid (RivAt w2 los his Ls sa0 sa1 sa2 sc0 sc1 sc2 n D M V) := Lib.hid (Qs_1.out.below hb Qs_1.out.lh)
    clear Qs_1
    have Bs_1 : Hid (Bx w2 (w1.heap.size) [.slice sa0 D.length sc0, .slice sa1 n sc1, .slice sa2 V.length sc2]) := Lib.hid (Bs_0.out.below hb Bs_0.out.1)
    clear Bs_0
    simp only at hrg
    have hlg : w1.heap.size + 1 ≤ log := by (try simp at hlog); omega
    have hhg : hig ≤ w2.heap.size := hrg.lh
    clear hlog
    clear hb
    have Qg_0 : Hid (RivAt w2 log hig Lg ga0 ga1 ga2 gc0 gc1 gc2 n D M V) := Lib.hid (hrg)
    clear hrg
    have Bel_4 : Hid (Below w.heap.size w (w2.alloc (.cells #[.slice ga0 D.length gc0, .slice ga1 n gc1, .slice ga2 V.length gc2] 30))) := Lib.hid (Bel_3.out.alloc Bel_3.out.size _)
    clear Bel_3
    have Qs_3 : Hid (RivAt (w2.alloc (.cells #[.slice ga0 D.length gc0, .slice ga1 n gc1, .slice ga2 V.length gc2] 30)) los his Ls sa0 sa1 sa2 sc0 sc1 sc2 n D M V) := Lib.hid (Qs_2.out.alloc _)
    clear Qs_2
    have Bs_2 : Hid (Bx (w2.alloc (.cells #[.slice ga0 D.length gc0, .slice ga1 n gc1, .slice ga2 V.length gc2] 30)) (w1.heap.size) [.slice sa0 D.length sc0, .slice sa1 n sc1, .slice sa2 V.length sc2]) := Lib.hid (Bs_1.out.alloc _)
    clear Bs_1
    have Qg_1 : Hid (RivAt (w2.alloc (.cells #[.slice ga0 D.length gc0, .slice ga1 n gc1, .slice ga2 V.length gc2] 30)) log hig Lg ga0 ga1 ga2 gc0 gc1 gc2 n D M V) := Lib.hid (Qg_0.out.alloc _)
    clear Qg_0
    have Bg_0 : Hid (Bx (w2.alloc (.cells #[.slice ga0 D.length gc0, .slice ga1 n gc1, .slice ga2 V.length gc2] 30)) (w2.heap.size) [.slice ga0 D.length gc0, .slice ga1 n gc1, .slice ga2 V.length gc2]) := Lib.hid (Bx.new w2 [.slice ga0 D.length gc0, .slice ga1 n gc1, .slice ga2 V.length gc2] 30)
    have cBs0 := Bs_2.out.c 0 rfl
    have cBs1 := Bs_2.out.c 1 rfl
    have cBs2 := Bs_2.out.c 2 rfl
    have cBg0 := Bg_0.out.c 0 rfl
    have cBg1 := Bg_0.out.c 1 rfl
    have cBg2 := Bg_0.out.c 2 rfl
    go_wp2_with fail
    refine (eqRiver_any ga0 ga1 ga2 sa0 sa1 sa2 gc0 gc1 gc2 sc0 sc1 sc2 n D M V _ Qg_1.out.r0.row Qg_1.out.r1.row Qg_1.out.r2.row hD hn hV HM.out Qs_3.out.r0.row Qs_3.out.r1.row Qs_3.out.r2.row).mono ?_
    rintro e w3 ⟨rfl, hb⟩
    clear cBs0 cBs1 cBs2 cBg0 cBg1 cBg2
    have z3 : w2.heap.size + 1 ≤ w3.heap.size := (by have := hb.size; (try simp at this); omega)
    have Bel_5 : Hid (Below w.heap.size w w3) := Lib.hid (Bel_4.out.trans (hb.mono Bel_4.out.size))
    clear Bel_4
    have Qs_4 : Hid (RivAt w3 los his Ls sa0 sa1 sa2 sc0 sc1 sc2 n D M V) := Lib.hid (Qs_3.out.below hb Qs_3.out.lh)
    clear Qs_3
    have Bs_3 : Hid (Bx w3 (w1.heap.size) [.slice sa0 D.length sc0, .slice sa1 n sc1, .slice sa2 V.length sc2]) := Lib.hid (Bs_2.out.below hb Bs_2.out.1)
    clear Bs_2
    have Qg_2 : Hid (RivAt w3 log hig Lg ga0 ga1 ga2 gc0 gc1 gc2 n D M V) := Lib.hid (Qg_1.out.below hb Qg_1.out.lh)
    clear Qg_1
    have Bg_1 : Hid (Bx w3 (w2.heap.size) [.slice ga0 D.length gc0, .slice ga1 n gc1, .slice ga2 V.length gc2]) := Lib.hid (Bg_0.out.below hb Bg_0.out.1)
    clear Bg_0
    clear hb
    have cBs0 := Bs_3.out.c 0 rfl
    have cBs1 := Bs_3.out.c 1 rfl
    have cBs2 := Bs_3.out.c 2 rfl
    have cBg0 := Bg_1.out.c 0 rfl
    have cBg1 := Bg_1.out.c 1 rfl
    have cBg2 := Bg_1.out.c 2 rfl
    go_wp2_with fail
    have hmk := markRiver_any log hig 1 Lg ga0 ga1 ga2 gc0 gc1 gc2 n D M V _ Qg_2.out hD hn hV (by omega)
    clear Qg_2
    refine (hmk).mono ?_
    rintro e w4 ⟨rfl, hf, hk⟩
    clear cBs0 cBs1 cBs2 cBg0 cBg1 cBg2
    have z4 : w3.heap.size + 0 ≤ w4.heap.size := (by have := hk.size; (try simp at this); omega)
    have Bel_6 : Hid (Below w.heap.size w w4) := Lib.hid (Bel_5.out.trans (hk.below (by omega) (by omega)))
    clear Bel_5
    have Qs_5 : Hid (RivAt w4 los his Ls sa0 sa1 sa2 sc0 sc1 sc2 n D M V) := Lib.hid (Qs_4.out.kept hk (by first | exact .inl (by omega) | exact .inr (by omega) | omega))
    clear Qs_4
    have Bs_4 : Hid (Bx w4 (w1.heap.size) [.slice sa0 D.length sc0, .slice sa1 n sc1, .slice sa2 V.length sc2]) := Lib.hid (Bs_3.out.kept hk (by first | exact .inl (by omega) | exact .inr (by omega) | omega))
    clear Bs_3
    have Bg_2 : Hid (Bx w4 (w2.heap.size) [.slice ga0 D.length gc0, .slice ga1 n gc1, .slice ga2 V.length gc2]) := Lib.hid (Bg_1.out.kept hk (by first | exact .inl (by omega) | exact .inr (by omega) | omega))
    clear Bg_1
    clear hk
    have Qg_0 : Hid (MarkedR w4 log hig Lg 1 ga0 ga1 ga2 gc0 gc1 gc2 D.length n V.length) := Lib.hid (hf)
    clear hf
    have hcn : ¬ ((1 + D.length + n * 4 + V.length : Nat) : Int) < 0 := by omega
    have cBs0 := Bs_4.out.c 0 rfl
    have cBs1 := Bs_4.out.c 1 rfl
    have cBs2 := Bs_4.out.c 2 rfl
    have cBg0 := Bg_2.out.c 0 rfl
    have cBg1 := Bg_2.out.c 1 rfl
    have cBg2 := Bg_2.out.c 2 rfl
    go_wp2_with fail
    refine (heldRiver_any log hig 1 Lg ga0 ga1 ga2 gc0 gc1 gc2 D.length n V.length _ Qg_0.out hD hn hV (by omega)).mono ?_
    rintro e w5 ⟨rfl, hb⟩
    clear cBs0 cBs1 cBs2 cBg0 cBg1 cBg2
    have z5 : w4.heap.size + 0 ≤ w5.heap.size := (by have := hb.size; (try simp at this); omega)
    have Bel_7 : Hid (Below w.heap.size w w5) := Lib.hid (Bel_6.out.trans (hb.mono Bel_6.out.size))
    clear Bel_6
    have Qs_6 : Hid (RivAt w5 los his Ls sa0 sa1 sa2 sc0 sc1 sc2 n D M V) := Lib.hid (Qs_5.out.below hb Qs_5.out.lh)
    clear Qs_5
    have Bs_5 : Hid (Bx w5 (w1.heap.size) [.slice sa0 D.length sc0, .slice sa1 n sc1, .slice sa2 V.length sc2]) := Lib.hid (Bs_4.out.below hb Bs_4.out.1)
    clear Bs_4
    have Bg_3 : Hid (Bx w5 (w2.heap.size) [.slice ga0 D.length gc0, .slice ga1 n gc1, .slice ga2 V.length gc2]) := Lib.hid (Bg_2.out.below hb Bg_2.out.1)
    clear Bg_2
    have Qg_1 : Hid (MarkedR w5 log hig Lg 1 ga0 ga1 ga2 gc0 gc1 gc2 D.length n V.length) := Lib.hid (Qg_0.out.below hb Qg_0.out.lh)
    clear Qg_0
    clear hb
    have cBs0 := Bs_5.out.c 0 rfl
    have cBs1 := Bs_5.out.c 1 rfl
    have cBs2 := Bs_5.out.c 2 rfl
    have cBg0 := Bg_3.out.c 0 rfl
    have cBg1 := Bg_3.out.c 1 rfl
    have cBg2 := Bg_3.out.c 2 rfl
    go_wp2_with fail
    refine (HI.out _).mono ?_
    rintro e w6 ⟨loh, hih, Lh, ha0, hc0, ha1, hc1, ha2, hc2, rfl, hb, hrh, hloh⟩
    clear cBs0 cBs1 cBs2 cBg0 cBg1 cBg2
    have z6 : w5.heap.size + 0 ≤ w6.heap.size := (by have := hb.size; (try simp at this); omega)
    have Bel_8 : Hid (Below w.heap.size w w6) := Lib.hid (Bel_7.out.trans (hb.mono Bel_7.out.size))
    clear Bel_7
    have Qs_7 : Hid (RivAt w6 los his Ls sa0 sa1 sa2 sc0 sc1 sc2 n D M V) := Lib.hid (Qs_6.out.below hb Qs_6.out.lh)
    clear Qs_6
    have Bs_6 : Hid (Bx w6 (w1.heap.size) [.slice sa0 D.length sc0, .slice sa1 n sc1, .slice sa2 V.length sc2]) := Lib.hid (Bs_5.out.below hb Bs_5.out.1)
    clear Bs_5
    have Bg_4 : Hid (Bx w6 (w2.heap.size) [.slice ga0 D.length gc0, .slice ga1 n gc1, .slice ga2 V.length gc2]) := Lib.hid (Bg_3.out.below hb Bg_3.out.1)
    clear Bg_3
    have Qg_2 : Hid (MarkedR w6 log hig Lg 1 ga0 ga1 ga2 gc0 gc1 gc2 D.length n V.length) := Lib.hid (Qg_1.out.below hb Qg_1.out.lh)
    clear Qg_1
    simp only at hrh
    have hlh : w5.heap.size + 0 ≤ loh := by (try simp at hloh); omega
    have hhh : hih ≤ w6.heap.size := hrh.lh
    clear hloh
    clear hb
    have Qh_0 : Hid (RivAt w6 loh hih Lh ha0 ha1 ha2 hc0 hc1 hc2 n D M V) := Lib.hid (hrh)
    clear hrh
    have Bel_9 : Hid (Below w.heap.size w (w6.alloc (.cells #[.slice ha0 D.length hc0, .slice ha1 n hc1, .slice ha2 V.length hc2] 30))) := Lib.hid (Bel_8.out.alloc Bel_8.out.size _)
    clear Bel_8
    have Qs_8 : Hid (RivAt (w6.alloc (.cells #[.slice ha0 D.length hc0, .slice ha1 n hc1, .slice ha2 V.length hc2] 30)) los his Ls sa0 sa1 sa2 sc0 sc1 sc2 n D M V) := Lib.hid (Qs_7.out.alloc _)
    clear Qs_7
    have Bs_7 : Hid (Bx (w6.alloc (.cells #[.slice ha0 D.length hc0, .slice ha1 n hc1, .slice ha2 V.length hc2] 30)) (w1.heap.size) [.slice sa0 D.length sc0, .slice sa1 n sc1, .slice sa2 V.length sc2]) := Lib.hid (Bs_6.out.alloc _)
    clear Bs_6
    have Bg_5 : Hid (Bx (w6.alloc (.cells #[.slice ha0 D.length hc0, .slice ha1 n hc1, .slice ha2 V.length hc2] 30)) (w2.heap.size) [.slice ga0 D.length gc0, .slice ga1 n gc1, .slice ga2 V.length gc2]) := Lib.hid (Bg_4.out.alloc _)
    clear Bg_4
    have Qg_3 : Hid (MarkedR (w6.alloc (.cells #[.slice ha0 D.length hc0, .slice ha1 n hc1, .slice ha2 V.length hc2] 30)) log hig Lg 1 ga0 ga1 ga2 gc0 gc1 gc2 D.length n V.length) := Lib.hid (Qg_2.out.alloc _)
    clear Qg_2
    have Qh_1 : Hid (RivAt (w6.alloc (.cells #[.slice ha0 D.length hc0, .slice ha1 n hc1, .slice ha2 V.length hc2] 30)) loh hih Lh ha0 ha1 ha2 hc0 hc1 hc2 n D M V) := Lib.hid (Qh_0.out.alloc _)
    clear Qh_0
    have Bh_0 : Hid (Bx (w6.alloc (.cells #[.slice ha0 D.length hc0, .slice ha1 n hc1, .slice ha2 V.length hc2] 30)) (w6.heap.size) [.slice ha0 D.length hc0, .slice ha1 n hc1, .slice ha2 V.length hc2]) := Lib.hid (Bx.new w6 [.slice ha0 D.length hc0, .slice ha1 n hc1, .slice ha2 V.length hc2] 30)
    have cBs0 := Bs_7.out.c 0 rfl
    have cBs1 := Bs_7.out.c 1 rfl
    have cBs2 := Bs_7.out.c 2 rfl
    have cBg0 := Bg_5.out.c 0 rfl
    have cBg1 := Bg_5.out.c 1 rfl
    have cBg2 := Bg_5.out.c 2 rfl
    have cBh0 := Bh_0.out.c 0 rfl
    have cBh1 := Bh_0.out.c 1 rfl
    have cBh2 := Bh_0.out.c 2 rfl
    go_wp2_with fail
    refine (eqRiver_any ha0 ha1 ha2 sa0 sa1 sa2 hc0 hc1 hc2 sc0 sc1 sc2 n D M V _ Qh_1.out.r0.row Qh_1.out.r1.row Qh_1.out.r2.row hD hn hV HM.out Qs_8.out.r0.row Qs_8.out.r1.row Qs_8.out.r2.row).mono ?_
    rintro e w7 ⟨rfl, hb⟩
    clear cBs0 cBs1 cBs2 cBg0 cBg1 cBg2 cBh0 cBh1 cBh2
    have z7 : w6.heap.size + 1 ≤ w7.heap.size := (by have := hb.size; (try simp at this); omega)
    have Bel_10 : Hid (Below w.heap.size w w7) := Lib.hid (Bel_9.out.trans (hb.mono Bel_9.out.size))
    clear Bel_9
    have Qs_9 : Hid (RivAt w7 los his Ls sa0 sa1 sa2 sc0 sc1 sc2 n D M V) := Lib.hid (Qs_8.out.below hb Qs_8.out.lh)
    clear Qs_8
    have Bs_8 : Hid (Bx w7 (w1.heap.size) [.slice sa0 D.length sc0, .slice sa1 n sc1, .slice sa2 V.length sc2]) := Lib.hid (Bs_7.out.below hb Bs_7.out.1)
    clear Bs_7
    have Bg_6 : Hid (Bx w7 (w2.heap.size) [.slice ga0 D.length gc0, .slice ga1 n gc1, .slice ga2 V.length gc2]) := Lib.hid (Bg_5.out.below hb Bg_5.out.1)
    clear Bg_5
    have Qg_4 : Hid (MarkedR w7 log hig Lg 1 ga0 ga1 ga2 gc0 gc1 gc2 D.length n V.length) := Lib.hid (Qg_3.out.below hb Qg_3.out.lh)
    clear Qg_3
    have Qh_2 : Hid (RivAt w7 loh hih Lh ha0 ha1 ha2 hc0 hc1 hc2 n D M V) := Lib.hid (Qh_1.out.below hb Qh_1.out.lh)
    clear Qh_1
    have Bh_1 : Hid (Bx w7 (w6.heap.size) [.slice ha0 D.length hc0, .slice ha1 n hc1, .slice ha2 V.length hc2]) := Lib.hid (Bh_0.out.below hb Bh_0.out.1)
    clear Bh_0
    clear hb
    have cBs0 := Bs_8.out.c 0 rfl
    have cBs1 := Bs_8.out.c 1 rfl
    have cBs2 := Bs_8.out.c 2 rfl
    have cBg0 := Bg_6.out.c 0 rfl
    have cBg1 := Bg_6.out.c 1 rfl
    have cBg2 := Bg_6.out.c 2 rfl
    have cBh0 := Bh_1.out.c 0 rfl
    have cBh1 := Bh_1.out.c 1 rfl
    have cBh2 := Bh_1.out.c 2 rfl
    go_wp2_with fail
    refine (heldRiver_any log hig 1 Lg ga0 ga1 ga2 gc0 gc1 gc2 D.length n V.length _ Qg_4.out hD hn hV (by omega)).mono ?_
    rintro e w8 ⟨rfl, hb⟩
    clear cBs0 cBs1 cBs2 cBg0 cBg1 cBg2 cBh0 cBh1 cBh2
    have z8 : w7.heap.size + 0 ≤ w8.heap.size := (by have := hb.size; (try simp at this); omega)
    have Bel_11 : Hid (Below w.heap.size w w8) := Lib.hid (Bel_10.out.trans (hb.mono Bel_10.out.size))
    clear Bel_10
    have Qs_10 : Hid (RivAt w8 los his Ls sa0 sa1 sa2 sc0 sc1 sc2 n D M V) := Lib.hid (Qs_9.out.below hb Qs_9.out.lh)
    clear Qs_9
    have Bs_9 : Hid (Bx w8 (w1.heap.size) [.slice sa0 D.length sc0, .slice sa1 n sc1, .slice sa2 V.length sc2]) := Lib.hid (Bs_8.out.below hb Bs_8.out.1)
    clear Bs_8
    have Bg_7 : Hid (Bx w8 (w2.heap.size) [.slice ga0 D.length gc0, .slice ga1 n gc1, .slice ga2 V.length gc2]) := Lib.hid (Bg_6.out.below hb Bg_6.out.1)
    clear Bg_6
    have Qg_5 : Hid (MarkedR w8 log hig Lg 1 ga0 ga1 ga2 gc0 gc1 gc2 D.length n V.length) := Lib.hid (Qg_4.out.below hb Qg_4.out.lh)
    clear Qg_4
    have Qh_3 : Hid (RivAt w8 loh hih Lh ha0 ha1 ha2 hc0 hc1 hc2 n D M V) := Lib.hid (Qh_2.out.below hb Qh_2.out.lh)
    clear Qh_2
    have Bh_2 : Hid (Bx w8 (w6.heap.size) [.slice ha0 D.length hc0, .slice ha1 n hc1, .slice ha2 V.length hc2]) := Lib.hid (Bh_1.out.below hb Bh_1.out.1)
    clear Bh_1
    clear hb
    have cBs0 := Bs_9.out.c 0 rfl
    have cBs1 := Bs_9.out.c 1 rfl
    have cBs2 := Bs_9.out.c 2 rfl
    have cBg0 := Bg_7.out.c 0 rfl
    have cBg1 := Bg_7.out.c 1 rfl
    have cBg2 := Bg_7.out.c 2 rfl
    have cBh0 := Bh_2.out.c 0 rfl
    have cBh1 := Bh_2.out.c 1 rfl
    have cBh2 := Bh_2.out.c 2 rfl
    go_wp2_with fail
    go_ret
    exact ⟨rfl, Bel_11.out⟩
end Go.Proofs.Ytljehplkdofhpaa
