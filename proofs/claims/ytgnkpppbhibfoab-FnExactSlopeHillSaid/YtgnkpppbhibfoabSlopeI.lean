/- Slopes: the program. -/
import Derived.Test.YtgnkpppbhibfoabSlopeC
import Derived.Deep.Cut
namespace Go.Proofs.Ytgnkpppbhibfoab
open Go.RowKit
set_option linter.unusedVariables false
set_option linter.unusedSimpArgs false
set_option maxRecDepth 100000
attribute [local irreducible] wpV wpList Code.wp

set_option maxHeartbeats 4000000 in
theorem slopeHill_impl (wide high : Int) (b e s : Nat) (w : World) (hwl : -9223372036854775808 ≤ wide) (hwm : wide ≤ 9223372036854775807) (hhl : -9223372036854775808 ≤ high) (hhm : high ≤ 9223372036854775807) (hb0 : b < 4294967296) (he0 : e < 4294967296) (hs0 : s < 4294967296) :
    Calls Try.prog 16 #[.int .i64 wide, .int .i64 high, .float .f32 b, .float .f32 e, .float .f32 s] w (RetHB (resSlopeHill wide high b e s).wide (resSlopeHill wide high b e s).high (resSlopeHill wide high b e s).zs (resSlopeHill wide high b e s).ok w) := by
  obtain ⟨Q, hQ⟩ : ∃ Q, resSlopeHill wide high b e s = Q := ⟨_, rfl⟩
  rw [hQ]
  have HQ := Lib.hid hQ
  clear hQ
  have HTb : Hid (Is32 (some b) b) := Lib.hid (Is32.c hb0)
  have HTe : Hid (Is32 (some e) e) := Lib.hid (Is32.c he0)
  have HTs : Hid (Is32 (some s) s) := Lib.hid (Is32.c hs0)
  clear hb0 he0 hs0
  obtain ⟨W5, hW5⟩ : ∃ W, (((((w.alloc (.cells #[.int .i64 wide] 2)).alloc (.cells #[.float .f32 b] 22)).alloc (.cells #[.float .f32 e] 22)).alloc (.cells #[.float .f32 s] 22)).alloc (.cells #[.int .i64 0, .int .i64 0, .slice none 0 0] 25)) = W := ⟨_, rfl⟩
  have c1 : W5.cell? ⟨w.heap.size, 0, none⟩ = some (.int .i64 wide) := by rw [← hW5]; simp [go_sem]
  have c2 : W5.cell? ⟨w.heap.size + 1, 0, none⟩ = some (.float .f32 b) := by rw [← hW5]; simp [go_sem]
  have c3 : W5.cell? ⟨w.heap.size + 1 + 1, 0, none⟩ = some (.float .f32 e) := by rw [← hW5]; simp [go_sem]
  have c4 : W5.cell? ⟨w.heap.size + 1 + 1 + 1, 0, none⟩ = some (.float .f32 s) := by rw [← hW5]; simp [go_sem]
  have hbr : BoxW W5 (w.heap.size + 1 + 1 + 1 + 1) 0 0 (.slice none 0 0) := by rw [← hW5]; exact BoxW.at _ _ (by simp) 0 0 (.slice none 0 0) 25
  have hsz : W5.heap.size = w.heap.size + 1 + 1 + 1 + 1 + 1 := by rw [← hW5]; simp
  have hb : Below w.heap.size w W5 := by rw [← hW5]; exact (((((Below.refl _ _).alloc (by omega) _).alloc (by simp) _).alloc (by simp; omega) _).alloc (by simp; omega) _).alloc (by simp; omega) _
  have HB := Lib.hid hb
  have HBR := Lib.hid hbr
  obtain ⟨⟨r0, r1, r2, _⟩, rf⟩ := hbr
  have HW5 := Lib.hid hW5
  clear hb hW5
  go_enter Try.func16, Try.ntmps16
  go_upto_region 1 with fail
  rw [HW5.out]
  clear HW5
  go_wp2_with fail
  cases hs : sidesB wide high
  · refine (areSides_b wide high false hs _).mono ?_
    rintro e w' ⟨rfl, rfl⟩
    have hv : Q = failH := by rw [← HQ.out]; unfold resSlopeHill; rw [hs]; simp only [Bool.false_and, Bool.and_false, Bool.true_and, Bool.and_true]; rfl
    have HV := Lib.hid hv
    clear hv
    go_wp2_with fail
    rw [HV.out]
    refine bodyPost_ret (v := .tuple #[.agg #[.int .i64 0, .int .i64 0, .slice none 0 0], .bool false]) (by simp [results, Try.results16, go_sem, r0, r1, r2]) rfl ⟨none, 0, rfl, belowSetBox HB.out (by omega) _ _ _, (show FRow _ _ _ (.slice none 0 0) [] from FRow.nil _ _)⟩
  refine (areSides_b wide high true hs _).mono ?_
  rintro e9 w' ⟨rfl, rfl⟩
  have HS := Lib.hid hs
  clear hs
  go_wp2_with fail
  refine (isFin_o _ HTb.out).mono ?_
  rintro e9 w' ⟨bb, hbb, rfl, rfl⟩
  have HFb := Lib.hid (show fin32 b = bb from hbb)
  clear hbb
  cases bb
  · have hv : Q = failH := by rw [← HQ.out]; unfold resSlopeHill; rw [HS.out, HFb.out]; simp only [Bool.false_and, Bool.and_false, Bool.true_and, Bool.and_true]; rfl
    have HV := Lib.hid hv
    clear hv
    go_wp2_with fail
    rw [HV.out]
    refine bodyPost_ret (v := .tuple #[.agg #[.int .i64 0, .int .i64 0, .slice none 0 0], .bool false]) (by simp [results, Try.results16, go_sem, r0, r1, r2]) rfl ⟨none, 0, rfl, belowSetBox HB.out (by omega) _ _ _, (show FRow _ _ _ (.slice none 0 0) [] from FRow.nil _ _)⟩
  go_wp2_with fail
  refine (isFin_o _ HTe.out).mono ?_
  rintro e9 w' ⟨bb, hbb, rfl, rfl⟩
  have HFe := Lib.hid (show fin32 e = bb from hbb)
  clear hbb
  cases bb
  · have hv : Q = failH := by rw [← HQ.out]; unfold resSlopeHill; rw [HS.out, HFb.out, HFe.out]; simp only [Bool.false_and, Bool.and_false, Bool.true_and, Bool.and_true]; rfl
    have HV := Lib.hid hv
    clear hv
    go_wp2_with fail
    rw [HV.out]
    refine bodyPost_ret (v := .tuple #[.agg #[.int .i64 0, .int .i64 0, .slice none 0 0], .bool false]) (by simp [results, Try.results16, go_sem, r0, r1, r2]) rfl ⟨none, 0, rfl, belowSetBox HB.out (by omega) _ _ _, (show FRow _ _ _ (.slice none 0 0) [] from FRow.nil _ _)⟩
  go_wp2_with fail
  refine (isFin_o _ HTs.out).mono ?_
  rintro e9 w' ⟨bb, hbb, rfl, rfl⟩
  have HFs := Lib.hid (show fin32 s = bb from hbb)
  clear hbb
  cases bb
  · have hv : Q = failH := by rw [← HQ.out]; unfold resSlopeHill; rw [HS.out, HFb.out, HFe.out, HFs.out]; simp only [Bool.false_and, Bool.and_false, Bool.true_and, Bool.and_true]; rfl
    have HV := Lib.hid hv
    clear hv
    go_wp2_with fail
    rw [HV.out]
    refine bodyPost_ret (v := .tuple #[.agg #[.int .i64 0, .int .i64 0, .slice none 0 0], .bool false]) (by simp [results, Try.results16, go_sem, r0, r1, r2]) rfl ⟨none, 0, rfl, belowSetBox HB.out (by omega) _ _ _, (show FRow _ _ _ (.slice none 0 0) [] from FRow.nil _ _)⟩
  have hv : resSlopeHill wide high b e s = giveH wide high (slopeT wide (some b) (some e) (some s) (wide * high).toNat) := by unfold resSlopeHill; rw [HS.out, HFb.out, HFe.out, HFs.out]; rfl
  have HR : Hid (giveH wide high (slopeT wide (some b) (some e) (some s) (wide * high).toNat) = Q) := Lib.hid (hv.symm.trans HQ.out)
  clear hv
  have hmb := mul_bound HS.out
  obtain ⟨n, hn⟩ : ∃ n : Nat, (wide * high).toNat = n := ⟨_, rfl⟩
  have hn2 : wide * high = (n : Int) := by omega
  have HN := Lib.hid hn
  have HN2 := Lib.hid hn2
  have hn3 : n ≤ 256 := by omega
  clear hn hn2 hmb
  have hmf : ∀ (fn : Fn) (first cap : Array Value) (w : World), (Instr.makeFunc fn first cap).run Try.prog w = .ok (.func fn first cap) w := fun _ _ _ _ => rfl
  have Htells : Hid (Tells 63 #[.pointer (some ⟨w.heap.size, 0, none⟩), .pointer (some ⟨w.heap.size + 1, 0, none⟩), .pointer (some ⟨w.heap.size + 1 + 1, 0, none⟩), .pointer (some ⟨w.heap.size + 1 + 1 + 1, 0, none⟩)] n W5.heap.size (slopeO wide (some b) (some e) (some s)) (fun _ W => Below W5.heap.size W5 W)) := by
    refine ⟨fun k W hk hI => ?_, fun k W W' h1 h2 => h1.trans h2⟩
    have k1 : W.cell? ⟨w.heap.size, 0, none⟩ = some (.int .i64 wide) := by rw [hI.cell (p := ⟨w.heap.size, 0, none⟩) (by show w.heap.size < W5.heap.size; omega)]; exact c1
    have k2 : W.cell? ⟨w.heap.size + 1, 0, none⟩ = some (.float .f32 b) := by rw [hI.cell (p := ⟨w.heap.size + 1, 0, none⟩) (by show w.heap.size + 1 < W5.heap.size; omega)]; exact c2
    have k3 : W.cell? ⟨w.heap.size + 1 + 1, 0, none⟩ = some (.float .f32 e) := by rw [hI.cell (p := ⟨w.heap.size + 1 + 1, 0, none⟩) (by show w.heap.size + 1 + 1 < W5.heap.size; omega)]; exact c3
    have k4 : W.cell? ⟨w.heap.size + 1 + 1 + 1, 0, none⟩ = some (.float .f32 s) := by rw [hI.cell (p := ⟨w.heap.size + 1 + 1 + 1, 0, none⟩) (by show w.heap.size + 1 + 1 + 1 < W5.heap.size; omega)]; exact c4
    refine (slopeClo_any wide high k _ _ _ _ W HS.out (by omega) HTb.out HTe.out HTs.out k1 k2 k3 k4).mono ?_
    rintro e W' ⟨r, rfl, hr, m, rfl⟩
    exact ⟨r, rfl, hr.1, hr.2, below_drewN hI m, Kept.of_below (below_drewN (Below.refl _ _) m) (Nat.le_refl _)⟩
  go_wp2_with fail
  have hmade := hillOf_any _ _ (enters_of Try.func63 (by kernel_rfl) rfl) wide high n _ _ W5 HS.out HN2.out Htells.out (Below.refl _ _)
  rw [show (List.range n).map (slopeO wide (some b) (some e) (some s)) = slopeT wide (some b) (some e) (some s) (wide * high).toNat by rw [HN.out]; rfl, HR.out] at hmade
  refine hmade.mono ?_
  rintro e9 w2 ⟨a3, cap3, rfl, hb2, hf2⟩
  clear hmade c1 c2 c3 c4 r0 r1 r2 rf
  obtain ⟨⟨r0, r1, r2, _⟩, rf⟩ := HBR.out.below hb2 (by omega)
  have Hb2 := Lib.hid (HB.out.trans (hb2.mono (by omega)) : Below w.heap.size w w2)
  have Hf2 := Lib.hid hf2
  clear hb2 hf2
  go_wp2_with fail
  refine bodyPost_ret (v := .tuple #[.agg #[.int .i64 Q.wide, .int .i64 Q.high, .slice a3 Q.zs.length cap3], .bool Q.ok]) (by simp [results, Try.results16, go_sem, r0, r1, r2]) rfl ⟨a3, cap3, rfl, belowSetBox Hb2.out (by omega) _ _ _, (Hf2.out.setBox (lo := W5.heap.size) (b := w.heap.size + 1 + 1 + 1 + 1) (.inl (by omega)) _ _ _).mono (by omega) (Nat.le_refl _) (Nat.le_refl _)⟩

end Go.Proofs.Ytgnkpppbhibfoab
