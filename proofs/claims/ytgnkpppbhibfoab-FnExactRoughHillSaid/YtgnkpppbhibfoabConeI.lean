/- Cones: the program. -/
import Derived.Test.YtgnkpppbhibfoabConeC
import Derived.Deep.Cut
namespace Go.Proofs.Ytgnkpppbhibfoab
open Go.RowKit
set_option linter.unusedVariables false
set_option linter.unusedSimpArgs false
set_option maxRecDepth 100000
attribute [local irreducible] wpV wpList Code.wp

def coneT (wide high : Int) (T D : Option Nat) (n : Nat) : List (Option Nat) := (List.range n).map (coneO wide high T D)
def resConeHill (wide high : Int) (t d : Nat) : HR := if sidesB wide high && fin32 t && fin32 d then giveH wide high (coneT wide high (some t) (some d) (wide * high).toNat) else failH
theorem giveH_len9 (wide high : Int) (T : List (Option Nat)) : (giveH wide high T).zs.length ≤ T.length := by
  unfold giveH
  split
  · rw [valsT_length]; exact Nat.le_refl _
  · exact Nat.zero_le _
theorem resConeHill_len (wide high : Int) (t d : Nat) : (resConeHill wide high t d).zs.length ≤ 1048576 := by
  unfold resConeHill
  split
  · rename_i h
    rw [Bool.and_eq_true, Bool.and_eq_true] at h
    have h2 := mul_bound h.1.1
    have := giveH_len9 wide high (coneT wide high (some t) (some d) (wide * high).toNat)
    rw [show (coneT wide high (some t) (some d) (wide * high).toNat).length = (wide * high).toNat by simp [coneT]] at this
    omega
  · exact Nat.zero_le _
theorem coneO_lt (wide high : Int) (T D : Option Nat) (k r : Nat) (h : Is32 (coneO wide high T D k) r) : r < 4294967296 := h.2

set_option maxHeartbeats 4000000 in
theorem coneHill_impl (wide high : Int) (t d : Nat) (w : World) (hwl : -9223372036854775808 ≤ wide) (hwm : wide ≤ 9223372036854775807) (hhl : -9223372036854775808 ≤ high) (hhm : high ≤ 9223372036854775807) (ht : t < 4294967296) (hd : d < 4294967296) :
    Calls Try.prog 21 #[.int .i64 wide, .int .i64 high, .float .f32 t, .float .f32 d] w (RetHB (resConeHill wide high t d).wide (resConeHill wide high t d).high (resConeHill wide high t d).zs (resConeHill wide high t d).ok w) := by
  obtain ⟨Q, hQ⟩ : ∃ Q, resConeHill wide high t d = Q := ⟨_, rfl⟩
  rw [hQ]
  have HQ := Lib.hid hQ
  clear hQ
  have HT := Lib.hid ht
  have HD := Lib.hid hd
  obtain ⟨W5, hW5⟩ : ∃ W, (((((w.alloc (.cells #[.int .i64 wide] 2)).alloc (.cells #[.int .i64 high] 2)).alloc (.cells #[.float .f32 t] 22)).alloc (.cells #[.float .f32 d] 22)).alloc (.cells #[.int .i64 0, .int .i64 0, .slice none 0 0] 25)) = W := ⟨_, rfl⟩
  have c1 : W5.cell? ⟨w.heap.size, 0, none⟩ = some (.int .i64 wide) := by rw [← hW5]; simp [go_sem]
  have c2 : W5.cell? ⟨w.heap.size + 1, 0, none⟩ = some (.int .i64 high) := by rw [← hW5]; simp [go_sem]
  have c3 : W5.cell? ⟨w.heap.size + 1 + 1, 0, none⟩ = some (.float .f32 t) := by rw [← hW5]; simp [go_sem]
  have c4 : W5.cell? ⟨w.heap.size + 1 + 1 + 1, 0, none⟩ = some (.float .f32 d) := by rw [← hW5]; simp [go_sem]
  have hbr : BoxW W5 (w.heap.size + 1 + 1 + 1 + 1) 0 0 (.slice none 0 0) := by rw [← hW5]; exact BoxW.at _ _ (by simp) 0 0 (.slice none 0 0) 25
  have hsz : W5.heap.size = w.heap.size + 1 + 1 + 1 + 1 + 1 := by rw [← hW5]; simp
  have hb : Below w.heap.size w W5 := by rw [← hW5]; exact (((((Below.refl _ _).alloc (by omega) _).alloc (by simp) _).alloc (by simp; omega) _).alloc (by simp; omega) _).alloc (by simp; omega) _
  have HB := Lib.hid hb
  have HBR := Lib.hid hbr
  obtain ⟨⟨r0, r1, r2, _⟩, rf⟩ := hbr
  have HW5 := Lib.hid hW5
  clear ht hd hb hW5
  go_enter Try.func21, Try.ntmps21
  go_upto_region 1 with fail
  rw [HW5.out]
  clear HW5
  go_wp2_with fail
  cases hs : sidesB wide high
  · refine (areSides_b wide high false hs _).mono ?_
    rintro e w' ⟨rfl, rfl⟩
    have hv : Q = failH := by rw [← HQ.out]; unfold resConeHill; rw [hs]; simp only [Bool.false_and, Bool.and_false, Bool.true_and, Bool.and_true]; rfl
    have HV := Lib.hid hv
    clear hv
    go_wp2_with fail
    rw [HV.out]
    refine bodyPost_ret (v := .tuple #[.agg #[.int .i64 0, .int .i64 0, .slice none 0 0], .bool false]) (by simp [results, Try.results21, go_sem, r0, r1, r2]) rfl ⟨none, 0, rfl, belowSetBox HB.out (by omega) _ _ _, (show FRow _ _ _ (.slice none 0 0) [] from FRow.nil _ _)⟩
  refine (areSides_b wide high true hs _).mono ?_
  rintro e w' ⟨rfl, rfl⟩
  have HS := Lib.hid hs
  clear hs
  go_wp2_with fail
  cases hf : fin32 t
  · refine (isFinite_b t HT.out false hf _).mono ?_
    rintro e w' ⟨rfl, rfl⟩
    have hv : Q = failH := by rw [← HQ.out]; unfold resConeHill; rw [HS.out, hf]; simp only [Bool.false_and, Bool.and_false, Bool.true_and, Bool.and_true]; rfl
    have HV := Lib.hid hv
    clear hv
    go_wp2_with fail
    rw [HV.out]
    refine bodyPost_ret (v := .tuple #[.agg #[.int .i64 0, .int .i64 0, .slice none 0 0], .bool false]) (by simp [results, Try.results21, go_sem, r0, r1, r2]) rfl ⟨none, 0, rfl, belowSetBox HB.out (by omega) _ _ _, (show FRow _ _ _ (.slice none 0 0) [] from FRow.nil _ _)⟩
  refine (isFinite_b t HT.out true hf _).mono ?_
  rintro e w' ⟨rfl, rfl⟩
  have HF := Lib.hid hf
  clear hf
  go_wp2_with fail
  cases hf : fin32 d
  · refine (isFinite_b d HD.out false hf _).mono ?_
    rintro e w' ⟨rfl, rfl⟩
    have hv : Q = failH := by rw [← HQ.out]; unfold resConeHill; rw [HS.out, HF.out, hf]; simp only [Bool.false_and, Bool.and_false, Bool.true_and, Bool.and_true]; rfl
    have HV := Lib.hid hv
    clear hv
    go_wp2_with fail
    rw [HV.out]
    refine bodyPost_ret (v := .tuple #[.agg #[.int .i64 0, .int .i64 0, .slice none 0 0], .bool false]) (by simp [results, Try.results21, go_sem, r0, r1, r2]) rfl ⟨none, 0, rfl, belowSetBox HB.out (by omega) _ _ _, (show FRow _ _ _ (.slice none 0 0) [] from FRow.nil _ _)⟩
  have hv : resConeHill wide high t d = giveH wide high (coneT wide high (some t) (some d) (wide * high).toNat) := by unfold resConeHill; rw [HS.out, HF.out, hf]; rfl
  have HR : Hid (giveH wide high (coneT wide high (some t) (some d) (wide * high).toNat) = Q) := Lib.hid (hv.symm.trans HQ.out)
  clear hv
  refine (isFinite_b d HD.out true hf _).mono ?_
  rintro e w' ⟨rfl, rfl⟩
  clear hf
  have hmb := mul_bound HS.out
  obtain ⟨n, hn⟩ : ∃ n : Nat, (wide * high).toNat = n := ⟨_, rfl⟩
  have hn2 : wide * high = (n : Int) := by omega
  have HN := Lib.hid hn
  have HN2 := Lib.hid hn2
  have hn3 : n ≤ 256 := by omega
  clear hn hn2 hmb
  have hmf : ∀ (fn : Fn) (first cap : Array Value) (w : World), (Instr.makeFunc fn first cap).run Try.prog w = .ok (.func fn first cap) w := fun _ _ _ _ => rfl
  have Htells : Hid (Tells 65 #[.pointer (some ⟨w.heap.size, 0, none⟩), .pointer (some ⟨w.heap.size + 1, 0, none⟩), .pointer (some ⟨w.heap.size + 1 + 1, 0, none⟩), .pointer (some ⟨w.heap.size + 1 + 1 + 1, 0, none⟩)] n W5.heap.size (coneO wide high (some t) (some d)) (fun _ W => Below W5.heap.size W5 W)) := by
    refine ⟨fun k W hk hI => ?_, fun k W W' h1 h2 => h1.trans h2⟩
    have k1 : W.cell? ⟨w.heap.size, 0, none⟩ = some (.int .i64 wide) := by rw [hI.cell (p := ⟨w.heap.size, 0, none⟩) (by show w.heap.size < W5.heap.size; omega)]; exact c1
    have k2 : W.cell? ⟨w.heap.size + 1, 0, none⟩ = some (.int .i64 high) := by rw [hI.cell (p := ⟨w.heap.size + 1, 0, none⟩) (by show w.heap.size + 1 < W5.heap.size; omega)]; exact c2
    have k3 : W.cell? ⟨w.heap.size + 1 + 1, 0, none⟩ = some (.float .f32 t) := by rw [hI.cell (p := ⟨w.heap.size + 1 + 1, 0, none⟩) (by show w.heap.size + 1 + 1 < W5.heap.size; omega)]; exact c3
    have k4 : W.cell? ⟨w.heap.size + 1 + 1 + 1, 0, none⟩ = some (.float .f32 d) := by rw [hI.cell (p := ⟨w.heap.size + 1 + 1 + 1, 0, none⟩) (by show w.heap.size + 1 + 1 + 1 < W5.heap.size; omega)]; exact c4
    refine (coneClo_any wide high k _ _ _ _ W HS.out (by omega) (Is32.c HT.out) (Is32.c HD.out) k1 k2 k3 k4).mono ?_
    rintro e W' ⟨r, rfl, hr, m, rfl⟩
    exact ⟨r, rfl, hr.1, hr.2, below_drewN hI m, Kept.of_below (below_drewN (Below.refl _ _) m) (Nat.le_refl _)⟩
  go_wp2_with fail
  have hmade := hillOf_any _ _ (enters_of Try.func65 (by kernel_rfl) rfl) wide high n _ _ W5 HS.out HN2.out Htells.out (Below.refl _ _)
  rw [show (List.range n).map (coneO wide high (some t) (some d)) = coneT wide high (some t) (some d) (wide * high).toNat by rw [HN.out]; rfl, HR.out] at hmade
  refine hmade.mono ?_
  rintro e w2 ⟨a3, cap3, rfl, hb2, hf2⟩
  clear hmade c1 c2 c3 c4 r0 r1 r2 rf
  obtain ⟨⟨r0, r1, r2, _⟩, rf⟩ := HBR.out.below hb2 (by omega)
  have Hb2 := Lib.hid (HB.out.trans (hb2.mono (by omega)) : Below w.heap.size w w2)
  have Hf2 := Lib.hid hf2
  clear hb2 hf2
  go_wp2_with fail
  refine bodyPost_ret (v := .tuple #[.agg #[.int .i64 Q.wide, .int .i64 Q.high, .slice a3 Q.zs.length cap3], .bool Q.ok]) (by simp [results, Try.results21, go_sem, r0, r1, r2]) rfl ⟨a3, cap3, rfl, belowSetBox Hb2.out (by omega) _ _ _, (Hf2.out.setBox (lo := W5.heap.size) (b := w.heap.size + 1 + 1 + 1 + 1) (.inl (by omega)) _ _ _).mono (by omega) (Nat.le_refl _) (Nat.le_refl _)⟩

end Go.Proofs.Ytgnkpppbhibfoab
