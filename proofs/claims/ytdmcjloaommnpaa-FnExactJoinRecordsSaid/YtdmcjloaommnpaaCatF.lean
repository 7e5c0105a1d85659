/- Two rows of numbers, one behind the other, as a new row. -/
import Derived.Test.YtdmcjloaommnpaaGrow
import Derived.Lib.AppendZeros
namespace Go.Proofs.Ytdmcjloaommnpaa
open Go.RowKit
set_option linter.unusedVariables false
set_option linter.unusedSimpArgs false
set_option maxRecDepth 100000
attribute [local irreducible] wpV wpList Code.wp
def fc (zs : List Nat) : List Value := zs.map (Value.float .f32)
theorem fc_length (zs : List Nat) : (fc zs).length = zs.length := by simp [fc]
theorem fc_append (zs ys : List Nat) : fc (zs ++ ys) = fc zs ++ fc ys := by simp [fc]
theorem fc_one (zs : List Nat) : ∀ u ∈ fc zs, u.oneCell' = true := by
  intro u hu
  obtain ⟨z, _, rfl⟩ := List.mem_map.1 hu
  rfl
def catN (m1 m2 k : Nat) : Nat := if k = 0 then 0 else if k = 1 then m1 else m1 + m2
section
variable {P : Program} {w : World} {ops : Array Oper} {rest : List Oper} {o : Oper} {a : Act} {Q : Exit → Act → World → Prop}
theorem pushMoreF (P9 : Try.prog = P) (hgd : o.guard = none) (s x : Operand) (ho : o.op = .call { callee := .builtin .append, args := #[s, x], argTypes := #[22, 22] })
    {lo n : Nat} {v : Value} {zs ys : List Nat} (hs : a.eval s = v) (hown : w.ownsRow lo 26 1 v n (fc zs)) (b off c m : Nat) (hx : a.eval x = .slice (some ⟨b, off, none⟩) m c) (hm : ys.length = m * 1) (hc : ∀ i, i < ys.length → w.cell? ⟨b, off + i, none⟩ = some (.float .f32 (ys.getD i 0))) (h0 : 0 < m) (hl : n + m ≤ 1048576) (hlo : lo ≤ w.heap.size)
    (h : ∀ g cap w', w'.ownsRow lo 26 1 (.slice (some ⟨g, 0, none⟩) (n + m) cap) (n + m) (fc (zs ++ ys)) → w.grownBy w' v.ownBlock → (v.ownBlock = some g ∨ g = w.heap.size) → g < w'.heap.size → wpList P ops Q rest (a.put o.dst (.slice (some ⟨g, 0, none⟩) (n + m) cap)) w') : wpList P ops Q (o :: rest) a w := by
  subst P9
  obtain ⟨i0, hi, hz0, hz1, hz2⟩ := info_parts info_f32
  refine wpList_append_lies w hgd s x 22 ho lo 26 i0 (.float .f32 0) 1 4 Try.underlying22 hi hz0 hz1 hz2 rfl (by decide) v n _ hs hown ⟨b, off, none⟩ m c (fc ys) hx (by rw [fc_length]; omega) (fun j u hu => news_row w b off ys hc j u hu) (fc_one ys) h0 (by unfold maxLen; omega) (by omega) hlo _ rfl ?_
  intro g cap w' h1 h2 h3 h4
  rw [← fc_append] at h1
  exact h g cap w' h1 h2 h3 h4
end
set_option maxHeartbeats 2000000 in
theorem growF_any (n : Nat) (w : World) (h0 : 0 < n) (hn : n ≤ 1048576) :
    Calls Try.prog 103 #[.slice none 0 0, .int .i64 (n : Int)] w fun e w' => ∃ g c, e = .returned (.slice (some ⟨g, 0, none⟩) 0 c) ∧ w'.ownsRow w.heap.size 26 1 (.slice (some ⟨g, 0, none⟩) 0 c) 0 [] ∧ Below w.heap.size w w' := by
  obtain ⟨i0, hi, hz0, hz1, hz2⟩ := info_parts info_f32
  have hrun := Go.Lib.run_append_nil_zeros (P := Try.prog) w 22 3 22 26 i0 (.float .f32 0) .i64 .i64 Try.underlying22 Try.underlying3 hi hz0 n h0 (by rw [hz1]; decide) (by omega) (by rw [hz2]; omega)
  obtain ⟨cp, hcp⟩ : ∃ c, grownCap w n 0 26 = c := ⟨_, rfl⟩
  have hge := grownCap_ge w n 0 26
  have hmx := grownCap_le_maxLen w n 0 26 (by unfold maxLen; omega)
  rw [hcp] at hrun hge hmx
  obtain ⟨cur, hcur⟩ : ∃ c, Builtin.zeroCells (.float .f32 0 : Value).cells n ++ Builtin.zeroCells (.float .f32 0 : Value).cells (cp - n) = c := ⟨_, rfl⟩
  have hsz : cur.size = cp * 1 := by
    rw [← hcur, Array.size_append, size_zeroCells, size_zeroCells, show (.float .f32 0 : Value).cells.size = 1 from rfl]; omega
  rw [hcur] at hrun
  have HOwn : Hid ((w.drew.alloc (.cells cur 26)).ownsRow w.heap.size 26 1 (.slice (some ⟨w.heap.size, 0, none⟩) 0 cp) 0 []) := Lib.hid (World.ownsRow_made w.drew cur cp (Nat.le_refl _) hmx hsz)
  have HBl : Hid (Below w.heap.size w (w.drew.alloc (.cells cur 26))) := Lib.hid (((Below.refl w.heap.size w).drew).alloc (Nat.le_refl _) _)
  have Hrun := Lib.hid hrun
  have hcp0 : (0 : Int) ≤ (cp : Int) := by omega
  unfold maxLen at hmx
  clear hrun hcp hcur hsz hi hz0 hz1 hz2
  have hn1 : (0 : Int) < (n : Int) := by omega
  go_enter Try.func103, Try.ntmps103
  go_wp2_with (at_builtin; refine Go.Lib.wpList_append_run _ rfl _ _ _ _ rfl _ _ rfl rfl _ _ Hrun.out ?_)
  go_wp2_with fail
  go_ret
  exact ⟨w.heap.size, cp, rfl, HOwn.out, HBl.out⟩
set_option maxHeartbeats 8000000 in
theorem concatF_any (pb b1 o1 m1 k1 b2 o2 m2 k2 : Nat) (ys1 ys2 : List Nat) (w : World) (hp0 : w.cell? ⟨pb, 0, none⟩ = some (.slice (some ⟨b1, o1, none⟩) m1 k1)) (hp1 : w.cell? ⟨pb, 1, none⟩ = some (.slice (some ⟨b2, o2, none⟩) m2 k2)) (hpl : pb < w.heap.size) (hl1 : b1 < w.heap.size) (hl2 : b2 < w.heap.size)
    (hc1 : ∀ i, i < ys1.length → w.cell? ⟨b1, o1 + i, none⟩ = some (.float .f32 (ys1.getD i 0))) (hc2 : ∀ i, i < ys2.length → w.cell? ⟨b2, o2 + i, none⟩ = some (.float .f32 (ys2.getD i 0))) (hm1 : ys1.length = m1 * 1) (hm2 : ys2.length = m2 * 1) (h1 : 0 < m1) (h2 : 0 < m2) (h3 : m1 ≤ 1000) (h4 : m2 ≤ 1000) :
    Calls Try.prog 86 #[.slice (some ⟨pb, 0, none⟩) 2 2] w fun e w' => ∃ g c, e = .returned (.slice (some ⟨g, 0, none⟩) (m1 + m2) c) ∧ w'.ownsRow w.heap.size 26 1 (.slice (some ⟨g, 0, none⟩) (m1 + m2) c) (m1 + m2) (fc (ys1 ++ ys2)) ∧ Below w.heap.size w w' := by
  have HC1 := Lib.hid hc1
  have HC2 := Lib.hid hc2
  have HM1 := Lib.hid hm1
  have HM2 := Lib.hid hm2
  have HL : Hid (pb < w.heap.size ∧ b1 < w.heap.size ∧ b2 < w.heap.size) := Lib.hid ⟨hpl, hl1, hl2⟩
  have HP0 := Lib.hid hp0
  have HP1 := Lib.hid hp1
  have HGr := Lib.hid (growF_any (m1 + m2) w (by omega) (by omega))
  have hcast : ((m1 + m2 : Nat) : Int) = (m1 : Int) + (m2 : Int) := by omega
  rw [hcast] at HGr
  have hg0 : ¬ (m1 : Int) < 0 := by omega
  have hg1 : ¬ (m1 : Int) + (m2 : Int) < 0 := by omega
  clear hc1 hc2 hm1 hm2 hpl hl1 hl2
  go_enter Try.func86, Try.ntmps86
  go_wp2_with fail
  go_loopw [3, 5, 11] (fun sv xv iv wr => ∃ k : Nat, k ≤ 2 ∧ iv = .int .i64 (k : Int) ∧ sv = .int .i64 (catN m1 m2 k : Nat) ∧ w = wr) (fun _ _ iv _ => 2 - (intOf iv).toNat)
  case atStart => exact ⟨0, by decide, rfl, rfl, rfl⟩
  case round =>
    obtain ⟨k, hk, rfl, rfl, rfl⟩ := hrel
    have hk3 : k = 0 ∨ k = 1 ∨ k = 2 := by omega
    rcases hk3 with rfl | rfl | rfl
    · simp only [show catN m1 m2 0 = 0 from rfl]
      go_wp2_with fail
      go_roundw
      case rel => exact ⟨1, by decide, by go_num, by simp [catN], by first | trivial | rfl⟩
      case measure => simp [intOf]
    · simp only [show catN m1 m2 1 = m1 from rfl]
      go_wp2_with fail
      go_roundw
      case rel => exact ⟨2, by decide, by go_num, by simp [catN], by first | trivial | rfl⟩
      case measure => simp [intOf]
    · simp only [show catN m1 m2 2 = m1 + m2 from rfl, hcast]
      clear hcast
      go_wp2_with fail
      refine HGr.out.mono ?_
      rintro e w2 ⟨g0, c0, rfl, hrow, hb⟩
      have HR0 := Lib.hid hrow
      have HB0 := Lib.hid hb
      clear hrow hb HGr
      obtain ⟨B, hB⟩ : ∃ B, w.heap.size = B := ⟨_, rfl⟩
      have HB := Lib.hid hB
      rw [hB] at HR0 HB0 HL
      clear hB hp0 hp1
      have p0 : w2.cell? ⟨pb, 0, none⟩ = some (.slice (some ⟨b1, o1, none⟩) m1 k1) := (HB0.out.cell (p := ⟨pb, 0, none⟩) HL.out.1).trans HP0.out
      go_wp2_with fail
      go_loopw [6, 8, 27] (fun ov xv iv wr => ∃ k : Nat, ∃ g c, k ≤ 2 ∧ iv = .int .i64 (k : Int) ∧ ov = .slice (some ⟨g, 0, none⟩) (catN m1 m2 k) c ∧ Hid (wr.ownsRow B 26 1 (.slice (some ⟨g, 0, none⟩) (catN m1 m2 k) c) (catN m1 m2 k) (fc (if k = 0 then [] else if k = 1 then ys1 else ys1 ++ ys2))) ∧ Hid (Below B w wr)) (fun _ _ iv _ => 2 - (intOf iv).toNat)
      case atStart => exact ⟨0, g0, c0, by decide, rfl, rfl, Lib.hid HR0.out, HB0⟩
      case round =>
        clear HR0 HB0 p0
        obtain ⟨k, g, c, hk, rfl, rfl, HR, HW⟩ := hrel
        have hk3 : k = 0 ∨ k = 1 ∨ k = 2 := by omega
        have hsz : B ≤ wr.heap.size := by have h9 := HW.out.size; rw [HB.out] at h9; exact h9
        have p0 : wr.cell? ⟨pb, 0, none⟩ = some (.slice (some ⟨b1, o1, none⟩) m1 k1) := (HW.out.cell (p := ⟨pb, 0, none⟩) HL.out.1).trans HP0.out
        have p1 : wr.cell? ⟨pb, 1, none⟩ = some (.slice (some ⟨b2, o2, none⟩) m2 k2) := (HW.out.cell (p := ⟨pb, 1, none⟩) HL.out.1).trans HP1.out
        have HD1 : Hid (∀ i, i < ys1.length → wr.cell? ⟨b1, o1 + i, none⟩ = some (.float .f32 (ys1.getD i 0))) := Lib.hid fun i hi => (HW.out.cell (p := ⟨b1, o1 + i, none⟩) HL.out.2.1).trans (HC1.out i hi)
        have HD2 : Hid (∀ i, i < ys2.length → wr.cell? ⟨b2, o2 + i, none⟩ = some (.float .f32 (ys2.getD i 0))) := Lib.hid fun i hi => (HW.out.cell (p := ⟨b2, o2 + i, none⟩) HL.out.2.2).trans (HC2.out i hi)
        rcases hk3 with rfl | rfl | rfl
        · have HR9 : Hid (wr.ownsRow B 26 1 (.slice (some ⟨g, 0, none⟩) 0 c) 0 (fc [])) := Lib.hid HR.out
          simp only [show catN m1 m2 0 = 0 from rfl]
          go_wp2_with (at_builtin; refine pushMoreF rfl rfl _ _ rfl rfl HR9.out b1 o1 _ m1 rfl HM1.out HD1.out h1 (by omega) hsz ?_)
          intro gn cn w4 hrow hgrow hgn hgl
          have HR4 : Hid (w4.ownsRow B 26 1 (.slice (some ⟨gn, 0, none⟩) m1 cn) m1 (fc ys1)) := Lib.hid (by have h9 := hrow; (try simp only [show catN m1 m2 0 = 0 from rfl] at h9); (try rw [Nat.zero_add] at h9); (try rw [List.nil_append] at h9); exact h9)
          have HW4 : Hid (Below B w w4) := Lib.hid (HW.out.grown hgrow hsz (fun j hj => (HR.out.lt j hj).1))
          clear hrow hgrow hgn hgl HR HR9 HW p0 p1 HD1 HD2
          (try simp only [show catN m1 m2 0 = 0 from rfl])
          (try rw [Nat.zero_add])
          go_wp2_with fail
          go_roundw
          case rel => exact ⟨1, gn, cn, by decide, by go_num, by simp [catN], Lib.hid HR4.out, HW4⟩
          case measure => simp [intOf]
        · have HR9 : Hid (wr.ownsRow B 26 1 (.slice (some ⟨g, 0, none⟩) m1 c) m1 (fc ys1)) := Lib.hid HR.out
          simp only [show catN m1 m2 1 = m1 from rfl]
          go_wp2_with (at_builtin; refine pushMoreF rfl rfl _ _ rfl rfl HR9.out b2 o2 _ m2 rfl HM2.out HD2.out h2 (by omega) hsz ?_)
          intro gn cn w4 hrow hgrow hgn hgl
          have HR4 := Lib.hid hrow
          have HW4 : Hid (Below B w w4) := Lib.hid (HW.out.grown hgrow hsz (fun j hj => (HR.out.lt j hj).1))
          clear hrow hgrow hgn hgl HR HR9 HW p0 p1 HD1 HD2
          go_wp2_with fail
          go_roundw
          case rel => exact ⟨2, gn, cn, by decide, by go_num, by simp [catN], Lib.hid HR4.out, HW4⟩
          case measure => simp [intOf]
        · have HR9 : Hid (wr.ownsRow B 26 1 (.slice (some ⟨g, 0, none⟩) (m1 + m2) c) (m1 + m2) (fc (ys1 ++ ys2))) := Lib.hid HR.out
          clear p0 p1 HD1 HD2
          go_wp2_with fail
          go_ret
          exact ⟨g, c, rfl, by rw [HB.out]; exact HR9.out, by rw [HB.out]; exact HW.out⟩
end Go.Proofs.Ytdmcjloaommnpaa
