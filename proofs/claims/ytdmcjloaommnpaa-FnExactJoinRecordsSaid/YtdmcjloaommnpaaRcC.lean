/- Parts of records: the program and its model alike: values; a record that is made if it is valid. -/
import Derived.Test.YtdmcjloaommnpaaRcL
import Derived.Test.YtdmcjloaommnpaaClone5
import Derived.Test.YtdmcjloaommnpaaBw
import Derived.Deep.RegionHeld3
namespace Go.Proofs.Ytdmcjloaommnpaa
open Go.RowKit
set_option linter.unusedVariables false
set_option linter.unusedSimpArgs false
set_option maxRecDepth 100000
attribute [local irreducible] wpV wpList Code.wp

theorem FRowCap {w : World} {lo hi cap : Nat} {a : Option Addr} {zs : List Nat} (h : FRow w lo hi (.slice a zs.length cap) zs) : zs.length ≤ cap := by
  rcases h.1.2 with ⟨h1, h2⟩ | ⟨g, c, cur, h1, _, _, h2, _⟩
  · rw [h2]; exact Nat.zero_le _
  · injection h1 with _ _ h3; rw [h3]; exact h2
structure RecR where
  nm : ByteArray
  wide : Int
  high : Int
  zs : List Nat
  ok : Bool
def failR : RecR := ⟨⟨#[]⟩, 0, 0, [], false⟩
def giveR (nm : ByteArray) (st sp : Int) (zs : List Nat) : RecR := if recB nm st sp zs.length then ⟨nm, st, sp, zs, true⟩ else failR
theorem giveR_y {nm : ByteArray} {st sp : Int} {zs : List Nat} (h : recB nm st sp zs.length = true) : giveR nm st sp zs = ⟨nm, st, sp, zs, true⟩ := by unfold giveR; rw [h]; rfl
theorem giveR_n {nm : ByteArray} {st sp : Int} {zs : List Nat} (h : recB nm st sp zs.length = false) : giveR nm st sp zs = failR := by unfold giveR; rw [h]; rfl
/-- A record, with a bool; its values in new memory. -/
def RetHB (rs : ByteArray) (rw rh : Int) (rz : List Nat) (rok : Bool) (W : World) (e : Ending) (w' : World) : Prop :=
  ∃ a cap, e = .returned (.tuple #[.agg #[.string rs, .int .i64 rw, .int .i64 rh, .slice a rz.length cap], .bool rok]) ∧ Below W.heap.size W w' ∧ FRow w' W.heap.size w'.heap.size (.slice a rz.length cap) rz
def resCutRecord (nm : ByteArray) (st sp : Int) (zs : List Nat) (f t : Int) : RecR :=
  if recB nm st sp zs.length && (decide (0 ≤ f) && decide (f < t) && decide (t ≤ (zs.length : Int))) then giveR nm (st + f * sp) sp ((zs.take t.toNat).drop f.toNat) else failR
theorem cut_no {nm : ByteArray} {st sp : Int} {zs : List Nat} {f t : Int} (h : recB nm st sp zs.length = false) : resCutRecord nm st sp zs f t = failR := by unfold resCutRecord; rw [h]; rfl
theorem cut_out {nm : ByteArray} {st sp : Int} {zs : List Nat} {f t : Int} (h : ¬ (0 ≤ f ∧ f < t ∧ t ≤ (zs.length : Int))) : resCutRecord nm st sp zs f t = failR := by
  unfold resCutRecord
  rw [if_neg]
  intro hc
  simp only [Bool.and_eq_true, decide_eq_true_eq] at hc
  exact h ⟨hc.2.1.1, hc.2.1.2, hc.2.2⟩
theorem cut_go {nm : ByteArray} {st sp : Int} {zs : List Nat} {f t : Int} (h : recB nm st sp zs.length = true) (h1 : 0 ≤ f) (h2 : f < t) (h3 : t ≤ (zs.length : Int)) : resCutRecord nm st sp zs f t = giveR nm (st + f * sp) sp ((zs.take t.toNat).drop f.toNat) := by
  unfold resCutRecord
  rw [h, decide_eq_true h1, decide_eq_true h2, decide_eq_true h3]; rfl
theorem giveR_len (nm : ByteArray) (st sp : Int) (zs : List Nat) (h : zs.length ≤ 1048576) : (giveR nm st sp zs).zs.length ≤ 1048576 := by
  unfold giveR; split
  · exact h
  · exact Nat.zero_le _
theorem resCutRecord_len (nm : ByteArray) (st sp : Int) (zs : List Nat) (f t : Int) : (resCutRecord nm st sp zs f t).zs.length ≤ 1048576 := by
  cases hr : recB nm st sp zs.length
  · rw [cut_no hr]; exact Nat.zero_le _
  · unfold resCutRecord
    split
    · refine giveR_len _ _ _ _ ?_
      have := (recB_true hr).2.2.2.2.2.2
      rw [List.length_drop, List.length_take]; omega
    · exact Nat.zero_le _
theorem RowF.take8 {w : World} {b o n : Nat} {zs : List Nat} (h : RowF .f32 w (some ⟨b, o, none⟩) zs) (h0 : 0 < zs.length) : RowF .f32 w (some ⟨b, o, none⟩) (zs.take n) := by
  rcases h with h | ⟨b', o', h1, h2, h3⟩
  · rw [h] at h0; cases h0
  · cases h1
    refine .inr ⟨b, o, rfl, h2, fun i hi => ?_⟩
    rw [List.length_take] at hi
    rw [h3 i (by omega), List.getD_eq_getElem?_getD, List.getD_eq_getElem?_getD, List.getElem?_take, if_pos (by omega)]
theorem RowF.drop8 {w : World} {b o n : Nat} {zs : List Nat} (h : RowF .f32 w (some ⟨b, o, none⟩) zs) (h0 : 0 < zs.length) : RowF .f32 w (some ⟨b, o + n, none⟩) (zs.drop n) := by
  rcases h with h | ⟨b', o', h1, h2, h3⟩
  · rw [h] at h0; cases h0
  · cases h1
    refine .inr ⟨b, o + n, rfl, h2, fun i hi => ?_⟩
    rw [List.length_drop] at hi
    have := h3 (n + i) (by omega)
    rw [← Nat.add_assoc] at this
    rw [this, List.getD_eq_getElem?_getD, List.getD_eq_getElem?_getD, List.getElem?_drop]

def ZR : List Value := [.string ⟨#[]⟩, .int .i64 0, .int .i64 0, .slice none 0 0]
/-- Ahead of its fields a record of noughts. -/
def MadeR (nm : ByteArray) (st sp : Int) (a : Option Addr) (n cap : Nat) (w : World) (e : Ending) (w' : World) : Prop :=
  ∃ ok, recB nm st sp n = ok ∧ e = .returned (.tuple #[.agg (if ok then #[.string nm, .int .i64 st, .int .i64 sp, .slice a n cap] else ZR.toArray), .bool ok]) ∧ Below w.heap.size w w'
set_option maxHeartbeats 4000000 in
theorem madeRecord_any (nm : ByteArray) (st sp : Int) (a : Option Addr) (n cap : Nat) (w : World) (hs : nm.size ≤ 1048576) (hl : n ≤ 1048576) :
    Calls Try.prog 84 #[.agg #[.string nm, .int .i64 st, .int .i64 sp, .slice a n cap]] w (MadeR nm st sp a n cap w) := by
  go_enter Try.func84, Try.ntmps84
  go_wp2_with fail
  refine (validRec_i nm st sp a n cap _ hs hl).mono ?_
  rintro e w3 ⟨bb, hbb, rfl, hb⟩
  have hx := ((BoxH.new w nm st sp (.slice a n cap) 49).alloc (.cells ZR.toArray 49)).below hb (by first | (simp; done) | (simp; omega))
  have hp : Bw w3 (w.heap.size + 1) ZR := Bw.below (by have h9 := Bw.new (w.alloc (.cells #[.string nm, .int .i64 st, .int .i64 sp, .slice a n cap] 49)) ZR 49; rw [show (w.alloc (.cells #[.string nm, .int .i64 st, .int .i64 sp, .slice a n cap] 49)).heap.size = w.heap.size + 1 by simp] at h9; exact h9) hb (by first | (simp; done) | (simp; omega) | omega)
  obtain ⟨c0, c1, c2, c3, _⟩ := hx
  have q0 := hp.c 0 rfl
  have q1 := hp.c 1 rfl
  have q2 := hp.c 2 rfl
  have q3 := hp.c 3 rfl
  have f0 := hp.f 0 (by decide)
  have f1 := hp.f 1 (by decide)
  have f2 := hp.f 2 (by decide)
  have f3 := hp.f 3 (by decide)
  have HB := Lib.hid ((below2 _ _ _).trans (hb.mono (by first | (simp; done) | (simp; omega) | omega)) : Below w.heap.size w w3)
  have Hbb := Lib.hid hbb
  clear hb hbb hp
  cases bb
  · go_wp2_with fail
    refine bodyPost_ret (v := .tuple #[.agg ZR.toArray, .bool false]) (by simp (maxDischargeDepth := 12) [results, Try.results84, go_sem, ZR, q0, q1, q2, q3]) rfl ⟨false, Hbb.out, rfl, ?_⟩
    exact (((HB.out.setCell (by first | (simp; done) | (simp; omega) | omega) _).setCell (by first | (simp; done) | (simp; omega) | omega) _).setCell (by first | (simp; done) | (simp; omega) | omega) _).setCell (by first | (simp; done) | (simp; omega) | omega) _
  · go_wp2_with fail
    refine bodyPost_ret (v := .tuple #[.agg #[.string nm, .int .i64 st, .int .i64 sp, .slice a n cap], .bool true]) (by simp (maxDischargeDepth := 12) [results, Try.results84, go_sem, ZR, q0, q1, q2, q3]) rfl ⟨true, Hbb.out, rfl, ?_⟩
    exact (((HB.out.setCell (by first | (simp; done) | (simp; omega) | omega) _).setCell (by first | (simp; done) | (simp; omega) | omega) _).setCell (by first | (simp; done) | (simp; omega) | omega) _).setCell (by first | (simp; done) | (simp; omega) | omega) _
end Go.Proofs.Ytdmcjloaommnpaa
