/- Names: the program and its model alike; the walk of the law. -/
import Derived.Test.YtdmcjloaommnpaaRows
import Derived.WalkKit
import Derived.Lib.Hide
namespace Go.Proofs.Ytdmcjloaommnpaa
open Go.RowKit

def okc (c : UInt8) : Bool := decide (97 ≤ c.toNat ∧ c.toNat ≤ 122)
def isN (s : ByteArray) : Bool := (decide (1 ≤ s.size) && decide (s.size ≤ 8)) && s.data.toList.all okc
def okTo (s : ByteArray) (k : Nat) : Prop := (s.data.toList.take k).all okc = true
theorem okTo_zero (s : ByteArray) : okTo s 0 := rfl
theorem okTo_succ {s : ByteArray} {k : Nat} (h : k < s.size) (hk : okTo s k) (h1 : 97 ≤ s[k].toNat) (h2 : s[k].toNat ≤ 122) : okTo s (k + 1) := by
  unfold okTo at *
  rw [List.take_succ_eq_append_getElem (by simpa using h), List.all_append, hk]
  simp only [Bool.true_and, List.all_cons, List.all_nil, Bool.and_true]
  exact decide_eq_true ⟨h1, h2⟩
theorem isN_bad {s : ByteArray} {k : Nat} (h : k < s.size) (hb : ¬ (97 ≤ s[k].toNat ∧ s[k].toNat ≤ 122)) : isN s = false := by
  unfold isN
  have : s.data.toList.all okc = false := by
    rw [List.all_eq_false]
    refine ⟨s[k], ?_, ?_⟩
    · show s.data.toList[k]'(by simpa using h) ∈ _
      exact List.getElem_mem _
    · unfold okc; rw [decide_eq_true_eq]; exact hb
  rw [this, Bool.and_false]
theorem isN_end {s : ByteArray} {k : Nat} (h : ¬ k < s.size) (hk : okTo s k) : isN s = (decide (1 ≤ s.size) && decide (s.size ≤ 8)) := by
  unfold okTo at hk
  rw [List.take_of_length_le (by simp; omega)] at hk
  unfold isN
  rw [hk, Bool.and_true]
theorem isN_short {s : ByteArray} (h : ¬ (1 ≤ s.size ∧ s.size ≤ 8)) : isN s = false := by
  unfold isN
  by_cases h1 : 1 ≤ s.size
  · rw [decide_eq_true h1, decide_eq_false (by omega : ¬ s.size ≤ 8)]; rfl
  · rw [decide_eq_false h1]; rfl
theorem ret_bool {a b : Bool} (h : a = b) : Ending.returned (.bool a) = .returned (.bool b) := by rw [h]


set_option maxHeartbeats 1000000 in
theorem implName_any (s : ByteArray) (hs : s.size ≤ 1048576) (w : World) :
    Calls Try.prog 83 #[.string s] w fun e w' => e = .returned (.bool (isN s)) ∧ Below w.heap.size w w' := by
  by_cases hl : 1 ≤ s.size ∧ s.size ≤ 8
  · obtain ⟨hl1, hl2⟩ := hl
    go_enter Try.func83, Try.ntmps83
    go_wp2
    go_loopw [] (fun wr => ∃ pos : Nat, pos ≤ s.size ∧ wr = w.iter s pos ∧ okTo s pos) (fun wr => s.size - wr.iterPos w.heap.size)
    case atStart => exact ⟨0, Nat.zero_le _, rfl, okTo_zero s⟩
    case round =>
      obtain ⟨pos, hk, rfl, hok⟩ := hrel
      by_cases hlt : pos < s.size
      · by_cases ha : s[pos].toNat < 128
        · have hnx : ∀ ty, (Instr.next (.pointer (some ⟨w.heap.size, 0, none⟩)) true ty).run Try.prog (w.iter s pos) = _ := fun ty => run_next_ascii w s pos ty hlt ha
          by_cases h1 : 97 ≤ s[pos].toNat
          · by_cases h2 : s[pos].toNat ≤ 122
            · have Hok := Lib.hid (okTo_succ hlt hok h1 h2)
              clear hok
              go_wp2
              go_roundw
              case rel => exact ⟨pos + 1, by omega, rfl, Hok.out⟩
              case measure => simp; omega
            · have Hb := Lib.hid (isN_bad hlt (by omega))
              clear hok
              go_wp2
              go_ret
              exact ⟨by rw [Hb.out]; rfl, (Below.refl _ _).alloc (Nat.le_refl _) _⟩
          · have Hb := Lib.hid (isN_bad hlt (by omega))
            clear hok
            go_wp2
            go_ret
            exact ⟨by rw [Hb.out]; rfl, (Below.refl _ _).alloc (Nat.le_refl _) _⟩
        · have hnx : ∀ ty, (Instr.next (.pointer (some ⟨w.heap.size, 0, none⟩)) true ty).run Try.prog (w.iter s pos) = _ := fun ty => run_next_any w s pos ty hlt
          have Hb := Lib.hid (isN_bad hlt (by omega))
          obtain ⟨hd, _⟩ := decode_high s pos hlt (by omega)
          have hd2 := decode_le s pos
          generalize (Utf8.decode s pos).1 = c at *
          generalize (Utf8.decode s pos).2 = d at *
          clear hok
          go_wp2
          go_ret
          exact ⟨by rw [Hb.out]; rfl, (Below.refl _ _).alloc (Nat.le_refl _) _⟩
      · have hnx : ∀ ty, (Instr.next (.pointer (some ⟨w.heap.size, 0, none⟩)) true ty).run Try.prog (w.iter s pos) = _ := fun ty => run_next_end w s pos ty hlt
        have He := Lib.hid (isN_end hlt hok)
        rw [decide_eq_true hl1, decide_eq_true hl2] at He
        clear hok
        go_wp2
        go_ret
        exact ⟨by rw [He.out]; rfl, (Below.refl _ _).alloc (Nat.le_refl _) _⟩
  · have Hb := Lib.hid (isN_short hl)
    have hl' : s.size < 1 ∨ 8 < s.size := by omega
    clear hl
    rcases hl' with hl' | hl'
    · go_enter Try.func83, Try.ntmps83
      go_wp2
      go_ret
      exact ⟨by rw [Hb.out]; rfl, Below.refl _ _⟩
    · go_enter Try.func83, Try.ntmps83
      go_wp2
      go_ret
      exact ⟨by rw [Hb.out]; rfl, Below.refl _ _⟩

end Go.Proofs.Ytdmcjloaommnpaa
