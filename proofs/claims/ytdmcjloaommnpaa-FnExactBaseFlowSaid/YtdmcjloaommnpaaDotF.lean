/- Sums of products from left to right: the program and its model alike. -/
import Derived.Test.YtdmcjloaommnpaaSumF
namespace Go.Proofs.Ytdmcjloaommnpaa
open Go.RowKit

def fdot (xs ys : List Nat) (n : Nat) : Option Nat := (List.range n).foldl (fun s i => fop .add .f32 s (fop .mul .f32 (some (xs.getD i 0)) (some (ys.getD i 0)))) (some 0)
theorem fdot_succ (xs ys : List Nat) (k : Nat) : fdot xs ys (k + 1) = fop .add .f32 (fdot xs ys k) (fop .mul .f32 (some (xs.getD k 0)) (some (ys.getD k 0))) := by
  unfold fdot; rw [List.range_succ, List.foldl_append]; rfl

def DotAt (xs ys : List Nat) (k : Nat) (v : Value) : Prop := ∃ r, v = .float .f32 r ∧ Rp .f32 (fdot xs ys k) r
def MulAt (x y : Nat) (v : Value) : Prop := ∃ r, v = .float .f32 r ∧ Rp .f32 (fop .mul .f32 (some x) (some y)) r
theorem Rp_ne (k : FloatKind) (o : Option Nat) : ∃ r, Rp k o r := by
  cases o with
  | some b => exact ⟨b, rfl⟩
  | none => cases k
            · exact ⟨_, cut32 0⟩
            · exact ⟨_, cut64 0⟩
theorem MulAt_ne (x y : Nat) : ∃ v, MulAt x y v := let ⟨r, h⟩ := Rp_ne .f32 (fop .mul .f32 (some x) (some y)); ⟨_, r, rfl, h⟩
theorem DotAt_ne (xs ys : List Nat) (k : Nat) : ∃ v, DotAt xs ys k v := let ⟨r, h⟩ := Rp_ne .f32 (fdot xs ys k); ⟨_, r, rfl, h⟩
theorem MulAt.mk {x y z : Nat} (h : Rp .f32 (floatBits .mul .f32 x y) z) : MulAt x y (.float .f32 z) := ⟨z, rfl, (Rp.refl _ _).fop (Rp.refl _ _) h⟩
theorem DotAt.next {xs ys : List Nat} {k r m z : Nat} (hr : Rp .f32 (fdot xs ys k) r) (hm : Rp .f32 (fop .mul .f32 (some (xs.getD k 0)) (some (ys.getD k 0))) m) (hz : Rp .f32 (floatBits .add .f32 r m) z) : DotAt xs ys (k + 1) (.float .f32 z) :=
  ⟨z, rfl, by rw [fdot_succ]; exact hr.fop hm hz⟩

theorem flV (op : BinOp) (hop : op = .add ∨ op = .sub ∨ op = .mul ∨ op = .quo) (t : TypeId) (k : FloatKind) (x y : Nat) (P : Program) (w : World) (n : Nat) :
    ∃ r m, (binOp op t (.float k x) (.float k y)).run P (w.drewN n) = .ok (.float k r) (w.drewN (n + m)) ∧ Rp k (floatBits op k x y) r := by
  obtain ⟨r, m, h1, h2⟩ := run_fl (P := P) (w.drewN n) op hop t k x y
  exact ⟨r, m, by rw [h1, World.drewN_drewN], h2⟩


set_option maxHeartbeats 1000000 in
theorem dotNumbers_any (a a' : Option Addr) (cap cap' : Nat) (xs ys : List Nat) (w : World) (h : RowF .f32 w a xs) (h' : RowF .f32 w a' ys) (hl : xs.length ≤ 256) (he : ys.length = xs.length) :
    Calls Try.prog 100 #[.slice a xs.length cap, .slice a' xs.length cap'] w (RetF32B (fdot xs ys xs.length) w) := by
  have Hc := Lib.hid h.cells
  have Hc' := Lib.hid h'.cells
  clear h h'
  obtain ⟨len, hlen⟩ : ∃ len, xs.length = len := ⟨_, rfl⟩
  rw [hlen] at hl he ⊢
  have Hlen := Lib.hid hlen
  have He := Lib.hid he
  clear hlen he
  go_enter Try.func100, Try.ntmps100
  go_wp2_with fail
  go_loopw [6, 21] (fun s i wr => ∃ k n : Nat, k ≤ len ∧ i = .int .i64 k ∧ DotAt xs ys k s ∧ wr = w.drewN n) (fun _ i _ => len - (intOf i).toNat)
  case atStart => exact ⟨0, 0, Nat.zero_le _, rfl, ⟨0, rfl, rfl⟩, rfl⟩
  case round =>
    obtain ⟨k, n, hk, rfl, ⟨r, rfl, hr⟩, rfl⟩ := hrel
    by_cases hlt : k < len
    · obtain ⟨b, off, rfl, h1⟩ := Hc.out k (by rw [Hlen.out]; exact hlt)
      obtain ⟨b', off', rfl, h2⟩ := Hc'.out k (by rw [He.out]; exact hlt)
      have Hn := Lib.hid (fun m z hm hz => DotAt.next (xs := xs) (ys := ys) (k := k) (m := m) (z := z) hr hm hz)
      generalize xs.getD k 0 = x at *
      generalize ys.getD k 0 = y at *
      clear hr
      go_wp2_with (refine wpList_fl rfl _ _ _ _ _ rfl .f32 _ _ rfl rfl (by decide) ?_; intro z m hz)
      go_roundw
      case rel => exact ⟨k + 1, _, by omega, by go_num, Hn.out _ _ ((Rp.refl _ _).fop (Rp.refl _ _) (by assumption)) (by assumption), rfl⟩
      case measure => simp [intOf]; omega
    · obtain rfl : k = len := by omega
      have Hr := Lib.hid hr
      clear hr
      go_wp2_with fail
      go_ret2
      exact ⟨_, _, rfl, rfl, Hr.out⟩
end Go.Proofs.Ytdmcjloaommnpaa
