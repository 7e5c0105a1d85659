/- What all numbers of a list are more than one; logarithms; means, sums of squares: the program and its model alike. -/
import Derived.Test.YtdmcjloaommnpaaGau
import Derived.Test.YtdmcjloaommnpaaIs32
import Derived.Test.YtdmcjloaommnpaaSumF
import Derived.Test.YtdmcjloaommnpaaDotF
import Derived.Test.YtdmcjloaommnpaaTri
import Derived.Deep.AppendLies
import Derived.Test.YtdmcjloaommnpaaGrow
import Derived.Test.YtdmcjloaommnpaaLogO
namespace Go.Proofs.Ytdmcjloaommnpaa
open Go.RowKit
set_option linter.unusedVariables false
set_option linter.unusedSimpArgs false
set_option maxRecDepth 100000
attribute [local irreducible] wpV wpList Code.wp

def iF (n : Int) : Nat := floatOfInt .f32 n
theorem iF_lt (n : Int) : iF n < 4294967296 := by unfold iF floatOfInt FloatKind.nearest; exact write_lt32 _
theorem iF_is (n : Int) : Is32 (some (iF n)) (iF n) := Is32.c (iF_lt n)
theorem fop_l {op : BinOp} {X Y : Option Nat} {x : Nat} (h : Is32 X x) : fop op .f32 (some x) Y = fop op .f32 X Y := by
  cases X with
  | some b => obtain rfl := h.eq; rfl
  | none =>
    cases Y with
    | none => rfl
    | some y => show floatBits op .f32 x y = none; exact floatBits_nan_left h.1.1
theorem fop_r {op : BinOp} {X Y : Option Nat} {y : Nat} (h : Is32 Y y) : fop op .f32 X (some y) = fop op .f32 X Y := by
  cases X with
  | none => rfl
  | some x =>
    cases Y with
    | some b => obtain rfl := h.eq; rfl
    | none => show floatBits op .f32 x y = none; exact floatBits_nan_right h.1.1
/-- A list that a call made, of numbers that are told. -/
def LstB (Xs : List (Option Nat)) (w : World) (e : Ending) (w' : World) : Prop := ∃ b n cap ls, e = .returned (.slice (some ⟨b, 0, none⟩) n cap) ∧ ls.length = n ∧ Is32s Xs ls ∧ RowF .f32 w' (some ⟨b, 0, none⟩) ls ∧ w.heap.size ≤ b ∧ Below w.heap.size w w'
def mapL (f : Nat → Option Nat) (zs : List Nat) (n : Nat) : List (Option Nat) := (List.range n).map (fun i => f (zs.getD i 0))
theorem mapL_succ (f : Nat → Option Nat) (zs : List Nat) (n : Nat) : mapL f zs (n + 1) = mapL f zs n ++ [f (zs.getD n 0)] := by unfold mapL; rw [List.range_succ, List.map_append]; rfl
theorem mapL_len (f : Nat → Option Nat) (zs : List Nat) (n : Nat) : (mapL f zs n).length = n := by simp [mapL]
theorem mapL_get {f : Nat → Option Nat} {zs : List Nat} {n i : Nat} (h : i < n) : (mapL f zs n).getD i none = f (zs.getD i 0) := by
  unfold mapL; rw [List.getD_eq_getElem?_getD, List.getElem?_map, List.getElem?_range h]; rfl
def sqO (Xs : List (Option Nat)) : Nat → Option Nat
  | 0 => some 0
  | k + 1 => fop .add .f32 (sqO Xs k) (fop .mul .f32 (Xs.getD k none) (Xs.getD k none))
def sumO (Xs : List (Option Nat)) : Nat → Option Nat
  | 0 => some 0
  | k + 1 => fop .add .f32 (sumO Xs k) (Xs.getD k none)
theorem sq_dot {Xs : List (Option Nat)} {ls : List Nat} (h : Is32s Xs ls) : ∀ k, k ≤ ls.length → fdot ls ls k = sqO Xs k
  | 0, _ => rfl
  | k + 1, hk => by
    have hx := h.2 k (by omega)
    rw [fdot_succ, sq_dot h k (by omega), sqO, fop_l hx, fop_r hx]
theorem sum_is {Xs : List (Option Nat)} {ls : List Nat} (h : Is32s Xs ls) : ∀ k, k ≤ ls.length → fsum (ls.take k) = sumO Xs k
  | 0, _ => rfl
  | k + 1, hk => by
    have hx := h.2 k (by omega)
    rw [fsum_take ls k (by omega), sum_is h k (by omega), sumO, fop_r hx]
theorem sum_all {Xs : List (Option Nat)} {ls : List Nat} (h : Is32s Xs ls) : fsum ls = sumO Xs ls.length := by
  have := sum_is h ls.length (Nat.le_refl _); rwa [List.take_length] at this
def meanO (S : Option Nat) (n : Nat) : Option Nat := fop .quo .f32 S (some (iF n))
theorem rp_is {X : Option Nat} {r : Nat} (h : Rp .f32 X r) (hne : ∃ z, Is32 X z) : Is32 X r := by
  cases X with
  | none => exact ⟨h, h.2⟩
  | some b =>
    obtain ⟨z, hz⟩ := hne
    obtain rfl := hz.eq
    obtain rfl : r = z := h
    exact hz
theorem fsum_ne (zs : List Nat) : ∃ z, Is32 (fsum zs) z := by
  have : ∀ k, k ≤ zs.length → ∃ z, Is32 (fsum (zs.take k)) z := fun k hk => by
    cases k with
    | zero => exact ⟨0, Is32.c (by decide)⟩
    | succ k => rw [fsum_take zs k (by omega)]; exact Is32.nef (by decide) _ _
  have h := this zs.length (Nat.le_refl _)
  rwa [List.take_length] at h
theorem fdot_ne (xs ys : List Nat) (n : Nat) : ∃ z, Is32 (fdot xs ys n) z := by
  cases n with
  | zero => exact ⟨0, Is32.c (by decide)⟩
  | succ k => rw [fdot_succ]; exact Is32.nef (by decide) _ _

set_option maxHeartbeats 4000000 in
theorem lessOf_any {M : Option Nat} {m : Nat} (a : Option Addr) (cap : Nat) (zs : List Nat) (w : World) (h : RowF .f32 w a zs) (hl : zs.length ≤ 1048576) (hz : ∀ z ∈ zs, z < 4294967296) (hm : Is32 M m) :
    Calls Try.prog 69 #[.slice a zs.length cap, .float .f32 m] w (LstB (mapL (fun z => fop .sub .f32 (some z) M) zs zs.length) w) := by
  have H := Lib.hid h
  have Hz := Lib.hid hz
  clear h hz
  obtain ⟨len, hlen⟩ : ∃ len, zs.length = len := ⟨_, rfl⟩
  rw [hlen] at hl ⊢
  have Hlen := Lib.hid hlen
  clear hlen
  go_enter Try.func69, Try.ntmps69
  go_wp2_with (at_make; refine make_any rfl rfl _ _ rfl .i64 .i64 _ _ len rfl rfl rfl rfl (by omega) (lo := w.heap.size) (Nat.le_refl _) ?_)
  intro w3 hown hgrow
  have HB3 := Lib.hid (Below.made (Below.refl _ _) hgrow (Nat.le_refl _))
  have HRow3 : Hid (RowO w3 w.heap.size (.slice (some ⟨w.heap.size, 0, none⟩) len len) (([] : List Nat) ++ List.replicate (len - ([] : List Nat).length) 0)) := Lib.hid (by simpa using hown)
  clear hown hgrow
  go_wp2_with fail
  go_loopw [13] (fun i wr => ∃ (k : Nat) (ls : List Nat), k ≤ len ∧ i = .int .i64 k ∧ Hid (ls.length = k) ∧ Hid (Is32s (mapL (fun z => fop .sub .f32 (some z) M) zs k) ls) ∧ Hid (RowO wr w.heap.size (.slice (some ⟨w.heap.size, 0, none⟩) len len) (ls ++ List.replicate (len - ls.length) 0)) ∧ Hid (Below w.heap.size w wr)) (fun i _ => len - (intOf i).toNat)
  case atStart => exact ⟨0, [], Nat.zero_le _, rfl, Lib.hid rfl, Lib.hid Is32s.nil, HRow3, HB3⟩
  case round =>
    obtain ⟨k, ls, hk, rfl, HLk, HIl, HRow, HBk⟩ := hrel
    by_cases hlt : k < len
    · obtain ⟨b, off, rfl, hc1⟩ := ((H.out.below HBk.out (Nat.le_refl _)).cells) k (by rw [Hlen.out]; exact hlt)
      have hzk : Is32 (some (zs.getD k 0)) (zs.getD k 0) := Is32.c (getD_lt Hz.out k (by rw [Hlen.out]; exact hlt))
      have Hsn := Lib.hid (mapL_succ (fun z => fop .sub .f32 (some z) M) zs k)
      generalize zs.getD k 0 = x at *
      have hcell := HRow.out.at (fill_len ls len (by rw [HLk.out]; exact hk)).symm k (by rw [fill_len ls len (by rw [HLk.out]; exact hk)]; exact hlt)
      obtain ⟨hcell, hfz⟩ := hcell
      go_wp2_with (first | ((with_reducible refine wpList_bin ?_); refine wpList_f32 rfl _ _ _ _ _ rfl rfl rfl (by decide) (by first | assumption | exact Is32.c (by decide)) (by first | assumption | exact Is32.c (by decide)) ?_; intro z n hz))
      go_roundw
      case rel => exact ⟨k + 1, ls ++ [z], by omega, by go_num, Lib.hid (by rw [List.length_append, List.length_singleton, HLk.out]), Lib.hid (by rw [Hsn.out]; exact HIl.out.snoc (by assumption)), Lib.hid (by rw [← fill_set ls len _ (by rw [HLk.out]; exact hlt), HLk.out]; have h9 := HRow.out; rw [HLk.out] at h9; first | exact (h9.drewN _).store (by rw [← HLk.out, fill_len ls len (by rw [HLk.out]; exact hk)]) k _ | exact h9.store (by rw [← HLk.out, fill_len ls len (by rw [HLk.out]; exact hk)]) k _), Lib.hid (by first | exact (beld HBk.out _).setCell (Nat.le_refl _) _ | exact HBk.out.setCell (Nat.le_refl _) _)⟩
      case measure => simp [intOf]; omega
    · obtain rfl : k = len := by omega
      have hr9 := HRow.out
      rw [fill_all ls k HLk.out] at hr9
      have HR9 := Lib.hid hr9
      clear hr9
      go_wp2_with fail
      go_ret
      exact ⟨_, _, _, ls, rfl, HLk.out, HIl.out, by have h9 := HR9.out; rw [← HLk.out] at h9; exact (FRow.mk h9).row, Nat.le_refl _, HBk.out⟩

set_option maxHeartbeats 4000000 in
theorem logsOf_any (a : Option Addr) (cap : Nat) (zs : List Nat) (w : World) (h : RowF .f32 w a zs) (hl : zs.length ≤ 1048576) (hz : ∀ z ∈ zs, z < 4294967296) :
    Calls Try.prog 73 #[.slice a zs.length cap] w (LstB (mapL (fun z => logO (some z)) zs zs.length) w) := by
  have H := Lib.hid h
  have Hz := Lib.hid hz
  clear h hz
  obtain ⟨len, hlen⟩ : ∃ len, zs.length = len := ⟨_, rfl⟩
  rw [hlen] at hl ⊢
  have Hlen := Lib.hid hlen
  clear hlen
  go_enter Try.func73, Try.ntmps73
  go_wp2_with (at_make; refine make_any rfl rfl _ _ rfl .i64 .i64 _ _ len rfl rfl rfl rfl (by omega) (lo := w.heap.size) (Nat.le_refl _) ?_)
  intro w3 hown hgrow
  have HB3 := Lib.hid (Below.made (Below.refl _ _) hgrow (Nat.le_refl _))
  have HRow3 : Hid (RowO w3 w.heap.size (.slice (some ⟨w.heap.size, 0, none⟩) len len) (([] : List Nat) ++ List.replicate (len - ([] : List Nat).length) 0)) := Lib.hid (by simpa using hown)
  clear hown hgrow
  go_wp2_with fail
  go_loopw [11] (fun i wr => ∃ (k : Nat) (ls : List Nat), k ≤ len ∧ i = .int .i64 k ∧ Hid (ls.length = k) ∧ Hid (Is32s (mapL (fun z => logO (some z)) zs k) ls) ∧ Hid (RowO wr w.heap.size (.slice (some ⟨w.heap.size, 0, none⟩) len len) (ls ++ List.replicate (len - ls.length) 0)) ∧ Hid (Below w.heap.size w wr)) (fun i _ => len - (intOf i).toNat)
  case atStart => exact ⟨0, [], Nat.zero_le _, rfl, Lib.hid rfl, Lib.hid Is32s.nil, HRow3, HB3⟩
  case round =>
    obtain ⟨k, ls, hk, rfl, HLk, HIl, HRow, HBk⟩ := hrel
    by_cases hlt : k < len
    · obtain ⟨b, off, rfl, hc1⟩ := ((H.out.below HBk.out (Nat.le_refl _)).cells) k (by rw [Hlen.out]; exact hlt)
      have hzk : Is32 (some (zs.getD k 0)) (zs.getD k 0) := Is32.c (getD_lt Hz.out k (by rw [Hlen.out]; exact hlt))
      have Hsn := Lib.hid (mapL_succ (fun z => logO (some z)) zs k)
      generalize zs.getD k 0 = x at *
      have hcell := HRow.out.at (fill_len ls len (by rw [HLk.out]; exact hk)).symm k (by rw [fill_len ls len (by rw [HLk.out]; exact hk)]; exact hlt)
      obtain ⟨hcell, hfz⟩ := hcell
      go_wp2_with (first | (go_at_call 62; refine (logNumber_o _ (by assumption)).mono ?_; rintro e w' ⟨r, rfl, hr, n9, rfl⟩))
      go_roundw
      case rel => exact ⟨k + 1, ls ++ [r], by omega, by go_num, Lib.hid (by rw [List.length_append, List.length_singleton, HLk.out]), Lib.hid (by rw [Hsn.out]; exact HIl.out.snoc (by assumption)), Lib.hid (by rw [← fill_set ls len _ (by rw [HLk.out]; exact hlt), HLk.out]; have h9 := HRow.out; rw [HLk.out] at h9; first | exact (h9.drewN _).store (by rw [← HLk.out, fill_len ls len (by rw [HLk.out]; exact hk)]) k _ | exact h9.store (by rw [← HLk.out, fill_len ls len (by rw [HLk.out]; exact hk)]) k _), Lib.hid (by first | exact (beld HBk.out _).setCell (Nat.le_refl _) _ | exact HBk.out.setCell (Nat.le_refl _) _)⟩
      case measure => simp [intOf]; omega
    · obtain rfl : k = len := by omega
      have hr9 := HRow.out
      rw [fill_all ls k HLk.out] at hr9
      have HR9 := Lib.hid hr9
      clear hr9
      go_wp2_with fail
      go_ret
      exact ⟨_, _, _, ls, rfl, HLk.out, HIl.out, by have h9 := HR9.out; rw [← HLk.out] at h9; exact (FRow.mk h9).row, Nat.le_refl _, HBk.out⟩

theorem quo_is {S : Option Nat} {s z : Nat} (n : Nat) (hs : Rp .f32 S s) (hz : Rp .f32 (floatBits .quo .f32 s (iF n)) z) : Rp .f32 (meanO S n) z := hs.fop (Rp.refl _ _) hz
set_option maxHeartbeats 1000000 in
theorem meanOf_any (a : Option Addr) (cap : Nat) (zs : List Nat) (w : World) (h : RowF .f32 w a zs) (hl : zs.length ≤ 256) :
    Calls Try.prog 66 #[.slice a zs.length cap] w (NumQ (meanO (fsum zs) zs.length) w) := by
  have HS := Lib.hid (sumNumbers_any a cap zs w h hl)
  clear h
  obtain ⟨len, hlen⟩ : ∃ len, zs.length = len := ⟨_, rfl⟩
  rw [hlen] at HS ⊢
  clear hlen
  have hf1 : Is32 (some (iF len)) (floatOfInt .f32 len) := iF_is _
  go_enter Try.func66, Try.ntmps66
  go_wp2_with fail
  refine HS.out.mono ?_
  rintro e w' ⟨r, n, rfl, rfl, hr⟩
  have hr2 : Is32 (fsum zs) r := rp_is hr (fsum_ne zs)
  clear hr
  go_wp2_with (first | ((with_reducible refine wpList_bin ?_); refine wpList_f32 rfl _ _ _ _ _ rfl rfl rfl (by decide) (by first | assumption | exact Is32.c (by decide)) (by first | assumption | exact Is32.c (by decide)) ?_; intro z n hz))
  go_ret
  exact ⟨_, rfl, by assumption, _, by first | rfl | exact World.drewN_drewN _ _ _⟩

set_option maxHeartbeats 1000000 in
theorem squaresOf_any (a : Option Addr) (cap : Nat) (zs : List Nat) (w : World) (h : RowF .f32 w a zs) (hl : zs.length ≤ 256) :
    Calls Try.prog 68 #[.slice a zs.length cap] w (NumQ (fdot zs zs zs.length) w) := by
  have HS := Lib.hid (dotNumbers_any a a cap cap zs zs w h h hl rfl)
  clear h
  have Hne := Lib.hid (fdot_ne zs zs zs.length)
  generalize fdot zs zs zs.length = D at *
  generalize zs.length = len at *
  go_enter Try.func68, Try.ntmps68
  go_wp2_with fail
  refine HS.out.mono ?_
  rintro e w' ⟨r, n, rfl, rfl, hr⟩
  have hr2 := Lib.hid (rp_is hr Hne.out)
  clear hr
  go_wp2_with fail
  go_ret
  exact ⟨_, rfl, hr2.out, _, rfl⟩

set_option maxHeartbeats 2000000 in
theorem l07Mean_any (a : Option Addr) (cap : Nat) (zs : List Nat) (w : World) (h : RowF .f32 w a zs) (hl : zs.length ≤ 1048576) :
    Calls Try.prog 63 #[.slice a zs.length cap] w (NumQ (meanO (fsum zs) zs.length) w) := by
  have Hc := Lib.hid h.cells
  clear h
  have Hne := Lib.hid (fsum_ne zs)
  obtain ⟨len, hlen⟩ : ∃ len, zs.length = len := ⟨_, rfl⟩
  rw [hlen] at hl ⊢
  have Hlen := Lib.hid hlen
  clear hlen
  have hf1 : Is32 (some (iF len)) (floatOfInt .f32 len) := iF_is _
  have HF1 := Lib.hid hf1
  clear hf1
  go_enter Try.func63, Try.ntmps63
  go_wp2_with fail
  go_loopw [3, 7] (fun s i wr => ∃ k n : Nat, k ≤ len ∧ i = .int .i64 k ∧ SumAt zs k s ∧ wr = w.drewN n) (fun _ i _ => len - (intOf i).toNat)
  case atStart => exact ⟨0, 0, Nat.zero_le _, rfl, ⟨0, rfl, rfl⟩, rfl⟩
  case round =>
    obtain ⟨k, n, hk, rfl, ⟨r, rfl, hr⟩, rfl⟩ := hrel
    by_cases hlt : k < len
    · obtain ⟨b, off, rfl, h1⟩ := Hc.out k (by rw [Hlen.out]; exact hlt)
      have Hn := Lib.hid (fun z hz => SumAt.next (z := z) (by rw [Hlen.out]; exact hlt) hr hz)
      generalize zs.getD k 0 = x at *
      clear hr
      have hk0 : (0 : Int) ≤ (k : Int) := by omega
      have hk1 : (k : Int) < (len : Int) := by omega
      go_wp2_with (refine wpList_fl rfl _ _ _ _ _ rfl .f32 _ _ rfl rfl (by decide) ?_; intro z m hz)
      go_roundw
      case rel => exact ⟨k + 1, _, by omega, by go_num, Hn.out _ (by assumption), rfl⟩
      case measure => simp [intOf]; omega
    · have hr2 := rp_is (SumAt.last (by rw [Hlen.out]; exact hlt) hr) Hne.out
      have hf1 := HF1.out
      clear hr
      go_wp2_with (first | ((with_reducible refine wpList_bin ?_); refine wpList_f32 rfl _ _ _ _ _ rfl rfl rfl (by decide) (by first | assumption | exact Is32.c (by decide)) (by first | assumption | exact Is32.c (by decide)) ?_; intro z n hz))
      go_ret
      exact ⟨_, rfl, by assumption, _, by first | rfl | exact World.drewN_drewN _ _ _⟩

set_option maxHeartbeats 2000000 in
theorem l07Squares_any {M : Option Nat} {m : Nat} (a : Option Addr) (cap : Nat) (zs : List Nat) (w : World) (h : RowF .f32 w a zs) (hl : zs.length ≤ 1048576) (hz : ∀ z ∈ zs, z < 4294967296) (hm : Is32 M m) :
    Calls Try.prog 65 #[.slice a zs.length cap, .float .f32 m] w (NumQ (sqO (mapL (fun z => fop .sub .f32 (some z) M) zs zs.length) zs.length) w) := by
  have Hc := Lib.hid h.cells
  have Hz := Lib.hid hz
  clear h hz
  obtain ⟨len, hlen⟩ : ∃ len, zs.length = len := ⟨_, rfl⟩
  rw [hlen] at hl ⊢
  have Hlen := Lib.hid hlen
  clear hlen
  obtain ⟨S, hS⟩ : ∃ S : Nat → Option Nat, S = sqO (mapL (fun z => fop .sub .f32 (some z) M) zs len) := ⟨_, rfl⟩
  have hS0 : S 0 = some 0 := by rw [hS]; rfl
  have hSn : ∀ k, k < len → S (k + 1) = fop .add .f32 (S k) (fop .mul .f32 (fop .sub .f32 (some (zs.getD k 0)) M) (fop .sub .f32 (some (zs.getD k 0)) M)) := fun k hk => by rw [hS, sqO, mapL_get hk]
  rw [← hS]
  have HS0 := Lib.hid hS0
  have HSn := Lib.hid hSn
  clear hS hS0 hSn
  go_enter Try.func65, Try.ntmps65
  go_wp2_with fail
  go_loopw [5, 10] (fun s i wr => ∃ k n x : Nat, k ≤ len ∧ i = .int .i64 k ∧ s = .float .f32 x ∧ Hid (Is32 (S k) x) ∧ wr = w.drewN n) (fun _ i _ => len - (intOf i).toNat)
  case atStart => exact ⟨0, 0, 0, Nat.zero_le _, rfl, rfl, Lib.hid (by rw [HS0.out]; exact Is32.c (by decide)), rfl⟩
  case round =>
    obtain ⟨k, n, x, hk, rfl, rfl, hx, rfl⟩ := hrel
    by_cases hlt : k < len
    · obtain ⟨b, off, rfl, h1⟩ := Hc.out k (by rw [Hlen.out]; exact hlt)
      have hzk : Is32 (some (zs.getD k 0)) (zs.getD k 0) := Is32.c (getD_lt Hz.out k (by rw [Hlen.out]; exact hlt))
      have Hn := Lib.hid (HSn.out k hlt)
      have hx9 := hx.out
      clear hx
      generalize zs.getD k 0 = z at *
      have hk0 : (0 : Int) ≤ (k : Int) := by omega
      have hk1 : (k : Int) < (len : Int) := by omega
      go_wp2_with (first | ((with_reducible refine wpList_bin ?_); refine wpList_f32 rfl _ _ _ _ _ rfl rfl rfl (by decide) (by first | assumption | exact Is32.c (by decide)) (by first | assumption | exact Is32.c (by decide)) ?_; intro z n hz))
      go_roundw
      case rel => exact ⟨k + 1, _, _, by omega, by go_num, rfl, Lib.hid (by rw [Hn.out]; assumption), rfl⟩
      case measure => simp [intOf]; omega
    · obtain rfl : k = len := by omega
      go_wp2_with fail
      go_ret
      exact ⟨_, rfl, hx.out, _, rfl⟩

abbrev DubS (p : Option Nat × Option Nat × Bool) (w : World) := Dub0 p fun w' => w = w'
def pairO (X Y : Option Nat) : Option Nat × Option Nat × Bool := if fin32o X && fin32o Y then (X, Y, true) else (some 0, some 0, false)

set_option maxHeartbeats 1000000 in
theorem finitePair_o {X : Option Nat} {x : Nat} {Y : Option Nat} {y : Nat} (w : World)  (hx : Is32 X x) (hy : Is32 Y y) :
    Calls Try.prog 70 #[.float .f32 x, .float .f32 y] w (DubS (pairO X Y) w) := by
  go_enter Try.func70, Try.ntmps70
  go_wp2_with (first | ((with_reducible refine wpList_bin ?_); refine wpList_f32 rfl _ _ _ _ _ rfl rfl rfl (by decide) (by first | assumption | exact Is32.c (by decide)) (by first | assumption | exact Is32.c (by decide)) ?_; intro z n hz) | ((with_reducible refine wpList_bin ?_); refine wpList_c32 rfl _ _ _ _ _ rfl rfl rfl (by decide) (by first | assumption | exact Is32.c (by decide)) (by first | assumption | exact Is32.c (by decide)) ?_; intro bb hbb; cases bb) | (go_at_call 60; refine (isFin_o _ (by first | assumption | exact Is32.c (by decide))).mono ?_; rintro e w' ⟨bb, hbb, rfl, rfl⟩; cases bb))
  all_goals go_ret3
  all_goals (refine ⟨_, _, _, rfl, ?_, ?_, ?_, rfl⟩; (simp [pairO, *]); all_goals (first | assumption | (simp [pairO, *]; done) | (simp [pairO, *]; exact Is32.c (by decide)) | (simp [pairO, *]; assumption)))

end Go.Proofs.Ytdmcjloaommnpaa
