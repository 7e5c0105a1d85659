/- 'laws.FnExactSameCanal' returns true at every input, and its arguments read afterwards as before: no condition. -/
import Derived.Test.YtdoecpghlfjhiabRows
import Derived.Test.YtdoecpghlfjhiabNums
import Derived.Test.YtdoecpghlfjhiabLaid
import Derived.Test.YtdoecpghlfjhiabCanalO
import Derived.Test.YtdoecpghlfjhiabLawSameCanal
import Derived.ProofKit
import Derived.OpenShut
import Derived.ShutString
import Derived.ChangeOld
import Derived.Below
namespace Go.Proofs.Ytdoecpghlfjhiab.fnExactSameCanal
open Go.ChangeShapes Go.WideShapes Go.ChangeAt Go.RowKit
set_option linter.unusedVariables false
set_option maxRecDepth 100000 in
theorem lifted (os : Os) (started : os.Started) (H : Type) (enc : TypeId × Value → H) :
    ReturnsInHanded {} Try.checked os 10 .any (Rows.fnExactSameCanalSpec.pre6 enc Try.prog Try.f10 Rows.fnExactSameCanalRow.domain false) (Rows.fnExactSameCanalSpec.post enc Try.prog Try.f10 false true false false) := by
  refine returnsInHanded_of_change (C := Try.checked) ownKnob_none started (by kernel_rfl) Try.func10
    (ChangeSpec.witness6 (enc := enc) (C := Try.checked) false ⟨#[], #[.agg #[.float .f32 0, .float .f32 0, .float .f32 0, .slice none 0 0, .slice none 0 0], .agg #[.float .f32 0, .float .f32 0, .float .f32 0, .slice none 0 0, .slice none 0 0]], []⟩ 8 (by kernel_rfl) (by kernel_rfl) (by kernel_rfl) (by kernel_rfl)) ?_
  intro W base args ds gs before hval0 hW hcnd _
  have hval : ∀ (j : Nat) t v, Try.f10.params[j]? = some t → args[j]? = some v → Value.okWide Try.prog W .any base t v := hval0
  have hW' := hW
  obtain ⟨p, q, hA0, hV, rfl, hfz, hnd⟩ := hW
  have hA : DataW.TrodAll enc Try.prog W 0 (fun _ => true) true Try.f10.params.toList args.toList ds p := hA0
  rw [Try.params10] at hA hval
  obtain ⟨v0, vs0, d0, ds0, p0, q0, hargs, rfl, rfl, h0, r0⟩ := trodAll_cons hA
  obtain ⟨v1, vs1, d1, ds1, p1, q1, rfl, rfl, rfl, h1, r1⟩ := trodAll_cons r0
  obtain ⟨rfl, rfl, rfl⟩ := trodAll_nil r1
  obtain rfl : args = #[v0, v1] := by cases args; simp_all
  obtain ⟨rfl, rfl⟩ := trodVars_none hV
  have k0 := h0
  have lt0 : ∀ x ∈ p0, x.block < W.heap.size := by obtain ⟨m, hm⟩ := k0; exact DataW.trod_lt m _ _ _ hm
  obtain ⟨x0_n0, x0_n1, x0_n2, a0, l0, c0, zs0, a1, l1, c1, zs1, rfl, wx0_n0, wx0_n1, wx0_n2, wzs0, wzs1⟩ := open_canal (hval 0 42 v0 rfl rfl) h0
  have k1 := h1
  have lt1 : ∀ x ∈ p1, x.block < W.heap.size := by obtain ⟨m, hm⟩ := k1; exact DataW.trod_lt m _ _ _ hm
  obtain ⟨x1_n0, x1_n1, x1_n2, b0, i0, d0, ys0, b1, i1, d1, ys1, rfl, wx1_n0, wx1_n1, wx1_n2, wys0, wys1⟩ := open_canal (hval 1 42 v1 rfl rfl) h1
  clear hA0 hval0
  refine (walk_FnExactSameCanal x0_n0 x0_n1 x0_n2 x1_n0 x1_n1 x1_n2 a0 a1 b0 b1 l0 l1 i0 i1 c0 c1 d0 d1 zs0 zs1 ys0 ys1 W wx0_n0 wx0_n1 wx0_n2 wx1_n0 wx1_n1 wx1_n2 wzs0 wzs1 wys0 wys1).mono fun e W' ⟨he, bel⟩ => ?_
  subst he
  exact ⟨_, rfl, _, _, _, [], _, [], hW', trodAll_mk1 (shut_bool Try.underlying4 _), (trodAll_cons_mk (Below.trod laidOut_all (by kernel_rfl) (of_decide_eq_true (by kernel_rfl)) k0 bel lt0) (trodAll_cons_mk (Below.trod laidOut_all (by kernel_rfl) (of_decide_eq_true (by kernel_rfl)) k1 bel lt1) trodAll_mk0)), rfl, bel.frame _, fun h => by cases h⟩
end Go.Proofs.Ytdoecpghlfjhiab.fnExactSameCanal
namespace Go.Proofs.Ytdoecpghlfjhiab
theorem proved_FnExactSameCanal : Rows.FnExactSameCanalSaid :=
  OpenClaim.holds_of_wide 10 Try.f10 rfl rfl rfl rfl rfl rfl rfl ⟨rfl, rfl, rfl, rfl, rfl⟩ rfl rfl rfl rfl rfl (by kernel_rfl) Try.func10 (by kernel_rfl)
    (of_decide_eq_true (by kernel_rfl)) (by unfold Func.isWrapper; rw [if_neg (of_decide_eq_false (by kernel_rfl))]; exact ⟨rfl, rfl⟩)
    (fun os started H enc _ => fnExactSameCanal.lifted os started H enc)
end Go.Proofs.Ytdoecpghlfjhiab
