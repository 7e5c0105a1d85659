/- Structs of 32-bit numbers that came in by value: what the walk is told of them. -/
import Derived.Test.YtdmcjloaommnpaaRowF
import Derived.ChangeArms
import Derived.Lib.SmallJoins
import Derived.Deep.Fields
namespace Go.Proofs.Ytdmcjloaommnpaa
open Go.RowKit Go.Joins Go.ChangeShapes Go.WideShapes Go.Deep

theorem open_nums {P : Program} {H : Type} {enc : TypeId × Value → H} {w : World} {base : Nat} {spare : Nat → Bool} {held : Bool} {r : Reach} {b0 : Nat} {t T : TypeId} {fs : Array Field} {v : Value} {d : DataW H} {p : List MemPlace}
    (hs : P.underlying t = some (.struct fs)) (hone : oneCellFields P fs = true) (hC : P.cellsOf t = fs.size) (hT : ∀ (j : Nat) (f : Field), fs[j]? = some f → f.type = T) (hf : P.underlying T = some (.float .f32))
    (hv : Value.okWide P w r b0 t v) (h : DataW.Trod enc P w base spare held t v d p) :
    ∃ ns : List Nat, v = .agg (ns.map (Value.float .f32)).toArray ∧ ns.length = fs.size ∧ ∀ n ∈ ns, n < 4294967296 := by
  obtain ⟨cs, rfl, hsz⟩ := okWide_struct hs hv
  obtain ⟨fuel, hd⟩ := h
  obtain ⟨xs, n, _, _, _, hlen, hg⟩ := DataW.trod_struct hs hd
  obtain ⟨l⟩ := cs
  have hsl : l.length = fs.size := by have := hsz.trans hC; simpa using this
  have each : ∀ j (hj : j < l.length), ∃ m, l[j] = .float .f32 m ∧ m < 4294967296 := by
    intro j hj
    have hjf : j < fs.size := by omega
    have hjs : fs[j]? = some fs[j] := Array.getElem?_eq_getElem hjf
    have h1 := hg j _ hjs
    obtain ⟨o, k⟩ := hone_of hone j _ hjs
    rw [o, k, hT j fs[j] hjs, List.getElem?_eq_getElem (by omega)] at h1
    have h2 : ((Value.agg ⟨l⟩).cells.toList.drop j).take 1 = [l[j]] := by
      show (l.drop j).take 1 = [l[j]]
      rw [List.drop_eq_getElem_cons hj]; rfl
    rw [h2] at h1
    obtain ⟨m, hm, _, hw⟩ := trod_float hf h1
    refine ⟨m, by simpa using hm, ?_⟩
    simpa [Lit.wf] using hw
  refine ⟨l.map (fun v => match v with | .float _ m => m | _ => 0), ?_, by rw [List.length_map, hsl], ?_⟩
  · congr 2
    rw [List.map_map]
    refine (List.ext_getElem (by simp) fun j h1 h2 => ?_)
    obtain ⟨m, hm, _⟩ := each j h1
    simp [hm]
  · intro x hx
    obtain ⟨v, hv, rfl⟩ := List.mem_map.1 hx
    obtain ⟨j, hj, rfl⟩ := List.getElem_of_mem hv
    obtain ⟨m, hm, hlt⟩ := each j hj
    simp only [hm]; exact hlt





end Go.Proofs.Ytdmcjloaommnpaa
