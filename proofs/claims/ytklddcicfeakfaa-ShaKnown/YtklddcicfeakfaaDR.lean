/- What texts, words and bytes that come in give the walks of law 12. -/
import Derived.Test.YtklddcicfeakfaaDQ
import Derived.ProofKit
import Derived.WalkKit
import Derived.OpenShut
import Derived.ShutString
import Derived.ChangeOld
import Derived.Below
namespace Go.Proofs.Ytklddcicfeakfaa
open Go.ChangeShapes Go.WideShapes Go.ChangeAt Go.RowKit Pl
set_option maxRecDepth 4000
set_option linter.unusedVariables false

theorem IsRow.bytes {w : World} {a : Option Addr} {len cap : Nat} {zs : List Int} (h : IsRow .u8 w a len cap zs) : ∀ j, j < len → 0 ≤ zs.getD j 0 ∧ zs.getD j 0 < 256 := fun j hj => by
  rcases h with ⟨rfl, rfl, rfl, rfl⟩ | ⟨x, rfl, h1, h2, h3, h4, h5⟩
  · omega
  · have hm : zs.getD j 0 ∈ zs := by
      rw [List.getD_eq_getElem?_getD, List.getElem?_eq_getElem (by omega)]
      exact List.getElem_mem _
    have := bounds_u8 (h5 _ hm)
    omega
/-- An array of whole numbers that came in. -/
theorem open_arr {H : Type} {enc : TypeId × Value → H} {W : World} {base n : Nat} {t e : TypeId} {k : IntKind} {v : Value} {d : DataW H} {p : List MemPlace}
    (ht : Try.prog.underlying t = some (.array n e)) (he : Try.prog.underlying e = some (.int k)) (hce : Try.prog.cellsOf e = 1) (hct : Try.prog.cellsOf t = n)
    (hv : Value.okWide Try.prog W .any base t v) (h0 : DataW.Trod enc Try.prog W 0 (fun _ => true) true t v d p) :
    ∃ f : Nat → Int, v = .agg ((List.range n).map fun j => .int k (f j)).toArray ∧ ∀ i, i < n → (Lit.int k (f i)).wf = true := by
  obtain ⟨cs, rfl, hsz, _⟩ : ∃ cs, v = .agg cs ∧ cs.size = Try.prog.cellsOf t ∧ Row.okWide Try.prog W .any base t cs := by
    simpa [Value.okWide, ht] using hv
  rw [hct] at hsz
  obtain ⟨l⟩ := cs
  obtain ⟨fuel, hf⟩ := h0
  obtain ⟨xs, m, _, _, _, hn, hel⟩ := DataW.trod_array ht hf
  rw [hce] at hel
  have hl : l.length = n := hsz
  have hex : ∀ i, i < n → ∃ x, l[i]? = some (.int k x) ∧ (Lit.int k x).wf = true := fun i hi => by
    obtain ⟨y, hy⟩ : ∃ y, xs[i]? = some y := ⟨xs[i], List.getElem?_eq_getElem (by omega)⟩
    obtain ⟨x, e1, _, w1⟩ := DataW.trod_int he ((hel i hi).trans hy)
    refine ⟨x, ?_, w1⟩
    have e2 : (List.take 1 (List.drop (i * 1) l))[0]? = some (Value.int k x) := by
      have : (Value.agg ⟨l⟩).cells.toList = l := rfl
      rw [this] at e1
      rw [e1]; rfl
    rw [List.getElem?_take_of_lt (by decide), List.getElem?_drop, Nat.mul_one, Nat.add_zero] at e2
    exact e2
  refine ⟨fun i => match l[i]? with | some (.int _ x) => x | _ => 0, ?_, fun i hi => ?_⟩
  · refine congrArg (fun z => Value.agg (List.toArray z)) (List.ext_getElem? fun i => ?_)
    by_cases hi : i < n
    · obtain ⟨x, e1, _⟩ := hex i hi
      rw [e1]
      simp [hi, e1]
    · rw [List.getElem?_eq_none (by omega), List.getElem?_eq_none (by simp; omega)]
  · obtain ⟨x, e1, w1⟩ := hex i hi
    simp only [e1]
    exact w1
theorem open_w8 {H : Type} {enc : TypeId × Value → H} {W : World} {base : Nat} {v : Value} {d : DataW H} {p : List MemPlace} (hv : Value.okWide Try.prog W .any base 24 v) (h0 : DataW.Trod enc Try.prog W 0 (fun _ => true) true 24 v d p) : ∃ f : Nat → BitVec 32, v = VW f 8 := by
  obtain ⟨f, rfl, hw⟩ := open_arr Try.underlying24 Try.underlying23 (by kernel_rfl) (by kernel_rfl) hv h0
  refine ⟨fun j => BitVec.ofInt 32 (f j), congrArg (fun z => Value.agg (List.toArray z)) (List.map_congr_left fun j hj => ?_)⟩
  have hb := bounds_u32 (hw j (List.mem_range.1 hj))
  refine congrArg (Value.int .u32) ?_
  rw [BitVec.toNat_ofInt]
  omega
theorem open_b64 {H : Type} {enc : TypeId × Value → H} {W : World} {base : Nat} {v : Value} {d : DataW H} {p : List MemPlace} (hv : Value.okWide Try.prog W .any base 25 v) (h0 : DataW.Trod enc Try.prog W 0 (fun _ => true) true 25 v d p) : ∃ c : Nat → Int, v = fpn.VB c 64 ∧ ∀ i, i < 64 → 0 ≤ c i ∧ c i < 256 := by
  obtain ⟨f, rfl, hw⟩ := open_arr Try.underlying25 Try.underlying5 (by kernel_rfl) (by kernel_rfl) hv h0
  exact ⟨f, rfl, fun i hi => by have := bounds_u8 (hw i hi); omega⟩
end Go.Proofs.Ytklddcicfeakfaa
