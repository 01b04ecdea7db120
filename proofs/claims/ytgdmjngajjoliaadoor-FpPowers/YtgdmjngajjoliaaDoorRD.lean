/- What an array of six limbs that comes in gives the walks. -/
import Derived.Test.YtgdmjngajjoliaaDoorRC
import Derived.Test.YtgdmjngajjoliaaDoorBX
import Derived.ProofKit
import Derived.WalkKit
import Derived.OpenShut
import Derived.ShutString
import Derived.ChangeOld
import Derived.Below
namespace Go.Proofs.YtgdmjngajjoliaaDoor.fpn
open Go.ChangeShapes Go.WideShapes Go.ChangeAt Go.RowKit
set_option linter.unusedVariables false

theorem list6 {α : Type} (l : List α) (h : (⟨l⟩ : Array α).size = 6) : ∃ a b c d p q, l = [a, b, c, d, p, q] := by
  match l, h with
  | [a, b, c, d, p, q], _ => exact ⟨a, b, c, d, p, q, rfl⟩

theorem cellsFr : Tryd.prog.cellsOf 24 = 6 := by kernel_rfl

/-- Six numbers as a function. -/
def hexa (a b c d p q : Int) : Nat → Int
  | 0 => a
  | 1 => b
  | 2 => c
  | 3 => d
  | 4 => p
  | 5 => q
  | _ => 0

theorem open_fr {H : Type} {enc : TypeId × Value → H} {W : World} {base : Nat} {v : Value} {d : DataW H} {p : List MemPlace}
    (hv : Value.okWide Tryd.prog W .any base 24 v) (h0 : DataW.Trod enc Tryd.prog W 0 (fun _ => true) true 24 v d p) :
    ∃ f : Nat → Int, v = frv f ∧ Rg f 6 := by
  obtain ⟨cs, rfl, hsz, _⟩ : ∃ cs, v = .agg cs ∧ cs.size = Tryd.prog.cellsOf 24 ∧ Row.okWide Tryd.prog W .any base 24 cs := by
    simpa [Value.okWide, Tryd.underlying24] using hv
  rw [cellsFr] at hsz
  obtain ⟨l⟩ := cs
  obtain ⟨c0, c1, c2, c3, c4, c5, rfl⟩ := list6 l hsz
  obtain ⟨fuel, hf⟩ := h0
  obtain ⟨xs, m, _, _, _, hn, hel⟩ := DataW.trod_array Tryd.underlying24 hf
  rw [cells64] at hel
  match xs, hn with
  | [y0, y1, y2, y3, y4, y5], _ =>
    obtain ⟨x0, e0, rfl, w0⟩ := DataW.trod_int Tryd.underlying22 (show DataW.trod _ Tryd.prog W 0 _ _ m 22 _ = some y0 from hel 0 (by decide))
    obtain ⟨x1, e1, rfl, w1⟩ := DataW.trod_int Tryd.underlying22 (show DataW.trod _ Tryd.prog W 0 _ _ m 22 _ = some y1 from hel 1 (by decide))
    obtain ⟨x2, e2, rfl, w2⟩ := DataW.trod_int Tryd.underlying22 (show DataW.trod _ Tryd.prog W 0 _ _ m 22 _ = some y2 from hel 2 (by decide))
    obtain ⟨x3, e3, rfl, w3⟩ := DataW.trod_int Tryd.underlying22 (show DataW.trod _ Tryd.prog W 0 _ _ m 22 _ = some y3 from hel 3 (by decide))
    obtain ⟨x4, e4, rfl, w4⟩ := DataW.trod_int Tryd.underlying22 (show DataW.trod _ Tryd.prog W 0 _ _ m 22 _ = some y4 from hel 4 (by decide))
    obtain ⟨x5, e5, rfl, w5⟩ := DataW.trod_int Tryd.underlying22 (show DataW.trod _ Tryd.prog W 0 _ _ m 22 _ = some y5 from hel 5 (by decide))
    simp [Value.cells] at e0 e1 e2 e3 e4 e5
    subst e0 e1 e2 e3 e4 e5
    refine ⟨hexa x0 x1 x2 x3 x4 x5, rfl, fun i hi => ?_⟩
    have b0 := bounds_u64 w0
    have b1 := bounds_u64 w1
    have b2 := bounds_u64 w2
    have b3 := bounds_u64 w3
    have b4 := bounds_u64 w4
    have b5 := bounds_u64 w5
    rw [B64_eq]
    rcases (show i = 0 ∨ i = 1 ∨ i = 2 ∨ i = 3 ∨ i = 4 ∨ i = 5 by omega) with rfl | rfl | rfl | rfl | rfl | rfl <;> simp only [hexa] <;> omega
end Go.Proofs.YtgdmjngajjoliaaDoor.fpn
