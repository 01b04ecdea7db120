/- What the listed package variables hold, for the walks. -/
import Derived.Test.YtgdmjngajjoliaaDoorRows
import Derived.Test.YtgdmjngajjoliaaDoorZV
import Derived.Test.YtgdmjngajjoliaaDoorRD
import Derived.ProofKit
import Derived.LaidMore
import Derived.OpenShut
import Derived.Stop.Joined
namespace Go.Proofs.YtgdmjngajjoliaaDoor.fpn
open Go.ChangeShapes Go.WideShapes Go.ChangeAt Go.WideElems Go.RowKit
set_option linter.unusedVariables false

def laid2 : List (String × DataW Unit) := Rows.fpAllRow.laid
def nHalf : String := ((laid2.map (·.1))[0]?).getD Rows.fpAllRow.func
def nSquare : String := ((laid2.map (·.1))[1]?).getD Rows.fpAllRow.func
theorem gHalf : Tryd.prog.globalNamed nHalf = some 0 := by kernel_rfl
theorem gSquare : Tryd.prog.globalNamed nSquare = some 1 := by kernel_rfl
theorem tHalf : (Tryd.prog.globals[0]?).map (·.type) = some 24 := by kernel_rfl
theorem tSquare : (Tryd.prog.globals[1]?).map (·.type) = some 24 := by kernel_rfl

theorem door_met (os : Os) (args : Array Value) : laidMetH Tryd.prog laid2 ((World.doorLaid Tryd.prog 400 os).forCall (fun _ _ => 0) ⟨#[], args, []⟩).memory :=
  laidMetH_of_parts3 (fuel := 8) (laidMet_of_run' 8 (by kernel_rfl) (by kernel_rfl)) (by kernel_rfl) (by kernel_rfl)

theorem arr6_at {W : World} {g : Nat} {n : String} {cs : Array Value} {fuel : Nat} {p : List MemPlace} (f : Nat → Int) (hg : Tryd.prog.globalNamed n = some g) (hv : World.var? Tryd.prog W n = some cs)
    (hd : DataW.trod (fun _ => ()) Tryd.prog W 0 (fun _ => true) false fuel 24 cs.toList = some (.agg [.lit (.int .u64 (f 0)), .lit (.int .u64 (f 1)), .lit (.int .u64 (f 2)), .lit (.int .u64 (f 3)), .lit (.int .u64 (f 4)), .lit (.int .u64 (f 5))], p)) : At W (some ⟨g, 0, none⟩) 6 f := by
  obtain ⟨xs, m, _, hx, hlen, hn, hel⟩ := DataW.trod_array Tryd.underlying24 hd
  rw [cellsFr] at hlen
  rw [cells64] at hel
  obtain ⟨l⟩ := cs
  obtain ⟨c0, c1, c2, c3, c4, c5, rfl⟩ := list6 l hlen
  match xs, hn with
  | [y0, y1, y2, y3, y4, y5], _ =>
    obtain ⟨x0, e0, rfl, w0⟩ := DataW.trod_int Tryd.underlying22 (show DataW.trod _ Tryd.prog W 0 _ _ m 22 _ = some y0 from hel 0 (by decide))
    obtain ⟨x1, e1, rfl, w1⟩ := DataW.trod_int Tryd.underlying22 (show DataW.trod _ Tryd.prog W 0 _ _ m 22 _ = some y1 from hel 1 (by decide))
    obtain ⟨x2, e2, rfl, w2⟩ := DataW.trod_int Tryd.underlying22 (show DataW.trod _ Tryd.prog W 0 _ _ m 22 _ = some y2 from hel 2 (by decide))
    obtain ⟨x3, e3, rfl, w3⟩ := DataW.trod_int Tryd.underlying22 (show DataW.trod _ Tryd.prog W 0 _ _ m 22 _ = some y3 from hel 3 (by decide))
    obtain ⟨x4, e4, rfl, w4⟩ := DataW.trod_int Tryd.underlying22 (show DataW.trod _ Tryd.prog W 0 _ _ m 22 _ = some y4 from hel 4 (by decide))
    obtain ⟨x5, e5, rfl, w5⟩ := DataW.trod_int Tryd.underlying22 (show DataW.trod _ Tryd.prog W 0 _ _ m 22 _ = some y5 from hel 5 (by decide))
    simp at e0 e1 e2 e3 e4 e5 hx
    obtain ⟨⟨rfl, rfl, rfl, rfl, rfl, rfl⟩, _⟩ := hx
    subst e0 e1 e2 e3 e4 e5
    refine fun _ => ⟨g, 0, rfl, fun j hj => ?_⟩
    have k := World.var?_cell hg hv j
    rw [Nat.zero_add, k]
    rcases (show j = 0 ∨ j = 1 ∨ j = 2 ∨ j = 3 ∨ j = 4 ∨ j = 5 by omega) with rfl | rfl | rfl | rfl | rfl | rfl <;> rfl

theorem of_laid {W : World} (h : laidMetH Tryd.prog laid2 W) : Gl W := by
  rw [MakeChecks.laidMetH_plain _ _ _ (by kernel_rfl)] at h
  obtain ⟨ps, ⟨g0, t0, cs0, f0, p0, q0, hg0, ht0, hv0, hd0, ⟨g1, t1, cs1, f1, p1, q1, hg1, ht1, hv1, hd1, _, _⟩, _⟩, _, _⟩ := h
  obtain rfl := Option.some.inj (gHalf.symm.trans hg0)
  obtain rfl := Option.some.inj (gSquare.symm.trans hg1)
  obtain rfl := Option.some.inj (tHalf.symm.trans ht0)
  obtain rfl := Option.some.inj (tSquare.symm.trans ht1)
  exact ⟨arr6_at hL hg0 hv0 hd0, arr6_at cL hg1 hv1 hd1⟩
end Go.Proofs.YtgdmjngajjoliaaDoor.fpn
