/- LF. -/
import Derived.Test.YthehnlpgmkjefaaDoorRows
import Derived.Test.YthehnlpgmkjefaaDoorGD
import Derived.Test.YthehnlpgmkjefaaDoorGE
import Derived.Test.YthehnlpgmkjefaaDoorGF
import Derived.Test.YthehnlpgmkjefaaDoorGB
import Derived.ProofKit
import Derived.LaidMore
import Derived.OpenShut
import Derived.Stop.Joined
/- What arrays of limbs and pairs of them that come in give the walks; what the listed package variables hold. -/
namespace Go.Proofs.YthehnlpgmkjefaaDoor.fpn
open Go.ChangeShapes Go.WideShapes Go.ChangeAt Go.WideElems Go.RowKit
set_option maxRecDepth 4000
set_option linter.unusedVariables false

theorem row6 {H : Type} {enc : TypeId × Value → H} {W : World} {base : Nat} {spare : Nat → Bool} {held : Bool} {fuel : Nat} {cs : List Value} {x : DataW H × List MemPlace}
    (h : DataW.trod enc Tryd.prog W base spare held fuel 28 cs = some x) : ∃ f : Nat → Int, cs = QC f ∧ Rg f 6 := by
  obtain ⟨xs, m, _, _, hlen, hn, hel⟩ := DataW.trod_array Tryd.underlying28 h
  rw [cellsFr] at hlen
  rw [cells64] at hel
  obtain ⟨c0, c1, c2, c3, c4, c5, rfl⟩ := list6 cs hlen
  match xs, hn with
  | [y0, y1, y2, y3, y4, y5], _ =>
    obtain ⟨x0, e0, rfl, w0⟩ := DataW.trod_int Tryd.underlying22 (show DataW.trod _ Tryd.prog W _ _ _ m 22 _ = some y0 from hel 0 (by decide))
    obtain ⟨x1, e1, rfl, w1⟩ := DataW.trod_int Tryd.underlying22 (show DataW.trod _ Tryd.prog W _ _ _ m 22 _ = some y1 from hel 1 (by decide))
    obtain ⟨x2, e2, rfl, w2⟩ := DataW.trod_int Tryd.underlying22 (show DataW.trod _ Tryd.prog W _ _ _ m 22 _ = some y2 from hel 2 (by decide))
    obtain ⟨x3, e3, rfl, w3⟩ := DataW.trod_int Tryd.underlying22 (show DataW.trod _ Tryd.prog W _ _ _ m 22 _ = some y3 from hel 3 (by decide))
    obtain ⟨x4, e4, rfl, w4⟩ := DataW.trod_int Tryd.underlying22 (show DataW.trod _ Tryd.prog W _ _ _ m 22 _ = some y4 from hel 4 (by decide))
    obtain ⟨x5, e5, rfl, w5⟩ := DataW.trod_int Tryd.underlying22 (show DataW.trod _ Tryd.prog W _ _ _ m 22 _ = some y5 from hel 5 (by decide))
    simp at e0 e1 e2 e3 e4 e5
    subst e0 e1 e2 e3 e4 e5
    refine ⟨hexa x0 x1 x2 x3 x4 x5, rfl, fun i hi => ?_⟩
    have b0 := bounds_u64 w0
    have b1 := bounds_u64 w1
    have b2 := bounds_u64 w2
    have b3 := bounds_u64 w3
    have b4 := bounds_u64 w4
    have b5 := bounds_u64 w5
    rw [B64_eq]
    rcases (show i = 0 ∨ i = 1 ∨ i = 2 ∨ i = 3 ∨ i = 4 ∨ i = 5 by omega) with rfl | rfl | rfl | rfl | rfl | rfl <;> simp only [hexa] <;> omega

theorem cut2 {α : Type} {cs : List α} {n : Nat} (h : cs.length = 2 * n) : cs = (cs.drop (0 * n)).take n ++ (cs.drop (1 * n)).take n := by
  rw [Nat.zero_mul, Nat.one_mul, List.drop_zero, List.take_of_length_le (l := cs.drop n) (by rw [List.length_drop]; omega), List.take_append_drop]

theorem cells2 : Tryd.prog.cellsOf 30 = 12 := by kernel_rfl
theorem under2 : Tryd.prog.underlying 30 = some (.array 2 28) := Tryd.underlying30

theorem row12 {H : Type} {enc : TypeId × Value → H} {W : World} {base : Nat} {spare : Nat → Bool} {held : Bool} {fuel : Nat} {cs : List Value} {x : DataW H × List MemPlace}
    (h : DataW.trod enc Tryd.prog W base spare held fuel 30 cs = some x) : ∃ f g : Nat → Int, cs = QC2 f g ∧ Rg f 6 ∧ Rg g 6 := by
  obtain ⟨xs, m, _, _, hlen, hn, hel⟩ := DataW.trod_array under2 h
  rw [cells2] at hlen
  rw [cellsFr] at hel
  match xs, hn with
  | [y0, y1], _ =>
    obtain ⟨f, hf, rf⟩ := row6 (show _ = some y0 from hel 0 (by decide))
    obtain ⟨g, hg, rg⟩ := row6 (show _ = some y1 from hel 1 (by decide))
    refine ⟨f, g, ?_, rf, rg⟩
    rw [cut2 (n := 6) hlen, hf, hg]; rfl

def laid2 : List (String × DataW Unit) := Rows.g2AllRow.laid
def nV0 : String := ((laid2.map (·.1))[0]?).getD Rows.g2AllRow.func
theorem gV0 : Tryd.prog.globalNamed nV0 = some 0 := by kernel_rfl
theorem tV0 : (Tryd.prog.globals[0]?).map (·.type) = some 28 := by kernel_rfl

theorem door_met (os : Os) (args : Array Value) : laidMetH Tryd.prog laid2 ((World.doorLaid Tryd.prog 400 os).forCall (fun _ _ => 0) ⟨#[], args, []⟩).memory :=
  laidMetH_of_parts3 (fuel := 8) (laidMet_of_run' 8 (by kernel_rfl) (by kernel_rfl)) (by kernel_rfl) (by kernel_rfl)

theorem arr6_at {W : World} {g : Nat} {n : String} {cs : Array Value} {fuel : Nat} {p : List MemPlace} (f : Nat → Int) (hg : Tryd.prog.globalNamed n = some g) (hv : World.var? Tryd.prog W n = some cs)
    (hd : DataW.trod (fun _ => ()) Tryd.prog W 0 (fun _ => true) false fuel 28 cs.toList = some (.agg [.lit (.int .u64 (f 0)), .lit (.int .u64 (f 1)), .lit (.int .u64 (f 2)), .lit (.int .u64 (f 3)), .lit (.int .u64 (f 4)), .lit (.int .u64 (f 5))], p)) : At W (some ⟨g, 0, none⟩) 6 f := by
  obtain ⟨xs, m, _, hx, hlen, hn, hel⟩ := DataW.trod_array Tryd.underlying28 hd
  rw [cellsFr] at hlen
  rw [cells64] at hel
  obtain ⟨l⟩ := cs
  obtain ⟨c0, c1, c2, c3, c4, c5, rfl⟩ := list6 l hlen
  match xs, hn with
  | [y0, y1, y2, y3, y4, y5], _ =>
    obtain ⟨x0, e0, rfl, w0⟩ := DataW.trod_int Tryd.underlying22 (show DataW.trod _ Tryd.prog W 0 _ _ m 22 _ = some y0 from hel 0 (by decide))
    obtain ⟨x1, e1, rfl, w1⟩ := DataW.trod_int Tryd.underlying22 (show DataW.trod _ Tryd.prog W 0 _ _ m 22 _ = some y1 from hel 1 (by decide))
    obtain ⟨x2, e2, rfl, w2⟩ := DataW.trod_int Tryd.underlying22 (show DataW.trod _ Tryd.prog W 0 _ _ m 22 _ = some y2 from hel 2 (by decide))
    obtain ⟨x3, e3, rfl, w3⟩ := DataW.trod_int Tryd.underlying22 (show DataW.trod _ Tryd.prog W 0 _ _ m 22 _ = some y3 from hel 3 (by decide))
    obtain ⟨x4, e4, rfl, w4⟩ := DataW.trod_int Tryd.underlying22 (show DataW.trod _ Tryd.prog W 0 _ _ m 22 _ = some y4 from hel 4 (by decide))
    obtain ⟨x5, e5, rfl, w5⟩ := DataW.trod_int Tryd.underlying22 (show DataW.trod _ Tryd.prog W 0 _ _ m 22 _ = some y5 from hel 5 (by decide))
    simp at e0 e1 e2 e3 e4 e5 hx
    obtain ⟨⟨rfl, rfl, rfl, rfl, rfl, rfl⟩, _⟩ := hx
    subst e0 e1 e2 e3 e4 e5
    refine fun _ => ⟨g, 0, rfl, fun j hj => ?_⟩
    have k := World.var?_cell hg hv j
    rw [Nat.zero_add, k]
    rcases (show j = 0 ∨ j = 1 ∨ j = 2 ∨ j = 3 ∨ j = 4 ∨ j = 5 by omega) with rfl | rfl | rfl | rfl | rfl | rfl <;> rfl

def G2 (w : World) : Prop := Gl w ∧ True
theorem G2.stay {w x : World} (h : G2 w) (b : Below w.heap.size w x) : G2 x := ⟨h.1.stay b, trivial⟩

theorem FpOk.over {G G' : World → Prop} (K : FpOk G) (h : ∀ w, G' w → G w) (s : ∀ {w x : World}, G' w → Below w.heap.size w x → G' x) : FpOk G' where
  stay := s
  add := fun f g w k => K.add f g w (h w k)
  sub := fun f g w k => K.sub f g w (h w k)
  mul := fun f g w k => K.mul f g w (h w k)
  neg := fun f w k => K.neg f w (h w k)
  of := fun x w k => K.of x w (h w k)
  inv0 := fun f w k => K.inv0 f w (h w k)
  inv := fun f w k => K.inv f w (h w k)
  pow := fun f p n c g E w k => K.pow f p n c g E w (h w k)
  may := fun f w k => K.may f w (h w k)
theorem fpK2 : FpK G2 := fpK (fpOk.over (fun _ h => h.1) (fun h b => h.stay b))

theorem of_laid {W : World} (h : laidMetH Tryd.prog laid2 W) : G2 W := by
  rw [MakeChecks.laidMetH_plain _ _ _ (by kernel_rfl)] at h
  obtain ⟨ps, ⟨g0, t0, cs0, f0, p0, q0, hg0, ht0, hv0, hd0, _, _⟩, _⟩ := h
  obtain rfl := Option.some.inj (gV0.symm.trans hg0)
  obtain rfl := Option.some.inj (tV0.symm.trans ht0)
  exact ⟨⟨trivial, arr6_at cL hg0 hv0 hd0⟩, trivial⟩
end Go.Proofs.YthehnlpgmkjefaaDoor.fpn
