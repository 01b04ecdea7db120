/- LG2. -/
import Derived.Test.YthehnlpgmkjefaaDoorGN
import Derived.Test.YthehnlpgmkjefaaDoorGQ
import Derived.Deep.Slices
/- What points that come in give the walks. -/
namespace Go.Proofs.YthehnlpgmkjefaaDoor.fpn.T2
open Go.ChangeShapes Go.WideShapes Go.ChangeAt Go.WideElems Go.RowKit Pl EC
set_option linter.unusedVariables false
set_option maxRecDepth 4000

theorem cellsG2 : Tryd.prog.cellsOf 32 = 25 := by kernel_rfl
theorem list25 {cs : List Value} {f e g d : Nat → Int} {b : Bool} (hl : cs.length = 25) (h0 : (cs.drop 0).take 12 = QC2 f e) (h1 : (cs.drop 12).take 12 = QC2 g d) (h2 : (cs.drop 24).take 1 = [.bool b]) : cs = QGC f e g d b := by
  have e2 : cs.drop 24 = [.bool b] := by rw [← h2, List.take_of_length_le (by rw [List.length_drop, hl]; decide)]
  have e1 : cs.drop 12 = QC2 g d ++ [.bool b] := by
    rw [← h1, ← e2, show (24 : Nat) = 12 + 12 by rfl, ← List.drop_drop, List.take_append_drop]
  have e0 : cs = QC2 f e ++ (QC2 g d ++ [.bool b]) := by
    rw [← h0, ← e1, List.drop_zero, List.take_append_drop]
  rw [e0, ← List.append_assoc]; rfl
theorem open_g2 {H : Type} {enc : TypeId × Value → H} {W : World} {base : Nat} {v : Value} {d : DataW H} {p : List MemPlace}
    (hv : Value.okWide Tryd.prog W .any base 32 v) (h0 : DataW.Trod enc Tryd.prog W 0 (fun _ => true) true 32 v d p) :
    ∃ (f e g d : Nat → Int) (i : Bool), v = QGV f e g d i ∧ Rg f 6 ∧ Rg e 6 ∧ Rg g 6 ∧ Rg d 6 := by
  obtain ⟨cs, rfl⟩ : ∃ cs, v = .agg cs := by
    obtain ⟨cs, e, _⟩ : ∃ cs, v = .agg cs ∧ (cs.size = Tryd.prog.cellsOf 32 ∧ Row.okWide Tryd.prog W .any base 32 cs) := by
      simpa [Value.okWide, Tryd.underlying32] using hv
    exact ⟨cs, e⟩
  obtain ⟨l⟩ := cs
  obtain ⟨fuel, hf⟩ := h0
  have hf' : DataW.trod enc Tryd.prog W 0 (fun _ => true) true fuel 32 l = some (d, p) := hf
  obtain ⟨xs, m, _, _, hlen, hn, hel⟩ := DataW.trod_struct Tryd.underlying32 hf'
  rw [cellsG2] at hlen
  match xs, hn with
  | [y0, y1, y2], _ =>
    have t0 : DataW.trod enc Tryd.prog W 0 (fun _ => true) true m 30 ((l.drop 0).take 12) = some y0 := hel 0 _ rfl
    have t1 : DataW.trod enc Tryd.prog W 0 (fun _ => true) true m 30 ((l.drop 12).take 12) = some y1 := hel 1 _ rfl
    have t2 : DataW.trod enc Tryd.prog W 0 (fun _ => true) true m 4 ((l.drop 24).take 1) = some y2 := hel 2 _ rfl
    obtain ⟨f, e, e0, rf, re⟩ := row12 t0
    obtain ⟨g, k, e1, rg, rk⟩ := row12 t1
    obtain ⟨b, e2, _⟩ := DataW.trod_bool Tryd.underlying4 t2
    refine ⟨f, e, g, k, b, ?_, rf, re, rg, rk⟩
    rw [list25 hlen e0 e1 e2]; rfl
end Go.Proofs.YthehnlpgmkjefaaDoor.fpn.T2
