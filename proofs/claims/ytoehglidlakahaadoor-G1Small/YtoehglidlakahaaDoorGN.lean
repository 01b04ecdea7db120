/- LG. -/
import Derived.Test.YtoehglidlakahaaDoorGH
import Derived.Test.YtoehglidlakahaaDoorGM
import Derived.Deep.Slices
/- What points, scalars and slices of scalars that come in give the walks. -/
namespace Go.Proofs.YtoehglidlakahaaDoor.fpn
open Go.ChangeShapes Go.WideShapes Go.ChangeAt Go.WideElems Go.RowKit Pl EC
set_option linter.unusedVariables false
set_option maxRecDepth 4000

theorem RV_ofQ {f : Nat → Int} (rf : Rg f 4) : ∃ n : Nat, Go.Proofs.YtoehglidlakahaaDoor.frv f = RV n ∧ n < 2 ^ 256 := by
  obtain ⟨h0, h1⟩ := val_bd rf
  obtain ⟨n, hn⟩ := Int.eq_ofNat_of_zero_le h0
  have hlt : n < 2 ^ 256 := by
    rw [hn, pw_two] at h1
    exact Int.ofNat_lt.1 h1
  exact ⟨n, RV_of rf hlt hn, hlt⟩
theorem open_frN {H : Type} {enc : TypeId × Value → H} {W : World} {base : Nat} {v : Value} {d : DataW H} {p : List MemPlace}
    (hv : Value.okWide Tryd.prog W .any base 24 v) (h0 : DataW.Trod enc Tryd.prog W 0 (fun _ => true) true 24 v d p) :
    ∃ n : Nat, v = RV n ∧ n < 2 ^ 256 := by
  obtain ⟨f, rfl, rf⟩ := Go.Proofs.YtoehglidlakahaaDoor.open_fr hv h0
  obtain ⟨n, hn, hl⟩ := RV_ofQ rf
  exact ⟨n, hn, hl⟩
/-- A number that came in. -/
theorem nat_u64 {a : Int} (h : (Lit.int .u64 a).wf = true) : ∃ n : Nat, a = (n : Int) ∧ n < 18446744073709551616 := by
  have b := bounds_u64 h
  exact ⟨a.toNat, by omega, by omega⟩
theorem nat_u8 {a : Int} (h : (Lit.int .u8 a).wf = true) : ∃ n : Nat, a = (n : Int) ∧ n < 256 := by
  have b := bounds_u8 h
  exact ⟨a.toNat, by omega, by omega⟩

theorem cellsG1 : Tryd.prog.cellsOf 30 = 13 := by kernel_rfl
theorem list13 {cs : List Value} {f g : Nat → Int} {b : Bool} (hl : cs.length = 13) (h0 : (cs.drop 0).take 6 = QC f) (h1 : (cs.drop 6).take 6 = QC g) (h2 : (cs.drop 12).take 1 = [.bool b]) : cs = QGC f g b := by
  have e2 : cs.drop 12 = [.bool b] := by rw [← h2, List.take_of_length_le (by rw [List.length_drop, hl]; decide)]
  have e1 : cs.drop 6 = QC g ++ [.bool b] := by
    rw [← h1, ← e2, show (12 : Nat) = 6 + 6 by rfl, ← List.drop_drop, List.take_append_drop]
  have e0 : cs = QC f ++ (QC g ++ [.bool b]) := by
    rw [← h0, ← e1, List.drop_zero, List.take_append_drop]
  rw [e0, ← List.append_assoc]; rfl
theorem open_g1 {H : Type} {enc : TypeId × Value → H} {W : World} {base : Nat} {v : Value} {d : DataW H} {p : List MemPlace}
    (hv : Value.okWide Tryd.prog W .any base 30 v) (h0 : DataW.Trod enc Tryd.prog W 0 (fun _ => true) true 30 v d p) :
    ∃ (f g : Nat → Int) (i : Bool), v = QGV f g i ∧ Rg f 6 ∧ Rg g 6 := by
  obtain ⟨cs, rfl⟩ : ∃ cs, v = .agg cs := by
    obtain ⟨cs, e, _⟩ : ∃ cs, v = .agg cs ∧ (cs.size = Tryd.prog.cellsOf 30 ∧ Row.okWide Tryd.prog W .any base 30 cs) := by
      simpa [Value.okWide, Tryd.underlying30] using hv
    exact ⟨cs, e⟩
  obtain ⟨l⟩ := cs
  obtain ⟨fuel, hf⟩ := h0
  have hf' : DataW.trod enc Tryd.prog W 0 (fun _ => true) true fuel 30 l = some (d, p) := hf
  obtain ⟨xs, m, _, _, hlen, hn, hel⟩ := DataW.trod_struct Tryd.underlying30 hf'
  rw [cellsG1] at hlen
  match xs, hn with
  | [y0, y1, y2], _ =>
    have t0 : DataW.trod enc Tryd.prog W 0 (fun _ => true) true m 28 ((l.drop 0).take 6) = some y0 := hel 0 _ rfl
    have t1 : DataW.trod enc Tryd.prog W 0 (fun _ => true) true m 28 ((l.drop 6).take 6) = some y1 := hel 1 _ rfl
    have t2 : DataW.trod enc Tryd.prog W 0 (fun _ => true) true m 4 ((l.drop 12).take 1) = some y2 := hel 2 _ rfl
    obtain ⟨f, e0, rf⟩ := row6 t0
    obtain ⟨g, e1, rg⟩ := row6 t1
    obtain ⟨b, e2, _⟩ := DataW.trod_bool Tryd.underlying4 t2
    refine ⟨f, g, b, ?_, rf, rg⟩
    rw [list13 hlen e0 e1 e2]; rfl

end Go.Proofs.YtoehglidlakahaaDoor.fpn
