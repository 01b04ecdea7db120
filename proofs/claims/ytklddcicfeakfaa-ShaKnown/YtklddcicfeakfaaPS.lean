/- A part of an array's value, and what is known of one operation of it. No program is named here. -/
import Derived.Test.YtklddcicfeakfaaPR
namespace Go.Proofs.Ytklddcicfeakfaa.Pl
open Go Go.RowKit
set_option linter.unusedVariables false
set_option linter.unusedSimpArgs false

/-- An array whose parts are rows. -/
structure ArrV (P : Program) (t : TypeId) (n sz : Nat) : Prop where
  und : ∃ e, P.underlying t = some (.array n e) ∧ (∀ w, (isAgg e).run P w = .ok true w) ∧ (∀ w, (sizeOf e).run P w = .ok sz w)

section
variable {P : Program} {ops : Array Oper} {ks : List Kind} {T : List Nat} {a0 : Act} {B : Nat} {w0 : World} {H : List (Nat × List Value)} {i : Nat} {o : Oper}
theorem index_part {t : TypeId} {n sz : Nat} {cs ds : List Value} (hA : ArrV P t n sz) (k : Nat) (hkn : k < n) (hp : (cs.drop (k * sz)).take sz = ds) (w : World) :
    (Instr.index t (.agg cs.toArray) (.int .i64 (k : Int))).run P w = .ok (.agg ds.toArray) w := by
  obtain ⟨e, hu, ha, hs⟩ := hA.und
  have hkn' : (0 : Int) ≤ (k : Int) ∧ (k : Int) < (n : Int) := ⟨by omega, by omega⟩
  simp [Instr.index, asIntOf, Sem.run_bind, run_underlying hu, hkn', part, ha, hs, hkn]
  rw [hp]
theorem oV {t : TypeId} {x ix : Operand} {n sz : Nat} {cs ds : List Value} (k : Nat) (hA : ArrV P t n sz) (hw : ∀ L, wantedR ks L o = true := by intro _; kernel_rfl) (ho : o.op = .index t x ix := by exact rfl)
    (hx : ∀ L, rd ops ks T a0 L i x = .agg cs.toArray := by intro _; kernel_rfl) (hi : ∀ L, rd ops ks T a0 L i ix = .int .i64 (k : Int) := by intro _; kernel_rfl) (hkn : Nat.blt k n = true := by kernel_rfl) (hp : (cs.drop (k * sz)).take sz = ds := by kernel_rfl) (hk : kd ks i = .det (.agg ds.toArray)) : Obl P ops ks T a0 B w0 H i o := ⟨ob_pure hw hk fun L w => by
    unfold execOp
    simp only [ho, hx L, hi L, Sem.run_bind, index_part hA k (Eq.mp Nat.blt_eq hkn) hp w]
    rfl⟩
end
end Go.Proofs.Ytklddcicfeakfaa.Pl
