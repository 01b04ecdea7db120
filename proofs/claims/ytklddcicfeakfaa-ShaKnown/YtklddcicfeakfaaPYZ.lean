/- Whole numbers, pointers out of slices, in a plan. No program is named here. -/
import Derived.Test.YtklddcicfeakfaaPT
import Derived.Test.YtklddcicfeakfaaMem
namespace Go.Proofs.Ytklddcicfeakfaa.Pl
open Go Go.RowKit
set_option linter.unusedVariables false
set_option linter.unusedSimpArgs false
set_option maxRecDepth 4000

section
variable {P : Program}
theorem quo64 (t : TypeId) (j q : Nat) (hj : j < 1000000) (hq : j / 64 = q) (w : World) : (binOp .quo t (.int .i64 (j : Int)) (.int .i64 64)).run P w = .ok (.int .i64 (q : Int)) w := by
  have e0 : (j : Int).tdiv 64 = (q : Int) := by rw [Int.tdiv_eq_ediv_of_nonneg (by omega)]; omega
  have e : IntKind.i64.wrap (q : Int) = (q : Int) := by unfold IntKind.wrap; simp [IntKind.bits, IntKind.signed]; omega
  simp [binOp, Sem.run_bind, Op.intDiv, e0, e]
theorem rem64 (t : TypeId) (j r : Nat) (hr : j % 64 = r) (w : World) : (binOp .rem t (.int .i64 (j : Int)) (.int .i64 64)).run P w = .ok (.int .i64 (r : Int)) w := by
  have e0 : (j : Int).tmod 64 = (r : Int) := by rw [Int.tmod_eq_emod_of_nonneg (by omega)]; omega
  simp [binOp, Sem.run_bind, Op.intDiv, e0]
theorem shrN (t : TypeId) (x : Int) (r : Nat) (hr : r < 64) (w : World) : (binOp .shr t (.int .u64 x) (.int .i64 (r : Int))).run P w = .ok (.int .u64 (x / 2 ^ r)) w := by
  have e : min r IntKind.u64.bits = r := by simp [IntKind.bits]; omega
  have e2 : x.fdiv (2 ^ r) = x / 2 ^ r := Int.fdiv_eq_ediv_of_nonneg _ (Int.le_of_lt (Int.pow_pos (by decide)))
  simp [binOp, Op.shift, Sem.run_bind, e, e2]
theorem and1 (t : TypeId) (x b : Int) (h : bits .and .u64 x 1 = b) (w : World) : (binOp .and t (.int .u64 x) (.int .u64 1)).run P w = .ok (.int .u64 b) w := by
  simp [binOp, Sem.run_bind, Op.intBits]
  exact h
theorem lssI (t : TypeId) (a b : Int) (w : World) : (binOp .lss t (.int .i64 a) (.int .i64 b)).run P w = .ok (.bool (decide (a < b))) w := by
  simp [binOp, Sem.run_bind, Op.intCmp]
theorem add1N (t : TypeId) (j : Nat) (h : j < 1000000) (w : World) : (binOp .add t (.int .i64 (j : Int)) (.int .i64 1)).run P w = .ok (.int .i64 ((j + 1 : Nat) : Int)) w := by
  have e : IntKind.i64.wrap ((j : Int) + 1) = ((j + 1 : Nat) : Int) := by unfold IntKind.wrap; simp [IntKind.bits, IntKind.signed]; omega
  simp only [binOp, Op.intArith, e]; simp [Sem.run_bind, e]
end

section
variable {P : Program} {ops : Array Oper} {ks : List Kind} {T : List Nat} {a0 : Act} {B : Nat} {w0 W0 : World} {H : List (Nat × List Value)} {i : Nat} {o : Oper}
def arrP : Value → Value
  | .slice a _ _ => .pointer a
  | _ => undef
/-- A slice of four cells. -/
def isFour (cs : List Value) (v : Value) (w : World) : Prop := ∃ b off c, v = .slice (some ⟨b, off, none⟩) 4 c ∧ w.rangeAt b off cs
/-- A slice made an array's pointer. -/
theorem oAP {t e : TypeId} {x : Operand} {cs : List Value} (j : Nat) (hu : P.underlying t = some (.array 4 e)) (he : early T ks i = true := by kernel_rfl) (hw : ∀ L, wantedR ks L o = true := by intro _; kernel_rfl) (ho : o.op = .sliceToArrayPointer t x := by exact rfl)
    (hx : ∀ L, rd ops ks T a0 L i x = L.v j := by intro _; kernel_rfl) (hj : kd ks j = .any (isFour cs) := by exact rfl) (hb : bef T i j = true := by kernel_rfl) (hk : kd ks i = .detV j arrP) : Obl P ops ks T a0 B w0 H i o := ⟨fun L w hs => by
  rw [if_pos (hw L), hk]
  obtain ⟨b, off, c, e1, hc⟩ := (hs he).any j _ hj hb
  have : (execOp (rd ops ks T a0 L i) o).run P w = .ok (.value (.pointer (some ⟨b, off, none⟩))) w := by
    unfold execOp
    simp [ho, hx L, e1, Instr.arrayAt, Sem.run_bind, run_underlying hu]
  rw [this]
  exact ⟨by unfold val; rw [hk]; show _ = arrP (L.v j); rw [e1]; rfl, Below.refl _ _⟩⟩
/-- A load by such a pointer. -/
theorem oLP {t : TypeId} {x : Operand} {cs Z : List Value} {n : Nat} (j : Nat) (hR : RowT P t n Z) (he : early T ks i = true := by kernel_rfl) (hw : ∀ L, wantedR ks L o = true := by intro _; kernel_rfl) (ho : o.op = .load t x := by exact rfl)
    (hx : ∀ L, rd ops ks T a0 L i x = arrP (L.v j) := by intro _; kernel_rfl) (hj : kd ks j = .any (isFour cs) := by exact rfl) (hb : bef T i j = true := by kernel_rfl) (hl : cs.length = n := by kernel_rfl) (hk : kd ks i = .det (.agg cs.toArray)) : Obl P ops ks T a0 B w0 H i o :=
  oLW hR (fun L w hs => by
    obtain ⟨b, off, c, e, h⟩ := hs.any j _ hj hb
    exact ⟨b, off, by rw [hx L, e]; rfl, h⟩) he hw ho hl hk
end

section
variable {P : Program}
theorem remU (t : TypeId) (n m r : Nat) (hm : 0 < m) (hr : n % m = r) (w : World) : (binOp .rem t (.int .u64 (n : Int)) (.int .u64 (m : Int))).run P w = .ok (.int .u64 (r : Int)) w := by
  have e0 : (n : Int).tmod (m : Int) = (r : Int) := by rw [Int.tmod_eq_emod_of_nonneg (by omega), ← hr]; rfl
  have h0 : ¬ (m : Int) = 0 := by omega
  have h1 : ¬ m = 0 := by omega
  simp [binOp, Sem.run_bind, Op.intDiv, e0, h0, h1]
theorem quoU (t : TypeId) (n m r : Nat) (hm : 0 < m) (hn : n < 18446744073709551616) (hr : n / m = r) (w : World) : (binOp .quo t (.int .u64 (n : Int)) (.int .u64 (m : Int))).run P w = .ok (.int .u64 (r : Int)) w := by
  have e0 : (n : Int).tdiv (m : Int) = (r : Int) := by rw [Int.tdiv_eq_ediv_of_nonneg (by omega), ← hr]; rfl
  have hle : r ≤ n := by rw [← hr]; exact Nat.div_le_self _ _
  have e : IntKind.u64.wrap (r : Int) = (r : Int) := by unfold IntKind.wrap; simp [IntKind.bits, IntKind.signed]; omega
  have h0 : ¬ (m : Int) = 0 := by omega
  have h1 : ¬ m = 0 := by omega
  simp [binOp, Sem.run_bind, Op.intDiv, e0, h0, h1, e]
theorem lssU (t : TypeId) (a b : Int) (w : World) : (binOp .lss t (.int .u64 a) (.int .u64 b)).run P w = .ok (.bool (decide (a < b))) w := by
  simp [binOp, Sem.run_bind, Op.intCmp]
end

section
variable {P : Program} {ops : Array Oper} {ks : List Kind} {T : List Nat} {a0 : Act} {B : Nat} {w0 W0 : World} {H : List (Nat × List Value)} {i : Nat} {o : Oper}
def idxU (p q : Value) (n sz : Nat) : Option Value :=
  match p, q with
  | .pointer (some ⟨b, off, none⟩), .int .u64 (.ofNat k) => if Nat.blt k n then some (.pointer (some ⟨b, off + k * sz, none⟩)) else none
  | _, _ => none
theorem idxU_some {p q v : Value} {n sz : Nat} (h : idxU p q n sz = some v) : ∃ b off k, p = .pointer (some ⟨b, off, none⟩) ∧ q = .int .u64 (Int.ofNat k) ∧ k < n ∧ v = .pointer (some ⟨b, off + k * sz, none⟩) := by
  unfold idxU at h
  split at h
  · rename_i b off k
    cases hb : Nat.blt k n with
    | false => rw [hb] at h; cases h
    | true =>
      rw [hb, if_pos rfl, Option.some.injEq] at h
      exact ⟨b, off, k, rfl, rfl, Eq.mp Nat.blt_eq hb, h.symm⟩
  · cases h
theorem oIU {v : Value} {t : TypeId} {x ix : Operand} {n sz : Nat} (hA : ArrT P t n sz) (hw : ∀ L, wantedR ks L o = true := by intro _; kernel_rfl) (ho : o.op = .indexAddr t x ix := by exact rfl)
    (hx : ∀ L, idxU (rd ops ks T a0 L i x) (rd ops ks T a0 L i ix) n sz = some v := by intro _; kernel_rfl) (hk : kd ks i = .det v) : Obl P ops ks T a0 B w0 H i o := ⟨ob_pure hw hk fun L w => by
    obtain ⟨b, off, k, h1, h2, hkn, rfl⟩ := idxU_some (hx L)
    obtain ⟨e, hu, hs⟩ := hA.und
    have hkn' : (0 : Int) ≤ (k : Int) ∧ (k : Int) < (n : Int) := ⟨by omega, by omega⟩
    unfold execOp
    simp [ho, h1, h2, Instr.indexAt, asIntOf, Sem.run_bind, run_underlying hu, Instr.sureAddr, hkn', hkn, size_of hs, Addr.add_mid]⟩
end
end Go.Proofs.Ytklddcicfeakfaa.Pl
