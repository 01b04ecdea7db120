/- Roots by bits; what the reference asks of each. -/
import Derived.Test.YtklddcicfeakfaaDD
import Derived.Test.YtklddcicfeakfaaBA
namespace Go.Proofs.Ytklddcicfeakfaa.fpn
open Go.RowKit Pl
set_option linter.unusedVariables false
set_option linter.unusedSimpArgs false
set_option maxRecDepth 4000
/-- Is v v at most n over, v v v? -/
def fitsF (v n : Nat) (cube : Bool) : Bool := bif cube then decide (v * v * v ≤ n * 79228162514264337593543950336) else decide (v * v ≤ n * 18446744073709551616)
/-- The root's bits, from the greatest on. -/
def ptR (n : Nat) (cube : Bool) : Nat → Nat
  | 0 => 0
  | m + 1 => bif fitsF (ptR n cube m + 2 ^ (36 - m)) n cube then ptR n cube m + 2 ^ (36 - m) else ptR n cube m
@[irreducible] def pts (n : Nat) (cube : Bool) (m : Nat) : Nat := ptR n cube m
theorem pts_0 (n : Nat) (cube : Bool) : pts n cube 0 = 0 := by unfold pts; rfl
theorem pts_s (n : Nat) (cube : Bool) (m : Nat) : pts n cube (m + 1) = bif fitsF (pts n cube m + 2 ^ (36 - m)) n cube then pts n cube m + 2 ^ (36 - m) else pts n cube m := by unfold pts; rfl
theorem pts_lt (n : Nat) (cube : Bool) : ∀ m, m ≤ 37 → pts n cube m + 2 ^ (37 - m) ≤ 2 ^ 37
  | 0, _ => by rw [pts_0]; decide
  | m + 1, h => by
    have ih := pts_lt n cube m (by omega)
    have e : 2 ^ (37 - m) = 2 ^ (36 - m) + 2 ^ (36 - m) := by rw [show 37 - m = (36 - m) + 1 by omega, Nat.pow_succ]; omega
    rw [pts_s, show 37 - (m + 1) = 36 - m by omega]
    have hc : 0 < 2 ^ (36 - m) := Nat.two_pow_pos _
    cases fitsF (pts n cube m + 2 ^ (36 - m)) n cube
    · show pts n cube m + 2 ^ (36 - m) ≤ 2 ^ 37
      omega
    · show pts n cube m + 2 ^ (36 - m) + 2 ^ (36 - m) ≤ 2 ^ 37
      omega
theorem eqlI (t : TypeId) (k : IntKind) (a b : Int) (w : World) : (binOp .eql t (.int k a) (.int k b)).run Try.prog w = .ok (.bool (decide (a = b))) w := by
  by_cases h : a = b <;> simp [binOp, Sem.run_bind, Op.intCmp, h]
theorem neqI (t : TypeId) (k : IntKind) (a b : Int) (w : World) : (binOp .neq t (.int k a) (.int k b)).run Try.prog w = .ok (.bool (!decide (a = b))) w := by
  by_cases h : a = b <;> simp [binOp, Sem.run_bind, Op.intCmp, h]
theorem geqI {P : Program} (t : TypeId) (a b : Int) (w : World) : (binOp .geq t (.int .i64 a) (.int .i64 b)).run P w = .ok (.bool (decide (a ≥ b))) w := by
  simp [binOp, Sem.run_bind, Op.intCmp]
theorem gtrI {P : Program} (t : TypeId) (a b : Int) (w : World) : (binOp .gtr t (.int .i64 a) (.int .i64 b)).run P w = .ok (.bool (decide (a > b))) w := by
  simp [binOp, Sem.run_bind, Op.intCmp]
theorem mul_div (a b N : Nat) : (a : Int) * (b : Int) / (N : Int) = ((a * b / N : Nat) : Int) := by norm_cast
theorem mul_mod (a b N : Nat) : (a : Int) * (b : Int) % (N : Int) = ((a * b % N : Nat) : Int) := by norm_cast
theorem add_div (a b N : Nat) : ((a : Int) + (b : Int)) / (N : Int) = ((a + b) / N : Nat) := by norm_cast
theorem add_mod (a b N : Nat) : ((a : Int) + (b : Int)) % (N : Int) = ((a + b) % N : Nat) := by norm_cast
theorem refMul64 (a b : Nat) (ha : a < 18446744073709551616) (hb : b < 18446744073709551616) (w : World) : Calls Try.prog 30 #[.int .u64 (a : Int), .int .u64 (b : Int)] w (Ret (.tuple #[.int .u64 ((a * b / 18446744073709551616 : Nat) : Int), .int .u64 ((a * b % 18446744073709551616 : Nat) : Int)]) w) := by
  have h := mul64_any (a : Int) (b : Int) (by rw [B64_eq]; omega) (by rw [B64_eq]; omega) w
  refine Calls.mono h fun e w' he => ?_
  obtain ⟨he, rfl⟩ := he
  refine ⟨he.trans ?_, Below.refl _ _⟩
  rw [B64_eq, show (18446744073709551616 : Int) = ((18446744073709551616 : Nat) : Int) from rfl, mul_div, mul_mod]
section
variable {ops : Array Oper} {ks : List Kind} {T : List Nat} {a0 : Act} {B : Nat} {w0 W0 : World} {H : List (Nat × List Value)} {i : Nat} {o : Oper}
/-- A call of a function that stands outside. -/
theorem oXC {v : Value} {f : FuncId} {xs : Array Operand} {ts : Array TypeId} {vs : Array Value} (h : ∀ w, (callFunc f vs).run Try.prog w = .ok (.value v) w) (hw : ∀ L, wantedR ks L o = true := by intro _; kernel_rfl) (ho : o.op = .call { callee := .value (.func f), args := xs, argTypes := ts } := by exact rfl)
    (hx : ∀ L, xs.map (rd ops ks T a0 L i) = vs := by intro _; kernel_rfl) (hk : kd ks i = .det v) : Obl Try.prog ops ks T a0 B w0 H i o := ⟨ob_pure hw hk fun L w => by
    have : (execOp (rd ops ks T a0 L i) o).run Try.prog w = (callFunc f vs).run Try.prog w := by
      unfold execOp
      simp only [ho, resolve, hx L, Deferred.ofValue, rd, Sem.run_bind, Sem.run_pure, Result.andThen_ok, Array.empty_append]
      simp [invoke]
    rw [this, h w]⟩
end
theorem refAdd64 (a b : Nat) (w : World) : (callFunc 31 #[.int .u64 (a : Int), .int .u64 (b : Int), .int .u64 0]).run Try.prog w = .ok (.value (.tuple #[.int .u64 (((a + b) % 18446744073709551616 : Nat) : Int), .int .u64 (((a + b) / 18446744073709551616 : Nat) : Int)])) w := by
  have h := add64_call (a : Int) (b : Int) 0 (by omega) (by omega) (by omega) w
  rw [B64_eq, Int.add_zero, show (18446744073709551616 : Int) = ((18446744073709551616 : Nat) : Int) from rfl, add_div, add_mod] at h
  exact h
theorem lssU (t : TypeId) (a b : Nat) (w : World) : (binOp .lss t (.int .u64 (a : Int)) (.int .u64 (b : Int))).run Try.prog w = .ok (.bool (decide (a < b))) w := by
  have e : decide ((a : Int) < (b : Int)) = decide (a < b) := decide_eq_decide.2 (by omega)
  simp [binOp, Op.intCmp, Sem.run_bind]
theorem eqlU (t : TypeId) (a b : Nat) (w : World) : (binOp .eql t (.int .u64 (a : Int)) (.int .u64 (b : Int))).run Try.prog w = .ok (.bool (decide (a = b))) w := by
  refine (eqlI _ _ _ _ w).trans ?_
  rw [show decide ((a : Int) = (b : Int)) = decide (a = b) from decide_eq_decide.2 (by omega)]
theorem shlU (t : TypeId) (a n : Nat) (k : IntKind) (h : a * 2 ^ n < 18446744073709551616) (hn : n ≤ 64) (w : World) : (binOp .shl t (.int .u64 (a : Int)) (.int k (n : Int))).run Try.prog w = .ok (.int .u64 ((a * 2 ^ n : Nat) : Int)) w := by
  have e : IntKind.u64.wrap ((a : Int) * 2 ^ n) = ((a * 2 ^ n : Nat) : Int) := by
    have e2 : (a : Int) * 2 ^ n = ((a * 2 ^ n : Nat) : Int) := by norm_cast
    rw [e2]
    unfold IntKind.wrap; simp [IntKind.bits, IntKind.signed]; omega
  simp [binOp, Sem.run_bind, shift_shl .u64 k _ _ (Int.natCast_nonneg n) (by simp [IntKind.bits]; omega), e]
theorem addU (t : TypeId) (a b : Nat) (h : a + b < 18446744073709551616) (w : World) : (binOp .add t (.int .u64 (a : Int)) (.int .u64 (b : Int))).run Try.prog w = .ok (.int .u64 ((a + b : Nat) : Int)) w := by
  have e : IntKind.u64.wrap ((a : Int) + (b : Int)) = ((a + b : Nat) : Int) := by
    unfold IntKind.wrap; simp [IntKind.bits, IntKind.signed]; omega
  simp only [binOp, Op.intArith, e]; simp [Sem.run_bind, e]
end Go.Proofs.Ytklddcicfeakfaa.fpn
