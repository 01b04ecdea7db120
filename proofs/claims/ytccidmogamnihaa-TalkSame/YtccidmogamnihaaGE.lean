/- DE DF DG. -/
import Derived.Test.YtccidmogamnihaaGDD
import Derived.Test.YtccidmogamnihaaGA
import Derived.Deep.LoopGhost
import Derived.Test.YtccidmogamnihaaGC
import Derived.Laws.AppendOwn
/- Roots by bits; what the reference asks of each. -/
namespace Go.Proofs.Ytccidmogamnihaa.fpn
open Go.RowKit Pl
set_option linter.unusedVariables false
set_option linter.unusedSimpArgs false
set_option maxRecDepth 4000
def fitsF (v n : Nat) (cube : Bool) : Bool := bif cube then decide (v * v * v ≤ n * 79228162514264337593543950336) else decide (v * v ≤ n * 18446744073709551616)
def ptR (n : Nat) (cube : Bool) : Nat → Nat
  | 0 => 0
  | m + 1 => bif fitsF (ptR n cube m + 2 ^ (36 - m)) n cube then ptR n cube m + 2 ^ (36 - m) else ptR n cube m
@[irreducible] def pts (n : Nat) (cube : Bool) (m : Nat) : Nat := ptR n cube m
theorem pts_0 (n : Nat) (cube : Bool) : pts n cube 0 = 0 := by unfold pts; rfl
theorem pts_s (n : Nat) (cube : Bool) (m : Nat) : pts n cube (m + 1) = bif fitsF (pts n cube m + 2 ^ (36 - m)) n cube then pts n cube m + 2 ^ (36 - m) else pts n cube m := by unfold pts; rfl
theorem pts_lt (n : Nat) (cube : Bool) : ∀ m, m ≤ 37 → pts n cube m + 2 ^ (37 - m) ≤ 2 ^ 37
  | 0, _ => by rw [pts_0]; decide
  | m + 1, h => by
    have ih := pts_lt n cube m (by omega)
    have e : 2 ^ (37 - m) = 2 ^ (36 - m) + 2 ^ (36 - m) := by rw [show 37 - m = (36 - m) + 1 by omega, Nat.pow_succ]; omega
    rw [pts_s, show 37 - (m + 1) = 36 - m by omega]
    have hc : 0 < 2 ^ (36 - m) := Nat.two_pow_pos _
    cases fitsF (pts n cube m + 2 ^ (36 - m)) n cube
    · show pts n cube m + 2 ^ (36 - m) ≤ 2 ^ 37
      omega
    · show pts n cube m + 2 ^ (36 - m) + 2 ^ (36 - m) ≤ 2 ^ 37
      omega
theorem eqlI (t : TypeId) (k : IntKind) (a b : Int) (w : World) : (binOp .eql t (.int k a) (.int k b)).run Try.prog w = .ok (.bool (decide (a = b))) w := by
  by_cases h : a = b <;> simp [binOp, Sem.run_bind, Op.intCmp, h]
theorem neqI (t : TypeId) (k : IntKind) (a b : Int) (w : World) : (binOp .neq t (.int k a) (.int k b)).run Try.prog w = .ok (.bool (!decide (a = b))) w := by
  by_cases h : a = b <;> simp [binOp, Sem.run_bind, Op.intCmp, h]
theorem geqI {P : Program} (t : TypeId) (a b : Int) (w : World) : (binOp .geq t (.int .i64 a) (.int .i64 b)).run P w = .ok (.bool (decide (a ≥ b))) w := by
  simp [binOp, Sem.run_bind, Op.intCmp]
theorem gtrI {P : Program} (t : TypeId) (a b : Int) (w : World) : (binOp .gtr t (.int .i64 a) (.int .i64 b)).run P w = .ok (.bool (decide (a > b))) w := by
  simp [binOp, Sem.run_bind, Op.intCmp]
theorem mul_div (a b N : Nat) : (a : Int) * (b : Int) / (N : Int) = ((a * b / N : Nat) : Int) := by norm_cast
theorem mul_mod (a b N : Nat) : (a : Int) * (b : Int) % (N : Int) = ((a * b % N : Nat) : Int) := by norm_cast
theorem add_div (a b N : Nat) : ((a : Int) + (b : Int)) / (N : Int) = ((a + b) / N : Nat) := by norm_cast
theorem add_mod (a b N : Nat) : ((a : Int) + (b : Int)) % (N : Int) = ((a + b) % N : Nat) := by norm_cast
theorem refMul64 (a b : Nat) (ha : a < 18446744073709551616) (hb : b < 18446744073709551616) (w : World) : Calls Try.prog 57 #[.int .u64 (a : Int), .int .u64 (b : Int)] w (Ret (.tuple #[.int .u64 ((a * b / 18446744073709551616 : Nat) : Int), .int .u64 ((a * b % 18446744073709551616 : Nat) : Int)]) w) := by
  have h := mul64_any (a : Int) (b : Int) (by rw [B64_eq]; omega) (by rw [B64_eq]; omega) w
  refine Calls.mono h fun e w' he => ?_
  obtain ⟨he, rfl⟩ := he
  refine ⟨he.trans ?_, Below.refl _ _⟩
  rw [B64_eq, show (18446744073709551616 : Int) = ((18446744073709551616 : Nat) : Int) from rfl, mul_div, mul_mod]
section
variable {ops : Array Oper} {ks : List Kind} {T : List Nat} {a0 : Act} {B : Nat} {w0 W0 : World} {H : List (Nat × List Value)} {i : Nat} {o : Oper}
theorem oXC {v : Value} {f : FuncId} {xs : Array Operand} {ts : Array TypeId} {vs : Array Value} (h : ∀ w, (callFunc f vs).run Try.prog w = .ok (.value v) w) (hw : ∀ L, wantedR ks L o = true := by intro _; kernel_rfl) (ho : o.op = .call { callee := .value (.func f), args := xs, argTypes := ts } := by exact rfl)
    (hx : ∀ L, xs.map (rd ops ks T a0 L i) = vs := by intro _; kernel_rfl) (hk : kd ks i = .det v) : Obl Try.prog ops ks T a0 B w0 H i o := ⟨ob_pure hw hk fun L w => by
    have : (execOp (rd ops ks T a0 L i) o).run Try.prog w = (callFunc f vs).run Try.prog w := by
      unfold execOp
      simp only [ho, resolve, hx L, Deferred.ofValue, rd, Sem.run_bind, Sem.run_pure, Result.andThen_ok, Array.empty_append]
      simp [invoke]
    rw [this, h w]⟩
end
theorem refAdd64 (a b : Nat) (w : World) : (callFunc 55 #[.int .u64 (a : Int), .int .u64 (b : Int), .int .u64 0]).run Try.prog w = .ok (.value (.tuple #[.int .u64 (((a + b) % 18446744073709551616 : Nat) : Int), .int .u64 (((a + b) / 18446744073709551616 : Nat) : Int)])) w := by
  have h := add64_call (a : Int) (b : Int) 0 (by omega) (by omega) (by omega) w
  rw [B64_eq, Int.add_zero, show (18446744073709551616 : Int) = ((18446744073709551616 : Nat) : Int) from rfl, add_div, add_mod] at h
  exact h
theorem lssU (t : TypeId) (a b : Nat) (w : World) : (binOp .lss t (.int .u64 (a : Int)) (.int .u64 (b : Int))).run Try.prog w = .ok (.bool (decide (a < b))) w := by
  have e : decide ((a : Int) < (b : Int)) = decide (a < b) := decide_eq_decide.2 (by omega)
  simp [binOp, Op.intCmp, Sem.run_bind]
theorem eqlU (t : TypeId) (a b : Nat) (w : World) : (binOp .eql t (.int .u64 (a : Int)) (.int .u64 (b : Int))).run Try.prog w = .ok (.bool (decide (a = b))) w := by
  refine (eqlI _ _ _ _ w).trans ?_
  rw [show decide ((a : Int) = (b : Int)) = decide (a = b) from decide_eq_decide.2 (by omega)]
theorem shlU (t : TypeId) (a n : Nat) (k : IntKind) (h : a * 2 ^ n < 18446744073709551616) (hn : n ≤ 64) (w : World) : (binOp .shl t (.int .u64 (a : Int)) (.int k (n : Int))).run Try.prog w = .ok (.int .u64 ((a * 2 ^ n : Nat) : Int)) w := by
  have e : IntKind.u64.wrap ((a : Int) * 2 ^ n) = ((a * 2 ^ n : Nat) : Int) := by
    have e2 : (a : Int) * 2 ^ n = ((a * 2 ^ n : Nat) : Int) := by norm_cast
    rw [e2]
    unfold IntKind.wrap; simp [IntKind.bits, IntKind.signed]; omega
  simp [binOp, Sem.run_bind, shift_shl .u64 k _ _ (Int.natCast_nonneg n) (by simp [IntKind.bits]; omega), e]
theorem addU (t : TypeId) (a b : Nat) (h : a + b < 18446744073709551616) (w : World) : (binOp .add t (.int .u64 (a : Int)) (.int .u64 (b : Int))).run Try.prog w = .ok (.int .u64 ((a + b : Nat) : Int)) w := by
  have e : IntKind.u64.wrap ((a : Int) + (b : Int)) = ((a + b : Nat) : Int) := by
    unfold IntKind.wrap; simp [IntKind.bits, IntKind.signed]; omega
  simp only [binOp, Op.intArith, e]; simp [Sem.run_bind, e]
end Go.Proofs.Ytccidmogamnihaa.fpn

/- The reference's roots. -/
namespace Go.Proofs.Ytccidmogamnihaa.fpn
open Go.RowKit Pl
set_option linter.unusedVariables false
set_option linter.unusedSimpArgs false
set_option maxRecDepth 4000

set_option maxHeartbeats 4000000 in
theorem refFits0 (v n hi lo : Nat) (w : World) (hv : v < 1099511627776) (hn : n < 65536) (hV : v * v = hi * 18446744073709551616 + lo) (hl : lo < 18446744073709551616) : Calls Try.prog 51 #[.int .u64 ((v : Nat) : Int), .int .u64 ((n : Nat) : Int), .bool false] w (Ret (.bool (decide (v * v ≤ n * 18446744073709551616))) w) := by
  have fin0 : (decide (hi < n)) = true → Ending.returned (.bool true) = Ending.returned (.bool (decide (v * v ≤ n * 18446744073709551616))) := by subst_vars; intro h1q; have g0 := of_decide_eq_true h1q; exact congrArg (fun b => Ending.returned (Value.bool b)) (decide_eq_true (by omega)).symm
  have fin1 : (decide (hi < n)) = false → (decide (hi = n)) = true → Ending.returned (.bool (decide (lo = 0))) = Ending.returned (.bool (decide (v * v ≤ n * 18446744073709551616))) := by subst_vars; intro h1q h2q; have g0 := of_decide_eq_false h1q; have g1 := of_decide_eq_true h2q; exact congrArg (fun b => Ending.returned (Value.bool b)) (decide_eq_decide.2 (by omega))
  have fin2 : (decide (hi < n)) = false → (decide (hi = n)) = false → Ending.returned (.bool false) = Ending.returned (.bool (decide (v * v ≤ n * 18446744073709551616))) := by subst_vars; intro h1q h2q; have g0 := of_decide_eq_false h1q; have g1 := of_decide_eq_false h2q; exact congrArg (fun b => Ending.returned (Value.bool b)) (decide_eq_false (by omega)).symm
  have hp0 := Heap.start w
  go_enter Try.func51, Try.ntmps51
  refine wp_seq_k (fun K1 k1 => ?_)
  refine gsD [.det (.bool false)] [0] [0] (fun L d => [.int .u64 ((v : Nat) : Int), .int .u64 ((n : Nat) : Int), .bool false] ++ D d 3 77) (fun L => []) hp0 ⟨
    oA,
    trivial⟩ (fun L0 d0 w1 hp1 => ?_)
  refine k1 _ _ ?_
  refine wp_seq_k (fun K2 k2 => ?_)
  refine gsD [.det (.int .u64 ((v : Nat) : Int)), .det (.int .u64 ((v : Nat) : Int)), .det (.tuple #[.int .u64 ((hi : Nat) : Int), .int .u64 ((lo : Nat) : Int)]), .det (.tuple #[.int .u64 ((hi : Nat) : Int), .int .u64 ((lo : Nat) : Int)]), .det (.int .u64 ((hi : Nat) : Int)), .det (.int .u64 ((lo : Nat) : Int)), .det (.int .u64 ((hi : Nat) : Int)), .det (.int .u64 ((lo : Nat) : Int))] [0, 1, 2, 3, 4, 5, 6, 7] [0, 0, 3, 7, 15, 15, 31, 127] (fun L d => [d 0, .int .u64 ((n : Nat) : Int), .bool false] ++ (D d 3 4 ++ ([.int .u64 ((hi : Nat) : Int), .int .u64 ((lo : Nat) : Int)] ++ D d 9 71))) (fun L => []) hp1 ⟨
    oM, oM, oH (v := .tuple #[.int .u64 ((hi : Nat) : Int), .int .u64 ((lo : Nat) : Int)]) (vs := #[.int .u64 ((v : Nat) : Int), .int .u64 ((v : Nat) : Int)]) (fun w _ _ => by have h := refMul64 v v (by omega) (by omega) w; rw [show v * v / 18446744073709551616 = hi by omega, show v * v % 18446744073709551616 = lo by omega] at h; exact h),
    oM, oX, oX, oA, oA,
    trivial⟩ (fun L1 d1 w2 hp2 => ?_)
  refine k2 _ _ ?_
  refine wp_seq_k (fun K3 k3 => ?_)
  refine wp_seq_k (fun K4 k4 => ?_)
  refine gsD [.det (.bool false), .det (.bool true)] [0, 1] [0, 1] (fun L d => [d 0, .int .u64 ((n : Nat) : Int)] ++ (D d 2 5 ++ ([.int .u64 ((hi : Nat) : Int), .int .u64 ((lo : Nat) : Int)] ++ (D d 9 15 ++ ([.bool true] ++ D d 25 55))))) (fun L => []) hp2 ⟨
    oM, oN,
    trivial⟩ (fun L2 d2 w3 hp3 => ?_)
  refine k4 _ _ ?_
  refine wp_cond_true (by kernel_rfl) ?_
  refine wp_seq_k (fun K5 k5 => ?_)
  rcases Bool.eq_false_or_eq_true (decide (hi < n)) with h1q | h1q
  · skip
    refine gsD [.det (.int .u64 ((hi : Nat) : Int)), .det (.int .u64 ((n : Nat) : Int)), .det (.bool (decide (hi < n))), .det (.bool true), .det undef, .det undef, .det undef, .det undef, .det undef, .det undef, .det undef, .det (.bool true), .det (.bool true)] [0, 1, 2, 3, 4, 5, 6, 7, 8, 9, 10, 11, 12] [0, 0, 3, 7, 15, 15, 63, 127, 255, 511, 1023, 2047, 4095] (fun L d => D d 0 6 ++ ([.bool true] ++ D d 7 73)) (fun L => []) hp3 ⟨
      oM, oM, oJ .u64 .u64 ((hi : Nat) : Int) ((n : Nat) : Int) (h := fun w => lssU _ (hi) (n) w), oMB h1q, oS, oS, oS, oS, oS, oS, oS, oP, oA,
      trivial⟩ (fun L3 d3 w4 hp4 => ?_)
    refine k5 _ _ ?_
    refine wp_ret ?_
    refine bodyPost_ret (v := .bool true) ?_ rfl ?_
    · exact res_t rfl (by kernel_rfl) _
    · exact ⟨fin0 h1q, hp4.bel⟩
  · skip
    rcases Bool.eq_false_or_eq_true (decide (hi = n)) with h2q | h2q
    · skip
      refine gsD [.det (.int .u64 ((hi : Nat) : Int)), .det (.int .u64 ((n : Nat) : Int)), .det (.bool (decide (hi < n))), .det (.bool false), .det (.int .u64 ((hi : Nat) : Int)), .det (.int .u64 ((n : Nat) : Int)), .det (.bool (decide (hi = n))), .det (.bool true), .det (.int .u64 ((lo : Nat) : Int)), .det (.bool (decide (lo = 0))), .det (.bool (decide (lo = 0))), .det (.bool (decide (lo = 0))), .det (.bool (decide (lo = 0)))] [0, 1, 2, 3, 4, 5, 6, 7, 8, 9, 10, 11, 12] [0, 0, 3, 7, 15, 15, 63, 127, 255, 511, 1023, 2047, 4095] (fun L d => D d 0 6 ++ ([.bool (decide (lo = 0))] ++ D d 7 73)) (fun L => []) hp3 ⟨
        oM, oM, oJ .u64 .u64 ((hi : Nat) : Int) ((n : Nat) : Int) (h := fun w => lssU _ (hi) (n) w), oMB h1q, oM, oM, oJ .u64 .u64 ((hi : Nat) : Int) ((n : Nat) : Int) (h := fun w => eqlU _ (hi) (n) w),
        oMB h2q, oM, oJ .u64 .u64 ((lo : Nat) : Int) 0 (h := fun w => eqlU _ (lo) 0 w), oP, oP, oA,
        trivial⟩ (fun L3 d3 w4 hp4 => ?_)
      refine k5 _ _ ?_
      refine wp_ret ?_
      refine bodyPost_ret (v := .bool (decide (lo = 0))) ?_ rfl ?_
      · exact res_t rfl (by kernel_rfl) _
      · exact ⟨fin1 h1q h2q, hp4.bel⟩
    · skip
      refine gsD [.det (.int .u64 ((hi : Nat) : Int)), .det (.int .u64 ((n : Nat) : Int)), .det (.bool (decide (hi < n))), .det (.bool false), .det (.int .u64 ((hi : Nat) : Int)), .det (.int .u64 ((n : Nat) : Int)), .det (.bool (decide (hi = n))), .det (.bool false), .det undef, .det undef, .det (.bool false), .det (.bool false), .det (.bool false)] [0, 1, 2, 3, 4, 5, 6, 7, 8, 9, 10, 11, 12] [0, 0, 3, 7, 15, 15, 63, 127, 255, 511, 1023, 2047, 4095] (fun L d => D d 0 6 ++ ([.bool false] ++ D d 7 73)) (fun L => []) hp3 ⟨
        oM, oM, oJ .u64 .u64 ((hi : Nat) : Int) ((n : Nat) : Int) (h := fun w => lssU _ (hi) (n) w), oMB h1q, oM, oM, oJ .u64 .u64 ((hi : Nat) : Int) ((n : Nat) : Int) (h := fun w => eqlU _ (hi) (n) w),
        oMB h2q, oS, oS, oP, oP, oA,
        trivial⟩ (fun L3 d3 w4 hp4 => ?_)
      refine k5 _ _ ?_
      refine wp_ret ?_
      refine bodyPost_ret (v := .bool false) ?_ rfl ?_
      · exact res_t rfl (by kernel_rfl) _
      · exact ⟨fin2 h1q h2q, hp4.bel⟩
set_option maxHeartbeats 4000000 in
theorem refFits1 (v n hi lo : Nat) (a b c X : Nat) (w : World) (hv : v < 1099511627776) (hn : n < 65536) (hV : v * v = hi * 18446744073709551616 + lo) (hl : lo < 18446744073709551616) (hh : hi < 65536) (hA : lo * v = a * 18446744073709551616 + b) (hb : b < 18446744073709551616) (hC : hi * v = c) (hc : c < 1152921504606846976) (ha : a < 1152921504606846976) (hX : X = (c + a) * 18446744073709551616 + b) : Calls Try.prog 51 #[.int .u64 ((v : Nat) : Int), .int .u64 ((n : Nat) : Int), .bool true] w (Ret (.bool (decide (X ≤ n * 79228162514264337593543950336))) w) := by
  have fin0 : (decide (a + c < n * 2 ^ 32)) = true → Ending.returned (.bool true) = Ending.returned (.bool (decide (X ≤ n * 79228162514264337593543950336))) := by subst_vars; intro h1q; have g0 := of_decide_eq_true h1q; exact congrArg (fun b => Ending.returned (Value.bool b)) (decide_eq_true (by omega)).symm
  have fin1 : (decide (a + c < n * 2 ^ 32)) = false → (decide (a + c = n * 2 ^ 32)) = true → Ending.returned (.bool (decide (b = 0))) = Ending.returned (.bool (decide (X ≤ n * 79228162514264337593543950336))) := by subst_vars; intro h1q h2q; have g0 := of_decide_eq_false h1q; have g1 := of_decide_eq_true h2q; exact congrArg (fun b => Ending.returned (Value.bool b)) (decide_eq_decide.2 (by omega))
  have fin2 : (decide (a + c < n * 2 ^ 32)) = false → (decide (a + c = n * 2 ^ 32)) = false → Ending.returned (.bool false) = Ending.returned (.bool (decide (X ≤ n * 79228162514264337593543950336))) := by subst_vars; intro h1q h2q; have g0 := of_decide_eq_false h1q; have g1 := of_decide_eq_false h2q; exact congrArg (fun b => Ending.returned (Value.bool b)) (decide_eq_false (by omega)).symm
  have hp0 := Heap.start w
  go_enter Try.func51, Try.ntmps51
  refine wp_seq_k (fun K1 k1 => ?_)
  refine gsD [.det (.bool false)] [0] [0] (fun L d => [.int .u64 ((v : Nat) : Int), .int .u64 ((n : Nat) : Int), .bool true] ++ D d 3 77) (fun L => []) hp0 ⟨
    oA,
    trivial⟩ (fun L0 d0 w1 hp1 => ?_)
  refine k1 _ _ ?_
  refine wp_seq_k (fun K2 k2 => ?_)
  refine gsD [.det (.int .u64 ((v : Nat) : Int)), .det (.int .u64 ((v : Nat) : Int)), .det (.tuple #[.int .u64 ((hi : Nat) : Int), .int .u64 ((lo : Nat) : Int)]), .det (.tuple #[.int .u64 ((hi : Nat) : Int), .int .u64 ((lo : Nat) : Int)]), .det (.int .u64 ((hi : Nat) : Int)), .det (.int .u64 ((lo : Nat) : Int)), .det (.int .u64 ((hi : Nat) : Int)), .det (.int .u64 ((lo : Nat) : Int))] [0, 1, 2, 3, 4, 5, 6, 7] [0, 0, 3, 7, 15, 15, 31, 127] (fun L d => [.int .u64 ((v : Nat) : Int), .int .u64 ((n : Nat) : Int), .bool true] ++ (D d 3 4 ++ ([.int .u64 ((hi : Nat) : Int), .int .u64 ((lo : Nat) : Int)] ++ D d 9 71))) (fun L => []) hp1 ⟨
    oM, oM, oH (v := .tuple #[.int .u64 ((hi : Nat) : Int), .int .u64 ((lo : Nat) : Int)]) (vs := #[.int .u64 ((v : Nat) : Int), .int .u64 ((v : Nat) : Int)]) (fun w _ _ => by have h := refMul64 v v (by omega) (by omega) w; rw [show v * v / 18446744073709551616 = hi by omega, show v * v % 18446744073709551616 = lo by omega] at h; exact h),
    oM, oX, oX, oA, oA,
    trivial⟩ (fun L1 d1 w2 hp2 => ?_)
  refine k2 _ _ ?_
  refine wp_seq_k (fun K3 k3 => ?_)
  refine wp_seq_k (fun K4 k4 => ?_)
  refine gsD [.det (.bool true), .det (.bool false)] [0, 1] [0, 1] (fun L d => [.int .u64 ((v : Nat) : Int), .int .u64 ((n : Nat) : Int)] ++ (D d 2 5 ++ ([.int .u64 ((hi : Nat) : Int), .int .u64 ((lo : Nat) : Int)] ++ (D d 9 15 ++ ([.bool false] ++ D d 25 55))))) (fun L => []) hp2 ⟨
    oM, oN,
    trivial⟩ (fun L2 d2 w3 hp3 => ?_)
  refine k4 _ _ ?_
  refine wp_cond_false (by kernel_rfl) ?_
  refine skips ?_
  refine k3 _ _ ?_
  refine wp_seq_k (fun K5 k5 => ?_)
  refine gsD [.det (.int .u64 ((lo : Nat) : Int)), .det (.int .u64 ((v : Nat) : Int)), .det (.tuple #[.int .u64 ((a : Nat) : Int), .int .u64 ((b : Nat) : Int)]), .det (.tuple #[.int .u64 ((a : Nat) : Int), .int .u64 ((b : Nat) : Int)]), .det (.int .u64 ((a : Nat) : Int)), .det (.int .u64 ((b : Nat) : Int)), .det (.int .u64 ((a : Nat) : Int)), .det (.int .u64 ((b : Nat) : Int))] [0, 1, 2, 3, 4, 5, 6, 7] [0, 0, 3, 7, 15, 15, 31, 127] (fun L d => [.int .u64 ((v : Nat) : Int), .int .u64 ((n : Nat) : Int)] ++ (D d 2 5 ++ ([.int .u64 ((hi : Nat) : Int), d 8, .int .u64 ((a : Nat) : Int), .int .u64 ((b : Nat) : Int)] ++ D d 11 69))) (fun L => []) hp3 ⟨
    oM, oM, oH (v := .tuple #[.int .u64 ((a : Nat) : Int), .int .u64 ((b : Nat) : Int)]) (vs := #[.int .u64 ((lo : Nat) : Int), .int .u64 ((v : Nat) : Int)]) (fun w _ _ => by have h := refMul64 lo v (by omega) (by omega) w; rw [show lo * v / 18446744073709551616 = a by omega, show lo * v % 18446744073709551616 = b by omega] at h; exact h),
    oM, oX, oX, oA, oA,
    trivial⟩ (fun L3 d3 w4 hp4 => ?_)
  refine k5 _ _ ?_
  refine wp_seq_k (fun K6 k6 => ?_)
  refine gsD [.det (.int .u64 ((hi : Nat) : Int)), .det (.int .u64 ((v : Nat) : Int)), .det (.tuple #[.int .u64 0, .int .u64 ((c : Nat) : Int)]), .det (.tuple #[.int .u64 0, .int .u64 ((c : Nat) : Int)]), .det (.int .u64 0), .det (.int .u64 ((c : Nat) : Int)), .det (.int .u64 0), .det (.int .u64 ((c : Nat) : Int))] [0, 1, 2, 3, 4, 5, 6, 7] [0, 0, 3, 7, 15, 15, 31, 127] (fun L d => [.int .u64 ((v : Nat) : Int), .int .u64 ((n : Nat) : Int)] ++ (D d 2 5 ++ ([.int .u64 ((hi : Nat) : Int), d 8, .int .u64 ((a : Nat) : Int), .int .u64 ((b : Nat) : Int), d 11, .int .u64 ((c : Nat) : Int)] ++ D d 13 67))) (fun L => []) hp4 ⟨
    oM, oM, oH (v := .tuple #[.int .u64 0, .int .u64 ((c : Nat) : Int)]) (vs := #[.int .u64 ((hi : Nat) : Int), .int .u64 ((v : Nat) : Int)]) (fun w _ _ => by have h := refMul64 hi v (by omega) (by omega) w; rw [show hi * v / 18446744073709551616 = 0 by omega, show hi * v % 18446744073709551616 = c by omega] at h; exact h),
    oM, oX, oX, oA, oA,
    trivial⟩ (fun L4 d4 w5 hp5 => ?_)
  refine k6 _ _ ?_
  refine wp_seq_k (fun K7 k7 => ?_)
  refine gsD [.det (.int .u64 ((a : Nat) : Int)), .det (.int .u64 ((c : Nat) : Int)), .det (.tuple #[.int .u64 ((a + c : Nat) : Int), .int .u64 0]), .det (.tuple #[.int .u64 ((a + c : Nat) : Int), .int .u64 0]), .det (.int .u64 ((a + c : Nat) : Int)), .det (.int .u64 0), .det (.int .u64 ((a + c : Nat) : Int)), .det (.int .u64 0)] [0, 1, 2, 3, 4, 5, 6, 7] [0, 0, 3, 7, 15, 15, 31, 127] (fun L d => [.int .u64 ((v : Nat) : Int), .int .u64 ((n : Nat) : Int)] ++ (D d 2 5 ++ ([.int .u64 ((hi : Nat) : Int)] ++ (D d 8 2 ++ ([.int .u64 ((b : Nat) : Int)] ++ (D d 11 2 ++ ([.int .u64 ((a + c : Nat) : Int), .int .u64 0] ++ D d 15 65))))))) (fun L => []) hp5 ⟨
    oM, oM, oXC (v := .tuple #[.int .u64 ((a + c : Nat) : Int), .int .u64 0]) (vs := #[.int .u64 ((a : Nat) : Int), .int .u64 ((c : Nat) : Int), .int .u64 0]) (fun w => by have h := refAdd64 a c w; rw [show (a + c) % 18446744073709551616 = a + c by omega, show (a + c) / 18446744073709551616 = 0 by omega] at h; exact h),
    oM, oX, oX, oA, oA,
    trivial⟩ (fun L5 d5 w6 hp6 => ?_)
  refine k7 _ _ ?_
  refine wp_seq_k (fun K8 k8 => ?_)
  refine gsD [.det (.int .u64 ((hi : Nat) : Int)), .det (.int .u64 ((v : Nat) : Int)), .det (.tuple #[.int .u64 0, .int .u64 ((c : Nat) : Int)]), .det (.tuple #[.int .u64 0, .int .u64 ((c : Nat) : Int)]), .det (.int .u64 0), .det (.int .u64 ((c : Nat) : Int)), .det (.int .u64 0), .det (.int .u64 ((c : Nat) : Int))] [0, 1, 2, 3, 4, 5, 6, 7] [0, 0, 3, 7, 15, 15, 31, 127] (fun L d => [d 0, .int .u64 ((n : Nat) : Int)] ++ (D d 2 8 ++ ([.int .u64 ((b : Nat) : Int)] ++ (D d 11 2 ++ ([.int .u64 ((a + c : Nat) : Int), .int .u64 0, .int .u64 0] ++ D d 16 64))))) (fun L => []) hp6 ⟨
    oM, oM, oH (v := .tuple #[.int .u64 0, .int .u64 ((c : Nat) : Int)]) (vs := #[.int .u64 ((hi : Nat) : Int), .int .u64 ((v : Nat) : Int)]) (fun w _ _ => by have h := refMul64 hi v (by omega) (by omega) w; rw [show hi * v / 18446744073709551616 = 0 by omega, show hi * v % 18446744073709551616 = c by omega] at h; exact h),
    oM, oX, oX, oA, oA,
    trivial⟩ (fun L6 d6 w7 hp7 => ?_)
  refine k8 _ _ ?_
  refine wp_seq_k (fun K9 k9 => ?_)
  refine gsD [.det (.int .u64 0), .det (.int .u64 0), .det (.int .u64 0), .det (.int .u64 0)] [0, 1, 2, 3] [0, 0, 3, 7] (fun L d => [d 0, .int .u64 ((n : Nat) : Int)] ++ (D d 2 8 ++ ([.int .u64 ((b : Nat) : Int)] ++ (D d 11 2 ++ ([.int .u64 ((a + c : Nat) : Int), d 14, .int .u64 0] ++ D d 16 64))))) (fun L => []) hp7 ⟨
    oM, oM, oJ .u64 .u64 0 0, oA,
    trivial⟩ (fun L7 d7 w8 hp8 => ?_)
  refine k9 _ _ ?_
  refine wp_seq_k (fun K10 k10 => ?_)
  refine wp_seq_k (fun K11 k11 => ?_)
  refine gsD [.det (.int .u64 0), .det (.bool false)] [0, 1] [0, 1] (fun L d => [d 0, .int .u64 ((n : Nat) : Int)] ++ (D d 2 8 ++ ([.int .u64 ((b : Nat) : Int)] ++ (D d 11 2 ++ ([.int .u64 ((a + c : Nat) : Int)] ++ (D d 14 51 ++ ([.bool false] ++ D d 66 14))))))) (fun L => []) hp8 ⟨
    oM, oJ .u64 .u64 0 0 (h := fun w => (neqI _ _ _ _ w).trans rfl),
    trivial⟩ (fun L8 d8 w9 hp9 => ?_)
  refine k11 _ _ ?_
  refine wp_cond_false (by kernel_rfl) ?_
  refine skips ?_
  refine k10 _ _ ?_
  refine wp_seq_k (fun K12 k12 => ?_)
  rcases Bool.eq_false_or_eq_true (decide (a + c < n * 2 ^ 32)) with h1q | h1q
  · skip
    refine gsD [.det (.int .u64 ((a + c : Nat) : Int)), .det (.int .u64 ((n : Nat) : Int)), .det (.int .u64 ((n * 2 ^ 32 : Nat) : Int)), .det (.bool (decide (a + c < n * 2 ^ 32))), .det (.bool true), .det undef, .det undef, .det undef, .det undef, .det undef, .det undef, .det undef, .det undef, .det (.bool true), .det (.bool true)] [0, 1, 2, 3, 4, 5, 6, 7, 8, 9, 10, 11, 12, 13, 14] [0, 0, 2, 7, 15, 31, 31, 95, 255, 511, 1023, 2047, 4095, 8191, 16383] (fun L d => D d 0 6 ++ ([.bool true] ++ D d 7 73)) (fun L => []) hp9 ⟨
      oM, oM, oJ .u64 .u64 ((n : Nat) : Int) 32 (h := fun w => shlU _ n 32 .u64 (by omega) (by decide) w), oJ .u64 .u64 ((a + c : Nat) : Int) ((n * 2 ^ 32 : Nat) : Int) (h := fun w => lssU _ (a + c) (n * 2 ^ 32) w),
      oMB h1q, oS, oS, oS, oS, oS, oS, oS, oS, oP, oA,
      trivial⟩ (fun L9 d9 w10 hp10 => ?_)
    refine k12 _ _ ?_
    refine wp_ret ?_
    refine bodyPost_ret (v := .bool true) ?_ rfl ?_
    · exact res_t rfl (by kernel_rfl) _
    · exact ⟨fin0 h1q, hp10.bel⟩
  · skip
    rcases Bool.eq_false_or_eq_true (decide (a + c = n * 2 ^ 32)) with h2q | h2q
    · skip
      refine gsD [.det (.int .u64 ((a + c : Nat) : Int)), .det (.int .u64 ((n : Nat) : Int)), .det (.int .u64 ((n * 2 ^ 32 : Nat) : Int)), .det (.bool (decide (a + c < n * 2 ^ 32))), .det (.bool false), .det (.int .u64 ((a + c : Nat) : Int)), .det (.int .u64 ((n : Nat) : Int)), .det (.int .u64 ((n * 2 ^ 32 : Nat) : Int)), .det (.bool (decide (a + c = n * 2 ^ 32))), .det (.bool true), .det (.int .u64 ((b : Nat) : Int)), .det (.bool (decide (b = 0))), .det (.bool (decide (b = 0))), .det (.bool (decide (b = 0))), .det (.bool (decide (b = 0)))] [0, 1, 2, 3, 4, 5, 6, 7, 8, 9, 10, 11, 12, 13, 14] [0, 0, 2, 7, 15, 31, 31, 95, 255, 511, 1023, 2047, 4095, 8191, 16383] (fun L d => D d 0 6 ++ ([.bool (decide (b = 0))] ++ D d 7 73)) (fun L => []) hp9 ⟨
        oM, oM, oJ .u64 .u64 ((n : Nat) : Int) 32 (h := fun w => shlU _ n 32 .u64 (by omega) (by decide) w), oJ .u64 .u64 ((a + c : Nat) : Int) ((n * 2 ^ 32 : Nat) : Int) (h := fun w => lssU _ (a + c) (n * 2 ^ 32) w),
        oMB h1q, oM, oM, oJ .u64 .u64 ((n : Nat) : Int) 32 (h := fun w => shlU _ n 32 .u64 (by omega) (by decide) w), oJ .u64 .u64 ((a + c : Nat) : Int) ((n * 2 ^ 32 : Nat) : Int) (h := fun w => eqlU _ (a + c) (n * 2 ^ 32) w),
        oMB h2q, oM, oJ .u64 .u64 ((b : Nat) : Int) 0 (h := fun w => eqlU _ (b) 0 w), oP, oP, oA,
        trivial⟩ (fun L9 d9 w10 hp10 => ?_)
      refine k12 _ _ ?_
      refine wp_ret ?_
      refine bodyPost_ret (v := .bool (decide (b = 0))) ?_ rfl ?_
      · exact res_t rfl (by kernel_rfl) _
      · exact ⟨fin1 h1q h2q, hp10.bel⟩
    · skip
      refine gsD [.det (.int .u64 ((a + c : Nat) : Int)), .det (.int .u64 ((n : Nat) : Int)), .det (.int .u64 ((n * 2 ^ 32 : Nat) : Int)), .det (.bool (decide (a + c < n * 2 ^ 32))), .det (.bool false), .det (.int .u64 ((a + c : Nat) : Int)), .det (.int .u64 ((n : Nat) : Int)), .det (.int .u64 ((n * 2 ^ 32 : Nat) : Int)), .det (.bool (decide (a + c = n * 2 ^ 32))), .det (.bool false), .det undef, .det undef, .det (.bool false), .det (.bool false), .det (.bool false)] [0, 1, 2, 3, 4, 5, 6, 7, 8, 9, 10, 11, 12, 13, 14] [0, 0, 2, 7, 15, 31, 31, 95, 255, 511, 1023, 2047, 4095, 8191, 16383] (fun L d => D d 0 6 ++ ([.bool false] ++ D d 7 73)) (fun L => []) hp9 ⟨
        oM, oM, oJ .u64 .u64 ((n : Nat) : Int) 32 (h := fun w => shlU _ n 32 .u64 (by omega) (by decide) w), oJ .u64 .u64 ((a + c : Nat) : Int) ((n * 2 ^ 32 : Nat) : Int) (h := fun w => lssU _ (a + c) (n * 2 ^ 32) w),
        oMB h1q, oM, oM, oJ .u64 .u64 ((n : Nat) : Int) 32 (h := fun w => shlU _ n 32 .u64 (by omega) (by decide) w), oJ .u64 .u64 ((a + c : Nat) : Int) ((n * 2 ^ 32 : Nat) : Int) (h := fun w => eqlU _ (a + c) (n * 2 ^ 32) w),
        oMB h2q, oS, oS, oP, oP, oA,
        trivial⟩ (fun L9 d9 w10 hp10 => ?_)
      refine k12 _ _ ?_
      refine wp_ret ?_
      refine bodyPost_ret (v := .bool false) ?_ rfl ?_
      · exact res_t rfl (by kernel_rfl) _
      · exact ⟨fin2 h1q h2q, hp10.bel⟩
theorem refFits (v n : Nat) (cube : Bool) (w : World) (hv : v < 1099511627776) (hn : n < 65536) : Calls Try.prog 51 #[.int .u64 ((v : Nat) : Int), .int .u64 ((n : Nat) : Int), .bool cube] w (Ret (.bool (fitsF v n cube)) w) := by
  have q : v * v < 1099511627776 * 1099511627776 := Nat.mul_lt_mul'' hv hv
  have hV : v * v = (v * v / 18446744073709551616) * 18446744073709551616 + v * v % 18446744073709551616 := by omega
  have hl : v * v % 18446744073709551616 < 18446744073709551616 := Nat.mod_lt _ (by decide)
  cases cube with
  | false => exact refFits0 v n _ _ w hv hn hV hl
  | true =>
    generalize hi' : v * v / 18446744073709551616 = hi at hV
    generalize lo' : v * v % 18446744073709551616 = lo at hV hl
    have hh : hi < 65536 := by omega
    have q1 : lo * v < 18446744073709551616 * 1099511627776 := Nat.mul_lt_mul'' hl hv
    have q2 : hi * v < 65536 * 1099511627776 := Nat.mul_lt_mul'' hh hv
    have hA : lo * v = (lo * v / 18446744073709551616) * 18446744073709551616 + lo * v % 18446744073709551616 := by omega
    have hX : v * v * v = (hi * v + lo * v / 18446744073709551616) * 18446744073709551616 + lo * v % 18446744073709551616 := by
      rw [hV, Nat.add_mul, Nat.add_mul, Nat.mul_right_comm]; omega
    exact refFits1 v n hi lo _ _ _ _ w hv hn hV hl hh hA (Nat.mod_lt _ (by decide)) rfl (by omega) (by omega) hX
def ptI (n : Nat) (cube : Bool) (w : World) : Nat → Act → World → Prop := fun L a' w' => ∃ (m : Nat) (d : Nat → Value),
  a' = { tmps := ([.int .u64 ((n : Nat) : Int), .bool cube] ++ (D d 2 3 ++ ([.int .u64 ((pts n cube m : Nat) : Int), .int .i64 (36 - (m : Int))] ++ D d 7 16)) : List Value).toArray, defers := [] } ∧ m + L = 37 ∧ Heap w.heap.size w w' []

theorem subI36 (t : TypeId) (m : Nat) (h : m < 1000) (w : World) : (binOp .sub t (.int .i64 (36 - (m : Int))) (.int .i64 1)).run Try.prog w = .ok (.int .i64 (36 - ((m + 1 : Nat) : Int))) w := by
  have e : IntKind.i64.wrap (36 - (m : Int) - 1) = 36 - ((m + 1 : Nat) : Int) := by unfold IntKind.wrap; simp [IntKind.bits, IntKind.signed]; omega
  simp only [binOp, Op.intArith, e]; simp [Sem.run_bind, e]
theorem convU (a : Nat) (w : World) : (convert 32 53 (.int .u64 (a : Int))).run Try.prog w = .ok (W32 (zx (a : Int))) w := by
  have e := wrap32_zx (a : Int)
  unfold W32
  simp [convert, run_underlying Try.underlying32, run_underlying Try.underlying53, Conv.intToInt, e, Sem.run_bind]
set_option maxHeartbeats 4000000 in
theorem refPart (n : Nat) (cube : Bool) (w : World) (hn : n < 65536) : Calls Try.prog 40 #[.int .u64 ((n : Nat) : Int), .bool cube] w (Ret (W32 (zx ((pts n cube 37 : Nat) : Int))) w) := by
  have hp0 := Heap.start w
  go_enter Try.func40, Try.ntmps40
  refine wp_seq_k (fun K1 k1 => ?_)
  refine gs [.det (.int .u32 0)] [0] [0] (fun L => [.int .u64 ((n : Nat) : Int), .bool cube, undef, undef, .int .u32 0] ++ U 18) (fun L => []) hp0 ⟨
    oA,
    trivial⟩ (fun L0 w1 hp1 => ?_)
  refine k1 _ _ ?_
  refine wp_seq_k (fun K2 k2 => ?_)
  refine gs [.det (.int .u64 0)] [0] [0] (fun L => [.int .u64 ((n : Nat) : Int), .bool cube, undef, undef, .int .u32 0, .int .u64 0] ++ U 17) (fun L => []) hp1 ⟨
    oA,
    trivial⟩ (fun L1 w2 hp2 => ?_)
  refine k2 _ _ ?_
  refine wp_seq_k (fun K3 k3 => ?_)
  refine wp_seq_k (fun K4 k4 => ?_)
  refine gs [.det (.int .i64 36)] [0] [0] (fun L => [.int .u64 ((n : Nat) : Int), .bool cube, undef, undef, .int .u32 0, .int .u64 0, .int .i64 36] ++ U 16) (fun L => []) hp2 ⟨
    oA,
    trivial⟩ (fun L2 w3 hp3 => ?_)
  refine k4 _ _ ?_
  refine wp_block_k (fun K5 k5 => ?_)
  refine wp_loop_ghost (ptI n cube w) 37 ⟨0, (fun zz => ([.int .u64 ((n : Nat) : Int), .bool cube, undef, undef, .int .u32 0, .int .u64 0, .int .i64 36] ++ U 16 : List Value).getD zz undef), by rw [pts_0]; kernel_rfl, Nat.zero_add _, hp3⟩ ?_
  rintro L a' W ⟨m, d, rfl, hL, hJ⟩
  by_cases hL0 : L = 0
  rotate_left
  · skip
    have hm : m < 37 := by omega
    have hp := pts_lt n cube m (by omega)
    have h2 : 2 ^ (37 - m) = 2 ^ (36 - m) + 2 ^ (36 - m) := by rw [show 37 - m = (36 - m) + 1 by omega, Nat.pow_succ]; omega
    have h3 : 0 < 2 ^ (36 - m) := Nat.two_pow_pos _
    obtain ⟨v, ev⟩ : ∃ x, x = pts n cube m := ⟨_, rfl⟩
    obtain ⟨t, et⟩ : ∃ x, x = 2 ^ (36 - m) := ⟨_, rfl⟩
    rw [← ev, h2, ← et] at hp
    rw [← et] at h3
    have hs := pts_s n cube m
    rw [← ev, ← et] at hs
    rw [← ev]
    cases hq : fitsF (v + t) n cube
    · skip
      refine wp_seq_k (fun K6 k6 => ?_)
      refine wp_seq_k (fun K7 k7 => ?_)
      refine gs [.det (.int .i64 (36 - (m : Int))), .det (.bool true)] [0, 1] [0, 1] (fun L => [.int .u64 ((n : Nat) : Int), .bool cube] ++ (D d 2 3 ++ ([.int .u64 ((v : Nat) : Int), .int .i64 (36 - (m : Int)), d 7, .int .i64 (36 - (m : Int)), .bool true] ++ D d 10 13))) (fun L => []) hJ ⟨
        oM, oJ .i64 .i64 (36 - (m : Int)) 0 (h := fun w => (geqI _ _ _ w).trans (by rw [decide_eq_true (by omega)])),
        trivial⟩ (fun L3 w4 hp4 => ?_)
      refine k7 _ _ ?_
      refine wp_cond_true (by kernel_rfl) ?_
      refine skips ?_
      refine k6 _ _ ?_
      refine wp_seq_k (fun K8 k8 => ?_)
      refine wp_block_k (fun K9 k9 => ?_)
      refine wp_seq_k (fun K10 k10 => ?_)
      refine gs [.det (.int .u64 ((v : Nat) : Int)), .det (.int .i64 (36 - (m : Int))), .det (.int .u64 ((t : Nat) : Int)), .det (.int .u64 ((v + t : Nat) : Int)), .det (.int .u64 ((v + t : Nat) : Int))] [0, 1, 2, 3, 4] [0, 0, 2, 7, 15] (fun L => [.int .u64 ((n : Nat) : Int), .bool cube] ++ (D d 2 3 ++ ([.int .u64 ((v : Nat) : Int), .int .i64 (36 - (m : Int)), .int .u64 ((v + t : Nat) : Int), .int .i64 (36 - (m : Int)), .bool true] ++ (D d 10 2 ++ ([.int .u64 ((v : Nat) : Int), .int .i64 (36 - (m : Int)), .int .u64 ((t : Nat) : Int), .int .u64 ((v + t : Nat) : Int)] ++ D d 16 7))))) (fun L => []) hp4 ⟨
        oM, oM, oJ .u64 .i64 1 (36 - (m : Int)) (h := fun w => by rw [show (36 - (m : Int)) = ((36 - m : Nat) : Int) by omega]; exact (shlU _ 1 (36 - m) .i64 (by omega) (by omega) w).trans (by rw [Nat.one_mul, ← et])),
        oJ .u64 .u64 ((v : Nat) : Int) ((t : Nat) : Int) (h := fun w => addU _ v t (by omega) w), oA,
        trivial⟩ (fun L4 w5 hp5 => ?_)
      refine k10 _ _ ?_
      refine wp_seq_k (fun K11 k11 => ?_)
      refine gs [.det (.int .u64 ((v + t : Nat) : Int)), .det (.int .u64 ((n : Nat) : Int)), .det (.bool cube), .det (.bool false)] [0, 1, 2, 3] [0, 0, 0, 7] (fun L => [.int .u64 ((n : Nat) : Int), .bool cube] ++ (D d 2 3 ++ ([.int .u64 ((v : Nat) : Int), .int .i64 (36 - (m : Int)), .int .u64 ((v + t : Nat) : Int), .int .i64 (36 - (m : Int)), .bool true] ++ (D d 10 2 ++ ([.int .u64 ((v : Nat) : Int), .int .i64 (36 - (m : Int)), .int .u64 ((t : Nat) : Int), .int .u64 ((v + t : Nat) : Int), .int .u64 ((v + t : Nat) : Int), .int .u64 ((n : Nat) : Int), .bool cube, .bool false] ++ D d 20 3))))) (fun L => []) hp5 ⟨
        oM, oM, oM, oH (v := .bool false) (vs := #[.int .u64 ((v + t : Nat) : Int), .int .u64 ((n : Nat) : Int), .bool cube]) (fun w _ _ => by have h := refFits (v + t) n cube w (by omega) hn; rw [hq] at h; exact h),
        trivial⟩ (fun L5 w6 hp6 => ?_)
      refine k11 _ _ ?_
      refine wp_cond_false (by kernel_rfl) ?_
      refine skips ?_
      refine k9 _ _ _ ?_
      refine block_normal ?_
      refine k8 _ _ ?_
      refine gs [.det (.int .i64 (36 - (m : Int))), .det (.int .i64 (36 - ((m + 1 : Nat) : Int))), .det (.int .i64 (36 - ((m + 1 : Nat) : Int)))] [0, 1, 2] [0, 1, 3] (fun L => [.int .u64 ((n : Nat) : Int), .bool cube] ++ (D d 2 3 ++ ([.int .u64 ((v : Nat) : Int), .int .i64 (36 - ((m + 1 : Nat) : Int)), .int .u64 ((v + t : Nat) : Int), .int .i64 (36 - (m : Int)), .bool true, .int .i64 (36 - (m : Int)), .int .i64 (36 - ((m + 1 : Nat) : Int)), .int .u64 ((v : Nat) : Int), .int .i64 (36 - (m : Int)), .int .u64 ((t : Nat) : Int), .int .u64 ((v + t : Nat) : Int), .int .u64 ((v + t : Nat) : Int), .int .u64 ((n : Nat) : Int), .bool cube, .bool false] ++ D d 20 3))) (fun L => []) hp6 ⟨
        oM, oJ .i64 .i64 (36 - (m : Int)) 1 (h := fun w => subI36 _ m (by omega) w), oA,
        trivial⟩ (fun L6 w7 hp7 => ?_)
      rw [hq] at hs
      exact ⟨L - 1, by omega, m + 1, (fun zz => ([.int .u64 ((n : Nat) : Int), .bool cube] ++ (D d 2 3 ++ ([.int .u64 ((v : Nat) : Int), .int .i64 (36 - ((m + 1 : Nat) : Int)), .int .u64 ((v + t : Nat) : Int), .int .i64 (36 - (m : Int)), .bool true, .int .i64 (36 - (m : Int)), .int .i64 (36 - ((m + 1 : Nat) : Int)), .int .u64 ((v : Nat) : Int), .int .i64 (36 - (m : Int)), .int .u64 ((t : Nat) : Int), .int .u64 ((v + t : Nat) : Int), .int .u64 ((v + t : Nat) : Int), .int .u64 ((n : Nat) : Int), .bool cube, .bool false] ++ D d 20 3)) : List Value).getD zz undef), by rw [hs]; kernel_rfl, by omega, hp7⟩
    · skip
      refine wp_seq_k (fun K12 k12 => ?_)
      refine wp_seq_k (fun K13 k13 => ?_)
      refine gs [.det (.int .i64 (36 - (m : Int))), .det (.bool true)] [0, 1] [0, 1] (fun L => [.int .u64 ((n : Nat) : Int), .bool cube] ++ (D d 2 3 ++ ([.int .u64 ((v : Nat) : Int), .int .i64 (36 - (m : Int)), d 7, .int .i64 (36 - (m : Int)), .bool true] ++ D d 10 13))) (fun L => []) hJ ⟨
        oM, oJ .i64 .i64 (36 - (m : Int)) 0 (h := fun w => (geqI _ _ _ w).trans (by rw [decide_eq_true (by omega)])),
        trivial⟩ (fun L7 w8 hp8 => ?_)
      refine k13 _ _ ?_
      refine wp_cond_true (by kernel_rfl) ?_
      refine skips ?_
      refine k12 _ _ ?_
      refine wp_seq_k (fun K14 k14 => ?_)
      refine wp_block_k (fun K15 k15 => ?_)
      refine wp_seq_k (fun K16 k16 => ?_)
      refine gs [.det (.int .u64 ((v : Nat) : Int)), .det (.int .i64 (36 - (m : Int))), .det (.int .u64 ((t : Nat) : Int)), .det (.int .u64 ((v + t : Nat) : Int)), .det (.int .u64 ((v + t : Nat) : Int))] [0, 1, 2, 3, 4] [0, 0, 2, 7, 15] (fun L => [.int .u64 ((n : Nat) : Int), .bool cube] ++ (D d 2 3 ++ ([.int .u64 ((v : Nat) : Int), .int .i64 (36 - (m : Int)), .int .u64 ((v + t : Nat) : Int), .int .i64 (36 - (m : Int)), .bool true] ++ (D d 10 2 ++ ([.int .u64 ((v : Nat) : Int), .int .i64 (36 - (m : Int)), .int .u64 ((t : Nat) : Int), .int .u64 ((v + t : Nat) : Int)] ++ D d 16 7))))) (fun L => []) hp8 ⟨
        oM, oM, oJ .u64 .i64 1 (36 - (m : Int)) (h := fun w => by rw [show (36 - (m : Int)) = ((36 - m : Nat) : Int) by omega]; exact (shlU _ 1 (36 - m) .i64 (by omega) (by omega) w).trans (by rw [Nat.one_mul, ← et])),
        oJ .u64 .u64 ((v : Nat) : Int) ((t : Nat) : Int) (h := fun w => addU _ v t (by omega) w), oA,
        trivial⟩ (fun L8 w9 hp9 => ?_)
      refine k16 _ _ ?_
      refine wp_seq_k (fun K17 k17 => ?_)
      refine gs [.det (.int .u64 ((v + t : Nat) : Int)), .det (.int .u64 ((n : Nat) : Int)), .det (.bool cube), .det (.bool true)] [0, 1, 2, 3] [0, 0, 0, 7] (fun L => [.int .u64 ((n : Nat) : Int), .bool cube] ++ (D d 2 3 ++ ([.int .u64 ((v : Nat) : Int), .int .i64 (36 - (m : Int)), .int .u64 ((v + t : Nat) : Int), .int .i64 (36 - (m : Int)), .bool true] ++ (D d 10 2 ++ ([.int .u64 ((v : Nat) : Int), .int .i64 (36 - (m : Int)), .int .u64 ((t : Nat) : Int), .int .u64 ((v + t : Nat) : Int), .int .u64 ((v + t : Nat) : Int), .int .u64 ((n : Nat) : Int), .bool cube, .bool true] ++ D d 20 3))))) (fun L => []) hp9 ⟨
        oM, oM, oM, oH (v := .bool true) (vs := #[.int .u64 ((v + t : Nat) : Int), .int .u64 ((n : Nat) : Int), .bool cube]) (fun w _ _ => by have h := refFits (v + t) n cube w (by omega) hn; rw [hq] at h; exact h),
        trivial⟩ (fun L9 w10 hp10 => ?_)
      refine k17 _ _ ?_
      refine wp_cond_true (by kernel_rfl) ?_
      refine gs [.det (.int .u64 ((v + t : Nat) : Int)), .det (.int .u64 ((v + t : Nat) : Int))] [0, 1] [0, 1] (fun L => [.int .u64 ((n : Nat) : Int), .bool cube] ++ (D d 2 3 ++ ([.int .u64 ((v + t : Nat) : Int), .int .i64 (36 - (m : Int)), .int .u64 ((v + t : Nat) : Int), .int .i64 (36 - (m : Int)), .bool true] ++ (D d 10 2 ++ ([.int .u64 ((v : Nat) : Int), .int .i64 (36 - (m : Int)), .int .u64 ((t : Nat) : Int), .int .u64 ((v + t : Nat) : Int), .int .u64 ((v + t : Nat) : Int), .int .u64 ((n : Nat) : Int), .bool cube, .bool true, .int .u64 ((v + t : Nat) : Int)] ++ D d 21 2))))) (fun L => []) hp10 ⟨
        oM, oA,
        trivial⟩ (fun L10 w11 hp11 => ?_)
      refine k15 _ _ _ ?_
      refine block_normal ?_
      refine k14 _ _ ?_
      refine gs [.det (.int .i64 (36 - (m : Int))), .det (.int .i64 (36 - ((m + 1 : Nat) : Int))), .det (.int .i64 (36 - ((m + 1 : Nat) : Int)))] [0, 1, 2] [0, 1, 3] (fun L => [.int .u64 ((n : Nat) : Int), .bool cube] ++ (D d 2 3 ++ ([.int .u64 ((v + t : Nat) : Int), .int .i64 (36 - ((m + 1 : Nat) : Int)), .int .u64 ((v + t : Nat) : Int), .int .i64 (36 - (m : Int)), .bool true, .int .i64 (36 - (m : Int)), .int .i64 (36 - ((m + 1 : Nat) : Int)), .int .u64 ((v : Nat) : Int), .int .i64 (36 - (m : Int)), .int .u64 ((t : Nat) : Int), .int .u64 ((v + t : Nat) : Int), .int .u64 ((v + t : Nat) : Int), .int .u64 ((n : Nat) : Int), .bool cube, .bool true, .int .u64 ((v + t : Nat) : Int)] ++ D d 21 2))) (fun L => []) hp11 ⟨
        oM, oJ .i64 .i64 (36 - (m : Int)) 1 (h := fun w => subI36 _ m (by omega) w), oA,
        trivial⟩ (fun L11 w12 hp12 => ?_)
      rw [hq] at hs
      exact ⟨L - 1, by omega, m + 1, (fun zz => ([.int .u64 ((n : Nat) : Int), .bool cube] ++ (D d 2 3 ++ ([.int .u64 ((v + t : Nat) : Int), .int .i64 (36 - ((m + 1 : Nat) : Int)), .int .u64 ((v + t : Nat) : Int), .int .i64 (36 - (m : Int)), .bool true, .int .i64 (36 - (m : Int)), .int .i64 (36 - ((m + 1 : Nat) : Int)), .int .u64 ((v : Nat) : Int), .int .i64 (36 - (m : Int)), .int .u64 ((t : Nat) : Int), .int .u64 ((v + t : Nat) : Int), .int .u64 ((v + t : Nat) : Int), .int .u64 ((n : Nat) : Int), .bool cube, .bool true, .int .u64 ((v + t : Nat) : Int)] ++ D d 21 2)) : List Value).getD zz undef), by rw [hs]; kernel_rfl, by omega, hp12⟩
  obtain rfl : m = 37 := by omega
  refine wp_seq_k (fun K18 k18 => ?_)
  refine wp_seq_k (fun K19 k19 => ?_)
  refine gs [.det (.int .i64 (36 - ((37 : Nat) : Int))), .det (.bool false)] [0, 1] [0, 1] (fun L => [.int .u64 ((n : Nat) : Int), .bool cube] ++ (D d 2 3 ++ ([.int .u64 ((pts n cube 37 : Nat) : Int), .int .i64 (36 - ((37 : Nat) : Int)), d 7, .int .i64 (36 - ((37 : Nat) : Int)), .bool false] ++ D d 10 13))) (fun L => []) hJ ⟨
    oM, oJ .i64 .i64 (36 - ((37 : Nat) : Int)) 0 (h := fun w => (geqI _ _ _ w).trans (by rw [decide_eq_false (by omega)])),
    trivial⟩ (fun L12 w13 hp13 => ?_)
  refine k19 _ _ ?_
  refine wp_cond_false (by kernel_rfl) ?_
  refine wp_exit ?_
  refine then_exit ?_
  refine then_exit ?_
  refine k5 _ _ _ ?_
  refine exit_in ?_
  refine k3 _ _ ?_
  refine wp_seq_k (fun K20 k20 => ?_)
  refine gs [.det (.int .u64 ((pts n cube 37 : Nat) : Int)), .det (W32 (zx ((pts n cube 37 : Nat) : Int))), .det (W32 (zx ((pts n cube 37 : Nat) : Int)))] [0, 1, 2] [0, 1, 3] (fun L => [.int .u64 ((n : Nat) : Int), .bool cube] ++ (D d 2 2 ++ ([W32 (zx ((pts n cube 37 : Nat) : Int)), .int .u64 ((pts n cube 37 : Nat) : Int), .int .i64 (36 - ((37 : Nat) : Int)), d 7, .int .i64 (36 - ((37 : Nat) : Int)), .bool false] ++ (D d 10 11 ++ [.int .u64 ((pts n cube 37 : Nat) : Int), W32 (zx ((pts n cube 37 : Nat) : Int))])))) (fun L => []) hp13 ⟨
    oM, oCv (fun w => convU (pts n cube 37) w), oA,
    trivial⟩ (fun L13 w14 hp14 => ?_)
  refine k20 _ _ ?_
  refine wp_ret ?_
  refine bodyPost_ret (v := W32 (zx ((pts n cube 37 : Nat) : Int))) ?_ rfl ?_
  · exact res_t rfl (by kernel_rfl) _
  · exact ⟨rfl, hp14.bel⟩
end Go.Proofs.Ytccidmogamnihaa.fpn

/- A row of whole numbers of one's own; the primes. -/
namespace Go.Proofs.Ytccidmogamnihaa.fpn
open Go.RowKit Pl
set_option linter.unusedVariables false
set_option linter.unusedSimpArgs false
set_option maxRecDepth 4000

def rowu (l : List Nat) : List Value := l.map fun (n : Nat) => .int .u64 (n : Int)
def OwnU (w : World) (B : Nat) (v : Value) (l : List Nat) : Prop := w.ownsRow B 32 1 v l.length (rowu l)
theorem OwnU.nil {w : World} {B : Nat} : OwnU w B (.slice none 0 0) [] := World.ownsRow_nil w B _ 1
theorem OwnU.below {w x : World} {B : Nat} {v : Value} {l : List Nat} (h : OwnU w B v l) (hb : Below w.heap.size w x) : OwnU x B v l := by
  refine ⟨h.1, ?_⟩
  rcases h.2 with h2 | ⟨g, cap, cur, hv, hB, hg, r⟩
  · exact Or.inl h2
  · refine Or.inr ⟨g, cap, cur, hv, hB, ?_, r⟩
    rw [hb.block g ?_]
    · exact hg
    · exact (Array.getElem?_eq_some_iff.1 hg).1
theorem OwnU.at {w : World} {B : Nat} {v : Value} {l : List Nat} (h : OwnU w B v l) : ∃ p c, v = .slice p l.length c ∧ l.length ≤ c ∧ c ≤ 9223372036854775807 ∧ (0 < l.length → ∃ b, p = some ⟨b, 0, none⟩ ∧ B ≤ b ∧ ∀ (j n : Nat), l[j]? = some n → w.cell? ⟨b, 0 + j * 1, none⟩ = some (.int .u64 (n : Int))) := by
  rcases h.2 with ⟨rfl, hn⟩ | ⟨g, cap, cur, rfl, hB, hg, hn, hm, hs, ht⟩
  · exact ⟨none, 0, by rw [hn], by omega, by omega, fun h0 => absurd h0 (by omega)⟩
  · refine ⟨_, cap, rfl, hn, (by have := hm; unfold maxLen at this; omega), fun h0 => ⟨g, rfl, hB, fun j n hj => ?_⟩⟩
    have hi : j < l.length := (List.getElem?_eq_some_iff.1 hj).1
    have e : (rowu l)[j]? = some (.int .u64 (n : Int)) := by unfold rowu; rw [List.getElem?_map, hj]; rfl
    rw [← ht, List.getElem?_take_of_lt (by omega)] at e
    have e' : cur[j]? = some (.int .u64 (n : Int)) := by simpa using e
    unfold World.cell?
    simp only [hg, Nat.zero_add, Nat.mul_one]
    simpa using e'
theorem infoU : ∃ i z, Try.prog.info? 32 = some i ∧ i.zero = some z ∧ i.size = 1 ∧ i.bytes = 8 ∧ z.cells.size = 1 := by
  have e : (Try.prog.info? 32).map (fun i => (i.size, i.bytes, i.zero.map (·.cells.size))) = some (1, 8, some 1) := by kernel_rfl
  cases hi : Try.prog.info? 32 with
  | none => simp [hi] at e
  | some i =>
    simp only [hi, Option.map_some, Option.some.injEq, Prod.mk.injEq, Option.map_eq_some_iff] at e
    obtain ⟨h1, h2, z, hz, h3⟩ := e
    exact ⟨i, z, rfl, hz, h1, h2, h3⟩
theorem wp_appendU {Q : Exit → Act → World → Prop} {o : Oper} {a : Act} {w : World} {K : Act → World → Prop} (s x : Operand) (ho : o.op = .call { callee := .builtin .append, args := #[s, x], argTypes := #[51, 51] })
    {B : Nat} {v u : Value} {l : List Nat} {n : Nat} (hs : a.eval s = v) (hown : OwnU w B v l) (hx : a.eval x = u) (hu : isOne (n : Int) u w) (hl : l.length ≤ 1000) (hB : B ≤ w.heap.size)
    (h : ∀ v' w', OwnU w' B v' (l ++ [n]) → Below B w w' → K (a.put o.dst v') w') : o.wp Try.prog a w K Q := by
  obtain ⟨i, z, hi, hz, h1, h2, h3⟩ := infoU
  obtain ⟨k, rfl, hc⟩ := hu
  obtain ⟨b, off, e, hc⟩ := hc (by decide)
  obtain ⟨rfl, rfl⟩ : k = b ∧ 0 = off := by simpa using e
  refine wp_append_own w s x 51 ho B 32 i z 1 8 Try.underlying51 hi hz h1 h2 h3 (by decide) v l.length (rowu l) hs hown ⟨k, 0, none⟩ 1 1 [.int .u64 (n : Int)] hx rfl (fun j u hu => ?_) (fun u hu => ?_) (by simp [maxLen]; omega) (by omega) hB (fun v' w' ho' hgr _ => h v' w' ?_ ?_)
  · have hj : j < 1 := (List.getElem?_eq_some_iff.1 hu).1
    obtain rfl : j = 0 := by omega
    have := hc 0 (by decide)
    obtain rfl : Value.int .u64 (n : Int) = u := by simpa using hu
    rw [Addr.add_mid]
    exact this
  · obtain rfl : u = Value.int .u64 (n : Int) := by simpa using hu
    rfl
  · have e : rowu (l ++ [n]) = rowu l ++ [.int .u64 (n : Int)] := by unfold rowu; rw [List.map_append]; rfl
    unfold OwnU
    rw [e, List.length_append]
    exact ho'
  · have hrow : ∀ k, v.ownBlock = some k → B ≤ k := fun k hk => (World.ownsRow.lt hown k hk).1
    exact ⟨hgr.os, hgr.tape, hgr.output, hgr.size, fun k hk => hgr.block k (by omega) (fun e => by have := hrow k e.symm; omega)⟩
def plR : Nat → List Nat
  | 0 => []
  | m + 1 => bif (plR m).all (fun p => !decide ((m + 2) % p = 0)) then plR m ++ [m + 2] else plR m
@[irreducible] def pl (m : Nat) : List Nat := plR m
theorem pl_0 : pl 0 = [] := by unfold pl; rfl
theorem pl_s (m : Nat) : pl (m + 1) = bif (pl m).all (fun p => !decide ((m + 2) % p = 0)) then pl m ++ [m + 2] else pl m := by unfold pl; rfl
theorem pl_up (m : Nat) : (pl m).length ≤ (pl (m + 1)).length := by
  rw [pl_s]
  cases (pl m).all (fun p => !decide ((m + 2) % p = 0))
  · exact Nat.le_refl _
  · show (pl m).length ≤ (pl m ++ [m + 2]).length
    rw [List.length_append]; omega
theorem pl_le {m n : Nat} (h : m ≤ n) : (pl m).length ≤ (pl n).length := by
  induction n with
  | zero => rw [show m = 0 by omega]; exact Nat.le_refl _
  | succ n ih =>
    rcases Nat.lt_or_ge n m with h' | h'
    · rw [show m = n + 1 by omega]; exact Nat.le_refl _
    · exact Nat.le_trans (ih h') (pl_up n)
theorem pl_pos : ∀ (m p : Nat), p ∈ pl m → 0 < p ∧ p < m + 2
  | 0, p, h => by rw [pl_0] at h; cases h
  | m + 1, p, h => by
    rw [pl_s] at h
    cases e : (pl m).all (fun p => !decide ((m + 2) % p = 0)) <;> rw [e] at h
    · have := pl_pos m p h; omega
    · rcases List.mem_append.1 h with h | h
      · have := pl_pos m p h; omega
      · simp at h; omega
def p64 : List Nat := [2, 3, 5, 7, 11, 13, 17, 19, 23, 29, 31, 37, 41, 43, 47, 53, 59, 61, 67, 71, 73, 79, 83, 89, 97, 101, 103, 107, 109, 113, 127, 131, 137, 139, 149, 151, 157, 163, 167, 173, 179, 181, 191, 193, 197, 199, 211, 223, 227, 229, 233, 239, 241, 251, 257, 263, 269, 271, 277, 281, 283, 293, 307, 311]
theorem pl_all : pl 310 = p64 := by unfold pl; decide +kernel
theorem pl_few : (pl 309).length = 63 := by unfold pl; decide +kernel
theorem pl_lt {m : Nat} (h : m < 310) : (pl m).length < 64 := by
  have := pl_le (show m ≤ 309 by omega)
  rw [pl_few] at this; omega
theorem remU (t : TypeId) (a b : Nat) (hb : 0 < b) (w : World) : (binOp .rem t (.int .u64 (a : Int)) (.int .u64 (b : Int))).run Try.prog w = .ok (.int .u64 ((a % b : Nat) : Int)) w := by
  have e0 : (a : Int).tmod (b : Int) = ((a % b : Nat) : Int) := by rw [Int.tmod_eq_emod_of_nonneg (by omega)]; rfl
  have h1 : ¬ b = 0 := by omega
  simp [binOp, Sem.run_bind, Op.intDiv, e0, h1]
theorem neqU (t : TypeId) (a b : Nat) (w : World) : (binOp .neq t (.int .u64 (a : Int)) (.int .u64 (b : Int))).run Try.prog w = .ok (.bool (!decide (a = b))) w := by
  refine (neqI _ _ _ _ w).trans ?_
  rw [show decide ((a : Int) = (b : Int)) = decide (a = b) from decide_eq_decide.2 (by omega)]
theorem all_take {l : List Nat} {i q : Nat} (f : Nat → Bool) (h : l[i]? = some q) : (l.take (i + 1)).all f = ((l.take i).all f && f q) := by
  have hi := (List.getElem?_eq_some_iff.1 h).1
  have e : l.take (i + 1) = l.take i ++ [q] := by
    rw [List.take_add_one, h]; rfl
  rw [e, List.all_append]; simp
theorem cell_up {w x : World} {b off : Nat} {v : Value} (h : w.cell? ⟨b, off, none⟩ = some v) (k : Below w.heap.size w x) : x.cell? ⟨b, off, none⟩ = some v := by
  have r : w.rangeAt b off [v] := fun j u hu => by
    have hj : j < 1 := (List.getElem?_eq_some_iff.1 hu).1
    obtain rfl : j = 0 := by omega
    obtain rfl : v = u := by simpa using hu
    exact h
  exact range_up r k 0 v rfl
def prI (w : World) : Nat → Act → World → Prop := fun L a' w' => ∃ (m : Nat) (d : Nat → Value) (v : Value),
  a' = { tmps := ([d 0, v, .int .u64 ((m + 2 : Nat) : Int)] ++ D d 3 29 : List Value).toArray, defers := [] } ∧ m + L = 310 ∧ OwnU w' w.heap.size v (pl m) ∧ Below w.heap.size w w'
def piI (W : World) (p : Option Addr) (c m : Nat) : Nat → Act → World → Prop := fun L a' w' => ∃ (i : Nat) (d2 : Nat → Value),
  a' = { tmps := ([d2 0, .slice p (pl m).length c, .int .u64 ((m + 2 : Nat) : Int), .bool (((pl m).take i).all (fun p => !decide ((m + 2) % p = 0))), .int .i64 ((i : Nat) : Int)] ++ D d2 5 27 : List Value).toArray, defers := [] } ∧ i + L = (pl m).length ∧ Below W.heap.size W w'
def RetPr (w : World) : Ending → World → Prop := fun e w' => ∃ v, e = .returned v ∧ OwnU w' w.heap.size v p64 ∧ Below w.heap.size w w'

set_option maxHeartbeats 4000000 in
theorem refPrimes (w : World) : Calls Try.prog 39 #[] w (RetPr w) := by
  have hp0 := Heap.start w
  go_enter Try.func39, Try.ntmps39
  refine wp_seq_k (fun K1 k1 => ?_)
  refine gs [.det (.slice none 0 0)] [0] [0] (fun L => [.slice none 0 0] ++ U 31) (fun L => []) hp0 ⟨
    oA,
    trivial⟩ (fun L0 w1 hp1 => ?_)
  refine k1 _ _ ?_
  refine wp_seq_k (fun K2 k2 => ?_)
  refine gs [.det (.slice none 0 0)] [0] [0] (fun L => [.slice none 0 0, .slice none 0 0] ++ U 30) (fun L => []) hp1 ⟨
    oA,
    trivial⟩ (fun L1 w2 hp2 => ?_)
  refine k2 _ _ ?_
  refine wp_seq_k (fun K3 k3 => ?_)
  refine wp_seq_k (fun K4 k4 => ?_)
  refine gs [.det (.int .u64 2)] [0] [0] (fun L => [.slice none 0 0, .slice none 0 0, .int .u64 2] ++ U 29) (fun L => []) hp2 ⟨
    oA,
    trivial⟩ (fun L2 w3 hp3 => ?_)
  refine k4 _ _ ?_
  refine wp_block_k (fun K5 k5 => ?_)
  refine wp_loop_ghost (prI w) 310 ⟨0, (fun zz => ([.slice none 0 0, .slice none 0 0, .int .u64 2] ++ U 29 : List Value).getD zz undef), .slice none 0 0, by kernel_rfl, Nat.zero_add _, by rw [pl_0]; exact OwnU.nil, hp3.bel⟩ ?_
  rintro L a' W ⟨m, d, v, rfl, hL, hOwn, hbel⟩
  have hB := hbel.size
  have hp0 := Heap.start W
  obtain ⟨p, c, rfl, hc1, hc2, hat⟩ := hOwn.at
  by_cases hL0 : L = 0
  rotate_left
  · skip
    have hm : m < 310 := by omega
    have hlen := pl_lt hm
    have hs := pl_s m
    cases hall : (pl m).all (fun p => !decide ((m + 2) % p = 0)) <;> rw [hall] at hs
    · skip
      refine wp_seq_k (fun K6 k6 => ?_)
      refine wp_seq_k (fun K7 k7 => ?_)
      refine gs [.det (.slice p (pl m).length c), .det (.int .i64 ((pl m).length)), .det (.bool true)] [0, 1, 2] [0, 1, 3] (fun L => [d 0, .slice p (pl m).length c, .int .u64 ((m + 2 : Nat) : Int)] ++ (D d 3 2 ++ ([.slice p (pl m).length c, .int .i64 ((pl m).length), .bool true] ++ D d 8 24))) (fun L => []) hp0 ⟨
        oM, fun h => ⟨ob_len (p := p) (n := (pl m).length) (c := c) (fun _ => rfl) h rfl (fun _ => by kernel_rfl) Try.underlying51⟩, oJ .i64 .i64 ((pl m).length) 64 (h := fun w => (lssI _ _ _ w).trans (by rw [decide_eq_true (by omega)])),
        trivial⟩ (fun L3 w4 hp4 => ?_)
      refine k7 _ _ ?_
      refine wp_cond_true (by kernel_rfl) ?_
      refine skips ?_
      refine k6 _ _ ?_
      refine wp_seq_k (fun K8 k8 => ?_)
      refine wp_block_k (fun K9 k9 => ?_)
      refine wp_seq_k (fun K10 k10 => ?_)
      refine gs [.det (.bool true)] [0] [0] (fun L => [d 0, .slice p (pl m).length c, .int .u64 ((m + 2 : Nat) : Int), .bool true, d 4, .slice p (pl m).length c, .int .i64 ((pl m).length), .bool true] ++ D d 8 24) (fun L => []) hp4 ⟨
        oA,
        trivial⟩ (fun L4 w5 hp5 => ?_)
      refine k10 _ _ ?_
      refine wp_seq_k (fun K11 k11 => ?_)
      refine wp_seq_k (fun K12 k12 => ?_)
      refine gs [.det (.int .i64 0)] [0] [0] (fun L => [d 0, .slice p (pl m).length c, .int .u64 ((m + 2 : Nat) : Int), .bool true, .int .i64 0, .slice p (pl m).length c, .int .i64 ((pl m).length), .bool true] ++ D d 8 24) (fun L => []) hp5 ⟨
        oA,
        trivial⟩ (fun L5 w6 hp6 => ?_)
      refine k12 _ _ ?_
      refine wp_block_k (fun K13 k13 => ?_)
      refine wp_loop_ghost (piI W p c m) (pl m).length ⟨0, (fun zz => ([d 0, .slice p (pl m).length c, .int .u64 ((m + 2 : Nat) : Int), .bool true, .int .i64 0, .slice p (pl m).length c, .int .i64 ((pl m).length), .bool true] ++ D d 8 24 : List Value).getD zz undef), by kernel_rfl, Nat.zero_add _, hp6.bel⟩ ?_
      rintro L2 a2 X ⟨i, d2, rfl, hL2, hb2⟩
      have hx0 := Heap.start X
      by_cases hL20 : L2 = 0
      rotate_left
      · skip
        have hi : i < (pl m).length := by omega
        obtain ⟨b, rfl, hBb, hcell⟩ := hat (by omega)
        obtain ⟨q, hq⟩ : ∃ q, (pl m)[i]? = some q := ⟨(pl m)[i], List.getElem?_eq_getElem hi⟩
        have hqp := (pl_pos m q (List.mem_of_getElem? hq)).1
        have hst := all_take (fun p => !decide ((m + 2) % p = 0)) hq
        have hcq := hcell i q hq
        cases ha : ((pl m).take i).all (fun p => !decide ((m + 2) % p = 0)) <;> rw [ha] at hst
        · skip
          refine wp_seq_k (fun K14 k14 => ?_)
          refine wp_seq_k (fun K15 k15 => ?_)
          refine gs [.det (.int .i64 ((i : Nat) : Int)), .det (.slice (some ⟨b, 0, none⟩) (pl m).length c), .det (.int .i64 ((pl m).length)), .det (.bool true)] [0, 1, 2, 3] [0, 0, 2, 7] (fun L => [d2 0, .slice (some ⟨b, 0, none⟩) (pl m).length c, .int .u64 ((m + 2 : Nat) : Int), .bool false, .int .i64 ((i : Nat) : Int)] ++ (D d2 5 5 ++ ([.int .i64 ((i : Nat) : Int), .slice (some ⟨b, 0, none⟩) (pl m).length c, .int .i64 ((pl m).length), .bool true] ++ D d2 14 18))) (fun L => []) hx0 ⟨
            oM, oM, fun h => ⟨ob_len (p := (some ⟨b, 0, none⟩)) (n := (pl m).length) (c := c) (fun _ => rfl) h rfl (fun _ => by kernel_rfl) Try.underlying51⟩,
            oJ .i64 .i64 ((i : Nat) : Int) ((pl m).length) (h := fun w => (lssI _ _ _ w).trans (by rw [decide_eq_true (by omega)])),
            trivial⟩ (fun L6 w7 hp7 => ?_)
          refine k15 _ _ ?_
          refine wp_cond_true (by kernel_rfl) ?_
          refine skips ?_
          refine k14 _ _ ?_
          refine wp_seq_k (fun K16 k16 => ?_)
          refine wp_block_k (fun K17 k17 => ?_)
          refine gs [.det (.bool false), .det (.bool false), .det undef, .det undef, .det undef, .det undef, .det undef, .det undef, .det undef, .det (.bool false), .det (.bool false)] [0, 1, 2, 3, 4, 5, 6, 7, 8, 9, 10] [0, 1, 3, 3, 3, 27, 59, 127, 255, 511, 1023] (fun L => [d2 0, .slice (some ⟨b, 0, none⟩) (pl m).length c, .int .u64 ((m + 2 : Nat) : Int), .bool false, .int .i64 ((i : Nat) : Int)] ++ (D d2 5 5 ++ ([.int .i64 ((i : Nat) : Int), .slice (some ⟨b, 0, none⟩) (pl m).length c, .int .i64 ((pl m).length), .bool true] ++ (D d2 14 2 ++ ([.bool false, .bool false] ++ (U 7 ++ ([.bool false] ++ D d2 26 6))))))) (fun L => []) hp7 ⟨
            oM, oM, oS, oS, oS, oS, oS, oS, oS, oP, oA,
            trivial⟩ (fun L7 w8 hp8 => ?_)
          refine k17 _ _ _ ?_
          refine block_normal ?_
          refine k16 _ _ ?_
          refine gs [.det (.int .i64 ((i : Nat) : Int)), .det (.int .i64 ((i + 1 : Nat) : Int)), .det (.int .i64 ((i + 1 : Nat) : Int))] [0, 1, 2] [0, 1, 3] (fun L => [d2 0, .slice (some ⟨b, 0, none⟩) (pl m).length c, .int .u64 ((m + 2 : Nat) : Int), .bool false, .int .i64 ((i + 1 : Nat) : Int)] ++ (D d2 5 5 ++ ([.int .i64 ((i : Nat) : Int), .slice (some ⟨b, 0, none⟩) (pl m).length c, .int .i64 ((pl m).length), .bool true, .int .i64 ((i : Nat) : Int), .int .i64 ((i + 1 : Nat) : Int), .bool false, .bool false] ++ (U 7 ++ ([.bool false] ++ D d2 26 6))))) (fun L => []) hp8 ⟨
            oM, oJ .i64 .i64 ((i : Nat) : Int) 1 (h := fun w => add1N _ i (by omega) w), oA,
            trivial⟩ (fun L8 w9 hp9 => ?_)
          exact ⟨L2 - 1, by omega, i + 1, (fun zz => ([d2 0, .slice (some ⟨b, 0, none⟩) (pl m).length c, .int .u64 ((m + 2 : Nat) : Int), .bool false, .int .i64 ((i + 1 : Nat) : Int)] ++ (D d2 5 5 ++ ([.int .i64 ((i : Nat) : Int), .slice (some ⟨b, 0, none⟩) (pl m).length c, .int .i64 ((pl m).length), .bool true, .int .i64 ((i : Nat) : Int), .int .i64 ((i + 1 : Nat) : Int), .bool false, .bool false] ++ (U 7 ++ ([.bool false] ++ D d2 26 6)))) : List Value).getD zz undef), by rw [hst]; kernel_rfl, by omega, hb2.trans (hp9.bel.mono hb2.size)⟩
        · skip
          refine wp_seq_k (fun K18 k18 => ?_)
          refine wp_seq_k (fun K19 k19 => ?_)
          refine gs [.det (.int .i64 ((i : Nat) : Int)), .det (.slice (some ⟨b, 0, none⟩) (pl m).length c), .det (.int .i64 ((pl m).length)), .det (.bool true)] [0, 1, 2, 3] [0, 0, 2, 7] (fun L => [d2 0, .slice (some ⟨b, 0, none⟩) (pl m).length c, .int .u64 ((m + 2 : Nat) : Int), .bool true, .int .i64 ((i : Nat) : Int)] ++ (D d2 5 5 ++ ([.int .i64 ((i : Nat) : Int), .slice (some ⟨b, 0, none⟩) (pl m).length c, .int .i64 ((pl m).length), .bool true] ++ D d2 14 18))) (fun L => []) hx0 ⟨
            oM, oM, fun h => ⟨ob_len (p := (some ⟨b, 0, none⟩)) (n := (pl m).length) (c := c) (fun _ => rfl) h rfl (fun _ => by kernel_rfl) Try.underlying51⟩,
            oJ .i64 .i64 ((i : Nat) : Int) ((pl m).length) (h := fun w => (lssI _ _ _ w).trans (by rw [decide_eq_true (by omega)])),
            trivial⟩ (fun L9 w10 hp10 => ?_)
          refine k19 _ _ ?_
          refine wp_cond_true (by kernel_rfl) ?_
          refine skips ?_
          refine k18 _ _ ?_
          refine wp_seq_k (fun K20 k20 => ?_)
          refine wp_block_k (fun K21 k21 => ?_)
          refine gs [.det (.bool true), .det (.bool true), .det (.int .u64 ((m + 2 : Nat) : Int)), .det (.slice (some ⟨b, 0, none⟩) (pl m).length c), .det (.int .i64 ((i : Nat) : Int)), .det (.pointer (some ⟨b, 0 + i * 1, none⟩)), .det (.int .u64 ((q : Nat) : Int)), .det (.int .u64 (((m + 2) % q : Nat) : Int)), .det (.bool (!decide ((m + 2) % q = 0))), .det (.bool (!decide ((m + 2) % q = 0))), .det (.bool (!decide ((m + 2) % q = 0)))] [0, 1, 2, 3, 4, 5, 6, 7, 8, 9, 10] [0, 1, 3, 3, 3, 27, 59, 127, 255, 511, 1023] (fun L => [d2 0, .slice (some ⟨b, 0, none⟩) (pl m).length c, .int .u64 ((m + 2 : Nat) : Int), .bool (!decide ((m + 2) % q = 0)), .int .i64 ((i : Nat) : Int)] ++ (D d2 5 5 ++ ([.int .i64 ((i : Nat) : Int), .slice (some ⟨b, 0, none⟩) (pl m).length c, .int .i64 ((pl m).length), .bool true] ++ (D d2 14 2 ++ ([.bool true, .bool true, .int .u64 ((m + 2 : Nat) : Int), .slice (some ⟨b, 0, none⟩) (pl m).length c, .int .i64 ((i : Nat) : Int), .pointer (some ⟨b, 0 + i * 1, none⟩), .int .u64 ((q : Nat) : Int), .int .u64 (((m + 2) % q : Nat) : Int), .bool (!decide ((m + 2) % q = 0)), .bool (!decide ((m + 2) % q = 0))] ++ D d2 26 6))))) (fun L => []) hp10 ⟨
            oM, oM, oM, oM, oM, oIS (n := (pl m).length) (c := c) i Try.underlying51 oneU.size hi, oLC oneU (fun L w hs => cell_up (cell_up hcq hb2) hs.bel),
            oJ .u64 .u64 ((m + 2 : Nat) : Int) ((q : Nat) : Int) (h := fun w => remU _ (m + 2) q hqp w), oJ .u64 .u64 (((m + 2) % q : Nat) : Int) 0 (h := fun w => neqU _ ((m + 2) % q) 0 w),
            oP, oA,
            trivial⟩ (fun L10 w11 hp11 => ?_)
          refine k21 _ _ _ ?_
          refine block_normal ?_
          refine k20 _ _ ?_
          refine gs [.det (.int .i64 ((i : Nat) : Int)), .det (.int .i64 ((i + 1 : Nat) : Int)), .det (.int .i64 ((i + 1 : Nat) : Int))] [0, 1, 2] [0, 1, 3] (fun L => [d2 0, .slice (some ⟨b, 0, none⟩) (pl m).length c, .int .u64 ((m + 2 : Nat) : Int), .bool (!decide ((m + 2) % q = 0)), .int .i64 ((i + 1 : Nat) : Int)] ++ (D d2 5 5 ++ ([.int .i64 ((i : Nat) : Int), .slice (some ⟨b, 0, none⟩) (pl m).length c, .int .i64 ((pl m).length), .bool true, .int .i64 ((i : Nat) : Int), .int .i64 ((i + 1 : Nat) : Int), .bool true, .bool true, .int .u64 ((m + 2 : Nat) : Int), .slice (some ⟨b, 0, none⟩) (pl m).length c, .int .i64 ((i : Nat) : Int), .pointer (some ⟨b, 0 + i * 1, none⟩), .int .u64 ((q : Nat) : Int), .int .u64 (((m + 2) % q : Nat) : Int), .bool (!decide ((m + 2) % q = 0)), .bool (!decide ((m + 2) % q = 0))] ++ D d2 26 6))) (fun L => []) hp11 ⟨
            oM, oJ .i64 .i64 ((i : Nat) : Int) 1 (h := fun w => add1N _ i (by omega) w), oA,
            trivial⟩ (fun L11 w12 hp12 => ?_)
          exact ⟨L2 - 1, by omega, i + 1, (fun zz => ([d2 0, .slice (some ⟨b, 0, none⟩) (pl m).length c, .int .u64 ((m + 2 : Nat) : Int), .bool (!decide ((m + 2) % q = 0)), .int .i64 ((i + 1 : Nat) : Int)] ++ (D d2 5 5 ++ ([.int .i64 ((i : Nat) : Int), .slice (some ⟨b, 0, none⟩) (pl m).length c, .int .i64 ((pl m).length), .bool true, .int .i64 ((i : Nat) : Int), .int .i64 ((i + 1 : Nat) : Int), .bool true, .bool true, .int .u64 ((m + 2 : Nat) : Int), .slice (some ⟨b, 0, none⟩) (pl m).length c, .int .i64 ((i : Nat) : Int), .pointer (some ⟨b, 0 + i * 1, none⟩), .int .u64 ((q : Nat) : Int), .int .u64 (((m + 2) % q : Nat) : Int), .bool (!decide ((m + 2) % q = 0)), .bool (!decide ((m + 2) % q = 0))] ++ D d2 26 6)) : List Value).getD zz undef), by rw [hst]; kernel_rfl, by omega, hb2.trans (hp12.bel.mono hb2.size)⟩
      obtain rfl : i = (pl m).length := by omega
      rw [List.take_length, hall]
      have hOwn := hOwn.below hb2
      have hbel := hbel.trans (hb2.mono hbel.size)
      have hB := hbel.size
      refine wp_seq_k (fun K22 k22 => ?_)
      refine wp_seq_k (fun K23 k23 => ?_)
      refine gs [.det (.int .i64 (((pl m).length : Nat) : Int)), .det (.slice p (pl m).length c), .det (.int .i64 ((pl m).length)), .det (.bool false)] [0, 1, 2, 3] [0, 0, 2, 7] (fun L => [d2 0, .slice p (pl m).length c, .int .u64 ((m + 2 : Nat) : Int), .bool false, .int .i64 (((pl m).length : Nat) : Int)] ++ (D d2 5 5 ++ ([.int .i64 (((pl m).length : Nat) : Int), .slice p (pl m).length c, .int .i64 ((pl m).length), .bool false] ++ D d2 14 18))) (fun L => []) hx0 ⟨
        oM, oM, fun h => ⟨ob_len (p := p) (n := (pl m).length) (c := c) (fun _ => rfl) h rfl (fun _ => by kernel_rfl) Try.underlying51⟩, oJ .i64 .i64 (((pl m).length : Nat) : Int) ((pl m).length) (h := fun w => (lssI _ _ _ w).trans (by rw [decide_eq_false (by omega)])),
        trivial⟩ (fun L12 w13 hp13 => ?_)
      refine k23 _ _ ?_
      refine wp_cond_false (by kernel_rfl) ?_
      refine wp_exit ?_
      refine then_exit ?_
      refine then_exit ?_
      refine k13 _ _ _ ?_
      refine exit_in ?_
      refine k11 _ _ ?_
      refine wp_seq_k (fun K24 k24 => ?_)
      refine gs [.det (.bool false)] [0] [0] (fun L => [d2 0, .slice p (pl m).length c, .int .u64 ((m + 2 : Nat) : Int), .bool false, .int .i64 (((pl m).length : Nat) : Int)] ++ (D d2 5 5 ++ ([.int .i64 (((pl m).length : Nat) : Int), .slice p (pl m).length c, .int .i64 ((pl m).length), .bool false] ++ (D d2 14 12 ++ ([.bool false] ++ D d2 27 5))))) (fun L => []) hp13 ⟨
        oM,
        trivial⟩ (fun L13 w14 hp14 => ?_)
      refine k24 _ _ ?_
      refine wp_cond_false (by kernel_rfl) ?_
      refine skips ?_
      refine k9 _ _ _ ?_
      refine block_normal ?_
      refine k8 _ _ ?_
      refine gs [.det (.int .u64 ((m + 2 : Nat) : Int)), .det (.int .u64 ((m + 1 + 2 : Nat) : Int)), .det (.int .u64 ((m + 1 + 2 : Nat) : Int))] [0, 1, 2] [0, 1, 3] (fun L => [d2 0, .slice p (pl m).length c, .int .u64 ((m + 1 + 2 : Nat) : Int), .bool false, .int .i64 (((pl m).length : Nat) : Int)] ++ (D d2 5 3 ++ ([.int .u64 ((m + 2 : Nat) : Int), .int .u64 ((m + 1 + 2 : Nat) : Int), .int .i64 (((pl m).length : Nat) : Int), .slice p (pl m).length c, .int .i64 ((pl m).length), .bool false] ++ (D d2 14 12 ++ ([.bool false] ++ D d2 27 5))))) (fun L => []) hp14 ⟨
        oM, oJ .u64 .u64 ((m + 2 : Nat) : Int) 1 (h := fun w => addU _ (m + 2) 1 (by omega) w), oA,
        trivial⟩ (fun L14 w15 hp15 => ?_)
      exact ⟨L - 1, by omega, m + 1, (fun zz => ([d2 0, .slice p (pl m).length c, .int .u64 ((m + 1 + 2 : Nat) : Int), .bool false, .int .i64 (((pl m).length : Nat) : Int)] ++ (D d2 5 3 ++ ([.int .u64 ((m + 2 : Nat) : Int), .int .u64 ((m + 1 + 2 : Nat) : Int), .int .i64 (((pl m).length : Nat) : Int), .slice p (pl m).length c, .int .i64 ((pl m).length), .bool false] ++ (D d2 14 12 ++ ([.bool false] ++ D d2 27 5)))) : List Value).getD zz undef), _, by kernel_rfl, by omega, by rw [hs]; exact hOwn.below hp15.bel, hbel.trans (hp15.bel.mono hbel.size)⟩
    · skip
      refine wp_seq_k (fun K25 k25 => ?_)
      refine wp_seq_k (fun K26 k26 => ?_)
      refine gs [.det (.slice p (pl m).length c), .det (.int .i64 ((pl m).length)), .det (.bool true)] [0, 1, 2] [0, 1, 3] (fun L => [d 0, .slice p (pl m).length c, .int .u64 ((m + 2 : Nat) : Int)] ++ (D d 3 2 ++ ([.slice p (pl m).length c, .int .i64 ((pl m).length), .bool true] ++ D d 8 24))) (fun L => []) hp0 ⟨
        oM, fun h => ⟨ob_len (p := p) (n := (pl m).length) (c := c) (fun _ => rfl) h rfl (fun _ => by kernel_rfl) Try.underlying51⟩, oJ .i64 .i64 ((pl m).length) 64 (h := fun w => (lssI _ _ _ w).trans (by rw [decide_eq_true (by omega)])),
        trivial⟩ (fun L15 w16 hp16 => ?_)
      refine k26 _ _ ?_
      refine wp_cond_true (by kernel_rfl) ?_
      refine skips ?_
      refine k25 _ _ ?_
      refine wp_seq_k (fun K27 k27 => ?_)
      refine wp_block_k (fun K28 k28 => ?_)
      refine wp_seq_k (fun K29 k29 => ?_)
      refine gs [.det (.bool true)] [0] [0] (fun L => [d 0, .slice p (pl m).length c, .int .u64 ((m + 2 : Nat) : Int), .bool true, d 4, .slice p (pl m).length c, .int .i64 ((pl m).length), .bool true] ++ D d 8 24) (fun L => []) hp16 ⟨
        oA,
        trivial⟩ (fun L16 w17 hp17 => ?_)
      refine k29 _ _ ?_
      refine wp_seq_k (fun K30 k30 => ?_)
      refine wp_seq_k (fun K31 k31 => ?_)
      refine gs [.det (.int .i64 0)] [0] [0] (fun L => [d 0, .slice p (pl m).length c, .int .u64 ((m + 2 : Nat) : Int), .bool true, .int .i64 0, .slice p (pl m).length c, .int .i64 ((pl m).length), .bool true] ++ D d 8 24) (fun L => []) hp17 ⟨
        oA,
        trivial⟩ (fun L17 w18 hp18 => ?_)
      refine k31 _ _ ?_
      refine wp_block_k (fun K32 k32 => ?_)
      refine wp_loop_ghost (piI W p c m) (pl m).length ⟨0, (fun zz => ([d 0, .slice p (pl m).length c, .int .u64 ((m + 2 : Nat) : Int), .bool true, .int .i64 0, .slice p (pl m).length c, .int .i64 ((pl m).length), .bool true] ++ D d 8 24 : List Value).getD zz undef), by kernel_rfl, Nat.zero_add _, hp18.bel⟩ ?_
      rintro L2 a2 X ⟨i, d2, rfl, hL2, hb2⟩
      have hx0 := Heap.start X
      by_cases hL20 : L2 = 0
      rotate_left
      · skip
        have hi : i < (pl m).length := by omega
        obtain ⟨b, rfl, hBb, hcell⟩ := hat (by omega)
        obtain ⟨q, hq⟩ : ∃ q, (pl m)[i]? = some q := ⟨(pl m)[i], List.getElem?_eq_getElem hi⟩
        have hqp := (pl_pos m q (List.mem_of_getElem? hq)).1
        have hst := all_take (fun p => !decide ((m + 2) % p = 0)) hq
        have hcq := hcell i q hq
        cases ha : ((pl m).take i).all (fun p => !decide ((m + 2) % p = 0)) <;> rw [ha] at hst
        · skip
          refine wp_seq_k (fun K33 k33 => ?_)
          refine wp_seq_k (fun K34 k34 => ?_)
          refine gs [.det (.int .i64 ((i : Nat) : Int)), .det (.slice (some ⟨b, 0, none⟩) (pl m).length c), .det (.int .i64 ((pl m).length)), .det (.bool true)] [0, 1, 2, 3] [0, 0, 2, 7] (fun L => [d2 0, .slice (some ⟨b, 0, none⟩) (pl m).length c, .int .u64 ((m + 2 : Nat) : Int), .bool false, .int .i64 ((i : Nat) : Int)] ++ (D d2 5 5 ++ ([.int .i64 ((i : Nat) : Int), .slice (some ⟨b, 0, none⟩) (pl m).length c, .int .i64 ((pl m).length), .bool true] ++ D d2 14 18))) (fun L => []) hx0 ⟨
            oM, oM, fun h => ⟨ob_len (p := (some ⟨b, 0, none⟩)) (n := (pl m).length) (c := c) (fun _ => rfl) h rfl (fun _ => by kernel_rfl) Try.underlying51⟩,
            oJ .i64 .i64 ((i : Nat) : Int) ((pl m).length) (h := fun w => (lssI _ _ _ w).trans (by rw [decide_eq_true (by omega)])),
            trivial⟩ (fun L18 w19 hp19 => ?_)
          refine k34 _ _ ?_
          refine wp_cond_true (by kernel_rfl) ?_
          refine skips ?_
          refine k33 _ _ ?_
          refine wp_seq_k (fun K35 k35 => ?_)
          refine wp_block_k (fun K36 k36 => ?_)
          refine gs [.det (.bool false), .det (.bool false), .det undef, .det undef, .det undef, .det undef, .det undef, .det undef, .det undef, .det (.bool false), .det (.bool false)] [0, 1, 2, 3, 4, 5, 6, 7, 8, 9, 10] [0, 1, 3, 3, 3, 27, 59, 127, 255, 511, 1023] (fun L => [d2 0, .slice (some ⟨b, 0, none⟩) (pl m).length c, .int .u64 ((m + 2 : Nat) : Int), .bool false, .int .i64 ((i : Nat) : Int)] ++ (D d2 5 5 ++ ([.int .i64 ((i : Nat) : Int), .slice (some ⟨b, 0, none⟩) (pl m).length c, .int .i64 ((pl m).length), .bool true] ++ (D d2 14 2 ++ ([.bool false, .bool false] ++ (U 7 ++ ([.bool false] ++ D d2 26 6))))))) (fun L => []) hp19 ⟨
            oM, oM, oS, oS, oS, oS, oS, oS, oS, oP, oA,
            trivial⟩ (fun L19 w20 hp20 => ?_)
          refine k36 _ _ _ ?_
          refine block_normal ?_
          refine k35 _ _ ?_
          refine gs [.det (.int .i64 ((i : Nat) : Int)), .det (.int .i64 ((i + 1 : Nat) : Int)), .det (.int .i64 ((i + 1 : Nat) : Int))] [0, 1, 2] [0, 1, 3] (fun L => [d2 0, .slice (some ⟨b, 0, none⟩) (pl m).length c, .int .u64 ((m + 2 : Nat) : Int), .bool false, .int .i64 ((i + 1 : Nat) : Int)] ++ (D d2 5 5 ++ ([.int .i64 ((i : Nat) : Int), .slice (some ⟨b, 0, none⟩) (pl m).length c, .int .i64 ((pl m).length), .bool true, .int .i64 ((i : Nat) : Int), .int .i64 ((i + 1 : Nat) : Int), .bool false, .bool false] ++ (U 7 ++ ([.bool false] ++ D d2 26 6))))) (fun L => []) hp20 ⟨
            oM, oJ .i64 .i64 ((i : Nat) : Int) 1 (h := fun w => add1N _ i (by omega) w), oA,
            trivial⟩ (fun L20 w21 hp21 => ?_)
          exact ⟨L2 - 1, by omega, i + 1, (fun zz => ([d2 0, .slice (some ⟨b, 0, none⟩) (pl m).length c, .int .u64 ((m + 2 : Nat) : Int), .bool false, .int .i64 ((i + 1 : Nat) : Int)] ++ (D d2 5 5 ++ ([.int .i64 ((i : Nat) : Int), .slice (some ⟨b, 0, none⟩) (pl m).length c, .int .i64 ((pl m).length), .bool true, .int .i64 ((i : Nat) : Int), .int .i64 ((i + 1 : Nat) : Int), .bool false, .bool false] ++ (U 7 ++ ([.bool false] ++ D d2 26 6)))) : List Value).getD zz undef), by rw [hst]; kernel_rfl, by omega, hb2.trans (hp21.bel.mono hb2.size)⟩
        · skip
          refine wp_seq_k (fun K37 k37 => ?_)
          refine wp_seq_k (fun K38 k38 => ?_)
          refine gs [.det (.int .i64 ((i : Nat) : Int)), .det (.slice (some ⟨b, 0, none⟩) (pl m).length c), .det (.int .i64 ((pl m).length)), .det (.bool true)] [0, 1, 2, 3] [0, 0, 2, 7] (fun L => [d2 0, .slice (some ⟨b, 0, none⟩) (pl m).length c, .int .u64 ((m + 2 : Nat) : Int), .bool true, .int .i64 ((i : Nat) : Int)] ++ (D d2 5 5 ++ ([.int .i64 ((i : Nat) : Int), .slice (some ⟨b, 0, none⟩) (pl m).length c, .int .i64 ((pl m).length), .bool true] ++ D d2 14 18))) (fun L => []) hx0 ⟨
            oM, oM, fun h => ⟨ob_len (p := (some ⟨b, 0, none⟩)) (n := (pl m).length) (c := c) (fun _ => rfl) h rfl (fun _ => by kernel_rfl) Try.underlying51⟩,
            oJ .i64 .i64 ((i : Nat) : Int) ((pl m).length) (h := fun w => (lssI _ _ _ w).trans (by rw [decide_eq_true (by omega)])),
            trivial⟩ (fun L21 w22 hp22 => ?_)
          refine k38 _ _ ?_
          refine wp_cond_true (by kernel_rfl) ?_
          refine skips ?_
          refine k37 _ _ ?_
          refine wp_seq_k (fun K39 k39 => ?_)
          refine wp_block_k (fun K40 k40 => ?_)
          refine gs [.det (.bool true), .det (.bool true), .det (.int .u64 ((m + 2 : Nat) : Int)), .det (.slice (some ⟨b, 0, none⟩) (pl m).length c), .det (.int .i64 ((i : Nat) : Int)), .det (.pointer (some ⟨b, 0 + i * 1, none⟩)), .det (.int .u64 ((q : Nat) : Int)), .det (.int .u64 (((m + 2) % q : Nat) : Int)), .det (.bool (!decide ((m + 2) % q = 0))), .det (.bool (!decide ((m + 2) % q = 0))), .det (.bool (!decide ((m + 2) % q = 0)))] [0, 1, 2, 3, 4, 5, 6, 7, 8, 9, 10] [0, 1, 3, 3, 3, 27, 59, 127, 255, 511, 1023] (fun L => [d2 0, .slice (some ⟨b, 0, none⟩) (pl m).length c, .int .u64 ((m + 2 : Nat) : Int), .bool (!decide ((m + 2) % q = 0)), .int .i64 ((i : Nat) : Int)] ++ (D d2 5 5 ++ ([.int .i64 ((i : Nat) : Int), .slice (some ⟨b, 0, none⟩) (pl m).length c, .int .i64 ((pl m).length), .bool true] ++ (D d2 14 2 ++ ([.bool true, .bool true, .int .u64 ((m + 2 : Nat) : Int), .slice (some ⟨b, 0, none⟩) (pl m).length c, .int .i64 ((i : Nat) : Int), .pointer (some ⟨b, 0 + i * 1, none⟩), .int .u64 ((q : Nat) : Int), .int .u64 (((m + 2) % q : Nat) : Int), .bool (!decide ((m + 2) % q = 0)), .bool (!decide ((m + 2) % q = 0))] ++ D d2 26 6))))) (fun L => []) hp22 ⟨
            oM, oM, oM, oM, oM, oIS (n := (pl m).length) (c := c) i Try.underlying51 oneU.size hi, oLC oneU (fun L w hs => cell_up (cell_up hcq hb2) hs.bel),
            oJ .u64 .u64 ((m + 2 : Nat) : Int) ((q : Nat) : Int) (h := fun w => remU _ (m + 2) q hqp w), oJ .u64 .u64 (((m + 2) % q : Nat) : Int) 0 (h := fun w => neqU _ ((m + 2) % q) 0 w),
            oP, oA,
            trivial⟩ (fun L22 w23 hp23 => ?_)
          refine k40 _ _ _ ?_
          refine block_normal ?_
          refine k39 _ _ ?_
          refine gs [.det (.int .i64 ((i : Nat) : Int)), .det (.int .i64 ((i + 1 : Nat) : Int)), .det (.int .i64 ((i + 1 : Nat) : Int))] [0, 1, 2] [0, 1, 3] (fun L => [d2 0, .slice (some ⟨b, 0, none⟩) (pl m).length c, .int .u64 ((m + 2 : Nat) : Int), .bool (!decide ((m + 2) % q = 0)), .int .i64 ((i + 1 : Nat) : Int)] ++ (D d2 5 5 ++ ([.int .i64 ((i : Nat) : Int), .slice (some ⟨b, 0, none⟩) (pl m).length c, .int .i64 ((pl m).length), .bool true, .int .i64 ((i : Nat) : Int), .int .i64 ((i + 1 : Nat) : Int), .bool true, .bool true, .int .u64 ((m + 2 : Nat) : Int), .slice (some ⟨b, 0, none⟩) (pl m).length c, .int .i64 ((i : Nat) : Int), .pointer (some ⟨b, 0 + i * 1, none⟩), .int .u64 ((q : Nat) : Int), .int .u64 (((m + 2) % q : Nat) : Int), .bool (!decide ((m + 2) % q = 0)), .bool (!decide ((m + 2) % q = 0))] ++ D d2 26 6))) (fun L => []) hp23 ⟨
            oM, oJ .i64 .i64 ((i : Nat) : Int) 1 (h := fun w => add1N _ i (by omega) w), oA,
            trivial⟩ (fun L23 w24 hp24 => ?_)
          exact ⟨L2 - 1, by omega, i + 1, (fun zz => ([d2 0, .slice (some ⟨b, 0, none⟩) (pl m).length c, .int .u64 ((m + 2 : Nat) : Int), .bool (!decide ((m + 2) % q = 0)), .int .i64 ((i + 1 : Nat) : Int)] ++ (D d2 5 5 ++ ([.int .i64 ((i : Nat) : Int), .slice (some ⟨b, 0, none⟩) (pl m).length c, .int .i64 ((pl m).length), .bool true, .int .i64 ((i : Nat) : Int), .int .i64 ((i + 1 : Nat) : Int), .bool true, .bool true, .int .u64 ((m + 2 : Nat) : Int), .slice (some ⟨b, 0, none⟩) (pl m).length c, .int .i64 ((i : Nat) : Int), .pointer (some ⟨b, 0 + i * 1, none⟩), .int .u64 ((q : Nat) : Int), .int .u64 (((m + 2) % q : Nat) : Int), .bool (!decide ((m + 2) % q = 0)), .bool (!decide ((m + 2) % q = 0))] ++ D d2 26 6)) : List Value).getD zz undef), by rw [hst]; kernel_rfl, by omega, hb2.trans (hp24.bel.mono hb2.size)⟩
      obtain rfl : i = (pl m).length := by omega
      rw [List.take_length, hall]
      have hOwn := hOwn.below hb2
      have hbel := hbel.trans (hb2.mono hbel.size)
      have hB := hbel.size
      refine wp_seq_k (fun K41 k41 => ?_)
      refine wp_seq_k (fun K42 k42 => ?_)
      refine gs [.det (.int .i64 (((pl m).length : Nat) : Int)), .det (.slice p (pl m).length c), .det (.int .i64 ((pl m).length)), .det (.bool false)] [0, 1, 2, 3] [0, 0, 2, 7] (fun L => [d2 0, .slice p (pl m).length c, .int .u64 ((m + 2 : Nat) : Int), .bool true, .int .i64 (((pl m).length : Nat) : Int)] ++ (D d2 5 5 ++ ([.int .i64 (((pl m).length : Nat) : Int), .slice p (pl m).length c, .int .i64 ((pl m).length), .bool false] ++ D d2 14 18))) (fun L => []) hx0 ⟨
        oM, oM, fun h => ⟨ob_len (p := p) (n := (pl m).length) (c := c) (fun _ => rfl) h rfl (fun _ => by kernel_rfl) Try.underlying51⟩, oJ .i64 .i64 (((pl m).length : Nat) : Int) ((pl m).length) (h := fun w => (lssI _ _ _ w).trans (by rw [decide_eq_false (by omega)])),
        trivial⟩ (fun L24 w25 hp25 => ?_)
      refine k42 _ _ ?_
      refine wp_cond_false (by kernel_rfl) ?_
      refine wp_exit ?_
      refine then_exit ?_
      refine then_exit ?_
      refine k32 _ _ _ ?_
      refine exit_in ?_
      refine k30 _ _ ?_
      refine wp_seq_k (fun K43 k43 => ?_)
      refine gs [.det (.bool true)] [0] [0] (fun L => [d2 0, .slice p (pl m).length c, .int .u64 ((m + 2 : Nat) : Int), .bool true, .int .i64 (((pl m).length : Nat) : Int)] ++ (D d2 5 5 ++ ([.int .i64 (((pl m).length : Nat) : Int), .slice p (pl m).length c, .int .i64 ((pl m).length), .bool false] ++ (D d2 14 12 ++ ([.bool true] ++ D d2 27 5))))) (fun L => []) hp25 ⟨
        oM,
        trivial⟩ (fun L25 w26 hp26 => ?_)
      refine k43 _ _ ?_
      refine wp_cond_true (by kernel_rfl) ?_
      refine wp_region_list ?_
      refine gsC 3 [.det (.slice p (pl m).length c), .det (.int .u64 ((m + 2 : Nat) : Int)), .any (isOne ((m + 2 : Nat) : Int))] [0, 1, 2] [0, 1, 3] (fun L _ => [d2 0, .slice p (pl m).length c, .int .u64 ((m + 2 : Nat) : Int), .bool true, .int .i64 (((pl m).length : Nat) : Int), d2 5, d2 6, d2 7, d2 8, d2 9, .int .i64 (((pl m).length : Nat) : Int), .slice p (pl m).length c, .int .i64 ((pl m).length), .bool false, d2 14, d2 15, d2 16, d2 17, d2 18, d2 19, d2 20, d2 21, d2 22, d2 23, d2 24, d2 25, .bool true, .slice p (pl m).length c, .int .u64 ((m + 2 : Nat) : Int), L.v 2, d2 30, d2 31]) (fun L => []) hp26 ⟨
        oM, oM, oS1 Try.underlying51 (by kernel_rfl) (by kernel_rfl),
        trivial⟩ (fun L26 _ w27 hp27 ha27 => ?_)
      obtain ⟨ky, ey, hy⟩ := AnyF.at (ha27 (by kernel_rfl)) (j := 2) rfl rfl
      rw [ey]
      refine oneL rfl rfl (wp_appendU (.tmp 27) (.tmp 29) rfl (v := .slice p (pl m).length c) (u := .slice (some ⟨ky, 0, none⟩) 1 1) (n := m + 2) (by kernel_rfl) (hOwn.below hp27.bel) (by kernel_rfl) ⟨ky, rfl, hy⟩ (by omega) (Nat.le_trans hB hp27.bel.size) (fun v2 x2 ho2 hb2 => ?_))
      have hbel2 := hbel.trans ((hp27.bel.mono hbel.size).trans hb2)
      have hq1 := Heap.start x2
      refine gsC 1 [.det (v2)] [0] [0] (fun L _ => [d2 0, v2, .int .u64 ((m + 2 : Nat) : Int), .bool true, .int .i64 (((pl m).length : Nat) : Int), d2 5, d2 6, d2 7, d2 8, d2 9, .int .i64 (((pl m).length : Nat) : Int), .slice p (pl m).length c, .int .i64 ((pl m).length), .bool false, d2 14, d2 15, d2 16, d2 17, d2 18, d2 19, d2 20, d2 21, d2 22, d2 23, d2 24, d2 25, .bool true, .slice p (pl m).length c, .int .u64 ((m + 2 : Nat) : Int), .slice (some ⟨ky, 0, none⟩) 1 1, v2, d2 31]) (fun L => []) hq1 ⟨
        oA,
        trivial⟩ (fun L27 _ w28 hp28 ha28 => ?_)
      refine wpList_nil ?_
      refine k28 _ _ _ ?_
      refine block_normal ?_
      refine k27 _ _ ?_
      refine gs [.det (.int .u64 ((m + 2 : Nat) : Int)), .det (.int .u64 ((m + 1 + 2 : Nat) : Int)), .det (.int .u64 ((m + 1 + 2 : Nat) : Int))] [0, 1, 2] [0, 1, 3] (fun L => [d2 0, v2, .int .u64 ((m + 1 + 2 : Nat) : Int), .bool true, .int .i64 (((pl m).length : Nat) : Int)] ++ (D d2 5 3 ++ ([.int .u64 ((m + 2 : Nat) : Int), .int .u64 ((m + 1 + 2 : Nat) : Int), .int .i64 (((pl m).length : Nat) : Int), .slice p (pl m).length c, .int .i64 ((pl m).length), .bool false] ++ (D d2 14 12 ++ [.bool true, .slice p (pl m).length c, .int .u64 ((m + 2 : Nat) : Int), .slice (some ⟨ky, 0, none⟩) 1 1, v2, d2 31])))) (fun L => []) hp28 ⟨
        oM, oJ .u64 .u64 ((m + 2 : Nat) : Int) 1 (h := fun w => addU _ (m + 2) 1 (by omega) w), oA,
        trivial⟩ (fun L28 w29 hp29 => ?_)
      exact ⟨L - 1, by omega, m + 1, (fun zz => ([d2 0, v2, .int .u64 ((m + 1 + 2 : Nat) : Int), .bool true, .int .i64 (((pl m).length : Nat) : Int)] ++ (D d2 5 3 ++ ([.int .u64 ((m + 2 : Nat) : Int), .int .u64 ((m + 1 + 2 : Nat) : Int), .int .i64 (((pl m).length : Nat) : Int), .slice p (pl m).length c, .int .i64 ((pl m).length), .bool false] ++ (D d2 14 12 ++ [.bool true, .slice p (pl m).length c, .int .u64 ((m + 2 : Nat) : Int), .slice (some ⟨ky, 0, none⟩) 1 1, v2, d2 31]))) : List Value).getD zz undef), _, by kernel_rfl, by omega, by rw [hs]; exact ho2.below hp29.bel, hbel2.trans (hp29.bel.mono hbel2.size)⟩
  obtain rfl : m = 310 := by omega
  have hlen : (pl 310).length = 64 := by rw [pl_all]; rfl
  refine wp_seq_k (fun K44 k44 => ?_)
  refine wp_seq_k (fun K45 k45 => ?_)
  refine gs [.det (.slice p (pl 310).length c), .det (.int .i64 ((pl 310).length)), .det (.bool false)] [0, 1, 2] [0, 1, 3] (fun L => [d 0, .slice p (pl 310).length c, .int .u64 ((310 + 2 : Nat) : Int)] ++ (D d 3 2 ++ ([.slice p (pl 310).length c, .int .i64 ((pl 310).length), .bool false] ++ D d 8 24))) (fun L => []) hp0 ⟨
    oM, fun h => ⟨ob_len (p := p) (n := (pl 310).length) (c := c) (fun _ => rfl) h rfl (fun _ => by kernel_rfl) Try.underlying51⟩, oJ .i64 .i64 ((pl 310).length) 64 (h := fun w => (lssI _ _ _ w).trans (by rw [decide_eq_false (by omega)])),
    trivial⟩ (fun L29 w30 hp30 => ?_)
  refine k45 _ _ ?_
  refine wp_cond_false (by kernel_rfl) ?_
  refine wp_exit ?_
  refine then_exit ?_
  refine then_exit ?_
  refine k5 _ _ _ ?_
  refine exit_in ?_
  refine k3 _ _ ?_
  refine wp_seq_k (fun K46 k46 => ?_)
  refine gs [.det (.slice p (pl 310).length c), .det (.slice p (pl 310).length c)] [0, 1] [0, 1] (fun L => [.slice p (pl 310).length c, .slice p (pl 310).length c, .int .u64 ((310 + 2 : Nat) : Int)] ++ (D d 3 2 ++ ([.slice p (pl 310).length c, .int .i64 ((pl 310).length), .bool false] ++ (D d 8 23 ++ [.slice p (pl 310).length c])))) (fun L => []) hp30 ⟨
    oM, oA,
    trivial⟩ (fun L30 w31 hp31 => ?_)
  refine k46 _ _ ?_
  refine wp_ret ?_
  refine bodyPost_ret (v := .slice p (pl 310).length c) ?_ rfl ?_
  · exact res_t rfl (by kernel_rfl) _
  · exact ⟨_, rfl, by rw [← pl_all]; exact hOwn.below hp31.bel, hbel.trans (hp31.bel.mono hbel.size)⟩
end Go.Proofs.Ytccidmogamnihaa.fpn
