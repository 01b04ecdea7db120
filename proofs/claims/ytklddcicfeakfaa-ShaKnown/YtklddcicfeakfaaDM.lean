/- Arrays held against themselves; what is asked of package sha. -/
import Derived.Test.YtklddcicfeakfaaDL
namespace Go.Proofs.Ytklddcicfeakfaa.fpn
open Go.RowKit Pl
set_option linter.unusedVariables false
set_option linter.unusedSimpArgs false
set_option maxRecDepth 4000

theorem forIn_stay {β : Type} {init : β} {f : Nat → β → Sem (ForInStep β)} {w : World} : ∀ {l : List Nat}, (∀ i ∈ l, (f i init).run Try.prog w = .ok (.yield init) w) → (forIn l init f).run Try.prog w = .ok init w
  | [], _ => rfl
  | i :: l, h => by
    rw [List.forIn_cons, Sem.run_bind, h i (List.mem_cons_self)]
    exact forIn_stay fun j hj => h j (List.mem_cons_of_mem _ hj)
theorem eq_self {d : Nat} {t e : TypeId} {n : Nat} {cs : Array Value} {w : World} (hu : Try.prog.underlying t = some (.array n e)) (hs : (sizeOf e).run Try.prog w = .ok 1 w)
    (hp : ∀ i, i < n → ∃ v, (part e cs (i * 1)).run Try.prog w = .ok v w ∧ (Op.equalIn (d + 1) e v v).run Try.prog w = .ok true w) : (Op.equalIn (d + 2) t (.agg cs) (.agg cs)).run Try.prog w = .ok true w := by
  rw [show d + 2 = (d + 1) + 1 from rfl, Op.equalIn.eq_def]
  simp only [Sem.run_bind, run_underlying hu, Result.andThen_ok, hs]
  simp only [Std.Legacy.Range.forIn_eq_forIn_range', Std.Legacy.Range.size, Nat.sub_zero, Nat.add_sub_cancel, Nat.div_one]
  rw [forIn_stay]
  · rfl
  · intro i hi
    have hi : i < n := by simpa using hi
    obtain ⟨v, h1, h2⟩ := hp i hi
    rw [Nat.mul_one] at h1
    simp [Sem.run_bind, h1, h2]
theorem eqByte (d : Nat) (x : Int) (w : World) : (Op.equalIn (d + 1) 5 (.int .u8 x) (.int .u8 x)).run Try.prog w = .ok true w := by
  rw [Op.equalIn.eq_def]
  simp [Sem.run_bind, run_underlying Try.underlying5]
theorem eqWord (d : Nat) (x : BitVec 32) (w : World) : (Op.equalIn (d + 1) 23 (W32 x) (W32 x)).run Try.prog w = .ok true w := by
  unfold W32
  rw [Op.equalIn.eq_def]
  simp [Sem.run_bind, run_underlying Try.underlying23]
theorem guardA (op : BinOp) (x y : Operand) (a b : Array Value) (w : World) : (eqGuard op 28 x y (.agg a) (.agg b)).run Try.prog w = .ok () w := by
  have h : Try.prog.eqGuardType Try.prog.depth 28 = false := by kernel_rfl
  unfold eqGuard
  cases op <;> simp [Sem.run_bind, h]
theorem guardA8 (op : BinOp) (x y : Operand) (a b : Array Value) (w : World) : (eqGuard op 24 x y (.agg a) (.agg b)).run Try.prog w = .ok () w := by
  have h : Try.prog.eqGuardType Try.prog.depth 24 = false := by kernel_rfl
  unfold eqGuard
  cases op <;> simp [Sem.run_bind, h]
theorem eqlA (f : Nat → Int) (w : World) : (binOp .eql 28 (VB f 32) (VB f 32)).run Try.prog w = .ok (.bool true) w := by
  have e := eq_self (d := 9998) (cs := (BC f 32).toArray) (w := w) Try.underlying28 (size_of sizeY w) (fun i hi => ⟨.int .u8 (f i), by
    rw [Nat.mul_one]
    simp [part, Sem.run_bind, Try.isAgg5, BC, hi], eqByte _ _ w⟩)
  unfold VB
  simp [binOp, Sem.run_bind, Op.equal, Op.maxDepth, e]
theorem eqlA8 (f : Nat → BitVec 32) (w : World) : (binOp .eql 24 (VW f 8) (VW f 8)).run Try.prog w = .ok (.bool true) w := by
  have e := eq_self (d := 9998) (cs := (AW f 8).toArray) (w := w) Try.underlying24 (size_of sizeW w) (fun i hi => ⟨W32 (f i), by
    rw [Nat.mul_one]
    simp [part, Sem.run_bind, Try.isAgg23, AW, hi], eqWord _ _ w⟩)
  unfold VW
  simp [binOp, Sem.run_bind, Op.equal, Op.maxDepth, e]
/-- Only the bytes that are there count. -/
theorem pd_congr {g g' : Nat → Int} {n : Nat} (h : ∀ j, j < n → g j = g' j) : pd g n = pd g' n := by
  funext j
  unfold pd
  by_cases hj : j < n
  · rw [if_pos hj, if_pos hj, h j hj]
  · rw [if_neg hj, if_neg hj]
theorem dig_congr {g g' : Nat → Int} {n : Nat} (h : ∀ j, j < n → g j = g' j) : dig g n = dig g' n := by
  have e : ∀ j, hsx g n j = hsx g' n j := fun j => by
    induction j with
    | zero => rw [hsx_0, hsx_0]
    | succ j ih => rw [hsx_s, hsx_s, ih, pd_congr h]
  unfold dig; rw [e]
/-- What is asked of package sha. -/
structure ShaK : Prop where
  sum : ∀ (g : Nat → Int) (p : Option Addr) (n c : Nat) (w : World), n ≤ 400 → n ≤ c → AtK .u8 w p n g → (∀ j, j < n → 0 ≤ g j ∧ g j < 256) → Calls Try.prog 8 #[.slice p n c] w (Ret (VB (dig g n) 32) w)
  block : ∀ (h : Nat → BitVec 32) (c : Nat → Int) (w : World), (∀ i, i < 64 → 0 ≤ c i ∧ c i < 256) → Calls Try.prog 11 #[VW h 8, VB c 64] w (Ret (VW (blk h c (hz true 64)) 8) w)
end Go.Proofs.Ytklddcicfeakfaa.fpn
