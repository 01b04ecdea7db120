/- Words of 32 bits: what operations make of them. No program is named here. -/
import Derived.Test.YtklddcicfeakfaaPR
import Derived.Test.YtklddcicfeakfaaPYZ
namespace Go.Proofs.Ytklddcicfeakfaa.Pl
open Go Go.RowKit
set_option linter.unusedVariables false
set_option linter.unusedSimpArgs false
section
variable {P : Program}
/-- A word; a byte. -/
def W32 (x : BitVec 32) : Value := .int .u32 (x.toNat : Int)
def W8 (x : BitVec 8) : Value := .int .u8 (x.toNat : Int)
theorem w_of (x : BitVec 32) : BitVec.ofInt 32 (x.toNat : Int) = x := by
  rw [BitVec.ofInt_natCast, BitVec.ofNat_toNat, BitVec.setWidth_eq]
theorem w_wrap (x : BitVec 32) : IntKind.u32.wrap (x.toNat : Int) = (x.toNat : Int) := by
  have := x.isLt
  unfold IntKind.wrap; simp [IntKind.bits, IntKind.signed]
  omega
theorem addW (t : TypeId) (x y : BitVec 32) (w : World) : (binOp .add t (W32 x) (W32 y)).run P w = .ok (W32 (x + y)) w := by
  have e : IntKind.u32.wrap ((x.toNat : Int) + (y.toNat : Int)) = ((x + y).toNat : Int) := by
    rw [BitVec.toNat_add]
    unfold IntKind.wrap; simp [IntKind.bits, IntKind.signed]
  unfold W32
  simp only [binOp, Op.intArith, e]; simp [Sem.run_bind, e]
theorem xorW (t : TypeId) (x y : BitVec 32) (w : World) : (binOp .xor t (W32 x) (W32 y)).run P w = .ok (W32 (x ^^^ y)) w := by
  have e : bits .xor .u32 (x.toNat : Int) (y.toNat : Int) = ((x ^^^ y).toNat : Int) := by
    show IntKind.u32.wrap (BitVec.ofInt 32 (x.toNat : Int) ^^^ BitVec.ofInt 32 (y.toNat : Int)).toNat = _
    rw [w_of, w_of, w_wrap]
  unfold W32
  simp [binOp, Sem.run_bind, Op.intBits]
  exact e
theorem andW (t : TypeId) (x y : BitVec 32) (w : World) : (binOp .and t (W32 x) (W32 y)).run P w = .ok (W32 (x &&& y)) w := by
  have e : bits .and .u32 (x.toNat : Int) (y.toNat : Int) = ((x &&& y).toNat : Int) := by
    show IntKind.u32.wrap (BitVec.ofInt 32 (x.toNat : Int) &&& BitVec.ofInt 32 (y.toNat : Int)).toNat = _
    rw [w_of, w_of, w_wrap]
  unfold W32
  simp [binOp, Sem.run_bind, Op.intBits]
  exact e
theorem orW (t : TypeId) (x y : BitVec 32) (w : World) : (binOp .or t (W32 x) (W32 y)).run P w = .ok (W32 (x ||| y)) w := by
  have e : bits .or .u32 (x.toNat : Int) (y.toNat : Int) = ((x ||| y).toNat : Int) := by
    show IntKind.u32.wrap (BitVec.ofInt 32 (x.toNat : Int) ||| BitVec.ofInt 32 (y.toNat : Int)).toNat = _
    rw [w_of, w_of, w_wrap]
  unfold W32
  simp [binOp, Sem.run_bind, Op.intBits]
  exact e
theorem andNotW (t : TypeId) (x y : BitVec 32) (w : World) : (binOp .andNot t (W32 x) (W32 y)).run P w = .ok (W32 (x &&& ~~~y)) w := by
  have e : bits .andNot .u32 (x.toNat : Int) (y.toNat : Int) = ((x &&& ~~~y).toNat : Int) := by
    show IntKind.u32.wrap (BitVec.ofInt 32 (x.toNat : Int) &&& ~~~BitVec.ofInt 32 (y.toNat : Int)).toNat = _
    rw [w_of, w_of, w_wrap]
  unfold W32
  rw [← e]; rfl
/-- The complement. -/
theorem notU (x : BitVec 32) (w : World) : (Op.unary .xor (W32 x)).run P w = .ok (W32 (~~~x)) w := by
  have e : bits .xor .u32 4294967295 (x.toNat : Int) = ((~~~x).toNat : Int) := by
    show IntKind.u32.wrap (BitVec.ofInt 32 4294967295 ^^^ BitVec.ofInt 32 (x.toNat : Int)).toNat = _
    rw [w_of, w_wrap, show BitVec.ofInt 32 4294967295 = BitVec.allOnes 32 by decide, BitVec.allOnes_xor]
  unfold W32
  rw [← e]; rfl
theorem shrW (t : TypeId) (x : BitVec 32) (k : IntKind) (n : Nat) (hn : n ≤ 32) (w : World) : (binOp .shr t (W32 x) (.int k (n : Int))).run P w = .ok (W32 (x >>> n)) w := by
  have e : (x.toNat : Int) / 2 ^ n = ((x >>> n).toNat : Int) := by
    rw [BitVec.toNat_ushiftRight, Nat.shiftRight_eq_div_pow]
    simp
  unfold W32
  simp [binOp, Sem.run_bind, shift_shr .u32 k _ _ (Int.natCast_nonneg n) (by simp [IntKind.bits]; omega), e]
theorem shlW (t : TypeId) (x : BitVec 32) (k : IntKind) (n : Nat) (hn : n ≤ 32) (w : World) : (binOp .shl t (W32 x) (.int k (n : Int))).run P w = .ok (W32 (x <<< n)) w := by
  have e : IntKind.u32.wrap ((x.toNat : Int) * 2 ^ n) = ((x <<< n).toNat : Int) := by
    rw [BitVec.toNat_shiftLeft, Nat.shiftLeft_eq]
    unfold IntKind.wrap; simp [IntKind.bits, IntKind.signed]
  unfold W32
  simp [binOp, Sem.run_bind, shift_shl .u32 k _ _ (Int.natCast_nonneg n) (by simp [IntKind.bits]; omega), e]
/-- A byte, a number, as a word. -/
def zx (x : Int) : BitVec 32 := BitVec.ofInt 32 x
theorem zx_val {x : Int} (h0 : 0 ≤ x) (h1 : x < 4294967296) : ((zx x).toNat : Int) = x := by
  unfold zx
  rw [BitVec.toNat_ofInt]
  omega
theorem zx_w {x : Int} (h0 : 0 ≤ x) (h1 : x < 4294967296) : W32 (zx x) = .int .u32 x := by unfold W32; rw [zx_val h0 h1]
theorem wrap32 {x : Int} (h0 : 0 ≤ x) (h1 : x < 4294967296) : IntKind.u32.wrap x = x := by
  unfold IntKind.wrap; simp [IntKind.bits, IntKind.signed]; omega
theorem wrap32_zx (x : Int) : IntKind.u32.wrap x = ((zx x).toNat : Int) := by
  unfold zx
  rw [BitVec.toNat_ofInt]
  unfold IntKind.wrap; simp [IntKind.bits, IntKind.signed]; omega
/-- A word turned to the right. -/
def rot (x : BitVec 32) (n : Nat) : BitVec 32 := x >>> n ||| x <<< (32 - n)
/-- A function that is another one at one place. -/
def wup {α : Type} (f : Nat → α) (i : Nat) (x : α) : Nat → α := fun j => bif Nat.beq j i then x else f j
theorem wup_at {α : Type} (f : Nat → α) (i : Nat) (x : α) : wup f i x i = x := by unfold wup; rw [show Nat.beq i i = true by simp]; rfl
theorem wup_ne {α : Type} {f : Nat → α} {i j : Nat} {x : α} (h : j ≠ i) : wup f i x j = f j := by unfold wup; rw [show Nat.beq j i = false by cases hh : Nat.beq j i with | false => rfl | true => exact absurd (Nat.eq_of_beq_eq_true hh) h]; rfl
/-- Eight words. -/
def mk8 {α : Type} (a b c d e f g h : α) : Nat → α
  | 0 => a
  | 1 => b
  | 2 => c
  | 3 => d
  | 4 => e
  | 5 => f
  | 6 => g
  | _ => h
/-- The cells of words. -/
def AW (h : Nat → BitVec 32) (n : Nat) : List Value := (List.range n).map fun j => W32 (h j)
def VW (h : Nat → BitVec 32) (n : Nat) : Value := .agg (AW h n).toArray
theorem AW_len (f : Nat → BitVec 32) (n : Nat) : (AW f n).length = n := by simp [AW]
theorem AW_at {f : Nat → BitVec 32} {n j : Nat} (hj : j < n) : (AW f n)[j]? = some (W32 (f j)) := by simp [AW, hj]
theorem AW_congr {f g : Nat → BitVec 32} {n : Nat} (h : ∀ j, j < n → f j = g j) : AW f n = AW g n := by
  unfold AW
  refine List.map_congr_left fun j hj => ?_
  rw [h j (by simpa using hj)]
theorem splice_AW (f : Nat → BitVec 32) {n j : Nat} (v : BitVec 32) (hj : j < n) : AW (wup f j v) n = Pl.splice (AW f n) (0 + j * 1) [W32 v] := by
  rw [Nat.zero_add, Nat.mul_one]
  unfold Pl.splice
  rw [List.append_assoc]
  refine List.ext_getElem? fun i => ?_
  have l1 : (List.take j (AW f n)).length = j := by rw [List.length_take, AW_len]; omega
  rcases Nat.lt_or_ge i n with hi | hi
  · rw [AW_at hi]
    rcases Nat.lt_trichotomy i j with h | h | h
    · rw [List.getElem?_append_left (by rw [l1]; exact h), List.getElem?_take_of_lt h, AW_at hi, wup_ne (by omega)]
    · subst h
      rw [List.getElem?_append_right (by rw [l1]; exact Nat.le_refl _), l1, Nat.sub_self, wup_at]; rfl
    · rw [List.getElem?_append_right (by rw [l1]; omega), l1, List.getElem?_append_right (by show 1 ≤ i - j; omega), List.getElem?_drop, wup_ne (by omega)]
      show _ = (AW f n)[j + 1 + (i - j - 1)]?
      rw [show j + 1 + (i - j - 1) = i by omega, AW_at hi]
  · rw [List.getElem?_eq_none (by rw [AW_len]; exact hi), List.getElem?_eq_none]
    rw [List.length_append, List.length_append, l1, List.length_drop, AW_len]
    show j + (1 + (n - (j + 1))) ≤ i
    omega
end
end Go.Proofs.Ytklddcicfeakfaa.Pl
