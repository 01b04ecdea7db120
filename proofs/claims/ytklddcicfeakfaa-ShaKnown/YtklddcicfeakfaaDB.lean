/- Arrays of words and of bytes in a plan. -/
import Derived.Test.YtklddcicfeakfaaRZ
import Derived.Test.YtklddcicfeakfaaBZ
import Derived.Test.YtklddcicfeakfaaDA
import Derived.Test.YtklddcicfeakfaaPYZ
namespace Go.Proofs.Ytklddcicfeakfaa.fpn
open Go.RowKit Pl
set_option linter.unusedVariables false
set_option linter.unusedSimpArgs false
set_option maxRecDepth 4000

def VB (f : Nat → Int) (n : Nat) : Value := .agg (BC f n).toArray
theorem oneW : OneT Try.prog 23 := ⟨Try.isAgg23, by kernel_rfl⟩
theorem oneU : OneT Try.prog 39 := ⟨Try.isAgg39, by kernel_rfl⟩
theorem sizeW : (Try.prog.info? 23).map (·.size) = some 1 := by kernel_rfl
theorem rW8 : RowT Try.prog 24 8 (AW (fun _ => 0) 8) := ⟨⟨_, Try.underlying24, rfl⟩, by kernel_rfl, by kernel_rfl⟩
theorem rW64 : RowT Try.prog 40 64 (AW (fun _ => 0) 64) := ⟨⟨_, Try.underlying40, rfl⟩, by kernel_rfl, by kernel_rfl⟩
theorem rB64 : RowT Try.prog 25 64 (BC (fun _ => 0) 64) := ⟨⟨_, Try.underlying25, rfl⟩, by kernel_rfl, by kernel_rfl⟩
theorem rB32 : RowT Try.prog 28 32 (BC (fun _ => 0) 32) := ⟨⟨_, Try.underlying28, rfl⟩, by kernel_rfl, by kernel_rfl⟩
theorem aW8 : ArrT Try.prog 24 8 1 := ⟨⟨_, Try.underlying24, sizeW⟩⟩
theorem aW64 : ArrT Try.prog 40 64 1 := ⟨⟨_, Try.underlying40, sizeW⟩⟩
theorem aB64 : ArrT Try.prog 25 64 1 := ⟨⟨_, Try.underlying25, sizeY⟩⟩
theorem aB32 : ArrT Try.prog 28 32 1 := ⟨⟨_, Try.underlying28, sizeY⟩⟩
theorem build8 (a b c d e f g h : BitVec 32) (w : World) : (Instr.build 24 #[(0, W32 a), (1, W32 b), (2, W32 c), (3, W32 d), (4, W32 e), (5, W32 f), (6, W32 g), (7, W32 h)]).run Try.prog w = .ok (VW (mk8 a b c d e f g h) 8) w := run_build w _ _ _ (by kernel_rfl)
theorem convZ (a : Int) (h0 : 0 ≤ a) (h1 : a < 256) (w : World) : (convert 5 23 (.int .u8 a)).run Try.prog w = .ok (W32 (zx a)) w := by
  rw [zx_w h0 (by omega)]
  have e := wrap32 h0 (x := a) (by omega)
  simp [convert, run_underlying Try.underlying5, run_underlying Try.underlying23, Conv.intToInt, e, Sem.run_bind]
section
variable {ops : Array Oper} {ks : List Kind} {T : List Nat} {a0 : Act} {B : Nat} {w0 W0 : World} {H : List (Nat × List Value)} {i : Nat} {o : Oper}
/-- An address in an array, by a number. -/
theorem oIA {t : TypeId} {x ix : Operand} {b off n sz : Nat} {k : IntKind} (j : Nat) (hA : ArrT Try.prog t n sz) (hj : j < n) (hw : ∀ L, wantedR ks L o = true := by intro _; kernel_rfl) (ho : o.op = .indexAddr t x ix := by exact rfl)
    (hx : ∀ L, rd ops ks T a0 L i x = .pointer (some ⟨b, off, none⟩) := by intro _; kernel_rfl) (hi : ∀ L, rd ops ks T a0 L i ix = .int k (j : Int) := by intro _; kernel_rfl) (hk : kd ks i = .det (.pointer (some ⟨b, off + j * sz, none⟩))) : Obl Try.prog ops ks T a0 B w0 H i o := ⟨ob_pure hw hk fun L w => by
    obtain ⟨e, hu, hs⟩ := hA.und
    have hkn' : (0 : Int) ≤ (j : Int) ∧ (j : Int) < (n : Int) := ⟨by omega, by omega⟩
    unfold execOp
    simp [ho, hx L, hi L, Instr.indexAt, asIntOf, Sem.run_bind, run_underlying hu, Instr.sureAddr, hkn', hj, size_of hs, Addr.add_mid]⟩
/-- A load out of words of one's own, at a number. -/
theorem oLA {x : Operand} {b n j : Nat} {f : Nat → BitVec 32} (k : Nat) (hj : j < n) (he : Pl.early T ks i = true := by kernel_rfl) (hw : ∀ L, wantedR ks L o = true := by intro _; kernel_rfl) (ho : o.op = .load 23 x := by exact rfl)
    (hb : H[k]? = some (b, AW f n) := by exact rfl) (hx : ∀ L, rd ops ks T a0 L i x = .pointer (some ⟨b, 0 + j * 1, none⟩) := by intro _; kernel_rfl) (hk : kd ks i = .det (W32 (f j))) : Obl Try.prog ops ks T a0 B w0 H i o := ⟨ob_det hw hk fun L w hs => by
    have hc := (seen_at (hs he) hb).cells j _ (AW_at hj)
    have : (execOp (rd ops ks T a0 L i) o).run Try.prog w = .ok (.value (W32 (f j))) w := by
      unfold execOp
      simp only [ho, hx L, Sem.run_bind, Nat.mul_one, run_load1 oneW hc]
      rfl
    rw [this]
    exact ⟨rfl, Below.refl _ _⟩⟩
/-- A store into words of one's own, at a number. -/
theorem oTA {x y : Operand} {l : Pl.Loc} {j n : Nat} {f : Nat → BitVec 32} {v : BitVec 32} (hj : j < n) (hl : oldOf ks H l = AW f n := by kernel_rfl) (hw : ∀ L, wantedR ks L o = true := by intro _; kernel_rfl) (ho : o.op = .store 23 x y := by exact rfl)
    (hx : ∀ L, rd ops ks T a0 L i x = .pointer (some ⟨addr H L l, 0 + j * 1, none⟩) := by intro _; kernel_rfl) (hy : ∀ L, rd ops ks T a0 L i y = W32 v := by intro _; kernel_rfl) (hk : kd ks i = .store l (0 + j * 1) [W32 v] (AW (wup f j v) n)) : Obl Try.prog ops ks T a0 B w0 H i o :=
  oT1 oneW rfl hw ho hx hy rfl (by rw [hl, AW_len]; exact Nat.ble_eq_true_of_le (by omega)) (by rw [hl]; exact splice_AW f v hj) hk
theorem oLC {t : TypeId} {x : Operand} {v : Value} {b off : Nat} (hO : OneT Try.prog t) (hc : ∀ L w, Seen ks T B w0 H L i w → w.cell? ⟨b, off, none⟩ = some v) (he : Pl.early T ks i = true := by kernel_rfl) (hw : ∀ L, wantedR ks L o = true := by intro _; kernel_rfl) (ho : o.op = .load t x := by exact rfl)
    (hx : ∀ L, rd ops ks T a0 L i x = .pointer (some ⟨b, off, none⟩) := by intro _; kernel_rfl) (hk : kd ks i = .det v) : Obl Try.prog ops ks T a0 B w0 H i o := ⟨ob_det hw hk fun L w hs => by
    have : (execOp (rd ops ks T a0 L i) o).run Try.prog w = .ok (.value v) w := by
      unfold execOp
      simp only [ho, hx L, Sem.run_bind, run_load1 hO (hc L w (hs he))]
      rfl
    rw [this]
    exact ⟨rfl, Below.refl _ _⟩⟩
theorem ob_len {x : Operand} {t e : TypeId} {p : Option Addr} {n c : Nat} (hw : ∀ L, wantedR ks L o = true) (hk : kd ks i = .det (.int .i64 n)) (ho : o.op = .call { callee := .builtin .len, args := #[x], argTypes := #[t] })
    (hx : ∀ L, rd ops ks T a0 L i x = .slice p n c) (hu : Try.prog.underlying t = some (.slice e)) : Ob Try.prog ops ks T a0 B w0 H i o :=
  ob_pure hw hk fun L w => by
    unfold execOp
    simp [ho, resolve, hx L, invoke, builtin, Builtin.len_, Sem.run_bind, run_underlying hu w, goInt]
/-- The complement of a word. -/
theorem oWN {x : Operand} {t : TypeId} {v : BitVec 32} (hw : ∀ L, wantedR ks L o = true := by intro _; kernel_rfl) (ho : o.op = .unOp .xor t x := by exact rfl) (hx : ∀ L, rd ops ks T a0 L i x = W32 v := by intro _; kernel_rfl) (hk : kd ks i = .det (W32 (~~~v))) : Obl Try.prog ops ks T a0 B w0 H i o := ⟨ob_pure hw hk fun L w => by
    unfold execOp
    simp only [ho, hx L, Sem.run_bind, notU]
    rfl⟩
end
/-- Whole numbers, quotients. -/
theorem quoN (t : TypeId) (j m q : Nat) (hj : j < 1000000) (hm : 0 < m) (hq : j / m = q) (w : World) : (binOp .quo t (.int .i64 (j : Int)) (.int .i64 (m : Int))).run Try.prog w = .ok (.int .i64 (q : Int)) w := by
  have e0 : (j : Int).tdiv (m : Int) = (q : Int) := by rw [Int.tdiv_eq_ediv_of_nonneg (by omega), ← hq]; rfl
  have h1 : ¬ m = 0 := by omega
  have e : IntKind.i64.wrap (q : Int) = (q : Int) := by
    have : q ≤ j := by rw [← hq]; exact Nat.div_le_self _ _
    unfold IntKind.wrap; simp [IntKind.bits, IntKind.signed]; omega
  simp [binOp, Sem.run_bind, Op.intDiv, e0, h1, e]
theorem subN (t : TypeId) (j m q : Nat) (hj : j < 1000000) (hq : q + m = j) (w : World) : (binOp .sub t (.int .i64 (j : Int)) (.int .i64 (m : Int))).run Try.prog w = .ok (.int .i64 (q : Int)) w := by
  have e : IntKind.i64.wrap ((j : Int) - (m : Int)) = (q : Int) := by unfold IntKind.wrap; simp [IntKind.bits, IntKind.signed]; omega
  simp only [binOp, Op.intArith, e]; simp [Sem.run_bind, e]
end Go.Proofs.Ytklddcicfeakfaa.fpn
