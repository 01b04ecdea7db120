/- DA DB DC DS. -/
import Derived.Test.YtccidmogamnihaaGC
/- Words of 32 bits: what operations make of them. No program is named here. -/
namespace Go.Proofs.Ytccidmogamnihaa.Pl
open Go Go.RowKit
set_option linter.unusedVariables false
set_option linter.unusedSimpArgs false
section
variable {P : Program}
def W32 (x : BitVec 32) : Value := .int .u32 (x.toNat : Int)
theorem w_of (x : BitVec 32) : BitVec.ofInt 32 (x.toNat : Int) = x := by
  rw [BitVec.ofInt_natCast, BitVec.ofNat_toNat, BitVec.setWidth_eq]
theorem w_wrap (x : BitVec 32) : IntKind.u32.wrap (x.toNat : Int) = (x.toNat : Int) := by
  have := x.isLt
  unfold IntKind.wrap; simp [IntKind.bits, IntKind.signed]
  omega
theorem addW (t : TypeId) (x y : BitVec 32) (w : World) : (binOp .add t (W32 x) (W32 y)).run P w = .ok (W32 (x + y)) w := by
  have e : IntKind.u32.wrap ((x.toNat : Int) + (y.toNat : Int)) = ((x + y).toNat : Int) := by
    rw [BitVec.toNat_add]
    unfold IntKind.wrap; simp [IntKind.bits, IntKind.signed]
  unfold W32
  simp only [binOp, Op.intArith, e]; simp [Sem.run_bind, e]
theorem xorW (t : TypeId) (x y : BitVec 32) (w : World) : (binOp .xor t (W32 x) (W32 y)).run P w = .ok (W32 (x ^^^ y)) w := by
  have e : bits .xor .u32 (x.toNat : Int) (y.toNat : Int) = ((x ^^^ y).toNat : Int) := by
    show IntKind.u32.wrap (BitVec.ofInt 32 (x.toNat : Int) ^^^ BitVec.ofInt 32 (y.toNat : Int)).toNat = _
    rw [w_of, w_of, w_wrap]
  unfold W32
  simp [binOp, Sem.run_bind, Op.intBits]
  exact e
theorem andW (t : TypeId) (x y : BitVec 32) (w : World) : (binOp .and t (W32 x) (W32 y)).run P w = .ok (W32 (x &&& y)) w := by
  have e : bits .and .u32 (x.toNat : Int) (y.toNat : Int) = ((x &&& y).toNat : Int) := by
    show IntKind.u32.wrap (BitVec.ofInt 32 (x.toNat : Int) &&& BitVec.ofInt 32 (y.toNat : Int)).toNat = _
    rw [w_of, w_of, w_wrap]
  unfold W32
  simp [binOp, Sem.run_bind, Op.intBits]
  exact e
theorem orW (t : TypeId) (x y : BitVec 32) (w : World) : (binOp .or t (W32 x) (W32 y)).run P w = .ok (W32 (x ||| y)) w := by
  have e : bits .or .u32 (x.toNat : Int) (y.toNat : Int) = ((x ||| y).toNat : Int) := by
    show IntKind.u32.wrap (BitVec.ofInt 32 (x.toNat : Int) ||| BitVec.ofInt 32 (y.toNat : Int)).toNat = _
    rw [w_of, w_of, w_wrap]
  unfold W32
  simp [binOp, Sem.run_bind, Op.intBits]
  exact e
theorem notU (x : BitVec 32) (w : World) : (Op.unary .xor (W32 x)).run P w = .ok (W32 (~~~x)) w := by
  have e : bits .xor .u32 4294967295 (x.toNat : Int) = ((~~~x).toNat : Int) := by
    show IntKind.u32.wrap (BitVec.ofInt 32 4294967295 ^^^ BitVec.ofInt 32 (x.toNat : Int)).toNat = _
    rw [w_of, w_wrap, show BitVec.ofInt 32 4294967295 = BitVec.allOnes 32 by decide, BitVec.allOnes_xor]
  unfold W32
  rw [← e]; rfl
theorem shrW (t : TypeId) (x : BitVec 32) (k : IntKind) (n : Nat) (hn : n ≤ 32) (w : World) : (binOp .shr t (W32 x) (.int k (n : Int))).run P w = .ok (W32 (x >>> n)) w := by
  have e : (x.toNat : Int) / 2 ^ n = ((x >>> n).toNat : Int) := by
    rw [BitVec.toNat_ushiftRight, Nat.shiftRight_eq_div_pow]
    simp
  unfold W32
  simp [binOp, Sem.run_bind, shift_shr .u32 k _ _ (Int.natCast_nonneg n) (by simp [IntKind.bits]; omega), e]
theorem shlW (t : TypeId) (x : BitVec 32) (k : IntKind) (n : Nat) (hn : n ≤ 32) (w : World) : (binOp .shl t (W32 x) (.int k (n : Int))).run P w = .ok (W32 (x <<< n)) w := by
  have e : IntKind.u32.wrap ((x.toNat : Int) * 2 ^ n) = ((x <<< n).toNat : Int) := by
    rw [BitVec.toNat_shiftLeft, Nat.shiftLeft_eq]
    unfold IntKind.wrap; simp [IntKind.bits, IntKind.signed]
  unfold W32
  simp [binOp, Sem.run_bind, shift_shl .u32 k _ _ (Int.natCast_nonneg n) (by simp [IntKind.bits]; omega), e]
def zx (x : Int) : BitVec 32 := BitVec.ofInt 32 x
theorem zx_val {x : Int} (h0 : 0 ≤ x) (h1 : x < 4294967296) : ((zx x).toNat : Int) = x := by
  unfold zx
  rw [BitVec.toNat_ofInt]
  omega
theorem zx_w {x : Int} (h0 : 0 ≤ x) (h1 : x < 4294967296) : W32 (zx x) = .int .u32 x := by unfold W32; rw [zx_val h0 h1]
theorem wrap32 {x : Int} (h0 : 0 ≤ x) (h1 : x < 4294967296) : IntKind.u32.wrap x = x := by
  unfold IntKind.wrap; simp [IntKind.bits, IntKind.signed]; omega
theorem wrap32_zx (x : Int) : IntKind.u32.wrap x = ((zx x).toNat : Int) := by
  unfold zx
  rw [BitVec.toNat_ofInt]
  unfold IntKind.wrap; simp [IntKind.bits, IntKind.signed]; omega
def rot (x : BitVec 32) (n : Nat) : BitVec 32 := x >>> n ||| x <<< (32 - n)
def wup {α : Type} (f : Nat → α) (i : Nat) (x : α) : Nat → α := fun j => bif Nat.beq j i then x else f j
theorem wup_at {α : Type} (f : Nat → α) (i : Nat) (x : α) : wup f i x i = x := by unfold wup; rw [show Nat.beq i i = true by simp]; rfl
theorem wup_ne {α : Type} {f : Nat → α} {i j : Nat} {x : α} (h : j ≠ i) : wup f i x j = f j := by unfold wup; rw [show Nat.beq j i = false by cases hh : Nat.beq j i with | false => rfl | true => exact absurd (Nat.eq_of_beq_eq_true hh) h]; rfl
def mk8 {α : Type} (a b c d e f g h : α) : Nat → α
  | 0 => a
  | 1 => b
  | 2 => c
  | 3 => d
  | 4 => e
  | 5 => f
  | 6 => g
  | _ => h
def AW (h : Nat → BitVec 32) (n : Nat) : List Value := (List.range n).map fun j => W32 (h j)
def VW (h : Nat → BitVec 32) (n : Nat) : Value := .agg (AW h n).toArray
theorem AW_len (f : Nat → BitVec 32) (n : Nat) : (AW f n).length = n := by simp [AW]
theorem AW_at {f : Nat → BitVec 32} {n j : Nat} (hj : j < n) : (AW f n)[j]? = some (W32 (f j)) := by simp [AW, hj]
theorem AW_congr {f g : Nat → BitVec 32} {n : Nat} (h : ∀ j, j < n → f j = g j) : AW f n = AW g n := by
  unfold AW
  refine List.map_congr_left fun j hj => ?_
  rw [h j (by simpa using hj)]
theorem splice_AW (f : Nat → BitVec 32) {n j : Nat} (v : BitVec 32) (hj : j < n) : AW (wup f j v) n = Pl.splice (AW f n) (0 + j * 1) [W32 v] := by
  rw [Nat.zero_add, Nat.mul_one]
  unfold Pl.splice
  rw [List.append_assoc]
  refine List.ext_getElem? fun i => ?_
  have l1 : (List.take j (AW f n)).length = j := by rw [List.length_take, AW_len]; omega
  rcases Nat.lt_or_ge i n with hi | hi
  · rw [AW_at hi]
    rcases Nat.lt_trichotomy i j with h | h | h
    · rw [List.getElem?_append_left (by rw [l1]; exact h), List.getElem?_take_of_lt h, AW_at hi, wup_ne (by omega)]
    · subst h
      rw [List.getElem?_append_right (by rw [l1]; exact Nat.le_refl _), l1, Nat.sub_self, wup_at]; rfl
    · rw [List.getElem?_append_right (by rw [l1]; omega), l1, List.getElem?_append_right (by show 1 ≤ i - j; omega), List.getElem?_drop, wup_ne (by omega)]
      show _ = (AW f n)[j + 1 + (i - j - 1)]?
      rw [show j + 1 + (i - j - 1) = i by omega, AW_at hi]
  · rw [List.getElem?_eq_none (by rw [AW_len]; exact hi), List.getElem?_eq_none]
    rw [List.length_append, List.length_append, l1, List.length_drop, AW_len]
    show j + (1 + (n - (j + 1))) ≤ i
    omega
end
end Go.Proofs.Ytccidmogamnihaa.Pl

/- Arrays of words and of bytes in a plan. -/
namespace Go.Proofs.Ytccidmogamnihaa.fpn
open Go.RowKit Pl
set_option linter.unusedVariables false
set_option linter.unusedSimpArgs false
set_option maxRecDepth 4000

def VB (f : Nat → Int) (n : Nat) : Value := .agg (BC f n).toArray
theorem oneW : OneT Try.prog 53 := ⟨Try.isAgg53, by kernel_rfl⟩
theorem oneU : OneT Try.prog 32 := ⟨Try.isAgg32, by kernel_rfl⟩
theorem sizeW : (Try.prog.info? 53).map (·.size) = some 1 := by kernel_rfl
theorem rW8 : RowT Try.prog 54 8 (AW (fun _ => 0) 8) := ⟨⟨_, Try.underlying54, rfl⟩, by kernel_rfl, by kernel_rfl⟩
theorem rW64 : RowT Try.prog 60 64 (AW (fun _ => 0) 64) := ⟨⟨_, Try.underlying60, rfl⟩, by kernel_rfl, by kernel_rfl⟩
theorem rB64 : RowT Try.prog 56 64 (BC (fun _ => 0) 64) := ⟨⟨_, Try.underlying56, rfl⟩, by kernel_rfl, by kernel_rfl⟩
theorem rB32 : RowT Try.prog 38 32 (BC (fun _ => 0) 32) := ⟨⟨_, Try.underlying38, rfl⟩, by kernel_rfl, by kernel_rfl⟩
theorem aW8 : ArrT Try.prog 54 8 1 := ⟨⟨_, Try.underlying54, sizeW⟩⟩
theorem aW64 : ArrT Try.prog 60 64 1 := ⟨⟨_, Try.underlying60, sizeW⟩⟩
theorem aB64 : ArrT Try.prog 56 64 1 := ⟨⟨_, Try.underlying56, sizeY⟩⟩
theorem aB32 : ArrT Try.prog 38 32 1 := ⟨⟨_, Try.underlying38, sizeY⟩⟩
theorem build8 (a b c d e f g h : BitVec 32) (w : World) : (Instr.build 54 #[(0, W32 a), (1, W32 b), (2, W32 c), (3, W32 d), (4, W32 e), (5, W32 f), (6, W32 g), (7, W32 h)]).run Try.prog w = .ok (VW (mk8 a b c d e f g h) 8) w := run_build w _ _ _ (by kernel_rfl)
theorem convZ (a : Int) (h0 : 0 ≤ a) (h1 : a < 256) (w : World) : (convert 5 53 (.int .u8 a)).run Try.prog w = .ok (W32 (zx a)) w := by
  rw [zx_w h0 (by omega)]
  have e := wrap32 h0 (x := a) (by omega)
  simp [convert, run_underlying Try.underlying5, run_underlying Try.underlying53, Conv.intToInt, e, Sem.run_bind]
section
variable {ops : Array Oper} {ks : List Kind} {T : List Nat} {a0 : Act} {B : Nat} {w0 W0 : World} {H : List (Nat × List Value)} {i : Nat} {o : Oper}
theorem oIA {t : TypeId} {x ix : Operand} {b off n sz : Nat} {k : IntKind} (j : Nat) (hA : ArrT Try.prog t n sz) (hj : j < n) (hw : ∀ L, wantedR ks L o = true := by intro _; kernel_rfl) (ho : o.op = .indexAddr t x ix := by exact rfl)
    (hx : ∀ L, rd ops ks T a0 L i x = .pointer (some ⟨b, off, none⟩) := by intro _; kernel_rfl) (hi : ∀ L, rd ops ks T a0 L i ix = .int k (j : Int) := by intro _; kernel_rfl) (hk : kd ks i = .det (.pointer (some ⟨b, off + j * sz, none⟩))) : Obl Try.prog ops ks T a0 B w0 H i o := ⟨ob_pure hw hk fun L w => by
    obtain ⟨e, hu, hs⟩ := hA.und
    have hkn' : (0 : Int) ≤ (j : Int) ∧ (j : Int) < (n : Int) := ⟨by omega, by omega⟩
    unfold execOp
    simp [ho, hx L, hi L, Instr.indexAt, asIntOf, Sem.run_bind, run_underlying hu, Instr.sureAddr, hkn', hj, size_of hs, Addr.add_mid]⟩
theorem oLA {x : Operand} {b n j : Nat} {f : Nat → BitVec 32} (k : Nat) (hj : j < n) (he : Pl.early T ks i = true := by kernel_rfl) (hw : ∀ L, wantedR ks L o = true := by intro _; kernel_rfl) (ho : o.op = .load 53 x := by exact rfl)
    (hb : H[k]? = some (b, AW f n) := by exact rfl) (hx : ∀ L, rd ops ks T a0 L i x = .pointer (some ⟨b, 0 + j * 1, none⟩) := by intro _; kernel_rfl) (hk : kd ks i = .det (W32 (f j))) : Obl Try.prog ops ks T a0 B w0 H i o := ⟨ob_det hw hk fun L w hs => by
    have hc := (seen_at (hs he) hb).cells j _ (AW_at hj)
    have : (execOp (rd ops ks T a0 L i) o).run Try.prog w = .ok (.value (W32 (f j))) w := by
      unfold execOp
      simp only [ho, hx L, Sem.run_bind, Nat.mul_one, run_load1 oneW hc]
      rfl
    rw [this]
    exact ⟨rfl, Below.refl _ _⟩⟩
theorem oTA {x y : Operand} {l : Pl.Loc} {j n : Nat} {f : Nat → BitVec 32} {v : BitVec 32} (hj : j < n) (hl : oldOf ks H l = AW f n := by kernel_rfl) (hw : ∀ L, wantedR ks L o = true := by intro _; kernel_rfl) (ho : o.op = .store 53 x y := by exact rfl)
    (hx : ∀ L, rd ops ks T a0 L i x = .pointer (some ⟨addr H L l, 0 + j * 1, none⟩) := by intro _; kernel_rfl) (hy : ∀ L, rd ops ks T a0 L i y = W32 v := by intro _; kernel_rfl) (hk : kd ks i = .store l (0 + j * 1) [W32 v] (AW (wup f j v) n)) : Obl Try.prog ops ks T a0 B w0 H i o :=
  oT1 oneW rfl hw ho hx hy rfl (by rw [hl, AW_len]; exact Nat.ble_eq_true_of_le (by omega)) (by rw [hl]; exact splice_AW f v hj) hk
theorem oLC {t : TypeId} {x : Operand} {v : Value} {b off : Nat} (hO : OneT Try.prog t) (hc : ∀ L w, Seen ks T B w0 H L i w → w.cell? ⟨b, off, none⟩ = some v) (he : Pl.early T ks i = true := by kernel_rfl) (hw : ∀ L, wantedR ks L o = true := by intro _; kernel_rfl) (ho : o.op = .load t x := by exact rfl)
    (hx : ∀ L, rd ops ks T a0 L i x = .pointer (some ⟨b, off, none⟩) := by intro _; kernel_rfl) (hk : kd ks i = .det v) : Obl Try.prog ops ks T a0 B w0 H i o := ⟨ob_det hw hk fun L w hs => by
    have : (execOp (rd ops ks T a0 L i) o).run Try.prog w = .ok (.value v) w := by
      unfold execOp
      simp only [ho, hx L, Sem.run_bind, run_load1 hO (hc L w (hs he))]
      rfl
    rw [this]
    exact ⟨rfl, Below.refl _ _⟩⟩
theorem ob_len {x : Operand} {t e : TypeId} {p : Option Addr} {n c : Nat} (hw : ∀ L, wantedR ks L o = true) (hk : kd ks i = .det (.int .i64 n)) (ho : o.op = .call { callee := .builtin .len, args := #[x], argTypes := #[t] })
    (hx : ∀ L, rd ops ks T a0 L i x = .slice p n c) (hu : Try.prog.underlying t = some (.slice e)) : Ob Try.prog ops ks T a0 B w0 H i o :=
  ob_pure hw hk fun L w => by
    unfold execOp
    simp [ho, resolve, hx L, invoke, builtin, Builtin.len_, Sem.run_bind, run_underlying hu w, goInt]
theorem oWN {x : Operand} {t : TypeId} {v : BitVec 32} (hw : ∀ L, wantedR ks L o = true := by intro _; kernel_rfl) (ho : o.op = .unOp .xor t x := by exact rfl) (hx : ∀ L, rd ops ks T a0 L i x = W32 v := by intro _; kernel_rfl) (hk : kd ks i = .det (W32 (~~~v))) : Obl Try.prog ops ks T a0 B w0 H i o := ⟨ob_pure hw hk fun L w => by
    unfold execOp
    simp only [ho, hx L, Sem.run_bind, notU]
    rfl⟩
end
theorem quoN (t : TypeId) (j m q : Nat) (hj : j < 1000000) (hm : 0 < m) (hq : j / m = q) (w : World) : (binOp .quo t (.int .i64 (j : Int)) (.int .i64 (m : Int))).run Try.prog w = .ok (.int .i64 (q : Int)) w := by
  have e0 : (j : Int).tdiv (m : Int) = (q : Int) := by rw [Int.tdiv_eq_ediv_of_nonneg (by omega), ← hq]; rfl
  have h1 : ¬ m = 0 := by omega
  have e : IntKind.i64.wrap (q : Int) = (q : Int) := by
    have : q ≤ j := by rw [← hq]; exact Nat.div_le_self _ _
    unfold IntKind.wrap; simp [IntKind.bits, IntKind.signed]; omega
  simp [binOp, Sem.run_bind, Op.intDiv, e0, h1, e]
theorem subN (t : TypeId) (j m q : Nat) (hj : j < 1000000) (hq : q + m = j) (w : World) : (binOp .sub t (.int .i64 (j : Int)) (.int .i64 (m : Int))).run Try.prog w = .ok (.int .i64 (q : Int)) w := by
  have e : IntKind.i64.wrap ((j : Int) - (m : Int)) = (q : Int) := by unfold IntKind.wrap; simp [IntKind.bits, IntKind.signed]; omega
  simp only [binOp, Op.intArith, e]; simp [Sem.run_bind, e]
end Go.Proofs.Ytccidmogamnihaa.fpn

/- Digests as the document has them: a block's words, its rounds. No program is named here. -/
namespace Go.Proofs.Ytccidmogamnihaa.Pl
open Go
set_option linter.unusedVariables false
def wstR (c : Nat → Int) : Nat → Nat → BitVec 32
  | 0 => fun _ => 0
  | i + 1 => wup (wstR c i) (i / 4) (wstR c i (i / 4) <<< 8 + zx (c i))
@[irreducible] def wst (c : Nat → Int) (i : Nat) : Nat → BitVec 32 := wstR c i
theorem wst_0 (c : Nat → Int) : wst c 0 = fun _ => 0 := by unfold wst; rfl
theorem wst_s (c : Nat → Int) (i : Nat) : wst c (i + 1) = wup (wst c i) (i / 4) (wst c i (i / 4) <<< 8 + zx (c i)) := by unfold wst; rfl
@[irreducible] def wnx (w : Nat → BitVec 32) (m : Nat) : BitVec 32 := w m + (rot (w (m + 1)) 7 ^^^ rot (w (m + 1)) 18 ^^^ w (m + 1) >>> 3) + w (m + 9) + (rot (w (m + 14)) 17 ^^^ rot (w (m + 14)) 19 ^^^ w (m + 14) >>> 10)
def wexR (w : Nat → BitVec 32) : Nat → Nat → BitVec 32
  | 0 => w
  | m + 1 => wup (wexR w m) (m + 16) (wnx (wexR w m) m)
@[irreducible] def wex (w : Nat → BitVec 32) (i : Nat) : Nat → BitVec 32 := wexR w i
theorem wex_0 (w : Nat → BitVec 32) : wex w 0 = w := by unfold wex; rfl
theorem wex_s (w : Nat → BitVec 32) (m : Nat) : wex w (m + 1) = wup (wex w m) (m + 16) (wnx (wex w m) m) := by unfold wex; rfl
@[irreducible] def rT (s : Nat → BitVec 32) (k w : BitVec 32) : BitVec 32 := s 7 + (rot (s 4) 6 ^^^ rot (s 4) 11 ^^^ rot (s 4) 25) + (s 4 &&& s 5 ^^^ ~~~(s 4) &&& s 6) + k + w
@[irreducible] def rU (s : Nat → BitVec 32) : BitVec 32 := (rot (s 0) 2 ^^^ rot (s 0) 13 ^^^ rot (s 0) 22) + (s 0 &&& s 1 ^^^ s 0 &&& s 2 ^^^ s 1 &&& s 2)
def rnd (s : Nat → BitVec 32) (k w : BitVec 32) : Nat → BitVec 32 := mk8 (rT s k w + rU s) (s 0) (s 1) (s 2) (s 3 + rT s k w) (s 4) (s 5) (s 6)
def rrR (h k w : Nat → BitVec 32) : Nat → Nat → BitVec 32
  | 0 => h
  | m + 1 => rnd (rrR h k w m) (k m) (w m)
@[irreducible] def rr (h k w : Nat → BitVec 32) (i : Nat) : Nat → BitVec 32 := rrR h k w i
theorem rr_0 (h k w : Nat → BitVec 32) : rr h k w 0 = h := by unfold rr; rfl
theorem rr_s (h k w : Nat → BitVec 32) (m : Nat) : rr h k w (m + 1) = rnd (rr h k w m) (k m) (w m) := by unfold rr; rfl
def fin8R (s h : Nat → BitVec 32) : Nat → Nat → BitVec 32
  | 0 => s
  | m + 1 => wup (fin8R s h m) m (fin8R s h m m + h m)
@[irreducible] def fin8 (s h : Nat → BitVec 32) (i : Nat) : Nat → BitVec 32 := fin8R s h i
theorem fin8_0 (s h : Nat → BitVec 32) : fin8 s h 0 = s := by unfold fin8; rfl
theorem fin8_s (s h : Nat → BitVec 32) (m : Nat) : fin8 s h (m + 1) = wup (fin8 s h m) m (fin8 s h m m + h m) := by unfold fin8; rfl
def blk (h : Nat → BitVec 32) (c : Nat → Int) (k : Nat → BitVec 32) : Nat → BitVec 32 := fin8 (rr h k (wex (wst c 64) 48) 64) h 8
end Go.Proofs.Ytccidmogamnihaa.Pl

/- Words by other bits' ways: choices, majorities, four bytes at once. No program is named here. -/
namespace Go.Proofs.Ytccidmogamnihaa.Pl
open Go
set_option linter.unusedSimpArgs false
set_option linter.unusedVariables false
theorem bits_eq {a b : BitVec 32} (h : ∀ i, i < 32 → a.getLsbD i = b.getLsbD i) : a = b := BitVec.eq_of_getLsbD_eq fun i hi => h i hi
theorem rot_left (x : BitVec 32) (n : Nat) : x <<< (32 - n) ||| x >>> n = rot x n := by unfold rot; exact BitVec.or_comm _ _
theorem low8 {y : BitVec 32} (hy : y.toNat < 256) (i : Nat) (h : 8 ≤ i) : y.getLsbD i = false := by
  show y.toNat.testBit i = false
  exact Nat.testBit_lt_two_pow (Nat.lt_of_lt_of_le hy (Nat.pow_le_pow_right (by decide) h : 2 ^ 8 ≤ 2 ^ i))
theorem shl_or8 (a y : BitVec 32) (hy : y.toNat < 256) : a <<< 8 ||| y = a <<< 8 + y := by
  refine (BitVec.add_eq_or_of_and_eq_zero _ _ (bits_eq fun i hi => ?_)).symm
  simp only [BitVec.getLsbD_or, BitVec.getLsbD_and, BitVec.getLsbD_xor, BitVec.getLsbD_not, BitVec.getLsbD_shiftLeft, BitVec.getLsbD_ushiftRight, BitVec.getLsbD_zero, hi, decide_true, Bool.true_and]
  by_cases h : i < 8
  · simp [h]
  · rw [low8 hy i (by omega)]; simp
theorem zx_lt (a : Int) (h0 : 0 ≤ a) (h1 : a < 256) : (zx a).toNat < 256 := by
  unfold zx
  rw [BitVec.toNat_ofInt]
  omega
end Go.Proofs.Ytccidmogamnihaa.Pl
