/- What is to be shown of one operation, shortly told: what can be reckoned out is reckoned out. No program is named here. -/
import Derived.Test.YtklddcicfeakfaaPQ
namespace Go.Proofs.Ytklddcicfeakfaa.Pl
open Go Go.RowKit
set_option linter.unusedVariables false
set_option linter.unusedSimpArgs false

/-- So many slots that hold nothing yet. -/
def U (n : Nat) : List Value := List.replicate n undef

/-- An address. -/
abbrev pt (b off : Nat) : Value := .pointer (some ⟨b, off, none⟩)
abbrev Lt.p (L : Lt) (i : Nat) : Value := .pointer (some ⟨L.b i, 0, none⟩)
/-- Slots that nobody reads any more. -/
def D (d : Nat → Value) (k n : Nat) : List Value := (List.range' k n).map d

/-- A type of rows: its cells, and those of its zero. -/
structure RowT (P : Program) (t : TypeId) (n : Nat) (Z : List Value) : Prop where
  und : ∃ d, P.underlying t = some d ∧ d.isRow = true
  size : (P.info? t).map (·.size) = some n
  zero : (P.info? t).bind (·.zero) = some (.agg Z.toArray)
/-- An array's parts. -/
structure ArrT (P : Program) (t : TypeId) (n sz : Nat) : Prop where
  und : ∃ e, P.underlying t = some (.array n e) ∧ (P.info? e).map (·.size) = some sz
/-- Values of a type that are held against each other. -/
structure EqT (P : Program) (t : TypeId) {α : Type} [DecidableEq α] (V : α → Value) : Prop where
  grd : ∀ (op : BinOp) (x y : Operand) (a b : α) (w : World), (eqGuard op t x y (V a) (V b)).run P w = .ok () w
  eql : ∀ (a b : α) (w : World), (binOp .eql t (V a) (V b)).run P w = .ok (.bool (decide (a = b))) w
  neq : ∀ (a b : α) (w : World), (binOp .neq t (V a) (V b)).run P w = .ok (.bool (!decide (a = b))) w

def idx (p q : Value) (n sz : Nat) : Option Value :=
  match p, q with
  | .pointer (some ⟨b, off, none⟩), .int .i64 (.ofNat k) => if Nat.blt k n then some (.pointer (some ⟨b, off + k * sz, none⟩)) else none
  | _, _ => none
def part? (p : Value) (n : Nat) : Option Value := match p with | .tuple vs => vs[n]? | _ => none
def pick? (c x y : Value) : Option Value := match c with | .bool true => some x | .bool false => some y | _ => none
def not? (c : Value) : Option Value := match c with | .bool b => some (.bool (!b)) | _ => none
def len? (c : Value) : Option Value := match c with | .slice _ n _ => some (.int .i64 n) | _ => none

theorem guardJ {P : Program} (op : BinOp) (t : TypeId) (x y : Operand) (k k' : IntKind) (m n : Int) (w : World) : (eqGuard op t x y (.int k m) (.int k' n)).run P w = .ok () w := by
  unfold eqGuard
  cases op <;> simp [Sem.run_bind]

section
variable {P : Program} {ops : Array Oper} {ks : List Kind} {T : List Nat} {a0 : Act} {B : Nat} {w0 : World} {H : List (Nat × List Value)} {i : Nat} {o : Oper}

/-- .. kept shut. -/
structure Obl (P : Program) (ops : Array Oper) (ks : List Kind) (T : List Nat) (a0 : Act) (B : Nat) (w0 : World) (H : List (Nat × List Value)) (i : Nat) (o : Oper) : Prop where
  ob : Ob P ops ks T a0 B w0 H i o
theorem oS (hw : ∀ L, wantedR ks L o = false := by intro _; kernel_rfl) (hk : kd ks i = .det undef) : Obl P ops ks T a0 B w0 H i o := ⟨ob_skip hw hk⟩
theorem oM {v : Value} {x : Operand} (hw : ∀ L, wantedR ks L o = true := by intro _; kernel_rfl) (ho : o.op = .move x := by exact rfl) (hx : ∀ L, rd ops ks T a0 L i x = v := by intro _; kernel_rfl) (hk : kd ks i = .det v) : Obl P ops ks T a0 B w0 H i o := ⟨ob_move hw hk ho hx⟩
theorem oA {v : Value} {x : Operand} (hw : ∀ L, wantedR ks L o = true := by intro _; kernel_rfl) (ho : o.op = .assign x := by exact rfl) (hx : ∀ L, rd ops ks T a0 L i x = v := by intro _; kernel_rfl) (hk : kd ks i = .det v) : Obl P ops ks T a0 B w0 H i o := ⟨ob_assign hw hk ho hx⟩
theorem oX {v : Value} {t : Operand} {n : Nat} (hw : ∀ L, wantedR ks L o = true := by intro _; kernel_rfl) (ho : o.op = .extract t n := by exact rfl) (hx : ∀ L, part? (rd ops ks T a0 L i t) n = some v := by intro _; kernel_rfl) (hk : kd ks i = .det v) : Obl P ops ks T a0 B w0 H i o := ⟨ob_pure hw hk fun L w => by
    have h := hx L
    unfold execOp
    simp only [ho]
    cases hv : rd ops ks T a0 L i t <;> rw [hv] at h <;> simp only [part?] at h <;> try (cases h; done)
    simp only [Instr.extract, h]; rfl⟩
theorem oP {v : Value} {c x y : Operand} (hw : ∀ L, wantedR ks L o = true := by intro _; kernel_rfl) (ho : o.op = .pick c x y := by exact rfl) (hx : ∀ L, pick? (rd ops ks T a0 L i c) (rd ops ks T a0 L i x) (rd ops ks T a0 L i y) = some v := by intro _; kernel_rfl) (hk : kd ks i = .det v) : Obl P ops ks T a0 B w0 H i o := ⟨ob_pure hw hk fun L w => by
    have h := hx L
    unfold execOp
    simp only [ho]
    cases hv : rd ops ks T a0 L i c <;> rw [hv] at h <;> simp only [pick?] at h <;> try (cases h; done)
    rename_i b
    cases b <;> simp only [Option.some.injEq] at h <;> simp only [h] <;> rfl⟩
theorem oN {v : Value} {t : TypeId} {x : Operand} (hw : ∀ L, wantedR ks L o = true := by intro _; kernel_rfl) (ho : o.op = .unOp .not t x := by exact rfl) (hx : ∀ L, not? (rd ops ks T a0 L i x) = some v := by intro _; kernel_rfl) (hk : kd ks i = .det v) : Obl P ops ks T a0 B w0 H i o := ⟨ob_pure hw hk fun L w => by
    have h := hx L
    unfold execOp
    simp only [ho]
    cases hv : rd ops ks T a0 L i x <;> rw [hv] at h <;> simp only [not?] at h <;> try (cases h; done)
    simp only [Option.some.injEq] at h
    subst h; rfl⟩
theorem oD {v : Value} {t : TypeId} {ps : Array (Nat × Operand)} {qs : Array (Nat × Value)} (h : ∀ w, (Instr.build t qs).run P w = .ok v w) (hw : ∀ L, wantedR ks L o = true := by intro _; kernel_rfl) (ho : o.op = .build t ps := by exact rfl) (hx : ∀ L, (ps.map fun p => (p.1, rd ops ks T a0 L i p.2)) = qs := by intro _; kernel_rfl) (hk : kd ks i = .det v) : Obl P ops ks T a0 B w0 H i o := ⟨ob_build hw hk ho hx h⟩

theorem idx_some {p q v : Value} {n sz : Nat} (h : idx p q n sz = some v) : ∃ b off k, p = .pointer (some ⟨b, off, none⟩) ∧ q = .int .i64 (Int.ofNat k) ∧ k < n ∧ v = .pointer (some ⟨b, off + k * sz, none⟩) := by
  unfold idx at h
  split at h
  · rename_i b off k
    cases hb : Nat.blt k n with
    | false => rw [hb] at h; cases h
    | true =>
      rw [hb, if_pos rfl, Option.some.injEq] at h
      exact ⟨b, off, k, rfl, rfl, Eq.mp Nat.blt_eq hb, h.symm⟩
  · cases h
theorem oI {v : Value} {t : TypeId} {x ix : Operand} {n sz : Nat} (hA : ArrT P t n sz) (hw : ∀ L, wantedR ks L o = true := by intro _; kernel_rfl) (ho : o.op = .indexAddr t x ix := by exact rfl)
    (hx : ∀ L, idx (rd ops ks T a0 L i x) (rd ops ks T a0 L i ix) n sz = some v := by intro _; kernel_rfl) (hk : kd ks i = .det v) : Obl P ops ks T a0 B w0 H i o := ⟨ob_pure hw hk fun L w => by
    obtain ⟨b, off, k, h1, h2, hkn, rfl⟩ := idx_some (hx L)
    obtain ⟨e, hu, hs⟩ := hA.und
    have hkn' : (0 : Int) ≤ (k : Int) ∧ (k : Int) < (n : Int) := ⟨by omega, by omega⟩
    obtain ⟨inf, hinf, hsz⟩ : ∃ inf, P.info? e = some inf ∧ inf.size = sz := by
      cases h : P.info? e with
      | none => simp [h] at hs
      | some inf => exact ⟨inf, rfl, by simpa [h] using hs⟩
    unfold execOp
    simp [ho, h1, h2, Instr.indexAt, asIntOf, Sem.run_bind, Go.underlying, hu, Instr.sureAddr, hkn', sizeOf, typeInfo, hinf, hsz, Addr.add_mid]
    intro hh; omega⟩

theorem box_cut {w : World} {b off n : Nat} {cs box : List Value} (h : Box w b box) (hp : (box.drop off).take n = cs) : w.rangeAt b off cs := fun j v hv => by
  subst hp
  rw [List.getElem?_take] at hv
  split at hv
  · rw [List.getElem?_drop] at hv
    have := h.cells (off + j) v hv
    simpa using this
  · cases hv
/-- A load out of the k-th box. -/
theorem oL {t : TypeId} {x : Operand} {cs box Z : List Value} {b n : Nat} (k off : Nat) (hR : RowT P t n Z) (he : early T ks i = true := by kernel_rfl) (hw : ∀ L, wantedR ks L o = true := by intro _; kernel_rfl) (ho : o.op = .load t x := by exact rfl)
    (hb : H[k]? = some (b, box) := by exact rfl) (hx : ∀ L, rd ops ks T a0 L i x = .pointer (some ⟨b, off, none⟩) := by intro _; kernel_rfl) (hp : (box.drop off).take n = cs := by kernel_rfl) (hl : cs.length = n := by kernel_rfl) (hk : kd ks i = .det (.agg cs.toArray)) : Obl P ops ks T a0 B w0 H i o := by
  obtain ⟨d, hu, hd⟩ := hR.und
  exact ⟨ob_load he hw hk ho hx (fun L w hs => box_cut (seen_at hs hb) hp) hu hd (by rw [hl]; exact hR.size)⟩
/-- A load of what a package's variable holds. -/
theorem oG {t : TypeId} {x : Operand} {cs Z : List Value} {b off n : Nat} (hR : RowT P t n Z) (hr : ∀ L w, Seen ks T B w0 H L i w → w.rangeAt b off cs) (he : early T ks i = true := by kernel_rfl) (hw : ∀ L, wantedR ks L o = true := by intro _; kernel_rfl) (ho : o.op = .load t x := by exact rfl)
    (hx : ∀ L, rd ops ks T a0 L i x = .pointer (some ⟨b, off, none⟩) := by intro _; kernel_rfl) (hl : cs.length = n := by kernel_rfl) (hk : kd ks i = .det (.agg cs.toArray)) : Obl P ops ks T a0 B w0 H i o := by
  obtain ⟨d, hu, hd⟩ := hR.und
  exact ⟨ob_load he hw hk ho hx hr hu hd (by rw [hl]; exact hR.size)⟩
theorem oT {t : TypeId} {x y : Operand} {l : Loc} {off n : Nat} {cs new Z : List Value} (hR : RowT P t n Z) (hw : ∀ L, wantedR ks L o = true := by intro _; kernel_rfl) (ho : o.op = .store t x y := by exact rfl)
    (hx : ∀ L, rd ops ks T a0 L i x = .pointer (some ⟨addr H L l, off, none⟩) := by intro _; kernel_rfl) (hy : ∀ L, rd ops ks T a0 L i y = .agg cs.toArray := by intro _; kernel_rfl) (hl : cs.length = n := by kernel_rfl) (h1 : cs.all (fun v => v.oneCell') = true := by kernel_rfl)
    (hle : Nat.ble (off + cs.length) (oldOf ks H l).length = true := by kernel_rfl) (hsp : new = splice (oldOf ks H l) off cs := by kernel_rfl) (hk : kd ks i = .store l off cs new) : Obl P ops ks T a0 B w0 H i o := ⟨ob_store hw hk ho hx hy rfl (by rw [hl]; exact hR.size) (fun v hv => List.all_eq_true.1 h1 v hv) (Nat.le_of_ble_eq_true hle) hsp⟩
theorem oB {t : TypeId} {cs : List Value} {x : Operand} (hw : ∀ L, wantedR ks L o = true := by intro _; kernel_rfl) (ho : o.op = .box t x := by exact rfl) (hx : ∀ L, (rd ops ks T a0 L i x).cells = cs.toArray := by intro _; kernel_rfl) (hk : kd ks i = .alloc cs) (hy : ∀ b, yields cs b = .pointer (some ⟨b, 0, none⟩) := by intro _; kernel_rfl) : Obl P ops ks T a0 B w0 H i o := ⟨fun L w hs => by
  rw [if_pos (hw L), hk]
  refine ⟨t, ?_⟩
  rw [hy]
  unfold execOp
  simp [ho, Instr.box, Sem.run_bind, run_newVar, hx L]⟩
theorem oZ {t : TypeId} {n : Nat} {cs Z : List Value} (hR : RowT P t n Z) (hw : ∀ L, wantedR ks L o = true := by intro _; kernel_rfl) (ho : o.op = .alloc t := by exact rfl) (hz : Z = cs := by kernel_rfl) (hk : kd ks i = .alloc cs) (hy : ∀ b, yields cs b = .pointer (some ⟨b, 0, none⟩) := by intro _; kernel_rfl) : Obl P ops ks T a0 B w0 H i o := ⟨ob_alloc hw hk ho hR.zero (by rw [hz]; rfl) hy⟩

theorem oC {v : Value} {f : FuncId} {xs : Array Operand} {ts : Array TypeId} {vs : Array Value} {G : World → Prop} (st : ∀ {w x : World}, G w → Below w.heap.size w x → G x) (hg : G w0) (h : ∀ w, G w → Calls P f vs w fun e w' => e = .returned v ∧ Below w.heap.size w w')
    (hf : plainF P f = true := by kernel_rfl) (he : early T ks i = true := by kernel_rfl) (hw : ∀ L, wantedR ks L o = true := by intro _; kernel_rfl) (ho : o.op = .call { callee := .value (.func f), args := xs, argTypes := ts } := by exact rfl)
    (hx : ∀ L, xs.map (rd ops ks T a0 L i) = vs := by intro _; kernel_rfl) (hk : kd ks i = .det v) : Obl P ops ks T a0 w0.heap.size w0 H i o := ⟨ob_call hf he hw hk ho hx fun w hb _ => h w (st hg hb)⟩
theorem oR {v : Value} {f : FuncId} {xs : Array Operand} {ts : Array TypeId} {vs : Array Value} (h : ∀ w, Calls P f vs w fun e w' => e = .returned v ∧ Below w.heap.size w w')
    (hf : plainF P f = true := by kernel_rfl) (he : early T ks i = true := by kernel_rfl) (hw : ∀ L, wantedR ks L o = true := by intro _; kernel_rfl) (ho : o.op = .call { callee := .value (.func f), args := xs, argTypes := ts } := by exact rfl)
    (hx : ∀ L, xs.map (rd ops ks T a0 L i) = vs := by intro _; kernel_rfl) (hk : kd ks i = .det v) : Obl P ops ks T a0 B w0 H i o := ⟨ob_call hf he hw hk ho hx fun w _ _ => h w⟩
/-- A call, what is known of memory in hand. -/
theorem oH {v : Value} {f : FuncId} {xs : Array Operand} {ts : Array TypeId} {vs : Array Value} (h : ∀ w, Below B w0 w → B ≤ w.heap.size → Calls P f vs w fun e w' => e = .returned v ∧ Below w.heap.size w w')
    (hf : plainF P f = true := by kernel_rfl) (he : early T ks i = true := by kernel_rfl) (hw : ∀ L, wantedR ks L o = true := by intro _; kernel_rfl) (ho : o.op = .call { callee := .value (.func f), args := xs, argTypes := ts } := by exact rfl)
    (hx : ∀ L, xs.map (rd ops ks T a0 L i) = vs := by intro _; kernel_rfl) (hk : kd ks i = .det v) : Obl P ops ks T a0 B w0 H i o := ⟨ob_call hf he hw hk ho hx h⟩
theorem oCS {v : Value} {f : FuncId} {xs : Array Operand} {ts : Array TypeId} (vs : Lt → Array Value) (h : ∀ L w, Seen ks T B w0 H L i w → Calls P f (vs L) w fun e w' => e = .returned v ∧ Below w.heap.size w w')
    (hf : plainF P f = true := by kernel_rfl) (he : early T ks i = true := by kernel_rfl) (hw : ∀ L, wantedR ks L o = true := by intro _; kernel_rfl) (ho : o.op = .call { callee := .value (.func f), args := xs, argTypes := ts } := by exact rfl)
    (hx : ∀ L, xs.map (rd ops ks T a0 L i) = vs L := by intro _; kernel_rfl) (hk : kd ks i = .det v) : Obl P ops ks T a0 B w0 H i o := ⟨ob_callS hf he hw hk ho hx h⟩
theorem oY {C : Value → World → Prop} {f : FuncId} {xs : Array Operand} {ts : Array TypeId} (vs : Lt → Array Value) (hC : ∀ v w x, C v w → Below w.heap.size w x → C v x) (h : ∀ L w, Seen ks T B w0 H L i w → Calls P f (vs L) w fun e w' => ∃ v, e = .returned v ∧ C v w' ∧ Below w.heap.size w w')
    (hf : plainF P f = true := by kernel_rfl) (he : early T ks i = true := by kernel_rfl) (hw : ∀ L, wantedR ks L o = true := by intro _; kernel_rfl) (ho : o.op = .call { callee := .value (.func f), args := xs, argTypes := ts } := by exact rfl)
    (hx : ∀ L, xs.map (rd ops ks T a0 L i) = vs L := by intro _; kernel_rfl) (hk : kd ks i = .any C) : Obl P ops ks T a0 B w0 H i o := ⟨ob_any hf he hw hk ho hx hC h⟩

theorem oW {op : BinOp} {t t' : TypeId} {x y : Operand} {u v r : Value} (hg : ∀ w, (eqGuard op t x y u v).run P w = .ok () w) (h : ∀ w, (binOp op t u v).run P w = .ok r w) (hw : ∀ L, wantedR ks L o = true := by intro _; kernel_rfl) (ho : o.op = .binOp op t x y t' := by exact rfl)
    (hx : ∀ L, rd ops ks T a0 L i x = u := by intro _; kernel_rfl) (hy : ∀ L, rd ops ks T a0 L i y = v := by intro _; kernel_rfl) (hk : kd ks i = .det r) : Obl P ops ks T a0 B w0 H i o := ⟨ob_bin hw hk ho hx hy hg h⟩
/-- Two rows, or numbers: alike. -/
theorem oE {α : Type} [DecidableEq α] {V : α → Value} {t t' : TypeId} {x y : Operand} {a b : α} {r : Bool} (hE : EqT P t V) (h : decide (a = b) = r) (hw : ∀ L, wantedR ks L o = true := by intro _; kernel_rfl) (ho : o.op = .binOp .eql t x y t' := by exact rfl)
    (hx : ∀ L, rd ops ks T a0 L i x = V a := by intro _; kernel_rfl) (hy : ∀ L, rd ops ks T a0 L i y = V b := by intro _; kernel_rfl) (hk : kd ks i = .det (.bool r)) : Obl P ops ks T a0 B w0 H i o := ⟨ob_eq hw hk ho hx hy (fun w => hE.grd _ _ _ _ _ w) (fun w => by rw [hE.eql, h])⟩
theorem oU {α : Type} [DecidableEq α] {V : α → Value} {t t' : TypeId} {x y : Operand} {a b : α} {r : Bool} (hE : EqT P t V) (h : (!decide (a = b)) = r) (hw : ∀ L, wantedR ks L o = true := by intro _; kernel_rfl) (ho : o.op = .binOp .neq t x y t' := by exact rfl)
    (hx : ∀ L, rd ops ks T a0 L i x = V a := by intro _; kernel_rfl) (hy : ∀ L, rd ops ks T a0 L i y = V b := by intro _; kernel_rfl) (hk : kd ks i = .det (.bool r)) : Obl P ops ks T a0 B w0 H i o := ⟨ob_ne hw hk ho hx hy (fun w => hE.grd _ _ _ _ _ w) (fun w => by rw [hE.neq, h])⟩
theorem yes {α : Type} [DecidableEq α] {a b : α} (h : a = b) : decide (a = b) = true := decide_eq_true h
theorem nay {α : Type} [DecidableEq α] {a b : α} (h : a ≠ b) : decide (a = b) = false := decide_eq_false h
theorem yes' {α : Type} [DecidableEq α] {a b : α} (h : a ≠ b) : (!decide (a = b)) = true := by rw [decide_eq_false h]; rfl
theorem nay' {α : Type} [DecidableEq α] {a b : α} (h : a = b) : (!decide (a = b)) = false := by rw [decide_eq_true h]; rfl
/-- Whole numbers. -/
theorem oJ {op : BinOp} {t t' : TypeId} {x y : Operand} {r : Value} (k k' : IntKind) (m n : Int) (hw : ∀ L, wantedR ks L o = true := by intro _; kernel_rfl) (ho : o.op = .binOp op t x y t' := by exact rfl)
    (hx : ∀ L, rd ops ks T a0 L i x = .int k m := by intro _; kernel_rfl) (hy : ∀ L, rd ops ks T a0 L i y = .int k' n := by intro _; kernel_rfl) (h : ∀ w, (binOp op t (.int k m) (.int k' n)).run P w = .ok r w := by intro _; rfl) (hk : kd ks i = .det r) : Obl P ops ks T a0 B w0 H i o := ⟨ob_bin hw hk ho hx hy (fun w => guardJ _ _ _ _ _ _ _ _ w) h⟩

/-- What is to be shown of all operations, each by its number, its kind known. -/
def AllOb2 (P : Program) (ops : Array Oper) (ks : List Kind) (T : List Nat) (a0 : Act) (B : Nat) (w0 : World) (H : List (Nat × List Value)) : List Nat → List Oper → List Kind → Prop
  | _, [], _ => True
  | i :: n, o :: r, k :: s => (kd ks i = k → Obl P ops ks T a0 B w0 H i o) ∧ AllOb2 P ops ks T a0 B w0 H n r s
  | _, _, _ => False
theorem AllOb2.to : ∀ (l : List Oper) (n : Nat) (N : List Nat) (K : List Kind), N = List.range' n l.length → (∀ j, j < l.length → K.getD j (.det undef) = kd ks (n + j)) → AllOb2 P ops ks T a0 B w0 H N l K → AllOb P ops ks T a0 B w0 H n l
  | [], _, _, _, _, _, _ => trivial
  | o :: r, n, N, K, hN, hK, h => by
    rw [List.length_cons, List.range'_succ] at hN
    subst hN
    cases K with
    | nil => exact h.elim
    | cons k s =>
      refine ⟨(h.1 ((hK 0 (by simp)).symm)).ob, AllOb2.to r (n + 1) _ s rfl (fun j hj => ?_) h.2⟩
      have := hK (j + 1) (by simp; omega)
      rw [show n + 1 + j = n + (j + 1) by omega, ← this]
      rfl

theorem dr {id nt : Nat} {W0 : World} {Q : Exit → Act → World → Prop} (ks : List Kind) (N T : List Nat) (A : Lt → List Value) (H' : Lt → List (Nat × List Value)) (hHp : Heap B w0 W0 H) (hob : AllOb2 P ops ks T a0 B w0 H N ops.toList ks)
    (hQ : ∀ L w, Heap B w0 w (H' L) → Q .normal { tmps := (A L).toArray, defers := [] } w) (hm : P.follows .mixedOrders = true := by kernel_rfl) (hnt : nt = a0.tmps.size := by exact rfl) (hc : chk ops ks T nt H.length = true := by kernel_rfl) (hdf : a0.defers = [] := by exact rfl)
    (hA : ∀ L, (List.range nt).map (slotF ops ks a0 L) = A L := by intro _; kernel_rfl) (hF : ∀ L, heapF ks H L = H' L := by intro _; kernel_rfl) (hN : N = List.range' 0 ops.toList.length := by kernel_rfl) :
    (Code.region id ops true).wp P Q a0 W0 := draws hm hc hnt rfl hdf hA hF hHp (AllOb2.to _ 0 N ks hN (fun j _ => by rw [Nat.zero_add]; rfl) hob) hQ
theorem gs {id nt : Nat} {W0 : World} {Q : Exit → Act → World → Prop} (ks : List Kind) (N T : List Nat) (A : Lt → List Value) (H' : Lt → List (Nat × List Value)) (hHp : Heap B w0 W0 H) (hob : AllOb2 P ops ks T a0 B w0 H N ops.toList ks)
    (hQ : ∀ L w, Heap B w0 w (H' L) → Q .normal { tmps := (A L).toArray, defers := [] } w) (hnt : nt = a0.tmps.size := by exact rfl) (hc : chk ops ks T nt H.length = true := by kernel_rfl) (hdf : a0.defers = [] := by exact rfl)
    (hA : ∀ L, (List.range nt).map (slotF ops ks a0 L) = A L := by intro _; kernel_rfl) (hF : ∀ L, heapF ks H L = H' L := by intro _; kernel_rfl) (hN : N = List.range' 0 ops.toList.length := by kernel_rfl) :
    (Code.region id ops false).wp P Q a0 W0 := goes hc hnt rfl hdf hA hF hHp (AllOb2.to _ 0 N ks hN (fun j _ => by rw [Nat.zero_add]; rfl) hob) hQ
theorem drD {id nt : Nat} {W0 : World} {Q : Exit → Act → World → Prop} (ks : List Kind) (N T : List Nat) (A : Lt → (Nat → Value) → List Value) (H' : Lt → List (Nat × List Value)) (hHp : Heap B w0 W0 H) (hob : AllOb2 P ops ks T a0 B w0 H N ops.toList ks)
    (hQ : ∀ L d w, Heap B w0 w (H' L) → Q .normal { tmps := (A L d).toArray, defers := [] } w) (hm : P.follows .mixedOrders = true := by kernel_rfl) (hnt : nt = a0.tmps.size := by exact rfl) (hc : chk ops ks T nt H.length = true := by kernel_rfl) (hdf : a0.defers = [] := by exact rfl)
    (hA : ∀ L, (List.range nt).map (slotF ops ks a0 L) = A L (slotF ops ks a0 L) := by intro _; kernel_rfl) (hF : ∀ L, heapF ks H L = H' L := by intro _; kernel_rfl) (hN : N = List.range' 0 ops.toList.length := by kernel_rfl) :
    (Code.region id ops true).wp P Q a0 W0 := dr ks N T (fun L => A L (slotF ops ks a0 L)) H' hHp hob (fun L w h => hQ L _ w h) hm hnt hc hdf hA hF hN
theorem gsD {id nt : Nat} {W0 : World} {Q : Exit → Act → World → Prop} (ks : List Kind) (N T : List Nat) (A : Lt → (Nat → Value) → List Value) (H' : Lt → List (Nat × List Value)) (hHp : Heap B w0 W0 H) (hob : AllOb2 P ops ks T a0 B w0 H N ops.toList ks)
    (hQ : ∀ L d w, Heap B w0 w (H' L) → Q .normal { tmps := (A L d).toArray, defers := [] } w) (hnt : nt = a0.tmps.size := by exact rfl) (hc : chk ops ks T nt H.length = true := by kernel_rfl) (hdf : a0.defers = [] := by exact rfl)
    (hA : ∀ L, (List.range nt).map (slotF ops ks a0 L) = A L (slotF ops ks a0 L) := by intro _; kernel_rfl) (hF : ∀ L, heapF ks H L = H' L := by intro _; kernel_rfl) (hN : N = List.range' 0 ops.toList.length := by kernel_rfl) :
    (Code.region id ops false).wp P Q a0 W0 := gs ks N T (fun L => A L (slotF ops ks a0 L)) H' hHp hob (fun L w h => hQ L _ w h) hnt hc hdf hA hF hN
theorem oMB {b c : Bool} {x : Operand} (h : b = c) (hw : ∀ L, wantedR ks L o = true := by intro _; kernel_rfl) (ho : o.op = .move x := by exact rfl) (hx : ∀ L, rd ops ks T a0 L i x = .bool b := by intro _; kernel_rfl) (hk : kd ks i = .det (.bool c)) : Obl P ops ks T a0 B w0 H i o :=
  oM (v := .bool c) hw ho (fun L => (hx L).trans (by rw [h])) hk
theorem oAB {b c : Bool} {x : Operand} (h : b = c) (hw : ∀ L, wantedR ks L o = true := by intro _; kernel_rfl) (ho : o.op = .assign x := by exact rfl) (hx : ∀ L, rd ops ks T a0 L i x = .bool b := by intro _; kernel_rfl) (hk : kd ks i = .det (.bool c)) : Obl P ops ks T a0 B w0 H i o :=
  oA (v := .bool c) hw ho (fun L => (hx L).trans (by rw [h])) hk
theorem res_2 {fn : Func} {t0 t1 : Nat} {tmps : Array Value} {v0 v1 : Value} (hr : fn.results = #[.tmp t0, .tmp t1]) (h0 : tmps.getD t0 undef = v0) (h1 : tmps.getD t1 undef = v1) (w : World) : (results fn tmps).run P w = .ok (.tuple #[v0, v1]) w := by
  have g0 : tmps[t0]?.getD undef = v0 := by simpa using h0
  have g1 : tmps[t1]?.getD undef = v1 := by simpa using h1
  unfold results
  simp only [hr]
  simp [Sem.run_bind, g0, g1]
theorem res_3 {fn : Func} {t0 t1 t2 : Nat} {tmps : Array Value} {v0 v1 v2 : Value} (hr : fn.results = #[.tmp t0, .tmp t1, .tmp t2]) (h0 : tmps.getD t0 undef = v0) (h1 : tmps.getD t1 undef = v1) (h2 : tmps.getD t2 undef = v2) (w : World) : (results fn tmps).run P w = .ok (.tuple #[v0, v1, v2]) w := by
  have g0 : tmps[t0]?.getD undef = v0 := by simpa using h0
  have g1 : tmps[t1]?.getD undef = v1 := by simpa using h1
  have g2 : tmps[t2]?.getD undef = v2 := by simpa using h2
  unfold results
  simp only [hr]
  simp [Sem.run_bind, g0, g1, g2]
theorem res_4 {fn : Func} {t0 t1 t2 t3 : Nat} {tmps : Array Value} {v0 v1 v2 v3 : Value} (hr : fn.results = #[.tmp t0, .tmp t1, .tmp t2, .tmp t3]) (h0 : tmps.getD t0 undef = v0) (h1 : tmps.getD t1 undef = v1) (h2 : tmps.getD t2 undef = v2) (h3 : tmps.getD t3 undef = v3) (w : World) : (results fn tmps).run P w = .ok (.tuple #[v0, v1, v2, v3]) w := by
  have g0 : tmps[t0]?.getD undef = v0 := by simpa using h0
  have g1 : tmps[t1]?.getD undef = v1 := by simpa using h1
  have g2 : tmps[t2]?.getD undef = v2 := by simpa using h2
  have g3 : tmps[t3]?.getD undef = v3 := by simpa using h3
  unfold results
  simp only [hr]
  simp [Sem.run_bind, g0, g1, g2, g3]
theorem cond_t {Q : Exit → Act → World → Prop} {a : Act} {w : World} {c : Operand} {x y : Code} {b : Bool} (hb : b = true) (h : x.wp P Q a w) (hc : a.eval c = .bool b := by kernel_rfl) : (Code.cond c x y).wp P Q a w := wp_cond_true (hc.trans (by rw [hb])) h
theorem cond_f {Q : Exit → Act → World → Prop} {a : Act} {w : World} {c : Operand} {x y : Code} {b : Bool} (hb : b = false) (h : y.wp P Q a w) (hc : a.eval c = .bool b := by kernel_rfl) : (Code.cond c x y).wp P Q a w := wp_cond_false (hc.trans (by rw [hb])) h
theorem of_not_t {p : Prop} [Decidable p] (h : (!decide p) = true) : ¬p := fun e => by rw [decide_eq_true e] at h; cases h
theorem of_not_f {p : Prop} [Decidable p] (h : (!decide p) = false) : p := Classical.byContradiction fun e => by rw [decide_eq_false e] at h; cases h
theorem nt_t {b : Bool} (h : b = true) : (!b) = false := by rw [h]; rfl
theorem nt_f {b : Bool} (h : b = false) : (!b) = true := by rw [h]; rfl
theorem rc {fn : Func} {t b n : Nat} {ty : TypeId} {tmps : Array Value} {cs Z : List Value} {w : World} (hR : RowT P ty n Z) (hr : fn.results = #[.cell t ty]) (ht : tmps.getD t undef = .pointer (some ⟨b, 0, none⟩)) (hb : Box w b cs) (hl : cs.length = n := by kernel_rfl) : (results fn tmps).run P w = .ok (.agg cs.toArray) w := by
  obtain ⟨d, hu, hd⟩ := hR.und
  exact res_c hr ht hb hu hd (by rw [hl]; exact hR.size)
theorem rct {fn : Func} {t b t' n : Nat} {ty : TypeId} {tmps : Array Value} {cs Z : List Value} {v : Value} {w : World} (hR : RowT P ty n Z) (hr : fn.results = #[.cell t ty, .tmp t']) (ht : tmps.getD t undef = .pointer (some ⟨b, 0, none⟩)) (ht' : tmps.getD t' undef = v) (hb : Box w b cs) (hl : cs.length = n := by kernel_rfl) : (results fn tmps).run P w = .ok (.tuple #[.agg cs.toArray, v]) w := by
  obtain ⟨d, hu, hd⟩ := hR.und
  exact res_ct hr ht ht' hb hu hd (by rw [hl]; exact hR.size)
end
end Go.Proofs.Ytklddcicfeakfaa.Pl
