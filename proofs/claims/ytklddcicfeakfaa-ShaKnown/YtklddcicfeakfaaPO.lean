/- What is to be shown of one operation, kind by kind. No program is named here. -/
import Derived.Test.YtklddcicfeakfaaPN
namespace Go.Proofs.Ytklddcicfeakfaa.Pl
open Go Go.RowKit
set_option linter.unusedVariables false
set_option linter.unusedSimpArgs false

section
variable {P : Program} {ops : Array Oper} {ks : List Kind} {T : List Nat} {a0 : Act} {B : Nat} {w0 : World} {H : List (Nat × List Value)} {i : Nat} {o : Oper}

theorem ob_det {v : Value} (hw : ∀ L, wantedR ks L o = true) (hk : kd ks i = .det v)
    (h : ∀ L w, (early T ks i = true → Seen ks T B w0 H L i w) → Runs P ((execOp (rd ops ks T a0 L i) o).run P w) (fun u w' => u = v ∧ Below w.heap.size w w')) : Ob P ops ks T a0 B w0 H i o := fun L w hs => by
  rw [if_pos (hw L), hk]
  have hv : val ks L i = v := by unfold val; rw [hk]
  simp only [hv]
  exact h L w hs

theorem ob_skip (hw : ∀ L, wantedR ks L o = false) (hk : kd ks i = .det undef) : Ob P ops ks T a0 B w0 H i o := fun L w hs => by
  rw [if_neg (by rw [hw L]; simp)]; exact hk

/-- An operation that yields a value in whatever world. -/
theorem ob_pure {v : Value} (hw : ∀ L, wantedR ks L o = true) (hk : kd ks i = .det v)
    (h : ∀ L w, (execOp (rd ops ks T a0 L i) o).run P w = .ok (.value v) w) : Ob P ops ks T a0 B w0 H i o :=
  ob_det hw hk fun L w _ => by rw [h L w]; exact ⟨rfl, Below.refl _ _⟩

theorem ob_pureB {k : Nat} {v : Nat → Value} (hw : ∀ L, wantedR ks L o = true) (hk : kd ks i = .detB k v)
    (h : ∀ L w, (execOp (rd ops ks T a0 L i) o).run P w = .ok (.value (v (L.b k))) w) : Ob P ops ks T a0 B w0 H i o := fun L w hs => by
  rw [if_pos (hw L), hk]
  have hv : val ks L i = v (L.b k) := by unfold val; rw [hk]
  simp only [hv]
  rw [h L w]; exact ⟨rfl, Below.refl _ _⟩

theorem ob_pureV {k : Nat} {v : Value → Value} (hw : ∀ L, wantedR ks L o = true) (hk : kd ks i = .detV k v)
    (h : ∀ L w, (execOp (rd ops ks T a0 L i) o).run P w = .ok (.value (v (L.v k))) w) : Ob P ops ks T a0 B w0 H i o := fun L w hs => by
  rw [if_pos (hw L), hk]
  have hv : val ks L i = v (L.v k) := by unfold val; rw [hk]
  simp only [hv]
  rw [h L w]; exact ⟨rfl, Below.refl _ _⟩

theorem ob_move {v : Value} {x : Operand} (hw : ∀ L, wantedR ks L o = true) (hk : kd ks i = .det v) (ho : o.op = .move x) (hx : ∀ L, rd ops ks T a0 L i x = v) : Ob P ops ks T a0 B w0 H i o :=
  ob_pure hw hk fun L w => by unfold execOp; simp only [ho, hx L]; rfl
theorem ob_assign {v : Value} {x : Operand} (hw : ∀ L, wantedR ks L o = true) (hk : kd ks i = .det v) (ho : o.op = .assign x) (hx : ∀ L, rd ops ks T a0 L i x = v) : Ob P ops ks T a0 B w0 H i o :=
  ob_pure hw hk fun L w => by unfold execOp; simp only [ho, hx L]; rfl
theorem ob_moveV {k : Nat} {v : Value → Value} {x : Operand} (hw : ∀ L, wantedR ks L o = true) (hk : kd ks i = .detV k v) (ho : o.op = .move x) (hx : ∀ L, rd ops ks T a0 L i x = v (L.v k)) : Ob P ops ks T a0 B w0 H i o :=
  ob_pureV hw hk fun L w => by unfold execOp; simp only [ho, hx L]; rfl
theorem ob_extract {v : Value} {t : Operand} {n : Nat} {vs : Array Value} (hw : ∀ L, wantedR ks L o = true) (hk : kd ks i = .det v) (ho : o.op = .extract t n) (hx : ∀ L, rd ops ks T a0 L i t = .tuple vs) (hv : vs[n]? = some v) : Ob P ops ks T a0 B w0 H i o :=
  ob_pure hw hk fun L w => by unfold execOp; simp only [ho, hx L, Instr.extract, hv]; rfl
theorem ob_pickT {v : Value} {c x y : Operand} (hw : ∀ L, wantedR ks L o = true) (hk : kd ks i = .det v) (ho : o.op = .pick c x y) (hc : ∀ L, rd ops ks T a0 L i c = .bool true) (hx : ∀ L, rd ops ks T a0 L i x = v) : Ob P ops ks T a0 B w0 H i o :=
  ob_pure hw hk fun L w => by unfold execOp; simp only [ho, hc L, hx L]; rfl
theorem ob_pickF {v : Value} {c x y : Operand} (hw : ∀ L, wantedR ks L o = true) (hk : kd ks i = .det v) (ho : o.op = .pick c x y) (hc : ∀ L, rd ops ks T a0 L i c = .bool false) (hx : ∀ L, rd ops ks T a0 L i y = v) : Ob P ops ks T a0 B w0 H i o :=
  ob_pure hw hk fun L w => by unfold execOp; simp only [ho, hc L, hx L]; rfl
theorem ob_not {b : Bool} {t : TypeId} {x : Operand} (hw : ∀ L, wantedR ks L o = true) (hk : kd ks i = .det (.bool (!b))) (ho : o.op = .unOp .not t x) (hx : ∀ L, rd ops ks T a0 L i x = .bool b) : Ob P ops ks T a0 B w0 H i o :=
  ob_pure hw hk fun L w => by unfold execOp; simp only [ho, hx L]; rfl
theorem ob_build {v : Value} {t : TypeId} {ps : Array (Nat × Operand)} {qs : Array (Nat × Value)} (hw : ∀ L, wantedR ks L o = true) (hk : kd ks i = .det v) (ho : o.op = .build t ps) (hx : ∀ L, (ps.map fun p => (p.1, rd ops ks T a0 L i p.2)) = qs)
    (h : ∀ w, (Instr.build t qs).run P w = .ok v w) : Ob P ops ks T a0 B w0 H i o :=
  ob_pure hw hk fun L w => by
    have e : (ps.map fun (x : Nat × Operand) => match x with | (i_1, x) => (i_1, rd ops ks T a0 L i x)) = qs := hx L
    unfold execOp
    simp only [ho, e, Sem.run_bind, h w]
    rfl
/-- An address in an array. -/
theorem ob_index {t e : TypeId} {x ix : Operand} {n b off sz k : Nat} {m : Nat} (hw : ∀ L, wantedR ks L o = true) (hk : kd ks i = .det (.pointer (some ⟨b, m, none⟩))) (ho : o.op = .indexAddr t x ix)
    (hx : ∀ L, rd ops ks T a0 L i x = .pointer (some ⟨b, off, none⟩)) (hi : ∀ L, rd ops ks T a0 L i ix = .int .i64 (k : Int)) (hu : P.underlying t = some (.array n e)) (hs : (P.info? e).map (·.size) = some sz) (hkn : k < n) (hm : m = off + k * sz) : Ob P ops ks T a0 B w0 H i o :=
  ob_pure hw hk fun L w => by
    have hkn' : (0 : Int) ≤ (k : Int) ∧ (k : Int) < (n : Int) := ⟨by omega, by omega⟩
    obtain ⟨inf, hinf, hsz⟩ : ∃ inf, P.info? e = some inf ∧ inf.size = sz := by
      cases h : P.info? e with
      | none => simp [h] at hs
      | some inf => exact ⟨inf, rfl, by simpa [h] using hs⟩
    subst hm
    unfold execOp
    simp [ho, hx L, hi L, Instr.indexAt, asIntOf, Sem.run_bind, Go.underlying, hu, Instr.sureAddr, hkn', sizeOf, typeInfo, hinf, hsz, Addr.add_mid]
    intro hh; omega

/-- A load of a row, or of a part of it, out of a range that is there. -/
theorem ob_load {t : TypeId} {x : Operand} {b off : Nat} {cs : List Value} {d : TypeDesc} (he : early T ks i = true) (hw : ∀ L, wantedR ks L o = true) (hk : kd ks i = .det (.agg cs.toArray)) (ho : o.op = .load t x)
    (hx : ∀ L, rd ops ks T a0 L i x = .pointer (some ⟨b, off, none⟩)) (hr : ∀ L w, Seen ks T B w0 H L i w → w.rangeAt b off cs)
    (hu : P.underlying t = some d) (hd : d.isRow = true) (hi : (P.info? t).map (·.size) = some cs.length) : Ob P ops ks T a0 B w0 H i o :=
  ob_det hw hk fun L w hs => by
    have : (execOp (rd ops ks T a0 L i) o).run P w = .ok (.value (.agg cs.toArray)) w := by
      unfold execOp
      simp only [ho, hx L, Sem.run_bind, run_loadAt_mid w b off t cs d (hr L w (hs he)) hu hd hi]
      rfl
    rw [this]
    exact ⟨rfl, Below.refl _ _⟩

theorem box_part {w : World} {b off : Nat} {pre cs post : List Value} (h : Box w b (pre ++ (cs ++ post))) (ho : pre.length = off) : w.rangeAt b off cs := fun j v hv => by
  have hj : j < cs.length := (List.getElem?_eq_some_iff.1 hv).1
  have := h.cells (off + j) v (by rw [List.getElem?_append_right (by omega), List.getElem?_append_left (by omega)]; rw [show off + j - pre.length = j by omega]; exact hv)
  simpa using this
theorem box_all {w : World} {b : Nat} {cs : List Value} (h : Box w b cs) : w.rangeAt b 0 cs := h.cells

/-- The k-th box. -/
theorem seen_at {L : Lt} {w : World} {k b : Nat} {cs : List Value} (hs : Seen ks T B w0 H L i w) (hk : H[k]? = some (b, cs)) : Box w b cs := hs.base (b, cs) (List.mem_of_getElem? hk)

/-- A function that has a body. -/
def plainF (P : Program) (f : FuncId) : Bool := match P.funcs[f]? with | some fn => !(fn.name == "runtime.NumGoroutine") && fn.body.isSome | none => false

theorem run_enter {f : FuncId} (hf : plainF P f = true) (args : Array Value) (w : World) : (invoke (.fn (.func f) #[]) args).run P w = .ok (.enter f args) w := by
  unfold plainF at hf
  cases h : P.funcs[f]? with
  | none => simp [h] at hf
  | some fn =>
    simp only [h, Bool.and_eq_true, Bool.not_eq_true'] at hf
    obtain ⟨h1, h2⟩ := hf
    have h3 : fn.body.isNone = false := by cases hb : fn.body <;> simp_all
    have h4 : ¬ fn.name = "runtime.NumGoroutine" := by simpa using h1
    have h5 : ¬ fn.body = none := by intro e; rw [e] at h2; cases h2
    simp [invoke, callFunc, Sem.run_bind, h]
    rw [if_neg h4, if_neg h5]

/-- A call of a function, its answer told. -/
theorem ob_call {v : Value} {f : FuncId} {xs : Array Operand} {ts : Array TypeId} {vs : Array Value} (hf : plainF P f = true) (he : early T ks i = true) (hw : ∀ L, wantedR ks L o = true) (hk : kd ks i = .det v) (ho : o.op = .call { callee := .value (.func f), args := xs, argTypes := ts })
    (hx : ∀ L, xs.map (rd ops ks T a0 L i) = vs) (h : ∀ w, Below B w0 w → B ≤ w.heap.size → Calls P f vs w fun e w' => e = .returned v ∧ Below w.heap.size w w') : Ob P ops ks T a0 B w0 H i o :=
  ob_det hw hk fun L w hs => by
    have : (execOp (rd ops ks T a0 L i) o).run P w = .ok (.enter f vs) w := by
      unfold execOp
      simp only [ho, resolve, hx L, Deferred.ofValue, rd, Sem.run_bind, Sem.run_pure, Result.andThen_ok, Array.empty_append, run_enter hf]
    rw [this]
    exact Calls.mono (h w (hs he).bel (hs he).le) fun e w' ⟨h1, h2⟩ => ⟨v, h1, rfl, h2⟩

/-- .. the arguments and memory as they are seen. -/
theorem ob_callS {v : Value} {f : FuncId} {xs : Array Operand} {ts : Array TypeId} {vs : Lt → Array Value} (hf : plainF P f = true) (he : early T ks i = true) (hw : ∀ L, wantedR ks L o = true) (hk : kd ks i = .det v) (ho : o.op = .call { callee := .value (.func f), args := xs, argTypes := ts })
    (hx : ∀ L, xs.map (rd ops ks T a0 L i) = vs L) (h : ∀ L w, Seen ks T B w0 H L i w → Calls P f (vs L) w fun e w' => e = .returned v ∧ Below w.heap.size w w') : Ob P ops ks T a0 B w0 H i o :=
  ob_det hw hk fun L w hs => by
    have : (execOp (rd ops ks T a0 L i) o).run P w = .ok (.enter f (vs L)) w := by
      unfold execOp
      simp only [ho, resolve, hx L, Deferred.ofValue, rd, Sem.run_bind, Sem.run_pure, Result.andThen_ok, Array.empty_append, run_enter hf]
    rw [this]
    exact Calls.mono (h L w (hs he)) fun e w' ⟨h1, h2⟩ => ⟨v, h1, rfl, h2⟩

/-- A call whose answer is a letter. -/
theorem ob_any {C : Value → World → Prop} {f : FuncId} {xs : Array Operand} {ts : Array TypeId} {vs : Lt → Array Value} (hf : plainF P f = true) (he : early T ks i = true) (hw : ∀ L, wantedR ks L o = true) (hk : kd ks i = .any C) (ho : o.op = .call { callee := .value (.func f), args := xs, argTypes := ts })
    (hx : ∀ L, xs.map (rd ops ks T a0 L i) = vs L) (hC : ∀ v w x, C v w → Below w.heap.size w x → C v x) (h : ∀ L w, Seen ks T B w0 H L i w → Calls P f (vs L) w fun e w' => ∃ v, e = .returned v ∧ C v w' ∧ Below w.heap.size w w') : Ob P ops ks T a0 B w0 H i o := fun L w hs => by
  rw [if_pos (hw L), hk]
  refine ⟨hC, ?_⟩
  have : (execOp (rd ops ks T a0 L i) o).run P w = .ok (.enter f (vs L)) w := by
    unfold execOp
    simp only [ho, resolve, hx L, Deferred.ofValue, rd, Sem.run_bind, Sem.run_pure, Result.andThen_ok, Array.empty_append, run_enter hf]
  rw [this]
  exact h L w (hs he)

theorem info_zero {t : TypeId} {v : Value} (hz : (P.info? t).bind (·.zero) = some v) (w : World) : (zeroValue t).run P w = .ok v w := by
  cases h : P.info? t with
  | none => simp [h] at hz
  | some inf =>
    simp [h] at hz
    simp [zeroValue, typeInfo, Sem.run_bind, h, hz]

theorem run_newVar (w : World) (t : TypeId) (v : Value) : (newVar t v).run P w = .ok ⟨w.heap.size, 0, none⟩ (w.alloc (.cells v.cells t)) := rfl

/-- A new variable, all noughts. -/
theorem ob_alloc {t : TypeId} {cs : List Value} {v : Value} (hw : ∀ L, wantedR ks L o = true) (hk : kd ks i = .alloc cs) (ho : o.op = .alloc t) (hz : (P.info? t).bind (·.zero) = some v) (hc : v.cells = cs.toArray) (hy : ∀ b, yields cs b = .pointer (some ⟨b, 0, none⟩)) : Ob P ops ks T a0 B w0 H i o := fun L w hs => by
  rw [if_pos (hw L), hk]
  refine ⟨t, ?_⟩
  rw [hy]
  unfold execOp
  simp [ho, Instr.alloc, Sem.run_bind, info_zero hz w, run_newVar, hc]

/-- A parameter that has an address. -/
theorem ob_box {t : TypeId} {cs : List Value} {v : Value} {x : Operand} (hw : ∀ L, wantedR ks L o = true) (hk : kd ks i = .alloc cs) (ho : o.op = .box t x) (hx : ∀ L, rd ops ks T a0 L i x = v) (hc : v.cells = cs.toArray) (hy : ∀ b, yields cs b = .pointer (some ⟨b, 0, none⟩)) : Ob P ops ks T a0 B w0 H i o := fun L w hs => by
  rw [if_pos (hw L), hk]
  refine ⟨t, ?_⟩
  rw [hy]
  unfold execOp
  simp [ho, Instr.box, hx L, Sem.run_bind, run_newVar, hc]

theorem le_len {cs old : List Value} {off n m : Nat} (h1 : cs.length = n) (h2 : old.length = m) (h : off + n ≤ m) : off + cs.length ≤ old.length := by rw [h1, h2]; exact h
/-- A store of a row. -/
theorem ob_store {t : TypeId} {x y : Operand} {l : Loc} {off : Nat} {cs new old : List Value} (hw : ∀ L, wantedR ks L o = true) (hk : kd ks i = .store l off cs new) (ho : o.op = .store t x y)
    (hx : ∀ L, rd ops ks T a0 L i x = .pointer (some ⟨addr H L l, off, none⟩)) (hy : ∀ L, rd ops ks T a0 L i y = .agg cs.toArray) (hold : oldOf ks H l = old)
    (hi : (P.info? t).map (·.size) = some cs.length) (h1 : ∀ v ∈ cs, v.oneCell' = true) (hlen : off + cs.length ≤ old.length) (hsp : new = splice old off cs) : Ob P ops ks T a0 B w0 H i o := fun L w hs => by
  rw [if_pos (hw L), hk]
  subst hold
  refine ⟨hlen, hsp, fun ht => ?_⟩
  have hrun := run_storeAt_mid (P := P) w (addr H L l) off t cs.toArray (by simpa using ht) (by simpa using hi) (all_oneCell_toArray h1)
  unfold execOp
  simp [ho, hx L, hy L, Sem.run_bind, hrun]

/-- Two rows are held against each other. -/
theorem ob_eq {t t' : TypeId} {x y : Operand} {u v : Value} {b : Bool} (hw : ∀ L, wantedR ks L o = true) (hk : kd ks i = .det (.bool b)) (ho : o.op = .binOp .eql t x y t')
    (hx : ∀ L, rd ops ks T a0 L i x = u) (hy : ∀ L, rd ops ks T a0 L i y = v) (hg : ∀ w, (eqGuard .eql t x y u v).run P w = .ok () w) (h : ∀ w, (binOp .eql t u v).run P w = .ok (.bool b) w) : Ob P ops ks T a0 B w0 H i o :=
  ob_pure hw hk fun L w => by unfold execOp; simp [ho, hx L, hy L, Sem.run_bind, hg w, h w]
theorem ob_ne {t t' : TypeId} {x y : Operand} {u v : Value} {b : Bool} (hw : ∀ L, wantedR ks L o = true) (hk : kd ks i = .det (.bool b)) (ho : o.op = .binOp .neq t x y t')
    (hx : ∀ L, rd ops ks T a0 L i x = u) (hy : ∀ L, rd ops ks T a0 L i y = v) (hg : ∀ w, (eqGuard .neq t x y u v).run P w = .ok () w) (h : ∀ w, (binOp .neq t u v).run P w = .ok (.bool b) w) : Ob P ops ks T a0 B w0 H i o :=
  ob_pure hw hk fun L w => by unfold execOp; simp [ho, hx L, hy L, Sem.run_bind, hg w, h w]

theorem ob_bin {op : BinOp} {t t' : TypeId} {x y : Operand} {u v r : Value} (hw : ∀ L, wantedR ks L o = true) (hk : kd ks i = .det r) (ho : o.op = .binOp op t x y t')
    (hx : ∀ L, rd ops ks T a0 L i x = u) (hy : ∀ L, rd ops ks T a0 L i y = v) (hg : ∀ w, (eqGuard op t x y u v).run P w = .ok () w) (h : ∀ w, (binOp op t u v).run P w = .ok r w) : Ob P ops ks T a0 B w0 H i o :=
  ob_pure hw hk fun L w => by unfold execOp; simp [ho, hx L, hy L, Sem.run_bind, hg w, h w]

/-! ### A value that is built of parts -/
theorem foldl_set (cs : List Value) : ∀ (Z : Array Value) (off k : Nat), off + k + cs.length ≤ Z.size →
    (cs.zipIdx k).foldl (fun (zs : Array Value) (x : Value × Nat) => zs.setIfInBounds (off + x.2) x.1) Z = (splice Z.toList (off + k) cs).toArray := by
  induction cs with
  | nil => intro Z off k h; simp [splice]
  | cons c r ih =>
    intro Z off k h
    simp only [List.length_cons] at h
    rw [List.zipIdx_cons, List.foldl_cons, ih _ off (k + 1) (by simp; omega)]
    congr 1
    unfold splice
    apply List.ext_getElem?
    intro n
    simp only [List.length_cons, Array.toList_setIfInBounds, List.append_assoc, List.getElem?_append, List.getElem?_take, List.getElem?_drop, List.length_take, List.length_set, List.getElem?_set, Array.length_toList, List.cons_append, List.length_append, List.length_drop]
    grind

theorem fill_cons {place : Nat → Option (Nat × Nat)} {Z cs : List Value} {k off sz : Nat} {rest : List (Nat × Value)} (hp : place k = some (off, sz)) (hl : cs.length = sz) (hb : off + sz ≤ Z.length) :
    Instr.fill place Z.toArray ((k, .agg cs.toArray) :: rest) = Instr.fill place (splice Z off cs).toArray rest := by
  have h1 : (Value.agg cs.toArray).cells = cs.toArray := rfl
  rw [Instr.fill]
  simp only [hp, h1, List.size_toArray, hl, ne_eq, not_true_eq_false, decide_false, Bool.false_or, decide_eq_true_eq]
  rw [if_neg (by omega)]
  have := foldl_set cs Z.toArray off 0 (by simp; omega)
  rw [Nat.add_zero] at this
  rw [← this]
  simp

theorem run_build_array {t e : TypeId} {n sz : Nat} {Z : List Value} {ps : Array (Nat × Value)} {cs : List Value} (hu : P.underlying t = some (.array n e)) (hs : (P.info? e).map (·.size) = some sz) (hz : (P.info? t).bind (·.zero) = some (.agg Z.toArray))
    (hf : Instr.fill (fun i => some (i * sz, sz)) Z.toArray ps.toList = some cs.toArray) (w : World) : (Instr.build t ps).run P w = .ok (.agg cs.toArray) w := by
  obtain ⟨inf, hinf, hsz⟩ : ∃ inf, P.info? e = some inf ∧ inf.size = sz := by
    cases h : P.info? e with
    | none => simp [h] at hs
    | some inf => exact ⟨inf, rfl, by simpa [h] using hs⟩
  have hc : (Value.agg Z.toArray).cells = Z.toArray := rfl
  unfold Instr.build
  simp [Sem.run_bind, info_zero hz w, run_underlying hu w, sizeOf, typeInfo, hinf, hsz, hc, hf]

end
end Go.Proofs.Ytklddcicfeakfaa.Pl
