/- PL PM PN PO PQ PR RZ PU PS PT PX BZ PYZ CU OYZ. -/
import Derived.OrdersHeld
import Derived.Below
import Derived.Deep.MidRow
import Derived.Laws.NewBlocks
import Derived.LoopN
import Derived.Test.YtccidmogamnihaaRows
import Derived.Test.YtccidmogamnihaaGA
import Derived.ProofKit
import Derived.WalkKit
import Derived.Great.BuildSlice
import Derived.Laws.Slices
import Derived.Laws.MakeOwn
import Derived.Laws.AppendOwn
/- The plan of a region: what each of its operations yields, told once, whatever the order of evaluation. No program is named here. -/
namespace Go.Proofs.Ytccidmogamnihaa.Pl
open Go Go.RowKit
set_option linter.unusedVariables false
set_option linter.unusedSimpArgs false

structure Box (w : World) (b : Nat) (cs : List Value) : Prop where
  lt : b < w.heap.size
  cells : w.rangeAt b 0 cs
  free : w.there b 0 cs.length

structure Wr (b : Nat) (w x : World) : Prop where
  os : x.os = w.os
  tape : x.tape = w.tape
  output : x.output = w.output
  size : x.heap.size = w.heap.size
  block : ∀ k, k ≠ b → x.heap[k]? = w.heap[k]?

theorem Wr.below {b B : Nat} {w x : World} (h : Wr b w x) (hB : B ≤ b) : Below B w x :=
  ⟨h.os, h.tape, h.output, by rw [h.size]; exact Nat.le_refl _, fun k hk => h.block k (by omega)⟩

structure Chg (b : Nat) (w x : World) : Prop where
  os : x.os = w.os
  tape : x.tape = w.tape
  output : x.output = w.output
  size : w.heap.size ≤ x.heap.size
  block : ∀ k, k < w.heap.size → k ≠ b → x.heap[k]? = w.heap[k]?

theorem Chg.of {b : Nat} {w x y z : World} (h : Below w.heap.size w x) (k : Wr b x y) (m : Below w.heap.size y z) : Chg b w z :=
  ⟨m.os.trans (k.os.trans h.os), m.tape.trans (k.tape.trans h.tape), m.output.trans (k.output.trans h.output), Nat.le_trans h.size (by rw [← k.size]; exact m.size), fun i hi hne => (m.block i hi).trans ((k.block i hne).trans (h.block i hi))⟩
theorem Chg.below {b B : Nat} {w x : World} (h : Chg b w x) (hB : B ≤ b) (hw : B ≤ w.heap.size) : Below B w x :=
  ⟨h.os, h.tape, h.output, h.size, fun k hk => h.block k (by omega) (by omega)⟩

theorem Wr.set (b : Nat) : ∀ (vs : List Value) (o : Nat) (w : World), Wr b w (w.setCells b o vs)
  | [], o, w => ⟨rfl, rfl, rfl, rfl, fun _ _ => rfl⟩
  | v :: r, o, w => by
    have h := Wr.set b r (o + 1) (w.setCell ⟨b, o, none⟩ v)
    rw [World.setCells]
    exact ⟨h.os, h.tape, h.output, by rw [h.size]; simp [World.setCell], fun k hk => (h.block k hk).trans (Below.heap_setCell _ _ _ _ (by simpa using hk))⟩

theorem Box.keep {w x : World} {b : Nat} {cs : List Value} (h : Box w b cs) (hs : w.heap.size ≤ x.heap.size) (hb : x.heap[b]? = w.heap[b]?) : Box x b cs :=
  ⟨Nat.lt_of_lt_of_le h.lt hs, fun j v hv => (World.cell?_of_block (w := w) (a := ⟨b, 0 + j, none⟩) hb).trans (h.cells j v hv),
   fun j hj => ⟨by rw [World.cell?_of_block (w := w) (a := ⟨b, 0 + j, none⟩) hb]; exact (h.free j hj).1, by rw [World.frozen?_of_block (w := w) (a := ⟨b, 0 + j, none⟩) hb]; exact (h.free j hj).2⟩⟩
theorem Box.below {w x : World} {b B : Nat} {cs : List Value} (h : Box w b cs) (k : Below B w x) (hB : b < B) : Box x b cs := h.keep k.size (k.block b hB)
theorem Box.up {w x : World} {b : Nat} {cs : List Value} (h : Box w b cs) (k : Below w.heap.size w x) : Box x b cs := h.below k h.lt
theorem Box.wr {w x : World} {b b' : Nat} {cs : List Value} (h : Box w b cs) (k : Wr b' w x) (hne : b ≠ b') : Box x b cs := h.keep (by rw [k.size]; exact Nat.le_refl _) (k.block b hne)

theorem Box.chg {w x : World} {b b' : Nat} {cs : List Value} (h : Box w b cs) (k : Chg b' w x) (hne : b ≠ b') : Box x b cs := h.keep k.size (k.block b h.lt hne)
theorem Box.new (w : World) (cs : List Value) (t : TypeId) : Box (w.alloc (.cells cs.toArray t)) w.heap.size cs := by
  have hh : (w.alloc (.cells cs.toArray t)).heap[w.heap.size]? = some (.cells cs.toArray t) := by
    show (w.heap.push _)[w.heap.size]? = _
    simp
  refine ⟨by rw [World.size_alloc]; omega, fun j v hv => ?_, fun j hj => ⟨?_, ?_⟩⟩
  · unfold World.cell?
    simp only [hh, Nat.zero_add]
    simpa using hv
  · unfold World.cell?
    simp only [hh, Nat.zero_add]
    simp [hj]
  · unfold World.frozen?
    simp only [hh]
    simp

def splice (old : List Value) (off : Nat) (cs : List Value) : List Value := old.take off ++ cs ++ old.drop (off + cs.length)

theorem Box.set {w : World} {b off : Nat} {old cs : List Value} (h : Box w b old) (hl : off + cs.length ≤ old.length) : Box (w.setCells b off cs) b (splice old off cs) := by
  have hwr := Wr.set b cs off w
  have hlen : (splice old off cs).length = old.length := by unfold splice; simp; omega
  have ht : w.there b off cs.length := fun j hj => by have := h.free (off + j) (by omega); simpa using this
  refine ⟨by rw [hwr.size]; exact h.lt, fun j v hv => ?_, ?_⟩
  · by_cases h1 : j < off
    · have e : (splice old off cs)[j]? = old[j]? := by
        unfold splice
        rw [List.append_assoc, List.getElem?_append_left (by simp; omega), List.getElem?_take_of_lt h1]
      rw [World.cell?_setCells_out b cs off w ⟨b, 0 + j, none⟩ (fun _ _ => .inl (by show 0 + j < off; omega))]
      exact h.cells j v (e ▸ hv)
    · by_cases h2 : j < off + cs.length
      · obtain ⟨k, rfl⟩ : ∃ k, j = off + k := ⟨j - off, by omega⟩
        have e : (splice old off cs)[off + k]? = cs[k]? := by
          unfold splice
          rw [List.append_assoc, List.getElem?_append_right (by simp; omega), List.getElem?_append_left (by simp; omega)]
          congr 1; simp; omega
        have := World.rangeAt_setCells_same w b off cs ht k v (e ▸ hv)
        simpa using this
      · have e : (splice old off cs)[j]? = old[j]? := by
          unfold splice
          rw [List.getElem?_append_right (by simp; omega), List.getElem?_drop]
          congr 1; simp; omega
        rw [World.cell?_setCells_out b cs off w ⟨b, 0 + j, none⟩ (fun _ _ => .inr (by show off + cs.length ≤ 0 + j; omega))]
        exact h.cells j v (e ▸ hv)
  · rw [hlen]; exact World.there_setCells h.free b off cs

inductive Loc where
  | base (k : Nat)
  | new (j : Nat)
  deriving DecidableEq

inductive Kind where
  | det (v : Value)
  | detB (k : Nat) (v : Nat → Value)
  | detV (k : Nat) (v : Value → Value)
  | any (C : Value → World → Prop)
  | alloc (cs : List Value)
  | store (l : Loc) (off : Nat) (cs new : List Value)
  | turn (k : Nat) (v : Value) (new : List Value)

structure Lt where
  v : Nat → Value
  b : Nat → Nat

def Lt.setV (L : Lt) (i : Nat) (x : Value) : Lt := ⟨fun j => if j = i then x else L.v j, L.b⟩
def Lt.setB (L : Lt) (i : Nat) (x : Nat) : Lt := ⟨L.v, fun j => if j = i then x else L.b j⟩

def yields (cs : List Value) (b : Nat) : Value := match cs with
  | .int .u8 _ :: _ => bif Nat.beq cs.length 64 || Nat.beq cs.length 32 then .pointer (some ⟨b, 0, none⟩) else .slice (some ⟨b, 0, none⟩) cs.length cs.length
  | _ => .pointer (some ⟨b, 0, none⟩)
def kd (ks : List Kind) (j : Nat) : Kind := ks.getD j (.det undef)
def val (ks : List Kind) (L : Lt) (j : Nat) : Value :=
  match kd ks j with
  | .det v => v
  | .detB k v => v (L.b k)
  | .detV k v => v (L.v k)
  | .any _ => L.v j
  | .alloc cs => yields cs (L.b j)
  | .store .. => undef
  | .turn _ v _ => v

def own (ops : Array Oper) (t : Nat) : Option Nat := (List.range ops.size).find? fun j => ((ops[j]?).bind (·.dst)) == some t
def aft (ops : Array Oper) (i : Nat) : List Nat := ((ops[i]?).map fun o => (o.after.toList.filter (Region.binds .any)).map (·.on)).getD []
def bef (T : List Nat) (i j : Nat) : Bool := (T.getD i 0).testBit j
def isStore (ks : List Kind) (j : Nat) : Bool := match kd ks j with | .store .. => true | .turn .. => true | _ => false
def storesTo (ks : List Kind) (l : Loc) (j : Nat) : Bool := match kd ks j with | .store l' _ _ _ => l' == l | .turn k _ _ => Loc.base k == l | _ => false
def st (ks : List Kind) (l : Loc) : Option Nat := (List.range ks.length).find? (storesTo ks l)
def newOf (ks : List Kind) (s : Nat) (cs : List Value) : List Value := match kd ks s with | .store _ _ _ new => new | .turn _ _ new => new | _ => cs
def isAlloc (ks : List Kind) (j : Nat) : Bool := match kd ks j with | .alloc _ => true | _ => false
def isNewS (ks : List Kind) (j : Nat) : Bool := match kd ks j with | .store (.new _) _ _ _ => true | _ => false
def noAny (ks : List Kind) : Bool := ks.all fun | .any _ => false | _ => true
def early (T : List Nat) (ks : List Kind) (i : Nat) : Bool := (List.range ks.length).all fun s => Nat.beq s i || !isStore ks s || (bef T s i || (isNewS ks s && noAny ks))

def rd (ops : Array Oper) (ks : List Kind) (T : List Nat) (a0 : Act) (L : Lt) (i : Nat) : Operand → Value
  | .tmp t => match own ops t with
    | none => a0.tmps.getD t undef
    | some j => if bef T i j then val ks L j else a0.tmps.getD t undef
  | .const v => v
  | .global g => .pointer (some ⟨g, 0, none⟩)
  | .func f => .func (.func f) #[] #[]

def wantedR (ks : List Kind) (L : Lt) (o : Oper) : Bool :=
  match o.guard with
  | none => true
  | some (g, want) => (match val ks L g with | .bool b => some b | _ => none) == some want

def chkOp (ops : Array Oper) (ks : List Kind) (T : List Nat) (nt nh : Nat) (i : Nat) (o : Oper) : Bool :=
  (match o.dst with | some d => own ops d == some i && decide (d < nt) | none => true) &&
  (o.looksAt ops).all (fun t => match own ops t with | none => true | some j => j == i || bef T i j || bef T j i) &&
  (match o.op with | .select .. => false | _ => true) &&
  (match o.guard with | some (g, _) => bef T i g && ((ops[g]?).bind (·.dst)).isSome | none => true) &&
  (match kd ks i with
    | .store l _ _ _ => o.guard.isNone && o.dst.isNone && st ks l == some i && (match l with | .new j => bef T i j && isAlloc ks j | .base k => decide (k < nh))
    | .detB k _ => bef T i k && isAlloc ks k && !isStore ks i
    | .detV k _ => bef T i k && (match kd ks k with | .any _ => true | _ => false)
    | .turn k _ _ => st ks (.base k) == some i && decide (k < nh)
    | .any _ => o.dst.isSome
    | .alloc _ => o.dst.isSome
    | .det _ => true) &&
  (aft ops i).all (fun j => decide (j < i)) &&
  (List.range i).all (fun j => !bef T i j || (aft ops i).any fun k => k == j || bef T k j) &&
  decide ((T.getD i 0) < 2 ^ i)

def chk (ops : Array Oper) (ks : List Kind) (T : List Nat) (nt nh : Nat) : Bool :=
  decide (ks.length = ops.size) && decide (T.length = ops.size) && (List.range ops.size).all fun i => match ops[i]? with | some o => chkOp ops ks T nt nh i o | none => false

structure Heap (B : Nat) (w0 w : World) (H : List (Nat × List Value)) : Prop where
  bel : Below B w0 w
  box : ∀ p ∈ H, B ≤ p.1 ∧ Box w p.1 p.2
  nd : (H.map (·.1)).Nodup
  le : B ≤ w.heap.size

structure Seen (ks : List Kind) (T : List Nat) (B : Nat) (w0 : World) (H : List (Nat × List Value)) (L : Lt) (i : Nat) (w : World) : Prop where
  bel : Below B w0 w
  le : B ≤ w.heap.size
  base : ∀ p ∈ H, Box w p.1 p.2
  any : ∀ j C, kd ks j = .any C → bef T i j = true → C (L.v j) w

def boxAt (ks : List Kind) (T : List Nat) (i k : Nat) (cs : List Value) : Option (List Value) :=
  match st ks (.base k) with
  | none => some cs
  | some s => if bef T i s then some (newOf ks s cs) else if bef T s i || Nat.beq s i then some cs else none
structure Still (ks : List Kind) (T : List Nat) (B : Nat) (w0 : World) (H : List (Nat × List Value)) (i : Nat) (w : World) : Prop where
  bel : Below B w0 w
  le : B ≤ w.heap.size
  base : ∀ k p cs, H[k]? = some p → boxAt ks T i k p.2 = some cs → Box w p.1 cs
structure Hyp (ks : List Kind) (T : List Nat) (B : Nat) (w0 : World) (H : List (Nat × List Value)) (L : Lt) (i : Nat) (w : World) : Prop where
  seen : early T ks i = true → Seen ks T B w0 H L i w
  still : Still ks T B w0 H i w
instance (ks : List Kind) (T : List Nat) (B : Nat) (w0 : World) (H : List (Nat × List Value)) (L : Lt) (i : Nat) (w : World) : CoeFun (Hyp ks T B w0 H L i w) (fun _ => early T ks i = true → Seen ks T B w0 H L i w) := ⟨Hyp.seen⟩

def Runs (P : Program) (r : Result Next) (R : Value → World → Prop) : Prop :=
  match r with
  | .ok (.value v) w' => R v w'
  | .ok (.enter f args) w' => Calls P f args w' fun e w'' => ∃ v, e = .returned v ∧ R v w''
  | _ => False

theorem Runs.upon {P : Program} {o : Oper} {a : Act} {next : Act → World → Prop} {Q : Exit → Act → World → Prop} {r : Result Next} {R : Value → World → Prop}
    (h : Runs P r R) (hn : ∀ v w', R v w' → next (a.put o.dst v) w') : o.upon P a next Q r := by
  cases r with
  | ok n w' =>
    cases n <;> simp only [Runs] at h <;> first | exact h.elim | skip
    · exact hn _ _ h
    · refine Calls.mono h fun e w'' he => ?_
      obtain ⟨v, rfl, hr⟩ := he
      exact hn _ _ hr
  | halt x w' => simp [Runs] at h

def cur (ks : List Kind) (listed : Array Bool) (l : Loc) (cs : List Value) : List Value :=
  match st ks l with
  | some s => if listed.getD s false then newOf ks s cs else cs
  | none => cs

def addr (H : List (Nat × List Value)) (L : Lt) : Loc → Nat
  | .base k => (H.getD k (0, [])).1
  | .new j => L.b j
def oldOf (ks : List Kind) (H : List (Nat × List Value)) : Loc → List Value
  | .base k => (H.getD k (0, [])).2
  | .new j => match kd ks j with | .alloc cs => cs | _ => []

def Ob (P : Program) (ops : Array Oper) (ks : List Kind) (T : List Nat) (a0 : Act) (B : Nat) (w0 : World) (H : List (Nat × List Value)) (i : Nat) (o : Oper) : Prop :=
  ∀ (L : Lt) (w : World), Hyp ks T B w0 H L i w →
    if wantedR ks L o = true then
      match kd ks i with
      | .det _ | .detB .. | .detV .. => Runs P ((execOp (rd ops ks T a0 L i) o).run P w) (fun v w' => v = val ks L i ∧ Below w.heap.size w w')
      | .any C => (∀ v w x, C v w → Below w.heap.size w x → C v x) ∧ Runs P ((execOp (rd ops ks T a0 L i) o).run P w) (fun v w' => C v w' ∧ Below w.heap.size w w')
      | .alloc cs => ∃ ty, (execOp (rd ops ks T a0 L i) o).run P w = .ok (.value (yields cs w.heap.size)) (w.alloc (.cells cs.toArray ty))
      | .store l off cs new => off + cs.length ≤ (oldOf ks H l).length ∧ new = splice (oldOf ks H l) off cs ∧ (w.there (addr H L l) off cs.length → (execOp (rd ops ks T a0 L i) o).run P w = .ok .skip (w.setCells (addr H L l) off cs))
      | .turn k v new => Box w (addr H L (.base k)) (oldOf ks H (.base k)) → Runs P ((execOp (rd ops ks T a0 L i) o).run P w) (fun u w' => u = v ∧ Chg (addr H L (.base k)) w w' ∧ Box w' (addr H L (.base k)) new)
    else kd ks i = .det undef

def AllOb (P : Program) (ops : Array Oper) (ks : List Kind) (T : List Nat) (a0 : Act) (B : Nat) (w0 : World) (H : List (Nat × List Value)) : Nat → List Oper → Prop
  | _, [] => True
  | i, o :: r => Ob P ops ks T a0 B w0 H i o ∧ AllOb P ops ks T a0 B w0 H (i + 1) r

theorem AllOb.at {P : Program} {ops : Array Oper} {ks : List Kind} {T : List Nat} {a0 : Act} {B : Nat} {w0 : World} {H : List (Nat × List Value)} :
    ∀ (l : List Oper) (i j : Nat) (o : Oper), AllOb P ops ks T a0 B w0 H i l → l[j]? = some o → Ob P ops ks T a0 B w0 H (i + j) o
  | [], _, _, _, _, h => by simp at h
  | x :: r, i, 0, o, h, hj => by simp at hj; subst hj; exact h.1
  | x :: r, i, j + 1, o, h, hj => by
    have := AllOb.at r (i + 1) j o h.2 (by simpa using hj)
    rwa [show i + 1 + j = i + (j + 1) by omega] at this

end Go.Proofs.Ytccidmogamnihaa.Pl

/- A region goes by its plan, in whatever order. No program is named here. -/
namespace Go.Proofs.Ytccidmogamnihaa.Pl
open Go Go.RowKit
set_option linter.unusedVariables false
set_option linter.unusedSimpArgs false

section
variable {P : Program} {ops : Array Oper} {ks : List Kind} {T : List Nat} {a0 : Act} {B : Nat} {w0 W0 : World} {H : List (Nat × List Value)} {Q : Exit → Act → World → Prop}

def slot (ops : Array Oper) (ks : List Kind) (a0 : Act) (L : Lt) (listed : Array Bool) (t : Nat) : Value :=
  match own ops t with
  | none => a0.tmps.getD t undef
  | some j => if listed.getD j false then val ks L j else a0.tmps.getD t undef

structure FrameI (ops : Array Oper) (ks : List Kind) (a0 : Act) (L : Lt) (listed : Array Bool) (a : Act) : Prop where
  df : a.defers = a0.defers
  ts : a.tmps.size = a0.tmps.size
  fr : ∀ t, a.tmps.getD t undef = slot ops ks a0 L listed t

structure MemI (ks : List Kind) (B : Nat) (w0 W0 : World) (H : List (Nat × List Value)) (L : Lt) (listed : Array Bool) (w : World) : Prop where
  bl : Below B w0 w
  le : W0.heap.size ≤ w.heap.size
  hb : ∀ k p, H[k]? = some p → Box w p.1 (cur ks listed (.base k) p.2)
  hn : ∀ j cs, kd ks j = .alloc cs → listed.getD j false = true → W0.heap.size ≤ L.b j ∧ Box w (L.b j) (cur ks listed (.new j) cs)
  ij : ∀ j k, isAlloc ks j = true → isAlloc ks k = true → listed.getD j false = true → listed.getD k false = true → L.b j = L.b k → j = k
  an : (∀ s, isStore ks s = true → listed.getD s false = false) → ∀ j C, kd ks j = .any C → listed.getD j false = true → C (L.v j) w
  sb : ∀ j C, kd ks j = .any C → listed.getD j false = true → ∀ v w x, C v w → Below w.heap.size w x → C v x

structure Inv (ops : Array Oper) (ks : List Kind) (T : List Nat) (a0 : Act) (B : Nat) (w0 W0 : World) (H : List (Nat × List Value)) (L : Lt) (listed : Array Bool) (a : Act) (w : World) : Prop where
  sz : listed.size = ops.size
  cl : ∀ i, listed.getD i false = true → ∀ j, bef T i j = true → listed.getD j false = true
  F : FrameI ops ks a0 L listed a
  M : MemI ks B w0 W0 H L listed w

theorem ls_get {listed : Array Bool} {i : Nat} (hi : i < listed.size) (j : Nat) : (listed.setIfInBounds i true).getD j false = if j = i then true else listed.getD j false := by
  by_cases h : j = i
  · subst h; rw [if_pos rfl]; simp [hi]
  · rw [if_neg h, getD_set_ne false (fun e => h e.symm)]

theorem own_spec {t j : Nat} (h : own ops t = some j) : j < ops.size ∧ (ops[j]?).bind (·.dst) = some t := by
  have h1 := List.find?_some h
  have h2 := List.mem_of_find?_eq_some h
  exact ⟨by simpa using h2, by simpa using h1⟩

theorem chk_at {nt nh : Nat} (h : chk ops ks T nt nh = true) {i : Nat} {o : Oper} (ho : ops[i]? = some o) : chkOp ops ks T nt nh i o = true := by
  unfold chk at h
  simp only [Bool.and_eq_true, decide_eq_true_eq, List.all_eq_true, List.mem_range] at h
  have := h.2 i (by have := (Array.getElem?_eq_some_iff.1 ho).1; exact this)
  rw [ho] at this
  exact this
theorem chk_len {nt nh : Nat} (h : chk ops ks T nt nh = true) : ks.length = ops.size := by
  unfold chk at h
  simp only [Bool.and_eq_true, decide_eq_true_eq] at h
  exact h.1.1

structure Stat (ops : Array Oper) (ks : List Kind) (T : List Nat) (nt nh i : Nat) (o : Oper) : Prop where
  dst : ∀ d, o.dst = some d → own ops d = some i ∧ d < nt
  looks : ∀ t ∈ o.looksAt ops, ∀ j, own ops t = some j → j = i ∨ bef T i j = true ∨ bef T j i = true
  sel : ∀ cs b, o.op ≠ .select cs b
  grd : ∀ g want, o.guard = some (g, want) → bef T i g = true ∧ ∃ d, (ops[g]?).bind (·.dst) = some d
  sto : ∀ l off cs new, kd ks i = .store l off cs new → o.guard = none ∧ o.dst = none ∧ st ks l = some i ∧ (∀ j, l = .new j → bef T i j = true ∧ isAlloc ks j = true) ∧ (∀ k, l = .base k → k < nh)
  tur : ∀ k v new, kd ks i = .turn k v new → st ks (.base k) = some i ∧ k < nh
  dB : ∀ k v, kd ks i = .detB k v → bef T i k = true
  dV : ∀ k v, kd ks i = .detV k v → bef T i k = true
  any : ∀ C, kd ks i = .any C → ∃ d, o.dst = some d
  all : ∀ cs, kd ks i = .alloc cs → ∃ d, o.dst = some d
  back : ∀ j ∈ aft ops i, j < i
  tab : ∀ j, bef T i j = true → ∃ k ∈ aft ops i, k = j ∨ bef T k j = true

theorem stat {nt nh : Nat} (h : chk ops ks T nt nh = true) {i : Nat} {o : Oper} (ho : ops[i]? = some o) : Stat ops ks T nt nh i o := by
  have c := chk_at h ho
  unfold chkOp at c
  simp only [Bool.and_eq_true] at c
  obtain ⟨⟨⟨⟨⟨⟨⟨h1, h2⟩, h3⟩, h4⟩, h5⟩, h6⟩, h7⟩, h8⟩ := c
  refine ⟨fun d hd => ?_, fun t ht j hj => ?_, fun cs b hs => ?_, fun g want hg => ?_, fun l off cs new hk => ?_, fun k v new hk => ?_, fun k v hk => ?_, fun k v hk => ?_, fun C hk => ?_, fun cs hk => ?_, fun j hj => ?_, fun j hj => ?_⟩
  · simp only [hd, Bool.and_eq_true, beq_iff_eq, decide_eq_true_eq] at h1; exact h1
  · have := List.all_eq_true.1 h2 t ht
    rw [hj] at this
    simp only [Bool.or_eq_true, beq_iff_eq] at this
    rcases this with (a | a) | a
    · exact .inl a
    · exact .inr (.inl a)
    · exact .inr (.inr a)
  · simp [hs] at h3
  · simp only [hg, Bool.and_eq_true] at h4
    exact ⟨h4.1, Option.isSome_iff_exists.1 h4.2⟩
  · simp only [hk, Bool.and_eq_true, beq_iff_eq, Option.isNone_iff_eq_none] at h5
    obtain ⟨⟨⟨a, b⟩, c⟩, d⟩ := h5
    refine ⟨a, b, c, fun j e => ?_, fun k e => ?_⟩
    · subst e; simpa using d
    · subst e; simpa using d
  · simp only [hk, Bool.and_eq_true, beq_iff_eq, decide_eq_true_eq] at h5; exact h5
  · simp only [hk, Bool.and_eq_true] at h5; exact h5.1.1
  · simp only [hk, Bool.and_eq_true] at h5; exact h5.1
  · simp only [hk] at h5; exact Option.isSome_iff_exists.1 h5
  · simp only [hk] at h5; exact Option.isSome_iff_exists.1 h5
  · have := List.all_eq_true.1 h6 j hj
    simpa using this
  · have hlt : j < i := by
      unfold bef at hj
      by_cases hge : j < i
      · exact hge
      · have h9 : T.getD i 0 < 2 ^ j := Nat.lt_of_lt_of_le (by simpa using h8) (Nat.pow_le_pow_right (by decide) (by omega))
        rw [Nat.testBit_lt_two_pow h9] at hj
        cases hj
    have := List.all_eq_true.1 h7 j (by simpa using hlt)
    simp only [hj, Bool.not_true, Bool.false_or, List.any_eq_true, Bool.or_eq_true, beq_iff_eq] at this
    exact this

theorem kd_lt {j : Nat} (h : kd ks j ≠ .det undef) : j < ks.length := by
  unfold kd at h
  by_cases hj : j < ks.length
  · exact hj
  · simp [List.getD, List.getElem?_eq_none (Nat.le_of_not_lt hj)] at h
theorem st_store {l : Loc} {s : Nat} (h : st ks l = some s) : isStore ks s = true := by
  have h1 := List.find?_some h
  unfold storesTo at h1
  unfold isStore
  cases hk : kd ks s <;> rw [hk] at h1 <;> simp at h1 ⊢
theorem isStore_lt {j : Nat} (h : isStore ks j = true) : j < ks.length := kd_lt fun e => by simp [isStore, e] at h

theorem st_spec {l : Loc} {s : Nat} (h : st ks l = some s) : (∃ off cs new, kd ks s = .store l off cs new) ∨ ∃ k v new, l = .base k ∧ kd ks s = .turn k v new := by
  have h1 := List.find?_some h
  unfold storesTo at h1
  cases hk : kd ks s with
  | store l' off cs new => rw [hk] at h1; have := of_decide_eq_true h1; subst this; exact .inl ⟨off, cs, new, rfl⟩
  | turn k v new => rw [hk] at h1; have := of_decide_eq_true h1; subst this; exact .inr ⟨k, v, new, rfl, rfl⟩
  | _ => rw [hk] at h1; simp at h1

theorem FrameI.next {nt nh : Nat} {L L' : Lt} {listed : Array Bool} {a : Act} {i : Nat} {o : Oper} {v : Value} (F : FrameI ops ks a0 L listed a) (S : Stat ops ks T nt nh i o) (hnt : nt = a0.tmps.size) (ho : ops[i]? = some o)
    (hi : i < listed.size) (hv : ∀ d, o.dst = some d → v = val ks L' i) (hL : ∀ j, j ≠ i → listed.getD j false = true → val ks L' j = val ks L j) :
    FrameI ops ks a0 L' (listed.setIfInBounds i true) (a.put o.dst v) := by
  refine ⟨?_, ?_, fun t => ?_⟩
  · cases h : o.dst <;> simp [Act.put, F.df]
  · cases h : o.dst <;> simp [Act.put, F.ts]
  · have main : ∀ d, o.dst ≠ some d → (a.tmps.getD d undef = slot ops ks a0 L' (listed.setIfInBounds i true) d) := fun d hd => by
      rw [F.fr d]
      unfold slot
      cases hw : own ops d with
      | none => rfl
      | some j =>
        simp only
        have hj := (own_spec hw).2
        have hne : j ≠ i := fun e => by subst e; rw [ho] at hj; exact hd hj
        rw [ls_get hi, if_neg hne]
        by_cases hl : listed.getD j false = true
        · rw [if_pos hl, if_pos hl, hL j hne hl]
        · rw [if_neg hl, if_neg hl]
    cases h : o.dst with
    | none => exact main t (by rw [h]; simp)
    | some d =>
      obtain ⟨hw, hd⟩ := S.dst d h
      by_cases e : t = d
      · subst e
        unfold slot
        simp only [hw]
        rw [ls_get hi, if_pos rfl, if_pos rfl, ← hv t h]
        have : t < a.tmps.size := by rw [F.ts, ← hnt]; exact hd
        simp [Act.put, this]
      · have := main t (by rw [h]; simpa using fun e' => e e'.symm)
        rw [← this]
        simp [Act.put, Array.getElem?_setIfInBounds_ne (fun e' => e e'.symm)]

theorem cur_same {listed : Array Bool} {i : Nat} {l : Loc} {cs : List Value} (hi : i < listed.size) (h : st ks l ≠ some i) : cur ks (listed.setIfInBounds i true) l cs = cur ks listed l cs := by
  unfold cur
  cases hs : st ks l with
  | none => rfl
  | some s =>
    have hne : s ≠ i := fun e => h (by rw [hs, e])
    have e : (listed.setIfInBounds i true).getD s false = listed.getD s false := by rw [ls_get hi, if_neg hne]
    simp only [e]

theorem st_ne {i : Nat} (h : isStore ks i = false) (l : Loc) : st ks l ≠ some i := fun e => by
  rw [st_store e] at h; cases h

theorem MemI.quiet {L : Lt} {listed : Array Bool} {w w' : World} {i : Nat} (M : MemI ks B w0 W0 H L listed w) (hi : i < listed.size) (hB : B ≤ W0.heap.size) (hb : Below w.heap.size w w')
    (hs : isStore ks i = false) (ha : isAlloc ks i = false) (hy : ∀ C, kd ks i ≠ .any C) : MemI ks B w0 W0 H L (listed.setIfInBounds i true) w' := by
  have hne : ∀ j cs, kd ks j = .alloc cs → j ≠ i := fun j cs h e => by subst e; simp [isAlloc, h] at ha
  have hne' : ∀ j C, kd ks j = .any C → j ≠ i := fun j C h e => by subst e; exact hy C h
  refine ⟨M.bl.trans (hb.mono (Nat.le_trans hB M.le)), Nat.le_trans M.le hb.size, fun k p hp => ?_, fun j cs hk hl => ?_, fun j k hj hk hlj hlk => ?_, fun hno j C hk hl => ?_, fun j C hk hl => ?_⟩
  · rw [cur_same hi (st_ne hs _)]; exact (M.hb k p hp).up hb
  · rw [ls_get hi, if_neg (hne j cs hk)] at hl
    rw [cur_same hi (st_ne hs _)]
    exact ⟨(M.hn j cs hk hl).1, (M.hn j cs hk hl).2.up hb⟩
  · have nj : j ≠ i := fun e => by subst e; rw [hj] at ha; cases ha
    have nk : k ≠ i := fun e => by subst e; rw [hk] at ha; cases ha
    rw [ls_get hi, if_neg nj] at hlj
    rw [ls_get hi, if_neg nk] at hlk
    exact M.ij j k hj hk hlj hlk
  · rw [ls_get hi, if_neg (hne' j C hk)] at hl
    refine M.sb j C hk hl _ w w' (M.an (fun s hs' => ?_) j C hk hl) hb
    have := hno s hs'
    rw [ls_get hi] at this
    split at this
    · cases this
    · exact this
  · rw [ls_get hi, if_neg (hne' j C hk)] at hl
    exact M.sb j C hk hl

theorem MemI.letter {L : Lt} {listed : Array Bool} {w w' : World} {i : Nat} {C : Value → World → Prop} {v : Value} (M : MemI ks B w0 W0 H L listed w) (hi : i < listed.size) (hun : listed.getD i false = false) (hB : B ≤ W0.heap.size) (hb : Below w.heap.size w w')
    (hk : kd ks i = .any C) (hC : C v w') (hS : ∀ v w x, C v w → Below w.heap.size w x → C v x) : MemI ks B w0 W0 H (L.setV i v) (listed.setIfInBounds i true) w' := by
  have hs : isStore ks i = false := by simp [isStore, hk]
  have ha : isAlloc ks i = false := by simp [isAlloc, hk]
  have hne : ∀ j cs, kd ks j = .alloc cs → j ≠ i := fun j cs h e => by subst e; simp [isAlloc, h] at ha
  refine ⟨M.bl.trans (hb.mono (Nat.le_trans hB M.le)), Nat.le_trans M.le hb.size, fun k p hp => ?_, fun j cs hk hl => ?_, fun j k hj hkk hlj hlk => ?_, fun hno j D hj hl => ?_, fun j D hj hl => ?_⟩
  · rw [cur_same hi (st_ne hs _)]; exact (M.hb k p hp).up hb
  · rw [ls_get hi, if_neg (hne j cs hk)] at hl
    rw [cur_same hi (st_ne hs _)]
    exact ⟨(M.hn j cs hk hl).1, (M.hn j cs hk hl).2.up hb⟩
  · have nj : j ≠ i := fun e => by subst e; rw [hj] at ha; cases ha
    have nk : k ≠ i := fun e => by subst e; rw [hkk] at ha; cases ha
    rw [ls_get hi, if_neg nj] at hlj
    rw [ls_get hi, if_neg nk] at hlk
    exact M.ij j k hj hkk hlj hlk
  · by_cases e : j = i
    · subst e
      rw [hk] at hj; cases hj
      show C (if j = j then v else L.v j) w'
      rw [if_pos rfl]; exact hC
    · rw [ls_get hi, if_neg e] at hl
      show D (if j = i then v else L.v j) w'
      rw [if_neg e]
      refine M.sb j D hj hl _ w w' (M.an (fun s hs' => ?_) j D hj hl) hb
      have := hno s hs'
      rw [ls_get hi] at this
      split at this
      · cases this
      · exact this
  · by_cases e : j = i
    · subst e
      rw [hk] at hj; cases hj
      exact hS
    · rw [ls_get hi, if_neg e] at hl
      exact M.sb j D hj hl

theorem MemI.made {L : Lt} {listed : Array Bool} {w : World} {i : Nat} {cs : List Value} {ty : TypeId} (M : MemI ks B w0 W0 H L listed w) (hi : i < listed.size) (hun : listed.getD i false = false) (hB : B ≤ W0.heap.size)
    (hk : kd ks i = .alloc cs) (hsn : ∀ s, st ks (.new i) = some s → listed.getD s false = false) : MemI ks B w0 W0 H (L.setB i w.heap.size) (listed.setIfInBounds i true) (w.alloc (.cells cs.toArray ty)) := by
  have hs : isStore ks i = false := by simp [isStore, hk]
  have hy : ∀ j C, kd ks j = .any C → j ≠ i := fun j C h e => by subst e; rw [hk] at h; cases h
  have hb : Below w.heap.size w (w.alloc (.cells cs.toArray ty)) := (Below.refl _ _).alloc (Nat.le_refl _) _
  refine ⟨M.bl.trans (hb.mono (Nat.le_trans hB M.le)), Nat.le_trans M.le hb.size, fun k p hp => ?_, fun j ds hj hl => ?_, fun j k hj hkk hlj hlk => ?_, fun hno j D hj hl => ?_, fun j D hj hl => ?_⟩
  · rw [cur_same hi (st_ne hs _)]; exact (M.hb k p hp).up hb
  · by_cases e : j = i
    · subst e
      rw [hk] at hj; cases hj
      have hbb : (L.setB j w.heap.size).b j = w.heap.size := by unfold Lt.setB; simp
      rw [hbb, cur_same hi (st_ne hs _)]
      refine ⟨M.le, ?_⟩
      have : cur ks listed (.new j) cs = cs := by
        unfold cur
        cases h : st ks (.new j) with
        | none => rfl
        | some s => simp [hsn s h]
      rw [this]
      exact Box.new w cs ty
    · rw [ls_get hi, if_neg e] at hl
      have hbb : (L.setB i w.heap.size).b j = L.b j := by unfold Lt.setB; simp [e]
      rw [hbb, cur_same hi (st_ne hs _)]
      exact ⟨(M.hn j ds hj hl).1, (M.hn j ds hj hl).2.up hb⟩
  · have old : ∀ j, isAlloc ks j = true → listed.getD j false = true → L.b j < w.heap.size := fun j h hl => by
      unfold isAlloc at h
      split at h
      · rename_i ds hd; exact (M.hn j ds hd hl).2.lt
      · cases h
    by_cases e : j = i
    · by_cases e' : k = i
      · intro _; rw [e, e']
      · subst e
        rw [ls_get hi, if_neg e'] at hlk
        have h1 : (L.setB j w.heap.size).b j = w.heap.size := by unfold Lt.setB; simp
        have h2 : (L.setB j w.heap.size).b k = L.b k := by unfold Lt.setB; simp [e']
        rw [h1, h2]
        intro h; have := old k hkk hlk; omega
    · rw [ls_get hi, if_neg e] at hlj
      have h1 : (L.setB i w.heap.size).b j = L.b j := by unfold Lt.setB; simp [e]
      by_cases e' : k = i
      · subst e'
        have h2 : (L.setB k w.heap.size).b k = w.heap.size := by unfold Lt.setB; simp
        rw [h1, h2]
        intro h; have := old j hj hlj; omega
      · rw [ls_get hi, if_neg e'] at hlk
        have h2 : (L.setB i w.heap.size).b k = L.b k := by unfold Lt.setB; simp [e']
        rw [h1, h2]
        exact M.ij j k hj hkk hlj hlk
  · have e := hy j D hj
    rw [ls_get hi, if_neg e] at hl
    refine M.sb j D hj hl _ w _ (M.an (fun s hs' => ?_) j D hj hl) hb
    have := hno s hs'
    rw [ls_get hi] at this
    split at this
    · cases this
    · exact this
  · rw [ls_get hi, if_neg (hy j D hj)] at hl
    exact M.sb j D hj hl

theorem mem_nodup {H : List (Nat × List Value)} (hnd : (H.map (·.1)).Nodup) {j k : Nat} {p q : Nat × List Value} (hj : H[j]? = some p) (hk : H[k]? = some q) (hne : j ≠ k) : p.1 ≠ q.1 := fun e => by
  have h1 : (H.map (·.1))[j]? = some p.1 := by simp [hj]
  have h2 : (H.map (·.1))[k]? = some q.1 := by simp [hk]
  obtain ⟨hj', ej⟩ := List.getElem?_eq_some_iff.1 h1
  obtain ⟨hk', ek⟩ := List.getElem?_eq_some_iff.1 h2
  have pw := List.pairwise_iff_getElem.1 hnd
  rcases Nat.lt_or_gt_of_ne hne with h | h
  · exact pw j k hj' hk' h (by rw [ej, ek, e])
  · exact pw k j hk' hj' h (by rw [ej, ek, e])

theorem MemI.stored {L : Lt} {listed : Array Bool} {w : World} {i off : Nat} {l : Loc} {cs new : List Value} (M : MemI ks B w0 W0 H L listed w) (hi : i < listed.size) (hun : listed.getD i false = false)
    (hk : kd ks i = .store l off cs new) (hst : st ks l = some i) (hnew : ∀ j, l = .new j → listed.getD j false = true ∧ isAlloc ks j = true) (hbase : ∀ k, l = .base k → k < H.length)
    (hB : B ≤ W0.heap.size) (hH : ∀ p ∈ H, B ≤ p.1 ∧ p.1 < W0.heap.size) (hnd : (H.map (·.1)).Nodup)
    (hlen : off + cs.length ≤ (oldOf ks H l).length) (hsp : new = splice (oldOf ks H l) off cs) :
    MemI ks B w0 W0 H L (listed.setIfInBounds i true) (w.setCells (addr H L l) off cs) := by
  have hwr := Wr.set (addr H L l) cs off w
  have ha : isAlloc ks i = false := by simp [isAlloc, hk]
  have hcur : ∀ x, cur ks listed l x = x := fun x => by unfold cur; simp [hst, hun]
  have hcur' : ∀ x, cur ks (listed.setIfInBounds i true) l x = new := fun x => by
    unfold cur newOf; simp only [hst]; rw [if_pos (by rw [ls_get hi, if_pos rfl])]; simp [hk]
  have hoth : ∀ l', l' ≠ l → st ks l' ≠ some i := fun l' hne e => by
    rcases st_spec e with ⟨o', c', n', hk'⟩ | ⟨k', v', n', e', hk'⟩
    · rw [hk] at hk'; cases hk'; exact hne rfl
    · rw [hk] at hk'; cases hk'
  have hbox : Box w (addr H L l) (oldOf ks H l) ∧ B ≤ addr H L l := by
    cases l with
    | base k =>
      have hk' := hbase k rfl
      have hp : H[k]? = some (H.getD k (0, [])) := by simp [List.getD, List.getElem?_eq_getElem hk']
      have := M.hb k _ hp
      rw [hcur] at this
      exact ⟨this, (hH _ (List.mem_of_getElem? hp)).1⟩
    | new j =>
      obtain ⟨hl, hal⟩ := hnew j rfl
      unfold isAlloc at hal
      split at hal
      · rename_i ds hd
        have := M.hn j ds hd hl
        rw [hcur] at this
        refine ⟨?_, Nat.le_trans hB this.1⟩
        simp only [oldOf, hd, addr]
        exact this.2
      · cases hal
  have hnewbox : Box (w.setCells (addr H L l) off cs) (addr H L l) new := hsp ▸ Box.set hbox.1 hlen
  have hlt : ∀ j, listed.getD j false = true → j ≠ i := fun j h e => by subst e; rw [hun] at h; cases h
  have hlk : ∀ j cs', kd ks j = .alloc cs' → (listed.setIfInBounds i true).getD j false = true → listed.getD j false = true := fun j cs' hj h => by
    have : j ≠ i := fun e => by subst e; simp [isAlloc, hj] at ha
    rwa [ls_get hi, if_neg this] at h
  refine ⟨M.bl.trans (hwr.below hbox.2), by rw [hwr.size]; exact M.le, fun k p hp => ?_, fun j ds hj hl => ?_, fun j k hj hkk hlj hlkk => ?_, fun hno => ?_, fun j D hj hl => ?_⟩
  · by_cases e : l = .base k
    · subst e
      rw [hcur']
      have : addr H L (.base k) = p.1 := by simp [addr, List.getD, hp]
      rw [this] at hnewbox ⊢
      exact hnewbox
    · rw [cur_same hi (hoth _ (fun e' => e e'.symm))]
      refine (M.hb k p hp).wr hwr ?_
      cases l with
      | base k' =>
        have hk' := hbase k' rfl
        have hp' : H[k']? = some (H.getD k' (0, [])) := by simp [List.getD, List.getElem?_eq_getElem hk']
        exact mem_nodup hnd hp hp' (fun e' => e (by rw [e']))
      | new j =>
        obtain ⟨hl, hal⟩ := hnew j rfl
        unfold isAlloc at hal
        split at hal
        · rename_i ds hd
          have h1 := (M.hn j ds hd hl).1
          have h2 := (hH p (List.mem_of_getElem? hp)).2
          show p.1 ≠ L.b j
          omega
        · cases hal
  · have hl' := hlk j ds hj hl
    by_cases e : l = .new j
    · subst e
      rw [hcur']
      exact ⟨(M.hn j ds hj hl').1, hnewbox⟩
    · rw [cur_same hi (hoth _ (fun e' => e e'.symm))]
      refine ⟨(M.hn j ds hj hl').1, (M.hn j ds hj hl').2.wr hwr ?_⟩
      cases l with
      | base k' =>
        have hk' := hbase k' rfl
        have hp' : H[k']? = some (H.getD k' (0, [])) := by simp [List.getD, List.getElem?_eq_getElem hk']
        have h1 := (M.hn j ds hj hl').1
        have h2 := (hH _ (List.mem_of_getElem? hp')).2
        show L.b j ≠ (H.getD k' (0, [])).1
        omega
      | new j' =>
        obtain ⟨hll, hal⟩ := hnew j' rfl
        intro h
        have := M.ij j j' (by simp [isAlloc, hj]) hal hl' hll h
        exact e (by rw [this])
  · have nj : j ≠ i := fun e => by subst e; rw [hj] at ha; cases ha
    have nk : k ≠ i := fun e => by subst e; rw [hkk] at ha; cases ha
    rw [ls_get hi, if_neg nj] at hlj
    rw [ls_get hi, if_neg nk] at hlkk
    exact M.ij j k hj hkk hlj hlkk
  · have := hno i (by simp [isStore, hk])
    rw [ls_get hi, if_pos rfl] at this
    cases this
  · have : j ≠ i := fun e => by subst e; rw [hk] at hj; cases hj
    rw [ls_get hi, if_neg this] at hl
    exact M.sb j D hj hl

theorem MemI.turned {L : Lt} {listed : Array Bool} {w w' : World} {i k : Nat} {v : Value} {new : List Value} (M : MemI ks B w0 W0 H L listed w) (hi : i < listed.size)
    (hk : kd ks i = .turn k v new) (hst : st ks (.base k) = some i) (hkl : k < H.length) (hB : B ≤ W0.heap.size) (hH : ∀ p ∈ H, B ≤ p.1 ∧ p.1 < W0.heap.size) (hnd : (H.map (·.1)).Nodup)
    (hc : Chg (addr H L (.base k)) w w') (hx : Box w' (addr H L (.base k)) new) : MemI ks B w0 W0 H L (listed.setIfInBounds i true) w' := by
  have hp0 : H[k]? = some (H.getD k (0, [])) := by simp [List.getD, List.getElem?_eq_getElem hkl]
  have hb0 := hH _ (List.mem_of_getElem? hp0)
  have hadr : addr H L (.base k) = (H.getD k (0, [])).1 := rfl
  have ha : isAlloc ks i = false := by simp [isAlloc, hk]
  have hcur' : ∀ x, cur ks (listed.setIfInBounds i true) (.base k) x = new := fun x => by
    unfold cur newOf; simp only [hst]; rw [if_pos (by rw [ls_get hi, if_pos rfl])]; simp [hk]
  have hoth : ∀ l', l' ≠ .base k → st ks l' ≠ some i := fun l' hne e => by
    rcases st_spec e with ⟨o', c', n', hk'⟩ | ⟨k', v', n', e', hk'⟩
    · rw [hk] at hk'; cases hk'
    · rw [hk] at hk'; cases hk'; exact hne e'
  have hlk : ∀ j, isAlloc ks j = true → (listed.setIfInBounds i true).getD j false = true → listed.getD j false = true := fun j hj h => by
    have : j ≠ i := fun e => by subst e; rw [hj] at ha; cases ha
    rwa [ls_get hi, if_neg this] at h
  refine ⟨M.bl.trans (hc.below (by rw [hadr]; exact hb0.1) (Nat.le_trans hB M.le)), Nat.le_trans M.le hc.size, fun k' p hp => ?_, fun j ds hj hl => ?_, fun j q hj hkk hlj hlkk => ?_, fun hno => ?_, fun j D hj hl => ?_⟩
  · by_cases e : k' = k
    · subst e
      rw [hcur']
      rw [hp0] at hp
      obtain rfl := Option.some.inj hp
      exact hx
    · rw [cur_same hi (hoth _ (fun e' => e (by injection e')))]
      exact (M.hb k' p hp).chg hc (mem_nodup hnd hp hp0 e)
  · have hl' := hlk j (by simp [isAlloc, hj]) hl
    rw [cur_same hi (hoth _ (fun e' => by cases e'))]
    refine ⟨(M.hn j ds hj hl').1, (M.hn j ds hj hl').2.chg hc ?_⟩
    have h1 := (M.hn j ds hj hl').1
    rw [hadr]
    omega
  · exact M.ij j q hj hkk (hlk j hj hlj) (hlk q hkk hlkk)
  · have := hno i (by simp [isStore, hk])
    rw [ls_get hi, if_pos rfl] at this
    cases this
  · have : j ≠ i := fun e => by subst e; rw [hk] at hj; cases hj
    rw [ls_get hi, if_neg this] at hl
    exact M.sb j D hj hl

end
end Go.Proofs.Ytccidmogamnihaa.Pl

/- A region goes by its plan: the step, the end, the law. No program is named here. -/
namespace Go.Proofs.Ytccidmogamnihaa.Pl
open Go Go.RowKit
set_option linter.unusedVariables false
set_option linter.unusedSimpArgs false

section
variable {P : Program} {ops : Array Oper} {ks : List Kind} {T : List Nat} {a0 : Act} {B : Nat} {w0 W0 : World} {H : List (Nat × List Value)} {Q : Exit → Act → World → Prop}

theorem listed_of_bef {nt nh : Nat} {L : Lt} {listed : Array Bool} {a : Act} {w : World} (I : Inv ops ks T a0 B w0 W0 H L listed a w) {i : Nat} {o : Oper} (S : Stat ops ks T nt nh i o) (hall : ∀ j ∈ aft ops i, listed.getD j false = true) :
    ∀ j, bef T i j = true → listed.getD j false = true := fun j hj => by
  obtain ⟨k, hk, h⟩ := S.tab j hj
  rcases h with rfl | h
  · exact hall _ hk
  · exact I.cl k (hall _ hk) j h

theorem eval_rd {nt nh : Nat} {L : Lt} {listed : Array Bool} {a : Act} {w : World} (I : Inv ops ks T a0 B w0 W0 H L listed a w) {i : Nat} {o : Oper} (S : Stat ops ks T nt nh i o) (hun : listed.getD i false = false)
    (hbef : ∀ j, bef T i j = true → listed.getD j false = true) : ∀ x ∈ o.op.operands, a.eval x = rd ops ks T a0 L i x := fun x hx => by
  cases x with
  | tmp t =>
    have ht : t ∈ o.looksAt ops := List.mem_append_left _ (List.mem_filterMap.2 ⟨.tmp t, by simpa using hx, rfl⟩)
    show a.tmps.getD t undef = _
    rw [I.F.fr t]
    unfold slot
    simp only [rd]
    cases hw : own ops t with
    | none => simp only
    | some j =>
      simp only
      by_cases hb : bef T i j = true
      · rw [if_pos (hbef j hb), if_pos hb]
      · rw [if_neg hb]
        rcases S.looks t ht j hw with e | e | e
        · subst e; rw [if_neg (by rw [hun]; simp)]
        · exact absurd e hb
        · rw [if_neg (fun h => by have := I.cl j h i e; rw [hun] at this; cases this)]
  | _ => rfl

theorem wanted_rd {nt nh : Nat} {L : Lt} {listed : Array Bool} {a : Act} {w : World} (hc : chk ops ks T nt nh = true) (hnt : nt = a0.tmps.size) (I : Inv ops ks T a0 B w0 W0 H L listed a w) {i : Nat} {o : Oper} (S : Stat ops ks T nt nh i o)
    (hbef : ∀ j, bef T i j = true → listed.getD j false = true) : Region.wanted o (yielded ops a.tmps) = wantedR ks L o := by
  unfold Region.wanted wantedR
  cases hg : o.guard with
  | none => rfl
  | some gw =>
    obtain ⟨g, want⟩ := gw
    obtain ⟨hb, d, hd⟩ := S.grd g want hg
    have hl := hbef g hb
    obtain ⟨og, hog, hdd⟩ : ∃ og, ops[g]? = some og ∧ og.dst = some d := by
      cases h : ops[g]? with
      | none => simp [h] at hd
      | some og => exact ⟨og, rfl, by simpa [h] using hd⟩
    obtain ⟨hw, hdl⟩ := (stat hc hog).dst d hdd
    have hv : a.tmps[d]? = some (val ks L g) := by
      have h1 := I.F.fr d
      unfold slot at h1
      rw [hw] at h1
      simp only [hl, if_true] at h1
      have hlt : d < a.tmps.size := by rw [I.F.ts, ← hnt]; exact hdl
      rw [← h1]
      simp [hlt]
    simp only [yielded, hd, Option.bind_some, hv]
    cases val ks L g <;> rfl

theorem no_stores {nt nh : Nat} {L : Lt} {listed : Array Bool} {a : Act} {w : World} (I : Inv ops ks T a0 B w0 W0 H L listed a w) {i : Nat} (hun : listed.getD i false = false) (he : early T ks i = true) :
    ∀ s, isStore ks s = true → (isNewS ks s && noAny ks) = false → listed.getD s false = false := fun s hs hn => by
  have h := List.all_eq_true.1 he s (by simpa using isStore_lt hs)
  by_cases esi : s = i
  · subst esi; exact hun
  have hbn : Nat.beq s i = false := by cases e : Nat.beq s i with | false => rfl | true => exact absurd (Nat.eq_of_beq_eq_true e) esi
  simp only [hs, hn, hbn, Bool.not_true, Bool.false_or, Bool.or_false] at h
  cases hl : listed.getD s false with
  | false => rfl
  | true => have := I.cl s hl i h; rw [hun] at this; cases this
theorem noAny_no {j : Nat} {C : Value → World → Prop} (h : kd ks j = .any C) : noAny ks = false := by
  have hj : j < ks.length := kd_lt fun e => by rw [h] at e; cases e
  cases e : noAny ks with
  | false => rfl
  | true =>
    have hm : ks[j] = .any C := by
      unfold kd at h
      rwa [List.getD_eq_getElem?_getD, List.getElem?_eq_getElem hj, Option.getD_some] at h
    have := List.all_eq_true.1 e _ (List.getElem_mem hj)
    rw [hm] at this
    cases this

theorem cur_none {listed : Array Bool} {l : Loc} {cs : List Value} (h : ∀ s, isStore ks s = true → listed.getD s false = false) : cur ks listed l cs = cs := by
  unfold cur
  cases hs : st ks l with
  | none => rfl
  | some s =>
    simp [h s (st_store hs)]

theorem seen {nt nh : Nat} {L : Lt} {listed : Array Bool} {a : Act} {w : World} (I : Inv ops ks T a0 B w0 W0 H L listed a w) {i : Nat} (hun : listed.getD i false = false) (hB : B ≤ W0.heap.size)
    (hbef : ∀ j, bef T i j = true → listed.getD j false = true) (he : early T ks i = true) : Seen ks T B w0 H L i w := by
  have hno := no_stores (nt := nt) (nh := nh) I hun he
  refine ⟨I.M.bl, Nat.le_trans hB I.M.le, fun p hp => ?_, fun j C hk hb => I.M.an (fun s hs => hno s hs (by rw [noAny_no hk, Bool.and_false])) j C hk (hbef j hb)⟩
  obtain ⟨k, hk⟩ := List.getElem?_of_mem hp
  have := I.M.hb k p hk
  have hc : cur ks listed (.base k) p.2 = p.2 := by
    unfold cur
    cases hs : st ks (.base k) with
    | none => rfl
    | some s =>
      have hns : isNewS ks s = false := by
        rcases st_spec hs with ⟨off, ds, new, hkk⟩ | ⟨k', v', n', e', hkk⟩ <;> simp [isNewS, hkk]
      simp [hno s (st_store hs) (by rw [hns]; rfl)]
  rwa [hc] at this

theorem still {nt nh : Nat} {L : Lt} {listed : Array Bool} {a : Act} {w : World} (I : Inv ops ks T a0 B w0 W0 H L listed a w) {i : Nat} (hun : listed.getD i false = false) (hB : B ≤ W0.heap.size)
    (hbef : ∀ j, bef T i j = true → listed.getD j false = true) : Still ks T B w0 H i w := by
  refine ⟨I.M.bl, Nat.le_trans hB I.M.le, fun k p cs hp hb => ?_⟩
  have h := I.M.hb k p hp
  unfold boxAt at hb
  unfold cur at h
  cases hs : st ks (.base k) with
  | none =>
    simp only [hs] at hb h
    obtain rfl := Option.some.inj hb
    exact h
  | some s =>
    simp only [hs] at hb h
    by_cases h1 : bef T i s = true
    · rw [if_pos h1] at hb
      obtain rfl := Option.some.inj hb
      rwa [if_pos (hbef s h1)] at h
    · rw [if_neg h1] at hb
      by_cases h2 : (bef T s i || Nat.beq s i) = true
      · rw [if_pos h2] at hb
        obtain rfl := Option.some.inj hb
        have hl : listed.getD s false = false := by
          rw [Bool.or_eq_true] at h2
          rcases h2 with h2 | h2
          · cases hl : listed.getD s false with
            | false => rfl
            | true => have := I.cl s hl i h2; rw [hun] at this; cases this
          · have := Nat.eq_of_beq_eq_true h2; subst this; exact hun
        rwa [hl, if_neg (by decide)] at h
      · rw [if_neg h2] at hb; cases hb

theorem cl_next {nt nh : Nat} {L : Lt} {listed : Array Bool} {a : Act} {w : World} (I : Inv ops ks T a0 B w0 W0 H L listed a w) {i : Nat} (hi : i < listed.size) (hbef : ∀ j, bef T i j = true → listed.getD j false = true) :
    ∀ k, (listed.setIfInBounds i true).getD k false = true → ∀ j, bef T k j = true → (listed.setIfInBounds i true).getD j false = true := fun k hk j hj => by
  rw [ls_get hi] at hk ⊢
  split
  · rfl
  · split at hk
    · rename_i e; subst e; exact hbef j hj
    · exact I.cl k hk j hj

theorem val_setB {nt nh : Nat} {L : Lt} {i x : Nat} {j : Nat} {o : Oper} (S : Stat ops ks T nt nh j o) (hji : j ≠ i) (hb : bef T j i = false) : val ks (L.setB i x) j = val ks L j := by
  unfold val
  cases hk : kd ks j with
  | detB k v =>
    have h1 := S.dB k v hk
    have : k ≠ i := fun e => by subst e; rw [hb] at h1; cases h1
    simp only [Lt.setB, if_neg this]
  | alloc cs => simp only [Lt.setB, if_neg hji]
  | _ => rfl
theorem val_setV {nt nh : Nat} {L : Lt} {i : Nat} {x : Value} {j : Nat} {o : Oper} (S : Stat ops ks T nt nh j o) (hji : j ≠ i) (hb : bef T j i = false) : val ks (L.setV i x) j = val ks L j := by
  unfold val
  cases hk : kd ks j with
  | detV k v =>
    have h1 := S.dV k v hk
    have : k ≠ i := fun e => by subst e; rw [hb] at h1; cases h1
    simp only [Lt.setV, if_neg this]
  | any C => simp only [Lt.setV, if_neg hji]
  | _ => rfl

theorem step {nt nh : Nat} (hc : chk ops ks T nt nh = true) (hnt : nt = a0.tmps.size) (hnh : nh = H.length) (hob : AllOb P ops ks T a0 B w0 H 0 ops.toList)
    (hB : B ≤ W0.heap.size) (hH : ∀ p ∈ H, B ≤ p.1 ∧ p.1 < W0.heap.size) (hnd : (H.map (·.1)).Nodup)
    {L : Lt} {listed : Array Bool} {a : Act} {w : World} {i : Nat} (I : Inv ops ks T a0 B w0 W0 H L listed a w) (hr : i ∈ Region.ready .any ops listed) :
    wpOp P ops Q i (fun a' w' => ∃ L', Inv ops ks T a0 B w0 W0 H L' (listed.setIfInBounds i true) a' w') a w := by
  obtain ⟨hut, o, ho, hall⟩ := mem_ready.1 hr
  have hio : i < ops.size := (Array.getElem?_eq_some_iff.1 ho).1
  have hi : i < listed.size := by rw [I.sz]; exact hio
  have hun : listed.getD i false = false := by simp [hi] at hut ⊢; exact hut
  have S := stat hc ho
  have hall' : ∀ j ∈ aft ops i, listed.getD j false = true := fun j hj => by
    unfold aft at hj
    rw [ho] at hj
    simp only [Option.map_some, Option.getD_some, List.mem_map, List.mem_filter] at hj
    obtain ⟨e, ⟨he, hb⟩, rfl⟩ := hj
    exact hall e (by simpa using he) hb
  have hbef := listed_of_bef I S hall'
  have hex : execOp a.eval o = execOp (rd ops ks T a0 L i) o := execOp_congr o S.sel (eval_rd I S hun hbef)
  have hw := wanted_rd hc hnt I S hbef
  have hsn : Hyp ks T B w0 H L i w := ⟨seen (nt := nt) (nh := nh) I hun hB hbef, still (nt := nt) (nh := nh) I hun hB hbef⟩
  have ob : Ob P ops ks T a0 B w0 H i o := by
    have := AllOb.at ops.toList 0 i o hob (by simpa using ho)
    rwa [Nat.zero_add] at this
  have ob := ob L w hsn
  have sz' : (listed.setIfInBounds i true).size = ops.size := by simp [I.sz]
  have cl' := cl_next (nt := nt) (nh := nh) I hi hbef
  have hnb : ∀ j, j ≠ i → listed.getD j false = true → bef T j i = false := fun j _ hl => by
    cases h : bef T j i with
    | false => rfl
    | true => have := I.cl j hl i h; rw [hun] at this; cases this
  have hst : ∀ j, listed.getD j false = true → ∃ oj, ops[j]? = some oj := fun j hl => by
    have : j < ops.size := by
      rw [← I.sz]
      by_cases h : j < listed.size
      · exact h
      · simp [Array.getElem?_eq_none (Nat.le_of_not_lt h)] at hl
    exact ⟨ops[j], Array.getElem?_eq_getElem this⟩
  unfold wpOp
  simp only [ho, hw]
  by_cases hwt : wantedR ks L o = true
  · rw [if_pos hwt] at ob ⊢
    refine .inl ?_
    unfold Oper.wp
    rw [hex]
    cases hk : kd ks i with
    | det v =>
      rw [hk] at ob
      refine Runs.upon ob fun u w' ⟨hu, hb⟩ => ⟨L, sz', cl', ?_, ?_⟩
      · exact I.F.next S hnt ho hi (fun d _ => hu) (fun j _ _ => rfl)
      · exact I.M.quiet hi hB hb (by simp [isStore, hk]) (by simp [isAlloc, hk]) (fun C => by rw [hk]; simp)
    | detB k v =>
      rw [hk] at ob
      refine Runs.upon ob fun u w' ⟨hu, hb⟩ => ⟨L, sz', cl', ?_, ?_⟩
      · exact I.F.next S hnt ho hi (fun d _ => hu) (fun j _ _ => rfl)
      · exact I.M.quiet hi hB hb (by simp [isStore, hk]) (by simp [isAlloc, hk]) (fun C => by rw [hk]; simp)
    | detV k v =>
      rw [hk] at ob
      refine Runs.upon ob fun u w' ⟨hu, hb⟩ => ⟨L, sz', cl', ?_, ?_⟩
      · exact I.F.next S hnt ho hi (fun d _ => hu) (fun j _ _ => rfl)
      · exact I.M.quiet hi hB hb (by simp [isStore, hk]) (by simp [isAlloc, hk]) (fun C => by rw [hk]; simp)
    | any C =>
      rw [hk] at ob
      refine Runs.upon ob.2 fun u w' ⟨hu, hb⟩ => ⟨L.setV i u, sz', cl', ?_, ?_⟩
      · refine I.F.next S hnt ho hi (fun d _ => ?_) (fun j hj hl => ?_)
        · unfold val; rw [hk]; simp [Lt.setV]
        · obtain ⟨oj, hoj⟩ := hst j hl
          exact val_setV (stat hc hoj) hj (hnb j hj hl)
      · exact I.M.letter hi hun hB hb hk hu ob.1
    | alloc cs =>
      rw [hk] at ob
      obtain ⟨ty, hrun⟩ := ob
      rw [hrun]
      refine ⟨L.setB i w.heap.size, sz', cl', ?_, ?_⟩
      · refine I.F.next S hnt ho hi (fun d _ => ?_) (fun j hj hl => ?_)
        · unfold val; rw [hk]; simp [Lt.setB]
        · obtain ⟨oj, hoj⟩ := hst j hl
          exact val_setB (stat hc hoj) hj (hnb j hj hl)
      · refine I.M.made hi hun hB hk fun s hs => ?_
        obtain ⟨off, ds, new, hks⟩ : ∃ off cs new, kd ks s = .store (.new i) off cs new := by
          rcases st_spec hs with h | ⟨k', v', n', e', _⟩
          · exact h
          · cases e'
        cases hl : listed.getD s false with
        | false => rfl
        | true =>
          obtain ⟨os, hos⟩ := hst s hl
          have := (stat hc hos).sto _ _ _ _ hks
          have := I.cl s hl i (this.2.2.2.1 i rfl).1
          rw [hun] at this; cases this
    | turn k v new =>
      rw [hk] at ob
      obtain ⟨hst, hkn⟩ := S.tur _ _ _ hk
      have hkl : k < H.length := by rw [← hnh]; exact hkn
      have hp0 : H[k]? = some (H.getD k (0, [])) := by simp [List.getD, List.getElem?_eq_getElem hkl]
      have hbx : Box w (addr H L (.base k)) (oldOf ks H (.base k)) := by
        refine hsn.still.base k _ _ hp0 ?_
        unfold boxAt
        simp only [hst]
        have h1 : bef T i i = false := by
          cases e : bef T i i with
          | false => rfl
          | true => have := hbef i e; rw [hun] at this; cases this
        have h2 : Nat.beq i i = true := Nat.beq_refl i
        rw [h1, h2]; rfl
      refine Runs.upon (ob hbx) fun u w' ⟨hu, hc, hx⟩ => ⟨L, sz', cl', ?_, ?_⟩
      · refine I.F.next S hnt ho hi (fun d _ => ?_) (fun j _ _ => rfl)
        unfold val; rw [hk]; exact hu
      · exact I.M.turned hi hk hst hkl hB hH hnd hc hx
    | store l off cs new =>
      rw [hk] at ob
      obtain ⟨hlen, hsp, hrun⟩ := ob
      obtain ⟨hgd, hdn, hsl, hnw, hbs⟩ := S.sto _ _ _ _ hk
      have hnew : ∀ j, l = .new j → listed.getD j false = true ∧ isAlloc ks j = true := fun j e => ⟨hbef j (hnw j e).1, (hnw j e).2⟩
      have hM := I.M.stored hi hun hk hsl hnew (fun k e => by rw [← hnh]; exact hbs k e) hB hH hnd hlen hsp
      have hth : w.there (addr H L l) off cs.length := by
        have hcur : ∀ x, cur ks listed l x = x := fun x => by unfold cur; simp [hsl, hun]
        have hbox : Box w (addr H L l) (oldOf ks H l) := by
          cases l with
          | base k =>
            have hk' : k < H.length := by rw [← hnh]; exact hbs k rfl
            have hp : H[k]? = some (H.getD k (0, [])) := by simp [List.getD, List.getElem?_eq_getElem hk']
            have := I.M.hb k _ hp
            rw [hcur] at this
            exact this
          | new j =>
            obtain ⟨hl, hal⟩ := hnew j rfl
            unfold isAlloc at hal
            split at hal
            · rename_i ds hd
              have := I.M.hn j ds hd hl
              rw [hcur] at this
              simp only [oldOf, hd, addr]
              exact this.2
            · cases hal
        intro j hj
        have := hbox.free (off + j) (by omega)
        simpa using this
      rw [hrun hth]
      refine ⟨L, sz', cl', ?_, hM⟩
      exact I.F.next S hnt ho hi (fun d hd => by rw [hdn] at hd; cases hd) (fun j _ _ => rfl)
  · have hwf : wantedR ks L o = false := by simpa using hwt
    rw [if_neg hwt] at ob
    simp only [hwf, Bool.false_eq_true, if_false]
    refine ⟨L, sz', cl', ?_, ?_⟩
    · refine I.F.next S hnt ho hi (fun d _ => ?_) (fun j _ _ => rfl)
      unfold val; rw [ob]
    · exact I.M.quiet hi hB (Below.refl _ _) (by simp [isStore, ob]) (by simp [isAlloc, ob]) (fun C => by rw [ob]; simp)

def slotF (ops : Array Oper) (ks : List Kind) (a0 : Act) (L : Lt) (t : Nat) : Value :=
  match own ops t with
  | none => a0.tmps.getD t undef
  | some j => val ks L j
def curF (ks : List Kind) (l : Loc) (cs : List Value) : List Value :=
  match st ks l with
  | some s => newOf ks s cs
  | none => cs
def baseF (ks : List Kind) : Nat → List (Nat × List Value) → List (Nat × List Value)
  | _, [] => []
  | k, p :: r => (p.1, curF ks (.base k) p.2) :: baseF ks (k + 1) r
def newF (ks : List Kind) (L : Lt) : List Nat → List (Nat × List Value)
  | [] => []
  | j :: r => match kd ks j with
    | .alloc cs => (L.b j, curF ks (.new j) cs) :: newF ks L r
    | _ => newF ks L r
def heapF (ks : List Kind) (H : List (Nat × List Value)) (L : Lt) : List (Nat × List Value) := baseF ks 0 H ++ newF ks L (List.range ks.length)
def AnyF (ks : List Kind) (L : Lt) (w : World) : List Nat → Prop
  | [] => True
  | j :: r => match kd ks j with
    | .any C => C (L.v j) w ∧ AnyF ks L w r
    | _ => AnyF ks L w r

theorem mem_baseF {ks : List Kind} : ∀ (H : List (Nat × List Value)) (k : Nat) (p : Nat × List Value), p ∈ baseF ks k H → ∃ j q, H[j]? = some q ∧ p = (q.1, curF ks (.base (k + j)) q.2)
  | [], k, p, h => by simp [baseF] at h
  | q :: r, k, p, h => by
    simp only [baseF, List.mem_cons] at h
    rcases h with h | h
    · exact ⟨0, q, rfl, h⟩
    · obtain ⟨j, q', h1, h2⟩ := mem_baseF r (k + 1) p h
      exact ⟨j + 1, q', by simpa using h1, by rw [h2, show k + 1 + j = k + (j + 1) by omega]⟩
theorem map_baseF {ks : List Kind} : ∀ (H : List (Nat × List Value)) (k : Nat), (baseF ks k H).map (·.1) = H.map (·.1)
  | [], k => rfl
  | q :: r, k => by simp [baseF, map_baseF r (k + 1)]
theorem mem_newF {ks : List Kind} {L : Lt} : ∀ (l : List Nat) (p : Nat × List Value), p ∈ newF ks L l → ∃ j cs, j ∈ l ∧ kd ks j = .alloc cs ∧ p = (L.b j, curF ks (.new j) cs)
  | [], p, h => by simp [newF] at h
  | j :: r, p, h => by
    unfold newF at h
    split at h
    · rename_i cs hk
      simp only [List.mem_cons] at h
      rcases h with h | h
      · exact ⟨j, cs, by simp, hk, h⟩
      · obtain ⟨j', cs', h1, h2, h3⟩ := mem_newF r p h
        exact ⟨j', cs', by simp [h1], h2, h3⟩
    · obtain ⟨j', cs', h1, h2, h3⟩ := mem_newF r p h
      exact ⟨j', cs', by simp [h1], h2, h3⟩
theorem nodup_newF {ks : List Kind} {L : Lt} (hij : ∀ j k, isAlloc ks j = true → isAlloc ks k = true → L.b j = L.b k → j = k) : ∀ (l : List Nat), l.Nodup → ((newF ks L l).map (·.1)).Nodup
  | [], _ => by simp [newF]
  | j :: r, h => by
    have hr := nodup_newF hij r (List.nodup_cons.1 h).2
    unfold newF
    split
    · rename_i cs hk
      simp only [List.map_cons, List.nodup_cons]
      refine ⟨fun hm => ?_, hr⟩
      obtain ⟨p, hp, he⟩ := List.mem_map.1 hm
      obtain ⟨j', cs', h1, h2, rfl⟩ := mem_newF r p hp
      have := hij j j' (by simp [isAlloc, hk]) (by simp [isAlloc, h2]) he.symm
      subst this
      exact (List.nodup_cons.1 h).1 h1
    · exact hr

theorem done {nt nh : Nat} {L : Lt} {listed : Array Bool} {a : Act} {w : World} (hc : chk ops ks T nt nh = true) (hB : B ≤ W0.heap.size) (hH : ∀ p ∈ H, B ≤ p.1 ∧ p.1 < W0.heap.size) (hnd : (H.map (·.1)).Nodup)
    (I : Inv ops ks T a0 B w0 W0 H L listed a w) (hall : ∀ i, i < ops.size → listed.getD i false = true) :
    a = { tmps := ((List.range a0.tmps.size).map (slotF ops ks a0 L)).toArray, defers := a0.defers } ∧ Heap B w0 w (heapF ks H L) ∧ ((List.range ks.length).all (fun s => !isStore ks s) = true → AnyF ks L w (List.range ks.length)) := by
  have hkl := chk_len hc
  have hsl : ∀ l s, st ks l = some s → listed.getD s false = true := fun l s hs => by
    exact hall s (by rw [← hkl]; exact isStore_lt (st_store hs))
  have hcur : ∀ l cs, cur ks listed l cs = curF ks l cs := fun l cs => by
    unfold cur curF
    cases hs : st ks l with
    | none => rfl
    | some s => simp only [hsl l s hs, if_true]
  have hal : ∀ j cs, kd ks j = .alloc cs → listed.getD j false = true := fun j cs hk => hall j (by rw [← hkl]; exact kd_lt (fun e => by rw [hk] at e; cases e))
  have hal' : ∀ j, isAlloc ks j = true → listed.getD j false = true := fun j h => by
    unfold isAlloc at h
    split at h
    · rename_i cs hk; exact hal j cs hk
    · cases h
  refine ⟨?_, ⟨I.M.bl, fun p hp => ?_, ?_, Nat.le_trans hB I.M.le⟩, fun hno => ?_⟩
  · obtain ⟨tm, df⟩ := a
    have h1 : df = a0.defers := I.F.df
    have h2 : tm.size = a0.tmps.size := I.F.ts
    subst h1
    congr 1
    apply Array.ext
    · simp [h2]
    · intro t h3 h4
      have h5 := I.F.fr t
      have e1 : tm.getD t undef = tm[t] := by simp [h3]
      have e2 : slot ops ks a0 L listed t = slotF ops ks a0 L t := by
        unfold slot slotF
        cases hw : own ops t with
        | none => rfl
        | some j => simp only [hall j (own_spec hw).1, if_true]
      have h6 : tm[t] = slotF ops ks a0 L t := by rw [← e1, ← e2]; exact h5
      rw [h6]
      simp
  · rcases List.mem_append.1 hp with hp | hp
    · obtain ⟨j, q, hq, rfl⟩ := mem_baseF H 0 p hp
      have := I.M.hb j q hq
      rw [hcur] at this
      rw [Nat.zero_add]
      exact ⟨(hH q (List.mem_of_getElem? hq)).1, this⟩
    · obtain ⟨j, cs, _, hk, rfl⟩ := mem_newF _ p hp
      have := I.M.hn j cs hk (hal j cs hk)
      rw [hcur] at this
      exact ⟨Nat.le_trans hB this.1, this.2⟩
  · rw [heapF, List.map_append, map_baseF]
    refine List.nodup_append.2 ⟨hnd, nodup_newF (fun j k hj hk he => I.M.ij j k hj hk (hal' j hj) (hal' k hk) he) _ List.nodup_range, ?_⟩
    intro x hx y hy e
    subst e
    obtain ⟨p, hp, rfl⟩ := List.mem_map.1 hx
    obtain ⟨q, hq, he⟩ := List.mem_map.1 hy
    obtain ⟨j, cs, _, hk, rfl⟩ := mem_newF _ q hq
    have h1 := (hH p hp).2
    have h2 := (I.M.hn j cs hk (hal j cs hk)).1
    simp only at he
    omega
  · have hns : ∀ s, isStore ks s = true → listed.getD s false = false := fun s hs => by
      have := List.all_eq_true.1 hno s (by simpa using isStore_lt hs)
      rw [hs] at this; cases this
    have : ∀ l : List Nat, AnyF ks L w l := fun l => by
      induction l with
      | nil => trivial
      | cons j r ih =>
        unfold AnyF
        split
        · rename_i C hk
          exact ⟨I.M.an hns j C hk (hall j (by rw [← hkl]; exact kd_lt (fun e => by rw [hk] at e; cases e))), ih⟩
        · exact ih
    exact this _

theorem Inv.start (hHp : Heap B w0 W0 H) {w : World} (hw : Below W0.heap.size W0 w) (hf : w.heap = W0.heap) (L : Lt) :
    Inv ops ks T a0 B w0 W0 H L (Array.replicate ops.size false) a0 w := by
  have hno : ∀ j, (Array.replicate ops.size false).getD j false = false := fun j => by
    by_cases h : j < ops.size
    · simp [h]
    · simp [Array.getElem?_eq_none, h]
  refine ⟨by simp, fun i hi => (by rw [hno] at hi; cases hi), ⟨rfl, rfl, fun t => ?_⟩, ⟨hHp.bel.trans (hw.mono hHp.le), hw.size, fun k p hp => ?_, fun j cs _ hl => (by rw [hno] at hl; cases hl), fun j k _ _ hl => (by rw [hno] at hl; cases hl), fun _ j C _ hl => (by rw [hno] at hl; cases hl), fun j C _ hl => (by rw [hno] at hl; cases hl)⟩⟩
  · unfold slot
    cases own ops t with
    | none => rfl
    | some j => simp only [hno, Bool.false_eq_true, if_false]
  · rw [cur_none (fun s _ => hno s)]
    exact (hHp.box p (List.mem_of_getElem? hp)).2.up hw

theorem Heap.bounds (h : Heap B w0 W0 H) : ∀ p ∈ H, B ≤ p.1 ∧ p.1 < W0.heap.size := fun p hp => ⟨(h.box p hp).1, (h.box p hp).2.lt⟩

theorem drawn {id nt nh : Nat} (hm : P.follows .mixedOrders = true) (hc : chk ops ks T nt nh = true) (hnt : nt = a0.tmps.size) (hnh : nh = H.length) (hHp : Heap B w0 W0 H) (hob : AllOb P ops ks T a0 B w0 H 0 ops.toList)
    (hQ : ∀ L w, Heap B w0 w (heapF ks H L) → ((List.range ks.length).all (fun s => !isStore ks s) = true → AnyF ks L w (List.range ks.length)) → Q .normal { tmps := ((List.range a0.tmps.size).map (slotF ops ks a0 L)).toArray, defers := a0.defers } w) :
    (Code.region id ops true).wp P Q a0 W0 := by
  refine wp_region_any hm ?_
  have main : ∀ (fuel : Nat) (listed : Array Bool) (a : Act) (w : World) (L : Lt), Inv ops ks T a0 B w0 W0 H L listed a w → ((List.range ops.size).filter fun i => !listed.getD i false).length ≤ fuel → wpAny P .any ops Q fuel listed a w := by
    have fin : ∀ (listed : Array Bool) (a : Act) (w : World) (L : Lt), Inv ops ks T a0 B w0 W0 H L listed a w → Region.ready .any ops listed = [] → Q .normal a w := fun listed a w L I hr => by
      have hall : ∀ n, ∀ i, i ≤ n → i < ops.size → listed.getD i false = true := by
        intro n
        induction n with
        | zero =>
          intro i hi hlt
          obtain rfl : i = 0 := by omega
          cases hl : listed.getD 0 false with
          | true => rfl
          | false =>
            have : (0 : Nat) ∈ Region.ready .any ops listed := mem_ready.2 ⟨by simp [I.sz, hlt] at hl ⊢; exact hl, ops[0], Array.getElem?_eq_getElem hlt, fun e he hb => by
              have := (stat hc (Array.getElem?_eq_getElem hlt)).back e.on (by
                unfold aft; rw [Array.getElem?_eq_getElem hlt]
                simp only [Option.map_some, Option.getD_some, List.mem_map, List.mem_filter]
                exact ⟨e, ⟨by simpa using he, hb⟩, rfl⟩)
              omega⟩
            rw [hr] at this; cases this
        | succ n ih =>
          intro i hi hlt
          by_cases h : i ≤ n
          · exact ih i h hlt
          · obtain rfl : i = n + 1 := by omega
            cases hl : listed.getD (n + 1) false with
            | true => rfl
            | false =>
              have : (n + 1) ∈ Region.ready .any ops listed := mem_ready.2 ⟨by simp [I.sz, hlt] at hl ⊢; exact hl, ops[n + 1], Array.getElem?_eq_getElem hlt, fun e he hb => by
                have hb' := (stat hc (Array.getElem?_eq_getElem hlt)).back e.on (by
                  unfold aft; rw [Array.getElem?_eq_getElem hlt]
                  simp only [Option.map_some, Option.getD_some, List.mem_map, List.mem_filter]
                  exact ⟨e, ⟨by simpa using he, hb⟩, rfl⟩)
                exact ih e.on (by omega) (by omega)⟩
              rw [hr] at this; cases this
      obtain ⟨ha, hh, hy⟩ := done hc hHp.le (Heap.bounds hHp) hHp.nd I (fun i hi => hall i i (Nat.le_refl _) hi)
      rw [ha]
      exact hQ L w hh hy
    intro fuel
    induction fuel with
    | zero =>
      intro listed a w L I hf
      have hr : Region.ready .any ops listed = [] := by
        cases h : Region.ready .any ops listed with
        | nil => rfl
        | cons x xs =>
          have hx : x ∈ Region.ready .any ops listed := by rw [h]; simp
          obtain ⟨h0, o, ho, _⟩ := mem_ready.1 hx
          have hlt := (Array.getElem?_eq_some_iff.1 ho).1
          have hz := List.length_eq_zero_iff.1 (Nat.le_zero.1 hf)
          have : x ∈ (List.range ops.size).filter fun i => !listed.getD i false := List.mem_filter.2 ⟨by simpa using hlt, by simp [I.sz, hlt] at h0 ⊢; exact h0⟩
          rw [hz] at this; cases this
      exact ⟨hr, fin listed a w L I hr⟩
    | succ fuel ih =>
      intro listed a w L I hf
      refine ⟨fin listed a w L I, fun i hi => ?_⟩
      refine wpOp_mono (fun a' w' ⟨L', I'⟩ => ih _ a' w' L' I' ?_) (step hc hnt hnh hob hHp.le (Heap.bounds hHp) hHp.nd I hi)
      obtain ⟨h0, o, ho, _⟩ := mem_ready.1 hi
      have hlt := (Array.getElem?_eq_some_iff.1 ho).1
      have hil : i < listed.size := by rw [I.sz]; exact hlt
      have e : ((List.range ops.size).filter fun j => !(listed.setIfInBounds i true).getD j false) = ((List.range ops.size).filter fun j => !listed.getD j false).filter (fun j => j != i) := by
        rw [List.filter_filter]
        congr 1
        funext j
        rw [ls_get hil]
        by_cases h : j = i <;> simp [h]
      rw [e]
      have hm : i ∈ (List.range ops.size).filter fun j => !listed.getD j false := List.mem_filter.2 ⟨by simpa using hlt, by simp [hil] at h0 ⊢; exact h0⟩
      have : (((List.range ops.size).filter fun j => !listed.getD j false).filter (fun j => j != i)).length < ((List.range ops.size).filter fun j => !listed.getD j false).length := by
        refine List.length_filter_lt_length_iff_exists.2 ⟨i, hm, by simp⟩
      omega
  refine main _ _ _ _ ⟨fun _ => undef, fun _ => 0⟩ (Inv.start hHp (Below.refl _ _).drew rfl _) ?_
  exact Nat.le_trans (List.length_filter_le _ _) (by simp)

theorem plain {id nt nh : Nat} (hc : chk ops ks T nt nh = true) (hnt : nt = a0.tmps.size) (hnh : nh = H.length) (hHp : Heap B w0 W0 H) (hob : AllOb P ops ks T a0 B w0 H 0 ops.toList)
    (hQ : ∀ L w, Heap B w0 w (heapF ks H L) → ((List.range ks.length).all (fun s => !isStore ks s) = true → AnyF ks L w (List.range ks.length)) → Q .normal { tmps := ((List.range a0.tmps.size).map (slotF ops ks a0 L)).toArray, defers := a0.defers } w) :
    (Code.region id ops false).wp P Q a0 W0 := by
  refine wp_region ?_
  have main : ∀ (m k : Nat) (listed : Array Bool) (a : Act) (w : World) (L : Lt), k + m = ops.size → (∀ j, listed.getD j false = decide (j < k)) → Inv ops ks T a0 B w0 W0 H L listed a w → wpOps P ops Q (List.range' k m) a w := by
    intro m
    induction m with
    | zero =>
      intro k listed a w L hk hl I
      obtain ⟨ha, hh, hy⟩ := done hc hHp.le (Heap.bounds hHp) hHp.nd I (fun i hi => by rw [hl]; simp; omega)
      show Q .normal a w
      rw [ha]
      exact hQ L w hh hy
    | succ m ih =>
      intro k listed a w L hk hl I
      rw [List.range'_succ, wpOps_cons]
      have hlt : k < ops.size := by omega
      have hil : k < listed.size := by rw [I.sz]; exact hlt
      have hr : k ∈ Region.ready .any ops listed := mem_ready.2 ⟨by have := hl k; simp [hil] at this ⊢; exact this, ops[k], Array.getElem?_eq_getElem hlt, fun e he hb => by
        have hb' := (stat hc (Array.getElem?_eq_getElem hlt)).back e.on (by
          unfold aft; rw [Array.getElem?_eq_getElem hlt]
          simp only [Option.map_some, Option.getD_some, List.mem_map, List.mem_filter]
          exact ⟨e, ⟨by simpa using he, hb⟩, rfl⟩)
        rw [hl]; simpa using hb'⟩
      refine wpOp_mono (fun a' w' ⟨L', I'⟩ => ih (k + 1) _ a' w' L' (by omega) (fun j => ?_) I') (step hc hnt hnh hob hHp.le (Heap.bounds hHp) hHp.nd I hr)
      rw [ls_get hil]
      split
      · rename_i e; subst e; simp
      · rw [hl]; by_cases h : j < k <;> simp [h] <;> omega
  rw [List.range_eq_range']
  exact main ops.size 0 _ a0 W0 ⟨fun _ => undef, fun _ => 0⟩ (by omega) (fun j => by
    by_cases h : j < ops.size
    · simp [h]
    · simp [Array.getElem?_eq_none, h]) (Inv.start hHp (Below.refl _ _) rfl _)

end
end Go.Proofs.Ytccidmogamnihaa.Pl

/- What is to be shown of one operation, kind by kind. No program is named here. -/
namespace Go.Proofs.Ytccidmogamnihaa.Pl
open Go Go.RowKit
set_option linter.unusedVariables false
set_option linter.unusedSimpArgs false

section
variable {P : Program} {ops : Array Oper} {ks : List Kind} {T : List Nat} {a0 : Act} {B : Nat} {w0 : World} {H : List (Nat × List Value)} {i : Nat} {o : Oper}

theorem ob_det {v : Value} (hw : ∀ L, wantedR ks L o = true) (hk : kd ks i = .det v)
    (h : ∀ L w, Hyp ks T B w0 H L i w → Runs P ((execOp (rd ops ks T a0 L i) o).run P w) (fun u w' => u = v ∧ Below w.heap.size w w')) : Ob P ops ks T a0 B w0 H i o := fun L w hs => by
  rw [if_pos (hw L), hk]
  have hv : val ks L i = v := by unfold val; rw [hk]
  simp only [hv]
  exact h L w hs

theorem ob_skip (hw : ∀ L, wantedR ks L o = false) (hk : kd ks i = .det undef) : Ob P ops ks T a0 B w0 H i o := fun L w hs => by
  rw [if_neg (by rw [hw L]; simp)]; exact hk

theorem ob_pure {v : Value} (hw : ∀ L, wantedR ks L o = true) (hk : kd ks i = .det v)
    (h : ∀ L w, (execOp (rd ops ks T a0 L i) o).run P w = .ok (.value v) w) : Ob P ops ks T a0 B w0 H i o :=
  ob_det hw hk fun L w _ => by rw [h L w]; exact ⟨rfl, Below.refl _ _⟩

theorem ob_pureB {k : Nat} {v : Nat → Value} (hw : ∀ L, wantedR ks L o = true) (hk : kd ks i = .detB k v)
    (h : ∀ L w, (execOp (rd ops ks T a0 L i) o).run P w = .ok (.value (v (L.b k))) w) : Ob P ops ks T a0 B w0 H i o := fun L w hs => by
  rw [if_pos (hw L), hk]
  have hv : val ks L i = v (L.b k) := by unfold val; rw [hk]
  simp only [hv]
  rw [h L w]; exact ⟨rfl, Below.refl _ _⟩

theorem ob_pureV {k : Nat} {v : Value → Value} (hw : ∀ L, wantedR ks L o = true) (hk : kd ks i = .detV k v)
    (h : ∀ L w, (execOp (rd ops ks T a0 L i) o).run P w = .ok (.value (v (L.v k))) w) : Ob P ops ks T a0 B w0 H i o := fun L w hs => by
  rw [if_pos (hw L), hk]
  have hv : val ks L i = v (L.v k) := by unfold val; rw [hk]
  simp only [hv]
  rw [h L w]; exact ⟨rfl, Below.refl _ _⟩

theorem ob_move {v : Value} {x : Operand} (hw : ∀ L, wantedR ks L o = true) (hk : kd ks i = .det v) (ho : o.op = .move x) (hx : ∀ L, rd ops ks T a0 L i x = v) : Ob P ops ks T a0 B w0 H i o :=
  ob_pure hw hk fun L w => by unfold execOp; simp only [ho, hx L]; rfl
theorem ob_assign {v : Value} {x : Operand} (hw : ∀ L, wantedR ks L o = true) (hk : kd ks i = .det v) (ho : o.op = .assign x) (hx : ∀ L, rd ops ks T a0 L i x = v) : Ob P ops ks T a0 B w0 H i o :=
  ob_pure hw hk fun L w => by unfold execOp; simp only [ho, hx L]; rfl
theorem ob_build {v : Value} {t : TypeId} {ps : Array (Nat × Operand)} {qs : Array (Nat × Value)} (hw : ∀ L, wantedR ks L o = true) (hk : kd ks i = .det v) (ho : o.op = .build t ps) (hx : ∀ L, (ps.map fun p => (p.1, rd ops ks T a0 L i p.2)) = qs)
    (h : ∀ w, (Instr.build t qs).run P w = .ok v w) : Ob P ops ks T a0 B w0 H i o :=
  ob_pure hw hk fun L w => by
    have e : (ps.map fun (x : Nat × Operand) => match x with | (i_1, x) => (i_1, rd ops ks T a0 L i x)) = qs := hx L
    unfold execOp
    simp only [ho, e, Sem.run_bind, h w]
    rfl
theorem ob_load {t : TypeId} {x : Operand} {b off : Nat} {cs : List Value} {d : TypeDesc} (he : early T ks i = true) (hw : ∀ L, wantedR ks L o = true) (hk : kd ks i = .det (.agg cs.toArray)) (ho : o.op = .load t x)
    (hx : ∀ L, rd ops ks T a0 L i x = .pointer (some ⟨b, off, none⟩)) (hr : ∀ L w, Seen ks T B w0 H L i w → w.rangeAt b off cs)
    (hu : P.underlying t = some d) (hd : d.isRow = true) (hi : (P.info? t).map (·.size) = some cs.length) : Ob P ops ks T a0 B w0 H i o :=
  ob_det hw hk fun L w hs => by
    have : (execOp (rd ops ks T a0 L i) o).run P w = .ok (.value (.agg cs.toArray)) w := by
      unfold execOp
      simp only [ho, hx L, Sem.run_bind, run_loadAt_mid w b off t cs d (hr L w (hs he)) hu hd hi]
      rfl
    rw [this]
    exact ⟨rfl, Below.refl _ _⟩

theorem seen_at {L : Lt} {w : World} {k b : Nat} {cs : List Value} (hs : Seen ks T B w0 H L i w) (hk : H[k]? = some (b, cs)) : Box w b cs := hs.base (b, cs) (List.mem_of_getElem? hk)

def plainF (P : Program) (f : FuncId) : Bool := match P.funcs[f]? with | some fn => !(fn.name == "runtime.NumGoroutine") && fn.body.isSome | none => false

theorem run_enter {f : FuncId} (hf : plainF P f = true) (args : Array Value) (w : World) : (invoke (.fn (.func f) #[]) args).run P w = .ok (.enter f args) w := by
  unfold plainF at hf
  cases h : P.funcs[f]? with
  | none => simp [h] at hf
  | some fn =>
    simp only [h, Bool.and_eq_true, Bool.not_eq_true'] at hf
    obtain ⟨h1, h2⟩ := hf
    have h3 : fn.body.isNone = false := by cases hb : fn.body <;> simp_all
    have h4 : ¬ fn.name = "runtime.NumGoroutine" := by simpa using h1
    have h5 : ¬ fn.body = none := by intro e; rw [e] at h2; cases h2
    simp [invoke, callFunc, Sem.run_bind, h]
    rw [if_neg h4, if_neg h5]

theorem ob_call {v : Value} {f : FuncId} {xs : Array Operand} {ts : Array TypeId} {vs : Array Value} (hf : plainF P f = true) (he : early T ks i = true) (hw : ∀ L, wantedR ks L o = true) (hk : kd ks i = .det v) (ho : o.op = .call { callee := .value (.func f), args := xs, argTypes := ts })
    (hx : ∀ L, xs.map (rd ops ks T a0 L i) = vs) (h : ∀ w, Below B w0 w → B ≤ w.heap.size → Calls P f vs w fun e w' => e = .returned v ∧ Below w.heap.size w w') : Ob P ops ks T a0 B w0 H i o :=
  ob_det hw hk fun L w hs => by
    have : (execOp (rd ops ks T a0 L i) o).run P w = .ok (.enter f vs) w := by
      unfold execOp
      simp only [ho, resolve, hx L, Deferred.ofValue, rd, Sem.run_bind, Sem.run_pure, Result.andThen_ok, Array.empty_append, run_enter hf]
    rw [this]
    exact Calls.mono (h w (hs he).bel (hs he).le) fun e w' ⟨h1, h2⟩ => ⟨v, h1, rfl, h2⟩

theorem ob_callS {v : Value} {f : FuncId} {xs : Array Operand} {ts : Array TypeId} {vs : Lt → Array Value} (hf : plainF P f = true) (he : early T ks i = true) (hw : ∀ L, wantedR ks L o = true) (hk : kd ks i = .det v) (ho : o.op = .call { callee := .value (.func f), args := xs, argTypes := ts })
    (hx : ∀ L, xs.map (rd ops ks T a0 L i) = vs L) (h : ∀ L w, Seen ks T B w0 H L i w → Calls P f (vs L) w fun e w' => e = .returned v ∧ Below w.heap.size w w') : Ob P ops ks T a0 B w0 H i o :=
  ob_det hw hk fun L w hs => by
    have : (execOp (rd ops ks T a0 L i) o).run P w = .ok (.enter f (vs L)) w := by
      unfold execOp
      simp only [ho, resolve, hx L, Deferred.ofValue, rd, Sem.run_bind, Sem.run_pure, Result.andThen_ok, Array.empty_append, run_enter hf]
    rw [this]
    exact Calls.mono (h L w (hs he)) fun e w' ⟨h1, h2⟩ => ⟨v, h1, rfl, h2⟩

theorem ob_any {C : Value → World → Prop} {f : FuncId} {xs : Array Operand} {ts : Array TypeId} {vs : Lt → Array Value} (hf : plainF P f = true) (he : early T ks i = true) (hw : ∀ L, wantedR ks L o = true) (hk : kd ks i = .any C) (ho : o.op = .call { callee := .value (.func f), args := xs, argTypes := ts })
    (hx : ∀ L, xs.map (rd ops ks T a0 L i) = vs L) (hC : ∀ v w x, C v w → Below w.heap.size w x → C v x) (h : ∀ L w, Seen ks T B w0 H L i w → Calls P f (vs L) w fun e w' => ∃ v, e = .returned v ∧ C v w' ∧ Below w.heap.size w w') : Ob P ops ks T a0 B w0 H i o := fun L w hs => by
  rw [if_pos (hw L), hk]
  refine ⟨hC, ?_⟩
  have : (execOp (rd ops ks T a0 L i) o).run P w = .ok (.enter f (vs L)) w := by
    unfold execOp
    simp only [ho, resolve, hx L, Deferred.ofValue, rd, Sem.run_bind, Sem.run_pure, Result.andThen_ok, Array.empty_append, run_enter hf]
  rw [this]
  exact h L w (hs he)

theorem info_zero {t : TypeId} {v : Value} (hz : (P.info? t).bind (·.zero) = some v) (w : World) : (zeroValue t).run P w = .ok v w := by
  cases h : P.info? t with
  | none => simp [h] at hz
  | some inf =>
    simp [h] at hz
    simp [zeroValue, typeInfo, Sem.run_bind, h, hz]

theorem run_newVar (w : World) (t : TypeId) (v : Value) : (newVar t v).run P w = .ok ⟨w.heap.size, 0, none⟩ (w.alloc (.cells v.cells t)) := rfl

theorem ob_alloc {t : TypeId} {cs : List Value} {v : Value} (hw : ∀ L, wantedR ks L o = true) (hk : kd ks i = .alloc cs) (ho : o.op = .alloc t) (hz : (P.info? t).bind (·.zero) = some v) (hc : v.cells = cs.toArray) (hy : ∀ b, yields cs b = .pointer (some ⟨b, 0, none⟩)) : Ob P ops ks T a0 B w0 H i o := fun L w hs => by
  rw [if_pos (hw L), hk]
  refine ⟨t, ?_⟩
  rw [hy]
  unfold execOp
  simp [ho, Instr.alloc, Sem.run_bind, info_zero hz w, run_newVar, hc]

theorem ob_store {t : TypeId} {x y : Operand} {l : Loc} {off : Nat} {cs new old : List Value} (hw : ∀ L, wantedR ks L o = true) (hk : kd ks i = .store l off cs new) (ho : o.op = .store t x y)
    (hx : ∀ L, rd ops ks T a0 L i x = .pointer (some ⟨addr H L l, off, none⟩)) (hy : ∀ L, rd ops ks T a0 L i y = .agg cs.toArray) (hold : oldOf ks H l = old)
    (hi : (P.info? t).map (·.size) = some cs.length) (h1 : ∀ v ∈ cs, v.oneCell' = true) (hlen : off + cs.length ≤ old.length) (hsp : new = splice old off cs) : Ob P ops ks T a0 B w0 H i o := fun L w hs => by
  rw [if_pos (hw L), hk]
  subst hold
  refine ⟨hlen, hsp, fun ht => ?_⟩
  have hrun := run_storeAt_mid (P := P) w (addr H L l) off t cs.toArray (by simpa using ht) (by simpa using hi) (all_oneCell_toArray h1)
  unfold execOp
  simp [ho, hx L, hy L, Sem.run_bind, hrun]

theorem ob_bin {op : BinOp} {t t' : TypeId} {x y : Operand} {u v r : Value} (hw : ∀ L, wantedR ks L o = true) (hk : kd ks i = .det r) (ho : o.op = .binOp op t x y t')
    (hx : ∀ L, rd ops ks T a0 L i x = u) (hy : ∀ L, rd ops ks T a0 L i y = v) (hg : ∀ w, (eqGuard op t x y u v).run P w = .ok () w) (h : ∀ w, (binOp op t u v).run P w = .ok r w) : Ob P ops ks T a0 B w0 H i o :=
  ob_pure hw hk fun L w => by unfold execOp; simp [ho, hx L, hy L, Sem.run_bind, hg w, h w]

/-! ### A value that is built of parts -/
end
end Go.Proofs.Ytccidmogamnihaa.Pl

/- A region goes by its plan, what is left written out; a function's results. No program is named here. -/
namespace Go.Proofs.Ytccidmogamnihaa.Pl
open Go Go.RowKit
set_option linter.unusedVariables false
set_option linter.unusedSimpArgs false

section
variable {P : Program} {ops : Array Oper} {ks : List Kind} {T : List Nat} {a0 : Act} {B : Nat} {w0 W0 : World} {H : List (Nat × List Value)} {Q : Exit → Act → World → Prop}

theorem Heap.start (w : World) : Heap w.heap.size w w [] := ⟨Below.refl _ _, fun p hp => (by cases hp), List.nodup_nil, Nat.le_refl _⟩
theorem Heap.bound {b : Nat} {cs : List Value} (h : Heap B w0 W0 H) (k : Nat) (hk : H[k]? = some (b, cs)) : B ≤ b ∧ Box W0 b cs := h.box (b, cs) (List.mem_of_getElem? hk)

theorem draws {id nt nh : Nat} {A : Lt → List Value} {H' : Lt → List (Nat × List Value)} (hm : P.follows .mixedOrders = true) (hc : chk ops ks T nt nh = true) (hnt : nt = a0.tmps.size) (hnh : nh = H.length) (hdf : a0.defers = [])
    (hA : ∀ L, (List.range nt).map (slotF ops ks a0 L) = A L) (hF : ∀ L, heapF ks H L = H' L) (hHp : Heap B w0 W0 H) (hob : AllOb P ops ks T a0 B w0 H 0 ops.toList)
    (hQ : ∀ L w, Heap B w0 w (H' L) → Q .normal { tmps := (A L).toArray, defers := [] } w) :
    (Code.region id ops true).wp P Q a0 W0 :=
  drawn hm hc hnt hnh hHp hob fun L w h _ => by
    rw [← hnt, hA L, hdf]
    exact hQ L w (hF L ▸ h)

theorem goes {id nt nh : Nat} {A : Lt → List Value} {H' : Lt → List (Nat × List Value)} (hc : chk ops ks T nt nh = true) (hnt : nt = a0.tmps.size) (hnh : nh = H.length) (hdf : a0.defers = [])
    (hA : ∀ L, (List.range nt).map (slotF ops ks a0 L) = A L) (hF : ∀ L, heapF ks H L = H' L) (hHp : Heap B w0 W0 H) (hob : AllOb P ops ks T a0 B w0 H 0 ops.toList)
    (hQ : ∀ L w, Heap B w0 w (H' L) → Q .normal { tmps := (A L).toArray, defers := [] } w) :
    (Code.region id ops false).wp P Q a0 W0 :=
  plain hc hnt hnh hHp hob fun L w h _ => by
    rw [← hnt, hA L, hdf]
    exact hQ L w (hF L ▸ h)

theorem then_exit {K : Act → World → Prop} {id : Nat} {a : Act} {w : World} (h : Q (.exit id) a w) : Exit.then K Q (.exit id) a w := h
theorem then_normal {K : Act → World → Prop} {a : Act} {w : World} (h : K a w) : Exit.then K Q .normal a w := h
theorem block_normal {id : Nat} {a : Act} {w : World} (h : Q .normal a w) : Exit.inBlock id Q .normal a w := h
theorem exit_in {id : Nat} {a : Act} {w : World} (h : Q .normal a w) : Exit.inBlock id Q (.exit id) a w := by simp only [Exit.inBlock, if_true]; exact h
theorem rounds_k {c : Code} {n : Nat} {a : Act} {w : World} (h : ∀ K : Exit → Act → World → Prop, (∀ e a w, Exit.then (Code.rounds P c Q n) Q e a w → K e a w) → c.wp P K a w) : Code.rounds P c Q (n + 1) a w := h _ fun _ _ _ h => h
theorem wp_block_k {c : Code} {id : Nat} {a : Act} {w : World} (h : ∀ K : Exit → Act → World → Prop, (∀ e a w, Exit.inBlock id Q e a w → K e a w) → c.wp P K a w) : (Code.block id c).wp P Q a w := wp_block (h _ fun _ _ _ h => h)
theorem skips {a : Act} {w : World} (h : Q .normal a w) : Code.skip.wp P Q a w := wp_skip h
theorem res_t {fn : Func} {t : Nat} {tmps : Array Value} {v : Value} (hr : fn.results = #[.tmp t]) (ht : tmps.getD t undef = v) (w : World) : (results fn tmps).run P w = .ok v w := by
  unfold results
  simp only [hr]
  simp [Sem.run_bind, ht]
  simpa using ht
theorem res_c {fn : Func} {t b : Nat} {ty : TypeId} {tmps : Array Value} {cs : List Value} {d : TypeDesc} {w : World} (hr : fn.results = #[.cell t ty]) (ht : tmps.getD t undef = .pointer (some ⟨b, 0, none⟩)) (hb : Box w b cs)
    (hu : P.underlying ty = some d) (hd : d.isRow = true) (hi : (P.info? ty).map (·.size) = some cs.length) : (results fn tmps).run P w = .ok (.agg cs.toArray) w := by
  have ht2 : tmps[t]?.getD undef = .pointer (some ⟨b, 0, none⟩) := by simpa using ht
  have hl := run_loadVar_mid w b 0 ty cs d hb.cells hu hd hi
  unfold results
  simp only [hr]
  simp [Sem.run_bind, ht2, asAddr, hl]
end
end Go.Proofs.Ytccidmogamnihaa.Pl

/- What is to be shown of one operation, shortly told: what can be reckoned out is reckoned out. No program is named here. -/
namespace Go.Proofs.Ytccidmogamnihaa.Pl
open Go Go.RowKit
set_option linter.unusedVariables false
set_option linter.unusedSimpArgs false

def U (n : Nat) : List Value := List.replicate n undef

abbrev pt (b off : Nat) : Value := .pointer (some ⟨b, off, none⟩)
abbrev Lt.p (L : Lt) (i : Nat) : Value := .pointer (some ⟨L.b i, 0, none⟩)
def D (d : Nat → Value) (k n : Nat) : List Value := (List.range' k n).map d

structure RowT (P : Program) (t : TypeId) (n : Nat) (Z : List Value) : Prop where
  und : ∃ d, P.underlying t = some d ∧ d.isRow = true
  size : (P.info? t).map (·.size) = some n
  zero : (P.info? t).bind (·.zero) = some (.agg Z.toArray)
structure ArrT (P : Program) (t : TypeId) (n sz : Nat) : Prop where
  und : ∃ e, P.underlying t = some (.array n e) ∧ (P.info? e).map (·.size) = some sz
structure EqT (P : Program) (t : TypeId) {α : Type} [DecidableEq α] (V : α → Value) : Prop where
  grd : ∀ (op : BinOp) (x y : Operand) (a b : α) (w : World), (eqGuard op t x y (V a) (V b)).run P w = .ok () w
  eql : ∀ (a b : α) (w : World), (binOp .eql t (V a) (V b)).run P w = .ok (.bool (decide (a = b))) w
  neq : ∀ (a b : α) (w : World), (binOp .neq t (V a) (V b)).run P w = .ok (.bool (!decide (a = b))) w

def idx (p q : Value) (n sz : Nat) : Option Value :=
  match p, q with
  | .pointer (some ⟨b, off, none⟩), .int .i64 (.ofNat k) => if Nat.blt k n then some (.pointer (some ⟨b, off + k * sz, none⟩)) else none
  | _, _ => none
def part? (p : Value) (n : Nat) : Option Value := match p with | .tuple vs => vs[n]? | _ => none
def pick? (c x y : Value) : Option Value := match c with | .bool true => some x | .bool false => some y | _ => none
def not? (c : Value) : Option Value := match c with | .bool b => some (.bool (!b)) | _ => none
theorem guardJ {P : Program} (op : BinOp) (t : TypeId) (x y : Operand) (k k' : IntKind) (m n : Int) (w : World) : (eqGuard op t x y (.int k m) (.int k' n)).run P w = .ok () w := by
  unfold eqGuard
  cases op <;> simp [Sem.run_bind]

section
variable {P : Program} {ops : Array Oper} {ks : List Kind} {T : List Nat} {a0 : Act} {B : Nat} {w0 : World} {H : List (Nat × List Value)} {i : Nat} {o : Oper}

structure Obl (P : Program) (ops : Array Oper) (ks : List Kind) (T : List Nat) (a0 : Act) (B : Nat) (w0 : World) (H : List (Nat × List Value)) (i : Nat) (o : Oper) : Prop where
  ob : Ob P ops ks T a0 B w0 H i o
theorem oS (hw : ∀ L, wantedR ks L o = false := by intro _; kernel_rfl) (hk : kd ks i = .det undef) : Obl P ops ks T a0 B w0 H i o := ⟨ob_skip hw hk⟩
theorem oM {v : Value} {x : Operand} (hw : ∀ L, wantedR ks L o = true := by intro _; kernel_rfl) (ho : o.op = .move x := by exact rfl) (hx : ∀ L, rd ops ks T a0 L i x = v := by intro _; kernel_rfl) (hk : kd ks i = .det v) : Obl P ops ks T a0 B w0 H i o := ⟨ob_move hw hk ho hx⟩
theorem oA {v : Value} {x : Operand} (hw : ∀ L, wantedR ks L o = true := by intro _; kernel_rfl) (ho : o.op = .assign x := by exact rfl) (hx : ∀ L, rd ops ks T a0 L i x = v := by intro _; kernel_rfl) (hk : kd ks i = .det v) : Obl P ops ks T a0 B w0 H i o := ⟨ob_assign hw hk ho hx⟩
theorem oX {v : Value} {t : Operand} {n : Nat} (hw : ∀ L, wantedR ks L o = true := by intro _; kernel_rfl) (ho : o.op = .extract t n := by exact rfl) (hx : ∀ L, part? (rd ops ks T a0 L i t) n = some v := by intro _; kernel_rfl) (hk : kd ks i = .det v) : Obl P ops ks T a0 B w0 H i o := ⟨ob_pure hw hk fun L w => by
    have h := hx L
    unfold execOp
    simp only [ho]
    cases hv : rd ops ks T a0 L i t <;> rw [hv] at h <;> simp only [part?] at h <;> try (cases h; done)
    simp only [Instr.extract, h]; rfl⟩
theorem oP {v : Value} {c x y : Operand} (hw : ∀ L, wantedR ks L o = true := by intro _; kernel_rfl) (ho : o.op = .pick c x y := by exact rfl) (hx : ∀ L, pick? (rd ops ks T a0 L i c) (rd ops ks T a0 L i x) (rd ops ks T a0 L i y) = some v := by intro _; kernel_rfl) (hk : kd ks i = .det v) : Obl P ops ks T a0 B w0 H i o := ⟨ob_pure hw hk fun L w => by
    have h := hx L
    unfold execOp
    simp only [ho]
    cases hv : rd ops ks T a0 L i c <;> rw [hv] at h <;> simp only [pick?] at h <;> try (cases h; done)
    rename_i b
    cases b <;> simp only [Option.some.injEq] at h <;> simp only [h] <;> rfl⟩
theorem oN {v : Value} {t : TypeId} {x : Operand} (hw : ∀ L, wantedR ks L o = true := by intro _; kernel_rfl) (ho : o.op = .unOp .not t x := by exact rfl) (hx : ∀ L, not? (rd ops ks T a0 L i x) = some v := by intro _; kernel_rfl) (hk : kd ks i = .det v) : Obl P ops ks T a0 B w0 H i o := ⟨ob_pure hw hk fun L w => by
    have h := hx L
    unfold execOp
    simp only [ho]
    cases hv : rd ops ks T a0 L i x <;> rw [hv] at h <;> simp only [not?] at h <;> try (cases h; done)
    simp only [Option.some.injEq] at h
    subst h; rfl⟩
theorem oD {v : Value} {t : TypeId} {ps : Array (Nat × Operand)} {qs : Array (Nat × Value)} (h : ∀ w, (Instr.build t qs).run P w = .ok v w) (hw : ∀ L, wantedR ks L o = true := by intro _; kernel_rfl) (ho : o.op = .build t ps := by exact rfl) (hx : ∀ L, (ps.map fun p => (p.1, rd ops ks T a0 L i p.2)) = qs := by intro _; kernel_rfl) (hk : kd ks i = .det v) : Obl P ops ks T a0 B w0 H i o := ⟨ob_build hw hk ho hx h⟩

theorem idx_some {p q v : Value} {n sz : Nat} (h : idx p q n sz = some v) : ∃ b off k, p = .pointer (some ⟨b, off, none⟩) ∧ q = .int .i64 (Int.ofNat k) ∧ k < n ∧ v = .pointer (some ⟨b, off + k * sz, none⟩) := by
  unfold idx at h
  split at h
  · rename_i b off k
    cases hb : Nat.blt k n with
    | false => rw [hb] at h; cases h
    | true =>
      rw [hb, if_pos rfl, Option.some.injEq] at h
      exact ⟨b, off, k, rfl, rfl, Eq.mp Nat.blt_eq hb, h.symm⟩
  · cases h
theorem oI {v : Value} {t : TypeId} {x ix : Operand} {n sz : Nat} (hA : ArrT P t n sz) (hw : ∀ L, wantedR ks L o = true := by intro _; kernel_rfl) (ho : o.op = .indexAddr t x ix := by exact rfl)
    (hx : ∀ L, idx (rd ops ks T a0 L i x) (rd ops ks T a0 L i ix) n sz = some v := by intro _; kernel_rfl) (hk : kd ks i = .det v) : Obl P ops ks T a0 B w0 H i o := ⟨ob_pure hw hk fun L w => by
    obtain ⟨b, off, k, h1, h2, hkn, rfl⟩ := idx_some (hx L)
    obtain ⟨e, hu, hs⟩ := hA.und
    have hkn' : (0 : Int) ≤ (k : Int) ∧ (k : Int) < (n : Int) := ⟨by omega, by omega⟩
    obtain ⟨inf, hinf, hsz⟩ : ∃ inf, P.info? e = some inf ∧ inf.size = sz := by
      cases h : P.info? e with
      | none => simp [h] at hs
      | some inf => exact ⟨inf, rfl, by simpa [h] using hs⟩
    unfold execOp
    simp [ho, h1, h2, Instr.indexAt, asIntOf, Sem.run_bind, Go.underlying, hu, Instr.sureAddr, hkn', sizeOf, typeInfo, hinf, hsz, Addr.add_mid]
    intro hh; omega⟩

theorem box_cut {w : World} {b off n : Nat} {cs box : List Value} (h : Box w b box) (hp : (box.drop off).take n = cs) : w.rangeAt b off cs := fun j v hv => by
  subst hp
  rw [List.getElem?_take] at hv
  split at hv
  · rw [List.getElem?_drop] at hv
    have := h.cells (off + j) v hv
    simpa using this
  · cases hv
theorem oL {t : TypeId} {x : Operand} {cs box Z : List Value} {b n : Nat} (k off : Nat) (hR : RowT P t n Z) (he : early T ks i = true := by kernel_rfl) (hw : ∀ L, wantedR ks L o = true := by intro _; kernel_rfl) (ho : o.op = .load t x := by exact rfl)
    (hb : H[k]? = some (b, box) := by exact rfl) (hx : ∀ L, rd ops ks T a0 L i x = .pointer (some ⟨b, off, none⟩) := by intro _; kernel_rfl) (hp : (box.drop off).take n = cs := by kernel_rfl) (hl : cs.length = n := by kernel_rfl) (hk : kd ks i = .det (.agg cs.toArray)) : Obl P ops ks T a0 B w0 H i o := by
  obtain ⟨d, hu, hd⟩ := hR.und
  exact ⟨ob_load he hw hk ho hx (fun L w hs => box_cut (seen_at hs hb) hp) hu hd (by rw [hl]; exact hR.size)⟩
theorem oG {t : TypeId} {x : Operand} {cs Z : List Value} {b off n : Nat} (hR : RowT P t n Z) (hr : ∀ L w, Seen ks T B w0 H L i w → w.rangeAt b off cs) (he : early T ks i = true := by kernel_rfl) (hw : ∀ L, wantedR ks L o = true := by intro _; kernel_rfl) (ho : o.op = .load t x := by exact rfl)
    (hx : ∀ L, rd ops ks T a0 L i x = .pointer (some ⟨b, off, none⟩) := by intro _; kernel_rfl) (hl : cs.length = n := by kernel_rfl) (hk : kd ks i = .det (.agg cs.toArray)) : Obl P ops ks T a0 B w0 H i o := by
  obtain ⟨d, hu, hd⟩ := hR.und
  exact ⟨ob_load he hw hk ho hx hr hu hd (by rw [hl]; exact hR.size)⟩
theorem oT {t : TypeId} {x y : Operand} {l : Loc} {off n : Nat} {cs new Z : List Value} (hR : RowT P t n Z) (hw : ∀ L, wantedR ks L o = true := by intro _; kernel_rfl) (ho : o.op = .store t x y := by exact rfl)
    (hx : ∀ L, rd ops ks T a0 L i x = .pointer (some ⟨addr H L l, off, none⟩) := by intro _; kernel_rfl) (hy : ∀ L, rd ops ks T a0 L i y = .agg cs.toArray := by intro _; kernel_rfl) (hl : cs.length = n := by kernel_rfl) (h1 : cs.all (fun v => v.oneCell') = true := by kernel_rfl)
    (hle : Nat.ble (off + cs.length) (oldOf ks H l).length = true := by kernel_rfl) (hsp : new = splice (oldOf ks H l) off cs := by kernel_rfl) (hk : kd ks i = .store l off cs new) : Obl P ops ks T a0 B w0 H i o := ⟨ob_store hw hk ho hx hy rfl (by rw [hl]; exact hR.size) (fun v hv => List.all_eq_true.1 h1 v hv) (Nat.le_of_ble_eq_true hle) hsp⟩
theorem oB {t : TypeId} {cs : List Value} {x : Operand} (hw : ∀ L, wantedR ks L o = true := by intro _; kernel_rfl) (ho : o.op = .box t x := by exact rfl) (hx : ∀ L, (rd ops ks T a0 L i x).cells = cs.toArray := by intro _; kernel_rfl) (hk : kd ks i = .alloc cs) (hy : ∀ b, yields cs b = .pointer (some ⟨b, 0, none⟩) := by intro _; kernel_rfl) : Obl P ops ks T a0 B w0 H i o := ⟨fun L w hs => by
  rw [if_pos (hw L), hk]
  refine ⟨t, ?_⟩
  rw [hy]
  unfold execOp
  simp [ho, Instr.box, Sem.run_bind, run_newVar, hx L]⟩
theorem oZ {t : TypeId} {n : Nat} {cs Z : List Value} (hR : RowT P t n Z) (hw : ∀ L, wantedR ks L o = true := by intro _; kernel_rfl) (ho : o.op = .alloc t := by exact rfl) (hz : Z = cs := by kernel_rfl) (hk : kd ks i = .alloc cs) (hy : ∀ b, yields cs b = .pointer (some ⟨b, 0, none⟩) := by intro _; kernel_rfl) : Obl P ops ks T a0 B w0 H i o := ⟨ob_alloc hw hk ho hR.zero (by rw [hz]; rfl) hy⟩

theorem oR {v : Value} {f : FuncId} {xs : Array Operand} {ts : Array TypeId} {vs : Array Value} (h : ∀ w, Calls P f vs w fun e w' => e = .returned v ∧ Below w.heap.size w w')
    (hf : plainF P f = true := by kernel_rfl) (he : early T ks i = true := by kernel_rfl) (hw : ∀ L, wantedR ks L o = true := by intro _; kernel_rfl) (ho : o.op = .call { callee := .value (.func f), args := xs, argTypes := ts } := by exact rfl)
    (hx : ∀ L, xs.map (rd ops ks T a0 L i) = vs := by intro _; kernel_rfl) (hk : kd ks i = .det v) : Obl P ops ks T a0 B w0 H i o := ⟨ob_call hf he hw hk ho hx fun w _ _ => h w⟩
theorem oH {v : Value} {f : FuncId} {xs : Array Operand} {ts : Array TypeId} {vs : Array Value} (h : ∀ w, Below B w0 w → B ≤ w.heap.size → Calls P f vs w fun e w' => e = .returned v ∧ Below w.heap.size w w')
    (hf : plainF P f = true := by kernel_rfl) (he : early T ks i = true := by kernel_rfl) (hw : ∀ L, wantedR ks L o = true := by intro _; kernel_rfl) (ho : o.op = .call { callee := .value (.func f), args := xs, argTypes := ts } := by exact rfl)
    (hx : ∀ L, xs.map (rd ops ks T a0 L i) = vs := by intro _; kernel_rfl) (hk : kd ks i = .det v) : Obl P ops ks T a0 B w0 H i o := ⟨ob_call hf he hw hk ho hx h⟩
theorem oCS {v : Value} {f : FuncId} {xs : Array Operand} {ts : Array TypeId} (vs : Lt → Array Value) (h : ∀ L w, Seen ks T B w0 H L i w → Calls P f (vs L) w fun e w' => e = .returned v ∧ Below w.heap.size w w')
    (hf : plainF P f = true := by kernel_rfl) (he : early T ks i = true := by kernel_rfl) (hw : ∀ L, wantedR ks L o = true := by intro _; kernel_rfl) (ho : o.op = .call { callee := .value (.func f), args := xs, argTypes := ts } := by exact rfl)
    (hx : ∀ L, xs.map (rd ops ks T a0 L i) = vs L := by intro _; kernel_rfl) (hk : kd ks i = .det v) : Obl P ops ks T a0 B w0 H i o := ⟨ob_callS hf he hw hk ho hx h⟩
theorem oY {C : Value → World → Prop} {f : FuncId} {xs : Array Operand} {ts : Array TypeId} (vs : Lt → Array Value) (hC : ∀ v w x, C v w → Below w.heap.size w x → C v x) (h : ∀ L w, Seen ks T B w0 H L i w → Calls P f (vs L) w fun e w' => ∃ v, e = .returned v ∧ C v w' ∧ Below w.heap.size w w')
    (hf : plainF P f = true := by kernel_rfl) (he : early T ks i = true := by kernel_rfl) (hw : ∀ L, wantedR ks L o = true := by intro _; kernel_rfl) (ho : o.op = .call { callee := .value (.func f), args := xs, argTypes := ts } := by exact rfl)
    (hx : ∀ L, xs.map (rd ops ks T a0 L i) = vs L := by intro _; kernel_rfl) (hk : kd ks i = .any C) : Obl P ops ks T a0 B w0 H i o := ⟨ob_any hf he hw hk ho hx hC h⟩

theorem oW {op : BinOp} {t t' : TypeId} {x y : Operand} {u v r : Value} (hg : ∀ w, (eqGuard op t x y u v).run P w = .ok () w) (h : ∀ w, (binOp op t u v).run P w = .ok r w) (hw : ∀ L, wantedR ks L o = true := by intro _; kernel_rfl) (ho : o.op = .binOp op t x y t' := by exact rfl)
    (hx : ∀ L, rd ops ks T a0 L i x = u := by intro _; kernel_rfl) (hy : ∀ L, rd ops ks T a0 L i y = v := by intro _; kernel_rfl) (hk : kd ks i = .det r) : Obl P ops ks T a0 B w0 H i o := ⟨ob_bin hw hk ho hx hy hg h⟩
theorem oJ {op : BinOp} {t t' : TypeId} {x y : Operand} {r : Value} (k k' : IntKind) (m n : Int) (hw : ∀ L, wantedR ks L o = true := by intro _; kernel_rfl) (ho : o.op = .binOp op t x y t' := by exact rfl)
    (hx : ∀ L, rd ops ks T a0 L i x = .int k m := by intro _; kernel_rfl) (hy : ∀ L, rd ops ks T a0 L i y = .int k' n := by intro _; kernel_rfl) (h : ∀ w, (binOp op t (.int k m) (.int k' n)).run P w = .ok r w := by intro _; rfl) (hk : kd ks i = .det r) : Obl P ops ks T a0 B w0 H i o := ⟨ob_bin hw hk ho hx hy (fun w => guardJ _ _ _ _ _ _ _ _ w) h⟩

def AllOb2 (P : Program) (ops : Array Oper) (ks : List Kind) (T : List Nat) (a0 : Act) (B : Nat) (w0 : World) (H : List (Nat × List Value)) : List Nat → List Oper → List Kind → Prop
  | _, [], _ => True
  | i :: n, o :: r, k :: s => (kd ks i = k → Obl P ops ks T a0 B w0 H i o) ∧ AllOb2 P ops ks T a0 B w0 H n r s
  | _, _, _ => False
theorem AllOb2.to : ∀ (l : List Oper) (n : Nat) (N : List Nat) (K : List Kind), N = List.range' n l.length → (∀ j, j < l.length → K.getD j (.det undef) = kd ks (n + j)) → AllOb2 P ops ks T a0 B w0 H N l K → AllOb P ops ks T a0 B w0 H n l
  | [], _, _, _, _, _, _ => trivial
  | o :: r, n, N, K, hN, hK, h => by
    rw [List.length_cons, List.range'_succ] at hN
    subst hN
    cases K with
    | nil => exact h.elim
    | cons k s =>
      refine ⟨(h.1 ((hK 0 (by simp)).symm)).ob, AllOb2.to r (n + 1) _ s rfl (fun j hj => ?_) h.2⟩
      have := hK (j + 1) (by simp; omega)
      rw [show n + 1 + j = n + (j + 1) by omega, ← this]
      rfl

theorem dr {id nt : Nat} {W0 : World} {Q : Exit → Act → World → Prop} (ks : List Kind) (N T : List Nat) (A : Lt → List Value) (H' : Lt → List (Nat × List Value)) (hHp : Heap B w0 W0 H) (hob : AllOb2 P ops ks T a0 B w0 H N ops.toList ks)
    (hQ : ∀ L w, Heap B w0 w (H' L) → Q .normal { tmps := (A L).toArray, defers := [] } w) (hm : P.follows .mixedOrders = true := by kernel_rfl) (hnt : nt = a0.tmps.size := by exact rfl) (hc : chk ops ks T nt H.length = true := by kernel_rfl) (hdf : a0.defers = [] := by exact rfl)
    (hA : ∀ L, (List.range nt).map (slotF ops ks a0 L) = A L := by intro _; kernel_rfl) (hF : ∀ L, heapF ks H L = H' L := by intro _; kernel_rfl) (hN : N = List.range' 0 ops.toList.length := by kernel_rfl) :
    (Code.region id ops true).wp P Q a0 W0 := draws hm hc hnt rfl hdf hA hF hHp (AllOb2.to _ 0 N ks hN (fun j _ => by rw [Nat.zero_add]; rfl) hob) hQ
theorem gs {id nt : Nat} {W0 : World} {Q : Exit → Act → World → Prop} (ks : List Kind) (N T : List Nat) (A : Lt → List Value) (H' : Lt → List (Nat × List Value)) (hHp : Heap B w0 W0 H) (hob : AllOb2 P ops ks T a0 B w0 H N ops.toList ks)
    (hQ : ∀ L w, Heap B w0 w (H' L) → Q .normal { tmps := (A L).toArray, defers := [] } w) (hnt : nt = a0.tmps.size := by exact rfl) (hc : chk ops ks T nt H.length = true := by kernel_rfl) (hdf : a0.defers = [] := by exact rfl)
    (hA : ∀ L, (List.range nt).map (slotF ops ks a0 L) = A L := by intro _; kernel_rfl) (hF : ∀ L, heapF ks H L = H' L := by intro _; kernel_rfl) (hN : N = List.range' 0 ops.toList.length := by kernel_rfl) :
    (Code.region id ops false).wp P Q a0 W0 := goes hc hnt rfl hdf hA hF hHp (AllOb2.to _ 0 N ks hN (fun j _ => by rw [Nat.zero_add]; rfl) hob) hQ
theorem drD {id nt : Nat} {W0 : World} {Q : Exit → Act → World → Prop} (ks : List Kind) (N T : List Nat) (A : Lt → (Nat → Value) → List Value) (H' : Lt → List (Nat × List Value)) (hHp : Heap B w0 W0 H) (hob : AllOb2 P ops ks T a0 B w0 H N ops.toList ks)
    (hQ : ∀ L d w, Heap B w0 w (H' L) → Q .normal { tmps := (A L d).toArray, defers := [] } w) (hm : P.follows .mixedOrders = true := by kernel_rfl) (hnt : nt = a0.tmps.size := by exact rfl) (hc : chk ops ks T nt H.length = true := by kernel_rfl) (hdf : a0.defers = [] := by exact rfl)
    (hA : ∀ L, (List.range nt).map (slotF ops ks a0 L) = A L (slotF ops ks a0 L) := by intro _; kernel_rfl) (hF : ∀ L, heapF ks H L = H' L := by intro _; kernel_rfl) (hN : N = List.range' 0 ops.toList.length := by kernel_rfl) :
    (Code.region id ops true).wp P Q a0 W0 := dr ks N T (fun L => A L (slotF ops ks a0 L)) H' hHp hob (fun L w h => hQ L _ w h) hm hnt hc hdf hA hF hN
theorem gsD {id nt : Nat} {W0 : World} {Q : Exit → Act → World → Prop} (ks : List Kind) (N T : List Nat) (A : Lt → (Nat → Value) → List Value) (H' : Lt → List (Nat × List Value)) (hHp : Heap B w0 W0 H) (hob : AllOb2 P ops ks T a0 B w0 H N ops.toList ks)
    (hQ : ∀ L d w, Heap B w0 w (H' L) → Q .normal { tmps := (A L d).toArray, defers := [] } w) (hnt : nt = a0.tmps.size := by exact rfl) (hc : chk ops ks T nt H.length = true := by kernel_rfl) (hdf : a0.defers = [] := by exact rfl)
    (hA : ∀ L, (List.range nt).map (slotF ops ks a0 L) = A L (slotF ops ks a0 L) := by intro _; kernel_rfl) (hF : ∀ L, heapF ks H L = H' L := by intro _; kernel_rfl) (hN : N = List.range' 0 ops.toList.length := by kernel_rfl) :
    (Code.region id ops false).wp P Q a0 W0 := gs ks N T (fun L => A L (slotF ops ks a0 L)) H' hHp hob (fun L w h => hQ L _ w h) hnt hc hdf hA hF hN
theorem oMB {b c : Bool} {x : Operand} (h : b = c) (hw : ∀ L, wantedR ks L o = true := by intro _; kernel_rfl) (ho : o.op = .move x := by exact rfl) (hx : ∀ L, rd ops ks T a0 L i x = .bool b := by intro _; kernel_rfl) (hk : kd ks i = .det (.bool c)) : Obl P ops ks T a0 B w0 H i o :=
  oM (v := .bool c) hw ho (fun L => (hx L).trans (by rw [h])) hk
theorem rc {fn : Func} {t b n : Nat} {ty : TypeId} {tmps : Array Value} {cs Z : List Value} {w : World} (hR : RowT P ty n Z) (hr : fn.results = #[.cell t ty]) (ht : tmps.getD t undef = .pointer (some ⟨b, 0, none⟩)) (hb : Box w b cs) (hl : cs.length = n := by kernel_rfl) : (results fn tmps).run P w = .ok (.agg cs.toArray) w := by
  obtain ⟨d, hu, hd⟩ := hR.und
  exact res_c hr ht hb hu hd (by rw [hl]; exact hR.size)
end
end Go.Proofs.Ytccidmogamnihaa.Pl

/- What a call answers, in new memory alone; short names. -/
namespace Go.Proofs.Ytccidmogamnihaa.fpn
open Go.RowKit Pl
set_option linter.unusedVariables false

def Ret (v : Value) (w : World) : Ending → World → Prop := fun e w' => e = .returned v ∧ Below w.heap.size w w'
theorem nm {α : Type} (a : α) : ∃ m, m = a := ⟨a, rfl⟩
theorem info8 : (Try.prog.info? 5).map (fun i => (i.zero, i.size, i.bytes)) = some (some (.int .u8 0), 1, 1) := by kernel_rfl
end Go.Proofs.Ytccidmogamnihaa.fpn

/- New slices, letters that are kept, in a plan. No program is named here. -/
namespace Go.Proofs.Ytccidmogamnihaa.Pl
open Go Go.RowKit
set_option linter.unusedVariables false
set_option linter.unusedSimpArgs false
section
variable {P : Program} {ops : Array Oper} {ks : List Kind} {T : List Nat} {a0 : Act} {B : Nat} {w0 W0 : World} {H : List (Nat × List Value)} {i : Nat} {o : Oper}
theorem oAV {k : Nat} {x : Operand} (hw : ∀ L, wantedR ks L o = true := by intro _; kernel_rfl) (ho : o.op = .assign x := by exact rfl) (hx : ∀ L, rd ops ks T a0 L i x = L.v k := by intro _; kernel_rfl) (hk : kd ks i = .detV k (fun v => v)) : Obl P ops ks T a0 B w0 H i o :=
  ⟨ob_pureV hw hk fun L w => by unfold execOp; simp only [ho, hx L]; rfl⟩
def isOne (x : Int) (v : Value) (w : World) : Prop := ∃ k : Nat, v = .slice (some ⟨k, 0, none⟩) 1 1 ∧ AtK .u64 w (some ⟨k, 0, none⟩) 1 (fun _ => x)
theorem isOne.stay {x : Int} {v : Value} {w y : World} (h : isOne x v w) (hb : Below w.heap.size w y) : isOne x v y := by
  obtain ⟨k, e, h⟩ := h
  exact ⟨k, e, AtK.below h hb⟩
theorem run_one {t e : TypeId} {x : Int} (hu : P.underlying t = some (.slice e)) (hs : (P.info? e).map (·.size) = some 1) (hz : (P.info? e).bind (·.zero) = some (.int .u64 0)) (w : World) :
    (Instr.buildSlice t 1 #[(0, .int .u64 x)]).run P w = .ok (.slice (some ⟨w.heap.size, 0, none⟩) 1 1) (w.alloc (.cells #[.int .u64 x] e)) := by
  cases hi : P.info? e with
  | none => simp [hi] at hs
  | some ie =>
    simp [hi] at hs hz
    exact run_buildSlice w t e 1 _ _ ie _ hu hi hz (by rw [hs]; decide) (by rw [hs]; decide) (by rw [hs]; kernel_rfl)
theorem oS1 {t e : TypeId} {x : Operand} {n : Int} (hu : P.underlying t = some (.slice e)) (hs : (P.info? e).map (·.size) = some 1) (hz : (P.info? e).bind (·.zero) = some (.int .u64 0)) (hw : ∀ L, wantedR ks L o = true := by intro _; kernel_rfl) (ho : o.op = .buildSlice t 1 #[(0, x)] := by exact rfl)
    (hx : ∀ L, rd ops ks T a0 L i x = .int .u64 n := by intro _; kernel_rfl) (hk : kd ks i = .any (isOne n)) : Obl P ops ks T a0 B w0 H i o := ⟨fun L w hsn => by
  rw [if_pos (hw L), hk]
  refine ⟨fun v w x h hb => h.stay hb, ?_⟩
  have : (execOp (rd ops ks T a0 L i) o).run P w = .ok (.value (.slice (some ⟨w.heap.size, 0, none⟩) 1 1)) (w.alloc (.cells #[.int .u64 n] e)) := by
    unfold execOp
    have h1 : (#[((0 : Nat), x)].map fun p => (p.1, rd ops ks T a0 L i p.2)) = #[(0, .int .u64 n)] := by simp [hx L]
    simp only [ho, h1, Sem.run_bind, run_one hu hs hz]
    rfl
  rw [this]
  refine ⟨⟨w.heap.size, rfl, fun _ => ⟨w.heap.size, 0, rfl, fun j hj => ?_⟩⟩, (Below.refl _ _).alloc (Nat.le_refl _) _⟩
  obtain rfl : j = 0 := by omega
  exact (Box.new w [.int .u64 n] e).cells 0 _ rfl⟩
theorem AnyF.at {ks : List Kind} {L : Lt} {w : World} {j : Nat} {C : Value → World → Prop} : ∀ {l : List Nat}, AnyF ks L w l → l.contains j = true → kd ks j = .any C → C (L.v j) w
  | [], _, h, _ => by simp at h
  | k :: r, ha, h, hk => by
    unfold AnyF at ha
    by_cases e : j = k
    · subst e
      rw [hk] at ha
      exact ha.1
    · have h' : r.contains j = true := by simpa [e] using h
      split at ha
      · exact AnyF.at ha.2 h' hk
      · exact AnyF.at ha h' hk
theorem gsA {id nt : Nat} {Q : Exit → Act → World → Prop} (ks : List Kind) (N T : List Nat) (A : Lt → List Value) (H' : Lt → List (Nat × List Value)) (hHp : Heap B w0 W0 H) (hob : AllOb2 P ops ks T a0 B w0 H N ops.toList ks)
    (hQ : ∀ L w, Heap B w0 w (H' L) → AnyF ks L w (List.range ks.length) → Q .normal { tmps := (A L).toArray, defers := [] } w) (hno : (List.range ks.length).all (fun s => !isStore ks s) = true := by kernel_rfl) (hnt : nt = a0.tmps.size := by exact rfl) (hc : chk ops ks T nt H.length = true := by kernel_rfl) (hdf : a0.defers = [] := by exact rfl)
    (hA : ∀ L, (List.range nt).map (slotF ops ks a0 L) = A L := by intro _; kernel_rfl) (hF : ∀ L, heapF ks H L = H' L := by intro _; kernel_rfl) (hN : N = List.range' 0 ops.toList.length := by kernel_rfl) :
    (Code.region id ops false).wp P Q a0 W0 :=
  plain hc hnt rfl hHp (AllOb2.to _ 0 N ks hN (fun j _ => by rw [Nat.zero_add]; rfl) hob) fun L w h ha => by
    rw [← hnt, hA L, hdf]
    exact hQ L w (hF L ▸ h) (ha hno)
end
end Go.Proofs.Ytccidmogamnihaa.Pl

/- A part of an array's value, and what is known of one operation of it. No program is named here. -/
namespace Go.Proofs.Ytccidmogamnihaa.Pl
open Go Go.RowKit
set_option linter.unusedVariables false
set_option linter.unusedSimpArgs false

structure ArrV (P : Program) (t : TypeId) (n sz : Nat) : Prop where
  und : ∃ e, P.underlying t = some (.array n e) ∧ (∀ w, (isAgg e).run P w = .ok true w) ∧ (∀ w, (sizeOf e).run P w = .ok sz w)

section
variable {P : Program} {ops : Array Oper} {ks : List Kind} {T : List Nat} {a0 : Act} {B : Nat} {w0 : World} {H : List (Nat × List Value)} {i : Nat} {o : Oper}
end
end Go.Proofs.Ytccidmogamnihaa.Pl

/- Fields, single cells, slices, new rows, in a plan. No program is named here. -/
namespace Go.Proofs.Ytccidmogamnihaa.Pl
open Go Go.RowKit
set_option linter.unusedVariables false
set_option linter.unusedSimpArgs false
section
variable {P : Program} {ops : Array Oper} {ks : List Kind} {T : List Nat} {a0 : Act} {B : Nat} {w0 W0 : World} {H : List (Nat × List Value)} {i : Nat} {o : Oper}

theorem size_of {e : TypeId} {sz : Nat} (hs : (P.info? e).map (·.size) = some sz) (w : World) : (sizeOf e).run P w = .ok sz w := by
  cases h : P.info? e with
  | none => simp [h] at hs
  | some inf =>
    have : inf.size = sz := by simpa [h] using hs
    simp [sizeOf, typeInfo, Sem.run_bind, h, this]

structure FldT (P : Program) (t : TypeId) (k off n : Nat) : Prop where
  und : ∃ fs f, P.underlying t = some (.struct fs) ∧ fs[k]? = some f ∧ f.offset = off ∧ (P.info? f.type).map (·.size) = some (n + 1)
def fld? (p : Value) (off : Nat) : Option Value := match p with | .pointer (some ⟨b, o, none⟩) => some (.pointer (some ⟨b, o + off, none⟩)) | _ => none
theorem fld_some {p v : Value} {off : Nat} (h : fld? p off = some v) : ∃ b o, p = .pointer (some ⟨b, o, none⟩) ∧ v = .pointer (some ⟨b, o + off, none⟩) := by
  unfold fld? at h
  split at h
  · rename_i b o
    exact ⟨b, o, rfl, (Option.some.inj h).symm⟩
  · cases h
theorem oF {v : Value} {t : TypeId} {x : Operand} {k off n : Nat} (hF : FldT P t k off n) (hw : ∀ L, wantedR ks L o = true := by intro _; kernel_rfl) (ho : o.op = .fieldAddr t x k := by exact rfl)
    (hx : ∀ L, fld? (rd ops ks T a0 L i x) off = some v := by intro _; kernel_rfl) (hk : kd ks i = .det v) : Obl P ops ks T a0 B w0 H i o := ⟨ob_pure hw hk fun L w => by
    obtain ⟨b, o', h1, rfl⟩ := fld_some (hx L)
    obtain ⟨fs, f, hu, hf, rfl, hs⟩ := hF.und
    unfold execOp
    simp [ho, h1, Instr.fieldAt, Sem.run_bind, run_underlying hu, hf, Instr.sureAddr, fieldPlace, size_of hs, Addr.add_mid]⟩

structure OneT (P : Program) (t : TypeId) : Prop where
  agg : ∀ w, (isAgg t).run P w = .ok false w
  size : (P.info? t).map (·.size) = some 1
theorem run_load1 {t : TypeId} (hO : OneT P t) {w : World} {b off : Nat} {v : Value} (hc : w.cell? ⟨b, off, none⟩ = some v) : (Instr.loadAt t (.pointer (some ⟨b, off, none⟩))).run P w = .ok v w := by
  simp [Instr.loadAt, Instr.sureAddr, loadVar, Sem.run_bind, hO.agg w, hc]
theorem oL1 {t : TypeId} {x : Operand} {v : Value} {box : List Value} {b : Nat} (k off : Nat) (hO : OneT P t) (he : early T ks i = true := by kernel_rfl) (hw : ∀ L, wantedR ks L o = true := by intro _; kernel_rfl) (ho : o.op = .load t x := by exact rfl)
    (hb : H[k]? = some (b, box) := by exact rfl) (hx : ∀ L, rd ops ks T a0 L i x = .pointer (some ⟨b, off, none⟩) := by intro _; kernel_rfl) (hv : box[off]? = some v := by kernel_rfl) (hk : kd ks i = .det v) : Obl P ops ks T a0 B w0 H i o := ⟨ob_det hw hk fun L w hs => by
    have hc := (seen_at (hs he) hb).cells off v hv
    rw [Nat.zero_add] at hc
    have : (execOp (rd ops ks T a0 L i) o).run P w = .ok (.value v) w := by
      unfold execOp
      simp only [ho, hx L, Sem.run_bind, run_load1 hO hc]
      rfl
    rw [this]
    exact ⟨rfl, Below.refl _ _⟩⟩
theorem run_storeVar1 (w : World) (b o : Nat) (ty : TypeId) (v : Value) (hv : v.cells = #[v]) (ht : w.there b o 1) (hi : (P.info? ty).map (·.size) = some 1) (h1 : v.oneCell' = true) :
    (storeVar ty ⟨b, o, none⟩ v).run P w = .ok () (w.setCells b o [v]) := by
  have := run_storeCells_cells (P := P) b o [v] 0 w (fun j hj => by simpa using (ht j (by simpa using hj)).1) (fun j hj => by simpa using (ht j (by simpa using hj)).2)
    (fun u hu => by simp at hu; subst hu; exact h1)
  cases hq : P.info? ty with
  | none => simp [hq] at hi
  | some i =>
    have hs : i.size = 1 := by simpa [hq] using hi
    simp only [Nat.add_zero] at this
    simp [storeVar, sizeOf, typeInfo, hq, hv, hs, this]
theorem oT1 {t : TypeId} {x y : Operand} {l : Loc} {off : Nat} {v : Value} {new : List Value} (hO : OneT P t) (hvc : v.cells = #[v] := by exact rfl) (hw : ∀ L, wantedR ks L o = true := by intro _; kernel_rfl) (ho : o.op = .store t x y := by exact rfl)
    (hx : ∀ L, rd ops ks T a0 L i x = .pointer (some ⟨addr H L l, off, none⟩) := by intro _; kernel_rfl) (hy : ∀ L, rd ops ks T a0 L i y = v := by intro _; kernel_rfl) (h1 : v.oneCell' = true := by kernel_rfl)
    (hle : Nat.ble (off + 1) (oldOf ks H l).length = true := by kernel_rfl) (hsp : new = splice (oldOf ks H l) off [v] := by kernel_rfl) (hk : kd ks i = .store l off [v] new) : Obl P ops ks T a0 B w0 H i o := ⟨fun L w hs => by
  rw [if_pos (hw L), hk]
  refine ⟨Nat.le_of_ble_eq_true hle, hsp, fun ht => ?_⟩
  have hrun := run_storeVar1 (P := P) w (addr H L l) off t v hvc ht hO.size h1
  unfold execOp
  simp [ho, hx L, hy L, Sem.run_bind, Instr.storeAt, Instr.sureAddr, hrun]⟩

theorem range_up {w x : World} {b off : Nat} {c : Value} {cs : List Value} (h : w.rangeAt b off (c :: cs)) (k : Below w.heap.size w x) : x.rangeAt b off (c :: cs) := by
  have hlt : b < w.heap.size := by
    have h0 := h 0 c rfl
    unfold World.cell? at h0
    cases hb : w.heap[b]? with
    | none => simp [hb] at h0
    | some o => exact (Array.getElem?_eq_some_iff.1 hb).1
  intro j v hv
  have := h j v hv
  rwa [World.cell?_of_block (w := w) (a := ⟨b, off + j, none⟩) (k.block b hlt)]

theorem oLW {t : TypeId} {x : Operand} {cs Z : List Value} {n : Nat} (hR : RowT P t n Z) (hr : ∀ L w, Seen ks T B w0 H L i w → ∃ b off, rd ops ks T a0 L i x = .pointer (some ⟨b, off, none⟩) ∧ w.rangeAt b off cs) (he : early T ks i = true := by kernel_rfl) (hw : ∀ L, wantedR ks L o = true := by intro _; kernel_rfl) (ho : o.op = .load t x := by exact rfl)
    (hl : cs.length = n := by kernel_rfl) (hk : kd ks i = .det (.agg cs.toArray)) : Obl P ops ks T a0 B w0 H i o := ⟨ob_det hw hk fun L w hs => by
    obtain ⟨d, hu, hd⟩ := hR.und
    obtain ⟨b, off, hx, hc⟩ := hr L w (hs he)
    have : (execOp (rd ops ks T a0 L i) o).run P w = .ok (.value (.agg cs.toArray)) w := by
      unfold execOp
      simp only [ho, hx, Sem.run_bind, run_loadAt_mid w b off t cs d hc hu hd (by rw [hl]; exact hR.size)]
      rfl
    rw [this]
    exact ⟨rfl, Below.refl _ _⟩⟩

theorem oIS {t e : TypeId} {x ix : Operand} {b off n c sz : Nat} (k : Nat) (hu : P.underlying t = some (.slice e)) (hs : (P.info? e).map (·.size) = some sz) (hkn : k < n) (hw : ∀ L, wantedR ks L o = true := by intro _; kernel_rfl) (ho : o.op = .indexAddr t x ix := by exact rfl)
    (hx : ∀ L, rd ops ks T a0 L i x = .slice (some ⟨b, off, none⟩) n c := by intro _; kernel_rfl) (hi : ∀ L, rd ops ks T a0 L i ix = .int .i64 (k : Int) := by intro _; kernel_rfl) (hk : kd ks i = .det (.pointer (some ⟨b, off + k * sz, none⟩))) : Obl P ops ks T a0 B w0 H i o := ⟨ob_pure hw hk fun L w => by
    have hkn' : (0 : Int) ≤ (k : Int) ∧ (k : Int) < (n : Int) := ⟨by omega, by omega⟩
    unfold execOp
    simp [ho, hx L, hi L, Instr.indexAt, asIntOf, Sem.run_bind, run_underlying hu, hkn', hkn, size_of hs, Addr.add_mid]⟩
theorem oSA {t e : TypeId} {x : Operand} {b n sz : Nat} (hu : P.underlying t = some (.array n e)) (hs : (P.info? e).map (·.size) = some sz) (hn : n ≠ 0) (hw : ∀ L, wantedR ks L o = true := by intro _; kernel_rfl) (ho : o.op = .slice t x none none none := by exact rfl)
    (hx : ∀ L, rd ops ks T a0 L i x = .pointer (some ⟨b, 0, none⟩) := by intro _; kernel_rfl) (hk : kd ks i = .det (.slice (some ⟨b, 0, none⟩) n n)) : Obl P ops ks T a0 B w0 H i o := ⟨ob_pure hw hk fun L w => by
    unfold execOp
    simp [ho, hx L, Instr.sliceAt, Instr.sliceBounds, Sem.run_bind, run_underlying hu, Instr.sureAddr, size_of hs, hn, Addr.add_mid]⟩
theorem oCv {src dst : TypeId} {x : Operand} {u v : Value} (h : ∀ w, (convert src dst u).run P w = .ok v w) (hw : ∀ L, wantedR ks L o = true := by intro _; kernel_rfl) (ho : o.op = .convert src dst x := by exact rfl)
    (hx : ∀ L, rd ops ks T a0 L i x = u := by intro _; kernel_rfl) (hk : kd ks i = .det v) : Obl P ops ks T a0 B w0 H i o := ⟨ob_pure hw hk fun L w => by
    unfold execOp
    simp [ho, hx L, Sem.run_bind, h w]⟩
theorem Heap.sub {H' : List (Nat × List Value)} (h : Heap B w0 W0 H) (hs : List.Sublist H' H) : Heap B w0 W0 H' :=
  ⟨h.bel, fun p hp => h.box p (hs.subset hp), h.nd.sublist (hs.map _), h.le⟩
end
end Go.Proofs.Ytccidmogamnihaa.Pl

/- A region whose last operations come behind all the others, one behind the other. No program is named here. -/
namespace Go.Proofs.Ytccidmogamnihaa.Pl
open Go Go.RowKit
set_option linter.unusedVariables false
set_option linter.unusedSimpArgs false

section
variable {P : Program} {ops : Array Oper} {ks : List Kind} {T : List Nat} {a0 : Act} {B : Nat} {w0 W0 : World} {H : List (Nat × List Value)} {Q : Exit → Act → World → Prop}

theorem step2 {nt nh : Nat} (hc : chk ops ks T nt nh = true) (hnt : nt = a0.tmps.size) (hnh : nh = H.length)
    (hB : B ≤ W0.heap.size) (hH : ∀ p ∈ H, B ≤ p.1 ∧ p.1 < W0.heap.size) (hnd : (H.map (·.1)).Nodup)
    {L : Lt} {listed : Array Bool} {a : Act} {w : World} {i : Nat} (I : Inv ops ks T a0 B w0 W0 H L listed a w) (hr : i ∈ Region.ready .any ops listed) (hobi : ∀ o, ops[i]? = some o → Ob P ops ks T a0 B w0 H i o) :
    wpOp P ops Q i (fun a' w' => ∃ L', Inv ops ks T a0 B w0 W0 H L' (listed.setIfInBounds i true) a' w') a w := by
  obtain ⟨hut, o, ho, hall⟩ := mem_ready.1 hr
  have hio : i < ops.size := (Array.getElem?_eq_some_iff.1 ho).1
  have hi : i < listed.size := by rw [I.sz]; exact hio
  have hun : listed.getD i false = false := by simp [hi] at hut ⊢; exact hut
  have S := stat hc ho
  have hall' : ∀ j ∈ aft ops i, listed.getD j false = true := fun j hj => by
    unfold aft at hj
    rw [ho] at hj
    simp only [Option.map_some, Option.getD_some, List.mem_map, List.mem_filter] at hj
    obtain ⟨e, ⟨he, hb⟩, rfl⟩ := hj
    exact hall e (by simpa using he) hb
  have hbef := listed_of_bef I S hall'
  have hex : execOp a.eval o = execOp (rd ops ks T a0 L i) o := execOp_congr o S.sel (eval_rd I S hun hbef)
  have hw := wanted_rd hc hnt I S hbef
  have hsn : Hyp ks T B w0 H L i w := ⟨seen (nt := nt) (nh := nh) I hun hB hbef, still (nt := nt) (nh := nh) I hun hB hbef⟩
  have ob := hobi o ho
  have ob := ob L w hsn
  have sz' : (listed.setIfInBounds i true).size = ops.size := by simp [I.sz]
  have cl' := cl_next (nt := nt) (nh := nh) I hi hbef
  have hnb : ∀ j, j ≠ i → listed.getD j false = true → bef T j i = false := fun j _ hl => by
    cases h : bef T j i with
    | false => rfl
    | true => have := I.cl j hl i h; rw [hun] at this; cases this
  have hst : ∀ j, listed.getD j false = true → ∃ oj, ops[j]? = some oj := fun j hl => by
    have : j < ops.size := by
      rw [← I.sz]
      by_cases h : j < listed.size
      · exact h
      · simp [Array.getElem?_eq_none (Nat.le_of_not_lt h)] at hl
    exact ⟨ops[j], Array.getElem?_eq_getElem this⟩
  unfold wpOp
  simp only [ho, hw]
  by_cases hwt : wantedR ks L o = true
  · rw [if_pos hwt] at ob ⊢
    refine .inl ?_
    unfold Oper.wp
    rw [hex]
    cases hk : kd ks i with
    | det v =>
      rw [hk] at ob
      refine Runs.upon ob fun u w' ⟨hu, hb⟩ => ⟨L, sz', cl', ?_, ?_⟩
      · exact I.F.next S hnt ho hi (fun d _ => hu) (fun j _ _ => rfl)
      · exact I.M.quiet hi hB hb (by simp [isStore, hk]) (by simp [isAlloc, hk]) (fun C => by rw [hk]; simp)
    | detB k v =>
      rw [hk] at ob
      refine Runs.upon ob fun u w' ⟨hu, hb⟩ => ⟨L, sz', cl', ?_, ?_⟩
      · exact I.F.next S hnt ho hi (fun d _ => hu) (fun j _ _ => rfl)
      · exact I.M.quiet hi hB hb (by simp [isStore, hk]) (by simp [isAlloc, hk]) (fun C => by rw [hk]; simp)
    | detV k v =>
      rw [hk] at ob
      refine Runs.upon ob fun u w' ⟨hu, hb⟩ => ⟨L, sz', cl', ?_, ?_⟩
      · exact I.F.next S hnt ho hi (fun d _ => hu) (fun j _ _ => rfl)
      · exact I.M.quiet hi hB hb (by simp [isStore, hk]) (by simp [isAlloc, hk]) (fun C => by rw [hk]; simp)
    | any C =>
      rw [hk] at ob
      refine Runs.upon ob.2 fun u w' ⟨hu, hb⟩ => ⟨L.setV i u, sz', cl', ?_, ?_⟩
      · refine I.F.next S hnt ho hi (fun d _ => ?_) (fun j hj hl => ?_)
        · unfold val; rw [hk]; simp [Lt.setV]
        · obtain ⟨oj, hoj⟩ := hst j hl
          exact val_setV (stat hc hoj) hj (hnb j hj hl)
      · exact I.M.letter hi hun hB hb hk hu ob.1
    | alloc cs =>
      rw [hk] at ob
      obtain ⟨ty, hrun⟩ := ob
      rw [hrun]
      refine ⟨L.setB i w.heap.size, sz', cl', ?_, ?_⟩
      · refine I.F.next S hnt ho hi (fun d _ => ?_) (fun j hj hl => ?_)
        · unfold val; rw [hk]; simp [Lt.setB]
        · obtain ⟨oj, hoj⟩ := hst j hl
          exact val_setB (stat hc hoj) hj (hnb j hj hl)
      · refine I.M.made hi hun hB hk fun s hs => ?_
        obtain ⟨off, ds, new, hks⟩ : ∃ off cs new, kd ks s = .store (.new i) off cs new := by
          rcases st_spec hs with h | ⟨k', v', n', e', _⟩
          · exact h
          · cases e'
        cases hl : listed.getD s false with
        | false => rfl
        | true =>
          obtain ⟨os, hos⟩ := hst s hl
          have := (stat hc hos).sto _ _ _ _ hks
          have := I.cl s hl i (this.2.2.2.1 i rfl).1
          rw [hun] at this; cases this
    | turn k v new =>
      rw [hk] at ob
      obtain ⟨hst, hkn⟩ := S.tur _ _ _ hk
      have hkl : k < H.length := by rw [← hnh]; exact hkn
      have hp0 : H[k]? = some (H.getD k (0, [])) := by simp [List.getD, List.getElem?_eq_getElem hkl]
      have hbx : Box w (addr H L (.base k)) (oldOf ks H (.base k)) := by
        refine hsn.still.base k _ _ hp0 ?_
        unfold boxAt
        simp only [hst]
        have h1 : bef T i i = false := by
          cases e : bef T i i with
          | false => rfl
          | true => have := hbef i e; rw [hun] at this; cases this
        have h2 : Nat.beq i i = true := Nat.beq_refl i
        rw [h1, h2]; rfl
      refine Runs.upon (ob hbx) fun u w' ⟨hu, hc, hx⟩ => ⟨L, sz', cl', ?_, ?_⟩
      · refine I.F.next S hnt ho hi (fun d _ => ?_) (fun j _ _ => rfl)
        unfold val; rw [hk]; exact hu
      · exact I.M.turned hi hk hst hkl hB hH hnd hc hx
    | store l off cs new =>
      rw [hk] at ob
      obtain ⟨hlen, hsp, hrun⟩ := ob
      obtain ⟨hgd, hdn, hsl, hnw, hbs⟩ := S.sto _ _ _ _ hk
      have hnew : ∀ j, l = .new j → listed.getD j false = true ∧ isAlloc ks j = true := fun j e => ⟨hbef j (hnw j e).1, (hnw j e).2⟩
      have hM := I.M.stored hi hun hk hsl hnew (fun k e => by rw [← hnh]; exact hbs k e) hB hH hnd hlen hsp
      have hth : w.there (addr H L l) off cs.length := by
        have hcur : ∀ x, cur ks listed l x = x := fun x => by unfold cur; simp [hsl, hun]
        have hbox : Box w (addr H L l) (oldOf ks H l) := by
          cases l with
          | base k =>
            have hk' : k < H.length := by rw [← hnh]; exact hbs k rfl
            have hp : H[k]? = some (H.getD k (0, [])) := by simp [List.getD, List.getElem?_eq_getElem hk']
            have := I.M.hb k _ hp
            rw [hcur] at this
            exact this
          | new j =>
            obtain ⟨hl, hal⟩ := hnew j rfl
            unfold isAlloc at hal
            split at hal
            · rename_i ds hd
              have := I.M.hn j ds hd hl
              rw [hcur] at this
              simp only [oldOf, hd, addr]
              exact this.2
            · cases hal
        intro j hj
        have := hbox.free (off + j) (by omega)
        simpa using this
      rw [hrun hth]
      refine ⟨L, sz', cl', ?_, hM⟩
      exact I.F.next S hnt ho hi (fun d hd => by rw [hdn] at hd; cases hd) (fun j _ _ => rfl)
  · have hwf : wantedR ks L o = false := by simpa using hwt
    rw [if_neg hwt] at ob
    simp only [hwf, Bool.false_eq_true, if_false]
    refine ⟨L, sz', cl', ?_, ?_⟩
    · refine I.F.next S hnt ho hi (fun d _ => ?_) (fun j _ _ => rfl)
      unfold val; rw [ob]
    · exact I.M.quiet hi hB (Below.refl _ _) (by simp [isStore, ob]) (by simp [isAlloc, ob]) (fun C => by rw [ob]; simp)

theorem aft_mem {i : Nat} {o : Oper} (ho : ops[i]? = some o) {e : Edge} (he : e ∈ o.after) (hb : Region.binds .any e = true) : e.on ∈ aft ops i := by
  unfold aft
  rw [ho]
  simp only [Option.map_some, Option.getD_some, List.mem_map, List.mem_filter]
  exact ⟨e, ⟨by simpa using he, hb⟩, rfl⟩
theorem ready_aft {listed : Array Bool} {i j : Nat} (hr : i ∈ Region.ready .any ops listed) (hj : j ∈ aft ops i) : listed.getD j false = true := by
  obtain ⟨_, o, ho, hall⟩ := mem_ready.1 hr
  unfold aft at hj
  rw [ho] at hj
  simp only [Option.map_some, Option.getD_some, List.mem_map, List.mem_filter] at hj
  obtain ⟨e, ⟨he, hb⟩, rfl⟩ := hj
  exact hall e (by simpa using he) hb
theorem ready_un {listed : Array Bool} {i : Nat} (hs : listed.size = ops.size) (hr : i ∈ Region.ready .any ops listed) : i < ops.size ∧ listed.getD i false = false := by
  obtain ⟨h0, o, ho, _⟩ := mem_ready.1 hr
  have hlt := (Array.getElem?_eq_some_iff.1 ho).1
  exact ⟨hlt, by simp [hs, hlt] at h0 ⊢; exact h0⟩
theorem ready_of {listed : Array Bool} {i : Nat} (hs : listed.size = ops.size) (hlt : i < ops.size) (hu : listed.getD i false = false) (hall : ∀ j ∈ aft ops i, listed.getD j false = true) : i ∈ Region.ready .any ops listed :=
  mem_ready.2 ⟨by simp [hs, hlt] at hu ⊢; exact hu, ops[i], Array.getElem?_eq_getElem hlt, fun e he hb => hall e.on (aft_mem (Array.getElem?_eq_getElem hlt) he hb)⟩
theorem seq_tail {nt nh k : Nat} (hc : chk ops ks T nt nh = true) (hdir : ∀ i, k < i → i < ops.size → (i - 1) ∈ aft ops i) :
    ∀ (m j fuel : Nat) (listed : Array Bool) (a : Act) (w : World), j + m = ops.size → k ≤ j → m ≤ fuel → listed.size = ops.size → (∀ i, listed.getD i false = decide (i < j)) → wpOps P ops Q (List.range' j m) a w → wpAny P .any ops Q fuel listed a w
  | 0, j, fuel, listed, a, w, hj, hk, hf, hs, hl, h => by
    have hr : Region.ready .any ops listed = [] := by
      cases h : Region.ready .any ops listed with
      | nil => rfl
      | cons x xs =>
        have hx : x ∈ Region.ready .any ops listed := by rw [h]; simp
        obtain ⟨h1, h2⟩ := ready_un hs hx
        rw [hl] at h2
        simp at h2
        omega
    cases fuel with
    | zero => exact ⟨hr, h⟩
    | succ f => exact ⟨fun _ => h, fun i hi => by rw [hr] at hi; cases hi⟩
  | m + 1, j, 0, listed, a, w, hj, hk, hf, hs, hl, h => by omega
  | m + 1, j, f + 1, listed, a, w, hj, hk, hf, hs, hl, h => by
    have hlt : j < ops.size := by omega
    have hjr : j ∈ Region.ready .any ops listed := ready_of hs hlt (by rw [hl]; simp) fun x hx => by
      have := (stat hc (Array.getElem?_eq_getElem hlt)).back x hx
      rw [hl]; simpa using this
    refine ⟨fun he => (by rw [he] at hjr; cases hjr), fun i hi => ?_⟩
    obtain ⟨h1, h2⟩ := ready_un hs hi
    have hij : i = j := by
      rw [hl] at h2
      have h3 : j ≤ i := by simpa using h2
      rcases Nat.lt_or_ge j i with c | c
      · have := ready_aft hi (hdir i (by omega) h1)
        rw [hl] at this
        have : i - 1 < j := by simpa using this
        omega
      · omega
    subst hij
    rw [List.range'_succ, wpOps_cons] at h
    refine wpOp_mono (fun a' w' h' => seq_tail hc hdir m (i + 1) f _ a' w' (by omega) (by omega) (by omega) (by simp [hs]) (fun x => ?_) h') h
    rw [ls_get (by rw [hs]; exact hlt)]
    split
    · rename_i e; subst e; simp
    · rw [hl]; by_cases hx : x < i <;> simp [hx] <;> omega
def slotK (ops : Array Oper) (ks : List Kind) (a0 : Act) (L : Lt) (k t : Nat) : Value :=
  match own ops t with
  | none => a0.tmps.getD t undef
  | some j => if Nat.blt j k then val ks L j else a0.tmps.getD t undef
theorem drawnT {id nt nh k : Nat} (hm : P.follows .mixedOrders = true) (hc : chk ops ks T nt nh = true) (hnt : nt = a0.tmps.size) (hnh : nh = H.length) (hHp : Heap B w0 W0 H) (hk : k < ops.size)
    (hno : (List.range ks.length).all (fun s => !isStore ks s) = true) (hob : ∀ i o, i < k → ops[i]? = some o → Ob P ops ks T a0 B w0 H i o) (hkall : ∀ j, j < k → bef T k j = true) (hdir : ∀ i, k < i → i < ops.size → (i - 1) ∈ aft ops i)
    (hQ : ∀ L w, Heap B w0 w H → (∀ j C, j < k → kd ks j = .any C → C (L.v j) w) → wpOps P ops Q (List.range' k (ops.size - k)) { tmps := ((List.range a0.tmps.size).map (slotK ops ks a0 L k)).toArray, defers := a0.defers } w) :
    (Code.region id ops true).wp P Q a0 W0 := by
  refine wp_region_any hm ?_
  have hst : ∀ s, isStore ks s = true → False := fun s hs => by
    have := List.all_eq_true.1 hno s (by simpa using isStore_lt hs)
    rw [hs] at this; cases this
  have main : ∀ (fuel : Nat) (listed : Array Bool) (a : Act) (w : World) (L : Lt), Inv ops ks T a0 B w0 W0 H L listed a w → (∀ j, k ≤ j → listed.getD j false = false) → ((List.range ops.size).filter fun i => !listed.getD i false).length ≤ fuel → wpAny P .any ops Q fuel listed a w := by
    intro fuel
    induction fuel with
    | zero =>
      intro listed a w L I hun hf
      have hz := List.length_eq_zero_iff.1 (Nat.le_zero.1 hf)
      have : k ∈ (List.range ops.size).filter fun i => !listed.getD i false := List.mem_filter.2 ⟨by simpa using hk, by simpa using hun k (Nat.le_refl _)⟩
      rw [hz] at this; cases this
    | succ fuel ih =>
      intro listed a w L I hun hf
      -- one of the first k that is left, or k itself, is ready
      have hex : ∃ i, i ∈ Region.ready .any ops listed := by
        have : ∀ n, (∀ i, i < n → i < ops.size → listed.getD i false = true) ∨ ∃ i, i ∈ Region.ready .any ops listed := by
          intro n
          induction n with
          | zero => exact .inl fun i hi => absurd hi (Nat.not_lt_zero _)
          | succ n ihn =>
            rcases ihn with h | h
            · rcases Nat.lt_or_ge n ops.size with c | c
              · cases hl : listed.getD n false with
                | true =>
                  refine .inl (fun i hi hlt => ?_)
                  rcases Nat.lt_or_ge i n with c' | c'
                  · exact h i c' hlt
                  · obtain rfl : i = n := by omega
                    exact hl
                | false => exact .inr ⟨n, ready_of I.sz c hl fun x hx => h x ((stat hc (Array.getElem?_eq_getElem c)).back x hx) (Nat.lt_trans ((stat hc (Array.getElem?_eq_getElem c)).back x hx) c)⟩
              · exact .inl fun i hi hlt => h i (by omega) hlt
            · exact .inr h
        rcases this ops.size with h | h
        · have := h k hk hk
          rw [hun k (Nat.le_refl _)] at this; cases this
        · exact h
      refine ⟨fun he => (by obtain ⟨i, hi⟩ := hex; rw [he] at hi; cases hi), fun i hi => ?_⟩
      obtain ⟨hlt, hu⟩ := ready_un I.sz hi
      have hil : i < listed.size := by rw [I.sz]; exact hlt
      rcases Nat.lt_or_ge i k with c | c
      · refine wpOp_mono (fun a' w' ⟨L', I'⟩ => ih _ a' w' L' I' (fun j hj => ?_) ?_) (step2 hc hnt hnh hHp.le (Heap.bounds hHp) hHp.nd I hi (fun o ho => hob i o c ho))
        · rw [ls_get hil, if_neg (by omega)]; exact hun j hj
        · have e : ((List.range ops.size).filter fun j => !(listed.setIfInBounds i true).getD j false) = ((List.range ops.size).filter fun j => !listed.getD j false).filter (fun j => j != i) := by
            rw [List.filter_filter]
            congr 1
            funext j
            rw [ls_get hil]
            by_cases h : j = i <;> simp [h]
          rw [e]
          have hm : i ∈ (List.range ops.size).filter fun j => !listed.getD j false := List.mem_filter.2 ⟨by simpa using hlt, by simpa using hu⟩
          have : (((List.range ops.size).filter fun j => !listed.getD j false).filter (fun j => j != i)).length < ((List.range ops.size).filter fun j => !listed.getD j false).length := by
            refine List.length_filter_lt_length_iff_exists.2 ⟨i, hm, by simp⟩
          omega
      · have hik : i = k := by
          rcases Nat.lt_or_ge k i with c' | c'
          · have := ready_aft hi (hdir i c' hlt)
            rw [hun (i - 1) (by omega)] at this; cases this
          · omega
        subst hik
        obtain ⟨_, o, ho, _⟩ := mem_ready.1 hi
        have hall := listed_of_bef I (stat hc ho) (fun j hj => ready_aft hi hj)
        have hl : ∀ j, listed.getD j false = decide (j < i) := fun j => by
          by_cases h : j < i
          · rw [hall j (hkall j h)]; simp [h]
          · rw [hun j (by omega)]; simp [h]
        have hbox : Heap B w0 w H := ⟨I.M.bl, fun p hp => by
            obtain ⟨x, hx⟩ := List.getElem?_of_mem hp
            have := I.M.hb x p hx
            rw [cur_none (fun s hs => (hst s hs).elim)] at this
            exact ⟨(hHp.box p hp).1, this⟩, hHp.nd, Nat.le_trans hHp.le I.M.le⟩
        have hq := hQ L w hbox (fun j C hj hkj => I.M.an (fun s hs => (hst s hs).elim) j C hkj (by rw [hl]; simpa using hj))
        have ha : a = { tmps := ((List.range a0.tmps.size).map (slotK ops ks a0 L i)).toArray, defers := a0.defers } := by
          obtain ⟨tm, df⟩ := a
          have h1 : df = a0.defers := I.F.df
          have h2 : tm.size = a0.tmps.size := I.F.ts
          subst h1
          congr 1
          apply Array.ext
          · simp [h2]
          · intro t h3 h4
            have h5 := I.F.fr t
            have e1 : tm.getD t undef = tm[t] := by simp [h3]
            have e2 : slot ops ks a0 L listed t = slotK ops ks a0 L i t := by
              unfold slot slotK
              cases hw : own ops t with
              | none => rfl
              | some j =>
                simp only [hl j]
                by_cases hji : j < i
                · have : Nat.blt j i = true := by simpa using hji
                  simp [hji, this]
                · have : Nat.blt j i = false := by
                    cases hb : Nat.blt j i with
                    | false => rfl
                    | true => exact absurd (by simpa using hb) hji
                  simp [hji, this]
            have h6 : tm[t] = slotK ops ks a0 L i t := by rw [← e1, ← e2]; exact h5
            rw [h6]
            simp
        rw [← ha] at hq
        exact (seq_tail hc hdir (ops.size - i) i (fuel + 1) listed a w (by omega) (Nat.le_refl _) (by
          have : (List.range' i (ops.size - i)).length ≤ ((List.range ops.size).filter fun j => !listed.getD j false).length := by
            refine List.Sublist.length_le ?_
            have e : List.range ops.size = List.range i ++ List.range' i (ops.size - i) := by
              have h := @List.range_add i (ops.size - i)
              rw [show i + (ops.size - i) = ops.size by omega] at h
              rw [h, List.range'_eq_map_range]
            rw [e, List.filter_append]
            have e2 : (List.range' i (ops.size - i)).filter (fun j => !listed.getD j false) = List.range' i (ops.size - i) := by
              refine List.filter_eq_self.2 fun x hx => ?_
              have hx' := (List.mem_range'_1.1 hx).1
              rw [hl x]
              simp; omega
            rw [e2]
            exact List.sublist_append_right _ _
          simp only [List.length_range'] at this
          omega) I.sz hl hq).2 i hi
  refine main _ _ _ _ ⟨fun _ => undef, fun _ => 0⟩ (Inv.start hHp (Below.refl _ _).drew rfl _) (fun j hj => ?_) ?_
  · by_cases h : j < ops.size
    · simp [h]
    · simp [Array.getElem?_eq_none, h]
  · exact Nat.le_trans (List.length_filter_le _ _) (by simp)
theorem dT {id nt : Nat} (k : Nat) (ks : List Kind) (N T : List Nat) (A : Lt → List Value) (hHp : Heap B w0 W0 H) (hob : AllOb2 P ops ks T a0 B w0 H N (ops.toList.take k) (ks.take k))
    (hQ : ∀ L w, Heap B w0 w H → (∀ j C, j < k → kd ks j = .any C → C (L.v j) w) → wpOps P ops Q (List.range' k (ops.size - k)) { tmps := (A L).toArray, defers := [] } w)
    (hm : P.follows .mixedOrders = true := by kernel_rfl) (hnt : nt = a0.tmps.size := by exact rfl) (hc : chk ops ks T nt H.length = true := by kernel_rfl) (hdf : a0.defers = [] := by exact rfl)
    (hA : ∀ L, (List.range nt).map (slotK ops ks a0 L k) = A L := by intro _; kernel_rfl) (hN : N = List.range' 0 (ops.toList.take k).length := by kernel_rfl) (hk : Nat.blt k ops.size = true := by kernel_rfl) (hno : (List.range ks.length).all (fun s => !isStore ks s) = true := by kernel_rfl)
    (hkall : (List.range k).all (fun j => bef T k j) = true := by kernel_rfl) (hdir : (List.range ops.size).all (fun i => Nat.ble i k || (aft ops i).contains (i - 1)) = true := by kernel_rfl) :
    (Code.region id ops true).wp P Q a0 W0 := by
  have hk' : k < ops.size := by simpa using hk
  have hks := chk_len hc
  refine drawnT hm hc hnt rfl hHp hk' hno (fun i o hi ho => ?_) (fun j hj => List.all_eq_true.1 hkall j (by simpa using hj)) (fun i hi hs => ?_) (fun L w h ha => ?_)
  · have h := AllOb2.to _ 0 N (ks.take k) hN (fun j hj => ?_) hob
    · have hl : (ops.toList.take k)[i]? = some o := by rw [List.getElem?_take_of_lt hi]; simpa using ho
      have := AllOb.at _ 0 i o h hl
      rwa [Nat.zero_add] at this
    · rw [Nat.zero_add]
      have hj' : j < k := by
        have := hj
        rw [List.length_take] at this
        omega
      unfold kd
      rw [List.getD_eq_getElem?_getD, List.getD_eq_getElem?_getD, List.getElem?_take_of_lt hj']
  · have := List.all_eq_true.1 hdir i (by simpa using hs)
    simp only [Bool.or_eq_true, List.contains_iff_mem] at this
    rcases this with h | h
    · exact absurd (Nat.le_of_ble_eq_true h) (by omega)
    · exact h
  · rw [← hnt, hA L, hdf]
    exact hQ L w h ha
theorem wpOp_of {i : Nat} {o : Oper} {a : Act} {w : World} {K : Act → World → Prop} (ho : ops[i]? = some o) (hg : o.guard = none) (h : o.wp P a w K Q) : wpOp P ops Q i K a w := by
  unfold wpOp
  rw [ho]
  simp only [Region.wanted, hg]
  exact .inl h
section
variable {i : Nat} {o : Oper}
end
end
end Go.Proofs.Ytccidmogamnihaa.Pl

/- Bytes in a plan: slices of bytes of one's own, as boxes. -/
namespace Go.Proofs.Ytccidmogamnihaa.fpn
open Go.RowKit Pl
set_option linter.unusedVariables false
set_option linter.unusedSimpArgs false
set_option maxRecDepth 4000

def BC (f : Nat → Int) (n : Nat) : List Value := (List.range n).map fun j => .int .u8 (f j)
theorem BC_len (f : Nat → Int) (n : Nat) : (BC f n).length = n := by simp [BC]
theorem BC_at {f : Nat → Int} {n j : Nat} (hj : j < n) : (BC f n)[j]? = some (.int .u8 (f j)) := by simp [BC, hj]
theorem BC_congr {f g : Nat → Int} {n : Nat} (h : ∀ j, j < n → f j = g j) : BC f n = BC g n := by
  unfold BC
  exact List.map_congr_left fun j hj => by rw [h j (by simpa using hj)]
def su (f : Nat → Int) (i : Nat) (x : Int) : Nat → Int := fun j => bif Nat.beq j i then x else f j
theorem su_at (f : Nat → Int) (i : Nat) (x : Int) : su f i x i = x := by unfold su; rw [show Nat.beq i i = true by simp]; rfl
theorem su_ne {f : Nat → Int} {i j : Nat} {x : Int} (h : j ≠ i) : su f i x j = f j := by unfold su; rw [show Nat.beq j i = false by cases hh : Nat.beq j i with | false => rfl | true => exact absurd (Nat.eq_of_beq_eq_true hh) h]; rfl
theorem box_at {w : World} {b n : Nat} {f : Nat → Int} (h : Box w b (BC f n)) : AtK .u8 w (some ⟨b, 0, none⟩) n f := fun _ => ⟨b, 0, rfl, fun j hj => h.cells j _ (BC_at hj)⟩

def isB (B : Nat) (bs : List Nat) (f : Nat → Int) (n : Nat) (v : Value) (w : World) : Prop := ∃ k c, v = .slice (some ⟨k, 0, none⟩) n c ∧ n ≤ c ∧ c ≤ 9223372036854775807 ∧ B ≤ k ∧ (∀ b ∈ bs, b < k) ∧ Box w k (BC f n)
theorem isB.stay {B : Nat} {bs : List Nat} {f : Nat → Int} {n : Nat} {v : Value} {w x : World} (h : isB B bs f n v w) (hb : Below w.heap.size w x) : isB B bs f n v x := by
  obtain ⟨k, c, e, h1, h2, h3, h4, h5⟩ := h
  exact ⟨k, c, e, h1, h2, h3, h4, h5.up hb⟩
def RetB (f : Nat → Int) (n : Nat) (w : World) : Ending → World → Prop := fun e w' => ∃ v, e = .returned v ∧ isB w.heap.size [] f n v w' ∧ Below w.heap.size w w'
theorem RetB.congr {f g : Nat → Int} {n : Nat} {w : World} {fn : FuncId} {vs : Array Value} (h : ∀ j, j < n → f j = g j) (hc : Calls Try.prog fn vs w (RetB f n w)) : Calls Try.prog fn vs w (RetB g n w) := by
  refine Calls.mono hc ?_
  rintro e w' ⟨v, he, ⟨k, c, hv, h1, h2, h3, h4, h5⟩, hb⟩
  exact ⟨v, he, ⟨k, c, hv, h1, h2, h3, h4, by rw [← BC_congr h]; exact h5⟩, hb⟩
def isT (G : Value → Value) (B : Nat) (bs : List Nat) (f : Nat → Int) (n : Nat) (v : Value) (w : World) : Prop := ∃ s, v = G s ∧ isB B bs f n s w
theorem isT.stay {G : Value → Value} {B : Nat} {bs : List Nat} {f : Nat → Int} {n : Nat} {v : Value} {w x : World} (h : isT G B bs f n v w) (hb : Below w.heap.size w x) : isT G B bs f n v x := by
  obtain ⟨s, e, h⟩ := h
  exact ⟨s, e, h.stay hb⟩
theorem Heap.add {B k : Nat} {w0 w : World} {H : List (Nat × List Value)} {cs : List Value} (h : Heap B w0 w H) (hB : B ≤ k) (hb : ∀ b ∈ H.map (·.1), b < k) (hx : Box w k cs) : Heap B w0 w (H ++ [(k, cs)]) := by
  refine ⟨h.bel, fun p hp => ?_, ?_, h.le⟩
  · rcases List.mem_append.1 hp with h1 | h1
    · exact h.box p h1
    · obtain rfl : p = (k, cs) := by simpa using h1
      exact ⟨hB, hx⟩
  · rw [List.map_append, List.nodup_append]
    refine ⟨h.nd, by simp, fun a ha b hb' => ?_⟩
    obtain rfl : b = k := by simpa using hb'
    exact Nat.ne_of_lt (hb a ha)
section
variable {ops : Array Oper} {ks : List Kind} {T : List Nat} {a0 : Act} {B : Nat} {w0 W0 : World} {H : List (Nat × List Value)} {i : Nat} {o : Oper}
theorem oneY : OneT Try.prog 5 := ⟨Try.isAgg5, by kernel_rfl⟩
theorem sizeY : (Try.prog.info? 5).map (·.size) = some 1 := by kernel_rfl
def isE (v : Value) (w : World) : Prop := ∃ a : Addr, v = .slice (some a) 0 0
theorem oE0 (hw : ∀ L, wantedR ks L o = true := by intro _; kernel_rfl) (ho : o.op = .buildSlice 29 0 #[] := by exact rfl) (hk : kd ks i = .any isE) : Obl Try.prog ops ks T a0 B w0 H i o := ⟨fun L w hsn => by
  rw [if_pos (hw L), hk]
  refine ⟨fun v w x h hb => h, ?_⟩
  obtain ⟨i0, hi0, hz0, hz1, hz2⟩ := info_parts info8
  have this : (execOp (rd ops ks T a0 L i) o).run Try.prog w = .ok (.value (.slice (some ⟨w.heap.size, 0, none⟩) 0 0)) (w.alloc (.cells #[] 5)) := by
    unfold execOp
    simp [ho, Instr.buildSlice, Sem.run_bind, run_underlying Try.underlying29, sizeOf, typeInfo, hi0, hz1, Instr.fill, newRow]
    rw [show Array.map (fun _ : Nat => (default : Value)) (Array.range 0) = #[] from Array.eq_empty_of_size_eq_zero (by simp)]
  rw [this]
  exact ⟨⟨_, rfl⟩, (Below.refl _ _).alloc (Nat.le_refl _) _⟩⟩
def cat (f : Nat → Int) (m : Nat) (g : Nat → Int) : Nat → Int := fun j => bif Nat.blt j m then f j else g (j - m)
theorem BC_cat (f : Nat → Int) (m : Nat) (g : Nat → Int) (n : Nat) : BC f m ++ BC g n = BC (cat f m g) (m + n) := by
  unfold BC
  rw [List.range_add, List.map_append, List.map_map]
  congr 1
  · exact List.map_congr_left fun j hj => by
      have : j < m := by simpa using hj
      show _ = Value.int .u8 (bif Nat.blt j m then f j else g (j - m))
      rw [show Nat.blt j m = true by simpa using this]; rfl
  · exact List.map_congr_left fun j hj => by
      show _ = Value.int .u8 (bif Nat.blt (m + j) m then f (m + j) else g (m + j - m))
      rw [show Nat.blt (m + j) m = false by cases hh : Nat.blt (m + j) m with | false => rfl | true => exact absurd (Nat.le_of_ble_eq_true hh) (by omega), Nat.add_sub_cancel_left]; rfl
theorem oLY {x : Operand} {b n j : Nat} {f : Nat → Int} (k : Nat) (hj : j < n) (he : Pl.early T ks i = true := by kernel_rfl) (hw : ∀ L, wantedR ks L o = true := by intro _; kernel_rfl) (ho : o.op = .load 5 x := by exact rfl)
    (hb : H[k]? = some (b, BC f n) := by exact rfl) (hx : ∀ L, rd ops ks T a0 L i x = .pointer (some ⟨b, 0 + j * 1, none⟩) := by intro _; kernel_rfl) (hk : kd ks i = .det (.int .u8 (f j))) : Obl Try.prog ops ks T a0 B w0 H i o := ⟨ob_det hw hk fun L w hs => by
    have hc := (seen_at (hs he) hb).cells j _ (BC_at hj)
    have : (execOp (rd ops ks T a0 L i) o).run Try.prog w = .ok (.value (.int .u8 (f j))) w := by
      unfold execOp
      simp only [ho, hx L, Sem.run_bind, Nat.mul_one, run_load1 oneY hc]
      rfl
    rw [this]
    exact ⟨rfl, Below.refl _ _⟩⟩
def isC (B : Nat) (bs : List Nat) (f : Nat → Int) (n : Nat) (v : Value) (w : World) : Prop := ∃ k, v = .slice (some ⟨k, 0, none⟩) n n ∧ Box w k (BC f n)
theorem isC.stay {B : Nat} {bs : List Nat} {f : Nat → Int} {n : Nat} {v : Value} {w x : World} (h : isC B bs f n v w) (hb : Below w.heap.size w x) : isC B bs f n v x := by
  obtain ⟨k, e, h5⟩ := h
  exact ⟨k, e, h5.up hb⟩
theorem splice_BC (f : Nat → Int) {n j : Nat} (v : Int) (hj : j < n) : BC (su f j v) n = Pl.splice (BC f n) (0 + j * 1) [.int .u8 v] := by
  rw [Nat.zero_add, Nat.mul_one]
  unfold Pl.splice
  rw [List.append_assoc]
  refine List.ext_getElem? fun i => ?_
  have l1 : (List.take j (BC f n)).length = j := by rw [List.length_take, BC_len]; omega
  rcases Nat.lt_or_ge i n with hi | hi
  · rw [BC_at hi]
    rcases Nat.lt_trichotomy i j with h | h | h
    · rw [List.getElem?_append_left (by rw [l1]; exact h), List.getElem?_take_of_lt h, BC_at hi, su_ne (by omega)]
    · subst h
      rw [List.getElem?_append_right (by rw [l1]; exact Nat.le_refl _), l1, Nat.sub_self, su_at]; rfl
    · rw [List.getElem?_append_right (by rw [l1]; omega), l1, List.getElem?_append_right (by show 1 ≤ i - j; omega), List.getElem?_drop, su_ne (by omega)]
      show _ = (BC f n)[j + 1 + (i - j - 1)]?
      rw [show j + 1 + (i - j - 1) = i by omega, BC_at hi]
  · rw [List.getElem?_eq_none (by rw [BC_len]; exact hi), List.getElem?_eq_none]
    rw [List.length_append, List.length_append, l1, List.length_drop, BC_len]
    show j + (1 + (n - (j + 1))) ≤ i
    omega
theorem oTY {x y : Operand} {l : Pl.Loc} {j n : Nat} {f : Nat → Int} {v : Int} (hj : j < n) (hl : oldOf ks H l = BC f n := by kernel_rfl) (hw : ∀ L, wantedR ks L o = true := by intro _; kernel_rfl) (ho : o.op = .store 5 x y := by exact rfl)
    (hx : ∀ L, rd ops ks T a0 L i x = .pointer (some ⟨addr H L l, 0 + j * 1, none⟩) := by intro _; kernel_rfl) (hy : ∀ L, rd ops ks T a0 L i y = .int .u8 v := by intro _; kernel_rfl) (hk : kd ks i = .store l (0 + j * 1) [.int .u8 v] (BC (su f j v) n)) : Obl Try.prog ops ks T a0 B w0 H i o :=
  oT1 oneY rfl hw ho hx hy rfl (by rw [hl, BC_len]; exact Nat.ble_eq_true_of_le (by omega)) (by rw [hl]; exact splice_BC f v hj) hk
theorem remN (t : TypeId) (n m r : Nat) (hm : 0 < m) (hn : n < 1000000) (hr : n % m = r) (w : World) : (binOp .rem t (.int .i64 (n : Int)) (.int .i64 (m : Int))).run Try.prog w = .ok (.int .i64 (r : Int)) w := by
  have e0 : (n : Int).tmod (m : Int) = (r : Int) := by rw [Int.tmod_eq_emod_of_nonneg (by omega), ← hr]; rfl
  have h1 : ¬ m = 0 := by omega
  have e : IntKind.i64.wrap (r : Int) = (r : Int) := by
    have : r ≤ n := by rw [← hr]; exact Nat.mod_le _ _
    unfold IntKind.wrap; simp [IntKind.bits, IntKind.signed]; omega
  simp [binOp, Sem.run_bind, Op.intDiv, e0, h1, e]
end

end Go.Proofs.Ytccidmogamnihaa.fpn

/- Whole numbers, pointers out of slices, in a plan. No program is named here. -/
namespace Go.Proofs.Ytccidmogamnihaa.Pl
open Go Go.RowKit
set_option linter.unusedVariables false
set_option linter.unusedSimpArgs false
set_option maxRecDepth 4000

section
variable {P : Program}
theorem shrN (t : TypeId) (x : Int) (r : Nat) (hr : r < 64) (w : World) : (binOp .shr t (.int .u64 x) (.int .i64 (r : Int))).run P w = .ok (.int .u64 (x / 2 ^ r)) w := by
  have e : min r IntKind.u64.bits = r := by simp [IntKind.bits]; omega
  have e2 : x.fdiv (2 ^ r) = x / 2 ^ r := Int.fdiv_eq_ediv_of_nonneg _ (Int.le_of_lt (Int.pow_pos (by decide)))
  simp [binOp, Op.shift, Sem.run_bind, e, e2]
theorem lssI (t : TypeId) (a b : Int) (w : World) : (binOp .lss t (.int .i64 a) (.int .i64 b)).run P w = .ok (.bool (decide (a < b))) w := by
  simp [binOp, Sem.run_bind, Op.intCmp]
theorem add1N (t : TypeId) (j : Nat) (h : j < 1000000) (w : World) : (binOp .add t (.int .i64 (j : Int)) (.int .i64 1)).run P w = .ok (.int .i64 ((j + 1 : Nat) : Int)) w := by
  have e : IntKind.i64.wrap ((j : Int) + 1) = ((j + 1 : Nat) : Int) := by unfold IntKind.wrap; simp [IntKind.bits, IntKind.signed]; omega
  simp only [binOp, Op.intArith, e]; simp [Sem.run_bind, e]
end

section
variable {P : Program} {ops : Array Oper} {ks : List Kind} {T : List Nat} {a0 : Act} {B : Nat} {w0 W0 : World} {H : List (Nat × List Value)} {i : Nat} {o : Oper}
end

section
variable {P : Program}
theorem remU (t : TypeId) (n m r : Nat) (hm : 0 < m) (hr : n % m = r) (w : World) : (binOp .rem t (.int .u64 (n : Int)) (.int .u64 (m : Int))).run P w = .ok (.int .u64 (r : Int)) w := by
  have e0 : (n : Int).tmod (m : Int) = (r : Int) := by rw [Int.tmod_eq_emod_of_nonneg (by omega), ← hr]; rfl
  have h0 : ¬ (m : Int) = 0 := by omega
  have h1 : ¬ m = 0 := by omega
  simp [binOp, Sem.run_bind, Op.intDiv, e0, h0, h1]
theorem lssU (t : TypeId) (a b : Int) (w : World) : (binOp .lss t (.int .u64 a) (.int .u64 b)).run P w = .ok (.bool (decide (a < b))) w := by
  simp [binOp, Sem.run_bind, Op.intCmp]
end

section
variable {P : Program} {ops : Array Oper} {ks : List Kind} {T : List Nat} {a0 : Act} {B : Nat} {w0 W0 : World} {H : List (Nat × List Value)} {i : Nat} {o : Oper}
end
end Go.Proofs.Ytccidmogamnihaa.Pl

/- A plain region in pieces; a scope whose label is met a few times. No program is named here. -/
namespace Go.Proofs.Ytccidmogamnihaa.Pl
open Go Go.RowKit
set_option linter.unusedVariables false
set_option linter.unusedSimpArgs false

def edge (j : Nat) : Edge := ⟨j, .data⟩
def renum (n : Nat) : List Oper → List Oper
  | [] => []
  | o :: r => { o with after := ((List.range n).map edge).toArray } :: renum (n + 1) r
theorem renum_len : ∀ (l : List Oper) (n : Nat), (renum n l).length = l.length
  | [], _ => rfl
  | _ :: r, n => congrArg (· + 1) (renum_len r (n + 1))
theorem renum_at : ∀ (l : List Oper) (n k : Nat) (o : Oper), l[k]? = some o → (renum n l)[k]? = some { o with after := ((List.range (n + k)).map edge).toArray }
  | [], _, _, _, h => by simp at h
  | p :: r, n, 0, o, h => by
    obtain rfl : p = o := by simpa using h
    rfl
  | p :: r, n, k + 1, o, h => by
    have := renum_at r (n + 1) k o (by simpa using h)
    rw [show n + 1 + k = n + (k + 1) by omega] at this
    exact this
section
variable {P : Program} {ks : List Kind} {T : List Nat} {a0 : Act} {B : Nat} {w0 W0 : World} {H : List (Nat × List Value)} {Q : Exit → Act → World → Prop}
theorem piece {opsX : Array Oper} {l1 l2 : List Oper} {nt nh : Nat} (hg : l1.all (fun o => o.guard.isNone) = true) (hc : chk (renum 0 l1).toArray ks T nt nh = true) (hnt : nt = a0.tmps.size) (hnh : nh = H.length) (hHp : Heap B w0 W0 H) (hob : AllOb P (renum 0 l1).toArray ks T a0 B w0 H 0 (renum 0 l1))
    (hQ : ∀ L w, Heap B w0 w (heapF ks H L) → ((List.range ks.length).all (fun s => !isStore ks s) = true → AnyF ks L w (List.range ks.length)) → wpList P opsX Q l2 { tmps := ((List.range a0.tmps.size).map (slotF (renum 0 l1).toArray ks a0 L)).toArray, defers := a0.defers } w) :
    wpList P opsX Q (l1 ++ l2) a0 W0 := by
  have hsz : (renum 0 l1).toArray.size = l1.length := by simp [renum_len]
  have main : ∀ (m k : Nat) (listed : Array Bool) (a : Act) (w : World) (L : Lt), k + m = l1.length → (∀ j, listed.getD j false = decide (j < k)) → Inv (renum 0 l1).toArray ks T a0 B w0 W0 H L listed a w → wpList P opsX Q (l1.drop k ++ l2) a w := by
    intro m
    induction m with
    | zero =>
      intro k listed a w L hk hl I
      obtain ⟨ha, hh, hy⟩ := done hc hHp.le (Heap.bounds hHp) hHp.nd I (fun i hi => by rw [hl]; rw [hsz] at hi; simp; omega)
      rw [List.drop_of_length_le (by omega), List.nil_append, ha]
      exact hQ L w hh hy
    | succ m ih =>
      intro k listed a w L hk hl I
      have hlt : k < l1.length := by omega
      have hlt' : k < (renum 0 l1).toArray.size := by rw [hsz]; exact hlt
      have hil : k < listed.size := by rw [I.sz]; exact hlt'
      have hr : k ∈ Region.ready .any (renum 0 l1).toArray listed := mem_ready.2 ⟨by have := hl k; simp [hil] at this ⊢; exact this, (renum 0 l1).toArray[k], Array.getElem?_eq_getElem hlt', fun e he hb => by
        have hb' := (stat hc (Array.getElem?_eq_getElem hlt')).back e.on (by
          unfold aft; rw [Array.getElem?_eq_getElem hlt']
          simp only [Option.map_some, Option.getD_some, List.mem_map, List.mem_filter]
          exact ⟨e, ⟨by simpa using he, hb⟩, rfl⟩)
        rw [hl]; simpa using hb'⟩
      have hs := step (Q := Q) hc hnt hnh hob hHp.le (Heap.bounds hHp) hHp.nd I hr
      have hs2 := wpOp_mono (fun a' w' ⟨L', I'⟩ => ih (k + 1) _ a' w' L' (by omega) (fun j => by
        rw [ls_get hil]
        split
        · rename_i e; subst e; simp
        · rw [hl]; by_cases h : j < k <;> simp [h] <;> omega) I') hs
      have hgk : l1[k].guard = none := by
        have := List.all_eq_true.1 hg l1[k] (List.getElem_mem hlt)
        simpa using this
      rw [List.drop_eq_getElem_cons hlt, List.cons_append]
      have hat := renum_at l1 0 k l1[k] (List.getElem?_eq_getElem hlt)
      have hat' : (renum 0 l1).toArray[k]? = some { l1[k] with after := ((List.range (0 + k)).map edge).toArray } := by simpa using hat
      unfold wpOp at hs2
      simp only [hat', Region.wanted, hgk, if_true] at hs2
      unfold wpList
      simp only [Region.wanted, hgk, if_true]
      exact hs2
  have h0 := main l1.length 0 (Array.replicate (renum 0 l1).toArray.size false) a0 W0 ⟨fun _ => undef, fun _ => 0⟩ (by omega) (fun j => by
    rw [decide_eq_false (by omega : ¬ j < 0)]
    simp only [Array.getD_eq_getD_getElem?, Array.getElem?_replicate]
    split <;> rfl) (Inv.start hHp (Below.refl _ _) rfl _)
  simpa using h0
theorem gsC {opsX : Array Oper} {l : List Oper} {nt : Nat} (k : Nat) (ks : List Kind) (N T : List Nat) (A : Lt → (Nat → Value) → List Value) (H' : Lt → List (Nat × List Value)) (hHp : Heap B w0 W0 H) (hob : AllOb2 P (renum 0 (l.take k)).toArray ks T a0 B w0 H N (renum 0 (l.take k)) ks)
    (hQ : ∀ L d w, Heap B w0 w (H' L) → ((List.range ks.length).all (fun s => !isStore ks s) = true → AnyF ks L w (List.range ks.length)) → wpList P opsX Q (l.drop k) { tmps := (A L d).toArray, defers := [] } w) (hnt : nt = a0.tmps.size := by exact rfl) (hg : (l.take k).all (fun o => o.guard.isNone) = true := by kernel_rfl) (hc : chk (renum 0 (l.take k)).toArray ks T nt H.length = true := by kernel_rfl) (hdf : a0.defers = [] := by exact rfl)
    (hA : ∀ L, (List.range nt).map (slotF (renum 0 (l.take k)).toArray ks a0 L) = A L (slotF (renum 0 (l.take k)).toArray ks a0 L) := by intro _; kernel_rfl) (hF : ∀ L, heapF ks H L = H' L := by intro _; kernel_rfl) (hN : N = List.range' 0 (renum 0 (l.take k)).length := by kernel_rfl) :
    wpList P opsX Q l a0 W0 := by
  have := piece (P := P) (opsX := opsX) (l1 := l.take k) (l2 := l.drop k) (Q := Q) hg hc hnt rfl hHp (AllOb2.to _ _ _ _ hN (fun j _ => by simp [kd]) hob) (fun L w h ha => by
    rw [← hnt, hA L, hdf]
    exact hQ L _ w (hF L ▸ h) ha)
  rwa [List.take_append_drop] at this
theorem oneL {opsX : Array Oper} {l r : List Oper} {o : Oper} {a : Act} {w : World} (hl : l = o :: r) (hg : o.guard = none) (h : o.wp P a w (wpList P opsX Q r) Q) : wpList P opsX Q l a w := by
  subst hl
  exact wpList_plain hg fun K hK => Oper.wp_mono hK h
theorem least {p : Nat → Prop} : ∀ n, p n → ∃ m, p m ∧ ∀ k, p k → m ≤ k := by
  intro n
  induction n using Nat.strongRecOn with
  | _ n ih =>
    intro hn
    by_cases h : ∃ k, k < n ∧ p k
    · obtain ⟨k, hk, hp⟩ := h
      exact ih k hk hp
    · exact ⟨n, hn, fun k hk => by
        rcases Nat.lt_or_ge k n with h1 | h1
        · exact absurd ⟨k, h1, hk⟩ h
        · exact h1⟩
theorem Heap.one {b : Nat} {cs : List Value} {x : World} (h : Below B w0 x) (hB : B ≤ b) (hle : B ≤ x.heap.size) (hx : Box x b cs) : Heap B w0 x [(b, cs)] :=
  ⟨h, fun p hp => (by obtain rfl : p = (b, cs) := by simpa using hp
                      exact ⟨hB, hx⟩), by simp, hle⟩
theorem Heap.turn {b1 b2 : Nat} {c1 c2 d2 : List Value} {w x : World} (h : Heap B w0 w [(b1, c1), (b2, c2)]) (hw : Wr b2 w x) (hx : Box x b2 d2) : Heap B w0 x [(b1, c1), (b2, d2)] := by
  have hne : b1 ≠ b2 := by have := h.nd; simp at this; exact this
  refine ⟨h.bel.trans (hw.below (h.bound 1 rfl).1), fun p hp => ?_, h.nd, by rw [hw.size]; exact h.le⟩
  rcases List.mem_cons.1 hp with rfl | hp
  · exact ⟨(h.bound 0 rfl).1, (h.bound 0 rfl).2.wr hw hne⟩
  · obtain rfl : p = (b2, d2) := by simpa using hp
    exact ⟨(h.bound 1 rfl).1, hx⟩
theorem Heap.under {B C : Nat} {w0 w x : World} {H : List (Nat × List Value)} (h : Heap B w0 w H) (hB : B ≤ C) (hb : Below C w x) (hH : ∀ b ∈ H.map (·.1), b < C) : Heap B w0 x H :=
  ⟨h.bel.trans (hb.mono hB), fun p hp => ⟨(h.box p hp).1, (h.box p hp).2.below hb (hH p.1 (List.mem_map.2 ⟨p, hp, rfl⟩))⟩, h.nd, Nat.le_trans h.le hb.size⟩
end
end Go.Proofs.Ytccidmogamnihaa.Pl

/- Rows of bytes of one's own; a region's last operations. -/
namespace Go.Proofs.Ytccidmogamnihaa.fpn
open Go.RowKit Pl
set_option linter.unusedVariables false
set_option linter.unusedSimpArgs false
set_option maxRecDepth 4000

theorem Heap.later {B : Nat} {w0 w x : World} {H : List (Nat × List Value)} (h : Heap B w0 w H) (hb : Below w.heap.size w x) : Heap B w0 x H :=
  ⟨h.bel.trans (hb.mono h.le), fun p hp => ⟨(h.box p hp).1, (h.box p hp).2.up hb⟩, h.nd, Nat.le_trans h.le hb.size⟩
theorem Heap.lts {B : Nat} {w0 w : World} {H : List (Nat × List Value)} (h : Heap B w0 w H) : ∀ b ∈ H.map (·.1), b < w.heap.size := fun b hb => by
  obtain ⟨p, hp, rfl⟩ := List.mem_map.1 hb
  exact (h.box p hp).2.lt
section
variable {ops : Array Oper} {Q : Exit → Act → World → Prop}
theorem tail3 {k : Nat} {a : Act} {w : World} (hr : List.range' k (ops.size - k) = [k, k + 1, k + 2]) (h : wpOp Try.prog ops Q k (fun a1 w1 => wpOp Try.prog ops Q (k + 1) (fun a2 w2 => wpOp Try.prog ops Q (k + 2) (fun a3 w3 => Q .normal a3 w3) a2 w2) a1 w1) a w) : wpOps Try.prog ops Q (List.range' k (ops.size - k)) a w := by
  rw [hr, wpOps_cons]
  refine wpOp_mono (fun a' w' h' => ?_) h
  rw [wpOps_cons]
  refine wpOp_mono (fun a' w' h' => ?_) h'
  rw [wpOps_cons]
  exact h'
end
def OwnY (w : World) (B : Nat) (v : Value) (f : Nat → Int) (n : Nat) : Prop := w.ownsRow B 5 1 v n (BC f n)
theorem OwnY.nil {w : World} {B : Nat} {f : Nat → Int} : OwnY w B (.slice none 0 0) f 0 := World.ownsRow_nil w B _ 1
theorem OwnY.below {w x : World} {B : Nat} {v : Value} {f : Nat → Int} {n : Nat} (h : OwnY w B v f n) (hb : Below w.heap.size w x) : OwnY x B v f n := by
  refine ⟨h.1, ?_⟩
  rcases h.2 with h2 | ⟨g, cap, cur, hv, hB, hg, r⟩
  · exact Or.inl h2
  · refine Or.inr ⟨g, cap, cur, hv, hB, ?_, r⟩
    rw [hb.block g ?_]
    · exact hg
    · exact (Array.getElem?_eq_some_iff.1 hg).1
theorem OwnY.congr {w : World} {B : Nat} {v : Value} {f g : Nat → Int} {n : Nat} (h : OwnY w B v f n) (e : ∀ j, j < n → f j = g j) : OwnY w B v g n := by
  unfold OwnY; rw [← BC_congr e]; exact h
theorem OwnY.box {w : World} {B : Nat} {v : Value} {f : Nat → Int} {n : Nat} (h : OwnY w B v f n) (h0 : 0 < n) : ∃ k c, v = .slice (some ⟨k, 0, none⟩) n c ∧ n ≤ c ∧ c ≤ 9223372036854775807 ∧ B ≤ k ∧ Box w k (BC f n) := by
  rcases h.2 with ⟨-, hn⟩ | ⟨g, cap, cur, rfl, hB, hg, hn, hm, hs, ht⟩
  · omega
  · have hc : ∀ j, j < n → w.cell? ⟨g, 0 + j, none⟩ = some (.int .u8 (f j)) := fun j hj => by
      have e := BC_at (f := f) hj
      rw [← ht, List.getElem?_take_of_lt (by omega)] at e
      have e' : cur[j]? = some (.int .u8 (f j)) := by simpa using e
      rw [Nat.zero_add, cell_of_row w g j cur _ _ hg]; exact e'
    refine ⟨g, cap, rfl, hn, by simp only [maxLen] at hm; omega, hB, (Array.getElem?_eq_some_iff.1 hg).1, fun j v hv => ?_, fun j hj => ?_⟩
    · have hj : j < n := by have := (List.getElem?_eq_some_iff.1 hv).1; rwa [BC_len] at this
      rw [BC_at hj] at hv; rw [hc j hj]; exact hv
    · rw [BC_len] at hj
      exact ⟨by rw [hc j hj]; rfl, by rw [Nat.zero_add]; exact frozen_of_row w g j cur _ hg⟩
theorem OwnY.isB {w : World} {B k0 : Nat} {bs : List Nat} {v : Value} {f : Nat → Int} {n : Nat} (h : OwnY w k0 v f n) (h0 : 0 < n) (hB : B ≤ k0) (hbs : ∀ b ∈ bs, b < k0) : isB B bs f n v w := by
  obtain ⟨k, c, e, h1, h2, h3, h4⟩ := h.box h0
  exact ⟨k, c, e, h1, h2, Nat.le_trans hB h3, fun b hb => Nat.lt_of_lt_of_le (hbs b hb) h3, h4⟩
def isO (B : Nat) (bs : List Nat) (f : Nat → Int) (n : Nat) (v : Value) (w : World) : Prop := ∃ k, B ≤ k ∧ k ≤ w.heap.size ∧ (∀ b ∈ bs, b < k) ∧ OwnY w k v f n
theorem isO.stay {B : Nat} {bs : List Nat} {f : Nat → Int} {n : Nat} {v : Value} {w x : World} (h : isO B bs f n v w) (hb : Below w.heap.size w x) : isO B bs f n v x := by
  obtain ⟨k, h1, h2, h3, h4⟩ := h
  exact ⟨k, h1, Nat.le_trans h2 hb.size, h3, h4.below hb⟩
theorem infoY : ∃ i, Try.prog.info? 5 = some i ∧ i.zero = some (.int .u8 0) ∧ i.size = 1 ∧ i.bytes = 1 := info_parts info8
theorem BC_one (f : Nat → Int) (n : Nat) : ∀ u ∈ BC f n, u.oneCell' = true := fun u hu => by
  obtain ⟨j, -, rfl⟩ := List.mem_map.1 hu
  rfl
theorem wp_appendY {Q : Exit → Act → World → Prop} {o : Oper} {a : Act} {w : World} {K : Act → World → Prop} (s x : Operand) (ho : o.op = .call { callee := .builtin .append, args := #[s, x], argTypes := #[29, 29] })
    {B : Nat} {v : Value} {f g : Nat → Int} {m n c : Nat} {ad : Addr} (hs : a.eval s = v) (hown : OwnY w B v f m) (hx : a.eval x = .slice (some ad) n c) (hc : ∀ j, j < n → w.cell? (ad.add j) = some (.int .u8 (g j))) (hl : m + n ≤ 1000) (hB : B ≤ w.heap.size)
    (h : ∀ v' w', OwnY w' B v' (cat f m g) (m + n) → Below B w w' → K (a.put o.dst v') w') : o.wp Try.prog a w K Q := by
  obtain ⟨i, hi, hz, h1, h2⟩ := infoY
  refine wp_append_own w s x 29 ho B 5 i (.int .u8 0) 1 1 Try.underlying29 hi hz h1 h2 rfl (by decide) v m (BC f m) hs hown ad n c (BC g n) hx (by rw [BC_len, Nat.mul_one]) (fun j u hu => ?_) (BC_one g n) (by simp only [maxLen]; omega) (by omega) hB (fun v' w' ho' hgr _ => h v' w' ?_ ?_)
  · have hj : j < n := by have := (List.getElem?_eq_some_iff.1 hu).1; rwa [BC_len] at this
    rw [BC_at hj] at hu; rw [hc j hj]; exact hu
  · unfold OwnY; rw [← BC_cat]; exact ho'
  · have hrow : ∀ k, v.ownBlock = some k → B ≤ k := fun k hk => (World.ownsRow.lt hown k hk).1
    exact ⟨hgr.os, hgr.tape, hgr.output, hgr.size, fun k hk => hgr.block k (by omega) (fun e => by have := hrow k e.symm; omega)⟩
section
variable {ops : Array Oper} {ks : List Kind} {T : List Nat} {a0 : Act} {B : Nat} {w0 W0 : World} {H : List (Nat × List Value)} {i : Nat} {o : Oper}
theorem oApO {x y : Operand} {f0 g : Nat → Int} {m n : Nat} (bs : List Nat) (h0 : 0 < n) (hm : m + n ≤ 1000)
    (hx : ∀ L w, Seen ks T B w0 H L i w → ∃ a, rd ops ks T a0 L i x = .slice (some a) m m ∧ ∀ j, j < m → w.cell? (a.add j) = some (.int .u8 (f0 j)))
    (hy : ∀ L w, Seen ks T B w0 H L i w → ∃ a c, rd ops ks T a0 L i y = .slice (some a) n c ∧ ∀ j, j < n → w.cell? (a.add j) = some (.int .u8 (g j)))
    (hw : ∀ L, wantedR ks L o = true := by intro _; kernel_rfl) (he : Pl.early T ks i = true := by kernel_rfl) (ho : o.op = .call { callee := .builtin .append, args := #[x, y], argTypes := #[29, 29] } := by exact rfl)
    (hb : bs = H.map (·.1) := by rfl) (hk : kd ks i = .any (isO B bs (cat f0 m g) (m + n))) : Obl Try.prog ops ks T a0 B w0 H i o := ⟨fun L w hsn => by
  rw [if_pos (hw L), hk]
  refine ⟨fun v w x h hb => h.stay hb, ?_⟩
  have hs := hsn he
  obtain ⟨a, ex, hcx⟩ := hx L w hs
  obtain ⟨a', c, ey, hcy⟩ := hy L w hs
  obtain ⟨i0, hi0, hz0, hz1, hz2⟩ := infoY
  have hr := run_append_grow (P := Try.prog) (w := w) 29 o.type 5 i0 (.int .u8 0) Try.underlying29 hi0 hz0 a m m (BC f0 m) (by rw [BC_len, hz1, Nat.mul_one])
    (fun j v hv => by
      have hj : j < m := by have := (List.getElem?_eq_some_iff.1 hv).1; rwa [BC_len] at this
      rw [BC_at hj] at hv; rw [hcx j hj]; exact hv)
    a' n c (BC g n) (by rw [BC_len, hz1, Nat.mul_one])
    (fun j v hv => by
      have hj : j < n := by have := (List.getElem?_eq_some_iff.1 hv).1; rwa [BC_len] at this
      rw [BC_at hj] at hv; rw [hcy j hj]; exact hv)
    (by omega) (by omega) (by rw [hz2, Nat.mul_one]; have := nextslicecap_le (need := m + n) (old := m) (by omega); omega)
  have this : (execOp (rd ops ks T a0 L i) o).run Try.prog w = .ok (.value (.slice (some ⟨w.heap.size, 0, none⟩) (m + n) (grownCap w (m + n) m 5))) (w.drew.alloc (.cells ((BC f0 m).toArray ++ (BC g n).toArray ++ Builtin.zeroCells (Value.int .u8 0).cells (grownCap w (m + n) m 5 - (m + n))) 5)) := by
    unfold execOp
    simp [ho, resolve, ex, ey, invoke, builtin, Sem.run_bind, hr]
  rw [this]
  have hge := grownCap_ge w (m + n) m 5
  have hcm : grownCap w (m + n) m 5 ≤ maxLen := grownCap_le_maxLen w (m + n) m _ (by simp only [maxLen]; omega)
  have h2 : ((BC f0 m).toArray ++ (BC g n).toArray ++ Builtin.zeroCells (Value.int .u8 0).cells (grownCap w (m + n) m 5 - (m + n))).size = grownCap w (m + n) m 5 * 1 := by
    simp only [Array.size_append, List.size_toArray, size_zeroCells, BC_len, Value.cells]
    simp; omega
  have h3 : ((BC f0 m).toArray ++ (BC g n).toArray ++ Builtin.zeroCells (Value.int .u8 0).cells (grownCap w (m + n) m 5 - (m + n))).toList.take ((m + n) * 1) = BC (cat f0 m g) (m + n) := by
    have hl : (BC f0 m ++ BC g n).length = (m + n) * 1 := by rw [List.length_append, BC_len, BC_len, Nat.mul_one]
    rw [← BC_cat, ← hl]
    simp only [Array.toList_append]
    exact List.take_left
  refine ⟨⟨w.heap.size, hs.le, by simp, fun b hbm => ?_, by rw [BC_len, Nat.mul_one], .inr ⟨w.heap.size, _, _, rfl, Nat.le_refl _, heap_alloc_new w.drew _, hge, hcm, h2, h3⟩⟩, Below.alloc (Below.drew (Below.refl _ _)) (Nat.le_refl _) _⟩
  rw [hb] at hbm
  obtain ⟨p, hp, rfl⟩ := List.mem_map.1 hbm
  exact (hs.base p hp).lt⟩
end
end Go.Proofs.Ytccidmogamnihaa.fpn
