/- The plan of a region: what each of its operations yields, told once, whatever the order of evaluation. No program is named here. -/
import Derived.OrdersHeld
import Derived.Below
import Derived.Deep.MidRow
import Derived.Laws.NewBlocks
namespace Go.Proofs.Ytklddcicfeakfaa.Pl
open Go Go.RowKit
set_option linter.unusedVariables false
set_option linter.unusedSimpArgs false

/-- Block b holds the cells cs, and they may be written. -/
structure Box (w : World) (b : Nat) (cs : List Value) : Prop where
  lt : b < w.heap.size
  cells : w.rangeAt b 0 cs
  free : w.there b 0 cs.length

/-- Only block b may have turned. -/
structure Wr (b : Nat) (w x : World) : Prop where
  os : x.os = w.os
  tape : x.tape = w.tape
  output : x.output = w.output
  size : x.heap.size = w.heap.size
  block : ∀ k, k ≠ b → x.heap[k]? = w.heap[k]?

theorem Wr.below {b B : Nat} {w x : World} (h : Wr b w x) (hB : B ≤ b) : Below B w x :=
  ⟨h.os, h.tape, h.output, by rw [h.size]; exact Nat.le_refl _, fun k hk => h.block k (by omega)⟩

theorem Wr.set (b : Nat) : ∀ (vs : List Value) (o : Nat) (w : World), Wr b w (w.setCells b o vs)
  | [], o, w => ⟨rfl, rfl, rfl, rfl, fun _ _ => rfl⟩
  | v :: r, o, w => by
    have h := Wr.set b r (o + 1) (w.setCell ⟨b, o, none⟩ v)
    rw [World.setCells]
    exact ⟨h.os, h.tape, h.output, by rw [h.size]; simp [World.setCell], fun k hk => (h.block k hk).trans (Below.heap_setCell _ _ _ _ (by simpa using hk))⟩

theorem Box.keep {w x : World} {b : Nat} {cs : List Value} (h : Box w b cs) (hs : w.heap.size ≤ x.heap.size) (hb : x.heap[b]? = w.heap[b]?) : Box x b cs :=
  ⟨Nat.lt_of_lt_of_le h.lt hs, fun j v hv => (World.cell?_of_block (w := w) (a := ⟨b, 0 + j, none⟩) hb).trans (h.cells j v hv),
   fun j hj => ⟨by rw [World.cell?_of_block (w := w) (a := ⟨b, 0 + j, none⟩) hb]; exact (h.free j hj).1, by rw [World.frozen?_of_block (w := w) (a := ⟨b, 0 + j, none⟩) hb]; exact (h.free j hj).2⟩⟩
theorem Box.below {w x : World} {b B : Nat} {cs : List Value} (h : Box w b cs) (k : Below B w x) (hB : b < B) : Box x b cs := h.keep k.size (k.block b hB)
theorem Box.up {w x : World} {b : Nat} {cs : List Value} (h : Box w b cs) (k : Below w.heap.size w x) : Box x b cs := h.below k h.lt
theorem Box.wr {w x : World} {b b' : Nat} {cs : List Value} (h : Box w b cs) (k : Wr b' w x) (hne : b ≠ b') : Box x b cs := h.keep (by rw [k.size]; exact Nat.le_refl _) (k.block b hne)

theorem Box.new (w : World) (cs : List Value) (t : TypeId) : Box (w.alloc (.cells cs.toArray t)) w.heap.size cs := by
  have hh : (w.alloc (.cells cs.toArray t)).heap[w.heap.size]? = some (.cells cs.toArray t) := by
    show (w.heap.push _)[w.heap.size]? = _
    simp
  refine ⟨by rw [World.size_alloc]; omega, fun j v hv => ?_, fun j hj => ⟨?_, ?_⟩⟩
  · unfold World.cell?
    simp only [hh, Nat.zero_add]
    simpa using hv
  · unfold World.cell?
    simp only [hh, Nat.zero_add]
    simp [hj]
  · unfold World.frozen?
    simp only [hh]
    simp

/-- A part of the cells of a list is another list. -/
def splice (old : List Value) (off : Nat) (cs : List Value) : List Value := old.take off ++ cs ++ old.drop (off + cs.length)

theorem Box.set {w : World} {b off : Nat} {old cs : List Value} (h : Box w b old) (hl : off + cs.length ≤ old.length) : Box (w.setCells b off cs) b (splice old off cs) := by
  have hwr := Wr.set b cs off w
  have hlen : (splice old off cs).length = old.length := by unfold splice; simp; omega
  have ht : w.there b off cs.length := fun j hj => by have := h.free (off + j) (by omega); simpa using this
  refine ⟨by rw [hwr.size]; exact h.lt, fun j v hv => ?_, ?_⟩
  · by_cases h1 : j < off
    · have e : (splice old off cs)[j]? = old[j]? := by
        unfold splice
        rw [List.append_assoc, List.getElem?_append_left (by simp; omega), List.getElem?_take_of_lt h1]
      rw [World.cell?_setCells_out b cs off w ⟨b, 0 + j, none⟩ (fun _ _ => .inl (by show 0 + j < off; omega))]
      exact h.cells j v (e ▸ hv)
    · by_cases h2 : j < off + cs.length
      · obtain ⟨k, rfl⟩ : ∃ k, j = off + k := ⟨j - off, by omega⟩
        have e : (splice old off cs)[off + k]? = cs[k]? := by
          unfold splice
          rw [List.append_assoc, List.getElem?_append_right (by simp; omega), List.getElem?_append_left (by simp; omega)]
          congr 1; simp; omega
        have := World.rangeAt_setCells_same w b off cs ht k v (e ▸ hv)
        simpa using this
      · have e : (splice old off cs)[j]? = old[j]? := by
          unfold splice
          rw [List.getElem?_append_right (by simp; omega), List.getElem?_drop]
          congr 1; simp; omega
        rw [World.cell?_setCells_out b cs off w ⟨b, 0 + j, none⟩ (fun _ _ => .inr (by show off + cs.length ≤ 0 + j; omega))]
        exact h.cells j v (e ▸ hv)
  · rw [hlen]; exact World.there_setCells h.free b off cs

theorem splice_all {old cs : List Value} (h : cs.length = old.length) : splice old 0 cs = cs := by
  unfold splice; simp [h]

/-- A box: one that was there (by its place in the list), or one that an operation of the region makes. -/
inductive Loc where
  | base (k : Nat)
  | new (j : Nat)
  deriving DecidableEq

/-- What an operation is told to do. -/
inductive Kind where
  | det (v : Value)
  | detB (k : Nat) (v : Nat → Value)
  | detV (k : Nat) (v : Value → Value)
  | any (C : Value → World → Prop)
  | alloc (cs : List Value)
  | store (l : Loc) (off : Nat) (cs new : List Value)

/-- Letters: values that are not told, blocks that are new. -/
structure Lt where
  v : Nat → Value
  b : Nat → Nat

def Lt.setV (L : Lt) (i : Nat) (x : Value) : Lt := ⟨fun j => if j = i then x else L.v j, L.b⟩
def Lt.setB (L : Lt) (i : Nat) (x : Nat) : Lt := ⟨L.v, fun j => if j = i then x else L.b j⟩

/-- What an operation yields that makes a new block: its address, or, of bytes, the slice (arrays of bytes have 64 or 32 of them). -/
def yields (cs : List Value) (b : Nat) : Value := match cs with
  | .int .u8 _ :: _ => bif Nat.beq cs.length 64 || Nat.beq cs.length 32 then .pointer (some ⟨b, 0, none⟩) else .slice (some ⟨b, 0, none⟩) cs.length cs.length
  | _ => .pointer (some ⟨b, 0, none⟩)
def kd (ks : List Kind) (j : Nat) : Kind := ks.getD j (.det undef)
def val (ks : List Kind) (L : Lt) (j : Nat) : Value :=
  match kd ks j with
  | .det v => v
  | .detB k v => v (L.b k)
  | .detV k v => v (L.v k)
  | .any _ => L.v j
  | .alloc cs => yields cs (L.b j)
  | .store .. => undef

def own (ops : Array Oper) (t : Nat) : Option Nat := (List.range ops.size).find? fun j => ((ops[j]?).bind (·.dst)) == some t
def aft (ops : Array Oper) (i : Nat) : List Nat := ((ops[i]?).map fun o => (o.after.toList.filter (Region.binds .any)).map (·.on)).getD []
/-- Which come ahead, by the table of masks. -/
def bef (T : List Nat) (i j : Nat) : Bool := (T.getD i 0).testBit j
def isStore (ks : List Kind) (j : Nat) : Bool := match kd ks j with | .store .. => true | _ => false
def storesTo (ks : List Kind) (l : Loc) (j : Nat) : Bool := match kd ks j with | .store l' _ _ _ => l' == l | _ => false
def st (ks : List Kind) (l : Loc) : Option Nat := (List.range ks.length).find? (storesTo ks l)
def newOf (ks : List Kind) (s : Nat) (cs : List Value) : List Value := match kd ks s with | .store _ _ _ new => new | _ => cs
def isAlloc (ks : List Kind) (j : Nat) : Bool := match kd ks j with | .alloc _ => true | _ => false
/-- A store into a box of the region's own; are there letters with conditions? -/
def isNewS (ks : List Kind) (j : Nat) : Bool := match kd ks j with | .store (.new _) _ _ _ => true | _ => false
def noAny (ks : List Kind) : Bool := ks.all fun | .any _ => false | _ => true
/-- It comes ahead of all stores, but for stores into boxes of the region's own where no letter has a condition. -/
def early (T : List Nat) (ks : List Kind) (i : Nat) : Bool := (List.range ks.length).all fun s => !isStore ks s || (bef T s i || (isNewS ks s && noAny ks))

/-- What an operand is, as operation i reads it. -/
def rd (ops : Array Oper) (ks : List Kind) (T : List Nat) (a0 : Act) (L : Lt) (i : Nat) : Operand → Value
  | .tmp t => match own ops t with
    | none => a0.tmps.getD t undef
    | some j => if bef T i j then val ks L j else a0.tmps.getD t undef
  | .const v => v
  | .global g => .pointer (some ⟨g, 0, none⟩)
  | .func f => .func (.func f) #[] #[]

def wantedR (ks : List Kind) (L : Lt) (o : Oper) : Bool :=
  match o.guard with
  | none => true
  | some (g, want) => (match val ks L g with | .bool b => some b | _ => none) == some want

/-- The static look at one operation. -/
def chkOp (ops : Array Oper) (ks : List Kind) (T : List Nat) (nt nh : Nat) (i : Nat) (o : Oper) : Bool :=
  (match o.dst with | some d => own ops d == some i && decide (d < nt) | none => true) &&
  (o.looksAt ops).all (fun t => match own ops t with | none => true | some j => j == i || bef T i j || bef T j i) &&
  (match o.op with | .select .. => false | _ => true) &&
  (match o.guard with | some (g, _) => bef T i g && ((ops[g]?).bind (·.dst)).isSome | none => true) &&
  (match kd ks i with
    | .store l _ _ _ => o.guard.isNone && o.dst.isNone && st ks l == some i && (match l with | .new j => bef T i j && isAlloc ks j | .base k => decide (k < nh))
    | .detB k _ => bef T i k && isAlloc ks k && !isStore ks i
    | .detV k _ => bef T i k && (match kd ks k with | .any _ => true | _ => false)
    | .any _ => o.dst.isSome
    | .alloc _ => o.dst.isSome
    | .det _ => true) &&
  (aft ops i).all (fun j => decide (j < i)) &&
  (List.range i).all (fun j => !bef T i j || (aft ops i).any fun k => k == j || bef T k j) &&
  decide ((T.getD i 0) < 2 ^ i)

def chk (ops : Array Oper) (ks : List Kind) (T : List Nat) (nt nh : Nat) : Bool :=
  decide (ks.length = ops.size) && decide (T.length = ops.size) && (List.range ops.size).all fun i => match ops[i]? with | some o => chkOp ops ks T nt nh i o | none => false

/-- The memory of a function: boxes of its own from block B on, unlike, and nothing else below B has turned since w0. -/
structure Heap (B : Nat) (w0 w : World) (H : List (Nat × List Value)) : Prop where
  bel : Below B w0 w
  box : ∀ p ∈ H, B ≤ p.1 ∧ Box w p.1 p.2
  nd : (H.map (·.1)).Nodup
  le : B ≤ w.heap.size

/-- What an early operation may lean on. -/
structure Seen (ks : List Kind) (T : List Nat) (B : Nat) (w0 : World) (H : List (Nat × List Value)) (L : Lt) (i : Nat) (w : World) : Prop where
  bel : Below B w0 w
  le : B ≤ w.heap.size
  base : ∀ p ∈ H, Box w p.1 p.2
  any : ∀ j C, kd ks j = .any C → bef T i j = true → C (L.v j) w

def Runs (P : Program) (r : Result Next) (R : Value → World → Prop) : Prop :=
  match r with
  | .ok (.value v) w' => R v w'
  | .ok (.enter f args) w' => Calls P f args w' fun e w'' => ∃ v, e = .returned v ∧ R v w''
  | _ => False

theorem Runs.upon {P : Program} {o : Oper} {a : Act} {next : Act → World → Prop} {Q : Exit → Act → World → Prop} {r : Result Next} {R : Value → World → Prop}
    (h : Runs P r R) (hn : ∀ v w', R v w' → next (a.put o.dst v) w') : o.upon P a next Q r := by
  cases r with
  | ok n w' =>
    cases n <;> simp only [Runs] at h <;> first | exact h.elim | skip
    · exact hn _ _ h
    · refine Calls.mono h fun e w'' he => ?_
      obtain ⟨v, rfl, hr⟩ := he
      exact hn _ _ hr
  | halt x w' => simp [Runs] at h

/-- The cells of a box when the stores that are listed have come. -/
def cur (ks : List Kind) (listed : Array Bool) (l : Loc) (cs : List Value) : List Value :=
  match st ks l with
  | some s => if listed.getD s false then newOf ks s cs else cs
  | none => cs

def addr (H : List (Nat × List Value)) (L : Lt) : Loc → Nat
  | .base k => (H.getD k (0, [])).1
  | .new j => L.b j
/-- What a box held ahead of the region's store. -/
def oldOf (ks : List Kind) (H : List (Nat × List Value)) : Loc → List Value
  | .base k => (H.getD k (0, [])).2
  | .new j => match kd ks j with | .alloc cs => cs | _ => []

/-- What is to be shown of one operation. -/
def Ob (P : Program) (ops : Array Oper) (ks : List Kind) (T : List Nat) (a0 : Act) (B : Nat) (w0 : World) (H : List (Nat × List Value)) (i : Nat) (o : Oper) : Prop :=
  ∀ (L : Lt) (w : World), (early T ks i = true → Seen ks T B w0 H L i w) →
    if wantedR ks L o = true then
      match kd ks i with
      | .det _ | .detB .. | .detV .. => Runs P ((execOp (rd ops ks T a0 L i) o).run P w) (fun v w' => v = val ks L i ∧ Below w.heap.size w w')
      | .any C => (∀ v w x, C v w → Below w.heap.size w x → C v x) ∧ Runs P ((execOp (rd ops ks T a0 L i) o).run P w) (fun v w' => C v w' ∧ Below w.heap.size w w')
      | .alloc cs => ∃ ty, (execOp (rd ops ks T a0 L i) o).run P w = .ok (.value (yields cs w.heap.size)) (w.alloc (.cells cs.toArray ty))
      | .store l off cs new => off + cs.length ≤ (oldOf ks H l).length ∧ new = splice (oldOf ks H l) off cs ∧ (w.there (addr H L l) off cs.length → (execOp (rd ops ks T a0 L i) o).run P w = .ok .skip (w.setCells (addr H L l) off cs))
    else kd ks i = .det undef

def AllOb (P : Program) (ops : Array Oper) (ks : List Kind) (T : List Nat) (a0 : Act) (B : Nat) (w0 : World) (H : List (Nat × List Value)) : Nat → List Oper → Prop
  | _, [] => True
  | i, o :: r => Ob P ops ks T a0 B w0 H i o ∧ AllOb P ops ks T a0 B w0 H (i + 1) r

theorem AllOb.at {P : Program} {ops : Array Oper} {ks : List Kind} {T : List Nat} {a0 : Act} {B : Nat} {w0 : World} {H : List (Nat × List Value)} :
    ∀ (l : List Oper) (i j : Nat) (o : Oper), AllOb P ops ks T a0 B w0 H i l → l[j]? = some o → Ob P ops ks T a0 B w0 H (i + j) o
  | [], _, _, _, _, h => by simp at h
  | x :: r, i, 0, o, h, hj => by simp at hj; subst hj; exact h.1
  | x :: r, i, j + 1, o, h, hj => by
    have := AllOb.at r (i + 1) j o h.2 (by simpa using hj)
    rwa [show i + 1 + j = i + (j + 1) by omega] at this

end Go.Proofs.Ytklddcicfeakfaa.Pl
