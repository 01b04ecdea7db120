/- What a slice of limbs reads as in a world, what a call may have turned, and how a function that jumps back to one label is walked. No function of the program is named here. -/
import Derived.Test.YtklddcicfeakfaaLim
import Derived.Handy
import Derived.ScopeJumps
import Derived.WalkMore
import Derived.Deep.Draws
import Derived.Laws.Externs
import Derived.Laws.CopyOwn
namespace Go.Proofs.Ytklddcicfeakfaa
set_option maxRecDepth 4000
open Go.RowKit

/-- A scope whose label is jumped back to: what holds at the label each time, and a measure. -/
theorem wp_scope_goto {P : Program} {a : Act} {w : World} {Q : Exit → Act → World → Prop} {c rest : Code} (l : Nat) (J : Act → World → Prop) (μ : Act → World → Nat) (hf : findLabel c l = some (.seq .skip rest))
    (pass : ∀ a w, J a w → rest.wp P (Exit.jump l (fun a' w' => J a' w' ∧ μ a' w' < μ a w) Q) a w)
    (first : (∀ a w, J a w → rest.wp P (Exit.jump l J Q) a w) → c.wp P (Exit.jump l J Q) a w) : (Code.scope c).wp P Q a w :=
  wp_scope_jumps l J μ hf (first fun a w h => wp_mono (pass a w h) (fun e a w q => by cases e <;> first | exact q | exact ⟨q.1, q.2.1⟩)) (fun a w h => wp_seq (wp_skip (pass a w h)))

/-- The number in slot k. -/
def slot (k : Nat) (a : Act) : Nat := (intOf (a.tmps.getD k undef)).toNat

theorem cell_lt {w : World} {a : Addr} {v : Value} (h : w.cell? a = some v) : a.block < w.heap.size := World.block_lt_of_cell? w a h

/-- The slice that begins at p has the n numbers f, of kind k. -/
def AtK (k : IntKind) (w : World) (p : Option Addr) (n : Nat) (f : Nat → Int) : Prop :=
  0 < n → ∃ b off, p = some ⟨b, off, none⟩ ∧ ∀ j, j < n → w.cell? ⟨b, off + j, none⟩ = some (.int k (f j))
/-- .. the n limbs f. -/
abbrev At (w : World) (p : Option Addr) (n : Nat) (f : Nat → Int) : Prop := AtK .u64 w p n f

theorem AtK.mono {k : IntKind} {w : World} {p : Option Addr} {n m : Nat} {f : Nat → Int} (h : AtK k w p n f) (hm : m ≤ n) : AtK k w p m f := fun h0 => by
  obtain ⟨b, off, e, hc⟩ := h (by omega)
  exact ⟨b, off, e, fun j hj => hc j (by omega)⟩
theorem AtK.congr {k : IntKind} {w : World} {p : Option Addr} {n : Nat} {f g : Nat → Int} (h : AtK k w p n f) (e : ∀ i, i < n → f i = g i) : AtK k w p n g := fun h0 => by
  obtain ⟨b, off, e1, hc⟩ := h h0
  exact ⟨b, off, e1, fun j hj => by rw [hc j hj, e j hj]⟩
theorem AtK.drewN {k : IntKind} {w : World} {p : Option Addr} {n : Nat} {f : Nat → Int} (h : AtK k w p n f) (q : Nat) : AtK k (w.drewN q) p n f := h
theorem AtK.nil {k : IntKind} {w : World} {p : Option Addr} {f : Nat → Int} : AtK k w p 0 f := fun h => absurd h (by omega)
/-- Its block was there. -/
theorem AtK.lt {k : IntKind} {w : World} {p : Option Addr} {n : Nat} {f : Nat → Int} (h : AtK k w p n f) (h0 : 0 < n) : ∃ b off, p = some ⟨b, off, none⟩ ∧ b < w.heap.size ∧ ∀ j, j < n → w.cell? ⟨b, off + j, none⟩ = some (.int k (f j)) := by
  obtain ⟨b, off, e, hc⟩ := h h0
  exact ⟨b, off, e, cell_lt (hc 0 h0), hc⟩
theorem AtK.below {k : IntKind} {w w' : World} {p : Option Addr} {n : Nat} {f : Nat → Int} (h : AtK k w p n f) (hb : Below w.heap.size w w') : AtK k w' p n f := fun h0 => by
  obtain ⟨b, off, e, hl, hc⟩ := h.lt h0
  exact ⟨b, off, e, fun j hj => (hb.cell (p := ⟨b, off + j, none⟩) hl).trans (hc j hj)⟩

/-- Only cells of block b from lo to hi have turned; no block is new. -/
structure Upd (b lo hi : Nat) (w w' : World) : Prop where
  os : w'.os = w.os
  tape : w'.tape = w.tape
  output : w'.output = w.output
  size : w'.heap.size = w.heap.size
  block : ∀ k, k ≠ b → w'.heap[k]? = w.heap[k]?
  cell : ∀ o s, (o < lo ∨ hi ≤ o) → w'.cell? ⟨b, o, s⟩ = w.cell? ⟨b, o, s⟩
  frozen : ∀ a, w'.frozen? a = w.frozen? a

theorem Upd.refl (b lo hi : Nat) (w : World) : Upd b lo hi w w := ⟨rfl, rfl, rfl, rfl, fun _ _ => rfl, fun _ _ _ => rfl, fun _ => rfl⟩
theorem Upd.trans {b lo hi : Nat} {w x y : World} (h : Upd b lo hi w x) (k : Upd b lo hi x y) : Upd b lo hi w y :=
  ⟨k.os.trans h.os, k.tape.trans h.tape, k.output.trans h.output, k.size.trans h.size, fun i hi => (k.block i hi).trans (h.block i hi), fun o s ho => (k.cell o s ho).trans (h.cell o s ho), fun a => (k.frozen a).trans (h.frozen a)⟩
theorem Upd.wide {b lo hi lo' hi' : Nat} {w x : World} (h : Upd b lo hi w x) (hl : lo' ≤ lo) (hh : hi ≤ hi') : Upd b lo' hi' w x :=
  ⟨h.os, h.tape, h.output, h.size, h.block, fun o s ho => h.cell o s (by omega), h.frozen⟩
theorem Upd.drewN {b lo hi : Nat} {w x : World} (h : Upd b lo hi w x) (k : Nat) : Upd b lo hi w (x.drewN k) := ⟨h.os, h.tape, h.output, h.size, h.block, h.cell, h.frozen⟩
theorem Upd.drew {b lo hi : Nat} {w x : World} (h : Upd b lo hi w x) : Upd b lo hi w x.drew := ⟨h.os, h.tape, h.output, h.size, h.block, h.cell, h.frozen⟩
theorem Upd.setCell {b lo hi o : Nat} {w x : World} (h : Upd b lo hi w x) (hl : lo ≤ o) (hh : o < hi) (v : Value) : Upd b lo hi w (x.setCell ⟨b, o, none⟩ v) :=
  h.trans ⟨rfl, rfl, rfl, by simp [World.setCell], fun k hk => Below.heap_setCell _ _ _ _ (by simpa using hk), fun o' s ho => World.cell?_setCell_other _ _ _ _ (by intro e; injection e; omega), fun a => by simp⟩
theorem Upd.below {b lo hi B : Nat} {w x : World} (h : Upd b lo hi w x) (hB : B ≤ b) : Below B w x := ⟨h.os, h.tape, h.output, by rw [h.size]; exact Nat.le_refl _, fun k hk => h.block k (by omega)⟩
theorem Upd.far {b lo hi : Nat} {w x : World} (h : Upd b lo hi w x) {a : Addr} (ha : a.block ≠ b) : x.cell? a = w.cell? a := World.cell?_of_block (w := w) (h.block a.block ha)
theorem AtK.upd {k : IntKind} {b lo hi : Nat} {w x : World} {p : Option Addr} {n : Nat} {f : Nat → Int} (h : AtK k w p n f) (hu : Upd b lo hi w x) (hne : 0 < n → ∀ b' o', p = some ⟨b', o', none⟩ → b' ≠ b) : AtK k x p n f := fun h0 => by
  obtain ⟨b', off, e, hc⟩ := h h0
  exact ⟨b', off, e, fun j hj => (hu.far (a := ⟨b', off + j, none⟩) (hne h0 _ _ e)).trans (hc j hj)⟩

/-- n numbers f of kind k in block b from off on, that may be written. -/
def MutK (k : IntKind) (w : World) (b off n : Nat) (f : Nat → Int) : Prop :=
  ∀ j, j < n → w.cell? ⟨b, off + j, none⟩ = some (.int k (f j)) ∧ w.frozen? ⟨b, off + j, none⟩ = false
/-- .. n limbs f. -/
abbrev Mut (w : World) (b off n : Nat) (f : Nat → Int) : Prop := MutK .u64 w b off n f

theorem MutK.at {k : IntKind} {w : World} {b off n : Nat} {f : Nat → Int} (h : MutK k w b off n f) : AtK k w (some ⟨b, off, none⟩) n f := fun _ => ⟨b, off, rfl, fun j hj => (h j hj).1⟩
theorem MutK.congr {k : IntKind} {w : World} {b off n : Nat} {f g : Nat → Int} (h : MutK k w b off n f) (e : ∀ i, i < n → f i = g i) : MutK k w b off n g := fun j hj => by rw [← e j hj]; exact h j hj
theorem MutK.mono {k : IntKind} {w : World} {b off n m : Nat} {f : Nat → Int} (h : MutK k w b off n f) (hm : m ≤ n) : MutK k w b off m f := fun j hj => h j (by omega)
theorem MutK.drewN {k : IntKind} {w : World} {b off n : Nat} {f : Nat → Int} (h : MutK k w b off n f) (q : Nat) : MutK k (w.drewN q) b off n f := h
theorem MutK.drew {k : IntKind} {w : World} {b off n : Nat} {f : Nat → Int} (h : MutK k w b off n f) : MutK k w.drew b off n f := h
theorem MutK.below {k : IntKind} {w w' : World} {b off n B : Nat} {f : Nat → Int} (h : MutK k w b off n f) (hb : Below B w w') (hB : b < B) : MutK k w' b off n f := fun j hj =>
  ⟨(hb.cell (p := ⟨b, off + j, none⟩) hB).trans (h j hj).1, (hb.frozen (p := ⟨b, off + j, none⟩) hB).trans (h j hj).2⟩
theorem MutK.upd {k : IntKind} {b lo hi b' off n : Nat} {w x : World} {f : Nat → Int} (h : MutK k w b' off n f) (hu : Upd b lo hi w x) (hne : b' ≠ b) : MutK k x b' off n f := fun j hj =>
  ⟨(hu.far (a := ⟨b', off + j, none⟩) hne).trans (h j hj).1, (hu.frozen _).trans (h j hj).2⟩

/-- One limb is written. -/
def up (f : Nat → Int) (i : Nat) (x : Int) : Nat → Int := fun j => if j = i then x else f j
theorem up_at (f : Nat → Int) (i : Nat) (x : Int) : up f i x i = x := by unfold up; rw [if_pos rfl]
theorem up_ne {f : Nat → Int} {i j : Nat} {x : Int} (h : j ≠ i) : up f i x j = f j := by unfold up; rw [if_neg h]
theorem MutK.set {k : IntKind} {w : World} {b off n i : Nat} {f : Nat → Int} (h : MutK k w b off n f) (hi : i < n) (x : Int) : MutK k (w.setCell ⟨b, off + i, none⟩ (.int k x)) b off n (up f i x) := fun j hj => by
  by_cases e : j = i
  · subst e
    exact ⟨by rw [up_at]; exact World.cell?_setCell_same _ _ _ (h j hj).1, by simpa using (h j hj).2⟩
  · exact ⟨by rw [up_ne e, World.cell?_setCell_other _ _ _ _ (by intro e'; injection e'; omega)]; exact (h j hj).1, by simpa using (h j hj).2⟩

/-- g below i, f from i on: what a loop has done to a slice so far. -/
def mix (g f : Nat → Int) (i : Nat) : Nat → Int := fun j => if j < i then g j else f j
theorem mix_zero (g f : Nat → Int) (j : Nat) : mix g f 0 j = f j := by unfold mix; rw [if_neg (by omega)]
theorem mix_lo {g f : Nat → Int} {i j : Nat} (h : j < i) : mix g f i j = g j := by unfold mix; rw [if_pos h]
theorem mix_hi {g f : Nat → Int} {i j : Nat} (h : i ≤ j) : mix g f i j = f j := by unfold mix; rw [if_neg (by omega)]
theorem mix_up (g f : Nat → Int) (i j : Nat) : up (mix g f i) i (g i) j = mix g f (i + 1) j := by
  unfold up mix
  split
  · subst_vars; rw [if_pos (by omega)]
  · split
    · rw [if_pos (by omega)]
    · rw [if_neg (by omega)]
theorem MutK.step {k : IntKind} {w : World} {b off n i : Nat} {g f : Nat → Int} (h : MutK k w b off n (mix g f i)) (hi : i < n) : MutK k (w.setCell ⟨b, off + i, none⟩ (.int k (g i))) b off n (mix g f (i + 1)) :=
  (h.set hi (g i)).congr fun j _ => mix_up g f i j

theorem MutK.step0 {k : IntKind} {w : World} {b n i : Nat} {g f : Nat → Int} (h : MutK k w b 0 n (mix g f i)) (hi : i < n) : MutK k (w.setCell ⟨b, i, none⟩ (.int k (g i))) b 0 n (mix g f (i + 1)) := by
  have := h.step hi
  rwa [Nat.zero_add] at this
theorem MutK.set0 {k : IntKind} {w : World} {b n i : Nat} {f : Nat → Int} (h : MutK k w b 0 n f) (hi : i < n) (x : Int) : MutK k (w.setCell ⟨b, i, none⟩ (.int k x)) b 0 n (up f i x) := by
  have := h.set hi x
  rwa [Nat.zero_add] at this
/-- Noughts. -/
def Z : Nat → Int := fun _ => 0

/-- The row that the model's own table has for math/bits.Sub64. -/
def sub64Entry : Array Value → Sem Value := (Extern.MathBitsCarry.rows[1]'(by decide)).2

theorem run_sub64 {P : Program} (x y b : Int) (hx : 0 ≤ x ∧ x < B64) (hy : 0 ≤ y ∧ y < B64) (hb : 0 ≤ b ∧ b ≤ 1) (w : World) :
    (sub64Entry #[.int .u64 x, .int .u64 y, .int .u64 b]).run P w =
      .ok (.tuple #[.int .u64 ((x + B64 - y - b) % B64), .int .u64 (if x < y + b then 1 else 0)]) w := by
  have key : ∀ k : Nat, k ≤ 1 → (sub64Entry #[.int .u64 x, .int .u64 y, .int .u64 (k : Int)]).run P w =
      .ok (Extern.MathBitsCarry.pair ((x.toNat + Extern.MathBitsCarry.m64 - y.toNat - k) % Extern.MathBitsCarry.m64) (if x.toNat < y.toNat + k then 1 else 0)) w := by
    intro k hk
    have : k = 0 ∨ k = 1 := by omega
    rcases this with rfl | rfl <;> rfl
  obtain ⟨k, rfl⟩ := Int.eq_ofNat_of_zero_le hb.1
  rw [key k (by omega)]
  obtain ⟨X, rfl⟩ := Int.eq_ofNat_of_zero_le hx.1
  obtain ⟨Y, rfl⟩ := Int.eq_ofNat_of_zero_le hy.1
  rw [B64_eq] at *
  simp only [Extern.MathBitsCarry.pair, Extern.MathBitsCarry.m64, Int.toNat_natCast]
  have e1 : Int.ofNat ((X + 2 ^ 64 - Y - k) % 2 ^ 64) = ((X : Int) + 18446744073709551616 - Y - k) % 18446744073709551616 := by
    simp only [Int.ofNat_eq_natCast, Int.natCast_emod]
    have : ((X + 2 ^ 64 - Y - k : Nat) : Int) = (X : Int) + 18446744073709551616 - Y - k := by omega
    rw [this]; rfl
  have e2 : Int.ofNat (if X < Y + k then 1 else 0) = if (X : Int) < (Y : Int) + k then 1 else 0 := by
    split
    · rw [if_pos (by omega)]; rfl
    · rw [if_neg (by omega)]; rfl
  rw [e1, e2]

/-- make([]T, n), T an integer kind: n noughts in a new block. -/
theorem wpList_make_lim {P : Program} (w : World) {ops : Array Oper} {rest : List Oper} {o : Oper} {a : Act} {Q : Exit → Act → World → Prop} (k : IntKind)
    (hg : o.guard = none) (l c : Operand) (t e : TypeId) (hop : o.op = Op.makeSlice t l c) (h1 : P.underlying t = some (.slice e)) (i : TypeInfo) (h2 : P.info? e = some i) (h3 : i.zero = some (.int k 0)) (h4 : i.size = 1) (h5 : i.bytes ≤ 8)
    (kl kc : IntKind) (L C : Int) (n : Nat) (hl : a.eval l = .int kl L) (hc : a.eval c = .int kc C) (hL : L = (n : Int)) (hC : C = (n : Int)) (hn : n ≤ 17592186044416)
    (hK : ∀ w1, Below w.heap.size w w1 → w1.heap.size = w.heap.size + 1 → MutK k w1 w.heap.size 0 n Z → wpList P ops Q rest (a.put o.dst (.slice (some ⟨w.heap.size, 0, none⟩) n n)) w1) :
    wpList P ops Q (o :: rest) a w := by
  refine wpList_plain hg fun K hK' => ?_
  have hb : (i.bytes : Int) * (n : Int) ≤ 281474976710656 := by
    have : ((i.bytes * n : Nat) : Int) ≤ 281474976710656 := by
      have := Nat.mul_le_mul h5 hn
      omega
    rwa [Int.natCast_mul] at this
  have hr := run_make (P := P) w t e i (.int k 0) h1 h2 h3 kl kc n n (by omega) (by omega) hb (by omega)
  simp only [Int.toNat_natCast, h4, Nat.mul_one] at hr
  subst hL hC
  unfold Oper.wp
  simp [execOp, hop, hl, hc, hr, Result.andThen]
  refine hK' _ _ (hK _ ((Below.refl _ _).alloc (Nat.le_refl _) _) (by simp) fun j hj => ?_)
  have hsz : j < (madeCells (Value.int k 0).cells n).size := by rw [size_madeCells]; exact hj
  have hv : (madeCells (Value.int k 0).cells n)[j]? = some (.int k 0) := by
    rw [Array.getElem?_eq_getElem hsz]
    simp [madeCells, Value.cells, Nat.mod_one]
  have hh : (w.alloc (.cells (madeCells (Value.int k 0).cells n) e)).heap[w.heap.size]? = some (.cells (madeCells (Value.int k 0).cells n) e) := by
    show (w.heap.push _)[w.heap.size]? = _
    simp
  refine ⟨?_, ?_⟩
  · unfold World.cell?
    simp only [hh, Nat.zero_add]
    exact hv
  · unfold World.frozen?
    simp only [hh]
    simp

/-- As many cells as are copied. -/
theorem setCells_upd (k : IntKind) (b : Nat) (f : Nat → Int) : ∀ (m o : Nat) (w : World), Upd b o (o + m) w (w.setCells b o ((List.range m).map fun j => .int k (f j))) := by
  intro m o w
  refine ⟨?_, ?_, ?_, ?_, ?_, ?_, ?_⟩
  · generalize (List.range m).map (fun j => Value.int k (f j)) = l
    induction l generalizing o w with
    | nil => rfl
    | cons v r ih => rw [World.setCells, ih]; rfl
  · generalize (List.range m).map (fun j => Value.int k (f j)) = l
    induction l generalizing o w with
    | nil => rfl
    | cons v r ih => rw [World.setCells, ih]; rfl
  · generalize (List.range m).map (fun j => Value.int k (f j)) = l
    induction l generalizing o w with
    | nil => rfl
    | cons v r ih => rw [World.setCells, ih]; rfl
  · generalize (List.range m).map (fun j => Value.int k (f j)) = l
    induction l generalizing o w with
    | nil => rfl
    | cons v r ih => rw [World.setCells, ih]; simp [World.setCell]
  · intro j hj
    generalize (List.range m).map (fun j => Value.int k (f j)) = l
    induction l generalizing o w with
    | nil => rfl
    | cons v r ih => rw [World.setCells, ih]; exact Below.heap_setCell _ _ _ _ (by simpa using hj)
  · intro o' s ho
    refine World.cell?_setCells_out b _ o w _ fun _ _ => ?_
    simpa using ho
  · intro a
    exact World.frozen?_setCells b _ o w a

/-- copy(dst, src), dst in a block of its own. -/
theorem wpList_copy_lim {P : Program} {w : World} {ops : Array Oper} {rest : List Oper} {o : Oper} {a : Act} {Q : Exit → Act → World → Prop} (k : IntKind) (hgd : o.guard = none) (d s : Operand) (dT sT : TypeId)
    (ho : o.op = .call { callee := .builtin .copy, args := #[d, s], argTypes := #[dT, sT] }) (elem : TypeId) (hu : P.underlying dT = some (.slice elem)) (hsz : (P.info? elem).map (·.size) = some 1)
    (b off nd cd : Nat) (ps : Option Addr) (ns cs : Nat) (fd fs : Nat → Int) (hd : a.eval d = .slice (some ⟨b, off, none⟩) nd cd) (hs : a.eval s = .slice ps ns cs)
    (hm : MutK k w b off nd fd) (hat : AtK k w ps ns fs) (hle : ns ≤ nd)
    (hK : ∀ w1, Upd b off (off + ns) w w1 → MutK k w1 b off nd (mix fs fd ns) → wpList P ops Q rest (a.put o.dst (goInt ns)) w1) : wpList P ops Q (o :: rest) a w := by
  refine wpList_plain hgd fun K hK' => ?_
  have hmin : Nat.min ns nd = ns := Nat.min_eq_left hle
  by_cases h0 : ns = 0
  · subst h0
    have hrun := run_copy_none (P := P) w dT sT o.type elem (some ⟨b, off, none⟩) ps nd cd 0 cs hu hsz (by simp)
    unfold Oper.wp
    simp [execOp, ho, resolve, invoke, builtin, hd, hs, hrun, Result.andThen]
    exact hK' _ _ (hK w (Upd.refl _ _ _ _) (hm.congr fun j _ => (mix_zero _ _ _).symm))
  · obtain ⟨bs, offs, rfl, hc⟩ := hat (by omega)
    have hget : ∀ j v, ((List.range ns).map fun j => Value.int k (fs j))[j]? = some v → j < ns ∧ v = .int k (fs j) := fun j v h => by
      simp only [List.getElem?_map] at h
      by_cases hj : j < ns
      · rw [List.getElem?_range hj] at h
        simp at h
        exact ⟨hj, h.symm⟩
      · rw [List.getElem?_eq_none (by simpa using hj)] at h
        simp at h
    have hrun := run_copy_cells (P := P) w dT sT o.type elem b off nd cd ⟨bs, offs, none⟩ ns cs ((List.range ns).map fun j => Value.int k (fs j)) hu hsz (by simpa using hmin.symm)
      (fun j v h => by obtain ⟨hj, rfl⟩ := hget j v h; rw [show (⟨bs, offs, none⟩ : Addr).add j = ⟨bs, offs + j, none⟩ by unfold Addr.add; split <;> simp_all]; exact hc j hj)
      (fun j hj => by rw [(hm j (by simp at hj; omega)).1]; rfl) (fun j hj => (hm j (by simp at hj; omega)).2) (fun v hv => by simp at hv; obtain ⟨j, _, rfl⟩ := hv; rfl)
    simp only [List.length_map, List.length_range] at hrun
    unfold Oper.wp
    simp [execOp, ho, resolve, invoke, builtin, hd, hs, hrun, Result.andThen]
    have hup := setCells_upd k b fs ns off w
    refine hK' _ _ (hK _ hup fun j hj => ?_)
    refine ⟨?_, by rw [hup.frozen]; exact (hm j hj).2⟩
    by_cases hlt : j < ns
    · rw [mix_lo hlt]
      have := World.cell?_setCells_in b ((List.range ns).map fun j => Value.int k (fs j)) off w (fun i hi => by rw [(hm i (by simp at hi; omega)).1]; rfl) j (by simpa using hlt)
      simpa using this
    · rw [mix_hi (by omega), hup.cell _ _ (by omega)]
      exact (hm j hj).1

end Go.Proofs.Ytklddcicfeakfaa
