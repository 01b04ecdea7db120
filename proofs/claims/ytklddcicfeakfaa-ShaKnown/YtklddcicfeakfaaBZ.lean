/- Bytes in a plan: slices of bytes of one's own, as boxes. -/
import Derived.Test.YtklddcicfeakfaaRZ
import Derived.Test.YtklddcicfeakfaaPU
import Derived.Test.YtklddcicfeakfaaPT
import Derived.Test.YtklddcicfeakfaaPX
import Derived.Laws.MakeOwn
namespace Go.Proofs.Ytklddcicfeakfaa.fpn
open Go.RowKit Pl
set_option linter.unusedVariables false
set_option linter.unusedSimpArgs false
set_option maxRecDepth 4000

/-- The cells of bytes. -/
def BC (f : Nat → Int) (n : Nat) : List Value := (List.range n).map fun j => .int .u8 (f j)
theorem BC_len (f : Nat → Int) (n : Nat) : (BC f n).length = n := by simp [BC]
theorem BC_at {f : Nat → Int} {n j : Nat} (hj : j < n) : (BC f n)[j]? = some (.int .u8 (f j)) := by simp [BC, hj]
theorem BC_congr {f g : Nat → Int} {n : Nat} (h : ∀ j, j < n → f j = g j) : BC f n = BC g n := by
  unfold BC
  exact List.map_congr_left fun j hj => by rw [h j (by simpa using hj)]
/-- One byte turned. -/
def su (f : Nat → Int) (i : Nat) (x : Int) : Nat → Int := fun j => bif Nat.beq j i then x else f j
theorem su_at (f : Nat → Int) (i : Nat) (x : Int) : su f i x i = x := by unfold su; rw [show Nat.beq i i = true by simp]; rfl
theorem su_ne {f : Nat → Int} {i j : Nat} {x : Int} (h : j ≠ i) : su f i x j = f j := by unfold su; rw [show Nat.beq j i = false by cases hh : Nat.beq j i with | false => rfl | true => exact absurd (Nat.eq_of_beq_eq_true hh) h]; rfl
theorem box_of {w : World} {b n : Nat} {f : Nat → Int} (h0 : 0 < n) (h : MutK .u8 w b 0 n f) : Box w b (BC f n) := by
  refine ⟨cell_lt (h 0 h0).1, fun j v hv => ?_, fun j hj => ?_⟩
  · have hj : j < n := by have := (List.getElem?_eq_some_iff.1 hv).1; rwa [BC_len] at this
    rw [BC_at hj] at hv
    rw [(h j hj).1]; exact hv
  · rw [BC_len] at hj
    exact ⟨by rw [(h j hj).1]; rfl, (h j hj).2⟩
theorem box_at {w : World} {b n : Nat} {f : Nat → Int} (h : Box w b (BC f n)) : AtK .u8 w (some ⟨b, 0, none⟩) n f := fun _ => ⟨b, 0, rfl, fun j hj => h.cells j _ (BC_at hj)⟩

theorem box_eq {w : World} {b : Nat} {cs ds : List Value} (h : cs = ds) (hb : Box w b cs) : Box w b ds := h ▸ hb
theorem box_sub {w : World} {b n : Nat} {f : Nat → Int} (off m : Nat) (h : Box w b (BC f n)) (hm : off + m ≤ n) : AtK .u8 w (some ⟨b, off, none⟩) m (fun j => f (off + j)) := fun _ => ⟨b, off, rfl, fun j hj => by
  have := h.cells (off + j) _ (BC_at (show off + j < n by omega))
  rwa [Nat.zero_add] at this⟩
/-- A new slice of bytes: its block lies behind those that are named. -/
def isB (B : Nat) (bs : List Nat) (f : Nat → Int) (n : Nat) (v : Value) (w : World) : Prop := ∃ k c, v = .slice (some ⟨k, 0, none⟩) n c ∧ n ≤ c ∧ c ≤ 9223372036854775807 ∧ B ≤ k ∧ (∀ b ∈ bs, b < k) ∧ Box w k (BC f n)
theorem isB.stay {B : Nat} {bs : List Nat} {f : Nat → Int} {n : Nat} {v : Value} {w x : World} (h : isB B bs f n v w) (hb : Below w.heap.size w x) : isB B bs f n v x := by
  obtain ⟨k, c, e, h1, h2, h3, h4, h5⟩ := h
  exact ⟨k, c, e, h1, h2, h3, h4, h5.up hb⟩
/-- What a function answers whose answer is such a slice. -/
def RetB (f : Nat → Int) (n : Nat) (w : World) : Ending → World → Prop := fun e w' => ∃ v, e = .returned v ∧ isB w.heap.size [] f n v w' ∧ Below w.heap.size w w'
theorem RetB.congr {f g : Nat → Int} {n : Nat} {w : World} {fn : FuncId} {vs : Array Value} (h : ∀ j, j < n → f j = g j) (hc : Calls Try.prog fn vs w (RetB f n w)) : Calls Try.prog fn vs w (RetB g n w) := by
  refine Calls.mono hc ?_
  rintro e w' ⟨v, he, ⟨k, c, hv, h1, h2, h3, h4, h5⟩, hb⟩
  exact ⟨v, he, ⟨k, c, hv, h1, h2, h3, h4, by rw [← BC_congr h]; exact h5⟩, hb⟩
/-- .. and more beside it. -/
def isT (G : Value → Value) (B : Nat) (bs : List Nat) (f : Nat → Int) (n : Nat) (v : Value) (w : World) : Prop := ∃ s, v = G s ∧ isB B bs f n s w
theorem isT.stay {G : Value → Value} {B : Nat} {bs : List Nat} {f : Nat → Int} {n : Nat} {v : Value} {w x : World} (h : isT G B bs f n v w) (hb : Below w.heap.size w x) : isT G B bs f n v x := by
  obtain ⟨s, e, h⟩ := h
  exact ⟨s, e, h.stay hb⟩
def RetT (G : Value → Value) (f : Nat → Int) (n : Nat) (w : World) : Ending → World → Prop := fun e w' => ∃ v, e = .returned v ∧ isT G w.heap.size [] f n v w' ∧ Below w.heap.size w w'
def tupAt (n : Nat) (v : Value) : Value := (part? v n).getD undef
theorem Heap.add {B k : Nat} {w0 w : World} {H : List (Nat × List Value)} {cs : List Value} (h : Heap B w0 w H) (hB : B ≤ k) (hb : ∀ b ∈ H.map (·.1), b < k) (hx : Box w k cs) : Heap B w0 w (H ++ [(k, cs)]) := by
  refine ⟨h.bel, fun p hp => ?_, ?_, h.le⟩
  · rcases List.mem_append.1 hp with h1 | h1
    · exact h.box p h1
    · obtain rfl : p = (k, cs) := by simpa using h1
      exact ⟨hB, hx⟩
  · rw [List.map_append, List.nodup_append]
    refine ⟨h.nd, by simp, fun a ha b hb' => ?_⟩
    obtain rfl : b = k := by simpa using hb'
    exact Nat.ne_of_lt (hb a ha)
section
variable {ops : Array Oper} {ks : List Kind} {T : List Nat} {a0 : Act} {B : Nat} {w0 W0 : World} {H : List (Nat × List Value)} {i : Nat} {o : Oper}
theorem newB {L : Lt} {w : World} {fn : FuncId} {vs : Array Value} {f : Nat → Int} {n : Nat} (hs : Seen ks T B w0 H L i w) (bs : List Nat) (h : Calls Try.prog fn vs w (RetB f n w)) (hb : bs = H.map (·.1) := by rfl) : Calls Try.prog fn vs w fun e w' => ∃ v, e = .returned v ∧ isB B bs f n v w' ∧ Below w.heap.size w w' := by
  refine Calls.mono h ?_
  rintro e w' ⟨v, he, ⟨k, c, hv, h1, h2, h3, h4, h5⟩, hbl⟩
  refine ⟨v, he, ⟨k, c, hv, h1, h2, Nat.le_trans hs.le h3, fun b hbm => ?_, h5⟩, hbl⟩
  rw [hb] at hbm
  obtain ⟨p, hp, rfl⟩ := List.mem_map.1 hbm
  exact Nat.lt_of_lt_of_le (hs.base p hp).lt h3
theorem newT {L : Lt} {w : World} {fn : FuncId} {vs : Array Value} {G : Value → Value} {f : Nat → Int} {n : Nat} (hs : Seen ks T B w0 H L i w) (bs : List Nat) (h : Calls Try.prog fn vs w (RetT G f n w)) (hb : bs = H.map (·.1) := by rfl) : Calls Try.prog fn vs w fun e w' => ∃ v, e = .returned v ∧ isT G B bs f n v w' ∧ Below w.heap.size w w' := by
  refine Calls.mono h ?_
  rintro e w' ⟨v, he, ⟨s, es, ⟨k, c, hv, h1, h2, h3, h4, h5⟩⟩, hbl⟩
  refine ⟨v, he, ⟨s, es, ⟨k, c, hv, h1, h2, Nat.le_trans hs.le h3, fun b hbm => ?_, h5⟩⟩, hbl⟩
  rw [hb] at hbm
  obtain ⟨p, hp, rfl⟩ := List.mem_map.1 hbm
  exact Nat.lt_of_lt_of_le (hs.base p hp).lt h3
theorem run_ext {t : Operand} {n : Nat} {x c : Value} {L : Lt} {w : World} (ho : o.op = .extract t n) (hx : rd ops ks T a0 L i t = x) (h : part? x n = some c) : (execOp (rd ops ks T a0 L i) o).run Try.prog w = .ok (.value c) w := by
  unfold execOp
  simp only [ho, hx]
  cases x <;> simp only [part?] at h <;> try (cases h; done)
  simp only [Instr.extract, h]; rfl
/-- What stands beside the new slice. -/
theorem oXT {G : Value → Value} {bs : List Nat} {f : Nat → Int} {n0 n : Nat} {t : Operand} {c : Value} (j : Nat) (hG : ∀ s, part? (G s) n = some c) (hj : kd ks j = .any (isT G B bs f n0) := by exact rfl) (hbf : bef T i j = true := by kernel_rfl)
    (hx : ∀ L, rd ops ks T a0 L i t = L.v j := by intro _; kernel_rfl) (he : Pl.early T ks i = true := by kernel_rfl) (hw : ∀ L, wantedR ks L o = true := by intro _; kernel_rfl) (ho : o.op = .extract t n := by exact rfl) (hk : kd ks i = .det c) : Obl Try.prog ops ks T a0 B w0 H i o := ⟨ob_det hw hk fun L w hs => by
  obtain ⟨s, es, _⟩ := (hs he).any j _ hj hbf
  rw [run_ext ho ((hx L).trans es) (hG s)]
  exact ⟨rfl, Below.refl _ _⟩⟩
theorem oXS {G : Value → Value} {bs : List Nat} {f : Nat → Int} {n0 n : Nat} {t : Operand} (j : Nat) (hG : ∀ s, part? (G s) n = some s) (hj : kd ks j = .any (isT G B bs f n0) := by exact rfl) (hbf : bef T i j = true := by kernel_rfl)
    (hx : ∀ L, rd ops ks T a0 L i t = L.v j := by intro _; kernel_rfl) (he : Pl.early T ks i = true := by kernel_rfl) (hw : ∀ L, wantedR ks L o = true := by intro _; kernel_rfl) (ho : o.op = .extract t n := by exact rfl) (hk : kd ks i = .detV j (tupAt n)) : Obl Try.prog ops ks T a0 B w0 H i o := ⟨fun L w hs => by
  rw [if_pos (hw L), hk]
  obtain ⟨s, es, _⟩ := (hs he).any j _ hj hbf
  have hv : Pl.val ks L i = s := by unfold Pl.val; rw [hk]; show tupAt n (L.v j) = s; rw [es]; unfold tupAt; rw [hG s]; rfl
  simp only [hv]
  rw [run_ext ho ((hx L).trans es) (hG s)]
  exact ⟨rfl, Below.refl _ _⟩⟩
theorem oAX {n k : Nat} {x : Operand} (hw : ∀ L, wantedR ks L o = true := by intro _; kernel_rfl) (ho : o.op = .assign x := by exact rfl) (hx : ∀ L, rd ops ks T a0 L i x = tupAt n (L.v k) := by intro _; kernel_rfl) (hk : kd ks i = .detV k (tupAt n)) : Obl Try.prog ops ks T a0 B w0 H i o :=
  ⟨ob_pureV hw hk fun L w => by unfold execOp; simp only [ho, hx L]; rfl⟩
theorem oneY : OneT Try.prog 5 := ⟨Try.isAgg5, by kernel_rfl⟩
theorem sizeY : (Try.prog.info? 5).map (·.size) = some 1 := by kernel_rfl
/-- make([]byte, n). -/
theorem oMk {x y : Operand} {n : Nat} (bs : List Nat) (h0 : 0 < n) (hn : n ≤ 1000) (hw : ∀ L, wantedR ks L o = true := by intro _; kernel_rfl) (he : Pl.early T ks i = true := by kernel_rfl) (ho : o.op = .makeSlice 22 x y := by exact rfl)
    (hx : ∀ L, rd ops ks T a0 L i x = .int .i64 (n : Int) := by intro _; kernel_rfl) (hy : ∀ L, rd ops ks T a0 L i y = .int .i64 (n : Int) := by intro _; kernel_rfl) (hb : bs = H.map (·.1) := by rfl) (hk : kd ks i = .any (isB B bs (fun _ => 0) n)) : Obl Try.prog ops ks T a0 B w0 H i o := ⟨fun L w hsn => by
  rw [if_pos (hw L), hk]
  refine ⟨fun v w x h hb => h.stay hb, ?_⟩
  obtain ⟨i0, hi0, hz0, hz1, hz2⟩ := info_parts info8
  have hr := run_makeSlice (P := Try.prog) (w := w) 22 5 i0 (.int .u8 0) Try.underlying22 hi0 hz0 .i64 .i64 (n : Int) (n : Int) (by omega) (Int.le_refl _) (by rw [hz1]; omega) (by rw [hz2]; omega) (by omega)
  have this : (execOp (rd ops ks T a0 L i) o).run Try.prog w = .ok (.value (.slice (some ⟨w.heap.size, 0, none⟩) n n)) (w.alloc (.cells (madeCells (Value.int .u8 0).cells (n * i0.size)) 5)) := by
    unfold execOp
    simp only [ho, hx L, hy L, Sem.run_bind, hr]
    rfl
  rw [this]
  have hc : madeCells (Value.int .u8 0).cells (n * i0.size) = (BC (fun _ => 0) n).toArray := by
    apply Array.ext'
    rw [hz1, Nat.mul_one]
    unfold madeCells BC
    simp [Value.cells, Nat.mod_one]
  rw [hc]
  have hs := hsn he
  refine ⟨⟨w.heap.size, n, rfl, Nat.le_refl _, by omega, hs.le, fun b hbm => ?_, Box.new w _ _⟩, (Below.refl _ _).alloc (Nat.le_refl _) _⟩
  rw [hb] at hbm
  obtain ⟨p, hp, rfl⟩ := List.mem_map.1 hbm
  exact (hs.base p hp).lt⟩
/-- make([]byte, n), its block told by the plan. -/
theorem oMa {x y : Operand} {n : Nat} (h0 : 0 < n) (hn : n ≤ 1000) (hw : ∀ L, wantedR ks L o = true := by intro _; kernel_rfl) (ho : o.op = .makeSlice 22 x y := by exact rfl)
    (hx : ∀ L, rd ops ks T a0 L i x = .int .i64 (n : Int) := by intro _; kernel_rfl) (hy : ∀ L, rd ops ks T a0 L i y = .int .i64 (n : Int) := by intro _; kernel_rfl) (hz : ∀ b, yields (BC (fun _ => 0) n) b = .slice (some ⟨b, 0, none⟩) n n := by intro _; kernel_rfl) (hk : kd ks i = .alloc (BC (fun _ => 0) n)) : Obl Try.prog ops ks T a0 B w0 H i o := ⟨fun L w hsn => by
  rw [if_pos (hw L), hk]
  obtain ⟨i0, hi0, hz0, hz1, hz2⟩ := info_parts info8
  have hr := run_makeSlice (P := Try.prog) (w := w) 22 5 i0 (.int .u8 0) Try.underlying22 hi0 hz0 .i64 .i64 (n : Int) (n : Int) (by omega) (Int.le_refl _) (by rw [hz1]; omega) (by rw [hz2]; omega) (by omega)
  have hc : madeCells (Value.int .u8 0).cells (n * i0.size) = (BC (fun _ => 0) n).toArray := by
    apply Array.ext'
    rw [hz1, Nat.mul_one]
    unfold madeCells BC
    simp [Value.cells, Nat.mod_one]
  refine ⟨5, ?_⟩
  rw [hz, ← hc]
  unfold execOp
  simp only [ho, hx L, hy L, Sem.run_bind, hr]
  rfl⟩
theorem oAN {n k : Nat} {x : Operand} (hw : ∀ L, wantedR ks L o = true := by intro _; kernel_rfl) (ho : o.op = .assign x := by exact rfl) (hx : ∀ L, rd ops ks T a0 L i x = .slice (some ⟨L.b k, 0, none⟩) n n := by intro _; kernel_rfl) (hk : kd ks i = .detB k (fun b => .slice (some ⟨b, 0, none⟩) n n)) : Obl Try.prog ops ks T a0 B w0 H i o :=
  ⟨ob_pureB hw hk fun L w => by unfold execOp; simp only [ho, hx L]; rfl⟩
/-- A slice without elements. -/
def isE (v : Value) (w : World) : Prop := ∃ a : Addr, v = .slice (some a) 0 0
theorem oE0 (hw : ∀ L, wantedR ks L o = true := by intro _; kernel_rfl) (ho : o.op = .buildSlice 22 0 #[] := by exact rfl) (hk : kd ks i = .any isE) : Obl Try.prog ops ks T a0 B w0 H i o := ⟨fun L w hsn => by
  rw [if_pos (hw L), hk]
  refine ⟨fun v w x h hb => h, ?_⟩
  obtain ⟨i0, hi0, hz0, hz1, hz2⟩ := info_parts info8
  have this : (execOp (rd ops ks T a0 L i) o).run Try.prog w = .ok (.value (.slice (some ⟨w.heap.size, 0, none⟩) 0 0)) (w.alloc (.cells #[] 5)) := by
    unfold execOp
    simp [ho, Instr.buildSlice, Sem.run_bind, run_underlying Try.underlying22, sizeOf, typeInfo, hi0, hz1, Instr.fill, newRow]
    rw [show Array.map (fun _ : Nat => (default : Value)) (Array.range 0) = #[] from Array.eq_empty_of_size_eq_zero (by simp)]
  rw [this]
  exact ⟨⟨_, rfl⟩, (Below.refl _ _).alloc (Nat.le_refl _) _⟩⟩
/-- One list of bytes behind another. -/
def cat (f : Nat → Int) (m : Nat) (g : Nat → Int) : Nat → Int := fun j => bif Nat.blt j m then f j else g (j - m)
theorem BC_cat (f : Nat → Int) (m : Nat) (g : Nat → Int) (n : Nat) : BC f m ++ BC g n = BC (cat f m g) (m + n) := by
  unfold BC
  rw [List.range_add, List.map_append, List.map_map]
  congr 1
  · exact List.map_congr_left fun j hj => by
      have : j < m := by simpa using hj
      show _ = Value.int .u8 (bif Nat.blt j m then f j else g (j - m))
      rw [show Nat.blt j m = true by simpa using this]; rfl
  · exact List.map_congr_left fun j hj => by
      show _ = Value.int .u8 (bif Nat.blt (m + j) m then f (m + j) else g (m + j - m))
      rw [show Nat.blt (m + j) m = false by cases hh : Nat.blt (m + j) m with | false => rfl | true => exact absurd (Nat.le_of_ble_eq_true hh) (by omega), Nat.add_sub_cancel_left]; rfl
theorem box_front {w : World} {b : Nat} {cs ds : List Value} (h : Box w b (cs ++ ds)) : Box w b cs :=
  ⟨h.lt, fun j v hv => h.cells j v (by rw [List.getElem?_append_left (List.getElem?_eq_some_iff.1 hv).1]; exact hv), fun j hj => h.free j (by rw [List.length_append]; omega)⟩
/-- append(x, y...), x full. -/
theorem oAp {x y : Operand} {f0 g : Nat → Int} {m n : Nat} (bs : List Nat) (h0 : 0 < n) (hm : m + n ≤ 1000)
    (hx : ∀ L w, Seen ks T B w0 H L i w → ∃ a, rd ops ks T a0 L i x = .slice (some a) m m ∧ ∀ j, j < m → w.cell? (a.add j) = some (.int .u8 (f0 j)))
    (hy : ∀ L w, Seen ks T B w0 H L i w → ∃ a c, rd ops ks T a0 L i y = .slice (some a) n c ∧ ∀ j, j < n → w.cell? (a.add j) = some (.int .u8 (g j)))
    (hw : ∀ L, wantedR ks L o = true := by intro _; kernel_rfl) (he : Pl.early T ks i = true := by kernel_rfl) (ho : o.op = .call { callee := .builtin .append, args := #[x, y], argTypes := #[22, 22] } := by exact rfl)
    (hb : bs = H.map (·.1) := by rfl) (hk : kd ks i = .any (isB B bs (cat f0 m g) (m + n))) : Obl Try.prog ops ks T a0 B w0 H i o := ⟨fun L w hsn => by
  rw [if_pos (hw L), hk]
  refine ⟨fun v w x h hb => h.stay hb, ?_⟩
  have hs := hsn he
  obtain ⟨a, ex, hcx⟩ := hx L w hs
  obtain ⟨a', c, ey, hcy⟩ := hy L w hs
  obtain ⟨i0, hi0, hz0, hz1, hz2⟩ := info_parts info8
  have hr := run_append_grow (P := Try.prog) (w := w) 22 o.type 5 i0 (.int .u8 0) Try.underlying22 hi0 hz0 a m m (BC f0 m) (by rw [BC_len, hz1, Nat.mul_one])
    (fun j v hv => by
      have hj : j < m := by have := (List.getElem?_eq_some_iff.1 hv).1; rwa [BC_len] at this
      rw [BC_at hj] at hv; rw [hcx j hj]; exact hv)
    a' n c (BC g n) (by rw [BC_len, hz1, Nat.mul_one])
    (fun j v hv => by
      have hj : j < n := by have := (List.getElem?_eq_some_iff.1 hv).1; rwa [BC_len] at this
      rw [BC_at hj] at hv; rw [hcy j hj]; exact hv)
    (by omega) (by omega) (by rw [hz2, Nat.mul_one]; have := nextslicecap_le (need := m + n) (old := m) (by omega); omega)
  have this : (execOp (rd ops ks T a0 L i) o).run Try.prog w = .ok (.value (.slice (some ⟨w.heap.size, 0, none⟩) (m + n) (grownCap w (m + n) m 5))) (w.drew.alloc (.cells ((BC f0 m).toArray ++ (BC g n).toArray ++ Builtin.zeroCells (Value.int .u8 0).cells (grownCap w (m + n) m 5 - (m + n))) 5)) := by
    unfold execOp
    simp [ho, resolve, ex, ey, invoke, builtin, Sem.run_bind, hr]
  rw [this]
  have hc : (BC f0 m).toArray ++ (BC g n).toArray ++ Builtin.zeroCells (Value.int .u8 0).cells (grownCap w (m + n) m 5 - (m + n)) = (BC (cat f0 m g) (m + n) ++ (Builtin.zeroCells (Value.int .u8 0).cells (grownCap w (m + n) m 5 - (m + n))).toList).toArray := by
    apply Array.ext'
    rw [← BC_cat]
    simp
  rw [hc]
  refine ⟨⟨w.heap.size, _, rfl, grownCap_ge _ _ _ _, Nat.le_trans (grownCap_le_maxLen _ _ _ _ (by unfold maxLen; omega)) (by unfold maxLen; omega), hs.le, fun b hbm => ?_, box_front (Box.new w.drew _ _)⟩, Below.alloc (Below.drew (Below.refl _ _)) (Nat.le_refl _) _⟩
  rw [hb] at hbm
  obtain ⟨p, hp, rfl⟩ := List.mem_map.1 hbm
  exact (hs.base p hp).lt⟩
theorem Seen.any' {L : Lt} {w : World} {C : Value → World → Prop} (hs : Seen ks T B w0 H L i w) (j : Nat) (hj : kd ks j = .any C) (hbf : bef T i j = true) : C (L.v j) w := hs.any j C hj hbf
/-- append([]byte{}, b...), b having come in. -/
theorem oApE {x y : Operand} {g : Nat → Int} {n c : Nat} {p : Option Addr} (bs : List Nat) (j : Nat) (h0 : 0 < n) (hm : n ≤ 1000) (hb0 : AtK .u8 w0 p n g)
    (hj : kd ks j = .any isE := by exact rfl) (hbf : bef T i j = true := by kernel_rfl) (hx : ∀ L, rd ops ks T a0 L i x = L.v j := by intro _; kernel_rfl) (hy : ∀ L, rd ops ks T a0 L i y = .slice p n c := by intro _; kernel_rfl)
    (hw : ∀ L, wantedR ks L o = true := by intro _; kernel_rfl) (he : Pl.early T ks i = true := by kernel_rfl) (ho : o.op = .call { callee := .builtin .append, args := #[x, y], argTypes := #[22, 22] } := by exact rfl)
    (hb : bs = H.map (·.1) := by rfl) (hk : kd ks i = .any (isB w0.heap.size bs g n)) : Obl Try.prog ops ks T a0 w0.heap.size w0 H i o := by
  have e : isB w0.heap.size bs g n = isB w0.heap.size bs (cat (fun _ => 0) 0 g) (0 + n) := by rw [Nat.zero_add]; rfl
  rw [e] at hk
  refine oAp bs h0 (by omega) (fun L w hs => ?_) (fun L w hs => ?_) hw he ho hb hk
  · obtain ⟨a, ea⟩ := hs.any j _ hj hbf
    exact ⟨a, (hx L).trans ea, fun j hj => absurd hj (by omega)⟩
  · obtain ⟨b, off, rfl, hc⟩ := (AtK.below hb0 hs.bel) h0
    exact ⟨⟨b, off, none⟩, c, hy L, fun j hj => by rw [Addr.add_mid]; exact hc j hj⟩
/-- A byte of one's own, at a number. -/
theorem oLY {x : Operand} {b n j : Nat} {f : Nat → Int} (k : Nat) (hj : j < n) (he : Pl.early T ks i = true := by kernel_rfl) (hw : ∀ L, wantedR ks L o = true := by intro _; kernel_rfl) (ho : o.op = .load 5 x := by exact rfl)
    (hb : H[k]? = some (b, BC f n) := by exact rfl) (hx : ∀ L, rd ops ks T a0 L i x = .pointer (some ⟨b, 0 + j * 1, none⟩) := by intro _; kernel_rfl) (hk : kd ks i = .det (.int .u8 (f j))) : Obl Try.prog ops ks T a0 B w0 H i o := ⟨ob_det hw hk fun L w hs => by
    have hc := (seen_at (hs he) hb).cells j _ (BC_at hj)
    have : (execOp (rd ops ks T a0 L i) o).run Try.prog w = .ok (.value (.int .u8 (f j))) w := by
      unfold execOp
      simp only [ho, hx L, Sem.run_bind, Nat.mul_one, run_load1 oneY hc]
      rfl
    rw [this]
    exact ⟨rfl, Below.refl _ _⟩⟩
/-- The rest of a slice of bytes. -/
theorem oSG {x l : Operand} {b len c n : Nat} (hn : n ≤ len) (hc : n < c) (hlc : len ≤ c) (hw : ∀ L, wantedR ks L o = true := by intro _; kernel_rfl) (ho : o.op = .slice 22 x (some l) none none := by exact rfl)
    (hx : ∀ L, rd ops ks T a0 L i x = .slice (some ⟨b, 0, none⟩) len c := by intro _; kernel_rfl) (hl : ∀ L, rd ops ks T a0 L i l = .int .i64 (n : Int) := by intro _; kernel_rfl) (hk : kd ks i = .det (.slice (some ⟨b, n, none⟩) (len - n) (c - n))) : Obl Try.prog ops ks T a0 B w0 H i o := ⟨ob_pure hw hk fun L w => by
    have h1 : (0 : Int) ≤ (n : Int) ∧ (n : Int) ≤ (len : Int) := ⟨by omega, by omega⟩
    have h2 : ¬ c = n := by omega
    have h3 : (0 : Int) ≤ (len : Int) ∧ (len : Int) ≤ (c : Int) := ⟨by omega, by omega⟩
    have hsz : (sizeOf 5).run Try.prog w = .ok 1 w := size_of sizeY w
    unfold execOp
    simp [ho, hx L, hl L, Instr.sliceAt, Instr.slice, Instr.sliceBounds, Instr.sliceBound, asIntOf, Sem.run_bind, run_underlying Try.underlying22, hsz, hn, hlc, h2, Addr.add_mid]⟩
/-- A new slice of bytes that is full. -/
def isC (B : Nat) (bs : List Nat) (f : Nat → Int) (n : Nat) (v : Value) (w : World) : Prop := ∃ k, v = .slice (some ⟨k, 0, none⟩) n n ∧ Box w k (BC f n)
theorem isC.stay {B : Nat} {bs : List Nat} {f : Nat → Int} {n : Nat} {v : Value} {w x : World} (h : isC B bs f n v w) (hb : Below w.heap.size w x) : isC B bs f n v x := by
  obtain ⟨k, e, h5⟩ := h
  exact ⟨k, e, h5.up hb⟩
def RetC (f : Nat → Int) (n : Nat) (w : World) : Ending → World → Prop := fun e w' => ∃ v, e = .returned v ∧ isC 0 [] f n v w' ∧ Below w.heap.size w w'
theorem newC {L : Lt} {w : World} {fn : FuncId} {vs : Array Value} {f : Nat → Int} {n : Nat} (hs : Seen ks T B w0 H L i w) (bs : List Nat) (h : Calls Try.prog fn vs w (RetC f n w)) : Calls Try.prog fn vs w fun e w' => ∃ v, e = .returned v ∧ isC B bs f n v w' ∧ Below w.heap.size w w' := h
/-- append(x, y...), both such slices. -/
theorem oApC {x y : Operand} {f g : Nat → Int} {m n : Nat} {bs1 bs2 : List Nat} (bs : List Nat) (j1 j2 : Nat) (h0 : 0 < n) (hm : m + n ≤ 1000)
    (hj1 : kd ks j1 = .any (isC B bs1 f m) := by exact rfl) (hb1 : bef T i j1 = true := by kernel_rfl) (hx : ∀ L, rd ops ks T a0 L i x = L.v j1 := by intro _; kernel_rfl)
    (hj2 : kd ks j2 = .any (isC B bs2 g n) := by exact rfl) (hb2 : bef T i j2 = true := by kernel_rfl) (hy : ∀ L, rd ops ks T a0 L i y = L.v j2 := by intro _; kernel_rfl)
    (hw : ∀ L, wantedR ks L o = true := by intro _; kernel_rfl) (he : Pl.early T ks i = true := by kernel_rfl) (ho : o.op = .call { callee := .builtin .append, args := #[x, y], argTypes := #[22, 22] } := by exact rfl)
    (hb : bs = H.map (·.1) := by rfl) (hk : kd ks i = .any (isB B bs (cat f m g) (m + n))) : Obl Try.prog ops ks T a0 B w0 H i o := by
  refine oAp bs h0 hm (fun L w hs => ?_) (fun L w hs => ?_) hw he ho hb hk
  · obtain ⟨k, e, hB⟩ := hs.any j1 _ hj1 hb1
    exact ⟨⟨k, 0, none⟩, (hx L).trans e, fun j hj => by rw [Addr.add_mid]; exact hB.cells j _ (BC_at hj)⟩
  · obtain ⟨k, e, hB⟩ := hs.any j2 _ hj2 hb2
    exact ⟨⟨k, 0, none⟩, n, (hy L).trans e, fun j hj => by rw [Addr.add_mid]; exact hB.cells j _ (BC_at hj)⟩
theorem splice_BC (f : Nat → Int) {n j : Nat} (v : Int) (hj : j < n) : BC (su f j v) n = Pl.splice (BC f n) (0 + j * 1) [.int .u8 v] := by
  rw [Nat.zero_add, Nat.mul_one]
  unfold Pl.splice
  rw [List.append_assoc]
  refine List.ext_getElem? fun i => ?_
  have l1 : (List.take j (BC f n)).length = j := by rw [List.length_take, BC_len]; omega
  rcases Nat.lt_or_ge i n with hi | hi
  · rw [BC_at hi]
    rcases Nat.lt_trichotomy i j with h | h | h
    · rw [List.getElem?_append_left (by rw [l1]; exact h), List.getElem?_take_of_lt h, BC_at hi, su_ne (by omega)]
    · subst h
      rw [List.getElem?_append_right (by rw [l1]; exact Nat.le_refl _), l1, Nat.sub_self, su_at]; rfl
    · rw [List.getElem?_append_right (by rw [l1]; omega), l1, List.getElem?_append_right (by show 1 ≤ i - j; omega), List.getElem?_drop, su_ne (by omega)]
      show _ = (BC f n)[j + 1 + (i - j - 1)]?
      rw [show j + 1 + (i - j - 1) = i by omega, BC_at hi]
  · rw [List.getElem?_eq_none (by rw [BC_len]; exact hi), List.getElem?_eq_none]
    rw [List.length_append, List.length_append, l1, List.length_drop, BC_len]
    show j + (1 + (n - (j + 1))) ≤ i
    omega
/-- A store into bytes of one's own, at a number. -/
theorem oTY {x y : Operand} {l : Pl.Loc} {j n : Nat} {f : Nat → Int} {v : Int} (hj : j < n) (hl : oldOf ks H l = BC f n := by kernel_rfl) (hw : ∀ L, wantedR ks L o = true := by intro _; kernel_rfl) (ho : o.op = .store 5 x y := by exact rfl)
    (hx : ∀ L, rd ops ks T a0 L i x = .pointer (some ⟨addr H L l, 0 + j * 1, none⟩) := by intro _; kernel_rfl) (hy : ∀ L, rd ops ks T a0 L i y = .int .u8 v := by intro _; kernel_rfl) (hk : kd ks i = .store l (0 + j * 1) [.int .u8 v] (BC (su f j v) n)) : Obl Try.prog ops ks T a0 B w0 H i o :=
  oT1 oneY rfl hw ho hx hy rfl (by rw [hl, BC_len]; exact Nat.ble_eq_true_of_le (by omega)) (by rw [hl]; exact splice_BC f v hj) hk
theorem remN (t : TypeId) (n m r : Nat) (hm : 0 < m) (hn : n < 1000000) (hr : n % m = r) (w : World) : (binOp .rem t (.int .i64 (n : Int)) (.int .i64 (m : Int))).run Try.prog w = .ok (.int .i64 (r : Int)) w := by
  have e0 : (n : Int).tmod (m : Int) = (r : Int) := by rw [Int.tmod_eq_emod_of_nonneg (by omega), ← hr]; rfl
  have h1 : ¬ m = 0 := by omega
  have e : IntKind.i64.wrap (r : Int) = (r : Int) := by
    have : r ≤ n := by rw [← hr]; exact Nat.mod_le _ _
    unfold IntKind.wrap; simp [IntKind.bits, IntKind.signed]; omega
  simp [binOp, Sem.run_bind, Op.intDiv, e0, h1, e]
theorem mulY (t : TypeId) (a b c : Int) (h : a * b = c) (h0 : 0 ≤ c ∧ c < 256) (w : World) : (binOp .mul t (.int .u8 a) (.int .u8 b)).run Try.prog w = .ok (.int .u8 c) w := by
  have e : IntKind.u8.wrap (a * b) = c := by unfold IntKind.wrap; simp [IntKind.bits, IntKind.signed]; omega
  simp only [binOp, Op.intArith, e]; simp [Sem.run_bind, e]
theorem shrY (t : TypeId) (a b : Int) (k : Nat) (h : a / 2 ^ k = b) (hk : k < 8) (w : World) : (binOp .shr t (.int .u8 a) (.int .u64 (k : Int))).run Try.prog w = .ok (.int .u8 b) w := by
  have e : min k IntKind.u8.bits = k := by simp [IntKind.bits]; omega
  have e2 : a.fdiv (2 ^ k) = a / 2 ^ k := Int.fdiv_eq_ediv_of_nonneg _ (Int.le_of_lt (Int.pow_pos (by decide)))
  simp [binOp, Op.shift, Sem.run_bind, e, e2, h]
theorem remY (t : TypeId) (a b c : Int) (h : a % b = c) (h0 : 0 ≤ a) (hb : 0 < b) (w : World) : (binOp .rem t (.int .u8 a) (.int .u8 b)).run Try.prog w = .ok (.int .u8 c) w := by
  have e : a.tmod b = c := by rw [Int.tmod_eq_emod_of_nonneg h0]; exact h
  have h1 : ¬ b = 0 := by omega
  simp [binOp, Op.intDiv, Sem.run_bind, h1, e]
theorem lssY (t : TypeId) (a b : Int) (w : World) : (binOp .lss t (.int .u8 a) (.int .u8 b)).run Try.prog w = .ok (.bool (decide (a < b))) w := by simp [binOp, Op.intCmp, Sem.run_bind]
theorem geqY (t : TypeId) (a b : Int) (w : World) : (binOp .geq t (.int .u8 a) (.int .u8 b)).run Try.prog w = .ok (.bool (decide (b ≤ a))) w := by simp [binOp, Op.intCmp, Sem.run_bind]
end

end Go.Proofs.Ytklddcicfeakfaa.fpn
