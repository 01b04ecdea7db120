/- A region goes by its plan, what is left written out; a function's results. No program is named here. -/
import Derived.Test.YtklddcicfeakfaaPO
import Derived.LoopN
namespace Go.Proofs.Ytklddcicfeakfaa.Pl
open Go Go.RowKit
set_option linter.unusedVariables false
set_option linter.unusedSimpArgs false

section
variable {P : Program} {ops : Array Oper} {ks : List Kind} {T : List Nat} {a0 : Act} {B : Nat} {w0 W0 : World} {H : List (Nat × List Value)} {Q : Exit → Act → World → Prop}

theorem Heap.start (w : World) : Heap w.heap.size w w [] := ⟨Below.refl _ _, fun p hp => (by cases hp), List.nodup_nil, Nat.le_refl _⟩
theorem Heap.bound {b : Nat} {cs : List Value} (h : Heap B w0 W0 H) (k : Nat) (hk : H[k]? = some (b, cs)) : B ≤ b ∧ Box W0 b cs := h.box (b, cs) (List.mem_of_getElem? hk)

theorem draws {id nt nh : Nat} {A : Lt → List Value} {H' : Lt → List (Nat × List Value)} (hm : P.follows .mixedOrders = true) (hc : chk ops ks T nt nh = true) (hnt : nt = a0.tmps.size) (hnh : nh = H.length) (hdf : a0.defers = [])
    (hA : ∀ L, (List.range nt).map (slotF ops ks a0 L) = A L) (hF : ∀ L, heapF ks H L = H' L) (hHp : Heap B w0 W0 H) (hob : AllOb P ops ks T a0 B w0 H 0 ops.toList)
    (hQ : ∀ L w, Heap B w0 w (H' L) → Q .normal { tmps := (A L).toArray, defers := [] } w) :
    (Code.region id ops true).wp P Q a0 W0 :=
  drawn hm hc hnt hnh hHp hob fun L w h _ => by
    rw [← hnt, hA L, hdf]
    exact hQ L w (hF L ▸ h)

theorem goes {id nt nh : Nat} {A : Lt → List Value} {H' : Lt → List (Nat × List Value)} (hc : chk ops ks T nt nh = true) (hnt : nt = a0.tmps.size) (hnh : nh = H.length) (hdf : a0.defers = [])
    (hA : ∀ L, (List.range nt).map (slotF ops ks a0 L) = A L) (hF : ∀ L, heapF ks H L = H' L) (hHp : Heap B w0 W0 H) (hob : AllOb P ops ks T a0 B w0 H 0 ops.toList)
    (hQ : ∀ L w, Heap B w0 w (H' L) → Q .normal { tmps := (A L).toArray, defers := [] } w) :
    (Code.region id ops false).wp P Q a0 W0 :=
  plain hc hnt hnh hHp hob fun L w h _ => by
    rw [← hnt, hA L, hdf]
    exact hQ L w (hF L ▸ h)

theorem then_exit {K : Act → World → Prop} {id : Nat} {a : Act} {w : World} (h : Q (.exit id) a w) : Exit.then K Q (.exit id) a w := h
theorem then_normal {K : Act → World → Prop} {a : Act} {w : World} (h : K a w) : Exit.then K Q .normal a w := h
theorem block_normal {id : Nat} {a : Act} {w : World} (h : Q .normal a w) : Exit.inBlock id Q .normal a w := h
theorem exit_in {id : Nat} {a : Act} {w : World} (h : Q .normal a w) : Exit.inBlock id Q (.exit id) a w := by simp only [Exit.inBlock, if_true]; exact h
theorem exit_out {id id' : Nat} {a : Act} {w : World} (hne : id' ≠ id) (h : Q (.exit id') a w) : Exit.inBlock id Q (.exit id') a w := by simp only [Exit.inBlock, if_neg hne]; exact h
theorem rounds_step {c : Code} {n : Nat} {a : Act} {w : World} (h : c.wp P (Exit.then (Code.rounds P c Q n) Q) a w) : Code.rounds P c Q (n + 1) a w := h
theorem rounds_k {c : Code} {n : Nat} {a : Act} {w : World} (h : ∀ K : Exit → Act → World → Prop, (∀ e a w, Exit.then (Code.rounds P c Q n) Q e a w → K e a w) → c.wp P K a w) : Code.rounds P c Q (n + 1) a w := h _ fun _ _ _ h => h
theorem wp_block_k {c : Code} {id : Nat} {a : Act} {w : World} (h : ∀ K : Exit → Act → World → Prop, (∀ e a w, Exit.inBlock id Q e a w → K e a w) → c.wp P K a w) : (Code.block id c).wp P Q a w := wp_block (h _ fun _ _ _ h => h)
theorem skips {a : Act} {w : World} (h : Q .normal a w) : Code.skip.wp P Q a w := wp_skip h
/-- A function's results. -/
theorem res_t {fn : Func} {t : Nat} {tmps : Array Value} {v : Value} (hr : fn.results = #[.tmp t]) (ht : tmps.getD t undef = v) (w : World) : (results fn tmps).run P w = .ok v w := by
  unfold results
  simp only [hr]
  simp [Sem.run_bind, ht]
  simpa using ht
theorem run_cell {t b : Nat} {ty : TypeId} {tmps : Array Value} {cs : List Value} {d : TypeDesc} {w : World} (ht : tmps.getD t undef = .pointer (some ⟨b, 0, none⟩)) (hb : Box w b cs)
    (hu : P.underlying ty = some d) (hd : d.isRow = true) (hi : (P.info? ty).map (·.size) = some cs.length) : ((do loadVar ty (← asAddr (tmps.getD t undef))) : Sem Value).run P w = .ok (.agg cs.toArray) w := by
  rw [ht]
  simp [Sem.run_bind, asAddr, run_loadVar_mid w b 0 ty cs d hb.cells hu hd hi]
theorem res_c {fn : Func} {t b : Nat} {ty : TypeId} {tmps : Array Value} {cs : List Value} {d : TypeDesc} {w : World} (hr : fn.results = #[.cell t ty]) (ht : tmps.getD t undef = .pointer (some ⟨b, 0, none⟩)) (hb : Box w b cs)
    (hu : P.underlying ty = some d) (hd : d.isRow = true) (hi : (P.info? ty).map (·.size) = some cs.length) : (results fn tmps).run P w = .ok (.agg cs.toArray) w := by
  have ht2 : tmps[t]?.getD undef = .pointer (some ⟨b, 0, none⟩) := by simpa using ht
  have hl := run_loadVar_mid w b 0 ty cs d hb.cells hu hd hi
  unfold results
  simp only [hr]
  simp [Sem.run_bind, ht2, asAddr, hl]
theorem res_ct {fn : Func} {t b t' : Nat} {ty : TypeId} {tmps : Array Value} {cs : List Value} {d : TypeDesc} {v : Value} {w : World} (hr : fn.results = #[.cell t ty, .tmp t']) (ht : tmps.getD t undef = .pointer (some ⟨b, 0, none⟩)) (ht' : tmps.getD t' undef = v) (hb : Box w b cs)
    (hu : P.underlying ty = some d) (hd : d.isRow = true) (hi : (P.info? ty).map (·.size) = some cs.length) : (results fn tmps).run P w = .ok (.tuple #[.agg cs.toArray, v]) w := by
  have ht2 : tmps[t]?.getD undef = .pointer (some ⟨b, 0, none⟩) := by simpa using ht
  have ht3 : tmps[t']?.getD undef = v := by simpa using ht'
  have hl := run_loadVar_mid w b 0 ty cs d hb.cells hu hd hi
  unfold results
  simp only [hr]
  simp [Sem.run_bind, ht2, ht3, asAddr, hl]
end
end Go.Proofs.Ytklddcicfeakfaa.Pl
