/- Fields, single cells, slices, new rows, in a plan. No program is named here. -/
import Derived.Test.YtklddcicfeakfaaPU
import Derived.Test.YtklddcicfeakfaaPS
import Derived.Laws.Slices
namespace Go.Proofs.Ytklddcicfeakfaa.Pl
open Go Go.RowKit
set_option linter.unusedVariables false
set_option linter.unusedSimpArgs false
section
variable {P : Program} {ops : Array Oper} {ks : List Kind} {T : List Nat} {a0 : Act} {B : Nat} {w0 W0 : World} {H : List (Nat × List Value)} {i : Nat} {o : Oper}

theorem size_of {e : TypeId} {sz : Nat} (hs : (P.info? e).map (·.size) = some sz) (w : World) : (sizeOf e).run P w = .ok sz w := by
  cases h : P.info? e with
  | none => simp [h] at hs
  | some inf =>
    have : inf.size = sz := by simpa [h] using hs
    simp [sizeOf, typeInfo, Sem.run_bind, h, this]

/-- A struct's k-th field: where it lies, of how many cells (one more than n). -/
structure FldT (P : Program) (t : TypeId) (k off n : Nat) : Prop where
  und : ∃ fs f, P.underlying t = some (.struct fs) ∧ fs[k]? = some f ∧ f.offset = off ∧ (P.info? f.type).map (·.size) = some (n + 1)
def fld? (p : Value) (off : Nat) : Option Value := match p with | .pointer (some ⟨b, o, none⟩) => some (.pointer (some ⟨b, o + off, none⟩)) | _ => none
theorem fld_some {p v : Value} {off : Nat} (h : fld? p off = some v) : ∃ b o, p = .pointer (some ⟨b, o, none⟩) ∧ v = .pointer (some ⟨b, o + off, none⟩) := by
  unfold fld? at h
  split at h
  · rename_i b o
    exact ⟨b, o, rfl, (Option.some.inj h).symm⟩
  · cases h
theorem oF {v : Value} {t : TypeId} {x : Operand} {k off n : Nat} (hF : FldT P t k off n) (hw : ∀ L, wantedR ks L o = true := by intro _; kernel_rfl) (ho : o.op = .fieldAddr t x k := by exact rfl)
    (hx : ∀ L, fld? (rd ops ks T a0 L i x) off = some v := by intro _; kernel_rfl) (hk : kd ks i = .det v) : Obl P ops ks T a0 B w0 H i o := ⟨ob_pure hw hk fun L w => by
    obtain ⟨b, o', h1, rfl⟩ := fld_some (hx L)
    obtain ⟨fs, f, hu, hf, rfl, hs⟩ := hF.und
    unfold execOp
    simp [ho, h1, Instr.fieldAt, Sem.run_bind, run_underlying hu, hf, Instr.sureAddr, fieldPlace, size_of hs, Addr.add_mid]⟩

/-- A field of a value. -/
theorem oFv {v : Value} {t : TypeId} {x : Operand} {k off n : Nat} {cs : List Value} (hF : FldT P t k off 0) (ha : ∀ fs f, P.underlying t = some (.struct fs) → fs[k]? = some f → ∀ w, (isAgg f.type).run P w = .ok false w) (hw : ∀ L, wantedR ks L o = true := by intro _; kernel_rfl) (ho : o.op = .field t x k := by exact rfl)
    (hx : ∀ L, rd ops ks T a0 L i x = .agg cs.toArray := by intro _; kernel_rfl) (hv : cs[off]? = some v := by kernel_rfl) (hk : kd ks i = .det v) : Obl P ops ks T a0 B w0 H i o := ⟨ob_pure hw hk fun L w => by
    obtain ⟨fs, f, hu, hf, rfl, hs⟩ := hF.und
    unfold execOp
    simp [ho, hx L, Instr.field, Sem.run_bind, run_underlying hu, hf, asAgg, part, ha fs f hu hf, hv]⟩

/-- A type of one cell. -/
structure OneT (P : Program) (t : TypeId) : Prop where
  agg : ∀ w, (isAgg t).run P w = .ok false w
  size : (P.info? t).map (·.size) = some 1
theorem run_load1 {t : TypeId} (hO : OneT P t) {w : World} {b off : Nat} {v : Value} (hc : w.cell? ⟨b, off, none⟩ = some v) : (Instr.loadAt t (.pointer (some ⟨b, off, none⟩))).run P w = .ok v w := by
  simp [Instr.loadAt, Instr.sureAddr, loadVar, Sem.run_bind, hO.agg w, hc]
/-- A load of one cell out of the k-th box. -/
theorem oL1 {t : TypeId} {x : Operand} {v : Value} {box : List Value} {b : Nat} (k off : Nat) (hO : OneT P t) (he : early T ks i = true := by kernel_rfl) (hw : ∀ L, wantedR ks L o = true := by intro _; kernel_rfl) (ho : o.op = .load t x := by exact rfl)
    (hb : H[k]? = some (b, box) := by exact rfl) (hx : ∀ L, rd ops ks T a0 L i x = .pointer (some ⟨b, off, none⟩) := by intro _; kernel_rfl) (hv : box[off]? = some v := by kernel_rfl) (hk : kd ks i = .det v) : Obl P ops ks T a0 B w0 H i o := ⟨ob_det hw hk fun L w hs => by
    have hc := (seen_at (hs he) hb).cells off v hv
    rw [Nat.zero_add] at hc
    have : (execOp (rd ops ks T a0 L i) o).run P w = .ok (.value v) w := by
      unfold execOp
      simp only [ho, hx L, Sem.run_bind, run_load1 hO hc]
      rfl
    rw [this]
    exact ⟨rfl, Below.refl _ _⟩⟩
theorem run_storeVar1 (w : World) (b o : Nat) (ty : TypeId) (v : Value) (hv : v.cells = #[v]) (ht : w.there b o 1) (hi : (P.info? ty).map (·.size) = some 1) (h1 : v.oneCell' = true) :
    (storeVar ty ⟨b, o, none⟩ v).run P w = .ok () (w.setCells b o [v]) := by
  have := run_storeCells_cells (P := P) b o [v] 0 w (fun j hj => by simpa using (ht j (by simpa using hj)).1) (fun j hj => by simpa using (ht j (by simpa using hj)).2)
    (fun u hu => by simp at hu; subst hu; exact h1)
  cases hq : P.info? ty with
  | none => simp [hq] at hi
  | some i =>
    have hs : i.size = 1 := by simpa [hq] using hi
    simp only [Nat.add_zero] at this
    simp [storeVar, sizeOf, typeInfo, hq, hv, hs, this]
/-- A store of one cell. -/
theorem oT1 {t : TypeId} {x y : Operand} {l : Loc} {off : Nat} {v : Value} {new : List Value} (hO : OneT P t) (hvc : v.cells = #[v] := by exact rfl) (hw : ∀ L, wantedR ks L o = true := by intro _; kernel_rfl) (ho : o.op = .store t x y := by exact rfl)
    (hx : ∀ L, rd ops ks T a0 L i x = .pointer (some ⟨addr H L l, off, none⟩) := by intro _; kernel_rfl) (hy : ∀ L, rd ops ks T a0 L i y = v := by intro _; kernel_rfl) (h1 : v.oneCell' = true := by kernel_rfl)
    (hle : Nat.ble (off + 1) (oldOf ks H l).length = true := by kernel_rfl) (hsp : new = splice (oldOf ks H l) off [v] := by kernel_rfl) (hk : kd ks i = .store l off [v] new) : Obl P ops ks T a0 B w0 H i o := ⟨fun L w hs => by
  rw [if_pos (hw L), hk]
  refine ⟨Nat.le_of_ble_eq_true hle, hsp, fun ht => ?_⟩
  have hrun := run_storeVar1 (P := P) w (addr H L l) off t v hvc ht hO.size h1
  unfold execOp
  simp [ho, hx L, hy L, Sem.run_bind, Instr.storeAt, Instr.sureAddr, hrun]⟩

/-- A row somewhere in memory that is not ours: what is known of it keeps. -/
theorem range_up {w x : World} {b off : Nat} {c : Value} {cs : List Value} (h : w.rangeAt b off (c :: cs)) (k : Below w.heap.size w x) : x.rangeAt b off (c :: cs) := by
  have hlt : b < w.heap.size := by
    have h0 := h 0 c rfl
    unfold World.cell? at h0
    cases hb : w.heap[b]? with
    | none => simp [hb] at h0
    | some o => exact (Array.getElem?_eq_some_iff.1 hb).1
  intro j v hv
  have := h j v hv
  rwa [World.cell?_of_block (w := w) (a := ⟨b, off + j, none⟩) (k.block b hlt)]

/-- A load of a row, wherever it is known to lie. -/
theorem oLW {t : TypeId} {x : Operand} {cs Z : List Value} {n : Nat} (hR : RowT P t n Z) (hr : ∀ L w, Seen ks T B w0 H L i w → ∃ b off, rd ops ks T a0 L i x = .pointer (some ⟨b, off, none⟩) ∧ w.rangeAt b off cs) (he : early T ks i = true := by kernel_rfl) (hw : ∀ L, wantedR ks L o = true := by intro _; kernel_rfl) (ho : o.op = .load t x := by exact rfl)
    (hl : cs.length = n := by kernel_rfl) (hk : kd ks i = .det (.agg cs.toArray)) : Obl P ops ks T a0 B w0 H i o := ⟨ob_det hw hk fun L w hs => by
    obtain ⟨d, hu, hd⟩ := hR.und
    obtain ⟨b, off, hx, hc⟩ := hr L w (hs he)
    have : (execOp (rd ops ks T a0 L i) o).run P w = .ok (.value (.agg cs.toArray)) w := by
      unfold execOp
      simp only [ho, hx, Sem.run_bind, run_loadAt_mid w b off t cs d hc hu hd (by rw [hl]; exact hR.size)]
      rfl
    rw [this]
    exact ⟨rfl, Below.refl _ _⟩⟩

/-- An element's address in a slice. -/
theorem oIS {t e : TypeId} {x ix : Operand} {b off n c sz : Nat} (k : Nat) (hu : P.underlying t = some (.slice e)) (hs : (P.info? e).map (·.size) = some sz) (hkn : k < n) (hw : ∀ L, wantedR ks L o = true := by intro _; kernel_rfl) (ho : o.op = .indexAddr t x ix := by exact rfl)
    (hx : ∀ L, rd ops ks T a0 L i x = .slice (some ⟨b, off, none⟩) n c := by intro _; kernel_rfl) (hi : ∀ L, rd ops ks T a0 L i ix = .int .i64 (k : Int) := by intro _; kernel_rfl) (hk : kd ks i = .det (.pointer (some ⟨b, off + k * sz, none⟩))) : Obl P ops ks T a0 B w0 H i o := ⟨ob_pure hw hk fun L w => by
    have hkn' : (0 : Int) ≤ (k : Int) ∧ (k : Int) < (n : Int) := ⟨by omega, by omega⟩
    unfold execOp
    simp [ho, hx L, hi L, Instr.indexAt, asIntOf, Sem.run_bind, run_underlying hu, hkn', hkn, size_of hs, Addr.add_mid]⟩
/-- All of an array as a slice. -/
theorem oSA {t e : TypeId} {x : Operand} {b n sz : Nat} (hu : P.underlying t = some (.array n e)) (hs : (P.info? e).map (·.size) = some sz) (hn : n ≠ 0) (hw : ∀ L, wantedR ks L o = true := by intro _; kernel_rfl) (ho : o.op = .slice t x none none none := by exact rfl)
    (hx : ∀ L, rd ops ks T a0 L i x = .pointer (some ⟨b, 0, none⟩) := by intro _; kernel_rfl) (hk : kd ks i = .det (.slice (some ⟨b, 0, none⟩) n n)) : Obl P ops ks T a0 B w0 H i o := ⟨ob_pure hw hk fun L w => by
    unfold execOp
    simp [ho, hx L, Instr.sliceAt, Instr.sliceBounds, Sem.run_bind, run_underlying hu, Instr.sureAddr, size_of hs, hn, Addr.add_mid]⟩
/-- A new slice of one row. -/
def isRow1 (cs : List Value) (v : Value) (w : World) : Prop := ∃ k : Nat, v = .slice (some ⟨k, 0, none⟩) 1 1 ∧ w.rangeAt k 0 cs
theorem run_row1 {t e : TypeId} {cs : List Value} {sz : Nat} {Z : List Value} (hu : P.underlying t = some (.slice e)) (hR : RowT P e sz Z) (hsz : sz ≠ 0) (h24 : sz ≤ 1000) (hl : cs.length = sz) (hZ : Z.length = sz) (w : World) :
    (Instr.buildSlice t 1 #[(0, .agg cs.toArray)]).run P w = .ok (.slice (some ⟨w.heap.size, 0, none⟩) 1 1) (w.alloc (.cells cs.toArray e)) := by
  have hs := hR.size
  have hz := hR.zero
  cases hi : P.info? e with
  | none => simp [hi] at hs
  | some ie =>
    simp [hi] at hs hz
    refine run_buildSlice w t e 1 _ _ ie _ hu hi hz (by rw [hs]; omega) (by rw [hs]; omega) ?_
    have hc : (Value.agg Z.toArray).cells = Z.toArray := rfl
    rw [hs, hc, Nat.one_mul]
    have e1 : ((Array.range sz).map fun j => Z.toArray[j % Z.toArray.size]!) = Z.toArray := by
      apply Array.ext
      · simp [hZ]
      · intro j h1 h2
        have hj : j < sz := by simpa using h1
        have hj' : j < Z.length := by omega
        simp [hZ, Nat.mod_eq_of_lt hj, List.getElem?_eq_getElem hj']
    rw [e1, fill_cons (off := 0) (sz := sz) (by simp) hl (by omega)]
    have : splice Z 0 cs = cs := splice_all (by omega)
    rw [this]; rfl
theorem oS2 {t e : TypeId} {x : Operand} {cs Z : List Value} {sz : Nat} {c : Value} {r : List Value} (hu : P.underlying t = some (.slice e)) (hR : RowT P e sz Z) (hcr : cs = c :: r := by exact rfl) (hsz : sz ≠ 0 := by decide) (h24 : sz ≤ 1000 := by decide) (hl : cs.length = sz := by kernel_rfl) (hZ : Z.length = sz := by kernel_rfl) (hw : ∀ L, wantedR ks L o = true := by intro _; kernel_rfl) (ho : o.op = .buildSlice t 1 #[(0, x)] := by exact rfl)
    (hx : ∀ L, rd ops ks T a0 L i x = .agg cs.toArray := by intro _; kernel_rfl) (hk : kd ks i = .any (isRow1 cs)) : Obl P ops ks T a0 B w0 H i o := ⟨fun L w hsn => by
  rw [if_pos (hw L), hk]
  refine ⟨fun v w x h hb => ?_, ?_⟩
  · obtain ⟨k, e, h⟩ := h
    subst hcr
    exact ⟨k, e, range_up h hb⟩
  have : (execOp (rd ops ks T a0 L i) o).run P w = .ok (.value (.slice (some ⟨w.heap.size, 0, none⟩) 1 1)) (w.alloc (.cells cs.toArray e)) := by
    unfold execOp
    have h1 : (#[((0 : Nat), x)].map fun p => (p.1, rd ops ks T a0 L i p.2)) = #[(0, .agg cs.toArray)] := by simp [hx L]
    simp only [ho, h1, Sem.run_bind, run_row1 hu hR hsz h24 hl hZ]
    rfl
  rw [this]
  exact ⟨⟨w.heap.size, rfl, (Box.new w cs e).cells⟩, (Below.refl _ _).alloc (Nat.le_refl _) _⟩⟩
/-- A number made one of another kind. -/
theorem oCv {src dst : TypeId} {x : Operand} {u v : Value} (h : ∀ w, (convert src dst u).run P w = .ok v w) (hw : ∀ L, wantedR ks L o = true := by intro _; kernel_rfl) (ho : o.op = .convert src dst x := by exact rfl)
    (hx : ∀ L, rd ops ks T a0 L i x = u := by intro _; kernel_rfl) (hk : kd ks i = .det v) : Obl P ops ks T a0 B w0 H i o := ⟨ob_pure hw hk fun L w => by
    unfold execOp
    simp [ho, hx L, Sem.run_bind, h w]⟩
/-- Boxes may be forgotten. -/
theorem Heap.sub {H' : List (Nat × List Value)} (h : Heap B w0 W0 H) (hs : List.Sublist H' H) : Heap B w0 W0 H' :=
  ⟨h.bel, fun p hp => h.box p (hs.subset hp), h.nd.sublist (hs.map _), h.le⟩
end
end Go.Proofs.Ytklddcicfeakfaa.Pl
