/- KA KB. -/
import Derived.Test.YtccidmogamnihaaGF
import Derived.Test.YtccidmogamnihaaGY
import Derived.Lib.AppendStr
import Derived.Lib.AppendZeros
import Derived.Test.YtccidmogamnihaaGH
/- Talks: scalars by number, rows of bytes by hand, what a call answers. -/
namespace Go.Proofs.Ytccidmogamnihaa.fpn
open Go.RowKit Pl
set_option linter.unusedVariables false
set_option linter.unusedSimpArgs false
set_option maxRecDepth 4000

def lb (n i : Nat) : Int := ((n / 2 ^ (64 * i) % 2 ^ 64 : Nat) : Int)
theorem pw_two (n : Nat) : pw n = ((2 ^ (64 * n) : Nat) : Int) := by
  induction n with
  | zero => rfl
  | succ n ih =>
    rw [pw, ih, show 64 * (n + 1) = 64 * n + 64 by omega, Nat.pow_add, Int.natCast_mul]
    rfl
theorem lb_rg (n k : Nat) : Rg (lb n) k := fun i _ => by
  unfold lb
  have : n / 2 ^ (64 * i) % 2 ^ 64 < 2 ^ 64 := Nat.mod_lt _ (by decide)
  rw [B64_eq]
  omega
theorem lb_val (n k : Nat) : val (lb n) k = ((n % 2 ^ (64 * k) : Nat) : Int) := by
  induction k with
  | zero => simp [val, Nat.mod_one]
  | succ k ih =>
    rw [val, ih, pw_two]
    unfold lb
    rw [← Int.natCast_mul, ← Int.natCast_add, show 64 * (k + 1) = 64 * k + 64 by omega, Nat.pow_add, Nat.mod_mul]
    rw [Nat.mul_comm (2 ^ (64 * k))]
theorem lbR {n : Nat} (hn : n < 2 ^ 256) : val (lb n) 4 = (n : Int) := by
  rw [lb_val, Nat.mod_eq_of_lt hn]
def RC (n : Nat) : List Value := [.int .u64 (lb n 0), .int .u64 (lb n 1), .int .u64 (lb n 2), .int .u64 (lb n 3)]
def RV (n : Nat) : Value := .agg (RC n).toArray
theorem RV_of {h : Nat → Int} {n : Nat} (rh : Rg h 4) (hn : n < 2 ^ 256) (e : val h 4 = (n : Int)) : Value.agg #[.int .u64 (h 0), .int .u64 (h 1), .int .u64 (h 2), .int .u64 (h 3)] = RV n := by
  have d := digits rh (lb_rg n 4) (by rw [e, lbR hn])
  unfold RV RC
  rw [d 0 (by decide), d 1 (by decide), d 2 (by decide), d 3 (by decide)]
@[irreducible] def wd (g : Nat → Int) (n : Nat) : Nat := (bv g n % Go.Proofs.Ytccidmogamnihaa.RI).toNat
theorem RI_pos : (0 : Int) < Go.Proofs.Ytccidmogamnihaa.RI := by decide +kernel
theorem RI_256 : Go.Proofs.Ytccidmogamnihaa.RI < ((2 ^ 256 : Nat) : Int) := by decide +kernel
theorem wd_eq (g : Nat → Int) (n : Nat) : bv g n % Go.Proofs.Ytccidmogamnihaa.RI = ((wd g n : Nat) : Int) := by
  unfold wd
  rw [Int.toNat_of_nonneg (Int.emod_nonneg _ (Int.ne_of_gt RI_pos))]
theorem wd_R (g : Nat → Int) (n : Nat) : ((wd g n : Nat) : Int) < Go.Proofs.Ytccidmogamnihaa.RI := by
  rw [← wd_eq]; exact Int.emod_lt_of_pos _ RI_pos
theorem wd_256 (g : Nat → Int) (n : Nat) : wd g n < 2 ^ 256 := Int.ofNat_lt.1 (Int.lt_trans (wd_R g n) RI_256)
theorem frWide (g : Nat → Int) (p : Option Addr) (n c : Nat) (w : World) (hn : n ≤ c) (hc : AtK .u8 w p n g) (hg : ∀ j, j < n → 0 ≤ g j ∧ g j < 256) (hN : n ≤ 192) : Calls Try.prog 18 #[.slice p n c] w (Ret (RV (wd g n)) w) :=
  Calls.mono (Go.Proofs.Ytccidmogamnihaa.frWide_any p n c g w hn hc hg hN) fun e w' ⟨h, he, rh, vh, hb⟩ => ⟨he.trans (congrArg _ (RV_of rh (wd_256 g n) (vh.trans (wd_eq g n)))), hb⟩
theorem refWide (g : Nat → Int) (p : Option Addr) (n c : Nat) (w : World) (hc : AtK .u8 w p n g) (hg : ∀ j, j < n → 0 ≤ g j ∧ g j < 256) (hN : n ≤ 192) : Calls Try.prog 20 #[.slice p n c] w (Ret (RV (wd g n)) w) :=
  Calls.mono (Go.Proofs.Ytccidmogamnihaa.wideR_any p n c g w hc hg (by omega)) fun e w' ⟨v, he, ⟨h, hv, rh, vh⟩, hb⟩ => ⟨he.trans (congrArg _ (hv.trans (RV_of rh (wd_256 g n) (vh.trans (wd_eq g n))))), hb⟩
theorem mayWd (g : Nat → Int) (n : Nat) (w : World) : Calls Try.prog 11 #[RV (wd g n)] w (Ret (.bool true) w) := by
  have h := Go.Proofs.Ytccidmogamnihaa.mayR_any (lb (wd g n)) w (lb_rg _ _)
  rw [lbR (wd_256 g n), decide_eq_true (wd_R g n)] at h
  exact h
theorem wp_callG {Q : Exit → Act → World → Prop} {o : Oper} {a : Act} {w : World} {K : Act → World → Prop} {fn : FuncId} {xs : Array Operand} {ts : Array TypeId} {vs : Array Value} {R : Value → World → Prop} (h : Calls Try.prog fn vs w fun e x => ∃ v, e = .returned v ∧ R v x)
    (hK : ∀ v x, R v x → K (a.put o.dst v) x)
    (hf : plainF Try.prog fn = true := by kernel_rfl) (ho : o.op = .call { callee := .value (.func fn), args := xs, argTypes := ts } := by exact rfl) (hx : xs.map a.eval = vs := by kernel_rfl) : o.wp Try.prog a w K Q := by
  have this : (execOp a.eval o).run Try.prog w = .ok (.enter fn vs) w := by
    unfold execOp
    simp only [ho, resolve, hx, Deferred.ofValue, Act.eval, Sem.run_bind, Sem.run_pure, Result.andThen_ok, Array.empty_append, run_enter hf]
  unfold Oper.wp
  rw [this]
  exact Runs.upon (R := R) (Calls.mono h fun e x hx => hx) fun v x hx => hK v x hx
theorem wp_buildY {Q : Exit → Act → World → Prop} {o : Oper} {a : Act} {w : World} {K : Act → World → Prop} {n : Nat} {parts : Array (Nat × Operand)} (ho : o.op = .buildSlice 29 n parts) (f : Nat → Int) (h0 : 0 < n) (h1 : n ≤ 1000)
    (hf : Instr.fill (fun i => some (i * 1, 1)) ((Array.range (n * 1)).map ((Value.int .u8 0).cells[· % (Value.int .u8 0).cells.size]!)) (parts.map fun p => (p.1, a.eval p.2)).toList = some (BC f n).toArray)
    (h : ∀ w', OwnY w' w.heap.size (.slice (some ⟨w.heap.size, 0, none⟩) n n) f n → Below w.heap.size w w' → K (a.put o.dst (.slice (some ⟨w.heap.size, 0, none⟩) n n)) w') : o.wp Try.prog a w K Q := by
  obtain ⟨ie, hi, hz, h2, h3⟩ := infoY
  have hr : (Instr.buildSlice 29 n (parts.map fun p => (p.1, a.eval p.2))).run Try.prog w = .ok (.slice (some ⟨w.heap.size, 0, none⟩) n n) (w.alloc (.cells (BC f n).toArray 5)) :=
    run_buildSlice w _ _ n _ _ ie _ Try.underlying29 hi hz (by rw [h2]; omega) (by rw [h2]; omega) (by rw [h2]; exact hf)
  have this : (execOp a.eval o).run Try.prog w = .ok (.value (.slice (some ⟨w.heap.size, 0, none⟩) n n)) (w.alloc (.cells (BC f n).toArray 5)) := by
    unfold execOp
    simp only [ho, Sem.run_bind, hr]
    rfl
  unfold Oper.wp
  rw [this]
  exact h _ ⟨by rw [BC_len, Nat.mul_one], Or.inr ⟨w.heap.size, n, (BC f n).toArray, rfl, Nat.le_refl _, heap_alloc_new w _, Nat.le_refl _, by simp only [maxLen]; omega, by simp [BC_len], by
    rw [List.take_of_length_le (by simp [BC_len])]⟩⟩ ((Below.refl _ _).alloc (Nat.le_refl _) _)
def sby (s : ByteArray) (j : Nat) : Int := ((s.data.getD j 0).toNat : Int)
theorem sby_cells (s : ByteArray) : Lib.strCells s = BC (sby s) s.size := by
  refine List.ext_getElem? fun i => ?_
  by_cases h : i < s.size
  · rw [BC_at h]
    have h' : i < s.data.size := h
    have e0 := Array.getElem?_eq_getElem h'
    have e : s.data.getD i 0 = s.data[i] := by rw [Array.getD_eq_getD_getElem?, e0]; rfl
    unfold Lib.strCells sby
    rw [e, List.getElem?_map, Array.getElem?_toList, e0]
    rfl
  · rw [List.getElem?_eq_none (by rw [Lib.strCells_length]; omega), List.getElem?_eq_none (by rw [BC_len]; omega)]
theorem sby_rg (s : ByteArray) (j : Nat) : 0 ≤ sby s j ∧ sby s j < 256 := by
  unfold sby
  have := (s.data.getD j 0).toNat_lt
  omega
theorem wp_appendS {Q : Exit → Act → World → Prop} {o : Oper} {a : Act} {w : World} {K : Act → World → Prop} (sl x : Operand) (ho : o.op = .call { callee := .builtin .append, args := #[sl, x], argTypes := #[29, 9] })
    {B : Nat} {v : Value} {f : Nat → Int} {m : Nat} {s : ByteArray} (hs : a.eval sl = v) (hown : OwnY w B v f m) (hx : a.eval x = .string s) (hl : m + s.size ≤ 1000) (hB : B ≤ w.heap.size)
    (h : ∀ v' w', OwnY w' B v' (cat f m (sby s)) (m + s.size) → Below B w w' → K (a.put o.dst v') w') : o.wp Try.prog a w K Q := by
  obtain ⟨i, hi, hz, h1, h2⟩ := infoY
  obtain ⟨v', w', hr, ho', hgr, _⟩ := Lib.run_append_own_string (P := Try.prog) w B 29 9 o.type 5 i Try.underlying29 Try.underlying9 hi hz h1 h2 v m (BC f m) hown s (by simp only [maxLen]; omega) (by omega) hB
  unfold Oper.wp execOp
  simp only [ho, resolve, invoke, builtin, Sem.run_bind, Sem.run_pure, Result.andThen_ok, List.map_toArray, List.map_cons, List.map_nil, hs, hx, hr]
  refine h v' w' ?_ ?_
  · rw [sby_cells, BC_cat] at ho'; exact ho'
  · have hrow : ∀ k, v.ownBlock = some k → B ≤ k := fun k hk => (World.ownsRow.lt hown k hk).1
    exact ⟨hgr.os, hgr.tape, hgr.output, hgr.size, fun k hk => hgr.block k (by omega) (fun e => by have := hrow k e.symm; omega)⟩
theorem wp_appendN {Q : Exit → Act → World → Prop} {o : Oper} {a : Act} {w : World} {K : Act → World → Prop} (s x : Operand) (ho : o.op = .call { callee := .builtin .append, args := #[s, x], argTypes := #[29, 29] })
    {B : Nat} {v : Value} {f g : Nat → Int} {m n c : Nat} {p : Option Addr} (hs : a.eval s = v) (hown : OwnY w B v f m) (hx : a.eval x = .slice p n c) (hc : AtK .u8 w p n g) (hl : m + n ≤ 1000) (hB : B ≤ w.heap.size)
    (h : ∀ v' w', OwnY w' B v' (cat f m g) (m + n) → Below B w w' → K (a.put o.dst v') w') : o.wp Try.prog a w K Q := by
  by_cases h0 : 0 < n
  · obtain ⟨b, off, rfl, hcc⟩ := hc h0
    exact wp_appendY (ad := ⟨b, off, none⟩) (n := n) (c := c) (g := g) s x ho hs hown hx (fun j hj => by rw [Addr.add_mid]; exact hcc j hj) hl hB h
  · obtain rfl : n = 0 := by omega
    obtain ⟨i, hi, hz, h1, h2⟩ := infoY
    have hsrc : Src Try.prog i.size 29 (.slice p 0 c) 0 [] w := by
      cases p with
      | none => exact Src.ofNil w Try.underlying29 c
      | some q => exact Src.ofSlice w Try.underlying29 q 0 c [] (by simp) (fun j u hj => by simp at hj) (fun u hu => by cases hu)
    have hfin : OwnY w B v (cat f m g) (m + 0) := by
      refine hown.congr fun j hj => ?_
      unfold cat
      rw [show Nat.blt j m = true from by simpa using hj]; rfl
    rcases hown.2 with ⟨hv, hm⟩ | ⟨gb, cap, cur, hv, _, _, hle, _⟩
    · have hr := run_append_nothing (P := Try.prog) w 29 29 o.type 5 i Try.underlying29 hi none 0 0 (Nat.le_refl _) (.slice p 0 c) hsrc
      rw [hv] at hs
      unfold Oper.wp execOp
      simp only [ho, resolve, invoke, builtin, Sem.run_bind, Sem.run_pure, Result.andThen_ok, List.map_toArray, List.map_cons, List.map_nil, hs, hx, hr]
      exact h _ _ (hv ▸ hfin) (Below.refl _ _)
    · have hr := run_append_nothing (P := Try.prog) w 29 29 o.type 5 i Try.underlying29 hi (some ⟨gb, 0, none⟩) m cap hle (.slice p 0 c) hsrc
      rw [hv] at hs
      unfold Oper.wp execOp
      simp only [ho, resolve, invoke, builtin, Sem.run_bind, Sem.run_pure, Result.andThen_ok, List.map_toArray, List.map_cons, List.map_nil, hs, hx, hr]
      exact h _ _ (hv ▸ hfin) (Below.refl _ _)
theorem wp_store32 {Q : Exit → Act → World → Prop} {o : Oper} {a : Act} {w : World} {K : Act → World → Prop} (x y : Operand) (ho : o.op = .store 38 x y) {b : Nat} {f g : Nat → Int} (hx : a.eval x = .pointer (some ⟨b, 0, none⟩)) (hy : a.eval y = VB g 32) (hb : Box w b (BC f 32)) (hd : o.dst = none)
    (h : ∀ w', Wr b w w' → Box w' b (BC g 32) → K a w') : o.wp Try.prog a w K Q := by
  have hrun := run_storeAt_mid (P := Try.prog) w b 0 38 (BC g 32).toArray (by have := hb.free; rw [BC_len] at this; simpa [BC_len] using this) (by simpa [BC_len] using rB32.size) (all_oneCell_toArray (BC_one g 32))
  have this : (execOp a.eval o).run Try.prog w = .ok .skip (w.setCells b 0 (BC g 32)) := by
    unfold execOp VB at *
    simp [ho, hx, hy, Sem.run_bind, hrun]
  unfold Oper.wp
  rw [this]
  simp only [Oper.upon, hd, Act.put]
  have e := Box.set hb (off := 0) (cs := BC g 32) (by rw [BC_len, BC_len]; omega)
  have e2 : Pl.splice (BC f 32) 0 (BC g 32) = BC g 32 := by unfold Pl.splice; rw [List.take_zero, List.nil_append, List.drop_of_length_le (by rw [BC_len, BC_len]; omega), List.append_nil]
  rw [e2] at e
  exact h _ (Wr.set b (BC g 32) 0 w) e
theorem Heap.wrOut {B b : Nat} {w0 w x : World} {H : List (Nat × List Value)} (h : Heap B w0 w H) (hb : b < B) (hw : Wr b w x) : Heap B x x H :=
  ⟨Below.refl _ _, fun p hp => ⟨(h.box p hp).1, (h.box p hp).2.wr hw (by have := (h.box p hp).1; omega)⟩, h.nd, by rw [hw.size]; exact h.le⟩
theorem Heap.none {B : Nat} {w0 w : World} (h : Below B w0 w) (hB : B ≤ w.heap.size) : Heap B w0 w [] := ⟨h, fun p hp => (by cases hp), List.nodup_nil, hB⟩
theorem Chg.of' {b B : Nat} {w x y z : World} (h : Below B w x) (k : Wr b x y) (m : Below B y z) (hB : B = w.heap.size) : Chg b w z := by
  subst hB
  exact ⟨m.os.trans (k.os.trans h.os), m.tape.trans (k.tape.trans h.tape), m.output.trans (k.output.trans h.output), Nat.le_trans h.size (by rw [← k.size]; exact m.size), fun i hi hne => (m.block i hi).trans ((k.block i hne).trans (h.block i hi))⟩
theorem Heap.chg {B b : Nat} {c d : List Value} {w0 w x : World} {H1 H2 : List (Nat × List Value)} (h : Heap B w0 w (H1 ++ (b, c) :: H2)) (hw : Chg b w x) (hx : Box x b d) : Heap B w0 x (H1 ++ (b, d) :: H2) := by
  have hm : (b, c) ∈ H1 ++ (b, c) :: H2 := by simp
  have hb : B ≤ b := (h.box (b, c) hm).1
  have nd := h.nd
  rw [List.map_append, List.map_cons, List.nodup_append, List.nodup_cons] at nd
  refine ⟨h.bel.trans (hw.below hb h.le), fun p hp => ?_, by have := h.nd; rw [List.map_append, List.map_cons] at this ⊢; exact this, Nat.le_trans h.le hw.size⟩
  rcases List.mem_append.1 hp with h1 | h1
  · have hq := h.box p (List.mem_append_left _ h1)
    exact ⟨hq.1, hq.2.chg hw fun e => nd.2.2 p.1 (List.mem_map.2 ⟨p, h1, rfl⟩) b (by simp) e⟩
  · rcases List.mem_cons.1 h1 with rfl | h2
    · exact ⟨hb, hx⟩
    · have hq := h.box p (List.mem_append_right _ (List.mem_cons_of_mem _ h2))
      exact ⟨hq.1, hq.2.chg hw fun e => nd.2.1.1 (List.mem_map.2 ⟨p, h2, e⟩)⟩
end Go.Proofs.Ytccidmogamnihaa.fpn

/- Talks: what a plan says of them; package slices, the state with bytes behind it. -/
namespace Go.Proofs.Ytccidmogamnihaa.fpn
open Go.RowKit Pl
set_option linter.unusedVariables false
set_option linter.unusedSimpArgs false
set_option maxRecDepth 4000

theorem OwnY.base {w : World} {B C : Nat} {v : Value} {f : Nat → Int} {n : Nat} (h : OwnY w B v f n) (hC : C ≤ B) : OwnY w C v f n := by
  refine ⟨h.1, ?_⟩
  rcases h.2 with h2 | ⟨g, cap, cur, hv, hB, r⟩
  · exact Or.inl h2
  · exact Or.inr ⟨g, cap, cur, hv, Nat.le_trans hC hB, r⟩
theorem oneYS : OneT Try.prog 29 := ⟨Try.isAgg29, by kernel_rfl⟩
theorem sizeYS : (Try.prog.info? 29).map (·.size) = some 1 := by kernel_rfl
theorem infoYS : ∃ i, Try.prog.info? 29 = some i ∧ i.zero = some (.slice none 0 0) ∧ i.size = 1 ∧ i.bytes = 24 := info_parts (by kernel_rfl)
theorem fTk0 : FldT Try.prog 43 0 0 31 := ⟨_, _, Try.underlying43, rfl, rfl, by kernel_rfl⟩
theorem fTr0 : FldT Try.prog 41 0 0 31 := ⟨_, _, Try.underlying41, rfl, rfl, by kernel_rfl⟩
theorem buildTk (f : Nat → Int) (w : World) : (Instr.build 43 #[(0, VB f 32)]).run Try.prog w = .ok (VB f 32) w := run_build w _ _ _ (by kernel_rfl)
theorem buildTk0 (w : World) : (Instr.build 43 #[]).run Try.prog w = .ok (VB (fun _ => 0) 32) w := run_build w _ _ _ (by kernel_rfl)
theorem buildTr (f : Nat → Int) (w : World) : (Instr.build 41 #[(0, VB f 32)]).run Try.prog w = .ok (VB f 32) w := run_build w _ _ _ (by kernel_rfl)
theorem buildTr0 (w : World) : (Instr.build 41 #[]).run Try.prog w = .ok (VB (fun _ => 0) 32) w := run_build w _ _ _ (by kernel_rfl)
theorem buildB32n (w : World) : (Instr.build 38 #[]).run Try.prog w = .ok (VB (fun _ => 0) 32) w := run_build w _ _ _ (by kernel_rfl)
theorem rR : RowT Try.prog 34 4 (RC 0) := ⟨⟨_, Try.underlying34, rfl⟩, by kernel_rfl, by kernel_rfl⟩
theorem buildRn (w : World) : (Instr.build 34 #[]).run Try.prog w = .ok (RV 0) w := run_build w _ _ _ (by kernel_rfl)
theorem guardPt (op : BinOp) (x y : Operand) (a b : Option Addr) (w : World) : (eqGuard op 25 x y (.pointer a) (.pointer b)).run Try.prog w = .ok () w := by
  have h : Try.prog.eqGuardType Try.prog.depth 25 = false := by kernel_rfl
  unfold eqGuard
  cases op <;> simp [Sem.run_bind, h]
theorem eqPt (d : Nat) (a : Addr) (w : World) : (Op.equalIn (d + 1) 25 (.pointer (some a)) (.pointer none)).run Try.prog w = .ok false w := by
  rw [Op.equalIn.eq_def]
  simp [Sem.run_bind, run_underlying Try.underlying25]
theorem eqPn (d : Nat) (w : World) : (Op.equalIn (d + 1) 25 (.pointer none) (.pointer none)).run Try.prog w = .ok true w := by
  rw [Op.equalIn.eq_def]
  simp [Sem.run_bind, run_underlying Try.underlying25]
theorem eqlPt (a : Addr) (w : World) : (binOp .eql 25 (.pointer (some a)) (.pointer none)).run Try.prog w = .ok (.bool false) w := by
  have e := eqPt 9999 a w
  simp [binOp, Sem.run_bind, Op.equal, Op.maxDepth, e]
theorem eqlPn (w : World) : (binOp .eql 25 (.pointer none) (.pointer none)).run Try.prog w = .ok (.bool true) w := by
  have e := eqPn 9999 w
  simp [binOp, Sem.run_bind, Op.equal, Op.maxDepth, e]
section
variable {ops : Array Oper} {ks : List Kind} {T : List Nat} {a0 : Act} {B : Nat} {w0 W0 : World} {H : List (Nat × List Value)} {i : Nat} {o : Oper}
theorem oNC {x : Operand} {v : Value} {a : Option Addr} (hva : v = .pointer a := by exact rfl) (ha : a.isSome = true := by exact rfl) (hw : ∀ L, wantedR ks L o = true := by intro _; kernel_rfl) (ho : o.op = .nilCheck x := by exact rfl) (hx : ∀ L, rd ops ks T a0 L i x = v := by intro _; kernel_rfl) (hk : kd ks i = .det v) : Obl Try.prog ops ks T a0 B w0 H i o := ⟨ob_pure hw hk fun L w => by
    subst hva
    cases a with
    | none => cases ha
    | some a =>
      unfold execOp
      simp [ho, hx L, Sem.run_bind]⟩
theorem oYC {n : Nat} {parts : Array (Nat × Operand)} {f : Nat → Int} {bs : List Nat} (h0 : 0 < n) (h1 : n ≤ 1000) (hw : ∀ L, wantedR ks L o = true := by intro _; kernel_rfl) (ho : o.op = .buildSlice 29 n parts := by exact rfl)
    (hf : ∀ L, Instr.fill (fun i => some (i * 1, 1)) ((Array.range (n * 1)).map ((Value.int .u8 0).cells[· % (Value.int .u8 0).cells.size]!)) (parts.map fun p => (p.1, rd ops ks T a0 L i p.2)).toList = some (BC f n).toArray := by intro _; kernel_rfl)
    (hk : kd ks i = .any (isC B bs f n)) : Obl Try.prog ops ks T a0 B w0 H i o := ⟨fun L w hsn => by
  rw [if_pos (hw L), hk]
  refine ⟨fun v w x h hb => h.stay hb, ?_⟩
  obtain ⟨ie, hi, hz, h2, h3⟩ := infoY
  have hr : (Instr.buildSlice 29 n (parts.map fun p => (p.1, rd ops ks T a0 L i p.2))).run Try.prog w = .ok (.slice (some ⟨w.heap.size, 0, none⟩) n n) (w.alloc (.cells (BC f n).toArray 5)) :=
    run_buildSlice w _ _ n _ _ ie _ Try.underlying29 hi hz (by rw [h2]; omega) (by rw [h2]; omega) (by rw [h2]; exact hf L)
  have this : (execOp (rd ops ks T a0 L i) o).run Try.prog w = .ok (.value (.slice (some ⟨w.heap.size, 0, none⟩) n n)) (w.alloc (.cells (BC f n).toArray 5)) := by
    unfold execOp
    simp only [ho, Sem.run_bind, hr]
    rfl
  rw [this]
  exact ⟨⟨w.heap.size, rfl, Box.new w (BC f n) 5⟩, (Below.refl _ _).alloc (Nat.le_refl _) _⟩⟩
def isS2 (u v : Value) (x : Value) (w : World) : Prop := ∃ k : Nat, x = .slice (some ⟨k, 0, none⟩) 2 2 ∧ Box w k [u, v]
theorem run_SS (u v : Value) (hu : ∃ p n c, u = .slice p n c) (hv : ∃ p n c, v = .slice p n c) (w : World) : (Instr.buildSlice 68 2 #[(0, u), (1, v)]).run Try.prog w = .ok (.slice (some ⟨w.heap.size, 0, none⟩) 2 2) (w.alloc (.cells #[u, v] 29)) := by
  obtain ⟨p, n, c, rfl⟩ := hu
  obtain ⟨q, m, d, rfl⟩ := hv
  obtain ⟨ie, hi, hz, h1, h2⟩ := infoYS
  exact run_buildSlice w _ _ 2 _ _ ie _ Try.underlying68 hi hz (by rw [h1]; decide) (by rw [h1]; decide) (by rw [h1]; kernel_rfl)
theorem oSS2 {x y : Operand} {u v : Value} (hu : ∃ p n c, u = .slice p n c) (hv : ∃ p n c, v = .slice p n c) (hw : ∀ L, wantedR ks L o = true := by intro _; kernel_rfl) (ho : o.op = .buildSlice 68 2 #[(0, x), (1, y)] := by exact rfl)
    (hx : ∀ L, rd ops ks T a0 L i x = u := by intro _; kernel_rfl) (hy : ∀ L, rd ops ks T a0 L i y = v := by intro _; kernel_rfl) (hk : kd ks i = .any (isS2 u v)) : Obl Try.prog ops ks T a0 B w0 H i o := ⟨fun L w hsn => by
  rw [if_pos (hw L), hk]
  refine ⟨fun v w x h hb => ?_, ?_⟩
  · obtain ⟨k, e, h⟩ := h
    exact ⟨k, e, h.up hb⟩
  have this : (execOp (rd ops ks T a0 L i) o).run Try.prog w = .ok (.value (.slice (some ⟨w.heap.size, 0, none⟩) 2 2)) (w.alloc (.cells #[u, v] 29)) := by
    unfold execOp
    have h1 : (#[((0 : Nat), x), (1, y)].map fun p => (p.1, rd ops ks T a0 L i p.2)) = #[(0, u), (1, v)] := by simp [hx L, hy L]
    simp only [ho, h1, Sem.run_bind, run_SS u v hu hv]
    rfl
  rw [this]
  exact ⟨⟨w.heap.size, rfl, Box.new w [u, v] 29⟩, (Below.refl _ _).alloc (Nat.le_refl _) _⟩⟩
theorem oAPt {k : Nat} {x : Operand} (hw : ∀ L, wantedR ks L o = true := by intro _; kernel_rfl) (ho : o.op = .assign x := by exact rfl) (hx : ∀ L, rd ops ks T a0 L i x = .pointer (some ⟨L.b k, 0, none⟩) := by intro _; kernel_rfl) (hk : kd ks i = .detB k (fun b => .pointer (some ⟨b, 0, none⟩))) : Obl Try.prog ops ks T a0 B w0 H i o := ⟨ob_pureB hw hk fun L w => by
    unfold execOp; simp only [ho, hx L]; rfl⟩
end
theorem growNil (n : Nat) (w : World) (h0 : 0 < n) (hn : n ≤ 1000) : Calls Try.prog 33 #[.slice none 0 0, .int .i64 (n : Int)] w fun e w' => ∃ v, e = .returned v ∧ OwnY w' w.heap.size v (fun _ => 0) 0 ∧ Below w.heap.size w w' := by
  obtain ⟨i, hi, hz, h1, h2⟩ := infoY
  have hr : ∀ ty, (Builtin.append_ #[29, 3] ty #[.slice none 0 0, .int .i64 (n : Int)]).run Try.prog w =
      .ok (.slice (some ⟨w.heap.size, 0, none⟩) n (grownCap w n 0 5)) (w.drew.alloc (.cells (Builtin.zeroCells (Value.int .u8 0).cells n ++ Builtin.zeroCells (Value.int .u8 0).cells (grownCap w n 0 5 - n)) 5)) :=
    fun ty => Lib.run_append_nil_zeros w 29 3 ty 5 i (.int .u8 0) .i64 .i64 Try.underlying29 Try.underlying3 hi hz n h0 (by omega) (by omega) (by rw [h2]; omega)
  have hG := grownCap_ge w n 0 5
  have hM : grownCap w n 0 5 ≤ maxLen := grownCap_le_maxLen w n 0 _ (by simp only [maxLen]; omega)
  have hM2 : grownCap w n 0 5 ≤ 9223372036854775807 := by simp only [maxLen] at hM; omega
  obtain ⟨G, eG⟩ : ∃ G, G = grownCap w n 0 5 := ⟨_, rfl⟩
  rw [← eG] at hr hG hM hM2
  have g1 : ¬ ((n : Int) < 0) := by omega
  have g2 : (n : Int) > 0 := by omega
  have g3 : wrap64 ((n : Int)) = (n : Int) := by unfold wrap64; omega
  have hz25 : ∀ w, (Go.sizeOf 5).run Try.prog w = .ok 1 w := fun w => size_of sizeY w
  have hfin : OwnY (w.drew.alloc (.cells (Builtin.zeroCells (Value.int .u8 0).cells n ++ Builtin.zeroCells (Value.int .u8 0).cells (G - n)) 5)) w.heap.size (.slice (some ⟨w.heap.size, 0, none⟩) 0 G) (fun _ => 0) 0 ∧ Below w.heap.size w (w.drew.alloc (.cells (Builtin.zeroCells (Value.int .u8 0).cells n ++ Builtin.zeroCells (Value.int .u8 0).cells (G - n)) 5)) := by
    refine ⟨⟨rfl, Or.inr ⟨w.heap.size, G, _, rfl, Nat.le_refl _, heap_alloc_new w.drew _, Nat.zero_le _, hM, ?_, rfl⟩⟩, Below.alloc (Below.drew (Below.refl _ _)) (Nat.le_refl _) _⟩
    simp only [Array.size_append, size_zeroCells, Value.cells]
    simp; omega
  clear hi hz h1 h2 eG
  go_enter Try.func33, Try.ntmps33
  go_wp2_with (at_builtin; refine Lib.wpList_append_run _ rfl _ _ _ _ rfl _ _ rfl rfl _ _ (hr _) ?_)
  all_goals (go_ret; exact ⟨_, rfl, hfin⟩)
def isA (g : Nat → Int) (n : Nat) (v : Value) (w : World) : Prop := ∃ p c, v = .slice p n c ∧ n ≤ c ∧ AtK .u8 w p n g
theorem isA.stay {g : Nat → Int} {n : Nat} {v : Value} {w x : World} (h : isA g n v w) (hb : Below w.heap.size w x) : isA g n v x := by
  obtain ⟨p, c, e, hc, h⟩ := h
  exact ⟨p, c, e, hc, h.below hb⟩
theorem isC.a {B : Nat} {bs : List Nat} {f : Nat → Int} {n : Nat} {v : Value} {w : World} (h : isC B bs f n v w) : isA f n v w := by
  obtain ⟨k, rfl, hb⟩ := h
  exact ⟨_, _, rfl, Nat.le_refl _, box_at hb⟩
theorem OwnY.a {B : Nat} {f : Nat → Int} {n : Nat} {v : Value} {w : World} (h : OwnY w B v f n) : isA f n v w := by
  by_cases h0 : 0 < n
  · obtain ⟨k, c, e, h1, -, -, hb⟩ := h.box h0
    exact ⟨_, _, e, h1, box_at hb⟩
  · obtain rfl : n = 0 := by omega
    rcases h.2 with ⟨hv, -⟩ | ⟨g, cap, cur, hv, -, -, hle, -⟩
    · exact ⟨_, _, hv, Nat.le_refl _, AtK.nil⟩
    · exact ⟨_, _, hv, Nat.zero_le _, AtK.nil⟩
theorem boxA {w : World} {b n : Nat} {f : Nat → Int} (h : Box w b (BC f n)) (c : Nat) (hc : n ≤ c) : isA f n (.slice (some ⟨b, 0, none⟩) n c) w := ⟨_, _, rfl, hc, box_at h⟩
theorem isA.congr {f g : Nat → Int} {n : Nat} {v : Value} {w : World} (h : isA f n v w) (e : ∀ j, j < n → f j = g j) : isA g n v w := by
  obtain ⟨p, c, hv, hc, h⟩ := h
  exact ⟨p, c, hv, hc, h.congr e⟩
theorem ob_rg (h : Nat → BitVec 32) (i : Nat) : 0 ≤ ob h i ∧ ob h i < 256 := by unfold ob; omega
theorem dig_rg (g : Nat → Int) (n j : Nat) : 0 ≤ dig g n j ∧ dig g n j < 256 := by unfold dig; exact ob_rg _ _
def lst (l : List Int) (j : Nat) : Int := l.getD j 0
theorem By.cat {f g : Nat → Int} {m : Nat} (hf : By f) (hg : By g) : By (cat f m g) := fun j => by
  unfold fpn.cat
  cases Nat.blt j m
  · exact hg _
  · exact hf _
theorem By.dig (g : Nat → Int) (n : Nat) : By (fpn.dig g n) := dig_rg g n
theorem By.zero : By (fun _ => 0) := fun _ => ⟨Int.le_refl _, (by decide : (0 : Int) < 256)⟩
theorem By.lst2 {a b : Int} (ha : 0 ≤ a ∧ a < 256) (hb : 0 ≤ b ∧ b < 256) : By (lst [a, b]) := fun j => by
  match j with
  | 0 => exact ha
  | 1 => exact hb
  | _ + 2 => exact By.zero 0
theorem By.lst3 {a b c : Int} (ha : 0 ≤ a ∧ a < 256) (hb : 0 ≤ b ∧ b < 256) (hc : 0 ≤ c ∧ c < 256) : By (lst [a, b, c]) := fun j => by
  match j with
  | 0 => exact ha
  | 1 => exact hb
  | 2 => exact hc
  | _ + 3 => exact By.zero 0
@[irreducible] def askH (s : Nat → Int) (t z : Int) : Nat → Int := dig (cat s 32 (lst [2, t, z])) 35
@[irreducible] def askS (s : Nat → Int) (t : Int) : Nat → Int := dig (cat s 32 (lst [3, t])) 34
@[irreducible] def askN (s : Nat → Int) (t : Int) : Nat := wd (cat (askH s t 0) 32 (askH s t 1)) 64
def tellT (t : Int) (g : Nat → Int) (n j : Nat) : Int := if j = 0 then 1 else if j = 1 then t else if j < 10 then ((n / 2 ^ (8 * (9 - j)) % 256 : Nat) : Int) else g (j - 10)
@[irreducible] def tellS (s : Nat → Int) (t : Int) (g : Nat → Int) (n : Nat) : Nat → Int := dig (cat s 32 (tellT t g n)) (32 + (10 + n))
@[irreducible] def begS (g : Nat → Int) (n : Nat) : Nat → Int := dig (cat (fun _ => 0) 1 g) (1 + n)
theorem By.askH (s : Nat → Int) (t z : Int) : By (fpn.askH s t z) := by unfold fpn.askH; exact By.dig _ _
theorem By.askS (s : Nat → Int) (t : Int) : By (fpn.askS s t) := by unfold fpn.askS; exact By.dig _ _
theorem By.tellS (s : Nat → Int) (t : Int) (g : Nat → Int) (n : Nat) : By (fpn.tellS s t g n) := by unfold fpn.tellS; exact By.dig _ _
theorem By.begS (g : Nat → Int) (n : Nat) : By (fpn.begS g n) := by unfold fpn.begS; exact By.dig _ _
theorem tellT_rg {t : Int} (ht : 0 ≤ t ∧ t < 256) {g : Nat → Int} {n : Nat} (hg : ∀ j, j < n → 0 ≤ g j ∧ g j < 256) (j : Nat) (hj : j < 10 + n) : 0 ≤ tellT t g n j ∧ tellT t g n j < 256 := by
  unfold tellT
  split
  · decide
  · split
    · exact ht
    · split
      · omega
      · exact hg _ (by omega)
theorem cat_rg {f g : Nat → Int} {m n : Nat} (hf : By f) (hg : ∀ j, j < n → 0 ≤ g j ∧ g j < 256) (j : Nat) (hj : j < m + n) : 0 ≤ cat f m g j ∧ cat f m g j < 256 := by
  unfold cat
  cases h : Nat.blt j m
  · exact hg _ (by have := Nat.le_of_not_lt (mt Nat.blt_eq.mpr (by rw [h]; simp)); omega)
  · exact hf _
theorem cat_at0 (f g : Nat → Int) {m j : Nat} (h : j < m) : cat f m g j = f j := by
  unfold cat; rw [show Nat.blt j m = true from by simpa using h]; rfl
theorem cat_at1 (f g : Nat → Int) {m j : Nat} (h : m ≤ j) : cat f m g j = g (j - m) := by
  unfold cat; rw [show Nat.blt j m = false from by cases e : Nat.blt j m with | false => rfl | true => have := Nat.blt_eq.mp e; omega]; rfl
theorem tell_len {t : Int} {g : Nat → Int} {n m : Nat} (hm : m < 8) : tellT t g n (2 + m) = ((n / 2 ^ (8 * (7 - m)) % 256 : Nat) : Int) := by
  unfold tellT
  rw [if_neg (by omega), if_neg (by omega), if_pos (by omega), show 9 - (2 + m) = 7 - m by omega]
theorem tell_cat (t : Int) (g : Nat → Int) (n j : Nat) : cat (tellT t g n) 10 g j = tellT t g n j := by
  by_cases h : j < 10
  · rw [cat_at0 _ _ h]
  · rw [cat_at1 _ _ (by omega)]
    unfold tellT
    rw [if_neg (by omega), if_neg (by omega), if_neg h]
theorem sumA {g : Nat → Int} {n : Nat} {v : Value} {w : World} (h : isA g n v w) (hn : n ≤ 400) (hg : ∀ j, j < n → 0 ≤ g j ∧ g j < 256) : Calls Try.prog 15 #[v] w (Ret (VB (dig g n) 32) w) := by
  obtain ⟨p, c, rfl, hc, h⟩ := h
  exact Go.Proofs.Ytccidmogamnihaa.shaK.sum g p n c w hn hc h hg
theorem digA {g : Nat → Int} {n : Nat} {v : Value} {w : World} (h : isA g n v w) (hn : n ≤ 400) (hg : ∀ j, j < n → 0 ≤ g j ∧ g j < 256) : Calls Try.prog 16 #[v] w (Ret (VB (dig g n) 32) w) := by
  obtain ⟨p, c, rfl, hc, h⟩ := h
  exact refDigest g p n c w hn h hg
theorem wideA {g : Nat → Int} {n : Nat} {v : Value} {w : World} (h : isA g n v w) (hn : n ≤ 192) (hg : ∀ j, j < n → 0 ≤ g j ∧ g j < 256) : Calls Try.prog 18 #[v] w (Ret (RV (wd g n)) w) := by
  obtain ⟨p, c, rfl, hc, h⟩ := h
  exact frWide g p n c w hc h hg hn
theorem wideRA {g : Nat → Int} {n : Nat} {v : Value} {w : World} (h : isA g n v w) (hn : n ≤ 192) (hg : ∀ j, j < n → 0 ≤ g j ∧ g j < 256) : Calls Try.prog 20 #[v] w (Ret (RV (wd g n)) w) := by
  obtain ⟨p, c, rfl, hc, h⟩ := h
  exact refWide g p n c w h hg hn
theorem wp_appendA {Q : Exit → Act → World → Prop} {o : Oper} {a : Act} {w : World} {K : Act → World → Prop} (s x : Operand) (ho : o.op = .call { callee := .builtin .append, args := #[s, x], argTypes := #[29, 29] })
    {B : Nat} {v u : Value} {f g : Nat → Int} {m n : Nat} (hs : a.eval s = v) (hown : OwnY w B v f m) (hx : a.eval x = u) (hc : isA g n u w) (hl : m + n ≤ 1000) (hB : B ≤ w.heap.size)
    (h : ∀ v' w', OwnY w' B v' (cat f m g) (m + n) → Below B w w' → K (a.put o.dst v') w') : o.wp Try.prog a w K Q := by
  obtain ⟨p, c, rfl, hcc, hA⟩ := hc
  exact wp_appendN s x ho hs hown hx hA hl hB h
theorem cat_one {f : Nat → Int} {l : Nat} {x : Int} (h : f l = x) (j : Nat) (hj : j < l + 1) : cat f l (lst [x]) j = f j := by
  by_cases e : j < l
  · exact cat_at0 _ _ e
  · obtain rfl : j = l := by omega
    rw [cat_at1 _ _ (Nat.le_refl _), Nat.sub_self, h]; rfl
theorem askWide {s : Nat → Int} {t : Int} {v : Value} {w : World} (h : isA (cat (askH s t 0) 32 (askH s t 1)) 64 v w) : Calls Try.prog 18 #[v] w (Ret (RV (askN s t)) w) := by
  unfold askN
  exact wideA h (by decide) (fun j _ => By.cat (By.askH s t 0) (By.askH s t 1) j)
theorem askWideR {s : Nat → Int} {t : Int} {v : Value} {w : World} (h : isA (cat (askH s t 0) 32 (askH s t 1)) 64 v w) : Calls Try.prog 20 #[v] w (Ret (RV (askN s t)) w) := by
  unfold askN
  exact wideRA h (by decide) (fun j _ => By.cat (By.askH s t 0) (By.askH s t 1) j)
def RetTk (v : Value) (b : Nat) (f : Nat → Int) (w : World) : Ending → World → Prop := fun e w' => e = .returned v ∧ Chg b w w' ∧ Box w' b (BC f 32)
theorem cat_two {f : Nat → Int} {l : Nat} {x y : Int} (h : f l = x) (h2 : f (l + 1) = y) (j : Nat) (hj : j < l + 2) : cat f l (lst [x, y]) j = f j := by
  by_cases e : j < l
  · exact cat_at0 _ _ e
  · rw [cat_at1 _ _ (by omega)]
    rcases Nat.lt_or_ge l j with e2 | e2
    · obtain rfl : j = l + 1 := by omega
      rw [show l + 1 - l = 1 by omega, h2]; rfl
    · obtain rfl : j = l := by omega
      rw [Nat.sub_self, h]; rfl
theorem cat_nil (f g s : Nat → Int) (j : Nat) (hj : j < 32) : cat f 0 s j = cat s 32 g j := by
  rw [cat_at1 _ _ (Nat.zero_le j), cat_at0 _ _ hj]; rfl
theorem cat_same (s g : Nat → Int) (j : Nat) : cat (cat s 32 g) 32 g j = cat s 32 g j := by
  by_cases e : j < 32
  · rw [cat_at0 _ _ e]
  · rw [cat_at1 _ _ (by omega), cat_at1 _ _ (by omega)]
theorem cat_t (s : Nat → Int) (t : Int) (g : Nat → Int) (n m : Nat) : cat s 32 (tellT t g n) (32 + m) = tellT t g n m := by
  rw [cat_at1 _ _ (by omega), show 32 + m - 32 = m by omega]
theorem cat_tl (s : Nat → Int) {t : Int} {g : Nat → Int} {n m : Nat} (hm : m < 8) : cat s 32 (tellT t g n) (34 + m) = ((n / 2 ^ (8 * (7 - m)) % 256 : Nat) : Int) := by
  rw [show 34 + m = 32 + (2 + m) by omega, cat_t, tell_len hm]
theorem cat_tg (s : Nat → Int) (t : Int) (g : Nat → Int) (n j : Nat) : cat (cat s 32 (tellT t g n)) 42 g j = cat s 32 (tellT t g n) j := by
  by_cases e : j < 42
  · rw [cat_at0 _ _ e]
  · rw [cat_at1 _ _ (by omega), show j = 32 + (j - 32) by omega, cat_t]
    unfold tellT
    rw [if_neg (by omega), if_neg (by omega), if_neg (by omega)]
    congr 1
    omega
theorem tellD {s g : Nat → Int} {t : Int} {n : Nat} {v : Value} {w : World} (h : isA (cat s 32 (tellT t g n)) (32 + (10 + n)) v w) (hs0 : By s) (ht : 0 ≤ t ∧ t < 256) (hg : ∀ j, j < n → 0 ≤ g j ∧ g j < 256) (hn : n ≤ 200) : Calls Try.prog 16 #[v] w (Ret (VB (tellS s t g n) 32) w) := by
  unfold tellS
  exact digA h (by omega) (cat_rg hs0 (tellT_rg ht hg))
theorem askD0 {s : Nat → Int} {t : Int} {v : Value} {w : World} (h : isA (cat s 32 (lst [2, t, 0])) 35 v w) (hs0 : By s) (ht : 0 ≤ t ∧ t < 256) : Calls Try.prog 16 #[v] w (Ret (VB (askH s t 0) 32) w) := by
  unfold askH
  exact digA h (by decide) (fun j _ => By.cat hs0 (By.lst3 (by decide) ht (by decide)) j)
theorem askD1 {s : Nat → Int} {t : Int} {v : Value} {w : World} (h : isA (cat s 32 (lst [2, t, 1])) 35 v w) (hs0 : By s) (ht : 0 ≤ t ∧ t < 256) : Calls Try.prog 16 #[v] w (Ret (VB (askH s t 1) 32) w) := by
  unfold askH
  exact digA h (by decide) (fun j _ => By.cat hs0 (By.lst3 (by decide) ht (by decide)) j)
theorem askDS {s : Nat → Int} {t : Int} {v : Value} {w : World} (h : isA (cat s 32 (lst [3, t])) 34 v w) (hs0 : By s) (ht : 0 ≤ t ∧ t < 256) : Calls Try.prog 16 #[v] w (Ret (VB (askS s t) 32) w) := by
  unfold askS
  exact digA h (by decide) (fun j _ => By.cat hs0 (By.lst2 (by decide) ht) j)
theorem wp_storeR {Q : Exit → Act → World → Prop} {o : Oper} {a : Act} {w : World} {K : Act → World → Prop} (x y : Operand) (ho : o.op = .store 34 x y) {b m n : Nat} (hx : a.eval x = .pointer (some ⟨b, 0, none⟩)) (hy : a.eval y = RV n) (hb : Box w b (RC m)) (hd : o.dst = none)
    (h : ∀ w', Wr b w w' → Box w' b (RC n) → K a w') : o.wp Try.prog a w K Q := by
  have hrun := run_storeAt_mid (P := Try.prog) w b 0 34 (RC n).toArray (by have := hb.free; simpa [RC] using this) (by simpa [RC] using rR.size) (all_oneCell_toArray (by intro u hu; simp [RC] at hu; rcases hu with rfl | rfl | rfl | rfl <;> rfl))
  have this : (execOp a.eval o).run Try.prog w = .ok .skip (w.setCells b 0 (RC n)) := by
    unfold execOp RV at *
    simp [ho, hx, hy, Sem.run_bind, hrun]
  unfold Oper.wp
  rw [this]
  simp only [Oper.upon, hd, Act.put]
  exact h _ (Wr.set b (RC n) 0 w) (Box.set hb (off := 0) (cs := RC n) (by simp [RC]))
section
variable {ops : Array Oper} {ks : List Kind} {T : List Nat} {a0 : Act} {B : Nat} {w0 W0 : World} {H : List (Nat × List Value)} {i : Nat} {o : Oper}
theorem oApOB {x y : Operand} {g : Nat → Int} {n c b : Nat} (bs : List Nat) (j k : Nat) (h0 : 0 < n) (hm : n ≤ 1000) (hb0 : H[k]? = some (b, BC g n) := by exact rfl)
    (hj : kd ks j = .any isE := by exact rfl) (hbf : bef T i j = true := by kernel_rfl) (hx : ∀ L, rd ops ks T a0 L i x = L.v j := by intro _; kernel_rfl) (hy : ∀ L, rd ops ks T a0 L i y = .slice (some ⟨b, 0, none⟩) n c := by intro _; kernel_rfl)
    (hw : ∀ L, wantedR ks L o = true := by intro _; kernel_rfl) (he : Pl.early T ks i = true := by kernel_rfl) (ho : o.op = .call { callee := .builtin .append, args := #[x, y], argTypes := #[29, 29] } := by exact rfl)
    (hb : bs = H.map (·.1) := by rfl) (hk : kd ks i = .any (isO B bs g n)) : Obl Try.prog ops ks T a0 B w0 H i o := by
  have e : isO B bs g n = isO B bs (cat (fun _ => 0) 0 g) (0 + n) := by rw [Nat.zero_add]; rfl
  rw [e] at hk
  refine oApO bs h0 (by omega) (fun L w hs => ?_) (fun L w hs => ?_) hw he ho hb hk
  · obtain ⟨a, ea⟩ := hs.any j _ hj hbf
    exact ⟨a, (hx L).trans ea, fun j hj => absurd hj (by omega)⟩
  · exact ⟨⟨b, 0, none⟩, c, hy L, fun j hj => by rw [Addr.add_mid]; exact (seen_at hs hb0).cells j _ (BC_at hj)⟩
end
end Go.Proofs.Ytccidmogamnihaa.fpn
