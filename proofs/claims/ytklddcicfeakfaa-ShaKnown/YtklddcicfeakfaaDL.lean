/- Twins of bytes; what is kept of them. -/
import Derived.Test.YtklddcicfeakfaaDK
namespace Go.Proofs.Ytklddcicfeakfaa.fpn
open Go.RowKit Pl
set_option linter.unusedVariables false
set_option linter.unusedSimpArgs false
set_option maxRecDepth 4000

/-- make([]byte, n, n). -/
theorem wp_makeY {Q : Exit → Act → World → Prop} {o : Oper} {a : Act} {w : World} {K : Act → World → Prop} (x y : Operand) (ho : o.op = .makeSlice 22 x y) {n : Nat} (hx : a.eval x = .int .i64 (n : Int)) (hy : a.eval y = .int .i64 (n : Int)) (hn : n ≤ 1000)
    (h : ∀ w', Below w.heap.size w w' → Box w' w.heap.size (BC (fun _ => 0) n) → K (a.put o.dst (.slice (some ⟨w.heap.size, 0, none⟩) n n)) w') : o.wp Try.prog a w K Q := by
  obtain ⟨i0, hi0, hz0, hz1, hz2⟩ := info_parts info8
  have hr := run_makeSlice (P := Try.prog) (w := w) 22 5 i0 (.int .u8 0) Try.underlying22 hi0 hz0 .i64 .i64 (n : Int) (n : Int) (by omega) (Int.le_refl _) (by rw [hz1]; omega) (by rw [hz2]; omega) (by omega)
  have hc : madeCells (Value.int .u8 0).cells (n * i0.size) = (BC (fun _ => 0) n).toArray := by
    apply Array.ext'
    rw [hz1, Nat.mul_one]
    unfold madeCells BC
    simp [Value.cells, Nat.mod_one]
  have this : (execOp a.eval o).run Try.prog w = .ok (.value (.slice (some ⟨w.heap.size, 0, none⟩) n n)) (w.alloc (.cells (BC (fun _ => 0) n).toArray 5)) := by
    rw [← hc]
    unfold execOp
    simp only [ho, hx, hy, Sem.run_bind, hr]
    rfl
  unfold Oper.wp
  rw [this]
  exact h _ ((Below.refl _ _).alloc (Nat.le_refl _) _) (Box.new w (BC (fun _ => 0) n) 5)
/-- copy of n bytes into at least as many. -/
theorem wp_copyY {Q : Exit → Act → World → Prop} {o : Oper} {a : Act} {w : World} {K : Act → World → Prop} (d s : Operand) (ho : o.op = .call { callee := .builtin .copy, args := #[d, s], argTypes := #[22, 22] }) {b n N c1 c2 : Nat} {f g : Nat → Int} {p : Option Addr}
    (hd : a.eval d = .slice (some ⟨b, 0, none⟩) N c1) (hs : a.eval s = .slice p n c2) (hN : n ≤ N) (hbx : Box w b (BC f N)) (hc : AtK .u8 w p n g)
    (h : ∀ w', Wr b w w' → Box w' b (BC (cat g n (fun j => f (n + j))) N) → K (a.put o.dst (goInt n)) w') : o.wp Try.prog a w K Q := by
  have hcat : BC (cat g n (fun j => f (n + j))) N = BC g n ++ (BC f N).drop n := by
    rw [show N = n + (N - n) by omega, ← BC_cat]
    congr 1
    refine List.ext_getElem? fun i => ?_
    rw [List.getElem?_drop]
    rcases Nat.lt_or_ge i (N - n) with hi | hi
    · rw [BC_at hi, BC_at (show n + i < n + (N - n) by omega)]
    · rw [List.getElem?_eq_none (by rw [BC_len]; exact hi), List.getElem?_eq_none (by rw [BC_len]; omega)]
  by_cases h0 : n = 0
  · subst h0
    have hrun := run_copy_none (P := Try.prog) w 22 22 o.type 5 (some ⟨b, 0, none⟩) p N c1 0 c2 Try.underlying22 sizeY (by simp)
    unfold Oper.wp execOp
    simp only [ho, resolve, invoke, builtin, Sem.run_bind, Sem.run_pure, Result.andThen_ok, List.map_toArray, List.map_cons, List.map_nil, hd, hs, hrun]
    refine h w ⟨rfl, rfl, rfl, rfl, fun _ _ => rfl⟩ ?_
    rw [hcat]
    exact hbx
  · obtain ⟨b2, off, rfl, hcc⟩ := hc (by omega)
    have hl : (BC g n).length = n := BC_len g n
    have hrun := run_copy_cells (P := Try.prog) w 22 22 o.type 5 b 0 N c1 ⟨b2, off, none⟩ n c2 (BC g n) Try.underlying22 sizeY (by rw [hl]; exact (Nat.min_eq_left hN).symm)
      (fun j v hv => by
        have hj : j < n := by have := (List.getElem?_eq_some_iff.1 hv).1; rwa [hl] at this
        rw [BC_at hj] at hv
        obtain rfl : Value.int .u8 (g j) = v := by simpa using hv
        rw [Addr.add_mid]
        exact hcc j hj)
      (fun j hj => (hbx.free j (by rw [BC_len]; rw [hl] at hj; omega)).1) (fun j hj => (hbx.free j (by rw [BC_len]; rw [hl] at hj; omega)).2) (BC_one g n)
    unfold Oper.wp execOp
    simp only [ho, resolve, invoke, builtin, Sem.run_bind, Sem.run_pure, Result.andThen_ok, List.map_toArray, List.map_cons, List.map_nil, hd, hs, hrun]
    have e := Box.set hbx (off := 0) (cs := BC g n) (by rw [BC_len, BC_len]; omega)
    have e2 : Pl.splice (BC f N) 0 (BC g n) = BC g n ++ (BC f N).drop n := by unfold Pl.splice; rw [List.take_zero, List.nil_append, Nat.zero_add, hl]
    rw [e2, ← hcat] at e
    rw [hl]
    exact h _ (Wr.set b (BC g n) 0 w) e
/-- The bytes of a twin. -/
def tw (g : Nat → Int) (n : Nat) : Nat → Int := fun j => if j < n then g j else 229
theorem tw_of (g : Nat → Int) (n : Nat) {j : Nat} (hj : j < n + 3) : su (su (su (cat g n (fun _ => 0)) n 229) (n + 1) 229) (n + 2) 229 j = tw g n j := by
  unfold tw
  by_cases h : j < n
  · rw [if_pos h, su_ne (by omega), su_ne (by omega), su_ne (by omega)]
    unfold cat
    rw [show Nat.blt j n = true by simpa using h]; rfl
  · rw [if_neg h]
    rcases (show j = n ∨ j = n + 1 ∨ j = n + 2 by omega) with rfl | rfl | rfl
    · rw [su_ne (by omega), su_ne (by omega), su_at]
    · rw [su_ne (by omega), su_at]
    · rw [su_at]
/-- A twin is told. -/
def RetTw (g : Nat → Int) (n : Nat) (w : World) : Ending → World → Prop := fun e w' => ∃ k, e = .returned (.slice (some ⟨k, 0, none⟩) n (n + 3)) ∧ w.heap.size ≤ k ∧ Box w' k (BC (tw g n) (n + 3)) ∧ Below w.heap.size w w'
/-- string(b) of bytes, of none too. -/
def strN (f : Nat → Int) (n : Nat) : Value := .string (strOfNums ((List.range n).map f))
theorem strN_congr {f g : Nat → Int} {n : Nat} (h : ∀ j, j < n → f j = g j) : strN f n = strN g n := by
  unfold strN
  rw [List.map_congr_left fun j hj => h j (by simpa using hj)]
theorem str_all (w : World) (p : Option Addr) (n cap : Nat) (f : Nat → Int) (h : AtK .u8 w p n f) :
    (convert 22 9 (.slice p n cap)).run Try.prog w = .ok (strN f n) w := by
  by_cases h0 : 0 < n
  · obtain ⟨b, off, rfl, hc⟩ := h h0
    exact run_convert_bytes_arg w 22 5 Try.underlying22 Try.underlying5 b off n cap ((List.range n).map f) (by simp) (fun i hi => by
      rw [hc i hi]
      simp [hi]) 9 Try.underlying9
  · obtain rfl : n = 0 := by omega
    cases p with
    | some a => exact run_convert_bytes_arg w 22 5 Try.underlying22 Try.underlying5 a.block a.off 0 cap [] rfl (fun i hi => by omega) 9 Try.underlying9
    | none => exact run_convert_bytes_nil w 22 5 Try.underlying22 Try.underlying5 0 cap 9 Try.underlying9
theorem neqS (t : TypeId) (a : ByteArray) (w : World) : (binOp .neq t (.string a) (.string a)).run Try.prog w = .ok (.bool false) w := by
  simp [binOp, Sem.run_bind, Op.stringOp]
theorem guardS (op : BinOp) (t : TypeId) (x y : Operand) (a b : ByteArray) (w : World) : (eqGuard op t x y (.string a) (.string b)).run Try.prog w = .ok () w := by
  unfold eqGuard
  cases op <;> simp [Sem.run_bind]
section
variable {ops : Array Oper} {ks : List Kind} {T : List Nat} {a0 : Act} {B : Nat} {w0 W0 : World} {H : List (Nat × List Value)} {i : Nat} {o : Oper}
theorem oCap {x : Operand} {t e : TypeId} {p : Option Addr} {n c : Nat} (hu : Try.prog.underlying t = some (.slice e)) (hw : ∀ L, wantedR ks L o = true := by intro _; kernel_rfl) (ho : o.op = .call { callee := .builtin .cap, args := #[x], argTypes := #[t] } := by exact rfl)
    (hx : ∀ L, rd ops ks T a0 L i x = .slice p n c := by intro _; kernel_rfl) (hk : kd ks i = .det (.int .i64 c)) : Obl Try.prog ops ks T a0 B w0 H i o := ⟨ob_pure hw hk fun L w => by
    unfold execOp
    simp [ho, resolve, hx L, invoke, builtin, Builtin.cap_, Sem.run_bind, run_underlying hu w, goInt]⟩
/-- Bytes somewhere, as a text. -/
theorem oCsA {x : Operand} {f : Nat → Int} {p : Option Addr} {n c : Nat} (h : ∀ L w, Seen ks T B w0 H L i w → AtK .u8 w p n f) (he : Pl.early T ks i = true := by kernel_rfl) (hw : ∀ L, wantedR ks L o = true := by intro _; kernel_rfl) (ho : o.op = .convert 22 9 x := by exact rfl)
    (hx : ∀ L, rd ops ks T a0 L i x = .slice p n c := by intro _; kernel_rfl) (hk : kd ks i = .det (strN f n)) : Obl Try.prog ops ks T a0 B w0 H i o := ⟨ob_det hw hk fun L w hs => by
  have hr := str_all w p n c f (h L w (hs he))
  have : (execOp (rd ops ks T a0 L i) o).run Try.prog w = .ok (.value (strN f n)) w := by
    unfold execOp
    simp only [ho, hx L, Sem.run_bind, hr]
    rfl
  rw [this]
  exact ⟨rfl, Below.refl _ _⟩⟩
end
theorem tw_lo {g : Nat → Int} {n j : Nat} (h : j < n) : tw g n j = g j := by unfold tw; rw [if_pos h]
theorem tw_hi {g : Nat → Int} {n j : Nat} (h : ¬ j < n) : tw g n j = 229 := by unfold tw; rw [if_neg h]
theorem twAt {w : World} {k n N : Nat} {g : Nat → Int} (h : Box w k (BC (tw g n) N)) (hN : n ≤ N) : AtK .u8 w (some ⟨k, 0, none⟩) n g := fun _ => ⟨k, 0, rfl, fun j hj => by
  have := h.cells j _ (BC_at (show j < N by omega))
  rwa [tw_lo hj] at this⟩
theorem twCell {w x : World} {k n N j : Nat} {g : Nat → Int} (h : Box w k (BC (tw g n) N)) (hb : Below w.heap.size w x) (h1 : ¬ j < n) (h2 : j < N) : x.cell? ⟨k, 0 + j * 1, none⟩ = some (.int .u8 229) := by
  have := (h.up hb).cells j _ (BC_at h2)
  rwa [tw_hi h1, ← Nat.mul_one j] at this

set_option maxHeartbeats 4000000 in
theorem lawTwin (g : Nat → Int) (p : Option Addr) (n c : Nat) (w : World) (hn : n ≤ 400) (hp : AtK .u8 w p n g) : Calls Try.prog 7 #[.slice p n c] w (RetTw g n w) := by
  obtain ⟨N, eN⟩ : ∃ x, x = n + 3 := ⟨_, rfl⟩
  have hp0 := Heap.start w
  go_enter Try.func7, Try.ntmps7
  refine wp_seq_k (fun K1 k1 => ?_)
  refine gs [.det (.slice none 0 0)] [0] [0] (fun L => [.slice p n c, undef, .slice none 0 0] ++ U 24) (fun L => []) hp0 ⟨
    oA,
    trivial⟩ (fun L0 w1 hp1 => ?_)
  refine k1 _ _ ?_
  refine wp_seq_k (fun K2 k2 => ?_)
  refine wp_region_list ?_
  refine gsC 3 [.det (.slice p n c), .det (.int .i64 n), .det (.int .i64 N)] [0, 1, 2] [0, 1, 3] (fun L _ => [.slice p n c, undef, .slice none 0 0, undef, undef, .slice p n c, .int .i64 n, .int .i64 N] ++ U 19) (fun L => []) hp1 ⟨
    oM, fun h => ⟨ob_len (p := p) (n := n) (c := c) (fun _ => rfl) h rfl (fun _ => by kernel_rfl) Try.underlying22⟩, oJ .i64 .i64 n 3 (h := fun w => addII _ n 3 N (by omega) (by omega) w),
    trivial⟩ (fun L1 _ w2 hp2 ha2 => ?_)
  refine oneL rfl rfl (wp_makeY (.tmp 7) (.tmp 7) rfl (n := N) (by kernel_rfl) (by kernel_rfl) (by omega) (fun x1 hb1 hx1 => ?_))
  have hq1 := Heap.one (B := w.heap.size) (hp2.bel.trans (hb1.mono hp2.bel.size)) hp2.bel.size (Nat.le_trans hp2.bel.size hb1.size) hx1
  refine gsC 1 [.det (.slice (some ⟨w2.heap.size, 0, none⟩) N N)] [0] [0] (fun L _ => [.slice p n c, undef, .slice none 0 0, .slice (some ⟨w2.heap.size, 0, none⟩) N N, undef, .slice p n c, .int .i64 n, .int .i64 N, .slice (some ⟨w2.heap.size, 0, none⟩) N N] ++ U 18) (fun L => [(w2.heap.size, BC (fun _ => 0) N)]) hq1 ⟨
    oA,
    trivial⟩ (fun L2 _ w3 hp3 ha3 => ?_)
  refine wpList_nil ?_
  refine k2 _ _ ?_
  refine wp_seq_k (fun K3 k3 => ?_)
  refine wp_region_list ?_
  refine gsC 2 [.det (.slice (some ⟨w2.heap.size, 0, none⟩) N N), .det (.slice p n c)] [0, 1] [0, 1] (fun L _ => [.slice p n c, undef, .slice none 0 0, .slice (some ⟨w2.heap.size, 0, none⟩) N N, undef, .slice p n c, .int .i64 n, .int .i64 N, .slice (some ⟨w2.heap.size, 0, none⟩) N N, .slice (some ⟨w2.heap.size, 0, none⟩) N N, .slice p n c] ++ U 16) (fun L => [(w2.heap.size, BC (fun _ => 0) N)]) hp3 ⟨
    oM, oM,
    trivial⟩ (fun L3 _ w4 hp4 ha4 => ?_)
  refine oneL rfl rfl (wp_copyY (.tmp 9) (.tmp 10) rfl (b := w2.heap.size) (N := N) (n := n) (f := fun _ => 0) (g := g) (p := p) (c1 := N) (c2 := c) (by kernel_rfl) (by kernel_rfl) (by omega) (hp4.bound 0 rfl).2 (AtK.below hp hp4.bel) (fun x2 hw2 hx2 => ?_))
  have hq2 := Heap.turnL (H := []) hp4 hw2 hx2
  refine wpList_nil ?_
  refine k3 _ _ ?_
  refine wp_seq_k (fun K4 k4 => ?_)
  refine wp_seq_k (fun K5 k5 => ?_)
  refine gs [.det (.slice p n c), .det (.int .i64 n), .det (.int .i64 n)] [0, 1, 2] [0, 1, 3] (fun L => [.slice p n c, undef, .slice none 0 0, .slice (some ⟨w2.heap.size, 0, none⟩) N N, .int .i64 n, .slice p n c, .int .i64 n, .int .i64 N, .slice (some ⟨w2.heap.size, 0, none⟩) N N, .slice (some ⟨w2.heap.size, 0, none⟩) N N, .slice p n c, goInt n, .slice p n c, .int .i64 n] ++ U 13) (fun L => [(w2.heap.size, BC (cat g n (fun _ => 0)) N)]) hq2 ⟨
    oM, fun h => ⟨ob_len (p := p) (n := n) (c := c) (fun _ => rfl) h rfl (fun _ => by kernel_rfl) Try.underlying22⟩, oA,
    trivial⟩ (fun L4 w5 hp5 => ?_)
  refine k5 _ _ ?_
  refine wp_block_k (fun K6 k6 => ?_)
  refine wp_loop_rounds 9 ?_
  refine rounds_k (fun K7 k7 => ?_)
  refine wp_seq_k (fun K8 k8 => ?_)
  refine wp_seq_k (fun K9 k9 => ?_)
  refine gs [.det (.int .i64 n), .det (.slice (some ⟨w2.heap.size, 0, none⟩) N N), .det (.int .i64 N), .det (.bool true)] [0, 1, 2, 3] [0, 0, 2, 7] (fun L => [.slice p n c, undef, .slice none 0 0, .slice (some ⟨w2.heap.size, 0, none⟩) N N, .int .i64 n, .slice p n c, .int .i64 n, .int .i64 N, .slice (some ⟨w2.heap.size, 0, none⟩) N N, .slice (some ⟨w2.heap.size, 0, none⟩) N N, .slice p n c, goInt n, .slice p n c, .int .i64 n, .int .i64 n, .slice (some ⟨w2.heap.size, 0, none⟩) N N, .int .i64 N, .bool true] ++ U 9) (fun L => [(w2.heap.size, BC (cat g n (fun _ => 0)) N)]) hp5 ⟨
    oM, oM, fun h => ⟨ob_len (p := (some ⟨w2.heap.size, 0, none⟩)) (n := N) (c := N) (fun _ => rfl) h rfl (fun _ => by kernel_rfl) Try.underlying22⟩, oJ .i64 .i64 n N (h := fun w => (lssI _ _ _ w).trans (by rw [decide_eq_true (by omega)])),
    trivial⟩ (fun L5 w6 hp6 => ?_)
  refine k9 _ _ ?_
  refine wp_cond_true (by kernel_rfl) ?_
  refine skips ?_
  refine k8 _ _ ?_
  refine wp_seq_k (fun K10 k10 => ?_)
  refine wp_block_k (fun K11 k11 => ?_)
  refine gs [.det (.slice (some ⟨w2.heap.size, 0, none⟩) N N), .det (.int .i64 n), .det (.pointer (some ⟨w2.heap.size, 0 + (n) * 1, none⟩)), .store (.base 0) (0 + (n) * 1) ([.int .u8 229]) (BC (su (cat g n (fun _ => 0)) (n) 229) N)] [0, 1, 2, 3] [0, 0, 3, 7] (fun L => [.slice p n c, undef, .slice none 0 0, .slice (some ⟨w2.heap.size, 0, none⟩) N N, .int .i64 n, .slice p n c, .int .i64 n, .int .i64 N, .slice (some ⟨w2.heap.size, 0, none⟩) N N, .slice (some ⟨w2.heap.size, 0, none⟩) N N, .slice p n c, goInt n, .slice p n c, .int .i64 n, .int .i64 n, .slice (some ⟨w2.heap.size, 0, none⟩) N N, .int .i64 N, .bool true, undef, undef, .slice (some ⟨w2.heap.size, 0, none⟩) N N, .int .i64 n, .pointer (some ⟨w2.heap.size, 0 + (n) * 1, none⟩)] ++ U 4) (fun L => [(w2.heap.size, BC (su (cat g n (fun _ => 0)) (n) 229) N)]) hp6 ⟨
    oM, oM, oIS (n := N) (c := N) (n) Try.underlying22 sizeY (by omega), oTY (n := N) (j := (n)) (by omega),
    trivial⟩ (fun L6 w7 hp7 => ?_)
  refine k11 _ _ _ ?_
  refine block_normal ?_
  refine k10 _ _ ?_
  refine gs [.det (.int .i64 n), .det (.int .i64 ((n + 1 : Nat) : Int)), .det (.int .i64 ((n + 1 : Nat) : Int))] [0, 1, 2] [0, 1, 3] (fun L => [.slice p n c, undef, .slice none 0 0, .slice (some ⟨w2.heap.size, 0, none⟩) N N, .int .i64 ((n + 1 : Nat) : Int), .slice p n c, .int .i64 n, .int .i64 N, .slice (some ⟨w2.heap.size, 0, none⟩) N N, .slice (some ⟨w2.heap.size, 0, none⟩) N N, .slice p n c, goInt n, .slice p n c, .int .i64 n, .int .i64 n, .slice (some ⟨w2.heap.size, 0, none⟩) N N, .int .i64 N, .bool true, .int .i64 n, .int .i64 ((n + 1 : Nat) : Int), .slice (some ⟨w2.heap.size, 0, none⟩) N N, .int .i64 n, .pointer (some ⟨w2.heap.size, 0 + (n) * 1, none⟩)] ++ U 4) (fun L => [(w2.heap.size, BC (su (cat g n (fun _ => 0)) (n) 229) N)]) hp7 ⟨
    oM, oJ .i64 .i64 n 1 (h := fun w => addII _ (n + 0) 1 (n + 1) (by omega) (by omega) w), oA,
    trivial⟩ (fun L7 w8 hp8 => ?_)
  refine k7 _ _ _ ?_
  refine then_normal ?_
  refine rounds_k (fun K12 k12 => ?_)
  refine wp_seq_k (fun K13 k13 => ?_)
  refine wp_seq_k (fun K14 k14 => ?_)
  refine gs [.det (.int .i64 ((n + 1 : Nat) : Int)), .det (.slice (some ⟨w2.heap.size, 0, none⟩) N N), .det (.int .i64 N), .det (.bool true)] [0, 1, 2, 3] [0, 0, 2, 7] (fun L => [.slice p n c, undef, .slice none 0 0, .slice (some ⟨w2.heap.size, 0, none⟩) N N, .int .i64 ((n + 1 : Nat) : Int), .slice p n c, .int .i64 n, .int .i64 N, .slice (some ⟨w2.heap.size, 0, none⟩) N N, .slice (some ⟨w2.heap.size, 0, none⟩) N N, .slice p n c, goInt n, .slice p n c, .int .i64 n, .int .i64 ((n + 1 : Nat) : Int), .slice (some ⟨w2.heap.size, 0, none⟩) N N, .int .i64 N, .bool true, .int .i64 n, .int .i64 ((n + 1 : Nat) : Int), .slice (some ⟨w2.heap.size, 0, none⟩) N N, .int .i64 n, .pointer (some ⟨w2.heap.size, 0 + (n) * 1, none⟩)] ++ U 4) (fun L => [(w2.heap.size, BC (su (cat g n (fun _ => 0)) (n) 229) N)]) hp8 ⟨
    oM, oM, fun h => ⟨ob_len (p := (some ⟨w2.heap.size, 0, none⟩)) (n := N) (c := N) (fun _ => rfl) h rfl (fun _ => by kernel_rfl) Try.underlying22⟩, oJ .i64 .i64 ((n + 1 : Nat) : Int) N (h := fun w => (lssI _ _ _ w).trans (by rw [decide_eq_true (by omega)])),
    trivial⟩ (fun L8 w9 hp9 => ?_)
  refine k14 _ _ ?_
  refine wp_cond_true (by kernel_rfl) ?_
  refine skips ?_
  refine k13 _ _ ?_
  refine wp_seq_k (fun K15 k15 => ?_)
  refine wp_block_k (fun K16 k16 => ?_)
  refine gs [.det (.slice (some ⟨w2.heap.size, 0, none⟩) N N), .det (.int .i64 ((n + 1 : Nat) : Int)), .det (.pointer (some ⟨w2.heap.size, 0 + (n + 1) * 1, none⟩)), .store (.base 0) (0 + (n + 1) * 1) ([.int .u8 229]) (BC (su (su (cat g n (fun _ => 0)) (n) 229) (n + 1) 229) N)] [0, 1, 2, 3] [0, 0, 3, 7] (fun L => [.slice p n c, undef, .slice none 0 0, .slice (some ⟨w2.heap.size, 0, none⟩) N N, .int .i64 ((n + 1 : Nat) : Int), .slice p n c, .int .i64 n, .int .i64 N, .slice (some ⟨w2.heap.size, 0, none⟩) N N, .slice (some ⟨w2.heap.size, 0, none⟩) N N, .slice p n c, goInt n, .slice p n c, .int .i64 n, .int .i64 ((n + 1 : Nat) : Int), .slice (some ⟨w2.heap.size, 0, none⟩) N N, .int .i64 N, .bool true, .int .i64 n, .int .i64 ((n + 1 : Nat) : Int), .slice (some ⟨w2.heap.size, 0, none⟩) N N, .int .i64 ((n + 1 : Nat) : Int), .pointer (some ⟨w2.heap.size, 0 + (n + 1) * 1, none⟩)] ++ U 4) (fun L => [(w2.heap.size, BC (su (su (cat g n (fun _ => 0)) (n) 229) (n + 1) 229) N)]) hp9 ⟨
    oM, oM, oIS (n := N) (c := N) (n + 1) Try.underlying22 sizeY (by omega), oTY (n := N) (j := (n + 1)) (by omega),
    trivial⟩ (fun L9 w10 hp10 => ?_)
  refine k16 _ _ _ ?_
  refine block_normal ?_
  refine k15 _ _ ?_
  refine gs [.det (.int .i64 ((n + 1 : Nat) : Int)), .det (.int .i64 ((n + 2 : Nat) : Int)), .det (.int .i64 ((n + 2 : Nat) : Int))] [0, 1, 2] [0, 1, 3] (fun L => [.slice p n c, undef, .slice none 0 0, .slice (some ⟨w2.heap.size, 0, none⟩) N N, .int .i64 ((n + 2 : Nat) : Int), .slice p n c, .int .i64 n, .int .i64 N, .slice (some ⟨w2.heap.size, 0, none⟩) N N, .slice (some ⟨w2.heap.size, 0, none⟩) N N, .slice p n c, goInt n, .slice p n c, .int .i64 n, .int .i64 ((n + 1 : Nat) : Int), .slice (some ⟨w2.heap.size, 0, none⟩) N N, .int .i64 N, .bool true, .int .i64 ((n + 1 : Nat) : Int), .int .i64 ((n + 2 : Nat) : Int), .slice (some ⟨w2.heap.size, 0, none⟩) N N, .int .i64 ((n + 1 : Nat) : Int), .pointer (some ⟨w2.heap.size, 0 + (n + 1) * 1, none⟩)] ++ U 4) (fun L => [(w2.heap.size, BC (su (su (cat g n (fun _ => 0)) (n) 229) (n + 1) 229) N)]) hp10 ⟨
    oM, oJ .i64 .i64 ((n + 1 : Nat) : Int) 1 (h := fun w => addII _ (n + 1) 1 (n + 2) (by omega) (by omega) w), oA,
    trivial⟩ (fun L10 w11 hp11 => ?_)
  refine k12 _ _ _ ?_
  refine then_normal ?_
  refine rounds_k (fun K17 k17 => ?_)
  refine wp_seq_k (fun K18 k18 => ?_)
  refine wp_seq_k (fun K19 k19 => ?_)
  refine gs [.det (.int .i64 ((n + 2 : Nat) : Int)), .det (.slice (some ⟨w2.heap.size, 0, none⟩) N N), .det (.int .i64 N), .det (.bool true)] [0, 1, 2, 3] [0, 0, 2, 7] (fun L => [.slice p n c, undef, .slice none 0 0, .slice (some ⟨w2.heap.size, 0, none⟩) N N, .int .i64 ((n + 2 : Nat) : Int), .slice p n c, .int .i64 n, .int .i64 N, .slice (some ⟨w2.heap.size, 0, none⟩) N N, .slice (some ⟨w2.heap.size, 0, none⟩) N N, .slice p n c, goInt n, .slice p n c, .int .i64 n, .int .i64 ((n + 2 : Nat) : Int), .slice (some ⟨w2.heap.size, 0, none⟩) N N, .int .i64 N, .bool true, .int .i64 ((n + 1 : Nat) : Int), .int .i64 ((n + 2 : Nat) : Int), .slice (some ⟨w2.heap.size, 0, none⟩) N N, .int .i64 ((n + 1 : Nat) : Int), .pointer (some ⟨w2.heap.size, 0 + (n + 1) * 1, none⟩)] ++ U 4) (fun L => [(w2.heap.size, BC (su (su (cat g n (fun _ => 0)) (n) 229) (n + 1) 229) N)]) hp11 ⟨
    oM, oM, fun h => ⟨ob_len (p := (some ⟨w2.heap.size, 0, none⟩)) (n := N) (c := N) (fun _ => rfl) h rfl (fun _ => by kernel_rfl) Try.underlying22⟩, oJ .i64 .i64 ((n + 2 : Nat) : Int) N (h := fun w => (lssI _ _ _ w).trans (by rw [decide_eq_true (by omega)])),
    trivial⟩ (fun L11 w12 hp12 => ?_)
  refine k19 _ _ ?_
  refine wp_cond_true (by kernel_rfl) ?_
  refine skips ?_
  refine k18 _ _ ?_
  refine wp_seq_k (fun K20 k20 => ?_)
  refine wp_block_k (fun K21 k21 => ?_)
  refine gs [.det (.slice (some ⟨w2.heap.size, 0, none⟩) N N), .det (.int .i64 ((n + 2 : Nat) : Int)), .det (.pointer (some ⟨w2.heap.size, 0 + (n + 2) * 1, none⟩)), .store (.base 0) (0 + (n + 2) * 1) ([.int .u8 229]) (BC (su (su (su (cat g n (fun _ => 0)) (n) 229) (n + 1) 229) (n + 2) 229) N)] [0, 1, 2, 3] [0, 0, 3, 7] (fun L => [.slice p n c, undef, .slice none 0 0, .slice (some ⟨w2.heap.size, 0, none⟩) N N, .int .i64 ((n + 2 : Nat) : Int), .slice p n c, .int .i64 n, .int .i64 N, .slice (some ⟨w2.heap.size, 0, none⟩) N N, .slice (some ⟨w2.heap.size, 0, none⟩) N N, .slice p n c, goInt n, .slice p n c, .int .i64 n, .int .i64 ((n + 2 : Nat) : Int), .slice (some ⟨w2.heap.size, 0, none⟩) N N, .int .i64 N, .bool true, .int .i64 ((n + 1 : Nat) : Int), .int .i64 ((n + 2 : Nat) : Int), .slice (some ⟨w2.heap.size, 0, none⟩) N N, .int .i64 ((n + 2 : Nat) : Int), .pointer (some ⟨w2.heap.size, 0 + (n + 2) * 1, none⟩)] ++ U 4) (fun L => [(w2.heap.size, BC (su (su (su (cat g n (fun _ => 0)) (n) 229) (n + 1) 229) (n + 2) 229) N)]) hp12 ⟨
    oM, oM, oIS (n := N) (c := N) (n + 2) Try.underlying22 sizeY (by omega), oTY (n := N) (j := (n + 2)) (by omega),
    trivial⟩ (fun L12 w13 hp13 => ?_)
  refine k21 _ _ _ ?_
  refine block_normal ?_
  refine k20 _ _ ?_
  refine gs [.det (.int .i64 ((n + 2 : Nat) : Int)), .det (.int .i64 ((n + 3 : Nat) : Int)), .det (.int .i64 ((n + 3 : Nat) : Int))] [0, 1, 2] [0, 1, 3] (fun L => [.slice p n c, undef, .slice none 0 0, .slice (some ⟨w2.heap.size, 0, none⟩) N N, .int .i64 ((n + 3 : Nat) : Int), .slice p n c, .int .i64 n, .int .i64 N, .slice (some ⟨w2.heap.size, 0, none⟩) N N, .slice (some ⟨w2.heap.size, 0, none⟩) N N, .slice p n c, goInt n, .slice p n c, .int .i64 n, .int .i64 ((n + 2 : Nat) : Int), .slice (some ⟨w2.heap.size, 0, none⟩) N N, .int .i64 N, .bool true, .int .i64 ((n + 2 : Nat) : Int), .int .i64 ((n + 3 : Nat) : Int), .slice (some ⟨w2.heap.size, 0, none⟩) N N, .int .i64 ((n + 2 : Nat) : Int), .pointer (some ⟨w2.heap.size, 0 + (n + 2) * 1, none⟩)] ++ U 4) (fun L => [(w2.heap.size, BC (su (su (su (cat g n (fun _ => 0)) (n) 229) (n + 1) 229) (n + 2) 229) N)]) hp13 ⟨
    oM, oJ .i64 .i64 ((n + 2 : Nat) : Int) 1 (h := fun w => addII _ (n + 2) 1 (n + 3) (by omega) (by omega) w), oA,
    trivial⟩ (fun L13 w14 hp14 => ?_)
  refine k17 _ _ _ ?_
  refine then_normal ?_
  refine rounds_k (fun K22 k22 => ?_)
  refine wp_seq_k (fun K23 k23 => ?_)
  refine wp_seq_k (fun K24 k24 => ?_)
  refine gs [.det (.int .i64 ((n + 3 : Nat) : Int)), .det (.slice (some ⟨w2.heap.size, 0, none⟩) N N), .det (.int .i64 N), .det (.bool false)] [0, 1, 2, 3] [0, 0, 2, 7] (fun L => [.slice p n c, undef, .slice none 0 0, .slice (some ⟨w2.heap.size, 0, none⟩) N N, .int .i64 ((n + 3 : Nat) : Int), .slice p n c, .int .i64 n, .int .i64 N, .slice (some ⟨w2.heap.size, 0, none⟩) N N, .slice (some ⟨w2.heap.size, 0, none⟩) N N, .slice p n c, goInt n, .slice p n c, .int .i64 n, .int .i64 ((n + 3 : Nat) : Int), .slice (some ⟨w2.heap.size, 0, none⟩) N N, .int .i64 N, .bool false, .int .i64 ((n + 2 : Nat) : Int), .int .i64 ((n + 3 : Nat) : Int), .slice (some ⟨w2.heap.size, 0, none⟩) N N, .int .i64 ((n + 2 : Nat) : Int), .pointer (some ⟨w2.heap.size, 0 + (n + 2) * 1, none⟩)] ++ U 4) (fun L => [(w2.heap.size, BC (su (su (su (cat g n (fun _ => 0)) (n) 229) (n + 1) 229) (n + 2) 229) N)]) hp14 ⟨
    oM, oM, fun h => ⟨ob_len (p := (some ⟨w2.heap.size, 0, none⟩)) (n := N) (c := N) (fun _ => rfl) h rfl (fun _ => by kernel_rfl) Try.underlying22⟩, oJ .i64 .i64 ((n + 3 : Nat) : Int) N (h := fun w => (lssI _ _ _ w).trans (by rw [decide_eq_false (by omega)])),
    trivial⟩ (fun L14 w15 hp15 => ?_)
  refine k24 _ _ ?_
  refine wp_cond_false (by kernel_rfl) ?_
  refine wp_exit ?_
  refine then_exit ?_
  refine k22 _ _ _ ?_
  refine then_exit ?_
  refine k6 _ _ _ ?_
  refine exit_in ?_
  refine k4 _ _ ?_
  refine wp_seq_k (fun K25 k25 => ?_)
  refine gs [.det (.slice (some ⟨w2.heap.size, 0, none⟩) N N), .det (.slice p n c), .det (.int .i64 n), .det (.slice (some ⟨w2.heap.size, 0, none⟩) n N), .det (.slice (some ⟨w2.heap.size, 0, none⟩) n N)] [0, 1, 2, 3, 4] [0, 0, 2, 7, 15] (fun L => [.slice p n c, undef, .slice (some ⟨w2.heap.size, 0, none⟩) n N, .slice (some ⟨w2.heap.size, 0, none⟩) N N, .int .i64 ((n + 3 : Nat) : Int), .slice p n c, .int .i64 n, .int .i64 N, .slice (some ⟨w2.heap.size, 0, none⟩) N N, .slice (some ⟨w2.heap.size, 0, none⟩) N N, .slice p n c, goInt n, .slice p n c, .int .i64 n, .int .i64 ((n + 3 : Nat) : Int), .slice (some ⟨w2.heap.size, 0, none⟩) N N, .int .i64 N, .bool false, .int .i64 ((n + 2 : Nat) : Int), .int .i64 ((n + 3 : Nat) : Int), .slice (some ⟨w2.heap.size, 0, none⟩) N N, .int .i64 ((n + 2 : Nat) : Int), .pointer (some ⟨w2.heap.size, 0 + (n + 2) * 1, none⟩), .slice (some ⟨w2.heap.size, 0, none⟩) N N, .slice p n c, .int .i64 n, .slice (some ⟨w2.heap.size, 0, none⟩) n N]) (fun L => [(w2.heap.size, BC (su (su (su (cat g n (fun _ => 0)) (n) 229) (n + 1) 229) (n + 2) 229) N)]) hp15 ⟨
    oM, oM, fun h => ⟨ob_len (p := p) (n := n) (c := c) (fun _ => rfl) h rfl (fun _ => by kernel_rfl) Try.underlying22⟩, oSS (len := N) (n := n) Try.underlying22 sizeY (by have := eN; omega),
    oA,
    trivial⟩ (fun L15 w16 hp16 => ?_)
  refine k25 _ _ ?_
  refine wp_ret ?_
  refine bodyPost_ret (v := .slice (some ⟨w2.heap.size, 0, none⟩) n N) ?_ rfl ?_
  · exact res_t rfl (by kernel_rfl) _
  · exact ⟨w2.heap.size, by rw [← eN], (hp16.bound 0 rfl).1, by rw [← eN]; exact box_eq (BC_congr fun j hj => tw_of g n (by omega)) (hp16.bound 0 rfl).2, hp16.bel⟩

set_option maxHeartbeats 4000000 in
theorem lawKept (g : Nat → Int) (k : Nat) (p : Option Addr) (n N c : Nat) (w : World) (hn : n ≤ 400) (eN : N = n + 3) (hk : Box w k (BC (tw g n) N)) (hp : AtK .u8 w p n g) : Calls Try.prog 10 #[.slice (some ⟨k, 0, none⟩) n N, .slice p n c] w (Ret (.bool true) w) := by
  have hp0 := Heap.start w
  go_enter Try.func10, Try.ntmps10
  refine wp_seq_k (fun K1 k1 => ?_)
  refine gs [.det (.bool false)] [0] [0] (fun L => [.slice (some ⟨k, 0, none⟩) n N, .slice p n c, undef, undef, .bool false] ++ U 33) (fun L => []) hp0 ⟨
    oA,
    trivial⟩ (fun L0 w1 hp1 => ?_)
  refine k1 _ _ ?_
  refine wp_seq_k (fun K2 k2 => ?_)
  refine gs [.det (.slice (some ⟨k, 0, none⟩) n N), .det (.slice (some ⟨k, 0, none⟩) n N), .det (.int .i64 N), .det (.slice (some ⟨k, 0, none⟩) N N), .det (.slice (some ⟨k, 0, none⟩) N N)] [0, 1, 2, 3, 4] [0, 0, 2, 7, 15] (fun L => [.slice (some ⟨k, 0, none⟩) n N, .slice p n c, undef, undef, .bool false, .slice (some ⟨k, 0, none⟩) N N, undef, .slice (some ⟨k, 0, none⟩) n N, .slice (some ⟨k, 0, none⟩) n N, .int .i64 N, .slice (some ⟨k, 0, none⟩) N N] ++ U 27) (fun L => []) hp1 ⟨
    oM, oM, oCap (p := (some ⟨k, 0, none⟩)) (n := n) (c := N) Try.underlying22, oSS (len := n) (n := N) Try.underlying22 sizeY (by have := eN; omega),
    oA,
    trivial⟩ (fun L1 w2 hp2 => ?_)
  refine k2 _ _ ?_
  refine wp_seq_k (fun K3 k3 => ?_)
  refine wp_seq_k (fun K4 k4 => ?_)
  refine gs [.det (.slice (some ⟨k, 0, none⟩) n N), .det (strN g n), .det (.slice p n c), .det (strN g n), .det (.bool false), .det (.bool false), .det (.slice (some ⟨k, 0, none⟩) N N), .det (.int .i64 N), .det (.slice p n c), .det (.int .i64 n), .det (.int .i64 N), .det (.bool false), .det (.bool false)] [0, 1, 2, 3, 4, 5, 6, 7, 8, 9, 10, 11, 12] [0, 1, 0, 4, 15, 31, 63, 127, 63, 319, 831, 2047, 4095] (fun L => [.slice (some ⟨k, 0, none⟩) n N, .slice p n c, undef, undef, .bool false, .slice (some ⟨k, 0, none⟩) N N, undef, .slice (some ⟨k, 0, none⟩) n N, .slice (some ⟨k, 0, none⟩) n N, .int .i64 N, .slice (some ⟨k, 0, none⟩) N N, .slice (some ⟨k, 0, none⟩) n N, strN g n, .slice p n c, strN g n, .bool false, .bool false, .slice (some ⟨k, 0, none⟩) N N, .int .i64 N, .slice p n c, .int .i64 n, .int .i64 N, .bool false, .bool false] ++ U 14) (fun L => []) hp2 ⟨
    oM, oCsA (c := N) (fun L w hs => twAt (hk.up hs.bel) (by omega)), oM, oCsA (c := c) (fun L w hs => AtK.below hp hs.bel), oW (u := strN g n) (v := strN g n) (r := .bool false) (fun w => guardS _ _ _ _ _ _ w) (fun w => neqS _ _ w),
    oM, oM, fun h => ⟨ob_len (p := (some ⟨k, 0, none⟩)) (n := N) (c := N) (fun _ => by kernel_rfl) h rfl (fun _ => by kernel_rfl) Try.underlying22⟩, oM,
    fun h => ⟨ob_len (p := p) (n := n) (c := c) (fun _ => by kernel_rfl) h rfl (fun _ => by kernel_rfl) Try.underlying22⟩, oJ .i64 .i64 n 3 (h := fun w => addII _ n 3 N (by omega) (by omega) w),
    oJ .i64 .i64 N N (h := fun w => (lssI _ _ _ w).trans (by rw [decide_eq_false (by omega)])), oP,
    trivial⟩ (fun L2 w3 hp3 => ?_)
  refine k4 _ _ ?_
  refine wp_cond_false (by kernel_rfl) ?_
  refine skips ?_
  refine k3 _ _ ?_
  refine wp_seq_k (fun K5 k5 => ?_)
  refine wp_seq_k (fun K6 k6 => ?_)
  refine gs [.det (.slice p n c), .det (.int .i64 n), .det (.int .i64 n)] [0, 1, 2] [0, 1, 3] (fun L => [.slice (some ⟨k, 0, none⟩) n N, .slice p n c, undef, undef, .bool false, .slice (some ⟨k, 0, none⟩) N N, .int .i64 n, .slice (some ⟨k, 0, none⟩) n N, .slice (some ⟨k, 0, none⟩) n N, .int .i64 N, .slice (some ⟨k, 0, none⟩) N N, .slice (some ⟨k, 0, none⟩) n N, strN g n, .slice p n c, strN g n, .bool false, .bool false, .slice (some ⟨k, 0, none⟩) N N, .int .i64 N, .slice p n c, .int .i64 n, .int .i64 N, .bool false, .bool false, .slice p n c, .int .i64 n] ++ U 12) (fun L => []) hp3 ⟨
    oM, fun h => ⟨ob_len (p := p) (n := n) (c := c) (fun _ => rfl) h rfl (fun _ => by kernel_rfl) Try.underlying22⟩, oA,
    trivial⟩ (fun L3 w4 hp4 => ?_)
  refine k6 _ _ ?_
  refine wp_block_k (fun K7 k7 => ?_)
  refine wp_loop_rounds 9 ?_
  refine rounds_k (fun K8 k8 => ?_)
  refine wp_seq_k (fun K9 k9 => ?_)
  refine wp_seq_k (fun K10 k10 => ?_)
  refine gs [.det (.int .i64 n), .det (.slice p n c), .det (.int .i64 n), .det (.int .i64 N), .det (.bool true)] [0, 1, 2, 3, 4] [0, 0, 2, 6, 15] (fun L => [.slice (some ⟨k, 0, none⟩) n N, .slice p n c, undef, undef, .bool false, .slice (some ⟨k, 0, none⟩) N N, .int .i64 n, .slice (some ⟨k, 0, none⟩) n N, .slice (some ⟨k, 0, none⟩) n N, .int .i64 N, .slice (some ⟨k, 0, none⟩) N N, .slice (some ⟨k, 0, none⟩) n N, strN g n, .slice p n c, strN g n, .bool false, .bool false, .slice (some ⟨k, 0, none⟩) N N, .int .i64 N, .slice p n c, .int .i64 n, .int .i64 N, .bool false, .bool false, .slice p n c, .int .i64 n, .int .i64 n, .slice p n c, .int .i64 n, .int .i64 N, .bool true] ++ U 7) (fun L => []) hp4 ⟨
    oM, oM, fun h => ⟨ob_len (p := p) (n := n) (c := c) (fun _ => rfl) h rfl (fun _ => by kernel_rfl) Try.underlying22⟩, oJ .i64 .i64 n 3 (h := fun w => addII _ n 3 N (by omega) (by omega) w),
    oJ .i64 .i64 n N (h := fun w => (lssI _ _ _ w).trans (by rw [decide_eq_true (by omega)])),
    trivial⟩ (fun L4 w5 hp5 => ?_)
  refine k10 _ _ ?_
  refine wp_cond_true (by kernel_rfl) ?_
  refine skips ?_
  refine k9 _ _ ?_
  refine wp_seq_k (fun K11 k11 => ?_)
  refine wp_block_k (fun K12 k12 => ?_)
  refine wp_seq_k (fun K13 k13 => ?_)
  refine gs [.det (.slice (some ⟨k, 0, none⟩) N N), .det (.int .i64 n), .det (.pointer (some ⟨k, 0 + (n) * 1, none⟩)), .det (.int .u8 229), .det (.bool false)] [0, 1, 2, 3, 4] [0, 0, 3, 7, 15] (fun L => [.slice (some ⟨k, 0, none⟩) n N, .slice p n c, undef, undef, .bool false, .slice (some ⟨k, 0, none⟩) N N, .int .i64 n, .slice (some ⟨k, 0, none⟩) n N, .slice (some ⟨k, 0, none⟩) n N, .int .i64 N, .slice (some ⟨k, 0, none⟩) N N, .slice (some ⟨k, 0, none⟩) n N, strN g n, .slice p n c, strN g n, .bool false, .bool false, .slice (some ⟨k, 0, none⟩) N N, .int .i64 N, .slice p n c, .int .i64 n, .int .i64 N, .bool false, .bool false, .slice p n c, .int .i64 n, .int .i64 n, .slice p n c, .int .i64 n, .int .i64 N, .bool true, undef, undef, .slice (some ⟨k, 0, none⟩) N N, .int .i64 n, .pointer (some ⟨k, 0 + (n) * 1, none⟩), .int .u8 229, .bool false]) (fun L => []) hp5 ⟨
    oM, oM, oIS (n := N) (c := N) (n) Try.underlying22 sizeY (by omega), oLC oneY (fun L w hs => twCell (n := n) (j := (n)) hk hs.bel (by omega) (by omega)),
    oJ .u8 .u8 229 229 (h := fun w => (neqI _ _ _ _ w).trans rfl),
    trivial⟩ (fun L5 w6 hp6 => ?_)
  refine k13 _ _ ?_
  refine wp_cond_false (by kernel_rfl) ?_
  refine skips ?_
  refine k12 _ _ _ ?_
  refine block_normal ?_
  refine k11 _ _ ?_
  refine gs [.det (.int .i64 n), .det (.int .i64 ((n + 1 : Nat) : Int)), .det (.int .i64 ((n + 1 : Nat) : Int))] [0, 1, 2] [0, 1, 3] (fun L => [.slice (some ⟨k, 0, none⟩) n N, .slice p n c, undef, undef, .bool false, .slice (some ⟨k, 0, none⟩) N N, .int .i64 ((n + 1 : Nat) : Int), .slice (some ⟨k, 0, none⟩) n N, .slice (some ⟨k, 0, none⟩) n N, .int .i64 N, .slice (some ⟨k, 0, none⟩) N N, .slice (some ⟨k, 0, none⟩) n N, strN g n, .slice p n c, strN g n, .bool false, .bool false, .slice (some ⟨k, 0, none⟩) N N, .int .i64 N, .slice p n c, .int .i64 n, .int .i64 N, .bool false, .bool false, .slice p n c, .int .i64 n, .int .i64 n, .slice p n c, .int .i64 n, .int .i64 N, .bool true, .int .i64 n, .int .i64 ((n + 1 : Nat) : Int), .slice (some ⟨k, 0, none⟩) N N, .int .i64 n, .pointer (some ⟨k, 0 + (n) * 1, none⟩), .int .u8 229, .bool false]) (fun L => []) hp6 ⟨
    oM, oJ .i64 .i64 n 1 (h := fun w => addII _ (n + 0) 1 (n + 1) (by omega) (by omega) w), oA,
    trivial⟩ (fun L6 w7 hp7 => ?_)
  refine k8 _ _ _ ?_
  refine then_normal ?_
  refine rounds_k (fun K14 k14 => ?_)
  refine wp_seq_k (fun K15 k15 => ?_)
  refine wp_seq_k (fun K16 k16 => ?_)
  refine gs [.det (.int .i64 ((n + 1 : Nat) : Int)), .det (.slice p n c), .det (.int .i64 n), .det (.int .i64 N), .det (.bool true)] [0, 1, 2, 3, 4] [0, 0, 2, 6, 15] (fun L => [.slice (some ⟨k, 0, none⟩) n N, .slice p n c, undef, undef, .bool false, .slice (some ⟨k, 0, none⟩) N N, .int .i64 ((n + 1 : Nat) : Int), .slice (some ⟨k, 0, none⟩) n N, .slice (some ⟨k, 0, none⟩) n N, .int .i64 N, .slice (some ⟨k, 0, none⟩) N N, .slice (some ⟨k, 0, none⟩) n N, strN g n, .slice p n c, strN g n, .bool false, .bool false, .slice (some ⟨k, 0, none⟩) N N, .int .i64 N, .slice p n c, .int .i64 n, .int .i64 N, .bool false, .bool false, .slice p n c, .int .i64 n, .int .i64 ((n + 1 : Nat) : Int), .slice p n c, .int .i64 n, .int .i64 N, .bool true, .int .i64 n, .int .i64 ((n + 1 : Nat) : Int), .slice (some ⟨k, 0, none⟩) N N, .int .i64 n, .pointer (some ⟨k, 0 + (n) * 1, none⟩), .int .u8 229, .bool false]) (fun L => []) hp7 ⟨
    oM, oM, fun h => ⟨ob_len (p := p) (n := n) (c := c) (fun _ => rfl) h rfl (fun _ => by kernel_rfl) Try.underlying22⟩, oJ .i64 .i64 n 3 (h := fun w => addII _ n 3 N (by omega) (by omega) w),
    oJ .i64 .i64 ((n + 1 : Nat) : Int) N (h := fun w => (lssI _ _ _ w).trans (by rw [decide_eq_true (by omega)])),
    trivial⟩ (fun L7 w8 hp8 => ?_)
  refine k16 _ _ ?_
  refine wp_cond_true (by kernel_rfl) ?_
  refine skips ?_
  refine k15 _ _ ?_
  refine wp_seq_k (fun K17 k17 => ?_)
  refine wp_block_k (fun K18 k18 => ?_)
  refine wp_seq_k (fun K19 k19 => ?_)
  refine gs [.det (.slice (some ⟨k, 0, none⟩) N N), .det (.int .i64 ((n + 1 : Nat) : Int)), .det (.pointer (some ⟨k, 0 + (n + 1) * 1, none⟩)), .det (.int .u8 229), .det (.bool false)] [0, 1, 2, 3, 4] [0, 0, 3, 7, 15] (fun L => [.slice (some ⟨k, 0, none⟩) n N, .slice p n c, undef, undef, .bool false, .slice (some ⟨k, 0, none⟩) N N, .int .i64 ((n + 1 : Nat) : Int), .slice (some ⟨k, 0, none⟩) n N, .slice (some ⟨k, 0, none⟩) n N, .int .i64 N, .slice (some ⟨k, 0, none⟩) N N, .slice (some ⟨k, 0, none⟩) n N, strN g n, .slice p n c, strN g n, .bool false, .bool false, .slice (some ⟨k, 0, none⟩) N N, .int .i64 N, .slice p n c, .int .i64 n, .int .i64 N, .bool false, .bool false, .slice p n c, .int .i64 n, .int .i64 ((n + 1 : Nat) : Int), .slice p n c, .int .i64 n, .int .i64 N, .bool true, .int .i64 n, .int .i64 ((n + 1 : Nat) : Int), .slice (some ⟨k, 0, none⟩) N N, .int .i64 ((n + 1 : Nat) : Int), .pointer (some ⟨k, 0 + (n + 1) * 1, none⟩), .int .u8 229, .bool false]) (fun L => []) hp8 ⟨
    oM, oM, oIS (n := N) (c := N) (n + 1) Try.underlying22 sizeY (by omega), oLC oneY (fun L w hs => twCell (n := n) (j := (n + 1)) hk hs.bel (by omega) (by omega)),
    oJ .u8 .u8 229 229 (h := fun w => (neqI _ _ _ _ w).trans rfl),
    trivial⟩ (fun L8 w9 hp9 => ?_)
  refine k19 _ _ ?_
  refine wp_cond_false (by kernel_rfl) ?_
  refine skips ?_
  refine k18 _ _ _ ?_
  refine block_normal ?_
  refine k17 _ _ ?_
  refine gs [.det (.int .i64 ((n + 1 : Nat) : Int)), .det (.int .i64 ((n + 2 : Nat) : Int)), .det (.int .i64 ((n + 2 : Nat) : Int))] [0, 1, 2] [0, 1, 3] (fun L => [.slice (some ⟨k, 0, none⟩) n N, .slice p n c, undef, undef, .bool false, .slice (some ⟨k, 0, none⟩) N N, .int .i64 ((n + 2 : Nat) : Int), .slice (some ⟨k, 0, none⟩) n N, .slice (some ⟨k, 0, none⟩) n N, .int .i64 N, .slice (some ⟨k, 0, none⟩) N N, .slice (some ⟨k, 0, none⟩) n N, strN g n, .slice p n c, strN g n, .bool false, .bool false, .slice (some ⟨k, 0, none⟩) N N, .int .i64 N, .slice p n c, .int .i64 n, .int .i64 N, .bool false, .bool false, .slice p n c, .int .i64 n, .int .i64 ((n + 1 : Nat) : Int), .slice p n c, .int .i64 n, .int .i64 N, .bool true, .int .i64 ((n + 1 : Nat) : Int), .int .i64 ((n + 2 : Nat) : Int), .slice (some ⟨k, 0, none⟩) N N, .int .i64 ((n + 1 : Nat) : Int), .pointer (some ⟨k, 0 + (n + 1) * 1, none⟩), .int .u8 229, .bool false]) (fun L => []) hp9 ⟨
    oM, oJ .i64 .i64 ((n + 1 : Nat) : Int) 1 (h := fun w => addII _ (n + 1) 1 (n + 2) (by omega) (by omega) w), oA,
    trivial⟩ (fun L9 w10 hp10 => ?_)
  refine k14 _ _ _ ?_
  refine then_normal ?_
  refine rounds_k (fun K20 k20 => ?_)
  refine wp_seq_k (fun K21 k21 => ?_)
  refine wp_seq_k (fun K22 k22 => ?_)
  refine gs [.det (.int .i64 ((n + 2 : Nat) : Int)), .det (.slice p n c), .det (.int .i64 n), .det (.int .i64 N), .det (.bool true)] [0, 1, 2, 3, 4] [0, 0, 2, 6, 15] (fun L => [.slice (some ⟨k, 0, none⟩) n N, .slice p n c, undef, undef, .bool false, .slice (some ⟨k, 0, none⟩) N N, .int .i64 ((n + 2 : Nat) : Int), .slice (some ⟨k, 0, none⟩) n N, .slice (some ⟨k, 0, none⟩) n N, .int .i64 N, .slice (some ⟨k, 0, none⟩) N N, .slice (some ⟨k, 0, none⟩) n N, strN g n, .slice p n c, strN g n, .bool false, .bool false, .slice (some ⟨k, 0, none⟩) N N, .int .i64 N, .slice p n c, .int .i64 n, .int .i64 N, .bool false, .bool false, .slice p n c, .int .i64 n, .int .i64 ((n + 2 : Nat) : Int), .slice p n c, .int .i64 n, .int .i64 N, .bool true, .int .i64 ((n + 1 : Nat) : Int), .int .i64 ((n + 2 : Nat) : Int), .slice (some ⟨k, 0, none⟩) N N, .int .i64 ((n + 1 : Nat) : Int), .pointer (some ⟨k, 0 + (n + 1) * 1, none⟩), .int .u8 229, .bool false]) (fun L => []) hp10 ⟨
    oM, oM, fun h => ⟨ob_len (p := p) (n := n) (c := c) (fun _ => rfl) h rfl (fun _ => by kernel_rfl) Try.underlying22⟩, oJ .i64 .i64 n 3 (h := fun w => addII _ n 3 N (by omega) (by omega) w),
    oJ .i64 .i64 ((n + 2 : Nat) : Int) N (h := fun w => (lssI _ _ _ w).trans (by rw [decide_eq_true (by omega)])),
    trivial⟩ (fun L10 w11 hp11 => ?_)
  refine k22 _ _ ?_
  refine wp_cond_true (by kernel_rfl) ?_
  refine skips ?_
  refine k21 _ _ ?_
  refine wp_seq_k (fun K23 k23 => ?_)
  refine wp_block_k (fun K24 k24 => ?_)
  refine wp_seq_k (fun K25 k25 => ?_)
  refine gs [.det (.slice (some ⟨k, 0, none⟩) N N), .det (.int .i64 ((n + 2 : Nat) : Int)), .det (.pointer (some ⟨k, 0 + (n + 2) * 1, none⟩)), .det (.int .u8 229), .det (.bool false)] [0, 1, 2, 3, 4] [0, 0, 3, 7, 15] (fun L => [.slice (some ⟨k, 0, none⟩) n N, .slice p n c, undef, undef, .bool false, .slice (some ⟨k, 0, none⟩) N N, .int .i64 ((n + 2 : Nat) : Int), .slice (some ⟨k, 0, none⟩) n N, .slice (some ⟨k, 0, none⟩) n N, .int .i64 N, .slice (some ⟨k, 0, none⟩) N N, .slice (some ⟨k, 0, none⟩) n N, strN g n, .slice p n c, strN g n, .bool false, .bool false, .slice (some ⟨k, 0, none⟩) N N, .int .i64 N, .slice p n c, .int .i64 n, .int .i64 N, .bool false, .bool false, .slice p n c, .int .i64 n, .int .i64 ((n + 2 : Nat) : Int), .slice p n c, .int .i64 n, .int .i64 N, .bool true, .int .i64 ((n + 1 : Nat) : Int), .int .i64 ((n + 2 : Nat) : Int), .slice (some ⟨k, 0, none⟩) N N, .int .i64 ((n + 2 : Nat) : Int), .pointer (some ⟨k, 0 + (n + 2) * 1, none⟩), .int .u8 229, .bool false]) (fun L => []) hp11 ⟨
    oM, oM, oIS (n := N) (c := N) (n + 2) Try.underlying22 sizeY (by omega), oLC oneY (fun L w hs => twCell (n := n) (j := (n + 2)) hk hs.bel (by omega) (by omega)),
    oJ .u8 .u8 229 229 (h := fun w => (neqI _ _ _ _ w).trans rfl),
    trivial⟩ (fun L11 w12 hp12 => ?_)
  refine k25 _ _ ?_
  refine wp_cond_false (by kernel_rfl) ?_
  refine skips ?_
  refine k24 _ _ _ ?_
  refine block_normal ?_
  refine k23 _ _ ?_
  refine gs [.det (.int .i64 ((n + 2 : Nat) : Int)), .det (.int .i64 ((n + 3 : Nat) : Int)), .det (.int .i64 ((n + 3 : Nat) : Int))] [0, 1, 2] [0, 1, 3] (fun L => [.slice (some ⟨k, 0, none⟩) n N, .slice p n c, undef, undef, .bool false, .slice (some ⟨k, 0, none⟩) N N, .int .i64 ((n + 3 : Nat) : Int), .slice (some ⟨k, 0, none⟩) n N, .slice (some ⟨k, 0, none⟩) n N, .int .i64 N, .slice (some ⟨k, 0, none⟩) N N, .slice (some ⟨k, 0, none⟩) n N, strN g n, .slice p n c, strN g n, .bool false, .bool false, .slice (some ⟨k, 0, none⟩) N N, .int .i64 N, .slice p n c, .int .i64 n, .int .i64 N, .bool false, .bool false, .slice p n c, .int .i64 n, .int .i64 ((n + 2 : Nat) : Int), .slice p n c, .int .i64 n, .int .i64 N, .bool true, .int .i64 ((n + 2 : Nat) : Int), .int .i64 ((n + 3 : Nat) : Int), .slice (some ⟨k, 0, none⟩) N N, .int .i64 ((n + 2 : Nat) : Int), .pointer (some ⟨k, 0 + (n + 2) * 1, none⟩), .int .u8 229, .bool false]) (fun L => []) hp12 ⟨
    oM, oJ .i64 .i64 ((n + 2 : Nat) : Int) 1 (h := fun w => addII _ (n + 2) 1 (n + 3) (by omega) (by omega) w), oA,
    trivial⟩ (fun L12 w13 hp13 => ?_)
  refine k20 _ _ _ ?_
  refine then_normal ?_
  refine rounds_k (fun K26 k26 => ?_)
  refine wp_seq_k (fun K27 k27 => ?_)
  refine wp_seq_k (fun K28 k28 => ?_)
  refine gs [.det (.int .i64 ((n + 3 : Nat) : Int)), .det (.slice p n c), .det (.int .i64 n), .det (.int .i64 N), .det (.bool false)] [0, 1, 2, 3, 4] [0, 0, 2, 6, 15] (fun L => [.slice (some ⟨k, 0, none⟩) n N, .slice p n c, undef, undef, .bool false, .slice (some ⟨k, 0, none⟩) N N, .int .i64 ((n + 3 : Nat) : Int), .slice (some ⟨k, 0, none⟩) n N, .slice (some ⟨k, 0, none⟩) n N, .int .i64 N, .slice (some ⟨k, 0, none⟩) N N, .slice (some ⟨k, 0, none⟩) n N, strN g n, .slice p n c, strN g n, .bool false, .bool false, .slice (some ⟨k, 0, none⟩) N N, .int .i64 N, .slice p n c, .int .i64 n, .int .i64 N, .bool false, .bool false, .slice p n c, .int .i64 n, .int .i64 ((n + 3 : Nat) : Int), .slice p n c, .int .i64 n, .int .i64 N, .bool false, .int .i64 ((n + 2 : Nat) : Int), .int .i64 ((n + 3 : Nat) : Int), .slice (some ⟨k, 0, none⟩) N N, .int .i64 ((n + 2 : Nat) : Int), .pointer (some ⟨k, 0 + (n + 2) * 1, none⟩), .int .u8 229, .bool false]) (fun L => []) hp13 ⟨
    oM, oM, fun h => ⟨ob_len (p := p) (n := n) (c := c) (fun _ => rfl) h rfl (fun _ => by kernel_rfl) Try.underlying22⟩, oJ .i64 .i64 n 3 (h := fun w => addII _ n 3 N (by omega) (by omega) w),
    oJ .i64 .i64 ((n + 3 : Nat) : Int) N (h := fun w => (lssI _ _ _ w).trans (by rw [decide_eq_false (by omega)])),
    trivial⟩ (fun L13 w14 hp14 => ?_)
  refine k28 _ _ ?_
  refine wp_cond_false (by kernel_rfl) ?_
  refine wp_exit ?_
  refine then_exit ?_
  refine k26 _ _ _ ?_
  refine then_exit ?_
  refine k7 _ _ _ ?_
  refine exit_in ?_
  refine k5 _ _ ?_
  refine wp_seq_k (fun K29 k29 => ?_)
  refine gs [.det (.bool true)] [0] [0] (fun L => [.slice (some ⟨k, 0, none⟩) n N, .slice p n c, undef, undef, .bool true, .slice (some ⟨k, 0, none⟩) N N, .int .i64 ((n + 3 : Nat) : Int), .slice (some ⟨k, 0, none⟩) n N, .slice (some ⟨k, 0, none⟩) n N, .int .i64 N, .slice (some ⟨k, 0, none⟩) N N, .slice (some ⟨k, 0, none⟩) n N, strN g n, .slice p n c, strN g n, .bool false, .bool false, .slice (some ⟨k, 0, none⟩) N N, .int .i64 N, .slice p n c, .int .i64 n, .int .i64 N, .bool false, .bool false, .slice p n c, .int .i64 n, .int .i64 ((n + 3 : Nat) : Int), .slice p n c, .int .i64 n, .int .i64 N, .bool false, .int .i64 ((n + 2 : Nat) : Int), .int .i64 ((n + 3 : Nat) : Int), .slice (some ⟨k, 0, none⟩) N N, .int .i64 ((n + 2 : Nat) : Int), .pointer (some ⟨k, 0 + (n + 2) * 1, none⟩), .int .u8 229, .bool false]) (fun L => []) hp14 ⟨
    oA,
    trivial⟩ (fun L14 w15 hp15 => ?_)
  refine k29 _ _ ?_
  refine wp_ret ?_
  refine bodyPost_ret (v := .bool true) ?_ rfl ?_
  · exact res_t rfl (by kernel_rfl) _
  · exact ⟨rfl, hp15.bel⟩
end Go.Proofs.Ytklddcicfeakfaa.fpn
