/- The reference's digests. -/
import Derived.Test.YtklddcicfeakfaaDJ
namespace Go.Proofs.Ytklddcicfeakfaa.fpn
open Go.RowKit Pl
set_option linter.unusedVariables false
set_option linter.unusedSimpArgs false
set_option maxRecDepth 4000

theorem tail1 {P : Program} {ops : Array Oper} {Q : Exit → Act → World → Prop} {k : Nat} {a : Act} {w : World} (hr : List.range' k (ops.size - k) = [k]) (h : wpOp P ops Q k (fun a' w' => Q .normal a' w') a w) : wpOps P ops Q (List.range' k (ops.size - k)) a w := by
  rw [hr, wpOps_cons]
  exact h
/-- A new slice without elements. -/
theorem wp_emptyY {Q : Exit → Act → World → Prop} {o : Oper} {a : Act} {w : World} {K : Act → World → Prop} {f : Nat → Int} (ho : o.op = .buildSlice 22 0 #[])
    (h : ∀ w', OwnY w' w.heap.size (.slice (some ⟨w.heap.size, 0, none⟩) 0 0) f 0 → Below w.heap.size w w' → K (a.put o.dst (.slice (some ⟨w.heap.size, 0, none⟩) 0 0)) w') : o.wp Try.prog a w K Q := by
  obtain ⟨i0, hi0, hz0, hz1, hz2⟩ := info_parts info8
  have this : (execOp a.eval o).run Try.prog w = .ok (.value (.slice (some ⟨w.heap.size, 0, none⟩) 0 0)) (w.alloc (.cells #[] 5)) := by
    unfold execOp
    simp [ho, Instr.buildSlice, Sem.run_bind, run_underlying Try.underlying22, sizeOf, typeInfo, hi0, hz1, Instr.fill, newRow]
    rw [show Array.map (fun _ : Nat => (default : Value)) (Array.range 0) = #[] from Array.eq_empty_of_size_eq_zero (by simp)]
  unfold Oper.wp
  rw [this]
  exact h _ ⟨rfl, Or.inr ⟨w.heap.size, 0, #[], rfl, Nat.le_refl _, heap_alloc_new w _, Nat.le_refl _, Nat.zero_le _, rfl, rfl⟩⟩ ((Below.refl _ _).alloc (Nat.le_refl _) _)
/-- copy into an array of 64 bytes. -/
theorem wp_copy64 {Q : Exit → Act → World → Prop} {o : Oper} {a : Act} {w : World} {K : Act → World → Prop} (d s : Operand) (ho : o.op = .call { callee := .builtin .copy, args := #[d, s], argTypes := #[22, 22] }) {b c1 c2 : Nat} {f g : Nat → Int} {ad : Addr}
    (hd : a.eval d = .slice (some ⟨b, 0, none⟩) 64 c1) (hs : a.eval s = .slice (some ad) 64 c2) (hbx : Box w b (BC f 64)) (hc : ∀ j, j < 64 → w.cell? (ad.add j) = some (.int .u8 (g j)))
    (h : ∀ w', Wr b w w' → Box w' b (BC g 64) → K (a.put o.dst (.int .i64 64)) w') : o.wp Try.prog a w K Q := by
  have hl : (BC g 64).length = 64 := BC_len g 64
  have hrun := run_copy_cells (P := Try.prog) w 22 22 o.type 5 b 0 64 c1 ad 64 c2 (BC g 64) Try.underlying22 sizeY hl
    (fun j v hv => by
      have hj : j < 64 := by have := (List.getElem?_eq_some_iff.1 hv).1; rwa [hl] at this
      rw [BC_at hj] at hv
      obtain rfl : Value.int .u8 (g j) = v := by simpa using hv
      exact hc j hj)
    (fun j hj => (hbx.free j (by rw [BC_len]; rw [hl] at hj; exact hj)).1) (fun j hj => (hbx.free j (by rw [BC_len]; rw [hl] at hj; exact hj)).2) (BC_one g 64)
  unfold Oper.wp execOp
  simp only [ho, resolve, invoke, builtin, Sem.run_bind, Sem.run_pure, Result.andThen_ok, List.map_toArray, List.map_cons, List.map_nil, hd, hs, hrun]
  have e := Box.set hbx (off := 0) (cs := BC g 64) (by rw [BC_len, BC_len]; omega)
  have e2 : Pl.splice (BC f 64) 0 (BC g 64) = BC g 64 := by unfold Pl.splice; rw [List.take_zero, List.nil_append, List.drop_of_length_le (by rw [BC_len, BC_len]; omega), List.append_nil]
  rw [e2] at e
  exact h _ (Wr.set b (BC g 64) 0 w) e
theorem Heap.turnL {B b : Nat} {c d : List Value} {w0 w x : World} {H : List (Nat × List Value)} (h : Heap B w0 w (H ++ [(b, c)])) (hw : Wr b w x) (hx : Box x b d) : Heap B w0 x (H ++ [(b, d)]) := by
  have hb : B ≤ b := (h.box (b, c) (List.mem_append_right _ (List.mem_singleton.2 rfl))).1
  refine ⟨h.bel.trans (hw.below hb), fun p hp => ?_, by have := h.nd; rw [List.map_append] at this ⊢; exact this, by rw [hw.size]; exact h.le⟩
  rcases List.mem_append.1 hp with h1 | h1
  · have hm := h.box p (List.mem_append_left _ h1)
    refine ⟨hm.1, hm.2.wr hw fun e => ?_⟩
    have nd := h.nd
    rw [List.map_append, List.nodup_append] at nd
    exact nd.2.2 p.1 (List.mem_map.2 ⟨p, h1, rfl⟩) b (by simp) e
  · obtain rfl : p = (b, d) := by simpa using h1
    exact ⟨hb, hx⟩
section
variable {ops : Array Oper} {ks : List Kind} {T : List Nat} {a0 : Act} {B : Nat} {w0 W0 : World} {H : List (Nat × List Value)} {i : Nat} {o : Oper}
/-- A part of a slice of bytes. -/
theorem oSB {x lo hi : Operand} {b len c l h : Nat} (hl : l ≤ h) (hh : h ≤ len) (hlc : len ≤ c) (hne : l < c) (hw : ∀ L, wantedR ks L o = true := by intro _; kernel_rfl) (ho : o.op = .slice 22 x (some lo) (some hi) none := by exact rfl)
    (hx : ∀ L, rd ops ks T a0 L i x = .slice (some ⟨b, 0, none⟩) len c := by intro _; kernel_rfl) (hlo : ∀ L, rd ops ks T a0 L i lo = .int .i64 (l : Int) := by intro _; kernel_rfl) (hhi : ∀ L, rd ops ks T a0 L i hi = .int .i64 (h : Int) := by intro _; kernel_rfl) (hk : kd ks i = .det (.slice (some ⟨b, l, none⟩) (h - l) (c - l))) : Obl Try.prog ops ks T a0 B w0 H i o := ⟨ob_pure hw hk fun L w => by
    have h1 : (0 : Int) ≤ (l : Int) ∧ (l : Int) ≤ (h : Int) := ⟨by omega, by omega⟩
    have h2 : ¬ c = l := by omega
    have h3 : (0 : Int) ≤ (h : Int) ∧ (h : Int) ≤ (c : Int) := ⟨by omega, by omega⟩
    have h4 : h ≤ c := by omega
    have hsz : (sizeOf 5).run Try.prog w = .ok 1 w := size_of sizeY w
    unfold execOp
    simp [ho, hx L, hlo L, hhi L, Instr.sliceAt, Instr.slice, Instr.sliceBounds, Instr.sliceBound, asIntOf, Sem.run_bind, run_underlying Try.underlying22, hsz, hl, h4, h2, Addr.add_mid]⟩
end
theorem convIU (a : Nat) (h : a < 1000000) (w : World) : (convert 3 39 (.int .i64 (a : Int))).run Try.prog w = .ok (.int .u64 (a : Int)) w := by
  have e : IntKind.u64.wrap (a : Int) = (a : Int) := by unfold IntKind.wrap; simp [IntKind.bits, IntKind.signed]; omega
  simp [convert, run_underlying Try.underlying3, run_underlying Try.underlying39, Conv.intToInt, e, Sem.run_bind]
theorem convUB (a : Nat) (w : World) : (convert 39 5 (.int .u64 (a : Int))).run Try.prog w = .ok (.int .u8 ((a % 256 : Nat) : Int)) w := by
  have e : IntKind.u8.wrap (a : Int) = ((a % 256 : Nat) : Int) := by unfold IntKind.wrap; simp [IntKind.bits, IntKind.signed]
  simp [convert, run_underlying Try.underlying5, run_underlying Try.underlying39, Conv.intToInt, e, Sem.run_bind]
theorem convWB (x : BitVec 32) (w : World) : (convert 23 5 (W32 x)).run Try.prog w = .ok (.int .u8 ((x.toNat : Int) % 256)) w := by
  have e : IntKind.u8.wrap (x.toNat : Int) = (x.toNat : Int) % 256 := by unfold IntKind.wrap; simp [IntKind.bits, IntKind.signed]
  unfold W32
  simp [convert, run_underlying Try.underlying5, run_underlying Try.underlying23, Conv.intToInt, e, Sem.run_bind]
theorem mulU (t : TypeId) (a b : Nat) (h : a * b < 18446744073709551616) (w : World) : (binOp .mul t (.int .u64 (a : Int)) (.int .u64 (b : Int))).run Try.prog w = .ok (.int .u64 ((a * b : Nat) : Int)) w := by
  have e2 : (a : Int) * (b : Int) = ((a * b : Nat) : Int) := by norm_cast
  have e : IntKind.u64.wrap ((a : Int) * (b : Int)) = ((a * b : Nat) : Int) := by
    rw [e2]; unfold IntKind.wrap; simp [IntKind.bits, IntKind.signed]; omega
  simp only [binOp, Op.intArith, e]; simp [Sem.run_bind, e]
theorem shrUN (t : TypeId) (a n : Nat) (hn : n < 64) (w : World) : (binOp .shr t (.int .u64 (a : Int)) (.int .i64 (n : Int))).run Try.prog w = .ok (.int .u64 ((a / 2 ^ n : Nat) : Int)) w := by
  have e : (a : Int) / 2 ^ n = ((a / 2 ^ n : Nat) : Int) := by norm_cast
  rw [← e]
  exact shrN t (a : Int) n (by omega) w
theorem mul8I (t : TypeId) (m : Nat) (h : m < 8) (w : World) : (binOp .mul t (.int .i64 8) (.int .i64 (7 - (m : Int)))).run Try.prog w = .ok (.int .i64 ((8 * (7 - m) : Nat) : Int)) w := by
  have e : IntKind.i64.wrap (8 * (7 - (m : Int))) = ((8 * (7 - m) : Nat) : Int) := by unfold IntKind.wrap; simp [IntKind.bits, IntKind.signed]; omega
  simp only [binOp, Op.intArith, e]; simp [Sem.run_bind, e]
theorem subI7 (t : TypeId) (m : Nat) (h : m < 1000) (w : World) : (binOp .sub t (.int .i64 (7 - (m : Int))) (.int .i64 1)).run Try.prog w = .ok (.int .i64 (7 - ((m + 1 : Nat) : Int))) w := by
  have e : IntKind.i64.wrap (7 - (m : Int) - 1) = 7 - ((m + 1 : Nat) : Int) := by unfold IntKind.wrap; simp [IntKind.bits, IntKind.signed]; omega
  simp only [binOp, Op.intArith, e]; simp [Sem.run_bind, e]
theorem addII (t : TypeId) (a b q : Nat) (hq : a + b = q) (h : q < 1000000) (w : World) : (binOp .add t (.int .i64 (a : Int)) (.int .i64 (b : Int))).run Try.prog w = .ok (.int .i64 (q : Int)) w := by
  have e : IntKind.i64.wrap ((a : Int) + (b : Int)) = (q : Int) := by unfold IntKind.wrap; simp [IntKind.bits, IntKind.signed]; omega
  simp only [binOp, Op.intArith, e]; simp [Sem.run_bind, e]
theorem mulII (t : TypeId) (a b q : Nat) (hq : a * b = q) (h : q < 1000000) (w : World) : (binOp .mul t (.int .i64 (a : Int)) (.int .i64 (b : Int))).run Try.prog w = .ok (.int .i64 (q : Int)) w := by
  have e2 : (a : Int) * (b : Int) = (q : Int) := by rw [← hq]; norm_cast
  have e : IntKind.i64.wrap ((a : Int) * (b : Int)) = (q : Int) := by rw [e2]; unfold IntKind.wrap; simp [IntKind.bits, IntKind.signed]; omega
  simp only [binOp, Op.intArith, e]; simp [Sem.run_bind, e]
/-- A state's bytes, one after the other. -/
def obxR (h : Nat → BitVec 32) : Nat → Nat → Int
  | 0 => fun _ => 0
  | m + 1 => su (obxR h m) m (ob h m)
@[irreducible] def obx (h : Nat → BitVec 32) (m : Nat) : Nat → Int := obxR h m
theorem obx_0 (h : Nat → BitVec 32) : obx h 0 = fun _ => 0 := by unfold obx; rfl
theorem obx_s (h : Nat → BitVec 32) (m : Nat) : obx h (m + 1) = su (obx h m) m (ob h m) := by unfold obx; rfl
theorem obx_at (h : Nat → BitVec 32) : ∀ (m i : Nat), i < m → obx h m i = ob h i
  | 0, i, hi => by omega
  | m + 1, i, hi => by
    rw [obx_s]
    by_cases e : i = m
    · subst e; exact su_at _ _ _
    · rw [su_ne e]; exact obx_at h m i (by omega)
/-- What the rounds keep. -/
def dgI1 (W2 : World) (g : Nat → Int) (n b0 : Nat) : Nat → Act → World → Prop := fun L a' w' => ∃ (m : Nat) (d : Nat → Value) (v : Value),
  a' = { tmps := ([v, d 1, .pointer (some ⟨b0, 0, none⟩), .int .u64 ((n * 8 : Nat) : Int)] ++ D d 4 71 : List Value).toArray, defers := [] } ∧ m + L = padN n - 9 - n ∧ OwnY w' W2.heap.size v (pd g n) (n + 1 + m) ∧ Below W2.heap.size W2 w'

/-- What the rounds keep. -/
def dgI2 (W2 : World) (g : Nat → Int) (n b0 : Nat) : Nat → Act → World → Prop := fun L a' w' => ∃ (m : Nat) (d : Nat → Value) (v : Value),
  a' = { tmps := ([v, d 1, .pointer (some ⟨b0, 0, none⟩), .int .u64 ((n * 8 : Nat) : Int), .int .i64 (7 - ((m : Nat) : Int))] ++ D d 5 70 : List Value).toArray, defers := [] } ∧ m + L = 8 ∧ OwnY w' W2.heap.size v (pd g n) ((padN n - 8) + m) ∧ Below W2.heap.size W2 w'

/-- What the rounds keep. -/
def dgI3 (g : Nat → Int) (n l cc : Nat) (w : World) (q0 q1 q2 q3 : Nat) : Nat → Act → World → Prop := fun L a' w' => ∃ (m : Nat) (d : Nat → Value),
  a' = { tmps := ([.slice (some ⟨q1, 0, none⟩) l cc, d 1, .pointer (some ⟨q0, 0, none⟩)] ++ (D d 3 2 ++ ([.pointer (some ⟨q2, 0, none⟩), .pointer (some ⟨q3, 0, none⟩), .int .i64 ((64 * (m) : Nat) : Int)] ++ D d 8 67)) : List Value).toArray, defers := [] } ∧ m + L = (l / 64) ∧ Heap w.heap.size w w' [(q0, BC (fun _ => 0) 32), (q1, BC (pd g n) l), (q2, AW (hsx g n m) 8), (q3, AW (hz true 64) 64)]

/-- What the rounds keep. -/
def dgI4 (g : Nat → Int) (n l cc : Nat) (S : Nat → BitVec 32) (w : World) (q0 q1 q2 q3 q4 : Nat) : Nat → Act → World → Prop := fun L a' w' => ∃ (m : Nat) (d : Nat → Value),
  a' = { tmps := (D d 0 2 ++ ([.pointer (some ⟨q0, 0, none⟩)] ++ (D d 3 2 ++ ([.pointer (some ⟨q2, 0, none⟩)] ++ (D d 6 3 ++ ([.pointer (some ⟨q4, 0, none⟩), .int .i64 ((m : Nat) : Int)] ++ D d 11 64))))) : List Value).toArray, defers := [] } ∧ m + L = 32 ∧ Heap w.heap.size w w' [(q0, BC (fun _ => 0) 32), (q1, BC (pd g n) l), (q2, AW S 8), (q3, AW (hz true 64) 64), (q4, BC (obx S m) 32)]

set_option maxHeartbeats 4000000 in
theorem refDigest (g : Nat → Int) (p : Option Addr) (n c : Nat) (w : World) (hn : n ≤ 400) (hp : AtK .u8 w p n g) (hg : ∀ j, j < n → 0 ≤ g j ∧ g j < 256) : Calls Try.prog 9 #[.slice p n c] w (Ret (VB (dig g n) 32) w) := by
  have hp0 := Heap.start w
  go_enter Try.func9, Try.ntmps9
  refine wp_seq_k (fun K1 k1 => ?_)
  refine gs [.alloc (BC (fun _ => 0) 32)] [0] [0] (fun L => [.slice p n c, undef, L.p 0] ++ U 72) (fun L => [(L.b 0, BC (fun _ => 0) 32)]) hp0 ⟨
    oZ rB32,
    trivial⟩ (fun L0 w1 hp1 => ?_)
  refine k1 _ _ ?_
  refine wp_seq_k (fun K2 k2 => ?_)
  refine gs [.det (.slice p n c), .det (.int .i64 n), .det (.int .u64 ((n : Nat) : Int)), .det (.int .u64 ((n * 8 : Nat) : Int)), .det (.int .u64 ((n * 8 : Nat) : Int))] [0, 1, 2, 3, 4] [0, 1, 3, 7, 15] (fun L => [.slice p n c, undef, L0.p 0, .int .u64 ((n * 8 : Nat) : Int)] ++ (U 7 ++ ([.slice p n c, .int .i64 n, .int .u64 ((n : Nat) : Int), .int .u64 ((n * 8 : Nat) : Int)] ++ U 60))) (fun L => [(L0.b 0, BC (fun _ => 0) 32)]) hp1 ⟨
    oM, fun h => ⟨ob_len (p := p) (n := n) (c := c) (fun _ => rfl) h rfl (fun _ => by kernel_rfl) Try.underlying22⟩, oCv (fun w => convIU n (by omega) w),
    oJ .u64 .u64 ((n : Nat) : Int) 8 (h := fun w => mulU _ n 8 (by omega) w), oA,
    trivial⟩ (fun L1 w2 hp2 => ?_)
  refine k2 _ _ ?_
  refine wp_seq_k (fun K3 k3 => ?_)
  have hC : w.heap.size ≤ w2.heap.size := hp2.le
  have hlt := Heap.lts hp2
  refine wp_region_list ?_
  refine oneL rfl rfl (wp_emptyY (f := pd g n) rfl (fun x1 ho0 hb0 => ?_))
  have hs1 := Heap.start x1
  refine gsC 1 [.det (.slice p n c)] [0] [0] (fun L _ => [.slice p n c, undef, L0.p 0, .int .u64 ((n * 8 : Nat) : Int), undef, undef, undef, undef, undef, undef, undef, .slice p n c, .int .i64 n, .int .u64 ((n : Nat) : Int), .int .u64 ((n * 8 : Nat) : Int), .slice (some ⟨w2.heap.size, 0, none⟩) 0 0, .slice p n c] ++ U 58) (fun L => []) hs1 ⟨
    oM,
    trivial⟩ (fun L2 _ w3 hp3 ha3 => ?_)
  refine oneL rfl rfl (wp_appendE (.tmp 15) (.tmp 16) rfl (v := .slice (some ⟨w2.heap.size, 0, none⟩) 0 0) (g := g) (p := p) (n := n) (c := c) (by kernel_rfl) (ho0.below hp3.bel) ⟨_, _, rfl⟩ (by kernel_rfl) (AtK.below hp (hp2.bel.trans ((hb0.trans (hp3.bel.mono hb0.size)).mono hC))) (by omega) (hb0.trans (hp3.bel.mono hb0.size)).size (fun j hj => pd_b g hj) (fun v2 x2 ho2a hb2a => ?_))
  have hb2b := (hb0.trans (hp3.bel.mono hb0.size)).trans hb2a
  have hs2 := Heap.start x2
  refine gsC 1 [.any (isY1 128)] [0] [0] (fun L _ => [.slice p n c, undef, L0.p 0, .int .u64 ((n * 8 : Nat) : Int), undef, undef, undef, undef, undef, undef, undef, .slice p n c, .int .i64 n, .int .u64 ((n : Nat) : Int), .int .u64 ((n * 8 : Nat) : Int), .slice (some ⟨w2.heap.size, 0, none⟩) 0 0, .slice p n c, v2, L.v 0] ++ U 56) (fun L => []) hs2 ⟨
    oY1,
    trivial⟩ (fun L3 _ w4 hp4 ha4 => ?_)
  have hy := AnyF.at (ha4 (by kernel_rfl)) (j := 0) rfl rfl
  refine oneL rfl rfl (wp_appendY1 (.tmp 17) (.tmp 18) rfl (v := v2) (u := L3.v 0) (f := pd g n) (m := n) (y := 128) (by kernel_rfl) (ho2a.below hp4.bel) (by kernel_rfl) hy (pd_1 g n) (by omega) (hb2b.trans (hp4.bel.mono hb2b.size)).size (fun v3 x3 ho3a hb3a => ?_))
  have hb3b := (hb2b.trans (hp4.bel.mono hb2b.size)).trans hb3a
  have hs3 := Heap.start x3
  refine gsC 1 [.det (v3)] [0] [0] (fun L _ => [v3, undef, L0.p 0, .int .u64 ((n * 8 : Nat) : Int), undef, undef, undef, undef, undef, undef, undef, .slice p n c, .int .i64 n, .int .u64 ((n : Nat) : Int), .int .u64 ((n * 8 : Nat) : Int), .slice (some ⟨w2.heap.size, 0, none⟩) 0 0, .slice p n c, v2, (L3.v 0), v3] ++ U 55) (fun L => []) hs3 ⟨
    oA,
    trivial⟩ (fun L4 _ w5 hp5 ha5 => ?_)
  refine wpList_nil ?_
  refine k3 _ _ ?_
  refine wp_seq_k (fun K4 k4 => ?_)
  refine wp_block_k (fun K5 k5 => ?_)
  refine wp_loop_ghost (dgI1 w2 g n ((L0.b 0))) (padN n - 9 - n) ⟨0, (fun zz => ([v3, undef, L0.p 0, .int .u64 ((n * 8 : Nat) : Int)] ++ (U 7 ++ ([.slice p n c, .int .i64 n, .int .u64 ((n : Nat) : Int), .int .u64 ((n * 8 : Nat) : Int), .slice (some ⟨w2.heap.size, 0, none⟩) 0 0, .slice p n c, v2, (L3.v 0), v3] ++ U 55)) : List Value).getD zz undef), _, by kernel_rfl, Nat.zero_add _, by rw [show n + 1 + 0 = n + 1 by omega]; exact (ho3a.below hp5.bel), (hb3b.trans (hp5.bel.mono hb3b.size))⟩ ?_
  rintro L a' W ⟨m, d, v, rfl, hL, hO, hB⟩
  obtain ⟨l, el⟩ : ∃ x, x = n + 1 + m := ⟨_, rfl⟩
  rw [← el] at hO
  have hpg := padN_ge n
  have hpe := pad_end n
  obtain ⟨k, cc, rfl, hc1, hc2, hk, hbx⟩ := hO.box (by omega)
  have hs0 := Heap.start W
  by_cases hL0 : L = 0
  rotate_left
  · skip
    have hm : m < padN n - 9 - n := by omega
    have hne := pad_at (show n + 1 + m < padN n - 8 by omega)
    rw [← el] at hne
    refine wp_seq_k (fun K6 k6 => ?_)
    refine wp_seq_k (fun K7 k7 => ?_)
    refine gs [.det (.slice (some ⟨k, 0, none⟩) l cc), .det (.int .i64 l), .det (.int .i64 ((l % 64 : Nat) : Int)), .det (.bool true)] [0, 1, 2, 3] [0, 1, 3, 7] (fun L => [.slice (some ⟨k, 0, none⟩) l cc, d 1, L0.p 0, .int .u64 ((n * 8 : Nat) : Int)] ++ (D d 4 16 ++ ([.slice (some ⟨k, 0, none⟩) l cc, .int .i64 l, .int .i64 ((l % 64 : Nat) : Int), .bool true] ++ D d 24 51))) (fun L => []) hs0 ⟨
      oM, fun h => ⟨ob_len (p := (some ⟨k, 0, none⟩)) (n := l) (c := cc) (fun _ => rfl) h rfl (fun _ => by kernel_rfl) Try.underlying22⟩, oJ .i64 .i64 l 64 (h := fun w => remN _ l 64 (l % 64) (by decide) (by omega) rfl w),
      oJ .i64 .i64 ((l % 64 : Nat) : Int) 56 (h := fun w => (neqI _ _ _ _ w).trans (by rw [decide_eq_false (by omega)]; rfl)),
      trivial⟩ (fun L5 w6 hp6 => ?_)
    refine k7 _ _ ?_
    refine wp_cond_true (by kernel_rfl) ?_
    refine skips ?_
    refine k6 _ _ ?_
    refine wp_block_k (fun K8 k8 => ?_)
    refine wp_region_list ?_
    refine gsC 2 [.det (.slice (some ⟨k, 0, none⟩) l cc), .any (isY1 0)] [0, 1] [0, 1] (fun L _ => [.slice (some ⟨k, 0, none⟩) l cc, d 1, L0.p 0, .int .u64 ((n * 8 : Nat) : Int), d 4, d 5, d 6, d 7, d 8, d 9, d 10, d 11, d 12, d 13, d 14, d 15, d 16, d 17, d 18, d 19, .slice (some ⟨k, 0, none⟩) l cc, .int .i64 l, .int .i64 ((l % 64 : Nat) : Int), .bool true, .slice (some ⟨k, 0, none⟩) l cc, L.v 1, d 26, d 27, d 28, d 29, d 30, d 31, d 32, d 33, d 34, d 35, d 36, d 37, d 38, d 39, d 40, d 41, d 42, d 43, d 44, d 45, d 46, d 47, d 48, d 49, d 50, d 51, d 52, d 53, d 54, d 55, d 56, d 57, d 58, d 59, d 60, d 61, d 62, d 63, d 64, d 65, d 66, d 67, d 68, d 69, d 70, d 71, d 72, d 73, d 74]) (fun L => []) hp6 ⟨
      oM, oY1,
      trivial⟩ (fun L6 _ w7 hp7 ha7 => ?_)
    have hy := AnyF.at (ha7 (by kernel_rfl)) (j := 1) rfl rfl
    refine oneL rfl rfl (wp_appendY1 (.tmp 24) (.tmp 25) rfl (v := .slice (some ⟨k, 0, none⟩) l cc) (u := L6.v 1) (f := pd g n) (m := l) (y := 0) (by kernel_rfl) (hO.below hp7.bel) (by kernel_rfl) hy (by rw [el]; exact pd_0 g (by omega) (by omega)) (by omega) (hB.trans (hp7.bel.mono hB.size)).size (fun v5 x5 ho5 hb5 => ?_))
    have hb5b := (hB.trans (hp7.bel.mono hB.size)).trans hb5
    have hs5 := Heap.start x5
    refine gsC 1 [.det (v5)] [0] [0] (fun L _ => [v5, d 1, L0.p 0, .int .u64 ((n * 8 : Nat) : Int), d 4, d 5, d 6, d 7, d 8, d 9, d 10, d 11, d 12, d 13, d 14, d 15, d 16, d 17, d 18, d 19, .slice (some ⟨k, 0, none⟩) l cc, .int .i64 l, .int .i64 ((l % 64 : Nat) : Int), .bool true, .slice (some ⟨k, 0, none⟩) l cc, (L6.v 1), v5, d 27, d 28, d 29, d 30, d 31, d 32, d 33, d 34, d 35, d 36, d 37, d 38, d 39, d 40, d 41, d 42, d 43, d 44, d 45, d 46, d 47, d 48, d 49, d 50, d 51, d 52, d 53, d 54, d 55, d 56, d 57, d 58, d 59, d 60, d 61, d 62, d 63, d 64, d 65, d 66, d 67, d 68, d 69, d 70, d 71, d 72, d 73, d 74]) (fun L => []) hs5 ⟨
      oA,
      trivial⟩ (fun L7 _ w8 hp8 ha8 => ?_)
    refine wpList_nil ?_
    refine k8 _ _ _ ?_
    refine block_normal ?_
    exact ⟨L - 1, by omega, m + 1, (fun zz => ([v5, d 1, L0.p 0, .int .u64 ((n * 8 : Nat) : Int)] ++ (D d 4 16 ++ ([.slice (some ⟨k, 0, none⟩) l cc, .int .i64 l, .int .i64 ((l % 64 : Nat) : Int), .bool true, .slice (some ⟨k, 0, none⟩) l cc, (L6.v 1), v5] ++ D d 27 48)) : List Value).getD zz undef), v5, by kernel_rfl, by omega, by rw [show n + 1 + (m + 1) = l + 1 by omega]; exact (ho5.below hp8.bel), (hb5b.trans (hp8.bel.mono hb5b.size))⟩
  obtain rfl : m = padN n - 9 - n := by omega
  refine wp_seq_k (fun K9 k9 => ?_)
  refine wp_seq_k (fun K10 k10 => ?_)
  refine gs [.det (.slice (some ⟨k, 0, none⟩) l cc), .det (.int .i64 l), .det (.int .i64 ((l % 64 : Nat) : Int)), .det (.bool false)] [0, 1, 2, 3] [0, 1, 3, 7] (fun L => [.slice (some ⟨k, 0, none⟩) l cc, d 1, L0.p 0, .int .u64 ((n * 8 : Nat) : Int)] ++ (D d 4 16 ++ ([.slice (some ⟨k, 0, none⟩) l cc, .int .i64 l, .int .i64 ((l % 64 : Nat) : Int), .bool false] ++ D d 24 51))) (fun L => []) hs0 ⟨
    oM, fun h => ⟨ob_len (p := (some ⟨k, 0, none⟩)) (n := l) (c := cc) (fun _ => rfl) h rfl (fun _ => by kernel_rfl) Try.underlying22⟩, oJ .i64 .i64 l 64 (h := fun w => remN _ l 64 (l % 64) (by decide) (by omega) rfl w),
    oJ .i64 .i64 ((l % 64 : Nat) : Int) 56 (h := fun w => (neqI _ _ _ _ w).trans (by rw [decide_eq_true (by omega)]; rfl)),
    trivial⟩ (fun L8 w9 hp9 => ?_)
  refine k10 _ _ ?_
  refine wp_cond_false (by kernel_rfl) ?_
  refine wp_exit ?_
  refine then_exit ?_
  refine then_exit ?_
  refine k5 _ _ _ ?_
  refine exit_in ?_
  refine k4 _ _ ?_
  refine wp_seq_k (fun K11 k11 => ?_)
  refine wp_seq_k (fun K12 k12 => ?_)
  refine gs [.det (.int .i64 7)] [0] [0] (fun L => [.slice (some ⟨k, 0, none⟩) l cc, d 1, L0.p 0, .int .u64 ((n * 8 : Nat) : Int), .int .i64 7] ++ (D d 5 15 ++ ([.slice (some ⟨k, 0, none⟩) l cc, .int .i64 l, .int .i64 ((l % 64 : Nat) : Int), .bool false] ++ D d 24 51))) (fun L => []) hp9 ⟨
    oA,
    trivial⟩ (fun L9 w10 hp10 => ?_)
  refine k12 _ _ ?_
  refine wp_block_k (fun K13 k13 => ?_)
  refine wp_loop_ghost (dgI2 w2 g n ((L0.b 0))) (8) ⟨0, (fun zz => ([.slice (some ⟨k, 0, none⟩) l cc, d 1, L0.p 0, .int .u64 ((n * 8 : Nat) : Int), .int .i64 7] ++ (D d 5 15 ++ ([.slice (some ⟨k, 0, none⟩) l cc, .int .i64 l, .int .i64 ((l % 64 : Nat) : Int), .bool false] ++ D d 24 51)) : List Value).getD zz undef), _, by kernel_rfl, Nat.zero_add _, by rw [show (padN n - 8) + 0 = l by omega]; exact (hO.below hp10.bel), (hB.trans (hp10.bel.mono hB.size))⟩ ?_
  rintro L a' W ⟨m, d, v, rfl, hL, hO, hB⟩
  obtain ⟨l, el⟩ : ∃ x, x = (padN n - 8) + m := ⟨_, rfl⟩
  rw [← el] at hO
  have hpg := padN_ge n
  have hpe := pad_end n
  obtain ⟨k, cc, rfl, hc1, hc2, hk, hbx⟩ := hO.box (by omega)
  have hs0 := Heap.start W
  by_cases hL0 : L = 0
  rotate_left
  · skip
    have hm : m < 8 := by omega
    refine wp_seq_k (fun K14 k14 => ?_)
    refine wp_seq_k (fun K15 k15 => ?_)
    refine gs [.det (.int .i64 (7 - ((m : Nat) : Int))), .det (.bool true)] [0, 1] [0, 1] (fun L => [.slice (some ⟨k, 0, none⟩) l cc, d 1, L0.p 0, .int .u64 ((n * 8 : Nat) : Int), .int .i64 (7 - ((m : Nat) : Int))] ++ (D d 5 22 ++ ([.int .i64 (7 - ((m : Nat) : Int)), .bool true] ++ D d 29 46))) (fun L => []) hs0 ⟨
      oM, oJ .i64 .i64 (7 - ((m : Nat) : Int)) 0 (h := fun w => (geqI _ _ _ w).trans (by rw [decide_eq_true (by omega)])),
      trivial⟩ (fun L10 w11 hp11 => ?_)
    refine k15 _ _ ?_
    refine wp_cond_true (by kernel_rfl) ?_
    refine skips ?_
    refine k14 _ _ ?_
    refine wp_seq_k (fun K16 k16 => ?_)
    refine wp_block_k (fun K17 k17 => ?_)
    refine wp_region_list ?_
    refine gsC 7 [.det (.slice (some ⟨k, 0, none⟩) l cc), .det (.int .u64 ((n * 8 : Nat) : Int)), .det (.int .i64 (7 - ((m : Nat) : Int))), .det (.int .i64 ((8 * (7 - m) : Nat) : Int)), .det (.int .u64 ((n * 8 / 2 ^ (8 * (7 - m)) : Nat) : Int)), .det (.int .u8 ((n * 8 / 2 ^ (8 * (7 - m)) % 256 : Nat) : Int)), .any (isY1 ((n * 8 / 2 ^ (8 * (7 - m)) % 256 : Nat) : Int))] [0, 1, 2, 3, 4, 5, 6] [0, 1, 3, 7, 15, 31, 63] (fun L _ => [.slice (some ⟨k, 0, none⟩) l cc, d 1, L0.p 0, .int .u64 ((n * 8 : Nat) : Int), .int .i64 (7 - ((m : Nat) : Int)), d 5, d 6, d 7, d 8, d 9, d 10, d 11, d 12, d 13, d 14, d 15, d 16, d 17, d 18, d 19, d 20, d 21, d 22, d 23, d 24, d 25, d 26, .int .i64 (7 - ((m : Nat) : Int)), .bool true, d 29, d 30, .slice (some ⟨k, 0, none⟩) l cc, .int .u64 ((n * 8 : Nat) : Int), .int .i64 (7 - ((m : Nat) : Int)), .int .i64 ((8 * (7 - m) : Nat) : Int), .int .u64 ((n * 8 / 2 ^ (8 * (7 - m)) : Nat) : Int), .int .u8 ((n * 8 / 2 ^ (8 * (7 - m)) % 256 : Nat) : Int), L.v 6, d 38, d 39, d 40, d 41, d 42, d 43, d 44, d 45, d 46, d 47, d 48, d 49, d 50, d 51, d 52, d 53, d 54, d 55, d 56, d 57, d 58, d 59, d 60, d 61, d 62, d 63, d 64, d 65, d 66, d 67, d 68, d 69, d 70, d 71, d 72, d 73, d 74]) (fun L => []) hp11 ⟨
      oM, oM, oM, oJ .i64 .i64 8 (7 - ((m : Nat) : Int)) (h := fun w => mul8I _ m hm w), oJ .u64 .i64 ((n * 8 : Nat) : Int) ((8 * (7 - m) : Nat) : Int) (h := fun w => shrUN _ (n * 8) (8 * (7 - m)) (by omega) w),
      oCv (fun w => convUB (n * 8 / 2 ^ (8 * (7 - m))) w), oY1,
      trivial⟩ (fun L11 _ w12 hp12 ha12 => ?_)
    have hy := AnyF.at (ha12 (by kernel_rfl)) (j := 6) rfl rfl
    refine oneL rfl rfl (wp_appendY1 (.tmp 31) (.tmp 37) rfl (v := .slice (some ⟨k, 0, none⟩) l cc) (u := L11.v 6) (f := pd g n) (m := l) (y := ((n * 8 / 2 ^ (8 * (7 - m)) % 256 : Nat) : Int)) (by kernel_rfl) (hO.below hp12.bel) (by kernel_rfl) hy (by rw [el]; exact pd_l g hm) (by omega) (hB.trans (hp12.bel.mono hB.size)).size (fun v5 x5 ho5 hb5 => ?_))
    have hb5b := (hB.trans (hp12.bel.mono hB.size)).trans hb5
    have hs5 := Heap.start x5
    refine gsC 1 [.det (v5)] [0] [0] (fun L _ => [v5, d 1, L0.p 0, .int .u64 ((n * 8 : Nat) : Int), .int .i64 (7 - ((m : Nat) : Int)), d 5, d 6, d 7, d 8, d 9, d 10, d 11, d 12, d 13, d 14, d 15, d 16, d 17, d 18, d 19, d 20, d 21, d 22, d 23, d 24, d 25, d 26, .int .i64 (7 - ((m : Nat) : Int)), .bool true, d 29, d 30, .slice (some ⟨k, 0, none⟩) l cc, .int .u64 ((n * 8 : Nat) : Int), .int .i64 (7 - ((m : Nat) : Int)), .int .i64 ((8 * (7 - m) : Nat) : Int), .int .u64 ((n * 8 / 2 ^ (8 * (7 - m)) : Nat) : Int), .int .u8 ((n * 8 / 2 ^ (8 * (7 - m)) % 256 : Nat) : Int), (L11.v 6), v5, d 39, d 40, d 41, d 42, d 43, d 44, d 45, d 46, d 47, d 48, d 49, d 50, d 51, d 52, d 53, d 54, d 55, d 56, d 57, d 58, d 59, d 60, d 61, d 62, d 63, d 64, d 65, d 66, d 67, d 68, d 69, d 70, d 71, d 72, d 73, d 74]) (fun L => []) hs5 ⟨
      oA,
      trivial⟩ (fun L12 _ w13 hp13 ha13 => ?_)
    refine wpList_nil ?_
    refine k17 _ _ _ ?_
    refine block_normal ?_
    refine k16 _ _ ?_
    refine gs [.det (.int .i64 (7 - ((m : Nat) : Int))), .det (.int .i64 (7 - ((m + 1 : Nat) : Int))), .det (.int .i64 (7 - ((m + 1 : Nat) : Int)))] [0, 1, 2] [0, 1, 3] (fun L => [v5, d 1, L0.p 0, .int .u64 ((n * 8 : Nat) : Int), .int .i64 (7 - ((m + 1 : Nat) : Int))] ++ (D d 5 22 ++ ([.int .i64 (7 - ((m : Nat) : Int)), .bool true, .int .i64 (7 - ((m : Nat) : Int)), .int .i64 (7 - ((m + 1 : Nat) : Int)), .slice (some ⟨k, 0, none⟩) l cc, .int .u64 ((n * 8 : Nat) : Int), .int .i64 (7 - ((m : Nat) : Int)), .int .i64 ((8 * (7 - m) : Nat) : Int), .int .u64 ((n * 8 / 2 ^ (8 * (7 - m)) : Nat) : Int), .int .u8 ((n * 8 / 2 ^ (8 * (7 - m)) % 256 : Nat) : Int), (L11.v 6), v5] ++ D d 39 36))) (fun L => []) hp13 ⟨
      oM, oJ .i64 .i64 (7 - ((m : Nat) : Int)) 1 (h := fun w => subI7 _ m (by omega) w), oA,
      trivial⟩ (fun L13 w14 hp14 => ?_)
    exact ⟨L - 1, by omega, m + 1, (fun zz => ([v5, d 1, L0.p 0, .int .u64 ((n * 8 : Nat) : Int), .int .i64 (7 - ((m + 1 : Nat) : Int))] ++ (D d 5 22 ++ ([.int .i64 (7 - ((m : Nat) : Int)), .bool true, .int .i64 (7 - ((m : Nat) : Int)), .int .i64 (7 - ((m + 1 : Nat) : Int)), .slice (some ⟨k, 0, none⟩) l cc, .int .u64 ((n * 8 : Nat) : Int), .int .i64 (7 - ((m : Nat) : Int)), .int .i64 ((8 * (7 - m) : Nat) : Int), .int .u64 ((n * 8 / 2 ^ (8 * (7 - m)) : Nat) : Int), .int .u8 ((n * 8 / 2 ^ (8 * (7 - m)) % 256 : Nat) : Int), (L11.v 6), v5] ++ D d 39 36)) : List Value).getD zz undef), v5, by kernel_rfl, by omega, by rw [show (padN n - 8) + (m + 1) = l + 1 by omega]; exact (ho5.below hp14.bel), (hb5b.trans (hp14.bel.mono hb5b.size))⟩
  obtain rfl : m = 8 := by omega
  refine wp_seq_k (fun K18 k18 => ?_)
  refine wp_seq_k (fun K19 k19 => ?_)
  refine gs [.det (.int .i64 (7 - ((8 : Nat) : Int))), .det (.bool false)] [0, 1] [0, 1] (fun L => [.slice (some ⟨k, 0, none⟩) l cc, d 1, L0.p 0, .int .u64 ((n * 8 : Nat) : Int), .int .i64 (7 - ((8 : Nat) : Int))] ++ (D d 5 22 ++ ([.int .i64 (7 - ((8 : Nat) : Int)), .bool false] ++ D d 29 46))) (fun L => []) hs0 ⟨
    oM, oJ .i64 .i64 (7 - ((8 : Nat) : Int)) 0 (h := fun w => (geqI _ _ _ w).trans (by rw [decide_eq_false (by omega)])),
    trivial⟩ (fun L14 w15 hp15 => ?_)
  refine k19 _ _ ?_
  refine wp_cond_false (by kernel_rfl) ?_
  refine wp_exit ?_
  refine then_exit ?_
  refine then_exit ?_
  obtain ⟨N, eN⟩ : ∃ x, x = padN n := ⟨_, rfl⟩
  have hN : l = N := by omega
  subst hN
  have hNm := padN_mod n
  rw [← eN] at hNm hpg
  have hpF := Heap.add (Heap.under hp2 hC (hB.trans (hp15.bel.mono hB.size)) hlt) (Nat.le_trans hC hk) (fun b hb => Nat.lt_of_lt_of_le (hlt b hb) hk) (hbx.up hp15.bel)
  refine k13 _ _ _ ?_
  refine exit_in ?_
  refine k11 _ _ ?_
  refine wp_seq_k (fun K20 k20 => ?_)
  refine gs [.det (VW (hz false 8) 8), .det (VW (hz true 64) 64), .alloc (AW (fun _ => 0) 8), .alloc (AW (fun _ => 0) 64), .store (.new 2) 0 (AW (hz false 8) 8) (AW (hz false 8) 8), .store (.new 3) 0 (AW (hz true 64) 64) (AW (hz true 64) 64)] [0, 1, 2, 3, 4, 5] [0, 1, 0, 0, 15, 31] (fun L => [.slice (some ⟨k, 0, none⟩) l cc, d 1, L0.p 0, .int .u64 ((n * 8 : Nat) : Int), .int .i64 (7 - ((8 : Nat) : Int)), L.p 2, L.p 3] ++ (D d 7 20 ++ ([.int .i64 (7 - ((8 : Nat) : Int)), .bool false] ++ (D d 29 10 ++ ([VW (hz false 8) 8, VW (hz true 64) 64] ++ D d 41 34))))) (fun L => [(L0.b 0, BC (fun _ => 0) 32), (k, BC (pd g n) l), (L.b 2, AW (hz false 8) 8), (L.b 3, AW (hz true 64) 64)]) hpF ⟨
    oR refFirst, oR refRounds, oZ rW8, oZ rW64, oT rW8, oT rW64,
    trivial⟩ (fun L15 w16 hp16 => ?_)
  refine k20 _ _ ?_
  refine wp_seq_k (fun K21 k21 => ?_)
  refine wp_seq_k (fun K22 k22 => ?_)
  refine gs [.det (.int .i64 0)] [0] [0] (fun L => [.slice (some ⟨k, 0, none⟩) l cc, d 1, L0.p 0, .int .u64 ((n * 8 : Nat) : Int), .int .i64 (7 - ((8 : Nat) : Int)), L15.p 2, L15.p 3, .int .i64 0] ++ (D d 8 19 ++ ([.int .i64 (7 - ((8 : Nat) : Int)), .bool false] ++ (D d 29 10 ++ ([VW (hz false 8) 8, VW (hz true 64) 64] ++ D d 41 34))))) (fun L => [(L0.b 0, BC (fun _ => 0) 32), (k, BC (pd g n) l), (L15.b 2, AW (hz false 8) 8), (L15.b 3, AW (hz true 64) 64)]) hp16 ⟨
    oA,
    trivial⟩ (fun L16 w17 hp17 => ?_)
  refine k22 _ _ ?_
  refine wp_block_k (fun K23 k23 => ?_)
  refine wp_loop_ghost (dgI3 g n l cc w (L0.b 0) k (L15.b 2) (L15.b 3)) (l / 64) ⟨0, (fun zz => ([.slice (some ⟨k, 0, none⟩) l cc, d 1, L0.p 0, .int .u64 ((n * 8 : Nat) : Int), .int .i64 (7 - ((8 : Nat) : Int)), L15.p 2, L15.p 3, .int .i64 0] ++ (D d 8 19 ++ ([.int .i64 (7 - ((8 : Nat) : Int)), .bool false] ++ (D d 29 10 ++ ([VW (hz false 8) 8, VW (hz true 64) 64] ++ D d 41 34)))) : List Value).getD zz undef), by kernel_rfl, Nat.zero_add _, by rw [hsx_0]; exact hp17⟩ ?_
  rintro L a' W ⟨m, d, rfl, hL, hJ⟩
  by_cases hL0 : L = 0
  rotate_left
  · skip
    have hm : m < (l / 64) := by omega
    refine wp_seq_k (fun K24 k24 => ?_)
    refine wp_seq_k (fun K25 k25 => ?_)
    refine gs [.det (.int .i64 ((64 * (m) : Nat) : Int)), .det (.slice (some ⟨k, 0, none⟩) l cc), .det (.int .i64 l), .det (.bool true)] [0, 1, 2, 3] [0, 0, 2, 7] (fun L => [.slice (some ⟨k, 0, none⟩) l cc, d 1, L0.p 0] ++ (D d 3 2 ++ ([L15.p 2, L15.p 3, .int .i64 ((64 * (m) : Nat) : Int)] ++ (D d 8 33 ++ ([.int .i64 ((64 * (m) : Nat) : Int), .slice (some ⟨k, 0, none⟩) l cc, .int .i64 l, .bool true] ++ D d 45 30))))) (fun L => [(L0.b 0, BC (fun _ => 0) 32), (k, BC (pd g n) l), (L15.b 2, AW (hsx g n m) 8), (L15.b 3, AW (hz true 64) 64)]) hJ ⟨
      oM, oM, fun h => ⟨ob_len (p := (some ⟨k, 0, none⟩)) (n := l) (c := cc) (fun _ => rfl) h rfl (fun _ => by kernel_rfl) Try.underlying22⟩, oJ .i64 .i64 ((64 * (m) : Nat) : Int) l (h := fun w => (lssI _ _ _ w).trans (by rw [decide_eq_true (by omega)])),
      trivial⟩ (fun L17 w18 hp18 => ?_)
    refine k25 _ _ ?_
    refine wp_cond_true (by kernel_rfl) ?_
    refine skips ?_
    refine k24 _ _ ?_
    refine wp_seq_k (fun K26 k26 => ?_)
    refine wp_block_k (fun K27 k27 => ?_)
    refine wp_seq_k (fun K28 k28 => ?_)
    refine gs [.alloc (BC (fun _ => 0) 64)] [0] [0] (fun L => [.slice (some ⟨k, 0, none⟩) l cc, d 1, L0.p 0] ++ (D d 3 2 ++ ([L15.p 2, L15.p 3, .int .i64 ((64 * (m) : Nat) : Int), L.p 0] ++ (D d 9 32 ++ ([.int .i64 ((64 * (m) : Nat) : Int), .slice (some ⟨k, 0, none⟩) l cc, .int .i64 l, .bool true] ++ D d 45 30))))) (fun L => [(L0.b 0, BC (fun _ => 0) 32), (k, BC (pd g n) l), (L15.b 2, AW (hsx g n m) 8), (L15.b 3, AW (hz true 64) 64), (L.b 0, BC (fun _ => 0) 64)]) hp18 ⟨
      oZ rB64,
      trivial⟩ (fun L18 w19 hp19 => ?_)
    refine k28 _ _ ?_
    refine wp_seq_k (fun K29 k29 => ?_)
    refine dT 6 [.det (.slice (some ⟨(L18.b 0), 0, none⟩) 64 64), .det (.slice (some ⟨k, 0, none⟩) l cc), .det (.int .i64 ((64 * (m) : Nat) : Int)), .det (.int .i64 ((64 * (m) : Nat) : Int)), .det (.int .i64 ((64 * (m) + 64 : Nat) : Int)), .det (.slice (some ⟨k, 64 * m, none⟩) (64 * m + 64 - 64 * m) (cc - 64 * m)), .det (.int .i64 64)] [0, 1, 2, 3, 4, 5] [0, 0, 0, 0, 8, 30, 63] (fun L => [.slice (some ⟨k, 0, none⟩) l cc, d 1, L0.p 0] ++ (D d 3 2 ++ ([L15.p 2, L15.p 3, .int .i64 ((64 * (m) : Nat) : Int), L18.p 0] ++ (D d 9 32 ++ ([.int .i64 ((64 * (m) : Nat) : Int), .slice (some ⟨k, 0, none⟩) l cc, .int .i64 l, .bool true] ++ (D d 45 2 ++ ([.slice (some ⟨(L18.b 0), 0, none⟩) 64 64, .slice (some ⟨k, 0, none⟩) l cc, .int .i64 ((64 * (m) : Nat) : Int), .int .i64 ((64 * (m) : Nat) : Int), .int .i64 ((64 * (m) + 64 : Nat) : Int), .slice (some ⟨k, 64 * m, none⟩) (64 * m + 64 - 64 * m) (cc - 64 * m)] ++ D d 53 22))))))) hp19 ⟨
      oSA (sz := 1) Try.underlying25 sizeY (by decide), oM, oM, oM, oJ .i64 .i64 ((64 * (m) : Nat) : Int) 64 (h := fun w => addII _ (64 * (m)) 64 (64 * (m) + 64) rfl (by omega) w), oSB (b := k) (len := l) (c := cc) (l := 64 * (m)) (h := 64 * (m) + 64) (by omega) (by omega) hc1 (by omega), trivial⟩ (fun L19 w20 hp20 ha20 => ?_)
    have hbk := (hp20.bound 1 rfl).2.cells
    refine tail1 (by kernel_rfl) (wpOp_of rfl rfl (wp_copy64 (.tmp 47) (.tmp 52) rfl (b := (L18.b 0)) (ad := ⟨k, 64 * m, none⟩) (c1 := 64) (c2 := cc - 64 * m) (f := fun _ => 0) (g := fun i => pd g n (64 * m + i)) (by kernel_rfl) (by refine Eq.trans (b := .slice (some ⟨k, 64 * m, none⟩) (64 * m + 64 - 64 * m) (cc - 64 * m)) (by kernel_rfl) ?_; rw [show 64 * m + 64 - 64 * m = 64 by omega]) (hp20.bound 4 rfl).2 (fun j hj => ?_) (fun x8 hw8 hx8 => ?_)))
    · have := hbk (64 * m + j) _ (BC_at (show 64 * m + j < l by omega)); rw [Addr.add_mid]; rwa [Nat.zero_add] at this
    have hp8 := Heap.turnL (H := [_, _, _, _]) hp20 hw8 hx8
    refine k29 _ _ ?_
    refine gs [.det (VW (hsx g n m) 8), .det (VB (fun i => pd g n (64 * m + i)) 64), .det (VW (hz true 64) 64), .det (VW (blk (hsx g n m) (fun i => pd g n (64 * m + i)) (hz true 64)) 8), .store (.base 2) 0 (AW (blk (hsx g n m) (fun i => pd g n (64 * m + i)) (hz true 64)) 8) (AW (blk (hsx g n m) (fun i => pd g n (64 * m + i)) (hz true 64)) 8)] [0, 1, 2, 3, 4] [0, 0, 0, 7, 15] (fun L => [.slice (some ⟨k, 0, none⟩) l cc, d 1, L0.p 0] ++ (D d 3 2 ++ ([L15.p 2, L15.p 3, .int .i64 ((64 * (m) : Nat) : Int), L18.p 0] ++ (D d 9 32 ++ ([.int .i64 ((64 * (m) : Nat) : Int), .slice (some ⟨k, 0, none⟩) l cc, .int .i64 l, .bool true] ++ (D d 45 2 ++ ([.slice (some ⟨(L18.b 0), 0, none⟩) 64 64, .slice (some ⟨k, 0, none⟩) l cc, .int .i64 ((64 * (m) : Nat) : Int), .int .i64 ((64 * (m) : Nat) : Int), .int .i64 ((64 * (m) + 64 : Nat) : Int), .slice (some ⟨k, 64 * m, none⟩) (64 * m + 64 - 64 * m) (cc - 64 * m), .int .i64 64, VW (hsx g n m) 8, VB (fun i => pd g n (64 * m + i)) 64, VW (hz true 64) 64, VW (blk (hsx g n m) (fun i => pd g n (64 * m + i)) (hz true 64)) 8] ++ D d 58 17))))))) (fun L => [(L0.b 0, BC (fun _ => 0) 32), (k, BC (pd g n) l), (L15.b 2, AW (blk (hsx g n m) (fun i => pd g n (64 * m + i)) (hz true 64)) 8), (L15.b 3, AW (hz true 64) 64), (L18.b 0, BC (fun i => pd g n (64 * m + i)) 64)]) hp8 ⟨
      oL 2 0 rW8, oL 4 0 rB64, oL 3 0 rW64, oH (v := VW (blk (hsx g n m) (fun i => pd g n (64 * m + i)) (hz true 64)) 8) (vs := #[VW (hsx g n m) 8, VB (fun i => pd g n (64 * m + i)) 64, VW (hz true 64) 64]) (fun w _ _ => refBlock (hsx g n m) (fun i => pd g n (64 * m + i)) (hz true 64) (fun i _ => pd_rg hg _) w),
      oT rW8,
      trivial⟩ (fun L20 w21 hp21 => ?_)
    refine k27 _ _ _ ?_
    refine block_normal ?_
    refine k26 _ _ ?_
    refine gs [.det (.int .i64 ((64 * (m) : Nat) : Int)), .det (.int .i64 ((64 * (m) + 64 : Nat) : Int)), .det (.int .i64 ((64 * (m) + 64 : Nat) : Int))] [0, 1, 2] [0, 1, 3] (fun L => [.slice (some ⟨k, 0, none⟩) l cc, d 1, L0.p 0] ++ (D d 3 2 ++ ([L15.p 2, L15.p 3, .int .i64 ((64 * (m) + 64 : Nat) : Int), L18.p 0] ++ (D d 9 32 ++ ([.int .i64 ((64 * (m) : Nat) : Int), .slice (some ⟨k, 0, none⟩) l cc, .int .i64 l, .bool true, .int .i64 ((64 * (m) : Nat) : Int), .int .i64 ((64 * (m) + 64 : Nat) : Int), .slice (some ⟨(L18.b 0), 0, none⟩) 64 64, .slice (some ⟨k, 0, none⟩) l cc, .int .i64 ((64 * (m) : Nat) : Int), .int .i64 ((64 * (m) : Nat) : Int), .int .i64 ((64 * (m) + 64 : Nat) : Int), .slice (some ⟨k, 64 * m, none⟩) (64 * m + 64 - 64 * m) (cc - 64 * m), .int .i64 64, VW (hsx g n m) 8, VB (fun i => pd g n (64 * m + i)) 64, VW (hz true 64) 64, VW (blk (hsx g n m) (fun i => pd g n (64 * m + i)) (hz true 64)) 8] ++ D d 58 17))))) (fun L => [(L0.b 0, BC (fun _ => 0) 32), (k, BC (pd g n) l), (L15.b 2, AW (blk (hsx g n m) (fun i => pd g n (64 * m + i)) (hz true 64)) 8), (L15.b 3, AW (hz true 64) 64), (L18.b 0, BC (fun i => pd g n (64 * m + i)) 64)]) hp21 ⟨
      oM, oJ .i64 .i64 ((64 * (m) : Nat) : Int) 64 (h := fun w => addII _ (64 * (m)) 64 (64 * (m) + 64) rfl (by omega) w), oA,
      trivial⟩ (fun L21 w22 hp22 => ?_)
    exact ⟨L - 1, by omega, m + 1, (fun zz => ([.slice (some ⟨k, 0, none⟩) l cc, d 1, L0.p 0] ++ (D d 3 2 ++ ([L15.p 2, L15.p 3, .int .i64 ((64 * (m) + 64 : Nat) : Int), L18.p 0] ++ (D d 9 32 ++ ([.int .i64 ((64 * (m) : Nat) : Int), .slice (some ⟨k, 0, none⟩) l cc, .int .i64 l, .bool true, .int .i64 ((64 * (m) : Nat) : Int), .int .i64 ((64 * (m) + 64 : Nat) : Int), .slice (some ⟨(L18.b 0), 0, none⟩) 64 64, .slice (some ⟨k, 0, none⟩) l cc, .int .i64 ((64 * (m) : Nat) : Int), .int .i64 ((64 * (m) : Nat) : Int), .int .i64 ((64 * (m) + 64 : Nat) : Int), .slice (some ⟨k, 64 * m, none⟩) (64 * m + 64 - 64 * m) (cc - 64 * m), .int .i64 64, VW (hsx g n m) 8, VB (fun i => pd g n (64 * m + i)) 64, VW (hz true 64) 64, VW (blk (hsx g n m) (fun i => pd g n (64 * m + i)) (hz true 64)) 8] ++ D d 58 17)))) : List Value).getD zz undef), by kernel_rfl, by omega, by rw [hsx_s]; exact Heap.sub hp22 (List.sublist_append_left [_, _, _, _] [_])⟩
  obtain rfl : m = (l / 64) := by omega
  obtain ⟨S, eS⟩ : ∃ x, x = hsx g n (l / 64) := ⟨_, rfl⟩
  rw [← eS] at hJ
  refine wp_seq_k (fun K30 k30 => ?_)
  refine wp_seq_k (fun K31 k31 => ?_)
  refine gs [.det (.int .i64 ((64 * ((l / 64)) : Nat) : Int)), .det (.slice (some ⟨k, 0, none⟩) l cc), .det (.int .i64 l), .det (.bool false)] [0, 1, 2, 3] [0, 0, 2, 7] (fun L => [.slice (some ⟨k, 0, none⟩) l cc, d 1, L0.p 0] ++ (D d 3 2 ++ ([L15.p 2, L15.p 3, .int .i64 ((64 * ((l / 64)) : Nat) : Int)] ++ (D d 8 33 ++ ([.int .i64 ((64 * ((l / 64)) : Nat) : Int), .slice (some ⟨k, 0, none⟩) l cc, .int .i64 l, .bool false] ++ D d 45 30))))) (fun L => [(L0.b 0, BC (fun _ => 0) 32), (k, BC (pd g n) l), (L15.b 2, AW S 8), (L15.b 3, AW (hz true 64) 64)]) hJ ⟨
    oM, oM, fun h => ⟨ob_len (p := (some ⟨k, 0, none⟩)) (n := l) (c := cc) (fun _ => rfl) h rfl (fun _ => by kernel_rfl) Try.underlying22⟩, oJ .i64 .i64 ((64 * ((l / 64)) : Nat) : Int) l (h := fun w => (lssI _ _ _ w).trans (by rw [decide_eq_false (by omega)])),
    trivial⟩ (fun L22 w23 hp23 => ?_)
  refine k31 _ _ ?_
  refine wp_cond_false (by kernel_rfl) ?_
  refine wp_exit ?_
  refine then_exit ?_
  refine then_exit ?_
  refine k23 _ _ _ ?_
  refine exit_in ?_
  refine k21 _ _ ?_
  refine wp_seq_k (fun K32 k32 => ?_)
  refine gs [.alloc (BC (fun _ => 0) 32)] [0] [0] (fun L => [.slice (some ⟨k, 0, none⟩) l cc, d 1, L0.p 0] ++ (D d 3 2 ++ ([L15.p 2, L15.p 3, .int .i64 ((64 * ((l / 64)) : Nat) : Int), d 8, L.p 0] ++ (D d 10 31 ++ ([.int .i64 ((64 * ((l / 64)) : Nat) : Int), .slice (some ⟨k, 0, none⟩) l cc, .int .i64 l, .bool false] ++ D d 45 30))))) (fun L => [(L0.b 0, BC (fun _ => 0) 32), (k, BC (pd g n) l), (L15.b 2, AW S 8), (L15.b 3, AW (hz true 64) 64), (L.b 0, BC (fun _ => 0) 32)]) hp23 ⟨
    oZ rB32,
    trivial⟩ (fun L23 w24 hp24 => ?_)
  refine k32 _ _ ?_
  refine wp_seq_k (fun K33 k33 => ?_)
  refine wp_seq_k (fun K34 k34 => ?_)
  refine gs [.det (.int .i64 0)] [0] [0] (fun L => [.slice (some ⟨k, 0, none⟩) l cc, d 1, L0.p 0] ++ (D d 3 2 ++ ([L15.p 2, L15.p 3, .int .i64 ((64 * ((l / 64)) : Nat) : Int), d 8, L23.p 0, .int .i64 0] ++ (D d 11 30 ++ ([.int .i64 ((64 * ((l / 64)) : Nat) : Int), .slice (some ⟨k, 0, none⟩) l cc, .int .i64 l, .bool false] ++ D d 45 30))))) (fun L => [(L0.b 0, BC (fun _ => 0) 32), (k, BC (pd g n) l), (L15.b 2, AW S 8), (L15.b 3, AW (hz true 64) 64), (L23.b 0, BC (fun _ => 0) 32)]) hp24 ⟨
    oA,
    trivial⟩ (fun L24 w25 hp25 => ?_)
  refine k34 _ _ ?_
  refine wp_block_k (fun K35 k35 => ?_)
  refine wp_loop_ghost (dgI4 g n l cc S w (L0.b 0) k (L15.b 2) (L15.b 3) (L23.b 0)) 32 ⟨0, (fun zz => ([.slice (some ⟨k, 0, none⟩) l cc, d 1, L0.p 0] ++ (D d 3 2 ++ ([L15.p 2, L15.p 3, .int .i64 ((64 * ((l / 64)) : Nat) : Int), d 8, L23.p 0, .int .i64 0] ++ (D d 11 30 ++ ([.int .i64 ((64 * ((l / 64)) : Nat) : Int), .slice (some ⟨k, 0, none⟩) l cc, .int .i64 l, .bool false] ++ D d 45 30)))) : List Value).getD zz undef), by kernel_rfl, Nat.zero_add _, by rw [obx_0]; exact hp25⟩ ?_
  rintro L a' W ⟨m, d, rfl, hL, hJ⟩
  by_cases hL0 : L = 0
  rotate_left
  · skip
    have hm : m < 32 := by omega
    refine wp_seq_k (fun K36 k36 => ?_)
    refine wp_seq_k (fun K37 k37 => ?_)
    refine gs [.det (.int .i64 ((m : Nat) : Int)), .det (.bool true)] [0, 1] [0, 1] (fun L => D d 0 2 ++ ([L0.p 0] ++ (D d 3 2 ++ ([L15.p 2] ++ (D d 6 3 ++ ([L23.p 0, .int .i64 ((m : Nat) : Int)] ++ (D d 11 47 ++ ([.int .i64 ((m : Nat) : Int), .bool true] ++ D d 60 15)))))))) (fun L => [(L0.b 0, BC (fun _ => 0) 32), (k, BC (pd g n) l), (L15.b 2, AW S 8), (L15.b 3, AW (hz true 64) 64), (L23.b 0, BC (obx S m) 32)]) hJ ⟨
      oM, oJ .i64 .i64 ((m : Nat) : Int) 32 (h := fun w => (lssI _ _ _ w).trans (by rw [decide_eq_true (by omega)])),
      trivial⟩ (fun L25 w26 hp26 => ?_)
    refine k37 _ _ ?_
    refine wp_cond_true (by kernel_rfl) ?_
    refine skips ?_
    refine k36 _ _ ?_
    refine wp_seq_k (fun K38 k38 => ?_)
    refine wp_block_k (fun K39 k39 => ?_)
    refine gs [.det (.int .i64 ((m : Nat) : Int)), .det (.int .i64 ((m : Nat) : Int)), .det (.int .i64 ((m / 4 : Nat) : Int)), .det (.pointer (some ⟨(L15.b 2), 0 + (m / 4) * 1, none⟩)), .det (W32 (S (m / 4))), .det (.int .i64 ((m : Nat) : Int)), .det (.int .i64 ((m % 4 : Nat) : Int)), .det (.int .i64 ((8 * (m % 4) : Nat) : Int)), .det (.int .i64 ((24 - 8 * (m % 4) : Nat) : Int)), .det (W32 ((S (m / 4)) >>> (24 - 8 * (m % 4)))), .det (.int .u8 ((((S (m / 4)) >>> (24 - 8 * (m % 4))).toNat : Int) % 256)), .det (.pointer (some ⟨(L23.b 0), 0 + m * 1, none⟩)), .store (.base 4) (0 + m * 1) ([.int .u8 ((((S (m / 4)) >>> (24 - 8 * (m % 4))).toNat : Int) % 256)]) (BC (su (obx S m) m ((((S (m / 4)) >>> (24 - 8 * (m % 4))).toNat : Int) % 256)) 32)] [0, 1, 2, 3, 4, 5, 6, 7, 8, 9, 10, 11, 12] [0, 0, 2, 6, 14, 0, 32, 96, 224, 510, 1022, 2047, 4095] (fun L => D d 0 2 ++ ([L0.p 0] ++ (D d 3 2 ++ ([L15.p 2] ++ (D d 6 3 ++ ([L23.p 0, .int .i64 ((m : Nat) : Int)] ++ (D d 11 47 ++ ([.int .i64 ((m : Nat) : Int), .bool true] ++ (D d 60 2 ++ [.int .i64 ((m : Nat) : Int), .int .i64 ((m : Nat) : Int), .int .i64 ((m / 4 : Nat) : Int), .pointer (some ⟨(L15.b 2), 0 + (m / 4) * 1, none⟩), W32 (S (m / 4)), .int .i64 ((m : Nat) : Int), .int .i64 ((m % 4 : Nat) : Int), .int .i64 ((8 * (m % 4) : Nat) : Int), .int .i64 ((24 - 8 * (m % 4) : Nat) : Int), W32 ((S (m / 4)) >>> (24 - 8 * (m % 4))), .int .u8 ((((S (m / 4)) >>> (24 - 8 * (m % 4))).toNat : Int) % 256), .pointer (some ⟨(L23.b 0), 0 + m * 1, none⟩), d 74]))))))))) (fun L => [(L0.b 0, BC (fun _ => 0) 32), (k, BC (pd g n) l), (L15.b 2, AW S 8), (L15.b 3, AW (hz true 64) 64), (L23.b 0, BC (su (obx S m) m ((((S (m / 4)) >>> (24 - 8 * (m % 4))).toNat : Int) % 256)) 32)]) hp26 ⟨
      oM, oM, oJ .i64 .i64 ((m : Nat) : Int) 4 (h := fun w => quoN _ m 4 (m / 4) (by omega) (by decide) rfl w), oIA (k := .i64) (m / 4) aW8 (by omega), oLA (n := 8) (j := (m / 4)) 2 (by omega),
      oM, oJ .i64 .i64 ((m : Nat) : Int) 4 (h := fun w => remN _ m 4 (m % 4) (by decide) (by omega) rfl w), oJ .i64 .i64 8 ((m % 4 : Nat) : Int) (h := fun w => mulII _ 8 (m % 4) (8 * (m % 4)) rfl (by omega) w),
      oJ .i64 .i64 24 ((8 * (m % 4) : Nat) : Int) (h := fun w => subN _ 24 (8 * (m % 4)) (24 - 8 * (m % 4)) (by omega) (by omega) w), oJ .u32 .i64 ((S (m / 4)).toNat : Int) ((24 - 8 * (m % 4) : Nat) : Int) (h := fun w => shrW _ (S (m / 4)) .i64 (24 - 8 * (m % 4)) (by omega) w),
      oCv (fun w => convWB ((S (m / 4)) >>> (24 - 8 * (m % 4))) w), oIA (k := .i64) m aB32 (by omega), oTY (n := 32) (j := m) (by omega),
      trivial⟩ (fun L26 w27 hp27 => ?_)
    refine k39 _ _ _ ?_
    refine block_normal ?_
    refine k38 _ _ ?_
    refine gs [.det (.int .i64 ((m : Nat) : Int)), .det (.int .i64 ((m + 1 : Nat) : Int)), .det (.int .i64 ((m + 1 : Nat) : Int))] [0, 1, 2] [0, 1, 3] (fun L => D d 0 2 ++ ([L0.p 0] ++ (D d 3 2 ++ ([L15.p 2] ++ (D d 6 3 ++ ([L23.p 0, .int .i64 ((m + 1 : Nat) : Int)] ++ (D d 11 47 ++ [.int .i64 ((m : Nat) : Int), .bool true, .int .i64 ((m : Nat) : Int), .int .i64 ((m + 1 : Nat) : Int), .int .i64 ((m : Nat) : Int), .int .i64 ((m : Nat) : Int), .int .i64 ((m / 4 : Nat) : Int), .pointer (some ⟨(L15.b 2), 0 + (m / 4) * 1, none⟩), W32 (S (m / 4)), .int .i64 ((m : Nat) : Int), .int .i64 ((m % 4 : Nat) : Int), .int .i64 ((8 * (m % 4) : Nat) : Int), .int .i64 ((24 - 8 * (m % 4) : Nat) : Int), W32 ((S (m / 4)) >>> (24 - 8 * (m % 4))), .int .u8 ((((S (m / 4)) >>> (24 - 8 * (m % 4))).toNat : Int) % 256), .pointer (some ⟨(L23.b 0), 0 + m * 1, none⟩), d 74]))))))) (fun L => [(L0.b 0, BC (fun _ => 0) 32), (k, BC (pd g n) l), (L15.b 2, AW S 8), (L15.b 3, AW (hz true 64) 64), (L23.b 0, BC (su (obx S m) m ((((S (m / 4)) >>> (24 - 8 * (m % 4))).toNat : Int) % 256)) 32)]) hp27 ⟨
      oM, oJ .i64 .i64 ((m : Nat) : Int) 1 (h := fun w => add1N _ (m) (by omega) w), oA,
      trivial⟩ (fun L27 w28 hp28 => ?_)
    exact ⟨L - 1, by omega, m + 1, (fun zz => (D d 0 2 ++ ([L0.p 0] ++ (D d 3 2 ++ ([L15.p 2] ++ (D d 6 3 ++ ([L23.p 0, .int .i64 ((m + 1 : Nat) : Int)] ++ (D d 11 47 ++ [.int .i64 ((m : Nat) : Int), .bool true, .int .i64 ((m : Nat) : Int), .int .i64 ((m + 1 : Nat) : Int), .int .i64 ((m : Nat) : Int), .int .i64 ((m : Nat) : Int), .int .i64 ((m / 4 : Nat) : Int), .pointer (some ⟨(L15.b 2), 0 + (m / 4) * 1, none⟩), W32 (S (m / 4)), .int .i64 ((m : Nat) : Int), .int .i64 ((m % 4 : Nat) : Int), .int .i64 ((8 * (m % 4) : Nat) : Int), .int .i64 ((24 - 8 * (m % 4) : Nat) : Int), W32 ((S (m / 4)) >>> (24 - 8 * (m % 4))), .int .u8 ((((S (m / 4)) >>> (24 - 8 * (m % 4))).toNat : Int) % 256), .pointer (some ⟨(L23.b 0), 0 + m * 1, none⟩), d 74])))))) : List Value).getD zz undef), by kernel_rfl, by omega, by rw [obx_s]; exact hp28⟩
  obtain rfl : m = 32 := by omega
  refine wp_seq_k (fun K40 k40 => ?_)
  refine wp_seq_k (fun K41 k41 => ?_)
  refine gs [.det (.int .i64 ((32 : Nat) : Int)), .det (.bool false)] [0, 1] [0, 1] (fun L => D d 0 2 ++ ([L0.p 0] ++ (D d 3 2 ++ ([L15.p 2] ++ (D d 6 3 ++ ([L23.p 0, .int .i64 ((32 : Nat) : Int)] ++ (D d 11 47 ++ ([.int .i64 ((32 : Nat) : Int), .bool false] ++ D d 60 15)))))))) (fun L => [(L0.b 0, BC (fun _ => 0) 32), (k, BC (pd g n) l), (L15.b 2, AW S 8), (L15.b 3, AW (hz true 64) 64), (L23.b 0, BC (obx S 32) 32)]) hJ ⟨
    oM, oJ .i64 .i64 ((32 : Nat) : Int) 32 (h := fun w => (lssI _ _ _ w).trans (by rw [decide_eq_false (by omega)])),
    trivial⟩ (fun L28 w29 hp29 => ?_)
  refine k41 _ _ ?_
  refine wp_cond_false (by kernel_rfl) ?_
  refine wp_exit ?_
  refine then_exit ?_
  refine then_exit ?_
  refine k35 _ _ _ ?_
  refine exit_in ?_
  refine k33 _ _ ?_
  refine wp_seq_k (fun K42 k42 => ?_)
  refine gs [.det (VB (obx S 32) 32), .store (.base 0) 0 (BC (obx S 32) 32) (BC (obx S 32) 32)] [0, 1] [0, 1] (fun L => D d 0 2 ++ ([L0.p 0] ++ (D d 3 2 ++ ([L15.p 2] ++ (D d 6 3 ++ ([L23.p 0, .int .i64 ((32 : Nat) : Int)] ++ (D d 11 47 ++ ([.int .i64 ((32 : Nat) : Int), .bool false] ++ (D d 60 14 ++ [VB (obx S 32) 32]))))))))) (fun L => [(L0.b 0, BC (obx S 32) 32), (k, BC (pd g n) l), (L15.b 2, AW S 8), (L15.b 3, AW (hz true 64) 64), (L23.b 0, BC (obx S 32) 32)]) hp29 ⟨
    oL 4 0 rB32, oT rB32,
    trivial⟩ (fun L29 w30 hp30 => ?_)
  refine k42 _ _ ?_
  refine wp_ret ?_
  refine bodyPost_ret (v := VB (obx S 32) 32) ?_ rfl ?_
  · exact rc rB32 rfl (by kernel_rfl) (hp30.bound 0 rfl).2
  · exact ⟨by rw [eS, eN]; exact congrArg (fun z => Ending.returned (.agg (List.toArray z))) (BC_congr fun j hj => obx_at _ 32 j hj), hp30.bel⟩
end Go.Proofs.Ytklddcicfeakfaa.fpn
