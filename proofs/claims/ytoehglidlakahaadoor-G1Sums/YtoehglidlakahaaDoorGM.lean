/- J8 K8 O8 B8. -/
import Derived.Test.YtoehglidlakahaaDoorGK
import Derived.Test.YtoehglidlakahaaDoorGG
import Derived.Deep.LoopGhost
import Derived.Test.YtoehglidlakahaaDoorGL
import Derived.Test.YtoehglidlakahaaDoorGC
/- Package g1: bits, sums of many, multiples. -/
namespace Go.Proofs.YtoehglidlakahaaDoor.Pl
open Go Go.RowKit
set_option linter.unusedSimpArgs false

section
variable {P : Program}
theorem quo64 (t : TypeId) (j q : Nat) (hj : j < 1000000) (hq : j / 64 = q) (w : World) : (binOp .quo t (.int .i64 (j : Int)) (.int .i64 64)).run P w = .ok (.int .i64 (q : Int)) w := by
  have e0 : (j : Int).tdiv 64 = (q : Int) := by rw [Int.tdiv_eq_ediv_of_nonneg (by omega)]; omega
  have e : IntKind.i64.wrap (q : Int) = (q : Int) := by unfold IntKind.wrap; simp [IntKind.bits, IntKind.signed]; omega
  simp [binOp, Sem.run_bind, Op.intDiv, e0, e]
theorem rem64 (t : TypeId) (j r : Nat) (hr : j % 64 = r) (w : World) : (binOp .rem t (.int .i64 (j : Int)) (.int .i64 64)).run P w = .ok (.int .i64 (r : Int)) w := by
  have e0 : (j : Int).tmod 64 = (r : Int) := by rw [Int.tmod_eq_emod_of_nonneg (by omega)]; omega
  simp [binOp, Sem.run_bind, Op.intDiv, e0]
theorem shrN (t : TypeId) (x : Int) (r : Nat) (hr : r < 64) (w : World) : (binOp .shr t (.int .u64 x) (.int .i64 (r : Int))).run P w = .ok (.int .u64 (x / 2 ^ r)) w := by
  have e : min r IntKind.u64.bits = r := by simp [IntKind.bits]; omega
  have e2 : x.fdiv (2 ^ r) = x / 2 ^ r := Int.fdiv_eq_ediv_of_nonneg _ (Int.le_of_lt (Int.pow_pos (by decide)))
  simp [binOp, Op.shift, Sem.run_bind, e, e2]
theorem and1 (t : TypeId) (x b : Int) (h : bits .and .u64 x 1 = b) (w : World) : (binOp .and t (.int .u64 x) (.int .u64 1)).run P w = .ok (.int .u64 b) w := by
  simp [binOp, Sem.run_bind, Op.intBits]
  exact h
theorem lssI (t : TypeId) (a b : Int) (w : World) : (binOp .lss t (.int .i64 a) (.int .i64 b)).run P w = .ok (.bool (decide (a < b))) w := by
  simp [binOp, Sem.run_bind, Op.intCmp]
theorem add1N (t : TypeId) (j : Nat) (h : j < 1000000) (w : World) : (binOp .add t (.int .i64 (j : Int)) (.int .i64 1)).run P w = .ok (.int .i64 ((j + 1 : Nat) : Int)) w := by
  have e : IntKind.i64.wrap ((j : Int) + 1) = ((j + 1 : Nat) : Int) := by unfold IntKind.wrap; simp [IntKind.bits, IntKind.signed]; omega
  simp only [binOp, Op.intArith, e]; simp [Sem.run_bind, e]
end
end Go.Proofs.YtoehglidlakahaaDoor.Pl
namespace Go.Proofs.YtoehglidlakahaaDoor.fpn
open Go.RowKit Pl EC
set_option linter.unusedVariables false
set_option linter.unusedSimpArgs false
set_option maxRecDepth 4000

set_option maxHeartbeats 4000000 in
theorem g1bitAt0 {G : World → Prop} (K : FpK G) (k j b : Nat) (w : World) (hg : G w) (hq : j / 64 = 0) (hb : bits .and .u64 (lb k 0 / 2 ^ (j % 64)) 1 = (b : Int)) : Calls Tryd.prog 96 #[RV k, .int .i64 ((j : Nat) : Int)] w (Ret (.int .u64 ((b : Nat) : Int)) w) := by
  have hp0 := Heap.start w
  go_enter Tryd.func96, Tryd.ntmps96
  refine wp_seq_k (fun K1 k1 => ?_)
  refine gs [.alloc (RC k), .det (.int .u64 0)] [0, 1] [0, 0] (fun L => [RV k, .int .i64 ((j : Nat) : Int), pt (L.b 0) 0, undef, .int .u64 0] ++ U 8) (fun L => [(L.b 0, RC k)]) hp0 ⟨
    oB, oA,
    trivial⟩ (fun L0 w1 hp1 => ?_)
  refine k1 _ _ ?_
  refine wp_seq_k (fun K2 k2 => ?_)
  refine gs [.det (.int .i64 ((j : Nat) : Int)), .det (.int .i64 0), .det (pt (L0.b 0) 0), .det (.int .u64 (lb k 0)), .det (.int .i64 ((j : Nat) : Int)), .det (.int .i64 ((j % 64 : Nat) : Int)), .det (.int .u64 (lb k 0 / 2 ^ (j % 64))), .det (.int .u64 ((b : Nat) : Int)), .det (.int .u64 ((b : Nat) : Int))] [0, 1, 2, 3, 4, 5, 6, 7, 8] [0, 1, 3, 7, 0, 16, 63, 127, 255] (fun L => [RV k, .int .i64 ((j : Nat) : Int), pt (L0.b 0) 0, undef, .int .u64 ((b : Nat) : Int), .int .i64 ((j : Nat) : Int), .int .i64 0, pt (L0.b 0) 0, .int .u64 (lb k 0), .int .i64 ((j : Nat) : Int), .int .i64 ((j % 64 : Nat) : Int), .int .u64 (lb k 0 / 2 ^ (j % 64)), .int .u64 ((b : Nat) : Int)]) (fun L => [((L0.b 0), RC k)]) hp1 ⟨
    oM, oJ .i64 .i64 ((j : Nat) : Int) 64 (h := fun w => quo64 _ j 0 (by omega) (by omega) w), oI aR, oL1 0 0 oneU, oM, oJ .i64 .i64 ((j : Nat) : Int) 64 (h := fun w => rem64 _ j (j % 64) rfl w),
    oJ .u64 .i64 (lb k 0) ((j % 64 : Nat) : Int) (h := fun w => shrN _ _ _ (by omega) w), oJ .u64 .u64 (lb k 0 / 2 ^ (j % 64)) 1 (h := fun w => and1 _ _ _ hb w),
    oA,
    trivial⟩ (fun L1 w2 hp2 => ?_)
  refine k2 _ _ ?_
  refine wp_ret ?_
  refine bodyPost_ret (v := .int .u64 ((b : Nat) : Int)) ?_ rfl ?_
  · exact res_t rfl (by kernel_rfl) _
  · exact ⟨rfl, hp2.bel⟩
set_option maxHeartbeats 4000000 in
theorem g1bitAt1 {G : World → Prop} (K : FpK G) (k j b : Nat) (w : World) (hg : G w) (hq : j / 64 = 1) (hb : bits .and .u64 (lb k 1 / 2 ^ (j % 64)) 1 = (b : Int)) : Calls Tryd.prog 96 #[RV k, .int .i64 ((j : Nat) : Int)] w (Ret (.int .u64 ((b : Nat) : Int)) w) := by
  have hp0 := Heap.start w
  go_enter Tryd.func96, Tryd.ntmps96
  refine wp_seq_k (fun K1 k1 => ?_)
  refine gs [.alloc (RC k), .det (.int .u64 0)] [0, 1] [0, 0] (fun L => [RV k, .int .i64 ((j : Nat) : Int), pt (L.b 0) 0, undef, .int .u64 0] ++ U 8) (fun L => [(L.b 0, RC k)]) hp0 ⟨
    oB, oA,
    trivial⟩ (fun L0 w1 hp1 => ?_)
  refine k1 _ _ ?_
  refine wp_seq_k (fun K2 k2 => ?_)
  refine gs [.det (.int .i64 ((j : Nat) : Int)), .det (.int .i64 1), .det (pt (L0.b 0) 1), .det (.int .u64 (lb k 1)), .det (.int .i64 ((j : Nat) : Int)), .det (.int .i64 ((j % 64 : Nat) : Int)), .det (.int .u64 (lb k 1 / 2 ^ (j % 64))), .det (.int .u64 ((b : Nat) : Int)), .det (.int .u64 ((b : Nat) : Int))] [0, 1, 2, 3, 4, 5, 6, 7, 8] [0, 1, 3, 7, 0, 16, 63, 127, 255] (fun L => [RV k, .int .i64 ((j : Nat) : Int), pt (L0.b 0) 0, undef, .int .u64 ((b : Nat) : Int), .int .i64 ((j : Nat) : Int), .int .i64 1, pt (L0.b 0) 1, .int .u64 (lb k 1), .int .i64 ((j : Nat) : Int), .int .i64 ((j % 64 : Nat) : Int), .int .u64 (lb k 1 / 2 ^ (j % 64)), .int .u64 ((b : Nat) : Int)]) (fun L => [((L0.b 0), RC k)]) hp1 ⟨
    oM, oJ .i64 .i64 ((j : Nat) : Int) 64 (h := fun w => quo64 _ j 1 (by omega) (by omega) w), oI aR, oL1 0 1 oneU, oM, oJ .i64 .i64 ((j : Nat) : Int) 64 (h := fun w => rem64 _ j (j % 64) rfl w),
    oJ .u64 .i64 (lb k 1) ((j % 64 : Nat) : Int) (h := fun w => shrN _ _ _ (by omega) w), oJ .u64 .u64 (lb k 1 / 2 ^ (j % 64)) 1 (h := fun w => and1 _ _ _ hb w),
    oA,
    trivial⟩ (fun L1 w2 hp2 => ?_)
  refine k2 _ _ ?_
  refine wp_ret ?_
  refine bodyPost_ret (v := .int .u64 ((b : Nat) : Int)) ?_ rfl ?_
  · exact res_t rfl (by kernel_rfl) _
  · exact ⟨rfl, hp2.bel⟩
set_option maxHeartbeats 4000000 in
theorem g1bitAt2 {G : World → Prop} (K : FpK G) (k j b : Nat) (w : World) (hg : G w) (hq : j / 64 = 2) (hb : bits .and .u64 (lb k 2 / 2 ^ (j % 64)) 1 = (b : Int)) : Calls Tryd.prog 96 #[RV k, .int .i64 ((j : Nat) : Int)] w (Ret (.int .u64 ((b : Nat) : Int)) w) := by
  have hp0 := Heap.start w
  go_enter Tryd.func96, Tryd.ntmps96
  refine wp_seq_k (fun K1 k1 => ?_)
  refine gs [.alloc (RC k), .det (.int .u64 0)] [0, 1] [0, 0] (fun L => [RV k, .int .i64 ((j : Nat) : Int), pt (L.b 0) 0, undef, .int .u64 0] ++ U 8) (fun L => [(L.b 0, RC k)]) hp0 ⟨
    oB, oA,
    trivial⟩ (fun L0 w1 hp1 => ?_)
  refine k1 _ _ ?_
  refine wp_seq_k (fun K2 k2 => ?_)
  refine gs [.det (.int .i64 ((j : Nat) : Int)), .det (.int .i64 2), .det (pt (L0.b 0) 2), .det (.int .u64 (lb k 2)), .det (.int .i64 ((j : Nat) : Int)), .det (.int .i64 ((j % 64 : Nat) : Int)), .det (.int .u64 (lb k 2 / 2 ^ (j % 64))), .det (.int .u64 ((b : Nat) : Int)), .det (.int .u64 ((b : Nat) : Int))] [0, 1, 2, 3, 4, 5, 6, 7, 8] [0, 1, 3, 7, 0, 16, 63, 127, 255] (fun L => [RV k, .int .i64 ((j : Nat) : Int), pt (L0.b 0) 0, undef, .int .u64 ((b : Nat) : Int), .int .i64 ((j : Nat) : Int), .int .i64 2, pt (L0.b 0) 2, .int .u64 (lb k 2), .int .i64 ((j : Nat) : Int), .int .i64 ((j % 64 : Nat) : Int), .int .u64 (lb k 2 / 2 ^ (j % 64)), .int .u64 ((b : Nat) : Int)]) (fun L => [((L0.b 0), RC k)]) hp1 ⟨
    oM, oJ .i64 .i64 ((j : Nat) : Int) 64 (h := fun w => quo64 _ j 2 (by omega) (by omega) w), oI aR, oL1 0 2 oneU, oM, oJ .i64 .i64 ((j : Nat) : Int) 64 (h := fun w => rem64 _ j (j % 64) rfl w),
    oJ .u64 .i64 (lb k 2) ((j % 64 : Nat) : Int) (h := fun w => shrN _ _ _ (by omega) w), oJ .u64 .u64 (lb k 2 / 2 ^ (j % 64)) 1 (h := fun w => and1 _ _ _ hb w),
    oA,
    trivial⟩ (fun L1 w2 hp2 => ?_)
  refine k2 _ _ ?_
  refine wp_ret ?_
  refine bodyPost_ret (v := .int .u64 ((b : Nat) : Int)) ?_ rfl ?_
  · exact res_t rfl (by kernel_rfl) _
  · exact ⟨rfl, hp2.bel⟩
set_option maxHeartbeats 4000000 in
theorem g1bitAt3 {G : World → Prop} (K : FpK G) (k j b : Nat) (w : World) (hg : G w) (hq : j / 64 = 3) (hb : bits .and .u64 (lb k 3 / 2 ^ (j % 64)) 1 = (b : Int)) : Calls Tryd.prog 96 #[RV k, .int .i64 ((j : Nat) : Int)] w (Ret (.int .u64 ((b : Nat) : Int)) w) := by
  have hp0 := Heap.start w
  go_enter Tryd.func96, Tryd.ntmps96
  refine wp_seq_k (fun K1 k1 => ?_)
  refine gs [.alloc (RC k), .det (.int .u64 0)] [0, 1] [0, 0] (fun L => [RV k, .int .i64 ((j : Nat) : Int), pt (L.b 0) 0, undef, .int .u64 0] ++ U 8) (fun L => [(L.b 0, RC k)]) hp0 ⟨
    oB, oA,
    trivial⟩ (fun L0 w1 hp1 => ?_)
  refine k1 _ _ ?_
  refine wp_seq_k (fun K2 k2 => ?_)
  refine gs [.det (.int .i64 ((j : Nat) : Int)), .det (.int .i64 3), .det (pt (L0.b 0) 3), .det (.int .u64 (lb k 3)), .det (.int .i64 ((j : Nat) : Int)), .det (.int .i64 ((j % 64 : Nat) : Int)), .det (.int .u64 (lb k 3 / 2 ^ (j % 64))), .det (.int .u64 ((b : Nat) : Int)), .det (.int .u64 ((b : Nat) : Int))] [0, 1, 2, 3, 4, 5, 6, 7, 8] [0, 1, 3, 7, 0, 16, 63, 127, 255] (fun L => [RV k, .int .i64 ((j : Nat) : Int), pt (L0.b 0) 0, undef, .int .u64 ((b : Nat) : Int), .int .i64 ((j : Nat) : Int), .int .i64 3, pt (L0.b 0) 3, .int .u64 (lb k 3), .int .i64 ((j : Nat) : Int), .int .i64 ((j % 64 : Nat) : Int), .int .u64 (lb k 3 / 2 ^ (j % 64)), .int .u64 ((b : Nat) : Int)]) (fun L => [((L0.b 0), RC k)]) hp1 ⟨
    oM, oJ .i64 .i64 ((j : Nat) : Int) 64 (h := fun w => quo64 _ j 3 (by omega) (by omega) w), oI aR, oL1 0 3 oneU, oM, oJ .i64 .i64 ((j : Nat) : Int) 64 (h := fun w => rem64 _ j (j % 64) rfl w),
    oJ .u64 .i64 (lb k 3) ((j % 64 : Nat) : Int) (h := fun w => shrN _ _ _ (by omega) w), oJ .u64 .u64 (lb k 3 / 2 ^ (j % 64)) 1 (h := fun w => and1 _ _ _ hb w),
    oA,
    trivial⟩ (fun L1 w2 hp2 => ?_)
  refine k2 _ _ ?_
  refine wp_ret ?_
  refine bodyPost_ret (v := .int .u64 ((b : Nat) : Int)) ?_ rfl ?_
  · exact res_t rfl (by kernel_rfl) _
  · exact ⟨rfl, hp2.bel⟩
theorem lb_bit {k j : Nat} (hk : k < 2 ^ 256) (hj : j < 256) : lb k (j / 64) / 2 ^ (j % 64) % 2 = ((k / 2 ^ j % 2 : Nat) : Int) :=
  nat_bit (n := 4) (lb_rg k 4) (by rw [lb_val, Nat.mod_eq_of_lt hk]) (by omega)
theorem lb_and {k j : Nat} (hk : k < 2 ^ 256) (hj : j < 256) : bits .and .u64 (lb k (j / 64) / 2 ^ (j % 64)) 1 = ((k / 2 ^ j % 2 : Nat) : Int) := by
  have r := lb_rg k 4 (j / 64) (by omega)
  rw [and_one _ (Int.ediv_nonneg r.1 (Int.le_of_lt (Int.pow_pos (by decide)))) (by
    have := Int.ediv_le_self (2 ^ (j % 64)) r.1
    rw [B64_eq] at r
    omega)]
  exact lb_bit hk hj
theorem g1bitAt {G : World → Prop} (K : FpK G) (k j : Nat) (w : World) (hg : G w) (hk : k < 2 ^ 256) (hj : j < 256) {b : Nat} (hb : k / 2 ^ j % 2 = b) : Calls Tryd.prog 96 #[RV k, .int .i64 (j : Int)] w (Ret (.int .u64 (b : Int)) w) := by
  subst hb
  have h := lb_and hk hj
  have hq : j / 64 < 4 := by omega
  rcases (show j / 64 = 0 ∨ j / 64 = 1 ∨ j / 64 = 2 ∨ j / 64 = 3 by omega) with e | e | e | e <;> rw [e] at h
  · exact g1bitAt0 K k j _ w hg e h
  · exact g1bitAt1 K k j _ w hg e h
  · exact g1bitAt2 K k j _ w hg e h
  · exact g1bitAt3 K k j _ w hg e h
/-- Points and scalars, side by side. -/
def AtL (w : World) (p q : Option Addr) (l : List (Pt F × Nat)) : Prop := 0 < l.length →
  (∃ b off, p = some ⟨b, off, none⟩ ∧ ∀ j x, l[j]? = some x → w.rangeAt b (off + j * 13) (GC (gp x.1))) ∧ (∃ b off, q = some ⟨b, off, none⟩ ∧ ∀ j x, l[j]? = some x → w.rangeAt b (off + j * 4) (RC x.2))
theorem rangeG {w x : World} {b off : Nat} {p : G1p} (h : w.rangeAt b off (GC p)) (k : Below w.heap.size w x) : x.rangeAt b off (GC p) := range_up h k
theorem rangeR {w x : World} {b off : Nat} {n : Nat} (h : w.rangeAt b off (RC n)) (k : Below w.heap.size w x) : x.rangeAt b off (RC n) := range_up h k
theorem AtL.up {w x : World} {p q : Option Addr} {l : List (Pt F × Nat)} (h : AtL w p q l) (k : Below w.heap.size w x) : AtL x p q l := fun h0 => by
  obtain ⟨⟨b, off, e, hb⟩, b', off', e', hb'⟩ := h h0
  exact ⟨⟨b, off, e, fun j x hx => rangeG (hb j x hx) k⟩, b', off', e', fun j x hx => rangeR (hb' j x hx) k⟩
theorem bits_no {a y : Jc F} {j : Nat} {x : Pt F × Nat} {r l : List (Pt F × Nat)} (hy : jbits y j (x :: r) = jbits a j l) (hb : x.2 / 2 ^ j % 2 = 0) : jbits y j r = jbits a j l := by
  rw [← hy, jbits, if_neg (by omega)]
theorem bits_yes {a y : Jc F} {j : Nat} {x : Pt F × Nat} {r l : List (Pt F × Nat)} (hy : jbits y j (x :: r) = jbits a j l) (hb : x.2 / 2 ^ j % 2 = 1) : jbits (jplus y x.1) j r = jbits a j l := by
  rw [← hy, jbits, if_pos hb]
/-- What the rounds of withBits keep. -/
def bitsI (a : Jc F) (p q : Option Addr) (l : List (Pt F × Nat)) (c c0 j : Nat) (w : World) (b4 b8 : Nat) : Nat → Act → World → Prop := fun L a' w' => ∃ (i : Nat) (y : Jc F) (u5 u6 u7 u9 u10 u14 u15 u16 u17 u18 u19 u20 u21 u22 u23 u24 u25 u26 u27 u28 u29 : Value),
  a' = { tmps := #[JV a, .slice p l.length c, .slice q l.length c0, .int .i64 ((j : Nat) : Int), .pointer (some ⟨b4, 0, none⟩), u5, u6, u7, .pointer (some ⟨b8, 0, none⟩), u9, u10, .slice p l.length c, .int .i64 l.length, .int .i64 ((i : Nat) : Int), u14, u15, u16, u17, u18, u19, u20, u21, u22, u23, u24, u25, u26, u27, u28, u29], defers := [] } ∧ i + L = l.length ∧ jbits y j (l.drop i) = jbits a j l ∧ Heap w.heap.size w w' [(b4, JC y), (b8, JC ⟨0, 0, 0⟩)]

set_option maxHeartbeats 4000000 in
theorem g1withBits {G : World → Prop} (K : FpK G) (a : Jc F) (p q : Option Addr) (l : List (Pt F × Nat)) (c c0 j : Nat) (w : World) (hg : G w) (hl : l.length ≤ 1000) (hj : j < 256) (hA : AtL w p q l) (hk : ∀ x ∈ l, x.2 < 2 ^ 256) : Calls Tryd.prog 83 #[JV a, .slice p l.length c, .slice q l.length c0, .int .i64 (j : Int)] w (Ret (JV (jbits a j l)) w) := by
  have hp0 := Heap.start w
  go_enter Tryd.func83, Tryd.ntmps83
  refine wp_seq_k (fun K1 k1 => ?_)
  refine gs [.alloc (JC a), .alloc (JC ⟨0, 0, 0⟩)] [0, 1] [0, 0] (fun L => [JV a, .slice p l.length c, .slice q l.length c0, .int .i64 ((j : Nat) : Int), pt (L.b 0) 0, undef, undef, undef, pt (L.b 1) 0] ++ U 21) (fun L => [(L.b 0, JC a), (L.b 1, JC ⟨0, 0, 0⟩)]) hp0 ⟨
    oB, oZ rJ,
    trivial⟩ (fun L0 w1 hp1 => ?_)
  refine k1 _ _ ?_
  refine wp_seq_k (fun K2 k2 => ?_)
  refine wp_seq_k (fun K3 k3 => ?_)
  refine gs [.det (.slice p l.length c), .det (.int .i64 l.length), .det (.int .i64 0)] [0, 1, 2] [0, 1, 0] (fun L => [JV a, .slice p l.length c, .slice q l.length c0, .int .i64 ((j : Nat) : Int), pt (L0.b 0) 0, undef, undef, undef, pt (L0.b 1) 0, undef, undef, .slice p l.length c, .int .i64 l.length, .int .i64 0] ++ U 16) (fun L => [((L0.b 0), JC a), ((L0.b 1), JC ⟨0, 0, 0⟩)]) hp1 ⟨
    oM, fun h => ⟨ob_len (p := p) (n := l.length) (c := c) (fun _ => rfl) h rfl (fun _ => by kernel_rfl) Tryd.underlying41⟩, oM,
    trivial⟩ (fun L1 w2 hp2 => ?_)
  refine k3 _ _ ?_
  refine wp_block_k (fun K4 k4 => ?_)
  refine wp_loop_ghost (bitsI a p q l c c0 j w (L0.b 0) (L0.b 1)) l.length ⟨0, a, undef, undef, undef, undef, undef, undef, undef, undef, undef, undef, undef, undef, undef, undef, undef, undef, undef, undef, undef, undef, undef, rfl, Nat.zero_add _, rfl, hp2⟩ ?_
  rintro L a' W ⟨i, y, u5, u6, u7, u9, u10, u14, u15, u16, u17, u18, u19, u20, u21, u22, u23, u24, u25, u26, u27, u28, u29, rfl, hL, hy, hJ⟩
  by_cases hL0 : L = 0
  rotate_left
  · skip
    have hi : i < l.length := by omega
    obtain ⟨⟨b, off, rfl, hGG⟩, b0, off0, rfl, hRR⟩ := hA (by omega)
    obtain ⟨x, hx, hd⟩ : ∃ x, l[i]? = some x ∧ l.drop i = x :: l.drop (i + 1) := ⟨l[i], List.getElem?_eq_getElem hi, List.drop_eq_getElem_cons hi⟩
    rw [hd] at hy
    have hxk := hk x (List.mem_of_getElem? hx)
    rcases (show x.2 / 2 ^ j % 2 = 0 ∨ x.2 / 2 ^ j % 2 = 1 by omega) with hb0 | hb1
    · skip
      refine wp_seq_k (fun K5 k5 => ?_)
      refine gs [.det (.bool true)] [0] [0] (fun L => [JV a, .slice (some ⟨b, off, none⟩) l.length c, .slice (some ⟨b0, off0, none⟩) l.length c0, .int .i64 ((j : Nat) : Int), pt (L0.b 0) 0, u5, u6, u7, pt (L0.b 1) 0, u9, u10, .slice (some ⟨b, off, none⟩) l.length c, .int .i64 l.length, .int .i64 ((i : Nat) : Int), .bool true, u15, u16, u17, u18, u19, u20, u21, u22, u23, u24, u25, u26, u27, u28, u29]) (fun L => [((L0.b 0), JC y), ((L0.b 1), JC ⟨0, 0, 0⟩)]) hJ ⟨
        oJ .i64 .i64 ((i : Nat) : Int) l.length (h := fun w => (lssI _ _ _ w).trans (by rw [decide_eq_true (by omega)])),
        trivial⟩ (fun L2 w3 hp3 => ?_)
      refine k5 _ _ ?_
      refine wp_seq_k (fun K6 k6 => ?_)
      refine wp_cond_true (by kernel_rfl) ?_
      refine skips ?_
      refine k6 _ _ ?_
      refine wp_seq_k (fun K7 k7 => ?_)
      refine wp_block_k (fun K8 k8 => ?_)
      refine wp_seq_k (fun K9 k9 => ?_)
      refine gs [.det (.int .i64 ((i : Nat) : Int)), .det (.pointer (some ⟨b, off + i * 13, none⟩)), .det (GV (gp x.1)), .alloc (GC ⟨0, 0, false⟩), .det (.int .i64 ((i : Nat) : Int)), .store (.new 3) 0 (GC (gp x.1)) (GC (gp x.1))] [0, 1, 2, 3, 4, 5] [0, 0, 2, 0, 15, 31] (fun L => [JV a, .slice (some ⟨b, off, none⟩) l.length c, .slice (some ⟨b0, off0, none⟩) l.length c0, .int .i64 ((j : Nat) : Int), pt (L0.b 0) 0, u5, u6, u7, pt (L0.b 1) 0, .int .i64 ((i : Nat) : Int), pt (L.b 3) 0, .slice (some ⟨b, off, none⟩) l.length c, .int .i64 l.length, .int .i64 ((i : Nat) : Int), .bool true, .int .i64 ((i : Nat) : Int), .pointer (some ⟨b, off + i * 13, none⟩), GV (gp x.1), u18, u19, u20, u21, u22, u23, u24, u25, u26, u27, u28, u29]) (fun L => [((L0.b 0), JC y), ((L0.b 1), JC ⟨0, 0, 0⟩), (L.b 3, GC (gp x.1))]) hp3 ⟨
        oM, oIS (c := c) i Tryd.underlying41 rG.size hi, oLW rG (fun L w hs => ⟨_, _, rfl, rangeG (hGG i x hx) hs.bel⟩), oZ rG, oA, oT rG,
        trivial⟩ (fun L3 w4 hp4 => ?_)
      refine k9 _ _ ?_
      refine wp_seq_k (fun K10 k10 => ?_)
      refine gs [.det (.slice (some ⟨b0, off0, none⟩) l.length c0), .det (.int .i64 ((i : Nat) : Int)), .det (.pointer (some ⟨b0, off0 + i * 4, none⟩)), .det (RV x.2), .det (.int .i64 ((j : Nat) : Int)), .det (.int .u64 0), .det (.bool false)] [0, 1, 2, 3, 4, 5, 6] [0, 0, 3, 7, 0, 31, 63] (fun L => [JV a, .slice (some ⟨b, off, none⟩) l.length c, .slice (some ⟨b0, off0, none⟩) l.length c0, .int .i64 ((j : Nat) : Int), pt (L0.b 0) 0, u5, u6, u7, pt (L0.b 1) 0, .int .i64 ((i : Nat) : Int), pt (L3.b 3) 0, .slice (some ⟨b, off, none⟩) l.length c, .int .i64 l.length, .int .i64 ((i : Nat) : Int), .bool true, .int .i64 ((i : Nat) : Int), .pointer (some ⟨b, off + i * 13, none⟩), GV (gp x.1), .slice (some ⟨b0, off0, none⟩) l.length c0, .int .i64 ((i : Nat) : Int), .pointer (some ⟨b0, off0 + i * 4, none⟩), RV x.2, .int .i64 ((j : Nat) : Int), .int .u64 0, .bool false, u25, u26, u27, u28, u29]) (fun L => [((L0.b 0), JC y), ((L0.b 1), JC ⟨0, 0, 0⟩), ((L3.b 3), GC (gp x.1))]) hp4 ⟨
        oM, oM, oIS (c := c0) i Tryd.underlying40 rR.size hi, oLW rR (fun L w hs => ⟨_, _, rfl, rangeR (hRR i x hx) hs.bel⟩), oM, oH (v := .int .u64 0) (vs := #[RV x.2, .int .i64 ((j : Nat) : Int)]) (fun w hb _ => g1bitAt K x.2 j w (K.stay hg hb) hxk hj hb0),
        oJ .u64 .u64 0 1 (h := fun w => (eqlI _ _ _ _ w).trans rfl),
        trivial⟩ (fun L4 w5 hp5 => ?_)
      refine k10 _ _ ?_
      refine wp_cond_false (by kernel_rfl) ?_
      refine skips ?_
      refine k8 _ _ _ ?_
      refine block_normal ?_
      refine k7 _ _ ?_
      refine gs [.det (.int .i64 ((i + 1 : Nat) : Int)), .det (.int .i64 ((i + 1 : Nat) : Int))] [0, 1] [0, 1] (fun L => [JV a, .slice (some ⟨b, off, none⟩) l.length c, .slice (some ⟨b0, off0, none⟩) l.length c0, .int .i64 ((j : Nat) : Int), pt (L0.b 0) 0, u5, u6, u7, pt (L0.b 1) 0, .int .i64 ((i : Nat) : Int), pt (L3.b 3) 0, .slice (some ⟨b, off, none⟩) l.length c, .int .i64 l.length, .int .i64 ((i + 1 : Nat) : Int), .bool true, .int .i64 ((i : Nat) : Int), .pointer (some ⟨b, off + i * 13, none⟩), GV (gp x.1), .slice (some ⟨b0, off0, none⟩) l.length c0, .int .i64 ((i : Nat) : Int), .pointer (some ⟨b0, off0 + i * 4, none⟩), RV x.2, .int .i64 ((j : Nat) : Int), .int .u64 0, .bool false, u25, u26, u27, .int .i64 ((i + 1 : Nat) : Int), u29]) (fun L => [((L0.b 0), JC y), ((L0.b 1), JC ⟨0, 0, 0⟩), ((L3.b 3), GC (gp x.1))]) hp5 ⟨
        oJ .i64 .i64 ((i : Nat) : Int) 1 (h := fun w => add1N _ i (by omega) w), oM,
        trivial⟩ (fun L5 w6 hp6 => ?_)
      exact ⟨L - 1, by omega, i + 1, y, u5, u6, u7, .int .i64 ((i : Nat) : Int), pt (L3.b 3) 0, .bool true, .int .i64 ((i : Nat) : Int), .pointer (some ⟨b, off + i * 13, none⟩), GV (gp x.1), .slice (some ⟨b0, off0, none⟩) l.length c0, .int .i64 ((i : Nat) : Int), .pointer (some ⟨b0, off0 + i * 4, none⟩), RV x.2, .int .i64 ((j : Nat) : Int), .int .u64 0, .bool false, u25, u26, u27, .int .i64 ((i + 1 : Nat) : Int), u29, rfl, by omega, bits_no hy hb0, Heap.sub hp6 (List.sublist_append_left [_, _] [_])⟩
    · skip
      refine wp_seq_k (fun K11 k11 => ?_)
      refine gs [.det (.bool true)] [0] [0] (fun L => [JV a, .slice (some ⟨b, off, none⟩) l.length c, .slice (some ⟨b0, off0, none⟩) l.length c0, .int .i64 ((j : Nat) : Int), pt (L0.b 0) 0, u5, u6, u7, pt (L0.b 1) 0, u9, u10, .slice (some ⟨b, off, none⟩) l.length c, .int .i64 l.length, .int .i64 ((i : Nat) : Int), .bool true, u15, u16, u17, u18, u19, u20, u21, u22, u23, u24, u25, u26, u27, u28, u29]) (fun L => [((L0.b 0), JC y), ((L0.b 1), JC ⟨0, 0, 0⟩)]) hJ ⟨
        oJ .i64 .i64 ((i : Nat) : Int) l.length (h := fun w => (lssI _ _ _ w).trans (by rw [decide_eq_true (by omega)])),
        trivial⟩ (fun L6 w7 hp7 => ?_)
      refine k11 _ _ ?_
      refine wp_seq_k (fun K12 k12 => ?_)
      refine wp_cond_true (by kernel_rfl) ?_
      refine skips ?_
      refine k12 _ _ ?_
      refine wp_seq_k (fun K13 k13 => ?_)
      refine wp_block_k (fun K14 k14 => ?_)
      refine wp_seq_k (fun K15 k15 => ?_)
      refine gs [.det (.int .i64 ((i : Nat) : Int)), .det (.pointer (some ⟨b, off + i * 13, none⟩)), .det (GV (gp x.1)), .alloc (GC ⟨0, 0, false⟩), .det (.int .i64 ((i : Nat) : Int)), .store (.new 3) 0 (GC (gp x.1)) (GC (gp x.1))] [0, 1, 2, 3, 4, 5] [0, 0, 2, 0, 15, 31] (fun L => [JV a, .slice (some ⟨b, off, none⟩) l.length c, .slice (some ⟨b0, off0, none⟩) l.length c0, .int .i64 ((j : Nat) : Int), pt (L0.b 0) 0, u5, u6, u7, pt (L0.b 1) 0, .int .i64 ((i : Nat) : Int), pt (L.b 3) 0, .slice (some ⟨b, off, none⟩) l.length c, .int .i64 l.length, .int .i64 ((i : Nat) : Int), .bool true, .int .i64 ((i : Nat) : Int), .pointer (some ⟨b, off + i * 13, none⟩), GV (gp x.1), u18, u19, u20, u21, u22, u23, u24, u25, u26, u27, u28, u29]) (fun L => [((L0.b 0), JC y), ((L0.b 1), JC ⟨0, 0, 0⟩), (L.b 3, GC (gp x.1))]) hp7 ⟨
        oM, oIS (c := c) i Tryd.underlying41 rG.size hi, oLW rG (fun L w hs => ⟨_, _, rfl, rangeG (hGG i x hx) hs.bel⟩), oZ rG, oA, oT rG,
        trivial⟩ (fun L7 w8 hp8 => ?_)
      refine k15 _ _ ?_
      refine wp_seq_k (fun K16 k16 => ?_)
      refine gs [.det (.slice (some ⟨b0, off0, none⟩) l.length c0), .det (.int .i64 ((i : Nat) : Int)), .det (.pointer (some ⟨b0, off0 + i * 4, none⟩)), .det (RV x.2), .det (.int .i64 ((j : Nat) : Int)), .det (.int .u64 1), .det (.bool true)] [0, 1, 2, 3, 4, 5, 6] [0, 0, 3, 7, 0, 31, 63] (fun L => [JV a, .slice (some ⟨b, off, none⟩) l.length c, .slice (some ⟨b0, off0, none⟩) l.length c0, .int .i64 ((j : Nat) : Int), pt (L0.b 0) 0, u5, u6, u7, pt (L0.b 1) 0, .int .i64 ((i : Nat) : Int), pt (L7.b 3) 0, .slice (some ⟨b, off, none⟩) l.length c, .int .i64 l.length, .int .i64 ((i : Nat) : Int), .bool true, .int .i64 ((i : Nat) : Int), .pointer (some ⟨b, off + i * 13, none⟩), GV (gp x.1), .slice (some ⟨b0, off0, none⟩) l.length c0, .int .i64 ((i : Nat) : Int), .pointer (some ⟨b0, off0 + i * 4, none⟩), RV x.2, .int .i64 ((j : Nat) : Int), .int .u64 1, .bool true, u25, u26, u27, u28, u29]) (fun L => [((L0.b 0), JC y), ((L0.b 1), JC ⟨0, 0, 0⟩), ((L7.b 3), GC (gp x.1))]) hp8 ⟨
        oM, oM, oIS (c := c0) i Tryd.underlying40 rR.size hi, oLW rR (fun L w hs => ⟨_, _, rfl, rangeR (hRR i x hx) hs.bel⟩), oM, oH (v := .int .u64 1) (vs := #[RV x.2, .int .i64 ((j : Nat) : Int)]) (fun w hb _ => g1bitAt K x.2 j w (K.stay hg hb) hxk hj hb1),
        oJ .u64 .u64 1 1 (h := fun w => (eqlI _ _ _ _ w).trans rfl),
        trivial⟩ (fun L8 w9 hp9 => ?_)
      refine k16 _ _ ?_
      refine wp_cond_true (by kernel_rfl) ?_
      refine gs [.det (JV y), .det (GV (gp x.1)), .det (JV (jplus y x.1)), .store (.base 0) 0 (JC (jplus y x.1)) (JC (jplus y x.1))] [0, 1, 2, 3] [0, 0, 3, 7] (fun L => [JV a, .slice (some ⟨b, off, none⟩) l.length c, .slice (some ⟨b0, off0, none⟩) l.length c0, .int .i64 ((j : Nat) : Int), pt (L0.b 0) 0, u5, u6, u7, pt (L0.b 1) 0, .int .i64 ((i : Nat) : Int), pt (L7.b 3) 0, .slice (some ⟨b, off, none⟩) l.length c, .int .i64 l.length, .int .i64 ((i : Nat) : Int), .bool true, .int .i64 ((i : Nat) : Int), .pointer (some ⟨b, off + i * 13, none⟩), GV (gp x.1), .slice (some ⟨b0, off0, none⟩) l.length c0, .int .i64 ((i : Nat) : Int), .pointer (some ⟨b0, off0 + i * 4, none⟩), RV x.2, .int .i64 ((j : Nat) : Int), .int .u64 1, .bool true, JV y, GV (gp x.1), JV (jplus y x.1), u28, u29]) (fun L => [((L0.b 0), JC (jplus y x.1)), ((L0.b 1), JC ⟨0, 0, 0⟩), ((L7.b 3), GC (gp x.1))]) hp9 ⟨
        oL 0 0 rJ, oL 2 0 rG, oC K.stay hg (g1plus K y x.1), oT rJ,
        trivial⟩ (fun L9 w10 hp10 => ?_)
      refine k14 _ _ _ ?_
      refine block_normal ?_
      refine k13 _ _ ?_
      refine gs [.det (.int .i64 ((i + 1 : Nat) : Int)), .det (.int .i64 ((i + 1 : Nat) : Int))] [0, 1] [0, 1] (fun L => [JV a, .slice (some ⟨b, off, none⟩) l.length c, .slice (some ⟨b0, off0, none⟩) l.length c0, .int .i64 ((j : Nat) : Int), pt (L0.b 0) 0, u5, u6, u7, pt (L0.b 1) 0, .int .i64 ((i : Nat) : Int), pt (L7.b 3) 0, .slice (some ⟨b, off, none⟩) l.length c, .int .i64 l.length, .int .i64 ((i + 1 : Nat) : Int), .bool true, .int .i64 ((i : Nat) : Int), .pointer (some ⟨b, off + i * 13, none⟩), GV (gp x.1), .slice (some ⟨b0, off0, none⟩) l.length c0, .int .i64 ((i : Nat) : Int), .pointer (some ⟨b0, off0 + i * 4, none⟩), RV x.2, .int .i64 ((j : Nat) : Int), .int .u64 1, .bool true, JV y, GV (gp x.1), JV (jplus y x.1), .int .i64 ((i + 1 : Nat) : Int), u29]) (fun L => [((L0.b 0), JC (jplus y x.1)), ((L0.b 1), JC ⟨0, 0, 0⟩), ((L7.b 3), GC (gp x.1))]) hp10 ⟨
        oJ .i64 .i64 ((i : Nat) : Int) 1 (h := fun w => add1N _ i (by omega) w), oM,
        trivial⟩ (fun L10 w11 hp11 => ?_)
      exact ⟨L - 1, by omega, i + 1, (jplus y x.1), u5, u6, u7, .int .i64 ((i : Nat) : Int), pt (L7.b 3) 0, .bool true, .int .i64 ((i : Nat) : Int), .pointer (some ⟨b, off + i * 13, none⟩), GV (gp x.1), .slice (some ⟨b0, off0, none⟩) l.length c0, .int .i64 ((i : Nat) : Int), .pointer (some ⟨b0, off0 + i * 4, none⟩), RV x.2, .int .i64 ((j : Nat) : Int), .int .u64 1, .bool true, JV y, GV (gp x.1), JV (jplus y x.1), .int .i64 ((i + 1 : Nat) : Int), u29, rfl, by omega, bits_yes hy hb1, Heap.sub hp11 (List.sublist_append_left [_, _] [_])⟩
  obtain rfl : i = l.length := by omega
  rw [List.drop_length] at hy
  refine wp_seq_k (fun K17 k17 => ?_)
  refine gs [.det (.bool false)] [0] [0] (fun L => [JV a, .slice p l.length c, .slice q l.length c0, .int .i64 ((j : Nat) : Int), pt (L0.b 0) 0, u5, u6, u7, pt (L0.b 1) 0, u9, u10, .slice p l.length c, .int .i64 l.length, .int .i64 ((l.length : Nat) : Int), .bool false, u15, u16, u17, u18, u19, u20, u21, u22, u23, u24, u25, u26, u27, u28, u29]) (fun L => [((L0.b 0), JC y), ((L0.b 1), JC ⟨0, 0, 0⟩)]) hJ ⟨
    oJ .i64 .i64 ((l.length : Nat) : Int) l.length (h := fun w => (lssI _ _ _ w).trans (by rw [decide_eq_false (by omega)])),
    trivial⟩ (fun L11 w12 hp12 => ?_)
  refine k17 _ _ ?_
  refine wp_seq_k (fun K18 k18 => ?_)
  refine wp_cond_false (by kernel_rfl) ?_
  refine wp_exit ?_
  refine then_exit ?_
  refine then_exit ?_
  refine k4 _ _ _ ?_
  refine exit_in ?_
  refine k2 _ _ ?_
  refine wp_seq_k (fun K19 k19 => ?_)
  refine gs [.det (JV y), .store (.base 1) 0 (JC y) (JC y)] [0, 1] [0, 1] (fun L => [JV a, .slice p l.length c, .slice q l.length c0, .int .i64 ((j : Nat) : Int), pt (L0.b 0) 0, u5, u6, u7, pt (L0.b 1) 0, u9, u10, .slice p l.length c, .int .i64 l.length, .int .i64 ((l.length : Nat) : Int), .bool false, u15, u16, u17, u18, u19, u20, u21, u22, u23, u24, u25, u26, u27, u28, JV y]) (fun L => [((L0.b 0), JC y), ((L0.b 1), JC y)]) hp12 ⟨
    oL 0 0 rJ, oT rJ,
    trivial⟩ (fun L12 w13 hp13 => ?_)
  refine k19 _ _ ?_
  refine wp_ret ?_
  refine bodyPost_ret (v := JV y) ?_ rfl ?_
  · exact rc rJ rfl (by kernel_rfl) (hp13.bound 1 rfl).2
  · exact ⟨congrArg (fun z => Ending.returned (JV z)) hy, hp13.bel⟩
/-- What the rounds of total keep. -/
def totI (p q : Option Addr) (l : List (Pt F × Nat)) (c c0 : Nat) (w : World) (b4 : Nat) : Act → World → Prop := fun a' w' => ∃ (L b5 : Nat) (y : Jc F) (u2 u3 u7 u8 u9 u10 u11 u12 u13 u14 u15 u16 u17 u18 : Value),
  a' = { tmps := #[.slice p l.length c, .slice q l.length c0, u2, u3, .pointer (some ⟨b4, 0, none⟩), .pointer (some ⟨b5, 0, none⟩), .int .i64 ((L : Nat) : Int), u7, u8, u9, u10, u11, u12, u13, u14, u15, u16, u17, u18], defers := [] } ∧ L ≤ 256 ∧ jall l L y = jall l 256 ⟨0, 0, 0⟩ ∧ Heap w.heap.size w w' [(b4, JC ⟨0, 0, 0⟩), (b5, JC y)]

set_option maxHeartbeats 4000000 in
theorem g1total {G : World → Prop} (K : FpK G) (p q : Option Addr) (l : List (Pt F × Nat)) (c c0 : Nat) (w : World) (hg : G w) (hl : l.length ≤ 1000) (hA : AtL w p q l) (hk : ∀ x ∈ l, x.2 < 2 ^ 256) : Calls Tryd.prog 54 #[.slice p l.length c, .slice q l.length c0] w (Ret (JV (jall l 256 ⟨0, 0, 0⟩)) w) := by
  have hp0 := Heap.start w
  go_enter Tryd.func54, Tryd.ntmps54
  refine wp_seq_k (fun K0 k0 => ?_)
  refine gs [.alloc (JC ⟨0, 0, 0⟩)] [0] [0] (fun L => [.slice p l.length c, .slice q l.length c0, undef, undef, pt (L.b 0) 0] ++ U 14) (fun L => [(L.b 0, JC ⟨0, 0, 0⟩)]) hp0 ⟨
    oZ rJ,
    trivial⟩ (fun L0 w1 hp1 => ?_)
  refine k0 _ _ ?_
  refine wp_scope_goto 0 (totI p q l c c0 w (L0.b 0)) (fun a' _ => slot 6 a') rfl ?_ ?_
  · skip
    rintro a' W ⟨L, b5, y, u2, u3, u7, u8, u9, u10, u11, u12, u13, u14, u15, u16, u17, u18, rfl, hL, hy, hJ⟩
    by_cases hL0 : L = 0
    · skip
      subst hL0
      refine wp_seq_k (fun K1 k1 => ?_)
      refine wp_seq_k (fun K2 k2 => ?_)
      refine gs [.det (.int .i64 ((0 : Nat) : Int)), .det (.bool false)] [0, 1] [0, 1] (fun L => [.slice p l.length c, .slice q l.length c0, u2, u3, pt (L0.b 0) 0, pt b5 0, .int .i64 ((0 : Nat) : Int), u7, .int .i64 ((0 : Nat) : Int), .bool false, u10, u11, u12, u13, u14, u15, u16, u17, u18]) (fun L => [((L0.b 0), JC ⟨0, 0, 0⟩), (b5, JC y)]) hJ ⟨
        oM, oJ .i64 .i64 ((0 : Nat) : Int) 0 (h := fun w => (gtrI _ _ _ w).trans (by rw [decide_eq_false (by omega)])),
        trivial⟩ (fun L1 w2 hp2 => ?_)
      refine k2 _ _ ?_
      refine wp_cond_false (by kernel_rfl) ?_
      refine skips ?_
      refine k1 _ _ ?_
      refine wp_seq_k (fun K3 k3 => ?_)
      refine gs [.det (JV y), .store (.base 0) 0 (JC y) (JC y)] [0, 1] [0, 1] (fun L => [.slice p l.length c, .slice q l.length c0, u2, u3, pt (L0.b 0) 0, pt b5 0, .int .i64 ((0 : Nat) : Int), u7, .int .i64 ((0 : Nat) : Int), .bool false, u10, u11, u12, u13, u14, u15, u16, u17, JV y]) (fun L => [((L0.b 0), JC y), (b5, JC y)]) hp2 ⟨
        oL 1 0 rJ, oT rJ,
        trivial⟩ (fun L2 w3 hp3 => ?_)
      refine k3 _ _ ?_
      refine wp_ret ?_
      refine bodyPost_ret (v := JV y) ?_ rfl ?_
      · exact rc rJ rfl (by kernel_rfl) (hp3.bound 0 rfl).2
      · exact ⟨congrArg (fun z => Ending.returned (JV z)) hy, hp3.bel⟩
    · skip
      obtain ⟨m, rfl⟩ : ∃ m, L = m + 1 := ⟨L - 1, by omega⟩
      refine wp_seq_k (fun K4 k4 => ?_)
      refine wp_seq_k (fun K5 k5 => ?_)
      refine gs [.det (.int .i64 ((m + 1 : Nat) : Int)), .det (.bool true)] [0, 1] [0, 1] (fun L => [.slice p l.length c, .slice q l.length c0, u2, u3, pt (L0.b 0) 0, pt b5 0, .int .i64 ((m + 1 : Nat) : Int), u7, .int .i64 ((m + 1 : Nat) : Int), .bool true, u10, u11, u12, u13, u14, u15, u16, u17, u18]) (fun L => [((L0.b 0), JC ⟨0, 0, 0⟩), (b5, JC y)]) hJ ⟨
        oM, oJ .i64 .i64 ((m + 1 : Nat) : Int) 0 (h := fun w => (gtrI _ _ _ w).trans (by rw [decide_eq_true (by omega)])),
        trivial⟩ (fun L3 w4 hp4 => ?_)
      refine k5 _ _ ?_
      refine wp_cond_true (by kernel_rfl) ?_
      refine wp_seq_k (fun K6 k6 => ?_)
      refine gs [.det (.int .i64 ((m + 1 : Nat) : Int)), .det (.int .i64 ((m : Nat) : Int)), .det (.int .i64 ((m : Nat) : Int))] [0, 1, 2] [0, 1, 3] (fun L => [.slice p l.length c, .slice q l.length c0, u2, u3, pt (L0.b 0) 0, pt b5 0, .int .i64 ((m : Nat) : Int), u7, .int .i64 ((m + 1 : Nat) : Int), .bool true, .int .i64 ((m + 1 : Nat) : Int), .int .i64 ((m : Nat) : Int), u12, u13, u14, u15, u16, u17, u18]) (fun L => [((L0.b 0), JC ⟨0, 0, 0⟩), (b5, JC y)]) hp4 ⟨
        oM, oJ .i64 .i64 ((m + 1 : Nat) : Int) 1 (h := fun w => sub1 _ m (by omega) w), oA,
        trivial⟩ (fun L4 w5 hp5 => ?_)
      refine k6 _ _ ?_
      refine wp_seq_k (fun K7 k7 => ?_)
      refine gs [.det (JV y), .det (JV (jtwice y)), .det (.slice p l.length c), .det (.slice q l.length c0), .det (.int .i64 ((m : Nat) : Int)), .det (JV (jbits (jtwice y) m l)), .store (.base 1) 0 (JC (jbits (jtwice y) m l)) (JC (jbits (jtwice y) m l))] [0, 1, 2, 3, 4, 5, 6] [0, 1, 0, 0, 0, 31, 63] (fun L => [.slice p l.length c, .slice q l.length c0, u2, u3, pt (L0.b 0) 0, pt b5 0, .int .i64 ((m : Nat) : Int), u7, .int .i64 ((m + 1 : Nat) : Int), .bool true, .int .i64 ((m + 1 : Nat) : Int), .int .i64 ((m : Nat) : Int), JV y, JV (jtwice y), .slice p l.length c, .slice q l.length c0, .int .i64 ((m : Nat) : Int), JV (jbits (jtwice y) m l), u18]) (fun L => [((L0.b 0), JC ⟨0, 0, 0⟩), (b5, JC (jbits (jtwice y) m l))]) hp5 ⟨
        oL 1 0 rJ, oC K.stay hg (g1twice K y), oM, oM, oM, oH (v := JV (jbits (jtwice y) m l)) (vs := #[JV (jtwice y), .slice p l.length c, .slice q l.length c0, .int .i64 ((m : Nat) : Int)]) (fun w hb _ => g1withBits K (jtwice y) p q l c c0 m w (K.stay hg hb) hl (by omega) (hA.up hb) hk),
        oT rJ,
        trivial⟩ (fun L5 w6 hp6 => ?_)
      refine k7 _ _ ?_
      refine wp_goto ?_
      exact ⟨rfl, ⟨m, b5, jbits (jtwice y) m l, u2, u3, u7, .int .i64 ((m + 1 : Nat) : Int), .bool true, .int .i64 ((m + 1 : Nat) : Int), .int .i64 ((m : Nat) : Int), JV y, JV (jtwice y), .slice p l.length c, .slice q l.length c0, .int .i64 ((m : Nat) : Int), JV (jbits (jtwice y) m l), u18, rfl, by omega, hy, hp6⟩, by simp [slot, intOf]⟩
  · skip
    intro hr
    refine wp_seq_k (fun K8 k8 => ?_)
    refine gs [.det (JV ⟨0, 0, 0⟩), .alloc (JC ⟨0, 0, 0⟩), .store (.new 1) 0 (JC ⟨0, 0, 0⟩) (JC ⟨0, 0, 0⟩)] [0, 1, 2] [0, 0, 3] (fun L => [.slice p l.length c, .slice q l.length c0, undef, undef, pt (L0.b 0) 0, pt (L.b 1) 0, undef, JV ⟨0, 0, 0⟩] ++ U 11) (fun L => [((L0.b 0), JC ⟨0, 0, 0⟩), (L.b 1, JC ⟨0, 0, 0⟩)]) hp1 ⟨
      oD buildJn, oZ rJ, oT rJ,
      trivial⟩ (fun L6 w7 hp7 => ?_)
    refine k8 _ _ ?_
    refine wp_seq_k (fun K9 k9 => ?_)
    refine gs [.det (.int .i64 256)] [0] [0] (fun L => [.slice p l.length c, .slice q l.length c0, undef, undef, pt (L0.b 0) 0, pt (L6.b 1) 0, .int .i64 256, JV ⟨0, 0, 0⟩] ++ U 11) (fun L => [((L0.b 0), JC ⟨0, 0, 0⟩), ((L6.b 1), JC ⟨0, 0, 0⟩)]) hp7 ⟨
      oA,
      trivial⟩ (fun L7 w8 hp8 => ?_)
    refine k9 _ _ ?_
    refine wp_seq_k (fun K10 k10 => ?_)
    refine wp_label ?_
    exact k10 _ _ (hr _ _ ⟨256, (L6.b 1), ⟨0, 0, 0⟩, undef, undef, JV ⟨0, 0, 0⟩, undef, undef, undef, undef, undef, undef, undef, undef, undef, undef, undef, rfl, Nat.le_refl _, rfl, hp8⟩)
theorem totalOne {G : World → Prop} (K : FpK G) (P : Pt F) (k : Nat) (u v : Value) (w : World) (hg : G w) (hk : k < 2 ^ 256) (hu : isRow1 (GC (gp P)) u w) (hv : isRow1 (RC k) v w) : Calls Tryd.prog 54 #[u, v] w (Ret (JV (jall [(P, k)] 256 ⟨0, 0, 0⟩)) w) := by
  obtain ⟨b, rfl, hb⟩ := hu
  obtain ⟨d, rfl, hd⟩ := hv
  refine g1total K (some ⟨b, 0, none⟩) (some ⟨d, 0, none⟩) [(P, k)] 1 1 w hg (by show (1 : Nat) ≤ 1000; decide) (fun _ => ⟨⟨b, 0, rfl, fun j x hx => ?_⟩, d, 0, rfl, fun j x hx => ?_⟩) (fun x hx => ?_)
  · cases j with
    | zero => obtain rfl : (P, k) = x := by simpa using hx
              simpa using hb
    | succ j => simp at hx
  · cases j with
    | zero => obtain rfl : (P, k) = x := by simpa using hx
              simpa using hd
    | succ j => simp at hx
  · obtain rfl : x = (P, k) := by simpa using hx
    exact hk
/-- k times P, by three numbers. -/
def jmul (P : Pt F) (k : Nat) : Jc F := jall [(P, k)] 256 ⟨0, 0, 0⟩
theorem jmul_rep {P : Pt F} (hP : On (4 : F) P) {k : Nat} (hk : k < 2 ^ 256) : JRep (mul finv k P) (jmul P k) := by
  have h := jall_sum (iv := finv) crv1 [(P, k)] (fun x hx => by rw [List.mem_singleton.1 hx]; exact hP) 256 (fun x hx => by rw [List.mem_singleton.1 hx]; exact hk)
  rw [psum_one] at h
  exact h
set_option maxHeartbeats 4000000 in
theorem g1times {G : World → Prop} (K : FpK G) (P : Pt F) (k : Nat) (w : World) (hg : G w) (hk : k < 2 ^ 256) : Calls Tryd.prog 40 #[GV (gp P), RV k] w (Ret (JV (jmul P k)) w) := by
  have hp0 := Heap.start w
  go_enter Tryd.func40, Tryd.ntmps40
  refine wp_seq_k (fun K1 k1 => ?_)
  refine gs [.alloc (GC (gp P)), .alloc (RC k), .alloc (JC ⟨0, 0, 0⟩)] [0, 1, 2] [0, 0, 0] (fun L => [GV (gp P), RV k, pt (L.b 0) 0, pt (L.b 1) 0, pt (L.b 2) 0] ++ U 5) (fun L => [(L.b 0, GC (gp P)), (L.b 1, RC k), (L.b 2, JC ⟨0, 0, 0⟩)]) hp0 ⟨
    oB, oB, oZ rJ,
    trivial⟩ (fun L0 w1 hp1 => ?_)
  refine k1 _ _ ?_
  refine wp_seq_k (fun K2 k2 => ?_)
  refine gs [.det (GV (gp P)), .any (isRow1 (GC (gp P))), .det (RV k), .any (isRow1 (RC k)), .det (JV (jmul P k)), .store (.base 2) 0 (JC (jmul P k)) (JC (jmul P k))] [0, 1, 2, 3, 4, 5] [0, 1, 0, 4, 15, 31] (fun L => [GV (gp P), RV k, pt (L0.b 0) 0, pt (L0.b 1) 0, pt (L0.b 2) 0, GV (gp P), L.v 1, RV k, L.v 3, JV (jmul P k)]) (fun L => [((L0.b 0), GC (gp P)), ((L0.b 1), RC k), ((L0.b 2), JC (jmul P k))]) hp1 ⟨
    oL 0 0 rG, oS2 Tryd.underlying41 rG, oL 1 0 rR, oS2 Tryd.underlying40 rR, oCS (fun L => #[L.v 1, L.v 3]) (fun L w hs => totalOne K P k _ _ w (K.stay hg hs.bel) hk (hs.any 1 _ rfl rfl) (hs.any 3 _ rfl rfl)),
    oT rJ,
    trivial⟩ (fun L1 w2 hp2 => ?_)
  refine k2 _ _ ?_
  refine wp_ret ?_
  refine bodyPost_ret (v := JV (jmul P k)) ?_ rfl ?_
  · exact rc rJ rfl (by kernel_rfl) (hp2.bound 2 rfl).2
  · exact ⟨rfl, hp2.bel⟩
set_option maxHeartbeats 4000000 in
theorem g1MulJ {G : World → Prop} (K : FpK G) (P : Pt F) (k : Nat) (w : World) (hg : G w) (hk : k < 2 ^ 256) : Calls Tryd.prog 16 #[GV (gp P), RV k] w (Ret (GV (gp (jdrop finv (jmul P k)))) w) := by
  have hp0 := Heap.start w
  go_enter Tryd.func16, Tryd.ntmps16
  refine wp_seq_k (fun K1 k1 => ?_)
  refine gs [.alloc (GC (gp P)), .alloc (RC k), .alloc (GC ⟨0, 0, false⟩)] [0, 1, 2] [0, 0, 0] (fun L => [GV (gp P), RV k, pt (L.b 0) 0, pt (L.b 1) 0, pt (L.b 2) 0] ++ U 4) (fun L => [(L.b 0, GC (gp P)), (L.b 1, RC k), (L.b 2, GC ⟨0, 0, false⟩)]) hp0 ⟨
    oB, oB, oZ rG,
    trivial⟩ (fun L0 w1 hp1 => ?_)
  refine k1 _ _ ?_
  refine wp_seq_k (fun K2 k2 => ?_)
  refine gs [.det (GV (gp P)), .det (RV k), .det (JV (jmul P k)), .det (GV (gp (jdrop finv (jmul P k)))), .store (.base 2) 0 (GC (gp (jdrop finv (jmul P k)))) (GC (gp (jdrop finv (jmul P k))))] [0, 1, 2, 3, 4] [0, 0, 3, 7, 15] (fun L => [GV (gp P), RV k, pt (L0.b 0) 0, pt (L0.b 1) 0, pt (L0.b 2) 0, GV (gp P), RV k, JV (jmul P k), GV (gp (jdrop finv (jmul P k)))]) (fun L => [((L0.b 0), GC (gp P)), ((L0.b 1), RC k), ((L0.b 2), GC (gp (jdrop finv (jmul P k))))]) hp1 ⟨
    oL 0 0 rG, oL 1 0 rR, oH (v := JV (jmul P k)) (vs := #[GV (gp P), RV k]) (fun w hb _ => g1times K P k w (K.stay hg hb) hk), oC K.stay hg (g1drop K (jmul P k)),
    oT rG,
    trivial⟩ (fun L1 w2 hp2 => ?_)
  refine k2 _ _ ?_
  refine wp_ret ?_
  refine bodyPost_ret (v := GV (gp (jdrop finv (jmul P k)))) ?_ rfl ?_
  · exact rc rG rfl (by kernel_rfl) (hp2.bound 2 rfl).2
  · exact ⟨rfl, hp2.bel⟩
theorem g1Mul {G : World → Prop} (K : FpK G) (P : Pt F) (k : Nat) (w : World) (hg : G w) (hP : On (4 : F) P) (hk : k < 2 ^ 256) : Calls Tryd.prog 16 #[GV (gp P), RV k] w (Ret (GV (gp (mul finv k P))) w) := by
  have h := g1MulJ K P k w hg hk
  rw [JRep.drop crv1 (jmul_rep hP hk)] at h
  exact h
end Go.Proofs.YtoehglidlakahaaDoor.fpn

/- Package g1 and the reference: On, In, multiples; scalars. -/
namespace Go.Proofs.YtoehglidlakahaaDoor.Pl
open Go Go.RowKit
set_option linter.unusedSimpArgs false
set_option linter.unusedVariables false

section
variable {P : Program} {ops : Array Oper} {ks : List Kind} {T : List Nat} {a0 : Act} {B : Nat} {w0 W0 : World} {H : List (Nat × List Value)} {i : Nat} {o : Oper}
def arrP : Value → Value
  | .slice a _ _ => .pointer a
  | _ => undef
/-- A slice of four cells. -/
def isFour (cs : List Value) (v : Value) (w : World) : Prop := ∃ b off c, v = .slice (some ⟨b, off, none⟩) 4 c ∧ w.rangeAt b off cs
/-- A slice made an array's pointer. -/
theorem oAP {t e : TypeId} {x : Operand} {cs : List Value} (j : Nat) (hu : P.underlying t = some (.array 4 e)) (he : early T ks i = true := by kernel_rfl) (hw : ∀ L, wantedR ks L o = true := by intro _; kernel_rfl) (ho : o.op = .sliceToArrayPointer t x := by exact rfl)
    (hx : ∀ L, rd ops ks T a0 L i x = L.v j := by intro _; kernel_rfl) (hj : kd ks j = .any (isFour cs) := by exact rfl) (hb : bef T i j = true := by kernel_rfl) (hk : kd ks i = .detV j arrP) : Obl P ops ks T a0 B w0 H i o := ⟨fun L w hs => by
  rw [if_pos (hw L), hk]
  obtain ⟨b, off, c, e1, hc⟩ := (hs he).any j _ hj hb
  have : (execOp (rd ops ks T a0 L i) o).run P w = .ok (.value (.pointer (some ⟨b, off, none⟩))) w := by
    unfold execOp
    simp [ho, hx L, e1, Instr.arrayAt, Sem.run_bind, run_underlying hu]
  rw [this]
  exact ⟨by unfold val; rw [hk]; show _ = arrP (L.v j); rw [e1]; rfl, Below.refl _ _⟩⟩
/-- A load by such a pointer. -/
theorem oLP {t : TypeId} {x : Operand} {cs Z : List Value} {n : Nat} (j : Nat) (hR : RowT P t n Z) (he : early T ks i = true := by kernel_rfl) (hw : ∀ L, wantedR ks L o = true := by intro _; kernel_rfl) (ho : o.op = .load t x := by exact rfl)
    (hx : ∀ L, rd ops ks T a0 L i x = arrP (L.v j) := by intro _; kernel_rfl) (hj : kd ks j = .any (isFour cs) := by exact rfl) (hb : bef T i j = true := by kernel_rfl) (hl : cs.length = n := by kernel_rfl) (hk : kd ks i = .det (.agg cs.toArray)) : Obl P ops ks T a0 B w0 H i o :=
  oLW hR (fun L w hs => by
    obtain ⟨b, off, c, e, h⟩ := hs.any j _ hj hb
    exact ⟨b, off, by rw [hx L, e]; rfl, h⟩) he hw ho hl hk
end
end Go.Proofs.YtoehglidlakahaaDoor.Pl
namespace Go.Proofs.YtoehglidlakahaaDoor
open Go.RowKit
set_option linter.unusedVariables false
theorem frR_at (w : World) : Calls Tryd.prog 57 #[] w fun e w' => ∃ k : Nat, e = .returned (.slice (some ⟨k, 0, none⟩) 4 4) ∧ At w' (some ⟨k, 0, none⟩) 4 rL ∧ Below w.heap.size w w' := by
  go_enter Tryd.func57, Tryd.ntmps57
  go_wp2
  go_ret
  exact ⟨_, rfl, (mut_four w rL _).at, below_one _ _⟩
end Go.Proofs.YtoehglidlakahaaDoor
namespace Go.Proofs.YtoehglidlakahaaDoor.fpn
open Go.RowKit Pl EC
set_option linter.unusedVariables false
set_option linter.unusedSimpArgs false
set_option maxRecDepth 4000

theorem ordR_256 : ordR < 2 ^ 256 := by decide +kernel
theorem ordR_pos : 0 < ordR := by decide +kernel
theorem RI_ordR : (Go.Proofs.YtoehglidlakahaaDoor.RI : Int) = (ordR : Int) := by kernel_rfl
theorem lbR {n : Nat} (hn : n < 2 ^ 256) : val (lb n) 4 = (n : Int) := by
  rw [lb_val, Nat.mod_eq_of_lt hn]
theorem rL_lb : ∀ j, j < 4 → Go.Proofs.YtoehglidlakahaaDoor.rL j = lb ordR j := fun j hj => by
  rcases (show j = 0 ∨ j = 1 ∨ j = 2 ∨ j = 3 by omega) with rfl | rfl | rfl | rfl <;> kernel_rfl
theorem RC_at {n j : Nat} {v : Value} (h : (RC n)[j]? = some v) : j < 4 ∧ v = .int .u64 (lb n j) := by
  match j, h with
  | 0, h => exact ⟨by decide, (Option.some.inj h).symm⟩
  | 1, h => exact ⟨by decide, (Option.some.inj h).symm⟩
  | 2, h => exact ⟨by decide, (Option.some.inj h).symm⟩
  | 3, h => exact ⟨by decide, (Option.some.inj h).symm⟩
theorem RC_get (n : Nat) {j : Nat} (h : j < 4) : (RC n)[j]? = some (.int .u64 (lb n j)) := by
  rcases (show j = 0 ∨ j = 1 ∨ j = 2 ∨ j = 3 by omega) with rfl | rfl | rfl | rfl <;> rfl
theorem range_of_at {w : World} {b off n : Nat} {f : Nat → Int} (h : At w (some ⟨b, off, none⟩) 4 f) (e : ∀ j, j < 4 → f j = lb n j) : w.rangeAt b off (RC n) := fun j v hv => by
  obtain ⟨b', off', e', hc⟩ := h (by decide)
  obtain ⟨rfl, rfl⟩ : b = b' ∧ off = off' := by simpa using e'
  obtain ⟨hj, rfl⟩ := RC_at hv
  rw [hc j hj, e j hj]
theorem atR' {w : World} {b off n : Nat} (h : w.rangeAt b off (RC n)) : At w (some ⟨b, off, none⟩) 4 (lb n) := fun _ => ⟨b, off, rfl, fun j hj => h j _ (RC_get n hj)⟩
theorem atR {w : World} {b n : Nat} (h : Box w b (RC n)) : At w (some ⟨b, 0, none⟩) 4 (lb n) := atR' h.cells
theorem isFour_stay {n : Nat} : ∀ (v : Value) (w x : World), isFour (RC n) v w → Below w.heap.size w x → isFour (RC n) v x := fun v w x ⟨b, off, c, e, h⟩ hb => ⟨b, off, c, e, rangeR h hb⟩
theorem frR_new (w : World) : Calls Tryd.prog 57 #[] w fun e w' => ∃ v, e = .returned v ∧ isFour (RC ordR) v w' ∧ Below w.heap.size w w' :=
  Calls.mono (Go.Proofs.YtoehglidlakahaaDoor.frR_at w) fun e w' ⟨k, h1, h2, h3⟩ => ⟨_, h1, ⟨k, 0, 4, rfl, range_of_at h2 rL_lb⟩, h3⟩
theorem refR_new (w : World) : Calls Tryd.prog 31 #[] w fun e w' => ∃ v, e = .returned v ∧ isFour (RC ordR) v w' ∧ Below w.heap.size w w' :=
  Calls.mono (Go.Proofs.YtoehglidlakahaaDoor.refR_any w) fun e w' ⟨h1, h2, h3, h4⟩ => ⟨_, h1, ⟨_, 0, 4, rfl, range_of_at h4.at rL_lb⟩, h2⟩
theorem QC_of' {f : Nat → Int} {x : F} (h : frv f = FV x) : QC f = FC x := by
  have : (QC f).toArray = (FC x).toArray := by injection h
  simpa using this
theorem mayR {n : Nat} (hn : n < 2 ^ 256) (w : World) : Calls Tryd.prog 10 #[RV n] w (Ret (.bool (decide (n < ordR))) w) := by
  have h := Go.Proofs.YtoehglidlakahaaDoor.mayR_any (lb n) w (lb_rg _ _)
  rw [lbR hn, RI_ordR, decide_eq_decide.2 (show ((n : Int) < (ordR : Int)) ↔ n < ordR from Int.ofNat_lt)] at h
  exact h
theorem RV_of {h : Nat → Int} {n : Nat} (rh : Rg h 4) (hn : n < 2 ^ 256) (e : val h 4 = (n : Int)) : Go.Proofs.YtoehglidlakahaaDoor.frv h = RV n := by
  have d := digits rh (lb_rg n 4) (by rw [e, lbR hn])
  unfold Go.Proofs.YtoehglidlakahaaDoor.frv RV RC
  rw [d 0 (by decide), d 1 (by decide), d 2 (by decide), d 3 (by decide)]
theorem retR {f : FuncId} {args : Array Value} {w : World} {X : Int} {n : Nat} (hn : n < 2 ^ 256)
    (h : Calls Tryd.prog f args w fun e w' => ∃ v, e = .returned v ∧ Go.Proofs.YtoehglidlakahaaDoor.IsFr v X ∧ Below w.heap.size w w') (hX : X = (n : Int)) : Calls Tryd.prog f args w (Ret (RV n) w) :=
  Calls.mono h fun e w' ⟨v, he, ⟨h, hv, rh, vh⟩, hb⟩ => ⟨he.trans (congrArg _ (hv.trans (RV_of rh hn (vh.trans hX)))), hb⟩
theorem modR (n : Nat) : n % ordR < 2 ^ 256 := Nat.lt_trans (Nat.mod_lt _ ordR_pos) ordR_256
theorem addR {m n : Nat} (hm : m < ordR) (hn : n < ordR) (w : World) : Calls Tryd.prog 22 #[RV m, RV n] w (Ret (RV ((m + n) % ordR)) w) := by
  have hm' := Nat.lt_trans hm ordR_256
  have hn' := Nat.lt_trans hn ordR_256
  refine retR (modR _) (Go.Proofs.YtoehglidlakahaaDoor.addR_any (lb m) (lb n) w (lb_rg _ _) (lb_rg _ _) (by rw [lbR hm', RI_ordR]; exact Int.ofNat_lt.2 hm) (by rw [lbR hn', RI_ordR]; exact Int.ofNat_lt.2 hn)) ?_
  rw [lbR hm', lbR hn', RI_ordR]; simp
theorem mulR {m n : Nat} (hm : m < ordR) (hn : n < ordR) (w : World) : Calls Tryd.prog 23 #[RV m, RV n] w (Ret (RV ((m * n) % ordR)) w) := by
  have hm' := Nat.lt_trans hm ordR_256
  have hn' := Nat.lt_trans hn ordR_256
  refine retR (modR _) (Go.Proofs.YtoehglidlakahaaDoor.mulR_any (lb m) (lb n) w (lb_rg _ _) (lb_rg _ _) (by rw [lbR hn', RI_ordR]; exact Int.ofNat_lt.2 hn)) ?_
  rw [lbR hm', lbR hn', RI_ordR]; simp
theorem negR1 (w : World) : Calls Tryd.prog 29 #[RV 1] w (Ret (RV (ordR - 1)) w) := by
  refine retR (Nat.lt_of_le_of_lt (Nat.sub_le _ _) ordR_256) (Go.Proofs.YtoehglidlakahaaDoor.negR_any (lb 1) w (lb_rg _ _) (by rw [lbR (by decide), RI_ordR]; decide +kernel)) ?_
  rw [lbR (by decide), RI_ordR]; decide +kernel
theorem fpMayF {G : World → Prop} (K : FpK G) (a : F) (w : World) (hg : G w) : Calls Tryd.prog 42 #[FV a] w (Ret (.bool true) w) := by
  have h := K.may (lb a.val) w hg (lb_rg _ _)
  rw [decide_eq_true (lt_RI a)] at h
  exact h
theorem refMayF (R : RefK) (a : F) (w : World) : Calls Tryd.prog 47 #[FV a] w (Ret (.bool true) w) := by
  have h := R.may (lb a.val) w trivial (lb_rg _ _)
  rw [decide_eq_true (lt_RI a)] at h
  exact h
set_option maxHeartbeats 4000000 in
theorem g1OnA {G : World → Prop} (K : FpK G) (x y : F) (w : World) (hg : G w) : Calls Tryd.prog 19 #[GV ⟨x, y, false⟩] w (Ret (.bool (decide (y * y = x * x * x + 4))) w) := by
  have hp0 := Heap.start w
  go_enter Tryd.func19, Tryd.ntmps19
  refine wp_seq_k (fun K1 k1 => ?_)
  refine gs [.alloc (GC ⟨x, y, false⟩), .det (.bool false)] [0, 1] [0, 0] (fun L => [GV ⟨x, y, false⟩, pt (L.b 0) 0, .bool false] ++ U 27) (fun L => [(L.b 0, GC ⟨x, y, false⟩)]) hp0 ⟨
    oB, oA,
    trivial⟩ (fun L0 w1 hp1 => ?_)
  refine k1 _ _ ?_
  refine wp_seq_k (fun K2 k2 => ?_)
  refine wp_seq_k (fun K3 k3 => ?_)
  refine gs [.det (pt (L0.b 0) 12), .det (.bool false)] [0, 1] [0, 1] (fun L => [GV ⟨x, y, false⟩, pt (L0.b 0) 0, .bool false, pt (L0.b 0) 12, .bool false] ++ U 25) (fun L => [((L0.b 0), GC ⟨x, y, false⟩)]) hp1 ⟨
    oF fG2, oL1 0 12 oneB,
    trivial⟩ (fun L1 w2 hp2 => ?_)
  refine k3 _ _ ?_
  refine wp_cond_false (by kernel_rfl) ?_
  refine skips ?_
  refine k2 _ _ ?_
  refine wp_seq_k (fun K4 k4 => ?_)
  refine wp_seq_k (fun K5 k5 => ?_)
  refine gs [.det (pt (L0.b 0) 0), .det (FV x), .det (.bool true), .det (.bool false), .det (.bool false), .det (pt (L0.b 0) 6), .det (FV y), .det (.bool true), .det (.bool false), .det (.bool false)] [0, 1, 2, 3, 4, 5, 6, 7, 8, 9] [0, 1, 3, 7, 15, 31, 63, 127, 255, 511] (fun L => [GV ⟨x, y, false⟩, pt (L0.b 0) 0, .bool false, pt (L0.b 0) 12, .bool false, undef, undef, undef, pt (L0.b 0) 0, FV x, .bool true, .bool false, .bool false, pt (L0.b 0) 6, FV y, .bool true, .bool false, .bool false] ++ U 12) (fun L => [((L0.b 0), GC ⟨x, y, false⟩)]) hp2 ⟨
    oF fG0, oL 0 0 rF, oC K.stay hg (fpMayF K x), oN, oM, oF fG1, oL 0 6 rF, oC K.stay hg (fpMayF K y), oN, oP,
    trivial⟩ (fun L2 w3 hp3 => ?_)
  refine k5 _ _ ?_
  refine wp_cond_false (by kernel_rfl) ?_
  refine skips ?_
  refine k4 _ _ ?_
  refine wp_seq_k (fun K6 k6 => ?_)
  refine dr [.det (pt (L0.b 0) 6), .det (FV y), .det (FV (y * y)), .det (pt (L0.b 0) 0), .det (FV x), .det (FV (x * x)), .det (pt (L0.b 0) 0), .det (FV x), .det (FV ((x * x) * x)), .det (FV 4), .det (FV (((x * x) * x) + 4)), .det (.bool (decide ((y * y) = (((x * x) * x) + 4)))), .det (.bool (decide ((y * y) = (((x * x) * x) + 4))))] [0, 1, 2, 3, 4, 5, 6, 7, 8, 9, 10, 11, 12] [0, 1, 3, 0, 8, 31, 0, 64, 255, 511, 1023, 2047, 4095] (fun L => [GV ⟨x, y, false⟩, pt (L0.b 0) 0, .bool (decide ((y * y) = (((x * x) * x) + 4))), pt (L0.b 0) 12, .bool false, undef, undef, undef, pt (L0.b 0) 0, FV x, .bool true, .bool false, .bool false, pt (L0.b 0) 6, FV y, .bool true, .bool false, .bool false, pt (L0.b 0) 6, FV y, FV (y * y), pt (L0.b 0) 0, FV x, FV (x * x), pt (L0.b 0) 0, FV x, FV ((x * x) * x), FV 4, FV (((x * x) * x) + 4), .bool (decide ((y * y) = (((x * x) * x) + 4)))]) (fun L => [((L0.b 0), GC ⟨x, y, false⟩)]) hp3 ⟨
    oF fG1, oL 0 6 rF, oC K.stay hg (g1square K y), oF fG0, oL 0 0 rF, oC K.stay hg (g1square K x), oF fG0, oL 0 0 rF, oC K.stay hg (K.mul (x * x) x), oC K.stay hg K.of4,
    oC K.stay hg (K.add ((x * x) * x) 4), oE (a := (y * y)) (b := (((x * x) * x) + 4)) qF rfl, oA,
    trivial⟩ (fun L3 w4 hp4 => ?_)
  refine k6 _ _ ?_
  refine wp_ret ?_
  refine bodyPost_ret (v := .bool (decide ((y * y) = (((x * x) * x) + 4)))) ?_ rfl ?_
  · exact res_t rfl (by kernel_rfl) _
  · exact ⟨rfl, hp4.bel⟩
set_option maxHeartbeats 4000000 in
theorem g1OnI {G : World → Prop} (K : FpK G) (P : Pt F) (w : World) (hg : G w) : Calls Tryd.prog 19 #[GV ⟨0, 0, true⟩] w (Ret (.bool true) w) := by
  have hp0 := Heap.start w
  go_enter Tryd.func19, Tryd.ntmps19
  refine wp_seq_k (fun K1 k1 => ?_)
  refine gs [.alloc (GC ⟨0, 0, true⟩), .det (.bool false)] [0, 1] [0, 0] (fun L => [GV ⟨0, 0, true⟩, pt (L.b 0) 0, .bool false] ++ U 27) (fun L => [(L.b 0, GC ⟨0, 0, true⟩)]) hp0 ⟨
    oB, oA,
    trivial⟩ (fun L0 w1 hp1 => ?_)
  refine k1 _ _ ?_
  refine wp_seq_k (fun K2 k2 => ?_)
  refine wp_seq_k (fun K3 k3 => ?_)
  refine gs [.det (pt (L0.b 0) 12), .det (.bool true)] [0, 1] [0, 1] (fun L => [GV ⟨0, 0, true⟩, pt (L0.b 0) 0, .bool false, pt (L0.b 0) 12, .bool true] ++ U 25) (fun L => [((L0.b 0), GC ⟨0, 0, true⟩)]) hp1 ⟨
    oF fG2, oL1 0 12 oneB,
    trivial⟩ (fun L1 w2 hp2 => ?_)
  refine k3 _ _ ?_
  refine wp_cond_true (by kernel_rfl) ?_
  refine wp_seq_k (fun K4 k4 => ?_)
  refine gs [.det (GV ⟨0, 0, true⟩), .det (GV ⟨0, 0, true⟩), .det (.bool true), .det (.bool true)] [0, 1, 2, 3] [0, 0, 3, 7] (fun L => [GV ⟨0, 0, true⟩, pt (L0.b 0) 0, .bool true, pt (L0.b 0) 12, .bool true, GV ⟨0, 0, true⟩, GV ⟨0, 0, true⟩, .bool true] ++ U 22) (fun L => [((L0.b 0), GC ⟨0, 0, true⟩)]) hp2 ⟨
    oL 0 0 rG, oD (buildGi true), oE (a := ⟨0, 0, true⟩) (b := ⟨0, 0, true⟩) qG (yes rfl), oA,
    trivial⟩ (fun L2 w3 hp3 => ?_)
  refine k4 _ _ ?_
  refine wp_ret ?_
  refine bodyPost_ret (v := .bool true) ?_ rfl ?_
  · exact res_t rfl (by kernel_rfl) _
  · exact ⟨rfl, hp3.bel⟩
theorem g1On {G : World → Prop} (K : FpK G) (P : Pt F) (w : World) (hg : G w) (hP : On (4 : F) P) : Calls Tryd.prog 19 #[GV (gp P)] w (Ret (.bool true) w) := by
  cases P with
  | inf => exact g1OnI K .inf w hg
  | aff x y =>
    have h := g1OnA K x y w hg
    rw [decide_eq_true (show y * y = x * x * x + 4 from hP)] at h
    exact h
set_option maxHeartbeats 4000000 in
theorem g1InJ {G : World → Prop} (K : FpK G) (P : Pt F) (w : World) (hg : G w) (hP : On (4 : F) P) : Calls Tryd.prog 27 #[GV (gp P)] w (Ret (.bool (decide ((jmul P ordR).z = 0))) w) := by
  have hp0 := Heap.start w
  go_enter Tryd.func27, Tryd.ntmps27
  refine wp_seq_k (fun K1 k1 => ?_)
  refine gs [.alloc (GC (gp P)), .det (.bool false)] [0, 1] [0, 0] (fun L => [GV (gp P), pt (L.b 0) 0, .bool false] ++ U 10) (fun L => [(L.b 0, GC (gp P))]) hp0 ⟨
    oB, oA,
    trivial⟩ (fun L0 w1 hp1 => ?_)
  refine k1 _ _ ?_
  refine wp_seq_k (fun K2 k2 => ?_)
  refine dr [.det (GV (gp P)), .det (.bool true), .det (.bool true), .det (GV (gp P)), .any (isFour (RC ordR)), .detV 4 arrP, .det (RV ordR), .det (JV (jmul P ordR)), .det (.bool (decide ((jmul P ordR).z = 0))), .det (.bool (decide ((jmul P ordR).z = 0))), .det (.bool (decide ((jmul P ordR).z = 0)))] [0, 1, 2, 3, 4, 5, 6, 7, 8, 9, 10] [0, 1, 3, 7, 7, 23, 55, 127, 255, 511, 1023] (fun L => [GV (gp P), pt (L0.b 0) 0, .bool (decide ((jmul P ordR).z = 0)), GV (gp P), .bool true, .bool true, GV (gp P), L.v 4, arrP (L.v 4), RV ordR, JV (jmul P ordR), .bool (decide ((jmul P ordR).z = 0)), .bool (decide ((jmul P ordR).z = 0))]) (fun L => [((L0.b 0), GC (gp P))]) hp1 ⟨
    oL 0 0 rG, oH (v := .bool true) (vs := #[GV (gp P)]) (fun w hb _ => g1On K P w (K.stay hg hb) hP), oM, oL 0 0 rG, oY (fun L => #[]) isFour_stay (fun _ w _ => frR_new w),
    oAP 4 Tryd.underlying24, oLP 4 rR, oH (v := JV (jmul P ordR)) (vs := #[GV (gp P), RV ordR]) (fun w hb _ => g1times K P ordR w (K.stay hg hb) ordR_256),
    oC K.stay hg (g1isInf K (jmul P ordR)), oP, oA,
    trivial⟩ (fun L1 w2 hp2 => ?_)
  refine k2 _ _ ?_
  refine wp_ret ?_
  refine bodyPost_ret (v := .bool (decide ((jmul P ordR).z = 0))) ?_ rfl ?_
  · exact res_t rfl (by kernel_rfl) _
  · exact ⟨rfl, hp2.bel⟩
theorem isInf_mul {P : Pt F} (hP : On (4 : F) P) {k : Nat} (hk : k < 2 ^ 256) : decide ((jmul P k).z = 0) = decide (mul finv k P = .inf) := by
  have h : JRep (mul finv k P) (jmul P k) := jmul_rep hP hk
  generalize jmul P k = a at h
  generalize mul finv k P = Q at h
  exact decide_eq_decide.2 (JRep.isInf h)
theorem g1In {G : World → Prop} (K : FpK G) (P : Pt F) (w : World) (hg : G w) (hP : On (4 : F) P) : Calls Tryd.prog 27 #[GV (gp P)] w (Ret (.bool (decide (mul finv ordR P = .inf))) w) := by
  have h := g1InJ K P w hg hP
  rw [isInf_mul hP ordR_256] at h
  exact h
set_option maxHeartbeats 4000000 in
theorem ref5Plus1J (R : RefK) (P Q : Pt F) (w : World) : Calls Tryd.prog 13 #[GV (gp P), GV (gp Q)] w (Ret (GV (gp (pto (radd12 (pof P) (pof Q))))) w) := by
  have hp0 := Heap.start w
  go_enter Tryd.func13, Tryd.ntmps13
  refine wp_seq_k (fun K1 k1 => ?_)
  refine gs [.alloc (GC (gp P)), .alloc (GC (gp Q)), .alloc (GC ⟨0, 0, false⟩)] [0, 1, 2] [0, 0, 0] (fun L => [GV (gp P), GV (gp Q), pt (L.b 0) 0, pt (L.b 1) 0, pt (L.b 2) 0] ++ U 6) (fun L => [(L.b 0, GC (gp P)), (L.b 1, GC (gp Q)), (L.b 2, GC ⟨0, 0, false⟩)]) hp0 ⟨
    oB, oB, oZ rG,
    trivial⟩ (fun L0 w1 hp1 => ?_)
  refine k1 _ _ ?_
  refine wp_seq_k (fun K2 k2 => ?_)
  refine dr [.det (GV (gp P)), .det (PJV (sp (pof P))), .det (GV (gp Q)), .det (PJV (sp (pof Q))), .det (PJV (sp (radd12 (pof P) (pof Q)))), .det (GV (gp (pto (radd12 (pof P) (pof Q))))), .store (.base 2) 0 (GC (gp (pto (radd12 (pof P) (pof Q))))) (GC (gp (pto (radd12 (pof P) (pof Q)))))] [0, 1, 2, 3, 4, 5, 6] [0, 1, 0, 7, 15, 31, 63] (fun L => [GV (gp P), GV (gp Q), pt (L0.b 0) 0, pt (L0.b 1) 0, pt (L0.b 2) 0, GV (gp P), PJV (sp (pof P)), GV (gp Q), PJV (sp (pof Q)), PJV (sp (radd12 (pof P) (pof Q))), GV (gp (pto (radd12 (pof P) (pof Q))))]) (fun L => [((L0.b 0), GC (gp P)), ((L0.b 1), GC (gp Q)), ((L0.b 2), GC (gp (pto (radd12 (pof P) (pof Q)))))]) hp1 ⟨
    oL 0 0 rG, oR (ref5of1 R P), oL 1 0 rG, oR (ref5of1 R Q), oR (ref5add R (pof P) (pof Q)), oR (ref5to1 R (radd12 (pof P) (pof Q))), oT rG,
    trivial⟩ (fun L1 w2 hp2 => ?_)
  refine k2 _ _ ?_
  refine wp_ret ?_
  refine bodyPost_ret (v := GV (gp (pto (radd12 (pof P) (pof Q))))) ?_ rfl ?_
  · exact rc rG rfl (by kernel_rfl) (hp2.bound 2 rfl).2
  · exact ⟨rfl, hp2.bel⟩
theorem ref5Plus1 (R : RefK) (P Q : Pt F) (w : World) (hP : On (4 : F) P) (hQ : On (4 : F) Q) : Calls Tryd.prog 13 #[GV (gp P), GV (gp Q)] w (Ret (GV (gp (add finv P Q))) w) := by
  have h := ref5Plus1J R P Q w
  rw [pto_rep (rep_add hP hQ (rep_of P) (rep_of Q))] at h
  exact h
/-- k times P, by the reference's three numbers. -/
def rmul (P : Pt F) (k : Nat) : F × F × F := lad (4 + 4 + 4) (pof P).1 (pof P).2.1 (pof P).2.2 (64 * 4) k
theorem rmul_rep {P : Pt F} (hP : On (4 : F) P) {k : Nat} (hk : k < 2 ^ 256) : Rep3 (mul finv k P) (rmul P k) := lad_rep crv1 hP (rep_of P) (64 * 4) k hk
set_option maxHeartbeats 4000000 in
theorem ref5Times1J (R : RefK) (P : Pt F) (k : Nat) (w : World) (hk : k < 2 ^ 256) : Calls Tryd.prog 17 #[GV (gp P), RV k] w (Ret (GV (gp (pto (rmul P k)))) w) := by
  have hp0 := Heap.start w
  go_enter Tryd.func17, Tryd.ntmps17
  refine wp_seq_k (fun K1 k1 => ?_)
  refine gs [.alloc (GC (gp P)), .alloc (RC k), .alloc (GC ⟨0, 0, false⟩)] [0, 1, 2] [0, 0, 0] (fun L => [GV (gp P), RV k, pt (L.b 0) 0, pt (L.b 1) 0, pt (L.b 2) 0] ++ U 5) (fun L => [(L.b 0, GC (gp P)), (L.b 1, RC k), (L.b 2, GC ⟨0, 0, false⟩)]) hp0 ⟨
    oB, oB, oZ rG,
    trivial⟩ (fun L0 w1 hp1 => ?_)
  refine k1 _ _ ?_
  refine wp_seq_k (fun K2 k2 => ?_)
  refine dr [.det (GV (gp P)), .det (PJV (sp (pof P))), .det (.slice (some ⟨(L0.b 1), 0, none⟩) 4 4), .det (PJV (sp (rmul P k))), .det (GV (gp (pto (rmul P k)))), .store (.base 2) 0 (GC (gp (pto (rmul P k)))) (GC (gp (pto (rmul P k))))] [0, 1, 2, 3, 4, 5] [0, 1, 0, 7, 15, 31] (fun L => [GV (gp P), RV k, pt (L0.b 0) 0, pt (L0.b 1) 0, pt (L0.b 2) 0, GV (gp P), PJV (sp (pof P)), .slice (some ⟨(L0.b 1), 0, none⟩) 4 4, PJV (sp (rmul P k)), GV (gp (pto (rmul P k)))]) (fun L => [((L0.b 0), GC (gp P)), ((L0.b 1), RC k), ((L0.b 2), GC (gp (pto (rmul P k))))]) hp1 ⟨
    oL 0 0 rG, oR (ref5of1 R P), oSA (sz := 1) Tryd.underlying24 (by kernel_rfl) (by decide), oCS (fun L => #[PJV (sp (pof P)), .slice (some ⟨(L0.b 1), 0, none⟩) 4 4, .bool true]) (fun L w hs => ref5times R (pof P) _ 4 4 (lb k) k w (by decide) (atR (seen_at (k := 1) hs rfl)) (lb_rg _ _) (lbR hk)),
    oR (ref5to1 R (rmul P k)), oT rG,
    trivial⟩ (fun L1 w2 hp2 => ?_)
  refine k2 _ _ ?_
  refine wp_ret ?_
  refine bodyPost_ret (v := GV (gp (pto (rmul P k)))) ?_ rfl ?_
  · exact rc rG rfl (by kernel_rfl) (hp2.bound 2 rfl).2
  · exact ⟨rfl, hp2.bel⟩
theorem ref5Times1 (R : RefK) (P : Pt F) (k : Nat) (w : World) (hP : On (4 : F) P) (hk : k < 2 ^ 256) : Calls Tryd.prog 17 #[GV (gp P), RV k] w (Ret (GV (gp (mul finv k P))) w) := by
  have h := ref5Times1J R P k w hk
  rw [pto_rep (rmul_rep hP hk)] at h
  exact h
theorem ref5timesR (R : RefK) (P : Pt F) (v : Value) (w : World) (hv : isFour (RC ordR) v w) : Calls Tryd.prog 41 #[PJV (sp (pof P)), v, .bool true] w (Ret (PJV (sp (rmul P ordR))) w) := by
  obtain ⟨b, off, c, rfl, hc⟩ := hv
  exact ref5times R (pof P) _ 4 c (lb ordR) ordR w (by decide) (atR' hc) (lb_rg _ _) (lbR ordR_256)
set_option maxHeartbeats 4000000 in
theorem ref5In1J (R : RefK) (P : Pt F) (w : World) : Calls Tryd.prog 28 #[GV (gp P)] w (Ret (.bool (gp (pto (rmul P ordR))).i) w) := by
  have hp0 := Heap.start w
  go_enter Tryd.func28, Tryd.ntmps28
  refine wp_seq_k (fun K1 k1 => ?_)
  refine gs [.alloc (GC (gp P)), .det (.bool false)] [0, 1] [0, 0] (fun L => [GV (gp P), pt (L.b 0) 0, .bool false] ++ U 6) (fun L => [(L.b 0, GC (gp P))]) hp0 ⟨
    oB, oA,
    trivial⟩ (fun L0 w1 hp1 => ?_)
  refine k1 _ _ ?_
  refine wp_seq_k (fun K2 k2 => ?_)
  refine gs [.det (GV (gp P)), .det (PJV (sp (pof P))), .any (isFour (RC ordR)), .det (PJV (sp (rmul P ordR))), .det (GV (gp (pto (rmul P ordR)))), .det (.bool ((gp (pto (rmul P ordR))).i)), .det (.bool ((gp (pto (rmul P ordR))).i))] [0, 1, 2, 3, 4, 5, 6] [0, 1, 3, 7, 15, 31, 63] (fun L => [GV (gp P), pt (L0.b 0) 0, .bool ((gp (pto (rmul P ordR))).i), GV (gp P), PJV (sp (pof P)), L.v 2, PJV (sp (rmul P ordR)), GV (gp (pto (rmul P ordR))), .bool ((gp (pto (rmul P ordR))).i)]) (fun L => [((L0.b 0), GC (gp P))]) hp1 ⟨
    oL 0 0 rG, oR (ref5of1 R P), oY (fun L => #[]) isFour_stay (fun _ w _ => refR_new w), oCS (fun L => #[PJV (sp (pof P)), L.v 2, .bool true]) (fun L w hs => ref5timesR R P _ w (hs.any 2 _ rfl rfl)),
    oR (ref5to1 R (rmul P ordR)), oFv (n := 0) (cs := GC (gp (pto (rmul P ordR)))) fG2 fG2a, oA,
    trivial⟩ (fun L1 w2 hp2 => ?_)
  refine k2 _ _ ?_
  refine wp_ret ?_
  refine bodyPost_ret (v := .bool ((gp (pto (rmul P ordR))).i)) ?_ rfl ?_
  · exact res_t rfl (by kernel_rfl) _
  · exact ⟨rfl, hp2.bel⟩
theorem gp_i (P : Pt F) : (gp P).i = decide (P = .inf) := by
  cases P with
  | inf => exact (decide_eq_true rfl).symm
  | aff x y => exact (decide_eq_false (fun h => by cases h)).symm
theorem rmul_to {P : Pt F} (hP : On (4 : F) P) {k : Nat} (hk : k < 2 ^ 256) : (gp (pto (rmul P k))).i = decide (mul finv k P = .inf) := by
  have h : Rep3 (mul finv k P) (rmul P k) := rmul_rep hP hk
  rw [pto_rep h, gp_i]
theorem ref5In1 (R : RefK) (P : Pt F) (w : World) (hP : On (4 : F) P) : Calls Tryd.prog 28 #[GV (gp P)] w (Ret (.bool (decide (mul finv ordR P = .inf))) w) := by
  have h := ref5In1J R P w
  rw [rmul_to hP ordR_256] at h
  exact h
set_option maxHeartbeats 4000000 in
theorem ref5Min0 (R : RefK) (x y : F) (w : World) : Calls Tryd.prog 15 #[GV ⟨x, y, true⟩] w (Ret (GV ⟨x, y, true⟩) w) := by
  have hp0 := Heap.start w
  go_enter Tryd.func15, Tryd.ntmps15
  refine wp_seq_k (fun K1 k1 => ?_)
  refine gs [.alloc (GC ⟨x, y, true⟩), .alloc (GC ⟨0, 0, false⟩)] [0, 1] [0, 0] (fun L => [GV ⟨x, y, true⟩, pt (L.b 0) 0, pt (L.b 1) 0] ++ U 8) (fun L => [(L.b 0, GC ⟨x, y, true⟩), (L.b 1, GC ⟨0, 0, false⟩)]) hp0 ⟨
    oB, oZ rG,
    trivial⟩ (fun L0 w1 hp1 => ?_)
  refine k1 _ _ ?_
  refine wp_seq_k (fun K2 k2 => ?_)
  refine wp_seq_k (fun K3 k3 => ?_)
  refine gs [.det (pt (L0.b 0) 12), .det (.bool true), .det (.bool false)] [0, 1, 2] [0, 1, 3] (fun L => [GV ⟨x, y, true⟩, pt (L0.b 0) 0, pt (L0.b 1) 0, pt (L0.b 0) 12, .bool true, .bool false] ++ U 5) (fun L => [((L0.b 0), GC ⟨x, y, true⟩), ((L0.b 1), GC ⟨0, 0, false⟩)]) hp1 ⟨
    oF fG2, oL1 0 12 oneB, oN,
    trivial⟩ (fun L1 w2 hp2 => ?_)
  refine k3 _ _ ?_
  refine wp_cond_false (by kernel_rfl) ?_
  refine skips ?_
  refine k2 _ _ ?_
  refine wp_seq_k (fun K4 k4 => ?_)
  refine gs [.det (GV ⟨x, y, true⟩), .store (.base 1) 0 (GC ⟨x, y, true⟩) (GC ⟨x, y, true⟩)] [0, 1] [0, 1] (fun L => [GV ⟨x, y, true⟩, pt (L0.b 0) 0, pt (L0.b 1) 0, pt (L0.b 0) 12, .bool true, .bool false, undef, undef, undef, undef, GV ⟨x, y, true⟩]) (fun L => [((L0.b 0), GC ⟨x, y, true⟩), ((L0.b 1), GC ⟨x, y, true⟩)]) hp2 ⟨
    oL 0 0 rG, oT rG,
    trivial⟩ (fun L2 w3 hp3 => ?_)
  refine k4 _ _ ?_
  refine wp_ret ?_
  refine bodyPost_ret (v := GV ⟨x, y, true⟩) ?_ rfl ?_
  · exact rc rG rfl (by kernel_rfl) (hp3.bound 1 rfl).2
  · exact ⟨rfl, hp3.bel⟩
set_option maxHeartbeats 4000000 in
theorem ref5Min1 (R : RefK) (x y : F) (w : World) : Calls Tryd.prog 15 #[GV ⟨x, y, false⟩] w (Ret (GV ⟨x, -y, false⟩) w) := by
  have hp0 := Heap.start w
  go_enter Tryd.func15, Tryd.ntmps15
  refine wp_seq_k (fun K1 k1 => ?_)
  refine gs [.alloc (GC ⟨x, y, false⟩), .alloc (GC ⟨0, 0, false⟩)] [0, 1] [0, 0] (fun L => [GV ⟨x, y, false⟩, pt (L.b 0) 0, pt (L.b 1) 0] ++ U 8) (fun L => [(L.b 0, GC ⟨x, y, false⟩), (L.b 1, GC ⟨0, 0, false⟩)]) hp0 ⟨
    oB, oZ rG,
    trivial⟩ (fun L0 w1 hp1 => ?_)
  refine k1 _ _ ?_
  refine wp_seq_k (fun K2 k2 => ?_)
  refine wp_seq_k (fun K3 k3 => ?_)
  refine gs [.det (pt (L0.b 0) 12), .det (.bool false), .det (.bool true)] [0, 1, 2] [0, 1, 3] (fun L => [GV ⟨x, y, false⟩, pt (L0.b 0) 0, pt (L0.b 1) 0, pt (L0.b 0) 12, .bool false, .bool true] ++ U 5) (fun L => [((L0.b 0), GC ⟨x, y, false⟩), ((L0.b 1), GC ⟨0, 0, false⟩)]) hp1 ⟨
    oF fG2, oL1 0 12 oneB, oN,
    trivial⟩ (fun L1 w2 hp2 => ?_)
  refine k3 _ _ ?_
  refine wp_cond_true (by kernel_rfl) ?_
  refine gs [.det (pt (L0.b 0) 6), .det (FV y), .det (FV (-y)), .det (pt (L0.b 0) 6), .store (.base 0) 6 (FC (-y)) (GC ⟨x, (-y), false⟩)] [0, 1, 2, 3, 4] [0, 1, 3, 7, 15] (fun L => [GV ⟨x, y, false⟩, pt (L0.b 0) 0, pt (L0.b 1) 0, pt (L0.b 0) 12, .bool false, .bool true, pt (L0.b 0) 6, FV y, FV (-y), pt (L0.b 0) 6, undef]) (fun L => [((L0.b 0), GC ⟨x, (-y), false⟩), ((L0.b 1), GC ⟨0, 0, false⟩)]) hp2 ⟨
    oF fG1, oL 0 6 rF, oR (fun w => R.neg y w trivial), oF fG1, oT rF,
    trivial⟩ (fun L2 w3 hp3 => ?_)
  refine k2 _ _ ?_
  refine wp_seq_k (fun K4 k4 => ?_)
  refine gs [.det (GV ⟨x, (-y), false⟩), .store (.base 1) 0 (GC ⟨x, (-y), false⟩) (GC ⟨x, (-y), false⟩)] [0, 1] [0, 1] (fun L => [GV ⟨x, y, false⟩, pt (L0.b 0) 0, pt (L0.b 1) 0, pt (L0.b 0) 12, .bool false, .bool true, pt (L0.b 0) 6, FV y, FV (-y), pt (L0.b 0) 6, GV ⟨x, (-y), false⟩]) (fun L => [((L0.b 0), GC ⟨x, (-y), false⟩), ((L0.b 1), GC ⟨x, (-y), false⟩)]) hp3 ⟨
    oL 0 0 rG, oT rG,
    trivial⟩ (fun L3 w4 hp4 => ?_)
  refine k4 _ _ ?_
  refine wp_ret ?_
  refine bodyPost_ret (v := GV ⟨x, (-y), false⟩) ?_ rfl ?_
  · exact rc rG rfl (by kernel_rfl) (hp4.bound 1 rfl).2
  · exact ⟨rfl, hp4.bel⟩
theorem ref5Minus1 (R : RefK) (P : Pt F) (w : World) : Calls Tryd.prog 15 #[GV (gp P)] w (Ret (GV (gp (neg P))) w) := by
  cases P with
  | inf => exact ref5Min0 R 0 0 w
  | aff x y => exact ref5Min1 R x y w
set_option maxHeartbeats 4000000 in
theorem ref5Gen1 (R : RefK)  (w : World) : Calls Tryd.prog 20 #[] w (Ret (GV (gp gen1)) w) := by
  have hp0 := Heap.start w
  go_enter Tryd.func20, Tryd.ntmps20
  refine wp_seq_k (fun K1 k1 => ?_)
  refine gs [.alloc (GC ⟨0, 0, false⟩)] [0] [0] (fun L => [pt (L.b 0) 0, undef, undef, undef]) (fun L => [(L.b 0, GC ⟨0, 0, false⟩)]) hp0 ⟨
    oZ rG,
    trivial⟩ (fun L0 w1 hp1 => ?_)
  refine k1 _ _ ?_
  refine wp_seq_k (fun K2 k2 => ?_)
  refine gs [.det (FV g1x), .det (FV g1y), .det (GV ⟨g1x, g1y, false⟩), .store (.base 0) 0 (GC ⟨g1x, g1y, false⟩) (GC ⟨g1x, g1y, false⟩)] [0, 1, 2, 3] [0, 0, 3, 7] (fun L => [pt (L0.b 0) 0, FV g1x, FV g1y, GV ⟨g1x, g1y, false⟩]) (fun L => [((L0.b 0), GC ⟨g1x, g1y, false⟩)]) hp1 ⟨
    oD buildFg1x, oD buildFg1y, oD (buildG01 g1x g1y), oT rG,
    trivial⟩ (fun L1 w2 hp2 => ?_)
  refine k2 _ _ ?_
  refine wp_ret ?_
  refine bodyPost_ret (v := GV ⟨g1x, g1y, false⟩) ?_ rfl ?_
  · exact rc rG rfl (by kernel_rfl) (hp2.bound 0 rfl).2
  · exact ⟨rfl, hp2.bel⟩
set_option maxHeartbeats 4000000 in
theorem ref5OnA (R : RefK) (x y : F) (w : World) : Calls Tryd.prog 21 #[GV ⟨x, y, false⟩] w (Ret (.bool (decide (y * y = x * x * x + 4))) w) := by
  have hp0 := Heap.start w
  go_enter Tryd.func21, Tryd.ntmps21
  refine wp_seq_k (fun K1 k1 => ?_)
  refine gs [.alloc (GC ⟨x, y, false⟩), .det (.bool false)] [0, 1] [0, 0] (fun L => [GV ⟨x, y, false⟩, pt (L.b 0) 0, .bool false] ++ U 40) (fun L => [(L.b 0, GC ⟨x, y, false⟩)]) hp0 ⟨
    oB, oA,
    trivial⟩ (fun L0 w1 hp1 => ?_)
  refine k1 _ _ ?_
  refine wp_seq_k (fun K2 k2 => ?_)
  refine wp_seq_k (fun K3 k3 => ?_)
  refine gs [.det (pt (L0.b 0) 12), .det (.bool false)] [0, 1] [0, 1] (fun L => [GV ⟨x, y, false⟩, pt (L0.b 0) 0, .bool false, undef, pt (L0.b 0) 12, .bool false] ++ U 37) (fun L => [((L0.b 0), GC ⟨x, y, false⟩)]) hp1 ⟨
    oF fG2, oL1 0 12 oneB,
    trivial⟩ (fun L1 w2 hp2 => ?_)
  refine k3 _ _ ?_
  refine wp_cond_false (by kernel_rfl) ?_
  refine skips ?_
  refine k2 _ _ ?_
  refine wp_seq_k (fun K4 k4 => ?_)
  refine wp_seq_k (fun K5 k5 => ?_)
  refine gs [.det (pt (L0.b 0) 0), .det (FV x), .det (.bool true), .det (.bool false), .det (.bool false), .det (pt (L0.b 0) 6), .det (FV y), .det (.bool true), .det (.bool false), .det (.bool false)] [0, 1, 2, 3, 4, 5, 6, 7, 8, 9] [0, 1, 3, 7, 15, 31, 63, 127, 255, 511] (fun L => [GV ⟨x, y, false⟩, pt (L0.b 0) 0, .bool false, undef, pt (L0.b 0) 12, .bool false, undef, undef, undef, undef, undef, undef, undef, undef, undef, undef, pt (L0.b 0) 0, FV x, .bool true, .bool false, .bool false, pt (L0.b 0) 6, FV y, .bool true, .bool false, .bool false] ++ U 17) (fun L => [((L0.b 0), GC ⟨x, y, false⟩)]) hp2 ⟨
    oF fG0, oL 0 0 rF, oR (refMayF R x), oN, oM, oF fG1, oL 0 6 rF, oR (refMayF R y), oN, oP,
    trivial⟩ (fun L2 w3 hp3 => ?_)
  refine k5 _ _ ?_
  refine wp_cond_false (by kernel_rfl) ?_
  refine skips ?_
  refine k4 _ _ ?_
  refine wp_seq_k (fun K6 k6 => ?_)
  refine dr [.det (pt (L0.b 0) 0), .det (FV x), .det (pt (L0.b 0) 0), .det (FV x), .det (FV (x * x)), .det (pt (L0.b 0) 0), .det (FV x), .det (FV ((x * x) * x)), .alloc (FC 0), .store (.new 8) 0 (FC ((x * x) * x)) (FC ((x * x) * x))] [0, 1, 2, 3, 4, 5, 6, 7, 8, 9] [0, 1, 0, 4, 15, 0, 32, 127, 0, 511] (fun L => [GV ⟨x, y, false⟩, pt (L0.b 0) 0, .bool false, pt (L.b 8) 0, pt (L0.b 0) 12, .bool false, undef, undef, undef, undef, undef, undef, undef, undef, undef, undef, pt (L0.b 0) 0, FV x, .bool true, .bool false, .bool false, pt (L0.b 0) 6, FV y, .bool true, .bool false, .bool false, pt (L0.b 0) 0, FV x, pt (L0.b 0) 0, FV x, FV (x * x), pt (L0.b 0) 0, FV x, FV ((x * x) * x)] ++ U 9) (fun L => [((L0.b 0), GC ⟨x, y, false⟩), (L.b 8, FC ((x * x) * x))]) hp3 ⟨
    oF fG0, oL 0 0 rF, oF fG0, oL 0 0 rF, oR (fun w => R.mul x x w trivial), oF fG0, oL 0 0 rF, oR (fun w => R.mul (x * x) x w trivial), oZ rF, oT rF,
    trivial⟩ (fun L3 w4 hp4 => ?_)
  refine k6 _ _ ?_
  refine wp_seq_k (fun K7 k7 => ?_)
  refine dr [.det (pt (L0.b 0) 6), .det (FV y), .det (pt (L0.b 0) 6), .det (FV y), .det (FV (y * y)), .det (FV ((x * x) * x)), .det (FV 4), .det (FV (((x * x) * x) + 4)), .det (.bool (decide ((y * y) = (((x * x) * x) + 4)))), .det (.bool (decide ((y * y) = (((x * x) * x) + 4))))] [0, 1, 2, 3, 4, 5, 6, 7, 8, 9] [0, 1, 0, 4, 15, 0, 31, 127, 255, 511] (fun L => [GV ⟨x, y, false⟩, pt (L0.b 0) 0, .bool (decide ((y * y) = (((x * x) * x) + 4))), pt (L3.b 8) 0, pt (L0.b 0) 12, .bool false, undef, undef, undef, undef, undef, undef, undef, undef, undef, undef, pt (L0.b 0) 0, FV x, .bool true, .bool false, .bool false, pt (L0.b 0) 6, FV y, .bool true, .bool false, .bool false, pt (L0.b 0) 0, FV x, pt (L0.b 0) 0, FV x, FV (x * x), pt (L0.b 0) 0, FV x, FV ((x * x) * x), pt (L0.b 0) 6, FV y, pt (L0.b 0) 6, FV y, FV (y * y), FV ((x * x) * x), FV 4, FV (((x * x) * x) + 4), .bool (decide ((y * y) = (((x * x) * x) + 4)))]) (fun L => [((L0.b 0), GC ⟨x, y, false⟩), ((L3.b 8), FC ((x * x) * x))]) hp4 ⟨
    oF fG1, oL 0 6 rF, oF fG1, oL 0 6 rF, oR (fun w => R.mul y y w trivial), oL 1 0 rF, oR R.of4, oR (fun w => R.add ((x * x) * x) 4 w trivial), oE (a := (y * y)) (b := (((x * x) * x) + 4)) qF rfl,
    oA,
    trivial⟩ (fun L4 w5 hp5 => ?_)
  refine k7 _ _ ?_
  refine wp_ret ?_
  refine bodyPost_ret (v := .bool (decide ((y * y) = (((x * x) * x) + 4)))) ?_ rfl ?_
  · exact res_t rfl (by kernel_rfl) _
  · exact ⟨rfl, hp5.bel⟩
set_option maxHeartbeats 4000000 in
theorem g1OnF {G : World → Prop} (K : FpK G) (f g : Nat → Int) (w : World) (hg : G w) (rf : Rg f 6) (rg : Rg g 6) (lf : ¬ val f 6 < RI) : Calls Tryd.prog 19 #[QGV f g false] w (Ret (.bool false) w) := by
  have hp0 := Heap.start w
  go_enter Tryd.func19, Tryd.ntmps19
  refine wp_seq_k (fun K1 k1 => ?_)
  refine gs [.alloc (QGC f g false), .det (.bool false)] [0, 1] [0, 0] (fun L => [QGV f g false, pt (L.b 0) 0, .bool false] ++ U 27) (fun L => [(L.b 0, QGC f g false)]) hp0 ⟨
    oB, oA,
    trivial⟩ (fun L0 w1 hp1 => ?_)
  refine k1 _ _ ?_
  refine wp_seq_k (fun K2 k2 => ?_)
  refine wp_seq_k (fun K3 k3 => ?_)
  refine gs [.det (pt (L0.b 0) 12), .det (.bool false)] [0, 1] [0, 1] (fun L => [QGV f g false, pt (L0.b 0) 0, .bool false, pt (L0.b 0) 12, .bool false] ++ U 25) (fun L => [((L0.b 0), QGC f g false)]) hp1 ⟨
    oF fG2, oL1 0 12 oneB,
    trivial⟩ (fun L1 w2 hp2 => ?_)
  refine k3 _ _ ?_
  refine wp_cond_false (by kernel_rfl) ?_
  refine skips ?_
  refine k2 _ _ ?_
  refine wp_seq_k (fun K4 k4 => ?_)
  refine wp_seq_k (fun K5 k5 => ?_)
  refine gs [.det (pt (L0.b 0) 0), .det (QV f), .det (.bool false), .det (.bool true), .det (.bool true), .det undef, .det undef, .det undef, .det undef, .det (.bool true)] [0, 1, 2, 3, 4, 5, 6, 7, 8, 9] [0, 1, 3, 7, 15, 31, 63, 127, 255, 511] (fun L => [QGV f g false, pt (L0.b 0) 0, .bool false, pt (L0.b 0) 12, .bool false, undef, undef, undef, pt (L0.b 0) 0, QV f, .bool false, .bool true, .bool true, undef, undef, undef, undef, .bool true] ++ U 12) (fun L => [((L0.b 0), QGC f g false)]) hp2 ⟨
    oF fG0, oL 0 0 rF, oH (v := .bool false) (vs := #[QV f]) (fun w hb _ => by have h := K.may f w (K.stay hg hb) rf; rw [decide_eq_false lf] at h; exact h), oN,
    oM, oS, oS, oS, oS, oP,
    trivial⟩ (fun L2 w3 hp3 => ?_)
  refine k5 _ _ ?_
  refine wp_cond_true (by kernel_rfl) ?_
  refine wp_seq_k (fun K6 k6 => ?_)
  refine gs [.det (.bool false)] [0] [0] (fun L => [QGV f g false, pt (L0.b 0) 0, .bool false, pt (L0.b 0) 12, .bool false, undef, undef, undef, pt (L0.b 0) 0, QV f, .bool false, .bool true, .bool true, undef, undef, undef, undef, .bool true] ++ U 12) (fun L => [((L0.b 0), QGC f g false)]) hp3 ⟨
    oA,
    trivial⟩ (fun L3 w4 hp4 => ?_)
  refine k6 _ _ ?_
  refine wp_ret ?_
  refine bodyPost_ret (v := .bool false) ?_ rfl ?_
  · exact res_t rfl (by kernel_rfl) _
  · exact ⟨rfl, hp4.bel⟩
set_option maxHeartbeats 4000000 in
theorem g1OnG {G : World → Prop} (K : FpK G) (f g : Nat → Int) (w : World) (hg : G w) (rf : Rg f 6) (rg : Rg g 6) (lf : val f 6 < RI) (lg : ¬ val g 6 < RI) : Calls Tryd.prog 19 #[QGV f g false] w (Ret (.bool false) w) := by
  have hp0 := Heap.start w
  go_enter Tryd.func19, Tryd.ntmps19
  refine wp_seq_k (fun K1 k1 => ?_)
  refine gs [.alloc (QGC f g false), .det (.bool false)] [0, 1] [0, 0] (fun L => [QGV f g false, pt (L.b 0) 0, .bool false] ++ U 27) (fun L => [(L.b 0, QGC f g false)]) hp0 ⟨
    oB, oA,
    trivial⟩ (fun L0 w1 hp1 => ?_)
  refine k1 _ _ ?_
  refine wp_seq_k (fun K2 k2 => ?_)
  refine wp_seq_k (fun K3 k3 => ?_)
  refine gs [.det (pt (L0.b 0) 12), .det (.bool false)] [0, 1] [0, 1] (fun L => [QGV f g false, pt (L0.b 0) 0, .bool false, pt (L0.b 0) 12, .bool false] ++ U 25) (fun L => [((L0.b 0), QGC f g false)]) hp1 ⟨
    oF fG2, oL1 0 12 oneB,
    trivial⟩ (fun L1 w2 hp2 => ?_)
  refine k3 _ _ ?_
  refine wp_cond_false (by kernel_rfl) ?_
  refine skips ?_
  refine k2 _ _ ?_
  refine wp_seq_k (fun K4 k4 => ?_)
  refine wp_seq_k (fun K5 k5 => ?_)
  refine gs [.det (pt (L0.b 0) 0), .det (QV f), .det (.bool true), .det (.bool false), .det (.bool false), .det (pt (L0.b 0) 6), .det (QV g), .det (.bool false), .det (.bool true), .det (.bool true)] [0, 1, 2, 3, 4, 5, 6, 7, 8, 9] [0, 1, 3, 7, 15, 31, 63, 127, 255, 511] (fun L => [QGV f g false, pt (L0.b 0) 0, .bool false, pt (L0.b 0) 12, .bool false, undef, undef, undef, pt (L0.b 0) 0, QV f, .bool true, .bool false, .bool false, pt (L0.b 0) 6, QV g, .bool false, .bool true, .bool true] ++ U 12) (fun L => [((L0.b 0), QGC f g false)]) hp2 ⟨
    oF fG0, oL 0 0 rF, oH (v := .bool true) (vs := #[QV f]) (fun w hb _ => by have h := K.may f w (K.stay hg hb) rf; rw [decide_eq_true lf] at h; exact h), oN, oM,
    oF fG1, oL 0 6 rF, oH (v := .bool false) (vs := #[QV g]) (fun w hb _ => by have h := K.may g w (K.stay hg hb) rg; rw [decide_eq_false lg] at h; exact h), oN,
    oP,
    trivial⟩ (fun L2 w3 hp3 => ?_)
  refine k5 _ _ ?_
  refine wp_cond_true (by kernel_rfl) ?_
  refine wp_seq_k (fun K6 k6 => ?_)
  refine gs [.det (.bool false)] [0] [0] (fun L => [QGV f g false, pt (L0.b 0) 0, .bool false, pt (L0.b 0) 12, .bool false, undef, undef, undef, pt (L0.b 0) 0, QV f, .bool true, .bool false, .bool false, pt (L0.b 0) 6, QV g, .bool false, .bool true, .bool true] ++ U 12) (fun L => [((L0.b 0), QGC f g false)]) hp3 ⟨
    oA,
    trivial⟩ (fun L3 w4 hp4 => ?_)
  refine k6 _ _ ?_
  refine wp_ret ?_
  refine bodyPost_ret (v := .bool false) ?_ rfl ?_
  · exact res_t rfl (by kernel_rfl) _
  · exact ⟨rfl, hp4.bel⟩
set_option maxHeartbeats 4000000 in
theorem ref5OnF (R : RefK) (f g : Nat → Int) (w : World) (rf : Rg f 6) (rg : Rg g 6) (lf : ¬ val f 6 < RI) : Calls Tryd.prog 21 #[QGV f g false] w (Ret (.bool false) w) := by
  have hp0 := Heap.start w
  go_enter Tryd.func21, Tryd.ntmps21
  refine wp_seq_k (fun K1 k1 => ?_)
  refine gs [.alloc (QGC f g false), .det (.bool false)] [0, 1] [0, 0] (fun L => [QGV f g false, pt (L.b 0) 0, .bool false] ++ U 40) (fun L => [(L.b 0, QGC f g false)]) hp0 ⟨
    oB, oA,
    trivial⟩ (fun L0 w1 hp1 => ?_)
  refine k1 _ _ ?_
  refine wp_seq_k (fun K2 k2 => ?_)
  refine wp_seq_k (fun K3 k3 => ?_)
  refine gs [.det (pt (L0.b 0) 12), .det (.bool false)] [0, 1] [0, 1] (fun L => [QGV f g false, pt (L0.b 0) 0, .bool false, undef, pt (L0.b 0) 12, .bool false] ++ U 37) (fun L => [((L0.b 0), QGC f g false)]) hp1 ⟨
    oF fG2, oL1 0 12 oneB,
    trivial⟩ (fun L1 w2 hp2 => ?_)
  refine k3 _ _ ?_
  refine wp_cond_false (by kernel_rfl) ?_
  refine skips ?_
  refine k2 _ _ ?_
  refine wp_seq_k (fun K4 k4 => ?_)
  refine wp_seq_k (fun K5 k5 => ?_)
  refine gs [.det (pt (L0.b 0) 0), .det (QV f), .det (.bool false), .det (.bool true), .det (.bool true), .det undef, .det undef, .det undef, .det undef, .det (.bool true)] [0, 1, 2, 3, 4, 5, 6, 7, 8, 9] [0, 1, 3, 7, 15, 31, 63, 127, 255, 511] (fun L => [QGV f g false, pt (L0.b 0) 0, .bool false, undef, pt (L0.b 0) 12, .bool false, undef, undef, undef, undef, undef, undef, undef, undef, undef, undef, pt (L0.b 0) 0, QV f, .bool false, .bool true, .bool true, undef, undef, undef, undef, .bool true] ++ U 17) (fun L => [((L0.b 0), QGC f g false)]) hp2 ⟨
    oF fG0, oL 0 0 rF, oH (v := .bool false) (vs := #[QV f]) (fun w _ _ => by have h := R.may f w trivial rf; rw [decide_eq_false lf] at h; exact h), oN, oM, oS,
    oS, oS, oS, oP,
    trivial⟩ (fun L2 w3 hp3 => ?_)
  refine k5 _ _ ?_
  refine wp_cond_true (by kernel_rfl) ?_
  refine wp_seq_k (fun K6 k6 => ?_)
  refine gs [.det (.bool false)] [0] [0] (fun L => [QGV f g false, pt (L0.b 0) 0, .bool false, undef, pt (L0.b 0) 12, .bool false, undef, undef, undef, undef, undef, undef, undef, undef, undef, undef, pt (L0.b 0) 0, QV f, .bool false, .bool true, .bool true, undef, undef, undef, undef, .bool true] ++ U 17) (fun L => [((L0.b 0), QGC f g false)]) hp3 ⟨
    oA,
    trivial⟩ (fun L3 w4 hp4 => ?_)
  refine k6 _ _ ?_
  refine wp_ret ?_
  refine bodyPost_ret (v := .bool false) ?_ rfl ?_
  · exact res_t rfl (by kernel_rfl) _
  · exact ⟨rfl, hp4.bel⟩
set_option maxHeartbeats 4000000 in
theorem ref5OnG (R : RefK) (f g : Nat → Int) (w : World) (rf : Rg f 6) (rg : Rg g 6) (lf : val f 6 < RI) (lg : ¬ val g 6 < RI) : Calls Tryd.prog 21 #[QGV f g false] w (Ret (.bool false) w) := by
  have hp0 := Heap.start w
  go_enter Tryd.func21, Tryd.ntmps21
  refine wp_seq_k (fun K1 k1 => ?_)
  refine gs [.alloc (QGC f g false), .det (.bool false)] [0, 1] [0, 0] (fun L => [QGV f g false, pt (L.b 0) 0, .bool false] ++ U 40) (fun L => [(L.b 0, QGC f g false)]) hp0 ⟨
    oB, oA,
    trivial⟩ (fun L0 w1 hp1 => ?_)
  refine k1 _ _ ?_
  refine wp_seq_k (fun K2 k2 => ?_)
  refine wp_seq_k (fun K3 k3 => ?_)
  refine gs [.det (pt (L0.b 0) 12), .det (.bool false)] [0, 1] [0, 1] (fun L => [QGV f g false, pt (L0.b 0) 0, .bool false, undef, pt (L0.b 0) 12, .bool false] ++ U 37) (fun L => [((L0.b 0), QGC f g false)]) hp1 ⟨
    oF fG2, oL1 0 12 oneB,
    trivial⟩ (fun L1 w2 hp2 => ?_)
  refine k3 _ _ ?_
  refine wp_cond_false (by kernel_rfl) ?_
  refine skips ?_
  refine k2 _ _ ?_
  refine wp_seq_k (fun K4 k4 => ?_)
  refine wp_seq_k (fun K5 k5 => ?_)
  refine gs [.det (pt (L0.b 0) 0), .det (QV f), .det (.bool true), .det (.bool false), .det (.bool false), .det (pt (L0.b 0) 6), .det (QV g), .det (.bool false), .det (.bool true), .det (.bool true)] [0, 1, 2, 3, 4, 5, 6, 7, 8, 9] [0, 1, 3, 7, 15, 31, 63, 127, 255, 511] (fun L => [QGV f g false, pt (L0.b 0) 0, .bool false, undef, pt (L0.b 0) 12, .bool false, undef, undef, undef, undef, undef, undef, undef, undef, undef, undef, pt (L0.b 0) 0, QV f, .bool true, .bool false, .bool false, pt (L0.b 0) 6, QV g, .bool false, .bool true, .bool true] ++ U 17) (fun L => [((L0.b 0), QGC f g false)]) hp2 ⟨
    oF fG0, oL 0 0 rF, oH (v := .bool true) (vs := #[QV f]) (fun w _ _ => by have h := R.may f w trivial rf; rw [decide_eq_true lf] at h; exact h), oN, oM, oF fG1,
    oL 0 6 rF, oH (v := .bool false) (vs := #[QV g]) (fun w _ _ => by have h := R.may g w trivial rg; rw [decide_eq_false lg] at h; exact h), oN, oP,
    trivial⟩ (fun L2 w3 hp3 => ?_)
  refine k5 _ _ ?_
  refine wp_cond_true (by kernel_rfl) ?_
  refine wp_seq_k (fun K6 k6 => ?_)
  refine gs [.det (.bool false)] [0] [0] (fun L => [QGV f g false, pt (L0.b 0) 0, .bool false, undef, pt (L0.b 0) 12, .bool false, undef, undef, undef, undef, undef, undef, undef, undef, undef, undef, pt (L0.b 0) 0, QV f, .bool true, .bool false, .bool false, pt (L0.b 0) 6, QV g, .bool false, .bool true, .bool true] ++ U 17) (fun L => [((L0.b 0), QGC f g false)]) hp3 ⟨
    oA,
    trivial⟩ (fun L3 w4 hp4 => ?_)
  refine k6 _ _ ?_
  refine wp_ret ?_
  refine bodyPost_ret (v := .bool false) ?_ rfl ?_
  · exact res_t rfl (by kernel_rfl) _
  · exact ⟨rfl, hp4.bel⟩
set_option maxHeartbeats 4000000 in
theorem g1OnT {G : World → Prop} (K : FpK G) (f g : Nat → Int) (w : World) (hg : G w) (rf : Rg f 6) (rg : Rg g 6) : Calls Tryd.prog 19 #[QGV f g true] w (Ret (.bool (decide (val f 6 = 0) && (decide (val g 6 = 0) && true))) w) := by
  have hp0 := Heap.start w
  go_enter Tryd.func19, Tryd.ntmps19
  refine wp_seq_k (fun K1 k1 => ?_)
  refine gs [.alloc (QGC f g true), .det (.bool false)] [0, 1] [0, 0] (fun L => [QGV f g true, pt (L.b 0) 0, .bool false] ++ U 27) (fun L => [(L.b 0, QGC f g true)]) hp0 ⟨
    oB, oA,
    trivial⟩ (fun L0 w1 hp1 => ?_)
  refine k1 _ _ ?_
  refine wp_seq_k (fun K2 k2 => ?_)
  refine wp_seq_k (fun K3 k3 => ?_)
  refine gs [.det (pt (L0.b 0) 12), .det (.bool true)] [0, 1] [0, 1] (fun L => [QGV f g true, pt (L0.b 0) 0, .bool false, pt (L0.b 0) 12, .bool true] ++ U 25) (fun L => [((L0.b 0), QGC f g true)]) hp1 ⟨
    oF fG2, oL1 0 12 oneB,
    trivial⟩ (fun L1 w2 hp2 => ?_)
  refine k3 _ _ ?_
  refine wp_cond_true (by kernel_rfl) ?_
  refine wp_seq_k (fun K4 k4 => ?_)
  refine gs [.det (QGV f g true), .det (GV ⟨0, 0, true⟩), .det (.bool (decide (val f 6 = 0) && (decide (val g 6 = 0) && true))), .det (.bool (decide (val f 6 = 0) && (decide (val g 6 = 0) && true)))] [0, 1, 2, 3] [0, 0, 3, 7] (fun L => [QGV f g true, pt (L0.b 0) 0, .bool (decide (val f 6 = 0) && (decide (val g 6 = 0) && true)), pt (L0.b 0) 12, .bool true, QGV f g true, GV ⟨0, 0, true⟩, .bool (decide (val f 6 = 0) && (decide (val g 6 = 0) && true))] ++ U 22) (fun L => [((L0.b 0), QGC f g true)]) hp2 ⟨
    oL 0 0 rG, oD (buildGi true), oW (fun w => guardG _ _ _ _ _ w) (fun w => eqlQG f g true rf rg w), oA,
    trivial⟩ (fun L2 w3 hp3 => ?_)
  refine k4 _ _ ?_
  refine wp_ret ?_
  refine bodyPost_ret (v := .bool (decide (val f 6 = 0) && (decide (val g 6 = 0) && true))) ?_ rfl ?_
  · exact res_t rfl (by kernel_rfl) _
  · exact ⟨rfl, hp3.bel⟩
set_option maxHeartbeats 4000000 in
theorem ref5OnT0 (R : RefK) (f g : Nat → Int) (w : World) (rf : Rg f 6) (rg : Rg g 6) (hf : ¬ val f 6 = 0) : Calls Tryd.prog 21 #[QGV f g true] w (Ret (.bool false) w) := by
  have hp0 := Heap.start w
  go_enter Tryd.func21, Tryd.ntmps21
  refine wp_seq_k (fun K1 k1 => ?_)
  refine gs [.alloc (QGC f g true), .det (.bool false)] [0, 1] [0, 0] (fun L => [QGV f g true, pt (L.b 0) 0, .bool false] ++ U 40) (fun L => [(L.b 0, QGC f g true)]) hp0 ⟨
    oB, oA,
    trivial⟩ (fun L0 w1 hp1 => ?_)
  refine k1 _ _ ?_
  refine wp_seq_k (fun K2 k2 => ?_)
  refine wp_seq_k (fun K3 k3 => ?_)
  refine gs [.det (pt (L0.b 0) 12), .det (.bool true)] [0, 1] [0, 1] (fun L => [QGV f g true, pt (L0.b 0) 0, .bool false, undef, pt (L0.b 0) 12, .bool true] ++ U 37) (fun L => [((L0.b 0), QGC f g true)]) hp1 ⟨
    oF fG2, oL1 0 12 oneB,
    trivial⟩ (fun L1 w2 hp2 => ?_)
  refine k3 _ _ ?_
  refine wp_cond_true (by kernel_rfl) ?_
  refine wp_seq_k (fun K4 k4 => ?_)
  refine gs [.det (pt (L0.b 0) 0), .det (QV f), .det (FV 0), .det (.bool false), .det (.bool false), .det undef, .det undef, .det undef, .det undef, .det (.bool false), .det (.bool false)] [0, 1, 2, 3, 4, 5, 6, 7, 8, 9, 10] [0, 1, 0, 7, 15, 31, 63, 31, 255, 511, 1023] (fun L => [QGV f g true, pt (L0.b 0) 0, .bool false, undef, pt (L0.b 0) 12, .bool true, pt (L0.b 0) 0, QV f, FV 0, .bool false, .bool false, undef, undef, undef, undef, .bool false] ++ U 27) (fun L => [((L0.b 0), QGC f g true)]) hp2 ⟨
    oF fG0, oL 0 0 rF, oD buildF0, oW (fun w => guardQ _ _ _ _ _ w) (fun w => (eqlQF f rf w).trans (by rw [decide_eq_false hf])), oM, oS, oS, oS, oS, oP, oA,
    trivial⟩ (fun L2 w3 hp3 => ?_)
  refine k4 _ _ ?_
  refine wp_ret ?_
  refine bodyPost_ret (v := .bool false) ?_ rfl ?_
  · exact res_t rfl (by kernel_rfl) _
  · exact ⟨rfl, hp3.bel⟩
set_option maxHeartbeats 4000000 in
theorem ref5OnT1 (R : RefK) (f g : Nat → Int) (w : World) (rf : Rg f 6) (rg : Rg g 6) (hf : val f 6 = 0) : Calls Tryd.prog 21 #[QGV f g true] w (Ret (.bool (decide (val g 6 = 0))) w) := by
  have hp0 := Heap.start w
  go_enter Tryd.func21, Tryd.ntmps21
  refine wp_seq_k (fun K1 k1 => ?_)
  refine gs [.alloc (QGC f g true), .det (.bool false)] [0, 1] [0, 0] (fun L => [QGV f g true, pt (L.b 0) 0, .bool false] ++ U 40) (fun L => [(L.b 0, QGC f g true)]) hp0 ⟨
    oB, oA,
    trivial⟩ (fun L0 w1 hp1 => ?_)
  refine k1 _ _ ?_
  refine wp_seq_k (fun K2 k2 => ?_)
  refine wp_seq_k (fun K3 k3 => ?_)
  refine gs [.det (pt (L0.b 0) 12), .det (.bool true)] [0, 1] [0, 1] (fun L => [QGV f g true, pt (L0.b 0) 0, .bool false, undef, pt (L0.b 0) 12, .bool true] ++ U 37) (fun L => [((L0.b 0), QGC f g true)]) hp1 ⟨
    oF fG2, oL1 0 12 oneB,
    trivial⟩ (fun L1 w2 hp2 => ?_)
  refine k3 _ _ ?_
  refine wp_cond_true (by kernel_rfl) ?_
  refine wp_seq_k (fun K4 k4 => ?_)
  refine gs [.det (pt (L0.b 0) 0), .det (QV f), .det (FV 0), .det (.bool true), .det (.bool true), .det (pt (L0.b 0) 6), .det (QV g), .det (FV 0), .det (.bool (decide (val g 6 = 0))), .det (.bool (decide (val g 6 = 0))), .det (.bool (decide (val g 6 = 0)))] [0, 1, 2, 3, 4, 5, 6, 7, 8, 9, 10] [0, 1, 0, 7, 15, 31, 63, 31, 255, 511, 1023] (fun L => [QGV f g true, pt (L0.b 0) 0, .bool (decide (val g 6 = 0)), undef, pt (L0.b 0) 12, .bool true, pt (L0.b 0) 0, QV f, FV 0, .bool true, .bool true, pt (L0.b 0) 6, QV g, FV 0, .bool (decide (val g 6 = 0)), .bool (decide (val g 6 = 0))] ++ U 27) (fun L => [((L0.b 0), QGC f g true)]) hp2 ⟨
    oF fG0, oL 0 0 rF, oD buildF0, oW (fun w => guardQ _ _ _ _ _ w) (fun w => (eqlQF f rf w).trans (by rw [decide_eq_true hf])), oM, oF fG1, oL 0 6 rF, oD buildF0,
    oW (fun w => guardQ _ _ _ _ _ w) (fun w => eqlQF g rg w), oP, oA,
    trivial⟩ (fun L2 w3 hp3 => ?_)
  refine k4 _ _ ?_
  refine wp_ret ?_
  refine bodyPost_ret (v := .bool (decide (val g 6 = 0))) ?_ rfl ?_
  · exact res_t rfl (by kernel_rfl) _
  · exact ⟨rfl, hp3.bel⟩
/-- Both tell the same of anything. -/
theorem on_same {G : World → Prop} (K : FpK G) (R : RefK) (f g : Nat → Int) (i : Bool) (rf : Rg f 6) (rg : Rg g 6) : ∃ b : Bool, (∀ w, G w → Calls Tryd.prog 19 #[QGV f g i] w (Ret (.bool b) w)) ∧ (∀ w, Calls Tryd.prog 21 #[QGV f g i] w (Ret (.bool b) w)) := by
  cases i with
  | true =>
    refine ⟨_, fun w hg => g1OnT K f g w hg rf rg, fun w => ?_⟩
    by_cases hf : val f 6 = 0
    · rw [decide_eq_true hf, Bool.true_and, Bool.and_true]; exact ref5OnT1 R f g w rf rg hf
    · rw [decide_eq_false hf, Bool.false_and]; exact ref5OnT0 R f g w rf rg hf
  | false =>
    by_cases lf : val f 6 < RI
    · by_cases lg : val g 6 < RI
      · obtain ⟨x, hx, -⟩ := num_of rf lf
        obtain ⟨y, hy, -⟩ := num_of rg lg
        have e : QGV f g false = GV ⟨x, y, false⟩ := by
          unfold QGV QGC GV GC
          rw [QC_of' hx, QC_of' hy]
        rw [e]
        exact ⟨_, fun w hg => g1OnA K x y w hg, fun w => ref5OnA R x y w⟩
      · exact ⟨false, fun w hg => g1OnG K f g w hg rf rg lf lg, fun w => ref5OnG R f g w rf rg lf lg⟩
    · exact ⟨false, fun w hg => g1OnF K f g w hg rf rg lf, fun w => ref5OnF R f g w rf rg lf⟩
end Go.Proofs.YtoehglidlakahaaDoor.fpn

/- Points out of numbers. -/
namespace Go.Proofs.YtoehglidlakahaaDoor.Pl
open Go Go.RowKit
set_option linter.unusedSimpArgs false
set_option linter.unusedVariables false

section
variable {P : Program}
theorem remU (t : TypeId) (n m r : Nat) (hm : 0 < m) (hr : n % m = r) (w : World) : (binOp .rem t (.int .u64 (n : Int)) (.int .u64 (m : Int))).run P w = .ok (.int .u64 (r : Int)) w := by
  have e0 : (n : Int).tmod (m : Int) = (r : Int) := by rw [Int.tmod_eq_emod_of_nonneg (by omega), ← hr]; rfl
  have h0 : ¬ (m : Int) = 0 := by omega
  have h1 : ¬ m = 0 := by omega
  simp [binOp, Sem.run_bind, Op.intDiv, e0, h0, h1]
theorem quoU (t : TypeId) (n m r : Nat) (hm : 0 < m) (hn : n < 18446744073709551616) (hr : n / m = r) (w : World) : (binOp .quo t (.int .u64 (n : Int)) (.int .u64 (m : Int))).run P w = .ok (.int .u64 (r : Int)) w := by
  have e0 : (n : Int).tdiv (m : Int) = (r : Int) := by rw [Int.tdiv_eq_ediv_of_nonneg (by omega), ← hr]; rfl
  have hle : r ≤ n := by rw [← hr]; exact Nat.div_le_self _ _
  have e : IntKind.u64.wrap (r : Int) = (r : Int) := by unfold IntKind.wrap; simp [IntKind.bits, IntKind.signed]; omega
  have h0 : ¬ (m : Int) = 0 := by omega
  have h1 : ¬ m = 0 := by omega
  simp [binOp, Sem.run_bind, Op.intDiv, e0, h0, h1, e]
theorem lssU (t : TypeId) (a b : Int) (w : World) : (binOp .lss t (.int .u64 a) (.int .u64 b)).run P w = .ok (.bool (decide (a < b))) w := by
  simp [binOp, Sem.run_bind, Op.intCmp]
end
end Go.Proofs.YtoehglidlakahaaDoor.Pl
namespace Go.Proofs.YtoehglidlakahaaDoor.fpn
open Go.RowKit Pl EC
set_option linter.unusedVariables false
set_option linter.unusedSimpArgs false
set_option maxRecDepth 4000

def ofn (k : Nat) : F := Fin.ofNat RN k
def ocube (k : Nat) : F := ofn k * ofn k * ofn k + 4
theorem refOfN (R : RefK) (k : Nat) (w : World) (hk : k < 2000000) : Calls Tryd.prog 50 #[.int .u64 ((k : Nat) : Int)] w (Ret (FV (ofn k)) w) :=
  Calls.mono (refOf_any (k : Int) w) fun e w' ⟨h1, h2⟩ => ⟨by
    rw [h1]
    have hv : (ofn k).val = k := Nat.mod_eq_of_lt (Nat.lt_trans hk (by decide +kernel))
    have h0 : lb k 0 = (k : Int) := by unfold lb; simp [Nat.mod_eq_of_lt (show k < 18446744073709551616 by omega)]
    have hj : ∀ j, 0 < j → lb k j = 0 := fun j hj => by
      unfold lb
      have : k / 2 ^ (64 * j) = 0 := Nat.div_eq_of_lt (Nat.lt_of_lt_of_le (show k < 2 ^ 64 by omega) (Nat.pow_le_pow_right (by decide) (by omega)))
      rw [this]; rfl
    rw [FV_agg, hv, h0, hj 1 (by decide), hj 2 (by decide), hj 3 (by decide), hj 4 (by decide), hj 5 (by decide)], h2⟩
/-- The first place from m + i on, of so many. -/
noncomputable def outAt (m : Nat) : Nat → Nat → G1p × Bool
  | 0, _ => (⟨0, 0, false⟩, false)
  | L + 1, i => if isq (ocube (m + i)) = true then (⟨ofn (m + i), root (ocube (m + i)), false⟩, true) else outAt m L (i + 1)
theorem out_yes {m L i : Nat} (h : isq (ocube (m + i)) = true) : outAt m (L + 1) i = (⟨ofn (m + i), root (ocube (m + i)), false⟩, true) := if_pos h
theorem out_no {m L i : Nat} (h : isq (ocube (m + i)) = false) : outAt m (L + 1) i = outAt m L (i + 1) := if_neg (by rw [h]; decide)
theorem out_or (m : Nat) : ∀ (L i : Nat), (∃ P : Pt F, On (4 : F) P ∧ outAt m L i = (gp P, true)) ∨ outAt m L i = (⟨0, 0, false⟩, false)
  | 0, i => .inr rfl
  | L + 1, i => by
    cases h : isq (ocube (m + i)) with
    | false => rw [out_no h]; exact out_or m L (i + 1)
    | true =>
      refine .inl ⟨.aff (ofn (m + i)) (root (ocube (m + i))), ?_, out_yes h⟩
      exact root_sq h
/-- What the rounds of Out keep. -/
def outI (n : Nat) (w : World) (b2 : Nat) : Nat → Act → World → Prop := fun L a' w' => ∃ (i : Nat) (u1 u5 u6 u7 u8 u9 u10 u11 u12 u13 u14 u15 u16 u17 u18 u19 u20 u21 u22 u23 u24 u25 u26 u27 u28 u29 u30 u31 u32 : Value),
  a' = { tmps := #[.int .u64 ((n : Nat) : Int), u1, .pointer (some ⟨b2, 0, none⟩), .bool false, .int .u64 ((i : Nat) : Int), u5, u6, u7, u8, u9, u10, u11, u12, u13, u14, u15, u16, u17, u18, u19, u20, u21, u22, u23, u24, u25, u26, u27, u28, u29, u30, u31, u32], defers := [] } ∧ i + L = 20 ∧ outAt (n % 1000000) L i = outAt (n % 1000000) 20 0 ∧ Heap w.heap.size w w' [(b2, GC ⟨0, 0, false⟩)]

set_option maxHeartbeats 4000000 in
theorem refOut (R : RefK) (n : Nat) (w : World) (hn : n < 18446744073709551616) : Calls Tryd.prog 25 #[.int .u64 ((n : Nat) : Int)] w (Ret (.tuple #[GV (outAt (n % 1000000) 20 0).1, .bool (outAt (n % 1000000) 20 0).2]) w) := by
  have hp0 := Heap.start w
  go_enter Tryd.func25, Tryd.ntmps25
  refine wp_seq_k (fun K1 k1 => ?_)
  refine gs [.alloc (GC ⟨0, 0, false⟩), .det (.bool false)] [0, 1] [0, 0] (fun L => [.int .u64 ((n : Nat) : Int), undef, pt (L.b 0) 0, .bool false] ++ U 29) (fun L => [(L.b 0, GC ⟨0, 0, false⟩)]) hp0 ⟨
    oZ rG, oA,
    trivial⟩ (fun L0 w1 hp1 => ?_)
  refine k1 _ _ ?_
  refine wp_seq_k (fun K2 k2 => ?_)
  refine wp_seq_k (fun K3 k3 => ?_)
  refine gs [.det (.int .u64 0)] [0] [0] (fun L => [.int .u64 ((n : Nat) : Int), undef, pt (L0.b 0) 0, .bool false, .int .u64 0] ++ U 28) (fun L => [((L0.b 0), GC ⟨0, 0, false⟩)]) hp1 ⟨
    oA,
    trivial⟩ (fun L1 w2 hp2 => ?_)
  refine k3 _ _ ?_
  refine wp_block_k (fun K4 k4 => ?_)
  refine wp_loop_ghost (outI n w (L0.b 0)) 20 ⟨0, undef, undef, undef, undef, undef, undef, undef, undef, undef, undef, undef, undef, undef, undef, undef, undef, undef, undef, undef, undef, undef, undef, undef, undef, undef, undef, undef, undef, undef, rfl, rfl, rfl, hp2⟩ ?_
  rintro L a' W ⟨i, u1, u5, u6, u7, u8, u9, u10, u11, u12, u13, u14, u15, u16, u17, u18, u19, u20, u21, u22, u23, u24, u25, u26, u27, u28, u29, u30, u31, u32, rfl, hL, hy, hJ⟩
  by_cases hL0 : L = 0
  rotate_left
  · skip
    obtain ⟨m, rfl⟩ : ∃ m, L = m + 1 := ⟨L - 1, by omega⟩
    cases hq : isq (ocube ((n % 1000000) + i))
    · skip
      refine wp_seq_k (fun K5 k5 => ?_)
      refine wp_seq_k (fun K6 k6 => ?_)
      refine gs [.det (.int .u64 ((i : Nat) : Int)), .det (.bool true)] [0, 1] [0, 1] (fun L => [.int .u64 ((n : Nat) : Int), u1, pt (L0.b 0) 0, .bool false, .int .u64 ((i : Nat) : Int), u5, u6, u7, .int .u64 ((i : Nat) : Int), .bool true, u10, u11, u12, u13, u14, u15, u16, u17, u18, u19, u20, u21, u22, u23, u24, u25, u26, u27, u28, u29, u30, u31, u32]) (fun L => [((L0.b 0), GC ⟨0, 0, false⟩)]) hJ ⟨
        oM, oJ .u64 .u64 ((i : Nat) : Int) 20 (h := fun w => (lssU _ _ _ w).trans (by rw [decide_eq_true (by omega)])),
        trivial⟩ (fun L2 w3 hp3 => ?_)
      refine k6 _ _ ?_
      refine wp_cond_true (by kernel_rfl) ?_
      refine skips ?_
      refine k5 _ _ ?_
      refine wp_seq_k (fun K7 k7 => ?_)
      refine wp_block_k (fun K8 k8 => ?_)
      refine wp_seq_k (fun K9 k9 => ?_)
      refine gs [.det (.int .u64 ((n : Nat) : Int)), .det (.int .u64 (((n % 1000000) : Nat) : Int)), .det (.int .u64 ((i : Nat) : Int)), .det (.int .u64 ((n % 1000000 + i : Nat) : Int)), .det (FV (ofn ((n % 1000000) + i))), .alloc (FC 0), .store (.new 5) 0 (FC (ofn ((n % 1000000) + i))) (FC (ofn ((n % 1000000) + i)))] [0, 1, 2, 3, 4, 5, 6] [0, 1, 0, 7, 15, 0, 63] (fun L => [.int .u64 ((n : Nat) : Int), u1, pt (L0.b 0) 0, .bool false, .int .u64 ((i : Nat) : Int), pt (L.b 5) 0, u6, u7, .int .u64 ((i : Nat) : Int), .bool true, u10, u11, .int .u64 ((n : Nat) : Int), .int .u64 (((n % 1000000) : Nat) : Int), .int .u64 ((i : Nat) : Int), .int .u64 ((n % 1000000 + i : Nat) : Int), FV (ofn ((n % 1000000) + i)), u17, u18, u19, u20, u21, u22, u23, u24, u25, u26, u27, u28, u29, u30, u31, u32]) (fun L => [((L0.b 0), GC ⟨0, 0, false⟩), (L.b 5, FC (ofn ((n % 1000000) + i)))]) hp3 ⟨
        oM, oJ .u64 .u64 ((n : Nat) : Int) 1000000 (h := fun w => remU _ n 1000000 (n % 1000000) (by decide) rfl w), oM, oJ .u64 .u64 (((n % 1000000) : Nat) : Int) ((i : Nat) : Int) (h := fun w => add64 _ (n % 1000000) i (by omega) w),
        oH (v := FV (ofn ((n % 1000000) + i))) (vs := #[.int .u64 ((n % 1000000 + i : Nat) : Int)]) (fun w _ _ => refOfN R ((n % 1000000) + i) w (by omega)), oZ rF,
        oT rF,
        trivial⟩ (fun L3 w4 hp4 => ?_)
      refine k9 _ _ ?_
      refine wp_seq_k (fun K10 k10 => ?_)
      refine dr [.det (FV (ofn ((n % 1000000) + i))), .det (FV (ofn ((n % 1000000) + i))), .det (FV ((ofn ((n % 1000000) + i)) * (ofn ((n % 1000000) + i)))), .det (FV (ofn ((n % 1000000) + i))), .det (FV (((ofn ((n % 1000000) + i)) * (ofn ((n % 1000000) + i))) * (ofn ((n % 1000000) + i)))), .det (FV 4), .det (FV ((((ofn ((n % 1000000) + i)) * (ofn ((n % 1000000) + i))) * (ofn ((n % 1000000) + i))) + 4)), .det (.tuple #[FV (root (ocube ((n % 1000000) + i))), .bool false]), .det (.tuple #[FV (root (ocube ((n % 1000000) + i))), .bool false]), .det (FV (root (ocube ((n % 1000000) + i)))), .det (.bool false), .alloc (FC 0), .store (.new 11) 0 (FC (root (ocube ((n % 1000000) + i)))) (FC (root (ocube ((n % 1000000) + i)))), .det (.bool false)] [0, 1, 2, 3, 4, 5, 6, 7, 8, 9, 10, 11, 12, 13] [0, 0, 3, 0, 15, 31, 63, 127, 255, 511, 511, 0, 3071, 8191] (fun L => [.int .u64 ((n : Nat) : Int), u1, pt (L0.b 0) 0, .bool false, .int .u64 ((i : Nat) : Int), pt (L3.b 5) 0, pt (L.b 11) 0, .bool false, .int .u64 ((i : Nat) : Int), .bool true, u10, u11, .int .u64 ((n : Nat) : Int), .int .u64 (((n % 1000000) : Nat) : Int), .int .u64 ((i : Nat) : Int), .int .u64 ((n % 1000000 + i : Nat) : Int), FV (ofn ((n % 1000000) + i)), .tuple #[FV (root (ocube ((n % 1000000) + i))), .bool false], FV (ofn ((n % 1000000) + i)), FV (ofn ((n % 1000000) + i)), FV ((ofn ((n % 1000000) + i)) * (ofn ((n % 1000000) + i))), FV (ofn ((n % 1000000) + i)), FV (((ofn ((n % 1000000) + i)) * (ofn ((n % 1000000) + i))) * (ofn ((n % 1000000) + i))), FV 4, FV ((((ofn ((n % 1000000) + i)) * (ofn ((n % 1000000) + i))) * (ofn ((n % 1000000) + i))) + 4), .tuple #[FV (root (ocube ((n % 1000000) + i))), .bool false], FV (root (ocube ((n % 1000000) + i))), .bool false, u28, u29, u30, u31, u32]) (fun L => [((L0.b 0), GC ⟨0, 0, false⟩), ((L3.b 5), FC (ofn ((n % 1000000) + i))), (L.b 11, FC (root (ocube ((n % 1000000) + i))))]) hp4 ⟨
        oL 1 0 rF, oL 1 0 rF, oR (fun w => R.mul (ofn ((n % 1000000) + i)) (ofn ((n % 1000000) + i)) w trivial), oL 1 0 rF, oR (fun w => R.mul ((ofn ((n % 1000000) + i)) * (ofn ((n % 1000000) + i))) (ofn ((n % 1000000) + i)) w trivial),
        oR R.of4, oR (fun w => R.add (((ofn ((n % 1000000) + i)) * (ofn ((n % 1000000) + i))) * (ofn ((n % 1000000) + i))) 4 w trivial), oH (v := .tuple #[FV (root (ocube ((n % 1000000) + i))), .bool false]) (vs := #[FV ((((ofn ((n % 1000000) + i)) * (ofn ((n % 1000000) + i))) * (ofn ((n % 1000000) + i))) + 4)]) (fun w _ _ => by have h := R.sqrt (ocube ((n % 1000000) + i)) w trivial; rw [hq] at h; exact h),
        oM, oX, oX, oZ rF, oT rF, oA,
        trivial⟩ (fun L4 w5 hp5 => ?_)
      refine k10 _ _ ?_
      refine wp_seq_k (fun K11 k11 => ?_)
      refine gs [.det (.bool false)] [0] [0] (fun L => [.int .u64 ((n : Nat) : Int), u1, pt (L0.b 0) 0, .bool false, .int .u64 ((i : Nat) : Int), pt (L3.b 5) 0, pt (L4.b 11) 0, .bool false, .int .u64 ((i : Nat) : Int), .bool true, u10, u11, .int .u64 ((n : Nat) : Int), .int .u64 (((n % 1000000) : Nat) : Int), .int .u64 ((i : Nat) : Int), .int .u64 ((n % 1000000 + i : Nat) : Int), FV (ofn ((n % 1000000) + i)), .tuple #[FV (root (ocube ((n % 1000000) + i))), .bool false], FV (ofn ((n % 1000000) + i)), FV (ofn ((n % 1000000) + i)), FV ((ofn ((n % 1000000) + i)) * (ofn ((n % 1000000) + i))), FV (ofn ((n % 1000000) + i)), FV (((ofn ((n % 1000000) + i)) * (ofn ((n % 1000000) + i))) * (ofn ((n % 1000000) + i))), FV 4, FV ((((ofn ((n % 1000000) + i)) * (ofn ((n % 1000000) + i))) * (ofn ((n % 1000000) + i))) + 4), .tuple #[FV (root (ocube ((n % 1000000) + i))), .bool false], FV (root (ocube ((n % 1000000) + i))), .bool false, .bool false, u29, u30, u31, u32]) (fun L => [((L0.b 0), GC ⟨0, 0, false⟩), ((L3.b 5), FC (ofn ((n % 1000000) + i))), ((L4.b 11), FC (root (ocube ((n % 1000000) + i))))]) hp5 ⟨
        oM,
        trivial⟩ (fun L5 w6 hp6 => ?_)
      refine k11 _ _ ?_
      refine wp_cond_false (by kernel_rfl) ?_
      refine skips ?_
      refine k8 _ _ _ ?_
      refine block_normal ?_
      refine k7 _ _ ?_
      refine gs [.det (.int .u64 ((i : Nat) : Int)), .det (.int .u64 ((i + 1 : Nat) : Int)), .det (.int .u64 ((i + 1 : Nat) : Int))] [0, 1, 2] [0, 1, 3] (fun L => [.int .u64 ((n : Nat) : Int), u1, pt (L0.b 0) 0, .bool false, .int .u64 ((i + 1 : Nat) : Int), pt (L3.b 5) 0, pt (L4.b 11) 0, .bool false, .int .u64 ((i : Nat) : Int), .bool true, .int .u64 ((i : Nat) : Int), .int .u64 ((i + 1 : Nat) : Int), .int .u64 ((n : Nat) : Int), .int .u64 (((n % 1000000) : Nat) : Int), .int .u64 ((i : Nat) : Int), .int .u64 ((n % 1000000 + i : Nat) : Int), FV (ofn ((n % 1000000) + i)), .tuple #[FV (root (ocube ((n % 1000000) + i))), .bool false], FV (ofn ((n % 1000000) + i)), FV (ofn ((n % 1000000) + i)), FV ((ofn ((n % 1000000) + i)) * (ofn ((n % 1000000) + i))), FV (ofn ((n % 1000000) + i)), FV (((ofn ((n % 1000000) + i)) * (ofn ((n % 1000000) + i))) * (ofn ((n % 1000000) + i))), FV 4, FV ((((ofn ((n % 1000000) + i)) * (ofn ((n % 1000000) + i))) * (ofn ((n % 1000000) + i))) + 4), .tuple #[FV (root (ocube ((n % 1000000) + i))), .bool false], FV (root (ocube ((n % 1000000) + i))), .bool false, .bool false, u29, u30, u31, u32]) (fun L => [((L0.b 0), GC ⟨0, 0, false⟩), ((L3.b 5), FC (ofn ((n % 1000000) + i))), ((L4.b 11), FC (root (ocube ((n % 1000000) + i))))]) hp6 ⟨
        oM, oJ .u64 .u64 ((i : Nat) : Int) 1 (h := fun w => add64 _ i 1 (by omega) w), oA,
        trivial⟩ (fun L6 w7 hp7 => ?_)
      exact ⟨m, Nat.lt_succ_self _, i + 1, u1, pt (L3.b 5) 0, pt (L4.b 11) 0, .bool false, .int .u64 ((i : Nat) : Int), .bool true, .int .u64 ((i : Nat) : Int), .int .u64 ((i + 1 : Nat) : Int), .int .u64 ((n : Nat) : Int), .int .u64 (((n % 1000000) : Nat) : Int), .int .u64 ((i : Nat) : Int), .int .u64 ((n % 1000000 + i : Nat) : Int), FV (ofn ((n % 1000000) + i)), .tuple #[FV (root (ocube ((n % 1000000) + i))), .bool false], FV (ofn ((n % 1000000) + i)), FV (ofn ((n % 1000000) + i)), FV ((ofn ((n % 1000000) + i)) * (ofn ((n % 1000000) + i))), FV (ofn ((n % 1000000) + i)), FV (((ofn ((n % 1000000) + i)) * (ofn ((n % 1000000) + i))) * (ofn ((n % 1000000) + i))), FV 4, FV ((((ofn ((n % 1000000) + i)) * (ofn ((n % 1000000) + i))) * (ofn ((n % 1000000) + i))) + 4), .tuple #[FV (root (ocube ((n % 1000000) + i))), .bool false], FV (root (ocube ((n % 1000000) + i))), .bool false, .bool false, u29, u30, u31, u32, rfl, by omega, by rw [← hy, out_no hq], Heap.sub hp7 (List.sublist_append_left [_] [_, _])⟩
    · skip
      refine wp_seq_k (fun K12 k12 => ?_)
      refine wp_seq_k (fun K13 k13 => ?_)
      refine gs [.det (.int .u64 ((i : Nat) : Int)), .det (.bool true)] [0, 1] [0, 1] (fun L => [.int .u64 ((n : Nat) : Int), u1, pt (L0.b 0) 0, .bool false, .int .u64 ((i : Nat) : Int), u5, u6, u7, .int .u64 ((i : Nat) : Int), .bool true, u10, u11, u12, u13, u14, u15, u16, u17, u18, u19, u20, u21, u22, u23, u24, u25, u26, u27, u28, u29, u30, u31, u32]) (fun L => [((L0.b 0), GC ⟨0, 0, false⟩)]) hJ ⟨
        oM, oJ .u64 .u64 ((i : Nat) : Int) 20 (h := fun w => (lssU _ _ _ w).trans (by rw [decide_eq_true (by omega)])),
        trivial⟩ (fun L7 w8 hp8 => ?_)
      refine k13 _ _ ?_
      refine wp_cond_true (by kernel_rfl) ?_
      refine skips ?_
      refine k12 _ _ ?_
      refine wp_seq_k (fun K14 k14 => ?_)
      refine wp_block_k (fun K15 k15 => ?_)
      refine wp_seq_k (fun K16 k16 => ?_)
      refine gs [.det (.int .u64 ((n : Nat) : Int)), .det (.int .u64 (((n % 1000000) : Nat) : Int)), .det (.int .u64 ((i : Nat) : Int)), .det (.int .u64 ((n % 1000000 + i : Nat) : Int)), .det (FV (ofn ((n % 1000000) + i))), .alloc (FC 0), .store (.new 5) 0 (FC (ofn ((n % 1000000) + i))) (FC (ofn ((n % 1000000) + i)))] [0, 1, 2, 3, 4, 5, 6] [0, 1, 0, 7, 15, 0, 63] (fun L => [.int .u64 ((n : Nat) : Int), u1, pt (L0.b 0) 0, .bool false, .int .u64 ((i : Nat) : Int), pt (L.b 5) 0, u6, u7, .int .u64 ((i : Nat) : Int), .bool true, u10, u11, .int .u64 ((n : Nat) : Int), .int .u64 (((n % 1000000) : Nat) : Int), .int .u64 ((i : Nat) : Int), .int .u64 ((n % 1000000 + i : Nat) : Int), FV (ofn ((n % 1000000) + i)), u17, u18, u19, u20, u21, u22, u23, u24, u25, u26, u27, u28, u29, u30, u31, u32]) (fun L => [((L0.b 0), GC ⟨0, 0, false⟩), (L.b 5, FC (ofn ((n % 1000000) + i)))]) hp8 ⟨
        oM, oJ .u64 .u64 ((n : Nat) : Int) 1000000 (h := fun w => remU _ n 1000000 (n % 1000000) (by decide) rfl w), oM, oJ .u64 .u64 (((n % 1000000) : Nat) : Int) ((i : Nat) : Int) (h := fun w => add64 _ (n % 1000000) i (by omega) w),
        oH (v := FV (ofn ((n % 1000000) + i))) (vs := #[.int .u64 ((n % 1000000 + i : Nat) : Int)]) (fun w _ _ => refOfN R ((n % 1000000) + i) w (by omega)), oZ rF,
        oT rF,
        trivial⟩ (fun L8 w9 hp9 => ?_)
      refine k16 _ _ ?_
      refine wp_seq_k (fun K17 k17 => ?_)
      refine dr [.det (FV (ofn ((n % 1000000) + i))), .det (FV (ofn ((n % 1000000) + i))), .det (FV ((ofn ((n % 1000000) + i)) * (ofn ((n % 1000000) + i)))), .det (FV (ofn ((n % 1000000) + i))), .det (FV (((ofn ((n % 1000000) + i)) * (ofn ((n % 1000000) + i))) * (ofn ((n % 1000000) + i)))), .det (FV 4), .det (FV ((((ofn ((n % 1000000) + i)) * (ofn ((n % 1000000) + i))) * (ofn ((n % 1000000) + i))) + 4)), .det (.tuple #[FV (root (ocube ((n % 1000000) + i))), .bool true]), .det (.tuple #[FV (root (ocube ((n % 1000000) + i))), .bool true]), .det (FV (root (ocube ((n % 1000000) + i)))), .det (.bool true), .alloc (FC 0), .store (.new 11) 0 (FC (root (ocube ((n % 1000000) + i)))) (FC (root (ocube ((n % 1000000) + i)))), .det (.bool true)] [0, 1, 2, 3, 4, 5, 6, 7, 8, 9, 10, 11, 12, 13] [0, 0, 3, 0, 15, 31, 63, 127, 255, 511, 511, 0, 3071, 8191] (fun L => [.int .u64 ((n : Nat) : Int), u1, pt (L0.b 0) 0, .bool false, .int .u64 ((i : Nat) : Int), pt (L8.b 5) 0, pt (L.b 11) 0, .bool true, .int .u64 ((i : Nat) : Int), .bool true, u10, u11, .int .u64 ((n : Nat) : Int), .int .u64 (((n % 1000000) : Nat) : Int), .int .u64 ((i : Nat) : Int), .int .u64 ((n % 1000000 + i : Nat) : Int), FV (ofn ((n % 1000000) + i)), .tuple #[FV (root (ocube ((n % 1000000) + i))), .bool true], FV (ofn ((n % 1000000) + i)), FV (ofn ((n % 1000000) + i)), FV ((ofn ((n % 1000000) + i)) * (ofn ((n % 1000000) + i))), FV (ofn ((n % 1000000) + i)), FV (((ofn ((n % 1000000) + i)) * (ofn ((n % 1000000) + i))) * (ofn ((n % 1000000) + i))), FV 4, FV ((((ofn ((n % 1000000) + i)) * (ofn ((n % 1000000) + i))) * (ofn ((n % 1000000) + i))) + 4), .tuple #[FV (root (ocube ((n % 1000000) + i))), .bool true], FV (root (ocube ((n % 1000000) + i))), .bool true, u28, u29, u30, u31, u32]) (fun L => [((L0.b 0), GC ⟨0, 0, false⟩), ((L8.b 5), FC (ofn ((n % 1000000) + i))), (L.b 11, FC (root (ocube ((n % 1000000) + i))))]) hp9 ⟨
        oL 1 0 rF, oL 1 0 rF, oR (fun w => R.mul (ofn ((n % 1000000) + i)) (ofn ((n % 1000000) + i)) w trivial), oL 1 0 rF, oR (fun w => R.mul ((ofn ((n % 1000000) + i)) * (ofn ((n % 1000000) + i))) (ofn ((n % 1000000) + i)) w trivial),
        oR R.of4, oR (fun w => R.add (((ofn ((n % 1000000) + i)) * (ofn ((n % 1000000) + i))) * (ofn ((n % 1000000) + i))) 4 w trivial), oH (v := .tuple #[FV (root (ocube ((n % 1000000) + i))), .bool true]) (vs := #[FV ((((ofn ((n % 1000000) + i)) * (ofn ((n % 1000000) + i))) * (ofn ((n % 1000000) + i))) + 4)]) (fun w _ _ => by have h := R.sqrt (ocube ((n % 1000000) + i)) w trivial; rw [hq] at h; exact h),
        oM, oX, oX, oZ rF, oT rF, oA,
        trivial⟩ (fun L9 w10 hp10 => ?_)
      refine k17 _ _ ?_
      refine wp_seq_k (fun K18 k18 => ?_)
      refine gs [.det (.bool true)] [0] [0] (fun L => [.int .u64 ((n : Nat) : Int), u1, pt (L0.b 0) 0, .bool false, .int .u64 ((i : Nat) : Int), pt (L8.b 5) 0, pt (L9.b 11) 0, .bool true, .int .u64 ((i : Nat) : Int), .bool true, u10, u11, .int .u64 ((n : Nat) : Int), .int .u64 (((n % 1000000) : Nat) : Int), .int .u64 ((i : Nat) : Int), .int .u64 ((n % 1000000 + i : Nat) : Int), FV (ofn ((n % 1000000) + i)), .tuple #[FV (root (ocube ((n % 1000000) + i))), .bool true], FV (ofn ((n % 1000000) + i)), FV (ofn ((n % 1000000) + i)), FV ((ofn ((n % 1000000) + i)) * (ofn ((n % 1000000) + i))), FV (ofn ((n % 1000000) + i)), FV (((ofn ((n % 1000000) + i)) * (ofn ((n % 1000000) + i))) * (ofn ((n % 1000000) + i))), FV 4, FV ((((ofn ((n % 1000000) + i)) * (ofn ((n % 1000000) + i))) * (ofn ((n % 1000000) + i))) + 4), .tuple #[FV (root (ocube ((n % 1000000) + i))), .bool true], FV (root (ocube ((n % 1000000) + i))), .bool true, .bool true, u29, u30, u31, u32]) (fun L => [((L0.b 0), GC ⟨0, 0, false⟩), ((L8.b 5), FC (ofn ((n % 1000000) + i))), ((L9.b 11), FC (root (ocube ((n % 1000000) + i))))]) hp10 ⟨
        oM,
        trivial⟩ (fun L10 w11 hp11 => ?_)
      refine k18 _ _ ?_
      refine wp_cond_true (by kernel_rfl) ?_
      refine wp_seq_k (fun K19 k19 => ?_)
      refine gs [.det (FV (ofn ((n % 1000000) + i))), .det (FV (root (ocube ((n % 1000000) + i)))), .det (GV ⟨(ofn ((n % 1000000) + i)), (root (ocube ((n % 1000000) + i))), false⟩), .store (.base 0) 0 (GC ⟨(ofn ((n % 1000000) + i)), (root (ocube ((n % 1000000) + i))), false⟩) (GC ⟨(ofn ((n % 1000000) + i)), (root (ocube ((n % 1000000) + i))), false⟩), .det (.bool true)] [0, 1, 2, 3, 4] [0, 0, 3, 7, 15] (fun L => [.int .u64 ((n : Nat) : Int), u1, pt (L0.b 0) 0, .bool true, .int .u64 ((i : Nat) : Int), pt (L8.b 5) 0, pt (L9.b 11) 0, .bool true, .int .u64 ((i : Nat) : Int), .bool true, u10, u11, .int .u64 ((n : Nat) : Int), .int .u64 (((n % 1000000) : Nat) : Int), .int .u64 ((i : Nat) : Int), .int .u64 ((n % 1000000 + i : Nat) : Int), FV (ofn ((n % 1000000) + i)), .tuple #[FV (root (ocube ((n % 1000000) + i))), .bool true], FV (ofn ((n % 1000000) + i)), FV (ofn ((n % 1000000) + i)), FV ((ofn ((n % 1000000) + i)) * (ofn ((n % 1000000) + i))), FV (ofn ((n % 1000000) + i)), FV (((ofn ((n % 1000000) + i)) * (ofn ((n % 1000000) + i))) * (ofn ((n % 1000000) + i))), FV 4, FV ((((ofn ((n % 1000000) + i)) * (ofn ((n % 1000000) + i))) * (ofn ((n % 1000000) + i))) + 4), .tuple #[FV (root (ocube ((n % 1000000) + i))), .bool true], FV (root (ocube ((n % 1000000) + i))), .bool true, .bool true, FV (ofn ((n % 1000000) + i)), FV (root (ocube ((n % 1000000) + i))), GV ⟨(ofn ((n % 1000000) + i)), (root (ocube ((n % 1000000) + i))), false⟩, u32]) (fun L => [((L0.b 0), GC ⟨(ofn ((n % 1000000) + i)), (root (ocube ((n % 1000000) + i))), false⟩), ((L8.b 5), FC (ofn ((n % 1000000) + i))), ((L9.b 11), FC (root (ocube ((n % 1000000) + i))))]) hp11 ⟨
        oL 1 0 rF, oL 2 0 rF, oD (buildG01 (ofn ((n % 1000000) + i)) (root (ocube ((n % 1000000) + i)))), oT rG, oA,
        trivial⟩ (fun L11 w12 hp12 => ?_)
      refine k19 _ _ ?_
      refine wp_ret ?_
      refine k15 _ _ _ ?_
      refine k4 _ _ _ ?_
      refine bodyPost_ret (v := .tuple #[GV ⟨(ofn ((n % 1000000) + i)), (root (ocube ((n % 1000000) + i))), false⟩, .bool true]) ?_ rfl ?_
      · exact rct rG rfl (by kernel_rfl) (by kernel_rfl) (hp12.bound 0 rfl).2
      · exact ⟨by rw [← hy, out_yes hq], hp12.bel⟩
  subst hL0
  obtain rfl : i = 20 := by omega
  refine wp_seq_k (fun K20 k20 => ?_)
  refine wp_seq_k (fun K21 k21 => ?_)
  refine gs [.det (.int .u64 ((20 : Nat) : Int)), .det (.bool false)] [0, 1] [0, 1] (fun L => [.int .u64 ((n : Nat) : Int), u1, pt (L0.b 0) 0, .bool false, .int .u64 ((20 : Nat) : Int), u5, u6, u7, .int .u64 ((20 : Nat) : Int), .bool false, u10, u11, u12, u13, u14, u15, u16, u17, u18, u19, u20, u21, u22, u23, u24, u25, u26, u27, u28, u29, u30, u31, u32]) (fun L => [((L0.b 0), GC ⟨0, 0, false⟩)]) hJ ⟨
    oM, oJ .u64 .u64 ((20 : Nat) : Int) 20 (h := fun w => (lssU _ _ _ w).trans (by rw [decide_eq_false (by omega)])),
    trivial⟩ (fun L12 w13 hp13 => ?_)
  refine k21 _ _ ?_
  refine wp_cond_false (by kernel_rfl) ?_
  refine wp_exit ?_
  refine then_exit ?_
  refine then_exit ?_
  refine k4 _ _ _ ?_
  refine exit_in ?_
  refine k2 _ _ ?_
  refine wp_seq_k (fun K22 k22 => ?_)
  refine gs [.det (GV ⟨0, 0, false⟩), .store (.base 0) 0 (GC ⟨0, 0, false⟩) (GC ⟨0, 0, false⟩), .det (.bool false)] [0, 1, 2] [0, 1, 3] (fun L => [.int .u64 ((n : Nat) : Int), u1, pt (L0.b 0) 0, .bool false, .int .u64 ((20 : Nat) : Int), u5, u6, u7, .int .u64 ((20 : Nat) : Int), .bool false, u10, u11, u12, u13, u14, u15, u16, u17, u18, u19, u20, u21, u22, u23, u24, u25, u26, u27, u28, u29, u30, u31, GV ⟨0, 0, false⟩]) (fun L => [((L0.b 0), GC ⟨0, 0, false⟩)]) hp13 ⟨
    oD buildGn, oT rG, oA,
    trivial⟩ (fun L13 w14 hp14 => ?_)
  refine k22 _ _ ?_
  refine wp_ret ?_
  refine bodyPost_ret (v := .tuple #[GV ⟨0, 0, false⟩, .bool false]) ?_ rfl ?_
  · exact rct rG rfl (by kernel_rfl) (by kernel_rfl) (hp14.bound 0 rfl).2
  · exact ⟨by rw [← hy]; rfl, hp14.bel⟩
/-- Out tells a place of the curve, or none. -/
theorem refOut_or (R : RefK) (n : Nat) (hn : n < 18446744073709551616) : (∃ P : Pt F, On (4 : F) P ∧ ∀ w, Calls Tryd.prog 25 #[.int .u64 ((n : Nat) : Int)] w (Ret (.tuple #[GV (gp P), .bool true]) w)) ∨
    (∀ w, Calls Tryd.prog 25 #[.int .u64 ((n : Nat) : Int)] w (Ret (.tuple #[GV ⟨0, 0, false⟩, .bool false]) w)) := by
  have h := fun w => refOut R n w hn
  rcases out_or (n % 1000000) 20 0 with ⟨P, hP, e⟩ | e
  · exact .inl ⟨P, hP, fun w => by have := h w; rw [e] at this; exact this⟩
  · exact .inr fun w => by have := h w; rw [e] at this; exact this
set_option maxHeartbeats 4000000 in
theorem point0 (R : RefK) (P g : Pt F) (k n : Nat) (w : World) (hgn : g = gen1) (hk : k < 2 ^ 256) (hO : ∀ w, Calls Tryd.prog 25 #[.int .u64 ((n : Nat) : Int)] w (Ret (.tuple #[GV (gp P), .bool true]) w)) : Calls Tryd.prog 11 #[RV k, .int .u64 ((n : Nat) : Int), .bool false] w (Ret (GV (gp (mul finv k g))) w) := by
  have hp0 := Heap.start w
  go_enter Tryd.func11, Tryd.ntmps11
  refine wp_seq_k (fun K1 k1 => ?_)
  refine gs [.alloc (RC k), .alloc (GC ⟨0, 0, false⟩)] [0, 1] [0, 0] (fun L => [RV k, .int .u64 ((n : Nat) : Int), .bool false, pt (L.b 0) 0, undef, undef, pt (L.b 1) 0] ++ U 15) (fun L => [(L.b 0, RC k), (L.b 1, GC ⟨0, 0, false⟩)]) hp0 ⟨
    oB, oZ rG,
    trivial⟩ (fun L0 w1 hp1 => ?_)
  refine k1 _ _ ?_
  refine wp_seq_k (fun K2 k2 => ?_)
  refine gs [.det (.int .u64 ((n : Nat) : Int)), .det (.tuple #[GV (gp P), .bool true]), .det (.tuple #[GV (gp P), .bool true]), .det (GV (gp P)), .det (.bool true), .alloc (GC ⟨0, 0, false⟩), .store (.new 5) 0 (GC (gp P)) (GC (gp P)), .det (.bool true)] [0, 1, 2, 3, 4, 5, 6, 7] [0, 1, 3, 7, 7, 0, 47, 127] (fun L => [RV k, .int .u64 ((n : Nat) : Int), .bool false, pt (L0.b 0) 0, undef, undef, pt (L0.b 1) 0, pt (L.b 5) 0, .bool true, .tuple #[GV (gp P), .bool true], .int .u64 ((n : Nat) : Int), .tuple #[GV (gp P), .bool true], GV (gp P), .bool true] ++ U 8) (fun L => [((L0.b 0), RC k), ((L0.b 1), GC ⟨0, 0, false⟩), (L.b 5, GC (gp P))]) hp1 ⟨
    oM, oR hO, oM, oX, oX, oZ rG, oT rG, oA,
    trivial⟩ (fun L1 w2 hp2 => ?_)
  refine k2 _ _ ?_
  refine wp_seq_k (fun K3 k3 => ?_)
  refine wp_seq_k (fun K4 k4 => ?_)
  refine gs [.det (.bool false), .det (.bool false), .det undef, .det (.bool false)] [0, 1, 2, 3] [0, 1, 3, 7] (fun L => [RV k, .int .u64 ((n : Nat) : Int), .bool false, pt (L0.b 0) 0, undef, undef, pt (L0.b 1) 0, pt (L1.b 5) 0, .bool true, .tuple #[GV (gp P), .bool true], .int .u64 ((n : Nat) : Int), .tuple #[GV (gp P), .bool true], GV (gp P), .bool true, .bool false, .bool false, undef, .bool false] ++ U 4) (fun L => [((L0.b 0), RC k), ((L0.b 1), GC ⟨0, 0, false⟩), ((L1.b 5), GC (gp P))]) hp2 ⟨
    oM, oM, oS, oP,
    trivial⟩ (fun L2 w3 hp3 => ?_)
  refine k4 _ _ ?_
  refine wp_cond_false (by kernel_rfl) ?_
  refine skips ?_
  refine k3 _ _ ?_
  refine wp_seq_k (fun K5 k5 => ?_)
  refine dr [.det (GV (gp g)), .det (RV k), .det (GV (gp (mul finv k g))), .store (.base 1) 0 (GC (gp (mul finv k g))) (GC (gp (mul finv k g)))] [0, 1, 2, 3] [0, 0, 3, 7] (fun L => [RV k, .int .u64 ((n : Nat) : Int), .bool false, pt (L0.b 0) 0, undef, undef, pt (L0.b 1) 0, pt (L1.b 5) 0, .bool true, .tuple #[GV (gp P), .bool true], .int .u64 ((n : Nat) : Int), .tuple #[GV (gp P), .bool true], GV (gp P), .bool true, .bool false, .bool false, undef, .bool false, undef, GV (gp g), RV k, GV (gp (mul finv k g))]) (fun L => [((L0.b 0), RC k), ((L0.b 1), GC (gp (mul finv k g))), ((L1.b 5), GC (gp P))]) hp3 ⟨
    oH (v := GV (gp g)) (vs := #[]) (fun w _ _ => by have h := ref5Gen1 R w; rw [← hgn] at h; exact h), oL 0 0 rR, oH (v := GV (gp (mul finv k g))) (vs := #[GV (gp g), RV k]) (fun w _ _ => ref5Times1 R g k w (by rw [hgn]; exact gen1_on) hk),
    oT rG,
    trivial⟩ (fun L3 w4 hp4 => ?_)
  refine k5 _ _ ?_
  refine wp_ret ?_
  refine bodyPost_ret (v := GV (gp (mul finv k g))) ?_ rfl ?_
  · exact rc rG rfl (by kernel_rfl) (hp4.bound 1 rfl).2
  · exact ⟨rfl, hp4.bel⟩
set_option maxHeartbeats 4000000 in
theorem point1 (R : RefK) (P g : Pt F) (k n : Nat) (w : World) (hgn : g = gen1) (hk : k < 2 ^ 256) (hO : ∀ w, Calls Tryd.prog 25 #[.int .u64 ((n : Nat) : Int)] w (Ret (.tuple #[GV (gp P), .bool true]) w)) : Calls Tryd.prog 11 #[RV k, .int .u64 ((n : Nat) : Int), .bool true] w (Ret (GV (gp P)) w) := by
  have hp0 := Heap.start w
  go_enter Tryd.func11, Tryd.ntmps11
  refine wp_seq_k (fun K1 k1 => ?_)
  refine gs [.alloc (RC k), .alloc (GC ⟨0, 0, false⟩)] [0, 1] [0, 0] (fun L => [RV k, .int .u64 ((n : Nat) : Int), .bool true, pt (L.b 0) 0, undef, undef, pt (L.b 1) 0] ++ U 15) (fun L => [(L.b 0, RC k), (L.b 1, GC ⟨0, 0, false⟩)]) hp0 ⟨
    oB, oZ rG,
    trivial⟩ (fun L0 w1 hp1 => ?_)
  refine k1 _ _ ?_
  refine wp_seq_k (fun K2 k2 => ?_)
  refine gs [.det (.int .u64 ((n : Nat) : Int)), .det (.tuple #[GV (gp P), .bool true]), .det (.tuple #[GV (gp P), .bool true]), .det (GV (gp P)), .det (.bool true), .alloc (GC ⟨0, 0, false⟩), .store (.new 5) 0 (GC (gp P)) (GC (gp P)), .det (.bool true)] [0, 1, 2, 3, 4, 5, 6, 7] [0, 1, 3, 7, 7, 0, 47, 127] (fun L => [RV k, .int .u64 ((n : Nat) : Int), .bool true, pt (L0.b 0) 0, undef, undef, pt (L0.b 1) 0, pt (L.b 5) 0, .bool true, .tuple #[GV (gp P), .bool true], .int .u64 ((n : Nat) : Int), .tuple #[GV (gp P), .bool true], GV (gp P), .bool true] ++ U 8) (fun L => [((L0.b 0), RC k), ((L0.b 1), GC ⟨0, 0, false⟩), (L.b 5, GC (gp P))]) hp1 ⟨
    oM, oR hO, oM, oX, oX, oZ rG, oT rG, oA,
    trivial⟩ (fun L1 w2 hp2 => ?_)
  refine k2 _ _ ?_
  refine wp_seq_k (fun K3 k3 => ?_)
  refine wp_seq_k (fun K4 k4 => ?_)
  refine gs [.det (.bool true), .det (.bool true), .det (.bool true), .det (.bool true)] [0, 1, 2, 3] [0, 1, 3, 7] (fun L => [RV k, .int .u64 ((n : Nat) : Int), .bool true, pt (L0.b 0) 0, undef, undef, pt (L0.b 1) 0, pt (L1.b 5) 0, .bool true, .tuple #[GV (gp P), .bool true], .int .u64 ((n : Nat) : Int), .tuple #[GV (gp P), .bool true], GV (gp P), .bool true, .bool true, .bool true, .bool true, .bool true] ++ U 4) (fun L => [((L0.b 0), RC k), ((L0.b 1), GC ⟨0, 0, false⟩), ((L1.b 5), GC (gp P))]) hp2 ⟨
    oM, oM, oM, oP,
    trivial⟩ (fun L2 w3 hp3 => ?_)
  refine k4 _ _ ?_
  refine wp_cond_true (by kernel_rfl) ?_
  refine wp_seq_k (fun K5 k5 => ?_)
  refine gs [.det (GV (gp P)), .store (.base 1) 0 (GC (gp P)) (GC (gp P))] [0, 1] [0, 1] (fun L => [RV k, .int .u64 ((n : Nat) : Int), .bool true, pt (L0.b 0) 0, undef, undef, pt (L0.b 1) 0, pt (L1.b 5) 0, .bool true, .tuple #[GV (gp P), .bool true], .int .u64 ((n : Nat) : Int), .tuple #[GV (gp P), .bool true], GV (gp P), .bool true, .bool true, .bool true, .bool true, .bool true, GV (gp P), undef, undef, undef]) (fun L => [((L0.b 0), RC k), ((L0.b 1), GC (gp P)), ((L1.b 5), GC (gp P))]) hp3 ⟨
    oL 2 0 rG, oT rG,
    trivial⟩ (fun L3 w4 hp4 => ?_)
  refine k5 _ _ ?_
  refine wp_ret ?_
  refine bodyPost_ret (v := GV (gp P)) ?_ rfl ?_
  · exact rc rG rfl (by kernel_rfl) (hp4.bound 1 rfl).2
  · exact ⟨rfl, hp4.bel⟩
set_option maxHeartbeats 4000000 in
theorem point2 (R : RefK) (P g : Pt F) (k n : Nat) (w : World) (hgn : g = gen1) (hk : k < 2 ^ 256) (hO : ∀ w, Calls Tryd.prog 25 #[.int .u64 ((n : Nat) : Int)] w (Ret (.tuple #[GV ⟨0, 0, false⟩, .bool false]) w)) : Calls Tryd.prog 11 #[RV k, .int .u64 ((n : Nat) : Int), .bool false] w (Ret (GV (gp (mul finv k g))) w) := by
  have hp0 := Heap.start w
  go_enter Tryd.func11, Tryd.ntmps11
  refine wp_seq_k (fun K1 k1 => ?_)
  refine gs [.alloc (RC k), .alloc (GC ⟨0, 0, false⟩)] [0, 1] [0, 0] (fun L => [RV k, .int .u64 ((n : Nat) : Int), .bool false, pt (L.b 0) 0, undef, undef, pt (L.b 1) 0] ++ U 15) (fun L => [(L.b 0, RC k), (L.b 1, GC ⟨0, 0, false⟩)]) hp0 ⟨
    oB, oZ rG,
    trivial⟩ (fun L0 w1 hp1 => ?_)
  refine k1 _ _ ?_
  refine wp_seq_k (fun K2 k2 => ?_)
  refine gs [.det (.int .u64 ((n : Nat) : Int)), .det (.tuple #[GV ⟨0, 0, false⟩, .bool false]), .det (.tuple #[GV ⟨0, 0, false⟩, .bool false]), .det (GV ⟨0, 0, false⟩), .det (.bool false), .alloc (GC ⟨0, 0, false⟩), .store (.new 5) 0 (GC ⟨0, 0, false⟩) (GC ⟨0, 0, false⟩), .det (.bool false)] [0, 1, 2, 3, 4, 5, 6, 7] [0, 1, 3, 7, 7, 0, 47, 127] (fun L => [RV k, .int .u64 ((n : Nat) : Int), .bool false, pt (L0.b 0) 0, undef, undef, pt (L0.b 1) 0, pt (L.b 5) 0, .bool false, .tuple #[GV ⟨0, 0, false⟩, .bool false], .int .u64 ((n : Nat) : Int), .tuple #[GV ⟨0, 0, false⟩, .bool false], GV ⟨0, 0, false⟩, .bool false] ++ U 8) (fun L => [((L0.b 0), RC k), ((L0.b 1), GC ⟨0, 0, false⟩), (L.b 5, GC ⟨0, 0, false⟩)]) hp1 ⟨
    oM, oR hO, oM, oX, oX, oZ rG, oT rG, oA,
    trivial⟩ (fun L1 w2 hp2 => ?_)
  refine k2 _ _ ?_
  refine wp_seq_k (fun K3 k3 => ?_)
  refine wp_seq_k (fun K4 k4 => ?_)
  refine gs [.det (.bool false), .det (.bool false), .det undef, .det (.bool false)] [0, 1, 2, 3] [0, 1, 3, 7] (fun L => [RV k, .int .u64 ((n : Nat) : Int), .bool false, pt (L0.b 0) 0, undef, undef, pt (L0.b 1) 0, pt (L1.b 5) 0, .bool false, .tuple #[GV ⟨0, 0, false⟩, .bool false], .int .u64 ((n : Nat) : Int), .tuple #[GV ⟨0, 0, false⟩, .bool false], GV ⟨0, 0, false⟩, .bool false, .bool false, .bool false, undef, .bool false] ++ U 4) (fun L => [((L0.b 0), RC k), ((L0.b 1), GC ⟨0, 0, false⟩), ((L1.b 5), GC ⟨0, 0, false⟩)]) hp2 ⟨
    oM, oM, oS, oP,
    trivial⟩ (fun L2 w3 hp3 => ?_)
  refine k4 _ _ ?_
  refine wp_cond_false (by kernel_rfl) ?_
  refine skips ?_
  refine k3 _ _ ?_
  refine wp_seq_k (fun K5 k5 => ?_)
  refine dr [.det (GV (gp g)), .det (RV k), .det (GV (gp (mul finv k g))), .store (.base 1) 0 (GC (gp (mul finv k g))) (GC (gp (mul finv k g)))] [0, 1, 2, 3] [0, 0, 3, 7] (fun L => [RV k, .int .u64 ((n : Nat) : Int), .bool false, pt (L0.b 0) 0, undef, undef, pt (L0.b 1) 0, pt (L1.b 5) 0, .bool false, .tuple #[GV ⟨0, 0, false⟩, .bool false], .int .u64 ((n : Nat) : Int), .tuple #[GV ⟨0, 0, false⟩, .bool false], GV ⟨0, 0, false⟩, .bool false, .bool false, .bool false, undef, .bool false, undef, GV (gp g), RV k, GV (gp (mul finv k g))]) (fun L => [((L0.b 0), RC k), ((L0.b 1), GC (gp (mul finv k g))), ((L1.b 5), GC ⟨0, 0, false⟩)]) hp3 ⟨
    oH (v := GV (gp g)) (vs := #[]) (fun w _ _ => by have h := ref5Gen1 R w; rw [← hgn] at h; exact h), oL 0 0 rR, oH (v := GV (gp (mul finv k g))) (vs := #[GV (gp g), RV k]) (fun w _ _ => ref5Times1 R g k w (by rw [hgn]; exact gen1_on) hk),
    oT rG,
    trivial⟩ (fun L3 w4 hp4 => ?_)
  refine k5 _ _ ?_
  refine wp_ret ?_
  refine bodyPost_ret (v := GV (gp (mul finv k g))) ?_ rfl ?_
  · exact rc rG rfl (by kernel_rfl) (hp4.bound 1 rfl).2
  · exact ⟨rfl, hp4.bel⟩
set_option maxHeartbeats 4000000 in
theorem point3 (R : RefK) (P g : Pt F) (k n : Nat) (w : World) (hgn : g = gen1) (hk : k < 2 ^ 256) (hO : ∀ w, Calls Tryd.prog 25 #[.int .u64 ((n : Nat) : Int)] w (Ret (.tuple #[GV ⟨0, 0, false⟩, .bool false]) w)) : Calls Tryd.prog 11 #[RV k, .int .u64 ((n : Nat) : Int), .bool true] w (Ret (GV (gp (mul finv k g))) w) := by
  have hp0 := Heap.start w
  go_enter Tryd.func11, Tryd.ntmps11
  refine wp_seq_k (fun K1 k1 => ?_)
  refine gs [.alloc (RC k), .alloc (GC ⟨0, 0, false⟩)] [0, 1] [0, 0] (fun L => [RV k, .int .u64 ((n : Nat) : Int), .bool true, pt (L.b 0) 0, undef, undef, pt (L.b 1) 0] ++ U 15) (fun L => [(L.b 0, RC k), (L.b 1, GC ⟨0, 0, false⟩)]) hp0 ⟨
    oB, oZ rG,
    trivial⟩ (fun L0 w1 hp1 => ?_)
  refine k1 _ _ ?_
  refine wp_seq_k (fun K2 k2 => ?_)
  refine gs [.det (.int .u64 ((n : Nat) : Int)), .det (.tuple #[GV ⟨0, 0, false⟩, .bool false]), .det (.tuple #[GV ⟨0, 0, false⟩, .bool false]), .det (GV ⟨0, 0, false⟩), .det (.bool false), .alloc (GC ⟨0, 0, false⟩), .store (.new 5) 0 (GC ⟨0, 0, false⟩) (GC ⟨0, 0, false⟩), .det (.bool false)] [0, 1, 2, 3, 4, 5, 6, 7] [0, 1, 3, 7, 7, 0, 47, 127] (fun L => [RV k, .int .u64 ((n : Nat) : Int), .bool true, pt (L0.b 0) 0, undef, undef, pt (L0.b 1) 0, pt (L.b 5) 0, .bool false, .tuple #[GV ⟨0, 0, false⟩, .bool false], .int .u64 ((n : Nat) : Int), .tuple #[GV ⟨0, 0, false⟩, .bool false], GV ⟨0, 0, false⟩, .bool false] ++ U 8) (fun L => [((L0.b 0), RC k), ((L0.b 1), GC ⟨0, 0, false⟩), (L.b 5, GC ⟨0, 0, false⟩)]) hp1 ⟨
    oM, oR hO, oM, oX, oX, oZ rG, oT rG, oA,
    trivial⟩ (fun L1 w2 hp2 => ?_)
  refine k2 _ _ ?_
  refine wp_seq_k (fun K3 k3 => ?_)
  refine wp_seq_k (fun K4 k4 => ?_)
  refine gs [.det (.bool true), .det (.bool true), .det (.bool false), .det (.bool false)] [0, 1, 2, 3] [0, 1, 3, 7] (fun L => [RV k, .int .u64 ((n : Nat) : Int), .bool true, pt (L0.b 0) 0, undef, undef, pt (L0.b 1) 0, pt (L1.b 5) 0, .bool false, .tuple #[GV ⟨0, 0, false⟩, .bool false], .int .u64 ((n : Nat) : Int), .tuple #[GV ⟨0, 0, false⟩, .bool false], GV ⟨0, 0, false⟩, .bool false, .bool true, .bool true, .bool false, .bool false] ++ U 4) (fun L => [((L0.b 0), RC k), ((L0.b 1), GC ⟨0, 0, false⟩), ((L1.b 5), GC ⟨0, 0, false⟩)]) hp2 ⟨
    oM, oM, oM, oP,
    trivial⟩ (fun L2 w3 hp3 => ?_)
  refine k4 _ _ ?_
  refine wp_cond_false (by kernel_rfl) ?_
  refine skips ?_
  refine k3 _ _ ?_
  refine wp_seq_k (fun K5 k5 => ?_)
  refine dr [.det (GV (gp g)), .det (RV k), .det (GV (gp (mul finv k g))), .store (.base 1) 0 (GC (gp (mul finv k g))) (GC (gp (mul finv k g)))] [0, 1, 2, 3] [0, 0, 3, 7] (fun L => [RV k, .int .u64 ((n : Nat) : Int), .bool true, pt (L0.b 0) 0, undef, undef, pt (L0.b 1) 0, pt (L1.b 5) 0, .bool false, .tuple #[GV ⟨0, 0, false⟩, .bool false], .int .u64 ((n : Nat) : Int), .tuple #[GV ⟨0, 0, false⟩, .bool false], GV ⟨0, 0, false⟩, .bool false, .bool true, .bool true, .bool false, .bool false, undef, GV (gp g), RV k, GV (gp (mul finv k g))]) (fun L => [((L0.b 0), RC k), ((L0.b 1), GC (gp (mul finv k g))), ((L1.b 5), GC ⟨0, 0, false⟩)]) hp3 ⟨
    oH (v := GV (gp g)) (vs := #[]) (fun w _ _ => by have h := ref5Gen1 R w; rw [← hgn] at h; exact h), oL 0 0 rR, oH (v := GV (gp (mul finv k g))) (vs := #[GV (gp g), RV k]) (fun w _ _ => ref5Times1 R g k w (by rw [hgn]; exact gen1_on) hk),
    oT rG,
    trivial⟩ (fun L3 w4 hp4 => ?_)
  refine k5 _ _ ?_
  refine wp_ret ?_
  refine bodyPost_ret (v := GV (gp (mul finv k g))) ?_ rfl ?_
  · exact rc rG rfl (by kernel_rfl) (hp4.bound 1 rfl).2
  · exact ⟨rfl, hp4.bel⟩
/-- point tells a place of the curve. -/
theorem point_some (R : RefK) (k n : Nat) (out : Bool) (hk : k < 2 ^ 256) (hn : n < 18446744073709551616) : ∃ P : Pt F, On (4 : F) P ∧ ∀ w, Calls Tryd.prog 11 #[RV k, .int .u64 ((n : Nat) : Int), .bool out] w (Ret (GV (gp P)) w) := by
  rcases refOut_or R n hn with ⟨P, hP, hO⟩ | hO
  · cases out with
    | true => exact ⟨P, hP, fun w => point1 R P gen1 k n w rfl hk hO⟩
    | false => exact ⟨_, mul_on crv1 gen1_on k, fun w => point0 R P gen1 k n w rfl hk hO⟩
  · cases out with
    | true => exact ⟨_, mul_on crv1 gen1_on k, fun w => point3 R .inf gen1 k n w rfl hk hO⟩
    | false => exact ⟨_, mul_on crv1 gen1_on k, fun w => point2 R .inf gen1 k n w rfl hk hO⟩
end Go.Proofs.YtoehglidlakahaaDoor.fpn

/- Does g1 do anything? Yes. -/
namespace Go.Proofs.YtoehglidlakahaaDoor.fpn
open Go.RowKit Pl EC
set_option linter.unusedVariables false
set_option linter.unusedSimpArgs false
set_option maxRecDepth 4000

theorem gen1_on' {g : Pt F} (h : g = gen1) : On (4 : F) g := by rw [h]; exact gen1_on
theorem gen1_in {g : Pt F} (h : g = gen1) : mul finv ordR g = .inf := by rw [h]; exact gen1_order
theorem gp_true {P Q : Pt F} (h : P = Q) : gp P = gp Q := by rw [h]
theorem mul_2 (P : Pt F) : mul finv 2 P = add finv P P := by
  show add finv (add finv .inf P) P = _
  rw [inf_add]
set_option maxHeartbeats 4000000 in
theorem begun8a {G : World → Prop} (K : FpK G) (R : RefK) (g : Pt F) (w : World) (hg : G w) (hgn : g = gen1) : Calls Tryd.prog 9 #[] w (Ret (.bool true) w) := by
  have hp0 := Heap.start w
  go_enter Tryd.func9, Tryd.ntmps9
  refine wp_seq_k (fun K1 k1 => ?_)
  refine gs [.det (.bool false)] [0] [0] (fun L => [.bool false] ++ U 35) (fun L => []) hp0 ⟨
    oA,
    trivial⟩ (fun L0 w1 hp1 => ?_)
  refine k1 _ _ ?_
  refine wp_seq_k (fun K2 k2 => ?_)
  refine gs [.det (GV (gp g)), .alloc (GC ⟨0, 0, false⟩), .store (.new 1) 0 (GC (gp g)) (GC (gp g))] [0, 1, 2] [0, 0, 3] (fun L => [.bool false, pt (L.b 1) 0, GV (gp g)] ++ U 33) (fun L => [(L.b 1, GC (gp g))]) hp1 ⟨
    oH (v := GV (gp g)) (vs := #[]) (fun w hb _ => by have h := g1One K w (K.stay hg hb); rw [← hgn] at h; exact h), oZ rG, oT rG,
    trivial⟩ (fun L1 w2 hp2 => ?_)
  refine k2 _ _ ?_
  refine wp_seq_k (fun K3 k3 => ?_)
  refine dr [.det (GV (gp g)), .det (GV (gp g)), .det (.bool true), .det (.bool true), .det (GV (gp g)), .det (.bool true), .det (.bool true), .det (.bool true), .det (GV (gp g)), .det (GV (gp g)), .det (GV (gp (neg g))), .det (GV (gp (add finv g (neg g)))), .det (GV ⟨0, 0, true⟩), .det (.bool true), .det (.bool true), .det (.bool true), .det (GV (gp g)), .det (RV 2), .det (GV (gp (mul finv 2 g))), .det (GV (gp g)), .det (GV (gp g)), .det (GV (gp (add finv g g))), .det (.bool true), .det (.bool true), .det (.bool true), .det (GV (gp g)), .det (GV (gp g)), .det (.bool true), .det (.bool true), .det (.bool true), .det (GV (gp g)), .det (.bool true), .det (.bool true), .det (.bool true)] [0, 1, 2, 3, 4, 5, 6, 7, 8, 9, 10, 11, 12, 13, 14, 15, 16, 17, 18, 19, 20, 21, 22, 23, 24, 25, 26, 27, 28, 29, 30, 31, 32, 33] [0, 0, 3, 7, 15, 31, 63, 127, 255, 255, 767, 2047, 255, 8191, 16383, 32767, 65535, 65535, 262143, 65535, 65535, 2097151, 4194303, 8388607, 16777215, 33554431, 33554431, 134217727, 268435455, 536870911, 1073741823, 2147483647, 4294967295, 8589934591] (fun L => [.bool true, pt (L1.b 1) 0, GV (gp g), GV (gp g), GV (gp g), .bool true, .bool true, GV (gp g), .bool true, .bool true, .bool true, GV (gp g), GV (gp g), GV (gp (neg g)), GV (gp (add finv g (neg g))), GV ⟨0, 0, true⟩, .bool true, .bool true, .bool true, GV (gp g), RV 2, GV (gp (mul finv 2 g)), GV (gp g), GV (gp g), GV (gp (add finv g g)), .bool true, .bool true, .bool true, GV (gp g), GV (gp g), .bool true, .bool true, .bool true, GV (gp g), .bool true, .bool true]) (fun L => [((L1.b 1), GC (gp g))]) hp2 ⟨
    oL 0 0 rG, oH (v := GV (gp g)) (vs := #[]) (fun w _ _ => by have h := ref5Gen1 R w; rw [← hgn] at h; exact h), oE (a := (gp g)) (b := (gp g)) qG (yes rfl), oM,
    oL 0 0 rG, oH (v := .bool true) (vs := #[GV (gp g)]) (fun w hb _ => g1On K g w (K.stay hg hb) (gen1_on' hgn)), oP, oM, oL 0 0 rG, oL 0 0 rG, oC K.stay hg (g1Neg K g),
    oH (v := GV (gp (add finv g (neg g)))) (vs := #[GV (gp g), GV (gp (neg g))]) (fun w hb _ => g1Add K g (neg g) w (K.stay hg hb) (gen1_on' hgn) (neg_on (gen1_on' hgn))),
    oD (buildGi true), oE (a := (gp (add finv g (neg g)))) (b := ⟨0, 0, true⟩) qG (yes (gp_true (add_neg : add finv g (neg g) = .inf))), oP, oM, oL 0 0 rG, oD (buildRk 2 (by decide)),
    oH (v := GV (gp (mul finv 2 g))) (vs := #[GV (gp g), RV 2]) (fun w hb _ => g1Mul K g 2 w (K.stay hg hb) (gen1_on' hgn) (by decide)), oL 0 0 rG, oL 0 0 rG, oH (v := GV (gp (add finv g g))) (vs := #[GV (gp g), GV (gp g)]) (fun w hb _ => g1Add K g g w (K.stay hg hb) (gen1_on' hgn) (gen1_on' hgn)),
    oE (a := (gp (mul finv 2 g))) (b := (gp (add finv g g))) qG (yes (gp_true (mul_2 g))), oP, oM, oL 0 0 rG, oL 0 0 rG, oH (v := .bool true) (vs := #[GV (gp g), GV (gp g)]) (fun w hb _ => by have h := g1Equal K g g w (K.stay hg hb); rw [decide_eq_true (show g = g from rfl)] at h; exact h),
    oP, oM, oL 0 0 rG, oH (v := .bool true) (vs := #[GV (gp g)]) (fun w hb _ => by have h := g1In K g w (K.stay hg hb) (gen1_on' hgn); rw [decide_eq_true (show mul finv ordR g = .inf from gen1_in hgn)] at h; exact h),
    oP, oA,
    trivial⟩ (fun L2 w3 hp3 => ?_)
  refine k3 _ _ ?_
  refine wp_ret ?_
  refine bodyPost_ret (v := .bool true) ?_ rfl ?_
  · exact res_t rfl (by kernel_rfl) _
  · exact ⟨rfl, hp3.bel⟩
theorem begun8 {G : World → Prop} (K : FpK G) (R : RefK) (w : World) (hg : G w) : Calls Tryd.prog 9 #[] w (Ret (.bool true) w) := begun8a K R gen1 w hg rfl
end Go.Proofs.YtoehglidlakahaaDoor.fpn
