/- J9 K9 B9. -/
import Derived.Test.YthehnlpgmkjefaaDoorGQ
import Derived.Test.YthehnlpgmkjefaaDoorGO
import Derived.Deep.LoopGhost
import Derived.Test.YthehnlpgmkjefaaDoorGR
import Derived.Test.YthehnlpgmkjefaaDoorGC
/- Package g1: bits, sums of many, multiples. -/
namespace Go.Proofs.YthehnlpgmkjefaaDoor.fpn.T2
open Go.RowKit Pl EC
set_option linter.unusedVariables false
set_option linter.unusedSimpArgs false
set_option maxRecDepth 4000

set_option maxHeartbeats 4000000 in
theorem g2bitAt0 {G : World → Prop} (K : FpK G) (k j b : Nat) (w : World) (hg : G w) (hq : j / 64 = 0) (hb : bits .and .u64 (lb k 0 / 2 ^ (j % 64)) 1 = (b : Int)) : Calls Tryd.prog 104 #[RV k, .int .i64 ((j : Nat) : Int)] w (Ret (.int .u64 ((b : Nat) : Int)) w) := by
  have hp0 := Heap.start w
  go_enter Tryd.func104, Tryd.ntmps104
  refine wp_seq_k (fun K1 k1 => ?_)
  refine gs [.alloc (RC k), .det (.int .u64 0)] [0, 1] [0, 0] (fun L => [RV k, .int .i64 ((j : Nat) : Int), pt (L.b 0) 0, undef, .int .u64 0] ++ U 8) (fun L => [(L.b 0, RC k)]) hp0 ⟨
    oB, oA,
    trivial⟩ (fun L0 w1 hp1 => ?_)
  refine k1 _ _ ?_
  refine wp_seq_k (fun K2 k2 => ?_)
  refine gs [.det (.int .i64 ((j : Nat) : Int)), .det (.int .i64 0), .det (pt (L0.b 0) 0), .det (.int .u64 (lb k 0)), .det (.int .i64 ((j : Nat) : Int)), .det (.int .i64 ((j % 64 : Nat) : Int)), .det (.int .u64 (lb k 0 / 2 ^ (j % 64))), .det (.int .u64 ((b : Nat) : Int)), .det (.int .u64 ((b : Nat) : Int))] [0, 1, 2, 3, 4, 5, 6, 7, 8] [0, 1, 3, 7, 0, 16, 63, 127, 255] (fun L => [RV k, .int .i64 ((j : Nat) : Int), pt (L0.b 0) 0, undef, .int .u64 ((b : Nat) : Int), .int .i64 ((j : Nat) : Int), .int .i64 0, pt (L0.b 0) 0, .int .u64 (lb k 0), .int .i64 ((j : Nat) : Int), .int .i64 ((j % 64 : Nat) : Int), .int .u64 (lb k 0 / 2 ^ (j % 64)), .int .u64 ((b : Nat) : Int)]) (fun L => [((L0.b 0), RC k)]) hp1 ⟨
    oM, oJ .i64 .i64 ((j : Nat) : Int) 64 (h := fun w => quo64 _ j 0 (by omega) (by omega) w), oI aR, oL1 0 0 oneU, oM, oJ .i64 .i64 ((j : Nat) : Int) 64 (h := fun w => rem64 _ j (j % 64) rfl w),
    oJ .u64 .i64 (lb k 0) ((j % 64 : Nat) : Int) (h := fun w => shrN _ _ _ (by omega) w), oJ .u64 .u64 (lb k 0 / 2 ^ (j % 64)) 1 (h := fun w => and1 _ _ _ hb w),
    oA,
    trivial⟩ (fun L1 w2 hp2 => ?_)
  refine k2 _ _ ?_
  refine wp_ret ?_
  refine bodyPost_ret (v := .int .u64 ((b : Nat) : Int)) ?_ rfl ?_
  · exact res_t rfl (by kernel_rfl) _
  · exact ⟨rfl, hp2.bel⟩
set_option maxHeartbeats 4000000 in
theorem g2bitAt1 {G : World → Prop} (K : FpK G) (k j b : Nat) (w : World) (hg : G w) (hq : j / 64 = 1) (hb : bits .and .u64 (lb k 1 / 2 ^ (j % 64)) 1 = (b : Int)) : Calls Tryd.prog 104 #[RV k, .int .i64 ((j : Nat) : Int)] w (Ret (.int .u64 ((b : Nat) : Int)) w) := by
  have hp0 := Heap.start w
  go_enter Tryd.func104, Tryd.ntmps104
  refine wp_seq_k (fun K1 k1 => ?_)
  refine gs [.alloc (RC k), .det (.int .u64 0)] [0, 1] [0, 0] (fun L => [RV k, .int .i64 ((j : Nat) : Int), pt (L.b 0) 0, undef, .int .u64 0] ++ U 8) (fun L => [(L.b 0, RC k)]) hp0 ⟨
    oB, oA,
    trivial⟩ (fun L0 w1 hp1 => ?_)
  refine k1 _ _ ?_
  refine wp_seq_k (fun K2 k2 => ?_)
  refine gs [.det (.int .i64 ((j : Nat) : Int)), .det (.int .i64 1), .det (pt (L0.b 0) 1), .det (.int .u64 (lb k 1)), .det (.int .i64 ((j : Nat) : Int)), .det (.int .i64 ((j % 64 : Nat) : Int)), .det (.int .u64 (lb k 1 / 2 ^ (j % 64))), .det (.int .u64 ((b : Nat) : Int)), .det (.int .u64 ((b : Nat) : Int))] [0, 1, 2, 3, 4, 5, 6, 7, 8] [0, 1, 3, 7, 0, 16, 63, 127, 255] (fun L => [RV k, .int .i64 ((j : Nat) : Int), pt (L0.b 0) 0, undef, .int .u64 ((b : Nat) : Int), .int .i64 ((j : Nat) : Int), .int .i64 1, pt (L0.b 0) 1, .int .u64 (lb k 1), .int .i64 ((j : Nat) : Int), .int .i64 ((j % 64 : Nat) : Int), .int .u64 (lb k 1 / 2 ^ (j % 64)), .int .u64 ((b : Nat) : Int)]) (fun L => [((L0.b 0), RC k)]) hp1 ⟨
    oM, oJ .i64 .i64 ((j : Nat) : Int) 64 (h := fun w => quo64 _ j 1 (by omega) (by omega) w), oI aR, oL1 0 1 oneU, oM, oJ .i64 .i64 ((j : Nat) : Int) 64 (h := fun w => rem64 _ j (j % 64) rfl w),
    oJ .u64 .i64 (lb k 1) ((j % 64 : Nat) : Int) (h := fun w => shrN _ _ _ (by omega) w), oJ .u64 .u64 (lb k 1 / 2 ^ (j % 64)) 1 (h := fun w => and1 _ _ _ hb w),
    oA,
    trivial⟩ (fun L1 w2 hp2 => ?_)
  refine k2 _ _ ?_
  refine wp_ret ?_
  refine bodyPost_ret (v := .int .u64 ((b : Nat) : Int)) ?_ rfl ?_
  · exact res_t rfl (by kernel_rfl) _
  · exact ⟨rfl, hp2.bel⟩
set_option maxHeartbeats 4000000 in
theorem g2bitAt2 {G : World → Prop} (K : FpK G) (k j b : Nat) (w : World) (hg : G w) (hq : j / 64 = 2) (hb : bits .and .u64 (lb k 2 / 2 ^ (j % 64)) 1 = (b : Int)) : Calls Tryd.prog 104 #[RV k, .int .i64 ((j : Nat) : Int)] w (Ret (.int .u64 ((b : Nat) : Int)) w) := by
  have hp0 := Heap.start w
  go_enter Tryd.func104, Tryd.ntmps104
  refine wp_seq_k (fun K1 k1 => ?_)
  refine gs [.alloc (RC k), .det (.int .u64 0)] [0, 1] [0, 0] (fun L => [RV k, .int .i64 ((j : Nat) : Int), pt (L.b 0) 0, undef, .int .u64 0] ++ U 8) (fun L => [(L.b 0, RC k)]) hp0 ⟨
    oB, oA,
    trivial⟩ (fun L0 w1 hp1 => ?_)
  refine k1 _ _ ?_
  refine wp_seq_k (fun K2 k2 => ?_)
  refine gs [.det (.int .i64 ((j : Nat) : Int)), .det (.int .i64 2), .det (pt (L0.b 0) 2), .det (.int .u64 (lb k 2)), .det (.int .i64 ((j : Nat) : Int)), .det (.int .i64 ((j % 64 : Nat) : Int)), .det (.int .u64 (lb k 2 / 2 ^ (j % 64))), .det (.int .u64 ((b : Nat) : Int)), .det (.int .u64 ((b : Nat) : Int))] [0, 1, 2, 3, 4, 5, 6, 7, 8] [0, 1, 3, 7, 0, 16, 63, 127, 255] (fun L => [RV k, .int .i64 ((j : Nat) : Int), pt (L0.b 0) 0, undef, .int .u64 ((b : Nat) : Int), .int .i64 ((j : Nat) : Int), .int .i64 2, pt (L0.b 0) 2, .int .u64 (lb k 2), .int .i64 ((j : Nat) : Int), .int .i64 ((j % 64 : Nat) : Int), .int .u64 (lb k 2 / 2 ^ (j % 64)), .int .u64 ((b : Nat) : Int)]) (fun L => [((L0.b 0), RC k)]) hp1 ⟨
    oM, oJ .i64 .i64 ((j : Nat) : Int) 64 (h := fun w => quo64 _ j 2 (by omega) (by omega) w), oI aR, oL1 0 2 oneU, oM, oJ .i64 .i64 ((j : Nat) : Int) 64 (h := fun w => rem64 _ j (j % 64) rfl w),
    oJ .u64 .i64 (lb k 2) ((j % 64 : Nat) : Int) (h := fun w => shrN _ _ _ (by omega) w), oJ .u64 .u64 (lb k 2 / 2 ^ (j % 64)) 1 (h := fun w => and1 _ _ _ hb w),
    oA,
    trivial⟩ (fun L1 w2 hp2 => ?_)
  refine k2 _ _ ?_
  refine wp_ret ?_
  refine bodyPost_ret (v := .int .u64 ((b : Nat) : Int)) ?_ rfl ?_
  · exact res_t rfl (by kernel_rfl) _
  · exact ⟨rfl, hp2.bel⟩
set_option maxHeartbeats 4000000 in
theorem g2bitAt3 {G : World → Prop} (K : FpK G) (k j b : Nat) (w : World) (hg : G w) (hq : j / 64 = 3) (hb : bits .and .u64 (lb k 3 / 2 ^ (j % 64)) 1 = (b : Int)) : Calls Tryd.prog 104 #[RV k, .int .i64 ((j : Nat) : Int)] w (Ret (.int .u64 ((b : Nat) : Int)) w) := by
  have hp0 := Heap.start w
  go_enter Tryd.func104, Tryd.ntmps104
  refine wp_seq_k (fun K1 k1 => ?_)
  refine gs [.alloc (RC k), .det (.int .u64 0)] [0, 1] [0, 0] (fun L => [RV k, .int .i64 ((j : Nat) : Int), pt (L.b 0) 0, undef, .int .u64 0] ++ U 8) (fun L => [(L.b 0, RC k)]) hp0 ⟨
    oB, oA,
    trivial⟩ (fun L0 w1 hp1 => ?_)
  refine k1 _ _ ?_
  refine wp_seq_k (fun K2 k2 => ?_)
  refine gs [.det (.int .i64 ((j : Nat) : Int)), .det (.int .i64 3), .det (pt (L0.b 0) 3), .det (.int .u64 (lb k 3)), .det (.int .i64 ((j : Nat) : Int)), .det (.int .i64 ((j % 64 : Nat) : Int)), .det (.int .u64 (lb k 3 / 2 ^ (j % 64))), .det (.int .u64 ((b : Nat) : Int)), .det (.int .u64 ((b : Nat) : Int))] [0, 1, 2, 3, 4, 5, 6, 7, 8] [0, 1, 3, 7, 0, 16, 63, 127, 255] (fun L => [RV k, .int .i64 ((j : Nat) : Int), pt (L0.b 0) 0, undef, .int .u64 ((b : Nat) : Int), .int .i64 ((j : Nat) : Int), .int .i64 3, pt (L0.b 0) 3, .int .u64 (lb k 3), .int .i64 ((j : Nat) : Int), .int .i64 ((j % 64 : Nat) : Int), .int .u64 (lb k 3 / 2 ^ (j % 64)), .int .u64 ((b : Nat) : Int)]) (fun L => [((L0.b 0), RC k)]) hp1 ⟨
    oM, oJ .i64 .i64 ((j : Nat) : Int) 64 (h := fun w => quo64 _ j 3 (by omega) (by omega) w), oI aR, oL1 0 3 oneU, oM, oJ .i64 .i64 ((j : Nat) : Int) 64 (h := fun w => rem64 _ j (j % 64) rfl w),
    oJ .u64 .i64 (lb k 3) ((j % 64 : Nat) : Int) (h := fun w => shrN _ _ _ (by omega) w), oJ .u64 .u64 (lb k 3 / 2 ^ (j % 64)) 1 (h := fun w => and1 _ _ _ hb w),
    oA,
    trivial⟩ (fun L1 w2 hp2 => ?_)
  refine k2 _ _ ?_
  refine wp_ret ?_
  refine bodyPost_ret (v := .int .u64 ((b : Nat) : Int)) ?_ rfl ?_
  · exact res_t rfl (by kernel_rfl) _
  · exact ⟨rfl, hp2.bel⟩
theorem g2bitAt {G : World → Prop} (K : FpK G) (k j : Nat) (w : World) (hg : G w) (hk : k < 2 ^ 256) (hj : j < 256) {b : Nat} (hb : k / 2 ^ j % 2 = b) : Calls Tryd.prog 104 #[RV k, .int .i64 (j : Int)] w (Ret (.int .u64 (b : Int)) w) := by
  subst hb
  have h := lb_and hk hj
  have hq : j / 64 < 4 := by omega
  rcases (show j / 64 = 0 ∨ j / 64 = 1 ∨ j / 64 = 2 ∨ j / 64 = 3 by omega) with e | e | e | e <;> rw [e] at h
  · exact g2bitAt0 K k j _ w hg e h
  · exact g2bitAt1 K k j _ w hg e h
  · exact g2bitAt2 K k j _ w hg e h
  · exact g2bitAt3 K k j _ w hg e h
def AtL (w : World) (p q : Option Addr) (l : List (Pt F2 × Nat)) : Prop := 0 < l.length →
  (∃ b off, p = some ⟨b, off, none⟩ ∧ ∀ j x, l[j]? = some x → w.rangeAt b (off + j * 25) (GC (gp x.1))) ∧ (∃ b off, q = some ⟨b, off, none⟩ ∧ ∀ j x, l[j]? = some x → w.rangeAt b (off + j * 4) (RC x.2))
theorem rangeG {w x : World} {b off : Nat} {p : G2p} (h : w.rangeAt b off (GC p)) (k : Below w.heap.size w x) : x.rangeAt b off (GC p) := range_up h k
theorem AtL.up {w x : World} {p q : Option Addr} {l : List (Pt F2 × Nat)} (h : AtL w p q l) (k : Below w.heap.size w x) : AtL x p q l := fun h0 => by
  obtain ⟨⟨b, off, e, hb⟩, b', off', e', hb'⟩ := h h0
  exact ⟨⟨b, off, e, fun j x hx => rangeG (hb j x hx) k⟩, b', off', e', fun j x hx => rangeR (hb' j x hx) k⟩
theorem bits_no {a y : Jc F2} {j : Nat} {x : Pt F2 × Nat} {r l : List (Pt F2 × Nat)} (hy : jbits y j (x :: r) = jbits a j l) (hb : x.2 / 2 ^ j % 2 = 0) : jbits y j r = jbits a j l := by
  rw [← hy, jbits, if_neg (by omega)]
theorem bits_yes {a y : Jc F2} {j : Nat} {x : Pt F2 × Nat} {r l : List (Pt F2 × Nat)} (hy : jbits y j (x :: r) = jbits a j l) (hb : x.2 / 2 ^ j % 2 = 1) : jbits (jplus y x.1) j r = jbits a j l := by
  rw [← hy, jbits, if_pos hb]
def bitsI (a : Jc F2) (p q : Option Addr) (l : List (Pt F2 × Nat)) (c c0 j : Nat) (w : World) (b4 b8 : Nat) : Nat → Act → World → Prop := fun L a' w' => ∃ (i : Nat) (y : Jc F2) (u5 u6 u7 u9 u10 u14 u15 u16 u17 u18 u19 u20 u21 u22 u23 u24 u25 u26 u27 u28 u29 : Value),
  a' = { tmps := #[JV a, .slice p l.length c, .slice q l.length c0, .int .i64 ((j : Nat) : Int), .pointer (some ⟨b4, 0, none⟩), u5, u6, u7, .pointer (some ⟨b8, 0, none⟩), u9, u10, .slice p l.length c, .int .i64 l.length, .int .i64 ((i : Nat) : Int), u14, u15, u16, u17, u18, u19, u20, u21, u22, u23, u24, u25, u26, u27, u28, u29], defers := [] } ∧ i + L = l.length ∧ jbits y j (l.drop i) = jbits a j l ∧ Heap w.heap.size w w' [(b4, JC y), (b8, JC ⟨0, 0, 0⟩)]

set_option maxHeartbeats 4000000 in
theorem g2withBits {G : World → Prop} (K : FpK G) (a : Jc F2) (p q : Option Addr) (l : List (Pt F2 × Nat)) (c c0 j : Nat) (w : World) (hg : G w) (hl : l.length ≤ 1000) (hj : j < 256) (hA : AtL w p q l) (hk : ∀ x ∈ l, x.2 < 2 ^ 256) : Calls Tryd.prog 82 #[JV a, .slice p l.length c, .slice q l.length c0, .int .i64 (j : Int)] w (Ret (JV (jbits a j l)) w) := by
  have hp0 := Heap.start w
  go_enter Tryd.func82, Tryd.ntmps82
  refine wp_seq_k (fun K1 k1 => ?_)
  refine gs [.alloc (JC a), .alloc (JC ⟨0, 0, 0⟩)] [0, 1] [0, 0] (fun L => [JV a, .slice p l.length c, .slice q l.length c0, .int .i64 ((j : Nat) : Int), pt (L.b 0) 0, undef, undef, undef, pt (L.b 1) 0] ++ U 21) (fun L => [(L.b 0, JC a), (L.b 1, JC ⟨0, 0, 0⟩)]) hp0 ⟨
    oB, oZ rJ,
    trivial⟩ (fun L0 w1 hp1 => ?_)
  refine k1 _ _ ?_
  refine wp_seq_k (fun K2 k2 => ?_)
  refine wp_seq_k (fun K3 k3 => ?_)
  refine gs [.det (.slice p l.length c), .det (.int .i64 l.length), .det (.int .i64 0)] [0, 1, 2] [0, 1, 0] (fun L => [JV a, .slice p l.length c, .slice q l.length c0, .int .i64 ((j : Nat) : Int), pt (L0.b 0) 0, undef, undef, undef, pt (L0.b 1) 0, undef, undef, .slice p l.length c, .int .i64 l.length, .int .i64 0] ++ U 16) (fun L => [((L0.b 0), JC a), ((L0.b 1), JC ⟨0, 0, 0⟩)]) hp1 ⟨
    oM, fun h => ⟨ob_len (p := p) (n := l.length) (c := c) (fun _ => rfl) h rfl (fun _ => by kernel_rfl) Tryd.underlying43⟩, oM,
    trivial⟩ (fun L1 w2 hp2 => ?_)
  refine k3 _ _ ?_
  refine wp_block_k (fun K4 k4 => ?_)
  refine wp_loop_ghost (bitsI a p q l c c0 j w (L0.b 0) (L0.b 1)) l.length ⟨0, a, undef, undef, undef, undef, undef, undef, undef, undef, undef, undef, undef, undef, undef, undef, undef, undef, undef, undef, undef, undef, undef, rfl, Nat.zero_add _, rfl, hp2⟩ ?_
  rintro L a' W ⟨i, y, u5, u6, u7, u9, u10, u14, u15, u16, u17, u18, u19, u20, u21, u22, u23, u24, u25, u26, u27, u28, u29, rfl, hL, hy, hJ⟩
  by_cases hL0 : L = 0
  rotate_left
  · skip
    have hi : i < l.length := by omega
    obtain ⟨⟨b, off, rfl, hGG⟩, b0, off0, rfl, hRR⟩ := hA (by omega)
    obtain ⟨x, hx, hd⟩ : ∃ x, l[i]? = some x ∧ l.drop i = x :: l.drop (i + 1) := ⟨l[i], List.getElem?_eq_getElem hi, List.drop_eq_getElem_cons hi⟩
    rw [hd] at hy
    have hxk := hk x (List.mem_of_getElem? hx)
    rcases (show x.2 / 2 ^ j % 2 = 0 ∨ x.2 / 2 ^ j % 2 = 1 by omega) with hb0 | hb1
    · skip
      refine wp_seq_k (fun K5 k5 => ?_)
      refine gs [.det (.bool true)] [0] [0] (fun L => [JV a, .slice (some ⟨b, off, none⟩) l.length c, .slice (some ⟨b0, off0, none⟩) l.length c0, .int .i64 ((j : Nat) : Int), pt (L0.b 0) 0, u5, u6, u7, pt (L0.b 1) 0, u9, u10, .slice (some ⟨b, off, none⟩) l.length c, .int .i64 l.length, .int .i64 ((i : Nat) : Int), .bool true, u15, u16, u17, u18, u19, u20, u21, u22, u23, u24, u25, u26, u27, u28, u29]) (fun L => [((L0.b 0), JC y), ((L0.b 1), JC ⟨0, 0, 0⟩)]) hJ ⟨
        oJ .i64 .i64 ((i : Nat) : Int) l.length (h := fun w => (lssI _ _ _ w).trans (by rw [decide_eq_true (by omega)])),
        trivial⟩ (fun L2 w3 hp3 => ?_)
      refine k5 _ _ ?_
      refine wp_seq_k (fun K6 k6 => ?_)
      refine wp_cond_true (by kernel_rfl) ?_
      refine skips ?_
      refine k6 _ _ ?_
      refine wp_seq_k (fun K7 k7 => ?_)
      refine wp_block_k (fun K8 k8 => ?_)
      refine wp_seq_k (fun K9 k9 => ?_)
      refine gs [.det (.int .i64 ((i : Nat) : Int)), .det (.pointer (some ⟨b, off + i * 25, none⟩)), .det (GV (gp x.1)), .alloc (GC ⟨0, 0, false⟩), .det (.int .i64 ((i : Nat) : Int)), .store (.new 3) 0 (GC (gp x.1)) (GC (gp x.1))] [0, 1, 2, 3, 4, 5] [0, 0, 2, 0, 15, 31] (fun L => [JV a, .slice (some ⟨b, off, none⟩) l.length c, .slice (some ⟨b0, off0, none⟩) l.length c0, .int .i64 ((j : Nat) : Int), pt (L0.b 0) 0, u5, u6, u7, pt (L0.b 1) 0, .int .i64 ((i : Nat) : Int), pt (L.b 3) 0, .slice (some ⟨b, off, none⟩) l.length c, .int .i64 l.length, .int .i64 ((i : Nat) : Int), .bool true, .int .i64 ((i : Nat) : Int), .pointer (some ⟨b, off + i * 25, none⟩), GV (gp x.1), u18, u19, u20, u21, u22, u23, u24, u25, u26, u27, u28, u29]) (fun L => [((L0.b 0), JC y), ((L0.b 1), JC ⟨0, 0, 0⟩), (L.b 3, GC (gp x.1))]) hp3 ⟨
        oM, oIS (n := l.length) (c := c) i Tryd.underlying43 rG.size hi, oLW rG (fun L w hs => ⟨_, _, rfl, rangeG (hGG i x hx) hs.bel⟩), oZ rG, oA, oT rG,
        trivial⟩ (fun L3 w4 hp4 => ?_)
      refine k9 _ _ ?_
      refine wp_seq_k (fun K10 k10 => ?_)
      refine gs [.det (.slice (some ⟨b0, off0, none⟩) l.length c0), .det (.int .i64 ((i : Nat) : Int)), .det (.pointer (some ⟨b0, off0 + i * 4, none⟩)), .det (RV x.2), .det (.int .i64 ((j : Nat) : Int)), .det (.int .u64 0), .det (.bool false)] [0, 1, 2, 3, 4, 5, 6] [0, 0, 3, 7, 0, 31, 63] (fun L => [JV a, .slice (some ⟨b, off, none⟩) l.length c, .slice (some ⟨b0, off0, none⟩) l.length c0, .int .i64 ((j : Nat) : Int), pt (L0.b 0) 0, u5, u6, u7, pt (L0.b 1) 0, .int .i64 ((i : Nat) : Int), pt (L3.b 3) 0, .slice (some ⟨b, off, none⟩) l.length c, .int .i64 l.length, .int .i64 ((i : Nat) : Int), .bool true, .int .i64 ((i : Nat) : Int), .pointer (some ⟨b, off + i * 25, none⟩), GV (gp x.1), .slice (some ⟨b0, off0, none⟩) l.length c0, .int .i64 ((i : Nat) : Int), .pointer (some ⟨b0, off0 + i * 4, none⟩), RV x.2, .int .i64 ((j : Nat) : Int), .int .u64 0, .bool false, u25, u26, u27, u28, u29]) (fun L => [((L0.b 0), JC y), ((L0.b 1), JC ⟨0, 0, 0⟩), ((L3.b 3), GC (gp x.1))]) hp4 ⟨
        oM, oM, oIS (n := l.length) (c := c0) i Tryd.underlying42 rR.size hi, oLW rR (fun L w hs => ⟨_, _, rfl, rangeR (hRR i x hx) hs.bel⟩), oM, oH (v := .int .u64 0) (vs := #[RV x.2, .int .i64 ((j : Nat) : Int)]) (fun w hb _ => g2bitAt K x.2 j w (K.stay hg hb) hxk hj hb0),
        oJ .u64 .u64 0 1 (h := fun w => (eqlI _ _ _ _ w).trans rfl),
        trivial⟩ (fun L4 w5 hp5 => ?_)
      refine k10 _ _ ?_
      refine wp_cond_false (by kernel_rfl) ?_
      refine skips ?_
      refine k8 _ _ _ ?_
      refine block_normal ?_
      refine k7 _ _ ?_
      refine gs [.det (.int .i64 ((i + 1 : Nat) : Int)), .det (.int .i64 ((i + 1 : Nat) : Int))] [0, 1] [0, 1] (fun L => [JV a, .slice (some ⟨b, off, none⟩) l.length c, .slice (some ⟨b0, off0, none⟩) l.length c0, .int .i64 ((j : Nat) : Int), pt (L0.b 0) 0, u5, u6, u7, pt (L0.b 1) 0, .int .i64 ((i : Nat) : Int), pt (L3.b 3) 0, .slice (some ⟨b, off, none⟩) l.length c, .int .i64 l.length, .int .i64 ((i + 1 : Nat) : Int), .bool true, .int .i64 ((i : Nat) : Int), .pointer (some ⟨b, off + i * 25, none⟩), GV (gp x.1), .slice (some ⟨b0, off0, none⟩) l.length c0, .int .i64 ((i : Nat) : Int), .pointer (some ⟨b0, off0 + i * 4, none⟩), RV x.2, .int .i64 ((j : Nat) : Int), .int .u64 0, .bool false, u25, u26, u27, .int .i64 ((i + 1 : Nat) : Int), u29]) (fun L => [((L0.b 0), JC y), ((L0.b 1), JC ⟨0, 0, 0⟩), ((L3.b 3), GC (gp x.1))]) hp5 ⟨
        oJ .i64 .i64 ((i : Nat) : Int) 1 (h := fun w => add1N _ i (by omega) w), oM,
        trivial⟩ (fun L5 w6 hp6 => ?_)
      exact ⟨L - 1, by omega, i + 1, y, u5, u6, u7, .int .i64 ((i : Nat) : Int), pt (L3.b 3) 0, .bool true, .int .i64 ((i : Nat) : Int), .pointer (some ⟨b, off + i * 25, none⟩), GV (gp x.1), .slice (some ⟨b0, off0, none⟩) l.length c0, .int .i64 ((i : Nat) : Int), .pointer (some ⟨b0, off0 + i * 4, none⟩), RV x.2, .int .i64 ((j : Nat) : Int), .int .u64 0, .bool false, u25, u26, u27, .int .i64 ((i + 1 : Nat) : Int), u29, rfl, by omega, bits_no hy hb0, Heap.sub hp6 (List.sublist_append_left [_, _] [_])⟩
    · skip
      refine wp_seq_k (fun K11 k11 => ?_)
      refine gs [.det (.bool true)] [0] [0] (fun L => [JV a, .slice (some ⟨b, off, none⟩) l.length c, .slice (some ⟨b0, off0, none⟩) l.length c0, .int .i64 ((j : Nat) : Int), pt (L0.b 0) 0, u5, u6, u7, pt (L0.b 1) 0, u9, u10, .slice (some ⟨b, off, none⟩) l.length c, .int .i64 l.length, .int .i64 ((i : Nat) : Int), .bool true, u15, u16, u17, u18, u19, u20, u21, u22, u23, u24, u25, u26, u27, u28, u29]) (fun L => [((L0.b 0), JC y), ((L0.b 1), JC ⟨0, 0, 0⟩)]) hJ ⟨
        oJ .i64 .i64 ((i : Nat) : Int) l.length (h := fun w => (lssI _ _ _ w).trans (by rw [decide_eq_true (by omega)])),
        trivial⟩ (fun L6 w7 hp7 => ?_)
      refine k11 _ _ ?_
      refine wp_seq_k (fun K12 k12 => ?_)
      refine wp_cond_true (by kernel_rfl) ?_
      refine skips ?_
      refine k12 _ _ ?_
      refine wp_seq_k (fun K13 k13 => ?_)
      refine wp_block_k (fun K14 k14 => ?_)
      refine wp_seq_k (fun K15 k15 => ?_)
      refine gs [.det (.int .i64 ((i : Nat) : Int)), .det (.pointer (some ⟨b, off + i * 25, none⟩)), .det (GV (gp x.1)), .alloc (GC ⟨0, 0, false⟩), .det (.int .i64 ((i : Nat) : Int)), .store (.new 3) 0 (GC (gp x.1)) (GC (gp x.1))] [0, 1, 2, 3, 4, 5] [0, 0, 2, 0, 15, 31] (fun L => [JV a, .slice (some ⟨b, off, none⟩) l.length c, .slice (some ⟨b0, off0, none⟩) l.length c0, .int .i64 ((j : Nat) : Int), pt (L0.b 0) 0, u5, u6, u7, pt (L0.b 1) 0, .int .i64 ((i : Nat) : Int), pt (L.b 3) 0, .slice (some ⟨b, off, none⟩) l.length c, .int .i64 l.length, .int .i64 ((i : Nat) : Int), .bool true, .int .i64 ((i : Nat) : Int), .pointer (some ⟨b, off + i * 25, none⟩), GV (gp x.1), u18, u19, u20, u21, u22, u23, u24, u25, u26, u27, u28, u29]) (fun L => [((L0.b 0), JC y), ((L0.b 1), JC ⟨0, 0, 0⟩), (L.b 3, GC (gp x.1))]) hp7 ⟨
        oM, oIS (n := l.length) (c := c) i Tryd.underlying43 rG.size hi, oLW rG (fun L w hs => ⟨_, _, rfl, rangeG (hGG i x hx) hs.bel⟩), oZ rG, oA, oT rG,
        trivial⟩ (fun L7 w8 hp8 => ?_)
      refine k15 _ _ ?_
      refine wp_seq_k (fun K16 k16 => ?_)
      refine gs [.det (.slice (some ⟨b0, off0, none⟩) l.length c0), .det (.int .i64 ((i : Nat) : Int)), .det (.pointer (some ⟨b0, off0 + i * 4, none⟩)), .det (RV x.2), .det (.int .i64 ((j : Nat) : Int)), .det (.int .u64 1), .det (.bool true)] [0, 1, 2, 3, 4, 5, 6] [0, 0, 3, 7, 0, 31, 63] (fun L => [JV a, .slice (some ⟨b, off, none⟩) l.length c, .slice (some ⟨b0, off0, none⟩) l.length c0, .int .i64 ((j : Nat) : Int), pt (L0.b 0) 0, u5, u6, u7, pt (L0.b 1) 0, .int .i64 ((i : Nat) : Int), pt (L7.b 3) 0, .slice (some ⟨b, off, none⟩) l.length c, .int .i64 l.length, .int .i64 ((i : Nat) : Int), .bool true, .int .i64 ((i : Nat) : Int), .pointer (some ⟨b, off + i * 25, none⟩), GV (gp x.1), .slice (some ⟨b0, off0, none⟩) l.length c0, .int .i64 ((i : Nat) : Int), .pointer (some ⟨b0, off0 + i * 4, none⟩), RV x.2, .int .i64 ((j : Nat) : Int), .int .u64 1, .bool true, u25, u26, u27, u28, u29]) (fun L => [((L0.b 0), JC y), ((L0.b 1), JC ⟨0, 0, 0⟩), ((L7.b 3), GC (gp x.1))]) hp8 ⟨
        oM, oM, oIS (n := l.length) (c := c0) i Tryd.underlying42 rR.size hi, oLW rR (fun L w hs => ⟨_, _, rfl, rangeR (hRR i x hx) hs.bel⟩), oM, oH (v := .int .u64 1) (vs := #[RV x.2, .int .i64 ((j : Nat) : Int)]) (fun w hb _ => g2bitAt K x.2 j w (K.stay hg hb) hxk hj hb1),
        oJ .u64 .u64 1 1 (h := fun w => (eqlI _ _ _ _ w).trans rfl),
        trivial⟩ (fun L8 w9 hp9 => ?_)
      refine k16 _ _ ?_
      refine wp_cond_true (by kernel_rfl) ?_
      refine gs [.det (JV y), .det (GV (gp x.1)), .det (JV (jplus y x.1)), .store (.base 0) 0 (JC (jplus y x.1)) (JC (jplus y x.1))] [0, 1, 2, 3] [0, 0, 3, 7] (fun L => [JV a, .slice (some ⟨b, off, none⟩) l.length c, .slice (some ⟨b0, off0, none⟩) l.length c0, .int .i64 ((j : Nat) : Int), pt (L0.b 0) 0, u5, u6, u7, pt (L0.b 1) 0, .int .i64 ((i : Nat) : Int), pt (L7.b 3) 0, .slice (some ⟨b, off, none⟩) l.length c, .int .i64 l.length, .int .i64 ((i : Nat) : Int), .bool true, .int .i64 ((i : Nat) : Int), .pointer (some ⟨b, off + i * 25, none⟩), GV (gp x.1), .slice (some ⟨b0, off0, none⟩) l.length c0, .int .i64 ((i : Nat) : Int), .pointer (some ⟨b0, off0 + i * 4, none⟩), RV x.2, .int .i64 ((j : Nat) : Int), .int .u64 1, .bool true, JV y, GV (gp x.1), JV (jplus y x.1), u28, u29]) (fun L => [((L0.b 0), JC (jplus y x.1)), ((L0.b 1), JC ⟨0, 0, 0⟩), ((L7.b 3), GC (gp x.1))]) hp9 ⟨
        oL 0 0 rJ, oL 2 0 rG, oC K.stay hg (g2plus K y x.1), oT rJ,
        trivial⟩ (fun L9 w10 hp10 => ?_)
      refine k14 _ _ _ ?_
      refine block_normal ?_
      refine k13 _ _ ?_
      refine gs [.det (.int .i64 ((i + 1 : Nat) : Int)), .det (.int .i64 ((i + 1 : Nat) : Int))] [0, 1] [0, 1] (fun L => [JV a, .slice (some ⟨b, off, none⟩) l.length c, .slice (some ⟨b0, off0, none⟩) l.length c0, .int .i64 ((j : Nat) : Int), pt (L0.b 0) 0, u5, u6, u7, pt (L0.b 1) 0, .int .i64 ((i : Nat) : Int), pt (L7.b 3) 0, .slice (some ⟨b, off, none⟩) l.length c, .int .i64 l.length, .int .i64 ((i + 1 : Nat) : Int), .bool true, .int .i64 ((i : Nat) : Int), .pointer (some ⟨b, off + i * 25, none⟩), GV (gp x.1), .slice (some ⟨b0, off0, none⟩) l.length c0, .int .i64 ((i : Nat) : Int), .pointer (some ⟨b0, off0 + i * 4, none⟩), RV x.2, .int .i64 ((j : Nat) : Int), .int .u64 1, .bool true, JV y, GV (gp x.1), JV (jplus y x.1), .int .i64 ((i + 1 : Nat) : Int), u29]) (fun L => [((L0.b 0), JC (jplus y x.1)), ((L0.b 1), JC ⟨0, 0, 0⟩), ((L7.b 3), GC (gp x.1))]) hp10 ⟨
        oJ .i64 .i64 ((i : Nat) : Int) 1 (h := fun w => add1N _ i (by omega) w), oM,
        trivial⟩ (fun L10 w11 hp11 => ?_)
      exact ⟨L - 1, by omega, i + 1, (jplus y x.1), u5, u6, u7, .int .i64 ((i : Nat) : Int), pt (L7.b 3) 0, .bool true, .int .i64 ((i : Nat) : Int), .pointer (some ⟨b, off + i * 25, none⟩), GV (gp x.1), .slice (some ⟨b0, off0, none⟩) l.length c0, .int .i64 ((i : Nat) : Int), .pointer (some ⟨b0, off0 + i * 4, none⟩), RV x.2, .int .i64 ((j : Nat) : Int), .int .u64 1, .bool true, JV y, GV (gp x.1), JV (jplus y x.1), .int .i64 ((i + 1 : Nat) : Int), u29, rfl, by omega, bits_yes hy hb1, Heap.sub hp11 (List.sublist_append_left [_, _] [_])⟩
  obtain rfl : i = l.length := by omega
  rw [List.drop_length] at hy
  refine wp_seq_k (fun K17 k17 => ?_)
  refine gs [.det (.bool false)] [0] [0] (fun L => [JV a, .slice p l.length c, .slice q l.length c0, .int .i64 ((j : Nat) : Int), pt (L0.b 0) 0, u5, u6, u7, pt (L0.b 1) 0, u9, u10, .slice p l.length c, .int .i64 l.length, .int .i64 ((l.length : Nat) : Int), .bool false, u15, u16, u17, u18, u19, u20, u21, u22, u23, u24, u25, u26, u27, u28, u29]) (fun L => [((L0.b 0), JC y), ((L0.b 1), JC ⟨0, 0, 0⟩)]) hJ ⟨
    oJ .i64 .i64 ((l.length : Nat) : Int) l.length (h := fun w => (lssI _ _ _ w).trans (by rw [decide_eq_false (by omega)])),
    trivial⟩ (fun L11 w12 hp12 => ?_)
  refine k17 _ _ ?_
  refine wp_seq_k (fun K18 k18 => ?_)
  refine wp_cond_false (by kernel_rfl) ?_
  refine wp_exit ?_
  refine then_exit ?_
  refine then_exit ?_
  refine k4 _ _ _ ?_
  refine exit_in ?_
  refine k2 _ _ ?_
  refine wp_seq_k (fun K19 k19 => ?_)
  refine gs [.det (JV y), .store (.base 1) 0 (JC y) (JC y)] [0, 1] [0, 1] (fun L => [JV a, .slice p l.length c, .slice q l.length c0, .int .i64 ((j : Nat) : Int), pt (L0.b 0) 0, u5, u6, u7, pt (L0.b 1) 0, u9, u10, .slice p l.length c, .int .i64 l.length, .int .i64 ((l.length : Nat) : Int), .bool false, u15, u16, u17, u18, u19, u20, u21, u22, u23, u24, u25, u26, u27, u28, JV y]) (fun L => [((L0.b 0), JC y), ((L0.b 1), JC y)]) hp12 ⟨
    oL 0 0 rJ, oT rJ,
    trivial⟩ (fun L12 w13 hp13 => ?_)
  refine k19 _ _ ?_
  refine wp_ret ?_
  refine bodyPost_ret (v := JV y) ?_ rfl ?_
  · exact rc rJ rfl (by kernel_rfl) (hp13.bound 1 rfl).2
  · exact ⟨congrArg (fun z => Ending.returned (JV z)) hy, hp13.bel⟩
def totI (p q : Option Addr) (l : List (Pt F2 × Nat)) (c c0 : Nat) (w : World) (b4 : Nat) : Act → World → Prop := fun a' w' => ∃ (L b5 : Nat) (y : Jc F2) (u2 u3 u7 u8 u9 u10 u11 u12 u13 u14 u15 u16 u17 u18 : Value),
  a' = { tmps := #[.slice p l.length c, .slice q l.length c0, u2, u3, .pointer (some ⟨b4, 0, none⟩), .pointer (some ⟨b5, 0, none⟩), .int .i64 ((L : Nat) : Int), u7, u8, u9, u10, u11, u12, u13, u14, u15, u16, u17, u18], defers := [] } ∧ L ≤ 256 ∧ jall l L y = jall l 256 ⟨0, 0, 0⟩ ∧ Heap w.heap.size w w' [(b4, JC ⟨0, 0, 0⟩), (b5, JC y)]

set_option maxHeartbeats 4000000 in
theorem g2total {G : World → Prop} (K : FpK G) (p q : Option Addr) (l : List (Pt F2 × Nat)) (c c0 : Nat) (w : World) (hg : G w) (hl : l.length ≤ 1000) (hA : AtL w p q l) (hk : ∀ x ∈ l, x.2 < 2 ^ 256) : Calls Tryd.prog 53 #[.slice p l.length c, .slice q l.length c0] w (Ret (JV (jall l 256 ⟨0, 0, 0⟩)) w) := by
  have hp0 := Heap.start w
  go_enter Tryd.func53, Tryd.ntmps53
  refine wp_seq_k (fun K0 k0 => ?_)
  refine gs [.alloc (JC ⟨0, 0, 0⟩)] [0] [0] (fun L => [.slice p l.length c, .slice q l.length c0, undef, undef, pt (L.b 0) 0] ++ U 14) (fun L => [(L.b 0, JC ⟨0, 0, 0⟩)]) hp0 ⟨
    oZ rJ,
    trivial⟩ (fun L0 w1 hp1 => ?_)
  refine k0 _ _ ?_
  refine wp_scope_goto 0 (totI p q l c c0 w (L0.b 0)) (fun a' _ => slot 6 a') rfl ?_ ?_
  · skip
    rintro a' W ⟨L, b5, y, u2, u3, u7, u8, u9, u10, u11, u12, u13, u14, u15, u16, u17, u18, rfl, hL, hy, hJ⟩
    by_cases hL0 : L = 0
    · skip
      subst hL0
      refine wp_seq_k (fun K1 k1 => ?_)
      refine wp_seq_k (fun K2 k2 => ?_)
      refine gs [.det (.int .i64 ((0 : Nat) : Int)), .det (.bool false)] [0, 1] [0, 1] (fun L => [.slice p l.length c, .slice q l.length c0, u2, u3, pt (L0.b 0) 0, pt b5 0, .int .i64 ((0 : Nat) : Int), u7, .int .i64 ((0 : Nat) : Int), .bool false, u10, u11, u12, u13, u14, u15, u16, u17, u18]) (fun L => [((L0.b 0), JC ⟨0, 0, 0⟩), (b5, JC y)]) hJ ⟨
        oM, oJ .i64 .i64 ((0 : Nat) : Int) 0 (h := fun w => (gtrI _ _ _ w).trans (by rw [decide_eq_false (by omega)])),
        trivial⟩ (fun L1 w2 hp2 => ?_)
      refine k2 _ _ ?_
      refine wp_cond_false (by kernel_rfl) ?_
      refine skips ?_
      refine k1 _ _ ?_
      refine wp_seq_k (fun K3 k3 => ?_)
      refine gs [.det (JV y), .store (.base 0) 0 (JC y) (JC y)] [0, 1] [0, 1] (fun L => [.slice p l.length c, .slice q l.length c0, u2, u3, pt (L0.b 0) 0, pt b5 0, .int .i64 ((0 : Nat) : Int), u7, .int .i64 ((0 : Nat) : Int), .bool false, u10, u11, u12, u13, u14, u15, u16, u17, JV y]) (fun L => [((L0.b 0), JC y), (b5, JC y)]) hp2 ⟨
        oL 1 0 rJ, oT rJ,
        trivial⟩ (fun L2 w3 hp3 => ?_)
      refine k3 _ _ ?_
      refine wp_ret ?_
      refine bodyPost_ret (v := JV y) ?_ rfl ?_
      · exact rc rJ rfl (by kernel_rfl) (hp3.bound 0 rfl).2
      · exact ⟨congrArg (fun z => Ending.returned (JV z)) hy, hp3.bel⟩
    · skip
      obtain ⟨m, rfl⟩ : ∃ m, L = m + 1 := ⟨L - 1, by omega⟩
      refine wp_seq_k (fun K4 k4 => ?_)
      refine wp_seq_k (fun K5 k5 => ?_)
      refine gs [.det (.int .i64 ((m + 1 : Nat) : Int)), .det (.bool true)] [0, 1] [0, 1] (fun L => [.slice p l.length c, .slice q l.length c0, u2, u3, pt (L0.b 0) 0, pt b5 0, .int .i64 ((m + 1 : Nat) : Int), u7, .int .i64 ((m + 1 : Nat) : Int), .bool true, u10, u11, u12, u13, u14, u15, u16, u17, u18]) (fun L => [((L0.b 0), JC ⟨0, 0, 0⟩), (b5, JC y)]) hJ ⟨
        oM, oJ .i64 .i64 ((m + 1 : Nat) : Int) 0 (h := fun w => (gtrI _ _ _ w).trans (by rw [decide_eq_true (by omega)])),
        trivial⟩ (fun L3 w4 hp4 => ?_)
      refine k5 _ _ ?_
      refine wp_cond_true (by kernel_rfl) ?_
      refine wp_seq_k (fun K6 k6 => ?_)
      refine gs [.det (.int .i64 ((m + 1 : Nat) : Int)), .det (.int .i64 ((m : Nat) : Int)), .det (.int .i64 ((m : Nat) : Int))] [0, 1, 2] [0, 1, 3] (fun L => [.slice p l.length c, .slice q l.length c0, u2, u3, pt (L0.b 0) 0, pt b5 0, .int .i64 ((m : Nat) : Int), u7, .int .i64 ((m + 1 : Nat) : Int), .bool true, .int .i64 ((m + 1 : Nat) : Int), .int .i64 ((m : Nat) : Int), u12, u13, u14, u15, u16, u17, u18]) (fun L => [((L0.b 0), JC ⟨0, 0, 0⟩), (b5, JC y)]) hp4 ⟨
        oM, oJ .i64 .i64 ((m + 1 : Nat) : Int) 1 (h := fun w => sub1 _ m (by omega) w), oA,
        trivial⟩ (fun L4 w5 hp5 => ?_)
      refine k6 _ _ ?_
      refine wp_seq_k (fun K7 k7 => ?_)
      refine gs [.det (JV y), .det (JV (jtwice y)), .det (.slice p l.length c), .det (.slice q l.length c0), .det (.int .i64 ((m : Nat) : Int)), .det (JV (jbits (jtwice y) m l)), .store (.base 1) 0 (JC (jbits (jtwice y) m l)) (JC (jbits (jtwice y) m l))] [0, 1, 2, 3, 4, 5, 6] [0, 1, 0, 0, 0, 31, 63] (fun L => [.slice p l.length c, .slice q l.length c0, u2, u3, pt (L0.b 0) 0, pt b5 0, .int .i64 ((m : Nat) : Int), u7, .int .i64 ((m + 1 : Nat) : Int), .bool true, .int .i64 ((m + 1 : Nat) : Int), .int .i64 ((m : Nat) : Int), JV y, JV (jtwice y), .slice p l.length c, .slice q l.length c0, .int .i64 ((m : Nat) : Int), JV (jbits (jtwice y) m l), u18]) (fun L => [((L0.b 0), JC ⟨0, 0, 0⟩), (b5, JC (jbits (jtwice y) m l))]) hp5 ⟨
        oL 1 0 rJ, oC K.stay hg (g2twice K y), oM, oM, oM, oH (v := JV (jbits (jtwice y) m l)) (vs := #[JV (jtwice y), .slice p l.length c, .slice q l.length c0, .int .i64 ((m : Nat) : Int)]) (fun w hb _ => g2withBits K (jtwice y) p q l c c0 m w (K.stay hg hb) hl (by omega) (hA.up hb) hk),
        oT rJ,
        trivial⟩ (fun L5 w6 hp6 => ?_)
      refine k7 _ _ ?_
      refine wp_goto ?_
      exact ⟨rfl, ⟨m, b5, jbits (jtwice y) m l, u2, u3, u7, .int .i64 ((m + 1 : Nat) : Int), .bool true, .int .i64 ((m + 1 : Nat) : Int), .int .i64 ((m : Nat) : Int), JV y, JV (jtwice y), .slice p l.length c, .slice q l.length c0, .int .i64 ((m : Nat) : Int), JV (jbits (jtwice y) m l), u18, rfl, by omega, hy, hp6⟩, by simp [slot, intOf]⟩
  · skip
    intro hr
    refine wp_seq_k (fun K8 k8 => ?_)
    refine gs [.det (JV ⟨0, 0, 0⟩), .alloc (JC ⟨0, 0, 0⟩), .store (.new 1) 0 (JC ⟨0, 0, 0⟩) (JC ⟨0, 0, 0⟩)] [0, 1, 2] [0, 0, 3] (fun L => [.slice p l.length c, .slice q l.length c0, undef, undef, pt (L0.b 0) 0, pt (L.b 1) 0, undef, JV ⟨0, 0, 0⟩] ++ U 11) (fun L => [((L0.b 0), JC ⟨0, 0, 0⟩), (L.b 1, JC ⟨0, 0, 0⟩)]) hp1 ⟨
      oD buildJn, oZ rJ, oT rJ,
      trivial⟩ (fun L6 w7 hp7 => ?_)
    refine k8 _ _ ?_
    refine wp_seq_k (fun K9 k9 => ?_)
    refine gs [.det (.int .i64 256)] [0] [0] (fun L => [.slice p l.length c, .slice q l.length c0, undef, undef, pt (L0.b 0) 0, pt (L6.b 1) 0, .int .i64 256, JV ⟨0, 0, 0⟩] ++ U 11) (fun L => [((L0.b 0), JC ⟨0, 0, 0⟩), ((L6.b 1), JC ⟨0, 0, 0⟩)]) hp7 ⟨
      oA,
      trivial⟩ (fun L7 w8 hp8 => ?_)
    refine k9 _ _ ?_
    refine wp_seq_k (fun K10 k10 => ?_)
    refine wp_label ?_
    exact k10 _ _ (hr _ _ ⟨256, (L6.b 1), ⟨0, 0, 0⟩, undef, undef, JV ⟨0, 0, 0⟩, undef, undef, undef, undef, undef, undef, undef, undef, undef, undef, undef, rfl, Nat.le_refl _, rfl, hp8⟩)
theorem totalOne {G : World → Prop} (K : FpK G) (P : Pt F2) (k : Nat) (u v : Value) (w : World) (hg : G w) (hk : k < 2 ^ 256) (hu : isRow1 (GC (gp P)) u w) (hv : isRow1 (RC k) v w) : Calls Tryd.prog 53 #[u, v] w (Ret (JV (jall [(P, k)] 256 ⟨0, 0, 0⟩)) w) := by
  obtain ⟨b, rfl, hb⟩ := hu
  obtain ⟨d, rfl, hd⟩ := hv
  refine g2total K (some ⟨b, 0, none⟩) (some ⟨d, 0, none⟩) [(P, k)] 1 1 w hg (by show (1 : Nat) ≤ 1000; decide) (fun _ => ⟨⟨b, 0, rfl, fun j x hx => ?_⟩, d, 0, rfl, fun j x hx => ?_⟩) (fun x hx => ?_)
  · cases j with
    | zero => obtain rfl : (P, k) = x := by simpa using hx
              simpa using hb
    | succ j => simp at hx
  · cases j with
    | zero => obtain rfl : (P, k) = x := by simpa using hx
              simpa using hd
    | succ j => simp at hx
  · obtain rfl : x = (P, k) := by simpa using hx
    exact hk
def jmul (P : Pt F2) (k : Nat) : Jc F2 := jall [(P, k)] 256 ⟨0, 0, 0⟩
theorem jmul_rep {P : Pt F2} (hP : On b2 P) {k : Nat} (hk : k < 2 ^ 256) : JRep (mul F2.inv k P) (jmul P k) := by
  have h := jall_sum (iv := F2.inv) crv2 [(P, k)] (fun x hx => by rw [List.mem_singleton.1 hx]; exact hP) 256 (fun x hx => by rw [List.mem_singleton.1 hx]; exact hk)
  rw [psum_one] at h
  exact h
set_option maxHeartbeats 4000000 in
theorem g2times {G : World → Prop} (K : FpK G) (P : Pt F2) (k : Nat) (w : World) (hg : G w) (hk : k < 2 ^ 256) : Calls Tryd.prog 40 #[GV (gp P), RV k] w (Ret (JV (jmul P k)) w) := by
  have hp0 := Heap.start w
  go_enter Tryd.func40, Tryd.ntmps40
  refine wp_seq_k (fun K1 k1 => ?_)
  refine gs [.alloc (GC (gp P)), .alloc (RC k), .alloc (JC ⟨0, 0, 0⟩)] [0, 1, 2] [0, 0, 0] (fun L => [GV (gp P), RV k, pt (L.b 0) 0, pt (L.b 1) 0, pt (L.b 2) 0] ++ U 5) (fun L => [(L.b 0, GC (gp P)), (L.b 1, RC k), (L.b 2, JC ⟨0, 0, 0⟩)]) hp0 ⟨
    oB, oB, oZ rJ,
    trivial⟩ (fun L0 w1 hp1 => ?_)
  refine k1 _ _ ?_
  refine wp_seq_k (fun K2 k2 => ?_)
  refine gs [.det (GV (gp P)), .any (isRow1 (GC (gp P))), .det (RV k), .any (isRow1 (RC k)), .det (JV (jmul P k)), .store (.base 2) 0 (JC (jmul P k)) (JC (jmul P k))] [0, 1, 2, 3, 4, 5] [0, 1, 0, 4, 15, 31] (fun L => [GV (gp P), RV k, pt (L0.b 0) 0, pt (L0.b 1) 0, pt (L0.b 2) 0, GV (gp P), L.v 1, RV k, L.v 3, JV (jmul P k)]) (fun L => [((L0.b 0), GC (gp P)), ((L0.b 1), RC k), ((L0.b 2), JC (jmul P k))]) hp1 ⟨
    oL 0 0 rG, oS2 Tryd.underlying43 rG, oL 1 0 rR, oS2 Tryd.underlying42 rR, oCS (fun L => #[L.v 1, L.v 3]) (fun L w hs => totalOne K P k _ _ w (K.stay hg hs.bel) hk (hs.any 1 _ rfl rfl) (hs.any 3 _ rfl rfl)),
    oT rJ,
    trivial⟩ (fun L1 w2 hp2 => ?_)
  refine k2 _ _ ?_
  refine wp_ret ?_
  refine bodyPost_ret (v := JV (jmul P k)) ?_ rfl ?_
  · exact rc rJ rfl (by kernel_rfl) (hp2.bound 2 rfl).2
  · exact ⟨rfl, hp2.bel⟩
set_option maxHeartbeats 4000000 in
theorem g2MulJ {G : World → Prop} (K : FpK G) (P : Pt F2) (k : Nat) (w : World) (hg : G w) (hk : k < 2 ^ 256) : Calls Tryd.prog 16 #[GV (gp P), RV k] w (Ret (GV (gp (jdrop F2.inv (jmul P k)))) w) := by
  have hp0 := Heap.start w
  go_enter Tryd.func16, Tryd.ntmps16
  refine wp_seq_k (fun K1 k1 => ?_)
  refine gs [.alloc (GC (gp P)), .alloc (RC k), .alloc (GC ⟨0, 0, false⟩)] [0, 1, 2] [0, 0, 0] (fun L => [GV (gp P), RV k, pt (L.b 0) 0, pt (L.b 1) 0, pt (L.b 2) 0] ++ U 4) (fun L => [(L.b 0, GC (gp P)), (L.b 1, RC k), (L.b 2, GC ⟨0, 0, false⟩)]) hp0 ⟨
    oB, oB, oZ rG,
    trivial⟩ (fun L0 w1 hp1 => ?_)
  refine k1 _ _ ?_
  refine wp_seq_k (fun K2 k2 => ?_)
  refine gs [.det (GV (gp P)), .det (RV k), .det (JV (jmul P k)), .det (GV (gp (jdrop F2.inv (jmul P k)))), .store (.base 2) 0 (GC (gp (jdrop F2.inv (jmul P k)))) (GC (gp (jdrop F2.inv (jmul P k))))] [0, 1, 2, 3, 4] [0, 0, 3, 7, 15] (fun L => [GV (gp P), RV k, pt (L0.b 0) 0, pt (L0.b 1) 0, pt (L0.b 2) 0, GV (gp P), RV k, JV (jmul P k), GV (gp (jdrop F2.inv (jmul P k)))]) (fun L => [((L0.b 0), GC (gp P)), ((L0.b 1), RC k), ((L0.b 2), GC (gp (jdrop F2.inv (jmul P k))))]) hp1 ⟨
    oL 0 0 rG, oL 1 0 rR, oH (v := JV (jmul P k)) (vs := #[GV (gp P), RV k]) (fun w hb _ => g2times K P k w (K.stay hg hb) hk), oC K.stay hg (g2drop K (jmul P k)),
    oT rG,
    trivial⟩ (fun L1 w2 hp2 => ?_)
  refine k2 _ _ ?_
  refine wp_ret ?_
  refine bodyPost_ret (v := GV (gp (jdrop F2.inv (jmul P k)))) ?_ rfl ?_
  · exact rc rG rfl (by kernel_rfl) (hp2.bound 2 rfl).2
  · exact ⟨rfl, hp2.bel⟩
theorem g2Mul {G : World → Prop} (K : FpK G) (P : Pt F2) (k : Nat) (w : World) (hg : G w) (hP : On b2 P) (hk : k < 2 ^ 256) : Calls Tryd.prog 16 #[GV (gp P), RV k] w (Ret (GV (gp (mul F2.inv k P))) w) := by
  have h := g2MulJ K P k w hg hk
  rw [JRep.drop crv2 (jmul_rep hP hk)] at h
  exact h
end Go.Proofs.YthehnlpgmkjefaaDoor.fpn.T2

/- Package g1 and the reference: On, In, multiples; scalars. -/
namespace Go.Proofs.YthehnlpgmkjefaaDoor.fpn.T2
open Go.RowKit Pl EC
set_option linter.unusedVariables false
set_option linter.unusedSimpArgs false
set_option maxRecDepth 4000

theorem fp2MayF {G : World → Prop} (K : FpK G) (a : F2) (w : World) (hg : G w) : Calls Tryd.prog 42 #[PV a] w (Ret (.bool true) w) := fp2May K (lb a.c0.val) (lb a.c1.val) w hg (lb_rg _ _) (lb_rg _ _) (lt_RI _) (lt_RI _)
theorem refMayF (R : RefK) (a : F2) (w : World) : Calls Tryd.prog 46 #[PV a] w (Ret (.bool true) w) := ref5May2 R (lb a.c0.val) (lb a.c1.val) w (lb_rg _ _) (lb_rg _ _) (lt_RI _) (lt_RI _)
set_option maxHeartbeats 4000000 in
theorem g2OnA {G : World → Prop} (K : FpK G) (x y : F2) (w : World) (hg : G w) : Calls Tryd.prog 19 #[GV ⟨x, y, false⟩] w (Ret (.bool (decide (y * y = x * x * x + b2))) w) := by
  have hp0 := Heap.start w
  go_enter Tryd.func19, Tryd.ntmps19
  refine wp_seq_k (fun K1 k1 => ?_)
  refine gs [.alloc (GC ⟨x, y, false⟩), .det (.bool false)] [0, 1] [0, 0] (fun L => [GV ⟨x, y, false⟩, pt (L.b 0) 0, .bool false] ++ U 29) (fun L => [(L.b 0, GC ⟨x, y, false⟩)]) hp0 ⟨
    oB, oA,
    trivial⟩ (fun L0 w1 hp1 => ?_)
  refine k1 _ _ ?_
  refine wp_seq_k (fun K2 k2 => ?_)
  refine wp_seq_k (fun K3 k3 => ?_)
  refine gs [.det (pt (L0.b 0) 24), .det (.bool false)] [0, 1] [0, 1] (fun L => [GV ⟨x, y, false⟩, pt (L0.b 0) 0, .bool false, pt (L0.b 0) 24, .bool false] ++ U 27) (fun L => [((L0.b 0), GC ⟨x, y, false⟩)]) hp1 ⟨
    oF fG2, oL1 0 24 oneB,
    trivial⟩ (fun L1 w2 hp2 => ?_)
  refine k3 _ _ ?_
  refine wp_cond_false (by kernel_rfl) ?_
  refine skips ?_
  refine k2 _ _ ?_
  refine wp_seq_k (fun K4 k4 => ?_)
  refine wp_seq_k (fun K5 k5 => ?_)
  refine gs [.det (pt (L0.b 0) 0), .det (PV x), .det (.bool true), .det (.bool false), .det (.bool false), .det (pt (L0.b 0) 12), .det (PV y), .det (.bool true), .det (.bool false), .det (.bool false)] [0, 1, 2, 3, 4, 5, 6, 7, 8, 9] [0, 1, 3, 7, 15, 31, 63, 127, 255, 511] (fun L => [GV ⟨x, y, false⟩, pt (L0.b 0) 0, .bool false, pt (L0.b 0) 24, .bool false, undef, undef, undef, pt (L0.b 0) 0, PV x, .bool true, .bool false, .bool false, pt (L0.b 0) 12, PV y, .bool true, .bool false, .bool false] ++ U 14) (fun L => [((L0.b 0), GC ⟨x, y, false⟩)]) hp2 ⟨
    oF fG0, oL 0 0 rP, oC K.stay hg (fp2MayF K x), oN, oM, oF fG1, oL 0 12 rP, oC K.stay hg (fp2MayF K y), oN, oP,
    trivial⟩ (fun L2 w3 hp3 => ?_)
  refine k5 _ _ ?_
  refine wp_cond_false (by kernel_rfl) ?_
  refine skips ?_
  refine k4 _ _ ?_
  refine wp_seq_k (fun K6 k6 => ?_)
  refine dr [.det (pt (L0.b 0) 12), .det (PV y), .det (PV (y * y)), .det (pt (L0.b 0) 0), .det (PV x), .det (PV (x * x)), .det (pt (L0.b 0) 0), .det (PV x), .det (PV ((x * x) * x)), .det (FV 4), .det (FV 4), .det (PV ⟨4, 4⟩), .det (PV (((x * x) * x) + ⟨4, 4⟩)), .det (.bool (decide ((y * y) = (((x * x) * x) + ⟨4, 4⟩)))), .det (.bool (decide ((y * y) = (((x * x) * x) + ⟨4, 4⟩))))] [0, 1, 2, 3, 4, 5, 6, 7, 8, 9, 10, 11, 12, 13, 14] [0, 1, 3, 0, 8, 31, 0, 64, 255, 0, 0, 1536, 4095, 8191, 16383] (fun L => [GV ⟨x, y, false⟩, pt (L0.b 0) 0, .bool (decide ((y * y) = (((x * x) * x) + ⟨4, 4⟩))), pt (L0.b 0) 24, .bool false, undef, undef, undef, pt (L0.b 0) 0, PV x, .bool true, .bool false, .bool false, pt (L0.b 0) 12, PV y, .bool true, .bool false, .bool false, pt (L0.b 0) 12, PV y, PV (y * y), pt (L0.b 0) 0, PV x, PV (x * x), pt (L0.b 0) 0, PV x, PV ((x * x) * x), FV 4, FV 4, PV ⟨4, 4⟩, PV (((x * x) * x) + ⟨4, 4⟩), .bool (decide ((y * y) = (((x * x) * x) + ⟨4, 4⟩)))]) (fun L => [((L0.b 0), GC ⟨x, y, false⟩)]) hp3 ⟨
    oF fG1, oL 0 12 rP, oC K.stay hg (g2square K y), oF fG0, oL 0 0 rP, oC K.stay hg (g2square K x), oF fG0, oL 0 0 rP, oC K.stay hg (fp2Mul K (x * x) x), oD buildF4,
    oD buildF4, oD (buildP 4 4), oC K.stay hg (fp2Add K ((x * x) * x) ⟨4, 4⟩), oE (a := (y * y)) (b := (((x * x) * x) + ⟨4, 4⟩)) qP rfl, oA,
    trivial⟩ (fun L3 w4 hp4 => ?_)
  refine k6 _ _ ?_
  refine wp_ret ?_
  refine bodyPost_ret (v := .bool (decide ((y * y) = (((x * x) * x) + ⟨4, 4⟩)))) ?_ rfl ?_
  · exact res_t rfl (by kernel_rfl) _
  · exact ⟨rfl, hp4.bel⟩
set_option maxHeartbeats 4000000 in
theorem g2OnI {G : World → Prop} (K : FpK G) (P : Pt F2) (w : World) (hg : G w) : Calls Tryd.prog 19 #[GV ⟨0, 0, true⟩] w (Ret (.bool true) w) := by
  have hp0 := Heap.start w
  go_enter Tryd.func19, Tryd.ntmps19
  refine wp_seq_k (fun K1 k1 => ?_)
  refine gs [.alloc (GC ⟨0, 0, true⟩), .det (.bool false)] [0, 1] [0, 0] (fun L => [GV ⟨0, 0, true⟩, pt (L.b 0) 0, .bool false] ++ U 29) (fun L => [(L.b 0, GC ⟨0, 0, true⟩)]) hp0 ⟨
    oB, oA,
    trivial⟩ (fun L0 w1 hp1 => ?_)
  refine k1 _ _ ?_
  refine wp_seq_k (fun K2 k2 => ?_)
  refine wp_seq_k (fun K3 k3 => ?_)
  refine gs [.det (pt (L0.b 0) 24), .det (.bool true)] [0, 1] [0, 1] (fun L => [GV ⟨0, 0, true⟩, pt (L0.b 0) 0, .bool false, pt (L0.b 0) 24, .bool true] ++ U 27) (fun L => [((L0.b 0), GC ⟨0, 0, true⟩)]) hp1 ⟨
    oF fG2, oL1 0 24 oneB,
    trivial⟩ (fun L1 w2 hp2 => ?_)
  refine k3 _ _ ?_
  refine wp_cond_true (by kernel_rfl) ?_
  refine wp_seq_k (fun K4 k4 => ?_)
  refine gs [.det (GV ⟨0, 0, true⟩), .det (GV ⟨0, 0, true⟩), .det (.bool true), .det (.bool true)] [0, 1, 2, 3] [0, 0, 3, 7] (fun L => [GV ⟨0, 0, true⟩, pt (L0.b 0) 0, .bool true, pt (L0.b 0) 24, .bool true, GV ⟨0, 0, true⟩, GV ⟨0, 0, true⟩, .bool true] ++ U 24) (fun L => [((L0.b 0), GC ⟨0, 0, true⟩)]) hp2 ⟨
    oL 0 0 rG, oD (buildGi true), oE (a := ⟨0, 0, true⟩) (b := ⟨0, 0, true⟩) qG (yes rfl), oA,
    trivial⟩ (fun L2 w3 hp3 => ?_)
  refine k4 _ _ ?_
  refine wp_ret ?_
  refine bodyPost_ret (v := .bool true) ?_ rfl ?_
  · exact res_t rfl (by kernel_rfl) _
  · exact ⟨rfl, hp3.bel⟩
theorem g2On {G : World → Prop} (K : FpK G) (P : Pt F2) (w : World) (hg : G w) (hP : On b2 P) : Calls Tryd.prog 19 #[GV (gp P)] w (Ret (.bool true) w) := by
  cases P with
  | inf => exact g2OnI K .inf w hg
  | aff x y =>
    have h := g2OnA K x y w hg
    rw [decide_eq_true (show y * y = x * x * x + b2 from hP)] at h
    exact h
set_option maxHeartbeats 4000000 in
theorem g2InJ {G : World → Prop} (K : FpK G) (P : Pt F2) (w : World) (hg : G w) (hP : On b2 P) : Calls Tryd.prog 27 #[GV (gp P)] w (Ret (.bool (decide ((jmul P ordR).z = 0))) w) := by
  have hp0 := Heap.start w
  go_enter Tryd.func27, Tryd.ntmps27
  refine wp_seq_k (fun K1 k1 => ?_)
  refine gs [.alloc (GC (gp P)), .det (.bool false)] [0, 1] [0, 0] (fun L => [GV (gp P), pt (L.b 0) 0, .bool false] ++ U 10) (fun L => [(L.b 0, GC (gp P))]) hp0 ⟨
    oB, oA,
    trivial⟩ (fun L0 w1 hp1 => ?_)
  refine k1 _ _ ?_
  refine wp_seq_k (fun K2 k2 => ?_)
  refine dr [.det (GV (gp P)), .det (.bool true), .det (.bool true), .det (GV (gp P)), .any (isFour (RC ordR)), .detV 4 arrP, .det (RV ordR), .det (JV (jmul P ordR)), .det (.bool (decide ((jmul P ordR).z = 0))), .det (.bool (decide ((jmul P ordR).z = 0))), .det (.bool (decide ((jmul P ordR).z = 0)))] [0, 1, 2, 3, 4, 5, 6, 7, 8, 9, 10] [0, 1, 3, 7, 7, 23, 55, 127, 255, 511, 1023] (fun L => [GV (gp P), pt (L0.b 0) 0, .bool (decide ((jmul P ordR).z = 0)), GV (gp P), .bool true, .bool true, GV (gp P), L.v 4, arrP (L.v 4), RV ordR, JV (jmul P ordR), .bool (decide ((jmul P ordR).z = 0)), .bool (decide ((jmul P ordR).z = 0))]) (fun L => [((L0.b 0), GC (gp P))]) hp1 ⟨
    oL 0 0 rG, oH (v := .bool true) (vs := #[GV (gp P)]) (fun w hb _ => g2On K P w (K.stay hg hb) hP), oM, oL 0 0 rG, oY (fun L => #[]) isFour_stay (fun _ w _ => frR_new w),
    oAP 4 Tryd.underlying24, oLP 4 rR, oH (v := JV (jmul P ordR)) (vs := #[GV (gp P), RV ordR]) (fun w hb _ => g2times K P ordR w (K.stay hg hb) ordR_256),
    oC K.stay hg (g2isInf K (jmul P ordR)), oP, oA,
    trivial⟩ (fun L1 w2 hp2 => ?_)
  refine k2 _ _ ?_
  refine wp_ret ?_
  refine bodyPost_ret (v := .bool (decide ((jmul P ordR).z = 0))) ?_ rfl ?_
  · exact res_t rfl (by kernel_rfl) _
  · exact ⟨rfl, hp2.bel⟩
theorem isInf_mul {P : Pt F2} (hP : On b2 P) {k : Nat} (hk : k < 2 ^ 256) : decide ((jmul P k).z = 0) = decide (mul F2.inv k P = .inf) := by
  have h : JRep (mul F2.inv k P) (jmul P k) := jmul_rep hP hk
  generalize jmul P k = a at h
  generalize mul F2.inv k P = Q at h
  exact decide_eq_decide.2 (JRep.isInf h)
theorem g2In {G : World → Prop} (K : FpK G) (P : Pt F2) (w : World) (hg : G w) (hP : On b2 P) : Calls Tryd.prog 27 #[GV (gp P)] w (Ret (.bool (decide (mul F2.inv ordR P = .inf))) w) := by
  have h := g2InJ K P w hg hP
  rw [isInf_mul hP ordR_256] at h
  exact h
set_option maxHeartbeats 4000000 in
theorem ref5Plus1J (R : RefK) (P Q : Pt F2) (w : World) : Calls Tryd.prog 13 #[GV (gp P), GV (gp Q)] w (Ret (GV (gp (pto (radd2 (pof P) (pof Q))))) w) := by
  have hp0 := Heap.start w
  go_enter Tryd.func13, Tryd.ntmps13
  refine wp_seq_k (fun K1 k1 => ?_)
  refine gs [.alloc (GC (gp P)), .alloc (GC (gp Q)), .alloc (GC ⟨0, 0, false⟩)] [0, 1, 2] [0, 0, 0] (fun L => [GV (gp P), GV (gp Q), pt (L.b 0) 0, pt (L.b 1) 0, pt (L.b 2) 0] ++ U 6) (fun L => [(L.b 0, GC (gp P)), (L.b 1, GC (gp Q)), (L.b 2, GC ⟨0, 0, false⟩)]) hp0 ⟨
    oB, oB, oZ rG,
    trivial⟩ (fun L0 w1 hp1 => ?_)
  refine k1 _ _ ?_
  refine wp_seq_k (fun K2 k2 => ?_)
  refine dr [.det (GV (gp P)), .det (PJV (sp (pof P))), .det (GV (gp Q)), .det (PJV (sp (pof Q))), .det (PJV (sp (radd2 (pof P) (pof Q)))), .det (GV (gp (pto (radd2 (pof P) (pof Q))))), .store (.base 2) 0 (GC (gp (pto (radd2 (pof P) (pof Q))))) (GC (gp (pto (radd2 (pof P) (pof Q)))))] [0, 1, 2, 3, 4, 5, 6] [0, 1, 0, 7, 15, 31, 63] (fun L => [GV (gp P), GV (gp Q), pt (L0.b 0) 0, pt (L0.b 1) 0, pt (L0.b 2) 0, GV (gp P), PJV (sp (pof P)), GV (gp Q), PJV (sp (pof Q)), PJV (sp (radd2 (pof P) (pof Q))), GV (gp (pto (radd2 (pof P) (pof Q))))]) (fun L => [((L0.b 0), GC (gp P)), ((L0.b 1), GC (gp Q)), ((L0.b 2), GC (gp (pto (radd2 (pof P) (pof Q)))))]) hp1 ⟨
    oL 0 0 rG, oR (ref5of1 R P), oL 1 0 rG, oR (ref5of1 R Q), oR (ref5add R (pof P) (pof Q)), oR (ref5to1 R (radd2 (pof P) (pof Q))), oT rG,
    trivial⟩ (fun L1 w2 hp2 => ?_)
  refine k2 _ _ ?_
  refine wp_ret ?_
  refine bodyPost_ret (v := GV (gp (pto (radd2 (pof P) (pof Q))))) ?_ rfl ?_
  · exact rc rG rfl (by kernel_rfl) (hp2.bound 2 rfl).2
  · exact ⟨rfl, hp2.bel⟩
theorem ref5Plus1 (R : RefK) (P Q : Pt F2) (w : World) (hP : On b2 P) (hQ : On b2 Q) : Calls Tryd.prog 13 #[GV (gp P), GV (gp Q)] w (Ret (GV (gp (add F2.inv P Q))) w) := by
  have h := ref5Plus1J R P Q w
  rw [pto_rep (rep_add hP hQ (rep_of P) (rep_of Q))] at h
  exact h
def rmul (P : Pt F2) (k : Nat) : F2 × F2 × F2 := lad (b2 + b2 + b2) (pof P).1 (pof P).2.1 (pof P).2.2 (64 * 4) k
theorem rmul_rep {P : Pt F2} (hP : On b2 P) {k : Nat} (hk : k < 2 ^ 256) : Rep3 (mul F2.inv k P) (rmul P k) := lad_rep crv2 hP (rep_of P) (64 * 4) k hk
set_option maxHeartbeats 4000000 in
theorem ref5Times1J (R : RefK) (P : Pt F2) (k : Nat) (w : World) (hk : k < 2 ^ 256) : Calls Tryd.prog 17 #[GV (gp P), RV k] w (Ret (GV (gp (pto (rmul P k)))) w) := by
  have hp0 := Heap.start w
  go_enter Tryd.func17, Tryd.ntmps17
  refine wp_seq_k (fun K1 k1 => ?_)
  refine gs [.alloc (GC (gp P)), .alloc (RC k), .alloc (GC ⟨0, 0, false⟩)] [0, 1, 2] [0, 0, 0] (fun L => [GV (gp P), RV k, pt (L.b 0) 0, pt (L.b 1) 0, pt (L.b 2) 0] ++ U 5) (fun L => [(L.b 0, GC (gp P)), (L.b 1, RC k), (L.b 2, GC ⟨0, 0, false⟩)]) hp0 ⟨
    oB, oB, oZ rG,
    trivial⟩ (fun L0 w1 hp1 => ?_)
  refine k1 _ _ ?_
  refine wp_seq_k (fun K2 k2 => ?_)
  refine dr [.det (GV (gp P)), .det (PJV (sp (pof P))), .det (.slice (some ⟨(L0.b 1), 0, none⟩) 4 4), .det (PJV (sp (rmul P k))), .det (GV (gp (pto (rmul P k)))), .store (.base 2) 0 (GC (gp (pto (rmul P k)))) (GC (gp (pto (rmul P k))))] [0, 1, 2, 3, 4, 5] [0, 1, 0, 7, 15, 31] (fun L => [GV (gp P), RV k, pt (L0.b 0) 0, pt (L0.b 1) 0, pt (L0.b 2) 0, GV (gp P), PJV (sp (pof P)), .slice (some ⟨(L0.b 1), 0, none⟩) 4 4, PJV (sp (rmul P k)), GV (gp (pto (rmul P k)))]) (fun L => [((L0.b 0), GC (gp P)), ((L0.b 1), RC k), ((L0.b 2), GC (gp (pto (rmul P k))))]) hp1 ⟨
    oL 0 0 rG, oR (ref5of1 R P), oSA (sz := 1) Tryd.underlying24 (by kernel_rfl) (by decide), oCS (fun L => #[PJV (sp (pof P)), .slice (some ⟨(L0.b 1), 0, none⟩) 4 4, .bool false]) (fun L w hs => ref5times R (pof P) _ 4 4 (lb k) k w (by decide) (atR (seen_at (k := 1) hs rfl)) (lb_rg _ _) (lbR hk)),
    oR (ref5to1 R (rmul P k)), oT rG,
    trivial⟩ (fun L1 w2 hp2 => ?_)
  refine k2 _ _ ?_
  refine wp_ret ?_
  refine bodyPost_ret (v := GV (gp (pto (rmul P k)))) ?_ rfl ?_
  · exact rc rG rfl (by kernel_rfl) (hp2.bound 2 rfl).2
  · exact ⟨rfl, hp2.bel⟩
theorem ref5Times1 (R : RefK) (P : Pt F2) (k : Nat) (w : World) (hP : On b2 P) (hk : k < 2 ^ 256) : Calls Tryd.prog 17 #[GV (gp P), RV k] w (Ret (GV (gp (mul F2.inv k P))) w) := by
  have h := ref5Times1J R P k w hk
  rw [pto_rep (rmul_rep hP hk)] at h
  exact h
theorem ref5timesR (R : RefK) (P : Pt F2) (v : Value) (w : World) (hv : isFour (RC ordR) v w) : Calls Tryd.prog 41 #[PJV (sp (pof P)), v, .bool false] w (Ret (PJV (sp (rmul P ordR))) w) := by
  obtain ⟨b, off, c, rfl, hc⟩ := hv
  exact ref5times R (pof P) _ 4 c (lb ordR) ordR w (by decide) (atR' hc) (lb_rg _ _) (lbR ordR_256)
set_option maxHeartbeats 4000000 in
theorem ref5In1J (R : RefK) (P : Pt F2) (w : World) : Calls Tryd.prog 28 #[GV (gp P)] w (Ret (.bool (gp (pto (rmul P ordR))).i) w) := by
  have hp0 := Heap.start w
  go_enter Tryd.func28, Tryd.ntmps28
  refine wp_seq_k (fun K1 k1 => ?_)
  refine gs [.alloc (GC (gp P)), .det (.bool false)] [0, 1] [0, 0] (fun L => [GV (gp P), pt (L.b 0) 0, .bool false] ++ U 6) (fun L => [(L.b 0, GC (gp P))]) hp0 ⟨
    oB, oA,
    trivial⟩ (fun L0 w1 hp1 => ?_)
  refine k1 _ _ ?_
  refine wp_seq_k (fun K2 k2 => ?_)
  refine gs [.det (GV (gp P)), .det (PJV (sp (pof P))), .any (isFour (RC ordR)), .det (PJV (sp (rmul P ordR))), .det (GV (gp (pto (rmul P ordR)))), .det (.bool ((gp (pto (rmul P ordR))).i)), .det (.bool ((gp (pto (rmul P ordR))).i))] [0, 1, 2, 3, 4, 5, 6] [0, 1, 3, 7, 15, 31, 63] (fun L => [GV (gp P), pt (L0.b 0) 0, .bool ((gp (pto (rmul P ordR))).i), GV (gp P), PJV (sp (pof P)), L.v 2, PJV (sp (rmul P ordR)), GV (gp (pto (rmul P ordR))), .bool ((gp (pto (rmul P ordR))).i)]) (fun L => [((L0.b 0), GC (gp P))]) hp1 ⟨
    oL 0 0 rG, oR (ref5of1 R P), oY (fun L => #[]) isFour_stay (fun _ w _ => refR_new w), oCS (fun L => #[PJV (sp (pof P)), L.v 2, .bool false]) (fun L w hs => ref5timesR R P _ w (hs.any 2 _ rfl rfl)),
    oR (ref5to1 R (rmul P ordR)), oFv (n := 0) (cs := GC (gp (pto (rmul P ordR)))) fG2 fG2a, oA,
    trivial⟩ (fun L1 w2 hp2 => ?_)
  refine k2 _ _ ?_
  refine wp_ret ?_
  refine bodyPost_ret (v := .bool ((gp (pto (rmul P ordR))).i)) ?_ rfl ?_
  · exact res_t rfl (by kernel_rfl) _
  · exact ⟨rfl, hp2.bel⟩
theorem gp_i (P : Pt F2) : (gp P).i = decide (P = .inf) := by
  cases P with
  | inf => exact (decide_eq_true rfl).symm
  | aff x y => exact (decide_eq_false (fun h => by cases h)).symm
theorem rmul_to {P : Pt F2} (hP : On b2 P) {k : Nat} (hk : k < 2 ^ 256) : (gp (pto (rmul P k))).i = decide (mul F2.inv k P = .inf) := by
  have h : Rep3 (mul F2.inv k P) (rmul P k) := rmul_rep hP hk
  rw [pto_rep h, gp_i]
theorem ref5In1 (R : RefK) (P : Pt F2) (w : World) (hP : On b2 P) : Calls Tryd.prog 28 #[GV (gp P)] w (Ret (.bool (decide (mul F2.inv ordR P = .inf))) w) := by
  have h := ref5In1J R P w
  rw [rmul_to hP ordR_256] at h
  exact h
set_option maxHeartbeats 4000000 in
theorem ref5Min0 (R : RefK) (x y : F2) (w : World) : Calls Tryd.prog 15 #[GV ⟨x, y, true⟩] w (Ret (GV ⟨x, y, true⟩) w) := by
  have hp0 := Heap.start w
  go_enter Tryd.func15, Tryd.ntmps15
  refine wp_seq_k (fun K1 k1 => ?_)
  refine gs [.alloc (GC ⟨x, y, true⟩), .alloc (GC ⟨0, 0, false⟩)] [0, 1] [0, 0] (fun L => [GV ⟨x, y, true⟩, pt (L.b 0) 0, pt (L.b 1) 0] ++ U 8) (fun L => [(L.b 0, GC ⟨x, y, true⟩), (L.b 1, GC ⟨0, 0, false⟩)]) hp0 ⟨
    oB, oZ rG,
    trivial⟩ (fun L0 w1 hp1 => ?_)
  refine k1 _ _ ?_
  refine wp_seq_k (fun K2 k2 => ?_)
  refine wp_seq_k (fun K3 k3 => ?_)
  refine gs [.det (pt (L0.b 0) 24), .det (.bool true), .det (.bool false)] [0, 1, 2] [0, 1, 3] (fun L => [GV ⟨x, y, true⟩, pt (L0.b 0) 0, pt (L0.b 1) 0, pt (L0.b 0) 24, .bool true, .bool false] ++ U 5) (fun L => [((L0.b 0), GC ⟨x, y, true⟩), ((L0.b 1), GC ⟨0, 0, false⟩)]) hp1 ⟨
    oF fG2, oL1 0 24 oneB, oN,
    trivial⟩ (fun L1 w2 hp2 => ?_)
  refine k3 _ _ ?_
  refine wp_cond_false (by kernel_rfl) ?_
  refine skips ?_
  refine k2 _ _ ?_
  refine wp_seq_k (fun K4 k4 => ?_)
  refine gs [.det (GV ⟨x, y, true⟩), .store (.base 1) 0 (GC ⟨x, y, true⟩) (GC ⟨x, y, true⟩)] [0, 1] [0, 1] (fun L => [GV ⟨x, y, true⟩, pt (L0.b 0) 0, pt (L0.b 1) 0, pt (L0.b 0) 24, .bool true, .bool false, undef, undef, undef, undef, GV ⟨x, y, true⟩]) (fun L => [((L0.b 0), GC ⟨x, y, true⟩), ((L0.b 1), GC ⟨x, y, true⟩)]) hp2 ⟨
    oL 0 0 rG, oT rG,
    trivial⟩ (fun L2 w3 hp3 => ?_)
  refine k4 _ _ ?_
  refine wp_ret ?_
  refine bodyPost_ret (v := GV ⟨x, y, true⟩) ?_ rfl ?_
  · exact rc rG rfl (by kernel_rfl) (hp3.bound 1 rfl).2
  · exact ⟨rfl, hp3.bel⟩
set_option maxHeartbeats 4000000 in
theorem ref5Min1 (R : RefK) (x y : F2) (w : World) : Calls Tryd.prog 15 #[GV ⟨x, y, false⟩] w (Ret (GV ⟨x, -y, false⟩) w) := by
  have hp0 := Heap.start w
  go_enter Tryd.func15, Tryd.ntmps15
  refine wp_seq_k (fun K1 k1 => ?_)
  refine gs [.alloc (GC ⟨x, y, false⟩), .alloc (GC ⟨0, 0, false⟩)] [0, 1] [0, 0] (fun L => [GV ⟨x, y, false⟩, pt (L.b 0) 0, pt (L.b 1) 0] ++ U 8) (fun L => [(L.b 0, GC ⟨x, y, false⟩), (L.b 1, GC ⟨0, 0, false⟩)]) hp0 ⟨
    oB, oZ rG,
    trivial⟩ (fun L0 w1 hp1 => ?_)
  refine k1 _ _ ?_
  refine wp_seq_k (fun K2 k2 => ?_)
  refine wp_seq_k (fun K3 k3 => ?_)
  refine gs [.det (pt (L0.b 0) 24), .det (.bool false), .det (.bool true)] [0, 1, 2] [0, 1, 3] (fun L => [GV ⟨x, y, false⟩, pt (L0.b 0) 0, pt (L0.b 1) 0, pt (L0.b 0) 24, .bool false, .bool true] ++ U 5) (fun L => [((L0.b 0), GC ⟨x, y, false⟩), ((L0.b 1), GC ⟨0, 0, false⟩)]) hp1 ⟨
    oF fG2, oL1 0 24 oneB, oN,
    trivial⟩ (fun L1 w2 hp2 => ?_)
  refine k3 _ _ ?_
  refine wp_cond_true (by kernel_rfl) ?_
  refine gs [.det (pt (L0.b 0) 12), .det (PV y), .det (PV (-y)), .det (pt (L0.b 0) 12), .store (.base 0) 12 (PC (-y)) (GC ⟨x, (-y), false⟩)] [0, 1, 2, 3, 4] [0, 1, 3, 7, 15] (fun L => [GV ⟨x, y, false⟩, pt (L0.b 0) 0, pt (L0.b 1) 0, pt (L0.b 0) 24, .bool false, .bool true, pt (L0.b 0) 12, PV y, PV (-y), pt (L0.b 0) 12, undef]) (fun L => [((L0.b 0), GC ⟨x, (-y), false⟩), ((L0.b 1), GC ⟨0, 0, false⟩)]) hp2 ⟨
    oF fG1, oL 0 12 rP, oR (ref5Neg2 R y), oF fG1, oT rP,
    trivial⟩ (fun L2 w3 hp3 => ?_)
  refine k2 _ _ ?_
  refine wp_seq_k (fun K4 k4 => ?_)
  refine gs [.det (GV ⟨x, (-y), false⟩), .store (.base 1) 0 (GC ⟨x, (-y), false⟩) (GC ⟨x, (-y), false⟩)] [0, 1] [0, 1] (fun L => [GV ⟨x, y, false⟩, pt (L0.b 0) 0, pt (L0.b 1) 0, pt (L0.b 0) 24, .bool false, .bool true, pt (L0.b 0) 12, PV y, PV (-y), pt (L0.b 0) 12, GV ⟨x, (-y), false⟩]) (fun L => [((L0.b 0), GC ⟨x, (-y), false⟩), ((L0.b 1), GC ⟨x, (-y), false⟩)]) hp3 ⟨
    oL 0 0 rG, oT rG,
    trivial⟩ (fun L3 w4 hp4 => ?_)
  refine k4 _ _ ?_
  refine wp_ret ?_
  refine bodyPost_ret (v := GV ⟨x, (-y), false⟩) ?_ rfl ?_
  · exact rc rG rfl (by kernel_rfl) (hp4.bound 1 rfl).2
  · exact ⟨rfl, hp4.bel⟩
theorem ref5Minus1 (R : RefK) (P : Pt F2) (w : World) : Calls Tryd.prog 15 #[GV (gp P)] w (Ret (GV (gp (neg P))) w) := by
  cases P with
  | inf => exact ref5Min0 R 0 0 w
  | aff x y => exact ref5Min1 R x y w
set_option maxHeartbeats 4000000 in
theorem ref5Gen1 (R : RefK)  (w : World) : Calls Tryd.prog 20 #[] w (Ret (GV (gp gen2)) w) := by
  have hp0 := Heap.start w
  go_enter Tryd.func20, Tryd.ntmps20
  refine wp_seq_k (fun K1 k1 => ?_)
  refine gs [.alloc (GC ⟨0, 0, false⟩)] [0] [0] (fun L => [pt (L.b 0) 0] ++ U 7) (fun L => [(L.b 0, GC ⟨0, 0, false⟩)]) hp0 ⟨
    oZ rG,
    trivial⟩ (fun L0 w1 hp1 => ?_)
  refine k1 _ _ ?_
  refine wp_seq_k (fun K2 k2 => ?_)
  refine gs [.det (FV g2x.c0), .det (FV g2x.c1), .det (PV ⟨g2x.c0, g2x.c1⟩), .det (FV g2y.c0), .det (FV g2y.c1), .det (PV ⟨g2y.c0, g2y.c1⟩), .det (GV ⟨⟨g2x.c0, g2x.c1⟩, ⟨g2y.c0, g2y.c1⟩, false⟩), .store (.base 0) 0 (GC ⟨⟨g2x.c0, g2x.c1⟩, ⟨g2y.c0, g2y.c1⟩, false⟩) (GC ⟨⟨g2x.c0, g2x.c1⟩, ⟨g2y.c0, g2y.c1⟩, false⟩)] [0, 1, 2, 3, 4, 5, 6, 7] [0, 0, 3, 0, 0, 24, 63, 127] (fun L => [pt (L0.b 0) 0, FV g2x.c0, FV g2x.c1, PV ⟨g2x.c0, g2x.c1⟩, FV g2y.c0, FV g2y.c1, PV ⟨g2y.c0, g2y.c1⟩, GV ⟨⟨g2x.c0, g2x.c1⟩, ⟨g2y.c0, g2y.c1⟩, false⟩]) (fun L => [((L0.b 0), GC ⟨⟨g2x.c0, g2x.c1⟩, ⟨g2y.c0, g2y.c1⟩, false⟩)]) hp1 ⟨
    oD buildFg2x0, oD buildFg2x1, oD (buildP g2x.c0 g2x.c1), oD buildFg2y0, oD buildFg2y1, oD (buildP g2y.c0 g2y.c1), oD (buildG01 ⟨g2x.c0, g2x.c1⟩ ⟨g2y.c0, g2y.c1⟩),
    oT rG,
    trivial⟩ (fun L1 w2 hp2 => ?_)
  refine k2 _ _ ?_
  refine wp_ret ?_
  refine bodyPost_ret (v := GV ⟨⟨g2x.c0, g2x.c1⟩, ⟨g2y.c0, g2y.c1⟩, false⟩) ?_ rfl ?_
  · exact rc rG rfl (by kernel_rfl) (hp2.bound 0 rfl).2
  · exact ⟨rfl, hp2.bel⟩
set_option maxHeartbeats 4000000 in
theorem ref5b2 (R : RefK)  (w : World) : Calls Tryd.prog 49 #[] w (Ret (PV b2) w) := by
  have hp0 := Heap.start w
  go_enter Tryd.func49, Tryd.ntmps49
  refine wp_seq_k (fun K1 k1 => ?_)
  refine gs [.alloc (PC 0)] [0] [0] (fun L => [pt (L.b 0) 0, undef, undef, undef]) (fun L => [(L.b 0, PC 0)]) hp0 ⟨
    oZ rP,
    trivial⟩ (fun L0 w1 hp1 => ?_)
  refine k1 _ _ ?_
  refine wp_seq_k (fun K2 k2 => ?_)
  refine gs [.det (FV 4), .det (FV 4), .det (PV ⟨4, 4⟩), .store (.base 0) 0 (PC ⟨4, 4⟩) (PC ⟨4, 4⟩)] [0, 1, 2, 3] [0, 1, 3, 7] (fun L => [pt (L0.b 0) 0, FV 4, FV 4, PV ⟨4, 4⟩]) (fun L => [((L0.b 0), PC ⟨4, 4⟩)]) hp1 ⟨
    oR R.of4, oR R.of4, oD (buildP 4 4), oT rP,
    trivial⟩ (fun L1 w2 hp2 => ?_)
  refine k2 _ _ ?_
  refine wp_ret ?_
  refine bodyPost_ret (v := PV ⟨4, 4⟩) ?_ rfl ?_
  · exact rc rP rfl (by kernel_rfl) (hp2.bound 0 rfl).2
  · exact ⟨rfl, hp2.bel⟩
set_option maxHeartbeats 4000000 in
theorem ref5OnA (R : RefK) (x y : F2) (w : World) : Calls Tryd.prog 21 #[GV ⟨x, y, false⟩] w (Ret (.bool (decide (y * y = x * x * x + b2))) w) := by
  have hp0 := Heap.start w
  go_enter Tryd.func21, Tryd.ntmps21
  refine wp_seq_k (fun K1 k1 => ?_)
  refine gs [.alloc (GC ⟨x, y, false⟩), .det (.bool false)] [0, 1] [0, 0] (fun L => [GV ⟨x, y, false⟩, pt (L.b 0) 0, .bool false] ++ U 38) (fun L => [(L.b 0, GC ⟨x, y, false⟩)]) hp0 ⟨
    oB, oA,
    trivial⟩ (fun L0 w1 hp1 => ?_)
  refine k1 _ _ ?_
  refine wp_seq_k (fun K2 k2 => ?_)
  refine wp_seq_k (fun K3 k3 => ?_)
  refine gs [.det (pt (L0.b 0) 24), .det (.bool false)] [0, 1] [0, 1] (fun L => [GV ⟨x, y, false⟩, pt (L0.b 0) 0, .bool false, pt (L0.b 0) 24, .bool false] ++ U 36) (fun L => [((L0.b 0), GC ⟨x, y, false⟩)]) hp1 ⟨
    oF fG2, oL1 0 24 oneB,
    trivial⟩ (fun L1 w2 hp2 => ?_)
  refine k3 _ _ ?_
  refine wp_cond_false (by kernel_rfl) ?_
  refine skips ?_
  refine k2 _ _ ?_
  refine wp_seq_k (fun K4 k4 => ?_)
  refine dr [.det (pt (L0.b 0) 0), .det (PV x), .det (.bool true), .det (.bool true), .det (pt (L0.b 0) 12), .det (PV y), .det (.bool true), .det (.bool true), .det (.bool true), .det (pt (L0.b 0) 12), .det (PV y), .det (pt (L0.b 0) 12), .det (PV y), .det (PV (y * y)), .det (pt (L0.b 0) 0), .det (PV x), .det (pt (L0.b 0) 0), .det (PV x), .det (PV (x * x)), .det (pt (L0.b 0) 0), .det (PV x), .det (PV ((x * x) * x)), .det (PV b2), .det (PV (((x * x) * x) + b2)), .det (.bool (decide ((y * y) = (((x * x) * x) + b2)))), .det (.bool (decide ((y * y) = (((x * x) * x) + b2)))), .det (.bool (decide ((y * y) = (((x * x) * x) + b2))))] [0, 1, 2, 3, 4, 5, 6, 7, 8, 9, 10, 11, 12, 13, 14, 15, 16, 17, 18, 19, 20, 21, 22, 23, 24, 25, 26] [0, 1, 3, 7, 15, 31, 63, 127, 255, 511, 1023, 511, 2559, 8191, 511, 16895, 511, 66047, 262143, 511, 524799, 2097151, 4194303, 8388607, 16777215, 33554431, 67108863] (fun L => [GV ⟨x, y, false⟩, pt (L0.b 0) 0, .bool (decide ((y * y) = (((x * x) * x) + b2))), pt (L0.b 0) 24, .bool false, undef, undef, undef, undef, undef, undef, undef, undef, undef, undef, pt (L0.b 0) 0, PV x, .bool true, .bool true, pt (L0.b 0) 12, PV y, .bool true, .bool true, .bool true, pt (L0.b 0) 12, PV y, pt (L0.b 0) 12, PV y, PV (y * y), pt (L0.b 0) 0, PV x, pt (L0.b 0) 0, PV x, PV (x * x), pt (L0.b 0) 0, PV x, PV ((x * x) * x), PV b2, PV (((x * x) * x) + b2), .bool (decide ((y * y) = (((x * x) * x) + b2))), .bool (decide ((y * y) = (((x * x) * x) + b2)))]) (fun L => [((L0.b 0), GC ⟨x, y, false⟩)]) hp2 ⟨
    oF fG0, oL 0 0 rP, oR (refMayF R x), oM, oF fG1, oL 0 12 rP, oR (refMayF R y), oP, oM, oF fG1, oL 0 12 rP, oF fG1, oL 0 12 rP, oR (ref5Mul2 R y y), oF fG0, oL 0 0 rP,
    oF fG0, oL 0 0 rP, oR (ref5Mul2 R x x), oF fG0, oL 0 0 rP, oR (ref5Mul2 R (x * x) x), oR (ref5b2 R), oR (ref5Add2 R ((x * x) * x) b2), oE (a := (y * y)) (b := (((x * x) * x) + b2)) qP rfl,
    oP, oA,
    trivial⟩ (fun L2 w3 hp3 => ?_)
  refine k4 _ _ ?_
  refine wp_ret ?_
  refine bodyPost_ret (v := .bool (decide ((y * y) = (((x * x) * x) + b2)))) ?_ rfl ?_
  · exact res_t rfl (by kernel_rfl) _
  · exact ⟨rfl, hp3.bel⟩
theorem may_fp {G : World → Prop} (K : FpK G) (f e : Nat → Int) (w : World) (hg : G w) (rf : Rg f 6) (re : Rg e 6) : Calls Tryd.prog 42 #[QV2 f e] w (Ret (.bool (decide (val f 6 < RI) && decide (val e 6 < RI))) w) := by
  by_cases lf : val f 6 < RI
  · by_cases le : val e 6 < RI
    · rw [decide_eq_true lf, decide_eq_true le]; exact fp2May K f e w hg rf re lf le
    · rw [decide_eq_true lf, decide_eq_false le]; exact fp2May1 K f e w hg rf re lf le
  · rw [decide_eq_false lf]; exact fp2May0 K f e w hg rf lf
theorem may_ref (R : RefK) (f e : Nat → Int) (w : World) (rf : Rg f 6) (re : Rg e 6) : Calls Tryd.prog 46 #[QV2 f e] w (Ret (.bool (decide (val f 6 < RI) && decide (val e 6 < RI))) w) := by
  by_cases lf : val f 6 < RI
  · by_cases le : val e 6 < RI
    · rw [decide_eq_true lf, decide_eq_true le]; exact ref5May2 R f e w rf re lf le
    · rw [decide_eq_true lf, decide_eq_false le]; exact ref5May21 R f e w rf re lf le
  · rw [decide_eq_false lf]; exact ref5May20 R f e w rf lf
set_option maxHeartbeats 4000000 in
theorem g2OnF {G : World → Prop} (K : FpK G) (f e g h : Nat → Int) (w : World) (hg : G w) (rf : Rg f 6) (re : Rg e 6) (rg : Rg g 6) (rh : Rg h 6) (lf : (decide (val f 6 < RI) && decide (val e 6 < RI)) = false) : Calls Tryd.prog 19 #[QGV f e g h false] w (Ret (.bool false) w) := by
  have hp0 := Heap.start w
  go_enter Tryd.func19, Tryd.ntmps19
  refine wp_seq_k (fun K1 k1 => ?_)
  refine gs [.alloc (QGC f e g h false), .det (.bool false)] [0, 1] [0, 0] (fun L => [QGV f e g h false, pt (L.b 0) 0, .bool false] ++ U 29) (fun L => [(L.b 0, QGC f e g h false)]) hp0 ⟨
    oB, oA,
    trivial⟩ (fun L0 w1 hp1 => ?_)
  refine k1 _ _ ?_
  refine wp_seq_k (fun K2 k2 => ?_)
  refine wp_seq_k (fun K3 k3 => ?_)
  refine gs [.det (pt (L0.b 0) 24), .det (.bool false)] [0, 1] [0, 1] (fun L => [QGV f e g h false, pt (L0.b 0) 0, .bool false, pt (L0.b 0) 24, .bool false] ++ U 27) (fun L => [((L0.b 0), QGC f e g h false)]) hp1 ⟨
    oF fG2, oL1 0 24 oneB,
    trivial⟩ (fun L1 w2 hp2 => ?_)
  refine k3 _ _ ?_
  refine wp_cond_false (by kernel_rfl) ?_
  refine skips ?_
  refine k2 _ _ ?_
  refine wp_seq_k (fun K4 k4 => ?_)
  refine wp_seq_k (fun K5 k5 => ?_)
  refine gs [.det (pt (L0.b 0) 0), .det (QV2 f e), .det (.bool false), .det (.bool true), .det (.bool true), .det undef, .det undef, .det undef, .det undef, .det (.bool true)] [0, 1, 2, 3, 4, 5, 6, 7, 8, 9] [0, 1, 3, 7, 15, 31, 63, 127, 255, 511] (fun L => [QGV f e g h false, pt (L0.b 0) 0, .bool false, pt (L0.b 0) 24, .bool false, undef, undef, undef, pt (L0.b 0) 0, QV2 f e, .bool false, .bool true, .bool true, undef, undef, undef, undef, .bool true] ++ U 14) (fun L => [((L0.b 0), QGC f e g h false)]) hp2 ⟨
    oF fG0, oL 0 0 rP, oH (v := .bool false) (vs := #[QV2 f e]) (fun w hb _ => by have h := may_fp K f e w (K.stay hg hb) rf re; rw [lf] at h; exact h), oN, oM,
    oS, oS, oS, oS, oP,
    trivial⟩ (fun L2 w3 hp3 => ?_)
  refine k5 _ _ ?_
  refine wp_cond_true (by kernel_rfl) ?_
  refine wp_seq_k (fun K6 k6 => ?_)
  refine gs [.det (.bool false)] [0] [0] (fun L => [QGV f e g h false, pt (L0.b 0) 0, .bool false, pt (L0.b 0) 24, .bool false, undef, undef, undef, pt (L0.b 0) 0, QV2 f e, .bool false, .bool true, .bool true, undef, undef, undef, undef, .bool true] ++ U 14) (fun L => [((L0.b 0), QGC f e g h false)]) hp3 ⟨
    oA,
    trivial⟩ (fun L3 w4 hp4 => ?_)
  refine k6 _ _ ?_
  refine wp_ret ?_
  refine bodyPost_ret (v := .bool false) ?_ rfl ?_
  · exact res_t rfl (by kernel_rfl) _
  · exact ⟨rfl, hp4.bel⟩
set_option maxHeartbeats 4000000 in
theorem g2OnG {G : World → Prop} (K : FpK G) (f e g h : Nat → Int) (w : World) (hg : G w) (rf : Rg f 6) (re : Rg e 6) (rg : Rg g 6) (rh : Rg h 6) (lf : (decide (val f 6 < RI) && decide (val e 6 < RI)) = true) (lg : (decide (val g 6 < RI) && decide (val h 6 < RI)) = false) : Calls Tryd.prog 19 #[QGV f e g h false] w (Ret (.bool false) w) := by
  have hp0 := Heap.start w
  go_enter Tryd.func19, Tryd.ntmps19
  refine wp_seq_k (fun K1 k1 => ?_)
  refine gs [.alloc (QGC f e g h false), .det (.bool false)] [0, 1] [0, 0] (fun L => [QGV f e g h false, pt (L.b 0) 0, .bool false] ++ U 29) (fun L => [(L.b 0, QGC f e g h false)]) hp0 ⟨
    oB, oA,
    trivial⟩ (fun L0 w1 hp1 => ?_)
  refine k1 _ _ ?_
  refine wp_seq_k (fun K2 k2 => ?_)
  refine wp_seq_k (fun K3 k3 => ?_)
  refine gs [.det (pt (L0.b 0) 24), .det (.bool false)] [0, 1] [0, 1] (fun L => [QGV f e g h false, pt (L0.b 0) 0, .bool false, pt (L0.b 0) 24, .bool false] ++ U 27) (fun L => [((L0.b 0), QGC f e g h false)]) hp1 ⟨
    oF fG2, oL1 0 24 oneB,
    trivial⟩ (fun L1 w2 hp2 => ?_)
  refine k3 _ _ ?_
  refine wp_cond_false (by kernel_rfl) ?_
  refine skips ?_
  refine k2 _ _ ?_
  refine wp_seq_k (fun K4 k4 => ?_)
  refine wp_seq_k (fun K5 k5 => ?_)
  refine gs [.det (pt (L0.b 0) 0), .det (QV2 f e), .det (.bool true), .det (.bool false), .det (.bool false), .det (pt (L0.b 0) 12), .det (QV2 g h), .det (.bool false), .det (.bool true), .det (.bool true)] [0, 1, 2, 3, 4, 5, 6, 7, 8, 9] [0, 1, 3, 7, 15, 31, 63, 127, 255, 511] (fun L => [QGV f e g h false, pt (L0.b 0) 0, .bool false, pt (L0.b 0) 24, .bool false, undef, undef, undef, pt (L0.b 0) 0, QV2 f e, .bool true, .bool false, .bool false, pt (L0.b 0) 12, QV2 g h, .bool false, .bool true, .bool true] ++ U 14) (fun L => [((L0.b 0), QGC f e g h false)]) hp2 ⟨
    oF fG0, oL 0 0 rP, oH (v := .bool true) (vs := #[QV2 f e]) (fun w hb _ => by have h := may_fp K f e w (K.stay hg hb) rf re; rw [lf] at h; exact h), oN, oM, oF fG1,
    oL 0 12 rP, oH (v := .bool false) (vs := #[QV2 g h]) (fun w hb _ => by have h := may_fp K g h w (K.stay hg hb) rg rh; rw [lg] at h; exact h), oN, oP,
    trivial⟩ (fun L2 w3 hp3 => ?_)
  refine k5 _ _ ?_
  refine wp_cond_true (by kernel_rfl) ?_
  refine wp_seq_k (fun K6 k6 => ?_)
  refine gs [.det (.bool false)] [0] [0] (fun L => [QGV f e g h false, pt (L0.b 0) 0, .bool false, pt (L0.b 0) 24, .bool false, undef, undef, undef, pt (L0.b 0) 0, QV2 f e, .bool true, .bool false, .bool false, pt (L0.b 0) 12, QV2 g h, .bool false, .bool true, .bool true] ++ U 14) (fun L => [((L0.b 0), QGC f e g h false)]) hp3 ⟨
    oA,
    trivial⟩ (fun L3 w4 hp4 => ?_)
  refine k6 _ _ ?_
  refine wp_ret ?_
  refine bodyPost_ret (v := .bool false) ?_ rfl ?_
  · exact res_t rfl (by kernel_rfl) _
  · exact ⟨rfl, hp4.bel⟩
set_option maxHeartbeats 4000000 in
theorem ref5OnF (R : RefK) (f e g h : Nat → Int) (w : World) (rf : Rg f 6) (re : Rg e 6) (rg : Rg g 6) (rh : Rg h 6) (lf : (decide (val f 6 < RI) && decide (val e 6 < RI)) = false) : Calls Tryd.prog 21 #[QGV f e g h false] w (Ret (.bool false) w) := by
  have hp0 := Heap.start w
  go_enter Tryd.func21, Tryd.ntmps21
  refine wp_seq_k (fun K1 k1 => ?_)
  refine gs [.alloc (QGC f e g h false), .det (.bool false)] [0, 1] [0, 0] (fun L => [QGV f e g h false, pt (L.b 0) 0, .bool false] ++ U 38) (fun L => [(L.b 0, QGC f e g h false)]) hp0 ⟨
    oB, oA,
    trivial⟩ (fun L0 w1 hp1 => ?_)
  refine k1 _ _ ?_
  refine wp_seq_k (fun K2 k2 => ?_)
  refine wp_seq_k (fun K3 k3 => ?_)
  refine gs [.det (pt (L0.b 0) 24), .det (.bool false)] [0, 1] [0, 1] (fun L => [QGV f e g h false, pt (L0.b 0) 0, .bool false, pt (L0.b 0) 24, .bool false] ++ U 36) (fun L => [((L0.b 0), QGC f e g h false)]) hp1 ⟨
    oF fG2, oL1 0 24 oneB,
    trivial⟩ (fun L1 w2 hp2 => ?_)
  refine k3 _ _ ?_
  refine wp_cond_false (by kernel_rfl) ?_
  refine skips ?_
  refine k2 _ _ ?_
  refine wp_seq_k (fun K4 k4 => ?_)
  refine dr [.det (pt (L0.b 0) 0), .det (QV2 f e), .det (.bool false), .det (.bool false), .det undef, .det undef, .det undef, .det (.bool false), .det (.bool false), .det undef, .det undef, .det undef, .det undef, .det undef, .det undef, .det undef, .det undef, .det undef, .det undef, .det undef, .det undef, .det undef, .det undef, .det undef, .det undef, .det (.bool false), .det (.bool false)] [0, 1, 2, 3, 4, 5, 6, 7, 8, 9, 10, 11, 12, 13, 14, 15, 16, 17, 18, 19, 20, 21, 22, 23, 24, 25, 26] [0, 1, 3, 7, 15, 31, 63, 127, 255, 511, 1023, 511, 2559, 8191, 511, 16895, 511, 66047, 262143, 511, 524799, 2097151, 4194303, 8388607, 16777215, 33554431, 67108863] (fun L => [QGV f e g h false, pt (L0.b 0) 0, .bool false, pt (L0.b 0) 24, .bool false, undef, undef, undef, undef, undef, undef, undef, undef, undef, undef, pt (L0.b 0) 0, QV2 f e, .bool false, .bool false, undef, undef, undef, .bool false, .bool false, undef, undef, undef, undef, undef, undef, undef, undef, undef, undef, undef, undef, undef, undef, undef, undef, .bool false]) (fun L => [((L0.b 0), QGC f e g h false)]) hp2 ⟨
    oF fG0, oL 0 0 rP, oH (v := .bool false) (vs := #[QV2 f e]) (fun w _ _ => by have h := may_ref R f e w rf re; rw [lf] at h; exact h), oM, oS, oS, oS, oP, oM,
    oS, oS, oS, oS, oS, oS, oS, oS, oS, oS, oS, oS, oS, oS, oS, oS, oP, oA,
    trivial⟩ (fun L2 w3 hp3 => ?_)
  refine k4 _ _ ?_
  refine wp_ret ?_
  refine bodyPost_ret (v := .bool false) ?_ rfl ?_
  · exact res_t rfl (by kernel_rfl) _
  · exact ⟨rfl, hp3.bel⟩
set_option maxHeartbeats 4000000 in
theorem ref5OnG (R : RefK) (f e g h : Nat → Int) (w : World) (rf : Rg f 6) (re : Rg e 6) (rg : Rg g 6) (rh : Rg h 6) (lf : (decide (val f 6 < RI) && decide (val e 6 < RI)) = true) (lg : (decide (val g 6 < RI) && decide (val h 6 < RI)) = false) : Calls Tryd.prog 21 #[QGV f e g h false] w (Ret (.bool false) w) := by
  have hp0 := Heap.start w
  go_enter Tryd.func21, Tryd.ntmps21
  refine wp_seq_k (fun K1 k1 => ?_)
  refine gs [.alloc (QGC f e g h false), .det (.bool false)] [0, 1] [0, 0] (fun L => [QGV f e g h false, pt (L.b 0) 0, .bool false] ++ U 38) (fun L => [(L.b 0, QGC f e g h false)]) hp0 ⟨
    oB, oA,
    trivial⟩ (fun L0 w1 hp1 => ?_)
  refine k1 _ _ ?_
  refine wp_seq_k (fun K2 k2 => ?_)
  refine wp_seq_k (fun K3 k3 => ?_)
  refine gs [.det (pt (L0.b 0) 24), .det (.bool false)] [0, 1] [0, 1] (fun L => [QGV f e g h false, pt (L0.b 0) 0, .bool false, pt (L0.b 0) 24, .bool false] ++ U 36) (fun L => [((L0.b 0), QGC f e g h false)]) hp1 ⟨
    oF fG2, oL1 0 24 oneB,
    trivial⟩ (fun L1 w2 hp2 => ?_)
  refine k3 _ _ ?_
  refine wp_cond_false (by kernel_rfl) ?_
  refine skips ?_
  refine k2 _ _ ?_
  refine wp_seq_k (fun K4 k4 => ?_)
  refine dr [.det (pt (L0.b 0) 0), .det (QV2 f e), .det (.bool true), .det (.bool true), .det (pt (L0.b 0) 12), .det (QV2 g h), .det (.bool false), .det (.bool false), .det (.bool false), .det undef, .det undef, .det undef, .det undef, .det undef, .det undef, .det undef, .det undef, .det undef, .det undef, .det undef, .det undef, .det undef, .det undef, .det undef, .det undef, .det (.bool false), .det (.bool false)] [0, 1, 2, 3, 4, 5, 6, 7, 8, 9, 10, 11, 12, 13, 14, 15, 16, 17, 18, 19, 20, 21, 22, 23, 24, 25, 26] [0, 1, 3, 7, 15, 31, 63, 127, 255, 511, 1023, 511, 2559, 8191, 511, 16895, 511, 66047, 262143, 511, 524799, 2097151, 4194303, 8388607, 16777215, 33554431, 67108863] (fun L => [QGV f e g h false, pt (L0.b 0) 0, .bool false, pt (L0.b 0) 24, .bool false, undef, undef, undef, undef, undef, undef, undef, undef, undef, undef, pt (L0.b 0) 0, QV2 f e, .bool true, .bool true, pt (L0.b 0) 12, QV2 g h, .bool false, .bool false, .bool false, undef, undef, undef, undef, undef, undef, undef, undef, undef, undef, undef, undef, undef, undef, undef, undef, .bool false]) (fun L => [((L0.b 0), QGC f e g h false)]) hp2 ⟨
    oF fG0, oL 0 0 rP, oH (v := .bool true) (vs := #[QV2 f e]) (fun w _ _ => by have h := may_ref R f e w rf re; rw [lf] at h; exact h), oM, oF fG1, oL 0 12 rP,
    oH (v := .bool false) (vs := #[QV2 g h]) (fun w _ _ => by have h := may_ref R g h w rg rh; rw [lg] at h; exact h), oP, oM, oS, oS, oS, oS, oS, oS, oS, oS, oS,
    oS, oS, oS, oS, oS, oS, oS, oP, oA,
    trivial⟩ (fun L2 w3 hp3 => ?_)
  refine k4 _ _ ?_
  refine wp_ret ?_
  refine bodyPost_ret (v := .bool false) ?_ rfl ?_
  · exact res_t rfl (by kernel_rfl) _
  · exact ⟨rfl, hp3.bel⟩
set_option maxHeartbeats 4000000 in
theorem g2OnT {G : World → Prop} (K : FpK G) (f e g h : Nat → Int) (w : World) (hg : G w) (rf : Rg f 6) (re : Rg e 6) (rg : Rg g 6) (rh : Rg h 6) : Calls Tryd.prog 19 #[QGV f e g h true] w (Ret (.bool (zero2 f e && (zero2 g h && true))) w) := by
  have hp0 := Heap.start w
  go_enter Tryd.func19, Tryd.ntmps19
  refine wp_seq_k (fun K1 k1 => ?_)
  refine gs [.alloc (QGC f e g h true), .det (.bool false)] [0, 1] [0, 0] (fun L => [QGV f e g h true, pt (L.b 0) 0, .bool false] ++ U 29) (fun L => [(L.b 0, QGC f e g h true)]) hp0 ⟨
    oB, oA,
    trivial⟩ (fun L0 w1 hp1 => ?_)
  refine k1 _ _ ?_
  refine wp_seq_k (fun K2 k2 => ?_)
  refine wp_seq_k (fun K3 k3 => ?_)
  refine gs [.det (pt (L0.b 0) 24), .det (.bool true)] [0, 1] [0, 1] (fun L => [QGV f e g h true, pt (L0.b 0) 0, .bool false, pt (L0.b 0) 24, .bool true] ++ U 27) (fun L => [((L0.b 0), QGC f e g h true)]) hp1 ⟨
    oF fG2, oL1 0 24 oneB,
    trivial⟩ (fun L1 w2 hp2 => ?_)
  refine k3 _ _ ?_
  refine wp_cond_true (by kernel_rfl) ?_
  refine wp_seq_k (fun K4 k4 => ?_)
  refine gs [.det (QGV f e g h true), .det (GV ⟨0, 0, true⟩), .det (.bool (zero2 f e && (zero2 g h && true))), .det (.bool (zero2 f e && (zero2 g h && true)))] [0, 1, 2, 3] [0, 0, 3, 7] (fun L => [QGV f e g h true, pt (L0.b 0) 0, .bool (zero2 f e && (zero2 g h && true)), pt (L0.b 0) 24, .bool true, QGV f e g h true, GV ⟨0, 0, true⟩, .bool (zero2 f e && (zero2 g h && true))] ++ U 24) (fun L => [((L0.b 0), QGC f e g h true)]) hp2 ⟨
    oL 0 0 rG, oD (buildGi true), oW (fun w => guardG _ _ _ _ _ w) (fun w => eqlQG f e g h true rf re rg rh w), oA,
    trivial⟩ (fun L2 w3 hp3 => ?_)
  refine k4 _ _ ?_
  refine wp_ret ?_
  refine bodyPost_ret (v := .bool (zero2 f e && (zero2 g h && true))) ?_ rfl ?_
  · exact res_t rfl (by kernel_rfl) _
  · exact ⟨rfl, hp3.bel⟩
set_option maxHeartbeats 4000000 in
theorem ref5OnT0 (R : RefK) (f e g h : Nat → Int) (w : World) (rf : Rg f 6) (re : Rg e 6) (rg : Rg g 6) (rh : Rg h 6) (hf : zero2 f e = false) : Calls Tryd.prog 21 #[QGV f e g h true] w (Ret (.bool false) w) := by
  have hp0 := Heap.start w
  go_enter Tryd.func21, Tryd.ntmps21
  refine wp_seq_k (fun K1 k1 => ?_)
  refine gs [.alloc (QGC f e g h true), .det (.bool false)] [0, 1] [0, 0] (fun L => [QGV f e g h true, pt (L.b 0) 0, .bool false] ++ U 38) (fun L => [(L.b 0, QGC f e g h true)]) hp0 ⟨
    oB, oA,
    trivial⟩ (fun L0 w1 hp1 => ?_)
  refine k1 _ _ ?_
  refine wp_seq_k (fun K2 k2 => ?_)
  refine wp_seq_k (fun K3 k3 => ?_)
  refine gs [.det (pt (L0.b 0) 24), .det (.bool true)] [0, 1] [0, 1] (fun L => [QGV f e g h true, pt (L0.b 0) 0, .bool false, pt (L0.b 0) 24, .bool true] ++ U 36) (fun L => [((L0.b 0), QGC f e g h true)]) hp1 ⟨
    oF fG2, oL1 0 24 oneB,
    trivial⟩ (fun L1 w2 hp2 => ?_)
  refine k3 _ _ ?_
  refine wp_cond_true (by kernel_rfl) ?_
  refine wp_seq_k (fun K4 k4 => ?_)
  refine gs [.det (pt (L0.b 0) 0), .det (QV2 f e), .det (PV 0), .det (.bool false), .det (.bool false), .det undef, .det undef, .det undef, .det undef, .det (.bool false), .det (.bool false)] [0, 1, 2, 3, 4, 5, 6, 7, 8, 9, 10] [0, 1, 0, 7, 15, 31, 63, 31, 255, 511, 1023] (fun L => [QGV f e g h true, pt (L0.b 0) 0, .bool false, pt (L0.b 0) 24, .bool true, pt (L0.b 0) 0, QV2 f e, PV 0, .bool false, .bool false, undef, undef, undef, undef, .bool false] ++ U 26) (fun L => [((L0.b 0), QGC f e g h true)]) hp2 ⟨
    oF fG0, oL 0 0 rP, oD buildP0, oW (fun w => guardQ2 _ _ _ _ _ w) (fun w => (eqlQF2 f e rf re w).trans (by rw [hf])), oM, oS, oS, oS, oS, oP, oA,
    trivial⟩ (fun L2 w3 hp3 => ?_)
  refine k4 _ _ ?_
  refine wp_ret ?_
  refine bodyPost_ret (v := .bool false) ?_ rfl ?_
  · exact res_t rfl (by kernel_rfl) _
  · exact ⟨rfl, hp3.bel⟩
set_option maxHeartbeats 4000000 in
theorem ref5OnT1 (R : RefK) (f e g h : Nat → Int) (w : World) (rf : Rg f 6) (re : Rg e 6) (rg : Rg g 6) (rh : Rg h 6) (hf : zero2 f e = true) : Calls Tryd.prog 21 #[QGV f e g h true] w (Ret (.bool (zero2 g h)) w) := by
  have hp0 := Heap.start w
  go_enter Tryd.func21, Tryd.ntmps21
  refine wp_seq_k (fun K1 k1 => ?_)
  refine gs [.alloc (QGC f e g h true), .det (.bool false)] [0, 1] [0, 0] (fun L => [QGV f e g h true, pt (L.b 0) 0, .bool false] ++ U 38) (fun L => [(L.b 0, QGC f e g h true)]) hp0 ⟨
    oB, oA,
    trivial⟩ (fun L0 w1 hp1 => ?_)
  refine k1 _ _ ?_
  refine wp_seq_k (fun K2 k2 => ?_)
  refine wp_seq_k (fun K3 k3 => ?_)
  refine gs [.det (pt (L0.b 0) 24), .det (.bool true)] [0, 1] [0, 1] (fun L => [QGV f e g h true, pt (L0.b 0) 0, .bool false, pt (L0.b 0) 24, .bool true] ++ U 36) (fun L => [((L0.b 0), QGC f e g h true)]) hp1 ⟨
    oF fG2, oL1 0 24 oneB,
    trivial⟩ (fun L1 w2 hp2 => ?_)
  refine k3 _ _ ?_
  refine wp_cond_true (by kernel_rfl) ?_
  refine wp_seq_k (fun K4 k4 => ?_)
  refine gs [.det (pt (L0.b 0) 0), .det (QV2 f e), .det (PV 0), .det (.bool true), .det (.bool true), .det (pt (L0.b 0) 12), .det (QV2 g h), .det (PV 0), .det (.bool (zero2 g h)), .det (.bool (zero2 g h)), .det (.bool (zero2 g h))] [0, 1, 2, 3, 4, 5, 6, 7, 8, 9, 10] [0, 1, 0, 7, 15, 31, 63, 31, 255, 511, 1023] (fun L => [QGV f e g h true, pt (L0.b 0) 0, .bool (zero2 g h), pt (L0.b 0) 24, .bool true, pt (L0.b 0) 0, QV2 f e, PV 0, .bool true, .bool true, pt (L0.b 0) 12, QV2 g h, PV 0, .bool (zero2 g h), .bool (zero2 g h)] ++ U 26) (fun L => [((L0.b 0), QGC f e g h true)]) hp2 ⟨
    oF fG0, oL 0 0 rP, oD buildP0, oW (fun w => guardQ2 _ _ _ _ _ w) (fun w => (eqlQF2 f e rf re w).trans (by rw [hf])), oM, oF fG1, oL 0 12 rP, oD buildP0, oW (fun w => guardQ2 _ _ _ _ _ w) (fun w => eqlQF2 g h rg rh w),
    oP, oA,
    trivial⟩ (fun L2 w3 hp3 => ?_)
  refine k4 _ _ ?_
  refine wp_ret ?_
  refine bodyPost_ret (v := .bool (zero2 g h)) ?_ rfl ?_
  · exact res_t rfl (by kernel_rfl) _
  · exact ⟨rfl, hp3.bel⟩
theorem on_same {G : World → Prop} (K : FpK G) (R : RefK) (f e g h : Nat → Int) (i : Bool) (rf : Rg f 6) (re : Rg e 6) (rg : Rg g 6) (rh : Rg h 6) : ∃ b : Bool, (∀ w, G w → Calls Tryd.prog 19 #[QGV f e g h i] w (Ret (.bool b) w)) ∧ (∀ w, Calls Tryd.prog 21 #[QGV f e g h i] w (Ret (.bool b) w)) := by
  cases i with
  | true =>
    refine ⟨_, fun w hg => g2OnT K f e g h w hg rf re rg rh, fun w => ?_⟩
    cases hf : zero2 f e with
    | true => rw [Bool.true_and, Bool.and_true]; exact ref5OnT1 R f e g h w rf re rg rh hf
    | false => rw [Bool.false_and]; exact ref5OnT0 R f e g h w rf re rg rh hf
  | false =>
    cases lf : (decide (val f 6 < RI) && decide (val e 6 < RI)) with
    | true =>
      cases lg : (decide (val g 6 < RI) && decide (val h 6 < RI)) with
      | true =>
        simp only [Bool.and_eq_true, decide_eq_true_eq] at lf lg
        obtain ⟨a, ha, -⟩ := num_of rf lf.1
        obtain ⟨b, hb, -⟩ := num_of re lf.2
        obtain ⟨c, hc, -⟩ := num_of rg lg.1
        obtain ⟨d, hd, -⟩ := num_of rh lg.2
        have e1 : QGV f e g h false = GV ⟨⟨a, b⟩, ⟨c, d⟩, false⟩ := by
          unfold QGV QGC QC2 GV GC PC
          rw [QC_of' ha, QC_of' hb, QC_of' hc, QC_of' hd]
        rw [e1]
        exact ⟨_, fun w hg => g2OnA K ⟨a, b⟩ ⟨c, d⟩ w hg, fun w => ref5OnA R ⟨a, b⟩ ⟨c, d⟩ w⟩
      | false => exact ⟨false, fun w hg => g2OnG K f e g h w hg rf re rg rh lf lg, fun w => ref5OnG R f e g h w rf re rg rh lf lg⟩
    | false => exact ⟨false, fun w hg => g2OnF K f e g h w hg rf re rg rh lf, fun w => ref5OnF R f e g h w rf re rg rh lf⟩
end Go.Proofs.YthehnlpgmkjefaaDoor.fpn.T2

/- Does g1 do anything? Yes. -/
namespace Go.Proofs.YthehnlpgmkjefaaDoor.fpn.T2
open Go.RowKit Pl EC
set_option linter.unusedVariables false
set_option linter.unusedSimpArgs false
set_option maxRecDepth 4000

theorem gen2_on' {g : Pt F2} (h : g = gen2) : On b2 g := by rw [h]; exact gen2_on
theorem gen2_in {g : Pt F2} (h : g = gen2) : mul F2.inv ordR g = .inf := by rw [h]; exact gen2_order
theorem gp_true {P Q : Pt F2} (h : P = Q) : gp P = gp Q := by rw [h]
theorem mul_2 (P : Pt F2) : mul F2.inv 2 P = add F2.inv P P := by
  show add F2.inv (add F2.inv .inf P) P = _
  rw [inf_add]
set_option maxHeartbeats 4000000 in
theorem begun9a {G : World → Prop} (K : FpK G) (R : RefK) (g : Pt F2) (w : World) (hg : G w) (hgn : g = gen2) : Calls Tryd.prog 9 #[] w (Ret (.bool true) w) := by
  have hp0 := Heap.start w
  go_enter Tryd.func9, Tryd.ntmps9
  refine wp_seq_k (fun K1 k1 => ?_)
  refine gs [.det (.bool false)] [0] [0] (fun L => [.bool false] ++ U 35) (fun L => []) hp0 ⟨
    oA,
    trivial⟩ (fun L0 w1 hp1 => ?_)
  refine k1 _ _ ?_
  refine wp_seq_k (fun K2 k2 => ?_)
  refine gs [.det (GV (gp g)), .alloc (GC ⟨0, 0, false⟩), .store (.new 1) 0 (GC (gp g)) (GC (gp g))] [0, 1, 2] [0, 0, 3] (fun L => [.bool false, pt (L.b 1) 0, GV (gp g)] ++ U 33) (fun L => [(L.b 1, GC (gp g))]) hp1 ⟨
    oH (v := GV (gp g)) (vs := #[]) (fun w hb _ => by have h := g2One K w (K.stay hg hb); rw [← hgn] at h; exact h), oZ rG, oT rG,
    trivial⟩ (fun L1 w2 hp2 => ?_)
  refine k2 _ _ ?_
  refine wp_seq_k (fun K3 k3 => ?_)
  refine dr [.det (GV (gp g)), .det (GV (gp g)), .det (.bool true), .det (.bool true), .det (GV (gp g)), .det (.bool true), .det (.bool true), .det (.bool true), .det (GV (gp g)), .det (GV (gp g)), .det (GV (gp (neg g))), .det (GV (gp (add F2.inv g (neg g)))), .det (GV ⟨0, 0, true⟩), .det (.bool true), .det (.bool true), .det (.bool true), .det (GV (gp g)), .det (RV 2), .det (GV (gp (mul F2.inv 2 g))), .det (GV (gp g)), .det (GV (gp g)), .det (GV (gp (add F2.inv g g))), .det (.bool true), .det (.bool true), .det (.bool true), .det (GV (gp g)), .det (GV (gp g)), .det (.bool true), .det (.bool true), .det (.bool true), .det (GV (gp g)), .det (.bool true), .det (.bool true), .det (.bool true)] [0, 1, 2, 3, 4, 5, 6, 7, 8, 9, 10, 11, 12, 13, 14, 15, 16, 17, 18, 19, 20, 21, 22, 23, 24, 25, 26, 27, 28, 29, 30, 31, 32, 33] [0, 0, 3, 7, 15, 31, 63, 127, 255, 255, 767, 2047, 255, 8191, 16383, 32767, 65535, 65535, 262143, 65535, 65535, 2097151, 4194303, 8388607, 16777215, 33554431, 33554431, 134217727, 268435455, 536870911, 1073741823, 2147483647, 4294967295, 8589934591] (fun L => [.bool true, pt (L1.b 1) 0, GV (gp g), GV (gp g), GV (gp g), .bool true, .bool true, GV (gp g), .bool true, .bool true, .bool true, GV (gp g), GV (gp g), GV (gp (neg g)), GV (gp (add F2.inv g (neg g))), GV ⟨0, 0, true⟩, .bool true, .bool true, .bool true, GV (gp g), RV 2, GV (gp (mul F2.inv 2 g)), GV (gp g), GV (gp g), GV (gp (add F2.inv g g)), .bool true, .bool true, .bool true, GV (gp g), GV (gp g), .bool true, .bool true, .bool true, GV (gp g), .bool true, .bool true]) (fun L => [((L1.b 1), GC (gp g))]) hp2 ⟨
    oL 0 0 rG, oH (v := GV (gp g)) (vs := #[]) (fun w _ _ => by have h := ref5Gen1 R w; rw [← hgn] at h; exact h), oE (a := (gp g)) (b := (gp g)) qG (yes rfl), oM,
    oL 0 0 rG, oH (v := .bool true) (vs := #[GV (gp g)]) (fun w hb _ => g2On K g w (K.stay hg hb) (gen2_on' hgn)), oP, oM, oL 0 0 rG, oL 0 0 rG, oC K.stay hg (g2Neg K g),
    oH (v := GV (gp (add F2.inv g (neg g)))) (vs := #[GV (gp g), GV (gp (neg g))]) (fun w hb _ => g2Add K g (neg g) w (K.stay hg hb) (gen2_on' hgn) (neg_on (gen2_on' hgn))),
    oD (buildGi true), oE (a := (gp (add F2.inv g (neg g)))) (b := ⟨0, 0, true⟩) qG (yes (gp_true (add_neg : add F2.inv g (neg g) = .inf))), oP, oM, oL 0 0 rG, oD (buildRk 2 (by decide)),
    oH (v := GV (gp (mul F2.inv 2 g))) (vs := #[GV (gp g), RV 2]) (fun w hb _ => g2Mul K g 2 w (K.stay hg hb) (gen2_on' hgn) (by decide)), oL 0 0 rG, oL 0 0 rG,
    oH (v := GV (gp (add F2.inv g g))) (vs := #[GV (gp g), GV (gp g)]) (fun w hb _ => g2Add K g g w (K.stay hg hb) (gen2_on' hgn) (gen2_on' hgn)), oE (a := (gp (mul F2.inv 2 g))) (b := (gp (add F2.inv g g))) qG (yes (gp_true (mul_2 g))),
    oP, oM, oL 0 0 rG, oL 0 0 rG, oH (v := .bool true) (vs := #[GV (gp g), GV (gp g)]) (fun w hb _ => by have h := g2Equal K g g w (K.stay hg hb); rw [decide_eq_true (show g = g from rfl)] at h; exact h),
    oP, oM, oL 0 0 rG, oH (v := .bool true) (vs := #[GV (gp g)]) (fun w hb _ => by have h := g2In K g w (K.stay hg hb) (gen2_on' hgn); rw [decide_eq_true (show mul F2.inv ordR g = .inf from gen2_in hgn)] at h; exact h),
    oP, oA,
    trivial⟩ (fun L2 w3 hp3 => ?_)
  refine k3 _ _ ?_
  refine wp_ret ?_
  refine bodyPost_ret (v := .bool true) ?_ rfl ?_
  · exact res_t rfl (by kernel_rfl) _
  · exact ⟨rfl, hp3.bel⟩
theorem begun9 {G : World → Prop} (K : FpK G) (R : RefK) (w : World) (hg : G w) : Calls Tryd.prog 9 #[] w (Ret (.bool true) w) := begun9a K R gen2 w hg rfl
end Go.Proofs.YthehnlpgmkjefaaDoor.fpn.T2
