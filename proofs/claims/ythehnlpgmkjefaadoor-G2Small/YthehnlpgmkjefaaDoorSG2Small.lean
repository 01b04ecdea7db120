/- G2SmallWalk. -/
import Derived.Test.YthehnlpgmkjefaaDoorGS
import Derived.Deep.LoopGhost
import Derived.Test.YthehnlpgmkjefaaDoorGV
/- G2Small walked. -/
namespace Go.Proofs.YthehnlpgmkjefaaDoor.fpn.T2
open Go.RowKit Pl EC
set_option linter.unusedVariables false
set_option linter.unusedSimpArgs false
set_option maxRecDepth 4000

theorem conv8' (c : Nat) (hc : c < 256) (w : World) : (convert 5 22 (.int .u8 (c : Int))).run Tryd.prog w = .ok (.int .u64 (c : Int)) w := by
  have e : IntKind.u64.wrap (c : Int) = (c : Int) := by unfold IntKind.wrap; simp [IntKind.bits, IntKind.signed]; omega
  simp [convert, Sem.run_bind, run_underlying Tryd.underlying5, run_underlying Tryd.underlying22, Conv.intToInt, e]
theorem conv8i (c : Nat) (hc : c < 256) (w : World) : (convert 5 3 (.int .u8 (c : Int))).run Tryd.prog w = .ok (.int .i64 (c : Int)) w := by
  have e : IntKind.i64.wrap (c : Int) = (c : Int) := by unfold IntKind.wrap; simp [IntKind.bits, IntKind.signed]; omega
  simp [convert, Sem.run_bind, run_underlying Tryd.underlying5, run_underlying Tryd.underlying3, Conv.intToInt, e]
theorem rem20 (t : TypeId) (n : Nat) (w : World) : (binOp .rem t (.int .u8 (n : Int)) (.int .u8 20)).run Tryd.prog w = .ok (.int .u8 ((n % 20 : Nat) : Int)) w := by
  have e0 : (n : Int).tmod 20 = ((n % 20 : Nat) : Int) := by rw [Int.tmod_eq_emod_of_nonneg (by omega)]; omega
  simp [binOp, Sem.run_bind, Op.intDiv, e0]
theorem neg_last {Q : Pt F2} (hQ : On b2 Q) : ∀ {r : Nat}, 0 < r → mul F2.inv r Q = .inf → mul F2.inv (r - 1) Q = neg Q
  | r + 1, _, hR => by
    refine neg_uniq crv2 hQ (mul_on crv2 hQ _) ?_
    rw [add_comm crv2 hQ (mul_on crv2 hQ _)]
    exact hR
theorem last_neg {g : Pt F2} (hgn : g = gen2) (a : Nat) : mul F2.inv (ordR - 1) (mul F2.inv a g) = neg (mul F2.inv a g) := by
  have hg := gen2_on' hgn
  have hR : mul F2.inv ordR (mul F2.inv a g) = .inf := by rw [← mul_mul crv2 hg, Nat.mul_comm, mul_mul crv2 hg, gen2_in hgn, mul_inf]
  exact neg_last (mul_on crv2 hg a) ordR_pos hR
set_option maxHeartbeats 4000000 in
theorem smN {G : World → Prop} (K : FpK G) (R : RefK) (g P : Pt F2) (n c a : Nat) (w : World) (hg : G w) (hgn : g = gen2) (hB : ∀ w, G w → Calls Tryd.prog 9 #[] w (Ret (.bool true) w)) (ha6 : a < 2 ^ 256) (hO : ∀ w, Calls Tryd.prog 25 #[.int .u64 ((n : Nat) : Int)] w (Ret (.tuple #[GV ⟨0, 0, false⟩, .bool false]) w)) : Calls Tryd.prog 8 #[.int .u64 ((n : Nat) : Int), .int .u8 ((c : Nat) : Int), RV a] w (Ret (.bool true) w) := by
  have hp0 := Heap.start w
  go_enter Tryd.func8, Tryd.ntmps8
  refine wp_seq_k (fun K1 k1 => ?_)
  refine gs [.alloc (RC a), .det (.bool false)] [0, 1] [0, 0] (fun L => [.int .u64 ((n : Nat) : Int), .int .u8 ((c : Nat) : Int), RV a, undef, undef, pt (L.b 0) 0, .bool false] ++ U 59) (fun L => [(L.b 0, RC a)]) hp0 ⟨
    oB, oA,
    trivial⟩ (fun L0 w1 hp1 => ?_)
  refine k1 _ _ ?_
  refine wp_seq_k (fun K2 k2 => ?_)
  refine wp_seq_k (fun K3 k3 => ?_)
  refine gs [.det (.bool true), .det (.bool false)] [0, 1] [0, 1] (fun L => [.int .u64 ((n : Nat) : Int), .int .u8 ((c : Nat) : Int), RV a, undef, undef, pt (L0.b 0) 0, .bool false, undef, undef, undef, undef, undef, undef, .bool true, .bool false] ++ U 51) (fun L => [((L0.b 0), RC a)]) hp1 ⟨
    oC K.stay hg hB, oN,
    trivial⟩ (fun L1 w2 hp2 => ?_)
  refine k3 _ _ ?_
  refine wp_cond_false (by kernel_rfl) ?_
  refine skips ?_
  refine k2 _ _ ?_
  refine wp_seq_k (fun K4 k4 => ?_)
  refine gs [.det (.int .u64 ((n : Nat) : Int)), .det (.tuple #[GV ⟨0, 0, false⟩, .bool false]), .det (.tuple #[GV ⟨0, 0, false⟩, .bool false]), .det (GV ⟨0, 0, false⟩), .det (.bool false), .alloc (GC ⟨0, 0, false⟩), .store (.new 5) 0 (GC ⟨0, 0, false⟩) (GC ⟨0, 0, false⟩), .det (.bool false)] [0, 1, 2, 3, 4, 5, 6, 7] [0, 1, 3, 7, 7, 0, 47, 127] (fun L => [.int .u64 ((n : Nat) : Int), .int .u8 ((c : Nat) : Int), RV a, undef, undef, pt (L0.b 0) 0, .bool false, pt (L.b 5) 0, .bool false, undef, undef, undef, undef, .bool true, .bool false, .tuple #[GV ⟨0, 0, false⟩, .bool false], .int .u64 ((n : Nat) : Int), .tuple #[GV ⟨0, 0, false⟩, .bool false], GV ⟨0, 0, false⟩, .bool false] ++ U 46) (fun L => [((L0.b 0), RC a), (L.b 5, GC ⟨0, 0, false⟩)]) hp2 ⟨
    oM, oR hO, oM, oX, oX, oZ rG, oT rG, oA,
    trivial⟩ (fun L2 w3 hp3 => ?_)
  refine k4 _ _ ?_
  refine wp_seq_k (fun K5 k5 => ?_)
  refine wp_seq_k (fun K6 k6 => ?_)
  refine gs [.det (.bool false), .det (.bool true), .det (.bool true), .det undef, .det undef, .det undef, .det (.bool true)] [0, 1, 2, 3, 4, 5, 6] [0, 1, 3, 7, 15, 31, 63] (fun L => [.int .u64 ((n : Nat) : Int), .int .u8 ((c : Nat) : Int), RV a, undef, undef, pt (L0.b 0) 0, .bool false, pt (L2.b 5) 0, .bool false, undef, undef, undef, undef, .bool true, .bool false, .tuple #[GV ⟨0, 0, false⟩, .bool false], .int .u64 ((n : Nat) : Int), .tuple #[GV ⟨0, 0, false⟩, .bool false], GV ⟨0, 0, false⟩, .bool false, .bool false, .bool true, .bool true, undef, undef, undef, .bool true] ++ U 39) (fun L => [((L0.b 0), RC a), ((L2.b 5), GC ⟨0, 0, false⟩)]) hp3 ⟨
    oM, oN, oM, oS, oS, oS, oP,
    trivial⟩ (fun L3 w4 hp4 => ?_)
  refine k6 _ _ ?_
  refine wp_cond_true (by kernel_rfl) ?_
  refine wp_seq_k (fun K7 k7 => ?_)
  refine gs [.det (.bool true)] [0] [0] (fun L => [.int .u64 ((n : Nat) : Int), .int .u8 ((c : Nat) : Int), RV a, undef, undef, pt (L0.b 0) 0, .bool true, pt (L2.b 5) 0, .bool false, undef, undef, undef, undef, .bool true, .bool false, .tuple #[GV ⟨0, 0, false⟩, .bool false], .int .u64 ((n : Nat) : Int), .tuple #[GV ⟨0, 0, false⟩, .bool false], GV ⟨0, 0, false⟩, .bool false, .bool false, .bool true, .bool true, undef, undef, undef, .bool true] ++ U 39) (fun L => [((L0.b 0), RC a), ((L2.b 5), GC ⟨0, 0, false⟩)]) hp4 ⟨
    oA,
    trivial⟩ (fun L4 w5 hp5 => ?_)
  refine k7 _ _ ?_
  refine wp_ret ?_
  refine bodyPost_ret (v := .bool true) ?_ rfl ?_
  · exact res_t rfl (by kernel_rfl) _
  · exact ⟨rfl, hp5.bel⟩
set_option maxHeartbeats 4000000 in
theorem smM {G : World → Prop} (K : FpK G) (R : RefK) (g P : Pt F2) (n c a : Nat) (w : World) (hg : G w) (hgn : g = gen2) (hB : ∀ w, G w → Calls Tryd.prog 9 #[] w (Ret (.bool true) w)) (ha6 : a < 2 ^ 256) (ha : ¬ a < ordR) (hO : ∀ w, Calls Tryd.prog 25 #[.int .u64 ((n : Nat) : Int)] w (Ret (.tuple #[GV (gp P), .bool true]) w)) : Calls Tryd.prog 8 #[.int .u64 ((n : Nat) : Int), .int .u8 ((c : Nat) : Int), RV a] w (Ret (.bool true) w) := by
  have hp0 := Heap.start w
  go_enter Tryd.func8, Tryd.ntmps8
  refine wp_seq_k (fun K1 k1 => ?_)
  refine gs [.alloc (RC a), .det (.bool false)] [0, 1] [0, 0] (fun L => [.int .u64 ((n : Nat) : Int), .int .u8 ((c : Nat) : Int), RV a, undef, undef, pt (L.b 0) 0, .bool false] ++ U 59) (fun L => [(L.b 0, RC a)]) hp0 ⟨
    oB, oA,
    trivial⟩ (fun L0 w1 hp1 => ?_)
  refine k1 _ _ ?_
  refine wp_seq_k (fun K2 k2 => ?_)
  refine wp_seq_k (fun K3 k3 => ?_)
  refine gs [.det (.bool true), .det (.bool false)] [0, 1] [0, 1] (fun L => [.int .u64 ((n : Nat) : Int), .int .u8 ((c : Nat) : Int), RV a, undef, undef, pt (L0.b 0) 0, .bool false, undef, undef, undef, undef, undef, undef, .bool true, .bool false] ++ U 51) (fun L => [((L0.b 0), RC a)]) hp1 ⟨
    oC K.stay hg hB, oN,
    trivial⟩ (fun L1 w2 hp2 => ?_)
  refine k3 _ _ ?_
  refine wp_cond_false (by kernel_rfl) ?_
  refine skips ?_
  refine k2 _ _ ?_
  refine wp_seq_k (fun K4 k4 => ?_)
  refine gs [.det (.int .u64 ((n : Nat) : Int)), .det (.tuple #[GV (gp P), .bool true]), .det (.tuple #[GV (gp P), .bool true]), .det (GV (gp P)), .det (.bool true), .alloc (GC ⟨0, 0, false⟩), .store (.new 5) 0 (GC (gp P)) (GC (gp P)), .det (.bool true)] [0, 1, 2, 3, 4, 5, 6, 7] [0, 1, 3, 7, 7, 0, 47, 127] (fun L => [.int .u64 ((n : Nat) : Int), .int .u8 ((c : Nat) : Int), RV a, undef, undef, pt (L0.b 0) 0, .bool false, pt (L.b 5) 0, .bool true, undef, undef, undef, undef, .bool true, .bool false, .tuple #[GV (gp P), .bool true], .int .u64 ((n : Nat) : Int), .tuple #[GV (gp P), .bool true], GV (gp P), .bool true] ++ U 46) (fun L => [((L0.b 0), RC a), (L.b 5, GC (gp P))]) hp2 ⟨
    oM, oR hO, oM, oX, oX, oZ rG, oT rG, oA,
    trivial⟩ (fun L2 w3 hp3 => ?_)
  refine k4 _ _ ?_
  refine wp_seq_k (fun K5 k5 => ?_)
  refine wp_seq_k (fun K6 k6 => ?_)
  refine gs [.det (.bool true), .det (.bool false), .det (.bool false), .det (RV a), .det (.bool false), .det (.bool true), .det (.bool true)] [0, 1, 2, 3, 4, 5, 6] [0, 1, 3, 7, 15, 31, 63] (fun L => [.int .u64 ((n : Nat) : Int), .int .u8 ((c : Nat) : Int), RV a, undef, undef, pt (L0.b 0) 0, .bool false, pt (L2.b 5) 0, .bool true, undef, undef, undef, undef, .bool true, .bool false, .tuple #[GV (gp P), .bool true], .int .u64 ((n : Nat) : Int), .tuple #[GV (gp P), .bool true], GV (gp P), .bool true, .bool true, .bool false, .bool false, RV a, .bool false, .bool true, .bool true] ++ U 39) (fun L => [((L0.b 0), RC a), ((L2.b 5), GC (gp P))]) hp3 ⟨
    oM, oN, oM, oL 0 0 rR, oH (v := .bool false) (vs := #[RV a]) (fun w _ _ => by have h := mayR ha6 w; rw [decide_eq_false ha] at h; exact h), oN, oP,
    trivial⟩ (fun L3 w4 hp4 => ?_)
  refine k6 _ _ ?_
  refine wp_cond_true (by kernel_rfl) ?_
  refine wp_seq_k (fun K7 k7 => ?_)
  refine gs [.det (.bool true)] [0] [0] (fun L => [.int .u64 ((n : Nat) : Int), .int .u8 ((c : Nat) : Int), RV a, undef, undef, pt (L0.b 0) 0, .bool true, pt (L2.b 5) 0, .bool true, undef, undef, undef, undef, .bool true, .bool false, .tuple #[GV (gp P), .bool true], .int .u64 ((n : Nat) : Int), .tuple #[GV (gp P), .bool true], GV (gp P), .bool true, .bool true, .bool false, .bool false, RV a, .bool false, .bool true, .bool true] ++ U 39) (fun L => [((L0.b 0), RC a), ((L2.b 5), GC (gp P))]) hp4 ⟨
    oA,
    trivial⟩ (fun L4 w5 hp5 => ?_)
  refine k7 _ _ ?_
  refine wp_ret ?_
  refine bodyPost_ret (v := .bool true) ?_ rfl ?_
  · exact res_t rfl (by kernel_rfl) _
  · exact ⟨rfl, hp5.bel⟩
def smallI (P : Pt F2) (n c a : Nat) (w : World) (b5 b7 b9 : Nat) : Nat → Act → World → Prop := fun L a' w' => ∃ (i : Nat) (u3 u4 u11 u12 u13 u14 u15 u16 u17 u18 u19 u20 u21 u22 u23 u24 u25 u26 u27 u28 u29 u30 u31 u32 u33 u34 u35 u36 u37 u38 u39 u40 u41 u42 u43 u44 u45 u46 u47 u48 u49 u50 u51 u52 u53 u54 u55 u56 u57 u58 u59 u60 u61 u62 u63 u64 u65 : Value),
  a' = { tmps := #[.int .u64 ((n : Nat) : Int), .int .u8 ((c : Nat) : Int), RV a, u3, u4, .pointer (some ⟨b5, 0, none⟩), .bool false, .pointer (some ⟨b7, 0, none⟩), .bool true, .pointer (some ⟨b9, 0, none⟩), .int .i64 ((i : Nat) : Int), u11, u12, u13, u14, u15, u16, u17, u18, u19, u20, u21, u22, u23, u24, u25, u26, u27, u28, u29, u30, u31, u32, u33, u34, u35, u36, u37, u38, u39, u40, u41, u42, u43, u44, u45, u46, u47, u48, u49, u50, u51, u52, u53, u54, u55, u56, u57, u58, u59, u60, u61, u62, u63, u64, u65], defers := [] } ∧ i + L = c % 20 ∧ Heap w.heap.size w w' [(b5, RC a), (b7, GC (gp P)), (b9, GC (gp (mul F2.inv i P)))]

set_option maxHeartbeats 4000000 in
theorem smY {G : World → Prop} (K : FpK G) (R : RefK) (g P : Pt F2) (n c a : Nat) (w : World) (hg : G w) (hgn : g = gen2) (hB : ∀ w, G w → Calls Tryd.prog 9 #[] w (Ret (.bool true) w)) (ha6 : a < 2 ^ 256) (ha : a < ordR) (hc : c < 256) (hO : ∀ w, Calls Tryd.prog 25 #[.int .u64 ((n : Nat) : Int)] w (Ret (.tuple #[GV (gp P), .bool true]) w)) (hP : On b2 P) : Calls Tryd.prog 8 #[.int .u64 ((n : Nat) : Int), .int .u8 ((c : Nat) : Int), RV a] w (Ret (.bool true) w) := by
  have hp0 := Heap.start w
  go_enter Tryd.func8, Tryd.ntmps8
  refine wp_seq_k (fun K1 k1 => ?_)
  refine gs [.alloc (RC a), .det (.bool false)] [0, 1] [0, 0] (fun L => [.int .u64 ((n : Nat) : Int), .int .u8 ((c : Nat) : Int), RV a, undef, undef, pt (L.b 0) 0, .bool false] ++ U 59) (fun L => [(L.b 0, RC a)]) hp0 ⟨
    oB, oA,
    trivial⟩ (fun L0 w1 hp1 => ?_)
  refine k1 _ _ ?_
  refine wp_seq_k (fun K2 k2 => ?_)
  refine wp_seq_k (fun K3 k3 => ?_)
  refine gs [.det (.bool true), .det (.bool false)] [0, 1] [0, 1] (fun L => [.int .u64 ((n : Nat) : Int), .int .u8 ((c : Nat) : Int), RV a, undef, undef, pt (L0.b 0) 0, .bool false, undef, undef, undef, undef, undef, undef, .bool true, .bool false] ++ U 51) (fun L => [((L0.b 0), RC a)]) hp1 ⟨
    oC K.stay hg hB, oN,
    trivial⟩ (fun L1 w2 hp2 => ?_)
  refine k3 _ _ ?_
  refine wp_cond_false (by kernel_rfl) ?_
  refine skips ?_
  refine k2 _ _ ?_
  refine wp_seq_k (fun K4 k4 => ?_)
  refine gs [.det (.int .u64 ((n : Nat) : Int)), .det (.tuple #[GV (gp P), .bool true]), .det (.tuple #[GV (gp P), .bool true]), .det (GV (gp P)), .det (.bool true), .alloc (GC ⟨0, 0, false⟩), .store (.new 5) 0 (GC (gp P)) (GC (gp P)), .det (.bool true)] [0, 1, 2, 3, 4, 5, 6, 7] [0, 1, 3, 7, 7, 0, 47, 127] (fun L => [.int .u64 ((n : Nat) : Int), .int .u8 ((c : Nat) : Int), RV a, undef, undef, pt (L0.b 0) 0, .bool false, pt (L.b 5) 0, .bool true, undef, undef, undef, undef, .bool true, .bool false, .tuple #[GV (gp P), .bool true], .int .u64 ((n : Nat) : Int), .tuple #[GV (gp P), .bool true], GV (gp P), .bool true] ++ U 46) (fun L => [((L0.b 0), RC a), (L.b 5, GC (gp P))]) hp2 ⟨
    oM, oR hO, oM, oX, oX, oZ rG, oT rG, oA,
    trivial⟩ (fun L2 w3 hp3 => ?_)
  refine k4 _ _ ?_
  refine wp_seq_k (fun K5 k5 => ?_)
  refine wp_seq_k (fun K6 k6 => ?_)
  refine gs [.det (.bool true), .det (.bool false), .det (.bool false), .det (RV a), .det (.bool true), .det (.bool false), .det (.bool false)] [0, 1, 2, 3, 4, 5, 6] [0, 1, 3, 7, 15, 31, 63] (fun L => [.int .u64 ((n : Nat) : Int), .int .u8 ((c : Nat) : Int), RV a, undef, undef, pt (L0.b 0) 0, .bool false, pt (L2.b 5) 0, .bool true, undef, undef, undef, undef, .bool true, .bool false, .tuple #[GV (gp P), .bool true], .int .u64 ((n : Nat) : Int), .tuple #[GV (gp P), .bool true], GV (gp P), .bool true, .bool true, .bool false, .bool false, RV a, .bool true, .bool false, .bool false] ++ U 39) (fun L => [((L0.b 0), RC a), ((L2.b 5), GC (gp P))]) hp3 ⟨
    oM, oN, oM, oL 0 0 rR, oH (v := .bool true) (vs := #[RV a]) (fun w _ _ => by have h := mayR ha6 w; rw [decide_eq_true ha] at h; exact h), oN, oP,
    trivial⟩ (fun L3 w4 hp4 => ?_)
  refine k6 _ _ ?_
  refine wp_cond_false (by kernel_rfl) ?_
  refine skips ?_
  refine k5 _ _ ?_
  refine wp_seq_k (fun K7 k7 => ?_)
  refine gs [.det (GV ⟨0, 0, true⟩), .alloc (GC ⟨0, 0, false⟩), .store (.new 1) 0 (GC ⟨0, 0, true⟩) (GC ⟨0, 0, true⟩)] [0, 1, 2] [0, 0, 3] (fun L => [.int .u64 ((n : Nat) : Int), .int .u8 ((c : Nat) : Int), RV a, undef, undef, pt (L0.b 0) 0, .bool false, pt (L2.b 5) 0, .bool true, pt (L.b 1) 0, undef, undef, undef, .bool true, .bool false, .tuple #[GV (gp P), .bool true], .int .u64 ((n : Nat) : Int), .tuple #[GV (gp P), .bool true], GV (gp P), .bool true, .bool true, .bool false, .bool false, RV a, .bool true, .bool false, .bool false, GV ⟨0, 0, true⟩] ++ U 38) (fun L => [((L0.b 0), RC a), ((L2.b 5), GC (gp P)), (L.b 1, GC ⟨0, 0, true⟩)]) hp4 ⟨
    oD (buildGi true), oZ rG, oT rG,
    trivial⟩ (fun L4 w5 hp5 => ?_)
  refine k7 _ _ ?_
  refine wp_seq_k (fun K8 k8 => ?_)
  refine wp_seq_k (fun K9 k9 => ?_)
  refine gs [.det (.int .i64 0)] [0] [0] (fun L => [.int .u64 ((n : Nat) : Int), .int .u8 ((c : Nat) : Int), RV a, undef, undef, pt (L0.b 0) 0, .bool false, pt (L2.b 5) 0, .bool true, pt (L4.b 1) 0, .int .i64 0, undef, undef, .bool true, .bool false, .tuple #[GV (gp P), .bool true], .int .u64 ((n : Nat) : Int), .tuple #[GV (gp P), .bool true], GV (gp P), .bool true, .bool true, .bool false, .bool false, RV a, .bool true, .bool false, .bool false, GV ⟨0, 0, true⟩] ++ U 38) (fun L => [((L0.b 0), RC a), ((L2.b 5), GC (gp P)), ((L4.b 1), GC ⟨0, 0, true⟩)]) hp5 ⟨
    oA,
    trivial⟩ (fun L5 w6 hp6 => ?_)
  refine k9 _ _ ?_
  refine wp_block_k (fun K10 k10 => ?_)
  refine wp_loop_ghost (smallI P n c a w (L0.b 0) (L2.b 5) (L4.b 1)) (c % 20) ⟨0, undef, undef, undef, undef, .bool true, .bool false, .tuple #[GV (gp P), .bool true], .int .u64 ((n : Nat) : Int), .tuple #[GV (gp P), .bool true], GV (gp P), .bool true, .bool true, .bool false, .bool false, RV a, .bool true, .bool false, .bool false, GV ⟨0, 0, true⟩, undef, undef, undef, undef, undef, undef, undef, undef, undef, undef, undef, undef, undef, undef, undef, undef, undef, undef, undef, undef, undef, undef, undef, undef, undef, undef, undef, undef, undef, undef, undef, undef, undef, undef, undef, undef, undef, undef, rfl, Nat.zero_add _, hp6⟩ ?_
  rintro L a' W ⟨i, u3, u4, u11, u12, u13, u14, u15, u16, u17, u18, u19, u20, u21, u22, u23, u24, u25, u26, u27, u28, u29, u30, u31, u32, u33, u34, u35, u36, u37, u38, u39, u40, u41, u42, u43, u44, u45, u46, u47, u48, u49, u50, u51, u52, u53, u54, u55, u56, u57, u58, u59, u60, u61, u62, u63, u64, u65, rfl, hL, hJ⟩
  by_cases hL0 : L = 0
  rotate_left
  · skip
    refine wp_seq_k (fun K11 k11 => ?_)
    refine wp_seq_k (fun K12 k12 => ?_)
    refine gs [.det (.int .i64 ((i : Nat) : Int)), .det (.int .u8 ((c : Nat) : Int)), .det (.int .u8 ((c % 20 : Nat) : Int)), .det (.int .i64 ((c % 20 : Nat) : Int)), .det (.bool true)] [0, 1, 2, 3, 4] [0, 0, 2, 6, 15] (fun L => [.int .u64 ((n : Nat) : Int), .int .u8 ((c : Nat) : Int), RV a, u3, u4, pt (L0.b 0) 0, .bool false, pt (L2.b 5) 0, .bool true, pt (L4.b 1) 0, .int .i64 ((i : Nat) : Int), u11, u12, u13, u14, u15, u16, u17, u18, u19, u20, u21, u22, u23, u24, u25, u26, u27, .int .i64 ((i : Nat) : Int), .int .u8 ((c : Nat) : Int), .int .u8 ((c % 20 : Nat) : Int), .int .i64 ((c % 20 : Nat) : Int), .bool true, u33, u34, u35, u36, u37, u38, u39, u40, u41, u42, u43, u44, u45, u46, u47, u48, u49, u50, u51, u52, u53, u54, u55, u56, u57, u58, u59, u60, u61, u62, u63, u64, u65]) (fun L => [((L0.b 0), RC a), ((L2.b 5), GC (gp P)), ((L4.b 1), GC (gp (mul F2.inv i P)))]) hJ ⟨
      oM, oM, oJ .u8 .u8 ((c : Nat) : Int) 20 (h := fun w => rem20 _ c w), oCv (conv8i (c % 20) (by omega)), oJ .i64 .i64 ((i : Nat) : Int) ((c % 20 : Nat) : Int) (h := fun w => (lssI _ _ _ w).trans (by rw [decide_eq_true (by omega)])),
      trivial⟩ (fun L6 w7 hp7 => ?_)
    refine k12 _ _ ?_
    refine wp_cond_true (by kernel_rfl) ?_
    refine skips ?_
    refine k11 _ _ ?_
    refine wp_seq_k (fun K13 k13 => ?_)
    refine wp_block_k (fun K14 k14 => ?_)
    refine gs [.det (GV (gp (mul F2.inv i P))), .det (GV (gp P)), .det (GV (gp (add F2.inv (mul F2.inv i P) P))), .store (.base 2) 0 (GC (gp (add F2.inv (mul F2.inv i P) P))) (GC (gp (add F2.inv (mul F2.inv i P) P)))] [0, 1, 2, 3] [0, 0, 3, 7] (fun L => [.int .u64 ((n : Nat) : Int), .int .u8 ((c : Nat) : Int), RV a, u3, u4, pt (L0.b 0) 0, .bool false, pt (L2.b 5) 0, .bool true, pt (L4.b 1) 0, .int .i64 ((i : Nat) : Int), u11, u12, u13, u14, u15, u16, u17, u18, u19, u20, u21, u22, u23, u24, u25, u26, u27, .int .i64 ((i : Nat) : Int), .int .u8 ((c : Nat) : Int), .int .u8 ((c % 20 : Nat) : Int), .int .i64 ((c % 20 : Nat) : Int), .bool true, u33, u34, GV (gp (mul F2.inv i P)), GV (gp P), GV (gp (add F2.inv (mul F2.inv i P) P)), u38, u39, u40, u41, u42, u43, u44, u45, u46, u47, u48, u49, u50, u51, u52, u53, u54, u55, u56, u57, u58, u59, u60, u61, u62, u63, u64, u65]) (fun L => [((L0.b 0), RC a), ((L2.b 5), GC (gp P)), ((L4.b 1), GC (gp (add F2.inv (mul F2.inv i P) P)))]) hp7 ⟨
      oL 2 0 rG, oL 1 0 rG, oH (v := GV (gp (add F2.inv (mul F2.inv i P) P))) (vs := #[GV (gp (mul F2.inv i P)), GV (gp P)]) (fun w hb _ => g2Add K (mul F2.inv i P) P w (K.stay hg hb) (mul_on crv2 hP i) hP),
      oT rG,
      trivial⟩ (fun L7 w8 hp8 => ?_)
    refine k14 _ _ _ ?_
    refine block_normal ?_
    refine k13 _ _ ?_
    refine gs [.det (.int .i64 ((i : Nat) : Int)), .det (.int .i64 ((i + 1 : Nat) : Int)), .det (.int .i64 ((i + 1 : Nat) : Int))] [0, 1, 2] [0, 1, 3] (fun L => [.int .u64 ((n : Nat) : Int), .int .u8 ((c : Nat) : Int), RV a, u3, u4, pt (L0.b 0) 0, .bool false, pt (L2.b 5) 0, .bool true, pt (L4.b 1) 0, .int .i64 ((i + 1 : Nat) : Int), u11, u12, u13, u14, u15, u16, u17, u18, u19, u20, u21, u22, u23, u24, u25, u26, u27, .int .i64 ((i : Nat) : Int), .int .u8 ((c : Nat) : Int), .int .u8 ((c % 20 : Nat) : Int), .int .i64 ((c % 20 : Nat) : Int), .bool true, .int .i64 ((i : Nat) : Int), .int .i64 ((i + 1 : Nat) : Int), GV (gp (mul F2.inv i P)), GV (gp P), GV (gp (add F2.inv (mul F2.inv i P) P)), u38, u39, u40, u41, u42, u43, u44, u45, u46, u47, u48, u49, u50, u51, u52, u53, u54, u55, u56, u57, u58, u59, u60, u61, u62, u63, u64, u65]) (fun L => [((L0.b 0), RC a), ((L2.b 5), GC (gp P)), ((L4.b 1), GC (gp (add F2.inv (mul F2.inv i P) P)))]) hp8 ⟨
      oM, oJ .i64 .i64 ((i : Nat) : Int) 1 (h := fun w => add1N _ i (by omega) w), oA,
      trivial⟩ (fun L8 w9 hp9 => ?_)
    exact ⟨L - 1, by omega, i + 1, u3, u4, u11, u12, u13, u14, u15, u16, u17, u18, u19, u20, u21, u22, u23, u24, u25, u26, u27, .int .i64 ((i : Nat) : Int), .int .u8 ((c : Nat) : Int), .int .u8 ((c % 20 : Nat) : Int), .int .i64 ((c % 20 : Nat) : Int), .bool true, .int .i64 ((i : Nat) : Int), .int .i64 ((i + 1 : Nat) : Int), GV (gp (mul F2.inv i P)), GV (gp P), GV (gp (add F2.inv (mul F2.inv i P) P)), u38, u39, u40, u41, u42, u43, u44, u45, u46, u47, u48, u49, u50, u51, u52, u53, u54, u55, u56, u57, u58, u59, u60, u61, u62, u63, u64, u65, rfl, by omega, hp9⟩
  obtain rfl : i = c % 20 := by omega
  refine wp_seq_k (fun K15 k15 => ?_)
  refine wp_seq_k (fun K16 k16 => ?_)
  refine gs [.det (.int .i64 ((c % 20 : Nat) : Int)), .det (.int .u8 ((c : Nat) : Int)), .det (.int .u8 ((c % 20 : Nat) : Int)), .det (.int .i64 ((c % 20 : Nat) : Int)), .det (.bool false)] [0, 1, 2, 3, 4] [0, 0, 2, 6, 15] (fun L => [.int .u64 ((n : Nat) : Int), .int .u8 ((c : Nat) : Int), RV a, u3, u4, pt (L0.b 0) 0, .bool false, pt (L2.b 5) 0, .bool true, pt (L4.b 1) 0, .int .i64 ((c % 20 : Nat) : Int), u11, u12, u13, u14, u15, u16, u17, u18, u19, u20, u21, u22, u23, u24, u25, u26, u27, .int .i64 ((c % 20 : Nat) : Int), .int .u8 ((c : Nat) : Int), .int .u8 ((c % 20 : Nat) : Int), .int .i64 ((c % 20 : Nat) : Int), .bool false, u33, u34, u35, u36, u37, u38, u39, u40, u41, u42, u43, u44, u45, u46, u47, u48, u49, u50, u51, u52, u53, u54, u55, u56, u57, u58, u59, u60, u61, u62, u63, u64, u65]) (fun L => [((L0.b 0), RC a), ((L2.b 5), GC (gp P)), ((L4.b 1), GC (gp (mul F2.inv (c % 20) P)))]) hJ ⟨
    oM, oM, oJ .u8 .u8 ((c : Nat) : Int) 20 (h := fun w => rem20 _ c w), oCv (conv8i (c % 20) (by omega)), oJ .i64 .i64 ((c % 20 : Nat) : Int) ((c % 20 : Nat) : Int) (h := fun w => (lssI _ _ _ w).trans (by rw [decide_eq_false (by omega)])),
    trivial⟩ (fun L9 w10 hp10 => ?_)
  refine k16 _ _ ?_
  refine wp_cond_false (by kernel_rfl) ?_
  refine wp_exit ?_
  refine then_exit ?_
  refine then_exit ?_
  refine k10 _ _ _ ?_
  refine exit_in ?_
  refine k8 _ _ ?_
  refine wp_seq_k (fun K17 k17 => ?_)
  refine dr [.det (GV (gp g)), .det (RV a), .det (GV (gp (mul F2.inv a g))), .alloc (GC ⟨0, 0, false⟩), .store (.new 3) 0 (GC (gp (mul F2.inv a g))) (GC (gp (mul F2.inv a g)))] [0, 1, 2, 3, 4] [0, 0, 3, 0, 15] (fun L => [.int .u64 ((n : Nat) : Int), .int .u8 ((c : Nat) : Int), RV a, u3, u4, pt (L0.b 0) 0, .bool false, pt (L2.b 5) 0, .bool true, pt (L4.b 1) 0, .int .i64 ((c % 20 : Nat) : Int), pt (L.b 3) 0, u12, u13, u14, u15, u16, u17, u18, u19, u20, u21, u22, u23, u24, u25, u26, u27, .int .i64 ((c % 20 : Nat) : Int), .int .u8 ((c : Nat) : Int), .int .u8 ((c % 20 : Nat) : Int), .int .i64 ((c % 20 : Nat) : Int), .bool false, u33, u34, u35, u36, u37, GV (gp g), RV a, GV (gp (mul F2.inv a g)), u41, u42, u43, u44, u45, u46, u47, u48, u49, u50, u51, u52, u53, u54, u55, u56, u57, u58, u59, u60, u61, u62, u63, u64, u65]) (fun L => [((L0.b 0), RC a), ((L2.b 5), GC (gp P)), ((L4.b 1), GC (gp (mul F2.inv (c % 20) P))), (L.b 3, GC (gp (mul F2.inv a g)))]) hp10 ⟨
    oH (v := GV (gp g)) (vs := #[]) (fun w hb _ => by have h := g2One K w (K.stay hg hb); rw [← hgn] at h; exact h), oL 0 0 rR, oH (v := GV (gp (mul F2.inv a g))) (vs := #[GV (gp g), RV a]) (fun w hb _ => g2Mul K g a w (K.stay hg hb) (gen2_on' hgn) ha6),
    oZ rG, oT rG,
    trivial⟩ (fun L10 w11 hp11 => ?_)
  refine k17 _ _ ?_
  refine wp_seq_k (fun K18 k18 => ?_)
  refine gs [.det (RV 1), .det (RV (ordR - 1)), .alloc (RC 0), .store (.new 2) 0 (RC (ordR - 1)) (RC (ordR - 1))] [0, 1, 2, 3] [0, 1, 0, 7] (fun L => [.int .u64 ((n : Nat) : Int), .int .u8 ((c : Nat) : Int), RV a, u3, u4, pt (L0.b 0) 0, .bool false, pt (L2.b 5) 0, .bool true, pt (L4.b 1) 0, .int .i64 ((c % 20 : Nat) : Int), pt (L10.b 3) 0, pt (L.b 2) 0, u13, u14, u15, u16, u17, u18, u19, u20, u21, u22, u23, u24, u25, u26, u27, .int .i64 ((c % 20 : Nat) : Int), .int .u8 ((c : Nat) : Int), .int .u8 ((c % 20 : Nat) : Int), .int .i64 ((c % 20 : Nat) : Int), .bool false, u33, u34, u35, u36, u37, GV (gp g), RV a, GV (gp (mul F2.inv a g)), RV 1, RV (ordR - 1), u43, u44, u45, u46, u47, u48, u49, u50, u51, u52, u53, u54, u55, u56, u57, u58, u59, u60, u61, u62, u63, u64, u65]) (fun L => [((L0.b 0), RC a), ((L2.b 5), GC (gp P)), ((L4.b 1), GC (gp (mul F2.inv (c % 20) P))), ((L10.b 3), GC (gp (mul F2.inv a g))), (L.b 2, RC (ordR - 1))]) hp11 ⟨
    oD (buildRk 1 (by decide)), oR negR1, oZ rR, oT rR,
    trivial⟩ (fun L11 w12 hp12 => ?_)
  refine k18 _ _ ?_
  refine wp_seq_k (fun K19 k19 => ?_)
  refine dr [.det (GV (gp P)), .det (.int .u8 ((c : Nat) : Int)), .det (.int .u8 ((c % 20 : Nat) : Int)), .det (.int .u64 ((c % 20 : Nat) : Int)), .det (RV (c % 20)), .det (GV (gp (mul F2.inv (c % 20) P))), .det (GV (gp (mul F2.inv (c % 20) P))), .det (.bool true), .det (.bool true), .det (GV (gp (mul F2.inv a g))), .det (RV (ordR - 1)), .det (GV (gp (mul F2.inv (ordR - 1) (mul F2.inv a g)))), .det (GV (gp (mul F2.inv a g))), .det (GV (gp (neg (mul F2.inv a g)))), .det (.bool true), .det (.bool true), .det (.bool true), .det (GV (gp P)), .det (GV (gp (neg P))), .det (GV (gp (neg (neg P)))), .det (GV (gp P)), .det (.bool true), .det (.bool true), .det (.bool true)] [0, 1, 2, 3, 4, 5, 6, 7, 8, 9, 10, 11, 12, 13, 14, 15, 16, 17, 18, 19, 20, 21, 22, 23] [0, 0, 2, 6, 14, 31, 0, 127, 255, 511, 511, 2047, 511, 8191, 16383, 32767, 65535, 131071, 262143, 524287, 131071, 2097151, 4194303, 8388607] (fun L => [.int .u64 ((n : Nat) : Int), .int .u8 ((c : Nat) : Int), RV a, u3, u4, pt (L0.b 0) 0, .bool true, pt (L2.b 5) 0, .bool true, pt (L4.b 1) 0, .int .i64 ((c % 20 : Nat) : Int), pt (L10.b 3) 0, pt (L11.b 2) 0, u13, u14, u15, u16, u17, u18, u19, u20, u21, u22, u23, u24, u25, u26, u27, .int .i64 ((c % 20 : Nat) : Int), .int .u8 ((c : Nat) : Int), .int .u8 ((c % 20 : Nat) : Int), .int .i64 ((c % 20 : Nat) : Int), .bool false, u33, u34, u35, u36, u37, GV (gp g), RV a, GV (gp (mul F2.inv a g)), RV 1, RV (ordR - 1), GV (gp P), .int .u8 ((c : Nat) : Int), .int .u8 ((c % 20 : Nat) : Int), .int .u64 ((c % 20 : Nat) : Int), RV (c % 20), GV (gp (mul F2.inv (c % 20) P)), GV (gp (mul F2.inv (c % 20) P)), .bool true, .bool true, GV (gp (mul F2.inv a g)), RV (ordR - 1), GV (gp (mul F2.inv (ordR - 1) (mul F2.inv a g))), GV (gp (mul F2.inv a g)), GV (gp (neg (mul F2.inv a g))), .bool true, .bool true, .bool true, GV (gp P), GV (gp (neg P)), GV (gp (neg (neg P))), GV (gp P), .bool true, .bool true]) (fun L => [((L0.b 0), RC a), ((L2.b 5), GC (gp P)), ((L4.b 1), GC (gp (mul F2.inv (c % 20) P))), ((L10.b 3), GC (gp (mul F2.inv a g))), ((L11.b 2), RC (ordR - 1))]) hp12 ⟨
    oL 1 0 rG, oM, oJ .u8 .u8 ((c : Nat) : Int) 20 (h := fun w => rem20 _ c w), oCv (conv8' (c % 20) (by omega)), oD (buildRk (c % 20) (by omega)), oH (v := GV (gp (mul F2.inv (c % 20) P))) (vs := #[GV (gp P), RV (c % 20)]) (fun w hb _ => g2Mul K P (c % 20) w (K.stay hg hb) hP (by omega)),
    oL 2 0 rG, oH (v := .bool true) (vs := #[GV (gp (mul F2.inv (c % 20) P)), GV (gp (mul F2.inv (c % 20) P))]) (fun w hb _ => by have h := g2Equal K (mul F2.inv (c % 20) P) (mul F2.inv (c % 20) P) w (K.stay hg hb); rw [decide_eq_true (show (mul F2.inv (c % 20) P) = (mul F2.inv (c % 20) P) from rfl)] at h; exact h),
    oM, oL 3 0 rG, oL 4 0 rR, oH (v := GV (gp (mul F2.inv (ordR - 1) (mul F2.inv a g)))) (vs := #[GV (gp (mul F2.inv a g)), RV (ordR - 1)]) (fun w hb _ => g2Mul K (mul F2.inv a g) (ordR - 1) w (K.stay hg hb) (mul_on crv2 (gen2_on' hgn) a) (Nat.lt_of_le_of_lt (Nat.sub_le _ _) ordR_256)),
    oL 3 0 rG, oC K.stay hg (g2Neg K (mul F2.inv a g)), oH (v := .bool true) (vs := #[GV (gp (mul F2.inv (ordR - 1) (mul F2.inv a g))), GV (gp (neg (mul F2.inv a g)))]) (fun w hb _ => by have h := g2Equal K (mul F2.inv (ordR - 1) (mul F2.inv a g)) (neg (mul F2.inv a g)) w (K.stay hg hb); rw [decide_eq_true (show (mul F2.inv (ordR - 1) (mul F2.inv a g)) = (neg (mul F2.inv a g)) from last_neg hgn a)] at h; exact h),
    oP, oM, oL 1 0 rG, oC K.stay hg (g2Neg K P), oC K.stay hg (g2Neg K (neg P)), oL 1 0 rG, oH (v := .bool true) (vs := #[GV (gp (neg (neg P))), GV (gp P)]) (fun w hb _ => by have h := g2Equal K (neg (neg P)) P w (K.stay hg hb); rw [decide_eq_true (show (neg (neg P)) = P from neg_neg P)] at h; exact h),
    oP, oA,
    trivial⟩ (fun L12 w13 hp13 => ?_)
  refine k19 _ _ ?_
  refine wp_ret ?_
  refine bodyPost_ret (v := .bool true) ?_ rfl ?_
  · exact res_t rfl (by kernel_rfl) _
  · exact ⟨rfl, hp13.bel⟩
theorem g2Small_walk {G : World → Prop} (K : FpK G) (R : RefK) (n c a : Nat) (ha6 : a < 2 ^ 256) (hn : n < 18446744073709551616) (hc : c < 256) (w : World) (hg : G w) :
    Calls Tryd.prog 8 #[.int .u64 ((n : Nat) : Int), .int .u8 ((c : Nat) : Int), RV a] w (Ret (.bool true) w) := by
  have hB := fun w hg => begun9 K R w hg
  rcases refOut_or R n hn with ⟨P, hP, hO⟩ | hO
  · by_cases ha : a < ordR
    · exact smY K R gen2 P n c a w hg rfl hB ha6 ha hc hO hP
    · exact smM K R gen2 P n c a w hg rfl hB ha6 ha hO
  · exact smN K R gen2 .inf n c a w hg rfl hB ha6 hO
end Go.Proofs.YthehnlpgmkjefaaDoor.fpn.T2
