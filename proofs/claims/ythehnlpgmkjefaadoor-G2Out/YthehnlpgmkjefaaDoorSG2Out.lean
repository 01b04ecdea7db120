/- G2OutWalk. -/
import Derived.Test.YthehnlpgmkjefaaDoorGS
import Derived.Test.YthehnlpgmkjefaaDoorGV
/- G2Out walked. -/
namespace Go.Proofs.YthehnlpgmkjefaaDoor.fpn.T2
open Go.RowKit Pl EC
set_option linter.unusedVariables false
set_option linter.unusedSimpArgs false
set_option maxRecDepth 4000

theorem conv8 (c : Nat) (hc : c < 256) (w : World) : (convert 5 22 (.int .u8 (c : Int))).run Tryd.prog w = .ok (.int .u64 (c : Int)) w := by
  have e : IntKind.u64.wrap (c : Int) = (c : Int) := by unfold IntKind.wrap; simp [IntKind.bits, IntKind.signed]; omega
  simp [convert, Sem.run_bind, run_underlying Tryd.underlying5, run_underlying Tryd.underlying22, Conv.intToInt, e]
set_option maxHeartbeats 4000000 in
theorem outN {G : World → Prop} (K : FpK G) (R : RefK) (g P : Pt F2) (k c n : Nat) (w : World) (hg : G w) (hgn : g = gen2) (hB : ∀ w, G w → Calls Tryd.prog 9 #[] w (Ret (.bool true) w)) (hk6 : k < 2 ^ 256) (hO : ∀ w, Calls Tryd.prog 25 #[.int .u64 ((n : Nat) : Int)] w (Ret (.tuple #[GV ⟨0, 0, false⟩, .bool false]) w)) : Calls Tryd.prog 7 #[.int .u64 ((n : Nat) : Int), RV k, .int .u8 ((c : Nat) : Int)] w (Ret (.bool true) w) := by
  have hp0 := Heap.start w
  go_enter Tryd.func7, Tryd.ntmps7
  refine wp_seq_k (fun K1 k1 => ?_)
  refine gs [.alloc (RC k), .det (.bool false)] [0, 1] [0, 0] (fun L => [.int .u64 ((n : Nat) : Int), RV k, .int .u8 ((c : Nat) : Int), undef, pt (L.b 0) 0, undef, .bool false] ++ U 51) (fun L => [(L.b 0, RC k)]) hp0 ⟨
    oB, oA,
    trivial⟩ (fun L0 w1 hp1 => ?_)
  refine k1 _ _ ?_
  refine wp_seq_k (fun K2 k2 => ?_)
  refine wp_seq_k (fun K3 k3 => ?_)
  refine gs [.det (.bool true), .det (.bool false)] [0, 1] [0, 1] (fun L => [.int .u64 ((n : Nat) : Int), RV k, .int .u8 ((c : Nat) : Int), undef, pt (L0.b 0) 0, undef, .bool false, undef, undef, undef, .bool true, .bool false] ++ U 46) (fun L => [((L0.b 0), RC k)]) hp1 ⟨
    oC K.stay hg hB, oN,
    trivial⟩ (fun L1 w2 hp2 => ?_)
  refine k3 _ _ ?_
  refine wp_cond_false (by kernel_rfl) ?_
  refine skips ?_
  refine k2 _ _ ?_
  refine wp_seq_k (fun K4 k4 => ?_)
  refine gs [.det (.int .u64 ((n : Nat) : Int)), .det (.tuple #[GV ⟨0, 0, false⟩, .bool false]), .det (.tuple #[GV ⟨0, 0, false⟩, .bool false]), .det (GV ⟨0, 0, false⟩), .det (.bool false), .alloc (GC ⟨0, 0, false⟩), .store (.new 5) 0 (GC ⟨0, 0, false⟩) (GC ⟨0, 0, false⟩), .det (.bool false)] [0, 1, 2, 3, 4, 5, 6, 7] [0, 1, 3, 7, 7, 0, 47, 127] (fun L => [.int .u64 ((n : Nat) : Int), RV k, .int .u8 ((c : Nat) : Int), undef, pt (L0.b 0) 0, undef, .bool false, pt (L.b 5) 0, .bool false, undef, .bool true, .bool false, .tuple #[GV ⟨0, 0, false⟩, .bool false], .int .u64 ((n : Nat) : Int), .tuple #[GV ⟨0, 0, false⟩, .bool false], GV ⟨0, 0, false⟩, .bool false] ++ U 41) (fun L => [((L0.b 0), RC k), (L.b 5, GC ⟨0, 0, false⟩)]) hp2 ⟨
    oM, oR hO, oM, oX, oX, oZ rG, oT rG, oA,
    trivial⟩ (fun L2 w3 hp3 => ?_)
  refine k4 _ _ ?_
  refine wp_seq_k (fun K5 k5 => ?_)
  refine wp_seq_k (fun K6 k6 => ?_)
  refine gs [.det (.bool false), .det (.bool true), .det (.bool true), .det undef, .det undef, .det undef, .det (.bool true)] [0, 1, 2, 3, 4, 5, 6] [0, 1, 3, 7, 15, 31, 63] (fun L => [.int .u64 ((n : Nat) : Int), RV k, .int .u8 ((c : Nat) : Int), undef, pt (L0.b 0) 0, undef, .bool false, pt (L2.b 5) 0, .bool false, undef, .bool true, .bool false, .tuple #[GV ⟨0, 0, false⟩, .bool false], .int .u64 ((n : Nat) : Int), .tuple #[GV ⟨0, 0, false⟩, .bool false], GV ⟨0, 0, false⟩, .bool false, .bool false, .bool true, .bool true, undef, undef, undef, .bool true] ++ U 34) (fun L => [((L0.b 0), RC k), ((L2.b 5), GC ⟨0, 0, false⟩)]) hp3 ⟨
    oM, oN, oM, oS, oS, oS, oP,
    trivial⟩ (fun L3 w4 hp4 => ?_)
  refine k6 _ _ ?_
  refine wp_cond_true (by kernel_rfl) ?_
  refine wp_seq_k (fun K7 k7 => ?_)
  refine gs [.det (.bool true)] [0] [0] (fun L => [.int .u64 ((n : Nat) : Int), RV k, .int .u8 ((c : Nat) : Int), undef, pt (L0.b 0) 0, undef, .bool true, pt (L2.b 5) 0, .bool false, undef, .bool true, .bool false, .tuple #[GV ⟨0, 0, false⟩, .bool false], .int .u64 ((n : Nat) : Int), .tuple #[GV ⟨0, 0, false⟩, .bool false], GV ⟨0, 0, false⟩, .bool false, .bool false, .bool true, .bool true, undef, undef, undef, .bool true] ++ U 34) (fun L => [((L0.b 0), RC k), ((L2.b 5), GC ⟨0, 0, false⟩)]) hp4 ⟨
    oA,
    trivial⟩ (fun L4 w5 hp5 => ?_)
  refine k7 _ _ ?_
  refine wp_ret ?_
  refine bodyPost_ret (v := .bool true) ?_ rfl ?_
  · exact res_t rfl (by kernel_rfl) _
  · exact ⟨rfl, hp5.bel⟩
set_option maxHeartbeats 4000000 in
theorem outM {G : World → Prop} (K : FpK G) (R : RefK) (g P : Pt F2) (k c n : Nat) (w : World) (hg : G w) (hgn : g = gen2) (hB : ∀ w, G w → Calls Tryd.prog 9 #[] w (Ret (.bool true) w)) (hk6 : k < 2 ^ 256) (hk : ¬ k < ordR) (hO : ∀ w, Calls Tryd.prog 25 #[.int .u64 ((n : Nat) : Int)] w (Ret (.tuple #[GV (gp P), .bool true]) w)) : Calls Tryd.prog 7 #[.int .u64 ((n : Nat) : Int), RV k, .int .u8 ((c : Nat) : Int)] w (Ret (.bool true) w) := by
  have hp0 := Heap.start w
  go_enter Tryd.func7, Tryd.ntmps7
  refine wp_seq_k (fun K1 k1 => ?_)
  refine gs [.alloc (RC k), .det (.bool false)] [0, 1] [0, 0] (fun L => [.int .u64 ((n : Nat) : Int), RV k, .int .u8 ((c : Nat) : Int), undef, pt (L.b 0) 0, undef, .bool false] ++ U 51) (fun L => [(L.b 0, RC k)]) hp0 ⟨
    oB, oA,
    trivial⟩ (fun L0 w1 hp1 => ?_)
  refine k1 _ _ ?_
  refine wp_seq_k (fun K2 k2 => ?_)
  refine wp_seq_k (fun K3 k3 => ?_)
  refine gs [.det (.bool true), .det (.bool false)] [0, 1] [0, 1] (fun L => [.int .u64 ((n : Nat) : Int), RV k, .int .u8 ((c : Nat) : Int), undef, pt (L0.b 0) 0, undef, .bool false, undef, undef, undef, .bool true, .bool false] ++ U 46) (fun L => [((L0.b 0), RC k)]) hp1 ⟨
    oC K.stay hg hB, oN,
    trivial⟩ (fun L1 w2 hp2 => ?_)
  refine k3 _ _ ?_
  refine wp_cond_false (by kernel_rfl) ?_
  refine skips ?_
  refine k2 _ _ ?_
  refine wp_seq_k (fun K4 k4 => ?_)
  refine gs [.det (.int .u64 ((n : Nat) : Int)), .det (.tuple #[GV (gp P), .bool true]), .det (.tuple #[GV (gp P), .bool true]), .det (GV (gp P)), .det (.bool true), .alloc (GC ⟨0, 0, false⟩), .store (.new 5) 0 (GC (gp P)) (GC (gp P)), .det (.bool true)] [0, 1, 2, 3, 4, 5, 6, 7] [0, 1, 3, 7, 7, 0, 47, 127] (fun L => [.int .u64 ((n : Nat) : Int), RV k, .int .u8 ((c : Nat) : Int), undef, pt (L0.b 0) 0, undef, .bool false, pt (L.b 5) 0, .bool true, undef, .bool true, .bool false, .tuple #[GV (gp P), .bool true], .int .u64 ((n : Nat) : Int), .tuple #[GV (gp P), .bool true], GV (gp P), .bool true] ++ U 41) (fun L => [((L0.b 0), RC k), (L.b 5, GC (gp P))]) hp2 ⟨
    oM, oR hO, oM, oX, oX, oZ rG, oT rG, oA,
    trivial⟩ (fun L2 w3 hp3 => ?_)
  refine k4 _ _ ?_
  refine wp_seq_k (fun K5 k5 => ?_)
  refine wp_seq_k (fun K6 k6 => ?_)
  refine gs [.det (.bool true), .det (.bool false), .det (.bool false), .det (RV k), .det (.bool false), .det (.bool true), .det (.bool true)] [0, 1, 2, 3, 4, 5, 6] [0, 1, 3, 7, 15, 31, 63] (fun L => [.int .u64 ((n : Nat) : Int), RV k, .int .u8 ((c : Nat) : Int), undef, pt (L0.b 0) 0, undef, .bool false, pt (L2.b 5) 0, .bool true, undef, .bool true, .bool false, .tuple #[GV (gp P), .bool true], .int .u64 ((n : Nat) : Int), .tuple #[GV (gp P), .bool true], GV (gp P), .bool true, .bool true, .bool false, .bool false, RV k, .bool false, .bool true, .bool true] ++ U 34) (fun L => [((L0.b 0), RC k), ((L2.b 5), GC (gp P))]) hp3 ⟨
    oM, oN, oM, oL 0 0 rR, oH (v := .bool false) (vs := #[RV k]) (fun w _ _ => by have h := mayR hk6 w; rw [decide_eq_false hk] at h; exact h), oN, oP,
    trivial⟩ (fun L3 w4 hp4 => ?_)
  refine k6 _ _ ?_
  refine wp_cond_true (by kernel_rfl) ?_
  refine wp_seq_k (fun K7 k7 => ?_)
  refine gs [.det (.bool true)] [0] [0] (fun L => [.int .u64 ((n : Nat) : Int), RV k, .int .u8 ((c : Nat) : Int), undef, pt (L0.b 0) 0, undef, .bool true, pt (L2.b 5) 0, .bool true, undef, .bool true, .bool false, .tuple #[GV (gp P), .bool true], .int .u64 ((n : Nat) : Int), .tuple #[GV (gp P), .bool true], GV (gp P), .bool true, .bool true, .bool false, .bool false, RV k, .bool false, .bool true, .bool true] ++ U 34) (fun L => [((L0.b 0), RC k), ((L2.b 5), GC (gp P))]) hp4 ⟨
    oA,
    trivial⟩ (fun L4 w5 hp5 => ?_)
  refine k7 _ _ ?_
  refine wp_ret ?_
  refine bodyPost_ret (v := .bool true) ?_ rfl ?_
  · exact res_t rfl (by kernel_rfl) _
  · exact ⟨rfl, hp5.bel⟩
set_option maxHeartbeats 4000000 in
theorem outY {G : World → Prop} (K : FpK G) (R : RefK) (g P : Pt F2) (k c n : Nat) (w : World) (hg : G w) (hgn : g = gen2) (hB : ∀ w, G w → Calls Tryd.prog 9 #[] w (Ret (.bool true) w)) (hk6 : k < 2 ^ 256) (hk : k < ordR) (hc : c < 256) (hO : ∀ w, Calls Tryd.prog 25 #[.int .u64 ((n : Nat) : Int)] w (Ret (.tuple #[GV (gp P), .bool true]) w)) (hP : On b2 P) : Calls Tryd.prog 7 #[.int .u64 ((n : Nat) : Int), RV k, .int .u8 ((c : Nat) : Int)] w (Ret (.bool true) w) := by
  have hp0 := Heap.start w
  go_enter Tryd.func7, Tryd.ntmps7
  refine wp_seq_k (fun K1 k1 => ?_)
  refine gs [.alloc (RC k), .det (.bool false)] [0, 1] [0, 0] (fun L => [.int .u64 ((n : Nat) : Int), RV k, .int .u8 ((c : Nat) : Int), undef, pt (L.b 0) 0, undef, .bool false] ++ U 51) (fun L => [(L.b 0, RC k)]) hp0 ⟨
    oB, oA,
    trivial⟩ (fun L0 w1 hp1 => ?_)
  refine k1 _ _ ?_
  refine wp_seq_k (fun K2 k2 => ?_)
  refine wp_seq_k (fun K3 k3 => ?_)
  refine gs [.det (.bool true), .det (.bool false)] [0, 1] [0, 1] (fun L => [.int .u64 ((n : Nat) : Int), RV k, .int .u8 ((c : Nat) : Int), undef, pt (L0.b 0) 0, undef, .bool false, undef, undef, undef, .bool true, .bool false] ++ U 46) (fun L => [((L0.b 0), RC k)]) hp1 ⟨
    oC K.stay hg hB, oN,
    trivial⟩ (fun L1 w2 hp2 => ?_)
  refine k3 _ _ ?_
  refine wp_cond_false (by kernel_rfl) ?_
  refine skips ?_
  refine k2 _ _ ?_
  refine wp_seq_k (fun K4 k4 => ?_)
  refine gs [.det (.int .u64 ((n : Nat) : Int)), .det (.tuple #[GV (gp P), .bool true]), .det (.tuple #[GV (gp P), .bool true]), .det (GV (gp P)), .det (.bool true), .alloc (GC ⟨0, 0, false⟩), .store (.new 5) 0 (GC (gp P)) (GC (gp P)), .det (.bool true)] [0, 1, 2, 3, 4, 5, 6, 7] [0, 1, 3, 7, 7, 0, 47, 127] (fun L => [.int .u64 ((n : Nat) : Int), RV k, .int .u8 ((c : Nat) : Int), undef, pt (L0.b 0) 0, undef, .bool false, pt (L.b 5) 0, .bool true, undef, .bool true, .bool false, .tuple #[GV (gp P), .bool true], .int .u64 ((n : Nat) : Int), .tuple #[GV (gp P), .bool true], GV (gp P), .bool true] ++ U 41) (fun L => [((L0.b 0), RC k), (L.b 5, GC (gp P))]) hp2 ⟨
    oM, oR hO, oM, oX, oX, oZ rG, oT rG, oA,
    trivial⟩ (fun L2 w3 hp3 => ?_)
  refine k4 _ _ ?_
  refine wp_seq_k (fun K5 k5 => ?_)
  refine wp_seq_k (fun K6 k6 => ?_)
  refine gs [.det (.bool true), .det (.bool false), .det (.bool false), .det (RV k), .det (.bool true), .det (.bool false), .det (.bool false)] [0, 1, 2, 3, 4, 5, 6] [0, 1, 3, 7, 15, 31, 63] (fun L => [.int .u64 ((n : Nat) : Int), RV k, .int .u8 ((c : Nat) : Int), undef, pt (L0.b 0) 0, undef, .bool false, pt (L2.b 5) 0, .bool true, undef, .bool true, .bool false, .tuple #[GV (gp P), .bool true], .int .u64 ((n : Nat) : Int), .tuple #[GV (gp P), .bool true], GV (gp P), .bool true, .bool true, .bool false, .bool false, RV k, .bool true, .bool false, .bool false] ++ U 34) (fun L => [((L0.b 0), RC k), ((L2.b 5), GC (gp P))]) hp3 ⟨
    oM, oN, oM, oL 0 0 rR, oH (v := .bool true) (vs := #[RV k]) (fun w _ _ => by have h := mayR hk6 w; rw [decide_eq_true hk] at h; exact h), oN, oP,
    trivial⟩ (fun L3 w4 hp4 => ?_)
  refine k6 _ _ ?_
  refine wp_cond_false (by kernel_rfl) ?_
  refine skips ?_
  refine k5 _ _ ?_
  refine wp_seq_k (fun K7 k7 => ?_)
  refine dr [.det (GV (gp P)), .det (GV (gp g)), .det (RV k), .det (GV (gp (mul F2.inv k g))), .det (GV (gp (add F2.inv P (mul F2.inv k g)))), .alloc (GC ⟨0, 0, false⟩), .store (.new 5) 0 (GC (gp (add F2.inv P (mul F2.inv k g)))) (GC (gp (add F2.inv P (mul F2.inv k g))))] [0, 1, 2, 3, 4, 5, 6] [0, 0, 0, 6, 15, 0, 63] (fun L => [.int .u64 ((n : Nat) : Int), RV k, .int .u8 ((c : Nat) : Int), undef, pt (L0.b 0) 0, undef, .bool false, pt (L2.b 5) 0, .bool true, pt (L.b 5) 0, .bool true, .bool false, .tuple #[GV (gp P), .bool true], .int .u64 ((n : Nat) : Int), .tuple #[GV (gp P), .bool true], GV (gp P), .bool true, .bool true, .bool false, .bool false, RV k, .bool true, .bool false, .bool false, GV (gp P), GV (gp g), RV k, GV (gp (mul F2.inv k g)), GV (gp (add F2.inv P (mul F2.inv k g)))] ++ U 29) (fun L => [((L0.b 0), RC k), ((L2.b 5), GC (gp P)), (L.b 5, GC (gp (add F2.inv P (mul F2.inv k g))))]) hp4 ⟨
    oL 1 0 rG, oH (v := GV (gp g)) (vs := #[]) (fun w _ _ => by have h := ref5Gen1 R w; rw [← hgn] at h; exact h), oL 0 0 rR, oH (v := GV (gp (mul F2.inv k g))) (vs := #[GV (gp g), RV k]) (fun w _ _ => ref5Times1 R g k w (gen2_on' hgn) hk6),
    oH (v := GV (gp (add F2.inv P (mul F2.inv k g)))) (vs := #[GV (gp P), GV (gp (mul F2.inv k g))]) (fun w _ _ => ref5Plus1 R P (mul F2.inv k g) w hP (mul_on crv2 (gen2_on' hgn) k)),
    oZ rG, oT rG,
    trivial⟩ (fun L4 w5 hp5 => ?_)
  refine k7 _ _ ?_
  refine wp_seq_k (fun K8 k8 => ?_)
  refine dr [.det (GV (gp P)), .det (.bool (decide (mul F2.inv ordR P = .inf))), .det (GV (gp P)), .det (.bool (decide (mul F2.inv ordR P = .inf))), .det (.bool true), .det (.bool true), .det (GV (gp (add F2.inv P (mul F2.inv k g)))), .det (.bool (decide (mul F2.inv ordR (add F2.inv P (mul F2.inv k g)) = .inf))), .det (GV (gp (add F2.inv P (mul F2.inv k g)))), .det (.bool (decide (mul F2.inv ordR (add F2.inv P (mul F2.inv k g)) = .inf))), .det (.bool true), .det (.bool true), .det (.bool true), .det (GV ⟨0, 0, true⟩), .det (.bool true), .det (.bool true), .det (.bool true), .det (GV (gp P)), .det (.int .u8 ((c : Nat) : Int)), .det (.int .u64 ((c : Nat) : Int)), .det (RV c), .det (GV (gp (mul F2.inv c P))), .det (GV (gp P)), .det (.int .u8 ((c : Nat) : Int)), .det (.int .u64 ((c : Nat) : Int)), .det (RV c), .det (GV (gp (mul F2.inv c P))), .det (.bool true), .det (.bool true), .det (.bool true)] [0, 1, 2, 3, 4, 5, 6, 7, 8, 9, 10, 11, 12, 13, 14, 15, 16, 17, 18, 19, 20, 21, 22, 23, 24, 25, 26, 27, 28, 29] [0, 1, 0, 7, 15, 31, 63, 127, 63, 511, 1023, 2047, 4095, 8191, 16383, 32767, 65535, 131071, 131071, 393215, 917503, 2097151, 131071, 131071, 8519679, 25296895, 67108863, 134217727, 268435455, 536870911] (fun L => [.int .u64 ((n : Nat) : Int), RV k, .int .u8 ((c : Nat) : Int), undef, pt (L0.b 0) 0, undef, .bool true, pt (L2.b 5) 0, .bool true, pt (L4.b 5) 0, .bool true, .bool false, .tuple #[GV (gp P), .bool true], .int .u64 ((n : Nat) : Int), .tuple #[GV (gp P), .bool true], GV (gp P), .bool true, .bool true, .bool false, .bool false, RV k, .bool true, .bool false, .bool false, GV (gp P), GV (gp g), RV k, GV (gp (mul F2.inv k g)), GV (gp (add F2.inv P (mul F2.inv k g))), GV (gp P), .bool (decide (mul F2.inv ordR P = .inf)), GV (gp P), .bool (decide (mul F2.inv ordR P = .inf)), .bool true, .bool true, GV (gp (add F2.inv P (mul F2.inv k g))), .bool (decide (mul F2.inv ordR (add F2.inv P (mul F2.inv k g)) = .inf)), GV (gp (add F2.inv P (mul F2.inv k g))), .bool (decide (mul F2.inv ordR (add F2.inv P (mul F2.inv k g)) = .inf)), .bool true, .bool true, .bool true, GV ⟨0, 0, true⟩, .bool true, .bool true, .bool true, GV (gp P), .int .u8 ((c : Nat) : Int), .int .u64 ((c : Nat) : Int), RV c, GV (gp (mul F2.inv c P)), GV (gp P), .int .u8 ((c : Nat) : Int), .int .u64 ((c : Nat) : Int), RV c, GV (gp (mul F2.inv c P)), .bool true, .bool true]) (fun L => [((L0.b 0), RC k), ((L2.b 5), GC (gp P)), ((L4.b 5), GC (gp (add F2.inv P (mul F2.inv k g))))]) hp5 ⟨
    oL 1 0 rG, oH (v := .bool (decide (mul F2.inv ordR P = .inf))) (vs := #[GV (gp P)]) (fun w hb _ => g2In K P w (K.stay hg hb) hP), oL 1 0 rG, oH (v := .bool (decide (mul F2.inv ordR P = .inf))) (vs := #[GV (gp P)]) (fun w _ _ => ref5In1 R P w hP),
    oE (a := decide (mul F2.inv ordR P = .inf)) (b := decide (mul F2.inv ordR P = .inf)) qB (yes rfl), oM, oL 2 0 rG, oH (v := .bool (decide (mul F2.inv ordR (add F2.inv P (mul F2.inv k g)) = .inf))) (vs := #[GV (gp (add F2.inv P (mul F2.inv k g)))]) (fun w hb _ => g2In K (add F2.inv P (mul F2.inv k g)) w (K.stay hg hb) (add_on crv2 hP (mul_on crv2 (gen2_on' hgn) k))),
    oL 2 0 rG, oH (v := .bool (decide (mul F2.inv ordR (add F2.inv P (mul F2.inv k g)) = .inf))) (vs := #[GV (gp (add F2.inv P (mul F2.inv k g)))]) (fun w _ _ => ref5In1 R (add F2.inv P (mul F2.inv k g)) w (add_on crv2 hP (mul_on crv2 (gen2_on' hgn) k))),
    oE (a := decide (mul F2.inv ordR (add F2.inv P (mul F2.inv k g)) = .inf)) (b := decide (mul F2.inv ordR (add F2.inv P (mul F2.inv k g)) = .inf)) qB (yes rfl),
    oP, oM, oD (buildGi true), oH (v := .bool true) (vs := #[GV ⟨0, 0, true⟩]) (fun w hb _ => by have h := g2In K Pt.inf w (K.stay hg hb) (trivial : On b2 Pt.inf); rw [decide_eq_true (show mul F2.inv ordR Pt.inf = .inf from mul_inf ordR)] at h; exact h),
    oP, oM, oL 1 0 rG, oM, oCv (conv8 c hc), oD (buildRk c (by omega)), oH (v := GV (gp (mul F2.inv c P))) (vs := #[GV (gp P), RV c]) (fun w hb _ => g2Mul K P c w (K.stay hg hb) hP (by omega)),
    oL 1 0 rG, oM, oCv (conv8 c hc), oD (buildRk c (by omega)), oH (v := GV (gp (mul F2.inv c P))) (vs := #[GV (gp P), RV c]) (fun w _ _ => ref5Times1 R P c w hP (by omega)),
    oE (a := (gp (mul F2.inv c P))) (b := (gp (mul F2.inv c P))) qG (yes rfl), oP, oA,
    trivial⟩ (fun L5 w6 hp6 => ?_)
  refine k8 _ _ ?_
  refine wp_ret ?_
  refine bodyPost_ret (v := .bool true) ?_ rfl ?_
  · exact res_t rfl (by kernel_rfl) _
  · exact ⟨rfl, hp6.bel⟩
theorem g2Out_walk {G : World → Prop} (K : FpK G) (R : RefK) (n k c : Nat) (hk6 : k < 2 ^ 256) (hn : n < 18446744073709551616) (hc : c < 256) (w : World) (hg : G w) :
    Calls Tryd.prog 7 #[.int .u64 ((n : Nat) : Int), RV k, .int .u8 ((c : Nat) : Int)] w (Ret (.bool true) w) := by
  have hB := fun w hg => begun9 K R w hg
  rcases refOut_or R n hn with ⟨P, hP, hO⟩ | hO
  · by_cases hk : k < ordR
    · exact outY K R gen2 P k c n w hg rfl hB hk6 hk hc hO hP
    · exact outM K R gen2 P k c n w hg rfl hB hk6 hk hO
  · exact outN K R gen2 .inf k c n w hg rfl hB hk6 hO
end Go.Proofs.YthehnlpgmkjefaaDoor.fpn.T2
