/- G2AllWalk. -/
import Derived.Test.YthehnlpgmkjefaaDoorGS
import Derived.Test.YthehnlpgmkjefaaDoorGV
/- G2All walked. -/
namespace Go.Proofs.YthehnlpgmkjefaaDoor.fpn.T2
open Go.RowKit Pl EC
set_option linter.unusedVariables false
set_option linter.unusedSimpArgs false
set_option maxRecDepth 4000

theorem decide_gp (P Q : Pt F2) : decide (P = Q) = decide (gp P = gp Q) := decide_eq_decide.2 ⟨fun h => by rw [h], gp_inj⟩
set_option maxHeartbeats 4000000 in
theorem all0 {G : World → Prop} (K : FpK G) (R : RefK) (g : Pt F2) (a b n k : Nat) (out same : Bool) (w : World) (hg : G w) (hgn : g = gen2) (hB : ∀ w, G w → Calls Tryd.prog 9 #[] w (Ret (.bool true) w)) (ha6 : a < 2 ^ 256) (hb6 : b < 2 ^ 256) (hk6 : k < 2 ^ 256) (ha : ¬ a < ordR) : Calls Tryd.prog 3 #[RV a, RV b, .int .u64 ((n : Nat) : Int), .bool out, .bool same, RV k] w (Ret (.bool true) w) := by
  have hp0 := Heap.start w
  go_enter Tryd.func3, Tryd.ntmps3
  refine wp_seq_k (fun K1 k1 => ?_)
  refine gs [.alloc (RC a), .alloc (RC b), .alloc (RC k), .det (.bool false)] [0, 1, 2, 3] [0, 0, 0, 0] (fun L => [RV a, RV b, .int .u64 ((n : Nat) : Int), .bool out, .bool same, RV k, pt (L.b 0) 0, pt (L.b 1) 0, undef, undef, undef, pt (L.b 2) 0, .bool false] ++ U 68) (fun L => [(L.b 0, RC a), (L.b 1, RC b), (L.b 2, RC k)]) hp0 ⟨
    oB, oB, oB, oA,
    trivial⟩ (fun L0 w1 hp1 => ?_)
  refine k1 _ _ ?_
  refine wp_seq_k (fun K2 k2 => ?_)
  refine wp_seq_k (fun K3 k3 => ?_)
  refine gs [.det (.bool true), .det (.bool false)] [0, 1] [0, 1] (fun L => [RV a, RV b, .int .u64 ((n : Nat) : Int), .bool out, .bool same, RV k, pt (L0.b 0) 0, pt (L0.b 1) 0, undef, undef, undef, pt (L0.b 2) 0, .bool false, undef, undef, .bool true, .bool false] ++ U 64) (fun L => [((L0.b 0), RC a), ((L0.b 1), RC b), ((L0.b 2), RC k)]) hp1 ⟨
    oC K.stay hg hB, oN,
    trivial⟩ (fun L1 w2 hp2 => ?_)
  refine k3 _ _ ?_
  refine wp_cond_false (by kernel_rfl) ?_
  refine skips ?_
  refine k2 _ _ ?_
  refine wp_seq_k (fun K4 k4 => ?_)
  refine wp_seq_k (fun K5 k5 => ?_)
  refine gs [.det (RV a), .det (.bool false), .det (.bool true), .det (.bool true), .det undef, .det undef, .det undef, .det (.bool true), .det (.bool true), .det undef, .det undef, .det undef, .det (.bool true)] [0, 1, 2, 3, 4, 5, 6, 7, 8, 9, 10, 11, 12] [0, 1, 3, 7, 15, 31, 63, 127, 255, 511, 1023, 2047, 4095] (fun L => [RV a, RV b, .int .u64 ((n : Nat) : Int), .bool out, .bool same, RV k, pt (L0.b 0) 0, pt (L0.b 1) 0, undef, undef, undef, pt (L0.b 2) 0, .bool false, undef, undef, .bool true, .bool false, RV a, .bool false, .bool true, .bool true, undef, undef, undef, .bool true, .bool true, undef, undef, undef, .bool true] ++ U 51) (fun L => [((L0.b 0), RC a), ((L0.b 1), RC b), ((L0.b 2), RC k)]) hp2 ⟨
    oL 0 0 rR, oH (v := .bool false) (vs := #[RV a]) (fun w _ _ => by have h := mayR ha6 w; rw [decide_eq_false ha] at h; exact h), oN, oM, oS, oS, oS, oP, oM, oS,
    oS, oS, oP,
    trivial⟩ (fun L2 w3 hp3 => ?_)
  refine k5 _ _ ?_
  refine wp_cond_true (by kernel_rfl) ?_
  refine wp_seq_k (fun K6 k6 => ?_)
  refine gs [.det (.bool true)] [0] [0] (fun L => [RV a, RV b, .int .u64 ((n : Nat) : Int), .bool out, .bool same, RV k, pt (L0.b 0) 0, pt (L0.b 1) 0, undef, undef, undef, pt (L0.b 2) 0, .bool true, undef, undef, .bool true, .bool false, RV a, .bool false, .bool true, .bool true, undef, undef, undef, .bool true, .bool true, undef, undef, undef, .bool true] ++ U 51) (fun L => [((L0.b 0), RC a), ((L0.b 1), RC b), ((L0.b 2), RC k)]) hp3 ⟨
    oA,
    trivial⟩ (fun L3 w4 hp4 => ?_)
  refine k6 _ _ ?_
  refine wp_ret ?_
  refine bodyPost_ret (v := .bool true) ?_ rfl ?_
  · exact res_t rfl (by kernel_rfl) _
  · exact ⟨rfl, hp4.bel⟩
set_option maxHeartbeats 4000000 in
theorem all1 {G : World → Prop} (K : FpK G) (R : RefK) (g : Pt F2) (a b n k : Nat) (out same : Bool) (w : World) (hg : G w) (hgn : g = gen2) (hB : ∀ w, G w → Calls Tryd.prog 9 #[] w (Ret (.bool true) w)) (ha6 : a < 2 ^ 256) (hb6 : b < 2 ^ 256) (hk6 : k < 2 ^ 256) (ha : a < ordR) (hb : ¬ b < ordR) : Calls Tryd.prog 3 #[RV a, RV b, .int .u64 ((n : Nat) : Int), .bool out, .bool same, RV k] w (Ret (.bool true) w) := by
  have hp0 := Heap.start w
  go_enter Tryd.func3, Tryd.ntmps3
  refine wp_seq_k (fun K1 k1 => ?_)
  refine gs [.alloc (RC a), .alloc (RC b), .alloc (RC k), .det (.bool false)] [0, 1, 2, 3] [0, 0, 0, 0] (fun L => [RV a, RV b, .int .u64 ((n : Nat) : Int), .bool out, .bool same, RV k, pt (L.b 0) 0, pt (L.b 1) 0, undef, undef, undef, pt (L.b 2) 0, .bool false] ++ U 68) (fun L => [(L.b 0, RC a), (L.b 1, RC b), (L.b 2, RC k)]) hp0 ⟨
    oB, oB, oB, oA,
    trivial⟩ (fun L0 w1 hp1 => ?_)
  refine k1 _ _ ?_
  refine wp_seq_k (fun K2 k2 => ?_)
  refine wp_seq_k (fun K3 k3 => ?_)
  refine gs [.det (.bool true), .det (.bool false)] [0, 1] [0, 1] (fun L => [RV a, RV b, .int .u64 ((n : Nat) : Int), .bool out, .bool same, RV k, pt (L0.b 0) 0, pt (L0.b 1) 0, undef, undef, undef, pt (L0.b 2) 0, .bool false, undef, undef, .bool true, .bool false] ++ U 64) (fun L => [((L0.b 0), RC a), ((L0.b 1), RC b), ((L0.b 2), RC k)]) hp1 ⟨
    oC K.stay hg hB, oN,
    trivial⟩ (fun L1 w2 hp2 => ?_)
  refine k3 _ _ ?_
  refine wp_cond_false (by kernel_rfl) ?_
  refine skips ?_
  refine k2 _ _ ?_
  refine wp_seq_k (fun K4 k4 => ?_)
  refine wp_seq_k (fun K5 k5 => ?_)
  refine gs [.det (RV a), .det (.bool true), .det (.bool false), .det (.bool false), .det (RV b), .det (.bool false), .det (.bool true), .det (.bool true), .det (.bool true), .det undef, .det undef, .det undef, .det (.bool true)] [0, 1, 2, 3, 4, 5, 6, 7, 8, 9, 10, 11, 12] [0, 1, 3, 7, 15, 31, 63, 127, 255, 511, 1023, 2047, 4095] (fun L => [RV a, RV b, .int .u64 ((n : Nat) : Int), .bool out, .bool same, RV k, pt (L0.b 0) 0, pt (L0.b 1) 0, undef, undef, undef, pt (L0.b 2) 0, .bool false, undef, undef, .bool true, .bool false, RV a, .bool true, .bool false, .bool false, RV b, .bool false, .bool true, .bool true, .bool true, undef, undef, undef, .bool true] ++ U 51) (fun L => [((L0.b 0), RC a), ((L0.b 1), RC b), ((L0.b 2), RC k)]) hp2 ⟨
    oL 0 0 rR, oH (v := .bool true) (vs := #[RV a]) (fun w _ _ => by have h := mayR ha6 w; rw [decide_eq_true ha] at h; exact h), oN, oM, oL 1 0 rR, oH (v := .bool false) (vs := #[RV b]) (fun w _ _ => by have h := mayR hb6 w; rw [decide_eq_false hb] at h; exact h),
    oN, oP, oM, oS, oS, oS, oP,
    trivial⟩ (fun L2 w3 hp3 => ?_)
  refine k5 _ _ ?_
  refine wp_cond_true (by kernel_rfl) ?_
  refine wp_seq_k (fun K6 k6 => ?_)
  refine gs [.det (.bool true)] [0] [0] (fun L => [RV a, RV b, .int .u64 ((n : Nat) : Int), .bool out, .bool same, RV k, pt (L0.b 0) 0, pt (L0.b 1) 0, undef, undef, undef, pt (L0.b 2) 0, .bool true, undef, undef, .bool true, .bool false, RV a, .bool true, .bool false, .bool false, RV b, .bool false, .bool true, .bool true, .bool true, undef, undef, undef, .bool true] ++ U 51) (fun L => [((L0.b 0), RC a), ((L0.b 1), RC b), ((L0.b 2), RC k)]) hp3 ⟨
    oA,
    trivial⟩ (fun L3 w4 hp4 => ?_)
  refine k6 _ _ ?_
  refine wp_ret ?_
  refine bodyPost_ret (v := .bool true) ?_ rfl ?_
  · exact res_t rfl (by kernel_rfl) _
  · exact ⟨rfl, hp4.bel⟩
set_option maxHeartbeats 4000000 in
theorem all2 {G : World → Prop} (K : FpK G) (R : RefK) (g : Pt F2) (a b n k : Nat) (out same : Bool) (w : World) (hg : G w) (hgn : g = gen2) (hB : ∀ w, G w → Calls Tryd.prog 9 #[] w (Ret (.bool true) w)) (ha6 : a < 2 ^ 256) (hb6 : b < 2 ^ 256) (hk6 : k < 2 ^ 256) (ha : a < ordR) (hb : b < ordR) (hk : ¬ k < ordR) : Calls Tryd.prog 3 #[RV a, RV b, .int .u64 ((n : Nat) : Int), .bool out, .bool same, RV k] w (Ret (.bool true) w) := by
  have hp0 := Heap.start w
  go_enter Tryd.func3, Tryd.ntmps3
  refine wp_seq_k (fun K1 k1 => ?_)
  refine gs [.alloc (RC a), .alloc (RC b), .alloc (RC k), .det (.bool false)] [0, 1, 2, 3] [0, 0, 0, 0] (fun L => [RV a, RV b, .int .u64 ((n : Nat) : Int), .bool out, .bool same, RV k, pt (L.b 0) 0, pt (L.b 1) 0, undef, undef, undef, pt (L.b 2) 0, .bool false] ++ U 68) (fun L => [(L.b 0, RC a), (L.b 1, RC b), (L.b 2, RC k)]) hp0 ⟨
    oB, oB, oB, oA,
    trivial⟩ (fun L0 w1 hp1 => ?_)
  refine k1 _ _ ?_
  refine wp_seq_k (fun K2 k2 => ?_)
  refine wp_seq_k (fun K3 k3 => ?_)
  refine gs [.det (.bool true), .det (.bool false)] [0, 1] [0, 1] (fun L => [RV a, RV b, .int .u64 ((n : Nat) : Int), .bool out, .bool same, RV k, pt (L0.b 0) 0, pt (L0.b 1) 0, undef, undef, undef, pt (L0.b 2) 0, .bool false, undef, undef, .bool true, .bool false] ++ U 64) (fun L => [((L0.b 0), RC a), ((L0.b 1), RC b), ((L0.b 2), RC k)]) hp1 ⟨
    oC K.stay hg hB, oN,
    trivial⟩ (fun L1 w2 hp2 => ?_)
  refine k3 _ _ ?_
  refine wp_cond_false (by kernel_rfl) ?_
  refine skips ?_
  refine k2 _ _ ?_
  refine wp_seq_k (fun K4 k4 => ?_)
  refine wp_seq_k (fun K5 k5 => ?_)
  refine gs [.det (RV a), .det (.bool true), .det (.bool false), .det (.bool false), .det (RV b), .det (.bool true), .det (.bool false), .det (.bool false), .det (.bool false), .det (RV k), .det (.bool false), .det (.bool true), .det (.bool true)] [0, 1, 2, 3, 4, 5, 6, 7, 8, 9, 10, 11, 12] [0, 1, 3, 7, 15, 31, 63, 127, 255, 511, 1023, 2047, 4095] (fun L => [RV a, RV b, .int .u64 ((n : Nat) : Int), .bool out, .bool same, RV k, pt (L0.b 0) 0, pt (L0.b 1) 0, undef, undef, undef, pt (L0.b 2) 0, .bool false, undef, undef, .bool true, .bool false, RV a, .bool true, .bool false, .bool false, RV b, .bool true, .bool false, .bool false, .bool false, RV k, .bool false, .bool true, .bool true] ++ U 51) (fun L => [((L0.b 0), RC a), ((L0.b 1), RC b), ((L0.b 2), RC k)]) hp2 ⟨
    oL 0 0 rR, oH (v := .bool true) (vs := #[RV a]) (fun w _ _ => by have h := mayR ha6 w; rw [decide_eq_true ha] at h; exact h), oN, oM, oL 1 0 rR, oH (v := .bool true) (vs := #[RV b]) (fun w _ _ => by have h := mayR hb6 w; rw [decide_eq_true hb] at h; exact h),
    oN, oP, oM, oL 2 0 rR, oH (v := .bool false) (vs := #[RV k]) (fun w _ _ => by have h := mayR hk6 w; rw [decide_eq_false hk] at h; exact h), oN, oP,
    trivial⟩ (fun L2 w3 hp3 => ?_)
  refine k5 _ _ ?_
  refine wp_cond_true (by kernel_rfl) ?_
  refine wp_seq_k (fun K6 k6 => ?_)
  refine gs [.det (.bool true)] [0] [0] (fun L => [RV a, RV b, .int .u64 ((n : Nat) : Int), .bool out, .bool same, RV k, pt (L0.b 0) 0, pt (L0.b 1) 0, undef, undef, undef, pt (L0.b 2) 0, .bool true, undef, undef, .bool true, .bool false, RV a, .bool true, .bool false, .bool false, RV b, .bool true, .bool false, .bool false, .bool false, RV k, .bool false, .bool true, .bool true] ++ U 51) (fun L => [((L0.b 0), RC a), ((L0.b 1), RC b), ((L0.b 2), RC k)]) hp3 ⟨
    oA,
    trivial⟩ (fun L3 w4 hp4 => ?_)
  refine k6 _ _ ?_
  refine wp_ret ?_
  refine bodyPost_ret (v := .bool true) ?_ rfl ?_
  · exact res_t rfl (by kernel_rfl) _
  · exact ⟨rfl, hp4.bel⟩
set_option maxHeartbeats 4000000 in
theorem all_true {G : World → Prop} (K : FpK G) (R : RefK) (g P Q : Pt F2) (a b n k : Nat) (out : Bool) (w : World) (hg : G w) (hgn : g = gen2) (hB : ∀ w, G w → Calls Tryd.prog 9 #[] w (Ret (.bool true) w)) (ha6 : a < 2 ^ 256) (hb6 : b < 2 ^ 256) (hk6 : k < 2 ^ 256) (ha : a < ordR) (hb : b < ordR) (hk : k < ordR) (hn : n < 18446744073709551616) (hP : On b2 P) (hQ : On b2 Q) (hp : ∀ w, Calls Tryd.prog 11 #[RV a, .int .u64 ((n : Nat) : Int), .bool out] w (Ret (GV (gp P)) w)) (hq : ∀ w, Calls Tryd.prog 11 #[RV b, .int .u64 ((n / 7 : Nat) : Int), .bool false] w (Ret (GV (gp Q)) w)) : Calls Tryd.prog 3 #[RV a, RV b, .int .u64 ((n : Nat) : Int), .bool out, .bool true, RV k] w (Ret (.bool true) w) := by
  have hp0 := Heap.start w
  go_enter Tryd.func3, Tryd.ntmps3
  refine wp_seq_k (fun K1 k1 => ?_)
  refine gs [.alloc (RC a), .alloc (RC b), .alloc (RC k), .det (.bool false)] [0, 1, 2, 3] [0, 0, 0, 0] (fun L => [RV a, RV b, .int .u64 ((n : Nat) : Int), .bool out, .bool true, RV k, pt (L.b 0) 0, pt (L.b 1) 0, undef, undef, undef, pt (L.b 2) 0, .bool false] ++ U 68) (fun L => [(L.b 0, RC a), (L.b 1, RC b), (L.b 2, RC k)]) hp0 ⟨
    oB, oB, oB, oA,
    trivial⟩ (fun L0 w1 hp1 => ?_)
  refine k1 _ _ ?_
  refine wp_seq_k (fun K2 k2 => ?_)
  refine wp_seq_k (fun K3 k3 => ?_)
  refine gs [.det (.bool true), .det (.bool false)] [0, 1] [0, 1] (fun L => [RV a, RV b, .int .u64 ((n : Nat) : Int), .bool out, .bool true, RV k, pt (L0.b 0) 0, pt (L0.b 1) 0, undef, undef, undef, pt (L0.b 2) 0, .bool false, undef, undef, .bool true, .bool false] ++ U 64) (fun L => [((L0.b 0), RC a), ((L0.b 1), RC b), ((L0.b 2), RC k)]) hp1 ⟨
    oC K.stay hg hB, oN,
    trivial⟩ (fun L1 w2 hp2 => ?_)
  refine k3 _ _ ?_
  refine wp_cond_false (by kernel_rfl) ?_
  refine skips ?_
  refine k2 _ _ ?_
  refine wp_seq_k (fun K4 k4 => ?_)
  refine wp_seq_k (fun K5 k5 => ?_)
  refine gs [.det (RV a), .det (.bool true), .det (.bool false), .det (.bool false), .det (RV b), .det (.bool true), .det (.bool false), .det (.bool false), .det (.bool false), .det (RV k), .det (.bool true), .det (.bool false), .det (.bool false)] [0, 1, 2, 3, 4, 5, 6, 7, 8, 9, 10, 11, 12] [0, 1, 3, 7, 15, 31, 63, 127, 255, 511, 1023, 2047, 4095] (fun L => [RV a, RV b, .int .u64 ((n : Nat) : Int), .bool out, .bool true, RV k, pt (L0.b 0) 0, pt (L0.b 1) 0, undef, undef, undef, pt (L0.b 2) 0, .bool false, undef, undef, .bool true, .bool false, RV a, .bool true, .bool false, .bool false, RV b, .bool true, .bool false, .bool false, .bool false, RV k, .bool true, .bool false, .bool false] ++ U 51) (fun L => [((L0.b 0), RC a), ((L0.b 1), RC b), ((L0.b 2), RC k)]) hp2 ⟨
    oL 0 0 rR, oH (v := .bool true) (vs := #[RV a]) (fun w _ _ => by have h := mayR ha6 w; rw [decide_eq_true ha] at h; exact h), oN, oM, oL 1 0 rR, oH (v := .bool true) (vs := #[RV b]) (fun w _ _ => by have h := mayR hb6 w; rw [decide_eq_true hb] at h; exact h),
    oN, oP, oM, oL 2 0 rR, oH (v := .bool true) (vs := #[RV k]) (fun w _ _ => by have h := mayR hk6 w; rw [decide_eq_true hk] at h; exact h), oN, oP,
    trivial⟩ (fun L2 w3 hp3 => ?_)
  refine k5 _ _ ?_
  refine wp_cond_false (by kernel_rfl) ?_
  refine skips ?_
  refine k4 _ _ ?_
  refine wp_seq_k (fun K6 k6 => ?_)
  refine dr [.det (RV a), .det (.int .u64 ((n : Nat) : Int)), .det (.bool out), .det (GV (gp P)), .det (RV b), .det (.int .u64 ((n : Nat) : Int)), .det (.int .u64 ((n / 7 : Nat) : Int)), .det (GV (gp Q)), .alloc (GC ⟨0, 0, false⟩), .alloc (GC ⟨0, 0, false⟩), .store (.new 8) 0 (GC (gp P)) (GC (gp P)), .store (.new 9) 0 (GC (gp Q)) (GC (gp Q))] [0, 1, 2, 3, 4, 5, 6, 7, 8, 9, 10, 11] [0, 0, 0, 7, 0, 0, 32, 127, 0, 0, 1023, 2047] (fun L => [RV a, RV b, .int .u64 ((n : Nat) : Int), .bool out, .bool true, RV k, pt (L0.b 0) 0, pt (L0.b 1) 0, undef, undef, undef, pt (L0.b 2) 0, .bool false, pt (L.b 8) 0, pt (L.b 9) 0, .bool true, .bool false, RV a, .bool true, .bool false, .bool false, RV b, .bool true, .bool false, .bool false, .bool false, RV k, .bool true, .bool false, .bool false, RV a, .int .u64 ((n : Nat) : Int), .bool out, GV (gp P), RV b, .int .u64 ((n : Nat) : Int), .int .u64 ((n / 7 : Nat) : Int), GV (gp Q)] ++ U 43) (fun L => [((L0.b 0), RC a), ((L0.b 1), RC b), ((L0.b 2), RC k), (L.b 8, GC (gp P)), (L.b 9, GC (gp Q))]) hp3 ⟨
    oL 0 0 rR, oM, oM, oR hp, oL 1 0 rR, oM, oJ .u64 .u64 ((n : Nat) : Int) 7 (h := fun w => quoU _ n 7 (n / 7) (by decide) hn rfl w), oR hq, oZ rG, oZ rG, oT rG,
    oT rG,
    trivial⟩ (fun L3 w4 hp4 => ?_)
  refine k6 _ _ ?_
  refine wp_seq_k (fun K7 k7 => ?_)
  refine wp_seq_k (fun K8 k8 => ?_)
  refine gs [.det (.bool true)] [0] [0] (fun L => [RV a, RV b, .int .u64 ((n : Nat) : Int), .bool out, .bool true, RV k, pt (L0.b 0) 0, pt (L0.b 1) 0, undef, undef, undef, pt (L0.b 2) 0, .bool false, pt (L3.b 8) 0, pt (L3.b 9) 0, .bool true, .bool false, RV a, .bool true, .bool false, .bool false, RV b, .bool true, .bool false, .bool false, .bool false, RV k, .bool true, .bool false, .bool false, RV a, .int .u64 ((n : Nat) : Int), .bool out, GV (gp P), RV b, .int .u64 ((n : Nat) : Int), .int .u64 ((n / 7 : Nat) : Int), GV (gp Q), .bool true] ++ U 42) (fun L => [((L0.b 0), RC a), ((L0.b 1), RC b), ((L0.b 2), RC k), ((L3.b 8), GC (gp P)), ((L3.b 9), GC (gp Q))]) hp4 ⟨
    oM,
    trivial⟩ (fun L4 w5 hp5 => ?_)
  refine k8 _ _ ?_
  refine wp_cond_true (by kernel_rfl) ?_
  refine gs [.det (GV (gp P)), .store (.base 4) 0 (GC (gp P)) (GC (gp P))] [0, 1] [0, 1] (fun L => [RV a, RV b, .int .u64 ((n : Nat) : Int), .bool out, .bool true, RV k, pt (L0.b 0) 0, pt (L0.b 1) 0, undef, undef, undef, pt (L0.b 2) 0, .bool false, pt (L3.b 8) 0, pt (L3.b 9) 0, .bool true, .bool false, RV a, .bool true, .bool false, .bool false, RV b, .bool true, .bool false, .bool false, .bool false, RV k, .bool true, .bool false, .bool false, RV a, .int .u64 ((n : Nat) : Int), .bool out, GV (gp P), RV b, .int .u64 ((n : Nat) : Int), .int .u64 ((n / 7 : Nat) : Int), GV (gp Q), .bool true, GV (gp P)] ++ U 41) (fun L => [((L0.b 0), RC a), ((L0.b 1), RC b), ((L0.b 2), RC k), ((L3.b 8), GC (gp P)), ((L3.b 9), GC (gp P))]) hp5 ⟨
    oL 3 0 rG, oT rG,
    trivial⟩ (fun L5 w6 hp6 => ?_)
  refine k7 _ _ ?_
  refine wp_seq_k (fun K9 k9 => ?_)
  refine dr [.det (GV (gp P)), .det (GV (gp P)), .det (GV (gp (add F2.inv P P))), .det (GV (gp P)), .det (GV (gp P)), .det (GV (gp (add F2.inv P P))), .det (.bool true), .det (.bool true), .det (GV (gp P)), .det (GV (gp (neg P))), .det (GV (gp P)), .det (GV (gp (neg P))), .det (.bool true), .det (.bool true), .det (.bool true), .det (GV (gp P)), .det (RV k), .det (GV (gp (mul F2.inv k P))), .det (GV (gp P)), .det (RV k), .det (GV (gp (mul F2.inv k P))), .det (.bool true), .det (.bool true), .det (.bool true), .det (GV (gp P)), .det (GV (gp P)), .det (.bool true), .det (GV (gp P)), .det (GV (gp P)), .det (.bool true), .det (.bool true), .det (.bool true), .det (.bool true), .det (GV (gp P)), .det (GV (gp P)), .det (.bool true), .det (.bool true), .det (.bool true), .det (GV (gp P)), .det (.bool true), .det (.bool true), .det (.bool true)] [0, 1, 2, 3, 4, 5, 6, 7, 8, 9, 10, 11, 12, 13, 14, 15, 16, 17, 18, 19, 20, 21, 22, 23, 24, 25, 26, 27, 28, 29, 30, 31, 32, 33, 34, 35, 36, 37, 38, 39, 40, 41] [0, 0, 3, 0, 0, 31, 63, 127, 255, 511, 255, 2047, 4095, 8191, 16383, 32767, 32767, 131071, 32767, 32767, 1048575, 2097151, 4194303, 8388607, 16777215, 16777215, 67108863, 16777215, 16777215, 419430399, 1073741823, 2147483647, 4294967295, 8589934591, 8589934591, 34359738367, 68719476735, 137438953471, 274877906943, 549755813887, 1099511627775, 2199023255551] (fun L => [RV a, RV b, .int .u64 ((n : Nat) : Int), .bool out, .bool true, RV k, pt (L0.b 0) 0, pt (L0.b 1) 0, undef, undef, undef, pt (L0.b 2) 0, .bool true, pt (L3.b 8) 0, pt (L3.b 9) 0, .bool true, .bool false, RV a, .bool true, .bool false, .bool false, RV b, .bool true, .bool false, .bool false, .bool false, RV k, .bool true, .bool false, .bool false, RV a, .int .u64 ((n : Nat) : Int), .bool out, GV (gp P), RV b, .int .u64 ((n : Nat) : Int), .int .u64 ((n / 7 : Nat) : Int), GV (gp Q), .bool true, GV (gp P), GV (gp P), GV (gp P), GV (gp (add F2.inv P P)), GV (gp P), GV (gp P), GV (gp (add F2.inv P P)), .bool true, .bool true, GV (gp P), GV (gp (neg P)), GV (gp P), GV (gp (neg P)), .bool true, .bool true, .bool true, GV (gp P), RV k, GV (gp (mul F2.inv k P)), GV (gp P), RV k, GV (gp (mul F2.inv k P)), .bool true, .bool true, .bool true, GV (gp P), GV (gp P), .bool true, GV (gp P), GV (gp P), .bool true, .bool true, .bool true, .bool true, GV (gp P), GV (gp P), .bool true, .bool true, .bool true, GV (gp P), .bool true, .bool true]) (fun L => [((L0.b 0), RC a), ((L0.b 1), RC b), ((L0.b 2), RC k), ((L3.b 8), GC (gp P)), ((L3.b 9), GC (gp P))]) hp6 ⟨
    oL 3 0 rG, oL 4 0 rG, oH (v := GV (gp (add F2.inv P P))) (vs := #[GV (gp P), GV (gp P)]) (fun w hb _ => g2Add K P P w (K.stay hg hb) hP hP), oL 3 0 rG, oL 4 0 rG,
    oH (v := GV (gp (add F2.inv P P))) (vs := #[GV (gp P), GV (gp P)]) (fun w _ _ => ref5Plus1 R P P w hP hP), oE (a := (gp (add F2.inv P P))) (b := (gp (add F2.inv P P))) qG (yes rfl),
    oM, oL 3 0 rG, oC K.stay hg (g2Neg K P), oL 3 0 rG, oR (ref5Minus1 R P), oE (a := (gp (neg P))) (b := (gp (neg P))) qG (yes rfl), oP, oM, oL 3 0 rG, oL 2 0 rR,
    oH (v := GV (gp (mul F2.inv k P))) (vs := #[GV (gp P), RV k]) (fun w hb _ => g2Mul K P k w (K.stay hg hb) hP hk6), oL 3 0 rG, oL 2 0 rR, oH (v := GV (gp (mul F2.inv k P))) (vs := #[GV (gp P), RV k]) (fun w _ _ => ref5Times1 R P k w hP hk6),
    oE (a := (gp (mul F2.inv k P))) (b := (gp (mul F2.inv k P))) qG (yes rfl), oP, oM, oL 3 0 rG, oL 4 0 rG, oH (v := .bool true) (vs := #[GV (gp P), GV (gp P)]) (fun w hb _ => by have h := g2Equal K P P w (K.stay hg hb); rw [decide_eq_true (show P = P from rfl)] at h; exact h),
    oL 3 0 rG, oL 4 0 rG, oE (a := (gp P)) (b := (gp P)) qG (yes rfl), oE (a := true) (b := true) qB (yes rfl), oP, oM, oL 3 0 rG, oL 3 0 rG, oH (v := .bool true) (vs := #[GV (gp P), GV (gp P)]) (fun w hb _ => by have h := g2Equal K P P w (K.stay hg hb); rw [decide_eq_true (show P = P from rfl)] at h; exact h),
    oP, oM, oL 3 0 rG, oH (v := .bool true) (vs := #[GV (gp P)]) (fun w hb _ => g2On K P w (K.stay hg hb) hP), oP, oA,
    trivial⟩ (fun L6 w7 hp7 => ?_)
  refine k9 _ _ ?_
  refine wp_ret ?_
  refine bodyPost_ret (v := .bool true) ?_ rfl ?_
  · exact res_t rfl (by kernel_rfl) _
  · exact ⟨rfl, hp7.bel⟩
set_option maxHeartbeats 4000000 in
theorem all_false {G : World → Prop} (K : FpK G) (R : RefK) (g P Q : Pt F2) (a b n k : Nat) (out : Bool) (w : World) (hg : G w) (hgn : g = gen2) (hB : ∀ w, G w → Calls Tryd.prog 9 #[] w (Ret (.bool true) w)) (ha6 : a < 2 ^ 256) (hb6 : b < 2 ^ 256) (hk6 : k < 2 ^ 256) (ha : a < ordR) (hb : b < ordR) (hk : k < ordR) (hn : n < 18446744073709551616) (hP : On b2 P) (hQ : On b2 Q) (hp : ∀ w, Calls Tryd.prog 11 #[RV a, .int .u64 ((n : Nat) : Int), .bool out] w (Ret (GV (gp P)) w)) (hq : ∀ w, Calls Tryd.prog 11 #[RV b, .int .u64 ((n / 7 : Nat) : Int), .bool false] w (Ret (GV (gp Q)) w)) : Calls Tryd.prog 3 #[RV a, RV b, .int .u64 ((n : Nat) : Int), .bool out, .bool false, RV k] w (Ret (.bool true) w) := by
  have hp0 := Heap.start w
  go_enter Tryd.func3, Tryd.ntmps3
  refine wp_seq_k (fun K1 k1 => ?_)
  refine gs [.alloc (RC a), .alloc (RC b), .alloc (RC k), .det (.bool false)] [0, 1, 2, 3] [0, 0, 0, 0] (fun L => [RV a, RV b, .int .u64 ((n : Nat) : Int), .bool out, .bool false, RV k, pt (L.b 0) 0, pt (L.b 1) 0, undef, undef, undef, pt (L.b 2) 0, .bool false] ++ U 68) (fun L => [(L.b 0, RC a), (L.b 1, RC b), (L.b 2, RC k)]) hp0 ⟨
    oB, oB, oB, oA,
    trivial⟩ (fun L0 w1 hp1 => ?_)
  refine k1 _ _ ?_
  refine wp_seq_k (fun K2 k2 => ?_)
  refine wp_seq_k (fun K3 k3 => ?_)
  refine gs [.det (.bool true), .det (.bool false)] [0, 1] [0, 1] (fun L => [RV a, RV b, .int .u64 ((n : Nat) : Int), .bool out, .bool false, RV k, pt (L0.b 0) 0, pt (L0.b 1) 0, undef, undef, undef, pt (L0.b 2) 0, .bool false, undef, undef, .bool true, .bool false] ++ U 64) (fun L => [((L0.b 0), RC a), ((L0.b 1), RC b), ((L0.b 2), RC k)]) hp1 ⟨
    oC K.stay hg hB, oN,
    trivial⟩ (fun L1 w2 hp2 => ?_)
  refine k3 _ _ ?_
  refine wp_cond_false (by kernel_rfl) ?_
  refine skips ?_
  refine k2 _ _ ?_
  refine wp_seq_k (fun K4 k4 => ?_)
  refine wp_seq_k (fun K5 k5 => ?_)
  refine gs [.det (RV a), .det (.bool true), .det (.bool false), .det (.bool false), .det (RV b), .det (.bool true), .det (.bool false), .det (.bool false), .det (.bool false), .det (RV k), .det (.bool true), .det (.bool false), .det (.bool false)] [0, 1, 2, 3, 4, 5, 6, 7, 8, 9, 10, 11, 12] [0, 1, 3, 7, 15, 31, 63, 127, 255, 511, 1023, 2047, 4095] (fun L => [RV a, RV b, .int .u64 ((n : Nat) : Int), .bool out, .bool false, RV k, pt (L0.b 0) 0, pt (L0.b 1) 0, undef, undef, undef, pt (L0.b 2) 0, .bool false, undef, undef, .bool true, .bool false, RV a, .bool true, .bool false, .bool false, RV b, .bool true, .bool false, .bool false, .bool false, RV k, .bool true, .bool false, .bool false] ++ U 51) (fun L => [((L0.b 0), RC a), ((L0.b 1), RC b), ((L0.b 2), RC k)]) hp2 ⟨
    oL 0 0 rR, oH (v := .bool true) (vs := #[RV a]) (fun w _ _ => by have h := mayR ha6 w; rw [decide_eq_true ha] at h; exact h), oN, oM, oL 1 0 rR, oH (v := .bool true) (vs := #[RV b]) (fun w _ _ => by have h := mayR hb6 w; rw [decide_eq_true hb] at h; exact h),
    oN, oP, oM, oL 2 0 rR, oH (v := .bool true) (vs := #[RV k]) (fun w _ _ => by have h := mayR hk6 w; rw [decide_eq_true hk] at h; exact h), oN, oP,
    trivial⟩ (fun L2 w3 hp3 => ?_)
  refine k5 _ _ ?_
  refine wp_cond_false (by kernel_rfl) ?_
  refine skips ?_
  refine k4 _ _ ?_
  refine wp_seq_k (fun K6 k6 => ?_)
  refine dr [.det (RV a), .det (.int .u64 ((n : Nat) : Int)), .det (.bool out), .det (GV (gp P)), .det (RV b), .det (.int .u64 ((n : Nat) : Int)), .det (.int .u64 ((n / 7 : Nat) : Int)), .det (GV (gp Q)), .alloc (GC ⟨0, 0, false⟩), .alloc (GC ⟨0, 0, false⟩), .store (.new 8) 0 (GC (gp P)) (GC (gp P)), .store (.new 9) 0 (GC (gp Q)) (GC (gp Q))] [0, 1, 2, 3, 4, 5, 6, 7, 8, 9, 10, 11] [0, 0, 0, 7, 0, 0, 32, 127, 0, 0, 1023, 2047] (fun L => [RV a, RV b, .int .u64 ((n : Nat) : Int), .bool out, .bool false, RV k, pt (L0.b 0) 0, pt (L0.b 1) 0, undef, undef, undef, pt (L0.b 2) 0, .bool false, pt (L.b 8) 0, pt (L.b 9) 0, .bool true, .bool false, RV a, .bool true, .bool false, .bool false, RV b, .bool true, .bool false, .bool false, .bool false, RV k, .bool true, .bool false, .bool false, RV a, .int .u64 ((n : Nat) : Int), .bool out, GV (gp P), RV b, .int .u64 ((n : Nat) : Int), .int .u64 ((n / 7 : Nat) : Int), GV (gp Q)] ++ U 43) (fun L => [((L0.b 0), RC a), ((L0.b 1), RC b), ((L0.b 2), RC k), (L.b 8, GC (gp P)), (L.b 9, GC (gp Q))]) hp3 ⟨
    oL 0 0 rR, oM, oM, oR hp, oL 1 0 rR, oM, oJ .u64 .u64 ((n : Nat) : Int) 7 (h := fun w => quoU _ n 7 (n / 7) (by decide) hn rfl w), oR hq, oZ rG, oZ rG, oT rG,
    oT rG,
    trivial⟩ (fun L3 w4 hp4 => ?_)
  refine k6 _ _ ?_
  refine wp_seq_k (fun K7 k7 => ?_)
  refine wp_seq_k (fun K8 k8 => ?_)
  refine gs [.det (.bool false)] [0] [0] (fun L => [RV a, RV b, .int .u64 ((n : Nat) : Int), .bool out, .bool false, RV k, pt (L0.b 0) 0, pt (L0.b 1) 0, undef, undef, undef, pt (L0.b 2) 0, .bool false, pt (L3.b 8) 0, pt (L3.b 9) 0, .bool true, .bool false, RV a, .bool true, .bool false, .bool false, RV b, .bool true, .bool false, .bool false, .bool false, RV k, .bool true, .bool false, .bool false, RV a, .int .u64 ((n : Nat) : Int), .bool out, GV (gp P), RV b, .int .u64 ((n : Nat) : Int), .int .u64 ((n / 7 : Nat) : Int), GV (gp Q), .bool false] ++ U 42) (fun L => [((L0.b 0), RC a), ((L0.b 1), RC b), ((L0.b 2), RC k), ((L3.b 8), GC (gp P)), ((L3.b 9), GC (gp Q))]) hp4 ⟨
    oM,
    trivial⟩ (fun L4 w5 hp5 => ?_)
  refine k8 _ _ ?_
  refine wp_cond_false (by kernel_rfl) ?_
  refine skips ?_
  refine k7 _ _ ?_
  refine wp_seq_k (fun K9 k9 => ?_)
  refine dr [.det (GV (gp P)), .det (GV (gp Q)), .det (GV (gp (add F2.inv P Q))), .det (GV (gp P)), .det (GV (gp Q)), .det (GV (gp (add F2.inv P Q))), .det (.bool true), .det (.bool true), .det (GV (gp P)), .det (GV (gp (neg P))), .det (GV (gp P)), .det (GV (gp (neg P))), .det (.bool true), .det (.bool true), .det (.bool true), .det (GV (gp P)), .det (RV k), .det (GV (gp (mul F2.inv k P))), .det (GV (gp P)), .det (RV k), .det (GV (gp (mul F2.inv k P))), .det (.bool true), .det (.bool true), .det (.bool true), .det (GV (gp P)), .det (GV (gp Q)), .det (.bool (decide (P = Q))), .det (GV (gp P)), .det (GV (gp Q)), .det (.bool (decide ((gp P) = (gp Q)))), .det (.bool true), .det (.bool true), .det (.bool true), .det (GV (gp P)), .det (GV (gp P)), .det (.bool true), .det (.bool true), .det (.bool true), .det (GV (gp P)), .det (.bool true), .det (.bool true), .det (.bool true)] [0, 1, 2, 3, 4, 5, 6, 7, 8, 9, 10, 11, 12, 13, 14, 15, 16, 17, 18, 19, 20, 21, 22, 23, 24, 25, 26, 27, 28, 29, 30, 31, 32, 33, 34, 35, 36, 37, 38, 39, 40, 41] [0, 0, 3, 0, 0, 31, 63, 127, 255, 511, 255, 2047, 4095, 8191, 16383, 32767, 32767, 131071, 32767, 32767, 1048575, 2097151, 4194303, 8388607, 16777215, 16777215, 67108863, 16777215, 16777215, 419430399, 1073741823, 2147483647, 4294967295, 8589934591, 8589934591, 34359738367, 68719476735, 137438953471, 274877906943, 549755813887, 1099511627775, 2199023255551] (fun L => [RV a, RV b, .int .u64 ((n : Nat) : Int), .bool out, .bool false, RV k, pt (L0.b 0) 0, pt (L0.b 1) 0, undef, undef, undef, pt (L0.b 2) 0, .bool true, pt (L3.b 8) 0, pt (L3.b 9) 0, .bool true, .bool false, RV a, .bool true, .bool false, .bool false, RV b, .bool true, .bool false, .bool false, .bool false, RV k, .bool true, .bool false, .bool false, RV a, .int .u64 ((n : Nat) : Int), .bool out, GV (gp P), RV b, .int .u64 ((n : Nat) : Int), .int .u64 ((n / 7 : Nat) : Int), GV (gp Q), .bool false, undef, GV (gp P), GV (gp Q), GV (gp (add F2.inv P Q)), GV (gp P), GV (gp Q), GV (gp (add F2.inv P Q)), .bool true, .bool true, GV (gp P), GV (gp (neg P)), GV (gp P), GV (gp (neg P)), .bool true, .bool true, .bool true, GV (gp P), RV k, GV (gp (mul F2.inv k P)), GV (gp P), RV k, GV (gp (mul F2.inv k P)), .bool true, .bool true, .bool true, GV (gp P), GV (gp Q), .bool (decide (P = Q)), GV (gp P), GV (gp Q), .bool (decide ((gp P) = (gp Q))), .bool true, .bool true, .bool true, GV (gp P), GV (gp P), .bool true, .bool true, .bool true, GV (gp P), .bool true, .bool true]) (fun L => [((L0.b 0), RC a), ((L0.b 1), RC b), ((L0.b 2), RC k), ((L3.b 8), GC (gp P)), ((L3.b 9), GC (gp Q))]) hp5 ⟨
    oL 3 0 rG, oL 4 0 rG, oH (v := GV (gp (add F2.inv P Q))) (vs := #[GV (gp P), GV (gp Q)]) (fun w hb _ => g2Add K P Q w (K.stay hg hb) hP hQ), oL 3 0 rG, oL 4 0 rG,
    oH (v := GV (gp (add F2.inv P Q))) (vs := #[GV (gp P), GV (gp Q)]) (fun w _ _ => ref5Plus1 R P Q w hP hQ), oE (a := (gp (add F2.inv P Q))) (b := (gp (add F2.inv P Q))) qG (yes rfl),
    oM, oL 3 0 rG, oC K.stay hg (g2Neg K P), oL 3 0 rG, oR (ref5Minus1 R P), oE (a := (gp (neg P))) (b := (gp (neg P))) qG (yes rfl), oP, oM, oL 3 0 rG, oL 2 0 rR,
    oH (v := GV (gp (mul F2.inv k P))) (vs := #[GV (gp P), RV k]) (fun w hb _ => g2Mul K P k w (K.stay hg hb) hP hk6), oL 3 0 rG, oL 2 0 rR, oH (v := GV (gp (mul F2.inv k P))) (vs := #[GV (gp P), RV k]) (fun w _ _ => ref5Times1 R P k w hP hk6),
    oE (a := (gp (mul F2.inv k P))) (b := (gp (mul F2.inv k P))) qG (yes rfl), oP, oM, oL 3 0 rG, oL 4 0 rG, oC K.stay hg (g2Equal K P Q), oL 3 0 rG, oL 4 0 rG,
    oE (a := (gp P)) (b := (gp Q)) qG rfl, oE (a := decide (P = Q)) (b := decide ((gp P) = (gp Q))) qB (yes (decide_gp P Q)), oP, oM, oL 3 0 rG, oL 3 0 rG, oH (v := .bool true) (vs := #[GV (gp P), GV (gp P)]) (fun w hb _ => by have h := g2Equal K P P w (K.stay hg hb); rw [decide_eq_true (show P = P from rfl)] at h; exact h),
    oP, oM, oL 3 0 rG, oH (v := .bool true) (vs := #[GV (gp P)]) (fun w hb _ => g2On K P w (K.stay hg hb) hP), oP, oA,
    trivial⟩ (fun L5 w6 hp6 => ?_)
  refine k9 _ _ ?_
  refine wp_ret ?_
  refine bodyPost_ret (v := .bool true) ?_ rfl ?_
  · exact res_t rfl (by kernel_rfl) _
  · exact ⟨rfl, hp6.bel⟩
theorem g2All_walk {G : World → Prop} (K : FpK G) (R : RefK) (a b n k : Nat) (out same : Bool) (ha6 : a < 2 ^ 256) (hb6 : b < 2 ^ 256) (hk6 : k < 2 ^ 256) (hn : n < 18446744073709551616) (w : World) (hg : G w) :
    Calls Tryd.prog 3 #[RV a, RV b, .int .u64 ((n : Nat) : Int), .bool out, .bool same, RV k] w (Ret (.bool true) w) := by
  have hB := fun w hg => begun9 K R w hg
  by_cases ha : a < ordR
  · by_cases hb : b < ordR
    · by_cases hk : k < ordR
      · obtain ⟨P, hP, hp⟩ := point_some R a n out ha6 hn
        obtain ⟨Q, hQ, hq⟩ := point_some R b (n / 7) false hb6 (Nat.lt_of_le_of_lt (Nat.div_le_self _ _) hn)
        cases same with
        | true => exact all_true K R gen2 P Q a b n k out w hg rfl hB ha6 hb6 hk6 ha hb hk hn hP hQ hp hq
        | false => exact all_false K R gen2 P Q a b n k out w hg rfl hB ha6 hb6 hk6 ha hb hk hn hP hQ hp hq
      · exact all2 K R gen2 a b n k out same w hg rfl hB ha6 hb6 hk6 ha hb hk
    · exact all1 K R gen2 a b n k out same w hg rfl hB ha6 hb6 hk6 ha hb
  · exact all0 K R gen2 a b n k out same w hg rfl hB ha6 hb6 hk6 ha
end Go.Proofs.YthehnlpgmkjefaaDoor.fpn.T2
