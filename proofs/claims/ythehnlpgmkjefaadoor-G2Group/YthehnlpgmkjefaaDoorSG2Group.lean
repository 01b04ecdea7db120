/- G2GroupWalk. -/
import Derived.Test.YthehnlpgmkjefaaDoorGS
import Derived.Test.YthehnlpgmkjefaaDoorGV
/- G2Group walked. -/
namespace Go.Proofs.YthehnlpgmkjefaaDoor.fpn.T2
open Go.RowKit Pl EC
set_option linter.unusedVariables false
set_option linter.unusedSimpArgs false
set_option maxRecDepth 4000

theorem in_mul {g : Pt F2} (hgn : g = gen2) (k : Nat) : mul F2.inv ordR (mul F2.inv k g) = .inf := by
  have hg := gen2_on' hgn
  rw [← mul_mul crv2 hg, Nat.mul_comm, mul_mul crv2 hg, gen2_in hgn, mul_inf]
theorem sumR {g : Pt F2} (hgn : g = gen2) (a b : Nat) : add F2.inv (mul F2.inv a g) (mul F2.inv b g) = mul F2.inv ((a + b) % ordR) g := by
  have hg := gen2_on' hgn
  rw [mul_order crv2 hg (gen2_in hgn), mul_add crv2 hg]
theorem mulRg {g : Pt F2} (hgn : g = gen2) (a b : Nat) : mul F2.inv b (mul F2.inv a g) = mul F2.inv ((a * b) % ordR) g := by
  have hg := gen2_on' hgn
  rw [mul_order crv2 hg (gen2_in hgn), mul_mul crv2 hg]
theorem not_on00 : decide ((0 : F2) * 0 = 0 * 0 * 0 + b2) = false := by decide +kernel
theorem g2OnZ {G : World → Prop} (K : FpK G) (w : World) (hg : G w) : Calls Tryd.prog 19 #[GV ⟨0, 0, false⟩] w (Ret (.bool false) w) := by
  have h := g2OnA K 0 0 w hg
  rw [not_on00] at h
  exact h
set_option maxHeartbeats 4000000 in
theorem grp0 {G : World → Prop} (K : FpK G) (R : RefK) (g P : Pt F2) (a b n : Nat) (out : Bool) (w : World) (hg : G w) (hgn : g = gen2) (hB : ∀ w, G w → Calls Tryd.prog 9 #[] w (Ret (.bool true) w)) (ha6 : a < 2 ^ 256) (hb6 : b < 2 ^ 256) (ha : ¬ a < ordR) : Calls Tryd.prog 6 #[RV a, RV b, .int .u64 ((n : Nat) : Int), .bool out] w (Ret (.bool true) w) := by
  have hp0 := Heap.start w
  go_enter Tryd.func6, Tryd.ntmps6
  refine wp_seq_k (fun K1 k1 => ?_)
  refine gs [.alloc (RC a), .alloc (RC b), .det (.bool false)] [0, 1, 2] [0, 0, 0] (fun L => [RV a, RV b, .int .u64 ((n : Nat) : Int), .bool out, pt (L.b 0) 0, pt (L.b 1) 0, undef, undef, .bool false] ++ U 110) (fun L => [(L.b 0, RC a), (L.b 1, RC b)]) hp0 ⟨
    oB, oB, oA,
    trivial⟩ (fun L0 w1 hp1 => ?_)
  refine k1 _ _ ?_
  refine wp_seq_k (fun K2 k2 => ?_)
  refine wp_seq_k (fun K3 k3 => ?_)
  refine gs [.det (.bool true), .det (.bool false)] [0, 1] [0, 1] (fun L => [RV a, RV b, .int .u64 ((n : Nat) : Int), .bool out, pt (L0.b 0) 0, pt (L0.b 1) 0, undef, undef, .bool false, undef, undef, undef, undef, undef, undef, .bool true, .bool false] ++ U 102) (fun L => [((L0.b 0), RC a), ((L0.b 1), RC b)]) hp1 ⟨
    oC K.stay hg hB, oN,
    trivial⟩ (fun L1 w2 hp2 => ?_)
  refine k3 _ _ ?_
  refine wp_cond_false (by kernel_rfl) ?_
  refine skips ?_
  refine k2 _ _ ?_
  refine wp_seq_k (fun K4 k4 => ?_)
  refine wp_seq_k (fun K5 k5 => ?_)
  refine gs [.det (RV a), .det (.bool false), .det (.bool true), .det (.bool true), .det undef, .det undef, .det undef, .det (.bool true)] [0, 1, 2, 3, 4, 5, 6, 7] [0, 1, 3, 7, 15, 31, 63, 127] (fun L => [RV a, RV b, .int .u64 ((n : Nat) : Int), .bool out, pt (L0.b 0) 0, pt (L0.b 1) 0, undef, undef, .bool false, undef, undef, undef, undef, undef, undef, .bool true, .bool false, RV a, .bool false, .bool true, .bool true, undef, undef, undef, .bool true] ++ U 94) (fun L => [((L0.b 0), RC a), ((L0.b 1), RC b)]) hp2 ⟨
    oL 0 0 rR, oH (v := .bool false) (vs := #[RV a]) (fun w _ _ => by have h := mayR ha6 w; rw [decide_eq_false ha] at h; exact h), oN, oM, oS, oS, oS, oP,
    trivial⟩ (fun L2 w3 hp3 => ?_)
  refine k5 _ _ ?_
  refine wp_cond_true (by kernel_rfl) ?_
  refine wp_seq_k (fun K6 k6 => ?_)
  refine gs [.det (.bool true)] [0] [0] (fun L => [RV a, RV b, .int .u64 ((n : Nat) : Int), .bool out, pt (L0.b 0) 0, pt (L0.b 1) 0, undef, undef, .bool true, undef, undef, undef, undef, undef, undef, .bool true, .bool false, RV a, .bool false, .bool true, .bool true, undef, undef, undef, .bool true] ++ U 94) (fun L => [((L0.b 0), RC a), ((L0.b 1), RC b)]) hp3 ⟨
    oA,
    trivial⟩ (fun L3 w4 hp4 => ?_)
  refine k6 _ _ ?_
  refine wp_ret ?_
  refine bodyPost_ret (v := .bool true) ?_ rfl ?_
  · exact res_t rfl (by kernel_rfl) _
  · exact ⟨rfl, hp4.bel⟩
set_option maxHeartbeats 4000000 in
theorem grp1 {G : World → Prop} (K : FpK G) (R : RefK) (g P : Pt F2) (a b n : Nat) (out : Bool) (w : World) (hg : G w) (hgn : g = gen2) (hB : ∀ w, G w → Calls Tryd.prog 9 #[] w (Ret (.bool true) w)) (ha6 : a < 2 ^ 256) (hb6 : b < 2 ^ 256) (ha : a < ordR) (hb : ¬ b < ordR) : Calls Tryd.prog 6 #[RV a, RV b, .int .u64 ((n : Nat) : Int), .bool out] w (Ret (.bool true) w) := by
  have hp0 := Heap.start w
  go_enter Tryd.func6, Tryd.ntmps6
  refine wp_seq_k (fun K1 k1 => ?_)
  refine gs [.alloc (RC a), .alloc (RC b), .det (.bool false)] [0, 1, 2] [0, 0, 0] (fun L => [RV a, RV b, .int .u64 ((n : Nat) : Int), .bool out, pt (L.b 0) 0, pt (L.b 1) 0, undef, undef, .bool false] ++ U 110) (fun L => [(L.b 0, RC a), (L.b 1, RC b)]) hp0 ⟨
    oB, oB, oA,
    trivial⟩ (fun L0 w1 hp1 => ?_)
  refine k1 _ _ ?_
  refine wp_seq_k (fun K2 k2 => ?_)
  refine wp_seq_k (fun K3 k3 => ?_)
  refine gs [.det (.bool true), .det (.bool false)] [0, 1] [0, 1] (fun L => [RV a, RV b, .int .u64 ((n : Nat) : Int), .bool out, pt (L0.b 0) 0, pt (L0.b 1) 0, undef, undef, .bool false, undef, undef, undef, undef, undef, undef, .bool true, .bool false] ++ U 102) (fun L => [((L0.b 0), RC a), ((L0.b 1), RC b)]) hp1 ⟨
    oC K.stay hg hB, oN,
    trivial⟩ (fun L1 w2 hp2 => ?_)
  refine k3 _ _ ?_
  refine wp_cond_false (by kernel_rfl) ?_
  refine skips ?_
  refine k2 _ _ ?_
  refine wp_seq_k (fun K4 k4 => ?_)
  refine wp_seq_k (fun K5 k5 => ?_)
  refine gs [.det (RV a), .det (.bool true), .det (.bool false), .det (.bool false), .det (RV b), .det (.bool false), .det (.bool true), .det (.bool true)] [0, 1, 2, 3, 4, 5, 6, 7] [0, 1, 3, 7, 15, 31, 63, 127] (fun L => [RV a, RV b, .int .u64 ((n : Nat) : Int), .bool out, pt (L0.b 0) 0, pt (L0.b 1) 0, undef, undef, .bool false, undef, undef, undef, undef, undef, undef, .bool true, .bool false, RV a, .bool true, .bool false, .bool false, RV b, .bool false, .bool true, .bool true] ++ U 94) (fun L => [((L0.b 0), RC a), ((L0.b 1), RC b)]) hp2 ⟨
    oL 0 0 rR, oH (v := .bool true) (vs := #[RV a]) (fun w _ _ => by have h := mayR ha6 w; rw [decide_eq_true ha] at h; exact h), oN, oM, oL 1 0 rR, oH (v := .bool false) (vs := #[RV b]) (fun w _ _ => by have h := mayR hb6 w; rw [decide_eq_false hb] at h; exact h),
    oN, oP,
    trivial⟩ (fun L2 w3 hp3 => ?_)
  refine k5 _ _ ?_
  refine wp_cond_true (by kernel_rfl) ?_
  refine wp_seq_k (fun K6 k6 => ?_)
  refine gs [.det (.bool true)] [0] [0] (fun L => [RV a, RV b, .int .u64 ((n : Nat) : Int), .bool out, pt (L0.b 0) 0, pt (L0.b 1) 0, undef, undef, .bool true, undef, undef, undef, undef, undef, undef, .bool true, .bool false, RV a, .bool true, .bool false, .bool false, RV b, .bool false, .bool true, .bool true] ++ U 94) (fun L => [((L0.b 0), RC a), ((L0.b 1), RC b)]) hp3 ⟨
    oA,
    trivial⟩ (fun L3 w4 hp4 => ?_)
  refine k6 _ _ ?_
  refine wp_ret ?_
  refine bodyPost_ret (v := .bool true) ?_ rfl ?_
  · exact res_t rfl (by kernel_rfl) _
  · exact ⟨rfl, hp4.bel⟩
set_option maxHeartbeats 4000000 in
theorem grpN {G : World → Prop} (K : FpK G) (R : RefK) (g P : Pt F2) (a b n : Nat) (w : World) (hg : G w) (hgn : g = gen2) (hB : ∀ w, G w → Calls Tryd.prog 9 #[] w (Ret (.bool true) w)) (ha6 : a < 2 ^ 256) (hb6 : b < 2 ^ 256) (ha : a < ordR) (hb : b < ordR) (hO : ∀ w, Calls Tryd.prog 25 #[.int .u64 ((n : Nat) : Int)] w (Ret (.tuple #[GV ⟨0, 0, false⟩, .bool false]) w)) : Calls Tryd.prog 6 #[RV a, RV b, .int .u64 ((n : Nat) : Int), .bool true] w (Ret (.bool true) w) := by
  have hp0 := Heap.start w
  go_enter Tryd.func6, Tryd.ntmps6
  refine wp_seq_k (fun K1 k1 => ?_)
  refine gs [.alloc (RC a), .alloc (RC b), .det (.bool false)] [0, 1, 2] [0, 0, 0] (fun L => [RV a, RV b, .int .u64 ((n : Nat) : Int), .bool true, pt (L.b 0) 0, pt (L.b 1) 0, undef, undef, .bool false] ++ U 110) (fun L => [(L.b 0, RC a), (L.b 1, RC b)]) hp0 ⟨
    oB, oB, oA,
    trivial⟩ (fun L0 w1 hp1 => ?_)
  refine k1 _ _ ?_
  refine wp_seq_k (fun K2 k2 => ?_)
  refine wp_seq_k (fun K3 k3 => ?_)
  refine gs [.det (.bool true), .det (.bool false)] [0, 1] [0, 1] (fun L => [RV a, RV b, .int .u64 ((n : Nat) : Int), .bool true, pt (L0.b 0) 0, pt (L0.b 1) 0, undef, undef, .bool false, undef, undef, undef, undef, undef, undef, .bool true, .bool false] ++ U 102) (fun L => [((L0.b 0), RC a), ((L0.b 1), RC b)]) hp1 ⟨
    oC K.stay hg hB, oN,
    trivial⟩ (fun L1 w2 hp2 => ?_)
  refine k3 _ _ ?_
  refine wp_cond_false (by kernel_rfl) ?_
  refine skips ?_
  refine k2 _ _ ?_
  refine wp_seq_k (fun K4 k4 => ?_)
  refine wp_seq_k (fun K5 k5 => ?_)
  refine gs [.det (RV a), .det (.bool true), .det (.bool false), .det (.bool false), .det (RV b), .det (.bool true), .det (.bool false), .det (.bool false)] [0, 1, 2, 3, 4, 5, 6, 7] [0, 1, 3, 7, 15, 31, 63, 127] (fun L => [RV a, RV b, .int .u64 ((n : Nat) : Int), .bool true, pt (L0.b 0) 0, pt (L0.b 1) 0, undef, undef, .bool false, undef, undef, undef, undef, undef, undef, .bool true, .bool false, RV a, .bool true, .bool false, .bool false, RV b, .bool true, .bool false, .bool false] ++ U 94) (fun L => [((L0.b 0), RC a), ((L0.b 1), RC b)]) hp2 ⟨
    oL 0 0 rR, oH (v := .bool true) (vs := #[RV a]) (fun w _ _ => by have h := mayR ha6 w; rw [decide_eq_true ha] at h; exact h), oN, oM, oL 1 0 rR, oH (v := .bool true) (vs := #[RV b]) (fun w _ _ => by have h := mayR hb6 w; rw [decide_eq_true hb] at h; exact h),
    oN, oP,
    trivial⟩ (fun L2 w3 hp3 => ?_)
  refine k5 _ _ ?_
  refine wp_cond_false (by kernel_rfl) ?_
  refine skips ?_
  refine k4 _ _ ?_
  refine wp_seq_k (fun K6 k6 => ?_)
  refine gs [.det (.int .u64 ((n : Nat) : Int)), .det (.tuple #[GV ⟨0, 0, false⟩, .bool false]), .det (.tuple #[GV ⟨0, 0, false⟩, .bool false]), .det (GV ⟨0, 0, false⟩), .det (.bool false), .alloc (GC ⟨0, 0, false⟩), .store (.new 5) 0 (GC ⟨0, 0, false⟩) (GC ⟨0, 0, false⟩), .det (.bool false)] [0, 1, 2, 3, 4, 5, 6, 7] [0, 1, 3, 7, 7, 0, 47, 127] (fun L => [RV a, RV b, .int .u64 ((n : Nat) : Int), .bool true, pt (L0.b 0) 0, pt (L0.b 1) 0, undef, undef, .bool false, pt (L.b 5) 0, .bool false, undef, undef, undef, undef, .bool true, .bool false, RV a, .bool true, .bool false, .bool false, RV b, .bool true, .bool false, .bool false, .tuple #[GV ⟨0, 0, false⟩, .bool false], .int .u64 ((n : Nat) : Int), .tuple #[GV ⟨0, 0, false⟩, .bool false], GV ⟨0, 0, false⟩, .bool false] ++ U 89) (fun L => [((L0.b 0), RC a), ((L0.b 1), RC b), (L.b 5, GC ⟨0, 0, false⟩)]) hp3 ⟨
    oM, oR hO, oM, oX, oX, oZ rG, oT rG, oA,
    trivial⟩ (fun L3 w4 hp4 => ?_)
  refine k6 _ _ ?_
  refine wp_seq_k (fun K7 k7 => ?_)
  refine wp_seq_k (fun K8 k8 => ?_)
  refine gs [.det (.bool true), .det (.bool false)] [0, 1] [0, 1] (fun L => [RV a, RV b, .int .u64 ((n : Nat) : Int), .bool true, pt (L0.b 0) 0, pt (L0.b 1) 0, undef, undef, .bool false, pt (L3.b 5) 0, .bool false, undef, undef, undef, undef, .bool true, .bool false, RV a, .bool true, .bool false, .bool false, RV b, .bool true, .bool false, .bool false, .tuple #[GV ⟨0, 0, false⟩, .bool false], .int .u64 ((n : Nat) : Int), .tuple #[GV ⟨0, 0, false⟩, .bool false], GV ⟨0, 0, false⟩, .bool false, .bool true, .bool false] ++ U 87) (fun L => [((L0.b 0), RC a), ((L0.b 1), RC b), ((L3.b 5), GC ⟨0, 0, false⟩)]) hp4 ⟨
    oM, oN,
    trivial⟩ (fun L4 w5 hp5 => ?_)
  refine k8 _ _ ?_
  refine wp_cond_false (by kernel_rfl) ?_
  refine skips ?_
  refine k7 _ _ ?_
  refine wp_seq_k (fun K9 k9 => ?_)
  refine wp_seq_k (fun K10 k10 => ?_)
  refine gs [.det (GV ⟨0, 0, false⟩), .det (.bool false), .det (.bool true)] [0, 1, 2] [0, 1, 3] (fun L => [RV a, RV b, .int .u64 ((n : Nat) : Int), .bool true, pt (L0.b 0) 0, pt (L0.b 1) 0, undef, undef, .bool false, pt (L3.b 5) 0, .bool false, undef, undef, undef, undef, .bool true, .bool false, RV a, .bool true, .bool false, .bool false, RV b, .bool true, .bool false, .bool false, .tuple #[GV ⟨0, 0, false⟩, .bool false], .int .u64 ((n : Nat) : Int), .tuple #[GV ⟨0, 0, false⟩, .bool false], GV ⟨0, 0, false⟩, .bool false, .bool true, .bool false, undef, undef, undef, GV ⟨0, 0, false⟩, .bool false, .bool true] ++ U 81) (fun L => [((L0.b 0), RC a), ((L0.b 1), RC b), ((L3.b 5), GC ⟨0, 0, false⟩)]) hp5 ⟨
    oL 2 0 rG, oC K.stay hg (g2OnZ K), oN,
    trivial⟩ (fun L5 w6 hp6 => ?_)
  refine k10 _ _ ?_
  refine wp_cond_true (by kernel_rfl) ?_
  refine wp_seq_k (fun K11 k11 => ?_)
  refine gs [.det (.bool true)] [0] [0] (fun L => [RV a, RV b, .int .u64 ((n : Nat) : Int), .bool true, pt (L0.b 0) 0, pt (L0.b 1) 0, undef, undef, .bool true, pt (L3.b 5) 0, .bool false, undef, undef, undef, undef, .bool true, .bool false, RV a, .bool true, .bool false, .bool false, RV b, .bool true, .bool false, .bool false, .tuple #[GV ⟨0, 0, false⟩, .bool false], .int .u64 ((n : Nat) : Int), .tuple #[GV ⟨0, 0, false⟩, .bool false], GV ⟨0, 0, false⟩, .bool false, .bool true, .bool false, undef, undef, undef, GV ⟨0, 0, false⟩, .bool false, .bool true] ++ U 81) (fun L => [((L0.b 0), RC a), ((L0.b 1), RC b), ((L3.b 5), GC ⟨0, 0, false⟩)]) hp6 ⟨
    oA,
    trivial⟩ (fun L6 w7 hp7 => ?_)
  refine k11 _ _ ?_
  refine wp_ret ?_
  refine bodyPost_ret (v := .bool true) ?_ rfl ?_
  · exact res_t rfl (by kernel_rfl) _
  · exact ⟨rfl, hp7.bel⟩
set_option maxHeartbeats 4000000 in
theorem grpY {G : World → Prop} (K : FpK G) (R : RefK) (g P : Pt F2) (a b n : Nat) (w : World) (hg : G w) (hgn : g = gen2) (hB : ∀ w, G w → Calls Tryd.prog 9 #[] w (Ret (.bool true) w)) (ha6 : a < 2 ^ 256) (hb6 : b < 2 ^ 256) (ha : a < ordR) (hb : b < ordR) (hO : ∀ w, Calls Tryd.prog 25 #[.int .u64 ((n : Nat) : Int)] w (Ret (.tuple #[GV (gp P), .bool true]) w)) (hP : On b2 P) : Calls Tryd.prog 6 #[RV a, RV b, .int .u64 ((n : Nat) : Int), .bool true] w (Ret (.bool true) w) := by
  have hp0 := Heap.start w
  go_enter Tryd.func6, Tryd.ntmps6
  refine wp_seq_k (fun K1 k1 => ?_)
  refine gs [.alloc (RC a), .alloc (RC b), .det (.bool false)] [0, 1, 2] [0, 0, 0] (fun L => [RV a, RV b, .int .u64 ((n : Nat) : Int), .bool true, pt (L.b 0) 0, pt (L.b 1) 0, undef, undef, .bool false] ++ U 110) (fun L => [(L.b 0, RC a), (L.b 1, RC b)]) hp0 ⟨
    oB, oB, oA,
    trivial⟩ (fun L0 w1 hp1 => ?_)
  refine k1 _ _ ?_
  refine wp_seq_k (fun K2 k2 => ?_)
  refine wp_seq_k (fun K3 k3 => ?_)
  refine gs [.det (.bool true), .det (.bool false)] [0, 1] [0, 1] (fun L => [RV a, RV b, .int .u64 ((n : Nat) : Int), .bool true, pt (L0.b 0) 0, pt (L0.b 1) 0, undef, undef, .bool false, undef, undef, undef, undef, undef, undef, .bool true, .bool false] ++ U 102) (fun L => [((L0.b 0), RC a), ((L0.b 1), RC b)]) hp1 ⟨
    oC K.stay hg hB, oN,
    trivial⟩ (fun L1 w2 hp2 => ?_)
  refine k3 _ _ ?_
  refine wp_cond_false (by kernel_rfl) ?_
  refine skips ?_
  refine k2 _ _ ?_
  refine wp_seq_k (fun K4 k4 => ?_)
  refine wp_seq_k (fun K5 k5 => ?_)
  refine gs [.det (RV a), .det (.bool true), .det (.bool false), .det (.bool false), .det (RV b), .det (.bool true), .det (.bool false), .det (.bool false)] [0, 1, 2, 3, 4, 5, 6, 7] [0, 1, 3, 7, 15, 31, 63, 127] (fun L => [RV a, RV b, .int .u64 ((n : Nat) : Int), .bool true, pt (L0.b 0) 0, pt (L0.b 1) 0, undef, undef, .bool false, undef, undef, undef, undef, undef, undef, .bool true, .bool false, RV a, .bool true, .bool false, .bool false, RV b, .bool true, .bool false, .bool false] ++ U 94) (fun L => [((L0.b 0), RC a), ((L0.b 1), RC b)]) hp2 ⟨
    oL 0 0 rR, oH (v := .bool true) (vs := #[RV a]) (fun w _ _ => by have h := mayR ha6 w; rw [decide_eq_true ha] at h; exact h), oN, oM, oL 1 0 rR, oH (v := .bool true) (vs := #[RV b]) (fun w _ _ => by have h := mayR hb6 w; rw [decide_eq_true hb] at h; exact h),
    oN, oP,
    trivial⟩ (fun L2 w3 hp3 => ?_)
  refine k5 _ _ ?_
  refine wp_cond_false (by kernel_rfl) ?_
  refine skips ?_
  refine k4 _ _ ?_
  refine wp_seq_k (fun K6 k6 => ?_)
  refine gs [.det (.int .u64 ((n : Nat) : Int)), .det (.tuple #[GV (gp P), .bool true]), .det (.tuple #[GV (gp P), .bool true]), .det (GV (gp P)), .det (.bool true), .alloc (GC ⟨0, 0, false⟩), .store (.new 5) 0 (GC (gp P)) (GC (gp P)), .det (.bool true)] [0, 1, 2, 3, 4, 5, 6, 7] [0, 1, 3, 7, 7, 0, 47, 127] (fun L => [RV a, RV b, .int .u64 ((n : Nat) : Int), .bool true, pt (L0.b 0) 0, pt (L0.b 1) 0, undef, undef, .bool false, pt (L.b 5) 0, .bool true, undef, undef, undef, undef, .bool true, .bool false, RV a, .bool true, .bool false, .bool false, RV b, .bool true, .bool false, .bool false, .tuple #[GV (gp P), .bool true], .int .u64 ((n : Nat) : Int), .tuple #[GV (gp P), .bool true], GV (gp P), .bool true] ++ U 89) (fun L => [((L0.b 0), RC a), ((L0.b 1), RC b), (L.b 5, GC (gp P))]) hp3 ⟨
    oM, oR hO, oM, oX, oX, oZ rG, oT rG, oA,
    trivial⟩ (fun L3 w4 hp4 => ?_)
  refine k6 _ _ ?_
  refine wp_seq_k (fun K7 k7 => ?_)
  refine wp_seq_k (fun K8 k8 => ?_)
  refine gs [.det (.bool true), .det (.bool false)] [0, 1] [0, 1] (fun L => [RV a, RV b, .int .u64 ((n : Nat) : Int), .bool true, pt (L0.b 0) 0, pt (L0.b 1) 0, undef, undef, .bool false, pt (L3.b 5) 0, .bool true, undef, undef, undef, undef, .bool true, .bool false, RV a, .bool true, .bool false, .bool false, RV b, .bool true, .bool false, .bool false, .tuple #[GV (gp P), .bool true], .int .u64 ((n : Nat) : Int), .tuple #[GV (gp P), .bool true], GV (gp P), .bool true, .bool true, .bool false] ++ U 87) (fun L => [((L0.b 0), RC a), ((L0.b 1), RC b), ((L3.b 5), GC (gp P))]) hp4 ⟨
    oM, oN,
    trivial⟩ (fun L4 w5 hp5 => ?_)
  refine k8 _ _ ?_
  refine wp_cond_false (by kernel_rfl) ?_
  refine skips ?_
  refine k7 _ _ ?_
  refine wp_seq_k (fun K9 k9 => ?_)
  refine wp_seq_k (fun K10 k10 => ?_)
  refine gs [.det (GV (gp P)), .det (.bool true), .det (.bool false)] [0, 1, 2] [0, 1, 3] (fun L => [RV a, RV b, .int .u64 ((n : Nat) : Int), .bool true, pt (L0.b 0) 0, pt (L0.b 1) 0, undef, undef, .bool false, pt (L3.b 5) 0, .bool true, undef, undef, undef, undef, .bool true, .bool false, RV a, .bool true, .bool false, .bool false, RV b, .bool true, .bool false, .bool false, .tuple #[GV (gp P), .bool true], .int .u64 ((n : Nat) : Int), .tuple #[GV (gp P), .bool true], GV (gp P), .bool true, .bool true, .bool false, undef, undef, undef, GV (gp P), .bool true, .bool false] ++ U 81) (fun L => [((L0.b 0), RC a), ((L0.b 1), RC b), ((L3.b 5), GC (gp P))]) hp5 ⟨
    oL 2 0 rG, oH (v := .bool true) (vs := #[GV (gp P)]) (fun w hb _ => g2On K P w (K.stay hg hb) hP), oN,
    trivial⟩ (fun L5 w6 hp6 => ?_)
  refine k10 _ _ ?_
  refine wp_cond_false (by kernel_rfl) ?_
  refine skips ?_
  refine k9 _ _ ?_
  refine wp_seq_k (fun K11 k11 => ?_)
  refine dr [.det (GV (gp g)), .det (RV b), .det (GV (gp (mul F2.inv b g))), .det (GV ⟨0, 0, true⟩), .alloc (GC ⟨0, 0, false⟩), .alloc (GC ⟨0, 0, false⟩), .store (.new 4) 0 (GC (gp (mul F2.inv b g))) (GC (gp (mul F2.inv b g))), .store (.new 5) 0 (GC ⟨0, 0, true⟩) (GC ⟨0, 0, true⟩)] [0, 1, 2, 3, 4, 5, 6, 7] [0, 0, 3, 0, 0, 0, 55, 127] (fun L => [RV a, RV b, .int .u64 ((n : Nat) : Int), .bool true, pt (L0.b 0) 0, pt (L0.b 1) 0, undef, undef, .bool false, pt (L3.b 5) 0, .bool true, pt (L.b 4) 0, pt (L.b 5) 0, undef, undef, .bool true, .bool false, RV a, .bool true, .bool false, .bool false, RV b, .bool true, .bool false, .bool false, .tuple #[GV (gp P), .bool true], .int .u64 ((n : Nat) : Int), .tuple #[GV (gp P), .bool true], GV (gp P), .bool true, .bool true, .bool false, undef, undef, undef, GV (gp P), .bool true, .bool false, GV (gp g), RV b, GV (gp (mul F2.inv b g)), GV ⟨0, 0, true⟩] ++ U 77) (fun L => [((L0.b 0), RC a), ((L0.b 1), RC b), ((L3.b 5), GC (gp P)), (L.b 4, GC (gp (mul F2.inv b g))), (L.b 5, GC ⟨0, 0, true⟩)]) hp6 ⟨
    oH (v := GV (gp g)) (vs := #[]) (fun w hb _ => by have h := g2One K w (K.stay hg hb); rw [← hgn] at h; exact h), oL 1 0 rR, oH (v := GV (gp (mul F2.inv b g))) (vs := #[GV (gp g), RV b]) (fun w hb _ => g2Mul K g b w (K.stay hg hb) (gen2_on' hgn) hb6),
    oD (buildGi true), oZ rG, oZ rG, oT rG, oT rG,
    trivial⟩ (fun L6 w7 hp7 => ?_)
  refine k11 _ _ ?_
  refine wp_seq_k (fun K12 k12 => ?_)
  refine gs [.det (GV (gp (mul F2.inv b g))), .det (GV (gp (mul F2.inv b g))), .det (GV (gp (add F2.inv (mul F2.inv b g) (mul F2.inv b g)))), .alloc (GC ⟨0, 0, false⟩), .store (.new 3) 0 (GC (gp (add F2.inv (mul F2.inv b g) (mul F2.inv b g)))) (GC (gp (add F2.inv (mul F2.inv b g) (mul F2.inv b g))))] [0, 1, 2, 3, 4] [0, 0, 3, 0, 15] (fun L => [RV a, RV b, .int .u64 ((n : Nat) : Int), .bool true, pt (L0.b 0) 0, pt (L0.b 1) 0, undef, undef, .bool false, pt (L3.b 5) 0, .bool true, pt (L6.b 4) 0, pt (L6.b 5) 0, pt (L.b 3) 0, undef, .bool true, .bool false, RV a, .bool true, .bool false, .bool false, RV b, .bool true, .bool false, .bool false, .tuple #[GV (gp P), .bool true], .int .u64 ((n : Nat) : Int), .tuple #[GV (gp P), .bool true], GV (gp P), .bool true, .bool true, .bool false, undef, undef, undef, GV (gp P), .bool true, .bool false, GV (gp g), RV b, GV (gp (mul F2.inv b g)), GV ⟨0, 0, true⟩, GV (gp (mul F2.inv b g)), GV (gp (mul F2.inv b g)), GV (gp (add F2.inv (mul F2.inv b g) (mul F2.inv b g)))] ++ U 74) (fun L => [((L0.b 0), RC a), ((L0.b 1), RC b), ((L3.b 5), GC (gp P)), ((L6.b 4), GC (gp (mul F2.inv b g))), ((L6.b 5), GC ⟨0, 0, true⟩), (L.b 3, GC (gp (add F2.inv (mul F2.inv b g) (mul F2.inv b g))))]) hp7 ⟨
    oL 3 0 rG, oL 3 0 rG, oH (v := GV (gp (add F2.inv (mul F2.inv b g) (mul F2.inv b g)))) (vs := #[GV (gp (mul F2.inv b g)), GV (gp (mul F2.inv b g))]) (fun w hb _ => g2Add K (mul F2.inv b g) (mul F2.inv b g) w (K.stay hg hb) (mul_on crv2 (gen2_on' hgn) b) (mul_on crv2 (gen2_on' hgn) b)),
    oZ rG, oT rG,
    trivial⟩ (fun L7 w8 hp8 => ?_)
  refine k12 _ _ ?_
  refine wp_seq_k (fun K13 k13 => ?_)
  refine dr [.det (GV (gp P)), .det (GV (gp (mul F2.inv b g))), .det (GV (gp (add F2.inv P (mul F2.inv b g)))), .det (GV (gp (add F2.inv (mul F2.inv b g) (mul F2.inv b g)))), .det (GV (gp (add F2.inv (add F2.inv P (mul F2.inv b g)) (add F2.inv (mul F2.inv b g) (mul F2.inv b g))))), .det (GV (gp P)), .det (GV (gp (mul F2.inv b g))), .det (GV (gp (add F2.inv (mul F2.inv b g) (mul F2.inv b g)))), .det (GV (gp (add F2.inv (mul F2.inv b g) (add F2.inv (mul F2.inv b g) (mul F2.inv b g))))), .det (GV (gp (add F2.inv P (add F2.inv (mul F2.inv b g) (add F2.inv (mul F2.inv b g) (mul F2.inv b g)))))), .det (.bool true), .det (.bool true), .det (GV (gp P)), .det (GV (gp (mul F2.inv b g))), .det (GV (gp (add F2.inv P (mul F2.inv b g)))), .det (GV (gp (mul F2.inv b g))), .det (GV (gp P)), .det (GV (gp (add F2.inv (mul F2.inv b g) P))), .det (.bool true), .det (.bool true), .det (.bool true), .det (GV (gp P)), .det (GV ⟨0, 0, true⟩), .det (GV (gp (add F2.inv P Pt.inf))), .det (GV (gp P)), .det (.bool true), .det (.bool true), .det (.bool true), .det (GV (gp P)), .det (GV (gp P)), .det (GV (gp (neg P))), .det (GV (gp (add F2.inv P (neg P)))), .det (GV ⟨0, 0, true⟩), .det (.bool true), .det (.bool true), .det (.bool true)] [0, 1, 2, 3, 4, 5, 6, 7, 8, 9, 10, 11, 12, 13, 14, 15, 16, 17, 18, 19, 20, 21, 22, 23, 24, 25, 26, 27, 28, 29, 30, 31, 32, 33, 34, 35] [0, 0, 3, 0, 15, 0, 0, 0, 223, 511, 1023, 2047, 4095, 4095, 16383, 4095, 4095, 131071, 262143, 524287, 1048575, 2097151, 2097151, 8388607, 2097151, 33554431, 67108863, 134217727, 268435455, 268435455, 805306367, 2147483647, 268435455, 8589934591, 17179869183, 34359738367] (fun L => [RV a, RV b, .int .u64 ((n : Nat) : Int), .bool true, pt (L0.b 0) 0, pt (L0.b 1) 0, undef, undef, .bool false, pt (L3.b 5) 0, .bool true, pt (L6.b 4) 0, pt (L6.b 5) 0, pt (L7.b 3) 0, .bool true, .bool true, .bool false, RV a, .bool true, .bool false, .bool false, RV b, .bool true, .bool false, .bool false, .tuple #[GV (gp P), .bool true], .int .u64 ((n : Nat) : Int), .tuple #[GV (gp P), .bool true], GV (gp P), .bool true, .bool true, .bool false, undef, undef, undef, GV (gp P), .bool true, .bool false, GV (gp g), RV b, GV (gp (mul F2.inv b g)), GV ⟨0, 0, true⟩, GV (gp (mul F2.inv b g)), GV (gp (mul F2.inv b g)), GV (gp (add F2.inv (mul F2.inv b g) (mul F2.inv b g))), GV (gp P), GV (gp (mul F2.inv b g)), GV (gp (add F2.inv P (mul F2.inv b g))), GV (gp (add F2.inv (mul F2.inv b g) (mul F2.inv b g))), GV (gp (add F2.inv (add F2.inv P (mul F2.inv b g)) (add F2.inv (mul F2.inv b g) (mul F2.inv b g)))), GV (gp P), GV (gp (mul F2.inv b g)), GV (gp (add F2.inv (mul F2.inv b g) (mul F2.inv b g))), GV (gp (add F2.inv (mul F2.inv b g) (add F2.inv (mul F2.inv b g) (mul F2.inv b g)))), GV (gp (add F2.inv P (add F2.inv (mul F2.inv b g) (add F2.inv (mul F2.inv b g) (mul F2.inv b g))))), .bool true, .bool true, GV (gp P), GV (gp (mul F2.inv b g)), GV (gp (add F2.inv P (mul F2.inv b g))), GV (gp (mul F2.inv b g)), GV (gp P), GV (gp (add F2.inv (mul F2.inv b g) P)), .bool true, .bool true, .bool true, GV (gp P), GV ⟨0, 0, true⟩, GV (gp (add F2.inv P Pt.inf)), GV (gp P), .bool true, .bool true, .bool true, GV (gp P), GV (gp P), GV (gp (neg P)), GV (gp (add F2.inv P (neg P))), GV ⟨0, 0, true⟩, .bool true, .bool true] ++ U 39) (fun L => [((L0.b 0), RC a), ((L0.b 1), RC b), ((L3.b 5), GC (gp P)), ((L6.b 4), GC (gp (mul F2.inv b g))), ((L6.b 5), GC ⟨0, 0, true⟩), ((L7.b 3), GC (gp (add F2.inv (mul F2.inv b g) (mul F2.inv b g))))]) hp8 ⟨
    oL 2 0 rG, oL 3 0 rG, oH (v := GV (gp (add F2.inv P (mul F2.inv b g)))) (vs := #[GV (gp P), GV (gp (mul F2.inv b g))]) (fun w hb _ => g2Add K P (mul F2.inv b g) w (K.stay hg hb) hP (mul_on crv2 (gen2_on' hgn) b)),
    oL 5 0 rG, oH (v := GV (gp (add F2.inv (add F2.inv P (mul F2.inv b g)) (add F2.inv (mul F2.inv b g) (mul F2.inv b g))))) (vs := #[GV (gp (add F2.inv P (mul F2.inv b g))), GV (gp (add F2.inv (mul F2.inv b g) (mul F2.inv b g)))]) (fun w hb _ => g2Add K (add F2.inv P (mul F2.inv b g)) (add F2.inv (mul F2.inv b g) (mul F2.inv b g)) w (K.stay hg hb) (add_on crv2 hP (mul_on crv2 (gen2_on' hgn) b)) (add_on crv2 (mul_on crv2 (gen2_on' hgn) b) (mul_on crv2 (gen2_on' hgn) b))),
    oL 2 0 rG, oL 3 0 rG, oL 5 0 rG, oH (v := GV (gp (add F2.inv (mul F2.inv b g) (add F2.inv (mul F2.inv b g) (mul F2.inv b g))))) (vs := #[GV (gp (mul F2.inv b g)), GV (gp (add F2.inv (mul F2.inv b g) (mul F2.inv b g)))]) (fun w hb _ => g2Add K (mul F2.inv b g) (add F2.inv (mul F2.inv b g) (mul F2.inv b g)) w (K.stay hg hb) (mul_on crv2 (gen2_on' hgn) b) (add_on crv2 (mul_on crv2 (gen2_on' hgn) b) (mul_on crv2 (gen2_on' hgn) b))),
    oH (v := GV (gp (add F2.inv P (add F2.inv (mul F2.inv b g) (add F2.inv (mul F2.inv b g) (mul F2.inv b g)))))) (vs := #[GV (gp P), GV (gp (add F2.inv (mul F2.inv b g) (add F2.inv (mul F2.inv b g) (mul F2.inv b g))))]) (fun w hb _ => g2Add K P (add F2.inv (mul F2.inv b g) (add F2.inv (mul F2.inv b g) (mul F2.inv b g))) w (K.stay hg hb) hP (add_on crv2 (mul_on crv2 (gen2_on' hgn) b) (add_on crv2 (mul_on crv2 (gen2_on' hgn) b) (mul_on crv2 (gen2_on' hgn) b)))),
    oH (v := .bool true) (vs := #[GV (gp (add F2.inv (add F2.inv P (mul F2.inv b g)) (add F2.inv (mul F2.inv b g) (mul F2.inv b g)))), GV (gp (add F2.inv P (add F2.inv (mul F2.inv b g) (add F2.inv (mul F2.inv b g) (mul F2.inv b g)))))]) (fun w hb _ => by have h := g2Equal K (add F2.inv (add F2.inv P (mul F2.inv b g)) (add F2.inv (mul F2.inv b g) (mul F2.inv b g))) (add F2.inv P (add F2.inv (mul F2.inv b g) (add F2.inv (mul F2.inv b g) (mul F2.inv b g)))) w (K.stay hg hb); rw [decide_eq_true (show (add F2.inv (add F2.inv P (mul F2.inv b g)) (add F2.inv (mul F2.inv b g) (mul F2.inv b g))) = (add F2.inv P (add F2.inv (mul F2.inv b g) (add F2.inv (mul F2.inv b g) (mul F2.inv b g)))) from add_assoc crv2 hP (mul_on crv2 (gen2_on' hgn) b) (add_on crv2 (mul_on crv2 (gen2_on' hgn) b) (mul_on crv2 (gen2_on' hgn) b)))] at h; exact h),
    oM, oL 2 0 rG, oL 3 0 rG, oH (v := GV (gp (add F2.inv P (mul F2.inv b g)))) (vs := #[GV (gp P), GV (gp (mul F2.inv b g))]) (fun w hb _ => g2Add K P (mul F2.inv b g) w (K.stay hg hb) hP (mul_on crv2 (gen2_on' hgn) b)),
    oL 3 0 rG, oL 2 0 rG, oH (v := GV (gp (add F2.inv (mul F2.inv b g) P))) (vs := #[GV (gp (mul F2.inv b g)), GV (gp P)]) (fun w hb _ => g2Add K (mul F2.inv b g) P w (K.stay hg hb) (mul_on crv2 (gen2_on' hgn) b) hP),
    oH (v := .bool true) (vs := #[GV (gp (add F2.inv P (mul F2.inv b g))), GV (gp (add F2.inv (mul F2.inv b g) P))]) (fun w hb _ => by have h := g2Equal K (add F2.inv P (mul F2.inv b g)) (add F2.inv (mul F2.inv b g) P) w (K.stay hg hb); rw [decide_eq_true (show (add F2.inv P (mul F2.inv b g)) = (add F2.inv (mul F2.inv b g) P) from add_comm crv2 hP (mul_on crv2 (gen2_on' hgn) b))] at h; exact h),
    oP, oM, oL 2 0 rG, oL 4 0 rG, oH (v := GV (gp (add F2.inv P Pt.inf))) (vs := #[GV (gp P), GV ⟨0, 0, true⟩]) (fun w hb _ => g2Add K P Pt.inf w (K.stay hg hb) hP (trivial : On b2 Pt.inf)),
    oL 2 0 rG, oH (v := .bool true) (vs := #[GV (gp (add F2.inv P Pt.inf)), GV (gp P)]) (fun w hb _ => by have h := g2Equal K (add F2.inv P Pt.inf) P w (K.stay hg hb); rw [decide_eq_true (show (add F2.inv P Pt.inf) = P from add_inf F2.inv P)] at h; exact h),
    oP, oM, oL 2 0 rG, oL 2 0 rG, oC K.stay hg (g2Neg K P), oH (v := GV (gp (add F2.inv P (neg P)))) (vs := #[GV (gp P), GV (gp (neg P))]) (fun w hb _ => g2Add K P (neg P) w (K.stay hg hb) hP (neg_on hP)),
    oL 4 0 rG, oH (v := .bool true) (vs := #[GV (gp (add F2.inv P (neg P))), GV ⟨0, 0, true⟩]) (fun w hb _ => by have h := g2Equal K (add F2.inv P (neg P)) Pt.inf w (K.stay hg hb); rw [decide_eq_true (show (add F2.inv P (neg P)) = Pt.inf from add_neg)] at h; exact h),
    oP, oA,
    trivial⟩ (fun L8 w9 hp9 => ?_)
  refine k13 _ _ ?_
  refine wp_seq_k (fun K14 k14 => ?_)
  refine wp_seq_k (fun K15 k15 => ?_)
  refine gs [.det (.bool true)] [0] [0] (fun L => [RV a, RV b, .int .u64 ((n : Nat) : Int), .bool true, pt (L0.b 0) 0, pt (L0.b 1) 0, undef, undef, .bool false, pt (L3.b 5) 0, .bool true, pt (L6.b 4) 0, pt (L6.b 5) 0, pt (L7.b 3) 0, .bool true, .bool true, .bool false, RV a, .bool true, .bool false, .bool false, RV b, .bool true, .bool false, .bool false, .tuple #[GV (gp P), .bool true], .int .u64 ((n : Nat) : Int), .tuple #[GV (gp P), .bool true], GV (gp P), .bool true, .bool true, .bool false, undef, undef, undef, GV (gp P), .bool true, .bool false, GV (gp g), RV b, GV (gp (mul F2.inv b g)), GV ⟨0, 0, true⟩, GV (gp (mul F2.inv b g)), GV (gp (mul F2.inv b g)), GV (gp (add F2.inv (mul F2.inv b g) (mul F2.inv b g))), GV (gp P), GV (gp (mul F2.inv b g)), GV (gp (add F2.inv P (mul F2.inv b g))), GV (gp (add F2.inv (mul F2.inv b g) (mul F2.inv b g))), GV (gp (add F2.inv (add F2.inv P (mul F2.inv b g)) (add F2.inv (mul F2.inv b g) (mul F2.inv b g)))), GV (gp P), GV (gp (mul F2.inv b g)), GV (gp (add F2.inv (mul F2.inv b g) (mul F2.inv b g))), GV (gp (add F2.inv (mul F2.inv b g) (add F2.inv (mul F2.inv b g) (mul F2.inv b g)))), GV (gp (add F2.inv P (add F2.inv (mul F2.inv b g) (add F2.inv (mul F2.inv b g) (mul F2.inv b g))))), .bool true, .bool true, GV (gp P), GV (gp (mul F2.inv b g)), GV (gp (add F2.inv P (mul F2.inv b g))), GV (gp (mul F2.inv b g)), GV (gp P), GV (gp (add F2.inv (mul F2.inv b g) P)), .bool true, .bool true, .bool true, GV (gp P), GV ⟨0, 0, true⟩, GV (gp (add F2.inv P Pt.inf)), GV (gp P), .bool true, .bool true, .bool true, GV (gp P), GV (gp P), GV (gp (neg P)), GV (gp (add F2.inv P (neg P))), GV ⟨0, 0, true⟩, .bool true, .bool true, .bool true] ++ U 38) (fun L => [((L0.b 0), RC a), ((L0.b 1), RC b), ((L3.b 5), GC (gp P)), ((L6.b 4), GC (gp (mul F2.inv b g))), ((L6.b 5), GC ⟨0, 0, true⟩), ((L7.b 3), GC (gp (add F2.inv (mul F2.inv b g) (mul F2.inv b g))))]) hp9 ⟨
    oM,
    trivial⟩ (fun L9 w10 hp10 => ?_)
  refine k15 _ _ ?_
  refine wp_cond_true (by kernel_rfl) ?_
  refine wp_seq_k (fun K16 k16 => ?_)
  refine gs [.det (.bool true), .det (.bool true), .det (GV (gp P)), .det (GV (gp (mul F2.inv b g))), .det (GV (gp (add F2.inv P (mul F2.inv b g)))), .det (.bool true), .det (.bool true), .det (.bool true), .det (GV (gp (mul F2.inv b g))), .det (.bool true), .det (.bool true), .det (.bool true)] [0, 1, 2, 3, 4, 5, 6, 7, 8, 9, 10, 11] [0, 1, 3, 3, 15, 31, 63, 127, 255, 511, 1023, 2047] (fun L => [RV a, RV b, .int .u64 ((n : Nat) : Int), .bool true, pt (L0.b 0) 0, pt (L0.b 1) 0, undef, undef, .bool true, pt (L3.b 5) 0, .bool true, pt (L6.b 4) 0, pt (L6.b 5) 0, pt (L7.b 3) 0, .bool true, .bool true, .bool false, RV a, .bool true, .bool false, .bool false, RV b, .bool true, .bool false, .bool false, .tuple #[GV (gp P), .bool true], .int .u64 ((n : Nat) : Int), .tuple #[GV (gp P), .bool true], GV (gp P), .bool true, .bool true, .bool false, undef, undef, undef, GV (gp P), .bool true, .bool false, GV (gp g), RV b, GV (gp (mul F2.inv b g)), GV ⟨0, 0, true⟩, GV (gp (mul F2.inv b g)), GV (gp (mul F2.inv b g)), GV (gp (add F2.inv (mul F2.inv b g) (mul F2.inv b g))), GV (gp P), GV (gp (mul F2.inv b g)), GV (gp (add F2.inv P (mul F2.inv b g))), GV (gp (add F2.inv (mul F2.inv b g) (mul F2.inv b g))), GV (gp (add F2.inv (add F2.inv P (mul F2.inv b g)) (add F2.inv (mul F2.inv b g) (mul F2.inv b g)))), GV (gp P), GV (gp (mul F2.inv b g)), GV (gp (add F2.inv (mul F2.inv b g) (mul F2.inv b g))), GV (gp (add F2.inv (mul F2.inv b g) (add F2.inv (mul F2.inv b g) (mul F2.inv b g)))), GV (gp (add F2.inv P (add F2.inv (mul F2.inv b g) (add F2.inv (mul F2.inv b g) (mul F2.inv b g))))), .bool true, .bool true, GV (gp P), GV (gp (mul F2.inv b g)), GV (gp (add F2.inv P (mul F2.inv b g))), GV (gp (mul F2.inv b g)), GV (gp P), GV (gp (add F2.inv (mul F2.inv b g) P)), .bool true, .bool true, .bool true, GV (gp P), GV ⟨0, 0, true⟩, GV (gp (add F2.inv P Pt.inf)), GV (gp P), .bool true, .bool true, .bool true, GV (gp P), GV (gp P), GV (gp (neg P)), GV (gp (add F2.inv P (neg P))), GV ⟨0, 0, true⟩, .bool true, .bool true, .bool true, .bool true, .bool true, GV (gp P), GV (gp (mul F2.inv b g)), GV (gp (add F2.inv P (mul F2.inv b g))), .bool true, .bool true, .bool true, GV (gp (mul F2.inv b g)), .bool true, .bool true] ++ U 27) (fun L => [((L0.b 0), RC a), ((L0.b 1), RC b), ((L3.b 5), GC (gp P)), ((L6.b 4), GC (gp (mul F2.inv b g))), ((L6.b 5), GC ⟨0, 0, true⟩), ((L7.b 3), GC (gp (add F2.inv (mul F2.inv b g) (mul F2.inv b g))))]) hp10 ⟨
    oM, oM, oL 2 0 rG, oL 3 0 rG, oH (v := GV (gp (add F2.inv P (mul F2.inv b g)))) (vs := #[GV (gp P), GV (gp (mul F2.inv b g))]) (fun w hb _ => g2Add K P (mul F2.inv b g) w (K.stay hg hb) hP (mul_on crv2 (gen2_on' hgn) b)),
    oH (v := .bool true) (vs := #[GV (gp (add F2.inv P (mul F2.inv b g)))]) (fun w hb _ => g2On K (add F2.inv P (mul F2.inv b g)) w (K.stay hg hb) (add_on crv2 hP (mul_on crv2 (gen2_on' hgn) b))),
    oP, oM, oL 3 0 rG, oH (v := .bool true) (vs := #[GV (gp (mul F2.inv b g))]) (fun w hb _ => by have h := g2In K (mul F2.inv b g) w (K.stay hg hb) (mul_on crv2 (gen2_on' hgn) b); rw [decide_eq_true (show mul F2.inv ordR (mul F2.inv b g) = .inf from in_mul hgn b)] at h; exact h),
    oP, oA,
    trivial⟩ (fun L10 w11 hp11 => ?_)
  refine k16 _ _ ?_
  refine wp_ret ?_
  refine bodyPost_ret (v := .bool true) ?_ rfl ?_
  · exact res_t rfl (by kernel_rfl) _
  · exact ⟨rfl, hp11.bel⟩
set_option maxHeartbeats 4000000 in
theorem grpG {G : World → Prop} (K : FpK G) (R : RefK) (g P : Pt F2) (a b n : Nat) (w : World) (hg : G w) (hgn : g = gen2) (hB : ∀ w, G w → Calls Tryd.prog 9 #[] w (Ret (.bool true) w)) (ha6 : a < 2 ^ 256) (hb6 : b < 2 ^ 256) (ha : a < ordR) (hb : b < ordR) (hO : ∀ w, Calls Tryd.prog 25 #[.int .u64 ((n : Nat) : Int)] w (Ret (.tuple #[GV (gp P), .bool true]) w)) (hP : On b2 P) : Calls Tryd.prog 6 #[RV a, RV b, .int .u64 ((n : Nat) : Int), .bool false] w (Ret (.bool true) w) := by
  have hp0 := Heap.start w
  go_enter Tryd.func6, Tryd.ntmps6
  refine wp_seq_k (fun K1 k1 => ?_)
  refine gs [.alloc (RC a), .alloc (RC b), .det (.bool false)] [0, 1, 2] [0, 0, 0] (fun L => [RV a, RV b, .int .u64 ((n : Nat) : Int), .bool false, pt (L.b 0) 0, pt (L.b 1) 0, undef, undef, .bool false] ++ U 110) (fun L => [(L.b 0, RC a), (L.b 1, RC b)]) hp0 ⟨
    oB, oB, oA,
    trivial⟩ (fun L0 w1 hp1 => ?_)
  refine k1 _ _ ?_
  refine wp_seq_k (fun K2 k2 => ?_)
  refine wp_seq_k (fun K3 k3 => ?_)
  refine gs [.det (.bool true), .det (.bool false)] [0, 1] [0, 1] (fun L => [RV a, RV b, .int .u64 ((n : Nat) : Int), .bool false, pt (L0.b 0) 0, pt (L0.b 1) 0, undef, undef, .bool false, undef, undef, undef, undef, undef, undef, .bool true, .bool false] ++ U 102) (fun L => [((L0.b 0), RC a), ((L0.b 1), RC b)]) hp1 ⟨
    oC K.stay hg hB, oN,
    trivial⟩ (fun L1 w2 hp2 => ?_)
  refine k3 _ _ ?_
  refine wp_cond_false (by kernel_rfl) ?_
  refine skips ?_
  refine k2 _ _ ?_
  refine wp_seq_k (fun K4 k4 => ?_)
  refine wp_seq_k (fun K5 k5 => ?_)
  refine gs [.det (RV a), .det (.bool true), .det (.bool false), .det (.bool false), .det (RV b), .det (.bool true), .det (.bool false), .det (.bool false)] [0, 1, 2, 3, 4, 5, 6, 7] [0, 1, 3, 7, 15, 31, 63, 127] (fun L => [RV a, RV b, .int .u64 ((n : Nat) : Int), .bool false, pt (L0.b 0) 0, pt (L0.b 1) 0, undef, undef, .bool false, undef, undef, undef, undef, undef, undef, .bool true, .bool false, RV a, .bool true, .bool false, .bool false, RV b, .bool true, .bool false, .bool false] ++ U 94) (fun L => [((L0.b 0), RC a), ((L0.b 1), RC b)]) hp2 ⟨
    oL 0 0 rR, oH (v := .bool true) (vs := #[RV a]) (fun w _ _ => by have h := mayR ha6 w; rw [decide_eq_true ha] at h; exact h), oN, oM, oL 1 0 rR, oH (v := .bool true) (vs := #[RV b]) (fun w _ _ => by have h := mayR hb6 w; rw [decide_eq_true hb] at h; exact h),
    oN, oP,
    trivial⟩ (fun L2 w3 hp3 => ?_)
  refine k5 _ _ ?_
  refine wp_cond_false (by kernel_rfl) ?_
  refine skips ?_
  refine k4 _ _ ?_
  refine wp_seq_k (fun K6 k6 => ?_)
  refine gs [.det (.int .u64 ((n : Nat) : Int)), .det (.tuple #[GV (gp P), .bool true]), .det (.tuple #[GV (gp P), .bool true]), .det (GV (gp P)), .det (.bool true), .alloc (GC ⟨0, 0, false⟩), .store (.new 5) 0 (GC (gp P)) (GC (gp P)), .det (.bool true)] [0, 1, 2, 3, 4, 5, 6, 7] [0, 1, 3, 7, 7, 0, 47, 127] (fun L => [RV a, RV b, .int .u64 ((n : Nat) : Int), .bool false, pt (L0.b 0) 0, pt (L0.b 1) 0, undef, undef, .bool false, pt (L.b 5) 0, .bool true, undef, undef, undef, undef, .bool true, .bool false, RV a, .bool true, .bool false, .bool false, RV b, .bool true, .bool false, .bool false, .tuple #[GV (gp P), .bool true], .int .u64 ((n : Nat) : Int), .tuple #[GV (gp P), .bool true], GV (gp P), .bool true] ++ U 89) (fun L => [((L0.b 0), RC a), ((L0.b 1), RC b), (L.b 5, GC (gp P))]) hp3 ⟨
    oM, oR hO, oM, oX, oX, oZ rG, oT rG, oA,
    trivial⟩ (fun L3 w4 hp4 => ?_)
  refine k6 _ _ ?_
  refine wp_seq_k (fun K7 k7 => ?_)
  refine wp_seq_k (fun K8 k8 => ?_)
  refine gs [.det (.bool false), .det (.bool true)] [0, 1] [0, 1] (fun L => [RV a, RV b, .int .u64 ((n : Nat) : Int), .bool false, pt (L0.b 0) 0, pt (L0.b 1) 0, undef, undef, .bool false, pt (L3.b 5) 0, .bool true, undef, undef, undef, undef, .bool true, .bool false, RV a, .bool true, .bool false, .bool false, RV b, .bool true, .bool false, .bool false, .tuple #[GV (gp P), .bool true], .int .u64 ((n : Nat) : Int), .tuple #[GV (gp P), .bool true], GV (gp P), .bool true, .bool false, .bool true] ++ U 87) (fun L => [((L0.b 0), RC a), ((L0.b 1), RC b), ((L3.b 5), GC (gp P))]) hp4 ⟨
    oM, oN,
    trivial⟩ (fun L4 w5 hp5 => ?_)
  refine k8 _ _ ?_
  refine wp_cond_true (by kernel_rfl) ?_
  refine dr [.det (GV (gp g)), .det (RV a), .det (GV (gp (mul F2.inv a g))), .store (.base 2) 0 (GC (gp (mul F2.inv a g))) (GC (gp (mul F2.inv a g)))] [0, 1, 2, 3] [0, 0, 3, 7] (fun L => [RV a, RV b, .int .u64 ((n : Nat) : Int), .bool false, pt (L0.b 0) 0, pt (L0.b 1) 0, undef, undef, .bool false, pt (L3.b 5) 0, .bool true, undef, undef, undef, undef, .bool true, .bool false, RV a, .bool true, .bool false, .bool false, RV b, .bool true, .bool false, .bool false, .tuple #[GV (gp P), .bool true], .int .u64 ((n : Nat) : Int), .tuple #[GV (gp P), .bool true], GV (gp P), .bool true, .bool false, .bool true, GV (gp g), RV a, GV (gp (mul F2.inv a g))] ++ U 84) (fun L => [((L0.b 0), RC a), ((L0.b 1), RC b), ((L3.b 5), GC (gp (mul F2.inv a g)))]) hp5 ⟨
    oH (v := GV (gp g)) (vs := #[]) (fun w hb _ => by have h := g2One K w (K.stay hg hb); rw [← hgn] at h; exact h), oL 0 0 rR, oH (v := GV (gp (mul F2.inv a g))) (vs := #[GV (gp g), RV a]) (fun w hb _ => g2Mul K g a w (K.stay hg hb) (gen2_on' hgn) ha6),
    oT rG,
    trivial⟩ (fun L5 w6 hp6 => ?_)
  refine k7 _ _ ?_
  refine wp_seq_k (fun K9 k9 => ?_)
  refine wp_seq_k (fun K10 k10 => ?_)
  refine gs [.det (GV (gp (mul F2.inv a g))), .det (.bool true), .det (.bool false)] [0, 1, 2] [0, 1, 3] (fun L => [RV a, RV b, .int .u64 ((n : Nat) : Int), .bool false, pt (L0.b 0) 0, pt (L0.b 1) 0, undef, undef, .bool false, pt (L3.b 5) 0, .bool true, undef, undef, undef, undef, .bool true, .bool false, RV a, .bool true, .bool false, .bool false, RV b, .bool true, .bool false, .bool false, .tuple #[GV (gp P), .bool true], .int .u64 ((n : Nat) : Int), .tuple #[GV (gp P), .bool true], GV (gp P), .bool true, .bool false, .bool true, GV (gp g), RV a, GV (gp (mul F2.inv a g)), GV (gp (mul F2.inv a g)), .bool true, .bool false] ++ U 81) (fun L => [((L0.b 0), RC a), ((L0.b 1), RC b), ((L3.b 5), GC (gp (mul F2.inv a g)))]) hp6 ⟨
    oL 2 0 rG, oH (v := .bool true) (vs := #[GV (gp (mul F2.inv a g))]) (fun w hb _ => g2On K (mul F2.inv a g) w (K.stay hg hb) (mul_on crv2 (gen2_on' hgn) a)),
    oN,
    trivial⟩ (fun L6 w7 hp7 => ?_)
  refine k10 _ _ ?_
  refine wp_cond_false (by kernel_rfl) ?_
  refine skips ?_
  refine k9 _ _ ?_
  refine wp_seq_k (fun K11 k11 => ?_)
  refine dr [.det (GV (gp g)), .det (RV b), .det (GV (gp (mul F2.inv b g))), .det (GV ⟨0, 0, true⟩), .alloc (GC ⟨0, 0, false⟩), .alloc (GC ⟨0, 0, false⟩), .store (.new 4) 0 (GC (gp (mul F2.inv b g))) (GC (gp (mul F2.inv b g))), .store (.new 5) 0 (GC ⟨0, 0, true⟩) (GC ⟨0, 0, true⟩)] [0, 1, 2, 3, 4, 5, 6, 7] [0, 0, 3, 0, 0, 0, 55, 127] (fun L => [RV a, RV b, .int .u64 ((n : Nat) : Int), .bool false, pt (L0.b 0) 0, pt (L0.b 1) 0, undef, undef, .bool false, pt (L3.b 5) 0, .bool true, pt (L.b 4) 0, pt (L.b 5) 0, undef, undef, .bool true, .bool false, RV a, .bool true, .bool false, .bool false, RV b, .bool true, .bool false, .bool false, .tuple #[GV (gp P), .bool true], .int .u64 ((n : Nat) : Int), .tuple #[GV (gp P), .bool true], GV (gp P), .bool true, .bool false, .bool true, GV (gp g), RV a, GV (gp (mul F2.inv a g)), GV (gp (mul F2.inv a g)), .bool true, .bool false, GV (gp g), RV b, GV (gp (mul F2.inv b g)), GV ⟨0, 0, true⟩] ++ U 77) (fun L => [((L0.b 0), RC a), ((L0.b 1), RC b), ((L3.b 5), GC (gp (mul F2.inv a g))), (L.b 4, GC (gp (mul F2.inv b g))), (L.b 5, GC ⟨0, 0, true⟩)]) hp7 ⟨
    oH (v := GV (gp g)) (vs := #[]) (fun w hb _ => by have h := g2One K w (K.stay hg hb); rw [← hgn] at h; exact h), oL 1 0 rR, oH (v := GV (gp (mul F2.inv b g))) (vs := #[GV (gp g), RV b]) (fun w hb _ => g2Mul K g b w (K.stay hg hb) (gen2_on' hgn) hb6),
    oD (buildGi true), oZ rG, oZ rG, oT rG, oT rG,
    trivial⟩ (fun L7 w8 hp8 => ?_)
  refine k11 _ _ ?_
  refine wp_seq_k (fun K12 k12 => ?_)
  refine gs [.det (GV (gp (mul F2.inv b g))), .det (GV (gp (mul F2.inv b g))), .det (GV (gp (add F2.inv (mul F2.inv b g) (mul F2.inv b g)))), .alloc (GC ⟨0, 0, false⟩), .store (.new 3) 0 (GC (gp (add F2.inv (mul F2.inv b g) (mul F2.inv b g)))) (GC (gp (add F2.inv (mul F2.inv b g) (mul F2.inv b g))))] [0, 1, 2, 3, 4] [0, 0, 3, 0, 15] (fun L => [RV a, RV b, .int .u64 ((n : Nat) : Int), .bool false, pt (L0.b 0) 0, pt (L0.b 1) 0, undef, undef, .bool false, pt (L3.b 5) 0, .bool true, pt (L7.b 4) 0, pt (L7.b 5) 0, pt (L.b 3) 0, undef, .bool true, .bool false, RV a, .bool true, .bool false, .bool false, RV b, .bool true, .bool false, .bool false, .tuple #[GV (gp P), .bool true], .int .u64 ((n : Nat) : Int), .tuple #[GV (gp P), .bool true], GV (gp P), .bool true, .bool false, .bool true, GV (gp g), RV a, GV (gp (mul F2.inv a g)), GV (gp (mul F2.inv a g)), .bool true, .bool false, GV (gp g), RV b, GV (gp (mul F2.inv b g)), GV ⟨0, 0, true⟩, GV (gp (mul F2.inv b g)), GV (gp (mul F2.inv b g)), GV (gp (add F2.inv (mul F2.inv b g) (mul F2.inv b g)))] ++ U 74) (fun L => [((L0.b 0), RC a), ((L0.b 1), RC b), ((L3.b 5), GC (gp (mul F2.inv a g))), ((L7.b 4), GC (gp (mul F2.inv b g))), ((L7.b 5), GC ⟨0, 0, true⟩), (L.b 3, GC (gp (add F2.inv (mul F2.inv b g) (mul F2.inv b g))))]) hp8 ⟨
    oL 3 0 rG, oL 3 0 rG, oH (v := GV (gp (add F2.inv (mul F2.inv b g) (mul F2.inv b g)))) (vs := #[GV (gp (mul F2.inv b g)), GV (gp (mul F2.inv b g))]) (fun w hb _ => g2Add K (mul F2.inv b g) (mul F2.inv b g) w (K.stay hg hb) (mul_on crv2 (gen2_on' hgn) b) (mul_on crv2 (gen2_on' hgn) b)),
    oZ rG, oT rG,
    trivial⟩ (fun L8 w9 hp9 => ?_)
  refine k12 _ _ ?_
  refine wp_seq_k (fun K13 k13 => ?_)
  refine dr [.det (GV (gp (mul F2.inv a g))), .det (GV (gp (mul F2.inv b g))), .det (GV (gp (add F2.inv (mul F2.inv a g) (mul F2.inv b g)))), .det (GV (gp (add F2.inv (mul F2.inv b g) (mul F2.inv b g)))), .det (GV (gp (add F2.inv (add F2.inv (mul F2.inv a g) (mul F2.inv b g)) (add F2.inv (mul F2.inv b g) (mul F2.inv b g))))), .det (GV (gp (mul F2.inv a g))), .det (GV (gp (mul F2.inv b g))), .det (GV (gp (add F2.inv (mul F2.inv b g) (mul F2.inv b g)))), .det (GV (gp (add F2.inv (mul F2.inv b g) (add F2.inv (mul F2.inv b g) (mul F2.inv b g))))), .det (GV (gp (add F2.inv (mul F2.inv a g) (add F2.inv (mul F2.inv b g) (add F2.inv (mul F2.inv b g) (mul F2.inv b g)))))), .det (.bool true), .det (.bool true), .det (GV (gp (mul F2.inv a g))), .det (GV (gp (mul F2.inv b g))), .det (GV (gp (add F2.inv (mul F2.inv a g) (mul F2.inv b g)))), .det (GV (gp (mul F2.inv b g))), .det (GV (gp (mul F2.inv a g))), .det (GV (gp (add F2.inv (mul F2.inv b g) (mul F2.inv a g)))), .det (.bool true), .det (.bool true), .det (.bool true), .det (GV (gp (mul F2.inv a g))), .det (GV ⟨0, 0, true⟩), .det (GV (gp (add F2.inv (mul F2.inv a g) Pt.inf))), .det (GV (gp (mul F2.inv a g))), .det (.bool true), .det (.bool true), .det (.bool true), .det (GV (gp (mul F2.inv a g))), .det (GV (gp (mul F2.inv a g))), .det (GV (gp (neg (mul F2.inv a g)))), .det (GV (gp (add F2.inv (mul F2.inv a g) (neg (mul F2.inv a g))))), .det (GV ⟨0, 0, true⟩), .det (.bool true), .det (.bool true), .det (.bool true)] [0, 1, 2, 3, 4, 5, 6, 7, 8, 9, 10, 11, 12, 13, 14, 15, 16, 17, 18, 19, 20, 21, 22, 23, 24, 25, 26, 27, 28, 29, 30, 31, 32, 33, 34, 35] [0, 0, 3, 0, 15, 0, 0, 0, 223, 511, 1023, 2047, 4095, 4095, 16383, 4095, 4095, 131071, 262143, 524287, 1048575, 2097151, 2097151, 8388607, 2097151, 33554431, 67108863, 134217727, 268435455, 268435455, 805306367, 2147483647, 268435455, 8589934591, 17179869183, 34359738367] (fun L => [RV a, RV b, .int .u64 ((n : Nat) : Int), .bool false, pt (L0.b 0) 0, pt (L0.b 1) 0, undef, undef, .bool false, pt (L3.b 5) 0, .bool true, pt (L7.b 4) 0, pt (L7.b 5) 0, pt (L8.b 3) 0, .bool true, .bool true, .bool false, RV a, .bool true, .bool false, .bool false, RV b, .bool true, .bool false, .bool false, .tuple #[GV (gp P), .bool true], .int .u64 ((n : Nat) : Int), .tuple #[GV (gp P), .bool true], GV (gp P), .bool true, .bool false, .bool true, GV (gp g), RV a, GV (gp (mul F2.inv a g)), GV (gp (mul F2.inv a g)), .bool true, .bool false, GV (gp g), RV b, GV (gp (mul F2.inv b g)), GV ⟨0, 0, true⟩, GV (gp (mul F2.inv b g)), GV (gp (mul F2.inv b g)), GV (gp (add F2.inv (mul F2.inv b g) (mul F2.inv b g))), GV (gp (mul F2.inv a g)), GV (gp (mul F2.inv b g)), GV (gp (add F2.inv (mul F2.inv a g) (mul F2.inv b g))), GV (gp (add F2.inv (mul F2.inv b g) (mul F2.inv b g))), GV (gp (add F2.inv (add F2.inv (mul F2.inv a g) (mul F2.inv b g)) (add F2.inv (mul F2.inv b g) (mul F2.inv b g)))), GV (gp (mul F2.inv a g)), GV (gp (mul F2.inv b g)), GV (gp (add F2.inv (mul F2.inv b g) (mul F2.inv b g))), GV (gp (add F2.inv (mul F2.inv b g) (add F2.inv (mul F2.inv b g) (mul F2.inv b g)))), GV (gp (add F2.inv (mul F2.inv a g) (add F2.inv (mul F2.inv b g) (add F2.inv (mul F2.inv b g) (mul F2.inv b g))))), .bool true, .bool true, GV (gp (mul F2.inv a g)), GV (gp (mul F2.inv b g)), GV (gp (add F2.inv (mul F2.inv a g) (mul F2.inv b g))), GV (gp (mul F2.inv b g)), GV (gp (mul F2.inv a g)), GV (gp (add F2.inv (mul F2.inv b g) (mul F2.inv a g))), .bool true, .bool true, .bool true, GV (gp (mul F2.inv a g)), GV ⟨0, 0, true⟩, GV (gp (add F2.inv (mul F2.inv a g) Pt.inf)), GV (gp (mul F2.inv a g)), .bool true, .bool true, .bool true, GV (gp (mul F2.inv a g)), GV (gp (mul F2.inv a g)), GV (gp (neg (mul F2.inv a g))), GV (gp (add F2.inv (mul F2.inv a g) (neg (mul F2.inv a g)))), GV ⟨0, 0, true⟩, .bool true, .bool true] ++ U 39) (fun L => [((L0.b 0), RC a), ((L0.b 1), RC b), ((L3.b 5), GC (gp (mul F2.inv a g))), ((L7.b 4), GC (gp (mul F2.inv b g))), ((L7.b 5), GC ⟨0, 0, true⟩), ((L8.b 3), GC (gp (add F2.inv (mul F2.inv b g) (mul F2.inv b g))))]) hp9 ⟨
    oL 2 0 rG, oL 3 0 rG, oH (v := GV (gp (add F2.inv (mul F2.inv a g) (mul F2.inv b g)))) (vs := #[GV (gp (mul F2.inv a g)), GV (gp (mul F2.inv b g))]) (fun w hb _ => g2Add K (mul F2.inv a g) (mul F2.inv b g) w (K.stay hg hb) (mul_on crv2 (gen2_on' hgn) a) (mul_on crv2 (gen2_on' hgn) b)),
    oL 5 0 rG, oH (v := GV (gp (add F2.inv (add F2.inv (mul F2.inv a g) (mul F2.inv b g)) (add F2.inv (mul F2.inv b g) (mul F2.inv b g))))) (vs := #[GV (gp (add F2.inv (mul F2.inv a g) (mul F2.inv b g))), GV (gp (add F2.inv (mul F2.inv b g) (mul F2.inv b g)))]) (fun w hb _ => g2Add K (add F2.inv (mul F2.inv a g) (mul F2.inv b g)) (add F2.inv (mul F2.inv b g) (mul F2.inv b g)) w (K.stay hg hb) (add_on crv2 (mul_on crv2 (gen2_on' hgn) a) (mul_on crv2 (gen2_on' hgn) b)) (add_on crv2 (mul_on crv2 (gen2_on' hgn) b) (mul_on crv2 (gen2_on' hgn) b))),
    oL 2 0 rG, oL 3 0 rG, oL 5 0 rG, oH (v := GV (gp (add F2.inv (mul F2.inv b g) (add F2.inv (mul F2.inv b g) (mul F2.inv b g))))) (vs := #[GV (gp (mul F2.inv b g)), GV (gp (add F2.inv (mul F2.inv b g) (mul F2.inv b g)))]) (fun w hb _ => g2Add K (mul F2.inv b g) (add F2.inv (mul F2.inv b g) (mul F2.inv b g)) w (K.stay hg hb) (mul_on crv2 (gen2_on' hgn) b) (add_on crv2 (mul_on crv2 (gen2_on' hgn) b) (mul_on crv2 (gen2_on' hgn) b))),
    oH (v := GV (gp (add F2.inv (mul F2.inv a g) (add F2.inv (mul F2.inv b g) (add F2.inv (mul F2.inv b g) (mul F2.inv b g)))))) (vs := #[GV (gp (mul F2.inv a g)), GV (gp (add F2.inv (mul F2.inv b g) (add F2.inv (mul F2.inv b g) (mul F2.inv b g))))]) (fun w hb _ => g2Add K (mul F2.inv a g) (add F2.inv (mul F2.inv b g) (add F2.inv (mul F2.inv b g) (mul F2.inv b g))) w (K.stay hg hb) (mul_on crv2 (gen2_on' hgn) a) (add_on crv2 (mul_on crv2 (gen2_on' hgn) b) (add_on crv2 (mul_on crv2 (gen2_on' hgn) b) (mul_on crv2 (gen2_on' hgn) b)))),
    oH (v := .bool true) (vs := #[GV (gp (add F2.inv (add F2.inv (mul F2.inv a g) (mul F2.inv b g)) (add F2.inv (mul F2.inv b g) (mul F2.inv b g)))), GV (gp (add F2.inv (mul F2.inv a g) (add F2.inv (mul F2.inv b g) (add F2.inv (mul F2.inv b g) (mul F2.inv b g)))))]) (fun w hb _ => by have h := g2Equal K (add F2.inv (add F2.inv (mul F2.inv a g) (mul F2.inv b g)) (add F2.inv (mul F2.inv b g) (mul F2.inv b g))) (add F2.inv (mul F2.inv a g) (add F2.inv (mul F2.inv b g) (add F2.inv (mul F2.inv b g) (mul F2.inv b g)))) w (K.stay hg hb); rw [decide_eq_true (show (add F2.inv (add F2.inv (mul F2.inv a g) (mul F2.inv b g)) (add F2.inv (mul F2.inv b g) (mul F2.inv b g))) = (add F2.inv (mul F2.inv a g) (add F2.inv (mul F2.inv b g) (add F2.inv (mul F2.inv b g) (mul F2.inv b g)))) from add_assoc crv2 (mul_on crv2 (gen2_on' hgn) a) (mul_on crv2 (gen2_on' hgn) b) (add_on crv2 (mul_on crv2 (gen2_on' hgn) b) (mul_on crv2 (gen2_on' hgn) b)))] at h; exact h),
    oM, oL 2 0 rG, oL 3 0 rG, oH (v := GV (gp (add F2.inv (mul F2.inv a g) (mul F2.inv b g)))) (vs := #[GV (gp (mul F2.inv a g)), GV (gp (mul F2.inv b g))]) (fun w hb _ => g2Add K (mul F2.inv a g) (mul F2.inv b g) w (K.stay hg hb) (mul_on crv2 (gen2_on' hgn) a) (mul_on crv2 (gen2_on' hgn) b)),
    oL 3 0 rG, oL 2 0 rG, oH (v := GV (gp (add F2.inv (mul F2.inv b g) (mul F2.inv a g)))) (vs := #[GV (gp (mul F2.inv b g)), GV (gp (mul F2.inv a g))]) (fun w hb _ => g2Add K (mul F2.inv b g) (mul F2.inv a g) w (K.stay hg hb) (mul_on crv2 (gen2_on' hgn) b) (mul_on crv2 (gen2_on' hgn) a)),
    oH (v := .bool true) (vs := #[GV (gp (add F2.inv (mul F2.inv a g) (mul F2.inv b g))), GV (gp (add F2.inv (mul F2.inv b g) (mul F2.inv a g)))]) (fun w hb _ => by have h := g2Equal K (add F2.inv (mul F2.inv a g) (mul F2.inv b g)) (add F2.inv (mul F2.inv b g) (mul F2.inv a g)) w (K.stay hg hb); rw [decide_eq_true (show (add F2.inv (mul F2.inv a g) (mul F2.inv b g)) = (add F2.inv (mul F2.inv b g) (mul F2.inv a g)) from add_comm crv2 (mul_on crv2 (gen2_on' hgn) a) (mul_on crv2 (gen2_on' hgn) b))] at h; exact h),
    oP, oM, oL 2 0 rG, oL 4 0 rG, oH (v := GV (gp (add F2.inv (mul F2.inv a g) Pt.inf))) (vs := #[GV (gp (mul F2.inv a g)), GV ⟨0, 0, true⟩]) (fun w hb _ => g2Add K (mul F2.inv a g) Pt.inf w (K.stay hg hb) (mul_on crv2 (gen2_on' hgn) a) (trivial : On b2 Pt.inf)),
    oL 2 0 rG, oH (v := .bool true) (vs := #[GV (gp (add F2.inv (mul F2.inv a g) Pt.inf)), GV (gp (mul F2.inv a g))]) (fun w hb _ => by have h := g2Equal K (add F2.inv (mul F2.inv a g) Pt.inf) (mul F2.inv a g) w (K.stay hg hb); rw [decide_eq_true (show (add F2.inv (mul F2.inv a g) Pt.inf) = (mul F2.inv a g) from add_inf F2.inv (mul F2.inv a g))] at h; exact h),
    oP, oM, oL 2 0 rG, oL 2 0 rG, oC K.stay hg (g2Neg K (mul F2.inv a g)), oH (v := GV (gp (add F2.inv (mul F2.inv a g) (neg (mul F2.inv a g))))) (vs := #[GV (gp (mul F2.inv a g)), GV (gp (neg (mul F2.inv a g)))]) (fun w hb _ => g2Add K (mul F2.inv a g) (neg (mul F2.inv a g)) w (K.stay hg hb) (mul_on crv2 (gen2_on' hgn) a) (neg_on (mul_on crv2 (gen2_on' hgn) a))),
    oL 4 0 rG, oH (v := .bool true) (vs := #[GV (gp (add F2.inv (mul F2.inv a g) (neg (mul F2.inv a g)))), GV ⟨0, 0, true⟩]) (fun w hb _ => by have h := g2Equal K (add F2.inv (mul F2.inv a g) (neg (mul F2.inv a g))) Pt.inf w (K.stay hg hb); rw [decide_eq_true (show (add F2.inv (mul F2.inv a g) (neg (mul F2.inv a g))) = Pt.inf from add_neg)] at h; exact h),
    oP, oA,
    trivial⟩ (fun L9 w10 hp10 => ?_)
  refine k13 _ _ ?_
  refine wp_seq_k (fun K14 k14 => ?_)
  refine wp_seq_k (fun K15 k15 => ?_)
  refine gs [.det (.bool false)] [0] [0] (fun L => [RV a, RV b, .int .u64 ((n : Nat) : Int), .bool false, pt (L0.b 0) 0, pt (L0.b 1) 0, undef, undef, .bool false, pt (L3.b 5) 0, .bool true, pt (L7.b 4) 0, pt (L7.b 5) 0, pt (L8.b 3) 0, .bool true, .bool true, .bool false, RV a, .bool true, .bool false, .bool false, RV b, .bool true, .bool false, .bool false, .tuple #[GV (gp P), .bool true], .int .u64 ((n : Nat) : Int), .tuple #[GV (gp P), .bool true], GV (gp P), .bool true, .bool false, .bool true, GV (gp g), RV a, GV (gp (mul F2.inv a g)), GV (gp (mul F2.inv a g)), .bool true, .bool false, GV (gp g), RV b, GV (gp (mul F2.inv b g)), GV ⟨0, 0, true⟩, GV (gp (mul F2.inv b g)), GV (gp (mul F2.inv b g)), GV (gp (add F2.inv (mul F2.inv b g) (mul F2.inv b g))), GV (gp (mul F2.inv a g)), GV (gp (mul F2.inv b g)), GV (gp (add F2.inv (mul F2.inv a g) (mul F2.inv b g))), GV (gp (add F2.inv (mul F2.inv b g) (mul F2.inv b g))), GV (gp (add F2.inv (add F2.inv (mul F2.inv a g) (mul F2.inv b g)) (add F2.inv (mul F2.inv b g) (mul F2.inv b g)))), GV (gp (mul F2.inv a g)), GV (gp (mul F2.inv b g)), GV (gp (add F2.inv (mul F2.inv b g) (mul F2.inv b g))), GV (gp (add F2.inv (mul F2.inv b g) (add F2.inv (mul F2.inv b g) (mul F2.inv b g)))), GV (gp (add F2.inv (mul F2.inv a g) (add F2.inv (mul F2.inv b g) (add F2.inv (mul F2.inv b g) (mul F2.inv b g))))), .bool true, .bool true, GV (gp (mul F2.inv a g)), GV (gp (mul F2.inv b g)), GV (gp (add F2.inv (mul F2.inv a g) (mul F2.inv b g))), GV (gp (mul F2.inv b g)), GV (gp (mul F2.inv a g)), GV (gp (add F2.inv (mul F2.inv b g) (mul F2.inv a g))), .bool true, .bool true, .bool true, GV (gp (mul F2.inv a g)), GV ⟨0, 0, true⟩, GV (gp (add F2.inv (mul F2.inv a g) Pt.inf)), GV (gp (mul F2.inv a g)), .bool true, .bool true, .bool true, GV (gp (mul F2.inv a g)), GV (gp (mul F2.inv a g)), GV (gp (neg (mul F2.inv a g))), GV (gp (add F2.inv (mul F2.inv a g) (neg (mul F2.inv a g)))), GV ⟨0, 0, true⟩, .bool true, .bool true, .bool false] ++ U 38) (fun L => [((L0.b 0), RC a), ((L0.b 1), RC b), ((L3.b 5), GC (gp (mul F2.inv a g))), ((L7.b 4), GC (gp (mul F2.inv b g))), ((L7.b 5), GC ⟨0, 0, true⟩), ((L8.b 3), GC (gp (add F2.inv (mul F2.inv b g) (mul F2.inv b g))))]) hp10 ⟨
    oM,
    trivial⟩ (fun L10 w11 hp11 => ?_)
  refine k15 _ _ ?_
  refine wp_cond_false (by kernel_rfl) ?_
  refine skips ?_
  refine k14 _ _ ?_
  refine wp_seq_k (fun K16 k16 => ?_)
  refine dr [.det (.bool true), .det (.bool true), .det (GV (gp (mul F2.inv a g))), .det (GV (gp (mul F2.inv b g))), .det (GV (gp (add F2.inv (mul F2.inv a g) (mul F2.inv b g)))), .det (GV (gp g)), .det (RV a), .det (RV b), .det (RV ((a + b) % ordR)), .det (GV (gp (mul F2.inv ((a + b) % ordR) g))), .det (.bool true), .det (.bool true), .det (.bool true), .det (GV (gp (mul F2.inv a g))), .det (RV b), .det (GV (gp (mul F2.inv b (mul F2.inv a g)))), .det (GV (gp g)), .det (RV a), .det (RV b), .det (RV ((a * b) % ordR)), .det (GV (gp (mul F2.inv ((a * b) % ordR) g))), .det (.bool true), .det (.bool true), .det (.bool true), .det (GV (gp (mul F2.inv a g))), .det (.bool true), .det (.bool true), .det (.bool true)] [0, 1, 2, 3, 4, 5, 6, 7, 8, 9, 10, 11, 12, 13, 14, 15, 16, 17, 18, 19, 20, 21, 22, 23, 24, 25, 26, 27] [0, 1, 3, 3, 15, 31, 3, 3, 255, 511, 1023, 2047, 4095, 8191, 8191, 32767, 65535, 8191, 8191, 524287, 1048575, 2097151, 4194303, 8388607, 16777215, 33554431, 67108863, 134217727] (fun L => [RV a, RV b, .int .u64 ((n : Nat) : Int), .bool false, pt (L0.b 0) 0, pt (L0.b 1) 0, undef, undef, .bool true, pt (L3.b 5) 0, .bool true, pt (L7.b 4) 0, pt (L7.b 5) 0, pt (L8.b 3) 0, .bool true, .bool true, .bool false, RV a, .bool true, .bool false, .bool false, RV b, .bool true, .bool false, .bool false, .tuple #[GV (gp P), .bool true], .int .u64 ((n : Nat) : Int), .tuple #[GV (gp P), .bool true], GV (gp P), .bool true, .bool false, .bool true, GV (gp g), RV a, GV (gp (mul F2.inv a g)), GV (gp (mul F2.inv a g)), .bool true, .bool false, GV (gp g), RV b, GV (gp (mul F2.inv b g)), GV ⟨0, 0, true⟩, GV (gp (mul F2.inv b g)), GV (gp (mul F2.inv b g)), GV (gp (add F2.inv (mul F2.inv b g) (mul F2.inv b g))), GV (gp (mul F2.inv a g)), GV (gp (mul F2.inv b g)), GV (gp (add F2.inv (mul F2.inv a g) (mul F2.inv b g))), GV (gp (add F2.inv (mul F2.inv b g) (mul F2.inv b g))), GV (gp (add F2.inv (add F2.inv (mul F2.inv a g) (mul F2.inv b g)) (add F2.inv (mul F2.inv b g) (mul F2.inv b g)))), GV (gp (mul F2.inv a g)), GV (gp (mul F2.inv b g)), GV (gp (add F2.inv (mul F2.inv b g) (mul F2.inv b g))), GV (gp (add F2.inv (mul F2.inv b g) (add F2.inv (mul F2.inv b g) (mul F2.inv b g)))), GV (gp (add F2.inv (mul F2.inv a g) (add F2.inv (mul F2.inv b g) (add F2.inv (mul F2.inv b g) (mul F2.inv b g))))), .bool true, .bool true, GV (gp (mul F2.inv a g)), GV (gp (mul F2.inv b g)), GV (gp (add F2.inv (mul F2.inv a g) (mul F2.inv b g))), GV (gp (mul F2.inv b g)), GV (gp (mul F2.inv a g)), GV (gp (add F2.inv (mul F2.inv b g) (mul F2.inv a g))), .bool true, .bool true, .bool true, GV (gp (mul F2.inv a g)), GV ⟨0, 0, true⟩, GV (gp (add F2.inv (mul F2.inv a g) Pt.inf)), GV (gp (mul F2.inv a g)), .bool true, .bool true, .bool true, GV (gp (mul F2.inv a g)), GV (gp (mul F2.inv a g)), GV (gp (neg (mul F2.inv a g))), GV (gp (add F2.inv (mul F2.inv a g) (neg (mul F2.inv a g)))), GV ⟨0, 0, true⟩, .bool true, .bool true, .bool false, undef, undef, undef, undef, undef, undef, undef, undef, undef, undef, undef, .bool true, .bool true, GV (gp (mul F2.inv a g)), GV (gp (mul F2.inv b g)), GV (gp (add F2.inv (mul F2.inv a g) (mul F2.inv b g))), GV (gp g), RV a, RV b, RV ((a + b) % ordR), GV (gp (mul F2.inv ((a + b) % ordR) g)), .bool true, .bool true, .bool true, GV (gp (mul F2.inv a g)), RV b, GV (gp (mul F2.inv b (mul F2.inv a g))), GV (gp g), RV a, RV b, RV ((a * b) % ordR), GV (gp (mul F2.inv ((a * b) % ordR) g)), .bool true, .bool true, .bool true, GV (gp (mul F2.inv a g)), .bool true, .bool true]) (fun L => [((L0.b 0), RC a), ((L0.b 1), RC b), ((L3.b 5), GC (gp (mul F2.inv a g))), ((L7.b 4), GC (gp (mul F2.inv b g))), ((L7.b 5), GC ⟨0, 0, true⟩), ((L8.b 3), GC (gp (add F2.inv (mul F2.inv b g) (mul F2.inv b g))))]) hp11 ⟨
    oM, oM, oL 2 0 rG, oL 3 0 rG, oH (v := GV (gp (add F2.inv (mul F2.inv a g) (mul F2.inv b g)))) (vs := #[GV (gp (mul F2.inv a g)), GV (gp (mul F2.inv b g))]) (fun w hb _ => g2Add K (mul F2.inv a g) (mul F2.inv b g) w (K.stay hg hb) (mul_on crv2 (gen2_on' hgn) a) (mul_on crv2 (gen2_on' hgn) b)),
    oH (v := GV (gp g)) (vs := #[]) (fun w hb _ => by have h := g2One K w (K.stay hg hb); rw [← hgn] at h; exact h), oL 0 0 rR, oL 1 0 rR, oR (addR ha hb), oH (v := GV (gp (mul F2.inv ((a + b) % ordR) g))) (vs := #[GV (gp g), RV ((a + b) % ordR)]) (fun w hb _ => g2Mul K g ((a + b) % ordR) w (K.stay hg hb) (gen2_on' hgn) (modR _)),
    oH (v := .bool true) (vs := #[GV (gp (add F2.inv (mul F2.inv a g) (mul F2.inv b g))), GV (gp (mul F2.inv ((a + b) % ordR) g))]) (fun w hb _ => by have h := g2Equal K (add F2.inv (mul F2.inv a g) (mul F2.inv b g)) (mul F2.inv ((a + b) % ordR) g) w (K.stay hg hb); rw [decide_eq_true (show (add F2.inv (mul F2.inv a g) (mul F2.inv b g)) = (mul F2.inv ((a + b) % ordR) g) from sumR hgn a b)] at h; exact h),
    oP, oM, oL 2 0 rG, oL 1 0 rR, oH (v := GV (gp (mul F2.inv b (mul F2.inv a g)))) (vs := #[GV (gp (mul F2.inv a g)), RV b]) (fun w hb _ => g2Mul K (mul F2.inv a g) b w (K.stay hg hb) (mul_on crv2 (gen2_on' hgn) a) hb6),
    oH (v := GV (gp g)) (vs := #[]) (fun w hb _ => by have h := g2One K w (K.stay hg hb); rw [← hgn] at h; exact h), oL 0 0 rR, oL 1 0 rR, oR (mulR ha hb), oH (v := GV (gp (mul F2.inv ((a * b) % ordR) g))) (vs := #[GV (gp g), RV ((a * b) % ordR)]) (fun w hb _ => g2Mul K g ((a * b) % ordR) w (K.stay hg hb) (gen2_on' hgn) (modR _)),
    oH (v := .bool true) (vs := #[GV (gp (mul F2.inv b (mul F2.inv a g))), GV (gp (mul F2.inv ((a * b) % ordR) g))]) (fun w hb _ => by have h := g2Equal K (mul F2.inv b (mul F2.inv a g)) (mul F2.inv ((a * b) % ordR) g) w (K.stay hg hb); rw [decide_eq_true (show (mul F2.inv b (mul F2.inv a g)) = (mul F2.inv ((a * b) % ordR) g) from mulRg hgn a b)] at h; exact h),
    oP, oM, oL 2 0 rG, oH (v := .bool true) (vs := #[GV (gp (mul F2.inv a g))]) (fun w hb _ => by have h := g2In K (mul F2.inv a g) w (K.stay hg hb) (mul_on crv2 (gen2_on' hgn) a); rw [decide_eq_true (show mul F2.inv ordR (mul F2.inv a g) = .inf from in_mul hgn a)] at h; exact h),
    oP, oA,
    trivial⟩ (fun L11 w12 hp12 => ?_)
  refine k16 _ _ ?_
  refine wp_ret ?_
  refine bodyPost_ret (v := .bool true) ?_ rfl ?_
  · exact res_t rfl (by kernel_rfl) _
  · exact ⟨rfl, hp12.bel⟩
set_option maxHeartbeats 4000000 in
theorem grpH {G : World → Prop} (K : FpK G) (R : RefK) (g P : Pt F2) (a b n : Nat) (w : World) (hg : G w) (hgn : g = gen2) (hB : ∀ w, G w → Calls Tryd.prog 9 #[] w (Ret (.bool true) w)) (ha6 : a < 2 ^ 256) (hb6 : b < 2 ^ 256) (ha : a < ordR) (hb : b < ordR) (hO : ∀ w, Calls Tryd.prog 25 #[.int .u64 ((n : Nat) : Int)] w (Ret (.tuple #[GV ⟨0, 0, false⟩, .bool false]) w)) : Calls Tryd.prog 6 #[RV a, RV b, .int .u64 ((n : Nat) : Int), .bool false] w (Ret (.bool true) w) := by
  have hp0 := Heap.start w
  go_enter Tryd.func6, Tryd.ntmps6
  refine wp_seq_k (fun K1 k1 => ?_)
  refine gs [.alloc (RC a), .alloc (RC b), .det (.bool false)] [0, 1, 2] [0, 0, 0] (fun L => [RV a, RV b, .int .u64 ((n : Nat) : Int), .bool false, pt (L.b 0) 0, pt (L.b 1) 0, undef, undef, .bool false] ++ U 110) (fun L => [(L.b 0, RC a), (L.b 1, RC b)]) hp0 ⟨
    oB, oB, oA,
    trivial⟩ (fun L0 w1 hp1 => ?_)
  refine k1 _ _ ?_
  refine wp_seq_k (fun K2 k2 => ?_)
  refine wp_seq_k (fun K3 k3 => ?_)
  refine gs [.det (.bool true), .det (.bool false)] [0, 1] [0, 1] (fun L => [RV a, RV b, .int .u64 ((n : Nat) : Int), .bool false, pt (L0.b 0) 0, pt (L0.b 1) 0, undef, undef, .bool false, undef, undef, undef, undef, undef, undef, .bool true, .bool false] ++ U 102) (fun L => [((L0.b 0), RC a), ((L0.b 1), RC b)]) hp1 ⟨
    oC K.stay hg hB, oN,
    trivial⟩ (fun L1 w2 hp2 => ?_)
  refine k3 _ _ ?_
  refine wp_cond_false (by kernel_rfl) ?_
  refine skips ?_
  refine k2 _ _ ?_
  refine wp_seq_k (fun K4 k4 => ?_)
  refine wp_seq_k (fun K5 k5 => ?_)
  refine gs [.det (RV a), .det (.bool true), .det (.bool false), .det (.bool false), .det (RV b), .det (.bool true), .det (.bool false), .det (.bool false)] [0, 1, 2, 3, 4, 5, 6, 7] [0, 1, 3, 7, 15, 31, 63, 127] (fun L => [RV a, RV b, .int .u64 ((n : Nat) : Int), .bool false, pt (L0.b 0) 0, pt (L0.b 1) 0, undef, undef, .bool false, undef, undef, undef, undef, undef, undef, .bool true, .bool false, RV a, .bool true, .bool false, .bool false, RV b, .bool true, .bool false, .bool false] ++ U 94) (fun L => [((L0.b 0), RC a), ((L0.b 1), RC b)]) hp2 ⟨
    oL 0 0 rR, oH (v := .bool true) (vs := #[RV a]) (fun w _ _ => by have h := mayR ha6 w; rw [decide_eq_true ha] at h; exact h), oN, oM, oL 1 0 rR, oH (v := .bool true) (vs := #[RV b]) (fun w _ _ => by have h := mayR hb6 w; rw [decide_eq_true hb] at h; exact h),
    oN, oP,
    trivial⟩ (fun L2 w3 hp3 => ?_)
  refine k5 _ _ ?_
  refine wp_cond_false (by kernel_rfl) ?_
  refine skips ?_
  refine k4 _ _ ?_
  refine wp_seq_k (fun K6 k6 => ?_)
  refine gs [.det (.int .u64 ((n : Nat) : Int)), .det (.tuple #[GV ⟨0, 0, false⟩, .bool false]), .det (.tuple #[GV ⟨0, 0, false⟩, .bool false]), .det (GV ⟨0, 0, false⟩), .det (.bool false), .alloc (GC ⟨0, 0, false⟩), .store (.new 5) 0 (GC ⟨0, 0, false⟩) (GC ⟨0, 0, false⟩), .det (.bool false)] [0, 1, 2, 3, 4, 5, 6, 7] [0, 1, 3, 7, 7, 0, 47, 127] (fun L => [RV a, RV b, .int .u64 ((n : Nat) : Int), .bool false, pt (L0.b 0) 0, pt (L0.b 1) 0, undef, undef, .bool false, pt (L.b 5) 0, .bool false, undef, undef, undef, undef, .bool true, .bool false, RV a, .bool true, .bool false, .bool false, RV b, .bool true, .bool false, .bool false, .tuple #[GV ⟨0, 0, false⟩, .bool false], .int .u64 ((n : Nat) : Int), .tuple #[GV ⟨0, 0, false⟩, .bool false], GV ⟨0, 0, false⟩, .bool false] ++ U 89) (fun L => [((L0.b 0), RC a), ((L0.b 1), RC b), (L.b 5, GC ⟨0, 0, false⟩)]) hp3 ⟨
    oM, oR hO, oM, oX, oX, oZ rG, oT rG, oA,
    trivial⟩ (fun L3 w4 hp4 => ?_)
  refine k6 _ _ ?_
  refine wp_seq_k (fun K7 k7 => ?_)
  refine wp_seq_k (fun K8 k8 => ?_)
  refine gs [.det (.bool false), .det (.bool true)] [0, 1] [0, 1] (fun L => [RV a, RV b, .int .u64 ((n : Nat) : Int), .bool false, pt (L0.b 0) 0, pt (L0.b 1) 0, undef, undef, .bool false, pt (L3.b 5) 0, .bool false, undef, undef, undef, undef, .bool true, .bool false, RV a, .bool true, .bool false, .bool false, RV b, .bool true, .bool false, .bool false, .tuple #[GV ⟨0, 0, false⟩, .bool false], .int .u64 ((n : Nat) : Int), .tuple #[GV ⟨0, 0, false⟩, .bool false], GV ⟨0, 0, false⟩, .bool false, .bool false, .bool true] ++ U 87) (fun L => [((L0.b 0), RC a), ((L0.b 1), RC b), ((L3.b 5), GC ⟨0, 0, false⟩)]) hp4 ⟨
    oM, oN,
    trivial⟩ (fun L4 w5 hp5 => ?_)
  refine k8 _ _ ?_
  refine wp_cond_true (by kernel_rfl) ?_
  refine dr [.det (GV (gp g)), .det (RV a), .det (GV (gp (mul F2.inv a g))), .store (.base 2) 0 (GC (gp (mul F2.inv a g))) (GC (gp (mul F2.inv a g)))] [0, 1, 2, 3] [0, 0, 3, 7] (fun L => [RV a, RV b, .int .u64 ((n : Nat) : Int), .bool false, pt (L0.b 0) 0, pt (L0.b 1) 0, undef, undef, .bool false, pt (L3.b 5) 0, .bool false, undef, undef, undef, undef, .bool true, .bool false, RV a, .bool true, .bool false, .bool false, RV b, .bool true, .bool false, .bool false, .tuple #[GV ⟨0, 0, false⟩, .bool false], .int .u64 ((n : Nat) : Int), .tuple #[GV ⟨0, 0, false⟩, .bool false], GV ⟨0, 0, false⟩, .bool false, .bool false, .bool true, GV (gp g), RV a, GV (gp (mul F2.inv a g))] ++ U 84) (fun L => [((L0.b 0), RC a), ((L0.b 1), RC b), ((L3.b 5), GC (gp (mul F2.inv a g)))]) hp5 ⟨
    oH (v := GV (gp g)) (vs := #[]) (fun w hb _ => by have h := g2One K w (K.stay hg hb); rw [← hgn] at h; exact h), oL 0 0 rR, oH (v := GV (gp (mul F2.inv a g))) (vs := #[GV (gp g), RV a]) (fun w hb _ => g2Mul K g a w (K.stay hg hb) (gen2_on' hgn) ha6),
    oT rG,
    trivial⟩ (fun L5 w6 hp6 => ?_)
  refine k7 _ _ ?_
  refine wp_seq_k (fun K9 k9 => ?_)
  refine wp_seq_k (fun K10 k10 => ?_)
  refine gs [.det (GV (gp (mul F2.inv a g))), .det (.bool true), .det (.bool false)] [0, 1, 2] [0, 1, 3] (fun L => [RV a, RV b, .int .u64 ((n : Nat) : Int), .bool false, pt (L0.b 0) 0, pt (L0.b 1) 0, undef, undef, .bool false, pt (L3.b 5) 0, .bool false, undef, undef, undef, undef, .bool true, .bool false, RV a, .bool true, .bool false, .bool false, RV b, .bool true, .bool false, .bool false, .tuple #[GV ⟨0, 0, false⟩, .bool false], .int .u64 ((n : Nat) : Int), .tuple #[GV ⟨0, 0, false⟩, .bool false], GV ⟨0, 0, false⟩, .bool false, .bool false, .bool true, GV (gp g), RV a, GV (gp (mul F2.inv a g)), GV (gp (mul F2.inv a g)), .bool true, .bool false] ++ U 81) (fun L => [((L0.b 0), RC a), ((L0.b 1), RC b), ((L3.b 5), GC (gp (mul F2.inv a g)))]) hp6 ⟨
    oL 2 0 rG, oH (v := .bool true) (vs := #[GV (gp (mul F2.inv a g))]) (fun w hb _ => g2On K (mul F2.inv a g) w (K.stay hg hb) (mul_on crv2 (gen2_on' hgn) a)),
    oN,
    trivial⟩ (fun L6 w7 hp7 => ?_)
  refine k10 _ _ ?_
  refine wp_cond_false (by kernel_rfl) ?_
  refine skips ?_
  refine k9 _ _ ?_
  refine wp_seq_k (fun K11 k11 => ?_)
  refine dr [.det (GV (gp g)), .det (RV b), .det (GV (gp (mul F2.inv b g))), .det (GV ⟨0, 0, true⟩), .alloc (GC ⟨0, 0, false⟩), .alloc (GC ⟨0, 0, false⟩), .store (.new 4) 0 (GC (gp (mul F2.inv b g))) (GC (gp (mul F2.inv b g))), .store (.new 5) 0 (GC ⟨0, 0, true⟩) (GC ⟨0, 0, true⟩)] [0, 1, 2, 3, 4, 5, 6, 7] [0, 0, 3, 0, 0, 0, 55, 127] (fun L => [RV a, RV b, .int .u64 ((n : Nat) : Int), .bool false, pt (L0.b 0) 0, pt (L0.b 1) 0, undef, undef, .bool false, pt (L3.b 5) 0, .bool false, pt (L.b 4) 0, pt (L.b 5) 0, undef, undef, .bool true, .bool false, RV a, .bool true, .bool false, .bool false, RV b, .bool true, .bool false, .bool false, .tuple #[GV ⟨0, 0, false⟩, .bool false], .int .u64 ((n : Nat) : Int), .tuple #[GV ⟨0, 0, false⟩, .bool false], GV ⟨0, 0, false⟩, .bool false, .bool false, .bool true, GV (gp g), RV a, GV (gp (mul F2.inv a g)), GV (gp (mul F2.inv a g)), .bool true, .bool false, GV (gp g), RV b, GV (gp (mul F2.inv b g)), GV ⟨0, 0, true⟩] ++ U 77) (fun L => [((L0.b 0), RC a), ((L0.b 1), RC b), ((L3.b 5), GC (gp (mul F2.inv a g))), (L.b 4, GC (gp (mul F2.inv b g))), (L.b 5, GC ⟨0, 0, true⟩)]) hp7 ⟨
    oH (v := GV (gp g)) (vs := #[]) (fun w hb _ => by have h := g2One K w (K.stay hg hb); rw [← hgn] at h; exact h), oL 1 0 rR, oH (v := GV (gp (mul F2.inv b g))) (vs := #[GV (gp g), RV b]) (fun w hb _ => g2Mul K g b w (K.stay hg hb) (gen2_on' hgn) hb6),
    oD (buildGi true), oZ rG, oZ rG, oT rG, oT rG,
    trivial⟩ (fun L7 w8 hp8 => ?_)
  refine k11 _ _ ?_
  refine wp_seq_k (fun K12 k12 => ?_)
  refine gs [.det (GV (gp (mul F2.inv b g))), .det (GV (gp (mul F2.inv b g))), .det (GV (gp (add F2.inv (mul F2.inv b g) (mul F2.inv b g)))), .alloc (GC ⟨0, 0, false⟩), .store (.new 3) 0 (GC (gp (add F2.inv (mul F2.inv b g) (mul F2.inv b g)))) (GC (gp (add F2.inv (mul F2.inv b g) (mul F2.inv b g))))] [0, 1, 2, 3, 4] [0, 0, 3, 0, 15] (fun L => [RV a, RV b, .int .u64 ((n : Nat) : Int), .bool false, pt (L0.b 0) 0, pt (L0.b 1) 0, undef, undef, .bool false, pt (L3.b 5) 0, .bool false, pt (L7.b 4) 0, pt (L7.b 5) 0, pt (L.b 3) 0, undef, .bool true, .bool false, RV a, .bool true, .bool false, .bool false, RV b, .bool true, .bool false, .bool false, .tuple #[GV ⟨0, 0, false⟩, .bool false], .int .u64 ((n : Nat) : Int), .tuple #[GV ⟨0, 0, false⟩, .bool false], GV ⟨0, 0, false⟩, .bool false, .bool false, .bool true, GV (gp g), RV a, GV (gp (mul F2.inv a g)), GV (gp (mul F2.inv a g)), .bool true, .bool false, GV (gp g), RV b, GV (gp (mul F2.inv b g)), GV ⟨0, 0, true⟩, GV (gp (mul F2.inv b g)), GV (gp (mul F2.inv b g)), GV (gp (add F2.inv (mul F2.inv b g) (mul F2.inv b g)))] ++ U 74) (fun L => [((L0.b 0), RC a), ((L0.b 1), RC b), ((L3.b 5), GC (gp (mul F2.inv a g))), ((L7.b 4), GC (gp (mul F2.inv b g))), ((L7.b 5), GC ⟨0, 0, true⟩), (L.b 3, GC (gp (add F2.inv (mul F2.inv b g) (mul F2.inv b g))))]) hp8 ⟨
    oL 3 0 rG, oL 3 0 rG, oH (v := GV (gp (add F2.inv (mul F2.inv b g) (mul F2.inv b g)))) (vs := #[GV (gp (mul F2.inv b g)), GV (gp (mul F2.inv b g))]) (fun w hb _ => g2Add K (mul F2.inv b g) (mul F2.inv b g) w (K.stay hg hb) (mul_on crv2 (gen2_on' hgn) b) (mul_on crv2 (gen2_on' hgn) b)),
    oZ rG, oT rG,
    trivial⟩ (fun L8 w9 hp9 => ?_)
  refine k12 _ _ ?_
  refine wp_seq_k (fun K13 k13 => ?_)
  refine dr [.det (GV (gp (mul F2.inv a g))), .det (GV (gp (mul F2.inv b g))), .det (GV (gp (add F2.inv (mul F2.inv a g) (mul F2.inv b g)))), .det (GV (gp (add F2.inv (mul F2.inv b g) (mul F2.inv b g)))), .det (GV (gp (add F2.inv (add F2.inv (mul F2.inv a g) (mul F2.inv b g)) (add F2.inv (mul F2.inv b g) (mul F2.inv b g))))), .det (GV (gp (mul F2.inv a g))), .det (GV (gp (mul F2.inv b g))), .det (GV (gp (add F2.inv (mul F2.inv b g) (mul F2.inv b g)))), .det (GV (gp (add F2.inv (mul F2.inv b g) (add F2.inv (mul F2.inv b g) (mul F2.inv b g))))), .det (GV (gp (add F2.inv (mul F2.inv a g) (add F2.inv (mul F2.inv b g) (add F2.inv (mul F2.inv b g) (mul F2.inv b g)))))), .det (.bool true), .det (.bool true), .det (GV (gp (mul F2.inv a g))), .det (GV (gp (mul F2.inv b g))), .det (GV (gp (add F2.inv (mul F2.inv a g) (mul F2.inv b g)))), .det (GV (gp (mul F2.inv b g))), .det (GV (gp (mul F2.inv a g))), .det (GV (gp (add F2.inv (mul F2.inv b g) (mul F2.inv a g)))), .det (.bool true), .det (.bool true), .det (.bool true), .det (GV (gp (mul F2.inv a g))), .det (GV ⟨0, 0, true⟩), .det (GV (gp (add F2.inv (mul F2.inv a g) Pt.inf))), .det (GV (gp (mul F2.inv a g))), .det (.bool true), .det (.bool true), .det (.bool true), .det (GV (gp (mul F2.inv a g))), .det (GV (gp (mul F2.inv a g))), .det (GV (gp (neg (mul F2.inv a g)))), .det (GV (gp (add F2.inv (mul F2.inv a g) (neg (mul F2.inv a g))))), .det (GV ⟨0, 0, true⟩), .det (.bool true), .det (.bool true), .det (.bool true)] [0, 1, 2, 3, 4, 5, 6, 7, 8, 9, 10, 11, 12, 13, 14, 15, 16, 17, 18, 19, 20, 21, 22, 23, 24, 25, 26, 27, 28, 29, 30, 31, 32, 33, 34, 35] [0, 0, 3, 0, 15, 0, 0, 0, 223, 511, 1023, 2047, 4095, 4095, 16383, 4095, 4095, 131071, 262143, 524287, 1048575, 2097151, 2097151, 8388607, 2097151, 33554431, 67108863, 134217727, 268435455, 268435455, 805306367, 2147483647, 268435455, 8589934591, 17179869183, 34359738367] (fun L => [RV a, RV b, .int .u64 ((n : Nat) : Int), .bool false, pt (L0.b 0) 0, pt (L0.b 1) 0, undef, undef, .bool false, pt (L3.b 5) 0, .bool false, pt (L7.b 4) 0, pt (L7.b 5) 0, pt (L8.b 3) 0, .bool true, .bool true, .bool false, RV a, .bool true, .bool false, .bool false, RV b, .bool true, .bool false, .bool false, .tuple #[GV ⟨0, 0, false⟩, .bool false], .int .u64 ((n : Nat) : Int), .tuple #[GV ⟨0, 0, false⟩, .bool false], GV ⟨0, 0, false⟩, .bool false, .bool false, .bool true, GV (gp g), RV a, GV (gp (mul F2.inv a g)), GV (gp (mul F2.inv a g)), .bool true, .bool false, GV (gp g), RV b, GV (gp (mul F2.inv b g)), GV ⟨0, 0, true⟩, GV (gp (mul F2.inv b g)), GV (gp (mul F2.inv b g)), GV (gp (add F2.inv (mul F2.inv b g) (mul F2.inv b g))), GV (gp (mul F2.inv a g)), GV (gp (mul F2.inv b g)), GV (gp (add F2.inv (mul F2.inv a g) (mul F2.inv b g))), GV (gp (add F2.inv (mul F2.inv b g) (mul F2.inv b g))), GV (gp (add F2.inv (add F2.inv (mul F2.inv a g) (mul F2.inv b g)) (add F2.inv (mul F2.inv b g) (mul F2.inv b g)))), GV (gp (mul F2.inv a g)), GV (gp (mul F2.inv b g)), GV (gp (add F2.inv (mul F2.inv b g) (mul F2.inv b g))), GV (gp (add F2.inv (mul F2.inv b g) (add F2.inv (mul F2.inv b g) (mul F2.inv b g)))), GV (gp (add F2.inv (mul F2.inv a g) (add F2.inv (mul F2.inv b g) (add F2.inv (mul F2.inv b g) (mul F2.inv b g))))), .bool true, .bool true, GV (gp (mul F2.inv a g)), GV (gp (mul F2.inv b g)), GV (gp (add F2.inv (mul F2.inv a g) (mul F2.inv b g))), GV (gp (mul F2.inv b g)), GV (gp (mul F2.inv a g)), GV (gp (add F2.inv (mul F2.inv b g) (mul F2.inv a g))), .bool true, .bool true, .bool true, GV (gp (mul F2.inv a g)), GV ⟨0, 0, true⟩, GV (gp (add F2.inv (mul F2.inv a g) Pt.inf)), GV (gp (mul F2.inv a g)), .bool true, .bool true, .bool true, GV (gp (mul F2.inv a g)), GV (gp (mul F2.inv a g)), GV (gp (neg (mul F2.inv a g))), GV (gp (add F2.inv (mul F2.inv a g) (neg (mul F2.inv a g)))), GV ⟨0, 0, true⟩, .bool true, .bool true] ++ U 39) (fun L => [((L0.b 0), RC a), ((L0.b 1), RC b), ((L3.b 5), GC (gp (mul F2.inv a g))), ((L7.b 4), GC (gp (mul F2.inv b g))), ((L7.b 5), GC ⟨0, 0, true⟩), ((L8.b 3), GC (gp (add F2.inv (mul F2.inv b g) (mul F2.inv b g))))]) hp9 ⟨
    oL 2 0 rG, oL 3 0 rG, oH (v := GV (gp (add F2.inv (mul F2.inv a g) (mul F2.inv b g)))) (vs := #[GV (gp (mul F2.inv a g)), GV (gp (mul F2.inv b g))]) (fun w hb _ => g2Add K (mul F2.inv a g) (mul F2.inv b g) w (K.stay hg hb) (mul_on crv2 (gen2_on' hgn) a) (mul_on crv2 (gen2_on' hgn) b)),
    oL 5 0 rG, oH (v := GV (gp (add F2.inv (add F2.inv (mul F2.inv a g) (mul F2.inv b g)) (add F2.inv (mul F2.inv b g) (mul F2.inv b g))))) (vs := #[GV (gp (add F2.inv (mul F2.inv a g) (mul F2.inv b g))), GV (gp (add F2.inv (mul F2.inv b g) (mul F2.inv b g)))]) (fun w hb _ => g2Add K (add F2.inv (mul F2.inv a g) (mul F2.inv b g)) (add F2.inv (mul F2.inv b g) (mul F2.inv b g)) w (K.stay hg hb) (add_on crv2 (mul_on crv2 (gen2_on' hgn) a) (mul_on crv2 (gen2_on' hgn) b)) (add_on crv2 (mul_on crv2 (gen2_on' hgn) b) (mul_on crv2 (gen2_on' hgn) b))),
    oL 2 0 rG, oL 3 0 rG, oL 5 0 rG, oH (v := GV (gp (add F2.inv (mul F2.inv b g) (add F2.inv (mul F2.inv b g) (mul F2.inv b g))))) (vs := #[GV (gp (mul F2.inv b g)), GV (gp (add F2.inv (mul F2.inv b g) (mul F2.inv b g)))]) (fun w hb _ => g2Add K (mul F2.inv b g) (add F2.inv (mul F2.inv b g) (mul F2.inv b g)) w (K.stay hg hb) (mul_on crv2 (gen2_on' hgn) b) (add_on crv2 (mul_on crv2 (gen2_on' hgn) b) (mul_on crv2 (gen2_on' hgn) b))),
    oH (v := GV (gp (add F2.inv (mul F2.inv a g) (add F2.inv (mul F2.inv b g) (add F2.inv (mul F2.inv b g) (mul F2.inv b g)))))) (vs := #[GV (gp (mul F2.inv a g)), GV (gp (add F2.inv (mul F2.inv b g) (add F2.inv (mul F2.inv b g) (mul F2.inv b g))))]) (fun w hb _ => g2Add K (mul F2.inv a g) (add F2.inv (mul F2.inv b g) (add F2.inv (mul F2.inv b g) (mul F2.inv b g))) w (K.stay hg hb) (mul_on crv2 (gen2_on' hgn) a) (add_on crv2 (mul_on crv2 (gen2_on' hgn) b) (add_on crv2 (mul_on crv2 (gen2_on' hgn) b) (mul_on crv2 (gen2_on' hgn) b)))),
    oH (v := .bool true) (vs := #[GV (gp (add F2.inv (add F2.inv (mul F2.inv a g) (mul F2.inv b g)) (add F2.inv (mul F2.inv b g) (mul F2.inv b g)))), GV (gp (add F2.inv (mul F2.inv a g) (add F2.inv (mul F2.inv b g) (add F2.inv (mul F2.inv b g) (mul F2.inv b g)))))]) (fun w hb _ => by have h := g2Equal K (add F2.inv (add F2.inv (mul F2.inv a g) (mul F2.inv b g)) (add F2.inv (mul F2.inv b g) (mul F2.inv b g))) (add F2.inv (mul F2.inv a g) (add F2.inv (mul F2.inv b g) (add F2.inv (mul F2.inv b g) (mul F2.inv b g)))) w (K.stay hg hb); rw [decide_eq_true (show (add F2.inv (add F2.inv (mul F2.inv a g) (mul F2.inv b g)) (add F2.inv (mul F2.inv b g) (mul F2.inv b g))) = (add F2.inv (mul F2.inv a g) (add F2.inv (mul F2.inv b g) (add F2.inv (mul F2.inv b g) (mul F2.inv b g)))) from add_assoc crv2 (mul_on crv2 (gen2_on' hgn) a) (mul_on crv2 (gen2_on' hgn) b) (add_on crv2 (mul_on crv2 (gen2_on' hgn) b) (mul_on crv2 (gen2_on' hgn) b)))] at h; exact h),
    oM, oL 2 0 rG, oL 3 0 rG, oH (v := GV (gp (add F2.inv (mul F2.inv a g) (mul F2.inv b g)))) (vs := #[GV (gp (mul F2.inv a g)), GV (gp (mul F2.inv b g))]) (fun w hb _ => g2Add K (mul F2.inv a g) (mul F2.inv b g) w (K.stay hg hb) (mul_on crv2 (gen2_on' hgn) a) (mul_on crv2 (gen2_on' hgn) b)),
    oL 3 0 rG, oL 2 0 rG, oH (v := GV (gp (add F2.inv (mul F2.inv b g) (mul F2.inv a g)))) (vs := #[GV (gp (mul F2.inv b g)), GV (gp (mul F2.inv a g))]) (fun w hb _ => g2Add K (mul F2.inv b g) (mul F2.inv a g) w (K.stay hg hb) (mul_on crv2 (gen2_on' hgn) b) (mul_on crv2 (gen2_on' hgn) a)),
    oH (v := .bool true) (vs := #[GV (gp (add F2.inv (mul F2.inv a g) (mul F2.inv b g))), GV (gp (add F2.inv (mul F2.inv b g) (mul F2.inv a g)))]) (fun w hb _ => by have h := g2Equal K (add F2.inv (mul F2.inv a g) (mul F2.inv b g)) (add F2.inv (mul F2.inv b g) (mul F2.inv a g)) w (K.stay hg hb); rw [decide_eq_true (show (add F2.inv (mul F2.inv a g) (mul F2.inv b g)) = (add F2.inv (mul F2.inv b g) (mul F2.inv a g)) from add_comm crv2 (mul_on crv2 (gen2_on' hgn) a) (mul_on crv2 (gen2_on' hgn) b))] at h; exact h),
    oP, oM, oL 2 0 rG, oL 4 0 rG, oH (v := GV (gp (add F2.inv (mul F2.inv a g) Pt.inf))) (vs := #[GV (gp (mul F2.inv a g)), GV ⟨0, 0, true⟩]) (fun w hb _ => g2Add K (mul F2.inv a g) Pt.inf w (K.stay hg hb) (mul_on crv2 (gen2_on' hgn) a) (trivial : On b2 Pt.inf)),
    oL 2 0 rG, oH (v := .bool true) (vs := #[GV (gp (add F2.inv (mul F2.inv a g) Pt.inf)), GV (gp (mul F2.inv a g))]) (fun w hb _ => by have h := g2Equal K (add F2.inv (mul F2.inv a g) Pt.inf) (mul F2.inv a g) w (K.stay hg hb); rw [decide_eq_true (show (add F2.inv (mul F2.inv a g) Pt.inf) = (mul F2.inv a g) from add_inf F2.inv (mul F2.inv a g))] at h; exact h),
    oP, oM, oL 2 0 rG, oL 2 0 rG, oC K.stay hg (g2Neg K (mul F2.inv a g)), oH (v := GV (gp (add F2.inv (mul F2.inv a g) (neg (mul F2.inv a g))))) (vs := #[GV (gp (mul F2.inv a g)), GV (gp (neg (mul F2.inv a g)))]) (fun w hb _ => g2Add K (mul F2.inv a g) (neg (mul F2.inv a g)) w (K.stay hg hb) (mul_on crv2 (gen2_on' hgn) a) (neg_on (mul_on crv2 (gen2_on' hgn) a))),
    oL 4 0 rG, oH (v := .bool true) (vs := #[GV (gp (add F2.inv (mul F2.inv a g) (neg (mul F2.inv a g)))), GV ⟨0, 0, true⟩]) (fun w hb _ => by have h := g2Equal K (add F2.inv (mul F2.inv a g) (neg (mul F2.inv a g))) Pt.inf w (K.stay hg hb); rw [decide_eq_true (show (add F2.inv (mul F2.inv a g) (neg (mul F2.inv a g))) = Pt.inf from add_neg)] at h; exact h),
    oP, oA,
    trivial⟩ (fun L9 w10 hp10 => ?_)
  refine k13 _ _ ?_
  refine wp_seq_k (fun K14 k14 => ?_)
  refine wp_seq_k (fun K15 k15 => ?_)
  refine gs [.det (.bool false)] [0] [0] (fun L => [RV a, RV b, .int .u64 ((n : Nat) : Int), .bool false, pt (L0.b 0) 0, pt (L0.b 1) 0, undef, undef, .bool false, pt (L3.b 5) 0, .bool false, pt (L7.b 4) 0, pt (L7.b 5) 0, pt (L8.b 3) 0, .bool true, .bool true, .bool false, RV a, .bool true, .bool false, .bool false, RV b, .bool true, .bool false, .bool false, .tuple #[GV ⟨0, 0, false⟩, .bool false], .int .u64 ((n : Nat) : Int), .tuple #[GV ⟨0, 0, false⟩, .bool false], GV ⟨0, 0, false⟩, .bool false, .bool false, .bool true, GV (gp g), RV a, GV (gp (mul F2.inv a g)), GV (gp (mul F2.inv a g)), .bool true, .bool false, GV (gp g), RV b, GV (gp (mul F2.inv b g)), GV ⟨0, 0, true⟩, GV (gp (mul F2.inv b g)), GV (gp (mul F2.inv b g)), GV (gp (add F2.inv (mul F2.inv b g) (mul F2.inv b g))), GV (gp (mul F2.inv a g)), GV (gp (mul F2.inv b g)), GV (gp (add F2.inv (mul F2.inv a g) (mul F2.inv b g))), GV (gp (add F2.inv (mul F2.inv b g) (mul F2.inv b g))), GV (gp (add F2.inv (add F2.inv (mul F2.inv a g) (mul F2.inv b g)) (add F2.inv (mul F2.inv b g) (mul F2.inv b g)))), GV (gp (mul F2.inv a g)), GV (gp (mul F2.inv b g)), GV (gp (add F2.inv (mul F2.inv b g) (mul F2.inv b g))), GV (gp (add F2.inv (mul F2.inv b g) (add F2.inv (mul F2.inv b g) (mul F2.inv b g)))), GV (gp (add F2.inv (mul F2.inv a g) (add F2.inv (mul F2.inv b g) (add F2.inv (mul F2.inv b g) (mul F2.inv b g))))), .bool true, .bool true, GV (gp (mul F2.inv a g)), GV (gp (mul F2.inv b g)), GV (gp (add F2.inv (mul F2.inv a g) (mul F2.inv b g))), GV (gp (mul F2.inv b g)), GV (gp (mul F2.inv a g)), GV (gp (add F2.inv (mul F2.inv b g) (mul F2.inv a g))), .bool true, .bool true, .bool true, GV (gp (mul F2.inv a g)), GV ⟨0, 0, true⟩, GV (gp (add F2.inv (mul F2.inv a g) Pt.inf)), GV (gp (mul F2.inv a g)), .bool true, .bool true, .bool true, GV (gp (mul F2.inv a g)), GV (gp (mul F2.inv a g)), GV (gp (neg (mul F2.inv a g))), GV (gp (add F2.inv (mul F2.inv a g) (neg (mul F2.inv a g)))), GV ⟨0, 0, true⟩, .bool true, .bool true, .bool false] ++ U 38) (fun L => [((L0.b 0), RC a), ((L0.b 1), RC b), ((L3.b 5), GC (gp (mul F2.inv a g))), ((L7.b 4), GC (gp (mul F2.inv b g))), ((L7.b 5), GC ⟨0, 0, true⟩), ((L8.b 3), GC (gp (add F2.inv (mul F2.inv b g) (mul F2.inv b g))))]) hp10 ⟨
    oM,
    trivial⟩ (fun L10 w11 hp11 => ?_)
  refine k15 _ _ ?_
  refine wp_cond_false (by kernel_rfl) ?_
  refine skips ?_
  refine k14 _ _ ?_
  refine wp_seq_k (fun K16 k16 => ?_)
  refine dr [.det (.bool true), .det (.bool true), .det (GV (gp (mul F2.inv a g))), .det (GV (gp (mul F2.inv b g))), .det (GV (gp (add F2.inv (mul F2.inv a g) (mul F2.inv b g)))), .det (GV (gp g)), .det (RV a), .det (RV b), .det (RV ((a + b) % ordR)), .det (GV (gp (mul F2.inv ((a + b) % ordR) g))), .det (.bool true), .det (.bool true), .det (.bool true), .det (GV (gp (mul F2.inv a g))), .det (RV b), .det (GV (gp (mul F2.inv b (mul F2.inv a g)))), .det (GV (gp g)), .det (RV a), .det (RV b), .det (RV ((a * b) % ordR)), .det (GV (gp (mul F2.inv ((a * b) % ordR) g))), .det (.bool true), .det (.bool true), .det (.bool true), .det (GV (gp (mul F2.inv a g))), .det (.bool true), .det (.bool true), .det (.bool true)] [0, 1, 2, 3, 4, 5, 6, 7, 8, 9, 10, 11, 12, 13, 14, 15, 16, 17, 18, 19, 20, 21, 22, 23, 24, 25, 26, 27] [0, 1, 3, 3, 15, 31, 3, 3, 255, 511, 1023, 2047, 4095, 8191, 8191, 32767, 65535, 8191, 8191, 524287, 1048575, 2097151, 4194303, 8388607, 16777215, 33554431, 67108863, 134217727] (fun L => [RV a, RV b, .int .u64 ((n : Nat) : Int), .bool false, pt (L0.b 0) 0, pt (L0.b 1) 0, undef, undef, .bool true, pt (L3.b 5) 0, .bool false, pt (L7.b 4) 0, pt (L7.b 5) 0, pt (L8.b 3) 0, .bool true, .bool true, .bool false, RV a, .bool true, .bool false, .bool false, RV b, .bool true, .bool false, .bool false, .tuple #[GV ⟨0, 0, false⟩, .bool false], .int .u64 ((n : Nat) : Int), .tuple #[GV ⟨0, 0, false⟩, .bool false], GV ⟨0, 0, false⟩, .bool false, .bool false, .bool true, GV (gp g), RV a, GV (gp (mul F2.inv a g)), GV (gp (mul F2.inv a g)), .bool true, .bool false, GV (gp g), RV b, GV (gp (mul F2.inv b g)), GV ⟨0, 0, true⟩, GV (gp (mul F2.inv b g)), GV (gp (mul F2.inv b g)), GV (gp (add F2.inv (mul F2.inv b g) (mul F2.inv b g))), GV (gp (mul F2.inv a g)), GV (gp (mul F2.inv b g)), GV (gp (add F2.inv (mul F2.inv a g) (mul F2.inv b g))), GV (gp (add F2.inv (mul F2.inv b g) (mul F2.inv b g))), GV (gp (add F2.inv (add F2.inv (mul F2.inv a g) (mul F2.inv b g)) (add F2.inv (mul F2.inv b g) (mul F2.inv b g)))), GV (gp (mul F2.inv a g)), GV (gp (mul F2.inv b g)), GV (gp (add F2.inv (mul F2.inv b g) (mul F2.inv b g))), GV (gp (add F2.inv (mul F2.inv b g) (add F2.inv (mul F2.inv b g) (mul F2.inv b g)))), GV (gp (add F2.inv (mul F2.inv a g) (add F2.inv (mul F2.inv b g) (add F2.inv (mul F2.inv b g) (mul F2.inv b g))))), .bool true, .bool true, GV (gp (mul F2.inv a g)), GV (gp (mul F2.inv b g)), GV (gp (add F2.inv (mul F2.inv a g) (mul F2.inv b g))), GV (gp (mul F2.inv b g)), GV (gp (mul F2.inv a g)), GV (gp (add F2.inv (mul F2.inv b g) (mul F2.inv a g))), .bool true, .bool true, .bool true, GV (gp (mul F2.inv a g)), GV ⟨0, 0, true⟩, GV (gp (add F2.inv (mul F2.inv a g) Pt.inf)), GV (gp (mul F2.inv a g)), .bool true, .bool true, .bool true, GV (gp (mul F2.inv a g)), GV (gp (mul F2.inv a g)), GV (gp (neg (mul F2.inv a g))), GV (gp (add F2.inv (mul F2.inv a g) (neg (mul F2.inv a g)))), GV ⟨0, 0, true⟩, .bool true, .bool true, .bool false, undef, undef, undef, undef, undef, undef, undef, undef, undef, undef, undef, .bool true, .bool true, GV (gp (mul F2.inv a g)), GV (gp (mul F2.inv b g)), GV (gp (add F2.inv (mul F2.inv a g) (mul F2.inv b g))), GV (gp g), RV a, RV b, RV ((a + b) % ordR), GV (gp (mul F2.inv ((a + b) % ordR) g)), .bool true, .bool true, .bool true, GV (gp (mul F2.inv a g)), RV b, GV (gp (mul F2.inv b (mul F2.inv a g))), GV (gp g), RV a, RV b, RV ((a * b) % ordR), GV (gp (mul F2.inv ((a * b) % ordR) g)), .bool true, .bool true, .bool true, GV (gp (mul F2.inv a g)), .bool true, .bool true]) (fun L => [((L0.b 0), RC a), ((L0.b 1), RC b), ((L3.b 5), GC (gp (mul F2.inv a g))), ((L7.b 4), GC (gp (mul F2.inv b g))), ((L7.b 5), GC ⟨0, 0, true⟩), ((L8.b 3), GC (gp (add F2.inv (mul F2.inv b g) (mul F2.inv b g))))]) hp11 ⟨
    oM, oM, oL 2 0 rG, oL 3 0 rG, oH (v := GV (gp (add F2.inv (mul F2.inv a g) (mul F2.inv b g)))) (vs := #[GV (gp (mul F2.inv a g)), GV (gp (mul F2.inv b g))]) (fun w hb _ => g2Add K (mul F2.inv a g) (mul F2.inv b g) w (K.stay hg hb) (mul_on crv2 (gen2_on' hgn) a) (mul_on crv2 (gen2_on' hgn) b)),
    oH (v := GV (gp g)) (vs := #[]) (fun w hb _ => by have h := g2One K w (K.stay hg hb); rw [← hgn] at h; exact h), oL 0 0 rR, oL 1 0 rR, oR (addR ha hb), oH (v := GV (gp (mul F2.inv ((a + b) % ordR) g))) (vs := #[GV (gp g), RV ((a + b) % ordR)]) (fun w hb _ => g2Mul K g ((a + b) % ordR) w (K.stay hg hb) (gen2_on' hgn) (modR _)),
    oH (v := .bool true) (vs := #[GV (gp (add F2.inv (mul F2.inv a g) (mul F2.inv b g))), GV (gp (mul F2.inv ((a + b) % ordR) g))]) (fun w hb _ => by have h := g2Equal K (add F2.inv (mul F2.inv a g) (mul F2.inv b g)) (mul F2.inv ((a + b) % ordR) g) w (K.stay hg hb); rw [decide_eq_true (show (add F2.inv (mul F2.inv a g) (mul F2.inv b g)) = (mul F2.inv ((a + b) % ordR) g) from sumR hgn a b)] at h; exact h),
    oP, oM, oL 2 0 rG, oL 1 0 rR, oH (v := GV (gp (mul F2.inv b (mul F2.inv a g)))) (vs := #[GV (gp (mul F2.inv a g)), RV b]) (fun w hb _ => g2Mul K (mul F2.inv a g) b w (K.stay hg hb) (mul_on crv2 (gen2_on' hgn) a) hb6),
    oH (v := GV (gp g)) (vs := #[]) (fun w hb _ => by have h := g2One K w (K.stay hg hb); rw [← hgn] at h; exact h), oL 0 0 rR, oL 1 0 rR, oR (mulR ha hb), oH (v := GV (gp (mul F2.inv ((a * b) % ordR) g))) (vs := #[GV (gp g), RV ((a * b) % ordR)]) (fun w hb _ => g2Mul K g ((a * b) % ordR) w (K.stay hg hb) (gen2_on' hgn) (modR _)),
    oH (v := .bool true) (vs := #[GV (gp (mul F2.inv b (mul F2.inv a g))), GV (gp (mul F2.inv ((a * b) % ordR) g))]) (fun w hb _ => by have h := g2Equal K (mul F2.inv b (mul F2.inv a g)) (mul F2.inv ((a * b) % ordR) g) w (K.stay hg hb); rw [decide_eq_true (show (mul F2.inv b (mul F2.inv a g)) = (mul F2.inv ((a * b) % ordR) g) from mulRg hgn a b)] at h; exact h),
    oP, oM, oL 2 0 rG, oH (v := .bool true) (vs := #[GV (gp (mul F2.inv a g))]) (fun w hb _ => by have h := g2In K (mul F2.inv a g) w (K.stay hg hb) (mul_on crv2 (gen2_on' hgn) a); rw [decide_eq_true (show mul F2.inv ordR (mul F2.inv a g) = .inf from in_mul hgn a)] at h; exact h),
    oP, oA,
    trivial⟩ (fun L11 w12 hp12 => ?_)
  refine k16 _ _ ?_
  refine wp_ret ?_
  refine bodyPost_ret (v := .bool true) ?_ rfl ?_
  · exact res_t rfl (by kernel_rfl) _
  · exact ⟨rfl, hp12.bel⟩
theorem g2Group_walk {G : World → Prop} (K : FpK G) (R : RefK) (a b n : Nat) (out : Bool) (ha6 : a < 2 ^ 256) (hb6 : b < 2 ^ 256) (hn : n < 18446744073709551616) (w : World) (hg : G w) :
    Calls Tryd.prog 6 #[RV a, RV b, .int .u64 ((n : Nat) : Int), .bool out] w (Ret (.bool true) w) := by
  have hB := fun w hg => begun9 K R w hg
  by_cases ha : a < ordR
  · by_cases hb : b < ordR
    · rcases refOut_or R n hn with ⟨P, hP, hO⟩ | hO
      · cases out with
        | true => exact grpY K R gen2 P a b n w hg rfl hB ha6 hb6 ha hb hO hP
        | false => exact grpG K R gen2 P a b n w hg rfl hB ha6 hb6 ha hb hO hP
      · cases out with
        | true => exact grpN K R gen2 .inf a b n w hg rfl hB ha6 hb6 ha hb hO
        | false => exact grpH K R gen2 .inf a b n w hg rfl hB ha6 hb6 ha hb hO
    · exact grp1 K R gen2 .inf a b n out w hg rfl hB ha6 hb6 ha hb
  · exact grp0 K R gen2 .inf a b n out w hg rfl hB ha6 hb6 ha
end Go.Proofs.YthehnlpgmkjefaaDoor.fpn.T2
