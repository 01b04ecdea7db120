/- G2OnWalk. -/
import Derived.Test.YthehnlpgmkjefaaDoorGS
/- G2On walked. -/
namespace Go.Proofs.YthehnlpgmkjefaaDoor.fpn.T2
open Go.RowKit Pl EC
set_option linter.unusedVariables false
set_option linter.unusedSimpArgs false
set_option maxRecDepth 4000

def upd (f : Nat → Int) (j : Nat) (v : Int) : Nat → Int := fun i => bif Nat.beq i j then v else f i
theorem upd_rg {f : Nat → Int} {j n : Nat} {v : Int} (rf : Rg f n) (hv : 0 ≤ v ∧ v < B64) : Rg (upd f j v) n := fun i hi => by
  unfold upd
  cases Nat.beq i j with
  | true => exact hv
  | false => exact rf i hi
theorem add1U (t : TypeId) (x v : Int) (h : IntKind.u64.wrap (x + 1) = v) (w : World) : (binOp .add t (.int .u64 x) (.int .u64 1)).run Tryd.prog w = .ok (.int .u64 v) w := by
  subst h
  simp only [binOp, Op.intArith]; simp [Sem.run_bind]
theorem remB (t : TypeId) (n r : Nat) (hr : n % 4 = r) (w : World) : (binOp .rem t (.int .u8 (n : Int)) (.int .u8 4)).run Tryd.prog w = .ok (.int .u8 (r : Int)) w := by
  have e0 : (n : Int).tmod 4 = (r : Int) := by rw [Int.tmod_eq_emod_of_nonneg (by omega)]; omega
  simp [binOp, Sem.run_bind, Op.intDiv, e0]
theorem wrap_rg (x : Int) : 0 ≤ IntKind.u64.wrap x ∧ IntKind.u64.wrap x < B64 := by
  unfold IntKind.wrap
  rw [B64_eq]
  simp [IntKind.bits, IntKind.signed]
  omega
set_option maxHeartbeats 4000000 in
theorem on0 {G : World → Prop} (K : FpK G) (R : RefK) (g1 : Pt F2) (f e g d : Nat → Int) (i : Bool) (k c t : Nat) (w : World) (hg : G w) (hgn : g1 = gen2) (hB : ∀ w, G w → Calls Tryd.prog 9 #[] w (Ret (.bool true) w)) (hk6 : k < 2 ^ 256) (hk : ¬ k < ordR) : Calls Tryd.prog 4 #[QGV f e g d i, RV k, .int .u8 ((c : Nat) : Int), .int .u64 ((t : Nat) : Int)] w (Ret (.bool true) w) := by
  have hp0 := Heap.start w
  go_enter Tryd.func4, Tryd.ntmps4
  refine wp_seq_k (fun K1 k1 => ?_)
  refine gs [.alloc (QGC f e g d i), .alloc (RC k), .det (.bool false)] [0, 1, 2] [0, 0, 0] (fun L => [QGV f e g d i, RV k, .int .u8 ((c : Nat) : Int), .int .u64 ((t : Nat) : Int), pt (L.b 0) 0, pt (L.b 1) 0, undef, undef, .bool false] ++ U 47) (fun L => [(L.b 0, QGC f e g d i), (L.b 1, RC k)]) hp0 ⟨
    oB, oB, oA,
    trivial⟩ (fun L0 w1 hp1 => ?_)
  refine k1 _ _ ?_
  refine wp_seq_k (fun K2 k2 => ?_)
  refine wp_seq_k (fun K3 k3 => ?_)
  refine gs [.det (.bool true), .det (.bool false)] [0, 1] [0, 1] (fun L => [QGV f e g d i, RV k, .int .u8 ((c : Nat) : Int), .int .u64 ((t : Nat) : Int), pt (L0.b 0) 0, pt (L0.b 1) 0, undef, undef, .bool false, undef, .bool true, .bool false] ++ U 44) (fun L => [((L0.b 0), QGC f e g d i), ((L0.b 1), RC k)]) hp1 ⟨
    oC K.stay hg hB, oN,
    trivial⟩ (fun L1 w2 hp2 => ?_)
  refine k3 _ _ ?_
  refine wp_cond_false (by kernel_rfl) ?_
  refine skips ?_
  refine k2 _ _ ?_
  refine wp_seq_k (fun K4 k4 => ?_)
  refine wp_seq_k (fun K5 k5 => ?_)
  refine gs [.det (RV k), .det (.bool false), .det (.bool true)] [0, 1, 2] [0, 1, 3] (fun L => [QGV f e g d i, RV k, .int .u8 ((c : Nat) : Int), .int .u64 ((t : Nat) : Int), pt (L0.b 0) 0, pt (L0.b 1) 0, undef, undef, .bool false, undef, .bool true, .bool false, RV k, .bool false, .bool true] ++ U 41) (fun L => [((L0.b 0), QGC f e g d i), ((L0.b 1), RC k)]) hp2 ⟨
    oL 1 0 rR, oH (v := .bool false) (vs := #[RV k]) (fun w _ _ => by have h := mayR hk6 w; rw [decide_eq_false hk] at h; exact h), oN,
    trivial⟩ (fun L2 w3 hp3 => ?_)
  refine k5 _ _ ?_
  refine wp_cond_true (by kernel_rfl) ?_
  refine wp_seq_k (fun K6 k6 => ?_)
  refine gs [.det (.bool true)] [0] [0] (fun L => [QGV f e g d i, RV k, .int .u8 ((c : Nat) : Int), .int .u64 ((t : Nat) : Int), pt (L0.b 0) 0, pt (L0.b 1) 0, undef, undef, .bool true, undef, .bool true, .bool false, RV k, .bool false, .bool true] ++ U 41) (fun L => [((L0.b 0), QGC f e g d i), ((L0.b 1), RC k)]) hp3 ⟨
    oA,
    trivial⟩ (fun L3 w4 hp4 => ?_)
  refine k6 _ _ ?_
  refine wp_ret ?_
  refine bodyPost_ret (v := .bool true) ?_ rfl ?_
  · exact res_t rfl (by kernel_rfl) _
  · exact ⟨rfl, hp4.bel⟩
set_option maxHeartbeats 4000000 in
theorem onItrue {G : World → Prop} (K : FpK G) (R : RefK) (g1 : Pt F2) (f e g d : Nat → Int) (i : Bool) (k c t : Nat) (f2 e2 g2 d2 : Nat → Int) (b1 b2 : Bool) (w : World) (hg : G w) (hgn : g1 = gen2) (hB : ∀ w, G w → Calls Tryd.prog 9 #[] w (Ret (.bool true) w)) (hk6 : k < 2 ^ 256) (hk : k < ordR) (hT : GV (gp (mul F2.inv k g1)) = QGV f2 e2 g2 d2 true) (hc : c % 4 = 0) (h1 : ∀ w, G w → Calls Tryd.prog 19 #[QGV f e g d i] w (Ret (.bool b1) w)) (h1r : ∀ w, Calls Tryd.prog 21 #[QGV f e g d i] w (Ret (.bool b1) w)) (h2 : ∀ w, G w → Calls Tryd.prog 19 #[QGV f2 e2 g2 d2 false] w (Ret (.bool b2) w)) (h2r : ∀ w, Calls Tryd.prog 21 #[QGV f2 e2 g2 d2 false] w (Ret (.bool b2) w)) : Calls Tryd.prog 4 #[QGV f e g d i, RV k, .int .u8 ((c : Nat) : Int), .int .u64 ((t : Nat) : Int)] w (Ret (.bool true) w) := by
  have hp0 := Heap.start w
  go_enter Tryd.func4, Tryd.ntmps4
  refine wp_seq_k (fun K1 k1 => ?_)
  refine gs [.alloc (QGC f e g d i), .alloc (RC k), .det (.bool false)] [0, 1, 2] [0, 0, 0] (fun L => [QGV f e g d i, RV k, .int .u8 ((c : Nat) : Int), .int .u64 ((t : Nat) : Int), pt (L.b 0) 0, pt (L.b 1) 0, undef, undef, .bool false] ++ U 47) (fun L => [(L.b 0, QGC f e g d i), (L.b 1, RC k)]) hp0 ⟨
    oB, oB, oA,
    trivial⟩ (fun L0 w1 hp1 => ?_)
  refine k1 _ _ ?_
  refine wp_seq_k (fun K2 k2 => ?_)
  refine wp_seq_k (fun K3 k3 => ?_)
  refine gs [.det (.bool true), .det (.bool false)] [0, 1] [0, 1] (fun L => [QGV f e g d i, RV k, .int .u8 ((c : Nat) : Int), .int .u64 ((t : Nat) : Int), pt (L0.b 0) 0, pt (L0.b 1) 0, undef, undef, .bool false, undef, .bool true, .bool false] ++ U 44) (fun L => [((L0.b 0), QGC f e g d i), ((L0.b 1), RC k)]) hp1 ⟨
    oC K.stay hg hB, oN,
    trivial⟩ (fun L1 w2 hp2 => ?_)
  refine k3 _ _ ?_
  refine wp_cond_false (by kernel_rfl) ?_
  refine skips ?_
  refine k2 _ _ ?_
  refine wp_seq_k (fun K4 k4 => ?_)
  refine wp_seq_k (fun K5 k5 => ?_)
  refine gs [.det (RV k), .det (.bool true), .det (.bool false)] [0, 1, 2] [0, 1, 3] (fun L => [QGV f e g d i, RV k, .int .u8 ((c : Nat) : Int), .int .u64 ((t : Nat) : Int), pt (L0.b 0) 0, pt (L0.b 1) 0, undef, undef, .bool false, undef, .bool true, .bool false, RV k, .bool true, .bool false] ++ U 41) (fun L => [((L0.b 0), QGC f e g d i), ((L0.b 1), RC k)]) hp2 ⟨
    oL 1 0 rR, oH (v := .bool true) (vs := #[RV k]) (fun w _ _ => by have h := mayR hk6 w; rw [decide_eq_true hk] at h; exact h), oN,
    trivial⟩ (fun L2 w3 hp3 => ?_)
  refine k5 _ _ ?_
  refine wp_cond_false (by kernel_rfl) ?_
  refine skips ?_
  refine k4 _ _ ?_
  refine wp_seq_k (fun K6 k6 => ?_)
  refine dr [.det (GV (gp g1)), .det (RV k), .det (QGV f2 e2 g2 d2 true), .alloc (GC ⟨0, 0, false⟩), .store (.new 3) 0 (QGC f2 e2 g2 d2 true) (QGC f2 e2 g2 d2 true)] [0, 1, 2, 3, 4] [0, 0, 3, 0, 15] (fun L => [QGV f e g d i, RV k, .int .u8 ((c : Nat) : Int), .int .u64 ((t : Nat) : Int), pt (L0.b 0) 0, pt (L0.b 1) 0, undef, undef, .bool false, pt (L.b 3) 0, .bool true, .bool false, RV k, .bool true, .bool false, GV (gp g1), RV k, QGV f2 e2 g2 d2 true] ++ U 38) (fun L => [((L0.b 0), QGC f e g d i), ((L0.b 1), RC k), (L.b 3, QGC f2 e2 g2 d2 true)]) hp3 ⟨
    oH (v := GV (gp g1)) (vs := #[]) (fun w _ _ => by have h := ref5Gen1 R w; rw [← hgn] at h; exact h), oL 1 0 rR, oH (v := QGV f2 e2 g2 d2 true) (vs := #[GV (gp g1), RV k]) (fun w _ _ => by have h := ref5Times1 R g1 k w (gen2_on' hgn) hk6; rw [hT] at h; exact h),
    oZ rG, oT rG,
    trivial⟩ (fun L3 w4 hp4 => ?_)
  refine k6 _ _ ?_
  refine wp_seq_k (fun K7 k7 => ?_)
  refine wp_seq_k (fun K8 k8 => ?_)
  refine gs [.det (.int .u8 ((c : Nat) : Int)), .det (.int .u8 0)] [0, 1] [0, 1] (fun L => [QGV f e g d i, RV k, .int .u8 ((c : Nat) : Int), .int .u64 ((t : Nat) : Int), pt (L0.b 0) 0, pt (L0.b 1) 0, undef, undef, .bool false, pt (L3.b 3) 0, .bool true, .bool false, RV k, .bool true, .bool false, GV (gp g1), RV k, QGV f2 e2 g2 d2 true, .int .u8 ((c : Nat) : Int), .int .u8 0] ++ U 36) (fun L => [((L0.b 0), QGC f e g d i), ((L0.b 1), RC k), ((L3.b 3), QGC f2 e2 g2 d2 true)]) hp4 ⟨
    oM, oJ .u8 .u8 ((c : Nat) : Int) 4 (h := fun w => remB _ c 0 hc w),
    trivial⟩ (fun L4 w5 hp5 => ?_)
  refine k8 _ _ ?_
  refine wp_block_k (fun K9 k9 => ?_)
  refine wp_seq_k (fun K10 k10 => ?_)
  refine gs [.det (.bool true), .det (.bool true)] [0, 1] [0, 1] (fun L => [QGV f e g d i, RV k, .int .u8 ((c : Nat) : Int), .int .u64 ((t : Nat) : Int), pt (L0.b 0) 0, pt (L0.b 1) 0, undef, undef, .bool false, pt (L3.b 3) 0, .bool true, .bool false, RV k, .bool true, .bool false, GV (gp g1), RV k, QGV f2 e2 g2 d2 true, .int .u8 ((c : Nat) : Int), .int .u8 0, .bool true, .bool true] ++ U 34) (fun L => [((L0.b 0), QGC f e g d i), ((L0.b 1), RC k), ((L3.b 3), QGC f2 e2 g2 d2 true)]) hp5 ⟨
    oJ .u8 .u8 0 0 (h := fun w => (eqlI _ _ _ _ w).trans rfl), oA,
    trivial⟩ (fun L5 w6 hp6 => ?_)
  refine k10 _ _ ?_
  refine wp_cond_true (by kernel_rfl) ?_
  refine gs [.det (pt (L3.b 3) 24), .det (.bool true), .det (.bool false), .det (pt (L3.b 3) 24), .store (.base 2) 24 ([.bool false]) (QGC f2 e2 g2 d2 false)] [0, 1, 2, 3, 4] [0, 1, 3, 7, 15] (fun L => [QGV f e g d i, RV k, .int .u8 ((c : Nat) : Int), .int .u64 ((t : Nat) : Int), pt (L0.b 0) 0, pt (L0.b 1) 0, undef, undef, .bool false, pt (L3.b 3) 0, .bool true, .bool false, RV k, .bool true, .bool false, GV (gp g1), RV k, QGV f2 e2 g2 d2 true, .int .u8 ((c : Nat) : Int), .int .u8 0, .bool true, .bool true, pt (L3.b 3) 24, .bool true, .bool false, pt (L3.b 3) 24] ++ U 30) (fun L => [((L0.b 0), QGC f e g d i), ((L0.b 1), RC k), ((L3.b 3), QGC f2 e2 g2 d2 false)]) hp6 ⟨
    oF fG2, oL1 2 24 oneB, oN, oF fG2, oT1 oneB,
    trivial⟩ (fun L6 w7 hp7 => ?_)
  refine k9 _ _ _ ?_
  refine block_normal ?_
  refine k7 _ _ ?_
  refine wp_seq_k (fun K11 k11 => ?_)
  refine dr [.det (QGV f e g d i), .det (.bool b1), .det (QGV f e g d i), .det (.bool b1), .det (.bool true), .det (.bool true), .det (QGV f2 e2 g2 d2 false), .det (.bool b2), .det (QGV f2 e2 g2 d2 false), .det (.bool b2), .det (.bool true), .det (.bool true), .det (.bool true)] [0, 1, 2, 3, 4, 5, 6, 7, 8, 9, 10, 11, 12] [0, 1, 0, 7, 15, 31, 63, 127, 63, 511, 1023, 2047, 4095] (fun L => [QGV f e g d i, RV k, .int .u8 ((c : Nat) : Int), .int .u64 ((t : Nat) : Int), pt (L0.b 0) 0, pt (L0.b 1) 0, undef, undef, .bool true, pt (L3.b 3) 0, .bool true, .bool false, RV k, .bool true, .bool false, GV (gp g1), RV k, QGV f2 e2 g2 d2 true, .int .u8 ((c : Nat) : Int), .int .u8 0, .bool true, .bool true, pt (L3.b 3) 24, .bool true, .bool false, pt (L3.b 3) 24, undef, undef, undef, undef, undef, undef, undef, undef, undef, undef, undef, undef, undef, undef, undef, undef, undef, undef, QGV f e g d i, .bool b1, QGV f e g d i, .bool b1, .bool true, .bool true, QGV f2 e2 g2 d2 false, .bool b2, QGV f2 e2 g2 d2 false, .bool b2, .bool true, .bool true]) (fun L => [((L0.b 0), QGC f e g d i), ((L0.b 1), RC k), ((L3.b 3), QGC f2 e2 g2 d2 false)]) hp7 ⟨
    oL 0 0 rG, oC K.stay hg h1, oL 0 0 rG, oR h1r, oE (a := b1) (b := b1) qB (yes rfl), oM, oL 2 0 rG, oC K.stay hg h2, oL 2 0 rG, oR h2r, oE (a := b2) (b := b2) qB (yes rfl),
    oP, oA,
    trivial⟩ (fun L7 w8 hp8 => ?_)
  refine k11 _ _ ?_
  refine wp_ret ?_
  refine bodyPost_ret (v := .bool true) ?_ rfl ?_
  · exact res_t rfl (by kernel_rfl) _
  · exact ⟨rfl, hp8.bel⟩
set_option maxHeartbeats 4000000 in
theorem onIfalse {G : World → Prop} (K : FpK G) (R : RefK) (g1 : Pt F2) (f e g d : Nat → Int) (i : Bool) (k c t : Nat) (f2 e2 g2 d2 : Nat → Int) (b1 b2 : Bool) (w : World) (hg : G w) (hgn : g1 = gen2) (hB : ∀ w, G w → Calls Tryd.prog 9 #[] w (Ret (.bool true) w)) (hk6 : k < 2 ^ 256) (hk : k < ordR) (hT : GV (gp (mul F2.inv k g1)) = QGV f2 e2 g2 d2 false) (hc : c % 4 = 0) (h1 : ∀ w, G w → Calls Tryd.prog 19 #[QGV f e g d i] w (Ret (.bool b1) w)) (h1r : ∀ w, Calls Tryd.prog 21 #[QGV f e g d i] w (Ret (.bool b1) w)) (h2 : ∀ w, G w → Calls Tryd.prog 19 #[QGV f2 e2 g2 d2 true] w (Ret (.bool b2) w)) (h2r : ∀ w, Calls Tryd.prog 21 #[QGV f2 e2 g2 d2 true] w (Ret (.bool b2) w)) : Calls Tryd.prog 4 #[QGV f e g d i, RV k, .int .u8 ((c : Nat) : Int), .int .u64 ((t : Nat) : Int)] w (Ret (.bool true) w) := by
  have hp0 := Heap.start w
  go_enter Tryd.func4, Tryd.ntmps4
  refine wp_seq_k (fun K1 k1 => ?_)
  refine gs [.alloc (QGC f e g d i), .alloc (RC k), .det (.bool false)] [0, 1, 2] [0, 0, 0] (fun L => [QGV f e g d i, RV k, .int .u8 ((c : Nat) : Int), .int .u64 ((t : Nat) : Int), pt (L.b 0) 0, pt (L.b 1) 0, undef, undef, .bool false] ++ U 47) (fun L => [(L.b 0, QGC f e g d i), (L.b 1, RC k)]) hp0 ⟨
    oB, oB, oA,
    trivial⟩ (fun L0 w1 hp1 => ?_)
  refine k1 _ _ ?_
  refine wp_seq_k (fun K2 k2 => ?_)
  refine wp_seq_k (fun K3 k3 => ?_)
  refine gs [.det (.bool true), .det (.bool false)] [0, 1] [0, 1] (fun L => [QGV f e g d i, RV k, .int .u8 ((c : Nat) : Int), .int .u64 ((t : Nat) : Int), pt (L0.b 0) 0, pt (L0.b 1) 0, undef, undef, .bool false, undef, .bool true, .bool false] ++ U 44) (fun L => [((L0.b 0), QGC f e g d i), ((L0.b 1), RC k)]) hp1 ⟨
    oC K.stay hg hB, oN,
    trivial⟩ (fun L1 w2 hp2 => ?_)
  refine k3 _ _ ?_
  refine wp_cond_false (by kernel_rfl) ?_
  refine skips ?_
  refine k2 _ _ ?_
  refine wp_seq_k (fun K4 k4 => ?_)
  refine wp_seq_k (fun K5 k5 => ?_)
  refine gs [.det (RV k), .det (.bool true), .det (.bool false)] [0, 1, 2] [0, 1, 3] (fun L => [QGV f e g d i, RV k, .int .u8 ((c : Nat) : Int), .int .u64 ((t : Nat) : Int), pt (L0.b 0) 0, pt (L0.b 1) 0, undef, undef, .bool false, undef, .bool true, .bool false, RV k, .bool true, .bool false] ++ U 41) (fun L => [((L0.b 0), QGC f e g d i), ((L0.b 1), RC k)]) hp2 ⟨
    oL 1 0 rR, oH (v := .bool true) (vs := #[RV k]) (fun w _ _ => by have h := mayR hk6 w; rw [decide_eq_true hk] at h; exact h), oN,
    trivial⟩ (fun L2 w3 hp3 => ?_)
  refine k5 _ _ ?_
  refine wp_cond_false (by kernel_rfl) ?_
  refine skips ?_
  refine k4 _ _ ?_
  refine wp_seq_k (fun K6 k6 => ?_)
  refine dr [.det (GV (gp g1)), .det (RV k), .det (QGV f2 e2 g2 d2 false), .alloc (GC ⟨0, 0, false⟩), .store (.new 3) 0 (QGC f2 e2 g2 d2 false) (QGC f2 e2 g2 d2 false)] [0, 1, 2, 3, 4] [0, 0, 3, 0, 15] (fun L => [QGV f e g d i, RV k, .int .u8 ((c : Nat) : Int), .int .u64 ((t : Nat) : Int), pt (L0.b 0) 0, pt (L0.b 1) 0, undef, undef, .bool false, pt (L.b 3) 0, .bool true, .bool false, RV k, .bool true, .bool false, GV (gp g1), RV k, QGV f2 e2 g2 d2 false] ++ U 38) (fun L => [((L0.b 0), QGC f e g d i), ((L0.b 1), RC k), (L.b 3, QGC f2 e2 g2 d2 false)]) hp3 ⟨
    oH (v := GV (gp g1)) (vs := #[]) (fun w _ _ => by have h := ref5Gen1 R w; rw [← hgn] at h; exact h), oL 1 0 rR, oH (v := QGV f2 e2 g2 d2 false) (vs := #[GV (gp g1), RV k]) (fun w _ _ => by have h := ref5Times1 R g1 k w (gen2_on' hgn) hk6; rw [hT] at h; exact h),
    oZ rG, oT rG,
    trivial⟩ (fun L3 w4 hp4 => ?_)
  refine k6 _ _ ?_
  refine wp_seq_k (fun K7 k7 => ?_)
  refine wp_seq_k (fun K8 k8 => ?_)
  refine gs [.det (.int .u8 ((c : Nat) : Int)), .det (.int .u8 0)] [0, 1] [0, 1] (fun L => [QGV f e g d i, RV k, .int .u8 ((c : Nat) : Int), .int .u64 ((t : Nat) : Int), pt (L0.b 0) 0, pt (L0.b 1) 0, undef, undef, .bool false, pt (L3.b 3) 0, .bool true, .bool false, RV k, .bool true, .bool false, GV (gp g1), RV k, QGV f2 e2 g2 d2 false, .int .u8 ((c : Nat) : Int), .int .u8 0] ++ U 36) (fun L => [((L0.b 0), QGC f e g d i), ((L0.b 1), RC k), ((L3.b 3), QGC f2 e2 g2 d2 false)]) hp4 ⟨
    oM, oJ .u8 .u8 ((c : Nat) : Int) 4 (h := fun w => remB _ c 0 hc w),
    trivial⟩ (fun L4 w5 hp5 => ?_)
  refine k8 _ _ ?_
  refine wp_block_k (fun K9 k9 => ?_)
  refine wp_seq_k (fun K10 k10 => ?_)
  refine gs [.det (.bool true), .det (.bool true)] [0, 1] [0, 1] (fun L => [QGV f e g d i, RV k, .int .u8 ((c : Nat) : Int), .int .u64 ((t : Nat) : Int), pt (L0.b 0) 0, pt (L0.b 1) 0, undef, undef, .bool false, pt (L3.b 3) 0, .bool true, .bool false, RV k, .bool true, .bool false, GV (gp g1), RV k, QGV f2 e2 g2 d2 false, .int .u8 ((c : Nat) : Int), .int .u8 0, .bool true, .bool true] ++ U 34) (fun L => [((L0.b 0), QGC f e g d i), ((L0.b 1), RC k), ((L3.b 3), QGC f2 e2 g2 d2 false)]) hp5 ⟨
    oJ .u8 .u8 0 0 (h := fun w => (eqlI _ _ _ _ w).trans rfl), oA,
    trivial⟩ (fun L5 w6 hp6 => ?_)
  refine k10 _ _ ?_
  refine wp_cond_true (by kernel_rfl) ?_
  refine gs [.det (pt (L3.b 3) 24), .det (.bool false), .det (.bool true), .det (pt (L3.b 3) 24), .store (.base 2) 24 ([.bool true]) (QGC f2 e2 g2 d2 true)] [0, 1, 2, 3, 4] [0, 1, 3, 7, 15] (fun L => [QGV f e g d i, RV k, .int .u8 ((c : Nat) : Int), .int .u64 ((t : Nat) : Int), pt (L0.b 0) 0, pt (L0.b 1) 0, undef, undef, .bool false, pt (L3.b 3) 0, .bool true, .bool false, RV k, .bool true, .bool false, GV (gp g1), RV k, QGV f2 e2 g2 d2 false, .int .u8 ((c : Nat) : Int), .int .u8 0, .bool true, .bool true, pt (L3.b 3) 24, .bool false, .bool true, pt (L3.b 3) 24] ++ U 30) (fun L => [((L0.b 0), QGC f e g d i), ((L0.b 1), RC k), ((L3.b 3), QGC f2 e2 g2 d2 true)]) hp6 ⟨
    oF fG2, oL1 2 24 oneB, oN, oF fG2, oT1 oneB,
    trivial⟩ (fun L6 w7 hp7 => ?_)
  refine k9 _ _ _ ?_
  refine block_normal ?_
  refine k7 _ _ ?_
  refine wp_seq_k (fun K11 k11 => ?_)
  refine dr [.det (QGV f e g d i), .det (.bool b1), .det (QGV f e g d i), .det (.bool b1), .det (.bool true), .det (.bool true), .det (QGV f2 e2 g2 d2 true), .det (.bool b2), .det (QGV f2 e2 g2 d2 true), .det (.bool b2), .det (.bool true), .det (.bool true), .det (.bool true)] [0, 1, 2, 3, 4, 5, 6, 7, 8, 9, 10, 11, 12] [0, 1, 0, 7, 15, 31, 63, 127, 63, 511, 1023, 2047, 4095] (fun L => [QGV f e g d i, RV k, .int .u8 ((c : Nat) : Int), .int .u64 ((t : Nat) : Int), pt (L0.b 0) 0, pt (L0.b 1) 0, undef, undef, .bool true, pt (L3.b 3) 0, .bool true, .bool false, RV k, .bool true, .bool false, GV (gp g1), RV k, QGV f2 e2 g2 d2 false, .int .u8 ((c : Nat) : Int), .int .u8 0, .bool true, .bool true, pt (L3.b 3) 24, .bool false, .bool true, pt (L3.b 3) 24, undef, undef, undef, undef, undef, undef, undef, undef, undef, undef, undef, undef, undef, undef, undef, undef, undef, undef, QGV f e g d i, .bool b1, QGV f e g d i, .bool b1, .bool true, .bool true, QGV f2 e2 g2 d2 true, .bool b2, QGV f2 e2 g2 d2 true, .bool b2, .bool true, .bool true]) (fun L => [((L0.b 0), QGC f e g d i), ((L0.b 1), RC k), ((L3.b 3), QGC f2 e2 g2 d2 true)]) hp7 ⟨
    oL 0 0 rG, oC K.stay hg h1, oL 0 0 rG, oR h1r, oE (a := b1) (b := b1) qB (yes rfl), oM, oL 2 0 rG, oC K.stay hg h2, oL 2 0 rG, oR h2r, oE (a := b2) (b := b2) qB (yes rfl),
    oP, oA,
    trivial⟩ (fun L7 w8 hp8 => ?_)
  refine k11 _ _ ?_
  refine wp_ret ?_
  refine bodyPost_ret (v := .bool true) ?_ rfl ?_
  · exact res_t rfl (by kernel_rfl) _
  · exact ⟨rfl, hp8.bel⟩
set_option maxHeartbeats 4000000 in
theorem onX0 {G : World → Prop} (K : FpK G) (R : RefK) (g1 : Pt F2) (f e g d : Nat → Int) (i : Bool) (k c t : Nat) (f2 e2 g2 d2 : Nat → Int) (i2 : Bool) (f3 : Nat → Int) (v : Int) (b1 b2 : Bool) (w : World) (hg : G w) (hgn : g1 = gen2) (hB : ∀ w, G w → Calls Tryd.prog 9 #[] w (Ret (.bool true) w)) (hk6 : k < 2 ^ 256) (hk : k < ordR) (hT : GV (gp (mul F2.inv k g1)) = QGV f2 e2 g2 d2 i2) (ht : t % 6 = 0) (hv : IntKind.u64.wrap (f2 0 + 1) = v) (hu : upd f2 0 v = f3) (hc : c % 4 = 1) (h1 : ∀ w, G w → Calls Tryd.prog 19 #[QGV f e g d i] w (Ret (.bool b1) w)) (h1r : ∀ w, Calls Tryd.prog 21 #[QGV f e g d i] w (Ret (.bool b1) w)) (h2 : ∀ w, G w → Calls Tryd.prog 19 #[QGV f3 e2 g2 d2 i2] w (Ret (.bool b2) w)) (h2r : ∀ w, Calls Tryd.prog 21 #[QGV f3 e2 g2 d2 i2] w (Ret (.bool b2) w)) : Calls Tryd.prog 4 #[QGV f e g d i, RV k, .int .u8 ((c : Nat) : Int), .int .u64 ((t : Nat) : Int)] w (Ret (.bool true) w) := by
  have hp0 := Heap.start w
  go_enter Tryd.func4, Tryd.ntmps4
  refine wp_seq_k (fun K1 k1 => ?_)
  refine gs [.alloc (QGC f e g d i), .alloc (RC k), .det (.bool false)] [0, 1, 2] [0, 0, 0] (fun L => [QGV f e g d i, RV k, .int .u8 ((c : Nat) : Int), .int .u64 ((t : Nat) : Int), pt (L.b 0) 0, pt (L.b 1) 0, undef, undef, .bool false] ++ U 47) (fun L => [(L.b 0, QGC f e g d i), (L.b 1, RC k)]) hp0 ⟨
    oB, oB, oA,
    trivial⟩ (fun L0 w1 hp1 => ?_)
  refine k1 _ _ ?_
  refine wp_seq_k (fun K2 k2 => ?_)
  refine wp_seq_k (fun K3 k3 => ?_)
  refine gs [.det (.bool true), .det (.bool false)] [0, 1] [0, 1] (fun L => [QGV f e g d i, RV k, .int .u8 ((c : Nat) : Int), .int .u64 ((t : Nat) : Int), pt (L0.b 0) 0, pt (L0.b 1) 0, undef, undef, .bool false, undef, .bool true, .bool false] ++ U 44) (fun L => [((L0.b 0), QGC f e g d i), ((L0.b 1), RC k)]) hp1 ⟨
    oC K.stay hg hB, oN,
    trivial⟩ (fun L1 w2 hp2 => ?_)
  refine k3 _ _ ?_
  refine wp_cond_false (by kernel_rfl) ?_
  refine skips ?_
  refine k2 _ _ ?_
  refine wp_seq_k (fun K4 k4 => ?_)
  refine wp_seq_k (fun K5 k5 => ?_)
  refine gs [.det (RV k), .det (.bool true), .det (.bool false)] [0, 1, 2] [0, 1, 3] (fun L => [QGV f e g d i, RV k, .int .u8 ((c : Nat) : Int), .int .u64 ((t : Nat) : Int), pt (L0.b 0) 0, pt (L0.b 1) 0, undef, undef, .bool false, undef, .bool true, .bool false, RV k, .bool true, .bool false] ++ U 41) (fun L => [((L0.b 0), QGC f e g d i), ((L0.b 1), RC k)]) hp2 ⟨
    oL 1 0 rR, oH (v := .bool true) (vs := #[RV k]) (fun w _ _ => by have h := mayR hk6 w; rw [decide_eq_true hk] at h; exact h), oN,
    trivial⟩ (fun L2 w3 hp3 => ?_)
  refine k5 _ _ ?_
  refine wp_cond_false (by kernel_rfl) ?_
  refine skips ?_
  refine k4 _ _ ?_
  refine wp_seq_k (fun K6 k6 => ?_)
  refine dr [.det (GV (gp g1)), .det (RV k), .det (QGV f2 e2 g2 d2 i2), .alloc (GC ⟨0, 0, false⟩), .store (.new 3) 0 (QGC f2 e2 g2 d2 i2) (QGC f2 e2 g2 d2 i2)] [0, 1, 2, 3, 4] [0, 0, 3, 0, 15] (fun L => [QGV f e g d i, RV k, .int .u8 ((c : Nat) : Int), .int .u64 ((t : Nat) : Int), pt (L0.b 0) 0, pt (L0.b 1) 0, undef, undef, .bool false, pt (L.b 3) 0, .bool true, .bool false, RV k, .bool true, .bool false, GV (gp g1), RV k, QGV f2 e2 g2 d2 i2] ++ U 38) (fun L => [((L0.b 0), QGC f e g d i), ((L0.b 1), RC k), (L.b 3, QGC f2 e2 g2 d2 i2)]) hp3 ⟨
    oH (v := GV (gp g1)) (vs := #[]) (fun w _ _ => by have h := ref5Gen1 R w; rw [← hgn] at h; exact h), oL 1 0 rR, oH (v := QGV f2 e2 g2 d2 i2) (vs := #[GV (gp g1), RV k]) (fun w _ _ => by have h := ref5Times1 R g1 k w (gen2_on' hgn) hk6; rw [hT] at h; exact h),
    oZ rG, oT rG,
    trivial⟩ (fun L3 w4 hp4 => ?_)
  refine k6 _ _ ?_
  refine wp_seq_k (fun K7 k7 => ?_)
  refine wp_seq_k (fun K8 k8 => ?_)
  refine gs [.det (.int .u8 ((c : Nat) : Int)), .det (.int .u8 1)] [0, 1] [0, 1] (fun L => [QGV f e g d i, RV k, .int .u8 ((c : Nat) : Int), .int .u64 ((t : Nat) : Int), pt (L0.b 0) 0, pt (L0.b 1) 0, undef, undef, .bool false, pt (L3.b 3) 0, .bool true, .bool false, RV k, .bool true, .bool false, GV (gp g1), RV k, QGV f2 e2 g2 d2 i2, .int .u8 ((c : Nat) : Int), .int .u8 1] ++ U 36) (fun L => [((L0.b 0), QGC f e g d i), ((L0.b 1), RC k), ((L3.b 3), QGC f2 e2 g2 d2 i2)]) hp4 ⟨
    oM, oJ .u8 .u8 ((c : Nat) : Int) 4 (h := fun w => remB _ c 1 hc w),
    trivial⟩ (fun L4 w5 hp5 => ?_)
  refine k8 _ _ ?_
  refine wp_block_k (fun K9 k9 => ?_)
  refine wp_seq_k (fun K10 k10 => ?_)
  refine gs [.det (.bool false), .det (.bool false)] [0, 1] [0, 1] (fun L => [QGV f e g d i, RV k, .int .u8 ((c : Nat) : Int), .int .u64 ((t : Nat) : Int), pt (L0.b 0) 0, pt (L0.b 1) 0, undef, undef, .bool false, pt (L3.b 3) 0, .bool true, .bool false, RV k, .bool true, .bool false, GV (gp g1), RV k, QGV f2 e2 g2 d2 i2, .int .u8 ((c : Nat) : Int), .int .u8 1, .bool false, .bool false] ++ U 34) (fun L => [((L0.b 0), QGC f e g d i), ((L0.b 1), RC k), ((L3.b 3), QGC f2 e2 g2 d2 i2)]) hp5 ⟨
    oJ .u8 .u8 1 0 (h := fun w => (eqlI _ _ _ _ w).trans rfl), oA,
    trivial⟩ (fun L5 w6 hp6 => ?_)
  refine k10 _ _ ?_
  refine wp_cond_false (by kernel_rfl) ?_
  refine wp_seq_k (fun K11 k11 => ?_)
  refine gs [.det (.bool true), .det (.bool true)] [0, 1] [0, 1] (fun L => [QGV f e g d i, RV k, .int .u8 ((c : Nat) : Int), .int .u64 ((t : Nat) : Int), pt (L0.b 0) 0, pt (L0.b 1) 0, undef, undef, .bool false, pt (L3.b 3) 0, .bool true, .bool false, RV k, .bool true, .bool false, GV (gp g1), RV k, QGV f2 e2 g2 d2 i2, .int .u8 ((c : Nat) : Int), .int .u8 1, .bool false, .bool false, undef, undef, undef, undef, .bool true, .bool true] ++ U 28) (fun L => [((L0.b 0), QGC f e g d i), ((L0.b 1), RC k), ((L3.b 3), QGC f2 e2 g2 d2 i2)]) hp6 ⟨
    oJ .u8 .u8 1 1 (h := fun w => (eqlI _ _ _ _ w).trans rfl), oA,
    trivial⟩ (fun L6 w7 hp7 => ?_)
  refine k11 _ _ ?_
  refine wp_cond_true (by kernel_rfl) ?_
  refine dr [.det (.int .u64 ((t : Nat) : Int)), .det (.int .u64 0), .det (.int .u64 ((t : Nat) : Int)), .det (.int .u64 0), .det (pt (L3.b 3) 0), .det (pt (L3.b 3) 0), .det (pt (L3.b 3) 0), .det (.int .u64 (f2 0)), .det (.int .u64 v), .det (pt (L3.b 3) 0), .det (pt (L3.b 3) 0), .det (pt (L3.b 3) 0), .store (.base 2) 0 ([.int .u64 v]) (QGC f3 e2 g2 d2 i2)] [0, 1, 2, 3, 4, 5, 6, 7, 8, 9, 10, 11, 12] [0, 1, 0, 4, 0, 19, 63, 127, 255, 0, 515, 2047, 4095] (fun L => [QGV f e g d i, RV k, .int .u8 ((c : Nat) : Int), .int .u64 ((t : Nat) : Int), pt (L0.b 0) 0, pt (L0.b 1) 0, undef, undef, .bool false, pt (L3.b 3) 0, .bool true, .bool false, RV k, .bool true, .bool false, GV (gp g1), RV k, QGV f2 e2 g2 d2 i2, .int .u8 ((c : Nat) : Int), .int .u8 1, .bool false, .bool false, undef, undef, undef, undef, .bool true, .bool true, .int .u64 ((t : Nat) : Int), .int .u64 0, .int .u64 ((t : Nat) : Int), .int .u64 0, pt (L3.b 3) 0, pt (L3.b 3) 0, pt (L3.b 3) 0, .int .u64 (f2 0), .int .u64 v, pt (L3.b 3) 0, pt (L3.b 3) 0, pt (L3.b 3) 0] ++ U 16) (fun L => [((L0.b 0), QGC f e g d i), ((L0.b 1), RC k), ((L3.b 3), QGC f3 e2 g2 d2 i2)]) hp7 ⟨
    oM, oJ .u64 .u64 ((t : Nat) : Int) 2 (h := fun w => remU _ t 2 0 (by decide) (by omega) w), oM, oJ .u64 .u64 ((t : Nat) : Int) 6 (h := fun w => remU _ t 6 0 (by decide) ht w),
    oF fG0, oIU aP, oIU aF, oL1 2 0 oneU, oJ .u64 .u64 (f2 0) 1 (h := fun w => add1U _ (f2 0) v hv w), oF fG0, oIU aP, oIU aF, oT1 oneU (hsp := by subst hu; rfl),
    trivial⟩ (fun L7 w8 hp8 => ?_)
  refine k9 _ _ _ ?_
  refine block_normal ?_
  refine k7 _ _ ?_
  refine wp_seq_k (fun K12 k12 => ?_)
  refine dr [.det (QGV f e g d i), .det (.bool b1), .det (QGV f e g d i), .det (.bool b1), .det (.bool true), .det (.bool true), .det (QGV f3 e2 g2 d2 i2), .det (.bool b2), .det (QGV f3 e2 g2 d2 i2), .det (.bool b2), .det (.bool true), .det (.bool true), .det (.bool true)] [0, 1, 2, 3, 4, 5, 6, 7, 8, 9, 10, 11, 12] [0, 1, 0, 7, 15, 31, 63, 127, 63, 511, 1023, 2047, 4095] (fun L => [QGV f e g d i, RV k, .int .u8 ((c : Nat) : Int), .int .u64 ((t : Nat) : Int), pt (L0.b 0) 0, pt (L0.b 1) 0, undef, undef, .bool true, pt (L3.b 3) 0, .bool true, .bool false, RV k, .bool true, .bool false, GV (gp g1), RV k, QGV f2 e2 g2 d2 i2, .int .u8 ((c : Nat) : Int), .int .u8 1, .bool false, .bool false, undef, undef, undef, undef, .bool true, .bool true, .int .u64 ((t : Nat) : Int), .int .u64 0, .int .u64 ((t : Nat) : Int), .int .u64 0, pt (L3.b 3) 0, pt (L3.b 3) 0, pt (L3.b 3) 0, .int .u64 (f2 0), .int .u64 v, pt (L3.b 3) 0, pt (L3.b 3) 0, pt (L3.b 3) 0, undef, undef, undef, undef, QGV f e g d i, .bool b1, QGV f e g d i, .bool b1, .bool true, .bool true, QGV f3 e2 g2 d2 i2, .bool b2, QGV f3 e2 g2 d2 i2, .bool b2, .bool true, .bool true]) (fun L => [((L0.b 0), QGC f e g d i), ((L0.b 1), RC k), ((L3.b 3), QGC f3 e2 g2 d2 i2)]) hp8 ⟨
    oL 0 0 rG, oC K.stay hg h1, oL 0 0 rG, oR h1r, oE (a := b1) (b := b1) qB (yes rfl), oM, oL 2 0 rG, oC K.stay hg h2, oL 2 0 rG, oR h2r, oE (a := b2) (b := b2) qB (yes rfl),
    oP, oA,
    trivial⟩ (fun L8 w9 hp9 => ?_)
  refine k12 _ _ ?_
  refine wp_ret ?_
  refine bodyPost_ret (v := .bool true) ?_ rfl ?_
  · exact res_t rfl (by kernel_rfl) _
  · exact ⟨rfl, hp9.bel⟩
set_option maxHeartbeats 4000000 in
theorem onX1 {G : World → Prop} (K : FpK G) (R : RefK) (g1 : Pt F2) (f e g d : Nat → Int) (i : Bool) (k c t : Nat) (f2 e2 g2 d2 : Nat → Int) (i2 : Bool) (f3 : Nat → Int) (v : Int) (b1 b2 : Bool) (w : World) (hg : G w) (hgn : g1 = gen2) (hB : ∀ w, G w → Calls Tryd.prog 9 #[] w (Ret (.bool true) w)) (hk6 : k < 2 ^ 256) (hk : k < ordR) (hT : GV (gp (mul F2.inv k g1)) = QGV f2 e2 g2 d2 i2) (ht : t % 6 = 1) (hv : IntKind.u64.wrap (e2 1 + 1) = v) (hu : upd e2 1 v = f3) (hc : c % 4 = 1) (h1 : ∀ w, G w → Calls Tryd.prog 19 #[QGV f e g d i] w (Ret (.bool b1) w)) (h1r : ∀ w, Calls Tryd.prog 21 #[QGV f e g d i] w (Ret (.bool b1) w)) (h2 : ∀ w, G w → Calls Tryd.prog 19 #[QGV f2 f3 g2 d2 i2] w (Ret (.bool b2) w)) (h2r : ∀ w, Calls Tryd.prog 21 #[QGV f2 f3 g2 d2 i2] w (Ret (.bool b2) w)) : Calls Tryd.prog 4 #[QGV f e g d i, RV k, .int .u8 ((c : Nat) : Int), .int .u64 ((t : Nat) : Int)] w (Ret (.bool true) w) := by
  have hp0 := Heap.start w
  go_enter Tryd.func4, Tryd.ntmps4
  refine wp_seq_k (fun K1 k1 => ?_)
  refine gs [.alloc (QGC f e g d i), .alloc (RC k), .det (.bool false)] [0, 1, 2] [0, 0, 0] (fun L => [QGV f e g d i, RV k, .int .u8 ((c : Nat) : Int), .int .u64 ((t : Nat) : Int), pt (L.b 0) 0, pt (L.b 1) 0, undef, undef, .bool false] ++ U 47) (fun L => [(L.b 0, QGC f e g d i), (L.b 1, RC k)]) hp0 ⟨
    oB, oB, oA,
    trivial⟩ (fun L0 w1 hp1 => ?_)
  refine k1 _ _ ?_
  refine wp_seq_k (fun K2 k2 => ?_)
  refine wp_seq_k (fun K3 k3 => ?_)
  refine gs [.det (.bool true), .det (.bool false)] [0, 1] [0, 1] (fun L => [QGV f e g d i, RV k, .int .u8 ((c : Nat) : Int), .int .u64 ((t : Nat) : Int), pt (L0.b 0) 0, pt (L0.b 1) 0, undef, undef, .bool false, undef, .bool true, .bool false] ++ U 44) (fun L => [((L0.b 0), QGC f e g d i), ((L0.b 1), RC k)]) hp1 ⟨
    oC K.stay hg hB, oN,
    trivial⟩ (fun L1 w2 hp2 => ?_)
  refine k3 _ _ ?_
  refine wp_cond_false (by kernel_rfl) ?_
  refine skips ?_
  refine k2 _ _ ?_
  refine wp_seq_k (fun K4 k4 => ?_)
  refine wp_seq_k (fun K5 k5 => ?_)
  refine gs [.det (RV k), .det (.bool true), .det (.bool false)] [0, 1, 2] [0, 1, 3] (fun L => [QGV f e g d i, RV k, .int .u8 ((c : Nat) : Int), .int .u64 ((t : Nat) : Int), pt (L0.b 0) 0, pt (L0.b 1) 0, undef, undef, .bool false, undef, .bool true, .bool false, RV k, .bool true, .bool false] ++ U 41) (fun L => [((L0.b 0), QGC f e g d i), ((L0.b 1), RC k)]) hp2 ⟨
    oL 1 0 rR, oH (v := .bool true) (vs := #[RV k]) (fun w _ _ => by have h := mayR hk6 w; rw [decide_eq_true hk] at h; exact h), oN,
    trivial⟩ (fun L2 w3 hp3 => ?_)
  refine k5 _ _ ?_
  refine wp_cond_false (by kernel_rfl) ?_
  refine skips ?_
  refine k4 _ _ ?_
  refine wp_seq_k (fun K6 k6 => ?_)
  refine dr [.det (GV (gp g1)), .det (RV k), .det (QGV f2 e2 g2 d2 i2), .alloc (GC ⟨0, 0, false⟩), .store (.new 3) 0 (QGC f2 e2 g2 d2 i2) (QGC f2 e2 g2 d2 i2)] [0, 1, 2, 3, 4] [0, 0, 3, 0, 15] (fun L => [QGV f e g d i, RV k, .int .u8 ((c : Nat) : Int), .int .u64 ((t : Nat) : Int), pt (L0.b 0) 0, pt (L0.b 1) 0, undef, undef, .bool false, pt (L.b 3) 0, .bool true, .bool false, RV k, .bool true, .bool false, GV (gp g1), RV k, QGV f2 e2 g2 d2 i2] ++ U 38) (fun L => [((L0.b 0), QGC f e g d i), ((L0.b 1), RC k), (L.b 3, QGC f2 e2 g2 d2 i2)]) hp3 ⟨
    oH (v := GV (gp g1)) (vs := #[]) (fun w _ _ => by have h := ref5Gen1 R w; rw [← hgn] at h; exact h), oL 1 0 rR, oH (v := QGV f2 e2 g2 d2 i2) (vs := #[GV (gp g1), RV k]) (fun w _ _ => by have h := ref5Times1 R g1 k w (gen2_on' hgn) hk6; rw [hT] at h; exact h),
    oZ rG, oT rG,
    trivial⟩ (fun L3 w4 hp4 => ?_)
  refine k6 _ _ ?_
  refine wp_seq_k (fun K7 k7 => ?_)
  refine wp_seq_k (fun K8 k8 => ?_)
  refine gs [.det (.int .u8 ((c : Nat) : Int)), .det (.int .u8 1)] [0, 1] [0, 1] (fun L => [QGV f e g d i, RV k, .int .u8 ((c : Nat) : Int), .int .u64 ((t : Nat) : Int), pt (L0.b 0) 0, pt (L0.b 1) 0, undef, undef, .bool false, pt (L3.b 3) 0, .bool true, .bool false, RV k, .bool true, .bool false, GV (gp g1), RV k, QGV f2 e2 g2 d2 i2, .int .u8 ((c : Nat) : Int), .int .u8 1] ++ U 36) (fun L => [((L0.b 0), QGC f e g d i), ((L0.b 1), RC k), ((L3.b 3), QGC f2 e2 g2 d2 i2)]) hp4 ⟨
    oM, oJ .u8 .u8 ((c : Nat) : Int) 4 (h := fun w => remB _ c 1 hc w),
    trivial⟩ (fun L4 w5 hp5 => ?_)
  refine k8 _ _ ?_
  refine wp_block_k (fun K9 k9 => ?_)
  refine wp_seq_k (fun K10 k10 => ?_)
  refine gs [.det (.bool false), .det (.bool false)] [0, 1] [0, 1] (fun L => [QGV f e g d i, RV k, .int .u8 ((c : Nat) : Int), .int .u64 ((t : Nat) : Int), pt (L0.b 0) 0, pt (L0.b 1) 0, undef, undef, .bool false, pt (L3.b 3) 0, .bool true, .bool false, RV k, .bool true, .bool false, GV (gp g1), RV k, QGV f2 e2 g2 d2 i2, .int .u8 ((c : Nat) : Int), .int .u8 1, .bool false, .bool false] ++ U 34) (fun L => [((L0.b 0), QGC f e g d i), ((L0.b 1), RC k), ((L3.b 3), QGC f2 e2 g2 d2 i2)]) hp5 ⟨
    oJ .u8 .u8 1 0 (h := fun w => (eqlI _ _ _ _ w).trans rfl), oA,
    trivial⟩ (fun L5 w6 hp6 => ?_)
  refine k10 _ _ ?_
  refine wp_cond_false (by kernel_rfl) ?_
  refine wp_seq_k (fun K11 k11 => ?_)
  refine gs [.det (.bool true), .det (.bool true)] [0, 1] [0, 1] (fun L => [QGV f e g d i, RV k, .int .u8 ((c : Nat) : Int), .int .u64 ((t : Nat) : Int), pt (L0.b 0) 0, pt (L0.b 1) 0, undef, undef, .bool false, pt (L3.b 3) 0, .bool true, .bool false, RV k, .bool true, .bool false, GV (gp g1), RV k, QGV f2 e2 g2 d2 i2, .int .u8 ((c : Nat) : Int), .int .u8 1, .bool false, .bool false, undef, undef, undef, undef, .bool true, .bool true] ++ U 28) (fun L => [((L0.b 0), QGC f e g d i), ((L0.b 1), RC k), ((L3.b 3), QGC f2 e2 g2 d2 i2)]) hp6 ⟨
    oJ .u8 .u8 1 1 (h := fun w => (eqlI _ _ _ _ w).trans rfl), oA,
    trivial⟩ (fun L6 w7 hp7 => ?_)
  refine k11 _ _ ?_
  refine wp_cond_true (by kernel_rfl) ?_
  refine dr [.det (.int .u64 ((t : Nat) : Int)), .det (.int .u64 1), .det (.int .u64 ((t : Nat) : Int)), .det (.int .u64 1), .det (pt (L3.b 3) 0), .det (pt (L3.b 3) 6), .det (pt (L3.b 3) 7), .det (.int .u64 (e2 1)), .det (.int .u64 v), .det (pt (L3.b 3) 0), .det (pt (L3.b 3) 6), .det (pt (L3.b 3) 7), .store (.base 2) 7 ([.int .u64 v]) (QGC f2 f3 g2 d2 i2)] [0, 1, 2, 3, 4, 5, 6, 7, 8, 9, 10, 11, 12] [0, 1, 0, 4, 0, 19, 63, 127, 255, 0, 515, 2047, 4095] (fun L => [QGV f e g d i, RV k, .int .u8 ((c : Nat) : Int), .int .u64 ((t : Nat) : Int), pt (L0.b 0) 0, pt (L0.b 1) 0, undef, undef, .bool false, pt (L3.b 3) 0, .bool true, .bool false, RV k, .bool true, .bool false, GV (gp g1), RV k, QGV f2 e2 g2 d2 i2, .int .u8 ((c : Nat) : Int), .int .u8 1, .bool false, .bool false, undef, undef, undef, undef, .bool true, .bool true, .int .u64 ((t : Nat) : Int), .int .u64 1, .int .u64 ((t : Nat) : Int), .int .u64 1, pt (L3.b 3) 0, pt (L3.b 3) 6, pt (L3.b 3) 7, .int .u64 (e2 1), .int .u64 v, pt (L3.b 3) 0, pt (L3.b 3) 6, pt (L3.b 3) 7] ++ U 16) (fun L => [((L0.b 0), QGC f e g d i), ((L0.b 1), RC k), ((L3.b 3), QGC f2 f3 g2 d2 i2)]) hp7 ⟨
    oM, oJ .u64 .u64 ((t : Nat) : Int) 2 (h := fun w => remU _ t 2 1 (by decide) (by omega) w), oM, oJ .u64 .u64 ((t : Nat) : Int) 6 (h := fun w => remU _ t 6 1 (by decide) ht w),
    oF fG0, oIU aP, oIU aF, oL1 2 7 oneU, oJ .u64 .u64 (e2 1) 1 (h := fun w => add1U _ (e2 1) v hv w), oF fG0, oIU aP, oIU aF, oT1 oneU (hsp := by subst hu; rfl),
    trivial⟩ (fun L7 w8 hp8 => ?_)
  refine k9 _ _ _ ?_
  refine block_normal ?_
  refine k7 _ _ ?_
  refine wp_seq_k (fun K12 k12 => ?_)
  refine dr [.det (QGV f e g d i), .det (.bool b1), .det (QGV f e g d i), .det (.bool b1), .det (.bool true), .det (.bool true), .det (QGV f2 f3 g2 d2 i2), .det (.bool b2), .det (QGV f2 f3 g2 d2 i2), .det (.bool b2), .det (.bool true), .det (.bool true), .det (.bool true)] [0, 1, 2, 3, 4, 5, 6, 7, 8, 9, 10, 11, 12] [0, 1, 0, 7, 15, 31, 63, 127, 63, 511, 1023, 2047, 4095] (fun L => [QGV f e g d i, RV k, .int .u8 ((c : Nat) : Int), .int .u64 ((t : Nat) : Int), pt (L0.b 0) 0, pt (L0.b 1) 0, undef, undef, .bool true, pt (L3.b 3) 0, .bool true, .bool false, RV k, .bool true, .bool false, GV (gp g1), RV k, QGV f2 e2 g2 d2 i2, .int .u8 ((c : Nat) : Int), .int .u8 1, .bool false, .bool false, undef, undef, undef, undef, .bool true, .bool true, .int .u64 ((t : Nat) : Int), .int .u64 1, .int .u64 ((t : Nat) : Int), .int .u64 1, pt (L3.b 3) 0, pt (L3.b 3) 6, pt (L3.b 3) 7, .int .u64 (e2 1), .int .u64 v, pt (L3.b 3) 0, pt (L3.b 3) 6, pt (L3.b 3) 7, undef, undef, undef, undef, QGV f e g d i, .bool b1, QGV f e g d i, .bool b1, .bool true, .bool true, QGV f2 f3 g2 d2 i2, .bool b2, QGV f2 f3 g2 d2 i2, .bool b2, .bool true, .bool true]) (fun L => [((L0.b 0), QGC f e g d i), ((L0.b 1), RC k), ((L3.b 3), QGC f2 f3 g2 d2 i2)]) hp8 ⟨
    oL 0 0 rG, oC K.stay hg h1, oL 0 0 rG, oR h1r, oE (a := b1) (b := b1) qB (yes rfl), oM, oL 2 0 rG, oC K.stay hg h2, oL 2 0 rG, oR h2r, oE (a := b2) (b := b2) qB (yes rfl),
    oP, oA,
    trivial⟩ (fun L8 w9 hp9 => ?_)
  refine k12 _ _ ?_
  refine wp_ret ?_
  refine bodyPost_ret (v := .bool true) ?_ rfl ?_
  · exact res_t rfl (by kernel_rfl) _
  · exact ⟨rfl, hp9.bel⟩
set_option maxHeartbeats 4000000 in
theorem onX2 {G : World → Prop} (K : FpK G) (R : RefK) (g1 : Pt F2) (f e g d : Nat → Int) (i : Bool) (k c t : Nat) (f2 e2 g2 d2 : Nat → Int) (i2 : Bool) (f3 : Nat → Int) (v : Int) (b1 b2 : Bool) (w : World) (hg : G w) (hgn : g1 = gen2) (hB : ∀ w, G w → Calls Tryd.prog 9 #[] w (Ret (.bool true) w)) (hk6 : k < 2 ^ 256) (hk : k < ordR) (hT : GV (gp (mul F2.inv k g1)) = QGV f2 e2 g2 d2 i2) (ht : t % 6 = 2) (hv : IntKind.u64.wrap (f2 2 + 1) = v) (hu : upd f2 2 v = f3) (hc : c % 4 = 1) (h1 : ∀ w, G w → Calls Tryd.prog 19 #[QGV f e g d i] w (Ret (.bool b1) w)) (h1r : ∀ w, Calls Tryd.prog 21 #[QGV f e g d i] w (Ret (.bool b1) w)) (h2 : ∀ w, G w → Calls Tryd.prog 19 #[QGV f3 e2 g2 d2 i2] w (Ret (.bool b2) w)) (h2r : ∀ w, Calls Tryd.prog 21 #[QGV f3 e2 g2 d2 i2] w (Ret (.bool b2) w)) : Calls Tryd.prog 4 #[QGV f e g d i, RV k, .int .u8 ((c : Nat) : Int), .int .u64 ((t : Nat) : Int)] w (Ret (.bool true) w) := by
  have hp0 := Heap.start w
  go_enter Tryd.func4, Tryd.ntmps4
  refine wp_seq_k (fun K1 k1 => ?_)
  refine gs [.alloc (QGC f e g d i), .alloc (RC k), .det (.bool false)] [0, 1, 2] [0, 0, 0] (fun L => [QGV f e g d i, RV k, .int .u8 ((c : Nat) : Int), .int .u64 ((t : Nat) : Int), pt (L.b 0) 0, pt (L.b 1) 0, undef, undef, .bool false] ++ U 47) (fun L => [(L.b 0, QGC f e g d i), (L.b 1, RC k)]) hp0 ⟨
    oB, oB, oA,
    trivial⟩ (fun L0 w1 hp1 => ?_)
  refine k1 _ _ ?_
  refine wp_seq_k (fun K2 k2 => ?_)
  refine wp_seq_k (fun K3 k3 => ?_)
  refine gs [.det (.bool true), .det (.bool false)] [0, 1] [0, 1] (fun L => [QGV f e g d i, RV k, .int .u8 ((c : Nat) : Int), .int .u64 ((t : Nat) : Int), pt (L0.b 0) 0, pt (L0.b 1) 0, undef, undef, .bool false, undef, .bool true, .bool false] ++ U 44) (fun L => [((L0.b 0), QGC f e g d i), ((L0.b 1), RC k)]) hp1 ⟨
    oC K.stay hg hB, oN,
    trivial⟩ (fun L1 w2 hp2 => ?_)
  refine k3 _ _ ?_
  refine wp_cond_false (by kernel_rfl) ?_
  refine skips ?_
  refine k2 _ _ ?_
  refine wp_seq_k (fun K4 k4 => ?_)
  refine wp_seq_k (fun K5 k5 => ?_)
  refine gs [.det (RV k), .det (.bool true), .det (.bool false)] [0, 1, 2] [0, 1, 3] (fun L => [QGV f e g d i, RV k, .int .u8 ((c : Nat) : Int), .int .u64 ((t : Nat) : Int), pt (L0.b 0) 0, pt (L0.b 1) 0, undef, undef, .bool false, undef, .bool true, .bool false, RV k, .bool true, .bool false] ++ U 41) (fun L => [((L0.b 0), QGC f e g d i), ((L0.b 1), RC k)]) hp2 ⟨
    oL 1 0 rR, oH (v := .bool true) (vs := #[RV k]) (fun w _ _ => by have h := mayR hk6 w; rw [decide_eq_true hk] at h; exact h), oN,
    trivial⟩ (fun L2 w3 hp3 => ?_)
  refine k5 _ _ ?_
  refine wp_cond_false (by kernel_rfl) ?_
  refine skips ?_
  refine k4 _ _ ?_
  refine wp_seq_k (fun K6 k6 => ?_)
  refine dr [.det (GV (gp g1)), .det (RV k), .det (QGV f2 e2 g2 d2 i2), .alloc (GC ⟨0, 0, false⟩), .store (.new 3) 0 (QGC f2 e2 g2 d2 i2) (QGC f2 e2 g2 d2 i2)] [0, 1, 2, 3, 4] [0, 0, 3, 0, 15] (fun L => [QGV f e g d i, RV k, .int .u8 ((c : Nat) : Int), .int .u64 ((t : Nat) : Int), pt (L0.b 0) 0, pt (L0.b 1) 0, undef, undef, .bool false, pt (L.b 3) 0, .bool true, .bool false, RV k, .bool true, .bool false, GV (gp g1), RV k, QGV f2 e2 g2 d2 i2] ++ U 38) (fun L => [((L0.b 0), QGC f e g d i), ((L0.b 1), RC k), (L.b 3, QGC f2 e2 g2 d2 i2)]) hp3 ⟨
    oH (v := GV (gp g1)) (vs := #[]) (fun w _ _ => by have h := ref5Gen1 R w; rw [← hgn] at h; exact h), oL 1 0 rR, oH (v := QGV f2 e2 g2 d2 i2) (vs := #[GV (gp g1), RV k]) (fun w _ _ => by have h := ref5Times1 R g1 k w (gen2_on' hgn) hk6; rw [hT] at h; exact h),
    oZ rG, oT rG,
    trivial⟩ (fun L3 w4 hp4 => ?_)
  refine k6 _ _ ?_
  refine wp_seq_k (fun K7 k7 => ?_)
  refine wp_seq_k (fun K8 k8 => ?_)
  refine gs [.det (.int .u8 ((c : Nat) : Int)), .det (.int .u8 1)] [0, 1] [0, 1] (fun L => [QGV f e g d i, RV k, .int .u8 ((c : Nat) : Int), .int .u64 ((t : Nat) : Int), pt (L0.b 0) 0, pt (L0.b 1) 0, undef, undef, .bool false, pt (L3.b 3) 0, .bool true, .bool false, RV k, .bool true, .bool false, GV (gp g1), RV k, QGV f2 e2 g2 d2 i2, .int .u8 ((c : Nat) : Int), .int .u8 1] ++ U 36) (fun L => [((L0.b 0), QGC f e g d i), ((L0.b 1), RC k), ((L3.b 3), QGC f2 e2 g2 d2 i2)]) hp4 ⟨
    oM, oJ .u8 .u8 ((c : Nat) : Int) 4 (h := fun w => remB _ c 1 hc w),
    trivial⟩ (fun L4 w5 hp5 => ?_)
  refine k8 _ _ ?_
  refine wp_block_k (fun K9 k9 => ?_)
  refine wp_seq_k (fun K10 k10 => ?_)
  refine gs [.det (.bool false), .det (.bool false)] [0, 1] [0, 1] (fun L => [QGV f e g d i, RV k, .int .u8 ((c : Nat) : Int), .int .u64 ((t : Nat) : Int), pt (L0.b 0) 0, pt (L0.b 1) 0, undef, undef, .bool false, pt (L3.b 3) 0, .bool true, .bool false, RV k, .bool true, .bool false, GV (gp g1), RV k, QGV f2 e2 g2 d2 i2, .int .u8 ((c : Nat) : Int), .int .u8 1, .bool false, .bool false] ++ U 34) (fun L => [((L0.b 0), QGC f e g d i), ((L0.b 1), RC k), ((L3.b 3), QGC f2 e2 g2 d2 i2)]) hp5 ⟨
    oJ .u8 .u8 1 0 (h := fun w => (eqlI _ _ _ _ w).trans rfl), oA,
    trivial⟩ (fun L5 w6 hp6 => ?_)
  refine k10 _ _ ?_
  refine wp_cond_false (by kernel_rfl) ?_
  refine wp_seq_k (fun K11 k11 => ?_)
  refine gs [.det (.bool true), .det (.bool true)] [0, 1] [0, 1] (fun L => [QGV f e g d i, RV k, .int .u8 ((c : Nat) : Int), .int .u64 ((t : Nat) : Int), pt (L0.b 0) 0, pt (L0.b 1) 0, undef, undef, .bool false, pt (L3.b 3) 0, .bool true, .bool false, RV k, .bool true, .bool false, GV (gp g1), RV k, QGV f2 e2 g2 d2 i2, .int .u8 ((c : Nat) : Int), .int .u8 1, .bool false, .bool false, undef, undef, undef, undef, .bool true, .bool true] ++ U 28) (fun L => [((L0.b 0), QGC f e g d i), ((L0.b 1), RC k), ((L3.b 3), QGC f2 e2 g2 d2 i2)]) hp6 ⟨
    oJ .u8 .u8 1 1 (h := fun w => (eqlI _ _ _ _ w).trans rfl), oA,
    trivial⟩ (fun L6 w7 hp7 => ?_)
  refine k11 _ _ ?_
  refine wp_cond_true (by kernel_rfl) ?_
  refine dr [.det (.int .u64 ((t : Nat) : Int)), .det (.int .u64 0), .det (.int .u64 ((t : Nat) : Int)), .det (.int .u64 2), .det (pt (L3.b 3) 0), .det (pt (L3.b 3) 0), .det (pt (L3.b 3) 2), .det (.int .u64 (f2 2)), .det (.int .u64 v), .det (pt (L3.b 3) 0), .det (pt (L3.b 3) 0), .det (pt (L3.b 3) 2), .store (.base 2) 2 ([.int .u64 v]) (QGC f3 e2 g2 d2 i2)] [0, 1, 2, 3, 4, 5, 6, 7, 8, 9, 10, 11, 12] [0, 1, 0, 4, 0, 19, 63, 127, 255, 0, 515, 2047, 4095] (fun L => [QGV f e g d i, RV k, .int .u8 ((c : Nat) : Int), .int .u64 ((t : Nat) : Int), pt (L0.b 0) 0, pt (L0.b 1) 0, undef, undef, .bool false, pt (L3.b 3) 0, .bool true, .bool false, RV k, .bool true, .bool false, GV (gp g1), RV k, QGV f2 e2 g2 d2 i2, .int .u8 ((c : Nat) : Int), .int .u8 1, .bool false, .bool false, undef, undef, undef, undef, .bool true, .bool true, .int .u64 ((t : Nat) : Int), .int .u64 0, .int .u64 ((t : Nat) : Int), .int .u64 2, pt (L3.b 3) 0, pt (L3.b 3) 0, pt (L3.b 3) 2, .int .u64 (f2 2), .int .u64 v, pt (L3.b 3) 0, pt (L3.b 3) 0, pt (L3.b 3) 2] ++ U 16) (fun L => [((L0.b 0), QGC f e g d i), ((L0.b 1), RC k), ((L3.b 3), QGC f3 e2 g2 d2 i2)]) hp7 ⟨
    oM, oJ .u64 .u64 ((t : Nat) : Int) 2 (h := fun w => remU _ t 2 0 (by decide) (by omega) w), oM, oJ .u64 .u64 ((t : Nat) : Int) 6 (h := fun w => remU _ t 6 2 (by decide) ht w),
    oF fG0, oIU aP, oIU aF, oL1 2 2 oneU, oJ .u64 .u64 (f2 2) 1 (h := fun w => add1U _ (f2 2) v hv w), oF fG0, oIU aP, oIU aF, oT1 oneU (hsp := by subst hu; rfl),
    trivial⟩ (fun L7 w8 hp8 => ?_)
  refine k9 _ _ _ ?_
  refine block_normal ?_
  refine k7 _ _ ?_
  refine wp_seq_k (fun K12 k12 => ?_)
  refine dr [.det (QGV f e g d i), .det (.bool b1), .det (QGV f e g d i), .det (.bool b1), .det (.bool true), .det (.bool true), .det (QGV f3 e2 g2 d2 i2), .det (.bool b2), .det (QGV f3 e2 g2 d2 i2), .det (.bool b2), .det (.bool true), .det (.bool true), .det (.bool true)] [0, 1, 2, 3, 4, 5, 6, 7, 8, 9, 10, 11, 12] [0, 1, 0, 7, 15, 31, 63, 127, 63, 511, 1023, 2047, 4095] (fun L => [QGV f e g d i, RV k, .int .u8 ((c : Nat) : Int), .int .u64 ((t : Nat) : Int), pt (L0.b 0) 0, pt (L0.b 1) 0, undef, undef, .bool true, pt (L3.b 3) 0, .bool true, .bool false, RV k, .bool true, .bool false, GV (gp g1), RV k, QGV f2 e2 g2 d2 i2, .int .u8 ((c : Nat) : Int), .int .u8 1, .bool false, .bool false, undef, undef, undef, undef, .bool true, .bool true, .int .u64 ((t : Nat) : Int), .int .u64 0, .int .u64 ((t : Nat) : Int), .int .u64 2, pt (L3.b 3) 0, pt (L3.b 3) 0, pt (L3.b 3) 2, .int .u64 (f2 2), .int .u64 v, pt (L3.b 3) 0, pt (L3.b 3) 0, pt (L3.b 3) 2, undef, undef, undef, undef, QGV f e g d i, .bool b1, QGV f e g d i, .bool b1, .bool true, .bool true, QGV f3 e2 g2 d2 i2, .bool b2, QGV f3 e2 g2 d2 i2, .bool b2, .bool true, .bool true]) (fun L => [((L0.b 0), QGC f e g d i), ((L0.b 1), RC k), ((L3.b 3), QGC f3 e2 g2 d2 i2)]) hp8 ⟨
    oL 0 0 rG, oC K.stay hg h1, oL 0 0 rG, oR h1r, oE (a := b1) (b := b1) qB (yes rfl), oM, oL 2 0 rG, oC K.stay hg h2, oL 2 0 rG, oR h2r, oE (a := b2) (b := b2) qB (yes rfl),
    oP, oA,
    trivial⟩ (fun L8 w9 hp9 => ?_)
  refine k12 _ _ ?_
  refine wp_ret ?_
  refine bodyPost_ret (v := .bool true) ?_ rfl ?_
  · exact res_t rfl (by kernel_rfl) _
  · exact ⟨rfl, hp9.bel⟩
set_option maxHeartbeats 4000000 in
theorem onX3 {G : World → Prop} (K : FpK G) (R : RefK) (g1 : Pt F2) (f e g d : Nat → Int) (i : Bool) (k c t : Nat) (f2 e2 g2 d2 : Nat → Int) (i2 : Bool) (f3 : Nat → Int) (v : Int) (b1 b2 : Bool) (w : World) (hg : G w) (hgn : g1 = gen2) (hB : ∀ w, G w → Calls Tryd.prog 9 #[] w (Ret (.bool true) w)) (hk6 : k < 2 ^ 256) (hk : k < ordR) (hT : GV (gp (mul F2.inv k g1)) = QGV f2 e2 g2 d2 i2) (ht : t % 6 = 3) (hv : IntKind.u64.wrap (e2 3 + 1) = v) (hu : upd e2 3 v = f3) (hc : c % 4 = 1) (h1 : ∀ w, G w → Calls Tryd.prog 19 #[QGV f e g d i] w (Ret (.bool b1) w)) (h1r : ∀ w, Calls Tryd.prog 21 #[QGV f e g d i] w (Ret (.bool b1) w)) (h2 : ∀ w, G w → Calls Tryd.prog 19 #[QGV f2 f3 g2 d2 i2] w (Ret (.bool b2) w)) (h2r : ∀ w, Calls Tryd.prog 21 #[QGV f2 f3 g2 d2 i2] w (Ret (.bool b2) w)) : Calls Tryd.prog 4 #[QGV f e g d i, RV k, .int .u8 ((c : Nat) : Int), .int .u64 ((t : Nat) : Int)] w (Ret (.bool true) w) := by
  have hp0 := Heap.start w
  go_enter Tryd.func4, Tryd.ntmps4
  refine wp_seq_k (fun K1 k1 => ?_)
  refine gs [.alloc (QGC f e g d i), .alloc (RC k), .det (.bool false)] [0, 1, 2] [0, 0, 0] (fun L => [QGV f e g d i, RV k, .int .u8 ((c : Nat) : Int), .int .u64 ((t : Nat) : Int), pt (L.b 0) 0, pt (L.b 1) 0, undef, undef, .bool false] ++ U 47) (fun L => [(L.b 0, QGC f e g d i), (L.b 1, RC k)]) hp0 ⟨
    oB, oB, oA,
    trivial⟩ (fun L0 w1 hp1 => ?_)
  refine k1 _ _ ?_
  refine wp_seq_k (fun K2 k2 => ?_)
  refine wp_seq_k (fun K3 k3 => ?_)
  refine gs [.det (.bool true), .det (.bool false)] [0, 1] [0, 1] (fun L => [QGV f e g d i, RV k, .int .u8 ((c : Nat) : Int), .int .u64 ((t : Nat) : Int), pt (L0.b 0) 0, pt (L0.b 1) 0, undef, undef, .bool false, undef, .bool true, .bool false] ++ U 44) (fun L => [((L0.b 0), QGC f e g d i), ((L0.b 1), RC k)]) hp1 ⟨
    oC K.stay hg hB, oN,
    trivial⟩ (fun L1 w2 hp2 => ?_)
  refine k3 _ _ ?_
  refine wp_cond_false (by kernel_rfl) ?_
  refine skips ?_
  refine k2 _ _ ?_
  refine wp_seq_k (fun K4 k4 => ?_)
  refine wp_seq_k (fun K5 k5 => ?_)
  refine gs [.det (RV k), .det (.bool true), .det (.bool false)] [0, 1, 2] [0, 1, 3] (fun L => [QGV f e g d i, RV k, .int .u8 ((c : Nat) : Int), .int .u64 ((t : Nat) : Int), pt (L0.b 0) 0, pt (L0.b 1) 0, undef, undef, .bool false, undef, .bool true, .bool false, RV k, .bool true, .bool false] ++ U 41) (fun L => [((L0.b 0), QGC f e g d i), ((L0.b 1), RC k)]) hp2 ⟨
    oL 1 0 rR, oH (v := .bool true) (vs := #[RV k]) (fun w _ _ => by have h := mayR hk6 w; rw [decide_eq_true hk] at h; exact h), oN,
    trivial⟩ (fun L2 w3 hp3 => ?_)
  refine k5 _ _ ?_
  refine wp_cond_false (by kernel_rfl) ?_
  refine skips ?_
  refine k4 _ _ ?_
  refine wp_seq_k (fun K6 k6 => ?_)
  refine dr [.det (GV (gp g1)), .det (RV k), .det (QGV f2 e2 g2 d2 i2), .alloc (GC ⟨0, 0, false⟩), .store (.new 3) 0 (QGC f2 e2 g2 d2 i2) (QGC f2 e2 g2 d2 i2)] [0, 1, 2, 3, 4] [0, 0, 3, 0, 15] (fun L => [QGV f e g d i, RV k, .int .u8 ((c : Nat) : Int), .int .u64 ((t : Nat) : Int), pt (L0.b 0) 0, pt (L0.b 1) 0, undef, undef, .bool false, pt (L.b 3) 0, .bool true, .bool false, RV k, .bool true, .bool false, GV (gp g1), RV k, QGV f2 e2 g2 d2 i2] ++ U 38) (fun L => [((L0.b 0), QGC f e g d i), ((L0.b 1), RC k), (L.b 3, QGC f2 e2 g2 d2 i2)]) hp3 ⟨
    oH (v := GV (gp g1)) (vs := #[]) (fun w _ _ => by have h := ref5Gen1 R w; rw [← hgn] at h; exact h), oL 1 0 rR, oH (v := QGV f2 e2 g2 d2 i2) (vs := #[GV (gp g1), RV k]) (fun w _ _ => by have h := ref5Times1 R g1 k w (gen2_on' hgn) hk6; rw [hT] at h; exact h),
    oZ rG, oT rG,
    trivial⟩ (fun L3 w4 hp4 => ?_)
  refine k6 _ _ ?_
  refine wp_seq_k (fun K7 k7 => ?_)
  refine wp_seq_k (fun K8 k8 => ?_)
  refine gs [.det (.int .u8 ((c : Nat) : Int)), .det (.int .u8 1)] [0, 1] [0, 1] (fun L => [QGV f e g d i, RV k, .int .u8 ((c : Nat) : Int), .int .u64 ((t : Nat) : Int), pt (L0.b 0) 0, pt (L0.b 1) 0, undef, undef, .bool false, pt (L3.b 3) 0, .bool true, .bool false, RV k, .bool true, .bool false, GV (gp g1), RV k, QGV f2 e2 g2 d2 i2, .int .u8 ((c : Nat) : Int), .int .u8 1] ++ U 36) (fun L => [((L0.b 0), QGC f e g d i), ((L0.b 1), RC k), ((L3.b 3), QGC f2 e2 g2 d2 i2)]) hp4 ⟨
    oM, oJ .u8 .u8 ((c : Nat) : Int) 4 (h := fun w => remB _ c 1 hc w),
    trivial⟩ (fun L4 w5 hp5 => ?_)
  refine k8 _ _ ?_
  refine wp_block_k (fun K9 k9 => ?_)
  refine wp_seq_k (fun K10 k10 => ?_)
  refine gs [.det (.bool false), .det (.bool false)] [0, 1] [0, 1] (fun L => [QGV f e g d i, RV k, .int .u8 ((c : Nat) : Int), .int .u64 ((t : Nat) : Int), pt (L0.b 0) 0, pt (L0.b 1) 0, undef, undef, .bool false, pt (L3.b 3) 0, .bool true, .bool false, RV k, .bool true, .bool false, GV (gp g1), RV k, QGV f2 e2 g2 d2 i2, .int .u8 ((c : Nat) : Int), .int .u8 1, .bool false, .bool false] ++ U 34) (fun L => [((L0.b 0), QGC f e g d i), ((L0.b 1), RC k), ((L3.b 3), QGC f2 e2 g2 d2 i2)]) hp5 ⟨
    oJ .u8 .u8 1 0 (h := fun w => (eqlI _ _ _ _ w).trans rfl), oA,
    trivial⟩ (fun L5 w6 hp6 => ?_)
  refine k10 _ _ ?_
  refine wp_cond_false (by kernel_rfl) ?_
  refine wp_seq_k (fun K11 k11 => ?_)
  refine gs [.det (.bool true), .det (.bool true)] [0, 1] [0, 1] (fun L => [QGV f e g d i, RV k, .int .u8 ((c : Nat) : Int), .int .u64 ((t : Nat) : Int), pt (L0.b 0) 0, pt (L0.b 1) 0, undef, undef, .bool false, pt (L3.b 3) 0, .bool true, .bool false, RV k, .bool true, .bool false, GV (gp g1), RV k, QGV f2 e2 g2 d2 i2, .int .u8 ((c : Nat) : Int), .int .u8 1, .bool false, .bool false, undef, undef, undef, undef, .bool true, .bool true] ++ U 28) (fun L => [((L0.b 0), QGC f e g d i), ((L0.b 1), RC k), ((L3.b 3), QGC f2 e2 g2 d2 i2)]) hp6 ⟨
    oJ .u8 .u8 1 1 (h := fun w => (eqlI _ _ _ _ w).trans rfl), oA,
    trivial⟩ (fun L6 w7 hp7 => ?_)
  refine k11 _ _ ?_
  refine wp_cond_true (by kernel_rfl) ?_
  refine dr [.det (.int .u64 ((t : Nat) : Int)), .det (.int .u64 1), .det (.int .u64 ((t : Nat) : Int)), .det (.int .u64 3), .det (pt (L3.b 3) 0), .det (pt (L3.b 3) 6), .det (pt (L3.b 3) 9), .det (.int .u64 (e2 3)), .det (.int .u64 v), .det (pt (L3.b 3) 0), .det (pt (L3.b 3) 6), .det (pt (L3.b 3) 9), .store (.base 2) 9 ([.int .u64 v]) (QGC f2 f3 g2 d2 i2)] [0, 1, 2, 3, 4, 5, 6, 7, 8, 9, 10, 11, 12] [0, 1, 0, 4, 0, 19, 63, 127, 255, 0, 515, 2047, 4095] (fun L => [QGV f e g d i, RV k, .int .u8 ((c : Nat) : Int), .int .u64 ((t : Nat) : Int), pt (L0.b 0) 0, pt (L0.b 1) 0, undef, undef, .bool false, pt (L3.b 3) 0, .bool true, .bool false, RV k, .bool true, .bool false, GV (gp g1), RV k, QGV f2 e2 g2 d2 i2, .int .u8 ((c : Nat) : Int), .int .u8 1, .bool false, .bool false, undef, undef, undef, undef, .bool true, .bool true, .int .u64 ((t : Nat) : Int), .int .u64 1, .int .u64 ((t : Nat) : Int), .int .u64 3, pt (L3.b 3) 0, pt (L3.b 3) 6, pt (L3.b 3) 9, .int .u64 (e2 3), .int .u64 v, pt (L3.b 3) 0, pt (L3.b 3) 6, pt (L3.b 3) 9] ++ U 16) (fun L => [((L0.b 0), QGC f e g d i), ((L0.b 1), RC k), ((L3.b 3), QGC f2 f3 g2 d2 i2)]) hp7 ⟨
    oM, oJ .u64 .u64 ((t : Nat) : Int) 2 (h := fun w => remU _ t 2 1 (by decide) (by omega) w), oM, oJ .u64 .u64 ((t : Nat) : Int) 6 (h := fun w => remU _ t 6 3 (by decide) ht w),
    oF fG0, oIU aP, oIU aF, oL1 2 9 oneU, oJ .u64 .u64 (e2 3) 1 (h := fun w => add1U _ (e2 3) v hv w), oF fG0, oIU aP, oIU aF, oT1 oneU (hsp := by subst hu; rfl),
    trivial⟩ (fun L7 w8 hp8 => ?_)
  refine k9 _ _ _ ?_
  refine block_normal ?_
  refine k7 _ _ ?_
  refine wp_seq_k (fun K12 k12 => ?_)
  refine dr [.det (QGV f e g d i), .det (.bool b1), .det (QGV f e g d i), .det (.bool b1), .det (.bool true), .det (.bool true), .det (QGV f2 f3 g2 d2 i2), .det (.bool b2), .det (QGV f2 f3 g2 d2 i2), .det (.bool b2), .det (.bool true), .det (.bool true), .det (.bool true)] [0, 1, 2, 3, 4, 5, 6, 7, 8, 9, 10, 11, 12] [0, 1, 0, 7, 15, 31, 63, 127, 63, 511, 1023, 2047, 4095] (fun L => [QGV f e g d i, RV k, .int .u8 ((c : Nat) : Int), .int .u64 ((t : Nat) : Int), pt (L0.b 0) 0, pt (L0.b 1) 0, undef, undef, .bool true, pt (L3.b 3) 0, .bool true, .bool false, RV k, .bool true, .bool false, GV (gp g1), RV k, QGV f2 e2 g2 d2 i2, .int .u8 ((c : Nat) : Int), .int .u8 1, .bool false, .bool false, undef, undef, undef, undef, .bool true, .bool true, .int .u64 ((t : Nat) : Int), .int .u64 1, .int .u64 ((t : Nat) : Int), .int .u64 3, pt (L3.b 3) 0, pt (L3.b 3) 6, pt (L3.b 3) 9, .int .u64 (e2 3), .int .u64 v, pt (L3.b 3) 0, pt (L3.b 3) 6, pt (L3.b 3) 9, undef, undef, undef, undef, QGV f e g d i, .bool b1, QGV f e g d i, .bool b1, .bool true, .bool true, QGV f2 f3 g2 d2 i2, .bool b2, QGV f2 f3 g2 d2 i2, .bool b2, .bool true, .bool true]) (fun L => [((L0.b 0), QGC f e g d i), ((L0.b 1), RC k), ((L3.b 3), QGC f2 f3 g2 d2 i2)]) hp8 ⟨
    oL 0 0 rG, oC K.stay hg h1, oL 0 0 rG, oR h1r, oE (a := b1) (b := b1) qB (yes rfl), oM, oL 2 0 rG, oC K.stay hg h2, oL 2 0 rG, oR h2r, oE (a := b2) (b := b2) qB (yes rfl),
    oP, oA,
    trivial⟩ (fun L8 w9 hp9 => ?_)
  refine k12 _ _ ?_
  refine wp_ret ?_
  refine bodyPost_ret (v := .bool true) ?_ rfl ?_
  · exact res_t rfl (by kernel_rfl) _
  · exact ⟨rfl, hp9.bel⟩
set_option maxHeartbeats 4000000 in
theorem onX4 {G : World → Prop} (K : FpK G) (R : RefK) (g1 : Pt F2) (f e g d : Nat → Int) (i : Bool) (k c t : Nat) (f2 e2 g2 d2 : Nat → Int) (i2 : Bool) (f3 : Nat → Int) (v : Int) (b1 b2 : Bool) (w : World) (hg : G w) (hgn : g1 = gen2) (hB : ∀ w, G w → Calls Tryd.prog 9 #[] w (Ret (.bool true) w)) (hk6 : k < 2 ^ 256) (hk : k < ordR) (hT : GV (gp (mul F2.inv k g1)) = QGV f2 e2 g2 d2 i2) (ht : t % 6 = 4) (hv : IntKind.u64.wrap (f2 4 + 1) = v) (hu : upd f2 4 v = f3) (hc : c % 4 = 1) (h1 : ∀ w, G w → Calls Tryd.prog 19 #[QGV f e g d i] w (Ret (.bool b1) w)) (h1r : ∀ w, Calls Tryd.prog 21 #[QGV f e g d i] w (Ret (.bool b1) w)) (h2 : ∀ w, G w → Calls Tryd.prog 19 #[QGV f3 e2 g2 d2 i2] w (Ret (.bool b2) w)) (h2r : ∀ w, Calls Tryd.prog 21 #[QGV f3 e2 g2 d2 i2] w (Ret (.bool b2) w)) : Calls Tryd.prog 4 #[QGV f e g d i, RV k, .int .u8 ((c : Nat) : Int), .int .u64 ((t : Nat) : Int)] w (Ret (.bool true) w) := by
  have hp0 := Heap.start w
  go_enter Tryd.func4, Tryd.ntmps4
  refine wp_seq_k (fun K1 k1 => ?_)
  refine gs [.alloc (QGC f e g d i), .alloc (RC k), .det (.bool false)] [0, 1, 2] [0, 0, 0] (fun L => [QGV f e g d i, RV k, .int .u8 ((c : Nat) : Int), .int .u64 ((t : Nat) : Int), pt (L.b 0) 0, pt (L.b 1) 0, undef, undef, .bool false] ++ U 47) (fun L => [(L.b 0, QGC f e g d i), (L.b 1, RC k)]) hp0 ⟨
    oB, oB, oA,
    trivial⟩ (fun L0 w1 hp1 => ?_)
  refine k1 _ _ ?_
  refine wp_seq_k (fun K2 k2 => ?_)
  refine wp_seq_k (fun K3 k3 => ?_)
  refine gs [.det (.bool true), .det (.bool false)] [0, 1] [0, 1] (fun L => [QGV f e g d i, RV k, .int .u8 ((c : Nat) : Int), .int .u64 ((t : Nat) : Int), pt (L0.b 0) 0, pt (L0.b 1) 0, undef, undef, .bool false, undef, .bool true, .bool false] ++ U 44) (fun L => [((L0.b 0), QGC f e g d i), ((L0.b 1), RC k)]) hp1 ⟨
    oC K.stay hg hB, oN,
    trivial⟩ (fun L1 w2 hp2 => ?_)
  refine k3 _ _ ?_
  refine wp_cond_false (by kernel_rfl) ?_
  refine skips ?_
  refine k2 _ _ ?_
  refine wp_seq_k (fun K4 k4 => ?_)
  refine wp_seq_k (fun K5 k5 => ?_)
  refine gs [.det (RV k), .det (.bool true), .det (.bool false)] [0, 1, 2] [0, 1, 3] (fun L => [QGV f e g d i, RV k, .int .u8 ((c : Nat) : Int), .int .u64 ((t : Nat) : Int), pt (L0.b 0) 0, pt (L0.b 1) 0, undef, undef, .bool false, undef, .bool true, .bool false, RV k, .bool true, .bool false] ++ U 41) (fun L => [((L0.b 0), QGC f e g d i), ((L0.b 1), RC k)]) hp2 ⟨
    oL 1 0 rR, oH (v := .bool true) (vs := #[RV k]) (fun w _ _ => by have h := mayR hk6 w; rw [decide_eq_true hk] at h; exact h), oN,
    trivial⟩ (fun L2 w3 hp3 => ?_)
  refine k5 _ _ ?_
  refine wp_cond_false (by kernel_rfl) ?_
  refine skips ?_
  refine k4 _ _ ?_
  refine wp_seq_k (fun K6 k6 => ?_)
  refine dr [.det (GV (gp g1)), .det (RV k), .det (QGV f2 e2 g2 d2 i2), .alloc (GC ⟨0, 0, false⟩), .store (.new 3) 0 (QGC f2 e2 g2 d2 i2) (QGC f2 e2 g2 d2 i2)] [0, 1, 2, 3, 4] [0, 0, 3, 0, 15] (fun L => [QGV f e g d i, RV k, .int .u8 ((c : Nat) : Int), .int .u64 ((t : Nat) : Int), pt (L0.b 0) 0, pt (L0.b 1) 0, undef, undef, .bool false, pt (L.b 3) 0, .bool true, .bool false, RV k, .bool true, .bool false, GV (gp g1), RV k, QGV f2 e2 g2 d2 i2] ++ U 38) (fun L => [((L0.b 0), QGC f e g d i), ((L0.b 1), RC k), (L.b 3, QGC f2 e2 g2 d2 i2)]) hp3 ⟨
    oH (v := GV (gp g1)) (vs := #[]) (fun w _ _ => by have h := ref5Gen1 R w; rw [← hgn] at h; exact h), oL 1 0 rR, oH (v := QGV f2 e2 g2 d2 i2) (vs := #[GV (gp g1), RV k]) (fun w _ _ => by have h := ref5Times1 R g1 k w (gen2_on' hgn) hk6; rw [hT] at h; exact h),
    oZ rG, oT rG,
    trivial⟩ (fun L3 w4 hp4 => ?_)
  refine k6 _ _ ?_
  refine wp_seq_k (fun K7 k7 => ?_)
  refine wp_seq_k (fun K8 k8 => ?_)
  refine gs [.det (.int .u8 ((c : Nat) : Int)), .det (.int .u8 1)] [0, 1] [0, 1] (fun L => [QGV f e g d i, RV k, .int .u8 ((c : Nat) : Int), .int .u64 ((t : Nat) : Int), pt (L0.b 0) 0, pt (L0.b 1) 0, undef, undef, .bool false, pt (L3.b 3) 0, .bool true, .bool false, RV k, .bool true, .bool false, GV (gp g1), RV k, QGV f2 e2 g2 d2 i2, .int .u8 ((c : Nat) : Int), .int .u8 1] ++ U 36) (fun L => [((L0.b 0), QGC f e g d i), ((L0.b 1), RC k), ((L3.b 3), QGC f2 e2 g2 d2 i2)]) hp4 ⟨
    oM, oJ .u8 .u8 ((c : Nat) : Int) 4 (h := fun w => remB _ c 1 hc w),
    trivial⟩ (fun L4 w5 hp5 => ?_)
  refine k8 _ _ ?_
  refine wp_block_k (fun K9 k9 => ?_)
  refine wp_seq_k (fun K10 k10 => ?_)
  refine gs [.det (.bool false), .det (.bool false)] [0, 1] [0, 1] (fun L => [QGV f e g d i, RV k, .int .u8 ((c : Nat) : Int), .int .u64 ((t : Nat) : Int), pt (L0.b 0) 0, pt (L0.b 1) 0, undef, undef, .bool false, pt (L3.b 3) 0, .bool true, .bool false, RV k, .bool true, .bool false, GV (gp g1), RV k, QGV f2 e2 g2 d2 i2, .int .u8 ((c : Nat) : Int), .int .u8 1, .bool false, .bool false] ++ U 34) (fun L => [((L0.b 0), QGC f e g d i), ((L0.b 1), RC k), ((L3.b 3), QGC f2 e2 g2 d2 i2)]) hp5 ⟨
    oJ .u8 .u8 1 0 (h := fun w => (eqlI _ _ _ _ w).trans rfl), oA,
    trivial⟩ (fun L5 w6 hp6 => ?_)
  refine k10 _ _ ?_
  refine wp_cond_false (by kernel_rfl) ?_
  refine wp_seq_k (fun K11 k11 => ?_)
  refine gs [.det (.bool true), .det (.bool true)] [0, 1] [0, 1] (fun L => [QGV f e g d i, RV k, .int .u8 ((c : Nat) : Int), .int .u64 ((t : Nat) : Int), pt (L0.b 0) 0, pt (L0.b 1) 0, undef, undef, .bool false, pt (L3.b 3) 0, .bool true, .bool false, RV k, .bool true, .bool false, GV (gp g1), RV k, QGV f2 e2 g2 d2 i2, .int .u8 ((c : Nat) : Int), .int .u8 1, .bool false, .bool false, undef, undef, undef, undef, .bool true, .bool true] ++ U 28) (fun L => [((L0.b 0), QGC f e g d i), ((L0.b 1), RC k), ((L3.b 3), QGC f2 e2 g2 d2 i2)]) hp6 ⟨
    oJ .u8 .u8 1 1 (h := fun w => (eqlI _ _ _ _ w).trans rfl), oA,
    trivial⟩ (fun L6 w7 hp7 => ?_)
  refine k11 _ _ ?_
  refine wp_cond_true (by kernel_rfl) ?_
  refine dr [.det (.int .u64 ((t : Nat) : Int)), .det (.int .u64 0), .det (.int .u64 ((t : Nat) : Int)), .det (.int .u64 4), .det (pt (L3.b 3) 0), .det (pt (L3.b 3) 0), .det (pt (L3.b 3) 4), .det (.int .u64 (f2 4)), .det (.int .u64 v), .det (pt (L3.b 3) 0), .det (pt (L3.b 3) 0), .det (pt (L3.b 3) 4), .store (.base 2) 4 ([.int .u64 v]) (QGC f3 e2 g2 d2 i2)] [0, 1, 2, 3, 4, 5, 6, 7, 8, 9, 10, 11, 12] [0, 1, 0, 4, 0, 19, 63, 127, 255, 0, 515, 2047, 4095] (fun L => [QGV f e g d i, RV k, .int .u8 ((c : Nat) : Int), .int .u64 ((t : Nat) : Int), pt (L0.b 0) 0, pt (L0.b 1) 0, undef, undef, .bool false, pt (L3.b 3) 0, .bool true, .bool false, RV k, .bool true, .bool false, GV (gp g1), RV k, QGV f2 e2 g2 d2 i2, .int .u8 ((c : Nat) : Int), .int .u8 1, .bool false, .bool false, undef, undef, undef, undef, .bool true, .bool true, .int .u64 ((t : Nat) : Int), .int .u64 0, .int .u64 ((t : Nat) : Int), .int .u64 4, pt (L3.b 3) 0, pt (L3.b 3) 0, pt (L3.b 3) 4, .int .u64 (f2 4), .int .u64 v, pt (L3.b 3) 0, pt (L3.b 3) 0, pt (L3.b 3) 4] ++ U 16) (fun L => [((L0.b 0), QGC f e g d i), ((L0.b 1), RC k), ((L3.b 3), QGC f3 e2 g2 d2 i2)]) hp7 ⟨
    oM, oJ .u64 .u64 ((t : Nat) : Int) 2 (h := fun w => remU _ t 2 0 (by decide) (by omega) w), oM, oJ .u64 .u64 ((t : Nat) : Int) 6 (h := fun w => remU _ t 6 4 (by decide) ht w),
    oF fG0, oIU aP, oIU aF, oL1 2 4 oneU, oJ .u64 .u64 (f2 4) 1 (h := fun w => add1U _ (f2 4) v hv w), oF fG0, oIU aP, oIU aF, oT1 oneU (hsp := by subst hu; rfl),
    trivial⟩ (fun L7 w8 hp8 => ?_)
  refine k9 _ _ _ ?_
  refine block_normal ?_
  refine k7 _ _ ?_
  refine wp_seq_k (fun K12 k12 => ?_)
  refine dr [.det (QGV f e g d i), .det (.bool b1), .det (QGV f e g d i), .det (.bool b1), .det (.bool true), .det (.bool true), .det (QGV f3 e2 g2 d2 i2), .det (.bool b2), .det (QGV f3 e2 g2 d2 i2), .det (.bool b2), .det (.bool true), .det (.bool true), .det (.bool true)] [0, 1, 2, 3, 4, 5, 6, 7, 8, 9, 10, 11, 12] [0, 1, 0, 7, 15, 31, 63, 127, 63, 511, 1023, 2047, 4095] (fun L => [QGV f e g d i, RV k, .int .u8 ((c : Nat) : Int), .int .u64 ((t : Nat) : Int), pt (L0.b 0) 0, pt (L0.b 1) 0, undef, undef, .bool true, pt (L3.b 3) 0, .bool true, .bool false, RV k, .bool true, .bool false, GV (gp g1), RV k, QGV f2 e2 g2 d2 i2, .int .u8 ((c : Nat) : Int), .int .u8 1, .bool false, .bool false, undef, undef, undef, undef, .bool true, .bool true, .int .u64 ((t : Nat) : Int), .int .u64 0, .int .u64 ((t : Nat) : Int), .int .u64 4, pt (L3.b 3) 0, pt (L3.b 3) 0, pt (L3.b 3) 4, .int .u64 (f2 4), .int .u64 v, pt (L3.b 3) 0, pt (L3.b 3) 0, pt (L3.b 3) 4, undef, undef, undef, undef, QGV f e g d i, .bool b1, QGV f e g d i, .bool b1, .bool true, .bool true, QGV f3 e2 g2 d2 i2, .bool b2, QGV f3 e2 g2 d2 i2, .bool b2, .bool true, .bool true]) (fun L => [((L0.b 0), QGC f e g d i), ((L0.b 1), RC k), ((L3.b 3), QGC f3 e2 g2 d2 i2)]) hp8 ⟨
    oL 0 0 rG, oC K.stay hg h1, oL 0 0 rG, oR h1r, oE (a := b1) (b := b1) qB (yes rfl), oM, oL 2 0 rG, oC K.stay hg h2, oL 2 0 rG, oR h2r, oE (a := b2) (b := b2) qB (yes rfl),
    oP, oA,
    trivial⟩ (fun L8 w9 hp9 => ?_)
  refine k12 _ _ ?_
  refine wp_ret ?_
  refine bodyPost_ret (v := .bool true) ?_ rfl ?_
  · exact res_t rfl (by kernel_rfl) _
  · exact ⟨rfl, hp9.bel⟩
set_option maxHeartbeats 4000000 in
theorem onX5 {G : World → Prop} (K : FpK G) (R : RefK) (g1 : Pt F2) (f e g d : Nat → Int) (i : Bool) (k c t : Nat) (f2 e2 g2 d2 : Nat → Int) (i2 : Bool) (f3 : Nat → Int) (v : Int) (b1 b2 : Bool) (w : World) (hg : G w) (hgn : g1 = gen2) (hB : ∀ w, G w → Calls Tryd.prog 9 #[] w (Ret (.bool true) w)) (hk6 : k < 2 ^ 256) (hk : k < ordR) (hT : GV (gp (mul F2.inv k g1)) = QGV f2 e2 g2 d2 i2) (ht : t % 6 = 5) (hv : IntKind.u64.wrap (e2 5 + 1) = v) (hu : upd e2 5 v = f3) (hc : c % 4 = 1) (h1 : ∀ w, G w → Calls Tryd.prog 19 #[QGV f e g d i] w (Ret (.bool b1) w)) (h1r : ∀ w, Calls Tryd.prog 21 #[QGV f e g d i] w (Ret (.bool b1) w)) (h2 : ∀ w, G w → Calls Tryd.prog 19 #[QGV f2 f3 g2 d2 i2] w (Ret (.bool b2) w)) (h2r : ∀ w, Calls Tryd.prog 21 #[QGV f2 f3 g2 d2 i2] w (Ret (.bool b2) w)) : Calls Tryd.prog 4 #[QGV f e g d i, RV k, .int .u8 ((c : Nat) : Int), .int .u64 ((t : Nat) : Int)] w (Ret (.bool true) w) := by
  have hp0 := Heap.start w
  go_enter Tryd.func4, Tryd.ntmps4
  refine wp_seq_k (fun K1 k1 => ?_)
  refine gs [.alloc (QGC f e g d i), .alloc (RC k), .det (.bool false)] [0, 1, 2] [0, 0, 0] (fun L => [QGV f e g d i, RV k, .int .u8 ((c : Nat) : Int), .int .u64 ((t : Nat) : Int), pt (L.b 0) 0, pt (L.b 1) 0, undef, undef, .bool false] ++ U 47) (fun L => [(L.b 0, QGC f e g d i), (L.b 1, RC k)]) hp0 ⟨
    oB, oB, oA,
    trivial⟩ (fun L0 w1 hp1 => ?_)
  refine k1 _ _ ?_
  refine wp_seq_k (fun K2 k2 => ?_)
  refine wp_seq_k (fun K3 k3 => ?_)
  refine gs [.det (.bool true), .det (.bool false)] [0, 1] [0, 1] (fun L => [QGV f e g d i, RV k, .int .u8 ((c : Nat) : Int), .int .u64 ((t : Nat) : Int), pt (L0.b 0) 0, pt (L0.b 1) 0, undef, undef, .bool false, undef, .bool true, .bool false] ++ U 44) (fun L => [((L0.b 0), QGC f e g d i), ((L0.b 1), RC k)]) hp1 ⟨
    oC K.stay hg hB, oN,
    trivial⟩ (fun L1 w2 hp2 => ?_)
  refine k3 _ _ ?_
  refine wp_cond_false (by kernel_rfl) ?_
  refine skips ?_
  refine k2 _ _ ?_
  refine wp_seq_k (fun K4 k4 => ?_)
  refine wp_seq_k (fun K5 k5 => ?_)
  refine gs [.det (RV k), .det (.bool true), .det (.bool false)] [0, 1, 2] [0, 1, 3] (fun L => [QGV f e g d i, RV k, .int .u8 ((c : Nat) : Int), .int .u64 ((t : Nat) : Int), pt (L0.b 0) 0, pt (L0.b 1) 0, undef, undef, .bool false, undef, .bool true, .bool false, RV k, .bool true, .bool false] ++ U 41) (fun L => [((L0.b 0), QGC f e g d i), ((L0.b 1), RC k)]) hp2 ⟨
    oL 1 0 rR, oH (v := .bool true) (vs := #[RV k]) (fun w _ _ => by have h := mayR hk6 w; rw [decide_eq_true hk] at h; exact h), oN,
    trivial⟩ (fun L2 w3 hp3 => ?_)
  refine k5 _ _ ?_
  refine wp_cond_false (by kernel_rfl) ?_
  refine skips ?_
  refine k4 _ _ ?_
  refine wp_seq_k (fun K6 k6 => ?_)
  refine dr [.det (GV (gp g1)), .det (RV k), .det (QGV f2 e2 g2 d2 i2), .alloc (GC ⟨0, 0, false⟩), .store (.new 3) 0 (QGC f2 e2 g2 d2 i2) (QGC f2 e2 g2 d2 i2)] [0, 1, 2, 3, 4] [0, 0, 3, 0, 15] (fun L => [QGV f e g d i, RV k, .int .u8 ((c : Nat) : Int), .int .u64 ((t : Nat) : Int), pt (L0.b 0) 0, pt (L0.b 1) 0, undef, undef, .bool false, pt (L.b 3) 0, .bool true, .bool false, RV k, .bool true, .bool false, GV (gp g1), RV k, QGV f2 e2 g2 d2 i2] ++ U 38) (fun L => [((L0.b 0), QGC f e g d i), ((L0.b 1), RC k), (L.b 3, QGC f2 e2 g2 d2 i2)]) hp3 ⟨
    oH (v := GV (gp g1)) (vs := #[]) (fun w _ _ => by have h := ref5Gen1 R w; rw [← hgn] at h; exact h), oL 1 0 rR, oH (v := QGV f2 e2 g2 d2 i2) (vs := #[GV (gp g1), RV k]) (fun w _ _ => by have h := ref5Times1 R g1 k w (gen2_on' hgn) hk6; rw [hT] at h; exact h),
    oZ rG, oT rG,
    trivial⟩ (fun L3 w4 hp4 => ?_)
  refine k6 _ _ ?_
  refine wp_seq_k (fun K7 k7 => ?_)
  refine wp_seq_k (fun K8 k8 => ?_)
  refine gs [.det (.int .u8 ((c : Nat) : Int)), .det (.int .u8 1)] [0, 1] [0, 1] (fun L => [QGV f e g d i, RV k, .int .u8 ((c : Nat) : Int), .int .u64 ((t : Nat) : Int), pt (L0.b 0) 0, pt (L0.b 1) 0, undef, undef, .bool false, pt (L3.b 3) 0, .bool true, .bool false, RV k, .bool true, .bool false, GV (gp g1), RV k, QGV f2 e2 g2 d2 i2, .int .u8 ((c : Nat) : Int), .int .u8 1] ++ U 36) (fun L => [((L0.b 0), QGC f e g d i), ((L0.b 1), RC k), ((L3.b 3), QGC f2 e2 g2 d2 i2)]) hp4 ⟨
    oM, oJ .u8 .u8 ((c : Nat) : Int) 4 (h := fun w => remB _ c 1 hc w),
    trivial⟩ (fun L4 w5 hp5 => ?_)
  refine k8 _ _ ?_
  refine wp_block_k (fun K9 k9 => ?_)
  refine wp_seq_k (fun K10 k10 => ?_)
  refine gs [.det (.bool false), .det (.bool false)] [0, 1] [0, 1] (fun L => [QGV f e g d i, RV k, .int .u8 ((c : Nat) : Int), .int .u64 ((t : Nat) : Int), pt (L0.b 0) 0, pt (L0.b 1) 0, undef, undef, .bool false, pt (L3.b 3) 0, .bool true, .bool false, RV k, .bool true, .bool false, GV (gp g1), RV k, QGV f2 e2 g2 d2 i2, .int .u8 ((c : Nat) : Int), .int .u8 1, .bool false, .bool false] ++ U 34) (fun L => [((L0.b 0), QGC f e g d i), ((L0.b 1), RC k), ((L3.b 3), QGC f2 e2 g2 d2 i2)]) hp5 ⟨
    oJ .u8 .u8 1 0 (h := fun w => (eqlI _ _ _ _ w).trans rfl), oA,
    trivial⟩ (fun L5 w6 hp6 => ?_)
  refine k10 _ _ ?_
  refine wp_cond_false (by kernel_rfl) ?_
  refine wp_seq_k (fun K11 k11 => ?_)
  refine gs [.det (.bool true), .det (.bool true)] [0, 1] [0, 1] (fun L => [QGV f e g d i, RV k, .int .u8 ((c : Nat) : Int), .int .u64 ((t : Nat) : Int), pt (L0.b 0) 0, pt (L0.b 1) 0, undef, undef, .bool false, pt (L3.b 3) 0, .bool true, .bool false, RV k, .bool true, .bool false, GV (gp g1), RV k, QGV f2 e2 g2 d2 i2, .int .u8 ((c : Nat) : Int), .int .u8 1, .bool false, .bool false, undef, undef, undef, undef, .bool true, .bool true] ++ U 28) (fun L => [((L0.b 0), QGC f e g d i), ((L0.b 1), RC k), ((L3.b 3), QGC f2 e2 g2 d2 i2)]) hp6 ⟨
    oJ .u8 .u8 1 1 (h := fun w => (eqlI _ _ _ _ w).trans rfl), oA,
    trivial⟩ (fun L6 w7 hp7 => ?_)
  refine k11 _ _ ?_
  refine wp_cond_true (by kernel_rfl) ?_
  refine dr [.det (.int .u64 ((t : Nat) : Int)), .det (.int .u64 1), .det (.int .u64 ((t : Nat) : Int)), .det (.int .u64 5), .det (pt (L3.b 3) 0), .det (pt (L3.b 3) 6), .det (pt (L3.b 3) 11), .det (.int .u64 (e2 5)), .det (.int .u64 v), .det (pt (L3.b 3) 0), .det (pt (L3.b 3) 6), .det (pt (L3.b 3) 11), .store (.base 2) 11 ([.int .u64 v]) (QGC f2 f3 g2 d2 i2)] [0, 1, 2, 3, 4, 5, 6, 7, 8, 9, 10, 11, 12] [0, 1, 0, 4, 0, 19, 63, 127, 255, 0, 515, 2047, 4095] (fun L => [QGV f e g d i, RV k, .int .u8 ((c : Nat) : Int), .int .u64 ((t : Nat) : Int), pt (L0.b 0) 0, pt (L0.b 1) 0, undef, undef, .bool false, pt (L3.b 3) 0, .bool true, .bool false, RV k, .bool true, .bool false, GV (gp g1), RV k, QGV f2 e2 g2 d2 i2, .int .u8 ((c : Nat) : Int), .int .u8 1, .bool false, .bool false, undef, undef, undef, undef, .bool true, .bool true, .int .u64 ((t : Nat) : Int), .int .u64 1, .int .u64 ((t : Nat) : Int), .int .u64 5, pt (L3.b 3) 0, pt (L3.b 3) 6, pt (L3.b 3) 11, .int .u64 (e2 5), .int .u64 v, pt (L3.b 3) 0, pt (L3.b 3) 6, pt (L3.b 3) 11] ++ U 16) (fun L => [((L0.b 0), QGC f e g d i), ((L0.b 1), RC k), ((L3.b 3), QGC f2 f3 g2 d2 i2)]) hp7 ⟨
    oM, oJ .u64 .u64 ((t : Nat) : Int) 2 (h := fun w => remU _ t 2 1 (by decide) (by omega) w), oM, oJ .u64 .u64 ((t : Nat) : Int) 6 (h := fun w => remU _ t 6 5 (by decide) ht w),
    oF fG0, oIU aP, oIU aF, oL1 2 11 oneU, oJ .u64 .u64 (e2 5) 1 (h := fun w => add1U _ (e2 5) v hv w), oF fG0, oIU aP, oIU aF, oT1 oneU (hsp := by subst hu; rfl),
    trivial⟩ (fun L7 w8 hp8 => ?_)
  refine k9 _ _ _ ?_
  refine block_normal ?_
  refine k7 _ _ ?_
  refine wp_seq_k (fun K12 k12 => ?_)
  refine dr [.det (QGV f e g d i), .det (.bool b1), .det (QGV f e g d i), .det (.bool b1), .det (.bool true), .det (.bool true), .det (QGV f2 f3 g2 d2 i2), .det (.bool b2), .det (QGV f2 f3 g2 d2 i2), .det (.bool b2), .det (.bool true), .det (.bool true), .det (.bool true)] [0, 1, 2, 3, 4, 5, 6, 7, 8, 9, 10, 11, 12] [0, 1, 0, 7, 15, 31, 63, 127, 63, 511, 1023, 2047, 4095] (fun L => [QGV f e g d i, RV k, .int .u8 ((c : Nat) : Int), .int .u64 ((t : Nat) : Int), pt (L0.b 0) 0, pt (L0.b 1) 0, undef, undef, .bool true, pt (L3.b 3) 0, .bool true, .bool false, RV k, .bool true, .bool false, GV (gp g1), RV k, QGV f2 e2 g2 d2 i2, .int .u8 ((c : Nat) : Int), .int .u8 1, .bool false, .bool false, undef, undef, undef, undef, .bool true, .bool true, .int .u64 ((t : Nat) : Int), .int .u64 1, .int .u64 ((t : Nat) : Int), .int .u64 5, pt (L3.b 3) 0, pt (L3.b 3) 6, pt (L3.b 3) 11, .int .u64 (e2 5), .int .u64 v, pt (L3.b 3) 0, pt (L3.b 3) 6, pt (L3.b 3) 11, undef, undef, undef, undef, QGV f e g d i, .bool b1, QGV f e g d i, .bool b1, .bool true, .bool true, QGV f2 f3 g2 d2 i2, .bool b2, QGV f2 f3 g2 d2 i2, .bool b2, .bool true, .bool true]) (fun L => [((L0.b 0), QGC f e g d i), ((L0.b 1), RC k), ((L3.b 3), QGC f2 f3 g2 d2 i2)]) hp8 ⟨
    oL 0 0 rG, oC K.stay hg h1, oL 0 0 rG, oR h1r, oE (a := b1) (b := b1) qB (yes rfl), oM, oL 2 0 rG, oC K.stay hg h2, oL 2 0 rG, oR h2r, oE (a := b2) (b := b2) qB (yes rfl),
    oP, oA,
    trivial⟩ (fun L8 w9 hp9 => ?_)
  refine k12 _ _ ?_
  refine wp_ret ?_
  refine bodyPost_ret (v := .bool true) ?_ rfl ?_
  · exact res_t rfl (by kernel_rfl) _
  · exact ⟨rfl, hp9.bel⟩
set_option maxHeartbeats 4000000 in
theorem onY {G : World → Prop} (K : FpK G) (R : RefK) (g1 : Pt F2) (f e g d : Nat → Int) (i : Bool) (k c t : Nat) (f2 e2 g2 d2 : Nat → Int) (i2 : Bool) (g3 : Nat → Int) (b1 b2 : Bool) (w : World) (hg : G w) (hgn : g1 = gen2) (hB : ∀ w, G w → Calls Tryd.prog 9 #[] w (Ret (.bool true) w)) (hk6 : k < 2 ^ 256) (hk : k < ordR) (hT : GV (gp (mul F2.inv k g1)) = QGV f2 e2 g2 d2 i2) (hz : lb (0 : F).val = g3) (hc : c % 4 = 2) (h1 : ∀ w, G w → Calls Tryd.prog 19 #[QGV f e g d i] w (Ret (.bool b1) w)) (h1r : ∀ w, Calls Tryd.prog 21 #[QGV f e g d i] w (Ret (.bool b1) w)) (h2 : ∀ w, G w → Calls Tryd.prog 19 #[QGV f2 e2 g3 g3 i2] w (Ret (.bool b2) w)) (h2r : ∀ w, Calls Tryd.prog 21 #[QGV f2 e2 g3 g3 i2] w (Ret (.bool b2) w)) : Calls Tryd.prog 4 #[QGV f e g d i, RV k, .int .u8 ((c : Nat) : Int), .int .u64 ((t : Nat) : Int)] w (Ret (.bool true) w) := by
  have hp0 := Heap.start w
  go_enter Tryd.func4, Tryd.ntmps4
  refine wp_seq_k (fun K1 k1 => ?_)
  refine gs [.alloc (QGC f e g d i), .alloc (RC k), .det (.bool false)] [0, 1, 2] [0, 0, 0] (fun L => [QGV f e g d i, RV k, .int .u8 ((c : Nat) : Int), .int .u64 ((t : Nat) : Int), pt (L.b 0) 0, pt (L.b 1) 0, undef, undef, .bool false] ++ U 47) (fun L => [(L.b 0, QGC f e g d i), (L.b 1, RC k)]) hp0 ⟨
    oB, oB, oA,
    trivial⟩ (fun L0 w1 hp1 => ?_)
  refine k1 _ _ ?_
  refine wp_seq_k (fun K2 k2 => ?_)
  refine wp_seq_k (fun K3 k3 => ?_)
  refine gs [.det (.bool true), .det (.bool false)] [0, 1] [0, 1] (fun L => [QGV f e g d i, RV k, .int .u8 ((c : Nat) : Int), .int .u64 ((t : Nat) : Int), pt (L0.b 0) 0, pt (L0.b 1) 0, undef, undef, .bool false, undef, .bool true, .bool false] ++ U 44) (fun L => [((L0.b 0), QGC f e g d i), ((L0.b 1), RC k)]) hp1 ⟨
    oC K.stay hg hB, oN,
    trivial⟩ (fun L1 w2 hp2 => ?_)
  refine k3 _ _ ?_
  refine wp_cond_false (by kernel_rfl) ?_
  refine skips ?_
  refine k2 _ _ ?_
  refine wp_seq_k (fun K4 k4 => ?_)
  refine wp_seq_k (fun K5 k5 => ?_)
  refine gs [.det (RV k), .det (.bool true), .det (.bool false)] [0, 1, 2] [0, 1, 3] (fun L => [QGV f e g d i, RV k, .int .u8 ((c : Nat) : Int), .int .u64 ((t : Nat) : Int), pt (L0.b 0) 0, pt (L0.b 1) 0, undef, undef, .bool false, undef, .bool true, .bool false, RV k, .bool true, .bool false] ++ U 41) (fun L => [((L0.b 0), QGC f e g d i), ((L0.b 1), RC k)]) hp2 ⟨
    oL 1 0 rR, oH (v := .bool true) (vs := #[RV k]) (fun w _ _ => by have h := mayR hk6 w; rw [decide_eq_true hk] at h; exact h), oN,
    trivial⟩ (fun L2 w3 hp3 => ?_)
  refine k5 _ _ ?_
  refine wp_cond_false (by kernel_rfl) ?_
  refine skips ?_
  refine k4 _ _ ?_
  refine wp_seq_k (fun K6 k6 => ?_)
  refine dr [.det (GV (gp g1)), .det (RV k), .det (QGV f2 e2 g2 d2 i2), .alloc (GC ⟨0, 0, false⟩), .store (.new 3) 0 (QGC f2 e2 g2 d2 i2) (QGC f2 e2 g2 d2 i2)] [0, 1, 2, 3, 4] [0, 0, 3, 0, 15] (fun L => [QGV f e g d i, RV k, .int .u8 ((c : Nat) : Int), .int .u64 ((t : Nat) : Int), pt (L0.b 0) 0, pt (L0.b 1) 0, undef, undef, .bool false, pt (L.b 3) 0, .bool true, .bool false, RV k, .bool true, .bool false, GV (gp g1), RV k, QGV f2 e2 g2 d2 i2] ++ U 38) (fun L => [((L0.b 0), QGC f e g d i), ((L0.b 1), RC k), (L.b 3, QGC f2 e2 g2 d2 i2)]) hp3 ⟨
    oH (v := GV (gp g1)) (vs := #[]) (fun w _ _ => by have h := ref5Gen1 R w; rw [← hgn] at h; exact h), oL 1 0 rR, oH (v := QGV f2 e2 g2 d2 i2) (vs := #[GV (gp g1), RV k]) (fun w _ _ => by have h := ref5Times1 R g1 k w (gen2_on' hgn) hk6; rw [hT] at h; exact h),
    oZ rG, oT rG,
    trivial⟩ (fun L3 w4 hp4 => ?_)
  refine k6 _ _ ?_
  refine wp_seq_k (fun K7 k7 => ?_)
  refine wp_seq_k (fun K8 k8 => ?_)
  refine gs [.det (.int .u8 ((c : Nat) : Int)), .det (.int .u8 2)] [0, 1] [0, 1] (fun L => [QGV f e g d i, RV k, .int .u8 ((c : Nat) : Int), .int .u64 ((t : Nat) : Int), pt (L0.b 0) 0, pt (L0.b 1) 0, undef, undef, .bool false, pt (L3.b 3) 0, .bool true, .bool false, RV k, .bool true, .bool false, GV (gp g1), RV k, QGV f2 e2 g2 d2 i2, .int .u8 ((c : Nat) : Int), .int .u8 2] ++ U 36) (fun L => [((L0.b 0), QGC f e g d i), ((L0.b 1), RC k), ((L3.b 3), QGC f2 e2 g2 d2 i2)]) hp4 ⟨
    oM, oJ .u8 .u8 ((c : Nat) : Int) 4 (h := fun w => remB _ c 2 hc w),
    trivial⟩ (fun L4 w5 hp5 => ?_)
  refine k8 _ _ ?_
  refine wp_block_k (fun K9 k9 => ?_)
  refine wp_seq_k (fun K10 k10 => ?_)
  refine gs [.det (.bool false), .det (.bool false)] [0, 1] [0, 1] (fun L => [QGV f e g d i, RV k, .int .u8 ((c : Nat) : Int), .int .u64 ((t : Nat) : Int), pt (L0.b 0) 0, pt (L0.b 1) 0, undef, undef, .bool false, pt (L3.b 3) 0, .bool true, .bool false, RV k, .bool true, .bool false, GV (gp g1), RV k, QGV f2 e2 g2 d2 i2, .int .u8 ((c : Nat) : Int), .int .u8 2, .bool false, .bool false] ++ U 34) (fun L => [((L0.b 0), QGC f e g d i), ((L0.b 1), RC k), ((L3.b 3), QGC f2 e2 g2 d2 i2)]) hp5 ⟨
    oJ .u8 .u8 2 0 (h := fun w => (eqlI _ _ _ _ w).trans rfl), oA,
    trivial⟩ (fun L5 w6 hp6 => ?_)
  refine k10 _ _ ?_
  refine wp_cond_false (by kernel_rfl) ?_
  refine wp_seq_k (fun K11 k11 => ?_)
  refine gs [.det (.bool false), .det (.bool false)] [0, 1] [0, 1] (fun L => [QGV f e g d i, RV k, .int .u8 ((c : Nat) : Int), .int .u64 ((t : Nat) : Int), pt (L0.b 0) 0, pt (L0.b 1) 0, undef, undef, .bool false, pt (L3.b 3) 0, .bool true, .bool false, RV k, .bool true, .bool false, GV (gp g1), RV k, QGV f2 e2 g2 d2 i2, .int .u8 ((c : Nat) : Int), .int .u8 2, .bool false, .bool false, undef, undef, undef, undef, .bool false, .bool false] ++ U 28) (fun L => [((L0.b 0), QGC f e g d i), ((L0.b 1), RC k), ((L3.b 3), QGC f2 e2 g2 d2 i2)]) hp6 ⟨
    oJ .u8 .u8 2 1 (h := fun w => (eqlI _ _ _ _ w).trans rfl), oA,
    trivial⟩ (fun L6 w7 hp7 => ?_)
  refine k11 _ _ ?_
  refine wp_cond_false (by kernel_rfl) ?_
  refine wp_seq_k (fun K12 k12 => ?_)
  refine gs [.det (.bool true), .det (.bool true)] [0, 1] [0, 1] (fun L => [QGV f e g d i, RV k, .int .u8 ((c : Nat) : Int), .int .u64 ((t : Nat) : Int), pt (L0.b 0) 0, pt (L0.b 1) 0, undef, undef, .bool false, pt (L3.b 3) 0, .bool true, .bool false, RV k, .bool true, .bool false, GV (gp g1), RV k, QGV f2 e2 g2 d2 i2, .int .u8 ((c : Nat) : Int), .int .u8 2, .bool false, .bool false, undef, undef, undef, undef, .bool false, .bool false, undef, undef, undef, undef, undef, undef, undef, undef, undef, undef, undef, undef, .bool true, .bool true] ++ U 14) (fun L => [((L0.b 0), QGC f e g d i), ((L0.b 1), RC k), ((L3.b 3), QGC f2 e2 g2 d2 i2)]) hp7 ⟨
    oJ .u8 .u8 2 2 (h := fun w => (eqlI _ _ _ _ w).trans rfl), oA,
    trivial⟩ (fun L7 w8 hp8 => ?_)
  refine k12 _ _ ?_
  refine wp_cond_true (by kernel_rfl) ?_
  refine gs [.det (PV 0), .det (pt (L3.b 3) 12), .store (.base 2) 12 (PC 0) (QGC f2 e2 g3 g3 i2)] [0, 1, 2] [0, 1, 3] (fun L => [QGV f e g d i, RV k, .int .u8 ((c : Nat) : Int), .int .u64 ((t : Nat) : Int), pt (L0.b 0) 0, pt (L0.b 1) 0, undef, undef, .bool false, pt (L3.b 3) 0, .bool true, .bool false, RV k, .bool true, .bool false, GV (gp g1), RV k, QGV f2 e2 g2 d2 i2, .int .u8 ((c : Nat) : Int), .int .u8 2, .bool false, .bool false, undef, undef, undef, undef, .bool false, .bool false, undef, undef, undef, undef, undef, undef, undef, undef, undef, undef, undef, undef, .bool true, .bool true, PV 0, pt (L3.b 3) 12] ++ U 12) (fun L => [((L0.b 0), QGC f e g d i), ((L0.b 1), RC k), ((L3.b 3), QGC f2 e2 g3 g3 i2)]) hp8 ⟨
    oD buildP0, oF fG1, oT rP (hsp := by subst hz; rfl),
    trivial⟩ (fun L8 w9 hp9 => ?_)
  refine k9 _ _ _ ?_
  refine block_normal ?_
  refine k7 _ _ ?_
  refine wp_seq_k (fun K13 k13 => ?_)
  refine dr [.det (QGV f e g d i), .det (.bool b1), .det (QGV f e g d i), .det (.bool b1), .det (.bool true), .det (.bool true), .det (QGV f2 e2 g3 g3 i2), .det (.bool b2), .det (QGV f2 e2 g3 g3 i2), .det (.bool b2), .det (.bool true), .det (.bool true), .det (.bool true)] [0, 1, 2, 3, 4, 5, 6, 7, 8, 9, 10, 11, 12] [0, 1, 0, 7, 15, 31, 63, 127, 63, 511, 1023, 2047, 4095] (fun L => [QGV f e g d i, RV k, .int .u8 ((c : Nat) : Int), .int .u64 ((t : Nat) : Int), pt (L0.b 0) 0, pt (L0.b 1) 0, undef, undef, .bool true, pt (L3.b 3) 0, .bool true, .bool false, RV k, .bool true, .bool false, GV (gp g1), RV k, QGV f2 e2 g2 d2 i2, .int .u8 ((c : Nat) : Int), .int .u8 2, .bool false, .bool false, undef, undef, undef, undef, .bool false, .bool false, undef, undef, undef, undef, undef, undef, undef, undef, undef, undef, undef, undef, .bool true, .bool true, PV 0, pt (L3.b 3) 12, QGV f e g d i, .bool b1, QGV f e g d i, .bool b1, .bool true, .bool true, QGV f2 e2 g3 g3 i2, .bool b2, QGV f2 e2 g3 g3 i2, .bool b2, .bool true, .bool true]) (fun L => [((L0.b 0), QGC f e g d i), ((L0.b 1), RC k), ((L3.b 3), QGC f2 e2 g3 g3 i2)]) hp9 ⟨
    oL 0 0 rG, oC K.stay hg h1, oL 0 0 rG, oR h1r, oE (a := b1) (b := b1) qB (yes rfl), oM, oL 2 0 rG, oC K.stay hg h2, oL 2 0 rG, oR h2r, oE (a := b2) (b := b2) qB (yes rfl),
    oP, oA,
    trivial⟩ (fun L9 w10 hp10 => ?_)
  refine k13 _ _ ?_
  refine wp_ret ?_
  refine bodyPost_ret (v := .bool true) ?_ rfl ?_
  · exact res_t rfl (by kernel_rfl) _
  · exact ⟨rfl, hp10.bel⟩
set_option maxHeartbeats 4000000 in
theorem onN {G : World → Prop} (K : FpK G) (R : RefK) (g1 : Pt F2) (f e g d : Nat → Int) (i : Bool) (k c t : Nat) (f2 e2 g2 d2 : Nat → Int) (i2 : Bool) (b1 b2 : Bool) (w : World) (hg : G w) (hgn : g1 = gen2) (hB : ∀ w, G w → Calls Tryd.prog 9 #[] w (Ret (.bool true) w)) (hk6 : k < 2 ^ 256) (hk : k < ordR) (hT : GV (gp (mul F2.inv k g1)) = QGV f2 e2 g2 d2 i2) (hc : c % 4 = 3) (h1 : ∀ w, G w → Calls Tryd.prog 19 #[QGV f e g d i] w (Ret (.bool b1) w)) (h1r : ∀ w, Calls Tryd.prog 21 #[QGV f e g d i] w (Ret (.bool b1) w)) (h2 : ∀ w, G w → Calls Tryd.prog 19 #[QGV f2 e2 g2 d2 i2] w (Ret (.bool b2) w)) (h2r : ∀ w, Calls Tryd.prog 21 #[QGV f2 e2 g2 d2 i2] w (Ret (.bool b2) w)) : Calls Tryd.prog 4 #[QGV f e g d i, RV k, .int .u8 ((c : Nat) : Int), .int .u64 ((t : Nat) : Int)] w (Ret (.bool true) w) := by
  have hp0 := Heap.start w
  go_enter Tryd.func4, Tryd.ntmps4
  refine wp_seq_k (fun K1 k1 => ?_)
  refine gs [.alloc (QGC f e g d i), .alloc (RC k), .det (.bool false)] [0, 1, 2] [0, 0, 0] (fun L => [QGV f e g d i, RV k, .int .u8 ((c : Nat) : Int), .int .u64 ((t : Nat) : Int), pt (L.b 0) 0, pt (L.b 1) 0, undef, undef, .bool false] ++ U 47) (fun L => [(L.b 0, QGC f e g d i), (L.b 1, RC k)]) hp0 ⟨
    oB, oB, oA,
    trivial⟩ (fun L0 w1 hp1 => ?_)
  refine k1 _ _ ?_
  refine wp_seq_k (fun K2 k2 => ?_)
  refine wp_seq_k (fun K3 k3 => ?_)
  refine gs [.det (.bool true), .det (.bool false)] [0, 1] [0, 1] (fun L => [QGV f e g d i, RV k, .int .u8 ((c : Nat) : Int), .int .u64 ((t : Nat) : Int), pt (L0.b 0) 0, pt (L0.b 1) 0, undef, undef, .bool false, undef, .bool true, .bool false] ++ U 44) (fun L => [((L0.b 0), QGC f e g d i), ((L0.b 1), RC k)]) hp1 ⟨
    oC K.stay hg hB, oN,
    trivial⟩ (fun L1 w2 hp2 => ?_)
  refine k3 _ _ ?_
  refine wp_cond_false (by kernel_rfl) ?_
  refine skips ?_
  refine k2 _ _ ?_
  refine wp_seq_k (fun K4 k4 => ?_)
  refine wp_seq_k (fun K5 k5 => ?_)
  refine gs [.det (RV k), .det (.bool true), .det (.bool false)] [0, 1, 2] [0, 1, 3] (fun L => [QGV f e g d i, RV k, .int .u8 ((c : Nat) : Int), .int .u64 ((t : Nat) : Int), pt (L0.b 0) 0, pt (L0.b 1) 0, undef, undef, .bool false, undef, .bool true, .bool false, RV k, .bool true, .bool false] ++ U 41) (fun L => [((L0.b 0), QGC f e g d i), ((L0.b 1), RC k)]) hp2 ⟨
    oL 1 0 rR, oH (v := .bool true) (vs := #[RV k]) (fun w _ _ => by have h := mayR hk6 w; rw [decide_eq_true hk] at h; exact h), oN,
    trivial⟩ (fun L2 w3 hp3 => ?_)
  refine k5 _ _ ?_
  refine wp_cond_false (by kernel_rfl) ?_
  refine skips ?_
  refine k4 _ _ ?_
  refine wp_seq_k (fun K6 k6 => ?_)
  refine dr [.det (GV (gp g1)), .det (RV k), .det (QGV f2 e2 g2 d2 i2), .alloc (GC ⟨0, 0, false⟩), .store (.new 3) 0 (QGC f2 e2 g2 d2 i2) (QGC f2 e2 g2 d2 i2)] [0, 1, 2, 3, 4] [0, 0, 3, 0, 15] (fun L => [QGV f e g d i, RV k, .int .u8 ((c : Nat) : Int), .int .u64 ((t : Nat) : Int), pt (L0.b 0) 0, pt (L0.b 1) 0, undef, undef, .bool false, pt (L.b 3) 0, .bool true, .bool false, RV k, .bool true, .bool false, GV (gp g1), RV k, QGV f2 e2 g2 d2 i2] ++ U 38) (fun L => [((L0.b 0), QGC f e g d i), ((L0.b 1), RC k), (L.b 3, QGC f2 e2 g2 d2 i2)]) hp3 ⟨
    oH (v := GV (gp g1)) (vs := #[]) (fun w _ _ => by have h := ref5Gen1 R w; rw [← hgn] at h; exact h), oL 1 0 rR, oH (v := QGV f2 e2 g2 d2 i2) (vs := #[GV (gp g1), RV k]) (fun w _ _ => by have h := ref5Times1 R g1 k w (gen2_on' hgn) hk6; rw [hT] at h; exact h),
    oZ rG, oT rG,
    trivial⟩ (fun L3 w4 hp4 => ?_)
  refine k6 _ _ ?_
  refine wp_seq_k (fun K7 k7 => ?_)
  refine wp_seq_k (fun K8 k8 => ?_)
  refine gs [.det (.int .u8 ((c : Nat) : Int)), .det (.int .u8 3)] [0, 1] [0, 1] (fun L => [QGV f e g d i, RV k, .int .u8 ((c : Nat) : Int), .int .u64 ((t : Nat) : Int), pt (L0.b 0) 0, pt (L0.b 1) 0, undef, undef, .bool false, pt (L3.b 3) 0, .bool true, .bool false, RV k, .bool true, .bool false, GV (gp g1), RV k, QGV f2 e2 g2 d2 i2, .int .u8 ((c : Nat) : Int), .int .u8 3] ++ U 36) (fun L => [((L0.b 0), QGC f e g d i), ((L0.b 1), RC k), ((L3.b 3), QGC f2 e2 g2 d2 i2)]) hp4 ⟨
    oM, oJ .u8 .u8 ((c : Nat) : Int) 4 (h := fun w => remB _ c 3 hc w),
    trivial⟩ (fun L4 w5 hp5 => ?_)
  refine k8 _ _ ?_
  refine wp_block_k (fun K9 k9 => ?_)
  refine wp_seq_k (fun K10 k10 => ?_)
  refine gs [.det (.bool false), .det (.bool false)] [0, 1] [0, 1] (fun L => [QGV f e g d i, RV k, .int .u8 ((c : Nat) : Int), .int .u64 ((t : Nat) : Int), pt (L0.b 0) 0, pt (L0.b 1) 0, undef, undef, .bool false, pt (L3.b 3) 0, .bool true, .bool false, RV k, .bool true, .bool false, GV (gp g1), RV k, QGV f2 e2 g2 d2 i2, .int .u8 ((c : Nat) : Int), .int .u8 3, .bool false, .bool false] ++ U 34) (fun L => [((L0.b 0), QGC f e g d i), ((L0.b 1), RC k), ((L3.b 3), QGC f2 e2 g2 d2 i2)]) hp5 ⟨
    oJ .u8 .u8 3 0 (h := fun w => (eqlI _ _ _ _ w).trans rfl), oA,
    trivial⟩ (fun L5 w6 hp6 => ?_)
  refine k10 _ _ ?_
  refine wp_cond_false (by kernel_rfl) ?_
  refine wp_seq_k (fun K11 k11 => ?_)
  refine gs [.det (.bool false), .det (.bool false)] [0, 1] [0, 1] (fun L => [QGV f e g d i, RV k, .int .u8 ((c : Nat) : Int), .int .u64 ((t : Nat) : Int), pt (L0.b 0) 0, pt (L0.b 1) 0, undef, undef, .bool false, pt (L3.b 3) 0, .bool true, .bool false, RV k, .bool true, .bool false, GV (gp g1), RV k, QGV f2 e2 g2 d2 i2, .int .u8 ((c : Nat) : Int), .int .u8 3, .bool false, .bool false, undef, undef, undef, undef, .bool false, .bool false] ++ U 28) (fun L => [((L0.b 0), QGC f e g d i), ((L0.b 1), RC k), ((L3.b 3), QGC f2 e2 g2 d2 i2)]) hp6 ⟨
    oJ .u8 .u8 3 1 (h := fun w => (eqlI _ _ _ _ w).trans rfl), oA,
    trivial⟩ (fun L6 w7 hp7 => ?_)
  refine k11 _ _ ?_
  refine wp_cond_false (by kernel_rfl) ?_
  refine wp_seq_k (fun K12 k12 => ?_)
  refine gs [.det (.bool false), .det (.bool false)] [0, 1] [0, 1] (fun L => [QGV f e g d i, RV k, .int .u8 ((c : Nat) : Int), .int .u64 ((t : Nat) : Int), pt (L0.b 0) 0, pt (L0.b 1) 0, undef, undef, .bool false, pt (L3.b 3) 0, .bool true, .bool false, RV k, .bool true, .bool false, GV (gp g1), RV k, QGV f2 e2 g2 d2 i2, .int .u8 ((c : Nat) : Int), .int .u8 3, .bool false, .bool false, undef, undef, undef, undef, .bool false, .bool false, undef, undef, undef, undef, undef, undef, undef, undef, undef, undef, undef, undef, .bool false, .bool false] ++ U 14) (fun L => [((L0.b 0), QGC f e g d i), ((L0.b 1), RC k), ((L3.b 3), QGC f2 e2 g2 d2 i2)]) hp7 ⟨
    oJ .u8 .u8 3 2 (h := fun w => (eqlI _ _ _ _ w).trans rfl), oA,
    trivial⟩ (fun L7 w8 hp8 => ?_)
  refine k12 _ _ ?_
  refine wp_cond_false (by kernel_rfl) ?_
  refine skips ?_
  refine k9 _ _ _ ?_
  refine block_normal ?_
  refine k7 _ _ ?_
  refine wp_seq_k (fun K13 k13 => ?_)
  refine dr [.det (QGV f e g d i), .det (.bool b1), .det (QGV f e g d i), .det (.bool b1), .det (.bool true), .det (.bool true), .det (QGV f2 e2 g2 d2 i2), .det (.bool b2), .det (QGV f2 e2 g2 d2 i2), .det (.bool b2), .det (.bool true), .det (.bool true), .det (.bool true)] [0, 1, 2, 3, 4, 5, 6, 7, 8, 9, 10, 11, 12] [0, 1, 0, 7, 15, 31, 63, 127, 63, 511, 1023, 2047, 4095] (fun L => [QGV f e g d i, RV k, .int .u8 ((c : Nat) : Int), .int .u64 ((t : Nat) : Int), pt (L0.b 0) 0, pt (L0.b 1) 0, undef, undef, .bool true, pt (L3.b 3) 0, .bool true, .bool false, RV k, .bool true, .bool false, GV (gp g1), RV k, QGV f2 e2 g2 d2 i2, .int .u8 ((c : Nat) : Int), .int .u8 3, .bool false, .bool false, undef, undef, undef, undef, .bool false, .bool false, undef, undef, undef, undef, undef, undef, undef, undef, undef, undef, undef, undef, .bool false, .bool false, undef, undef, QGV f e g d i, .bool b1, QGV f e g d i, .bool b1, .bool true, .bool true, QGV f2 e2 g2 d2 i2, .bool b2, QGV f2 e2 g2 d2 i2, .bool b2, .bool true, .bool true]) (fun L => [((L0.b 0), QGC f e g d i), ((L0.b 1), RC k), ((L3.b 3), QGC f2 e2 g2 d2 i2)]) hp8 ⟨
    oL 0 0 rG, oC K.stay hg h1, oL 0 0 rG, oR h1r, oE (a := b1) (b := b1) qB (yes rfl), oM, oL 2 0 rG, oC K.stay hg h2, oL 2 0 rG, oR h2r, oE (a := b2) (b := b2) qB (yes rfl),
    oP, oA,
    trivial⟩ (fun L8 w9 hp9 => ?_)
  refine k13 _ _ ?_
  refine wp_ret ?_
  refine bodyPost_ret (v := .bool true) ?_ rfl ?_
  · exact res_t rfl (by kernel_rfl) _
  · exact ⟨rfl, hp9.bel⟩
theorem g2On_walk {G : World → Prop} (K : FpK G) (R : RefK) (f e g d : Nat → Int) (i : Bool) (k c t : Nat) (rf : Rg f 6) (re : Rg e 6) (rg : Rg g 6) (rd : Rg d 6) (hk6 : k < 2 ^ 256) (w : World) (hg : G w) :
    Calls Tryd.prog 4 #[QGV f e g d i, RV k, .int .u8 ((c : Nat) : Int), .int .u64 ((t : Nat) : Int)] w (Ret (.bool true) w) := by
  have hB := fun w hg => begun9 K R w hg
  by_cases hk : k < ordR
  · obtain ⟨b1, h1, h1r⟩ := on_same K R f e g d i rf re rg rd
    obtain ⟨f2, e2, g2, d2, i2, hT, rf2, re2, rg2, rd2⟩ : ∃ f2 e2 g2 d2 i2, GV (gp (mul F2.inv k gen2)) = QGV f2 e2 g2 d2 i2 ∧ Rg f2 6 ∧ Rg e2 6 ∧ Rg g2 6 ∧ Rg d2 6 := by
      generalize gp (mul F2.inv k gen2) = p
      exact ⟨lb p.x.c0.val, lb p.x.c1.val, lb p.y.c0.val, lb p.y.c1.val, p.i, rfl, lb_rg _ _, lb_rg _ _, lb_rg _ _, lb_rg _ _⟩
    rcases (show c % 4 = 0 ∨ c % 4 = 1 ∨ c % 4 = 2 ∨ c % 4 = 3 by omega) with hc | hc | hc | hc
    · cases i2 with
      | true =>
        obtain ⟨b2, h2, h2r⟩ := on_same K R f2 e2 g2 d2 false rf2 re2 rg2 rd2
        exact onItrue K R gen2 f e g d i k c t f2 e2 g2 d2 b1 b2 w hg rfl hB hk6 hk hT hc h1 h1r h2 h2r
      | false =>
        obtain ⟨b2, h2, h2r⟩ := on_same K R f2 e2 g2 d2 true rf2 re2 rg2 rd2
        exact onIfalse K R gen2 f e g d i k c t f2 e2 g2 d2 b1 b2 w hg rfl hB hk6 hk hT hc h1 h1r h2 h2r
    · rcases (show t % 6 = 0 ∨ t % 6 = 1 ∨ t % 6 = 2 ∨ t % 6 = 3 ∨ t % 6 = 4 ∨ t % 6 = 5 by omega) with ht | ht | ht | ht | ht | ht
      · obtain ⟨b2, h2, h2r⟩ := on_same K R (upd f2 0 (IntKind.u64.wrap (f2 0 + 1))) e2 g2 d2 i2 (upd_rg rf2 (wrap_rg _)) re2 rg2 rd2
        exact onX0 K R gen2 f e g d i k c t f2 e2 g2 d2 i2 _ _ b1 b2 w hg rfl hB hk6 hk hT ht rfl rfl hc h1 h1r h2 h2r
      · obtain ⟨b2, h2, h2r⟩ := on_same K R f2 (upd e2 1 (IntKind.u64.wrap (e2 1 + 1))) g2 d2 i2 rf2 (upd_rg re2 (wrap_rg _)) rg2 rd2
        exact onX1 K R gen2 f e g d i k c t f2 e2 g2 d2 i2 _ _ b1 b2 w hg rfl hB hk6 hk hT ht rfl rfl hc h1 h1r h2 h2r
      · obtain ⟨b2, h2, h2r⟩ := on_same K R (upd f2 2 (IntKind.u64.wrap (f2 2 + 1))) e2 g2 d2 i2 (upd_rg rf2 (wrap_rg _)) re2 rg2 rd2
        exact onX2 K R gen2 f e g d i k c t f2 e2 g2 d2 i2 _ _ b1 b2 w hg rfl hB hk6 hk hT ht rfl rfl hc h1 h1r h2 h2r
      · obtain ⟨b2, h2, h2r⟩ := on_same K R f2 (upd e2 3 (IntKind.u64.wrap (e2 3 + 1))) g2 d2 i2 rf2 (upd_rg re2 (wrap_rg _)) rg2 rd2
        exact onX3 K R gen2 f e g d i k c t f2 e2 g2 d2 i2 _ _ b1 b2 w hg rfl hB hk6 hk hT ht rfl rfl hc h1 h1r h2 h2r
      · obtain ⟨b2, h2, h2r⟩ := on_same K R (upd f2 4 (IntKind.u64.wrap (f2 4 + 1))) e2 g2 d2 i2 (upd_rg rf2 (wrap_rg _)) re2 rg2 rd2
        exact onX4 K R gen2 f e g d i k c t f2 e2 g2 d2 i2 _ _ b1 b2 w hg rfl hB hk6 hk hT ht rfl rfl hc h1 h1r h2 h2r
      · obtain ⟨b2, h2, h2r⟩ := on_same K R f2 (upd e2 5 (IntKind.u64.wrap (e2 5 + 1))) g2 d2 i2 rf2 (upd_rg re2 (wrap_rg _)) rg2 rd2
        exact onX5 K R gen2 f e g d i k c t f2 e2 g2 d2 i2 _ _ b1 b2 w hg rfl hB hk6 hk hT ht rfl rfl hc h1 h1r h2 h2r
    · obtain ⟨b2, h2, h2r⟩ := on_same K R f2 e2 (lb (0 : F).val) (lb (0 : F).val) i2 rf2 re2 (lb_rg _ _) (lb_rg _ _)
      exact onY K R gen2 f e g d i k c t f2 e2 g2 d2 i2 _ b1 b2 w hg rfl hB hk6 hk hT rfl hc h1 h1r h2 h2r
    · obtain ⟨b2, h2, h2r⟩ := on_same K R f2 e2 g2 d2 i2 rf2 re2 rg2 rd2
      exact onN K R gen2 f e g d i k c t f2 e2 g2 d2 i2 b1 b2 w hg rfl hB hk6 hk hT hc h1 h1r h2 h2r
  · exact on0 K R gen2 f e g d i k c t w hg rfl hB hk6 hk
end Go.Proofs.YthehnlpgmkjefaaDoor.fpn.T2
