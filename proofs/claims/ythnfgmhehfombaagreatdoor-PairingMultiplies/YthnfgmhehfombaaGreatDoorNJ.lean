/- UL UM. -/
import Derived.Test.YthnfgmhehfombaaGreatDoorND
import Derived.Test.YthnfgmhehfombaaGreatDoorNE
import Derived.Test.YthnfgmhehfombaaGreatDoorGM
import Derived.Test.YthnfgmhehfombaaGreatDoorGS
import Derived.Test.YthnfgmhehfombaaGreatDoorGH
import Derived.Deep.LoopGhost
/- Package pairing: Of. -/
namespace Go.Proofs.YthnfgmhehfombaaGreatDoor.fpn
open Go.RowKit Pl EC
set_option linter.unusedVariables false
set_option linter.unusedSimpArgs false
set_option maxRecDepth 4000

set_option maxHeartbeats 4000000 in
theorem pairIn1 {G : World → Prop} (K : FpK G) (P : Pt F) (Q : Pt F2) (w : World) (hg : G w) (hP : On (4 : F) P) (iP : mul finv ordR P = .inf) (hQ : On b2 Q) (iQ : mul F2.inv ordR Q = .inf) : Calls Tryz.prog 35 #[GV (gp P), T2.GV (T2.gp Q)] w (Ret (.bool true) w) := by
  have hp0 := Heap.start w
  go_enter Tryz.func35, Tryz.ntmps35
  refine wp_seq_k (fun K1 k1 => ?_)
  refine gsD [.alloc (GC (gp P)), .alloc (T2.GC (T2.gp Q)), .det (.bool false)] [0, 1, 2] [0, 0, 0] (fun L d => D d 0 2 ++ ([L.p 0, L.p 1] ++ D d 4 7)) (fun L => [(L.b 0, GC (gp P)), (L.b 1, T2.GC (T2.gp Q))]) hp0 ⟨
    oB, oB, oA,
    trivial⟩ (fun L0 _ w1 hp1 => ?_)
  refine k1 _ _ ?_
  refine wp_seq_k (fun K2 k2 => ?_)
  refine gsD [.det (GV (gp P)), .det (.bool true), .det (.bool true), .det (T2.GV (T2.gp Q)), .det (.bool true), .det (.bool true), .det (.bool true)] [0, 1, 2, 3, 4, 5, 6] [0, 1, 3, 7, 15, 31, 63] (fun L d => D d 0 4 ++ ([.bool true] ++ D d 5 6)) (fun L => [(L0.b 0, GC (gp P)), (L0.b 1, T2.GC (T2.gp Q))]) hp1 ⟨
    oL 0 0 rG, oH (v := .bool true) (vs := #[GV (gp P)]) (fun w hb _ => by have h := g1In K P w (K.stay hg hb) hP; rw [decide_eq_true iP] at h; exact h), oM, oL 1 0 T2.rG,
    oH (v := .bool true) (vs := #[T2.GV (T2.gp Q)]) (fun w hb _ => by have h := T2.g2In K Q w (K.stay hg hb) hQ; rw [decide_eq_true iQ] at h; exact h), oP, oA,
    trivial⟩ (fun L1 _ w2 hp2 => ?_)
  refine k2 _ _ ?_
  refine wp_ret ?_
  refine bodyPost_ret (v := .bool true) ?_ rfl ?_
  · exact res_t rfl (by kernel_rfl) _
  · exact ⟨rfl, hp2.bel⟩
set_option maxHeartbeats 4000000 in
theorem pairIn0 {G : World → Prop} (K : FpK G) (P : Pt F) (q : T2.G2p) (w : World) (hg : G w) (hP : On (4 : F) P) (iP : mul finv ordR P ≠ .inf) : Calls Tryz.prog 35 #[GV (gp P), T2.GV q] w (Ret (.bool false) w) := by
  have hp0 := Heap.start w
  go_enter Tryz.func35, Tryz.ntmps35
  refine wp_seq_k (fun K1 k1 => ?_)
  refine gsD [.alloc (GC (gp P)), .alloc (T2.GC q), .det (.bool false)] [0, 1, 2] [0, 0, 0] (fun L d => D d 0 2 ++ ([L.p 0] ++ D d 3 8)) (fun L => [(L.b 0, GC (gp P)), (L.b 1, T2.GC q)]) hp0 ⟨
    oB, oB, oA,
    trivial⟩ (fun L0 _ w1 hp1 => ?_)
  refine k1 _ _ ?_
  refine wp_seq_k (fun K2 k2 => ?_)
  refine gsD [.det (GV (gp P)), .det (.bool false), .det (.bool false), .det undef, .det undef, .det (.bool false), .det (.bool false)] [0, 1, 2, 3, 4, 5, 6] [0, 1, 3, 7, 15, 31, 63] (fun L d => D d 0 4 ++ ([.bool false] ++ D d 5 6)) (fun L => [(L0.b 0, GC (gp P)), (L0.b 1, T2.GC q)]) hp1 ⟨
    oL 0 0 rG, oH (v := .bool false) (vs := #[GV (gp P)]) (fun w hb _ => by have h := g1In K P w (K.stay hg hb) hP; rw [decide_eq_false iP] at h; exact h), oM, oS,
    oS, oP, oA,
    trivial⟩ (fun L1 _ w2 hp2 => ?_)
  refine k2 _ _ ?_
  refine wp_ret ?_
  refine bodyPost_ret (v := .bool false) ?_ rfl ?_
  · exact res_t rfl (by kernel_rfl) _
  · exact ⟨rfl, hp2.bel⟩
set_option maxHeartbeats 4000000 in
theorem pairSeen0 {G : World → Prop} (K : FpK G) (q : T2.G2p) (w : World) (hg : G w) : Calls Tryz.prog 38 #[GV ⟨0, 0, true⟩, T2.GV q] w (Ret (V12 1) w) := by
  have hp0 := Heap.start w
  go_enter Tryz.func38, Tryz.ntmps38
  refine wp_seq_k (fun K1 k1 => ?_)
  refine gsD [.alloc (GC ⟨0, 0, true⟩), .alloc (T2.GC q), .alloc (C12 0)] [0, 1, 2] [0, 0, 0] (fun L d => D d 0 2 ++ ([L.p 0, d 3, L.p 2] ++ U 12)) (fun L => [(L.b 0, GC ⟨0, 0, true⟩), (L.b 1, T2.GC q), (L.b 2, C12 0)]) hp0 ⟨
    oB, oB, oZ r12,
    trivial⟩ (fun L0 _ w1 hp1 => ?_)
  refine k1 _ _ ?_
  refine wp_seq_k (fun K2 k2 => ?_)
  refine wp_seq_k (fun K3 k3 => ?_)
  refine gsD [.det (pt (L0.b 0) 12), .det (.bool true), .det (.bool true), .det undef, .det undef, .det (.bool true)] [0, 1, 2, 3, 4, 5] [0, 1, 3, 7, 15, 31] (fun L d => D d 0 4 ++ ([L0.p 2] ++ (D d 5 5 ++ ([.bool true] ++ D d 11 6)))) (fun L => [(L0.b 0, GC ⟨0, 0, true⟩), (L0.b 1, T2.GC q), (L0.b 2, C12 0)]) hp1 ⟨
    oF fG2, oL1 0 12 oneB, oM, oS, oS, oP,
    trivial⟩ (fun L1 _ w2 hp2 => ?_)
  refine k3 _ _ ?_
  refine wp_cond_true (by kernel_rfl) ?_
  refine wp_seq_k (fun K4 k4 => ?_)
  refine gsD [.det (V12 1), .store (.base 2) 0 (C12 1) (C12 1)] [0, 1] [0, 1] (fun L d => D d 0 4 ++ ([L0.p 2] ++ D d 5 12)) (fun L => [(L0.b 0, GC ⟨0, 0, true⟩), (L0.b 1, T2.GC q), (L0.b 2, C12 1)]) hp2 ⟨
    oC K.stay hg (fp12One K), oT r12,
    trivial⟩ (fun L2 _ w3 hp3 => ?_)
  refine k4 _ _ ?_
  refine wp_ret ?_
  refine bodyPost_ret (v := V12 1) ?_ rfl ?_
  · exact rc r12 rfl (by kernel_rfl) (hp3.bound 2 rfl).2
  · exact ⟨rfl, hp3.bel⟩
set_option maxHeartbeats 4000000 in
theorem pairSeen1 {G : World → Prop} (K : FpK G) (x y : F) (w : World) (hg : G w) : Calls Tryz.prog 38 #[GV ⟨x, y, false⟩, T2.GV ⟨0, 0, true⟩] w (Ret (V12 1) w) := by
  have hp0 := Heap.start w
  go_enter Tryz.func38, Tryz.ntmps38
  refine wp_seq_k (fun K1 k1 => ?_)
  refine gsD [.alloc (GC ⟨x, y, false⟩), .alloc (T2.GC ⟨0, 0, true⟩), .alloc (C12 0)] [0, 1, 2] [0, 0, 0] (fun L d => D d 0 2 ++ ([L.p 0, L.p 1, L.p 2] ++ U 12)) (fun L => [(L.b 0, GC ⟨x, y, false⟩), (L.b 1, T2.GC ⟨0, 0, true⟩), (L.b 2, C12 0)]) hp0 ⟨
    oB, oB, oZ r12,
    trivial⟩ (fun L0 _ w1 hp1 => ?_)
  refine k1 _ _ ?_
  refine wp_seq_k (fun K2 k2 => ?_)
  refine wp_seq_k (fun K3 k3 => ?_)
  refine gsD [.det (pt (L0.b 0) 12), .det (.bool false), .det (.bool false), .det (pt (L0.b 1) 24), .det (.bool true), .det (.bool true)] [0, 1, 2, 3, 4, 5] [0, 1, 3, 7, 15, 31] (fun L d => D d 0 4 ++ ([L0.p 2] ++ (D d 5 5 ++ ([.bool true] ++ U 6)))) (fun L => [(L0.b 0, GC ⟨x, y, false⟩), (L0.b 1, T2.GC ⟨0, 0, true⟩), (L0.b 2, C12 0)]) hp1 ⟨
    oF fG2, oL1 0 12 oneB, oM, oF T2.fG2, oL1 1 24 oneB, oP,
    trivial⟩ (fun L1 _ w2 hp2 => ?_)
  refine k3 _ _ ?_
  refine wp_cond_true (by kernel_rfl) ?_
  refine wp_seq_k (fun K4 k4 => ?_)
  refine gsD [.det (V12 1), .store (.base 2) 0 (C12 1) (C12 1)] [0, 1] [0, 1] (fun L d => D d 0 4 ++ ([L0.p 2] ++ D d 5 12)) (fun L => [(L0.b 0, GC ⟨x, y, false⟩), (L0.b 1, T2.GC ⟨0, 0, true⟩), (L0.b 2, C12 1)]) hp2 ⟨
    oC K.stay hg (fp12One K), oT r12,
    trivial⟩ (fun L2 _ w3 hp3 => ?_)
  refine k4 _ _ ?_
  refine wp_ret ?_
  refine bodyPost_ret (v := V12 1) ?_ rfl ?_
  · exact rc r12 rfl (by kernel_rfl) (hp3.bound 2 rfl).2
  · exact ⟨rfl, hp3.bel⟩
set_option maxHeartbeats 4000000 in
theorem pairSeen2 {G : World → Prop} (K : FpK G) (x y : F) (x2 y2 : F2) (w : World) (hg : G w) (M : F12.MQ (.aff x y) (.aff x2 y2) ⟨F12.e1 x, F12.e1 y⟩ ⟨F12.mx x2, F12.my y2⟩) : Calls Tryz.prog 38 #[GV ⟨x, y, false⟩, T2.GV ⟨x2, y2, false⟩] w (Ret (V12 (F12.sv (.aff x y) (.aff x2 y2))) w) := by
  have hp0 := Heap.start w
  go_enter Tryz.func38, Tryz.ntmps38
  refine wp_seq_k (fun K1 k1 => ?_)
  refine gsD [.alloc (GC ⟨x, y, false⟩), .alloc (T2.GC ⟨x2, y2, false⟩), .alloc (C12 0)] [0, 1, 2] [0, 0, 0] (fun L d => D d 0 2 ++ ([L.p 0, L.p 1, L.p 2] ++ U 12)) (fun L => [(L.b 0, GC ⟨x, y, false⟩), (L.b 1, T2.GC ⟨x2, y2, false⟩), (L.b 2, C12 0)]) hp0 ⟨
    oB, oB, oZ r12,
    trivial⟩ (fun L0 _ w1 hp1 => ?_)
  refine k1 _ _ ?_
  refine wp_seq_k (fun K2 k2 => ?_)
  refine wp_seq_k (fun K3 k3 => ?_)
  refine gsD [.det (pt (L0.b 0) 12), .det (.bool false), .det (.bool false), .det (pt (L0.b 1) 24), .det (.bool false), .det (.bool false)] [0, 1, 2, 3, 4, 5] [0, 1, 3, 7, 15, 31] (fun L d => D d 0 2 ++ ([L0.p 0, L0.p 1, L0.p 2] ++ (D d 5 5 ++ ([.bool false] ++ U 6)))) (fun L => [(L0.b 0, GC ⟨x, y, false⟩), (L0.b 1, T2.GC ⟨x2, y2, false⟩), (L0.b 2, C12 0)]) hp1 ⟨
    oF fG2, oL1 0 12 oneB, oM, oF T2.fG2, oL1 1 24 oneB, oP,
    trivial⟩ (fun L1 _ w2 hp2 => ?_)
  refine k3 _ _ ?_
  refine wp_cond_false (by kernel_rfl) ?_
  refine skips ?_
  refine k2 _ _ ?_
  refine wp_seq_k (fun K4 k4 => ?_)
  refine drD [.det (GV ⟨x, y, false⟩), .det (PLV ⟨F12.e1 x, F12.e1 y⟩), .det (T2.GV ⟨x2, y2, false⟩), .det (PLV ⟨F12.mx x2, F12.my y2⟩), .det (V12 (F12.sv (.aff x y) (.aff x2 y2))), .store (.base 2) 0 (C12 (F12.sv (.aff x y) (.aff x2 y2))) (C12 (F12.sv (.aff x y) (.aff x2 y2)))] [0, 1, 2, 3, 4, 5] [0, 1, 0, 7, 15, 31] (fun L d => D d 0 4 ++ ([L0.p 2] ++ D d 5 12)) (fun L => [(L0.b 0, GC ⟨x, y, false⟩), (L0.b 1, T2.GC ⟨x2, y2, false⟩), (L0.b 2, C12 (F12.sv (.aff x y) (.aff x2 y2)))]) hp2 ⟨
    oL 0 0 rG, oC K.stay hg (pairPlace1 K x y), oL 1 0 T2.rG, oC K.stay hg (pairPlace2 K x2 y2), oH (v := V12 (F12.sv (.aff x y) (.aff x2 y2))) (vs := #[PLV ⟨F12.e1 x, F12.e1 y⟩, PLV ⟨F12.mx x2, F12.my y2⟩]) (fun w hb _ => pairMiller K (.aff x y) (.aff x2 y2) _ _ w (K.stay hg hb) M),
    oT r12,
    trivial⟩ (fun L2 _ w3 hp3 => ?_)
  refine k4 _ _ ?_
  refine wp_ret ?_
  refine bodyPost_ret (v := V12 (F12.sv (.aff x y) (.aff x2 y2))) ?_ rfl ?_
  · exact rc r12 rfl (by kernel_rfl) (hp3.bound 2 rfl).2
  · exact ⟨rfl, hp3.bel⟩
theorem ord1 (a : Nat) : mul finv ordR (mul finv a gen1) = .inf := by
  rw [← mul_mul crv1 gen1_on, Nat.mul_comm, mul_mul crv1 gen1_on, gen1_order, mul_inf]
theorem ord2 (b : Nat) : mul F2.inv ordR (mul F2.inv b gen2) = .inf := by
  rw [← mul_mul crv2 gen2_on, Nat.mul_comm, mul_mul crv2 gen2_on, gen2_order, mul_inf]
theorem pairSeen {G : World → Prop} (K : FpK G) (a b : Nat) (w : World) (hg : G w) : Calls Tryz.prog 38 #[GV (gp (mul finv a gen1)), T2.GV (T2.gp (mul F2.inv b gen2))] w (Ret (V12 (F12.sv (mul finv a gen1) (mul F2.inv b gen2))) w) := by
  have hA := F12.pa_mul b
  have hB := F12.pb_mul a
  have o := mul_on crv2 gen2_on b
  have i := ord2 b
  generalize mul finv a gen1 = P at hB ⊢
  generalize mul F2.inv b gen2 = Q at hA o i ⊢
  cases P with
  | inf => rw [F12.sv_inf1]; exact pairSeen0 K _ w hg
  | aff x y =>
    cases Q with
    | inf => rw [F12.sv_inf2]; exact pairSeen1 K x y w hg
    | aff x2 y2 => exact pairSeen2 K x y x2 y2 w hg ⟨hA, hB, o, i, rfl, rfl⟩
set_option maxHeartbeats 4000000 in
theorem pairOf1 {G : World → Prop} (K : FpK G) (p : G1p) (q : T2.G2p) (z : F12) (w : World) (hg : G w) (hz : z ≠ 0) (hin : ∀ w, G w → Calls Tryz.prog 35 #[GV p, T2.GV q] w (Ret (.bool true) w)) (hse : ∀ w, G w → Calls Tryz.prog 38 #[GV p, T2.GV q] w (Ret (V12 z) w)) (hT : ∀ w, G w → w.rangeAt 0 0 (PC F12.tw)) : Calls Tryz.prog 16 #[GV p, T2.GV q] w (Ret (V12 (F12.ex z)) w) := by
  have hp0 := Heap.start w
  go_enter Tryz.func16, Tryz.ntmps16
  refine wp_seq_k (fun K1 k1 => ?_)
  refine gs [.alloc (GC p), .alloc (T2.GC q), .alloc (C12 0)] [0, 1, 2] [0, 0, 0] (fun L => [GV p, T2.GV q, L.p 0, L.p 1, L.p 2] ++ U 9) (fun L => [(L.b 0, GC p), (L.b 1, T2.GC q), (L.b 2, C12 0)]) hp0 ⟨
    oB, oB, oZ r12,
    trivial⟩ (fun L0 w1 hp1 => ?_)
  refine k1 _ _ ?_
  refine wp_seq_k (fun K2 k2 => ?_)
  refine wp_seq_k (fun K3 k3 => ?_)
  refine gsD [.det (GV p), .det (T2.GV q), .det (.bool true), .det (.bool false)] [0, 1, 2, 3] [0, 0, 3, 7] (fun L d => D d 0 2 ++ ([L0.p 0, L0.p 1, L0.p 2] ++ (D d 5 3 ++ ([.bool false] ++ U 5)))) (fun L => [(L0.b 0, GC p), (L0.b 1, T2.GC q), (L0.b 2, C12 0)]) hp1 ⟨
    oL 0 0 rG, oL 1 0 T2.rG, oC K.stay hg hin, oN,
    trivial⟩ (fun L1 _ w2 hp2 => ?_)
  refine k3 _ _ ?_
  refine wp_cond_false (by kernel_rfl) ?_
  refine skips ?_
  refine k2 _ _ ?_
  refine wp_seq_k (fun K4 k4 => ?_)
  refine gsD [.det (GV p), .det (T2.GV q), .det (V12 z), .det (V12 (F12.ex z)), .store (.base 2) 0 (C12 (F12.ex z)) (C12 (F12.ex z))] [0, 1, 2, 3, 4] [0, 0, 3, 7, 15] (fun L d => D d 0 4 ++ ([L0.p 2] ++ D d 5 9)) (fun L => [(L0.b 0, GC p), (L0.b 1, T2.GC q), (L0.b 2, C12 (F12.ex z))]) hp2 ⟨
    oL 0 0 rG, oL 1 0 T2.rG, oC K.stay hg hse, oH (v := V12 (F12.ex z)) (vs := #[V12 z]) (fun w hb _ => pairPower K z w (K.stay hg hb) hz hT), oT r12,
    trivial⟩ (fun L2 _ w3 hp3 => ?_)
  refine k4 _ _ ?_
  refine wp_ret ?_
  refine bodyPost_ret (v := V12 (F12.ex z)) ?_ rfl ?_
  · exact rc r12 rfl (by kernel_rfl) (hp3.bound 2 rfl).2
  · exact ⟨rfl, hp3.bel⟩
set_option maxHeartbeats 4000000 in
theorem pairOf0 {G : World → Prop} (K : FpK G) (p : G1p) (q : T2.G2p) (w : World) (hg : G w) (hin : ∀ w, G w → Calls Tryz.prog 35 #[GV p, T2.GV q] w (Ret (.bool false) w)) : Calls Tryz.prog 16 #[GV p, T2.GV q] w (Ret (V12 1) w) := by
  have hp0 := Heap.start w
  go_enter Tryz.func16, Tryz.ntmps16
  refine wp_seq_k (fun K1 k1 => ?_)
  refine gs [.alloc (GC p), .alloc (T2.GC q), .alloc (C12 0)] [0, 1, 2] [0, 0, 0] (fun L => [GV p, T2.GV q, L.p 0, L.p 1, L.p 2] ++ U 9) (fun L => [(L.b 0, GC p), (L.b 1, T2.GC q), (L.b 2, C12 0)]) hp0 ⟨
    oB, oB, oZ r12,
    trivial⟩ (fun L0 w1 hp1 => ?_)
  refine k1 _ _ ?_
  refine wp_seq_k (fun K2 k2 => ?_)
  refine wp_seq_k (fun K3 k3 => ?_)
  refine gsD [.det (GV p), .det (T2.GV q), .det (.bool false), .det (.bool true)] [0, 1, 2, 3] [0, 0, 3, 7] (fun L d => D d 0 4 ++ ([L0.p 2] ++ (D d 5 3 ++ ([.bool true] ++ U 5)))) (fun L => [(L0.b 0, GC p), (L0.b 1, T2.GC q), (L0.b 2, C12 0)]) hp1 ⟨
    oL 0 0 rG, oL 1 0 T2.rG, oC K.stay hg hin, oN,
    trivial⟩ (fun L1 _ w2 hp2 => ?_)
  refine k3 _ _ ?_
  refine wp_cond_true (by kernel_rfl) ?_
  refine wp_seq_k (fun K4 k4 => ?_)
  refine gsD [.det (V12 1), .store (.base 2) 0 (C12 1) (C12 1)] [0, 1] [0, 1] (fun L d => D d 0 4 ++ ([L0.p 2] ++ D d 5 9)) (fun L => [(L0.b 0, GC p), (L0.b 1, T2.GC q), (L0.b 2, C12 1)]) hp2 ⟨
    oC K.stay hg (fp12One K), oT r12,
    trivial⟩ (fun L2 _ w3 hp3 => ?_)
  refine k4 _ _ ?_
  refine wp_ret ?_
  refine bodyPost_ret (v := V12 1) ?_ rfl ?_
  · exact rc r12 rfl (by kernel_rfl) (hp3.bound 2 rfl).2
  · exact ⟨rfl, hp3.bel⟩
end Go.Proofs.YthnfgmhehfombaaGreatDoor.fpn

/- Package pairing: Check; it is what is asked. -/
namespace Go.Proofs.YthnfgmhehfombaaGreatDoor.fpn
open Go.RowKit Pl EC
set_option linter.unusedVariables false
set_option linter.unusedSimpArgs false
set_option maxRecDepth 4000

def zpr (vz : Prp → F12) : F12 → List Prp → F12
  | y, [] => y
  | y, z :: l => zpr vz (y * vz z) l
def chkI1 (m : List Prp) (p : Option Addr) (c : Nat) (w : World) : Nat → Act → World → Prop := fun L a' w' => ∃ (i : Nat) (u1 u3 u4 u5 u6 u7 u11 u12 u13 u14 u15 u16 u17 u18 u19 u20 u21 u22 u23 u24 u25 u26 u27 u28 u29 u30 u31 u32 u33 u34 u35 u36 u37 u38 u39 : Value),
  a' = { tmps := #[.slice p m.length c, u1, .bool false, u3, u4, u5, u6, u7, .slice p m.length c, .int .i64 m.length, .int .i64 ((i : Nat) : Int), u11, u12, u13, u14, u15, u16, u17, u18, u19, u20, u21, u22, u23, u24, u25, u26, u27, u28, u29, u30, u31, u32, u33, u34, u35, u36, u37, u38, u39], defers := [] } ∧ i + L = m.length ∧ Heap w.heap.size w w' []
def chkI2 (vz : Prp → F12) (m : List Prp) (p : Option Addr) (c : Nat) (w : World) (b5 : Nat) : Nat → Act → World → Prop := fun L a' w' => ∃ (i : Nat) (y : F12) (u1 u3 u4 u6 u7 u8 u9 u10 u11 u12 u13 u14 u15 u16 u17 u18 u19 u20 u21 u25 u26 u27 u28 u29 u30 u31 u32 u33 u34 u35 u36 u37 u38 u39 : Value),
  a' = { tmps := #[.slice p m.length c, u1, .bool false, u3, u4, .pointer (some ⟨b5, 0, none⟩), u6, u7, u8, u9, u10, u11, u12, u13, u14, u15, u16, u17, u18, u19, u20, u21, .slice p m.length c, .int .i64 m.length, .int .i64 ((i : Nat) : Int), u25, u26, u27, u28, u29, u30, u31, u32, u33, u34, u35, u36, u37, u38, u39], defers := [] } ∧ i + L = m.length ∧ zpr vz y (m.drop i) = zpr vz 1 m ∧ Heap w.heap.size w w' [(b5, C12 y)]

set_option maxHeartbeats 4000000 in
theorem pairCheck {G : World → Prop} (K : FpK G) (vz : Prp → F12) (m : List Prp) (p : Option Addr) (c : Nat) (w : World) (hg : G w) (hl : m.length ≤ 1000) (hA : AtZ w p m) (hin : ∀ z ∈ m, ∀ w, G w → Calls Tryz.prog 35 #[GV z.p, T2.GV z.q] w (Ret (.bool true) w)) (hse : ∀ z ∈ m, ∀ w, G w → Calls Tryz.prog 38 #[GV z.p, T2.GV z.q] w (Ret (V12 (vz z)) w)) (hne : zpr vz 1 m ≠ 0) (hT : ∀ w, G w → w.rangeAt 0 0 (PC F12.tw)) : Calls Tryz.prog 15 #[.slice p m.length c] w (Ret (.bool (decide (F12.ex (zpr vz 1 m) = 1))) w) := by
  have hp0 := Heap.start w
  go_enter Tryz.func15, Tryz.ntmps15
  refine wp_seq_k (fun K1 k1 => ?_)
  refine gs [.det (.bool false)] [0] [0] (fun L => [.slice p m.length c, undef, .bool false] ++ U 37) (fun L => []) hp0 ⟨
    oA,
    trivial⟩ (fun L0 w1 hp1 => ?_)
  refine k1 _ _ ?_
  refine wp_seq_k (fun K2 k2 => ?_)
  refine wp_seq_k (fun K3 k3 => ?_)
  refine gs [.det (.slice p m.length c), .det (.int .i64 m.length), .det (.int .i64 0)] [0, 1, 2] [0, 1, 0] (fun L => [.slice p m.length c, undef, .bool false, undef, undef, undef, undef, undef, .slice p m.length c, .int .i64 m.length, .int .i64 0] ++ U 29) (fun L => []) hp1 ⟨
    oM, fun h => ⟨ob_len (p := p) (n := m.length) (c := c) (fun _ => rfl) h rfl (fun _ => by kernel_rfl) Tryz.underlying24⟩, oM,
    trivial⟩ (fun L1 w2 hp2 => ?_)
  refine k3 _ _ ?_
  refine wp_block_k (fun K4 k4 => ?_)
  refine wp_loop_ghost (chkI1 m p c w) m.length ⟨0, undef, undef, undef, undef, undef, undef, undef, undef, undef, undef, undef, undef, undef, undef, undef, undef, undef, undef, undef, undef, undef, undef, undef, undef, undef, undef, undef, undef, undef, undef, undef, undef, undef, undef, undef, rfl, Nat.zero_add _, hp2⟩ ?_
  rintro L a' W ⟨i, u1, u3, u4, u5, u6, u7, u11, u12, u13, u14, u15, u16, u17, u18, u19, u20, u21, u22, u23, u24, u25, u26, u27, u28, u29, u30, u31, u32, u33, u34, u35, u36, u37, u38, u39, rfl, hL, hJ⟩
  by_cases hL0 : L = 0
  rotate_left
  · skip
    have hi : i < m.length := by omega
    obtain ⟨b, off, rfl, hZZ⟩ := hA (by omega)
    obtain ⟨z, hz, hd⟩ : ∃ z, m[i]? = some z ∧ m.drop i = z :: m.drop (i + 1) := ⟨m[i], List.getElem?_eq_getElem hi, List.drop_eq_getElem_cons hi⟩
    refine wp_seq_k (fun K5 k5 => ?_)
    refine gs [.det (.bool true)] [0] [0] (fun L => [.slice (some ⟨b, off, none⟩) m.length c, u1, .bool false, u3, u4, u5, u6, u7, .slice (some ⟨b, off, none⟩) m.length c, .int .i64 m.length, .int .i64 ((i : Nat) : Int), .bool true, u12, u13, u14, u15, u16, u17, u18, u19, u20, u21, u22, u23, u24, u25, u26, u27, u28, u29, u30, u31, u32, u33, u34, u35, u36, u37, u38, u39]) (fun L => []) hJ ⟨
      oJ .i64 .i64 ((i : Nat) : Int) m.length (h := fun w => (lssI _ _ _ w).trans (by rw [decide_eq_true (by omega)])),
      trivial⟩ (fun L2 w3 hp3 => ?_)
    refine k5 _ _ ?_
    refine wp_seq_k (fun K6 k6 => ?_)
    refine wp_cond_true (by kernel_rfl) ?_
    refine skips ?_
    refine k6 _ _ ?_
    refine wp_seq_k (fun K7 k7 => ?_)
    refine wp_block_k (fun K8 k8 => ?_)
    refine wp_seq_k (fun K9 k9 => ?_)
    refine gs [.det (.pointer (some ⟨b, off + i * 38, none⟩)), .det (ZV z), .alloc (ZC ⟨⟨0, 0, false⟩, ⟨0, 0, false⟩⟩), .store (.new 2) 0 (ZC z) (ZC z)] [0, 1, 2, 3] [0, 1, 0, 7] (fun L => [.slice (some ⟨b, off, none⟩) m.length c, u1, .bool false, u3, L.p 2, u5, u6, u7, .slice (some ⟨b, off, none⟩) m.length c, .int .i64 m.length, .int .i64 ((i : Nat) : Int), .bool true, .pointer (some ⟨b, off + i * 38, none⟩), ZV z, u14, u15, u16, u17, u18, u19, u20, u21, u22, u23, u24, u25, u26, u27, u28, u29, u30, u31, u32, u33, u34, u35, u36, u37, u38, u39]) (fun L => [(L.b 2, ZC z)]) hp3 ⟨
      oIS (n := m.length) (c := c) i Tryz.underlying24 rZ.size hi, oLW rZ (fun L w hs => ⟨_, _, rfl, range_up (hZZ i z hz) hs.bel⟩), oZ rZ, oT rZ,
      trivial⟩ (fun L3 w4 hp4 => ?_)
    refine k9 _ _ ?_
    refine wp_seq_k (fun K10 k10 => ?_)
    refine gs [.det (L3.p 2), .det (GV z.p), .det (pt (L3.b 2) 13), .det (T2.GV z.q), .det (.bool true), .det (.bool false)] [0, 1, 2, 3, 4, 5] [0, 1, 0, 4, 15, 31] (fun L => [.slice (some ⟨b, off, none⟩) m.length c, u1, .bool false, u3, L3.p 2, u5, u6, u7, .slice (some ⟨b, off, none⟩) m.length c, .int .i64 m.length, .int .i64 ((i : Nat) : Int), .bool true, .pointer (some ⟨b, off + i * 38, none⟩), ZV z, L3.p 2, GV z.p, pt (L3.b 2) 13, T2.GV z.q, .bool true, .bool false, u20, u21, u22, u23, u24, u25, u26, u27, u28, u29, u30, u31, u32, u33, u34, u35, u36, u37, u38, u39]) (fun L => [(L3.b 2, ZC z)]) hp4 ⟨
      oF fZ0, oL 0 0 rG, oF fZ1, oL 0 13 T2.rG, oC K.stay hg (hin z (List.mem_of_getElem? hz)), oN,
      trivial⟩ (fun L4 w5 hp5 => ?_)
    refine k10 _ _ ?_
    refine wp_cond_false (by kernel_rfl) ?_
    refine skips ?_
    refine k8 _ _ _ ?_
    refine block_normal ?_
    refine k7 _ _ ?_
    refine gs [.det (.int .i64 ((i + 1 : Nat) : Int)), .det (.int .i64 ((i + 1 : Nat) : Int))] [0, 1] [0, 1] (fun L => [.slice (some ⟨b, off, none⟩) m.length c, u1, .bool false, u3, L3.p 2, u5, u6, u7, .slice (some ⟨b, off, none⟩) m.length c, .int .i64 m.length, .int .i64 ((i + 1 : Nat) : Int), .bool true, .pointer (some ⟨b, off + i * 38, none⟩), ZV z, L3.p 2, GV z.p, pt (L3.b 2) 13, T2.GV z.q, .bool true, .bool false, .int .i64 ((i + 1 : Nat) : Int), u21, u22, u23, u24, u25, u26, u27, u28, u29, u30, u31, u32, u33, u34, u35, u36, u37, u38, u39]) (fun L => [(L3.b 2, ZC z)]) hp5 ⟨
      oJ .i64 .i64 ((i : Nat) : Int) 1 (h := fun w => add1N _ i (by omega) w), oM,
      trivial⟩ (fun L5 w6 hp6 => ?_)
    exact ⟨L - 1, by omega, i + 1, u1, u3, L3.p 2, u5, u6, u7, .bool true, .pointer (some ⟨b, off + i * 38, none⟩), ZV z, L3.p 2, GV z.p, pt (L3.b 2) 13, T2.GV z.q, .bool true, .bool false, .int .i64 ((i + 1 : Nat) : Int), u21, u22, u23, u24, u25, u26, u27, u28, u29, u30, u31, u32, u33, u34, u35, u36, u37, u38, u39, rfl, by omega, Heap.sub hp6 (List.nil_sublist _)⟩
  obtain rfl : i = m.length := by omega
  refine wp_seq_k (fun K11 k11 => ?_)
  refine gs [.det (.bool false)] [0] [0] (fun L => [.slice p m.length c, u1, .bool false, u3, u4, u5, u6, u7, .slice p m.length c, .int .i64 m.length, .int .i64 ((m.length : Nat) : Int), .bool false, u12, u13, u14, u15, u16, u17, u18, u19, u20, u21, u22, u23, u24, u25, u26, u27, u28, u29, u30, u31, u32, u33, u34, u35, u36, u37, u38, u39]) (fun L => []) hJ ⟨
    oJ .i64 .i64 ((m.length : Nat) : Int) m.length (h := fun w => (lssI _ _ _ w).trans (by rw [decide_eq_false (by omega)])),
    trivial⟩ (fun L6 w7 hp7 => ?_)
  refine k11 _ _ ?_
  refine wp_seq_k (fun K12 k12 => ?_)
  refine wp_cond_false (by kernel_rfl) ?_
  refine wp_exit ?_
  refine then_exit ?_
  refine then_exit ?_
  refine k4 _ _ _ ?_
  refine exit_in ?_
  refine k2 _ _ ?_
  refine wp_seq_k (fun K13 k13 => ?_)
  refine gs [.det (V12 1), .alloc (C12 0), .store (.new 1) 0 (C12 1) (C12 1)] [0, 1, 2] [0, 0, 3] (fun L => [.slice p m.length c, u1, .bool false, u3, u4, L.p 1, u6, u7, .slice p m.length c, .int .i64 m.length, .int .i64 ((m.length : Nat) : Int), .bool false, u12, u13, u14, u15, u16, u17, u18, u19, u20, V12 1, u22, u23, u24, u25, u26, u27, u28, u29, u30, u31, u32, u33, u34, u35, u36, u37, u38, u39]) (fun L => [(L.b 1, C12 1)]) hp7 ⟨
    oC K.stay hg (fp12One K), oZ r12, oT r12,
    trivial⟩ (fun L7 w8 hp8 => ?_)
  refine k13 _ _ ?_
  refine wp_seq_k (fun K14 k14 => ?_)
  refine wp_seq_k (fun K15 k15 => ?_)
  refine gs [.det (.slice p m.length c), .det (.int .i64 m.length), .det (.int .i64 0)] [0, 1, 2] [0, 1, 0] (fun L => [.slice p m.length c, u1, .bool false, u3, u4, L7.p 1, u6, u7, .slice p m.length c, .int .i64 m.length, .int .i64 ((m.length : Nat) : Int), .bool false, u12, u13, u14, u15, u16, u17, u18, u19, u20, V12 1, .slice p m.length c, .int .i64 m.length, .int .i64 0, u25, u26, u27, u28, u29, u30, u31, u32, u33, u34, u35, u36, u37, u38, u39]) (fun L => [(L7.b 1, C12 1)]) hp8 ⟨
    oM, fun h => ⟨ob_len (p := p) (n := m.length) (c := c) (fun _ => rfl) h rfl (fun _ => by kernel_rfl) Tryz.underlying24⟩, oM,
    trivial⟩ (fun L8 w9 hp9 => ?_)
  refine k15 _ _ ?_
  refine wp_block_k (fun K16 k16 => ?_)
  refine wp_loop_ghost (chkI2 vz m p c w (L7.b 1)) m.length ⟨0, 1, u1, u3, u4, u6, u7, .slice p m.length c, .int .i64 m.length, .int .i64 ((m.length : Nat) : Int), .bool false, u12, u13, u14, u15, u16, u17, u18, u19, u20, V12 1, u25, u26, u27, u28, u29, u30, u31, u32, u33, u34, u35, u36, u37, u38, u39, rfl, Nat.zero_add _, rfl, hp9⟩ ?_
  rintro L a' W ⟨i, y, v1, v3, v4, v6, v7, v8, v9, v10, v11, v12, v13, v14, v15, v16, v17, v18, v19, v20, v21, v25, v26, v27, v28, v29, v30, v31, v32, v33, v34, v35, v36, v37, v38, v39, rfl, hL, hy, hJ⟩
  by_cases hL0 : L = 0
  rotate_left
  · skip
    have hi : i < m.length := by omega
    obtain ⟨b, off, rfl, hZZ⟩ := hA (by omega)
    obtain ⟨z, hz, hd⟩ : ∃ z, m[i]? = some z ∧ m.drop i = z :: m.drop (i + 1) := ⟨m[i], List.getElem?_eq_getElem hi, List.drop_eq_getElem_cons hi⟩
    rw [hd] at hy
    refine wp_seq_k (fun K17 k17 => ?_)
    refine gs [.det (.bool true)] [0] [0] (fun L => [.slice (some ⟨b, off, none⟩) m.length c, v1, .bool false, v3, v4, L7.p 1, v6, v7, v8, v9, v10, v11, v12, v13, v14, v15, v16, v17, v18, v19, v20, v21, .slice (some ⟨b, off, none⟩) m.length c, .int .i64 m.length, .int .i64 ((i : Nat) : Int), .bool true, v26, v27, v28, v29, v30, v31, v32, v33, v34, v35, v36, v37, v38, v39]) (fun L => [(L7.b 1, C12 y)]) hJ ⟨
      oJ .i64 .i64 ((i : Nat) : Int) m.length (h := fun w => (lssI _ _ _ w).trans (by rw [decide_eq_true (by omega)])),
      trivial⟩ (fun L9 w10 hp10 => ?_)
    refine k17 _ _ ?_
    refine wp_seq_k (fun K18 k18 => ?_)
    refine wp_cond_true (by kernel_rfl) ?_
    refine skips ?_
    refine k18 _ _ ?_
    refine wp_seq_k (fun K19 k19 => ?_)
    refine wp_block_k (fun K20 k20 => ?_)
    refine wp_seq_k (fun K21 k21 => ?_)
    refine gs [.det (.pointer (some ⟨b, off + i * 38, none⟩)), .det (ZV z), .alloc (ZC ⟨⟨0, 0, false⟩, ⟨0, 0, false⟩⟩), .store (.new 2) 0 (ZC z) (ZC z)] [0, 1, 2, 3] [0, 1, 0, 7] (fun L => [.slice (some ⟨b, off, none⟩) m.length c, v1, .bool false, v3, v4, L7.p 1, v6, L.p 2, v8, v9, v10, v11, v12, v13, v14, v15, v16, v17, v18, v19, v20, v21, .slice (some ⟨b, off, none⟩) m.length c, .int .i64 m.length, .int .i64 ((i : Nat) : Int), .bool true, .pointer (some ⟨b, off + i * 38, none⟩), ZV z, v28, v29, v30, v31, v32, v33, v34, v35, v36, v37, v38, v39]) (fun L => [(L7.b 1, C12 y), (L.b 2, ZC z)]) hp10 ⟨
      oIS (n := m.length) (c := c) i Tryz.underlying24 rZ.size hi, oLW rZ (fun L w hs => ⟨_, _, rfl, range_up (hZZ i z hz) hs.bel⟩), oZ rZ, oT rZ,
      trivial⟩ (fun L10 w11 hp11 => ?_)
    refine k21 _ _ ?_
    refine dr [.det (V12 y), .det (L10.p 2), .det (GV z.p), .det (pt (L10.b 2) 13), .det (T2.GV z.q), .det (V12 (vz z)), .det (V12 (y * (vz z))), .store (.base 0) 0 (C12 (y * (vz z))) (C12 (y * (vz z)))] [0, 1, 2, 3, 4, 5, 6, 7] [0, 0, 2, 0, 8, 30, 63, 127] (fun L => [.slice (some ⟨b, off, none⟩) m.length c, v1, .bool false, v3, v4, L7.p 1, v6, L10.p 2, v8, v9, v10, v11, v12, v13, v14, v15, v16, v17, v18, v19, v20, v21, .slice (some ⟨b, off, none⟩) m.length c, .int .i64 m.length, .int .i64 ((i : Nat) : Int), .bool true, .pointer (some ⟨b, off + i * 38, none⟩), ZV z, V12 y, L10.p 2, GV z.p, pt (L10.b 2) 13, T2.GV z.q, V12 (vz z), V12 (y * (vz z)), v35, v36, v37, v38, v39]) (fun L => [(L7.b 1, C12 (y * (vz z))), (L10.b 2, ZC z)]) hp11 ⟨
      oL 0 0 r12, oF fZ0, oL 1 0 rG, oF fZ1, oL 1 13 T2.rG, oC K.stay hg (hse z (List.mem_of_getElem? hz)), oC K.stay hg (fp12Mul K y (vz z)), oT r12,
      trivial⟩ (fun L11 w12 hp12 => ?_)
    refine k20 _ _ _ ?_
    refine block_normal ?_
    refine k19 _ _ ?_
    refine gs [.det (.int .i64 ((i + 1 : Nat) : Int)), .det (.int .i64 ((i + 1 : Nat) : Int))] [0, 1] [0, 1] (fun L => [.slice (some ⟨b, off, none⟩) m.length c, v1, .bool false, v3, v4, L7.p 1, v6, L10.p 2, v8, v9, v10, v11, v12, v13, v14, v15, v16, v17, v18, v19, v20, v21, .slice (some ⟨b, off, none⟩) m.length c, .int .i64 m.length, .int .i64 ((i + 1 : Nat) : Int), .bool true, .pointer (some ⟨b, off + i * 38, none⟩), ZV z, V12 y, L10.p 2, GV z.p, pt (L10.b 2) 13, T2.GV z.q, V12 (vz z), V12 (y * (vz z)), .int .i64 ((i + 1 : Nat) : Int), v36, v37, v38, v39]) (fun L => [(L7.b 1, C12 (y * (vz z))), (L10.b 2, ZC z)]) hp12 ⟨
      oJ .i64 .i64 ((i : Nat) : Int) 1 (h := fun w => add1N _ i (by omega) w), oM,
      trivial⟩ (fun L12 w13 hp13 => ?_)
    exact ⟨L - 1, by omega, i + 1, y * vz z, v1, v3, v4, v6, L10.p 2, v8, v9, v10, v11, v12, v13, v14, v15, v16, v17, v18, v19, v20, v21, .bool true, .pointer (some ⟨b, off + i * 38, none⟩), ZV z, V12 y, L10.p 2, GV z.p, pt (L10.b 2) 13, T2.GV z.q, V12 (vz z), V12 (y * (vz z)), .int .i64 ((i + 1 : Nat) : Int), v36, v37, v38, v39, rfl, by omega, hy, Heap.sub hp13 (List.sublist_append_left [_] [_])⟩
  obtain rfl : i = m.length := by omega
  rw [List.drop_length] at hy
  obtain rfl : y = zpr vz 1 m := hy
  refine wp_seq_k (fun K22 k22 => ?_)
  refine gs [.det (.bool false)] [0] [0] (fun L => [.slice p m.length c, v1, .bool false, v3, v4, L7.p 1, v6, v7, v8, v9, v10, v11, v12, v13, v14, v15, v16, v17, v18, v19, v20, v21, .slice p m.length c, .int .i64 m.length, .int .i64 ((m.length : Nat) : Int), .bool false, v26, v27, v28, v29, v30, v31, v32, v33, v34, v35, v36, v37, v38, v39]) (fun L => [(L7.b 1, C12 (zpr vz 1 m))]) hJ ⟨
    oJ .i64 .i64 ((m.length : Nat) : Int) m.length (h := fun w => (lssI _ _ _ w).trans (by rw [decide_eq_false (by omega)])),
    trivial⟩ (fun L13 w14 hp14 => ?_)
  refine k22 _ _ ?_
  refine wp_seq_k (fun K23 k23 => ?_)
  refine wp_cond_false (by kernel_rfl) ?_
  refine wp_exit ?_
  refine then_exit ?_
  refine then_exit ?_
  refine k16 _ _ _ ?_
  refine exit_in ?_
  refine k14 _ _ ?_
  refine wp_seq_k (fun K24 k24 => ?_)
  refine gs [.det (V12 (zpr vz 1 m)), .det (V12 (F12.ex (zpr vz 1 m))), .det (V12 1), .det (.bool (decide ((F12.ex (zpr vz 1 m)) = 1))), .det (.bool (decide ((F12.ex (zpr vz 1 m)) = 1)))] [0, 1, 2, 3, 4] [0, 1, 3, 7, 15] (fun L => [.slice p m.length c, v1, .bool (decide ((F12.ex (zpr vz 1 m)) = 1)), v3, v4, L7.p 1, v6, v7, v8, v9, v10, v11, v12, v13, v14, v15, v16, v17, v18, v19, v20, v21, .slice p m.length c, .int .i64 m.length, .int .i64 ((m.length : Nat) : Int), .bool false, v26, v27, v28, v29, v30, v31, v32, v33, v34, v35, V12 (zpr vz 1 m), V12 (F12.ex (zpr vz 1 m)), V12 1, .bool (decide ((F12.ex (zpr vz 1 m)) = 1))]) (fun L => [(L7.b 1, C12 (zpr vz 1 m))]) hp14 ⟨
    oL 0 0 r12, oH (v := V12 (F12.ex (zpr vz 1 m))) (vs := #[V12 (zpr vz 1 m)]) (fun w hb _ => pairPower K (zpr vz 1 m) w (K.stay hg hb) hne hT), oC K.stay hg (fp12One K),
    oE (a := (F12.ex (zpr vz 1 m))) (b := 1) q12 rfl, oA,
    trivial⟩ (fun L14 w15 hp15 => ?_)
  refine k24 _ _ ?_
  refine wp_ret ?_
  refine bodyPost_ret (v := .bool (decide ((F12.ex (zpr vz 1 m)) = 1))) ?_ rfl ?_
  · exact res_t rfl (by kernel_rfl) _
  · exact ⟨rfl, hp15.bel⟩
set_option maxHeartbeats 4000000 in
theorem pairCheck0a {G : World → Prop} (K : FpK G) (P : Pt F) (q : T2.G2p) (l : List Prp) (b off c : Nat) (w : World) (hg : G w) (hl : l.length ≤ 1000) (hZ0 : w.rangeAt b (off + 0 * 38) (ZC ⟨gp P, q⟩)) (hin : ∀ w, G w → Calls Tryz.prog 35 #[GV (gp P), T2.GV q] w (Ret (.bool false) w)) : Calls Tryz.prog 15 #[.slice (some ⟨b, off, none⟩) (l.length + 1) c] w (Ret (.bool false) w) := by
  have hp0 := Heap.start w
  go_enter Tryz.func15, Tryz.ntmps15
  refine wp_seq_k (fun K1 k1 => ?_)
  refine gsD [.det (.bool false)] [0] [0] (fun L d => [.slice (some ⟨b, off, none⟩) (l.length + 1) c] ++ D d 1 39) (fun L => []) hp0 ⟨
    oA,
    trivial⟩ (fun L0 _ w1 hp1 => ?_)
  refine k1 _ _ ?_
  refine wp_seq_k (fun K2 k2 => ?_)
  refine wp_seq_k (fun K3 k3 => ?_)
  refine gsD [.det (.slice (some ⟨b, off, none⟩) (l.length + 1) c), .det (.int .i64 (l.length + 1)), .det (.int .i64 0)] [0, 1, 2] [0, 1, 0] (fun L d => D d 0 8 ++ ([.slice (some ⟨b, off, none⟩) (l.length + 1) c, .int .i64 (l.length + 1), .int .i64 0] ++ D d 11 29)) (fun L => []) hp1 ⟨
    oM, fun h => ⟨ob_len (p := (some ⟨b, off, none⟩)) (n := (l.length + 1)) (c := c) (fun _ => rfl) h rfl (fun _ => by kernel_rfl) Tryz.underlying24⟩,
    oM,
    trivial⟩ (fun L1 _ w2 hp2 => ?_)
  refine k3 _ _ ?_
  refine wp_block_k (fun K4 k4 => ?_)
  refine wp_loop_rounds 9 ?_
  refine rounds_k (fun K5 k5 => ?_)
  refine wp_seq_k (fun K6 k6 => ?_)
  refine gsD [.det (.bool true)] [0] [0] (fun L d => D d 0 8 ++ ([.slice (some ⟨b, off, none⟩) (l.length + 1) c, d 9, .int .i64 0, .bool true] ++ D d 12 28)) (fun L => []) hp2 ⟨
    oJ .i64 .i64 0 (l.length + 1) (h := fun w => (lssI _ _ _ w).trans (by rw [decide_eq_true (by omega)])),
    trivial⟩ (fun L2 _ w3 hp3 => ?_)
  refine k6 _ _ ?_
  refine wp_seq_k (fun K7 k7 => ?_)
  refine wp_cond_true (by kernel_rfl) ?_
  refine skips ?_
  refine k7 _ _ ?_
  refine wp_seq_k (fun K8 k8 => ?_)
  refine wp_block_k (fun K9 k9 => ?_)
  refine wp_seq_k (fun K10 k10 => ?_)
  refine gsD [.det (.pointer (some ⟨b, off + 0 * 38, none⟩)), .det (ZV ⟨gp P, q⟩), .alloc (ZC ⟨⟨0, 0, false⟩, ⟨0, 0, false⟩⟩), .store (.new 2) 0 (ZC ⟨gp P, q⟩) (ZC ⟨gp P, q⟩)] [0, 1, 2, 3] [0, 1, 0, 7] (fun L d => D d 0 4 ++ ([L.p 2] ++ D d 5 35)) (fun L => [(L.b 2, ZC ⟨gp P, q⟩)]) hp3 ⟨
    oIS (n := (l.length + 1)) (c := c) 0 Tryz.underlying24 rZ.size (Nat.succ_pos _), oLW rZ (fun L w hs => ⟨_, _, rfl, range_up hZ0 hs.bel⟩), oZ rZ, oT rZ,
    trivial⟩ (fun L3 _ w4 hp4 => ?_)
  refine k10 _ _ ?_
  refine wp_seq_k (fun K11 k11 => ?_)
  refine gsD [.det (L3.p 2), .det (GV (gp P)), .det (pt (L3.b 2) 13), .det (T2.GV q), .det (.bool false), .det (.bool true)] [0, 1, 2, 3, 4, 5] [0, 1, 0, 4, 15, 31] (fun L d => D d 0 19 ++ ([.bool true] ++ D d 20 20)) (fun L => [(L3.b 2, ZC ⟨gp P, q⟩)]) hp4 ⟨
    oF fZ0, oL 0 0 rG, oF fZ1, oL 0 13 T2.rG, oC K.stay hg hin, oN,
    trivial⟩ (fun L4 _ w5 hp5 => ?_)
  refine k11 _ _ ?_
  refine wp_cond_true (by kernel_rfl) ?_
  refine wp_seq_k (fun K12 k12 => ?_)
  refine gsD [.det (.bool false)] [0] [0] (fun L d => D d 0 2 ++ ([.bool false] ++ D d 3 37)) (fun L => [(L3.b 2, ZC ⟨gp P, q⟩)]) hp5 ⟨
    oA,
    trivial⟩ (fun L5 _ w6 hp6 => ?_)
  refine k12 _ _ ?_
  refine wp_ret ?_
  refine k9 _ _ _ ?_
  refine k5 _ _ _ ?_
  refine k4 _ _ _ ?_
  refine bodyPost_ret (v := .bool false) ?_ rfl ?_
  · exact res_t rfl (by kernel_rfl) _
  · exact ⟨rfl, hp6.bel⟩
def ug (p : G1p) : Pt F := bif p.i then .inf else .aff p.x p.y
def uh (p : T2.G2p) : Pt F2 := bif p.i then .inf else .aff p.x p.y
theorem ug_gp (P : Pt F) : ug (gp P) = P := by cases P <;> rfl
theorem uh_gp (P : Pt F2) : uh (T2.gp P) = P := by cases P <;> rfl
noncomputable def vzp (z : Prp) : F12 := F12.sv (ug z.p) (uh z.q)
theorem vzp_zp (z : Nat × Nat) : vzp (zp z) = F12.sv (mul finv z.1 gen1) (mul F2.inv z.2 gen2) := by unfold vzp zp; rw [ug_gp, uh_gp]
theorem zpr_cons (vz : Prp → F12) (y : F12) (z : Prp) (l : List Prp) : zpr vz y (z :: l) = zpr vz (y * vz z) l := rfl
theorem zsum_cons (z : Nat × Nat) (l : List (Nat × Nat)) : zsum (z :: l) = z.1 * z.2 + zsum l := rfl
theorem zsum_nil : zsum [] = 0 := rfl
theorem zpr_nil (vz : Prp → F12) (y : F12) : zpr vz y [] = y := rfl
theorem npw_nil (x : F12) : npw x 0 = 1 := rfl
theorem zpr_zp : ∀ (l : List (Nat × Nat)) (y : F12), y ≠ 0 → zpr vzp y (l.map zp) ≠ 0 ∧ F12.ex (zpr vzp y (l.map zp)) = F12.ex y * npw F12.gt (zsum l)
  | [], y, hy => by rw [List.map_nil, zpr_nil, zsum_nil, npw_nil, Rn.mul_one]; exact ⟨hy, rfl⟩
  | z :: l, y, hy => by
    have h := zpr_zp l (y * vzp (zp z)) (F12.fd12.ne_mul hy (by rw [vzp_zp]; exact F12.sv_ne _ _))
    rw [List.map_cons, zpr_cons, zsum_cons]
    refine ⟨h.1, ?_⟩
    rw [h.2, F12.ex_mul, vzp_zp, F12.sv_ex, npw_add, Rn.CR.mul_assoc]
theorem pairK {G : World → Prop} (K : FpK G) (hT : ∀ w, G w → w.rangeAt 0 0 (PC F12.tw)) : PairK G where
  stay := K.stay
  tell := fun a b w hg => by
    have h := pairOf1 K _ _ _ w hg (F12.sv_ne a b) (fun w hg => pairIn1 K _ _ w hg (mul_on crv1 gen1_on a) (ord1 a) (mul_on crv2 gen2_on b) (ord2 b)) (fun w hg => pairSeen K a b w hg) hT
    rw [F12.sv_ex] at h
    exact h
  tell0 := fun P b w hg hP iP => pairOf0 K _ _ w hg (fun w hg => pairIn0 K P _ w hg hP iP)
  check := fun l p n c w hg hl hn hc hc2 hA => by
    subst hn
    have k := zpr_zp l 1 F12.fd12.one
    have h := pairCheck K vzp (l.map zp) p c w hg (by rw [List.length_map]; omega) hA (fun z hz w hg => by
      obtain ⟨y, hy, rfl⟩ := List.mem_map.1 hz
      exact pairIn1 K _ _ w hg (mul_on crv1 gen1_on _) (ord1 _) (mul_on crv2 gen2_on _) (ord2 _)) (fun z hz w hg => by
      obtain ⟨y, hy, rfl⟩ := List.mem_map.1 hz
      rw [vzp_zp]
      exact pairSeen K y.1 y.2 w hg) k.1 hT
    rw [List.length_map, k.2, show F12.ex 1 = 1 from F12.mil.one, Rn.CR.one_mul] at h
    rw [show decide (zsum l % ordR = 0) = decide (npw F12.gt (zsum l) = 1) from decide_eq_decide.2 (F12.gt_iff _).symm]
    exact h
  check0 := fun P q l p n c w hg hP iP hl hn hc hc2 hA => by
    subst hn
    obtain ⟨b, off, rfl, h⟩ := hA (Nat.succ_pos _)
    exact pairCheck0a K P q l b off c w hg (by omega) (h 0 _ rfl) (fun w hg => pairIn0 K P q w hg hP iP)
theorem tw_cells : PC F12.tw = QC2 tnL0 tnL1 := by kernel_rfl
theorem pairK2 : PairK G2 := pairK fpK2 (fun w h => by rw [tw_cells]; exact G2.turn w h)
end Go.Proofs.YthnfgmhehfombaaGreatDoor.fpn
