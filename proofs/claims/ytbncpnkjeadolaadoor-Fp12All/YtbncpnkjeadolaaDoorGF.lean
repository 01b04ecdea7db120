/- IA IC HT I6 HU I12. -/
import Derived.Test.YtbncpnkjeadolaaDoorGE
import Derived.Test.YtbncpnkjeadolaaDoorGC
/- Package fp2: sums, products and what is made of them. -/
namespace Go.Proofs.YtbncpnkjeadolaaDoor.fpn
open Go.RowKit Pl
set_option linter.unusedVariables false
set_option linter.unusedSimpArgs false
set_option maxRecDepth 4000

set_option maxHeartbeats 4000000 in
theorem fp2Add {G : World → Prop} (K : FpK G) (x y : F2) (w : World) (hg : G w) : Calls Tryd.prog 57 #[PV x, PV y] w (Ret (PV (x + y)) w) := by
  have hp0 := Heap.start w
  go_enter Tryd.func57, Tryd.ntmps57
  refine wp_seq_k (fun K1 k1 => ?_)
  refine gs [.alloc (PC x), .alloc (PC y), .alloc (PC 0)] [0, 1, 2] [0, 0, 0] (fun L => [PV x, PV y, pt (L.b 0) 0, pt (L.b 1) 0, pt (L.b 2) 0] ++ U 11) (fun L => [(L.b 0, PC x), (L.b 1, PC y), (L.b 2, PC 0)]) hp0 ⟨
    oB, oB, oZ rP,
    trivial⟩ (fun L0 w1 hp1 => ?_)
  refine k1 _ _ ?_
  refine wp_seq_k (fun K2 k2 => ?_)
  refine dr [.det (pt (L0.b 0) 0), .det (FV x.c0), .det (pt (L0.b 1) 0), .det (FV y.c0), .det (FV (x.c0 + y.c0)), .det (pt (L0.b 0) 6), .det (FV x.c1), .det (pt (L0.b 1) 6), .det (FV y.c1), .det (FV (x.c1 + y.c1)), .det (PV ⟨(x.c0 + y.c0), (x.c1 + y.c1)⟩), .store (.base 2) 0 (PC ⟨(x.c0 + y.c0), (x.c1 + y.c1)⟩) (PC ⟨(x.c0 + y.c0), (x.c1 + y.c1)⟩)] [0, 1, 2, 3, 4, 5, 6, 7, 8, 9, 10, 11] [0, 1, 0, 4, 15, 0, 32, 0, 128, 511, 1023, 2047] (fun L => [PV x, PV y, pt (L0.b 0) 0, pt (L0.b 1) 0, pt (L0.b 2) 0, pt (L0.b 0) 0, FV x.c0, pt (L0.b 1) 0, FV y.c0, FV (x.c0 + y.c0), pt (L0.b 0) 6, FV x.c1, pt (L0.b 1) 6, FV y.c1, FV (x.c1 + y.c1), PV ⟨(x.c0 + y.c0), (x.c1 + y.c1)⟩]) (fun L => [((L0.b 0), PC x), ((L0.b 1), PC y), ((L0.b 2), PC ⟨(x.c0 + y.c0), (x.c1 + y.c1)⟩)]) hp1 ⟨
    oI aP, oL 0 0 rF, oI aP, oL 1 0 rF, oC K.stay hg (K.add x.c0 y.c0), oI aP, oL 0 6 rF, oI aP, oL 1 6 rF, oC K.stay hg (K.add x.c1 y.c1), oD (buildP (x.c0 + y.c0) (x.c1 + y.c1)),
    oT rP,
    trivial⟩ (fun L1 w2 hp2 => ?_)
  refine k2 _ _ ?_
  refine wp_ret ?_
  refine bodyPost_ret (v := PV ⟨(x.c0 + y.c0), (x.c1 + y.c1)⟩) ?_ rfl ?_
  · exact rc rP rfl (by kernel_rfl) (hp2.bound 2 rfl).2
  · exact ⟨rfl, hp2.bel⟩
set_option maxHeartbeats 4000000 in
theorem fp2Sub {G : World → Prop} (K : FpK G) (x y : F2) (w : World) (hg : G w) : Calls Tryd.prog 58 #[PV x, PV y] w (Ret (PV (x - y)) w) := by
  have hp0 := Heap.start w
  go_enter Tryd.func58, Tryd.ntmps58
  refine wp_seq_k (fun K1 k1 => ?_)
  refine gs [.alloc (PC x), .alloc (PC y), .alloc (PC 0)] [0, 1, 2] [0, 0, 0] (fun L => [PV x, PV y, pt (L.b 0) 0, pt (L.b 1) 0, pt (L.b 2) 0] ++ U 11) (fun L => [(L.b 0, PC x), (L.b 1, PC y), (L.b 2, PC 0)]) hp0 ⟨
    oB, oB, oZ rP,
    trivial⟩ (fun L0 w1 hp1 => ?_)
  refine k1 _ _ ?_
  refine wp_seq_k (fun K2 k2 => ?_)
  refine dr [.det (pt (L0.b 0) 0), .det (FV x.c0), .det (pt (L0.b 1) 0), .det (FV y.c0), .det (FV (x.c0 - y.c0)), .det (pt (L0.b 0) 6), .det (FV x.c1), .det (pt (L0.b 1) 6), .det (FV y.c1), .det (FV (x.c1 - y.c1)), .det (PV ⟨(x.c0 - y.c0), (x.c1 - y.c1)⟩), .store (.base 2) 0 (PC ⟨(x.c0 - y.c0), (x.c1 - y.c1)⟩) (PC ⟨(x.c0 - y.c0), (x.c1 - y.c1)⟩)] [0, 1, 2, 3, 4, 5, 6, 7, 8, 9, 10, 11] [0, 1, 0, 4, 15, 0, 32, 0, 128, 511, 1023, 2047] (fun L => [PV x, PV y, pt (L0.b 0) 0, pt (L0.b 1) 0, pt (L0.b 2) 0, pt (L0.b 0) 0, FV x.c0, pt (L0.b 1) 0, FV y.c0, FV (x.c0 - y.c0), pt (L0.b 0) 6, FV x.c1, pt (L0.b 1) 6, FV y.c1, FV (x.c1 - y.c1), PV ⟨(x.c0 - y.c0), (x.c1 - y.c1)⟩]) (fun L => [((L0.b 0), PC x), ((L0.b 1), PC y), ((L0.b 2), PC ⟨(x.c0 - y.c0), (x.c1 - y.c1)⟩)]) hp1 ⟨
    oI aP, oL 0 0 rF, oI aP, oL 1 0 rF, oC K.stay hg (K.sub x.c0 y.c0), oI aP, oL 0 6 rF, oI aP, oL 1 6 rF, oC K.stay hg (K.sub x.c1 y.c1), oD (buildP (x.c0 - y.c0) (x.c1 - y.c1)),
    oT rP,
    trivial⟩ (fun L1 w2 hp2 => ?_)
  refine k2 _ _ ?_
  refine wp_ret ?_
  refine bodyPost_ret (v := PV ⟨(x.c0 - y.c0), (x.c1 - y.c1)⟩) ?_ rfl ?_
  · exact rc rP rfl (by kernel_rfl) (hp2.bound 2 rfl).2
  · exact ⟨rfl, hp2.bel⟩
set_option maxHeartbeats 4000000 in
theorem fp2Neg {G : World → Prop} (K : FpK G) (x : F2) (w : World) (hg : G w) : Calls Tryd.prog 62 #[PV x] w (Ret (PV (-x)) w) := by
  have hp0 := Heap.start w
  go_enter Tryd.func62, Tryd.ntmps62
  refine wp_seq_k (fun K1 k1 => ?_)
  refine gs [.alloc (PC x), .alloc (PC 0)] [0, 1] [0, 0] (fun L => [PV x, pt (L.b 0) 0, pt (L.b 1) 0] ++ U 7) (fun L => [(L.b 0, PC x), (L.b 1, PC 0)]) hp0 ⟨
    oB, oZ rP,
    trivial⟩ (fun L0 w1 hp1 => ?_)
  refine k1 _ _ ?_
  refine wp_seq_k (fun K2 k2 => ?_)
  refine dr [.det (pt (L0.b 0) 0), .det (FV x.c0), .det (FV (-x.c0)), .det (pt (L0.b 0) 6), .det (FV x.c1), .det (FV (-x.c1)), .det (PV ⟨(-x.c0), (-x.c1)⟩), .store (.base 1) 0 (PC ⟨(-x.c0), (-x.c1)⟩) (PC ⟨(-x.c0), (-x.c1)⟩)] [0, 1, 2, 3, 4, 5, 6, 7] [0, 1, 3, 0, 8, 31, 63, 127] (fun L => [PV x, pt (L0.b 0) 0, pt (L0.b 1) 0, pt (L0.b 0) 0, FV x.c0, FV (-x.c0), pt (L0.b 0) 6, FV x.c1, FV (-x.c1), PV ⟨(-x.c0), (-x.c1)⟩]) (fun L => [((L0.b 0), PC x), ((L0.b 1), PC ⟨(-x.c0), (-x.c1)⟩)]) hp1 ⟨
    oI aP, oL 0 0 rF, oC K.stay hg (K.neg x.c0), oI aP, oL 0 6 rF, oC K.stay hg (K.neg x.c1), oD (buildP (-x.c0) (-x.c1)), oT rP,
    trivial⟩ (fun L1 w2 hp2 => ?_)
  refine k2 _ _ ?_
  refine wp_ret ?_
  refine bodyPost_ret (v := PV ⟨(-x.c0), (-x.c1)⟩) ?_ rfl ?_
  · exact rc rP rfl (by kernel_rfl) (hp2.bound 1 rfl).2
  · exact ⟨rfl, hp2.bel⟩
set_option maxHeartbeats 4000000 in
theorem fp2Mul {G : World → Prop} (K : FpK G) (x y : F2) (w : World) (hg : G w) : Calls Tryd.prog 59 #[PV x, PV y] w (Ret (PV (x * y)) w) := by
  have hp0 := Heap.start w
  go_enter Tryd.func59, Tryd.ntmps59
  refine wp_seq_k (fun K1 k1 => ?_)
  refine gs [.alloc (PC x), .alloc (PC y), .alloc (PC 0)] [0, 1, 2] [0, 0, 0] (fun L => [PV x, PV y, pt (L.b 0) 0, pt (L.b 1) 0, pt (L.b 2) 0] ++ U 33) (fun L => [(L.b 0, PC x), (L.b 1, PC y), (L.b 2, PC 0)]) hp0 ⟨
    oB, oB, oZ rP,
    trivial⟩ (fun L0 w1 hp1 => ?_)
  refine k1 _ _ ?_
  refine wp_seq_k (fun K2 k2 => ?_)
  refine dr [.det (pt (L0.b 0) 0), .det (FV x.c0), .det (pt (L0.b 1) 0), .det (FV y.c0), .det (FV (x.c0 * y.c0)), .det (pt (L0.b 0) 6), .det (FV x.c1), .det (pt (L0.b 1) 6), .det (FV y.c1), .det (FV (x.c1 * y.c1)), .alloc (FC 0), .alloc (FC 0), .store (.new 10) 0 (FC (x.c0 * y.c0)) (FC (x.c0 * y.c0)), .store (.new 11) 0 (FC (x.c1 * y.c1)) (FC (x.c1 * y.c1))] [0, 1, 2, 3, 4, 5, 6, 7, 8, 9, 10, 11, 12, 13] [0, 1, 0, 4, 15, 0, 32, 0, 128, 511, 0, 0, 4095, 8191] (fun L => [PV x, PV y, pt (L0.b 0) 0, pt (L0.b 1) 0, pt (L0.b 2) 0, pt (L.b 10) 0, pt (L.b 11) 0, undef, pt (L0.b 0) 0, FV x.c0, pt (L0.b 1) 0, FV y.c0, FV (x.c0 * y.c0), pt (L0.b 0) 6, FV x.c1, pt (L0.b 1) 6, FV y.c1, FV (x.c1 * y.c1)] ++ U 20) (fun L => [((L0.b 0), PC x), ((L0.b 1), PC y), ((L0.b 2), PC 0), (L.b 10, FC (x.c0 * y.c0)), (L.b 11, FC (x.c1 * y.c1))]) hp1 ⟨
    oI aP, oL 0 0 rF, oI aP, oL 1 0 rF, oC K.stay hg (K.mul x.c0 y.c0), oI aP, oL 0 6 rF, oI aP, oL 1 6 rF, oC K.stay hg (K.mul x.c1 y.c1), oZ rF, oZ rF, oT rF,
    oT rF,
    trivial⟩ (fun L1 w2 hp2 => ?_)
  refine k2 _ _ ?_
  refine wp_seq_k (fun K3 k3 => ?_)
  refine dr [.det (pt (L0.b 0) 0), .det (FV x.c0), .det (pt (L0.b 0) 6), .det (FV x.c1), .det (FV (x.c0 + x.c1)), .det (pt (L0.b 1) 0), .det (FV y.c0), .det (pt (L0.b 1) 6), .det (FV y.c1), .det (FV (y.c0 + y.c1)), .det (FV ((x.c0 + x.c1) * (y.c0 + y.c1))), .alloc (FC 0), .store (.new 11) 0 (FC ((x.c0 + x.c1) * (y.c0 + y.c1))) (FC ((x.c0 + x.c1) * (y.c0 + y.c1)))] [0, 1, 2, 3, 4, 5, 6, 7, 8, 9, 10, 11, 12] [0, 1, 0, 4, 15, 0, 32, 0, 128, 511, 1023, 0, 4095] (fun L => [PV x, PV y, pt (L0.b 0) 0, pt (L0.b 1) 0, pt (L0.b 2) 0, pt (L1.b 10) 0, pt (L1.b 11) 0, pt (L.b 11) 0, pt (L0.b 0) 0, FV x.c0, pt (L0.b 1) 0, FV y.c0, FV (x.c0 * y.c0), pt (L0.b 0) 6, FV x.c1, pt (L0.b 1) 6, FV y.c1, FV (x.c1 * y.c1), pt (L0.b 0) 0, FV x.c0, pt (L0.b 0) 6, FV x.c1, FV (x.c0 + x.c1), pt (L0.b 1) 0, FV y.c0, pt (L0.b 1) 6, FV y.c1, FV (y.c0 + y.c1), FV ((x.c0 + x.c1) * (y.c0 + y.c1))] ++ U 9) (fun L => [((L0.b 0), PC x), ((L0.b 1), PC y), ((L0.b 2), PC 0), ((L1.b 10), FC (x.c0 * y.c0)), ((L1.b 11), FC (x.c1 * y.c1)), (L.b 11, FC ((x.c0 + x.c1) * (y.c0 + y.c1)))]) hp2 ⟨
    oI aP, oL 0 0 rF, oI aP, oL 0 6 rF, oC K.stay hg (K.add x.c0 x.c1), oI aP, oL 1 0 rF, oI aP, oL 1 6 rF, oC K.stay hg (K.add y.c0 y.c1), oC K.stay hg (K.mul (x.c0 + x.c1) (y.c0 + y.c1)),
    oZ rF, oT rF,
    trivial⟩ (fun L2 w3 hp3 => ?_)
  refine k3 _ _ ?_
  refine wp_seq_k (fun K4 k4 => ?_)
  refine dr [.det (FV (x.c0 * y.c0)), .det (FV (x.c1 * y.c1)), .det (FV ((x.c0 * y.c0) - (x.c1 * y.c1))), .det (FV ((x.c0 + x.c1) * (y.c0 + y.c1))), .det (FV (x.c0 * y.c0)), .det (FV (((x.c0 + x.c1) * (y.c0 + y.c1)) - (x.c0 * y.c0))), .det (FV (x.c1 * y.c1)), .det (FV ((((x.c0 + x.c1) * (y.c0 + y.c1)) - (x.c0 * y.c0)) - (x.c1 * y.c1))), .det (PV ⟨((x.c0 * y.c0) - (x.c1 * y.c1)), ((((x.c0 + x.c1) * (y.c0 + y.c1)) - (x.c0 * y.c0)) - (x.c1 * y.c1))⟩), .store (.base 2) 0 (PC ⟨((x.c0 * y.c0) - (x.c1 * y.c1)), ((((x.c0 + x.c1) * (y.c0 + y.c1)) - (x.c0 * y.c0)) - (x.c1 * y.c1))⟩) (PC ⟨((x.c0 * y.c0) - (x.c1 * y.c1)), ((((x.c0 + x.c1) * (y.c0 + y.c1)) - (x.c0 * y.c0)) - (x.c1 * y.c1))⟩)] [0, 1, 2, 3, 4, 5, 6, 7, 8, 9] [0, 0, 3, 0, 0, 31, 0, 127, 255, 511] (fun L => [PV x, PV y, pt (L0.b 0) 0, pt (L0.b 1) 0, pt (L0.b 2) 0, pt (L1.b 10) 0, pt (L1.b 11) 0, pt (L2.b 11) 0, pt (L0.b 0) 0, FV x.c0, pt (L0.b 1) 0, FV y.c0, FV (x.c0 * y.c0), pt (L0.b 0) 6, FV x.c1, pt (L0.b 1) 6, FV y.c1, FV (x.c1 * y.c1), pt (L0.b 0) 0, FV x.c0, pt (L0.b 0) 6, FV x.c1, FV (x.c0 + x.c1), pt (L0.b 1) 0, FV y.c0, pt (L0.b 1) 6, FV y.c1, FV (y.c0 + y.c1), FV ((x.c0 + x.c1) * (y.c0 + y.c1)), FV (x.c0 * y.c0), FV (x.c1 * y.c1), FV ((x.c0 * y.c0) - (x.c1 * y.c1)), FV ((x.c0 + x.c1) * (y.c0 + y.c1)), FV (x.c0 * y.c0), FV (((x.c0 + x.c1) * (y.c0 + y.c1)) - (x.c0 * y.c0)), FV (x.c1 * y.c1), FV ((((x.c0 + x.c1) * (y.c0 + y.c1)) - (x.c0 * y.c0)) - (x.c1 * y.c1)), PV ⟨((x.c0 * y.c0) - (x.c1 * y.c1)), ((((x.c0 + x.c1) * (y.c0 + y.c1)) - (x.c0 * y.c0)) - (x.c1 * y.c1))⟩]) (fun L => [((L0.b 0), PC x), ((L0.b 1), PC y), ((L0.b 2), PC ⟨((x.c0 * y.c0) - (x.c1 * y.c1)), ((((x.c0 + x.c1) * (y.c0 + y.c1)) - (x.c0 * y.c0)) - (x.c1 * y.c1))⟩), ((L1.b 10), FC (x.c0 * y.c0)), ((L1.b 11), FC (x.c1 * y.c1)), ((L2.b 11), FC ((x.c0 + x.c1) * (y.c0 + y.c1)))]) hp3 ⟨
    oL 3 0 rF, oL 4 0 rF, oC K.stay hg (K.sub (x.c0 * y.c0) (x.c1 * y.c1)), oL 5 0 rF, oL 3 0 rF, oC K.stay hg (K.sub ((x.c0 + x.c1) * (y.c0 + y.c1)) (x.c0 * y.c0)),
    oL 4 0 rF, oC K.stay hg (K.sub (((x.c0 + x.c1) * (y.c0 + y.c1)) - (x.c0 * y.c0)) (x.c1 * y.c1)), oD (buildP ((x.c0 * y.c0) - (x.c1 * y.c1)) ((((x.c0 + x.c1) * (y.c0 + y.c1)) - (x.c0 * y.c0)) - (x.c1 * y.c1))),
    oT rP,
    trivial⟩ (fun L3 w4 hp4 => ?_)
  refine k4 _ _ ?_
  refine wp_ret ?_
  refine bodyPost_ret (v := PV ⟨((x.c0 * y.c0) - (x.c1 * y.c1)), ((((x.c0 + x.c1) * (y.c0 + y.c1)) - (x.c0 * y.c0)) - (x.c1 * y.c1))⟩) ?_ rfl ?_
  · exact rc rP rfl (by kernel_rfl) (hp4.bound 2 rfl).2
  · exact ⟨congrArg (fun z => Ending.returned (PV z)) (F2.ext' (by simp) (by simp; grind)), hp4.bel⟩
set_option maxHeartbeats 4000000 in
theorem fp2Conj {G : World → Prop} (K : FpK G) (x : F2) (w : World) (hg : G w) : Calls Tryd.prog 69 #[PV x] w (Ret (PV x.conj) w) := by
  have hp0 := Heap.start w
  go_enter Tryd.func69, Tryd.ntmps69
  refine wp_seq_k (fun K1 k1 => ?_)
  refine gs [.alloc (PC x), .alloc (PC 0)] [0, 1] [0, 0] (fun L => [PV x, pt (L.b 0) 0, pt (L.b 1) 0] ++ U 6) (fun L => [(L.b 0, PC x), (L.b 1, PC 0)]) hp0 ⟨
    oB, oZ rP,
    trivial⟩ (fun L0 w1 hp1 => ?_)
  refine k1 _ _ ?_
  refine wp_seq_k (fun K2 k2 => ?_)
  refine dr [.det (pt (L0.b 0) 0), .det (FV x.c0), .det (pt (L0.b 0) 6), .det (FV x.c1), .det (FV (-x.c1)), .det (PV ⟨x.c0, (-x.c1)⟩), .store (.base 1) 0 (PC ⟨x.c0, (-x.c1)⟩) (PC ⟨x.c0, (-x.c1)⟩)] [0, 1, 2, 3, 4, 5, 6] [0, 1, 0, 4, 12, 31, 63] (fun L => [PV x, pt (L0.b 0) 0, pt (L0.b 1) 0, pt (L0.b 0) 0, FV x.c0, pt (L0.b 0) 6, FV x.c1, FV (-x.c1), PV ⟨x.c0, (-x.c1)⟩]) (fun L => [((L0.b 0), PC x), ((L0.b 1), PC ⟨x.c0, (-x.c1)⟩)]) hp1 ⟨
    oI aP, oL 0 0 rF, oI aP, oL 0 6 rF, oC K.stay hg (K.neg x.c1), oD (buildP x.c0 (-x.c1)), oT rP,
    trivial⟩ (fun L1 w2 hp2 => ?_)
  refine k2 _ _ ?_
  refine wp_ret ?_
  refine bodyPost_ret (v := PV ⟨x.c0, (-x.c1)⟩) ?_ rfl ?_
  · exact rc rP rfl (by kernel_rfl) (hp2.bound 1 rfl).2
  · exact ⟨rfl, hp2.bel⟩
set_option maxHeartbeats 4000000 in
theorem fp2norm {G : World → Prop} (K : FpK G) (x : F2) (w : World) (hg : G w) : Calls Tryd.prog 67 #[PV x] w (Ret (FV x.norm) w) := by
  have hp0 := Heap.start w
  go_enter Tryd.func67, Tryd.ntmps67
  refine wp_seq_k (fun K1 k1 => ?_)
  refine gs [.alloc (PC x), .alloc (FC 0)] [0, 1] [0, 0] (fun L => [PV x, pt (L.b 0) 0, pt (L.b 1) 0] ++ U 11) (fun L => [(L.b 0, PC x), (L.b 1, FC 0)]) hp0 ⟨
    oB, oZ rF,
    trivial⟩ (fun L0 w1 hp1 => ?_)
  refine k1 _ _ ?_
  refine wp_seq_k (fun K2 k2 => ?_)
  refine dr [.det (pt (L0.b 0) 0), .det (FV x.c0), .det (pt (L0.b 0) 0), .det (FV x.c0), .det (FV (x.c0 * x.c0)), .det (pt (L0.b 0) 6), .det (FV x.c1), .det (pt (L0.b 0) 6), .det (FV x.c1), .det (FV (x.c1 * x.c1)), .det (FV ((x.c0 * x.c0) + (x.c1 * x.c1))), .store (.base 1) 0 (FC ((x.c0 * x.c0) + (x.c1 * x.c1))) (FC ((x.c0 * x.c0) + (x.c1 * x.c1)))] [0, 1, 2, 3, 4, 5, 6, 7, 8, 9, 10, 11] [0, 1, 0, 4, 15, 0, 32, 0, 128, 511, 1023, 2047] (fun L => [PV x, pt (L0.b 0) 0, pt (L0.b 1) 0, pt (L0.b 0) 0, FV x.c0, pt (L0.b 0) 0, FV x.c0, FV (x.c0 * x.c0), pt (L0.b 0) 6, FV x.c1, pt (L0.b 0) 6, FV x.c1, FV (x.c1 * x.c1), FV ((x.c0 * x.c0) + (x.c1 * x.c1))]) (fun L => [((L0.b 0), PC x), ((L0.b 1), FC ((x.c0 * x.c0) + (x.c1 * x.c1)))]) hp1 ⟨
    oI aP, oL 0 0 rF, oI aP, oL 0 0 rF, oC K.stay hg (K.mul x.c0 x.c0), oI aP, oL 0 6 rF, oI aP, oL 0 6 rF, oC K.stay hg (K.mul x.c1 x.c1), oC K.stay hg (K.add (x.c0 * x.c0) (x.c1 * x.c1)),
    oT rF,
    trivial⟩ (fun L1 w2 hp2 => ?_)
  refine k2 _ _ ?_
  refine wp_ret ?_
  refine bodyPost_ret (v := FV ((x.c0 * x.c0) + (x.c1 * x.c1))) ?_ rfl ?_
  · exact rc rF rfl (by kernel_rfl) (hp2.bound 1 rfl).2
  · exact ⟨rfl, hp2.bel⟩
set_option maxHeartbeats 4000000 in
theorem fp2scale {G : World → Prop} (K : FpK G) (x : F2) (k : F) (w : World) (hg : G w) : Calls Tryd.prog 68 #[PV x, FV k] w (Ret (PV ⟨x.c0 * k, x.c1 * k⟩) w) := by
  have hp0 := Heap.start w
  go_enter Tryd.func68, Tryd.ntmps68
  refine wp_seq_k (fun K1 k1 => ?_)
  refine gs [.alloc (PC x), .alloc (FC k), .alloc (PC 0)] [0, 1, 2] [0, 0, 0] (fun L => [PV x, FV k, pt (L.b 0) 0, pt (L.b 1) 0, pt (L.b 2) 0] ++ U 9) (fun L => [(L.b 0, PC x), (L.b 1, FC k), (L.b 2, PC 0)]) hp0 ⟨
    oB, oB, oZ rP,
    trivial⟩ (fun L0 w1 hp1 => ?_)
  refine k1 _ _ ?_
  refine wp_seq_k (fun K2 k2 => ?_)
  refine dr [.det (pt (L0.b 0) 0), .det (FV x.c0), .det (FV k), .det (FV (x.c0 * k)), .det (pt (L0.b 0) 6), .det (FV x.c1), .det (FV k), .det (FV (x.c1 * k)), .det (PV ⟨(x.c0 * k), (x.c1 * k)⟩), .store (.base 2) 0 (PC ⟨(x.c0 * k), (x.c1 * k)⟩) (PC ⟨(x.c0 * k), (x.c1 * k)⟩)] [0, 1, 2, 3, 4, 5, 6, 7, 8, 9] [0, 1, 0, 7, 0, 16, 0, 127, 255, 511] (fun L => [PV x, FV k, pt (L0.b 0) 0, pt (L0.b 1) 0, pt (L0.b 2) 0, pt (L0.b 0) 0, FV x.c0, FV k, FV (x.c0 * k), pt (L0.b 0) 6, FV x.c1, FV k, FV (x.c1 * k), PV ⟨(x.c0 * k), (x.c1 * k)⟩]) (fun L => [((L0.b 0), PC x), ((L0.b 1), FC k), ((L0.b 2), PC ⟨(x.c0 * k), (x.c1 * k)⟩)]) hp1 ⟨
    oI aP, oL 0 0 rF, oL 1 0 rF, oC K.stay hg (K.mul x.c0 k), oI aP, oL 0 6 rF, oL 1 0 rF, oC K.stay hg (K.mul x.c1 k), oD (buildP (x.c0 * k) (x.c1 * k)), oT rP,
    trivial⟩ (fun L1 w2 hp2 => ?_)
  refine k2 _ _ ?_
  refine wp_ret ?_
  refine bodyPost_ret (v := PV ⟨(x.c0 * k), (x.c1 * k)⟩) ?_ rfl ?_
  · exact rc rP rfl (by kernel_rfl) (hp2.bound 2 rfl).2
  · exact ⟨rfl, hp2.bel⟩
set_option maxHeartbeats 4000000 in
theorem fp2Inv {G : World → Prop} (K : FpK G) (x : F2) (w : World) (hg : G w) (hn : x.norm ≠ 0) : Calls Tryd.prog 49 #[PV x] w (Ret (.tuple #[PV x.inv, .int .i64 0]) w) := by
  have hp0 := Heap.start w
  go_enter Tryd.func49, Tryd.ntmps49
  refine wp_seq_k (fun K1 k1 => ?_)
  refine gs [.alloc (PC x), .alloc (PC 0), .det (.int .i64 0)] [0, 1, 2] [0, 0, 0] (fun L => [PV x, pt (L.b 0) 0, pt (L.b 1) 0, .int .i64 0] ++ U 16) (fun L => [(L.b 0, PC x), (L.b 1, PC 0)]) hp0 ⟨
    oB, oZ rP, oA,
    trivial⟩ (fun L0 w1 hp1 => ?_)
  refine k1 _ _ ?_
  refine wp_seq_k (fun K2 k2 => ?_)
  refine gs [.det (PV x), .det (FV x.norm), .det (.tuple #[FV (finv x.norm), .int .i64 0]), .det (.tuple #[FV (finv x.norm), .int .i64 0]), .det (FV (finv x.norm)), .det (.int .i64 0), .alloc (FC 0), .store (.new 6) 0 (FC (finv x.norm)) (FC (finv x.norm)), .det (.int .i64 0)] [0, 1, 2, 3, 4, 5, 6, 7, 8] [0, 1, 3, 7, 15, 15, 0, 95, 255] (fun L => [PV x, pt (L0.b 0) 0, pt (L0.b 1) 0, .int .i64 0, pt (L.b 6) 0, .int .i64 0, .tuple #[FV (finv x.norm), .int .i64 0], PV x, FV x.norm, .tuple #[FV (finv x.norm), .int .i64 0], FV (finv x.norm), .int .i64 0] ++ U 8) (fun L => [((L0.b 0), PC x), ((L0.b 1), PC 0), (L.b 6, FC (finv x.norm))]) hp1 ⟨
    oL 0 0 rP, oC K.stay hg (fp2norm K x), oH (v := .tuple #[FV (finv x.norm), .int .i64 0]) (vs := #[FV x.norm]) (fun w hb _ => K.inv _ w (K.stay hg hb) hn), oM,
    oX, oX, oZ rF, oT rF, oA,
    trivial⟩ (fun L1 w2 hp2 => ?_)
  refine k2 _ _ ?_
  refine wp_seq_k (fun K3 k3 => ?_)
  refine wp_seq_k (fun K4 k4 => ?_)
  refine gs [.det (.int .i64 0), .det (.bool false)] [0, 1] [0, 1] (fun L => [PV x, pt (L0.b 0) 0, pt (L0.b 1) 0, .int .i64 0, pt (L1.b 6) 0, .int .i64 0, .tuple #[FV (finv x.norm), .int .i64 0], PV x, FV x.norm, .tuple #[FV (finv x.norm), .int .i64 0], FV (finv x.norm), .int .i64 0, .int .i64 0, .bool false] ++ U 6) (fun L => [((L0.b 0), PC x), ((L0.b 1), PC 0), ((L1.b 6), FC (finv x.norm))]) hp2 ⟨
    oM, oJ .i64 .i64 0 0 (h := fun w => (neqI _ _ _ _ w).trans rfl),
    trivial⟩ (fun L2 w3 hp3 => ?_)
  refine k4 _ _ ?_
  refine wp_cond_false (by kernel_rfl) ?_
  refine skips ?_
  refine k3 _ _ ?_
  refine wp_seq_k (fun K5 k5 => ?_)
  refine dr [.det (PV x), .det (PV x.conj), .det (FV (finv x.norm)), .det (PV ⟨x.conj.c0 * (finv x.norm), x.conj.c1 * (finv x.norm)⟩), .store (.base 1) 0 (PC ⟨x.conj.c0 * (finv x.norm), x.conj.c1 * (finv x.norm)⟩) (PC ⟨x.conj.c0 * (finv x.norm), x.conj.c1 * (finv x.norm)⟩), .det (.int .i64 0)] [0, 1, 2, 3, 4, 5] [0, 1, 0, 7, 15, 31] (fun L => [PV x, pt (L0.b 0) 0, pt (L0.b 1) 0, .int .i64 0, pt (L1.b 6) 0, .int .i64 0, .tuple #[FV (finv x.norm), .int .i64 0], PV x, FV x.norm, .tuple #[FV (finv x.norm), .int .i64 0], FV (finv x.norm), .int .i64 0, .int .i64 0, .bool false, undef, undef, PV x, PV x.conj, FV (finv x.norm), PV ⟨x.conj.c0 * (finv x.norm), x.conj.c1 * (finv x.norm)⟩]) (fun L => [((L0.b 0), PC x), ((L0.b 1), PC ⟨x.conj.c0 * (finv x.norm), x.conj.c1 * (finv x.norm)⟩), ((L1.b 6), FC (finv x.norm))]) hp3 ⟨
    oL 0 0 rP, oC K.stay hg (fp2Conj K x), oL 2 0 rF, oC K.stay hg (fp2scale K x.conj (finv x.norm)), oT rP, oA,
    trivial⟩ (fun L3 w4 hp4 => ?_)
  refine k5 _ _ ?_
  refine wp_ret ?_
  refine bodyPost_ret (v := .tuple #[PV ⟨x.conj.c0 * (finv x.norm), x.conj.c1 * (finv x.norm)⟩, .int .i64 0]) ?_ rfl ?_
  · exact rct rP rfl (by kernel_rfl) (by kernel_rfl) (hp4.bound 1 rfl).2
  · exact ⟨rfl, hp4.bel⟩
set_option maxHeartbeats 4000000 in
theorem fp2Inv0 {G : World → Prop} (K : FpK G) (x : F2) (w : World) (hg : G w) (hn : x.norm = 0) : Calls Tryd.prog 49 #[PV x] w (Ret (.tuple #[PV 0, .int .i64 7]) w) := by
  have hp0 := Heap.start w
  go_enter Tryd.func49, Tryd.ntmps49
  refine wp_seq_k (fun K1 k1 => ?_)
  refine gs [.alloc (PC x), .alloc (PC 0), .det (.int .i64 0)] [0, 1, 2] [0, 0, 0] (fun L => [PV x, pt (L.b 0) 0, pt (L.b 1) 0, .int .i64 0] ++ U 16) (fun L => [(L.b 0, PC x), (L.b 1, PC 0)]) hp0 ⟨
    oB, oZ rP, oA,
    trivial⟩ (fun L0 w1 hp1 => ?_)
  refine k1 _ _ ?_
  refine wp_seq_k (fun K2 k2 => ?_)
  refine gs [.det (PV x), .det (FV 0), .det (.tuple #[FV 0, .int .i64 7]), .det (.tuple #[FV 0, .int .i64 7]), .det (FV 0), .det (.int .i64 7), .alloc (FC 0), .store (.new 6) 0 (FC 0) (FC 0), .det (.int .i64 7)] [0, 1, 2, 3, 4, 5, 6, 7, 8] [0, 1, 3, 7, 15, 15, 0, 95, 255] (fun L => [PV x, pt (L0.b 0) 0, pt (L0.b 1) 0, .int .i64 0, pt (L.b 6) 0, .int .i64 7, .tuple #[FV 0, .int .i64 7], PV x, FV 0, .tuple #[FV 0, .int .i64 7], FV 0, .int .i64 7] ++ U 8) (fun L => [((L0.b 0), PC x), ((L0.b 1), PC 0), (L.b 6, FC 0)]) hp1 ⟨
    oL 0 0 rP, oH (v := FV 0) (vs := #[PV x]) (fun w hb _ => by have h := fp2norm K x w (K.stay hg hb); rw [hn] at h; exact h), oC K.stay hg K.inv0, oM, oX, oX,
    oZ rF, oT rF, oA,
    trivial⟩ (fun L1 w2 hp2 => ?_)
  refine k2 _ _ ?_
  refine wp_seq_k (fun K3 k3 => ?_)
  refine wp_seq_k (fun K4 k4 => ?_)
  refine gs [.det (.int .i64 7), .det (.bool true)] [0, 1] [0, 1] (fun L => [PV x, pt (L0.b 0) 0, pt (L0.b 1) 0, .int .i64 0, pt (L1.b 6) 0, .int .i64 7, .tuple #[FV 0, .int .i64 7], PV x, FV 0, .tuple #[FV 0, .int .i64 7], FV 0, .int .i64 7, .int .i64 7, .bool true] ++ U 6) (fun L => [((L0.b 0), PC x), ((L0.b 1), PC 0), ((L1.b 6), FC 0)]) hp2 ⟨
    oM, oJ .i64 .i64 7 0 (h := fun w => (neqI _ _ _ _ w).trans rfl),
    trivial⟩ (fun L2 w3 hp3 => ?_)
  refine k4 _ _ ?_
  refine wp_cond_true (by kernel_rfl) ?_
  refine wp_seq_k (fun K5 k5 => ?_)
  refine gs [.det (PV 0), .det (.int .i64 7), .store (.base 1) 0 (PC 0) (PC 0), .det (.int .i64 7)] [0, 1, 2, 3] [0, 0, 1, 7] (fun L => [PV x, pt (L0.b 0) 0, pt (L0.b 1) 0, .int .i64 7, pt (L1.b 6) 0, .int .i64 7, .tuple #[FV 0, .int .i64 7], PV x, FV 0, .tuple #[FV 0, .int .i64 7], FV 0, .int .i64 7, .int .i64 7, .bool true, PV 0, .int .i64 7] ++ U 4) (fun L => [((L0.b 0), PC x), ((L0.b 1), PC 0), ((L1.b 6), FC 0)]) hp3 ⟨
    oD buildP0, oM, oT rP, oA,
    trivial⟩ (fun L3 w4 hp4 => ?_)
  refine k5 _ _ ?_
  refine wp_ret ?_
  refine bodyPost_ret (v := .tuple #[PV 0, .int .i64 7]) ?_ rfl ?_
  · exact rct rP rfl (by kernel_rfl) (by kernel_rfl) (hp4.bound 1 rfl).2
  · exact ⟨rfl, hp4.bel⟩
set_option maxHeartbeats 4000000 in
theorem fp2May {G : World → Prop} (K : FpK G) (f g : Nat → Int) (w : World) (hg : G w) (rf : Rg f 6) (rg : Rg g 6) (lf : val f 6 < RI) (lg : val g 6 < RI) : Calls Tryd.prog 47 #[QV2 f g] w (Ret (.bool true) w) := by
  have hp0 := Heap.start w
  go_enter Tryd.func47, Tryd.ntmps47
  refine wp_seq_k (fun K1 k1 => ?_)
  refine gs [.alloc (QC2 f g), .det (.bool false)] [0, 1] [0, 0] (fun L => [QV2 f g, pt (L.b 0) 0, .bool false] ++ U 8) (fun L => [(L.b 0, QC2 f g)]) hp0 ⟨
    oB, oA,
    trivial⟩ (fun L0 w1 hp1 => ?_)
  refine k1 _ _ ?_
  refine wp_seq_k (fun K2 k2 => ?_)
  refine gs [.det (pt (L0.b 0) 0), .det (QV f), .det (.bool true), .det (.bool true), .det (pt (L0.b 0) 6), .det (QV g), .det (.bool true), .det (.bool true), .det (.bool true)] [0, 1, 2, 3, 4, 5, 6, 7, 8] [0, 1, 3, 7, 15, 31, 63, 127, 255] (fun L => [QV2 f g, pt (L0.b 0) 0, .bool true, pt (L0.b 0) 0, QV f, .bool true, .bool true, pt (L0.b 0) 6, QV g, .bool true, .bool true]) (fun L => [((L0.b 0), QC2 f g)]) hp1 ⟨
    oI aP, oL 0 0 rF, oH (v := .bool true) (vs := #[QV f]) (fun w hb _ => by have h := K.may f w (K.stay hg hb) rf; rw [decide_eq_true lf] at h; exact h), oM, oI aP,
    oL 0 6 rF, oH (v := .bool true) (vs := #[QV g]) (fun w hb _ => by have h := K.may g w (K.stay hg hb) rg; rw [decide_eq_true lg] at h; exact h), oP, oA,
    trivial⟩ (fun L1 w2 hp2 => ?_)
  refine k2 _ _ ?_
  refine wp_ret ?_
  refine bodyPost_ret (v := .bool true) ?_ rfl ?_
  · exact res_t rfl (by kernel_rfl) _
  · exact ⟨rfl, hp2.bel⟩
set_option maxHeartbeats 4000000 in
theorem fp2May0 {G : World → Prop} (K : FpK G) (f g : Nat → Int) (w : World) (hg : G w) (rf : Rg f 6) (lf : ¬ val f 6 < RI) : Calls Tryd.prog 47 #[QV2 f g] w (Ret (.bool false) w) := by
  have hp0 := Heap.start w
  go_enter Tryd.func47, Tryd.ntmps47
  refine wp_seq_k (fun K1 k1 => ?_)
  refine gs [.alloc (QC2 f g), .det (.bool false)] [0, 1] [0, 0] (fun L => [QV2 f g, pt (L.b 0) 0, .bool false] ++ U 8) (fun L => [(L.b 0, QC2 f g)]) hp0 ⟨
    oB, oA,
    trivial⟩ (fun L0 w1 hp1 => ?_)
  refine k1 _ _ ?_
  refine wp_seq_k (fun K2 k2 => ?_)
  refine gs [.det (pt (L0.b 0) 0), .det (QV f), .det (.bool false), .det (.bool false), .det undef, .det undef, .det undef, .det (.bool false), .det (.bool false)] [0, 1, 2, 3, 4, 5, 6, 7, 8] [0, 1, 3, 7, 15, 31, 63, 127, 255] (fun L => [QV2 f g, pt (L0.b 0) 0, .bool false, pt (L0.b 0) 0, QV f, .bool false, .bool false, undef, undef, undef, .bool false]) (fun L => [((L0.b 0), QC2 f g)]) hp1 ⟨
    oI aP, oL 0 0 rF, oH (v := .bool false) (vs := #[QV f]) (fun w hb _ => by have h := K.may f w (K.stay hg hb) rf; rw [decide_eq_false lf] at h; exact h), oM,
    oS, oS, oS, oP, oA,
    trivial⟩ (fun L1 w2 hp2 => ?_)
  refine k2 _ _ ?_
  refine wp_ret ?_
  refine bodyPost_ret (v := .bool false) ?_ rfl ?_
  · exact res_t rfl (by kernel_rfl) _
  · exact ⟨rfl, hp2.bel⟩
set_option maxHeartbeats 4000000 in
theorem fp2May1 {G : World → Prop} (K : FpK G) (f g : Nat → Int) (w : World) (hg : G w) (rf : Rg f 6) (rg : Rg g 6) (lf : val f 6 < RI) (lg : ¬ val g 6 < RI) : Calls Tryd.prog 47 #[QV2 f g] w (Ret (.bool false) w) := by
  have hp0 := Heap.start w
  go_enter Tryd.func47, Tryd.ntmps47
  refine wp_seq_k (fun K1 k1 => ?_)
  refine gs [.alloc (QC2 f g), .det (.bool false)] [0, 1] [0, 0] (fun L => [QV2 f g, pt (L.b 0) 0, .bool false] ++ U 8) (fun L => [(L.b 0, QC2 f g)]) hp0 ⟨
    oB, oA,
    trivial⟩ (fun L0 w1 hp1 => ?_)
  refine k1 _ _ ?_
  refine wp_seq_k (fun K2 k2 => ?_)
  refine gs [.det (pt (L0.b 0) 0), .det (QV f), .det (.bool true), .det (.bool true), .det (pt (L0.b 0) 6), .det (QV g), .det (.bool false), .det (.bool false), .det (.bool false)] [0, 1, 2, 3, 4, 5, 6, 7, 8] [0, 1, 3, 7, 15, 31, 63, 127, 255] (fun L => [QV2 f g, pt (L0.b 0) 0, .bool false, pt (L0.b 0) 0, QV f, .bool true, .bool true, pt (L0.b 0) 6, QV g, .bool false, .bool false]) (fun L => [((L0.b 0), QC2 f g)]) hp1 ⟨
    oI aP, oL 0 0 rF, oH (v := .bool true) (vs := #[QV f]) (fun w hb _ => by have h := K.may f w (K.stay hg hb) rf; rw [decide_eq_true lf] at h; exact h), oM, oI aP,
    oL 0 6 rF, oH (v := .bool false) (vs := #[QV g]) (fun w hb _ => by have h := K.may g w (K.stay hg hb) rg; rw [decide_eq_false lg] at h; exact h), oP, oA,
    trivial⟩ (fun L1 w2 hp2 => ?_)
  refine k2 _ _ ?_
  refine wp_ret ?_
  refine bodyPost_ret (v := .bool false) ?_ rfl ?_
  · exact res_t rfl (by kernel_rfl) _
  · exact ⟨rfl, hp2.bel⟩
end Go.Proofs.YtbncpnkjeadolaaDoor.fpn

/- Package fp2: roots. -/
namespace Go.Proofs.YtbncpnkjeadolaaDoor.fpn
open Go.RowKit Pl
set_option linter.unusedVariables false
set_option linter.unusedSimpArgs false
set_option maxRecDepth 4000

/-- 1 / 2. -/
def hf : F := ⟨(RN + 1) / 2, by decide +kernel⟩
end Go.Proofs.YtbncpnkjeadolaaDoor.fpn

/- Threes of pairs: their cells, how they are held against each other and built. -/
namespace Go.Proofs.YtbncpnkjeadolaaDoor.fpn
open Go.RowKit Pl
set_option linter.unusedVariables false
set_option linter.unusedSimpArgs false

/-- The cells of a three of pairs. -/
def C6 (x : F6) : List Value := PC x.c0 ++ PC x.c1 ++ PC x.c2
/-- The value of a three of pairs. -/
def V6 (x : F6) : Value := .agg (C6 x).toArray
theorem C6_len (x : F6) : (C6 x).length = 36 := rfl
theorem C6_cut0 (x : F6) : List.take 12 (C6 x) = PC x.c0 := rfl
theorem C6_spl0 (a : F2) (x : F6) : Pl.splice (C6 x) 0 (PC a) = C6 ⟨a, x.c1, x.c2⟩ := rfl
theorem C6_cut1 (x : F6) : List.take 12 (List.drop 12 (C6 x)) = PC x.c1 := rfl
theorem C6_spl1 (a : F2) (x : F6) : Pl.splice (C6 x) 12 (PC a) = C6 ⟨x.c0, a, x.c2⟩ := rfl
theorem C6_cut2 (x : F6) : List.take 12 (List.drop 24 (C6 x)) = PC x.c2 := rfl
theorem C6_spl2 (a : F2) (x : F6) : Pl.splice (C6 x) 24 (PC a) = C6 ⟨x.c0, x.c1, a⟩ := rfl
theorem C6_eq (d : Nat) (x y : F6) (w : World) : (Op.equalIn (d + 4) 28 (V6 x) (V6 y)).run Tryd.prog w = .ok (decide (x = y)) w := by
  have hE : ∀ (a b : F2) (w : World), (Op.equalIn (d + 3) 26 (.agg (PC a).toArray) (.agg (PC b).toArray)).run Tryd.prog w = .ok (decide (a = b)) w := fun a b w => eqP d a b w
  have hp0 : ∀ (x : F6) (w : World), (part 26 (C6 x).toArray 0).run Tryd.prog w = .ok (.agg (PC x.c0).toArray) w := fun x w => by
    simp [part, Sem.run_bind, Tryd.isAgg26, Tryd.sizeOf26, C6_cut0]
  have hp1 : ∀ (x : F6) (w : World), (part 26 (C6 x).toArray 12).run Tryd.prog w = .ok (.agg (PC x.c1).toArray) w := fun x w => by
    simp [part, Sem.run_bind, Tryd.isAgg26, Tryd.sizeOf26, C6_cut1]
  have hp2 : ∀ (x : F6) (w : World), (part 26 (C6 x).toArray 24).run Tryd.prog w = .ok (.agg (PC x.c2).toArray) w := fun x w => by
    simp [part, Sem.run_bind, Tryd.isAgg26, Tryd.sizeOf26, C6_cut2]
  unfold V6
  rw [show d + 4 = (d + 3) + 1 from rfl, Op.equalIn.eq_def]
  simp only [Sem.run_bind, run_underlying Tryd.underlying28, Result.andThen_ok]
  simp only [Std.Legacy.Range.forIn_eq_forIn_range', Std.Legacy.Range.size, Nat.sub_zero, Nat.add_sub_cancel, Nat.div_one, List.range'_succ, List.range'_zero, List.forIn_cons, List.forIn_nil]
  simp only [Sem.run_bind, Tryd.sizeOf26, Result.andThen_ok, Nat.zero_mul, Nat.reduceAdd, Nat.reduceMul, Nat.one_mul, hp0, hp1, hp2, hE]
  by_cases h0 : x.c0 = y.c0
  · by_cases h1 : x.c1 = y.c1
    · by_cases h2 : x.c2 = y.c2
      · have : x = y := F6.ext' h0 h1 h2
        simp [h0, h1, h2, this, hp0, hp1, hp2, hE]
      · have : x ≠ y := fun e => h2 (by rw [e])
        simp [h0, h1, h2, this, hp0, hp1, hp2, hE]
    · have : x ≠ y := fun e => h1 (by rw [e])
      simp [h0, h1, this, hp0, hp1, hp2, hE]
  · have : x ≠ y := fun e => h0 (by rw [e])
    simp [h0, this, hp0, hp1, hp2, hE]
theorem C6_grd (op : BinOp) (x y : Operand) (a b : F6) (w : World) : (eqGuard op 28 x y (V6 a) (V6 b)).run Tryd.prog w = .ok () w := by
  have h : Tryd.prog.eqGuardType Tryd.prog.depth 28 = false := by kernel_rfl
  unfold eqGuard V6
  cases op <;> simp [Sem.run_bind, h]
theorem C6_eql (a b : F6) (w : World) : (binOp .eql 28 (V6 a) (V6 b)).run Tryd.prog w = .ok (.bool (decide (a = b))) w := by
  have := C6_eq 9996 a b w
  unfold V6 at *
  simp [binOp, Sem.run_bind, Op.equal, Op.maxDepth, this]
theorem C6_neq (a b : F6) (w : World) : (binOp .neq 28 (V6 a) (V6 b)).run Tryd.prog w = .ok (.bool (!decide (a = b))) w := by
  have := C6_eq 9996 a b w
  unfold V6 at *
  simp [binOp, Sem.run_bind, Op.equal, Op.maxDepth, this]
theorem C6_zero : (Tryd.prog.info? 28).bind (·.zero) = some (.agg (C6 0).toArray) := by kernel_rfl
theorem C6_size : (Tryd.prog.info? 28).map (·.size) = some 36 := by kernel_rfl
theorem r6 : RowT Tryd.prog 28 36 (C6 0) := ⟨⟨_, Tryd.underlying28, rfl⟩, C6_size, C6_zero⟩
theorem a6 : ArrT Tryd.prog 28 3 12 := ⟨⟨_, Tryd.underlying28, sizeP⟩⟩
theorem q6 : EqT Tryd.prog 28 V6 := ⟨fun _ _ _ _ _ w => C6_grd _ _ _ _ _ w, C6_eql, C6_neq⟩
theorem vP : ArrV Tryd.prog 26 2 6 := ⟨⟨_, Tryd.underlying26, fun w => Tryd.isAgg24 w, fun w => Tryd.sizeOf24 w⟩⟩
theorem v6 : ArrV Tryd.prog 28 3 12 := ⟨⟨_, Tryd.underlying28, fun w => Tryd.isAgg26 w, fun w => Tryd.sizeOf26 w⟩⟩
theorem build6n (w : World) : (Instr.build 28 #[]).run Tryd.prog w = .ok (V6 0) w :=
  run_build_array (cs := C6 0) Tryd.underlying28 sizeP C6_zero rfl w
theorem build60 (a : F2) (w : World) : (Instr.build 28 #[(0, PV a)]).run Tryd.prog w = .ok (V6 ⟨a, 0, 0⟩) w :=
  run_build_array (cs := C6 ⟨a, 0, 0⟩) Tryd.underlying28 sizeP C6_zero (by
    show Instr.fill _ (C6 0).toArray [(0, .agg (PC a).toArray)] = _
    rw [fill_cons (off := 0) (sz := 12) rfl (PC_len a) (by rw [C6_len]; omega), C6_spl0]; rfl) w
theorem build601 (a b : F2) (w : World) : (Instr.build 28 #[(0, PV a), (1, PV b)]).run Tryd.prog w = .ok (V6 ⟨a, b, 0⟩) w :=
  run_build_array (cs := C6 ⟨a, b, 0⟩) Tryd.underlying28 sizeP C6_zero (by
    show Instr.fill _ (C6 0).toArray [(0, .agg (PC a).toArray), (1, .agg (PC b).toArray)] = _
    rw [fill_cons (off := 0) (sz := 12) rfl (PC_len a) (by rw [C6_len]; omega), C6_spl0, fill_cons (off := 12) (sz := 12) rfl (PC_len b) (by rw [C6_len]; omega), C6_spl1]; rfl) w
theorem build6012 (a b c : F2) (w : World) : (Instr.build 28 #[(0, PV a), (1, PV b), (2, PV c)]).run Tryd.prog w = .ok (V6 ⟨a, b, c⟩) w :=
  run_build_array (cs := C6 ⟨a, b, c⟩) Tryd.underlying28 sizeP C6_zero (by
    show Instr.fill _ (C6 0).toArray [(0, .agg (PC a).toArray), (1, .agg (PC b).toArray), (2, .agg (PC c).toArray)] = _
    rw [fill_cons (off := 0) (sz := 12) rfl (PC_len a) (by rw [C6_len]; omega), C6_spl0, fill_cons (off := 12) (sz := 12) rfl (PC_len b) (by rw [C6_len]; omega), C6_spl1, fill_cons (off := 24) (sz := 12) rfl (PC_len c) (by rw [C6_len]; omega), C6_spl2]; rfl) w
/-- Threes of limbs that may be anything. -/
def QC6 (f g f2 g2 f3 g3 : Nat → Int) : List Value := QC2 f g ++ QC2 f2 g2 ++ QC2 f3 g3
def QV6 (f g f2 g2 f3 g3 : Nat → Int) : Value := .agg (QC6 f g f2 g2 f3 g3).toArray
theorem QC_of {f : Nat → Int} {x : F} (h : frv f = FV x) : QC f = FC x := by
  have : (QC f).toArray = (FC x).toArray := by injection h
  simpa using this
theorem QV6_of {f g f2 g2 f3 g3 : Nat → Int} {x : F6} (h0 : frv f = FV x.c0.c0) (h1 : frv g = FV x.c0.c1) (h2 : frv f2 = FV x.c1.c0) (h3 : frv g2 = FV x.c1.c1) (h4 : frv f3 = FV x.c2.c0) (h5 : frv g3 = FV x.c2.c1) : QV6 f g f2 g2 f3 g3 = V6 x := by
  unfold QV6 QC6 QC2 V6 C6 PC
  rw [QC_of h0, QC_of h1, QC_of h2, QC_of h3, QC_of h4, QC_of h5]
/-- Five pairs. -/
structure P5 where
  c0 : F2
  c1 : F2
  c2 : F2
  c3 : F2
  c4 : F2
instance : OfNat P5 0 := ⟨⟨0, 0, 0, 0, 0⟩⟩
def C5 (x : P5) : List Value := PC x.c0 ++ PC x.c1 ++ PC x.c2 ++ PC x.c3 ++ PC x.c4
theorem C5_zero : (Tryd.prog.info? 65).bind (·.zero) = some (.agg (C5 0).toArray) := by kernel_rfl
theorem C5_size : (Tryd.prog.info? 65).map (·.size) = some 60 := by kernel_rfl
theorem r5 : RowT Tryd.prog 65 60 (C5 0) := ⟨⟨_, Tryd.underlying65, rfl⟩, C5_size, C5_zero⟩
theorem a5 : ArrT Tryd.prog 65 5 12 := ⟨⟨_, Tryd.underlying65, sizeP⟩⟩
end Go.Proofs.YtbncpnkjeadolaaDoor.fpn

/- Package fp6. -/
namespace Go.Proofs.YtbncpnkjeadolaaDoor.fpn
open Go.RowKit Pl
set_option linter.unusedVariables false
set_option linter.unusedSimpArgs false
set_option maxRecDepth 4000

section
open Rn
variable {α : Type} [Add α] [Mul α] [Neg α] [Sub α] [OfNat α 0] [OfNat α 1] [CR α]
theorem rs0 (a0 a1 a2 b0 b1 b2 k : α) : ((a0 * b0) + (((((a1 + a2) * (b1 + b2)) - (a1 * b1)) - (a2 * b2)) * k)) = ((a0 * b0) + (k * ((a1 * b2) + (a2 * b1)))) := ring [a0, a1, a2, b0, b1, b2, k] (.a (.m (.v 0) (.v 3)) (.m (.s (.s (.m (.a (.v 1) (.v 2)) (.a (.v 4) (.v 5))) (.m (.v 1) (.v 4))) (.m (.v 2) (.v 5))) (.v 6))) (.a (.m (.v 0) (.v 3)) (.m (.v 6) (.a (.m (.v 1) (.v 5)) (.m (.v 2) (.v 4))))) (by kernel_rfl)
theorem rs1 (a0 a1 a2 b0 b1 b2 k : α) : (((((a0 + a1) * (b0 + b1)) - (a0 * b0)) - (a1 * b1)) + ((a2 * b2) * k)) = (((a0 * b1) + (a1 * b0)) + (k * (a2 * b2))) := ring [a0, a1, a2, b0, b1, b2, k] (.a (.s (.s (.m (.a (.v 0) (.v 1)) (.a (.v 3) (.v 4))) (.m (.v 0) (.v 3))) (.m (.v 1) (.v 4))) (.m (.m (.v 2) (.v 5)) (.v 6))) (.a (.a (.m (.v 0) (.v 4)) (.m (.v 1) (.v 3))) (.m (.v 6) (.m (.v 2) (.v 5)))) (by kernel_rfl)
theorem rs2 (a0 a1 a2 b0 b1 b2 : α) : (((((a0 + a2) * (b0 + b2)) - (a0 * b0)) - (a2 * b2)) + (a1 * b1)) = (((a0 * b2) + (a1 * b1)) + (a2 * b0)) := ring [a0, a1, a2, b0, b1, b2] (.a (.s (.s (.m (.a (.v 0) (.v 2)) (.a (.v 3) (.v 5))) (.m (.v 0) (.v 3))) (.m (.v 2) (.v 5))) (.m (.v 1) (.v 4))) (.a (.a (.m (.v 0) (.v 5)) (.m (.v 1) (.v 4))) (.m (.v 2) (.v 3))) (by kernel_rfl)
theorem rs3 (a0 a1 a2 b0 b1 b2 k : α) : ((a0 * b0) + (((a1 * b2) + (a2 * b1)) * k)) = ((a0 * b0) + (((a2 * b1) + (a1 * b2)) * k)) := ring [a0, a1, a2, b0, b1, b2, k] (.a (.m (.v 0) (.v 3)) (.m (.a (.m (.v 1) (.v 5)) (.m (.v 2) (.v 4))) (.v 6))) (.a (.m (.v 0) (.v 3)) (.m (.a (.m (.v 2) (.v 4)) (.m (.v 1) (.v 5))) (.v 6))) (by kernel_rfl)
end
theorem norm2_0 : (0 : F2).norm = 0 := by kernel_rfl
/-- May these limbs be a pair? -/
def may2 (f g : Nat → Int) : Bool := decide (val f 6 < RI) && decide (val g 6 < RI)
set_option maxHeartbeats 4000000 in
theorem fp6lift {G : World → Prop} (K : FpK G) (x : F2) (w : World) (hg : G w) : Calls Tryd.prog 61 #[PV x] w (Ret (PV (x * xi)) w) := by
  have hp0 := Heap.start w
  go_enter Tryd.func61, Tryd.ntmps61
  refine wp_seq_k (fun K1 k1 => ?_)
  refine gs [.alloc (PC x), .alloc (PC 0)] [0, 1] [0, 0] (fun L => [PV x, pt (L.b 0) 0, pt (L.b 1) 0] ++ U 8) (fun L => [(L.b 0, PC x), (L.b 1, PC 0)]) hp0 ⟨
    oB, oZ rP,
    trivial⟩ (fun L0 w1 hp1 => ?_)
  refine k1 _ _ ?_
  refine wp_seq_k (fun K2 k2 => ?_)
  refine dr [.det (PV x), .det (PV x), .det (PV (-x)), .det (FV ((-x).c1)), .det (pt (L0.b 0) 0), .det (FV x.c0), .det (PV ⟨(-x).c1, x.c0⟩), .det (PV (x + ⟨(-x).c1, x.c0⟩)), .store (.base 1) 0 (PC (x + ⟨(-x).c1, x.c0⟩)) (PC (x + ⟨(-x).c1, x.c0⟩))] [0, 1, 2, 3, 4, 5, 6, 7, 8] [0, 0, 2, 6, 0, 16, 62, 127, 255] (fun L => [PV x, pt (L0.b 0) 0, pt (L0.b 1) 0, PV x, PV x, PV (-x), FV ((-x).c1), pt (L0.b 0) 0, FV x.c0, PV ⟨(-x).c1, x.c0⟩, PV (x + ⟨(-x).c1, x.c0⟩)]) (fun L => [((L0.b 0), PC x), ((L0.b 1), PC (x + ⟨(-x).c1, x.c0⟩))]) hp1 ⟨
    oL 0 0 rP, oL 0 0 rP, oC K.stay hg (fp2Neg K x), oV (cs := PC (-x)) 1 vP, oI aP, oL 0 0 rF, oD (buildP ((-x).c1) x.c0), oC K.stay hg (fp2Add K x ⟨(-x).c1, x.c0⟩),
    oT rP,
    trivial⟩ (fun L1 w2 hp2 => ?_)
  refine k2 _ _ ?_
  refine wp_ret ?_
  refine bodyPost_ret (v := PV (x + ⟨(-x).c1, x.c0⟩)) ?_ rfl ?_
  · exact rc rP rfl (by kernel_rfl) (hp2.bound 1 rfl).2
  · exact ⟨congrArg (fun z => Ending.returned (PV z)) (F2.ext' (by simp [xi]; grind) (by simp [xi]; grind)), hp2.bel⟩
set_option maxHeartbeats 4000000 in
theorem fp6crossed {G : World → Prop} (K : FpK G) (a b c d e f : F2) (w : World) (hg : G w) : Calls Tryd.prog 60 #[PV a, PV b, PV c, PV d, PV e, PV f] w (Ret (PV ((a + b) * (c + d) - e - f)) w) := by
  have hp0 := Heap.start w
  go_enter Tryd.func60, Tryd.ntmps60
  refine wp_seq_k (fun K1 k1 => ?_)
  refine gs [.alloc (PC a), .alloc (PC b), .alloc (PC c), .alloc (PC d), .alloc (PC e), .alloc (PC f), .alloc (PC 0)] [0, 1, 2, 3, 4, 5, 6] [0, 0, 0, 0, 0, 0, 0] (fun L => [PV a, PV b, PV c, PV d, PV e, PV f, pt (L.b 0) 0, pt (L.b 1) 0, pt (L.b 2) 0, pt (L.b 3) 0, pt (L.b 4) 0, pt (L.b 5) 0, pt (L.b 6) 0] ++ U 13) (fun L => [(L.b 0, PC a), (L.b 1, PC b), (L.b 2, PC c), (L.b 3, PC d), (L.b 4, PC e), (L.b 5, PC f), (L.b 6, PC 0)]) hp0 ⟨
    oB, oB, oB, oB, oB, oB, oZ rP,
    trivial⟩ (fun L0 w1 hp1 => ?_)
  refine k1 _ _ ?_
  refine wp_seq_k (fun K2 k2 => ?_)
  refine dr [.det (PV a), .det (PV b), .det (PV (a + b)), .det (PV c), .det (PV d), .det (PV (c + d)), .det (PV ((a + b) * (c + d))), .alloc (PC 0), .store (.new 7) 0 (PC ((a + b) * (c + d))) (PC ((a + b) * (c + d)))] [0, 1, 2, 3, 4, 5, 6, 7, 8] [0, 0, 3, 0, 0, 31, 63, 0, 255] (fun L => [PV a, PV b, PV c, PV d, PV e, PV f, pt (L0.b 0) 0, pt (L0.b 1) 0, pt (L0.b 2) 0, pt (L0.b 3) 0, pt (L0.b 4) 0, pt (L0.b 5) 0, pt (L0.b 6) 0, pt (L.b 7) 0, PV a, PV b, PV (a + b), PV c, PV d, PV (c + d), PV ((a + b) * (c + d))] ++ U 5) (fun L => [((L0.b 0), PC a), ((L0.b 1), PC b), ((L0.b 2), PC c), ((L0.b 3), PC d), ((L0.b 4), PC e), ((L0.b 5), PC f), ((L0.b 6), PC 0), (L.b 7, PC ((a + b) * (c + d)))]) hp1 ⟨
    oL 0 0 rP, oL 1 0 rP, oC K.stay hg (fp2Add K a b), oL 2 0 rP, oL 3 0 rP, oC K.stay hg (fp2Add K c d), oC K.stay hg (fp2Mul K (a + b) (c + d)), oZ rP, oT rP,
    trivial⟩ (fun L1 w2 hp2 => ?_)
  refine k2 _ _ ?_
  refine wp_seq_k (fun K3 k3 => ?_)
  refine dr [.det (PV ((a + b) * (c + d))), .det (PV e), .det (PV (((a + b) * (c + d)) - e)), .det (PV f), .det (PV ((((a + b) * (c + d)) - e) - f)), .store (.base 6) 0 (PC ((((a + b) * (c + d)) - e) - f)) (PC ((((a + b) * (c + d)) - e) - f))] [0, 1, 2, 3, 4, 5] [0, 0, 3, 0, 15, 31] (fun L => [PV a, PV b, PV c, PV d, PV e, PV f, pt (L0.b 0) 0, pt (L0.b 1) 0, pt (L0.b 2) 0, pt (L0.b 3) 0, pt (L0.b 4) 0, pt (L0.b 5) 0, pt (L0.b 6) 0, pt (L1.b 7) 0, PV a, PV b, PV (a + b), PV c, PV d, PV (c + d), PV ((a + b) * (c + d)), PV ((a + b) * (c + d)), PV e, PV (((a + b) * (c + d)) - e), PV f, PV ((((a + b) * (c + d)) - e) - f)]) (fun L => [((L0.b 0), PC a), ((L0.b 1), PC b), ((L0.b 2), PC c), ((L0.b 3), PC d), ((L0.b 4), PC e), ((L0.b 5), PC f), ((L0.b 6), PC ((((a + b) * (c + d)) - e) - f)), ((L1.b 7), PC ((a + b) * (c + d)))]) hp2 ⟨
    oL 7 0 rP, oL 4 0 rP, oC K.stay hg (fp2Sub K ((a + b) * (c + d)) e), oL 5 0 rP, oC K.stay hg (fp2Sub K (((a + b) * (c + d)) - e) f), oT rP,
    trivial⟩ (fun L2 w3 hp3 => ?_)
  refine k3 _ _ ?_
  refine wp_ret ?_
  refine bodyPost_ret (v := PV ((((a + b) * (c + d)) - e) - f)) ?_ rfl ?_
  · exact rc rP rfl (by kernel_rfl) (hp3.bound 6 rfl).2
  · exact ⟨rfl, hp3.bel⟩
set_option maxHeartbeats 4000000 in
theorem fp6Add {G : World → Prop} (K : FpK G) (x y : F6) (w : World) (hg : G w) : Calls Tryd.prog 35 #[V6 x, V6 y] w (Ret (V6 (x + y)) w) := by
  have hp0 := Heap.start w
  go_enter Tryd.func35, Tryd.ntmps35
  refine wp_seq_k (fun K1 k1 => ?_)
  refine gs [.alloc (C6 x), .alloc (C6 y), .alloc (C6 0)] [0, 1, 2] [0, 0, 0] (fun L => [V6 x, V6 y, pt (L.b 0) 0, pt (L.b 1) 0, pt (L.b 2) 0] ++ U 16) (fun L => [(L.b 0, C6 x), (L.b 1, C6 y), (L.b 2, C6 0)]) hp0 ⟨
    oB, oB, oZ r6,
    trivial⟩ (fun L0 w1 hp1 => ?_)
  refine k1 _ _ ?_
  refine wp_seq_k (fun K2 k2 => ?_)
  refine dr [.det (pt (L0.b 0) 0), .det (PV x.c0), .det (pt (L0.b 1) 0), .det (PV y.c0), .det (PV (x.c0 + y.c0)), .det (pt (L0.b 0) 12), .det (PV x.c1), .det (pt (L0.b 1) 12), .det (PV y.c1), .det (PV (x.c1 + y.c1)), .det (pt (L0.b 0) 24), .det (PV x.c2), .det (pt (L0.b 1) 24), .det (PV y.c2), .det (PV (x.c2 + y.c2)), .det (V6 ⟨(x.c0 + y.c0), (x.c1 + y.c1), (x.c2 + y.c2)⟩), .store (.base 2) 0 (C6 ⟨(x.c0 + y.c0), (x.c1 + y.c1), (x.c2 + y.c2)⟩) (C6 ⟨(x.c0 + y.c0), (x.c1 + y.c1), (x.c2 + y.c2)⟩)] [0, 1, 2, 3, 4, 5, 6, 7, 8, 9, 10, 11, 12, 13, 14, 15, 16] [0, 1, 0, 4, 15, 0, 32, 0, 128, 511, 0, 1024, 0, 4096, 16383, 32767, 65535] (fun L => [V6 x, V6 y, pt (L0.b 0) 0, pt (L0.b 1) 0, pt (L0.b 2) 0, pt (L0.b 0) 0, PV x.c0, pt (L0.b 1) 0, PV y.c0, PV (x.c0 + y.c0), pt (L0.b 0) 12, PV x.c1, pt (L0.b 1) 12, PV y.c1, PV (x.c1 + y.c1), pt (L0.b 0) 24, PV x.c2, pt (L0.b 1) 24, PV y.c2, PV (x.c2 + y.c2), V6 ⟨(x.c0 + y.c0), (x.c1 + y.c1), (x.c2 + y.c2)⟩]) (fun L => [((L0.b 0), C6 x), ((L0.b 1), C6 y), ((L0.b 2), C6 ⟨(x.c0 + y.c0), (x.c1 + y.c1), (x.c2 + y.c2)⟩)]) hp1 ⟨
    oI a6, oL 0 0 rP, oI a6, oL 1 0 rP, oC K.stay hg (fp2Add K x.c0 y.c0), oI a6, oL 0 12 rP, oI a6, oL 1 12 rP, oC K.stay hg (fp2Add K x.c1 y.c1), oI a6, oL 0 24 rP,
    oI a6, oL 1 24 rP, oC K.stay hg (fp2Add K x.c2 y.c2), oD (build6012 (x.c0 + y.c0) (x.c1 + y.c1) (x.c2 + y.c2)), oT r6,
    trivial⟩ (fun L1 w2 hp2 => ?_)
  refine k2 _ _ ?_
  refine wp_ret ?_
  refine bodyPost_ret (v := V6 ⟨(x.c0 + y.c0), (x.c1 + y.c1), (x.c2 + y.c2)⟩) ?_ rfl ?_
  · exact rc r6 rfl (by kernel_rfl) (hp2.bound 2 rfl).2
  · exact ⟨rfl, hp2.bel⟩
set_option maxHeartbeats 4000000 in
theorem fp6Sub {G : World → Prop} (K : FpK G) (x y : F6) (w : World) (hg : G w) : Calls Tryd.prog 37 #[V6 x, V6 y] w (Ret (V6 (x - y)) w) := by
  have hp0 := Heap.start w
  go_enter Tryd.func37, Tryd.ntmps37
  refine wp_seq_k (fun K1 k1 => ?_)
  refine gs [.alloc (C6 x), .alloc (C6 y), .alloc (C6 0)] [0, 1, 2] [0, 0, 0] (fun L => [V6 x, V6 y, pt (L.b 0) 0, pt (L.b 1) 0, pt (L.b 2) 0] ++ U 16) (fun L => [(L.b 0, C6 x), (L.b 1, C6 y), (L.b 2, C6 0)]) hp0 ⟨
    oB, oB, oZ r6,
    trivial⟩ (fun L0 w1 hp1 => ?_)
  refine k1 _ _ ?_
  refine wp_seq_k (fun K2 k2 => ?_)
  refine dr [.det (pt (L0.b 0) 0), .det (PV x.c0), .det (pt (L0.b 1) 0), .det (PV y.c0), .det (PV (x.c0 - y.c0)), .det (pt (L0.b 0) 12), .det (PV x.c1), .det (pt (L0.b 1) 12), .det (PV y.c1), .det (PV (x.c1 - y.c1)), .det (pt (L0.b 0) 24), .det (PV x.c2), .det (pt (L0.b 1) 24), .det (PV y.c2), .det (PV (x.c2 - y.c2)), .det (V6 ⟨(x.c0 - y.c0), (x.c1 - y.c1), (x.c2 - y.c2)⟩), .store (.base 2) 0 (C6 ⟨(x.c0 - y.c0), (x.c1 - y.c1), (x.c2 - y.c2)⟩) (C6 ⟨(x.c0 - y.c0), (x.c1 - y.c1), (x.c2 - y.c2)⟩)] [0, 1, 2, 3, 4, 5, 6, 7, 8, 9, 10, 11, 12, 13, 14, 15, 16] [0, 1, 0, 4, 15, 0, 32, 0, 128, 511, 0, 1024, 0, 4096, 16383, 32767, 65535] (fun L => [V6 x, V6 y, pt (L0.b 0) 0, pt (L0.b 1) 0, pt (L0.b 2) 0, pt (L0.b 0) 0, PV x.c0, pt (L0.b 1) 0, PV y.c0, PV (x.c0 - y.c0), pt (L0.b 0) 12, PV x.c1, pt (L0.b 1) 12, PV y.c1, PV (x.c1 - y.c1), pt (L0.b 0) 24, PV x.c2, pt (L0.b 1) 24, PV y.c2, PV (x.c2 - y.c2), V6 ⟨(x.c0 - y.c0), (x.c1 - y.c1), (x.c2 - y.c2)⟩]) (fun L => [((L0.b 0), C6 x), ((L0.b 1), C6 y), ((L0.b 2), C6 ⟨(x.c0 - y.c0), (x.c1 - y.c1), (x.c2 - y.c2)⟩)]) hp1 ⟨
    oI a6, oL 0 0 rP, oI a6, oL 1 0 rP, oC K.stay hg (fp2Sub K x.c0 y.c0), oI a6, oL 0 12 rP, oI a6, oL 1 12 rP, oC K.stay hg (fp2Sub K x.c1 y.c1), oI a6, oL 0 24 rP,
    oI a6, oL 1 24 rP, oC K.stay hg (fp2Sub K x.c2 y.c2), oD (build6012 (x.c0 - y.c0) (x.c1 - y.c1) (x.c2 - y.c2)), oT r6,
    trivial⟩ (fun L1 w2 hp2 => ?_)
  refine k2 _ _ ?_
  refine wp_ret ?_
  refine bodyPost_ret (v := V6 ⟨(x.c0 - y.c0), (x.c1 - y.c1), (x.c2 - y.c2)⟩) ?_ rfl ?_
  · exact rc r6 rfl (by kernel_rfl) (hp2.bound 2 rfl).2
  · exact ⟨rfl, hp2.bel⟩
set_option maxHeartbeats 4000000 in
theorem fp6Neg {G : World → Prop} (K : FpK G) (x : F6) (w : World) (hg : G w) : Calls Tryd.prog 40 #[V6 x] w (Ret (V6 (-x)) w) := by
  have hp0 := Heap.start w
  go_enter Tryd.func40, Tryd.ntmps40
  refine wp_seq_k (fun K1 k1 => ?_)
  refine gs [.alloc (C6 x), .alloc (C6 0)] [0, 1] [0, 0] (fun L => [V6 x, pt (L.b 0) 0, pt (L.b 1) 0] ++ U 10) (fun L => [(L.b 0, C6 x), (L.b 1, C6 0)]) hp0 ⟨
    oB, oZ r6,
    trivial⟩ (fun L0 w1 hp1 => ?_)
  refine k1 _ _ ?_
  refine wp_seq_k (fun K2 k2 => ?_)
  refine dr [.det (pt (L0.b 0) 0), .det (PV x.c0), .det (PV (-x.c0)), .det (pt (L0.b 0) 12), .det (PV x.c1), .det (PV (-x.c1)), .det (pt (L0.b 0) 24), .det (PV x.c2), .det (PV (-x.c2)), .det (V6 ⟨(-x.c0), (-x.c1), (-x.c2)⟩), .store (.base 1) 0 (C6 ⟨(-x.c0), (-x.c1), (-x.c2)⟩) (C6 ⟨(-x.c0), (-x.c1), (-x.c2)⟩)] [0, 1, 2, 3, 4, 5, 6, 7, 8, 9, 10] [0, 1, 3, 0, 8, 31, 0, 64, 255, 511, 1023] (fun L => [V6 x, pt (L0.b 0) 0, pt (L0.b 1) 0, pt (L0.b 0) 0, PV x.c0, PV (-x.c0), pt (L0.b 0) 12, PV x.c1, PV (-x.c1), pt (L0.b 0) 24, PV x.c2, PV (-x.c2), V6 ⟨(-x.c0), (-x.c1), (-x.c2)⟩]) (fun L => [((L0.b 0), C6 x), ((L0.b 1), C6 ⟨(-x.c0), (-x.c1), (-x.c2)⟩)]) hp1 ⟨
    oI a6, oL 0 0 rP, oC K.stay hg (fp2Neg K x.c0), oI a6, oL 0 12 rP, oC K.stay hg (fp2Neg K x.c1), oI a6, oL 0 24 rP, oC K.stay hg (fp2Neg K x.c2), oD (build6012 (-x.c0) (-x.c1) (-x.c2)),
    oT r6,
    trivial⟩ (fun L1 w2 hp2 => ?_)
  refine k2 _ _ ?_
  refine wp_ret ?_
  refine bodyPost_ret (v := V6 ⟨(-x.c0), (-x.c1), (-x.c2)⟩) ?_ rfl ?_
  · exact rc r6 rfl (by kernel_rfl) (hp2.bound 1 rfl).2
  · exact ⟨rfl, hp2.bel⟩
set_option maxHeartbeats 4000000 in
theorem fp6Mul {G : World → Prop} (K : FpK G) (x y : F6) (w : World) (hg : G w) : Calls Tryd.prog 38 #[V6 x, V6 y] w (Ret (V6 (x * y)) w) := by
  have hp0 := Heap.start w
  go_enter Tryd.func38, Tryd.ntmps38
  refine wp_seq_k (fun K1 k1 => ?_)
  refine gs [.alloc (C6 x), .alloc (C6 y), .alloc (C6 0)] [0, 1, 2] [0, 0, 0] (fun L => [V6 x, V6 y, pt (L.b 0) 0, pt (L.b 1) 0, pt (L.b 2) 0] ++ U 66) (fun L => [(L.b 0, C6 x), (L.b 1, C6 y), (L.b 2, C6 0)]) hp0 ⟨
    oB, oB, oZ r6,
    trivial⟩ (fun L0 w1 hp1 => ?_)
  refine k1 _ _ ?_
  refine wp_seq_k (fun K2 k2 => ?_)
  refine dr [.det (pt (L0.b 0) 0), .det (PV x.c0), .det (pt (L0.b 1) 0), .det (PV y.c0), .det (PV (x.c0 * y.c0)), .det (pt (L0.b 0) 12), .det (PV x.c1), .det (pt (L0.b 1) 12), .det (PV y.c1), .det (PV (x.c1 * y.c1)), .det (pt (L0.b 0) 24), .det (PV x.c2), .det (pt (L0.b 1) 24), .det (PV y.c2), .det (PV (x.c2 * y.c2)), .alloc (PC 0), .alloc (PC 0), .alloc (PC 0), .store (.new 15) 0 (PC (x.c0 * y.c0)) (PC (x.c0 * y.c0)), .store (.new 16) 0 (PC (x.c1 * y.c1)) (PC (x.c1 * y.c1)), .store (.new 17) 0 (PC (x.c2 * y.c2)) (PC (x.c2 * y.c2))] [0, 1, 2, 3, 4, 5, 6, 7, 8, 9, 10, 11, 12, 13, 14, 15, 16, 17, 18, 19, 20] [0, 1, 0, 4, 15, 0, 32, 0, 128, 511, 0, 1024, 0, 4096, 16383, 0, 0, 0, 262143, 524287, 1048575] (fun L => [V6 x, V6 y, pt (L0.b 0) 0, pt (L0.b 1) 0, pt (L0.b 2) 0, pt (L.b 15) 0, pt (L.b 16) 0, pt (L.b 17) 0, undef, undef, undef, pt (L0.b 0) 0, PV x.c0, pt (L0.b 1) 0, PV y.c0, PV (x.c0 * y.c0), pt (L0.b 0) 12, PV x.c1, pt (L0.b 1) 12, PV y.c1, PV (x.c1 * y.c1), pt (L0.b 0) 24, PV x.c2, pt (L0.b 1) 24, PV y.c2, PV (x.c2 * y.c2)] ++ U 45) (fun L => [((L0.b 0), C6 x), ((L0.b 1), C6 y), ((L0.b 2), C6 0), (L.b 15, PC (x.c0 * y.c0)), (L.b 16, PC (x.c1 * y.c1)), (L.b 17, PC (x.c2 * y.c2))]) hp1 ⟨
    oI a6, oL 0 0 rP, oI a6, oL 1 0 rP, oC K.stay hg (fp2Mul K x.c0 y.c0), oI a6, oL 0 12 rP, oI a6, oL 1 12 rP, oC K.stay hg (fp2Mul K x.c1 y.c1), oI a6, oL 0 24 rP,
    oI a6, oL 1 24 rP, oC K.stay hg (fp2Mul K x.c2 y.c2), oZ rP, oZ rP, oZ rP, oT rP, oT rP, oT rP,
    trivial⟩ (fun L1 w2 hp2 => ?_)
  refine k2 _ _ ?_
  refine wp_seq_k (fun K3 k3 => ?_)
  refine gs [.det (pt (L0.b 0) 0), .det (PV x.c0), .det (pt (L0.b 0) 12), .det (PV x.c1), .det (pt (L0.b 1) 0), .det (PV y.c0), .det (pt (L0.b 1) 12), .det (PV y.c1), .det (PV (x.c0 * y.c0)), .det (PV (x.c1 * y.c1)), .det (PV ((x.c0 + x.c1) * (y.c0 + y.c1) - (x.c0 * y.c0) - (x.c1 * y.c1))), .alloc (PC 0), .store (.new 11) 0 (PC ((x.c0 + x.c1) * (y.c0 + y.c1) - (x.c0 * y.c0) - (x.c1 * y.c1))) (PC ((x.c0 + x.c1) * (y.c0 + y.c1) - (x.c0 * y.c0) - (x.c1 * y.c1)))] [0, 1, 2, 3, 4, 5, 6, 7, 8, 9, 10, 11, 12] [0, 1, 0, 4, 0, 16, 0, 64, 0, 0, 1023, 0, 4095] (fun L => [V6 x, V6 y, pt (L0.b 0) 0, pt (L0.b 1) 0, pt (L0.b 2) 0, pt (L1.b 15) 0, pt (L1.b 16) 0, pt (L1.b 17) 0, pt (L.b 11) 0, undef, undef, pt (L0.b 0) 0, PV x.c0, pt (L0.b 1) 0, PV y.c0, PV (x.c0 * y.c0), pt (L0.b 0) 12, PV x.c1, pt (L0.b 1) 12, PV y.c1, PV (x.c1 * y.c1), pt (L0.b 0) 24, PV x.c2, pt (L0.b 1) 24, PV y.c2, PV (x.c2 * y.c2), pt (L0.b 0) 0, PV x.c0, pt (L0.b 0) 12, PV x.c1, pt (L0.b 1) 0, PV y.c0, pt (L0.b 1) 12, PV y.c1, PV (x.c0 * y.c0), PV (x.c1 * y.c1), PV ((x.c0 + x.c1) * (y.c0 + y.c1) - (x.c0 * y.c0) - (x.c1 * y.c1))] ++ U 34) (fun L => [((L0.b 0), C6 x), ((L0.b 1), C6 y), ((L0.b 2), C6 0), ((L1.b 15), PC (x.c0 * y.c0)), ((L1.b 16), PC (x.c1 * y.c1)), ((L1.b 17), PC (x.c2 * y.c2)), (L.b 11, PC ((x.c0 + x.c1) * (y.c0 + y.c1) - (x.c0 * y.c0) - (x.c1 * y.c1)))]) hp2 ⟨
    oI a6, oL 0 0 rP, oI a6, oL 0 12 rP, oI a6, oL 1 0 rP, oI a6, oL 1 12 rP, oL 3 0 rP, oL 4 0 rP, oC K.stay hg (fp6crossed K x.c0 x.c1 y.c0 y.c1 (x.c0 * y.c0) (x.c1 * y.c1)),
    oZ rP, oT rP,
    trivial⟩ (fun L2 w3 hp3 => ?_)
  refine k3 _ _ ?_
  refine wp_seq_k (fun K4 k4 => ?_)
  refine gs [.det (pt (L0.b 0) 0), .det (PV x.c0), .det (pt (L0.b 0) 24), .det (PV x.c2), .det (pt (L0.b 1) 0), .det (PV y.c0), .det (pt (L0.b 1) 24), .det (PV y.c2), .det (PV (x.c0 * y.c0)), .det (PV (x.c2 * y.c2)), .det (PV ((x.c0 + x.c2) * (y.c0 + y.c2) - (x.c0 * y.c0) - (x.c2 * y.c2))), .alloc (PC 0), .store (.new 11) 0 (PC ((x.c0 + x.c2) * (y.c0 + y.c2) - (x.c0 * y.c0) - (x.c2 * y.c2))) (PC ((x.c0 + x.c2) * (y.c0 + y.c2) - (x.c0 * y.c0) - (x.c2 * y.c2)))] [0, 1, 2, 3, 4, 5, 6, 7, 8, 9, 10, 11, 12] [0, 1, 0, 4, 0, 16, 0, 64, 0, 0, 1023, 0, 4095] (fun L => [V6 x, V6 y, pt (L0.b 0) 0, pt (L0.b 1) 0, pt (L0.b 2) 0, pt (L1.b 15) 0, pt (L1.b 16) 0, pt (L1.b 17) 0, pt (L2.b 11) 0, pt (L.b 11) 0, undef, pt (L0.b 0) 0, PV x.c0, pt (L0.b 1) 0, PV y.c0, PV (x.c0 * y.c0), pt (L0.b 0) 12, PV x.c1, pt (L0.b 1) 12, PV y.c1, PV (x.c1 * y.c1), pt (L0.b 0) 24, PV x.c2, pt (L0.b 1) 24, PV y.c2, PV (x.c2 * y.c2), pt (L0.b 0) 0, PV x.c0, pt (L0.b 0) 12, PV x.c1, pt (L0.b 1) 0, PV y.c0, pt (L0.b 1) 12, PV y.c1, PV (x.c0 * y.c0), PV (x.c1 * y.c1), PV ((x.c0 + x.c1) * (y.c0 + y.c1) - (x.c0 * y.c0) - (x.c1 * y.c1)), pt (L0.b 0) 0, PV x.c0, pt (L0.b 0) 24, PV x.c2, pt (L0.b 1) 0, PV y.c0, pt (L0.b 1) 24, PV y.c2, PV (x.c0 * y.c0), PV (x.c2 * y.c2), PV ((x.c0 + x.c2) * (y.c0 + y.c2) - (x.c0 * y.c0) - (x.c2 * y.c2))] ++ U 23) (fun L => [((L0.b 0), C6 x), ((L0.b 1), C6 y), ((L0.b 2), C6 0), ((L1.b 15), PC (x.c0 * y.c0)), ((L1.b 16), PC (x.c1 * y.c1)), ((L1.b 17), PC (x.c2 * y.c2)), ((L2.b 11), PC ((x.c0 + x.c1) * (y.c0 + y.c1) - (x.c0 * y.c0) - (x.c1 * y.c1))), (L.b 11, PC ((x.c0 + x.c2) * (y.c0 + y.c2) - (x.c0 * y.c0) - (x.c2 * y.c2)))]) hp3 ⟨
    oI a6, oL 0 0 rP, oI a6, oL 0 24 rP, oI a6, oL 1 0 rP, oI a6, oL 1 24 rP, oL 3 0 rP, oL 5 0 rP, oC K.stay hg (fp6crossed K x.c0 x.c2 y.c0 y.c2 (x.c0 * y.c0) (x.c2 * y.c2)),
    oZ rP, oT rP,
    trivial⟩ (fun L3 w4 hp4 => ?_)
  refine k4 _ _ ?_
  refine wp_seq_k (fun K5 k5 => ?_)
  refine gs [.det (pt (L0.b 0) 12), .det (PV x.c1), .det (pt (L0.b 0) 24), .det (PV x.c2), .det (pt (L0.b 1) 12), .det (PV y.c1), .det (pt (L0.b 1) 24), .det (PV y.c2), .det (PV (x.c1 * y.c1)), .det (PV (x.c2 * y.c2)), .det (PV ((x.c1 + x.c2) * (y.c1 + y.c2) - (x.c1 * y.c1) - (x.c2 * y.c2))), .alloc (PC 0), .store (.new 11) 0 (PC ((x.c1 + x.c2) * (y.c1 + y.c2) - (x.c1 * y.c1) - (x.c2 * y.c2))) (PC ((x.c1 + x.c2) * (y.c1 + y.c2) - (x.c1 * y.c1) - (x.c2 * y.c2)))] [0, 1, 2, 3, 4, 5, 6, 7, 8, 9, 10, 11, 12] [0, 1, 0, 4, 0, 16, 0, 64, 0, 0, 1023, 0, 4095] (fun L => [V6 x, V6 y, pt (L0.b 0) 0, pt (L0.b 1) 0, pt (L0.b 2) 0, pt (L1.b 15) 0, pt (L1.b 16) 0, pt (L1.b 17) 0, pt (L2.b 11) 0, pt (L3.b 11) 0, pt (L.b 11) 0, pt (L0.b 0) 0, PV x.c0, pt (L0.b 1) 0, PV y.c0, PV (x.c0 * y.c0), pt (L0.b 0) 12, PV x.c1, pt (L0.b 1) 12, PV y.c1, PV (x.c1 * y.c1), pt (L0.b 0) 24, PV x.c2, pt (L0.b 1) 24, PV y.c2, PV (x.c2 * y.c2), pt (L0.b 0) 0, PV x.c0, pt (L0.b 0) 12, PV x.c1, pt (L0.b 1) 0, PV y.c0, pt (L0.b 1) 12, PV y.c1, PV (x.c0 * y.c0), PV (x.c1 * y.c1), PV ((x.c0 + x.c1) * (y.c0 + y.c1) - (x.c0 * y.c0) - (x.c1 * y.c1)), pt (L0.b 0) 0, PV x.c0, pt (L0.b 0) 24, PV x.c2, pt (L0.b 1) 0, PV y.c0, pt (L0.b 1) 24, PV y.c2, PV (x.c0 * y.c0), PV (x.c2 * y.c2), PV ((x.c0 + x.c2) * (y.c0 + y.c2) - (x.c0 * y.c0) - (x.c2 * y.c2)), pt (L0.b 0) 12, PV x.c1, pt (L0.b 0) 24, PV x.c2, pt (L0.b 1) 12, PV y.c1, pt (L0.b 1) 24, PV y.c2, PV (x.c1 * y.c1), PV (x.c2 * y.c2), PV ((x.c1 + x.c2) * (y.c1 + y.c2) - (x.c1 * y.c1) - (x.c2 * y.c2))] ++ U 12) (fun L => [((L0.b 0), C6 x), ((L0.b 1), C6 y), ((L0.b 2), C6 0), ((L1.b 15), PC (x.c0 * y.c0)), ((L1.b 16), PC (x.c1 * y.c1)), ((L1.b 17), PC (x.c2 * y.c2)), ((L2.b 11), PC ((x.c0 + x.c1) * (y.c0 + y.c1) - (x.c0 * y.c0) - (x.c1 * y.c1))), ((L3.b 11), PC ((x.c0 + x.c2) * (y.c0 + y.c2) - (x.c0 * y.c0) - (x.c2 * y.c2))), (L.b 11, PC ((x.c1 + x.c2) * (y.c1 + y.c2) - (x.c1 * y.c1) - (x.c2 * y.c2)))]) hp4 ⟨
    oI a6, oL 0 12 rP, oI a6, oL 0 24 rP, oI a6, oL 1 12 rP, oI a6, oL 1 24 rP, oL 4 0 rP, oL 5 0 rP, oC K.stay hg (fp6crossed K x.c1 x.c2 y.c1 y.c2 (x.c1 * y.c1) (x.c2 * y.c2)),
    oZ rP, oT rP,
    trivial⟩ (fun L4 w5 hp5 => ?_)
  refine k5 _ _ ?_
  refine wp_seq_k (fun K6 k6 => ?_)
  refine dr [.det (PV (x.c0 * y.c0)), .det (PV ((x.c1 + x.c2) * (y.c1 + y.c2) - (x.c1 * y.c1) - (x.c2 * y.c2))), .det (PV (((x.c1 + x.c2) * (y.c1 + y.c2) - (x.c1 * y.c1) - (x.c2 * y.c2)) * xi)), .det (PV ((x.c0 * y.c0) + (((x.c1 + x.c2) * (y.c1 + y.c2) - (x.c1 * y.c1) - (x.c2 * y.c2)) * xi))), .det (PV ((x.c0 + x.c1) * (y.c0 + y.c1) - (x.c0 * y.c0) - (x.c1 * y.c1))), .det (PV (x.c2 * y.c2)), .det (PV ((x.c2 * y.c2) * xi)), .det (PV (((x.c0 + x.c1) * (y.c0 + y.c1) - (x.c0 * y.c0) - (x.c1 * y.c1)) + ((x.c2 * y.c2) * xi))), .det (PV ((x.c0 + x.c2) * (y.c0 + y.c2) - (x.c0 * y.c0) - (x.c2 * y.c2))), .det (PV (x.c1 * y.c1)), .det (PV (((x.c0 + x.c2) * (y.c0 + y.c2) - (x.c0 * y.c0) - (x.c2 * y.c2)) + (x.c1 * y.c1))), .det (V6 ⟨((x.c0 * y.c0) + (((x.c1 + x.c2) * (y.c1 + y.c2) - (x.c1 * y.c1) - (x.c2 * y.c2)) * xi)), (((x.c0 + x.c1) * (y.c0 + y.c1) - (x.c0 * y.c0) - (x.c1 * y.c1)) + ((x.c2 * y.c2) * xi)), (((x.c0 + x.c2) * (y.c0 + y.c2) - (x.c0 * y.c0) - (x.c2 * y.c2)) + (x.c1 * y.c1))⟩), .store (.base 2) 0 (C6 ⟨((x.c0 * y.c0) + (((x.c1 + x.c2) * (y.c1 + y.c2) - (x.c1 * y.c1) - (x.c2 * y.c2)) * xi)), (((x.c0 + x.c1) * (y.c0 + y.c1) - (x.c0 * y.c0) - (x.c1 * y.c1)) + ((x.c2 * y.c2) * xi)), (((x.c0 + x.c2) * (y.c0 + y.c2) - (x.c0 * y.c0) - (x.c2 * y.c2)) + (x.c1 * y.c1))⟩) (C6 ⟨((x.c0 * y.c0) + (((x.c1 + x.c2) * (y.c1 + y.c2) - (x.c1 * y.c1) - (x.c2 * y.c2)) * xi)), (((x.c0 + x.c1) * (y.c0 + y.c1) - (x.c0 * y.c0) - (x.c1 * y.c1)) + ((x.c2 * y.c2) * xi)), (((x.c0 + x.c2) * (y.c0 + y.c2) - (x.c0 * y.c0) - (x.c2 * y.c2)) + (x.c1 * y.c1))⟩)] [0, 1, 2, 3, 4, 5, 6, 7, 8, 9, 10, 11, 12] [0, 0, 2, 7, 0, 0, 47, 127, 0, 0, 1023, 2047, 4095] (fun L => [V6 x, V6 y, pt (L0.b 0) 0, pt (L0.b 1) 0, pt (L0.b 2) 0, pt (L1.b 15) 0, pt (L1.b 16) 0, pt (L1.b 17) 0, pt (L2.b 11) 0, pt (L3.b 11) 0, pt (L4.b 11) 0, pt (L0.b 0) 0, PV x.c0, pt (L0.b 1) 0, PV y.c0, PV (x.c0 * y.c0), pt (L0.b 0) 12, PV x.c1, pt (L0.b 1) 12, PV y.c1, PV (x.c1 * y.c1), pt (L0.b 0) 24, PV x.c2, pt (L0.b 1) 24, PV y.c2, PV (x.c2 * y.c2), pt (L0.b 0) 0, PV x.c0, pt (L0.b 0) 12, PV x.c1, pt (L0.b 1) 0, PV y.c0, pt (L0.b 1) 12, PV y.c1, PV (x.c0 * y.c0), PV (x.c1 * y.c1), PV ((x.c0 + x.c1) * (y.c0 + y.c1) - (x.c0 * y.c0) - (x.c1 * y.c1)), pt (L0.b 0) 0, PV x.c0, pt (L0.b 0) 24, PV x.c2, pt (L0.b 1) 0, PV y.c0, pt (L0.b 1) 24, PV y.c2, PV (x.c0 * y.c0), PV (x.c2 * y.c2), PV ((x.c0 + x.c2) * (y.c0 + y.c2) - (x.c0 * y.c0) - (x.c2 * y.c2)), pt (L0.b 0) 12, PV x.c1, pt (L0.b 0) 24, PV x.c2, pt (L0.b 1) 12, PV y.c1, pt (L0.b 1) 24, PV y.c2, PV (x.c1 * y.c1), PV (x.c2 * y.c2), PV ((x.c1 + x.c2) * (y.c1 + y.c2) - (x.c1 * y.c1) - (x.c2 * y.c2)), PV (x.c0 * y.c0), PV ((x.c1 + x.c2) * (y.c1 + y.c2) - (x.c1 * y.c1) - (x.c2 * y.c2)), PV (((x.c1 + x.c2) * (y.c1 + y.c2) - (x.c1 * y.c1) - (x.c2 * y.c2)) * xi), PV ((x.c0 * y.c0) + (((x.c1 + x.c2) * (y.c1 + y.c2) - (x.c1 * y.c1) - (x.c2 * y.c2)) * xi)), PV ((x.c0 + x.c1) * (y.c0 + y.c1) - (x.c0 * y.c0) - (x.c1 * y.c1)), PV (x.c2 * y.c2), PV ((x.c2 * y.c2) * xi), PV (((x.c0 + x.c1) * (y.c0 + y.c1) - (x.c0 * y.c0) - (x.c1 * y.c1)) + ((x.c2 * y.c2) * xi)), PV ((x.c0 + x.c2) * (y.c0 + y.c2) - (x.c0 * y.c0) - (x.c2 * y.c2)), PV (x.c1 * y.c1), PV (((x.c0 + x.c2) * (y.c0 + y.c2) - (x.c0 * y.c0) - (x.c2 * y.c2)) + (x.c1 * y.c1)), V6 ⟨((x.c0 * y.c0) + (((x.c1 + x.c2) * (y.c1 + y.c2) - (x.c1 * y.c1) - (x.c2 * y.c2)) * xi)), (((x.c0 + x.c1) * (y.c0 + y.c1) - (x.c0 * y.c0) - (x.c1 * y.c1)) + ((x.c2 * y.c2) * xi)), (((x.c0 + x.c2) * (y.c0 + y.c2) - (x.c0 * y.c0) - (x.c2 * y.c2)) + (x.c1 * y.c1))⟩]) (fun L => [((L0.b 0), C6 x), ((L0.b 1), C6 y), ((L0.b 2), C6 ⟨((x.c0 * y.c0) + (((x.c1 + x.c2) * (y.c1 + y.c2) - (x.c1 * y.c1) - (x.c2 * y.c2)) * xi)), (((x.c0 + x.c1) * (y.c0 + y.c1) - (x.c0 * y.c0) - (x.c1 * y.c1)) + ((x.c2 * y.c2) * xi)), (((x.c0 + x.c2) * (y.c0 + y.c2) - (x.c0 * y.c0) - (x.c2 * y.c2)) + (x.c1 * y.c1))⟩), ((L1.b 15), PC (x.c0 * y.c0)), ((L1.b 16), PC (x.c1 * y.c1)), ((L1.b 17), PC (x.c2 * y.c2)), ((L2.b 11), PC ((x.c0 + x.c1) * (y.c0 + y.c1) - (x.c0 * y.c0) - (x.c1 * y.c1))), ((L3.b 11), PC ((x.c0 + x.c2) * (y.c0 + y.c2) - (x.c0 * y.c0) - (x.c2 * y.c2))), ((L4.b 11), PC ((x.c1 + x.c2) * (y.c1 + y.c2) - (x.c1 * y.c1) - (x.c2 * y.c2)))]) hp5 ⟨
    oL 3 0 rP, oL 8 0 rP, oC K.stay hg (fp6lift K ((x.c1 + x.c2) * (y.c1 + y.c2) - (x.c1 * y.c1) - (x.c2 * y.c2))), oC K.stay hg (fp2Add K (x.c0 * y.c0) (((x.c1 + x.c2) * (y.c1 + y.c2) - (x.c1 * y.c1) - (x.c2 * y.c2)) * xi)),
    oL 6 0 rP, oL 5 0 rP, oC K.stay hg (fp6lift K (x.c2 * y.c2)), oC K.stay hg (fp2Add K ((x.c0 + x.c1) * (y.c0 + y.c1) - (x.c0 * y.c0) - (x.c1 * y.c1)) ((x.c2 * y.c2) * xi)),
    oL 7 0 rP, oL 4 0 rP, oC K.stay hg (fp2Add K ((x.c0 + x.c2) * (y.c0 + y.c2) - (x.c0 * y.c0) - (x.c2 * y.c2)) (x.c1 * y.c1)), oD (build6012 ((x.c0 * y.c0) + (((x.c1 + x.c2) * (y.c1 + y.c2) - (x.c1 * y.c1) - (x.c2 * y.c2)) * xi)) (((x.c0 + x.c1) * (y.c0 + y.c1) - (x.c0 * y.c0) - (x.c1 * y.c1)) + ((x.c2 * y.c2) * xi)) (((x.c0 + x.c2) * (y.c0 + y.c2) - (x.c0 * y.c0) - (x.c2 * y.c2)) + (x.c1 * y.c1))),
    oT r6,
    trivial⟩ (fun L5 w6 hp6 => ?_)
  refine k6 _ _ ?_
  refine wp_ret ?_
  refine bodyPost_ret (v := V6 ⟨((x.c0 * y.c0) + (((x.c1 + x.c2) * (y.c1 + y.c2) - (x.c1 * y.c1) - (x.c2 * y.c2)) * xi)), (((x.c0 + x.c1) * (y.c0 + y.c1) - (x.c0 * y.c0) - (x.c1 * y.c1)) + ((x.c2 * y.c2) * xi)), (((x.c0 + x.c2) * (y.c0 + y.c2) - (x.c0 * y.c0) - (x.c2 * y.c2)) + (x.c1 * y.c1))⟩) ?_ rfl ?_
  · exact rc r6 rfl (by kernel_rfl) (hp6.bound 2 rfl).2
  · exact ⟨congrArg (fun z => Ending.returned (V6 z)) (F6.ext' (rs0 (x.c0) (x.c1) (x.c2) (y.c0) (y.c1) (y.c2) (xi)) (rs1 (x.c0) (x.c1) (x.c2) (y.c0) (y.c1) (y.c2) (xi)) (rs2 (x.c0) (x.c1) (x.c2) (y.c0) (y.c1) (y.c2))), hp6.bel⟩
set_option maxHeartbeats 4000000 in
theorem fp6Up {G : World → Prop} (K : FpK G) (x : F6) (w : World) (hg : G w) : Calls Tryd.prog 39 #[V6 x] w (Ret (V6 x.up) w) := by
  have hp0 := Heap.start w
  go_enter Tryd.func39, Tryd.ntmps39
  refine wp_seq_k (fun K1 k1 => ?_)
  refine gs [.alloc (C6 x), .alloc (C6 0)] [0, 1] [0, 0] (fun L => [V6 x, pt (L.b 0) 0, pt (L.b 1) 0] ++ U 8) (fun L => [(L.b 0, C6 x), (L.b 1, C6 0)]) hp0 ⟨
    oB, oZ r6,
    trivial⟩ (fun L0 w1 hp1 => ?_)
  refine k1 _ _ ?_
  refine wp_seq_k (fun K2 k2 => ?_)
  refine dr [.det (pt (L0.b 0) 24), .det (PV x.c2), .det (PV (x.c2 * xi)), .det (pt (L0.b 0) 0), .det (PV x.c0), .det (pt (L0.b 0) 12), .det (PV x.c1), .det (V6 ⟨(x.c2 * xi), x.c0, x.c1⟩), .store (.base 1) 0 (C6 ⟨(x.c2 * xi), x.c0, x.c1⟩) (C6 ⟨(x.c2 * xi), x.c0, x.c1⟩)] [0, 1, 2, 3, 4, 5, 6, 7, 8] [0, 1, 3, 0, 8, 0, 32, 127, 255] (fun L => [V6 x, pt (L0.b 0) 0, pt (L0.b 1) 0, pt (L0.b 0) 24, PV x.c2, PV (x.c2 * xi), pt (L0.b 0) 0, PV x.c0, pt (L0.b 0) 12, PV x.c1, V6 ⟨(x.c2 * xi), x.c0, x.c1⟩]) (fun L => [((L0.b 0), C6 x), ((L0.b 1), C6 ⟨(x.c2 * xi), x.c0, x.c1⟩)]) hp1 ⟨
    oI a6, oL 0 24 rP, oC K.stay hg (fp6lift K x.c2), oI a6, oL 0 0 rP, oI a6, oL 0 12 rP, oD (build6012 (x.c2 * xi) x.c0 x.c1), oT r6,
    trivial⟩ (fun L1 w2 hp2 => ?_)
  refine k2 _ _ ?_
  refine wp_ret ?_
  refine bodyPost_ret (v := V6 ⟨(x.c2 * xi), x.c0, x.c1⟩) ?_ rfl ?_
  · exact rc r6 rfl (by kernel_rfl) (hp2.bound 1 rfl).2
  · exact ⟨rfl, hp2.bel⟩
set_option maxHeartbeats 4000000 in
theorem fp6mate {G : World → Prop} (K : FpK G) (x : F6) (w : World) (hg : G w) : Calls Tryd.prog 48 #[V6 x] w (Ret (V6 ⟨x.a0, x.a1, x.a2⟩) w) := by
  have hp0 := Heap.start w
  go_enter Tryd.func48, Tryd.ntmps48
  refine wp_seq_k (fun K1 k1 => ?_)
  refine gs [.alloc (C6 x), .alloc (C6 0)] [0, 1] [0, 0] (fun L => [V6 x, pt (L.b 0) 0, pt (L.b 1) 0] ++ U 36) (fun L => [(L.b 0, C6 x), (L.b 1, C6 0)]) hp0 ⟨
    oB, oZ r6,
    trivial⟩ (fun L0 w1 hp1 => ?_)
  refine k1 _ _ ?_
  refine wp_seq_k (fun K2 k2 => ?_)
  refine dr [.det (pt (L0.b 0) 0), .det (PV x.c0), .det (pt (L0.b 0) 0), .det (PV x.c0), .det (PV (x.c0 * x.c0)), .det (pt (L0.b 0) 12), .det (PV x.c1), .det (pt (L0.b 0) 24), .det (PV x.c2), .det (PV (x.c1 * x.c2)), .det (PV ((x.c1 * x.c2) * xi)), .det (PV ((x.c0 * x.c0) - ((x.c1 * x.c2) * xi))), .det (pt (L0.b 0) 24), .det (PV x.c2), .det (pt (L0.b 0) 24), .det (PV x.c2), .det (PV (x.c2 * x.c2)), .det (PV ((x.c2 * x.c2) * xi)), .det (pt (L0.b 0) 0), .det (PV x.c0), .det (pt (L0.b 0) 12), .det (PV x.c1), .det (PV (x.c0 * x.c1)), .det (PV (((x.c2 * x.c2) * xi) - (x.c0 * x.c1))), .det (pt (L0.b 0) 12), .det (PV x.c1), .det (pt (L0.b 0) 12), .det (PV x.c1), .det (PV (x.c1 * x.c1)), .det (pt (L0.b 0) 0), .det (PV x.c0), .det (pt (L0.b 0) 24), .det (PV x.c2), .det (PV (x.c0 * x.c2)), .det (PV ((x.c1 * x.c1) - (x.c0 * x.c2))), .det (V6 ⟨((x.c0 * x.c0) - ((x.c1 * x.c2) * xi)), (((x.c2 * x.c2) * xi) - (x.c0 * x.c1)), ((x.c1 * x.c1) - (x.c0 * x.c2))⟩), .store (.base 1) 0 (C6 ⟨((x.c0 * x.c0) - ((x.c1 * x.c2) * xi)), (((x.c2 * x.c2) * xi) - (x.c0 * x.c1)), ((x.c1 * x.c1) - (x.c0 * x.c2))⟩) (C6 ⟨((x.c0 * x.c0) - ((x.c1 * x.c2) * xi)), (((x.c2 * x.c2) * xi) - (x.c0 * x.c1)), ((x.c1 * x.c1) - (x.c0 * x.c2))⟩)] [0, 1, 2, 3, 4, 5, 6, 7, 8, 9, 10, 11, 12, 13, 14, 15, 16, 17, 18, 19, 20, 21, 22, 23, 24, 25, 26, 27, 28, 29, 30, 31, 32, 33, 34, 35, 36] [0, 1, 0, 4, 15, 0, 32, 0, 128, 511, 1023, 2047, 0, 4096, 0, 16384, 65535, 131071, 0, 262144, 0, 1048576, 4194303, 8388607, 0, 16777216, 0, 67108864, 268435455, 0, 536870912, 0, 2147483648, 8589934591, 17179869183, 34359738367, 68719476735] (fun L => [V6 x, pt (L0.b 0) 0, pt (L0.b 1) 0, pt (L0.b 0) 0, PV x.c0, pt (L0.b 0) 0, PV x.c0, PV (x.c0 * x.c0), pt (L0.b 0) 12, PV x.c1, pt (L0.b 0) 24, PV x.c2, PV (x.c1 * x.c2), PV ((x.c1 * x.c2) * xi), PV ((x.c0 * x.c0) - ((x.c1 * x.c2) * xi)), pt (L0.b 0) 24, PV x.c2, pt (L0.b 0) 24, PV x.c2, PV (x.c2 * x.c2), PV ((x.c2 * x.c2) * xi), pt (L0.b 0) 0, PV x.c0, pt (L0.b 0) 12, PV x.c1, PV (x.c0 * x.c1), PV (((x.c2 * x.c2) * xi) - (x.c0 * x.c1)), pt (L0.b 0) 12, PV x.c1, pt (L0.b 0) 12, PV x.c1, PV (x.c1 * x.c1), pt (L0.b 0) 0, PV x.c0, pt (L0.b 0) 24, PV x.c2, PV (x.c0 * x.c2), PV ((x.c1 * x.c1) - (x.c0 * x.c2)), V6 ⟨((x.c0 * x.c0) - ((x.c1 * x.c2) * xi)), (((x.c2 * x.c2) * xi) - (x.c0 * x.c1)), ((x.c1 * x.c1) - (x.c0 * x.c2))⟩]) (fun L => [((L0.b 0), C6 x), ((L0.b 1), C6 ⟨((x.c0 * x.c0) - ((x.c1 * x.c2) * xi)), (((x.c2 * x.c2) * xi) - (x.c0 * x.c1)), ((x.c1 * x.c1) - (x.c0 * x.c2))⟩)]) hp1 ⟨
    oI a6, oL 0 0 rP, oI a6, oL 0 0 rP, oC K.stay hg (fp2Mul K x.c0 x.c0), oI a6, oL 0 12 rP, oI a6, oL 0 24 rP, oC K.stay hg (fp2Mul K x.c1 x.c2), oC K.stay hg (fp6lift K (x.c1 * x.c2)),
    oC K.stay hg (fp2Sub K (x.c0 * x.c0) ((x.c1 * x.c2) * xi)), oI a6, oL 0 24 rP, oI a6, oL 0 24 rP, oC K.stay hg (fp2Mul K x.c2 x.c2), oC K.stay hg (fp6lift K (x.c2 * x.c2)),
    oI a6, oL 0 0 rP, oI a6, oL 0 12 rP, oC K.stay hg (fp2Mul K x.c0 x.c1), oC K.stay hg (fp2Sub K ((x.c2 * x.c2) * xi) (x.c0 * x.c1)), oI a6, oL 0 12 rP, oI a6,
    oL 0 12 rP, oC K.stay hg (fp2Mul K x.c1 x.c1), oI a6, oL 0 0 rP, oI a6, oL 0 24 rP, oC K.stay hg (fp2Mul K x.c0 x.c2), oC K.stay hg (fp2Sub K (x.c1 * x.c1) (x.c0 * x.c2)),
    oD (build6012 ((x.c0 * x.c0) - ((x.c1 * x.c2) * xi)) (((x.c2 * x.c2) * xi) - (x.c0 * x.c1)) ((x.c1 * x.c1) - (x.c0 * x.c2))), oT r6,
    trivial⟩ (fun L1 w2 hp2 => ?_)
  refine k2 _ _ ?_
  refine wp_ret ?_
  refine bodyPost_ret (v := V6 ⟨((x.c0 * x.c0) - ((x.c1 * x.c2) * xi)), (((x.c2 * x.c2) * xi) - (x.c0 * x.c1)), ((x.c1 * x.c1) - (x.c0 * x.c2))⟩) ?_ rfl ?_
  · exact rc r6 rfl (by kernel_rfl) (hp2.bound 1 rfl).2
  · exact ⟨rfl, hp2.bel⟩
set_option maxHeartbeats 4000000 in
theorem fp6norm {G : World → Prop} (K : FpK G) (x : F6) (w : World) (hg : G w) : Calls Tryd.prog 50 #[V6 x, V6 ⟨x.a0, x.a1, x.a2⟩] w (Ret (PV x.norm) w) := by
  have hp0 := Heap.start w
  go_enter Tryd.func50, Tryd.ntmps50
  refine wp_seq_k (fun K1 k1 => ?_)
  refine gs [.alloc (C6 x), .alloc (C6 ⟨x.a0, x.a1, x.a2⟩), .alloc (PC 0)] [0, 1, 2] [0, 0, 0] (fun L => [V6 x, V6 ⟨x.a0, x.a1, x.a2⟩, pt (L.b 0) 0, pt (L.b 1) 0, pt (L.b 2) 0] ++ U 20) (fun L => [(L.b 0, C6 x), (L.b 1, C6 ⟨x.a0, x.a1, x.a2⟩), (L.b 2, PC 0)]) hp0 ⟨
    oB, oB, oZ rP,
    trivial⟩ (fun L0 w1 hp1 => ?_)
  refine k1 _ _ ?_
  refine wp_seq_k (fun K2 k2 => ?_)
  refine dr [.det (pt (L0.b 0) 12), .det (PV x.c1), .det (pt (L0.b 1) 24), .det (PV x.a2), .det (PV (x.c1 * x.a2)), .det (pt (L0.b 0) 24), .det (PV x.c2), .det (pt (L0.b 1) 12), .det (PV x.a1), .det (PV (x.c2 * x.a1)), .det (PV ((x.c1 * x.a2) + (x.c2 * x.a1))), .alloc (PC 0), .store (.new 11) 0 (PC ((x.c1 * x.a2) + (x.c2 * x.a1))) (PC ((x.c1 * x.a2) + (x.c2 * x.a1)))] [0, 1, 2, 3, 4, 5, 6, 7, 8, 9, 10, 11, 12] [0, 1, 0, 4, 15, 0, 32, 0, 128, 511, 1023, 0, 4095] (fun L => [V6 x, V6 ⟨x.a0, x.a1, x.a2⟩, pt (L0.b 0) 0, pt (L0.b 1) 0, pt (L0.b 2) 0, pt (L.b 11) 0, pt (L0.b 0) 12, PV x.c1, pt (L0.b 1) 24, PV x.a2, PV (x.c1 * x.a2), pt (L0.b 0) 24, PV x.c2, pt (L0.b 1) 12, PV x.a1, PV (x.c2 * x.a1), PV ((x.c1 * x.a2) + (x.c2 * x.a1))] ++ U 8) (fun L => [((L0.b 0), C6 x), ((L0.b 1), C6 ⟨x.a0, x.a1, x.a2⟩), ((L0.b 2), PC 0), (L.b 11, PC ((x.c1 * x.a2) + (x.c2 * x.a1)))]) hp1 ⟨
    oI a6, oL 0 12 rP, oI a6, oL 1 24 rP, oC K.stay hg (fp2Mul K x.c1 x.a2), oI a6, oL 0 24 rP, oI a6, oL 1 12 rP, oC K.stay hg (fp2Mul K x.c2 x.a1), oC K.stay hg (fp2Add K (x.c1 * x.a2) (x.c2 * x.a1)),
    oZ rP, oT rP,
    trivial⟩ (fun L1 w2 hp2 => ?_)
  refine k2 _ _ ?_
  refine wp_seq_k (fun K3 k3 => ?_)
  refine dr [.det (pt (L0.b 0) 0), .det (PV x.c0), .det (pt (L0.b 1) 0), .det (PV x.a0), .det (PV (x.c0 * x.a0)), .det (PV ((x.c1 * x.a2) + (x.c2 * x.a1))), .det (PV (((x.c1 * x.a2) + (x.c2 * x.a1)) * xi)), .det (PV ((x.c0 * x.a0) + (((x.c1 * x.a2) + (x.c2 * x.a1)) * xi))), .store (.base 2) 0 (PC ((x.c0 * x.a0) + (((x.c1 * x.a2) + (x.c2 * x.a1)) * xi))) (PC ((x.c0 * x.a0) + (((x.c1 * x.a2) + (x.c2 * x.a1)) * xi)))] [0, 1, 2, 3, 4, 5, 6, 7, 8] [0, 1, 0, 4, 15, 0, 63, 127, 255] (fun L => [V6 x, V6 ⟨x.a0, x.a1, x.a2⟩, pt (L0.b 0) 0, pt (L0.b 1) 0, pt (L0.b 2) 0, pt (L1.b 11) 0, pt (L0.b 0) 12, PV x.c1, pt (L0.b 1) 24, PV x.a2, PV (x.c1 * x.a2), pt (L0.b 0) 24, PV x.c2, pt (L0.b 1) 12, PV x.a1, PV (x.c2 * x.a1), PV ((x.c1 * x.a2) + (x.c2 * x.a1)), pt (L0.b 0) 0, PV x.c0, pt (L0.b 1) 0, PV x.a0, PV (x.c0 * x.a0), PV ((x.c1 * x.a2) + (x.c2 * x.a1)), PV (((x.c1 * x.a2) + (x.c2 * x.a1)) * xi), PV ((x.c0 * x.a0) + (((x.c1 * x.a2) + (x.c2 * x.a1)) * xi))]) (fun L => [((L0.b 0), C6 x), ((L0.b 1), C6 ⟨x.a0, x.a1, x.a2⟩), ((L0.b 2), PC ((x.c0 * x.a0) + (((x.c1 * x.a2) + (x.c2 * x.a1)) * xi))), ((L1.b 11), PC ((x.c1 * x.a2) + (x.c2 * x.a1)))]) hp2 ⟨
    oI a6, oL 0 0 rP, oI a6, oL 1 0 rP, oC K.stay hg (fp2Mul K x.c0 x.a0), oL 3 0 rP, oC K.stay hg (fp6lift K ((x.c1 * x.a2) + (x.c2 * x.a1))), oC K.stay hg (fp2Add K (x.c0 * x.a0) (((x.c1 * x.a2) + (x.c2 * x.a1)) * xi)),
    oT rP,
    trivial⟩ (fun L2 w3 hp3 => ?_)
  refine k3 _ _ ?_
  refine wp_ret ?_
  refine bodyPost_ret (v := PV ((x.c0 * x.a0) + (((x.c1 * x.a2) + (x.c2 * x.a1)) * xi))) ?_ rfl ?_
  · exact rc rP rfl (by kernel_rfl) (hp3.bound 2 rfl).2
  · exact ⟨congrArg (fun z => Ending.returned (PV z)) (rs3 (x.c0) (x.c1) (x.c2) (x.a0) (x.a1) (x.a2) (xi)), hp3.bel⟩
set_option maxHeartbeats 4000000 in
theorem fp6scale {G : World → Prop} (K : FpK G) (x : F6) (w : World) (hg : G w) : Calls Tryd.prog 51 #[V6 ⟨x.a0, x.a1, x.a2⟩, PV x.norm.inv] w (Ret (V6 x.inv) w) := by
  have hp0 := Heap.start w
  go_enter Tryd.func51, Tryd.ntmps51
  refine wp_seq_k (fun K1 k1 => ?_)
  refine gs [.alloc (C6 ⟨x.a0, x.a1, x.a2⟩), .alloc (PC x.norm.inv), .alloc (C6 0)] [0, 1, 2] [0, 0, 0] (fun L => [V6 ⟨x.a0, x.a1, x.a2⟩, PV x.norm.inv, pt (L.b 0) 0, pt (L.b 1) 0, pt (L.b 2) 0] ++ U 13) (fun L => [(L.b 0, C6 ⟨x.a0, x.a1, x.a2⟩), (L.b 1, PC x.norm.inv), (L.b 2, C6 0)]) hp0 ⟨
    oB, oB, oZ r6,
    trivial⟩ (fun L0 w1 hp1 => ?_)
  refine k1 _ _ ?_
  refine wp_seq_k (fun K2 k2 => ?_)
  refine dr [.det (pt (L0.b 0) 0), .det (PV x.a0), .det (PV x.norm.inv), .det (PV (x.a0 * x.norm.inv)), .det (pt (L0.b 0) 12), .det (PV x.a1), .det (PV x.norm.inv), .det (PV (x.a1 * x.norm.inv)), .det (pt (L0.b 0) 24), .det (PV x.a2), .det (PV x.norm.inv), .det (PV (x.a2 * x.norm.inv)), .det (V6 ⟨(x.a0 * x.norm.inv), (x.a1 * x.norm.inv), (x.a2 * x.norm.inv)⟩), .store (.base 2) 0 (C6 ⟨(x.a0 * x.norm.inv), (x.a1 * x.norm.inv), (x.a2 * x.norm.inv)⟩) (C6 ⟨(x.a0 * x.norm.inv), (x.a1 * x.norm.inv), (x.a2 * x.norm.inv)⟩)] [0, 1, 2, 3, 4, 5, 6, 7, 8, 9, 10, 11, 12, 13] [0, 1, 0, 7, 0, 16, 0, 127, 0, 256, 0, 2047, 4095, 8191] (fun L => [V6 ⟨x.a0, x.a1, x.a2⟩, PV x.norm.inv, pt (L0.b 0) 0, pt (L0.b 1) 0, pt (L0.b 2) 0, pt (L0.b 0) 0, PV x.a0, PV x.norm.inv, PV (x.a0 * x.norm.inv), pt (L0.b 0) 12, PV x.a1, PV x.norm.inv, PV (x.a1 * x.norm.inv), pt (L0.b 0) 24, PV x.a2, PV x.norm.inv, PV (x.a2 * x.norm.inv), V6 ⟨(x.a0 * x.norm.inv), (x.a1 * x.norm.inv), (x.a2 * x.norm.inv)⟩]) (fun L => [((L0.b 0), C6 ⟨x.a0, x.a1, x.a2⟩), ((L0.b 1), PC x.norm.inv), ((L0.b 2), C6 ⟨(x.a0 * x.norm.inv), (x.a1 * x.norm.inv), (x.a2 * x.norm.inv)⟩)]) hp1 ⟨
    oI a6, oL 0 0 rP, oL 1 0 rP, oC K.stay hg (fp2Mul K x.a0 x.norm.inv), oI a6, oL 0 12 rP, oL 1 0 rP, oC K.stay hg (fp2Mul K x.a1 x.norm.inv), oI a6, oL 0 24 rP,
    oL 1 0 rP, oC K.stay hg (fp2Mul K x.a2 x.norm.inv), oD (build6012 (x.a0 * x.norm.inv) (x.a1 * x.norm.inv) (x.a2 * x.norm.inv)), oT r6,
    trivial⟩ (fun L1 w2 hp2 => ?_)
  refine k2 _ _ ?_
  refine wp_ret ?_
  refine bodyPost_ret (v := V6 ⟨(x.a0 * x.norm.inv), (x.a1 * x.norm.inv), (x.a2 * x.norm.inv)⟩) ?_ rfl ?_
  · exact rc r6 rfl (by kernel_rfl) (hp2.bound 2 rfl).2
  · exact ⟨rfl, hp2.bel⟩
set_option maxHeartbeats 4000000 in
theorem fp6Inv {G : World → Prop} (K : FpK G) (x : F6) (w : World) (hg : G w) (hn : x.norm ≠ 0) : Calls Tryd.prog 27 #[V6 x] w (Ret (.tuple #[V6 x.inv, .int .i64 0]) w) := by
  have hp0 := Heap.start w
  go_enter Tryd.func27, Tryd.ntmps27
  refine wp_seq_k (fun K1 k1 => ?_)
  refine gs [.alloc (C6 x), .alloc (C6 0), .det (.int .i64 0)] [0, 1, 2] [0, 0, 0] (fun L => [V6 x, pt (L.b 0) 0, pt (L.b 1) 0, .int .i64 0] ++ U 19) (fun L => [(L.b 0, C6 x), (L.b 1, C6 0)]) hp0 ⟨
    oB, oZ r6, oA,
    trivial⟩ (fun L0 w1 hp1 => ?_)
  refine k1 _ _ ?_
  refine wp_seq_k (fun K2 k2 => ?_)
  refine gs [.det (V6 x), .det (V6 ⟨x.a0, x.a1, x.a2⟩), .alloc (C6 0), .store (.new 2) 0 (C6 ⟨x.a0, x.a1, x.a2⟩) (C6 ⟨x.a0, x.a1, x.a2⟩)] [0, 1, 2, 3] [0, 1, 0, 7] (fun L => [V6 x, pt (L0.b 0) 0, pt (L0.b 1) 0, .int .i64 0, pt (L.b 2) 0, undef, undef, V6 x, V6 ⟨x.a0, x.a1, x.a2⟩] ++ U 14) (fun L => [((L0.b 0), C6 x), ((L0.b 1), C6 0), (L.b 2, C6 ⟨x.a0, x.a1, x.a2⟩)]) hp1 ⟨
    oL 0 0 r6, oC K.stay hg (fp6mate K x), oZ r6, oT r6,
    trivial⟩ (fun L1 w2 hp2 => ?_)
  refine k2 _ _ ?_
  refine wp_seq_k (fun K3 k3 => ?_)
  refine gs [.det (V6 x), .det (V6 ⟨x.a0, x.a1, x.a2⟩), .det (PV x.norm), .det (.tuple #[PV x.norm.inv, .int .i64 0]), .det (.tuple #[PV x.norm.inv, .int .i64 0]), .det (PV x.norm.inv), .det (.int .i64 0), .alloc (PC 0), .store (.new 7) 0 (PC x.norm.inv) (PC x.norm.inv), .det (.int .i64 0)] [0, 1, 2, 3, 4, 5, 6, 7, 8, 9] [0, 0, 3, 7, 15, 31, 31, 0, 191, 511] (fun L => [V6 x, pt (L0.b 0) 0, pt (L0.b 1) 0, .int .i64 0, pt (L1.b 2) 0, pt (L.b 7) 0, .int .i64 0, V6 x, V6 ⟨x.a0, x.a1, x.a2⟩, .tuple #[PV x.norm.inv, .int .i64 0], V6 x, V6 ⟨x.a0, x.a1, x.a2⟩, PV x.norm, .tuple #[PV x.norm.inv, .int .i64 0], PV x.norm.inv, .int .i64 0] ++ U 7) (fun L => [((L0.b 0), C6 x), ((L0.b 1), C6 0), ((L1.b 2), C6 ⟨x.a0, x.a1, x.a2⟩), (L.b 7, PC x.norm.inv)]) hp2 ⟨
    oL 0 0 r6, oL 2 0 r6, oC K.stay hg (fp6norm K x), oH (v := .tuple #[PV x.norm.inv, .int .i64 0]) (vs := #[PV x.norm]) (fun w hb _ => fp2Inv K x.norm w (K.stay hg hb) (F2.norm_ne hn)),
    oM, oX, oX, oZ rP, oT rP, oA,
    trivial⟩ (fun L2 w3 hp3 => ?_)
  refine k3 _ _ ?_
  refine wp_seq_k (fun K4 k4 => ?_)
  refine wp_seq_k (fun K5 k5 => ?_)
  refine gs [.det (.int .i64 0), .det (.bool false)] [0, 1] [0, 1] (fun L => [V6 x, pt (L0.b 0) 0, pt (L0.b 1) 0, .int .i64 0, pt (L1.b 2) 0, pt (L2.b 7) 0, .int .i64 0, V6 x, V6 ⟨x.a0, x.a1, x.a2⟩, .tuple #[PV x.norm.inv, .int .i64 0], V6 x, V6 ⟨x.a0, x.a1, x.a2⟩, PV x.norm, .tuple #[PV x.norm.inv, .int .i64 0], PV x.norm.inv, .int .i64 0, .int .i64 0, .bool false] ++ U 5) (fun L => [((L0.b 0), C6 x), ((L0.b 1), C6 0), ((L1.b 2), C6 ⟨x.a0, x.a1, x.a2⟩), ((L2.b 7), PC x.norm.inv)]) hp3 ⟨
    oM, oJ .i64 .i64 0 0 (h := fun w => (neqI _ _ _ _ w).trans rfl),
    trivial⟩ (fun L3 w4 hp4 => ?_)
  refine k5 _ _ ?_
  refine wp_cond_false (by kernel_rfl) ?_
  refine skips ?_
  refine k4 _ _ ?_
  refine wp_seq_k (fun K6 k6 => ?_)
  refine gs [.det (V6 ⟨x.a0, x.a1, x.a2⟩), .det (PV x.norm.inv), .det (V6 x.inv), .store (.base 1) 0 (C6 x.inv) (C6 x.inv), .det (.int .i64 0)] [0, 1, 2, 3, 4] [0, 0, 3, 7, 15] (fun L => [V6 x, pt (L0.b 0) 0, pt (L0.b 1) 0, .int .i64 0, pt (L1.b 2) 0, pt (L2.b 7) 0, .int .i64 0, V6 x, V6 ⟨x.a0, x.a1, x.a2⟩, .tuple #[PV x.norm.inv, .int .i64 0], V6 x, V6 ⟨x.a0, x.a1, x.a2⟩, PV x.norm, .tuple #[PV x.norm.inv, .int .i64 0], PV x.norm.inv, .int .i64 0, .int .i64 0, .bool false, undef, undef, V6 ⟨x.a0, x.a1, x.a2⟩, PV x.norm.inv, V6 x.inv]) (fun L => [((L0.b 0), C6 x), ((L0.b 1), C6 x.inv), ((L1.b 2), C6 ⟨x.a0, x.a1, x.a2⟩), ((L2.b 7), PC x.norm.inv)]) hp4 ⟨
    oL 2 0 r6, oL 3 0 rP, oC K.stay hg (fp6scale K x), oT r6, oA,
    trivial⟩ (fun L4 w5 hp5 => ?_)
  refine k6 _ _ ?_
  refine wp_ret ?_
  refine bodyPost_ret (v := .tuple #[V6 x.inv, .int .i64 0]) ?_ rfl ?_
  · exact rct r6 rfl (by kernel_rfl) (by kernel_rfl) (hp5.bound 1 rfl).2
  · exact ⟨rfl, hp5.bel⟩
set_option maxHeartbeats 4000000 in
theorem fp6Inv0 {G : World → Prop} (K : FpK G) (x : F6) (w : World) (hg : G w) (hn : x.norm = 0) : Calls Tryd.prog 27 #[V6 x] w (Ret (.tuple #[V6 0, .int .i64 7]) w) := by
  have hp0 := Heap.start w
  go_enter Tryd.func27, Tryd.ntmps27
  refine wp_seq_k (fun K1 k1 => ?_)
  refine gs [.alloc (C6 x), .alloc (C6 0), .det (.int .i64 0)] [0, 1, 2] [0, 0, 0] (fun L => [V6 x, pt (L.b 0) 0, pt (L.b 1) 0, .int .i64 0] ++ U 19) (fun L => [(L.b 0, C6 x), (L.b 1, C6 0)]) hp0 ⟨
    oB, oZ r6, oA,
    trivial⟩ (fun L0 w1 hp1 => ?_)
  refine k1 _ _ ?_
  refine wp_seq_k (fun K2 k2 => ?_)
  refine gs [.det (V6 x), .det (V6 ⟨x.a0, x.a1, x.a2⟩), .alloc (C6 0), .store (.new 2) 0 (C6 ⟨x.a0, x.a1, x.a2⟩) (C6 ⟨x.a0, x.a1, x.a2⟩)] [0, 1, 2, 3] [0, 1, 0, 7] (fun L => [V6 x, pt (L0.b 0) 0, pt (L0.b 1) 0, .int .i64 0, pt (L.b 2) 0, undef, undef, V6 x, V6 ⟨x.a0, x.a1, x.a2⟩] ++ U 14) (fun L => [((L0.b 0), C6 x), ((L0.b 1), C6 0), (L.b 2, C6 ⟨x.a0, x.a1, x.a2⟩)]) hp1 ⟨
    oL 0 0 r6, oC K.stay hg (fp6mate K x), oZ r6, oT r6,
    trivial⟩ (fun L1 w2 hp2 => ?_)
  refine k2 _ _ ?_
  refine wp_seq_k (fun K3 k3 => ?_)
  refine gs [.det (V6 x), .det (V6 ⟨x.a0, x.a1, x.a2⟩), .det (PV 0), .det (.tuple #[PV 0, .int .i64 7]), .det (.tuple #[PV 0, .int .i64 7]), .det (PV 0), .det (.int .i64 7), .alloc (PC 0), .store (.new 7) 0 (PC 0) (PC 0), .det (.int .i64 7)] [0, 1, 2, 3, 4, 5, 6, 7, 8, 9] [0, 0, 3, 7, 15, 31, 31, 0, 191, 511] (fun L => [V6 x, pt (L0.b 0) 0, pt (L0.b 1) 0, .int .i64 0, pt (L1.b 2) 0, pt (L.b 7) 0, .int .i64 7, V6 x, V6 ⟨x.a0, x.a1, x.a2⟩, .tuple #[PV 0, .int .i64 7], V6 x, V6 ⟨x.a0, x.a1, x.a2⟩, PV 0, .tuple #[PV 0, .int .i64 7], PV 0, .int .i64 7] ++ U 7) (fun L => [((L0.b 0), C6 x), ((L0.b 1), C6 0), ((L1.b 2), C6 ⟨x.a0, x.a1, x.a2⟩), (L.b 7, PC 0)]) hp2 ⟨
    oL 0 0 r6, oL 2 0 r6, oH (v := PV 0) (vs := #[V6 x, V6 ⟨x.a0, x.a1, x.a2⟩]) (fun w hb _ => by have h := fp6norm K x w (K.stay hg hb); rw [hn] at h; exact h),
    oH (v := .tuple #[PV 0, .int .i64 7]) (vs := #[PV 0]) (fun w hb _ => fp2Inv0 K 0 w (K.stay hg hb) norm2_0), oM, oX, oX, oZ rP, oT rP, oA,
    trivial⟩ (fun L2 w3 hp3 => ?_)
  refine k3 _ _ ?_
  refine wp_seq_k (fun K4 k4 => ?_)
  refine wp_seq_k (fun K5 k5 => ?_)
  refine gs [.det (.int .i64 7), .det (.bool true)] [0, 1] [0, 1] (fun L => [V6 x, pt (L0.b 0) 0, pt (L0.b 1) 0, .int .i64 0, pt (L1.b 2) 0, pt (L2.b 7) 0, .int .i64 7, V6 x, V6 ⟨x.a0, x.a1, x.a2⟩, .tuple #[PV 0, .int .i64 7], V6 x, V6 ⟨x.a0, x.a1, x.a2⟩, PV 0, .tuple #[PV 0, .int .i64 7], PV 0, .int .i64 7, .int .i64 7, .bool true] ++ U 5) (fun L => [((L0.b 0), C6 x), ((L0.b 1), C6 0), ((L1.b 2), C6 ⟨x.a0, x.a1, x.a2⟩), ((L2.b 7), PC 0)]) hp3 ⟨
    oM, oJ .i64 .i64 7 0 (h := fun w => (neqI _ _ _ _ w).trans rfl),
    trivial⟩ (fun L3 w4 hp4 => ?_)
  refine k5 _ _ ?_
  refine wp_cond_true (by kernel_rfl) ?_
  refine wp_seq_k (fun K6 k6 => ?_)
  refine gs [.det (V6 0), .det (.int .i64 7), .store (.base 1) 0 (C6 0) (C6 0), .det (.int .i64 7)] [0, 1, 2, 3] [0, 0, 1, 7] (fun L => [V6 x, pt (L0.b 0) 0, pt (L0.b 1) 0, .int .i64 7, pt (L1.b 2) 0, pt (L2.b 7) 0, .int .i64 7, V6 x, V6 ⟨x.a0, x.a1, x.a2⟩, .tuple #[PV 0, .int .i64 7], V6 x, V6 ⟨x.a0, x.a1, x.a2⟩, PV 0, .tuple #[PV 0, .int .i64 7], PV 0, .int .i64 7, .int .i64 7, .bool true, V6 0, .int .i64 7, undef, undef, undef]) (fun L => [((L0.b 0), C6 x), ((L0.b 1), C6 0), ((L1.b 2), C6 ⟨x.a0, x.a1, x.a2⟩), ((L2.b 7), PC 0)]) hp4 ⟨
    oD build6n, oM, oT r6, oA,
    trivial⟩ (fun L4 w5 hp5 => ?_)
  refine k6 _ _ ?_
  refine wp_ret ?_
  refine bodyPost_ret (v := .tuple #[V6 0, .int .i64 7]) ?_ rfl ?_
  · exact rct r6 rfl (by kernel_rfl) (by kernel_rfl) (hp5.bound 1 rfl).2
  · exact ⟨rfl, hp5.bel⟩
theorem may2_num (a b : F) : may2 (lb a.val) (lb b.val) = true := by
  unfold may2
  rw [decide_eq_true (lt_RI a), decide_eq_true (lt_RI b)]; rfl
theorem fp2MayB {G : World → Prop} (K : FpK G) (f g : Nat → Int) (w : World) (hg : G w) (rf : Rg f 6) (rg : Rg g 6) : Calls Tryd.prog 47 #[QV2 f g] w (Ret (.bool (may2 f g)) w) := by
  unfold may2
  by_cases lf : val f 6 < RI
  · by_cases lg : val g 6 < RI
    · rw [decide_eq_true lf, decide_eq_true lg]; exact fp2May K f g w hg rf rg lf lg
    · rw [decide_eq_true lf, decide_eq_false lg]; exact fp2May1 K f g w hg rf rg lf lg
  · rw [decide_eq_false lf]; exact fp2May0 K f g w hg rf lf
set_option maxHeartbeats 4000000 in
theorem fp6May1f {G : World → Prop} (K : FpK G) (f g f2 g2 f3 g3 : Nat → Int) (w : World) (hg : G w) (rf : Rg f 6) (rg : Rg g 6) (rf2 : Rg f2 6) (rg2 : Rg g2 6) (rf3 : Rg f3 6) (rg3 : Rg g3 6) (h0 : may2 f g = false) : Calls Tryd.prog 26 #[QV6 f g f2 g2 f3 g3] w (Ret (.bool false) w) := by
  have hp0 := Heap.start w
  go_enter Tryd.func26, Tryd.ntmps26
  refine wp_seq_k (fun K1 k1 => ?_)
  refine gs [.alloc (QC6 f g f2 g2 f3 g3), .det (.bool false)] [0, 1] [0, 0] (fun L => [QV6 f g f2 g2 f3 g3, pt (L.b 0) 0, .bool false] ++ U 13) (fun L => [(L.b 0, QC6 f g f2 g2 f3 g3)]) hp0 ⟨
    oB, oA,
    trivial⟩ (fun L0 w1 hp1 => ?_)
  refine k1 _ _ ?_
  refine wp_seq_k (fun K2 k2 => ?_)
  refine gs [.det (pt (L0.b 0) 0), .det (QV2 f g), .det (.bool false), .det (.bool false), .det undef, .det undef, .det undef, .det (.bool false), .det (.bool false), .det undef, .det undef, .det undef, .det (.bool false), .det (.bool false)] [0, 1, 2, 3, 4, 5, 6, 7, 8, 9, 10, 11, 12, 13] [0, 1, 3, 7, 15, 31, 63, 127, 255, 511, 1023, 2047, 4095, 8191] (fun L => [QV6 f g f2 g2 f3 g3, pt (L0.b 0) 0, .bool false, pt (L0.b 0) 0, QV2 f g, .bool false, .bool false, undef, undef, undef, .bool false, .bool false, undef, undef, undef, .bool false]) (fun L => [((L0.b 0), QC6 f g f2 g2 f3 g3)]) hp1 ⟨
    oI a6, oL 0 0 rP, oH (v := .bool false) (vs := #[QV2 f g]) (fun w hb _ => by have h := fp2MayB K f g w (K.stay hg hb) rf rg; rw [h0] at h; exact h), oM, oS,
    oS, oS, oP, oM, oS, oS, oS, oP, oA,
    trivial⟩ (fun L1 w2 hp2 => ?_)
  refine k2 _ _ ?_
  refine wp_ret ?_
  refine bodyPost_ret (v := .bool false) ?_ rfl ?_
  · exact res_t rfl (by kernel_rfl) _
  · exact ⟨rfl, hp2.bel⟩
set_option maxHeartbeats 4000000 in
theorem fp6May2f {G : World → Prop} (K : FpK G) (f g f2 g2 f3 g3 : Nat → Int) (w : World) (hg : G w) (rf : Rg f 6) (rg : Rg g 6) (rf2 : Rg f2 6) (rg2 : Rg g2 6) (rf3 : Rg f3 6) (rg3 : Rg g3 6) (h0 : may2 f g = true) (h1 : may2 f2 g2 = false) : Calls Tryd.prog 26 #[QV6 f g f2 g2 f3 g3] w (Ret (.bool false) w) := by
  have hp0 := Heap.start w
  go_enter Tryd.func26, Tryd.ntmps26
  refine wp_seq_k (fun K1 k1 => ?_)
  refine gs [.alloc (QC6 f g f2 g2 f3 g3), .det (.bool false)] [0, 1] [0, 0] (fun L => [QV6 f g f2 g2 f3 g3, pt (L.b 0) 0, .bool false] ++ U 13) (fun L => [(L.b 0, QC6 f g f2 g2 f3 g3)]) hp0 ⟨
    oB, oA,
    trivial⟩ (fun L0 w1 hp1 => ?_)
  refine k1 _ _ ?_
  refine wp_seq_k (fun K2 k2 => ?_)
  refine gs [.det (pt (L0.b 0) 0), .det (QV2 f g), .det (.bool true), .det (.bool true), .det (pt (L0.b 0) 12), .det (QV2 f2 g2), .det (.bool false), .det (.bool false), .det (.bool false), .det undef, .det undef, .det undef, .det (.bool false), .det (.bool false)] [0, 1, 2, 3, 4, 5, 6, 7, 8, 9, 10, 11, 12, 13] [0, 1, 3, 7, 15, 31, 63, 127, 255, 511, 1023, 2047, 4095, 8191] (fun L => [QV6 f g f2 g2 f3 g3, pt (L0.b 0) 0, .bool false, pt (L0.b 0) 0, QV2 f g, .bool true, .bool true, pt (L0.b 0) 12, QV2 f2 g2, .bool false, .bool false, .bool false, undef, undef, undef, .bool false]) (fun L => [((L0.b 0), QC6 f g f2 g2 f3 g3)]) hp1 ⟨
    oI a6, oL 0 0 rP, oH (v := .bool true) (vs := #[QV2 f g]) (fun w hb _ => by have h := fp2MayB K f g w (K.stay hg hb) rf rg; rw [h0] at h; exact h), oM, oI a6,
    oL 0 12 rP, oH (v := .bool false) (vs := #[QV2 f2 g2]) (fun w hb _ => by have h := fp2MayB K f2 g2 w (K.stay hg hb) rf2 rg2; rw [h1] at h; exact h), oP, oM,
    oS, oS, oS, oP, oA,
    trivial⟩ (fun L1 w2 hp2 => ?_)
  refine k2 _ _ ?_
  refine wp_ret ?_
  refine bodyPost_ret (v := .bool false) ?_ rfl ?_
  · exact res_t rfl (by kernel_rfl) _
  · exact ⟨rfl, hp2.bel⟩
set_option maxHeartbeats 4000000 in
theorem fp6May3f {G : World → Prop} (K : FpK G) (f g f2 g2 f3 g3 : Nat → Int) (w : World) (hg : G w) (rf : Rg f 6) (rg : Rg g 6) (rf2 : Rg f2 6) (rg2 : Rg g2 6) (rf3 : Rg f3 6) (rg3 : Rg g3 6) (h0 : may2 f g = true) (h1 : may2 f2 g2 = true) (h2 : may2 f3 g3 = false) : Calls Tryd.prog 26 #[QV6 f g f2 g2 f3 g3] w (Ret (.bool false) w) := by
  have hp0 := Heap.start w
  go_enter Tryd.func26, Tryd.ntmps26
  refine wp_seq_k (fun K1 k1 => ?_)
  refine gs [.alloc (QC6 f g f2 g2 f3 g3), .det (.bool false)] [0, 1] [0, 0] (fun L => [QV6 f g f2 g2 f3 g3, pt (L.b 0) 0, .bool false] ++ U 13) (fun L => [(L.b 0, QC6 f g f2 g2 f3 g3)]) hp0 ⟨
    oB, oA,
    trivial⟩ (fun L0 w1 hp1 => ?_)
  refine k1 _ _ ?_
  refine wp_seq_k (fun K2 k2 => ?_)
  refine gs [.det (pt (L0.b 0) 0), .det (QV2 f g), .det (.bool true), .det (.bool true), .det (pt (L0.b 0) 12), .det (QV2 f2 g2), .det (.bool true), .det (.bool true), .det (.bool true), .det (pt (L0.b 0) 24), .det (QV2 f3 g3), .det (.bool false), .det (.bool false), .det (.bool false)] [0, 1, 2, 3, 4, 5, 6, 7, 8, 9, 10, 11, 12, 13] [0, 1, 3, 7, 15, 31, 63, 127, 255, 511, 1023, 2047, 4095, 8191] (fun L => [QV6 f g f2 g2 f3 g3, pt (L0.b 0) 0, .bool false, pt (L0.b 0) 0, QV2 f g, .bool true, .bool true, pt (L0.b 0) 12, QV2 f2 g2, .bool true, .bool true, .bool true, pt (L0.b 0) 24, QV2 f3 g3, .bool false, .bool false]) (fun L => [((L0.b 0), QC6 f g f2 g2 f3 g3)]) hp1 ⟨
    oI a6, oL 0 0 rP, oH (v := .bool true) (vs := #[QV2 f g]) (fun w hb _ => by have h := fp2MayB K f g w (K.stay hg hb) rf rg; rw [h0] at h; exact h), oM, oI a6,
    oL 0 12 rP, oH (v := .bool true) (vs := #[QV2 f2 g2]) (fun w hb _ => by have h := fp2MayB K f2 g2 w (K.stay hg hb) rf2 rg2; rw [h1] at h; exact h), oP, oM, oI a6,
    oL 0 24 rP, oH (v := .bool false) (vs := #[QV2 f3 g3]) (fun w hb _ => by have h := fp2MayB K f3 g3 w (K.stay hg hb) rf3 rg3; rw [h2] at h; exact h), oP, oA,
    trivial⟩ (fun L1 w2 hp2 => ?_)
  refine k2 _ _ ?_
  refine wp_ret ?_
  refine bodyPost_ret (v := .bool false) ?_ rfl ?_
  · exact res_t rfl (by kernel_rfl) _
  · exact ⟨rfl, hp2.bel⟩
set_option maxHeartbeats 4000000 in
theorem fp6May3t {G : World → Prop} (K : FpK G) (f g f2 g2 f3 g3 : Nat → Int) (w : World) (hg : G w) (rf : Rg f 6) (rg : Rg g 6) (rf2 : Rg f2 6) (rg2 : Rg g2 6) (rf3 : Rg f3 6) (rg3 : Rg g3 6) (h0 : may2 f g = true) (h1 : may2 f2 g2 = true) (h2 : may2 f3 g3 = true) : Calls Tryd.prog 26 #[QV6 f g f2 g2 f3 g3] w (Ret (.bool true) w) := by
  have hp0 := Heap.start w
  go_enter Tryd.func26, Tryd.ntmps26
  refine wp_seq_k (fun K1 k1 => ?_)
  refine gs [.alloc (QC6 f g f2 g2 f3 g3), .det (.bool false)] [0, 1] [0, 0] (fun L => [QV6 f g f2 g2 f3 g3, pt (L.b 0) 0, .bool false] ++ U 13) (fun L => [(L.b 0, QC6 f g f2 g2 f3 g3)]) hp0 ⟨
    oB, oA,
    trivial⟩ (fun L0 w1 hp1 => ?_)
  refine k1 _ _ ?_
  refine wp_seq_k (fun K2 k2 => ?_)
  refine gs [.det (pt (L0.b 0) 0), .det (QV2 f g), .det (.bool true), .det (.bool true), .det (pt (L0.b 0) 12), .det (QV2 f2 g2), .det (.bool true), .det (.bool true), .det (.bool true), .det (pt (L0.b 0) 24), .det (QV2 f3 g3), .det (.bool true), .det (.bool true), .det (.bool true)] [0, 1, 2, 3, 4, 5, 6, 7, 8, 9, 10, 11, 12, 13] [0, 1, 3, 7, 15, 31, 63, 127, 255, 511, 1023, 2047, 4095, 8191] (fun L => [QV6 f g f2 g2 f3 g3, pt (L0.b 0) 0, .bool true, pt (L0.b 0) 0, QV2 f g, .bool true, .bool true, pt (L0.b 0) 12, QV2 f2 g2, .bool true, .bool true, .bool true, pt (L0.b 0) 24, QV2 f3 g3, .bool true, .bool true]) (fun L => [((L0.b 0), QC6 f g f2 g2 f3 g3)]) hp1 ⟨
    oI a6, oL 0 0 rP, oH (v := .bool true) (vs := #[QV2 f g]) (fun w hb _ => by have h := fp2MayB K f g w (K.stay hg hb) rf rg; rw [h0] at h; exact h), oM, oI a6,
    oL 0 12 rP, oH (v := .bool true) (vs := #[QV2 f2 g2]) (fun w hb _ => by have h := fp2MayB K f2 g2 w (K.stay hg hb) rf2 rg2; rw [h1] at h; exact h), oP, oM, oI a6,
    oL 0 24 rP, oH (v := .bool true) (vs := #[QV2 f3 g3]) (fun w hb _ => by have h := fp2MayB K f3 g3 w (K.stay hg hb) rf3 rg3; rw [h2] at h; exact h), oP, oA,
    trivial⟩ (fun L1 w2 hp2 => ?_)
  refine k2 _ _ ?_
  refine wp_ret ?_
  refine bodyPost_ret (v := .bool true) ?_ rfl ?_
  · exact res_t rfl (by kernel_rfl) _
  · exact ⟨rfl, hp2.bel⟩
theorem fp6May {G : World → Prop} (K : FpK G) (f g f2 g2 f3 g3 : Nat → Int) (w : World) (hg : G w) (rf : Rg f 6) (rg : Rg g 6) (rf2 : Rg f2 6) (rg2 : Rg g2 6) (rf3 : Rg f3 6) (rg3 : Rg g3 6) : Calls Tryd.prog 26 #[QV6 f g f2 g2 f3 g3] w (Ret (.bool (may2 f g && (may2 f2 g2 && may2 f3 g3))) w) := by
  cases h0 : may2 f g with
  | false => exact fp6May1f K f g f2 g2 f3 g3 w hg rf rg rf2 rg2 rf3 rg3 h0
  | true =>
    cases h1 : may2 f2 g2 with
    | false => exact fp6May2f K f g f2 g2 f3 g3 w hg rf rg rf2 rg2 rf3 rg3 h0 h1
    | true =>
      cases h2 : may2 f3 g3 with
      | false => exact fp6May3f K f g f2 g2 f3 g3 w hg rf rg rf2 rg2 rf3 rg3 h0 h1 h2
      | true => exact fp6May3t K f g f2 g2 f3 g3 w hg rf rg rf2 rg2 rf3 rg3 h0 h1 h2
end Go.Proofs.YtbncpnkjeadolaaDoor.fpn

/- Sixes of pairs: their cells, how they are held against each other and built. -/
namespace Go.Proofs.YtbncpnkjeadolaaDoor.fpn
open Go.RowKit Pl
set_option linter.unusedVariables false
set_option linter.unusedSimpArgs false

/-- The cells of a six of pairs. -/
def C12 (x : F12) : List Value := C6 x.c0 ++ C6 x.c1
/-- The value of a six of pairs. -/
def V12 (x : F12) : Value := .agg (C12 x).toArray
theorem C12_len (x : F12) : (C12 x).length = 72 := rfl
theorem C12_cut0 (x : F12) : List.take 36 (C12 x) = C6 x.c0 := rfl
theorem C12_spl0 (a : F6) (x : F12) : Pl.splice (C12 x) 0 (C6 a) = C12 ⟨a, x.c1⟩ := rfl
theorem C12_cut1 (x : F12) : List.take 36 (List.drop 36 (C12 x)) = C6 x.c1 := rfl
theorem C12_spl1 (a : F6) (x : F12) : Pl.splice (C12 x) 36 (C6 a) = C12 ⟨x.c0, a⟩ := rfl
theorem C12_eq (d : Nat) (x y : F12) (w : World) : (Op.equalIn (d + 5) 30 (V12 x) (V12 y)).run Tryd.prog w = .ok (decide (x = y)) w := by
  have hE : ∀ (a b : F6) (w : World), (Op.equalIn (d + 4) 28 (.agg (C6 a).toArray) (.agg (C6 b).toArray)).run Tryd.prog w = .ok (decide (a = b)) w := fun a b w => C6_eq d a b w
  have hp0 : ∀ (x : F12) (w : World), (part 28 (C12 x).toArray 0).run Tryd.prog w = .ok (.agg (C6 x.c0).toArray) w := fun x w => by
    simp [part, Sem.run_bind, Tryd.isAgg28, Tryd.sizeOf28, C12_cut0]
  have hp1 : ∀ (x : F12) (w : World), (part 28 (C12 x).toArray 36).run Tryd.prog w = .ok (.agg (C6 x.c1).toArray) w := fun x w => by
    simp [part, Sem.run_bind, Tryd.isAgg28, Tryd.sizeOf28, C12_cut1]
  unfold V12
  rw [show d + 5 = (d + 4) + 1 from rfl, Op.equalIn.eq_def]
  simp only [Sem.run_bind, run_underlying Tryd.underlying30, Result.andThen_ok]
  simp only [Std.Legacy.Range.forIn_eq_forIn_range', Std.Legacy.Range.size, Nat.sub_zero, Nat.add_sub_cancel, Nat.div_one, List.range'_succ, List.range'_zero, List.forIn_cons, List.forIn_nil]
  simp only [Sem.run_bind, Tryd.sizeOf28, Result.andThen_ok, Nat.zero_mul, Nat.reduceAdd, Nat.reduceMul, Nat.one_mul, hp0, hp1, hE]
  by_cases h0 : x.c0 = y.c0
  · by_cases h1 : x.c1 = y.c1
    · have : x = y := F12.ext' h0 h1
      simp [h0, h1, this, hp0, hp1, hE]
    · have : x ≠ y := fun e => h1 (by rw [e])
      simp [h0, h1, this, hp0, hp1, hE]
  · have : x ≠ y := fun e => h0 (by rw [e])
    simp [h0, this, hp0, hp1, hE]
theorem C12_grd (op : BinOp) (x y : Operand) (a b : F12) (w : World) : (eqGuard op 30 x y (V12 a) (V12 b)).run Tryd.prog w = .ok () w := by
  have h : Tryd.prog.eqGuardType Tryd.prog.depth 30 = false := by kernel_rfl
  unfold eqGuard V12
  cases op <;> simp [Sem.run_bind, h]
theorem C12_eql (a b : F12) (w : World) : (binOp .eql 30 (V12 a) (V12 b)).run Tryd.prog w = .ok (.bool (decide (a = b))) w := by
  have := C12_eq 9995 a b w
  unfold V12 at *
  simp [binOp, Sem.run_bind, Op.equal, Op.maxDepth, this]
theorem C12_neq (a b : F12) (w : World) : (binOp .neq 30 (V12 a) (V12 b)).run Tryd.prog w = .ok (.bool (!decide (a = b))) w := by
  have := C12_eq 9995 a b w
  unfold V12 at *
  simp [binOp, Sem.run_bind, Op.equal, Op.maxDepth, this]
theorem C12_zero : (Tryd.prog.info? 30).bind (·.zero) = some (.agg (C12 0).toArray) := by kernel_rfl
theorem C12_size : (Tryd.prog.info? 30).map (·.size) = some 72 := by kernel_rfl
theorem r12 : RowT Tryd.prog 30 72 (C12 0) := ⟨⟨_, Tryd.underlying30, rfl⟩, C12_size, C12_zero⟩
theorem a12 : ArrT Tryd.prog 30 2 36 := ⟨⟨_, Tryd.underlying30, C6_size⟩⟩
theorem q12 : EqT Tryd.prog 30 V12 := ⟨fun _ _ _ _ _ w => C12_grd _ _ _ _ _ w, C12_eql, C12_neq⟩
theorem build12n (w : World) : (Instr.build 30 #[]).run Tryd.prog w = .ok (V12 0) w :=
  run_build_array (cs := C12 0) Tryd.underlying30 C6_size C12_zero rfl w
theorem build120 (a : F6) (w : World) : (Instr.build 30 #[(0, V6 a)]).run Tryd.prog w = .ok (V12 ⟨a, 0⟩) w :=
  run_build_array (cs := C12 ⟨a, 0⟩) Tryd.underlying30 C6_size C12_zero (by
    show Instr.fill _ (C12 0).toArray [(0, .agg (C6 a).toArray)] = _
    rw [fill_cons (off := 0) (sz := 36) rfl (C6_len a) (by rw [C12_len]; omega), C12_spl0]; rfl) w
theorem build1201 (a b : F6) (w : World) : (Instr.build 30 #[(0, V6 a), (1, V6 b)]).run Tryd.prog w = .ok (V12 ⟨a, b⟩) w :=
  run_build_array (cs := C12 ⟨a, b⟩) Tryd.underlying30 C6_size C12_zero (by
    show Instr.fill _ (C12 0).toArray [(0, .agg (C6 a).toArray), (1, .agg (C6 b).toArray)] = _
    rw [fill_cons (off := 0) (sz := 36) rfl (C6_len a) (by rw [C12_len]; omega), C12_spl0, fill_cons (off := 36) (sz := 36) rfl (C6_len b) (by rw [C12_len]; omega), C12_spl1]; rfl) w
/-- Sixes of limbs that may be anything. -/
def QC12 (f g f2 g2 f3 g3 f4 g4 f5 g5 f6 g6 : Nat → Int) : List Value := QC6 f g f2 g2 f3 g3 ++ QC6 f4 g4 f5 g5 f6 g6
def QV12 (f g f2 g2 f3 g3 f4 g4 f5 g5 f6 g6 : Nat → Int) : Value := .agg (QC12 f g f2 g2 f3 g3 f4 g4 f5 g5 f6 g6).toArray
theorem QV12_of {f g f2 g2 f3 g3 f4 g4 f5 g5 f6 g6 : Nat → Int} {x : F12} (h0 : QV6 f g f2 g2 f3 g3 = V6 x.c0) (h1 : QV6 f4 g4 f5 g5 f6 g6 = V6 x.c1) : QV12 f g f2 g2 f3 g3 f4 g4 f5 g5 f6 g6 = V12 x := by
  unfold QV12 QC12 V12 C12
  unfold QV6 at h0 h1
  unfold V6 at h0 h1
  have e0 : (QC6 f g f2 g2 f3 g3).toArray = (C6 x.c0).toArray := by injection h0
  have e1 : (QC6 f4 g4 f5 g5 f6 g6).toArray = (C6 x.c1).toArray := by injection h1
  have f0 : QC6 f g f2 g2 f3 g3 = C6 x.c0 := by simpa using e0
  have f1 : QC6 f4 g4 f5 g5 f6 g6 = C6 x.c1 := by simpa using e1
  rw [f0, f1]
end Go.Proofs.YtbncpnkjeadolaaDoor.fpn

/- Package fp12. -/
namespace Go.Proofs.YtbncpnkjeadolaaDoor.fpn
open Go.RowKit Pl
set_option linter.unusedVariables false
set_option linter.unusedSimpArgs false
set_option maxRecDepth 4000

section
open Rn
variable {α : Type} [Add α] [Mul α] [Neg α] [Sub α] [OfNat α 0] [OfNat α 1] [CR α]
theorem rt12_0 (a0 a1 b0 b1 : α) : ((((a0 + a1) * (b0 + b1)) - (a0 * b0)) - (a1 * b1)) = ((a0 * b1) + (a1 * b0)) := ring [a0, a1, b0, b1] (.s (.s (.m (.a (.v 0) (.v 1)) (.a (.v 2) (.v 3))) (.m (.v 0) (.v 2))) (.m (.v 1) (.v 3))) (.a (.m (.v 0) (.v 3)) (.m (.v 1) (.v 2))) (by kernel_rfl)
end
theorem F12.inv_scale (x : F12) : (⟨x.conj.c0 * x.norm.inv, x.conj.c1 * x.norm.inv⟩ : F12) = x.inv := F12.ext' rfl (Rn.neg_mul _ _)
theorem F12.norm_of_zero : (0 : F12).norm = 0 := by kernel_rfl
set_option maxHeartbeats 4000000 in
theorem fp12One {G : World → Prop} (K : FpK G)  (w : World) (hg : G w) : Calls Tryd.prog 21 #[] w (Ret (V12 1) w) := by
  have hp0 := Heap.start w
  go_enter Tryd.func21, Tryd.ntmps21
  refine wp_seq_k (fun K1 k1 => ?_)
  refine gs [.alloc (C12 0)] [0] [0] (fun L => [pt (L.b 0) 0] ++ U 4) (fun L => [(L.b 0, C12 0)]) hp0 ⟨
    oZ r12,
    trivial⟩ (fun L0 w1 hp1 => ?_)
  refine k1 _ _ ?_
  refine wp_seq_k (fun K2 k2 => ?_)
  refine gs [.det (FV 1), .det (PV ⟨1, 0⟩), .det (V6 ⟨⟨1, 0⟩, 0, 0⟩), .det (V12 ⟨⟨⟨1, 0⟩, 0, 0⟩, 0⟩), .store (.base 0) 0 (C12 ⟨⟨⟨1, 0⟩, 0, 0⟩, 0⟩) (C12 ⟨⟨⟨1, 0⟩, 0, 0⟩, 0⟩)] [0, 1, 2, 3, 4] [0, 1, 3, 7, 15] (fun L => [pt (L0.b 0) 0, FV 1, PV ⟨1, 0⟩, V6 ⟨⟨1, 0⟩, 0, 0⟩, V12 ⟨⟨⟨1, 0⟩, 0, 0⟩, 0⟩]) (fun L => [((L0.b 0), C12 ⟨⟨⟨1, 0⟩, 0, 0⟩, 0⟩)]) hp1 ⟨
    oD buildF1, oD (buildPa 1), oD (build60 ⟨1, 0⟩), oD (build120 ⟨⟨1, 0⟩, 0, 0⟩), oT r12,
    trivial⟩ (fun L1 w2 hp2 => ?_)
  refine k2 _ _ ?_
  refine wp_ret ?_
  refine bodyPost_ret (v := V12 ⟨⟨⟨1, 0⟩, 0, 0⟩, 0⟩) ?_ rfl ?_
  · exact rc r12 rfl (by kernel_rfl) (hp2.bound 0 rfl).2
  · exact ⟨rfl, hp2.bel⟩
set_option maxHeartbeats 4000000 in
theorem fp12Add {G : World → Prop} (K : FpK G) (x y : F12) (w : World) (hg : G w) : Calls Tryd.prog 11 #[V12 x, V12 y] w (Ret (V12 (x + y)) w) := by
  have hp0 := Heap.start w
  go_enter Tryd.func11, Tryd.ntmps11
  refine wp_seq_k (fun K1 k1 => ?_)
  refine gs [.alloc (C12 x), .alloc (C12 y), .alloc (C12 0)] [0, 1, 2] [0, 0, 0] (fun L => [V12 x, V12 y, pt (L.b 0) 0, pt (L.b 1) 0, pt (L.b 2) 0] ++ U 11) (fun L => [(L.b 0, C12 x), (L.b 1, C12 y), (L.b 2, C12 0)]) hp0 ⟨
    oB, oB, oZ r12,
    trivial⟩ (fun L0 w1 hp1 => ?_)
  refine k1 _ _ ?_
  refine wp_seq_k (fun K2 k2 => ?_)
  refine dr [.det (pt (L0.b 0) 0), .det (V6 x.c0), .det (pt (L0.b 1) 0), .det (V6 y.c0), .det (V6 (x.c0 + y.c0)), .det (pt (L0.b 0) 36), .det (V6 x.c1), .det (pt (L0.b 1) 36), .det (V6 y.c1), .det (V6 (x.c1 + y.c1)), .det (V12 ⟨(x.c0 + y.c0), (x.c1 + y.c1)⟩), .store (.base 2) 0 (C12 ⟨(x.c0 + y.c0), (x.c1 + y.c1)⟩) (C12 ⟨(x.c0 + y.c0), (x.c1 + y.c1)⟩)] [0, 1, 2, 3, 4, 5, 6, 7, 8, 9, 10, 11] [0, 1, 0, 4, 15, 0, 32, 0, 128, 511, 1023, 2047] (fun L => [V12 x, V12 y, pt (L0.b 0) 0, pt (L0.b 1) 0, pt (L0.b 2) 0, pt (L0.b 0) 0, V6 x.c0, pt (L0.b 1) 0, V6 y.c0, V6 (x.c0 + y.c0), pt (L0.b 0) 36, V6 x.c1, pt (L0.b 1) 36, V6 y.c1, V6 (x.c1 + y.c1), V12 ⟨(x.c0 + y.c0), (x.c1 + y.c1)⟩]) (fun L => [((L0.b 0), C12 x), ((L0.b 1), C12 y), ((L0.b 2), C12 ⟨(x.c0 + y.c0), (x.c1 + y.c1)⟩)]) hp1 ⟨
    oI a12, oL 0 0 r6, oI a12, oL 1 0 r6, oC K.stay hg (fp6Add K x.c0 y.c0), oI a12, oL 0 36 r6, oI a12, oL 1 36 r6, oC K.stay hg (fp6Add K x.c1 y.c1), oD (build1201 (x.c0 + y.c0) (x.c1 + y.c1)),
    oT r12,
    trivial⟩ (fun L1 w2 hp2 => ?_)
  refine k2 _ _ ?_
  refine wp_ret ?_
  refine bodyPost_ret (v := V12 ⟨(x.c0 + y.c0), (x.c1 + y.c1)⟩) ?_ rfl ?_
  · exact rc r12 rfl (by kernel_rfl) (hp2.bound 2 rfl).2
  · exact ⟨rfl, hp2.bel⟩
set_option maxHeartbeats 4000000 in
theorem fp12Sub {G : World → Prop} (K : FpK G) (x y : F12) (w : World) (hg : G w) : Calls Tryd.prog 13 #[V12 x, V12 y] w (Ret (V12 (x - y)) w) := by
  have hp0 := Heap.start w
  go_enter Tryd.func13, Tryd.ntmps13
  refine wp_seq_k (fun K1 k1 => ?_)
  refine gs [.alloc (C12 x), .alloc (C12 y), .alloc (C12 0)] [0, 1, 2] [0, 0, 0] (fun L => [V12 x, V12 y, pt (L.b 0) 0, pt (L.b 1) 0, pt (L.b 2) 0] ++ U 11) (fun L => [(L.b 0, C12 x), (L.b 1, C12 y), (L.b 2, C12 0)]) hp0 ⟨
    oB, oB, oZ r12,
    trivial⟩ (fun L0 w1 hp1 => ?_)
  refine k1 _ _ ?_
  refine wp_seq_k (fun K2 k2 => ?_)
  refine dr [.det (pt (L0.b 0) 0), .det (V6 x.c0), .det (pt (L0.b 1) 0), .det (V6 y.c0), .det (V6 (x.c0 - y.c0)), .det (pt (L0.b 0) 36), .det (V6 x.c1), .det (pt (L0.b 1) 36), .det (V6 y.c1), .det (V6 (x.c1 - y.c1)), .det (V12 ⟨(x.c0 - y.c0), (x.c1 - y.c1)⟩), .store (.base 2) 0 (C12 ⟨(x.c0 - y.c0), (x.c1 - y.c1)⟩) (C12 ⟨(x.c0 - y.c0), (x.c1 - y.c1)⟩)] [0, 1, 2, 3, 4, 5, 6, 7, 8, 9, 10, 11] [0, 1, 0, 4, 15, 0, 32, 0, 128, 511, 1023, 2047] (fun L => [V12 x, V12 y, pt (L0.b 0) 0, pt (L0.b 1) 0, pt (L0.b 2) 0, pt (L0.b 0) 0, V6 x.c0, pt (L0.b 1) 0, V6 y.c0, V6 (x.c0 - y.c0), pt (L0.b 0) 36, V6 x.c1, pt (L0.b 1) 36, V6 y.c1, V6 (x.c1 - y.c1), V12 ⟨(x.c0 - y.c0), (x.c1 - y.c1)⟩]) (fun L => [((L0.b 0), C12 x), ((L0.b 1), C12 y), ((L0.b 2), C12 ⟨(x.c0 - y.c0), (x.c1 - y.c1)⟩)]) hp1 ⟨
    oI a12, oL 0 0 r6, oI a12, oL 1 0 r6, oC K.stay hg (fp6Sub K x.c0 y.c0), oI a12, oL 0 36 r6, oI a12, oL 1 36 r6, oC K.stay hg (fp6Sub K x.c1 y.c1), oD (build1201 (x.c0 - y.c0) (x.c1 - y.c1)),
    oT r12,
    trivial⟩ (fun L1 w2 hp2 => ?_)
  refine k2 _ _ ?_
  refine wp_ret ?_
  refine bodyPost_ret (v := V12 ⟨(x.c0 - y.c0), (x.c1 - y.c1)⟩) ?_ rfl ?_
  · exact rc r12 rfl (by kernel_rfl) (hp2.bound 2 rfl).2
  · exact ⟨rfl, hp2.bel⟩
set_option maxHeartbeats 4000000 in
theorem fp12Mul {G : World → Prop} (K : FpK G) (x y : F12) (w : World) (hg : G w) : Calls Tryd.prog 15 #[V12 x, V12 y] w (Ret (V12 (x * y)) w) := by
  have hp0 := Heap.start w
  go_enter Tryd.func15, Tryd.ntmps15
  refine wp_seq_k (fun K1 k1 => ?_)
  refine gs [.alloc (C12 x), .alloc (C12 y), .alloc (C12 0)] [0, 1, 2] [0, 0, 0] (fun L => [V12 x, V12 y, pt (L.b 0) 0, pt (L.b 1) 0, pt (L.b 2) 0] ++ U 34) (fun L => [(L.b 0, C12 x), (L.b 1, C12 y), (L.b 2, C12 0)]) hp0 ⟨
    oB, oB, oZ r12,
    trivial⟩ (fun L0 w1 hp1 => ?_)
  refine k1 _ _ ?_
  refine wp_seq_k (fun K2 k2 => ?_)
  refine dr [.det (pt (L0.b 0) 0), .det (V6 x.c0), .det (pt (L0.b 1) 0), .det (V6 y.c0), .det (V6 (x.c0 * y.c0)), .det (pt (L0.b 0) 36), .det (V6 x.c1), .det (pt (L0.b 1) 36), .det (V6 y.c1), .det (V6 (x.c1 * y.c1)), .alloc (C6 0), .alloc (C6 0), .store (.new 10) 0 (C6 (x.c0 * y.c0)) (C6 (x.c0 * y.c0)), .store (.new 11) 0 (C6 (x.c1 * y.c1)) (C6 (x.c1 * y.c1))] [0, 1, 2, 3, 4, 5, 6, 7, 8, 9, 10, 11, 12, 13] [0, 1, 0, 4, 15, 0, 32, 0, 128, 511, 0, 0, 4095, 8191] (fun L => [V12 x, V12 y, pt (L0.b 0) 0, pt (L0.b 1) 0, pt (L0.b 2) 0, pt (L.b 10) 0, pt (L.b 11) 0, undef, pt (L0.b 0) 0, V6 x.c0, pt (L0.b 1) 0, V6 y.c0, V6 (x.c0 * y.c0), pt (L0.b 0) 36, V6 x.c1, pt (L0.b 1) 36, V6 y.c1, V6 (x.c1 * y.c1)] ++ U 21) (fun L => [((L0.b 0), C12 x), ((L0.b 1), C12 y), ((L0.b 2), C12 0), (L.b 10, C6 (x.c0 * y.c0)), (L.b 11, C6 (x.c1 * y.c1))]) hp1 ⟨
    oI a12, oL 0 0 r6, oI a12, oL 1 0 r6, oC K.stay hg (fp6Mul K x.c0 y.c0), oI a12, oL 0 36 r6, oI a12, oL 1 36 r6, oC K.stay hg (fp6Mul K x.c1 y.c1), oZ r6, oZ r6,
    oT r6, oT r6,
    trivial⟩ (fun L1 w2 hp2 => ?_)
  refine k2 _ _ ?_
  refine wp_seq_k (fun K3 k3 => ?_)
  refine dr [.det (pt (L0.b 0) 0), .det (V6 x.c0), .det (pt (L0.b 0) 36), .det (V6 x.c1), .det (V6 (x.c0 + x.c1)), .det (pt (L0.b 1) 0), .det (V6 y.c0), .det (pt (L0.b 1) 36), .det (V6 y.c1), .det (V6 (y.c0 + y.c1)), .det (V6 ((x.c0 + x.c1) * (y.c0 + y.c1))), .alloc (C6 0), .store (.new 11) 0 (C6 ((x.c0 + x.c1) * (y.c0 + y.c1))) (C6 ((x.c0 + x.c1) * (y.c0 + y.c1)))] [0, 1, 2, 3, 4, 5, 6, 7, 8, 9, 10, 11, 12] [0, 1, 0, 4, 15, 0, 32, 0, 128, 511, 1023, 0, 4095] (fun L => [V12 x, V12 y, pt (L0.b 0) 0, pt (L0.b 1) 0, pt (L0.b 2) 0, pt (L1.b 10) 0, pt (L1.b 11) 0, pt (L.b 11) 0, pt (L0.b 0) 0, V6 x.c0, pt (L0.b 1) 0, V6 y.c0, V6 (x.c0 * y.c0), pt (L0.b 0) 36, V6 x.c1, pt (L0.b 1) 36, V6 y.c1, V6 (x.c1 * y.c1), pt (L0.b 0) 0, V6 x.c0, pt (L0.b 0) 36, V6 x.c1, V6 (x.c0 + x.c1), pt (L0.b 1) 0, V6 y.c0, pt (L0.b 1) 36, V6 y.c1, V6 (y.c0 + y.c1), V6 ((x.c0 + x.c1) * (y.c0 + y.c1))] ++ U 10) (fun L => [((L0.b 0), C12 x), ((L0.b 1), C12 y), ((L0.b 2), C12 0), ((L1.b 10), C6 (x.c0 * y.c0)), ((L1.b 11), C6 (x.c1 * y.c1)), (L.b 11, C6 ((x.c0 + x.c1) * (y.c0 + y.c1)))]) hp2 ⟨
    oI a12, oL 0 0 r6, oI a12, oL 0 36 r6, oC K.stay hg (fp6Add K x.c0 x.c1), oI a12, oL 1 0 r6, oI a12, oL 1 36 r6, oC K.stay hg (fp6Add K y.c0 y.c1), oC K.stay hg (fp6Mul K (x.c0 + x.c1) (y.c0 + y.c1)),
    oZ r6, oT r6,
    trivial⟩ (fun L2 w3 hp3 => ?_)
  refine k3 _ _ ?_
  refine wp_seq_k (fun K4 k4 => ?_)
  refine dr [.det (V6 (x.c0 * y.c0)), .det (V6 (x.c1 * y.c1)), .det (V6 ((x.c1 * y.c1).up)), .det (V6 ((x.c0 * y.c0) + ((x.c1 * y.c1).up))), .det (V6 ((x.c0 + x.c1) * (y.c0 + y.c1))), .det (V6 (x.c0 * y.c0)), .det (V6 (((x.c0 + x.c1) * (y.c0 + y.c1)) - (x.c0 * y.c0))), .det (V6 (x.c1 * y.c1)), .det (V6 ((((x.c0 + x.c1) * (y.c0 + y.c1)) - (x.c0 * y.c0)) - (x.c1 * y.c1))), .det (V12 ⟨((x.c0 * y.c0) + ((x.c1 * y.c1).up)), ((((x.c0 + x.c1) * (y.c0 + y.c1)) - (x.c0 * y.c0)) - (x.c1 * y.c1))⟩), .store (.base 2) 0 (C12 ⟨((x.c0 * y.c0) + ((x.c1 * y.c1).up)), ((((x.c0 + x.c1) * (y.c0 + y.c1)) - (x.c0 * y.c0)) - (x.c1 * y.c1))⟩) (C12 ⟨((x.c0 * y.c0) + ((x.c1 * y.c1).up)), ((((x.c0 + x.c1) * (y.c0 + y.c1)) - (x.c0 * y.c0)) - (x.c1 * y.c1))⟩)] [0, 1, 2, 3, 4, 5, 6, 7, 8, 9, 10] [0, 0, 2, 7, 0, 0, 63, 0, 255, 511, 1023] (fun L => [V12 x, V12 y, pt (L0.b 0) 0, pt (L0.b 1) 0, pt (L0.b 2) 0, pt (L1.b 10) 0, pt (L1.b 11) 0, pt (L2.b 11) 0, pt (L0.b 0) 0, V6 x.c0, pt (L0.b 1) 0, V6 y.c0, V6 (x.c0 * y.c0), pt (L0.b 0) 36, V6 x.c1, pt (L0.b 1) 36, V6 y.c1, V6 (x.c1 * y.c1), pt (L0.b 0) 0, V6 x.c0, pt (L0.b 0) 36, V6 x.c1, V6 (x.c0 + x.c1), pt (L0.b 1) 0, V6 y.c0, pt (L0.b 1) 36, V6 y.c1, V6 (y.c0 + y.c1), V6 ((x.c0 + x.c1) * (y.c0 + y.c1)), V6 (x.c0 * y.c0), V6 (x.c1 * y.c1), V6 ((x.c1 * y.c1).up), V6 ((x.c0 * y.c0) + ((x.c1 * y.c1).up)), V6 ((x.c0 + x.c1) * (y.c0 + y.c1)), V6 (x.c0 * y.c0), V6 (((x.c0 + x.c1) * (y.c0 + y.c1)) - (x.c0 * y.c0)), V6 (x.c1 * y.c1), V6 ((((x.c0 + x.c1) * (y.c0 + y.c1)) - (x.c0 * y.c0)) - (x.c1 * y.c1)), V12 ⟨((x.c0 * y.c0) + ((x.c1 * y.c1).up)), ((((x.c0 + x.c1) * (y.c0 + y.c1)) - (x.c0 * y.c0)) - (x.c1 * y.c1))⟩]) (fun L => [((L0.b 0), C12 x), ((L0.b 1), C12 y), ((L0.b 2), C12 ⟨((x.c0 * y.c0) + ((x.c1 * y.c1).up)), ((((x.c0 + x.c1) * (y.c0 + y.c1)) - (x.c0 * y.c0)) - (x.c1 * y.c1))⟩), ((L1.b 10), C6 (x.c0 * y.c0)), ((L1.b 11), C6 (x.c1 * y.c1)), ((L2.b 11), C6 ((x.c0 + x.c1) * (y.c0 + y.c1)))]) hp3 ⟨
    oL 3 0 r6, oL 4 0 r6, oC K.stay hg (fp6Up K (x.c1 * y.c1)), oC K.stay hg (fp6Add K (x.c0 * y.c0) ((x.c1 * y.c1).up)), oL 5 0 r6, oL 3 0 r6, oC K.stay hg (fp6Sub K ((x.c0 + x.c1) * (y.c0 + y.c1)) (x.c0 * y.c0)),
    oL 4 0 r6, oC K.stay hg (fp6Sub K (((x.c0 + x.c1) * (y.c0 + y.c1)) - (x.c0 * y.c0)) (x.c1 * y.c1)), oD (build1201 ((x.c0 * y.c0) + ((x.c1 * y.c1).up)) ((((x.c0 + x.c1) * (y.c0 + y.c1)) - (x.c0 * y.c0)) - (x.c1 * y.c1))),
    oT r12,
    trivial⟩ (fun L3 w4 hp4 => ?_)
  refine k4 _ _ ?_
  refine wp_ret ?_
  refine bodyPost_ret (v := V12 ⟨((x.c0 * y.c0) + ((x.c1 * y.c1).up)), ((((x.c0 + x.c1) * (y.c0 + y.c1)) - (x.c0 * y.c0)) - (x.c1 * y.c1))⟩) ?_ rfl ?_
  · exact rc r12 rfl (by kernel_rfl) (hp4.bound 2 rfl).2
  · exact ⟨congrArg (fun z => Ending.returned (V12 z)) (F12.ext' (rfl) (rt12_0 (x.c0) (x.c1) (y.c0) (y.c1))), hp4.bel⟩
set_option maxHeartbeats 4000000 in
theorem fp12Conj {G : World → Prop} (K : FpK G) (x : F12) (w : World) (hg : G w) : Calls Tryd.prog 17 #[V12 x] w (Ret (V12 x.conj) w) := by
  have hp0 := Heap.start w
  go_enter Tryd.func17, Tryd.ntmps17
  refine wp_seq_k (fun K1 k1 => ?_)
  refine gs [.alloc (C12 x), .alloc (C12 0)] [0, 1] [0, 0] (fun L => [V12 x, pt (L.b 0) 0, pt (L.b 1) 0] ++ U 6) (fun L => [(L.b 0, C12 x), (L.b 1, C12 0)]) hp0 ⟨
    oB, oZ r12,
    trivial⟩ (fun L0 w1 hp1 => ?_)
  refine k1 _ _ ?_
  refine wp_seq_k (fun K2 k2 => ?_)
  refine dr [.det (pt (L0.b 0) 0), .det (V6 x.c0), .det (pt (L0.b 0) 36), .det (V6 x.c1), .det (V6 (-x.c1)), .det (V12 ⟨x.c0, (-x.c1)⟩), .store (.base 1) 0 (C12 ⟨x.c0, (-x.c1)⟩) (C12 ⟨x.c0, (-x.c1)⟩)] [0, 1, 2, 3, 4, 5, 6] [0, 1, 0, 4, 12, 31, 63] (fun L => [V12 x, pt (L0.b 0) 0, pt (L0.b 1) 0, pt (L0.b 0) 0, V6 x.c0, pt (L0.b 0) 36, V6 x.c1, V6 (-x.c1), V12 ⟨x.c0, (-x.c1)⟩]) (fun L => [((L0.b 0), C12 x), ((L0.b 1), C12 ⟨x.c0, (-x.c1)⟩)]) hp1 ⟨
    oI a12, oL 0 0 r6, oI a12, oL 0 36 r6, oC K.stay hg (fp6Neg K x.c1), oD (build1201 x.c0 (-x.c1)), oT r12,
    trivial⟩ (fun L1 w2 hp2 => ?_)
  refine k2 _ _ ?_
  refine wp_ret ?_
  refine bodyPost_ret (v := V12 ⟨x.c0, (-x.c1)⟩) ?_ rfl ?_
  · exact rc r12 rfl (by kernel_rfl) (hp2.bound 1 rfl).2
  · exact ⟨rfl, hp2.bel⟩
set_option maxHeartbeats 4000000 in
theorem fp12norm {G : World → Prop} (K : FpK G) (x : F12) (w : World) (hg : G w) : Calls Tryd.prog 28 #[V12 x] w (Ret (V6 x.norm) w) := by
  have hp0 := Heap.start w
  go_enter Tryd.func28, Tryd.ntmps28
  refine wp_seq_k (fun K1 k1 => ?_)
  refine gs [.alloc (C12 x), .alloc (C6 0)] [0, 1] [0, 0] (fun L => [V12 x, pt (L.b 0) 0, pt (L.b 1) 0] ++ U 12) (fun L => [(L.b 0, C12 x), (L.b 1, C6 0)]) hp0 ⟨
    oB, oZ r6,
    trivial⟩ (fun L0 w1 hp1 => ?_)
  refine k1 _ _ ?_
  refine wp_seq_k (fun K2 k2 => ?_)
  refine dr [.det (pt (L0.b 0) 0), .det (V6 x.c0), .det (pt (L0.b 0) 0), .det (V6 x.c0), .det (V6 (x.c0 * x.c0)), .det (pt (L0.b 0) 36), .det (V6 x.c1), .det (pt (L0.b 0) 36), .det (V6 x.c1), .det (V6 (x.c1 * x.c1)), .det (V6 ((x.c1 * x.c1).up)), .det (V6 ((x.c0 * x.c0) - ((x.c1 * x.c1).up))), .store (.base 1) 0 (C6 ((x.c0 * x.c0) - ((x.c1 * x.c1).up))) (C6 ((x.c0 * x.c0) - ((x.c1 * x.c1).up)))] [0, 1, 2, 3, 4, 5, 6, 7, 8, 9, 10, 11, 12] [0, 1, 0, 4, 15, 0, 32, 0, 128, 511, 1023, 2047, 4095] (fun L => [V12 x, pt (L0.b 0) 0, pt (L0.b 1) 0, pt (L0.b 0) 0, V6 x.c0, pt (L0.b 0) 0, V6 x.c0, V6 (x.c0 * x.c0), pt (L0.b 0) 36, V6 x.c1, pt (L0.b 0) 36, V6 x.c1, V6 (x.c1 * x.c1), V6 ((x.c1 * x.c1).up), V6 ((x.c0 * x.c0) - ((x.c1 * x.c1).up))]) (fun L => [((L0.b 0), C12 x), ((L0.b 1), C6 ((x.c0 * x.c0) - ((x.c1 * x.c1).up)))]) hp1 ⟨
    oI a12, oL 0 0 r6, oI a12, oL 0 0 r6, oC K.stay hg (fp6Mul K x.c0 x.c0), oI a12, oL 0 36 r6, oI a12, oL 0 36 r6, oC K.stay hg (fp6Mul K x.c1 x.c1), oC K.stay hg (fp6Up K (x.c1 * x.c1)),
    oC K.stay hg (fp6Sub K (x.c0 * x.c0) ((x.c1 * x.c1).up)), oT r6,
    trivial⟩ (fun L1 w2 hp2 => ?_)
  refine k2 _ _ ?_
  refine wp_ret ?_
  refine bodyPost_ret (v := V6 ((x.c0 * x.c0) - ((x.c1 * x.c1).up))) ?_ rfl ?_
  · exact rc r6 rfl (by kernel_rfl) (hp2.bound 1 rfl).2
  · exact ⟨rfl, hp2.bel⟩
set_option maxHeartbeats 4000000 in
theorem fp12scale {G : World → Prop} (K : FpK G) (x : F12) (k : F6) (w : World) (hg : G w) : Calls Tryd.prog 29 #[V12 x, V6 k] w (Ret (V12 ⟨x.c0 * k, x.c1 * k⟩) w) := by
  have hp0 := Heap.start w
  go_enter Tryd.func29, Tryd.ntmps29
  refine wp_seq_k (fun K1 k1 => ?_)
  refine gs [.alloc (C12 x), .alloc (C6 k), .alloc (C12 0)] [0, 1, 2] [0, 0, 0] (fun L => [V12 x, V6 k, pt (L.b 0) 0, pt (L.b 1) 0, pt (L.b 2) 0] ++ U 9) (fun L => [(L.b 0, C12 x), (L.b 1, C6 k), (L.b 2, C12 0)]) hp0 ⟨
    oB, oB, oZ r12,
    trivial⟩ (fun L0 w1 hp1 => ?_)
  refine k1 _ _ ?_
  refine wp_seq_k (fun K2 k2 => ?_)
  refine dr [.det (pt (L0.b 0) 0), .det (V6 x.c0), .det (V6 k), .det (V6 (x.c0 * k)), .det (pt (L0.b 0) 36), .det (V6 x.c1), .det (V6 k), .det (V6 (x.c1 * k)), .det (V12 ⟨(x.c0 * k), (x.c1 * k)⟩), .store (.base 2) 0 (C12 ⟨(x.c0 * k), (x.c1 * k)⟩) (C12 ⟨(x.c0 * k), (x.c1 * k)⟩)] [0, 1, 2, 3, 4, 5, 6, 7, 8, 9] [0, 1, 0, 7, 0, 16, 0, 127, 255, 511] (fun L => [V12 x, V6 k, pt (L0.b 0) 0, pt (L0.b 1) 0, pt (L0.b 2) 0, pt (L0.b 0) 0, V6 x.c0, V6 k, V6 (x.c0 * k), pt (L0.b 0) 36, V6 x.c1, V6 k, V6 (x.c1 * k), V12 ⟨(x.c0 * k), (x.c1 * k)⟩]) (fun L => [((L0.b 0), C12 x), ((L0.b 1), C6 k), ((L0.b 2), C12 ⟨(x.c0 * k), (x.c1 * k)⟩)]) hp1 ⟨
    oI a12, oL 0 0 r6, oL 1 0 r6, oC K.stay hg (fp6Mul K x.c0 k), oI a12, oL 0 36 r6, oL 1 0 r6, oC K.stay hg (fp6Mul K x.c1 k), oD (build1201 (x.c0 * k) (x.c1 * k)),
    oT r12,
    trivial⟩ (fun L1 w2 hp2 => ?_)
  refine k2 _ _ ?_
  refine wp_ret ?_
  refine bodyPost_ret (v := V12 ⟨(x.c0 * k), (x.c1 * k)⟩) ?_ rfl ?_
  · exact rc r12 rfl (by kernel_rfl) (hp2.bound 2 rfl).2
  · exact ⟨rfl, hp2.bel⟩
set_option maxHeartbeats 4000000 in
theorem fp12Inv {G : World → Prop} (K : FpK G) (x : F12) (w : World) (hg : G w) (hn : x.norm ≠ 0) : Calls Tryd.prog 9 #[V12 x] w (Ret (.tuple #[V12 x.inv, .int .i64 0]) w) := by
  have hp0 := Heap.start w
  go_enter Tryd.func9, Tryd.ntmps9
  refine wp_seq_k (fun K1 k1 => ?_)
  refine gs [.alloc (C12 x), .alloc (C12 0), .det (.int .i64 0)] [0, 1, 2] [0, 0, 0] (fun L => [V12 x, pt (L.b 0) 0, pt (L.b 1) 0, .int .i64 0] ++ U 16) (fun L => [(L.b 0, C12 x), (L.b 1, C12 0)]) hp0 ⟨
    oB, oZ r12, oA,
    trivial⟩ (fun L0 w1 hp1 => ?_)
  refine k1 _ _ ?_
  refine wp_seq_k (fun K2 k2 => ?_)
  refine gs [.det (V12 x), .det (V6 x.norm), .det (.tuple #[V6 x.norm.inv, .int .i64 0]), .det (.tuple #[V6 x.norm.inv, .int .i64 0]), .det (V6 x.norm.inv), .det (.int .i64 0), .alloc (C6 0), .store (.new 6) 0 (C6 x.norm.inv) (C6 x.norm.inv), .det (.int .i64 0)] [0, 1, 2, 3, 4, 5, 6, 7, 8] [0, 1, 3, 7, 15, 15, 0, 95, 255] (fun L => [V12 x, pt (L0.b 0) 0, pt (L0.b 1) 0, .int .i64 0, pt (L.b 6) 0, .int .i64 0, .tuple #[V6 x.norm.inv, .int .i64 0], V12 x, V6 x.norm, .tuple #[V6 x.norm.inv, .int .i64 0], V6 x.norm.inv, .int .i64 0] ++ U 8) (fun L => [((L0.b 0), C12 x), ((L0.b 1), C12 0), (L.b 6, C6 x.norm.inv)]) hp1 ⟨
    oL 0 0 r12, oC K.stay hg (fp12norm K x), oH (v := .tuple #[V6 x.norm.inv, .int .i64 0]) (vs := #[V6 x.norm]) (fun w hb _ => fp6Inv K x.norm w (K.stay hg hb) (F6.norm_ne hn)),
    oM, oX, oX, oZ r6, oT r6, oA,
    trivial⟩ (fun L1 w2 hp2 => ?_)
  refine k2 _ _ ?_
  refine wp_seq_k (fun K3 k3 => ?_)
  refine wp_seq_k (fun K4 k4 => ?_)
  refine gs [.det (.int .i64 0), .det (.bool false)] [0, 1] [0, 1] (fun L => [V12 x, pt (L0.b 0) 0, pt (L0.b 1) 0, .int .i64 0, pt (L1.b 6) 0, .int .i64 0, .tuple #[V6 x.norm.inv, .int .i64 0], V12 x, V6 x.norm, .tuple #[V6 x.norm.inv, .int .i64 0], V6 x.norm.inv, .int .i64 0, .int .i64 0, .bool false] ++ U 6) (fun L => [((L0.b 0), C12 x), ((L0.b 1), C12 0), ((L1.b 6), C6 x.norm.inv)]) hp2 ⟨
    oM, oJ .i64 .i64 0 0 (h := fun w => (neqI _ _ _ _ w).trans rfl),
    trivial⟩ (fun L2 w3 hp3 => ?_)
  refine k4 _ _ ?_
  refine wp_cond_false (by kernel_rfl) ?_
  refine skips ?_
  refine k3 _ _ ?_
  refine wp_seq_k (fun K5 k5 => ?_)
  refine dr [.det (V12 x), .det (V12 x.conj), .det (V6 x.norm.inv), .det (V12 x.inv), .store (.base 1) 0 (C12 x.inv) (C12 x.inv), .det (.int .i64 0)] [0, 1, 2, 3, 4, 5] [0, 1, 0, 7, 15, 31] (fun L => [V12 x, pt (L0.b 0) 0, pt (L0.b 1) 0, .int .i64 0, pt (L1.b 6) 0, .int .i64 0, .tuple #[V6 x.norm.inv, .int .i64 0], V12 x, V6 x.norm, .tuple #[V6 x.norm.inv, .int .i64 0], V6 x.norm.inv, .int .i64 0, .int .i64 0, .bool false, undef, undef, V12 x, V12 x.conj, V6 x.norm.inv, V12 x.inv]) (fun L => [((L0.b 0), C12 x), ((L0.b 1), C12 x.inv), ((L1.b 6), C6 x.norm.inv)]) hp3 ⟨
    oL 0 0 r12, oC K.stay hg (fp12Conj K x), oL 2 0 r6, oH (v := V12 x.inv) (vs := #[V12 x.conj, V6 x.norm.inv]) (fun w hb _ => by have h := fp12scale K x.conj x.norm.inv w (K.stay hg hb); rw [F12.inv_scale] at h; exact h),
    oT r12, oA,
    trivial⟩ (fun L3 w4 hp4 => ?_)
  refine k5 _ _ ?_
  refine wp_ret ?_
  refine bodyPost_ret (v := .tuple #[V12 x.inv, .int .i64 0]) ?_ rfl ?_
  · exact rct r12 rfl (by kernel_rfl) (by kernel_rfl) (hp4.bound 1 rfl).2
  · exact ⟨rfl, hp4.bel⟩
set_option maxHeartbeats 4000000 in
theorem fp12Inv0 {G : World → Prop} (K : FpK G) (x : F12) (w : World) (hg : G w) (hn : x.norm = 0) : Calls Tryd.prog 9 #[V12 x] w (Ret (.tuple #[V12 0, .int .i64 7]) w) := by
  have hp0 := Heap.start w
  go_enter Tryd.func9, Tryd.ntmps9
  refine wp_seq_k (fun K1 k1 => ?_)
  refine gs [.alloc (C12 x), .alloc (C12 0), .det (.int .i64 0)] [0, 1, 2] [0, 0, 0] (fun L => [V12 x, pt (L.b 0) 0, pt (L.b 1) 0, .int .i64 0] ++ U 16) (fun L => [(L.b 0, C12 x), (L.b 1, C12 0)]) hp0 ⟨
    oB, oZ r12, oA,
    trivial⟩ (fun L0 w1 hp1 => ?_)
  refine k1 _ _ ?_
  refine wp_seq_k (fun K2 k2 => ?_)
  refine gs [.det (V12 x), .det (V6 x.norm), .det (.tuple #[V6 0, .int .i64 7]), .det (.tuple #[V6 0, .int .i64 7]), .det (V6 0), .det (.int .i64 7), .alloc (C6 0), .store (.new 6) 0 (C6 0) (C6 0), .det (.int .i64 7)] [0, 1, 2, 3, 4, 5, 6, 7, 8] [0, 1, 3, 7, 15, 15, 0, 95, 255] (fun L => [V12 x, pt (L0.b 0) 0, pt (L0.b 1) 0, .int .i64 0, pt (L.b 6) 0, .int .i64 7, .tuple #[V6 0, .int .i64 7], V12 x, V6 x.norm, .tuple #[V6 0, .int .i64 7], V6 0, .int .i64 7] ++ U 8) (fun L => [((L0.b 0), C12 x), ((L0.b 1), C12 0), (L.b 6, C6 0)]) hp1 ⟨
    oL 0 0 r12, oC K.stay hg (fp12norm K x), oH (v := .tuple #[V6 0, .int .i64 7]) (vs := #[V6 x.norm]) (fun w hb _ => fp6Inv0 K x.norm w (K.stay hg hb) (by rw [hn]; exact F6.norm_of_zero)),
    oM, oX, oX, oZ r6, oT r6, oA,
    trivial⟩ (fun L1 w2 hp2 => ?_)
  refine k2 _ _ ?_
  refine wp_seq_k (fun K3 k3 => ?_)
  refine wp_seq_k (fun K4 k4 => ?_)
  refine gs [.det (.int .i64 7), .det (.bool true)] [0, 1] [0, 1] (fun L => [V12 x, pt (L0.b 0) 0, pt (L0.b 1) 0, .int .i64 0, pt (L1.b 6) 0, .int .i64 7, .tuple #[V6 0, .int .i64 7], V12 x, V6 x.norm, .tuple #[V6 0, .int .i64 7], V6 0, .int .i64 7, .int .i64 7, .bool true] ++ U 6) (fun L => [((L0.b 0), C12 x), ((L0.b 1), C12 0), ((L1.b 6), C6 0)]) hp2 ⟨
    oM, oJ .i64 .i64 7 0 (h := fun w => (neqI _ _ _ _ w).trans rfl),
    trivial⟩ (fun L2 w3 hp3 => ?_)
  refine k4 _ _ ?_
  refine wp_cond_true (by kernel_rfl) ?_
  refine wp_seq_k (fun K5 k5 => ?_)
  refine gs [.det (V12 0), .det (.int .i64 7), .store (.base 1) 0 (C12 0) (C12 0), .det (.int .i64 7)] [0, 1, 2, 3] [0, 0, 1, 7] (fun L => [V12 x, pt (L0.b 0) 0, pt (L0.b 1) 0, .int .i64 7, pt (L1.b 6) 0, .int .i64 7, .tuple #[V6 0, .int .i64 7], V12 x, V6 x.norm, .tuple #[V6 0, .int .i64 7], V6 0, .int .i64 7, .int .i64 7, .bool true, V12 0, .int .i64 7] ++ U 4) (fun L => [((L0.b 0), C12 x), ((L0.b 1), C12 0), ((L1.b 6), C6 0)]) hp3 ⟨
    oD build12n, oM, oT r12, oA,
    trivial⟩ (fun L3 w4 hp4 => ?_)
  refine k5 _ _ ?_
  refine wp_ret ?_
  refine bodyPost_ret (v := .tuple #[V12 0, .int .i64 7]) ?_ rfl ?_
  · exact rct r12 rfl (by kernel_rfl) (by kernel_rfl) (hp4.bound 1 rfl).2
  · exact ⟨rfl, hp4.bel⟩
/-- May these limbs be a three of pairs? -/
def may6 (f g f2 g2 f3 g3 : Nat → Int) : Bool := may2 f g && (may2 f2 g2 && may2 f3 g3)
theorem may6_num (a b c d e f : F) : may6 (lb a.val) (lb b.val) (lb c.val) (lb d.val) (lb e.val) (lb f.val) = true := by
  unfold may6
  rw [may2_num, may2_num, may2_num]; rfl
theorem fp6MayB {G : World → Prop} (K : FpK G) (f g f2 g2 f3 g3 : Nat → Int) (w : World) (hg : G w) (rf : Rg f 6) (rg : Rg g 6) (rf2 : Rg f2 6) (rg2 : Rg g2 6) (rf3 : Rg f3 6) (rg3 : Rg g3 6) : Calls Tryd.prog 26 #[QV6 f g f2 g2 f3 g3] w (Ret (.bool (may6 f g f2 g2 f3 g3)) w) := fp6May K f g f2 g2 f3 g3 w hg rf rg rf2 rg2 rf3 rg3
set_option maxHeartbeats 4000000 in
theorem fp12May1f {G : World → Prop} (K : FpK G) (f g f2 g2 f3 g3 f4 g4 f5 g5 f6 g6 : Nat → Int) (w : World) (hg : G w) (rf : Rg f 6) (rg : Rg g 6) (rf2 : Rg f2 6) (rg2 : Rg g2 6) (rf3 : Rg f3 6) (rg3 : Rg g3 6) (rf4 : Rg f4 6) (rg4 : Rg g4 6) (rf5 : Rg f5 6) (rg5 : Rg g5 6) (rf6 : Rg f6 6) (rg6 : Rg g6 6) (h0 : may6 f g f2 g2 f3 g3 = false) : Calls Tryd.prog 8 #[QV12 f g f2 g2 f3 g3 f4 g4 f5 g5 f6 g6] w (Ret (.bool false) w) := by
  have hp0 := Heap.start w
  go_enter Tryd.func8, Tryd.ntmps8
  refine wp_seq_k (fun K1 k1 => ?_)
  refine gs [.alloc (QC12 f g f2 g2 f3 g3 f4 g4 f5 g5 f6 g6), .det (.bool false)] [0, 1] [0, 0] (fun L => [QV12 f g f2 g2 f3 g3 f4 g4 f5 g5 f6 g6, pt (L.b 0) 0, .bool false] ++ U 8) (fun L => [(L.b 0, QC12 f g f2 g2 f3 g3 f4 g4 f5 g5 f6 g6)]) hp0 ⟨
    oB, oA,
    trivial⟩ (fun L0 w1 hp1 => ?_)
  refine k1 _ _ ?_
  refine wp_seq_k (fun K2 k2 => ?_)
  refine gs [.det (pt (L0.b 0) 0), .det (QV6 f g f2 g2 f3 g3), .det (.bool false), .det (.bool false), .det undef, .det undef, .det undef, .det (.bool false), .det (.bool false)] [0, 1, 2, 3, 4, 5, 6, 7, 8] [0, 1, 3, 7, 15, 31, 63, 127, 255] (fun L => [QV12 f g f2 g2 f3 g3 f4 g4 f5 g5 f6 g6, pt (L0.b 0) 0, .bool false, pt (L0.b 0) 0, QV6 f g f2 g2 f3 g3, .bool false, .bool false, undef, undef, undef, .bool false]) (fun L => [((L0.b 0), QC12 f g f2 g2 f3 g3 f4 g4 f5 g5 f6 g6)]) hp1 ⟨
    oI a12, oL 0 0 r6, oH (v := .bool false) (vs := #[QV6 f g f2 g2 f3 g3]) (fun w hb _ => by have h := fp6MayB K f g f2 g2 f3 g3 w (K.stay hg hb) rf rg rf2 rg2 rf3 rg3; rw [h0] at h; exact h),
    oM, oS, oS, oS, oP, oA,
    trivial⟩ (fun L1 w2 hp2 => ?_)
  refine k2 _ _ ?_
  refine wp_ret ?_
  refine bodyPost_ret (v := .bool false) ?_ rfl ?_
  · exact res_t rfl (by kernel_rfl) _
  · exact ⟨rfl, hp2.bel⟩
set_option maxHeartbeats 4000000 in
theorem fp12May2f {G : World → Prop} (K : FpK G) (f g f2 g2 f3 g3 f4 g4 f5 g5 f6 g6 : Nat → Int) (w : World) (hg : G w) (rf : Rg f 6) (rg : Rg g 6) (rf2 : Rg f2 6) (rg2 : Rg g2 6) (rf3 : Rg f3 6) (rg3 : Rg g3 6) (rf4 : Rg f4 6) (rg4 : Rg g4 6) (rf5 : Rg f5 6) (rg5 : Rg g5 6) (rf6 : Rg f6 6) (rg6 : Rg g6 6) (h0 : may6 f g f2 g2 f3 g3 = true) (h1 : may6 f4 g4 f5 g5 f6 g6 = false) : Calls Tryd.prog 8 #[QV12 f g f2 g2 f3 g3 f4 g4 f5 g5 f6 g6] w (Ret (.bool false) w) := by
  have hp0 := Heap.start w
  go_enter Tryd.func8, Tryd.ntmps8
  refine wp_seq_k (fun K1 k1 => ?_)
  refine gs [.alloc (QC12 f g f2 g2 f3 g3 f4 g4 f5 g5 f6 g6), .det (.bool false)] [0, 1] [0, 0] (fun L => [QV12 f g f2 g2 f3 g3 f4 g4 f5 g5 f6 g6, pt (L.b 0) 0, .bool false] ++ U 8) (fun L => [(L.b 0, QC12 f g f2 g2 f3 g3 f4 g4 f5 g5 f6 g6)]) hp0 ⟨
    oB, oA,
    trivial⟩ (fun L0 w1 hp1 => ?_)
  refine k1 _ _ ?_
  refine wp_seq_k (fun K2 k2 => ?_)
  refine gs [.det (pt (L0.b 0) 0), .det (QV6 f g f2 g2 f3 g3), .det (.bool true), .det (.bool true), .det (pt (L0.b 0) 36), .det (QV6 f4 g4 f5 g5 f6 g6), .det (.bool false), .det (.bool false), .det (.bool false)] [0, 1, 2, 3, 4, 5, 6, 7, 8] [0, 1, 3, 7, 15, 31, 63, 127, 255] (fun L => [QV12 f g f2 g2 f3 g3 f4 g4 f5 g5 f6 g6, pt (L0.b 0) 0, .bool false, pt (L0.b 0) 0, QV6 f g f2 g2 f3 g3, .bool true, .bool true, pt (L0.b 0) 36, QV6 f4 g4 f5 g5 f6 g6, .bool false, .bool false]) (fun L => [((L0.b 0), QC12 f g f2 g2 f3 g3 f4 g4 f5 g5 f6 g6)]) hp1 ⟨
    oI a12, oL 0 0 r6, oH (v := .bool true) (vs := #[QV6 f g f2 g2 f3 g3]) (fun w hb _ => by have h := fp6MayB K f g f2 g2 f3 g3 w (K.stay hg hb) rf rg rf2 rg2 rf3 rg3; rw [h0] at h; exact h),
    oM, oI a12, oL 0 36 r6, oH (v := .bool false) (vs := #[QV6 f4 g4 f5 g5 f6 g6]) (fun w hb _ => by have h := fp6MayB K f4 g4 f5 g5 f6 g6 w (K.stay hg hb) rf4 rg4 rf5 rg5 rf6 rg6; rw [h1] at h; exact h),
    oP, oA,
    trivial⟩ (fun L1 w2 hp2 => ?_)
  refine k2 _ _ ?_
  refine wp_ret ?_
  refine bodyPost_ret (v := .bool false) ?_ rfl ?_
  · exact res_t rfl (by kernel_rfl) _
  · exact ⟨rfl, hp2.bel⟩
set_option maxHeartbeats 4000000 in
theorem fp12May2t {G : World → Prop} (K : FpK G) (f g f2 g2 f3 g3 f4 g4 f5 g5 f6 g6 : Nat → Int) (w : World) (hg : G w) (rf : Rg f 6) (rg : Rg g 6) (rf2 : Rg f2 6) (rg2 : Rg g2 6) (rf3 : Rg f3 6) (rg3 : Rg g3 6) (rf4 : Rg f4 6) (rg4 : Rg g4 6) (rf5 : Rg f5 6) (rg5 : Rg g5 6) (rf6 : Rg f6 6) (rg6 : Rg g6 6) (h0 : may6 f g f2 g2 f3 g3 = true) (h1 : may6 f4 g4 f5 g5 f6 g6 = true) : Calls Tryd.prog 8 #[QV12 f g f2 g2 f3 g3 f4 g4 f5 g5 f6 g6] w (Ret (.bool true) w) := by
  have hp0 := Heap.start w
  go_enter Tryd.func8, Tryd.ntmps8
  refine wp_seq_k (fun K1 k1 => ?_)
  refine gs [.alloc (QC12 f g f2 g2 f3 g3 f4 g4 f5 g5 f6 g6), .det (.bool false)] [0, 1] [0, 0] (fun L => [QV12 f g f2 g2 f3 g3 f4 g4 f5 g5 f6 g6, pt (L.b 0) 0, .bool false] ++ U 8) (fun L => [(L.b 0, QC12 f g f2 g2 f3 g3 f4 g4 f5 g5 f6 g6)]) hp0 ⟨
    oB, oA,
    trivial⟩ (fun L0 w1 hp1 => ?_)
  refine k1 _ _ ?_
  refine wp_seq_k (fun K2 k2 => ?_)
  refine gs [.det (pt (L0.b 0) 0), .det (QV6 f g f2 g2 f3 g3), .det (.bool true), .det (.bool true), .det (pt (L0.b 0) 36), .det (QV6 f4 g4 f5 g5 f6 g6), .det (.bool true), .det (.bool true), .det (.bool true)] [0, 1, 2, 3, 4, 5, 6, 7, 8] [0, 1, 3, 7, 15, 31, 63, 127, 255] (fun L => [QV12 f g f2 g2 f3 g3 f4 g4 f5 g5 f6 g6, pt (L0.b 0) 0, .bool true, pt (L0.b 0) 0, QV6 f g f2 g2 f3 g3, .bool true, .bool true, pt (L0.b 0) 36, QV6 f4 g4 f5 g5 f6 g6, .bool true, .bool true]) (fun L => [((L0.b 0), QC12 f g f2 g2 f3 g3 f4 g4 f5 g5 f6 g6)]) hp1 ⟨
    oI a12, oL 0 0 r6, oH (v := .bool true) (vs := #[QV6 f g f2 g2 f3 g3]) (fun w hb _ => by have h := fp6MayB K f g f2 g2 f3 g3 w (K.stay hg hb) rf rg rf2 rg2 rf3 rg3; rw [h0] at h; exact h),
    oM, oI a12, oL 0 36 r6, oH (v := .bool true) (vs := #[QV6 f4 g4 f5 g5 f6 g6]) (fun w hb _ => by have h := fp6MayB K f4 g4 f5 g5 f6 g6 w (K.stay hg hb) rf4 rg4 rf5 rg5 rf6 rg6; rw [h1] at h; exact h),
    oP, oA,
    trivial⟩ (fun L1 w2 hp2 => ?_)
  refine k2 _ _ ?_
  refine wp_ret ?_
  refine bodyPost_ret (v := .bool true) ?_ rfl ?_
  · exact res_t rfl (by kernel_rfl) _
  · exact ⟨rfl, hp2.bel⟩
theorem fp12May {G : World → Prop} (K : FpK G) (f g f2 g2 f3 g3 f4 g4 f5 g5 f6 g6 : Nat → Int) (w : World) (hg : G w) (rf : Rg f 6) (rg : Rg g 6) (rf2 : Rg f2 6) (rg2 : Rg g2 6) (rf3 : Rg f3 6) (rg3 : Rg g3 6) (rf4 : Rg f4 6) (rg4 : Rg g4 6) (rf5 : Rg f5 6) (rg5 : Rg g5 6) (rf6 : Rg f6 6) (rg6 : Rg g6 6) : Calls Tryd.prog 8 #[QV12 f g f2 g2 f3 g3 f4 g4 f5 g5 f6 g6] w (Ret (.bool (may6 f g f2 g2 f3 g3 && may6 f4 g4 f5 g5 f6 g6)) w) := by
  cases h0 : may6 f g f2 g2 f3 g3 with
  | false => exact fp12May1f K f g f2 g2 f3 g3 f4 g4 f5 g5 f6 g6 w hg rf rg rf2 rg2 rf3 rg3 rf4 rg4 rf5 rg5 rf6 rg6 h0
  | true =>
    cases h1 : may6 f4 g4 f5 g5 f6 g6 with
    | false => exact fp12May2f K f g f2 g2 f3 g3 f4 g4 f5 g5 f6 g6 w hg rf rg rf2 rg2 rf3 rg3 rf4 rg4 rf5 rg5 rf6 rg6 h0 h1
    | true => exact fp12May2t K f g f2 g2 f3 g3 f4 g4 f5 g5 f6 g6 w hg rf rg rf2 rg2 rf3 rg3 rf4 rg4 rf5 rg5 rf6 rg6 h0 h1
theorem fp12MayP {G : World → Prop} (K : FpK G) (x : F12) (w : World) (hg : G w) : Calls Tryd.prog 8 #[V12 x] w (Ret (.bool true) w) := by
  have h := fp12May K (lb x.c0.c0.c0.val) (lb x.c0.c0.c1.val) (lb x.c0.c1.c0.val) (lb x.c0.c1.c1.val) (lb x.c0.c2.c0.val) (lb x.c0.c2.c1.val) (lb x.c1.c0.c0.val) (lb x.c1.c0.c1.val) (lb x.c1.c1.c0.val) (lb x.c1.c1.c1.val) (lb x.c1.c2.c0.val) (lb x.c1.c2.c1.val) w hg (lb_rg _ _) (lb_rg _ _) (lb_rg _ _) (lb_rg _ _) (lb_rg _ _) (lb_rg _ _) (lb_rg _ _) (lb_rg _ _) (lb_rg _ _) (lb_rg _ _) (lb_rg _ _) (lb_rg _ _)
  rw [may6_num, may6_num] at h
  exact h
end Go.Proofs.YtbncpnkjeadolaaDoor.fpn
