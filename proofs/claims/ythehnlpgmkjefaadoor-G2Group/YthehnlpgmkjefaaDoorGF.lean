/- IA IC. -/
import Derived.Test.YthehnlpgmkjefaaDoorGE
/- Package fp2: sums, products and what is made of them. -/
namespace Go.Proofs.YthehnlpgmkjefaaDoor.fpn
open Go.RowKit Pl
set_option linter.unusedVariables false
set_option linter.unusedSimpArgs false
set_option maxRecDepth 4000

set_option maxHeartbeats 4000000 in
theorem fp2Add {G : World → Prop} (K : FpK G) (x y : F2) (w : World) (hg : G w) : Calls Tryd.prog 44 #[PV x, PV y] w (Ret (PV (x + y)) w) := by
  have hp0 := Heap.start w
  go_enter Tryd.func44, Tryd.ntmps44
  refine wp_seq_k (fun K1 k1 => ?_)
  refine gs [.alloc (PC x), .alloc (PC y), .alloc (PC 0)] [0, 1, 2] [0, 0, 0] (fun L => [PV x, PV y, pt (L.b 0) 0, pt (L.b 1) 0, pt (L.b 2) 0] ++ U 11) (fun L => [(L.b 0, PC x), (L.b 1, PC y), (L.b 2, PC 0)]) hp0 ⟨
    oB, oB, oZ rP,
    trivial⟩ (fun L0 w1 hp1 => ?_)
  refine k1 _ _ ?_
  refine wp_seq_k (fun K2 k2 => ?_)
  refine dr [.det (pt (L0.b 0) 0), .det (FV x.c0), .det (pt (L0.b 1) 0), .det (FV y.c0), .det (FV (x.c0 + y.c0)), .det (pt (L0.b 0) 6), .det (FV x.c1), .det (pt (L0.b 1) 6), .det (FV y.c1), .det (FV (x.c1 + y.c1)), .det (PV ⟨(x.c0 + y.c0), (x.c1 + y.c1)⟩), .store (.base 2) 0 (PC ⟨(x.c0 + y.c0), (x.c1 + y.c1)⟩) (PC ⟨(x.c0 + y.c0), (x.c1 + y.c1)⟩)] [0, 1, 2, 3, 4, 5, 6, 7, 8, 9, 10, 11] [0, 1, 0, 4, 15, 0, 32, 0, 128, 511, 1023, 2047] (fun L => [PV x, PV y, pt (L0.b 0) 0, pt (L0.b 1) 0, pt (L0.b 2) 0, pt (L0.b 0) 0, FV x.c0, pt (L0.b 1) 0, FV y.c0, FV (x.c0 + y.c0), pt (L0.b 0) 6, FV x.c1, pt (L0.b 1) 6, FV y.c1, FV (x.c1 + y.c1), PV ⟨(x.c0 + y.c0), (x.c1 + y.c1)⟩]) (fun L => [((L0.b 0), PC x), ((L0.b 1), PC y), ((L0.b 2), PC ⟨(x.c0 + y.c0), (x.c1 + y.c1)⟩)]) hp1 ⟨
    oI aP, oL 0 0 rF, oI aP, oL 1 0 rF, oC K.stay hg (K.add x.c0 y.c0), oI aP, oL 0 6 rF, oI aP, oL 1 6 rF, oC K.stay hg (K.add x.c1 y.c1), oD (buildP (x.c0 + y.c0) (x.c1 + y.c1)),
    oT rP,
    trivial⟩ (fun L1 w2 hp2 => ?_)
  refine k2 _ _ ?_
  refine wp_ret ?_
  refine bodyPost_ret (v := PV ⟨(x.c0 + y.c0), (x.c1 + y.c1)⟩) ?_ rfl ?_
  · exact rc rP rfl (by kernel_rfl) (hp2.bound 2 rfl).2
  · exact ⟨rfl, hp2.bel⟩
set_option maxHeartbeats 4000000 in
theorem fp2Sub {G : World → Prop} (K : FpK G) (x y : F2) (w : World) (hg : G w) : Calls Tryd.prog 60 #[PV x, PV y] w (Ret (PV (x - y)) w) := by
  have hp0 := Heap.start w
  go_enter Tryd.func60, Tryd.ntmps60
  refine wp_seq_k (fun K1 k1 => ?_)
  refine gs [.alloc (PC x), .alloc (PC y), .alloc (PC 0)] [0, 1, 2] [0, 0, 0] (fun L => [PV x, PV y, pt (L.b 0) 0, pt (L.b 1) 0, pt (L.b 2) 0] ++ U 11) (fun L => [(L.b 0, PC x), (L.b 1, PC y), (L.b 2, PC 0)]) hp0 ⟨
    oB, oB, oZ rP,
    trivial⟩ (fun L0 w1 hp1 => ?_)
  refine k1 _ _ ?_
  refine wp_seq_k (fun K2 k2 => ?_)
  refine dr [.det (pt (L0.b 0) 0), .det (FV x.c0), .det (pt (L0.b 1) 0), .det (FV y.c0), .det (FV (x.c0 - y.c0)), .det (pt (L0.b 0) 6), .det (FV x.c1), .det (pt (L0.b 1) 6), .det (FV y.c1), .det (FV (x.c1 - y.c1)), .det (PV ⟨(x.c0 - y.c0), (x.c1 - y.c1)⟩), .store (.base 2) 0 (PC ⟨(x.c0 - y.c0), (x.c1 - y.c1)⟩) (PC ⟨(x.c0 - y.c0), (x.c1 - y.c1)⟩)] [0, 1, 2, 3, 4, 5, 6, 7, 8, 9, 10, 11] [0, 1, 0, 4, 15, 0, 32, 0, 128, 511, 1023, 2047] (fun L => [PV x, PV y, pt (L0.b 0) 0, pt (L0.b 1) 0, pt (L0.b 2) 0, pt (L0.b 0) 0, FV x.c0, pt (L0.b 1) 0, FV y.c0, FV (x.c0 - y.c0), pt (L0.b 0) 6, FV x.c1, pt (L0.b 1) 6, FV y.c1, FV (x.c1 - y.c1), PV ⟨(x.c0 - y.c0), (x.c1 - y.c1)⟩]) (fun L => [((L0.b 0), PC x), ((L0.b 1), PC y), ((L0.b 2), PC ⟨(x.c0 - y.c0), (x.c1 - y.c1)⟩)]) hp1 ⟨
    oI aP, oL 0 0 rF, oI aP, oL 1 0 rF, oC K.stay hg (K.sub x.c0 y.c0), oI aP, oL 0 6 rF, oI aP, oL 1 6 rF, oC K.stay hg (K.sub x.c1 y.c1), oD (buildP (x.c0 - y.c0) (x.c1 - y.c1)),
    oT rP,
    trivial⟩ (fun L1 w2 hp2 => ?_)
  refine k2 _ _ ?_
  refine wp_ret ?_
  refine bodyPost_ret (v := PV ⟨(x.c0 - y.c0), (x.c1 - y.c1)⟩) ?_ rfl ?_
  · exact rc rP rfl (by kernel_rfl) (hp2.bound 2 rfl).2
  · exact ⟨rfl, hp2.bel⟩
set_option maxHeartbeats 4000000 in
theorem fp2Neg {G : World → Prop} (K : FpK G) (x : F2) (w : World) (hg : G w) : Calls Tryd.prog 38 #[PV x] w (Ret (PV (-x)) w) := by
  have hp0 := Heap.start w
  go_enter Tryd.func38, Tryd.ntmps38
  refine wp_seq_k (fun K1 k1 => ?_)
  refine gs [.alloc (PC x), .alloc (PC 0)] [0, 1] [0, 0] (fun L => [PV x, pt (L.b 0) 0, pt (L.b 1) 0] ++ U 7) (fun L => [(L.b 0, PC x), (L.b 1, PC 0)]) hp0 ⟨
    oB, oZ rP,
    trivial⟩ (fun L0 w1 hp1 => ?_)
  refine k1 _ _ ?_
  refine wp_seq_k (fun K2 k2 => ?_)
  refine dr [.det (pt (L0.b 0) 0), .det (FV x.c0), .det (FV (-x.c0)), .det (pt (L0.b 0) 6), .det (FV x.c1), .det (FV (-x.c1)), .det (PV ⟨(-x.c0), (-x.c1)⟩), .store (.base 1) 0 (PC ⟨(-x.c0), (-x.c1)⟩) (PC ⟨(-x.c0), (-x.c1)⟩)] [0, 1, 2, 3, 4, 5, 6, 7] [0, 1, 3, 0, 8, 31, 63, 127] (fun L => [PV x, pt (L0.b 0) 0, pt (L0.b 1) 0, pt (L0.b 0) 0, FV x.c0, FV (-x.c0), pt (L0.b 0) 6, FV x.c1, FV (-x.c1), PV ⟨(-x.c0), (-x.c1)⟩]) (fun L => [((L0.b 0), PC x), ((L0.b 1), PC ⟨(-x.c0), (-x.c1)⟩)]) hp1 ⟨
    oI aP, oL 0 0 rF, oC K.stay hg (K.neg x.c0), oI aP, oL 0 6 rF, oC K.stay hg (K.neg x.c1), oD (buildP (-x.c0) (-x.c1)), oT rP,
    trivial⟩ (fun L1 w2 hp2 => ?_)
  refine k2 _ _ ?_
  refine wp_ret ?_
  refine bodyPost_ret (v := PV ⟨(-x.c0), (-x.c1)⟩) ?_ rfl ?_
  · exact rc rP rfl (by kernel_rfl) (hp2.bound 1 rfl).2
  · exact ⟨rfl, hp2.bel⟩
set_option maxHeartbeats 4000000 in
theorem fp2Mul {G : World → Prop} (K : FpK G) (x y : F2) (w : World) (hg : G w) : Calls Tryd.prog 45 #[PV x, PV y] w (Ret (PV (x * y)) w) := by
  have hp0 := Heap.start w
  go_enter Tryd.func45, Tryd.ntmps45
  refine wp_seq_k (fun K1 k1 => ?_)
  refine gs [.alloc (PC x), .alloc (PC y), .alloc (PC 0)] [0, 1, 2] [0, 0, 0] (fun L => [PV x, PV y, pt (L.b 0) 0, pt (L.b 1) 0, pt (L.b 2) 0] ++ U 33) (fun L => [(L.b 0, PC x), (L.b 1, PC y), (L.b 2, PC 0)]) hp0 ⟨
    oB, oB, oZ rP,
    trivial⟩ (fun L0 w1 hp1 => ?_)
  refine k1 _ _ ?_
  refine wp_seq_k (fun K2 k2 => ?_)
  refine dr [.det (pt (L0.b 0) 0), .det (FV x.c0), .det (pt (L0.b 1) 0), .det (FV y.c0), .det (FV (x.c0 * y.c0)), .det (pt (L0.b 0) 6), .det (FV x.c1), .det (pt (L0.b 1) 6), .det (FV y.c1), .det (FV (x.c1 * y.c1)), .alloc (FC 0), .alloc (FC 0), .store (.new 10) 0 (FC (x.c0 * y.c0)) (FC (x.c0 * y.c0)), .store (.new 11) 0 (FC (x.c1 * y.c1)) (FC (x.c1 * y.c1))] [0, 1, 2, 3, 4, 5, 6, 7, 8, 9, 10, 11, 12, 13] [0, 1, 0, 4, 15, 0, 32, 0, 128, 511, 0, 0, 4095, 8191] (fun L => [PV x, PV y, pt (L0.b 0) 0, pt (L0.b 1) 0, pt (L0.b 2) 0, pt (L.b 10) 0, pt (L.b 11) 0, undef, pt (L0.b 0) 0, FV x.c0, pt (L0.b 1) 0, FV y.c0, FV (x.c0 * y.c0), pt (L0.b 0) 6, FV x.c1, pt (L0.b 1) 6, FV y.c1, FV (x.c1 * y.c1)] ++ U 20) (fun L => [((L0.b 0), PC x), ((L0.b 1), PC y), ((L0.b 2), PC 0), (L.b 10, FC (x.c0 * y.c0)), (L.b 11, FC (x.c1 * y.c1))]) hp1 ⟨
    oI aP, oL 0 0 rF, oI aP, oL 1 0 rF, oC K.stay hg (K.mul x.c0 y.c0), oI aP, oL 0 6 rF, oI aP, oL 1 6 rF, oC K.stay hg (K.mul x.c1 y.c1), oZ rF, oZ rF, oT rF,
    oT rF,
    trivial⟩ (fun L1 w2 hp2 => ?_)
  refine k2 _ _ ?_
  refine wp_seq_k (fun K3 k3 => ?_)
  refine dr [.det (pt (L0.b 0) 0), .det (FV x.c0), .det (pt (L0.b 0) 6), .det (FV x.c1), .det (FV (x.c0 + x.c1)), .det (pt (L0.b 1) 0), .det (FV y.c0), .det (pt (L0.b 1) 6), .det (FV y.c1), .det (FV (y.c0 + y.c1)), .det (FV ((x.c0 + x.c1) * (y.c0 + y.c1))), .alloc (FC 0), .store (.new 11) 0 (FC ((x.c0 + x.c1) * (y.c0 + y.c1))) (FC ((x.c0 + x.c1) * (y.c0 + y.c1)))] [0, 1, 2, 3, 4, 5, 6, 7, 8, 9, 10, 11, 12] [0, 1, 0, 4, 15, 0, 32, 0, 128, 511, 1023, 0, 4095] (fun L => [PV x, PV y, pt (L0.b 0) 0, pt (L0.b 1) 0, pt (L0.b 2) 0, pt (L1.b 10) 0, pt (L1.b 11) 0, pt (L.b 11) 0, pt (L0.b 0) 0, FV x.c0, pt (L0.b 1) 0, FV y.c0, FV (x.c0 * y.c0), pt (L0.b 0) 6, FV x.c1, pt (L0.b 1) 6, FV y.c1, FV (x.c1 * y.c1), pt (L0.b 0) 0, FV x.c0, pt (L0.b 0) 6, FV x.c1, FV (x.c0 + x.c1), pt (L0.b 1) 0, FV y.c0, pt (L0.b 1) 6, FV y.c1, FV (y.c0 + y.c1), FV ((x.c0 + x.c1) * (y.c0 + y.c1))] ++ U 9) (fun L => [((L0.b 0), PC x), ((L0.b 1), PC y), ((L0.b 2), PC 0), ((L1.b 10), FC (x.c0 * y.c0)), ((L1.b 11), FC (x.c1 * y.c1)), (L.b 11, FC ((x.c0 + x.c1) * (y.c0 + y.c1)))]) hp2 ⟨
    oI aP, oL 0 0 rF, oI aP, oL 0 6 rF, oC K.stay hg (K.add x.c0 x.c1), oI aP, oL 1 0 rF, oI aP, oL 1 6 rF, oC K.stay hg (K.add y.c0 y.c1), oC K.stay hg (K.mul (x.c0 + x.c1) (y.c0 + y.c1)),
    oZ rF, oT rF,
    trivial⟩ (fun L2 w3 hp3 => ?_)
  refine k3 _ _ ?_
  refine wp_seq_k (fun K4 k4 => ?_)
  refine dr [.det (FV (x.c0 * y.c0)), .det (FV (x.c1 * y.c1)), .det (FV ((x.c0 * y.c0) - (x.c1 * y.c1))), .det (FV ((x.c0 + x.c1) * (y.c0 + y.c1))), .det (FV (x.c0 * y.c0)), .det (FV (((x.c0 + x.c1) * (y.c0 + y.c1)) - (x.c0 * y.c0))), .det (FV (x.c1 * y.c1)), .det (FV ((((x.c0 + x.c1) * (y.c0 + y.c1)) - (x.c0 * y.c0)) - (x.c1 * y.c1))), .det (PV ⟨((x.c0 * y.c0) - (x.c1 * y.c1)), ((((x.c0 + x.c1) * (y.c0 + y.c1)) - (x.c0 * y.c0)) - (x.c1 * y.c1))⟩), .store (.base 2) 0 (PC ⟨((x.c0 * y.c0) - (x.c1 * y.c1)), ((((x.c0 + x.c1) * (y.c0 + y.c1)) - (x.c0 * y.c0)) - (x.c1 * y.c1))⟩) (PC ⟨((x.c0 * y.c0) - (x.c1 * y.c1)), ((((x.c0 + x.c1) * (y.c0 + y.c1)) - (x.c0 * y.c0)) - (x.c1 * y.c1))⟩)] [0, 1, 2, 3, 4, 5, 6, 7, 8, 9] [0, 0, 3, 0, 0, 31, 0, 127, 255, 511] (fun L => [PV x, PV y, pt (L0.b 0) 0, pt (L0.b 1) 0, pt (L0.b 2) 0, pt (L1.b 10) 0, pt (L1.b 11) 0, pt (L2.b 11) 0, pt (L0.b 0) 0, FV x.c0, pt (L0.b 1) 0, FV y.c0, FV (x.c0 * y.c0), pt (L0.b 0) 6, FV x.c1, pt (L0.b 1) 6, FV y.c1, FV (x.c1 * y.c1), pt (L0.b 0) 0, FV x.c0, pt (L0.b 0) 6, FV x.c1, FV (x.c0 + x.c1), pt (L0.b 1) 0, FV y.c0, pt (L0.b 1) 6, FV y.c1, FV (y.c0 + y.c1), FV ((x.c0 + x.c1) * (y.c0 + y.c1)), FV (x.c0 * y.c0), FV (x.c1 * y.c1), FV ((x.c0 * y.c0) - (x.c1 * y.c1)), FV ((x.c0 + x.c1) * (y.c0 + y.c1)), FV (x.c0 * y.c0), FV (((x.c0 + x.c1) * (y.c0 + y.c1)) - (x.c0 * y.c0)), FV (x.c1 * y.c1), FV ((((x.c0 + x.c1) * (y.c0 + y.c1)) - (x.c0 * y.c0)) - (x.c1 * y.c1)), PV ⟨((x.c0 * y.c0) - (x.c1 * y.c1)), ((((x.c0 + x.c1) * (y.c0 + y.c1)) - (x.c0 * y.c0)) - (x.c1 * y.c1))⟩]) (fun L => [((L0.b 0), PC x), ((L0.b 1), PC y), ((L0.b 2), PC ⟨((x.c0 * y.c0) - (x.c1 * y.c1)), ((((x.c0 + x.c1) * (y.c0 + y.c1)) - (x.c0 * y.c0)) - (x.c1 * y.c1))⟩), ((L1.b 10), FC (x.c0 * y.c0)), ((L1.b 11), FC (x.c1 * y.c1)), ((L2.b 11), FC ((x.c0 + x.c1) * (y.c0 + y.c1)))]) hp3 ⟨
    oL 3 0 rF, oL 4 0 rF, oC K.stay hg (K.sub (x.c0 * y.c0) (x.c1 * y.c1)), oL 5 0 rF, oL 3 0 rF, oC K.stay hg (K.sub ((x.c0 + x.c1) * (y.c0 + y.c1)) (x.c0 * y.c0)),
    oL 4 0 rF, oC K.stay hg (K.sub (((x.c0 + x.c1) * (y.c0 + y.c1)) - (x.c0 * y.c0)) (x.c1 * y.c1)), oD (buildP ((x.c0 * y.c0) - (x.c1 * y.c1)) ((((x.c0 + x.c1) * (y.c0 + y.c1)) - (x.c0 * y.c0)) - (x.c1 * y.c1))),
    oT rP,
    trivial⟩ (fun L3 w4 hp4 => ?_)
  refine k4 _ _ ?_
  refine wp_ret ?_
  refine bodyPost_ret (v := PV ⟨((x.c0 * y.c0) - (x.c1 * y.c1)), ((((x.c0 + x.c1) * (y.c0 + y.c1)) - (x.c0 * y.c0)) - (x.c1 * y.c1))⟩) ?_ rfl ?_
  · exact rc rP rfl (by kernel_rfl) (hp4.bound 2 rfl).2
  · exact ⟨congrArg (fun z => Ending.returned (PV z)) (F2.ext' (by simp) (by simp; grind)), hp4.bel⟩
set_option maxHeartbeats 4000000 in
theorem fp2Conj {G : World → Prop} (K : FpK G) (x : F2) (w : World) (hg : G w) : Calls Tryd.prog 91 #[PV x] w (Ret (PV x.conj) w) := by
  have hp0 := Heap.start w
  go_enter Tryd.func91, Tryd.ntmps91
  refine wp_seq_k (fun K1 k1 => ?_)
  refine gs [.alloc (PC x), .alloc (PC 0)] [0, 1] [0, 0] (fun L => [PV x, pt (L.b 0) 0, pt (L.b 1) 0] ++ U 6) (fun L => [(L.b 0, PC x), (L.b 1, PC 0)]) hp0 ⟨
    oB, oZ rP,
    trivial⟩ (fun L0 w1 hp1 => ?_)
  refine k1 _ _ ?_
  refine wp_seq_k (fun K2 k2 => ?_)
  refine dr [.det (pt (L0.b 0) 0), .det (FV x.c0), .det (pt (L0.b 0) 6), .det (FV x.c1), .det (FV (-x.c1)), .det (PV ⟨x.c0, (-x.c1)⟩), .store (.base 1) 0 (PC ⟨x.c0, (-x.c1)⟩) (PC ⟨x.c0, (-x.c1)⟩)] [0, 1, 2, 3, 4, 5, 6] [0, 1, 0, 4, 12, 31, 63] (fun L => [PV x, pt (L0.b 0) 0, pt (L0.b 1) 0, pt (L0.b 0) 0, FV x.c0, pt (L0.b 0) 6, FV x.c1, FV (-x.c1), PV ⟨x.c0, (-x.c1)⟩]) (fun L => [((L0.b 0), PC x), ((L0.b 1), PC ⟨x.c0, (-x.c1)⟩)]) hp1 ⟨
    oI aP, oL 0 0 rF, oI aP, oL 0 6 rF, oC K.stay hg (K.neg x.c1), oD (buildP x.c0 (-x.c1)), oT rP,
    trivial⟩ (fun L1 w2 hp2 => ?_)
  refine k2 _ _ ?_
  refine wp_ret ?_
  refine bodyPost_ret (v := PV ⟨x.c0, (-x.c1)⟩) ?_ rfl ?_
  · exact rc rP rfl (by kernel_rfl) (hp2.bound 1 rfl).2
  · exact ⟨rfl, hp2.bel⟩
set_option maxHeartbeats 4000000 in
theorem fp2norm {G : World → Prop} (K : FpK G) (x : F2) (w : World) (hg : G w) : Calls Tryd.prog 89 #[PV x] w (Ret (FV x.norm) w) := by
  have hp0 := Heap.start w
  go_enter Tryd.func89, Tryd.ntmps89
  refine wp_seq_k (fun K1 k1 => ?_)
  refine gs [.alloc (PC x), .alloc (FC 0)] [0, 1] [0, 0] (fun L => [PV x, pt (L.b 0) 0, pt (L.b 1) 0] ++ U 11) (fun L => [(L.b 0, PC x), (L.b 1, FC 0)]) hp0 ⟨
    oB, oZ rF,
    trivial⟩ (fun L0 w1 hp1 => ?_)
  refine k1 _ _ ?_
  refine wp_seq_k (fun K2 k2 => ?_)
  refine dr [.det (pt (L0.b 0) 0), .det (FV x.c0), .det (pt (L0.b 0) 0), .det (FV x.c0), .det (FV (x.c0 * x.c0)), .det (pt (L0.b 0) 6), .det (FV x.c1), .det (pt (L0.b 0) 6), .det (FV x.c1), .det (FV (x.c1 * x.c1)), .det (FV ((x.c0 * x.c0) + (x.c1 * x.c1))), .store (.base 1) 0 (FC ((x.c0 * x.c0) + (x.c1 * x.c1))) (FC ((x.c0 * x.c0) + (x.c1 * x.c1)))] [0, 1, 2, 3, 4, 5, 6, 7, 8, 9, 10, 11] [0, 1, 0, 4, 15, 0, 32, 0, 128, 511, 1023, 2047] (fun L => [PV x, pt (L0.b 0) 0, pt (L0.b 1) 0, pt (L0.b 0) 0, FV x.c0, pt (L0.b 0) 0, FV x.c0, FV (x.c0 * x.c0), pt (L0.b 0) 6, FV x.c1, pt (L0.b 0) 6, FV x.c1, FV (x.c1 * x.c1), FV ((x.c0 * x.c0) + (x.c1 * x.c1))]) (fun L => [((L0.b 0), PC x), ((L0.b 1), FC ((x.c0 * x.c0) + (x.c1 * x.c1)))]) hp1 ⟨
    oI aP, oL 0 0 rF, oI aP, oL 0 0 rF, oC K.stay hg (K.mul x.c0 x.c0), oI aP, oL 0 6 rF, oI aP, oL 0 6 rF, oC K.stay hg (K.mul x.c1 x.c1), oC K.stay hg (K.add (x.c0 * x.c0) (x.c1 * x.c1)),
    oT rF,
    trivial⟩ (fun L1 w2 hp2 => ?_)
  refine k2 _ _ ?_
  refine wp_ret ?_
  refine bodyPost_ret (v := FV ((x.c0 * x.c0) + (x.c1 * x.c1))) ?_ rfl ?_
  · exact rc rF rfl (by kernel_rfl) (hp2.bound 1 rfl).2
  · exact ⟨rfl, hp2.bel⟩
set_option maxHeartbeats 4000000 in
theorem fp2scale {G : World → Prop} (K : FpK G) (x : F2) (k : F) (w : World) (hg : G w) : Calls Tryd.prog 90 #[PV x, FV k] w (Ret (PV ⟨x.c0 * k, x.c1 * k⟩) w) := by
  have hp0 := Heap.start w
  go_enter Tryd.func90, Tryd.ntmps90
  refine wp_seq_k (fun K1 k1 => ?_)
  refine gs [.alloc (PC x), .alloc (FC k), .alloc (PC 0)] [0, 1, 2] [0, 0, 0] (fun L => [PV x, FV k, pt (L.b 0) 0, pt (L.b 1) 0, pt (L.b 2) 0] ++ U 9) (fun L => [(L.b 0, PC x), (L.b 1, FC k), (L.b 2, PC 0)]) hp0 ⟨
    oB, oB, oZ rP,
    trivial⟩ (fun L0 w1 hp1 => ?_)
  refine k1 _ _ ?_
  refine wp_seq_k (fun K2 k2 => ?_)
  refine dr [.det (pt (L0.b 0) 0), .det (FV x.c0), .det (FV k), .det (FV (x.c0 * k)), .det (pt (L0.b 0) 6), .det (FV x.c1), .det (FV k), .det (FV (x.c1 * k)), .det (PV ⟨(x.c0 * k), (x.c1 * k)⟩), .store (.base 2) 0 (PC ⟨(x.c0 * k), (x.c1 * k)⟩) (PC ⟨(x.c0 * k), (x.c1 * k)⟩)] [0, 1, 2, 3, 4, 5, 6, 7, 8, 9] [0, 1, 0, 7, 0, 16, 0, 127, 255, 511] (fun L => [PV x, FV k, pt (L0.b 0) 0, pt (L0.b 1) 0, pt (L0.b 2) 0, pt (L0.b 0) 0, FV x.c0, FV k, FV (x.c0 * k), pt (L0.b 0) 6, FV x.c1, FV k, FV (x.c1 * k), PV ⟨(x.c0 * k), (x.c1 * k)⟩]) (fun L => [((L0.b 0), PC x), ((L0.b 1), FC k), ((L0.b 2), PC ⟨(x.c0 * k), (x.c1 * k)⟩)]) hp1 ⟨
    oI aP, oL 0 0 rF, oL 1 0 rF, oC K.stay hg (K.mul x.c0 k), oI aP, oL 0 6 rF, oL 1 0 rF, oC K.stay hg (K.mul x.c1 k), oD (buildP (x.c0 * k) (x.c1 * k)), oT rP,
    trivial⟩ (fun L1 w2 hp2 => ?_)
  refine k2 _ _ ?_
  refine wp_ret ?_
  refine bodyPost_ret (v := PV ⟨(x.c0 * k), (x.c1 * k)⟩) ?_ rfl ?_
  · exact rc rP rfl (by kernel_rfl) (hp2.bound 2 rfl).2
  · exact ⟨rfl, hp2.bel⟩
set_option maxHeartbeats 4000000 in
theorem fp2Inv {G : World → Prop} (K : FpK G) (x : F2) (w : World) (hg : G w) (hn : x.norm ≠ 0) : Calls Tryd.prog 59 #[PV x] w (Ret (.tuple #[PV x.inv, .int .i64 0]) w) := by
  have hp0 := Heap.start w
  go_enter Tryd.func59, Tryd.ntmps59
  refine wp_seq_k (fun K1 k1 => ?_)
  refine gs [.alloc (PC x), .alloc (PC 0), .det (.int .i64 0)] [0, 1, 2] [0, 0, 0] (fun L => [PV x, pt (L.b 0) 0, pt (L.b 1) 0, .int .i64 0] ++ U 16) (fun L => [(L.b 0, PC x), (L.b 1, PC 0)]) hp0 ⟨
    oB, oZ rP, oA,
    trivial⟩ (fun L0 w1 hp1 => ?_)
  refine k1 _ _ ?_
  refine wp_seq_k (fun K2 k2 => ?_)
  refine gs [.det (PV x), .det (FV x.norm), .det (.tuple #[FV (finv x.norm), .int .i64 0]), .det (.tuple #[FV (finv x.norm), .int .i64 0]), .det (FV (finv x.norm)), .det (.int .i64 0), .alloc (FC 0), .store (.new 6) 0 (FC (finv x.norm)) (FC (finv x.norm)), .det (.int .i64 0)] [0, 1, 2, 3, 4, 5, 6, 7, 8] [0, 1, 3, 7, 15, 15, 0, 95, 255] (fun L => [PV x, pt (L0.b 0) 0, pt (L0.b 1) 0, .int .i64 0, pt (L.b 6) 0, .int .i64 0, .tuple #[FV (finv x.norm), .int .i64 0], PV x, FV x.norm, .tuple #[FV (finv x.norm), .int .i64 0], FV (finv x.norm), .int .i64 0] ++ U 8) (fun L => [((L0.b 0), PC x), ((L0.b 1), PC 0), (L.b 6, FC (finv x.norm))]) hp1 ⟨
    oL 0 0 rP, oC K.stay hg (fp2norm K x), oH (v := .tuple #[FV (finv x.norm), .int .i64 0]) (vs := #[FV x.norm]) (fun w hb _ => K.inv _ w (K.stay hg hb) hn), oM,
    oX, oX, oZ rF, oT rF, oA,
    trivial⟩ (fun L1 w2 hp2 => ?_)
  refine k2 _ _ ?_
  refine wp_seq_k (fun K3 k3 => ?_)
  refine wp_seq_k (fun K4 k4 => ?_)
  refine gs [.det (.int .i64 0), .det (.bool false)] [0, 1] [0, 1] (fun L => [PV x, pt (L0.b 0) 0, pt (L0.b 1) 0, .int .i64 0, pt (L1.b 6) 0, .int .i64 0, .tuple #[FV (finv x.norm), .int .i64 0], PV x, FV x.norm, .tuple #[FV (finv x.norm), .int .i64 0], FV (finv x.norm), .int .i64 0, .int .i64 0, .bool false] ++ U 6) (fun L => [((L0.b 0), PC x), ((L0.b 1), PC 0), ((L1.b 6), FC (finv x.norm))]) hp2 ⟨
    oM, oJ .i64 .i64 0 0 (h := fun w => (neqI _ _ _ _ w).trans rfl),
    trivial⟩ (fun L2 w3 hp3 => ?_)
  refine k4 _ _ ?_
  refine wp_cond_false (by kernel_rfl) ?_
  refine skips ?_
  refine k3 _ _ ?_
  refine wp_seq_k (fun K5 k5 => ?_)
  refine dr [.det (PV x), .det (PV x.conj), .det (FV (finv x.norm)), .det (PV ⟨x.conj.c0 * (finv x.norm), x.conj.c1 * (finv x.norm)⟩), .store (.base 1) 0 (PC ⟨x.conj.c0 * (finv x.norm), x.conj.c1 * (finv x.norm)⟩) (PC ⟨x.conj.c0 * (finv x.norm), x.conj.c1 * (finv x.norm)⟩), .det (.int .i64 0)] [0, 1, 2, 3, 4, 5] [0, 1, 0, 7, 15, 31] (fun L => [PV x, pt (L0.b 0) 0, pt (L0.b 1) 0, .int .i64 0, pt (L1.b 6) 0, .int .i64 0, .tuple #[FV (finv x.norm), .int .i64 0], PV x, FV x.norm, .tuple #[FV (finv x.norm), .int .i64 0], FV (finv x.norm), .int .i64 0, .int .i64 0, .bool false, undef, undef, PV x, PV x.conj, FV (finv x.norm), PV ⟨x.conj.c0 * (finv x.norm), x.conj.c1 * (finv x.norm)⟩]) (fun L => [((L0.b 0), PC x), ((L0.b 1), PC ⟨x.conj.c0 * (finv x.norm), x.conj.c1 * (finv x.norm)⟩), ((L1.b 6), FC (finv x.norm))]) hp3 ⟨
    oL 0 0 rP, oC K.stay hg (fp2Conj K x), oL 2 0 rF, oC K.stay hg (fp2scale K x.conj (finv x.norm)), oT rP, oA,
    trivial⟩ (fun L3 w4 hp4 => ?_)
  refine k5 _ _ ?_
  refine wp_ret ?_
  refine bodyPost_ret (v := .tuple #[PV ⟨x.conj.c0 * (finv x.norm), x.conj.c1 * (finv x.norm)⟩, .int .i64 0]) ?_ rfl ?_
  · exact rct rP rfl (by kernel_rfl) (by kernel_rfl) (hp4.bound 1 rfl).2
  · exact ⟨rfl, hp4.bel⟩
set_option maxHeartbeats 4000000 in
theorem fp2Inv0 {G : World → Prop} (K : FpK G) (x : F2) (w : World) (hg : G w) (hn : x.norm = 0) : Calls Tryd.prog 59 #[PV x] w (Ret (.tuple #[PV 0, .int .i64 7]) w) := by
  have hp0 := Heap.start w
  go_enter Tryd.func59, Tryd.ntmps59
  refine wp_seq_k (fun K1 k1 => ?_)
  refine gs [.alloc (PC x), .alloc (PC 0), .det (.int .i64 0)] [0, 1, 2] [0, 0, 0] (fun L => [PV x, pt (L.b 0) 0, pt (L.b 1) 0, .int .i64 0] ++ U 16) (fun L => [(L.b 0, PC x), (L.b 1, PC 0)]) hp0 ⟨
    oB, oZ rP, oA,
    trivial⟩ (fun L0 w1 hp1 => ?_)
  refine k1 _ _ ?_
  refine wp_seq_k (fun K2 k2 => ?_)
  refine gs [.det (PV x), .det (FV 0), .det (.tuple #[FV 0, .int .i64 7]), .det (.tuple #[FV 0, .int .i64 7]), .det (FV 0), .det (.int .i64 7), .alloc (FC 0), .store (.new 6) 0 (FC 0) (FC 0), .det (.int .i64 7)] [0, 1, 2, 3, 4, 5, 6, 7, 8] [0, 1, 3, 7, 15, 15, 0, 95, 255] (fun L => [PV x, pt (L0.b 0) 0, pt (L0.b 1) 0, .int .i64 0, pt (L.b 6) 0, .int .i64 7, .tuple #[FV 0, .int .i64 7], PV x, FV 0, .tuple #[FV 0, .int .i64 7], FV 0, .int .i64 7] ++ U 8) (fun L => [((L0.b 0), PC x), ((L0.b 1), PC 0), (L.b 6, FC 0)]) hp1 ⟨
    oL 0 0 rP, oH (v := FV 0) (vs := #[PV x]) (fun w hb _ => by have h := fp2norm K x w (K.stay hg hb); rw [hn] at h; exact h), oC K.stay hg K.inv0, oM, oX, oX,
    oZ rF, oT rF, oA,
    trivial⟩ (fun L1 w2 hp2 => ?_)
  refine k2 _ _ ?_
  refine wp_seq_k (fun K3 k3 => ?_)
  refine wp_seq_k (fun K4 k4 => ?_)
  refine gs [.det (.int .i64 7), .det (.bool true)] [0, 1] [0, 1] (fun L => [PV x, pt (L0.b 0) 0, pt (L0.b 1) 0, .int .i64 0, pt (L1.b 6) 0, .int .i64 7, .tuple #[FV 0, .int .i64 7], PV x, FV 0, .tuple #[FV 0, .int .i64 7], FV 0, .int .i64 7, .int .i64 7, .bool true] ++ U 6) (fun L => [((L0.b 0), PC x), ((L0.b 1), PC 0), ((L1.b 6), FC 0)]) hp2 ⟨
    oM, oJ .i64 .i64 7 0 (h := fun w => (neqI _ _ _ _ w).trans rfl),
    trivial⟩ (fun L2 w3 hp3 => ?_)
  refine k4 _ _ ?_
  refine wp_cond_true (by kernel_rfl) ?_
  refine wp_seq_k (fun K5 k5 => ?_)
  refine gs [.det (PV 0), .det (.int .i64 7), .store (.base 1) 0 (PC 0) (PC 0), .det (.int .i64 7)] [0, 1, 2, 3] [0, 0, 1, 7] (fun L => [PV x, pt (L0.b 0) 0, pt (L0.b 1) 0, .int .i64 7, pt (L1.b 6) 0, .int .i64 7, .tuple #[FV 0, .int .i64 7], PV x, FV 0, .tuple #[FV 0, .int .i64 7], FV 0, .int .i64 7, .int .i64 7, .bool true, PV 0, .int .i64 7] ++ U 4) (fun L => [((L0.b 0), PC x), ((L0.b 1), PC 0), ((L1.b 6), FC 0)]) hp3 ⟨
    oD buildP0, oM, oT rP, oA,
    trivial⟩ (fun L3 w4 hp4 => ?_)
  refine k5 _ _ ?_
  refine wp_ret ?_
  refine bodyPost_ret (v := .tuple #[PV 0, .int .i64 7]) ?_ rfl ?_
  · exact rct rP rfl (by kernel_rfl) (by kernel_rfl) (hp4.bound 1 rfl).2
  · exact ⟨rfl, hp4.bel⟩
set_option maxHeartbeats 4000000 in
theorem fp2May {G : World → Prop} (K : FpK G) (f g : Nat → Int) (w : World) (hg : G w) (rf : Rg f 6) (rg : Rg g 6) (lf : val f 6 < RI) (lg : val g 6 < RI) : Calls Tryd.prog 42 #[QV2 f g] w (Ret (.bool true) w) := by
  have hp0 := Heap.start w
  go_enter Tryd.func42, Tryd.ntmps42
  refine wp_seq_k (fun K1 k1 => ?_)
  refine gs [.alloc (QC2 f g), .det (.bool false)] [0, 1] [0, 0] (fun L => [QV2 f g, pt (L.b 0) 0, .bool false] ++ U 8) (fun L => [(L.b 0, QC2 f g)]) hp0 ⟨
    oB, oA,
    trivial⟩ (fun L0 w1 hp1 => ?_)
  refine k1 _ _ ?_
  refine wp_seq_k (fun K2 k2 => ?_)
  refine gs [.det (pt (L0.b 0) 0), .det (QV f), .det (.bool true), .det (.bool true), .det (pt (L0.b 0) 6), .det (QV g), .det (.bool true), .det (.bool true), .det (.bool true)] [0, 1, 2, 3, 4, 5, 6, 7, 8] [0, 1, 3, 7, 15, 31, 63, 127, 255] (fun L => [QV2 f g, pt (L0.b 0) 0, .bool true, pt (L0.b 0) 0, QV f, .bool true, .bool true, pt (L0.b 0) 6, QV g, .bool true, .bool true]) (fun L => [((L0.b 0), QC2 f g)]) hp1 ⟨
    oI aP, oL 0 0 rF, oH (v := .bool true) (vs := #[QV f]) (fun w hb _ => by have h := K.may f w (K.stay hg hb) rf; rw [decide_eq_true lf] at h; exact h), oM, oI aP,
    oL 0 6 rF, oH (v := .bool true) (vs := #[QV g]) (fun w hb _ => by have h := K.may g w (K.stay hg hb) rg; rw [decide_eq_true lg] at h; exact h), oP, oA,
    trivial⟩ (fun L1 w2 hp2 => ?_)
  refine k2 _ _ ?_
  refine wp_ret ?_
  refine bodyPost_ret (v := .bool true) ?_ rfl ?_
  · exact res_t rfl (by kernel_rfl) _
  · exact ⟨rfl, hp2.bel⟩
set_option maxHeartbeats 4000000 in
theorem fp2May0 {G : World → Prop} (K : FpK G) (f g : Nat → Int) (w : World) (hg : G w) (rf : Rg f 6) (lf : ¬ val f 6 < RI) : Calls Tryd.prog 42 #[QV2 f g] w (Ret (.bool false) w) := by
  have hp0 := Heap.start w
  go_enter Tryd.func42, Tryd.ntmps42
  refine wp_seq_k (fun K1 k1 => ?_)
  refine gs [.alloc (QC2 f g), .det (.bool false)] [0, 1] [0, 0] (fun L => [QV2 f g, pt (L.b 0) 0, .bool false] ++ U 8) (fun L => [(L.b 0, QC2 f g)]) hp0 ⟨
    oB, oA,
    trivial⟩ (fun L0 w1 hp1 => ?_)
  refine k1 _ _ ?_
  refine wp_seq_k (fun K2 k2 => ?_)
  refine gs [.det (pt (L0.b 0) 0), .det (QV f), .det (.bool false), .det (.bool false), .det undef, .det undef, .det undef, .det (.bool false), .det (.bool false)] [0, 1, 2, 3, 4, 5, 6, 7, 8] [0, 1, 3, 7, 15, 31, 63, 127, 255] (fun L => [QV2 f g, pt (L0.b 0) 0, .bool false, pt (L0.b 0) 0, QV f, .bool false, .bool false, undef, undef, undef, .bool false]) (fun L => [((L0.b 0), QC2 f g)]) hp1 ⟨
    oI aP, oL 0 0 rF, oH (v := .bool false) (vs := #[QV f]) (fun w hb _ => by have h := K.may f w (K.stay hg hb) rf; rw [decide_eq_false lf] at h; exact h), oM,
    oS, oS, oS, oP, oA,
    trivial⟩ (fun L1 w2 hp2 => ?_)
  refine k2 _ _ ?_
  refine wp_ret ?_
  refine bodyPost_ret (v := .bool false) ?_ rfl ?_
  · exact res_t rfl (by kernel_rfl) _
  · exact ⟨rfl, hp2.bel⟩
set_option maxHeartbeats 4000000 in
theorem fp2May1 {G : World → Prop} (K : FpK G) (f g : Nat → Int) (w : World) (hg : G w) (rf : Rg f 6) (rg : Rg g 6) (lf : val f 6 < RI) (lg : ¬ val g 6 < RI) : Calls Tryd.prog 42 #[QV2 f g] w (Ret (.bool false) w) := by
  have hp0 := Heap.start w
  go_enter Tryd.func42, Tryd.ntmps42
  refine wp_seq_k (fun K1 k1 => ?_)
  refine gs [.alloc (QC2 f g), .det (.bool false)] [0, 1] [0, 0] (fun L => [QV2 f g, pt (L.b 0) 0, .bool false] ++ U 8) (fun L => [(L.b 0, QC2 f g)]) hp0 ⟨
    oB, oA,
    trivial⟩ (fun L0 w1 hp1 => ?_)
  refine k1 _ _ ?_
  refine wp_seq_k (fun K2 k2 => ?_)
  refine gs [.det (pt (L0.b 0) 0), .det (QV f), .det (.bool true), .det (.bool true), .det (pt (L0.b 0) 6), .det (QV g), .det (.bool false), .det (.bool false), .det (.bool false)] [0, 1, 2, 3, 4, 5, 6, 7, 8] [0, 1, 3, 7, 15, 31, 63, 127, 255] (fun L => [QV2 f g, pt (L0.b 0) 0, .bool false, pt (L0.b 0) 0, QV f, .bool true, .bool true, pt (L0.b 0) 6, QV g, .bool false, .bool false]) (fun L => [((L0.b 0), QC2 f g)]) hp1 ⟨
    oI aP, oL 0 0 rF, oH (v := .bool true) (vs := #[QV f]) (fun w hb _ => by have h := K.may f w (K.stay hg hb) rf; rw [decide_eq_true lf] at h; exact h), oM, oI aP,
    oL 0 6 rF, oH (v := .bool false) (vs := #[QV g]) (fun w hb _ => by have h := K.may g w (K.stay hg hb) rg; rw [decide_eq_false lg] at h; exact h), oP, oA,
    trivial⟩ (fun L1 w2 hp2 => ?_)
  refine k2 _ _ ?_
  refine wp_ret ?_
  refine bodyPost_ret (v := .bool false) ?_ rfl ?_
  · exact res_t rfl (by kernel_rfl) _
  · exact ⟨rfl, hp2.bel⟩
end Go.Proofs.YthehnlpgmkjefaaDoor.fpn

/- Package fp2: roots. -/
namespace Go.Proofs.YthehnlpgmkjefaaDoor.fpn
open Go.RowKit Pl
set_option linter.unusedVariables false
set_option linter.unusedSimpArgs false
set_option maxRecDepth 4000

def hf : F := ⟨(RN + 1) / 2, by decide +kernel⟩
end Go.Proofs.YthehnlpgmkjefaaDoor.fpn
